import PyProof.Rows.All
import Wide.All
import OpenK.AllK
import Wide.FinOn
import Lean
import PyProof.EqAt
import PyProof.EqKinds
import PyProof.TupleCall
import PyProof.NeKinds
import PyProof.ZipIter
import KE.KSortTup
import KE.KLam
import KE.KSortKey
import PySem.Challenge.RW_riftcarry_k25_all_ways
set_option Elab.async false
set_option linter.all false
set_option maxRecDepth 100000
/-! THE HAND LAYER, for ints, bools, texts, own classes, LISTS and tuples (index, slices, in, append, pop ..), calls, loops. Paste it whole ahead of your own text; what your proof does not reach may be deleted. -/
namespace L2
open PySem PySem.Spec PyProof.Rows

/-- a key: an int or a str -/
abbrev Key := Sum Int Str
def keyIs : Key → Value → Bool
  | .inl k, v => Value.isInt k v
  | .inr x, v => Value.isStrOf x v
def keyH (w : World) : Key → Int
  | .inl k => hashInt k
  | .inr x => hashStr w x
theorem keyIs_shape : ∀ {k : Key} {v : Value}, keyIs k v = true → (∃ i t, k = Sum.inl i ∧ v = Value.int i t) ∨ (∃ x t, k = Sum.inr x ∧ v = Value.str x t)
  | .inl i, v, h => by
    obtain ⟨t, e⟩ := Value.isInt_shape (k := i) (v := v) h
    exact .inl ⟨i, t, rfl, e⟩
  | .inr x, v, h => by
    obtain ⟨t, e⟩ := Value.isStrOf_shape (x := x) (v := v) h
    exact .inr ⟨x, t, rfl, e⟩
theorem key_ll (a b : Int) : decide ((Sum.inl a : Key) = Sum.inl b) = (a == b) := by
  by_cases e : a = b
  · subst e; simp
  · have h : ¬ (Sum.inl a : Key) = Sum.inl b := fun q => e (Sum.inl.inj q)
    rw [decide_eq_false h]
    exact (beq_eq_false_iff_ne.mpr e).symm
theorem key_rr (a b : Str) : decide ((Sum.inr a : Key) = Sum.inr b) = decide (a = b) := by
  by_cases e : a = b
  · subst e; simp
  · have h : ¬ (Sum.inr a : Key) = Sum.inr b := fun q => e (Sum.inr.inj q)
    rw [decide_eq_false h, decide_eq_false e]
theorem key_lr (a : Int) (b : Str) : decide ((Sum.inl a : Key) = Sum.inr b) = false := decide_eq_false (fun q => nomatch q)
theorem key_rl (a : Str) (b : Int) : decide ((Sum.inr a : Key) = Sum.inl b) = false := decide_eq_false (fun q => nomatch q)

def mixKind (prog : Program) (w : World) : PySem.KeyKind prog w Key where
  is := keyIs
  hash := keyH w
  inj := fun v a b ha hb => by
    rcases keyIs_shape ha with ⟨i, t, rfl, rfl⟩ | ⟨x, t, rfl, rfl⟩
    · rcases keyIs_shape hb with ⟨j, u, rfl, e⟩ | ⟨y, u, rfl, e⟩
      · injection e with e1 _; rw [e1]
      · exact nomatch e
    · rcases keyIs_shape hb with ⟨j, u, rfl, e⟩ | ⟨y, u, rfl, e⟩
      · exact nomatch e
      · injection e with e1 _; rw [e1]
  byValue := fun k v h => by
    rcases keyIs_shape h with ⟨i, t, rfl, rfl⟩ | ⟨x, t, rfl, rfl⟩ <;> rfl
  pyHash := fun hv h => by
    rcases keyIs_shape hv with ⟨i, t, rfl, rfl⟩ | ⟨x, t, rfl, rfl⟩
    · exact wpAny_pyHash_int h
    · exact wpAny_pyHash_str h
  eqBool := fun hu hv h => by
    rcases keyIs_shape hu with ⟨i, t, rfl, rfl⟩ | ⟨x, t, rfl, rfl⟩
    · rcases keyIs_shape hv with ⟨j, u, rfl, rfl⟩ | ⟨y, u, rfl, rfl⟩
      · rw [key_ll] at h; exact wpAny_eqBool_int h
      · rw [key_lr] at h; exact SeqAt.EqAt.int_str i t y u _ _ _ _ h
    · rcases keyIs_shape hv with ⟨j, u, rfl, rfl⟩ | ⟨y, u, rfl, rfl⟩
      · rw [key_rl] at h; exact SeqAt.EqAt.str_int x t j u _ _ _ _ h
      · rw [key_rr] at h; exact wpAny_eqBool_str h
  «strs» := fun k x t v h => by
    rcases keyIs_shape h with ⟨i, u, rfl, e⟩ | ⟨y, u, rfl, e⟩
    · exact nomatch e
    · injection e with e1 _
      subst e1
      cases v <;> rfl

end L2

namespace L2
open PySem PySem.Spec PyProof.Rows

/-- a value, without the heap -/
inductive V where
  | non | bl (b : Bool) | int (i : Int) | str (x : Str) | byt (b : Array UInt8) | flt (b : UInt64) | ref (a : Addr) | ty (n : String)
  deriving DecidableEq

def RelV : V → Value → Prop
  | .non, u => u = Value.none
  | .bl b, u => u = Value.bool b
  | .int i, u => ∃ t, u = Value.int i t
  | .str x, u => ∃ t, u = Value.str x t
  | .byt b, u => ∃ t, u = Value.bytes b t
  | .flt b, u => ∃ t, u = Value.float b t
  | .ref a, u => u = Value.ref a
  | .ty n, u => u = Value.type n

abbrev Vals : List V → List Value → Prop := Paired RelV
theorem Vals.length {xs : List V} {us : List Value} (r : Vals xs us) : xs.length = us.length := Paired.length r
theorem Vals.get : ∀ {xs : List V} {us : List Value} {i : Nat} {x : V}, Vals xs us → xs[i]? = some x → ∃ u, us[i]? = some u ∧ RelV x u
  | _, _, _, _, .nil, e => by simp at e
  | _, _, 0, _, .cons r _, e => by simp at e; subst e; exact ⟨_, rfl, r⟩
  | _, _, i + 1, x, .cons _ t, e => by
    obtain ⟨u, h1, h2⟩ := Vals.get (i := i) (x := x) t (by simpa using e)
    exact ⟨u, by simpa using h1, h2⟩
theorem Vals.set {x : V} {u : Value} (r : RelV x u) : ∀ {xs : List V} {us : List Value} (i : Nat), Vals xs us → Vals (xs.set i x) (us.set i u)
  | _, _, _, .nil => .nil
  | _, _, 0, .cons _ t => .cons r t
  | _, _, i + 1, .cons q t => .cons q (Vals.set r i t)
theorem Vals.append : ∀ {xs ys : List V} {us ws : List Value}, Vals xs us → Vals ys ws → Vals (xs ++ ys) (us ++ ws)
  | _, _, _, _, .nil, s => s
  | _, _, _, _, .cons r t, s => .cons r (Vals.append t s)
theorem Vals.take : ∀ {xs : List V} {us : List Value} (n : Nat), Vals xs us → Vals (xs.take n) (us.take n)
  | _, _, 0, _ => .nil
  | _, _, _ + 1, .nil => .nil
  | _, _, n + 1, .cons r t => .cons r (Vals.take n t)
theorem Vals.drop : ∀ {xs : List V} {us : List Value} (n : Nat), Vals xs us → Vals (xs.drop n) (us.drop n)
  | _, _, 0, r => r
  | _, _, _ + 1, .nil => .nil
  | _, _, n + 1, .cons _ t => Vals.drop n t
def RelO : Option V → Option Value → Prop
  | some v, some u => RelV v u
  | none, none => True
  | _, _ => False
def KV {κ : Type} : List (κ × V) → List (κ × Value) → Prop := Paired fun (p : κ × V) (q : κ × Value) => p.1 = q.1 ∧ RelV p.2 q.2

/-- a key of a dict (00_mix): an int or a text -/
def kV : Key → V
  | .inl i => .int i
  | .inr x => .str x

/-- what stands at a tracked address -/
inductive HO where
  /-- a list -/
  | lst (xs : List V)
  /-- a tuple (never changes) -/
  | tup (xs : List V)
  /-- a dict whose keys are ints and texts; one whose keys are tuples of ints and texts (the empty one is both) -/
  | dK (kvs : List (Key × V)) | dT (kvs : List (List Key × V))
  /-- a set of ints: its members, its size -/
  | set (S : Int → Bool) (n : Nat)
  /-- an instance of the class at C, its dict at dx, its attributes -/
  | ins (C dx : Addr) (fs : List (Str × V))
  /-- the dict of the instance at x -/
  | own (x : Addr)
  /-- the dict of an exception -/
  | xd (fs : List (Str × V))
  /-- a bound method, f of x -/
  | met (f x : Addr)
  /-- a range object lo, lo + 1, .. below hi -/
  | rng (lo hi : Int)
  /-- a thing that is known to the object (the script; a dict while a loop walks it): read, never written while it is so -/
  | frz (o : Obj) (u : HO)
  /-- a code object's table -/
  | tbl (ps : Array Value)
  /-- any other thing, by what is true of its one object (a def of one's own: SetO a S n := HO.ext fun h => ..) -/
  | ext (φ : Heap → Prop)

abbrev Hp := Addr → Option HO
def upd (H : Hp) (a : Addr) (o : HO) : Hp := fun b => if b = a then some o else H b
theorem upd_same {H : Hp} {a : Addr} {o : HO} : upd H a o a = some o := by unfold upd; rw [if_pos rfl]
theorem upd_ne {H : Hp} {a b : Addr} {o : HO} (h : b ≠ a) : upd H a o b = H b := by unfold upd; rw [if_neg h]
theorem upd_upd {H : Hp} {a : Addr} {o u : HO} : upd (upd H a o) a u = upd H a u := by
  funext b; unfold upd; split <;> rfl
theorem ne_of_none {H : Hp} {a b : Addr} {o : HO} (h : H a = some o) (h' : H b = none) : a ≠ b := by
  intro e; subst e; rw [h] at h'; cases h'

section
variable (P : Program) (w : World)
def ObjOk (H : Hp) (h : Heap) (a : Addr) : HO → Prop
  | .lst xs => xs.length ≤ sizeLine ∧ ∃ (its : List Value) (n : Nat), Vals xs its ∧ h.get? a = some { cls := .type "list", data := .seq its.toArray n }
  | .tup xs => xs.length ≤ sizeLine ∧ ∃ its : List Value, Vals xs its ∧ IsTup h a its.toArray
  | .dK kvs => kvs.length ≤ sizeLine ∧ (a == sysModules) = false ∧ ∃ vs, KV kvs vs ∧ h.DictOf (mixKind P w) a vs
  | .dT kvs => kvs.length ≤ sizeLine ∧ (a == sysModules) = false ∧ ∃ xs : List (List Key × Addr × Value),
      Paired (fun (p : List Key × V) (q : List Key × Addr × Value) => p.1 = q.1 ∧ H q.2.1 = some (.tup (p.1.map kV)) ∧ RelV p.2 q.2.2) kvs xs ∧
      ∃ o es ep, h.get? a = some o ∧ o.ExactDict ∧ o.data = .dict es ep ∧ es.toList = xs.map (entryOfKey (tupleKind (mixKind P w))) ∧ (xs.map (·.1)).Nodup
  | .set S n => h.SetOf (intKind P w) a S n
  | .ins C dx fs => H dx = some (.own a) ∧ fs.length ≤ 1000 ∧ dx ≠ a ∧ h.get? a = some (PySem.W.instObj C dx) ∧
      ∃ mA, h.Ns1 dx mA ∧ (∀ f, RelO (fs.lookup f) (mA f)) ∧ PySem.Within mA (fs.map (·.1))
  | .own _ => ∃ o, h.get? a = some o
  | .xd fs => ∃ mA, h.Ns1 a mA ∧ ∀ f, RelO (fs.lookup f) (mA f)
  | .rng lo hi => ∃ t u v, h.get? a = some { cls := .type "range", data := .fields #[.int lo t, .int hi u, .int 1 v] }
  | .frz o u => h.get? a = some o ∧ ObjOk H h a u
  | .tbl ps => h.get? a = some { cls := .none, data := .fields ps }
  | .met f x => h.get? a = some (PySem.W.methodObj (.ref f) (.ref x))
  | .ext φ => φ h ∧ (∃ o, h.get? a = some o) ∧ ∀ h1 h2 : Heap, φ h1 → (∀ o, h1.get? a = some o → h2.get? a = some o) → φ h2
/-- the abstract heap is held -/
def HOk (H : Hp) (h : Heap) : Prop := ∀ a o, H a = some o → ObjOk P w H h a o
end

section
variable {P : Program} {w : World} {H H' : Hp} {h h' : Heap} {a : Addr} {o : HO}
theorem ObjOk.lt (x : ObjOk P w H h a o) : a < h.objs.size := by
  cases o with
  | lst xs => obtain ⟨_, _, _, _, e⟩ := x; exact Heap.lt_size e
  | tup xs => obtain ⟨_, _, _, p⟩ := x; exact p.lt
  | dK kvs => obtain ⟨_, _, _, _, o, _, _, e, _⟩ := x; exact Heap.lt_size e
  | dT kvs => obtain ⟨_, _, _, _, o, _, _, e, _⟩ := x; exact Heap.lt_size e
  | set S n => obtain ⟨o, _, _, _, e, _⟩ := x; exact Heap.lt_size e
  | ins C dx fs => obtain ⟨_, _, _, e, _⟩ := x; exact Heap.lt_size e
  | own y => obtain ⟨_, e⟩ := x; exact Heap.lt_size e
  | xd fs => obtain ⟨_, ⟨_, _, _, e, _⟩, _⟩ := x; exact Heap.lt_size e
  | rng lo hi => obtain ⟨_, _, _, e⟩ := x; exact Heap.lt_size e
  | frz ob u => obtain ⟨e, _⟩ := x; exact Heap.lt_size e
  | tbl ps => exact Heap.lt_size (show h.get? a = some _ from x)
  | met f y => exact Heap.lt_size (show h.get? a = some _ from x)
  | ext φ => obtain ⟨_, ⟨_, e⟩, _⟩ := x; exact Heap.lt_size e
theorem Paired.mapP {α β : Type} {F G : α → β → Prop} : ∀ {l₁ : List α} {l₂ : List β}, Paired F l₁ l₂ → (∀ a b, F a b → G a b) → Paired G l₁ l₂
  | _, _, .nil, _ => .nil
  | _, _, .cons r t, f => .cons (f _ _ r) (Paired.mapP t f)
/-- what an object's description leans on: its own object, its own dict, the tuples -/
theorem ObjOk.stay (x : ObjOk P w H h a o) (k : ∀ b u, (b = a ∨ H b = some (.own a)) → h.get? b = some u → h'.get? b = some u)
    (ho : ∀ b, H b = some (.own a) → H' b = some (.own a)) (ht : ∀ b xs, H b = some (.tup xs) → H' b = some (.tup xs)) : ObjOk P w H' h' a o := by
  induction o with
  | lst xs => obtain ⟨z, its, n, r, e⟩ := x; exact ⟨z, its, n, r, k _ _ (.inl rfl) e⟩
  | tup xs => obtain ⟨z, its, r, ob, e, c⟩ := x; exact ⟨z, its, r, ob, k _ _ (.inl rfl) e, c⟩
  | dK kvs => obtain ⟨z, y, vs, r, ob, es, ep, e, c⟩ := x; exact ⟨z, y, vs, r, ob, es, ep, k _ _ (.inl rfl) e, c⟩
  | dT kvs =>
    obtain ⟨z, y, xs, r, ob, es, ep, e, c⟩ := x
    exact ⟨z, y, xs, Paired.mapP r fun p q z => ⟨z.1, ht _ _ z.2.1, z.2.2⟩, ob, es, ep, k _ _ (.inl rfl) e, c⟩
  | set S n => obtain ⟨ob, es, ep, t, e, c⟩ := x; exact ⟨ob, es, ep, t, k _ _ (.inl rfl) e, c⟩
  | ins C dx fs =>
    obtain ⟨d, z, ne, e, mA, ⟨od, es, ep, e2, c⟩, r⟩ := x
    exact ⟨ho _ d, z, ne, k _ _ (.inl rfl) e, mA, ⟨od, es, ep, k _ _ (.inr d) e2, c⟩, r⟩
  | own y => obtain ⟨ob, e⟩ := x; exact ⟨ob, k _ _ (.inl rfl) e⟩
  | xd fs => obtain ⟨mA, ⟨od, es, ep, e, c⟩, r⟩ := x; exact ⟨mA, ⟨od, es, ep, k _ _ (.inl rfl) e, c⟩, r⟩
  | rng lo hi => obtain ⟨t, u, v, e⟩ := x; exact ⟨t, u, v, k _ _ (.inl rfl) e⟩
  | frz ob u ih => obtain ⟨e, q⟩ := x; exact ⟨k _ _ (.inl rfl) e, ih q⟩
  | tbl ps =>
    have e : h.get? a = some { cls := .none, data := .fields ps } := x
    show h'.get? a = some { cls := .none, data := .fields ps }
    exact k a _ (.inl rfl) e
  | met f y =>
    have e : h.get? a = some (PySem.W.methodObj (.ref f) (.ref y)) := x
    show h'.get? a = some (PySem.W.methodObj (.ref f) (.ref y))
    exact k a _ (.inl rfl) e
  | ext φ => obtain ⟨p, ⟨o, e⟩, st⟩ := x; exact ⟨st _ _ p fun o q => k _ _ (.inl rfl) q, ⟨o, k _ _ (.inl rfl) e⟩, st⟩
theorem HOk.lt (x : HOk P w H h) (e : H a = some o) : a < h.objs.size := (x a o e).lt
theorem HOk.fresh (x : HOk P w H h) (e : h.objs.size ≤ a) : H a = none := by
  cases q : H a with
  | none => rfl
  | some u => exact absurd (Nat.lt_of_lt_of_le (x.lt q) e) (Nat.lt_irrefl _)
/-- every object of the heap is kept -/
theorem HOk.kept (x : HOk P w H h) (k : ∀ b u, h.get? b = some u → h'.get? b = some u) : HOk P w H h' := fun a o e =>
  (x a o e).stay (fun b u _ q => k b u q) (fun _ q => q) fun _ _ q => q
/-- a new object is laid and tracked -/
theorem HOk.laid (x : HOk P w H h) (k : ∀ b u, h.get? b = some u → h'.get? b = some u) (hp : h.objs.size ≤ a) (new : ObjOk P w (upd H a o) h' a o) : HOk P w (upd H a o) h' := fun b u e => by
  have hn := x.fresh hp
  by_cases hb : b = a
  · subst hb; rw [upd_same] at e; cases e; exact new
  · rw [upd_ne hb] at e
    exact (x b u e).stay (fun c v _ q => k c v q) (fun c q => by rw [upd_ne (ne_of_none q hn)]; exact q) fun c xs q => by rw [upd_ne (ne_of_none q hn)]; exact q
end

/-- what may be read as u: it is u, or a known u -/
def Rd (H : Hp) (a : Addr) (u : HO) : Prop := H a = some u ∨ ∃ o, H a = some (.frz o u)
theorem Rd.ok {P : Program} {w : World} {H : Hp} {h : Heap} {a : Addr} {u : HO} (r : Rd H a u) (x : HOk P w H h) : ObjOk P w H h a u := by
  rcases r with r | ⟨o, r⟩
  · exact x a u r
  · obtain ⟨_, q⟩ := x a _ r
    exact q
/-- what may be written -/
def Mut : Option HO → Prop
  | some (.lst _) => True
  | some (.dK _) => True
  | some (.dT _) => True
  | some (.set _ _) => True
  | some (.ins _ _ _) => True
  | some (.ext _) => True
  | _ => False
section
variable {P : Program} {w : World} {H : Hp} {h h' : Heap} {x e : Addr} {o' : HO}
/-- the object at e is changed: x itself, or the dict of the instance x -/
theorem HOk.write (ok : HOk P w H h) (mu : Mut (H x)) (he : e = x ∨ H e = some (.own x)) (k : ∀ b u, b ≠ e → h.get? b = some u → h'.get? b = some u) (heo : ∃ u, h'.get? e = some u)
    (new : ObjOk P w (upd H x o') h' x o') : HOk P w (upd H x o') h' := fun b u q => by
  have nown : ∀ c y, H c = some (.own y) → c ≠ x := fun c y r z => by subst z; rw [r] at mu; exact mu
  have ntup : ∀ c xs, H c = some (.tup xs) → c ≠ x := fun c xs r z => by subst z; rw [r] at mu; exact mu
  by_cases hb : b = x
  · subst hb; rw [upd_same] at q; cases q; exact new
  · rw [upd_ne hb] at q
    by_cases hbe : b = e
    · have q' : H b = some (.own x) := by
        rcases he with z | z
        · exact absurd (hbe.trans z) hb
        · rw [hbe]; exact z
      rw [q] at q'; cases q'
      obtain ⟨v, hv⟩ := heo
      exact ⟨v, by rw [hbe]; exact hv⟩
    · refine (ok b u q).stay (fun c v hc r => k c v ?_ r) (fun c r => by rw [upd_ne (nown c b r)]; exact r) fun c xs r => by rw [upd_ne (ntup c xs r)]; exact r
      rcases hc with rfl | hc
      · exact hbe
      · rintro rfl
        rcases he with z | z
        · exact nown c b hc z
        · rw [hc] at z; cases z; exact hb rfl
end

/-! ### kept unless tracked; of the frames at fs (the callers') the slots may change (an exception that passes writes there); of the records at ex (iterators) nothing is said -/
structure Un (fs ex : List Addr) (H H' : Hp) (h h' : Heap) : Prop where
  keep : ∀ b o, h.get? b = some o → H b = none → b ∉ fs → b ∉ ex → h'.get? b = some o
  slot : ∀ b o, h.get? b = some o → H b = none → b ∈ fs → b ∉ ex → ∃ sl, h'.get? b = some { o with slots := sl }
  free : ∀ b o, h.get? b = some o → H b = none → b ∉ ex → H' b = none
  there : ∀ b o, h.get? b = some o → b ∉ ex → ∃ o', h'.get? b = some o'
  tups : ∀ b xs, H b = some (.tup xs) → H' b = some (.tup xs)
  frzs : ∀ b o u, H b = some (.frz o u) → H' b = some (.frz o u)
  tbls : ∀ b ps, H b = some (.tbl ps) → ∃ more, H' b = some (.tbl (ps ++ more))
section
variable {fs fs' ex ex' : List Addr} {H H1 H2 : Hp} {h h1 h2 h' : Heap} {a x e : Addr} {o : HO}
theorem Un.any (u : Un fs ex H H1 h h1) {b : Addr} {ob : Obj} (q : h.get? b = some ob) (n : H b = none) (hx : b ∉ ex) : ∃ sl, h1.get? b = some { ob with slots := sl } := by
  by_cases hb : b ∈ fs
  · exact u.slot b ob q n hb hx
  · exact ⟨ob.slots, u.keep b ob q n hb hx⟩
theorem Un.kept (k : ∀ b u, h.get? b = some u → h'.get? b = some u) : Un fs ex H H h h' :=
  ⟨fun b ob q _ _ _ => k b ob q, fun b ob q _ _ _ => ⟨ob.slots, k b ob q⟩, fun _ _ _ n _ => n, fun b ob q _ => ⟨ob, k b ob q⟩, fun _ _ q => q, fun _ _ _ q => q, fun _ ps q => ⟨#[], by rw [q]; simp⟩⟩
theorem Un.refl : Un fs ex H H h h := Un.kept fun _ _ q => q
theorem Un.laid (k : ∀ b u, h.get? b = some u → h'.get? b = some u) (hp : h.objs.size ≤ a) (hn : H a = none) : Un fs ex H (upd H a o) h h' where
  keep := fun b u q _ _ _ => k b u q
  slot := fun b u q _ _ _ => ⟨u.slots, k b u q⟩
  free := fun b u q n _ => by rw [upd_ne (Nat.ne_of_lt (Nat.lt_of_lt_of_le (Heap.lt_size q) hp))]; exact n
  there := fun b u q _ => ⟨u, k b u q⟩
  tups := fun b xs q => by rw [upd_ne (ne_of_none q hn)]; exact q
  frzs := fun b u xs q => by rw [upd_ne (ne_of_none q hn)]; exact q
  tbls := fun b ps q => ⟨#[], by rw [upd_ne (ne_of_none q hn), q]; simp⟩
theorem Un.write (mu : Mut (H x)) (he : e = x ∨ H e = some (.own x)) (k : ∀ b u, b ≠ e → h.get? b = some u → h'.get? b = some u) (heo : ∃ u, h'.get? e = some u) : Un fs ex H (upd H x o) h h' := by
  have hx : ∀ b, H b = none → b ≠ x := fun b n z => by subst z; rw [n] at mu; exact mu
  have hb : ∀ b, H b = none → b ≠ e := fun b n z => by
    subst z
    rcases he with r | r
    · exact hx b n r
    · rw [n] at r; cases r
  have hm : ∀ b u, H b = some u → ¬ Mut (some u) → b ≠ x := fun b u q nm z => by subst z; rw [q] at mu; exact nm mu
  refine ⟨fun b u q n _ _ => k b u (hb b n) q, fun b u q n _ _ => ⟨u.slots, k b u (hb b n) q⟩, fun b u q n _ => by rw [upd_ne (hx b n)]; exact n, fun b u q _ => ?_,
    fun b xs q => by rw [upd_ne (hm b _ q fun z => z)]; exact q, fun b u xs q => by rw [upd_ne (hm b _ q fun z => z)]; exact q, fun b ps q => ⟨#[], by rw [upd_ne (hm b _ q fun z => z), q]; simp⟩⟩
  by_cases hbe : b = e
  · subst hbe; exact heo
  · exact ⟨u, k b u hbe q⟩
end

/-! ### the heap without what is tracked -/
def trk (h : Heap) (H : Hp) : List Addr := (List.range h.objs.size).filter fun a => (H a).isSome
def hidT (h : Heap) (H : Hp) : Heap := PySem.W.hideAll h (trk h H)
theorem hidT_size (h : Heap) (H : Hp) : (hidT h H).objs.size = h.objs.size := PySem.W.hideAll_size _ _
theorem hidT_get {h : Heap} {H : Hp} {b : Addr} {o : Obj} (e : h.get? b = some o) (n : H b = none) : (hidT h H).get? b = some o :=
  PySem.W.hideAll_get _ e fun hm => by
    have q : (H b).isSome = true := (List.mem_filter.mp hm).2
    rw [n] at q; simp at q
theorem of_hidT {h : Heap} {H : Hp} {b : Addr} {o : Obj} (e : (hidT h H).get? b = some o) : h.get? b = some o ∧ H b = none := by
  have e' : h.get? b = some o := PySem.W.of_hideAll (trk h H) e
  refine ⟨e', ?_⟩
  cases q : H b with
  | none => rfl
  | some x =>
    have hm : b ∈ trk h H := List.mem_filter.mpr ⟨List.mem_range.mpr (Heap.lt_size e'), by simp [q]⟩
    have z : (hidT h H).get? b = none := PySem.W.hideAll_none (trk h H) hm
    rw [z] at e; cases e

/-! ### OpenK's ledger, filled with every new object but one -/
def allNews (g h : Heap) (L : Addr) : List (Addr × Obj) := (List.range h.objs.size).filterMap fun a => if a = L ∨ (g.get? a).isSome = true then none else (h.get? a).map fun o => (a, o)
def rest (g h : Heap) (L d : Addr) : List (Addr × Obj) := (allNews g h L).filter fun p => decide (p.1 ≠ d)
end L2

namespace L2
open PySem PySem.Spec PyProof.Rows

/-- the module's facts, over the base: the heap at the law's entry without what is tracked there -/
structure Mod (K : PySem.W.Frag) (mg : Str → Option Value) (base : Heap) : Prop where
  kin : K.In base
  glob : base.Ns mainGlobals mg
  blt : ∃ mb, base.Ns builtinsNs mb ∧ ∀ x : Str, x ≠ "__name__" → mb x = bootBuiltins x
  nolimit : base.NoLimit

/-- the context: a def's body (or a comprehension's block) running. base: fixed through the whole law; s₀, H₀: the entry; outer: the frames whose slots others may change (a def's callers); stack: all frames that run;
   ex: iterators that were made ahead of the entry and are walked here (a comprehension's); fn: the names whose cells were made at the entry (a def: all; a comprehension's block: its own); calm: not within an except suite; pn: pins that every state bears; xe: what is wanted of an exception that leaves the code -/
structure Cx where
  prog : Program
  w : World
  K : PySem.W.Frag
  mg : Str → Option Value
  base : Heap
  A : Around
  N : List Str
  s₀ : Shared
  H₀ : Hp
  env : Env
  outer : List Env
  stack : List Env
  ex : List Addr
  fn : Str → Bool
  calm : Bool
  pn : List (Addr × Obj)
  xe : Value → Shared → Prop
/-- the callers' frames -/
def frs (l : List Env) : List Addr := l.filterMap (·.frame)
abbrev Cx.fs (X : Cx) : List Addr := frs X.outer

def Vis (sc : Scope) (x : Str) : Prop := sc.names.lookup x = some .local ∨ sc.names.lookup x = some .cell ∨ sc.names.lookup x = some .free
def Loc (sc : Scope) (x : Str) : Prop := sc.names.lookup x = some .local ∨ sc.names.lookup x = some .cell
def Look (env : Env) (h : Heap) (m : Str → Option Value) (x : Str) (u : Value) : Prop :=
  (env.kindOf x = some .local ∧ m x = some u) ∨ ((env.kindOf x = some .cell ∨ env.kindOf x = some .free) ∧ ∃ c, env.cells.lookup x = some c ∧ h.IsCell c (some u))

structure Cx.Ok (X : Cx) : Prop where
  mod : Mod X.K X.mg X.base
  kind : X.env.scope.kind = .function
  glob : X.env.globals = mainGlobals
  blt : X.env.builtins = builtinsNs
  above : X.s₀.heap.objs.size ≤ X.env.locals
  inj : ∀ x y c, X.env.cells.lookup x = some c → X.env.cells.lookup y = some c → x = y
  has : ∀ x, (X.env.kindOf x = some .cell ∨ X.env.kindOf x = some .free) → ∃ c, X.env.cells.lookup x = some c
  cab : ∀ x c, X.fn x = true → X.env.cells.lookup x = some c → X.s₀.heap.objs.size ≤ c
  hd : X.calm = true → X.A.handled = none
  frames : X.A.frames = some X.stack
  stk : X.stack = X.outer ∨ (X.stack = X.env :: X.outer ∧ X.env.frame = some X.env.locals)
  exf : ∀ b ∈ X.ex, b ≠ X.env.locals ∧ ∀ x c, X.env.cells.lookup x = some c → c ≠ b
  bs : ∀ b o, X.base.get? b = some o → X.s₀.heap.get? b = some o ∧ X.H₀ b = none
  bsz : X.base.objs.size ≤ X.s₀.heap.objs.size
  noex : ∀ b o, X.base.get? b = some o → b ∉ X.ex
  exfs : ∀ b ∈ X.ex, b ∉ X.fs
  funs : X.s₀.heap.FunFrames X.base X.outer
  frf : ∀ b ∈ X.fs, X.H₀ b = none

structure Inv (X : Cx) (pins : List (Addr × Obj)) (σ : List (Option V)) (H : Hp) (s : Shared) : Prop where
  ok : X.Ok
  os : s.os = X.s₀.os
  bare : AllBare s.gens
  base : Un X.fs X.ex X.H₀ H X.s₀.heap s.heap
  loc : ∃ m, s.heap.Ns X.env.locals m ∧ ∀ (i : Nat) (x : Str) (v : V), X.N[i]? = some x → σ[i]? = some (some v) → Vis X.env.scope x → ∃ u, RelV v u ∧ Look X.env s.heap m x u
  cell : ∀ x c, X.env.cells.lookup x = some c → ∃ v, s.heap.IsCell c v
  free : H X.env.locals = none
  freeC : ∀ x c, X.env.cells.lookup x = some c → H c = none
  pin : ∀ p ∈ X.pn ++ pins, s.heap.get? p.1 = some p.2 ∧ H p.1 = none ∧ p.1 ≠ X.env.locals ∧ p.1 ∉ X.fs ∧ ∀ v, p.2.data ≠ .cell v
  hok : HOk X.prog X.w H s.heap
  len : σ.length = X.N.length

section
variable {X : Cx} {pins : List (Addr × Obj)} {σ : List (Option V)} {H H' : Hp} {s : Shared} {h' : Heap}

theorem Cx.Ok.nofr (ok : X.Ok) {b : Addr} {o : Obj} (e : X.base.get? b = some o) : b ∉ X.fs := fun hb => by
  have := (ok.funs.mem hb).1
  rw [e] at this; cases this
theorem Inv.bs (I : Inv X pins σ H s) : ∀ b o, X.base.get? b = some o → s.heap.get? b = some o ∧ H b = none := fun b o e =>
  ⟨I.base.keep b o (I.ok.bs b o e).1 (I.ok.bs b o e).2 (I.ok.nofr e) (I.ok.noex b o e), I.base.free b o (I.ok.bs b o e).1 (I.ok.bs b o e).2 (I.ok.noex b o e)⟩
theorem Inv.bk (I : Inv X pins σ H s) : ∀ b o, X.base.get? b = some o → s.heap.get? b = some o := fun b o e => (I.bs b o e).1
theorem Inv.mod (I : Inv X pins σ H s) : Mod X.K X.mg X.base := I.ok.mod
theorem Inv.kIn (I : Inv X pins σ H s) : X.K.In s.heap := I.ok.mod.kin.keeps I.bk
theorem Inv.nolimit (I : Inv X pins σ H s) : s.heap.NoLimit := I.ok.mod.nolimit.keeps I.bk
theorem Inv.lt (I : Inv X pins σ H s) : X.env.locals < s.heap.objs.size := let ⟨_, hn, _⟩ := I.loc; hn.lt
theorem Inv.sz (I : Inv X pins σ H s) : X.s₀.heap.objs.size ≤ s.heap.objs.size := Nat.le_trans I.ok.above (Nat.le_of_lt I.lt)
theorem Inv.nofs (I : Inv X pins σ H s) {a : Addr} (h : s.heap.objs.size ≤ a) : a ∉ X.fs := fun hb => by
  obtain ⟨_, o, ho, _⟩ := I.ok.funs.mem hb
  exact absurd (Nat.lt_of_lt_of_le (Heap.lt_size ho) (Nat.le_trans I.sz h)) (Nat.lt_irrefl _)
theorem Inv.cne (I : Inv X pins σ H s) : ∀ x c, X.env.cells.lookup x = some c → c ≠ X.env.locals := fun x c e z => by
  obtain ⟨v, o, ho, hd⟩ := I.cell x c e
  obtain ⟨m, ⟨o', es, ep, ho', hd', _⟩, _⟩ := I.loc
  rw [z, ho'] at ho; cases ho; rw [hd'] at hd; cases hd
theorem Inv.funs (I : Inv X pins σ H s) : s.heap.FunFrames X.base X.outer := by
  have all : ∀ (l : List Env), (∀ b ∈ frs l, b ∈ X.fs) → X.s₀.heap.FunFrames X.base l → s.heap.FunFrames X.base l := by
    intro l
    induction l with
    | nil => intro _ _; trivial
    | cons env r ih =>
      intro hs hl
      obtain ⟨hk, ⟨L, o, hf, hn, ho, hd⟩, hr⟩ := hl
      have hL : L ∈ X.fs := hs L (by unfold frs; rw [List.filterMap_cons, hf]; exact List.mem_cons_self)
      obtain ⟨sl, e⟩ := I.base.slot L o ho (I.ok.frf L hL) hL fun z => I.ok.exfs L z hL
      exact ⟨hk, ⟨L, _, hf, hn, e, hd⟩, ih (fun b hb => hs b (by unfold frs; rw [List.filterMap_cons, hf]; exact List.mem_cons_of_mem _ hb)) hr⟩
  exact all X.outer (fun _ hb => hb) I.ok.funs

/-- the frames that run, for a call -/
theorem Inv.stack (I : Inv X pins σ H s) : s.heap.FunFrames X.base X.stack := by
  rcases I.ok.stk with e | ⟨e, hf⟩
  · rw [e]; exact I.funs
  · rw [e]
    obtain ⟨m, hn, _⟩ := I.loc
    refine .cons (by rw [I.ok.kind]; decide) hf hn ?_ I.funs
    exact Heap.get?_none_of_le (Nat.le_trans I.ok.bsz I.ok.above)
theorem Inv.stkSub (I : Inv X pins σ H s) : ∀ b ∈ frs X.stack, b ∈ X.env.locals :: X.fs := fun b hb => by
  rcases I.ok.stk with e | ⟨e, hf⟩
  · rw [e] at hb; exact List.mem_cons_of_mem _ hb
  · rw [e] at hb
    unfold frs at hb
    rw [List.filterMap_cons, hf] at hb
    exact hb
theorem Inv.stkFree (I : Inv X pins σ H s) : ∀ b ∈ frs X.stack, H b = none := fun b hb => by
  rcases List.mem_cons.mp (I.stkSub b hb) with e | hb
  · rw [e]; exact I.free
  · obtain ⟨_, o, ho, _⟩ := I.ok.funs.mem hb
    exact I.base.free b o ho (I.ok.frf b hb) fun z => I.ok.exfs b z hb

/-- THE STEP: the untracked objects but the frame and the records at ch are kept (the callers' frames up to slots), the frame's map is kept, the new abstract heap is held -/
theorem Inv.step {g' : Array GenState} {t' : Nat} {d' : Drawn} {ch : List Addr} (I : Inv X pins σ H s)
    (hch : ∀ b ∈ ch, (b ∈ X.ex ∨ X.s₀.heap.objs.size ≤ b) ∧ b ≠ X.env.locals ∧ (∀ x c, X.env.cells.lookup x = some c → c ≠ b) ∧ ∀ p ∈ X.pn ++ pins, p.1 ≠ b)
    (keep : ∀ b o, b ≠ X.env.locals → b ∉ X.fs → b ∉ ch → s.heap.get? b = some o → H b = none → h'.get? b = some o)
    (slot : ∀ b o, b ≠ X.env.locals → b ∈ X.fs → b ∉ ch → s.heap.get? b = some o → H b = none → ∃ sl, h'.get? b = some { o with slots := sl }) (free : ∀ b o, b ∉ ch → s.heap.get? b = some o → H b = none → H' b = none)
    (there : ∀ b o, b ∉ ch → s.heap.get? b = some o → ∃ o', h'.get? b = some o')
    (tups : ∀ b xs, H b = some (.tup xs) → H' b = some (.tup xs)) (frzs : ∀ b o u, H b = some (.frz o u) → H' b = some (.frz o u)) (tbls : ∀ b ps, H b = some (.tbl ps) → ∃ more, H' b = some (.tbl (ps ++ more)))
    (ns : ∀ m, s.heap.Ns X.env.locals m → h'.Ns X.env.locals m) (hok : HOk X.prog X.w H' h') (hg : AllBare g') :
    Inv X pins σ H' { s with heap := h', gens := g', drawn := d', toks := t' } := by
  have neL : ∀ b o, X.s₀.heap.get? b = some o → b ≠ X.env.locals := fun b o e => Nat.ne_of_lt (Nat.lt_of_lt_of_le (Heap.lt_size e) I.ok.above)
  have neC : ∀ b o, X.s₀.heap.get? b = some o → b ∉ X.ex → b ∉ ch := fun b o e hx hb => by
    rcases (hch b hb).1 with z | z
    · exact hx z
    · exact absurd (Nat.lt_of_lt_of_le (Heap.lt_size e) z) (Nat.lt_irrefl _)
  have cellK : ∀ x c, X.env.cells.lookup x = some c → ∀ v, s.heap.IsCell c v → h'.IsCell c v := fun x c e v ⟨o, ho, hd⟩ => by
    have nch : c ∉ ch := fun z => (hch c z).2.2.1 x c e rfl
    by_cases hc : c ∈ X.fs
    · obtain ⟨sl, q⟩ := slot c o (I.cne x c e) hc nch ho (I.freeC x c e)
      exact ⟨_, q, hd⟩
    · exact ⟨o, keep c o (I.cne x c e) hc nch ho (I.freeC x c e), hd⟩
  refine ⟨I.ok, I.os, hg, ⟨fun b o e n hb hx => ?_, fun b o e n hb hx => ?_, fun b o e n hx => ?_, fun b o e hx => ?_, fun b xs e => tups b xs (I.base.tups b xs e), fun b o xs e => frzs b o xs (I.base.frzs b o xs e), fun b ps e => ?_⟩, ?_, fun x c e => ?_, ?_, fun x c e => ?_, fun p hp => ?_, hok, I.len⟩
  · exact keep b o (neL b o e) hb (neC b o e hx) (I.base.keep b o e n hb hx) (I.base.free b o e n hx)
  · obtain ⟨sl, e1⟩ := I.base.slot b o e n hb hx
    obtain ⟨sl', e2⟩ := slot b _ (neL b o e) hb (neC b o e hx) e1 (I.base.free b o e n hx)
    exact ⟨sl', e2⟩
  · obtain ⟨o', e1⟩ := I.base.there b o e hx
    exact free b o' (neC b o e hx) e1 (I.base.free b o e n hx)
  · obtain ⟨o', e1⟩ := I.base.there b o e hx
    exact there b o' (neC b o e hx) e1
  · obtain ⟨m1, e1⟩ := I.base.tbls b ps e
    obtain ⟨m2, e2⟩ := tbls b _ e1
    exact ⟨m1 ++ m2, by rw [e2, Array.append_assoc]⟩
  · obtain ⟨m, hn, hl⟩ := I.loc
    refine ⟨m, ns m hn, fun i x v e1 e2 e3 => ?_⟩
    obtain ⟨u, r, l⟩ := hl i x v e1 e2 e3
    refine ⟨u, r, ?_⟩
    rcases l with l | ⟨k, c, e, z⟩
    · exact .inl l
    · exact .inr ⟨k, c, e, cellK x c e _ z⟩
  · obtain ⟨v, z⟩ := I.cell x c e
    exact ⟨v, cellK x c e v z⟩
  · obtain ⟨m, ⟨o, _, _, ho, _⟩, _⟩ := I.loc
    exact free _ o (fun z => (hch _ z).2.1 rfl) ho I.free
  · obtain ⟨v, o, ho, hd⟩ := I.cell x c e
    exact free c o (fun z => (hch c z).2.2.1 x c e rfl) ho (I.freeC x c e)
  · obtain ⟨e, n, ne, nf, d⟩ := I.pin p hp
    have nch : p.1 ∉ ch := fun z => (hch p.1 z).2.2.2 p hp rfl
    exact ⟨keep p.1 p.2 ne nf nch e n, free p.1 p.2 nch e n, ne, nf, d⟩
/-- .. where the frame's own object is kept too -/
theorem Inv.un {t' : Nat} (I : Inv X pins σ H s) (u : Un X.fs [] H H' s.heap h') (hok : HOk X.prog X.w H' h') : Inv X pins σ H' { s with heap := h', toks := t' } := by
  obtain ⟨m, ⟨o, es, ep, ho, r⟩, _⟩ := id I.loc
  obtain ⟨sl, hL⟩ := u.any ho I.free (by simp)
  exact I.step (g' := s.gens) (d' := s.drawn) (ch := []) (fun _ z => nomatch z) (fun b o _ hb _ e n => u.keep b o e n hb (by simp)) (fun b o _ hb _ e n => u.slot b o e n hb (by simp)) (fun b o _ e n => u.free b o e n (by simp)) (fun b o _ e => u.there b o e (by simp)) u.tups u.frzs u.tbls (fun m' hm => by
    obtain ⟨o', es', ep', ho', r'⟩ := hm
    rw [ho] at ho'; cases ho'
    exact ⟨_, es', ep', hL, r'⟩) hok I.bare
/-- behind a call (or a comprehension's block): the slots of this frame may have changed too, the records at ch may have turned -/
theorem Inv.call {g' : Array GenState} {t' : Nat} {d' : Drawn} {ch : List Addr} (I : Inv X pins σ H s) (u : Un (frs X.stack) ch H H' s.heap h') (hok : HOk X.prog X.w H' h') (hg : AllBare g')
    (hch : ∀ b ∈ ch, (b ∈ X.ex ∨ X.s₀.heap.objs.size ≤ b) ∧ b ≠ X.env.locals ∧ (∀ x c, X.env.cells.lookup x = some c → c ≠ b) ∧ ∀ p ∈ X.pn ++ pins, p.1 ≠ b) :
    Inv X pins σ H' { s with heap := h', gens := g', drawn := d', toks := t' } := by
  obtain ⟨m, ⟨o, es, ep, ho, r⟩, _⟩ := id I.loc
  obtain ⟨sl, hL⟩ := u.any ho I.free fun z => (hch _ z).2.1 rfl
  exact I.step (ch := ch) hch (fun b o hL hb hc e n => u.keep b o e n (fun z => (List.mem_cons.mp (I.stkSub b z)).elim hL hb) hc) (fun b o _ _ hc e n => u.any e n hc) (fun b o hc e n => u.free b o e n hc) (fun b o hc e => u.there b o e hc) u.tups u.frzs u.tbls (fun m' hm => by
    obtain ⟨o', es', ep', ho', r'⟩ := hm
    rw [ho] at ho'; cases ho'
    exact ⟨_, es', ep', hL, r'⟩) hok hg
/-- an untracked record of ours (an iterator) has turned -/
theorem Inv.turned {t' : Nat} {it : Addr} (I : Inv X pins σ H s) (k : ∀ b o, b ≠ it → s.heap.get? b = some o → h'.get? b = some o) (hn : H it = none) (hL : it ≠ X.env.locals)
    (h1 : it ∈ X.ex ∨ X.s₀.heap.objs.size ≤ it) (h2 : ∀ x c, X.env.cells.lookup x = some c → c ≠ it) (h3 : ∀ p ∈ X.pn ++ pins, p.1 ≠ it) : Inv X pins σ H { s with heap := h', toks := t' } := by
  have nit : ∀ b u, H b = some u → b ≠ it := fun b u e z => by rw [z, hn] at e; cases e
  refine I.step (g' := s.gens) (d' := s.drawn) (ch := [it]) (fun b hb => ?_) (fun b o _ _ hc e _ => k b o (fun z => hc (by simp [z])) e) (fun b o _ _ hc e _ => ⟨o.slots, k b o (fun z => hc (by simp [z])) e⟩) (fun _ _ _ _ n => n)
    (fun b o hc e => ⟨o, k b o (fun z => hc (by simp [z])) e⟩) (fun _ _ e => e) (fun _ _ _ e => e) (fun b ps e => ⟨#[], by rw [e]; simp⟩) (fun m hm => ?_) (fun b u e => ?_) I.bare
  · have e : b = it := by simpa using hb
    subst e
    exact ⟨h1, hL, h2, h3⟩
  · obtain ⟨o, es, ep, ho, r⟩ := hm
    exact ⟨o, es, ep, k _ o (Ne.symm hL) ho, r⟩
  · refine (I.hok b u e).stay (fun c v hc q => k c v ?_ q) (fun _ q => q) fun _ _ q => q
    rcases hc with z | z
    · rw [z]; exact nit b u e
    · exact nit c _ z
theorem Inv.tok (I : Inv X pins σ H s) (t : Nat) : Inv X pins σ H { s with toks := t } := I.un (h' := s.heap) (t' := t) Un.refl I.hok
/-- all objects kept -/
theorem Inv.kept {t' : Nat} (I : Inv X pins σ H s) (k : ∀ b u, s.heap.get? b = some u → h'.get? b = some u) : Inv X pins σ H { s with heap := h', toks := t' } := I.un (Un.kept k) (I.hok.kept k)
/-- a new object laid and tracked -/
theorem Inv.laid {a : Addr} {o : HO} {t' : Nat} (I : Inv X pins σ H s) (k : ∀ b u, s.heap.get? b = some u → h'.get? b = some u) (hp : s.heap.objs.size ≤ a) (new : ObjOk X.prog X.w (upd H a o) h' a o) :
    Inv X pins σ (upd H a o) { s with heap := h', toks := t' } := I.un (Un.laid k hp (I.hok.fresh hp)) (I.hok.laid k hp new)
/-- an object written -/
theorem Inv.write {x e : Addr} {o : HO} {t' : Nat} (I : Inv X pins σ H s) (mu : Mut (H x)) (he : e = x ∨ H e = some (.own x)) (k : ∀ b u, b ≠ e → s.heap.get? b = some u → h'.get? b = some u) (heo : ∃ u, h'.get? e = some u)
    (new : ObjOk X.prog X.w (upd H x o) h' x o) : Inv X pins σ (upd H x o) { s with heap := h', toks := t' } := I.un (Un.write mu he k heo) (I.hok.write mu he k heo new)
theorem Inv.pins_of {pins' : List (Addr × Obj)} (I : Inv X pins σ H s) (h : ∀ p ∈ pins', s.heap.get? p.1 = some p.2 ∧ H p.1 = none ∧ p.1 ≠ X.env.locals ∧ p.1 ∉ X.fs ∧ ∀ v, p.2.data ≠ .cell v) : Inv X pins' σ H s :=
  ⟨I.ok, I.os, I.bare, I.base, I.loc, I.cell, I.free, I.freeC, fun p hp => (List.mem_append.mp hp).elim (fun z => I.pin p (List.mem_append_left _ z)) (h p), I.hok, I.len⟩

theorem nodup_ix {N : List Str} (hN : N.Nodup) {i j : Nat} {x : Str} (a : N[i]? = some x) (b : N[j]? = some x) : i = j := by
  obtain ⟨h1, e1⟩ := List.getElem?_eq_some_iff.mp a
  obtain ⟨h2, e2⟩ := List.getElem?_eq_some_iff.mp b
  exact (List.getElem_inj hN).mp (e1.trans e2.symm)

/-- a name is stored; what changed -/
theorem store_ok2 {M : Model} {A : Around} {E : Value → Shared → Prop} {i : Nat} {x : Str} {v : V} {u : Value} {Q : Unit → Shared → Prop} (I : Inv X pins σ H s) (hN : X.N.Nodup) (hi : X.N[i]? = some x) (hx : Loc X.env.scope x) (r : RelV v u)
    (h : ∀ s', Inv X pins (σ.set i (some v)) H s' → (∃ a, Heap.SameBut a s.heap s'.heap ∧ (a = X.env.locals ∨ X.env.cells.lookup x = some a)) → Q () s') (hf : X.fn x = true ∨ X.env.scope.names.lookup x = some .local := by first | exact .inl rfl | exact .inr rfl | assumption) : wpAny M A (storeName X.env x u) Q E s := by
  obtain ⟨m, hn, hl⟩ := id I.loc
  have hcls : (X.env.scope.kind == .class || (X.env.scope.kind == .module && X.env.locals != X.env.globals)) = false := by rw [I.ok.kind]; rfl
  have hiσ : i < σ.length := by rw [I.len]; exact (List.getElem?_eq_some_iff.mp hi).1
  have cne := I.cne
  have tracked : ∀ {a : Addr} {h' : Heap}, (∃ o, s.heap.get? a = some o ∧ H a = none) → Heap.SameBut a s.heap h' → HOk X.prog X.w H h' := fun {a h'} ha hs b ob e => by
    obtain ⟨_, _, hfree⟩ := ha
    refine (I.hok b ob e).stay (fun c w' hc q => (hs.2 c ?_).trans q) (fun _ q => q) fun _ _ q => q
    rintro rfl
    rcases hc with rfl | hc
    · rw [hfree] at e; cases e
    · rw [hfree] at hc; cases hc
  rcases hx with hk | hk
  · refine wpAny_storeName_local hk hn (fun h' hn' hs => ?_) hcls
    obtain ⟨oL, _, _, hoL, _⟩ := id hn
    refine h _ ⟨I.ok, I.os, I.bare, ⟨fun b o e n hb hx => ?_, fun b o e n hb hx => ?_, I.base.free, fun b o e hx => ?_, I.base.tups, I.base.frzs, I.base.tbls⟩, ⟨_, hn', fun j y v' e1 e2 e3 => ?_⟩, fun y c e => ?_, I.free, I.freeC, fun p hp => ?_, tracked ⟨oL, hoL, I.free⟩ hs, by simpa using I.len⟩ ⟨_, hs, .inl rfl⟩
    · exact (hs.2 b (Nat.ne_of_lt (Nat.lt_of_lt_of_le (Heap.lt_size e) I.ok.above))).trans (I.base.keep b o e n hb hx)
    · obtain ⟨sl, e1⟩ := I.base.slot b o e n hb hx
      exact ⟨sl, (hs.2 b (Nat.ne_of_lt (Nat.lt_of_lt_of_le (Heap.lt_size e) I.ok.above))).trans e1⟩
    · obtain ⟨o', e1⟩ := I.base.there b o e hx
      exact ⟨o', (hs.2 b (Nat.ne_of_lt (Nat.lt_of_lt_of_le (Heap.lt_size e) I.ok.above))).trans e1⟩
    · by_cases hj : j = i
      · subst hj
        rw [hi] at e1; cases e1
        rw [List.getElem?_set_self hiσ] at e2
        cases e2
        exact ⟨u, r, .inl ⟨hk, by simp⟩⟩
      · rw [List.getElem?_set_ne (Ne.symm hj)] at e2
        obtain ⟨u', r', q⟩ := hl j y v' e1 e2 e3
        refine ⟨u', r', ?_⟩
        rcases q with ⟨k, e⟩ | ⟨k, c, e, z⟩
        · refine .inl ⟨k, ?_⟩
          have : y ≠ x := fun e => hj (nodup_ix hN e1 (e ▸ hi))
          simp [this, e]
        · exact .inr ⟨k, c, e, z.sameBut hs (cne y c e)⟩
    · obtain ⟨w', z⟩ := I.cell y c e
      exact ⟨w', z.sameBut hs (cne y c e)⟩
    · obtain ⟨e, n, ne, nf, d⟩ := I.pin p hp
      exact ⟨(hs.2 p.1 ne).trans e, n, ne, nf, d⟩
  · have hfn : X.fn x = true := by
      rcases hf with z | z
      · exact z
      · rw [z] at hk; cases hk
    obtain ⟨c, hc⟩ := I.ok.has x (.inl hk)
    obtain ⟨w', z⟩ := I.cell x c hc
    refine wpAny_storeName_cell I.ok.kind hk hc z (fun h' hc' hs => ?_)
    obtain ⟨oc, hoc, hocd⟩ := id z
    refine h { s with heap := h' } ⟨I.ok, I.os, I.bare, ⟨fun b o e n hb hx => ?_, fun b o e n hb hx => ?_, I.base.free, fun b o e hx => ?_, I.base.tups, I.base.frzs, I.base.tbls⟩, ⟨m, hn.sameBut hs (Ne.symm (cne x c hc)), fun j y v' e1 e2 e3 => ?_⟩, fun y c' e => ?_, I.free, I.freeC, fun p hp => ?_, tracked ⟨oc, hoc, I.freeC x c hc⟩ hs, by simpa using I.len⟩ ⟨c, hs, .inr hc⟩
    · exact (hs.2 b (Nat.ne_of_lt (Nat.lt_of_lt_of_le (Heap.lt_size e) (I.ok.cab x c hfn hc)))).trans (I.base.keep b o e n hb hx)
    · obtain ⟨sl, e1⟩ := I.base.slot b o e n hb hx
      exact ⟨sl, (hs.2 b (Nat.ne_of_lt (Nat.lt_of_lt_of_le (Heap.lt_size e) (I.ok.cab x c hfn hc)))).trans e1⟩
    · obtain ⟨o', e1⟩ := I.base.there b o e hx
      exact ⟨o', (hs.2 b (Nat.ne_of_lt (Nat.lt_of_lt_of_le (Heap.lt_size e) (I.ok.cab x c hfn hc)))).trans e1⟩
    · by_cases hj : j = i
      · subst hj
        rw [hi] at e1; cases e1
        rw [List.getElem?_set_self hiσ] at e2
        cases e2
        exact ⟨u, r, .inr ⟨.inl hk, c, hc, hc'⟩⟩
      · rw [List.getElem?_set_ne (Ne.symm hj)] at e2
        obtain ⟨u', r', q⟩ := hl j y v' e1 e2 e3
        refine ⟨u', r', ?_⟩
        rcases q with q | ⟨k, c', e, z'⟩
        · exact .inl q
        · refine .inr ⟨k, c', e, z'.sameBut hs ?_⟩
          rintro rfl
          exact hj (nodup_ix hN e1 (I.ok.inj _ _ _ e hc ▸ hi))
    · by_cases hcc : c' = c
      · subst hcc; exact ⟨_, hc'⟩
      · obtain ⟨w2, z2⟩ := I.cell y c' e
        exact ⟨w2, z2.sameBut hs hcc⟩
    · obtain ⟨e, n, ne, nf, d⟩ := I.pin p hp
      refine ⟨(hs.2 p.1 ?_).trans e, n, ne, nf, d⟩
      intro q
      rw [q, hoc] at e
      have q' : oc = p.2 := Option.some.inj e
      exact d w' (by rw [← q']; exact hocd)
theorem store_ok {M : Model} {A : Around} {E : Value → Shared → Prop} {i : Nat} {x : Str} {v : V} {u : Value} {Q : Unit → Shared → Prop} (I : Inv X pins σ H s) (hN : X.N.Nodup) (hi : X.N[i]? = some x) (hx : Loc X.env.scope x) (r : RelV v u)
    (h : ∀ s', Inv X pins (σ.set i (some v)) H s' → Q () s') (hf : X.fn x = true ∨ X.env.scope.names.lookup x = some .local := by first | exact .inl rfl | exact .inr rfl | assumption) : wpAny M A (storeName X.env x u) Q E s :=
  store_ok2 I hN hi hx r (fun s' I' _ => h s' I') hf
/-- behind a call or a block, the state as it is -/
theorem Inv.call' {s' : Shared} {ch : List Addr} (I : Inv X pins σ H s) (ho : s'.os = s.os) (u : Un (frs X.stack) ch H H' s.heap s'.heap) (hok : HOk X.prog X.w H' s'.heap) (hg : AllBare s'.gens)
    (hch : ∀ b ∈ ch, (b ∈ X.ex ∨ X.s₀.heap.objs.size ≤ b) ∧ b ≠ X.env.locals ∧ (∀ x c, X.env.cells.lookup x = some c → c ≠ b) ∧ ∀ p ∈ X.pn ++ pins, p.1 ≠ b) : Inv X pins σ H' s' := by
  obtain ⟨h', g', d', t', o'⟩ := s'
  have e : o' = s.os := ho
  subst e
  exact I.call (g' := g') (t' := t') (d' := d') u hok hg hch
end

/-! ### the judgements -/
/-- an exception: its class, its own dict's address (where it has one), the abstract heap behind it -/
abbrev XK := Value → Option Addr → Hp → Prop
abbrev St := List (Option V)
abbrev VK := V → Hp → Prop
/-- an expression's reading; a test's; an argument list's -/
abbrev TE := St → Hp → VK → Prop
abbrev TT := St → Hp → (Bool → Hp → Prop) → Prop
abbrev TA := St → Hp → (List V → Hp → Prop) → Prop
/-- what is wanted behind a statement -/
structure Ends where
  nx : St → Hp → Prop
  rt : VK
  bk : St → Hp → Prop := fun _ _ => False
  ct : St → Hp → Prop := fun _ _ => False
abbrev TS := Ends → St → Hp → Prop

def EP (X : Cx) (pins : List (Addr × Obj)) (σ : St) (Q : VK) (u : Value) (s' : Shared) : Prop := ∃ v H', Inv X pins σ H' s' ∧ RelV v u ∧ Q v H'
def TP (X : Cx) (pins : List (Addr × Obj)) (σ : St) (Q : Bool → Hp → Prop) (b : Bool) (s' : Shared) : Prop := ∃ H', Inv X pins σ H' s' ∧ Q b H'
def AP (X : Cx) (pins : List (Addr × Obj)) (σ : St) (Q : List V → Hp → Prop) (us : List Value) (s' : Shared) : Prop := ∃ vs H', Inv X pins σ H' s' ∧ Vals vs us ∧ Q vs H'
def SP (X : Cx) (pins : List (Addr × Obj)) (D : Ends) (f : Flow) (s' : Shared) : Prop :=
  match f with
  | .next => ∃ σ' H', Inv X pins σ' H' s' ∧ D.nx σ' H'
  | .brk => ∃ σ' H', Inv X pins σ' H' s' ∧ D.bk σ' H'
  | .cont => ∃ σ' H', Inv X pins σ' H' s' ∧ D.ct σ' H'
  | .ret u => ∃ v σ' H', Inv X pins σ' H' s' ∧ RelV v u ∧ D.rt v H'

def PE (X : Cx) (e : Expr) (t : TE) : Prop :=
  ∀ (pins : List (Addr × Obj)) (s : Shared) (σ : St) (H : Hp) (Q : VK), Inv X pins σ H s → t σ H Q → wpAny (model X.prog X.w) X.A (eval e X.env) (EP X pins σ Q) X.xe s
def PT (X : Cx) (e : Expr) (t : TT) : Prop :=
  ∀ (pins : List (Addr × Obj)) (s : Shared) (σ : St) (H : Hp) (Q : Bool → Hp → Prop), Inv X pins σ H s → t σ H Q → wpAny (model X.prog X.w) X.A (isTrue e X.env (eval e X.env)) (TP X pins σ Q) X.xe s
/-- a test whatever its 'whole' is (and, or) -/
def PW (X : Cx) (e : Expr) (t : TT) : Prop :=
  ∀ (whole : Sem Value) (pins : List (Addr × Obj)) (s : Shared) (σ : St) (H : Hp) (Q : Bool → Hp → Prop), Inv X pins σ H s → t σ H Q → wpAny (model X.prog X.w) X.A (isTrue e X.env whole) (TP X pins σ Q) X.xe s
theorem PW.pt {X : Cx} {e : Expr} {t : TT} (h : PW X e t) : PT X e t := h _
/-- an argument list (no star), from the left -/
def PA (X : Cx) (es : List Expr) (t : TA) : Prop :=
  ∀ (pos : Pos) (pins : List (Addr × Obj)) (s : Shared) (σ : St) (H : Hp) (Q : List V → Hp → Prop), Inv X pins σ H s → t σ H Q → wpAny (model X.prog X.w) X.A (spliced (backTo pos (starEach es X.env))) (AP X pins σ Q) X.xe s
def PS (X : Cx) (st : Stmt) (t : TS) : Prop :=
  ∀ (pins : List (Addr × Obj)) (s : Shared) (σ : St) (H : Hp) (D : Ends), Inv X pins σ H s → t D σ H → wpAny (model X.prog X.w) X.A (exec st X.env) (SP X pins D) X.xe s
def PSs (X : Cx) (st : List Stmt) (t : TS) : Prop :=
  ∀ (pins : List (Addr × Obj)) (s : Shared) (σ : St) (H : Hp) (D : Ends), Inv X pins σ H s → t D σ H → wpAny (model X.prog X.w) X.A (execs st X.env) (SP X pins D) X.xe s
/-- weaken the end -/
theorem thn {α : Type} {t : Sem α} {Q Q' : α → Shared → Prop} {M : Model} {A : Around} {E : Value → Shared → Prop} {s : Shared} (h : wpAny M A t Q E s) (hQ : ∀ a s, Q a s → Q' a s) : wpAny M A t Q' E s := wpAny_mono h hQ fun _ _ x => x
end L2

namespace L2
open PySem PySem.Spec PyProof.Rows
section
variable {X : Cx}

/-! ### names and constants -/
def tVar (i : Nat) : TE := fun σ H Q => ∃ v, σ[i]? = some (some v) ∧ Q v H
def tC (v : V) : TE := fun _ H Q => Q v H
theorem pe_var {i : Nat} {x : Str} {pos : Pos} (hN : X.N[i]? = some x) (hv : Vis X.env.scope x) (hd : (x == ("__debug__" : Str)) = false := by decide) (hcd : (x == ("__classdict__" : Str)) = false := by decide) : PE X (.Name x pos) (tVar i) := by
  intro pins s σ H Q I h
  obtain ⟨v, e, h⟩ := h
  obtain ⟨m, hn, hl⟩ := I.loc
  obtain ⟨u, r, l⟩ := hl i x v hN e hv
  have fin : EP X pins σ Q u s := ⟨v, H, I, r, h⟩
  rcases l with ⟨hk, hm⟩ | ⟨hk, c, hc, hcell⟩
  · exact wpAny_Name (wpAny_loadName_local I.ok.kind hk hn hm fin) hd
  · rcases hk with hk | hk
    · exact wpAny_Name (wpAny_loadName_cell I.ok.kind hk hc hcell fin) hd
    · exact wpAny_Name (wpAny_loadName_free I.ok.kind hk hc hcell fin hcd) hd
theorem pe_int {i j pos} : PE X (.Constant (.int i) j pos) (tC (.int i)) := fun _ _ _ H _ I h => wpAny_Constant_int ⟨.int i, H, I.tok _, ⟨_, rfl⟩, h⟩
theorem pe_bl {b j pos} : PE X (.Constant (.bool b) j pos) (tC (.bl b)) := fun _ _ _ H _ I h => Constant_bool ⟨.bl b, H, I, rfl, h⟩
/-- a global name of the def -/
def Gl (X : Cx) (x : Str) : Prop := X.env.kindOf x = some .globalImplicit
theorem ld_glob {E : Value → Shared → Prop} {pins : List (Addr × Obj)} {s : Shared} {σ : St} {H : Hp} {x : Str} {u : Value} {pos : Pos} {Q : Value → Shared → Prop} (I : Inv X pins σ H s) (hg : Gl X x) (hm : X.mg x = some u) (h : Q u s)
    (hd : (x == ("__debug__" : Str)) = false := by decide) : wpAny (model X.prog X.w) X.A (eval (.Name x pos) X.env) Q E s :=
  Calls.Name_function_global I.ok.kind hg (Calls.loadGlobal_global (by rw [I.ok.glob]; exact I.mod.glob.keeps I.bk) hm h) hd
theorem ld_blt {E : Value → Shared → Prop} {pins : List (Addr × Obj)} {s : Shared} {σ : St} {H : Hp} {x : Str} {u : Value} {pos : Pos} {Q : Value → Shared → Prop} (I : Inv X pins σ H s) (hg : Gl X x) (hm : X.mg x = none) (hv : bootBuiltins x = some u) (h : Q u s)
    (hn : x ≠ "__name__" := by decide) (hd : (x == ("__debug__" : Str)) = false := by decide) : wpAny (model X.prog X.w) X.A (eval (.Name x pos) X.env) Q E s := by
  obtain ⟨mb, h1, h2⟩ := I.mod.blt
  exact Calls.Name_function_global I.ok.kind hg (Calls.loadGlobal_builtin (by rw [I.ok.glob]; exact I.mod.glob.keeps I.bk) hm (by rw [I.ok.blt]; exact h1.keeps I.bk) ((h2 x hn).trans hv) h) hd
/-! ### arithmetic -/
/-- two ints -/
def t2I (ta tb : TE) (k : Int → Int → Hp → Prop) : St → Hp → Prop := fun σ H => ta σ H fun x H1 => tb σ H1 fun y H2 => ∃ i j, x = .int i ∧ y = .int j ∧ k i j H2
def tAdd (ta tb : TE) : TE := fun σ H Q => t2I ta tb (fun i j H2 => Q (.int (i + j)) H2) σ H
def tSub (ta tb : TE) : TE := fun σ H Q => t2I ta tb (fun i j H2 => Q (.int (i - j)) H2) σ H
/-- the left factor below 2^64 -/
def tMul (ta tb : TE) : TE := fun σ H Q => t2I ta tb (fun i j H2 => (-(2 ^ 64) < i ∧ i < 2 ^ 64) ∧ Q (.int (i * j)) H2) σ H
variable {a b : Expr} {ta tb : TE} {pos : Pos}
/-! ### comparisons -/
def PC (X : Cx) (op : CmpOp) (a b : Expr) (t : TE) : Prop :=
  ∀ (pins : List (Addr × Obj)) (s : Shared) (σ : St) (H : Hp) (Q : VK), Inv X pins σ H s → t σ H Q →
    wpAny (model X.prog X.w) X.A (eval a X.env) (fun v s₁ => wpAny (model X.prog X.w) X.A (eval b X.env) (fun u s₂ => wpAny (model X.prog X.w) X.A (compareOp op v u) (EP X pins σ Q) X.xe s₂) X.xe s₁) X.xe s
def tCmp (p : Int → Int → Bool) (ta tb : TE) : TE := fun σ H Q => t2I ta tb (fun i j H2 => Q (.bl (p i j)) H2) σ H
abbrev tLt : TE → TE → TE := tCmp fun i j => decide (i < j)
abbrev tLe : TE → TE → TE := tCmp fun i j => decide (i ≤ j)
abbrev tGt : TE → TE → TE := tCmp fun i j => decide (j < i)
abbrev tGe : TE → TE → TE := tCmp fun i j => decide (j ≤ i)
abbrev tEqI : TE → TE → TE := tCmp fun i j => decide (i = j)
abbrev tNeI : TE → TE → TE := tCmp fun i j => !decide (i = j)
/-- is None -/
def tIsN (ta : TE) : TE := fun σ H Q => ta σ H fun x H1 => Q (.bl (decide (x = .non))) H1
def tNotN (ta : TE) : TE := fun σ H Q => ta σ H fun x H1 => Q (.bl (!decide (x = .non))) H1
/-- a comparison as a value, as a test -/
def tB (t : TE) : TT := fun σ H Q => t σ H fun x H1 => ∃ c, x = .bl c ∧ Q c H1
/-- an expression whose value is a bool, as a test -/
theorem pt_val {e : Expr} {t : TE} (h : PE X e t) (he : ∀ whole, isTrue e X.env whole = (do let v ← whole; standAt e.pos; holding [v] (truthy v)) := by intro _; rfl) : PT X e (tB t) := by
  intro pins s σ H Q I hw
  refine isTrue_plain (thn (h pins s σ H _ I hw) fun v s1 ⟨x, H1, I1, r1, q1⟩ => ?_) (he _)
  obtain ⟨d, rfl, q⟩ := q1
  cases r1
  exact wpAny_truthy_bool ⟨H1, I1, q⟩

/-! ### and, or, not -/
variable {tA tB' : TT} {rest : List Expr}
def tAnd (t u : TT) : TT := fun σ H Q => t σ H fun c H1 => if c = true then u σ H1 Q else Q false H1
def tOr (t u : TT) : TT := fun σ H Q => t σ H fun c H1 => if c = true then Q true H1 else u σ H1 Q
def tNot (t : TT) : TT := fun σ H Q => t σ H fun c H1 => Q (!c) H1
theorem pw_or1 (ha : PT X a tA) : PW X (.BoolOp .Or [a] pos) tA := by
  intro wh pins s σ H Q I h
  refine isTrue_or (thn (ha pins s σ H Q I h) fun c s1 e => ?_)
  cases c with
  | false => exact isTrue_or_nil e
  | true => exact e
theorem pw_or (ha : PT X a tA) (hb : PW X (.BoolOp .Or (b :: rest) pos) tB') : PW X (.BoolOp .Or (a :: b :: rest) pos) (tOr tA tB') := by
  intro wh pins s σ H Q I h
  refine isTrue_or (thn (ha pins s σ H _ I h) fun c s1 ⟨H1, I1, q1⟩ => ?_)
  cases c with
  | true => exact ⟨H1, I1, q1⟩
  | false => exact hb wh pins s1 σ H1 Q I1 q1
theorem pt_not (ha : PT X a tA) : PT X (.UnaryOp .Not a pos) (tNot tA) := by
  intro pins s σ H Q I h
  exact isTrue_not (ha pins s σ H (fun c H1 => Q (!c) H1) I h)
/-- .. as values (bools) -/
def tAndV (ta tb : TE) : TE := fun σ H Q => ta σ H fun x H1 => ∃ c, x = .bl c ∧ if c = true then tb σ H1 Q else Q (.bl false) H1
def tOrV (ta tb : TE) : TE := fun σ H Q => ta σ H fun x H1 => ∃ c, x = .bl c ∧ if c = true then Q (.bl true) H1 else tb σ H1 Q
def tNotV (ta : TE) : TE := fun σ H Q => ta σ H fun x H1 => ∃ c, x = .bl c ∧ Q (.bl (!c)) H1
/-- a if t else b -/
def tIf (t : TT) (ta tb : TE) : TE := fun σ H Q => t σ H fun c H1 => if c = true then ta σ H1 Q else tb σ H1 Q
theorem pe_ifExp {c : Expr} (hc : PT X c tA) (ha : PE X a ta) (hb : PE X b tb) : PE X (.IfExp c a b pos) (tIf tA ta tb) := by
  intro pins s σ H Q I h
  refine wpAny_IfExp (thn (hc pins s σ H _ I h) fun d s1 ⟨H1, I1, q1⟩ => ?_)
  cases d with
  | true => exact ha pins s1 σ H1 Q I1 q1
  | false => exact hb pins s1 σ H1 Q I1 q1
end
end L2

namespace L2
open PySem PySem.Spec PyProof.Rows

/-! ### a list, a tuple that is read: tracked, frozen, or an object of the module -/
def SqL (K : PySem.W.Frag) (H : Hp) (a : Addr) (xs : List V) : Prop :=
  Rd H a (.lst xs) ∨
    ∃ (o : Obj) (its : Array Value) (n : Nat), K.lookup a = some o ∧ o.cls = .type "list" ∧ o.dict = none ∧ o.data = .seq its n ∧ its.size ≤ sizeLine ∧ Vals xs its.toList
def SqT (K : PySem.W.Frag) (H : Hp) (a : Addr) (xs : List V) : Prop :=
  Rd H a (.tup xs) ∨
    ∃ (o : Obj) (its : Array Value) (n : Nat), K.lookup a = some o ∧ o.cls = .type "tuple" ∧ o.data = .seq its n ∧ its.size ≤ sizeLine ∧ Vals xs its.toList
def absV : Value → Option V
  | .none => some .non
  | .bool b => some (.bl b)
  | .int i _ => some (.int i)
  | .str x _ => some (.str x)
  | .bytes b _ => some (.byt b)
  | .float b _ => some (.flt b)
  | .ref a => some (.ref a)
  | .type n => some (.ty n)
  | _ => none
theorem RelV.abs {x : V} {u : Value} (r : RelV x u) : absV u = some x := by
  cases x with
  | non => cases r; rfl
  | bl _ => cases r; rfl
  | int _ => obtain ⟨t, rfl⟩ := r; rfl
  | str _ => obtain ⟨t, rfl⟩ := r; rfl
  | byt _ => obtain ⟨t, rfl⟩ := r; rfl
  | flt _ => obtain ⟨t, rfl⟩ := r; rfl
  | ref _ => cases r; rfl
  | ty _ => cases r; rfl
theorem RelV.inj {x y : V} {u : Value} (r : RelV x u) (q : RelV y u) : x = y := Option.some.inj (r.abs.symm.trans q.abs)
theorem Vals.inj : ∀ {xs ys : List V} {us : List Value}, Vals xs us → Vals ys us → xs = ys
  | _, _, _, .nil, .nil => rfl
  | _, _, _, .cons r t, .cons r' t' => by rw [r.inj r', Vals.inj t t']
section
variable {X : Cx} {pins : List (Addr × Obj)} {σ : St} {H : Hp} {s : Shared} {a : Addr} {xs ys : List V}
theorem SqL.of {K : PySem.W.Frag} (h : H a = some (.lst xs)) : SqL K H a xs := .inl (.inl h)
theorem SqT.of {K : PySem.W.Frag} (h : H a = some (.tup xs)) : SqT K H a xs := .inl (.inl h)
theorem Inv.list (I : Inv X pins σ H s) (h : SqL X.K H a xs) : ∃ its : List Value, Vals xs its ∧ PlainL s.heap a its.toArray ∧ xs.length ≤ sizeLine := by
  rcases h with h | ⟨o, its, n, hk, hc, hd, hs, hz, r⟩
  · obtain ⟨z, its, n, r, e⟩ := h.ok I.hok
    exact ⟨its, r, ⟨_, n, e, rfl, rfl, rfl⟩, z⟩
  · refine ⟨its.toList, r, ⟨o, n, I.kIn a o hk, hc, hd, by simpa using hs⟩, ?_⟩
    have e := r.length
    simp only [Array.length_toList] at e
    omega
theorem Inv.tuple (I : Inv X pins σ H s) (h : SqT X.K H a xs) : ∃ its : List Value, Vals xs its ∧ IsTup s.heap a its.toArray ∧ xs.length ≤ sizeLine := by
  rcases h with h | ⟨o, its, n, hk, hc, hs, hz, r⟩
  · obtain ⟨z, its, r, p⟩ := h.ok I.hok
    exact ⟨its, r, p, z⟩
  · refine ⟨its.toList, r, ⟨o, I.kIn a o hk, hc, n, by simpa using hs⟩, ?_⟩
    have e := r.length
    simp only [Array.length_toList] at e
    omega
theorem Inv.list_inj (I : Inv X pins σ H s) (h : SqL X.K H a xs) (h' : SqL X.K H a ys) : xs = ys := by
  obtain ⟨its, r, ⟨o, n, e, _, _, d⟩, _⟩ := I.list h
  obtain ⟨its', r', ⟨o', n', e', _, _, d'⟩, _⟩ := I.list h'
  rw [e] at e'; cases e'
  rw [d] at d'
  injection d' with d1 _
  have : its = its' := by simpa using congrArg Array.toList d1
  subst this
  exact r.inj r'
end

/-! ### another wish about exceptions -/
abbrev Cx.wish (X : Cx) (E : Value → Shared → Prop) : Cx := { X with xe := E }
/-- no exception leaves -/
abbrev Cx.nox (X : Cx) : Cx := X.wish fun _ _ => False
theorem Cx.Ok.wish {X : Cx} (ok : X.Ok) (E : Value → Shared → Prop) : (X.wish E).Ok :=
  ⟨ok.mod, ok.kind, ok.glob, ok.blt, ok.above, ok.inj, ok.has, ok.cab, ok.hd, ok.frames, ok.stk, ok.exf, ok.bs, ok.bsz, ok.noex, ok.exfs, ok.funs, ok.frf⟩
theorem Cx.Ok.unwish {X : Cx} {E : Value → Shared → Prop} (ok : (X.wish E).Ok) : X.Ok :=
  ⟨ok.mod, ok.kind, ok.glob, ok.blt, ok.above, ok.inj, ok.has, ok.cab, ok.hd, ok.frames, ok.stk, ok.exf, ok.bs, ok.bsz, ok.noex, ok.exfs, ok.funs, ok.frf⟩
section
variable {X : Cx} {pins : List (Addr × Obj)} {σ : St} {H : Hp} {s : Shared} {E : Value → Shared → Prop}
theorem Inv.wish (I : Inv X pins σ H s) (E : Value → Shared → Prop) : Inv (X.wish E) pins σ H s := ⟨I.ok.wish E, I.os, I.bare, I.base, I.loc, I.cell, I.free, I.freeC, I.pin, I.hok, I.len⟩
theorem Inv.unwish (I : Inv (X.wish E) pins σ H s) : Inv X pins σ H s := ⟨I.ok.unwish, I.os, I.bare, I.base, I.loc, I.cell, I.free, I.freeC, I.pin, I.hok, I.len⟩
theorem SP.unwish {D : Ends} {f : Flow} {s' : Shared} (h : SP (X.wish E) pins D f s') : SP X pins D f s' := by
  cases f with
  | next => obtain ⟨σ', H', I, q⟩ := h; exact ⟨σ', H', I.unwish, q⟩
  | brk => obtain ⟨σ', H', I, q⟩ := h; exact ⟨σ', H', I.unwish, q⟩
  | cont => obtain ⟨σ', H', I, q⟩ := h; exact ⟨σ', H', I.unwish, q⟩
  | ret u => obtain ⟨v, σ', H', I, r, q⟩ := h; exact ⟨v, σ', H', I.unwish, r, q⟩
theorem PSs.nox {st : List Stmt} {t : TS} (h : PSs X.nox st t) : PSs X st t := fun pins s σ H D I hw =>
  wpAny_mono (h pins s σ H D (I.wish _) hw) (fun _ _ q => q.unwish) fun _ _ z => False.elim z
end

/-! ### blocks and small statements -/
section
variable {X : Cx} {st : Stmt} {rest : List Stmt} {t u : TS} {e : Expr} {te : TE} {pos : Pos}
def tNext : TS := fun D σ H => D.nx σ H
def tSeq (t u : TS) : TS := fun D σ H => t { D with nx := u D } σ H
theorem pss_nil : PSs X [] tNext := fun _ _ σ H _ I h => wpAny_execs_nil ⟨σ, H, I, h⟩
theorem pss_cons (h1 : PS X st t) (h2 : PSs X rest u) : PSs X (st :: rest) (tSeq t u) := by
  intro pins s σ H D I h
  refine wpAny_execs_cons (thn (h1 pins s σ H { D with nx := u D } I h) fun f s1 q => ?_)
  cases f with
  | next =>
    obtain ⟨σ', H', I', q⟩ := q
    exact h2 pins s1 σ' H' D I' q
  | ret v => exact q
  | brk => exact q
  | cont => exact q
theorem pss_one (h1 : PS X st t) : PSs X [st] t := by
  intro pins s σ H D I h
  refine wpAny_execs_cons (thn (h1 pins s σ H D I h) fun f s1 q => ?_)
  cases f with
  | next => exact wpAny_execs_nil q
  | ret v => exact q
  | brk => exact q
  | cont => exact q
def tBreak : TS := fun D σ H => D.bk σ H
def tCont : TS := fun D σ H => D.ct σ H
/-- in a def's body nothing is shown -/
theorem Inv.quiet {pins : List (Addr × Obj)} {σ : St} {H : Hp} {s : Shared} (I : Inv X pins σ H s) : interactive X.env = false := by simp [interactive, I.ok.kind]
/-- an expression whose value is dropped -/
def tDrop (te : TE) : TS := fun D σ H => te σ H fun _ H1 => D.nx σ H1
theorem ps_expr (he : PE X e te) (hs : swapsWith e none pos.line X.env = pure false := by rfl) : PS X (.Expr e pos) (tDrop te) := by
  intro pins s σ H D I h
  exact wpAny_Expr_any (thn (he pins s σ H _ I h) fun v s1 ⟨x, H1, I1, r1, q1⟩ => ⟨σ, H1, I1, q1⟩) I.quiet hs
def tRet (te : TE) : TS := fun D σ H => te σ H D.rt
theorem ps_ret (he : PE X e te) : PS X (.Return (some e) pos) (tRet te) := by
  intro pins s σ H D I h
  exact wpAny_Return_some (thn (he pins s σ H _ I h) fun v s1 ⟨x, H1, I1, r1, q1⟩ => ⟨x, σ, H1, I1, r1, q1⟩)
def tRetN : TS := fun D _ H => D.rt .non H
def tIfS (c : TT) (t u : TS) : TS := fun D σ H => c σ H fun b H1 => if b = true then t D σ H1 else u D σ H1
theorem ps_if {c : Expr} {a b : List Stmt} {tc : TT} (hc : PT X c tc) (ha : PSs X a t) (hb : PSs X b u) : PS X (.If c a b pos) (tIfS tc t u) := by
  intro pins s σ H D I h
  refine wpAny_If (thn (hc pins s σ H _ I h) fun d s1 ⟨H1, I1, q1⟩ => ?_)
  cases d with
  | true => exact ha pins s1 σ H1 D I1 q1
  | false => exact hb pins s1 σ H1 D I1 q1
/-- code that the proof never comes to -/
def tNever : TS := fun _ _ _ => False
theorem ps_never : PS X st tNever := fun _ _ _ _ _ _ h => h.elim
end

/-! ### targets -/
abbrev TG := V → St → Hp → (St → Hp → Prop) → Prop
abbrev TGs := List V → St → Hp → (St → Hp → Prop) → Prop
def PG (X : Cx) (target : Expr) (t : TG) : Prop :=
  ∀ (pins : List (Addr × Obj)) (s : Shared) (σ : St) (H : Hp) (v : V) (u : Value) (Q : St → Hp → Prop), Inv X pins σ H s → RelV v u → t v σ H Q →
    wpAny (model X.prog X.w) X.A (assign target X.env u) (fun _ s' => ∃ σ' H', Inv X pins σ' H' s' ∧ Q σ' H') X.xe s
/-- several targets, one after another -/
def PGs (X : Cx) (ts : List Expr) (t : TGs) : Prop :=
  ∀ (pins : List (Addr × Obj)) (s : Shared) (σ : St) (H : Hp) (vs : List V) (us : List Value) (Q : St → Hp → Prop), Inv X pins σ H s → Vals vs us → t vs σ H Q →
    wpAny (model X.prog X.w) X.A (assignInOrder ((assignEach ts X.env).map (·.2)) us) (fun _ s' => ∃ σ' H', Inv X pins σ' H' s' ∧ Q σ' H') X.xe s
/-- o[i] = v, by values -/
abbrev TSet := V → V → V → Hp → (Hp → Prop) → Prop
def PSet (X : Cx) (t : TSet) : Prop :=
  ∀ (pins : List (Addr × Obj)) (s : Shared) (σ : St) (H : Hp) (o i v : V) (ov iv u : Value) (Q : Hp → Prop), Inv X pins σ H s → RelV o ov → RelV i iv → RelV v u → t o i v H Q →
    wpAny (model X.prog X.w) X.A (setItem ov iv u) (fun _ s' => ∃ H', Inv X pins σ H' s' ∧ Q H') X.xe s
/-- a op= b, by values -/
abbrev TIp := V → V → Hp → VK → Prop
def PIp (X : Cx) (op : Operator) (t : TIp) : Prop :=
  ∀ (pins : List (Addr × Obj)) (s : Shared) (σ : St) (H : Hp) (x y : V) (v u : Value) (Q : VK), Inv X pins σ H s → RelV x v → RelV y u → t x y H Q →
    wpAny (model X.prog X.w) X.A (inplaceOp op v u) (EP X pins σ Q) X.xe s
section
variable {X : Cx} {pos : Pos}
def gName (i : Nat) : TG := fun v σ H Q => Q (σ.set i (some v)) H
theorem pg_name {i : Nat} {x : Str} (hN : X.N.Nodup) (hi : X.N[i]? = some x) (hx : Loc X.env.scope x) (hf : X.fn x = true ∨ X.env.scope.names.lookup x = some .local := by first | exact .inl rfl | exact .inr rfl | assumption) : PG X (.Name x pos) (gName i) := by
  intro pins s σ H v u Q I r h
  exact wpAny_assign_Name (store_ok I hN hi hx r (fun s' I' => ⟨_, H, I', h⟩) hf)
def gNil : TGs := fun vs σ H Q => vs = [] ∧ Q σ H
def gCons (t : TG) (u : TGs) : TGs := fun vs σ H Q => ∃ v r, vs = v :: r ∧ t v σ H fun σ' H' => u r σ' H' Q
theorem pgs_nil : PGs X [] gNil := by
  intro pins s σ H vs us Q I r h
  obtain ⟨e, h⟩ := h
  subst e
  cases r
  exact assignInOrder_nil ⟨σ, H, I, h⟩
theorem pgs_cons {e : Expr} {es : List Expr} {t : TG} {u : TGs} (h1 : PG X e t) (h2 : PGs X es u)
    (hs : (assignEach (e :: es) X.env).map (·.2) = assign e X.env :: (assignEach es X.env).map (·.2) := by rfl) : PGs X (e :: es) (gCons t u) := by
  intro pins s σ H vs us Q I r h
  obtain ⟨v, vr, e1, h⟩ := h
  subst e1
  cases r with
  | cons r rr =>
    rw [hs]
    refine assignInOrder_cons (thn (h1 pins s σ H _ _ _ I r h) fun _ s1 ⟨σ1, H1, I1, q1⟩ => ?_)
    exact h2 pins s1 σ1 H1 _ _ Q I1 rr q1
/-- (a, b, ..) = a tuple of that length -/
def gTup (K : PySem.W.Frag) (n : Nat) (t : TGs) : TG := fun v σ H Q => ∃ a xs, v = .ref a ∧ SqT K H a xs ∧ xs.length = n ∧ t xs σ H Q
theorem pg_tup {es : List Expr} {k : Nat} {t : TGs} {n : Nat} (hc : X.calm = true) (h : PGs X es t)
    (hn : (assignEach es X.env).length = n := by rfl) (hst : (assignEach es X.env).findIdx? (·.1) = none := by rfl) : PG X (.Tuple es k pos) (gTup X.K n t) := by
  intro pins s σ H v u Q I r hw
  obtain ⟨a, xs, e1, hq, hl, hw⟩ := hw
  subst e1
  cases r
  obtain ⟨its, rv, ht, hz⟩ := I.tuple hq
  refine assign_Tuple_tuple (I.ok.hd hc) ht (by simp [hn, ← hl, rv.length]) hst fun h' hx => ?_
  have I1 : Inv X pins σ H { s with heap := h' } := I.kept (t' := s.toks) fun b o e => hx b o (Nat.ne_of_lt (Heap.lt_size e)) e
  exact h pins _ σ H xs _ Q I1 (by simpa using rv) hw
/-- o[i] = .. -/
def gSub (to ti : TE) (t : TSet) : TG := fun v σ H Q => to σ H fun o H1 => ti σ H1 fun i H2 => t o i v H2 fun H3 => Q σ H3
theorem pg_sub {o i : Expr} {to ti : TE} {t : TSet} (ho : PE X o to) (hi : PE X i ti) (hs : PSet X t)
    (ha : ∀ v, assign (.Subscript o i pos) X.env v = (do
      let ov ← holding [v] (eval o X.env)
      let iv ← holding [v, ov] (eval i X.env)
      standAt pos
      holding [v, ov, iv] (setItem ov iv v)
      release [v, ov, iv] []) := by intro _; rfl) : PG X (.Subscript o i pos) (gSub to ti t) := by
  intro pins s σ H v u Q I r h
  rw [ha]
  refine wpAny_bind (wpAny_holding (thn (ho pins s σ H _ I h) fun ov s1 ⟨x, H1, I1, r1, q1⟩ => ?_))
  refine wpAny_bind (wpAny_holding (thn (hi pins s1 σ H1 _ I1 q1) fun iv s2 ⟨y, H2, I2, r2, q2⟩ => ?_))
  refine wpAny_bind (wpAny_standAt (wpAny_bind (wpAny_holding (thn (hs pins s2 σ H2 x y v ov iv u _ I2 r1 r2 r q2) fun _ s3 ⟨H3, I3, q3⟩ => ?_))))
  exact wpAny_release ⟨σ, H3, I3, q3⟩
/-- target = value -/
def tAsg (te : TE) (g : TG) : TS := fun D σ H => te σ H fun x H1 => g x σ H1 D.nx
theorem ps_asg {tg e : Expr} {te : TE} {g : TG} (he : PE X e te) (hg : PG X tg g) (hs : swapsWithSole [tg] e pos.line X.env = pure false := by rfl) (hw : swappedStores [tg] e X.env = pure none := by rfl)
    (h1 : (assignEach [tg] X.env).map (·.2) = [assign tg X.env] := by rfl) : PS X (.Assign [tg] e pos) (tAsg te g) := by
  intro pins s σ H D I h
  refine wpAny_Assign_stores (thn (he pins s σ H _ I h) fun v s1 ⟨x, H1, I1, r1, q1⟩ => ?_) hs hw
  rw [h1]
  exact thn (hg pins s1 σ H1 x v _ I1 r1 q1) fun _ s2 q => q
/-- name = value -/
theorem ps_set {i : Nat} {x : Str} {e : Expr} {te : TE} {pos' : Pos} (hN : X.N.Nodup) (hi : X.N[i]? = some x) (hx : Loc X.env.scope x) (he : PE X e te) (hs : swapsWith e (some (.Name x pos')) pos.line X.env = pure false := by rfl) (hf : X.fn x = true ∨ X.env.scope.names.lookup x = some .local := by first | exact .inl rfl | exact .inr rfl | assumption) :
    PS X (.Assign [.Name x pos'] e pos) (tAsg te (gName i)) := by
  intro pins s σ H D I h
  refine wpAny_Assign_Name (thn (he pins s σ H _ I h) fun v s1 ⟨y, H1, I1, r1, q1⟩ => ?_) hs
  exact store_ok I1 hN hi hx r1 (fun s2 I2 => ⟨_, H1, I2, q1⟩) hf
/-- a, b = x, y with plain local names: stored from the right; the pair itself is not tracked (the opening rows as in PyProof/Rows/TupAssign.lean:23) -/
def tPar (i j : Nat) (ta : TA) : TS := fun D σ H => ta σ H fun vs H1 => ∃ v w, vs = [v, w] ∧ D.nx ((σ.set i (some v)).set j (some w)) H1
/-- name op= e -/
def tAug (i : Nat) (te : TE) (ti : TIp) : TS := fun D σ H => ∃ x, σ[i]? = some (some x) ∧ te σ H fun y H1 => ti x y H1 fun z H2 => D.nx (σ.set i (some z)) H2
/-- o[i] op= e -/
def tAugS (to ti te : TE) (tget : V → V → Hp → VK → Prop) (tip : TIp) (tset : TSet) : TS := fun D σ H => to σ H fun o H1 => ti σ H1 fun i H2 => tget o i H2 fun x H3 => te σ H3 fun y H4 => tip x y H4 fun z H5 => tset o i z H5 fun H6 => D.nx σ H6
/-- o[i], by values -/
def PGet (X : Cx) (t : V → V → Hp → VK → Prop) : Prop :=
  ∀ (pins : List (Addr × Obj)) (s : Shared) (σ : St) (H : Hp) (o i : V) (ov iv : Value) (Q : VK), Inv X pins σ H s → RelV o ov → RelV i iv → t o i H Q →
    wpAny (model X.prog X.w) X.A (getItem ov iv) (EP X pins σ Q) X.xe s
/-- ints -/
def ipI (f : Int → Int → Int) : TIp := fun x y H Q => ∃ i j, x = .int i ∧ y = .int j ∧ Q (.int (f i j)) H
end

/-! ### while -/
section
variable {X : Cx} {pos : Pos}
/-- the invariant W with its measure -/
def tWhile (c : TT) (tb : TS) : TS := fun D σ H => ∃ W : Nat → St → Hp → Prop, (∃ m, W m σ H) ∧ ∀ m σ H, W m σ H →
  c σ H fun b H1 => if b = true then ∃ N : St → Hp → Prop, (∀ σ' H', N σ' H' → ∃ m', m' < m ∧ W m' σ' H') ∧ tb { D with nx := N, ct := N, bk := D.nx } σ H1 else D.nx σ H1
theorem ps_while {c : Expr} {body : List Stmt} {tc : TT} {tb : TS} (hp : PassesOwn (model X.prog X.w) X.A X.env X.xe) (hc : PT X c tc) (hb : PSs X body tb) : PS X (.While c body [] pos) (tWhile tc tb) := by
  intro pins s σ H D I h
  obtain ⟨W, ⟨m0, w0⟩, turn⟩ := h
  refine wpAny_While (codeAny_whileLoop (fun n s' => ∃ σ' H', Inv X pins σ' H' s' ∧ W n σ' H') ?_ m0 ⟨σ, H, I, w0⟩)
  rintro n s1 ⟨σ1, H1, I1, w1⟩
  refine wpAny_passesOwn hp (thn (hc pins s1 σ1 H1 _ I1 (turn n σ1 H1 w1)) fun b s2 ⟨H2, I2, q2⟩ => ?_)
  cases b with
  | true =>
    obtain ⟨N, hN, q2⟩ := q2
    rw [if_pos rfl]
    refine wpAny_passesOwn hp (thn (hb pins s2 σ1 H2 _ I2 q2) fun f s3 q3 => ?_)
    cases f with
    | next =>
      obtain ⟨σ3, H3, I3, n3⟩ := q3
      obtain ⟨m', hm, w3⟩ := hN σ3 H3 n3
      exact ⟨m', hm, σ3, H3, I3, w3⟩
    | cont =>
      obtain ⟨σ3, H3, I3, n3⟩ := q3
      obtain ⟨m', hm, w3⟩ := hN σ3 H3 n3
      exact ⟨m', hm, σ3, H3, I3, w3⟩
    | brk => exact q3
    | ret v => exact q3
  | false =>
    rw [if_neg Bool.false_ne_true]
    exact wpAny_execs_nil ⟨σ1, H2, I2, q2⟩
end

/-! ### what a loop or a comprehension walks -/
/-- at turn i: it yields x (the heap may grow), or it stops -/
structure It where
  go : Nat → Hp → Prop
  yld : Nat → Hp → V → Hp → Prop
  stop : Nat → Hp → Prop
/-- the iterator's own objects may turn: they are not the frame's, not pinned, younger than the entry (or a comprehension's own) -/
def FpOk (X : Cx) (pins : List (Addr × Obj)) (H : Hp) (b : Addr) : Prop :=
  H b = none ∧ b ≠ X.env.locals ∧ b ∉ X.fs ∧ (b ∈ X.ex ∨ X.s₀.heap.objs.size ≤ b) ∧ (∀ x c, X.env.cells.lookup x = some c → c ≠ b) ∧ ∀ p ∈ X.pn ++ pins, p.1 ≠ b
theorem Inv.fpOk {X : Cx} {pins : List (Addr × Obj)} {σ : St} {H H' : Hp} {s : Shared} {b : Addr} (I : Inv X pins σ H s) (hb : s.heap.objs.size ≤ b) (hn : H' b = none) : FpOk X pins H' b := by
  refine ⟨hn, Nat.ne_of_gt (Nat.lt_of_lt_of_le I.lt hb), I.nofs hb, .inr (Nat.le_trans I.sz hb), fun x c e z => ?_, fun p hp z => ?_⟩
  · obtain ⟨v, q⟩ := I.cell x c e
    exact absurd (Nat.lt_of_lt_of_le q.lt (by rw [z]; exact hb)) (Nat.lt_irrefl _)
  · exact absurd (Nat.lt_of_lt_of_le (Heap.lt_size (I.pin p hp).1) (by rw [z]; exact hb)) (Nat.lt_irrefl _)
structure Turn (P : Program) (w : World) (K : PySem.W.Frag) (tg : Expr) (J : It) (fp : List Addr) (it : Addr) (tn : Nat → Heap → Prop) : Prop where
  mem : it ∈ fp
  obj : ∀ i h, tn i h → ∀ b ∈ fp, ∃ o, h.get? b = some o ∧ ∀ v, o.data ≠ .cell v
  keep : ∀ i h h', tn i h → (∀ b ∈ fp, ∀ o, h.get? b = some o → h'.get? b = some o) → tn i h'
  item : ∀ (X : Cx), X.prog = P → X.w = w → X.K = K → X.calm = true → ∀ (i : Nat) (pins : List (Addr × Obj)) (s : Shared) (σ : St) (H : Hp) (E : Value → Shared → Prop), Inv X pins σ H s → (∀ b ∈ fp, FpOk X pins H b) → tn i s.heap → J.go i H →
    wpAny (model P w) X.A (pyNext (.ref it)) (fun r s1 => ∃ u, r = some u ∧
      wpAny (model P w) X.A (letOwnedTupleGo tg (.ref it) u) (fun _ s2 => ∃ x H', Inv X pins σ H' s2 ∧ RelV x u ∧ J.yld i H x H' ∧ tn (i + 1) s2.heap ∧ ∀ b ∈ fp, H' b = none) E s1) E s
  done : ∀ (X : Cx), X.prog = P → X.w = w → X.K = K → X.calm = true → ∀ (i : Nat) (pins : List (Addr × Obj)) (s : Shared) (σ : St) (H : Hp) (E : Value → Shared → Prop), Inv X pins σ H s → (∀ b ∈ fp, FpOk X pins H b) → tn i s.heap → J.stop i H →
    wpAny (model P w) X.A (pyNext (.ref it)) (fun r s1 => r = none ∧ Inv X pins σ H s1) E s
  self : ∀ (A : Around) (i : Nat) (s : Shared) (Q : Value → Shared → Prop) (E : Value → Shared → Prop), tn i s.heap → Q (.ref it) s → wpAny (model P w) A (pyIter (.ref it)) Q E s
abbrev TI := St → Hp → (It → Hp → Prop) → Prop
/-- an iterator has come -/
def PIE (X : Cx) (pins : List (Addr × Obj)) (σ : St) (tg : Expr) (R : It → Hp → Prop) (itv : Value) (s2 : Shared) : Prop :=
  ∃ (it : Addr) (fp : List Addr) (tn : Nat → Heap → Prop) (J : It) (H' : Hp), itv = .ref it ∧ Inv X pins σ H' s2 ∧ Turn X.prog X.w X.K tg J fp it tn ∧ tn 0 s2.heap ∧ (∀ b ∈ fp, FpOk X pins H' b) ∧ R J H'
def PI (X : Cx) (tg iter : Expr) (wi : TI) : Prop :=
  ∀ (pins : List (Addr × Obj)) (s : Shared) (σ : St) (H : Hp) (R : It → Hp → Prop), Inv X pins σ H s → wi σ H R →
    wpAny (model X.prog X.w) X.A (eval iter X.env) (fun v s1 => wpAny (model X.prog X.w) X.A (pyIter v) (PIE X pins σ tg R) X.xe s1) X.xe s

/-- the step ahead of the store is nothing for an iterator that keeps no tuple -/
theorem go_of {M : Model} {A : Around} {E : Value → Shared → Prop} {s : Shared} {tg : Expr} {it : Addr} {u : Value} {o : Obj} {n : String} {vs : Array Value} {Q : Unit → Shared → Prop} (ho : s.heap.get? it = some o) (hc : o.cls = .type n) (hd : o.data = .fields vs)
    (hn : ["enumerate", "zip", "dict_itemiterator", "dict_reverseitemiterator", "odict_iterator", "itertools.zip_longest", "itertools.pairwise"].contains n = false) (hQ : Q () s) : wpAny M A (letOwnedTupleGo tg (.ref it) u) Q E s := by
  unfold letOwnedTupleGo
  cases tg <;> first
    | exact wpAny_pure hQ
    | (cases u <;> first
        | exact wpAny_pure hQ
        | (refine wpAny_bind (wpAny_load ho ?_)
           rw [hc, hd]
           show wpAny M A (if (["enumerate", "zip", "dict_itemiterator", "dict_reverseitemiterator", "odict_iterator", "itertools.zip_longest", "itertools.pairwise"].contains n && vs[0]? == some (rawInt _)) = true then _ else _) Q E s
           rw [if_neg (by intro h; rw [hn, Bool.false_and] at h; cases h)]
           exact wpAny_pure hQ))

/-- the list at a, as it stands at each turn (a loop may append to it) -/
def Itl (K : PySem.W.Frag) (a : Addr) : It :=
  ⟨fun i H => ∃ xs x, SqL K H a xs ∧ xs[i]? = some x, fun i H x H' => H' = H ∧ ∀ xs, SqL K H a xs → xs[i]? = some x, fun i H => ∃ xs, SqL K H a xs ∧ xs.length ≤ i⟩
def Itt (K : PySem.W.Frag) (a : Addr) : It :=
  ⟨fun i H => ∃ xs x, SqT K H a xs ∧ xs[i]? = some x, fun i H x H' => H' = H ∧ ∀ xs, SqT K H a xs → xs[i]? = some x, fun i H => ∃ xs, SqT K H a xs ∧ xs.length ≤ i⟩
/-- lo, lo + 1, .. (n of them) -/
def Itr (lo : Int) (n : Nat) : It := ⟨fun i _ => i < n, fun i H x H' => H' = H ∧ x = .int (lo + i), fun i _ => n ≤ i⟩
theorem turn_list {P : Program} {w : World} {K : PySem.W.Frag} {tg : Expr} (a it : Addr) : Turn P w K tg (Itl K a) [it] it (fun i h => h.IsListIter it a i) where
  mem := by simp
  obj := fun i h st b hb => by
    have e : b = it := by simpa using hb
    subst e
    obtain ⟨o, e, c, d⟩ := st
    exact ⟨o, e, fun v z => by rw [d] at z; cases z⟩
  keep := fun i h h' st k => st.at fun o e => k it (by simp) o e
  item := by
    intro X hP hw hK hc i pins s σ H E I hf st hg
    subst hP hw hK
    obtain ⟨xs, x, hq, hx⟩ := hg
    obtain ⟨its, rv, p, hz⟩ := I.list hq
    obtain ⟨u, hu, ru⟩ := rv.get hx
    obtain ⟨f0, f1, f2, f3, f4, f5⟩ := hf it (by simp)
    refine wpAny_pyNext_list_item st p.isList (x := u) (by simpa using hu) fun h' st' sb => ?_
    have I1 : Inv X pins σ H { s with heap := h' } := I.turned (t' := s.toks) (fun b o hb e => (sb.2 b hb).trans e) f0 f1 f3 f4 f5
    obtain ⟨o, e, c, d⟩ := id st'
    exact ⟨u, rfl, go_of (s := { s with heap := h' }) e c d (by decide) ⟨x, H, I1, ru, ⟨rfl, fun ys hy => by rw [I.list_inj hy hq]; exact hx⟩, st', fun b hb => (hf b hb).1⟩⟩
  done := by
    intro X hP hw hK hc i pins s σ H E I hf st hg
    subst hP hw hK
    obtain ⟨xs, hq, hx⟩ := hg
    obtain ⟨its, rv, p, hz⟩ := I.list hq
    obtain ⟨f0, f1, f2, f3, f4, f5⟩ := hf it (by simp)
    have hl := rv.length
    exact wpAny_pyNext_list_end (I.ok.hd hc) st p.isList (by simp; omega) fun h' eb => ⟨rfl, I.turned (t' := s.toks) (fun b o hb e => eb b o hb e) f0 f1 f3 f4 f5⟩
  self := fun _ _ _ _ _ st h => wpAny_pyIter_listiter st h
theorem turn_range {P : Program} {w : World} {K : PySem.W.Frag} {tg : Expr} (it : Addr) (lo : Int) (n : Nat) : Turn P w K tg (Itr lo n) [it] it (fun i h => IsRangeIter h it (lo + (i : Nat) * 1) ((n : Int) - (i : Nat)) 1) where
  mem := by simp
  obj := fun i h st b hb => by
    have e : b = it := by simpa using hb
    subst e
    exact ⟨_, st, fun v z => by
      have z' : Data.fields _ = Data.cell v := z
      cases z'⟩
  keep := fun i h h' st k => k it (by simp) _ st
  item := by
    intro X hP hw hK hc i pins s σ H E I hf st hg
    subst hP hw hK
    obtain ⟨f0, f1, f2, f3, f4, f5⟩ := hf it (by simp)
    have W := Walks.range (prog := X.prog) (w := X.w) (I.ok.hd hc) it lo 1 n
    refine W.item i s _ _ hg st fun v h' tk hv st' kk => ?_
    obtain ⟨t, rfl⟩ := hv
    have I1 : Inv X pins σ H { s with heap := h', toks := tk } := I.turned (fun b o hb e => kk b o (by simpa using hb) e) f0 f1 f3 f4 f5
    refine ⟨_, rfl, go_of (s := { s with heap := h', toks := tk }) (n := "range_iterator") st' rfl rfl (by decide) ⟨.int (lo + i), H, I1, ⟨t, ?_⟩, ⟨rfl, rfl⟩, st', fun b hb => (hf b hb).1⟩⟩
    rw [Int.mul_one]
  done := by
    intro X hP hw hK hc i pins s σ H E I hf st hg
    subst hP hw hK
    obtain ⟨f0, f1, f2, f3, f4, f5⟩ := hf it (by simp)
    exact wpAny_pyNext_range_end (I.ok.hd hc) st (by have : n ≤ i := hg; omega) fun h' eb => ⟨rfl, I.turned (t' := s.toks) (fun b o hb e => eb b o hb e) f0 f1 f3 f4 f5⟩
  self := fun _ _ _ _ _ st h => wpAny_pyIter_rangeiter st h
end L2

namespace L2
open PySem PySem.Spec PyProof.Rows
section
variable {X : Cx} {tg : Expr}
def iList (K : PySem.W.Frag) (tl : TE) : TI := fun σ H R => tl σ H fun x H1 => ∃ a, x = .ref a ∧ (∃ xs, SqL K H1 a xs) ∧ R (Itl K a) H1
def iTup (K : PySem.W.Frag) (tl : TE) : TI := fun σ H R => tl σ H fun x H1 => ∃ a, x = .ref a ∧ (∃ xs, SqT K H1 a xs) ∧ R (Itt K a) H1
theorem pi_list {l : Expr} {tl : TE} (hl : PE X l tl) : PI X tg l (iList X.K tl) := by
  intro pins s σ H R I h
  refine thn (hl pins s σ H _ I h) fun v s1 ⟨x, H1, I1, r1, q1⟩ => ?_
  obtain ⟨a, e, ⟨xs, hq⟩, q⟩ := q1
  subst e
  cases r1
  obtain ⟨its, rv, p, hz⟩ := I1.list hq
  refine wpAny_pyIter_list p.isList ?_
  refine ⟨s1.heap.objs.size, [s1.heap.objs.size], _, _, H1, rfl, I1.kept (t' := s1.toks) fun b o e => Heap.get?_push_of_some _ e, turn_list a _, ⟨_, Heap.get?_push_size _ rfl, rfl, rfl⟩, fun b hb => ?_, q⟩
  have e : b = s1.heap.objs.size := by simpa using hb
  subst e
  exact I1.fpOk (Nat.le_refl _) (I1.hok.fresh (Nat.le_refl _))
/-- a range object just made, walked -/
theorem range_it {pins : List (Addr × Obj)} {σ : St} {H : Hp} {s : Shared} {R : It → Hp → Prop} {E : Value → Shared → Prop} {lo hi : Int} {t u v : Tok} {tk : Nat} (I : Inv X pins σ H s) (h1 : -(2 ^ 62) ≤ lo) (h2 : lo < 2 ^ 62) (h3 : -(2 ^ 62) ≤ hi) (h4 : hi < 2 ^ 62)
    (q : R (Itr lo (hi - lo).toNat) H) : wpAny (model X.prog X.w) X.A (pyIter (.ref s.heap.objs.size)) (PIE X pins σ tg R) E { s with heap := s.heap.push { cls := .type "range", data := .fields #[.int lo t, .int hi u, .int 1 v] }, toks := tk } := by
  refine wpAny_pyIter_range (IsRange.new ..) (small_one h1 h2 h3 h4) ?_
  have I1 : Inv X pins σ H { s with heap := s.heap.push { cls := .type "range", data := .fields #[.int lo t, .int hi u, .int 1 v] }, toks := tk } := I.kept fun b o e => Heap.get?_push_of_some _ e
  refine ⟨(s.heap.push { cls := .type "range", data := .fields #[.int lo t, .int hi u, .int 1 v] }).objs.size, [(s.heap.push { cls := .type "range", data := .fields #[.int lo t, .int hi u, .int 1 v] }).objs.size], _, _, H, rfl,
    I1.kept (t' := tk) fun b o e => Heap.get?_push_of_some _ e, turn_range _ lo (hi - lo).toNat, ?_, fun b hb => ?_, q⟩
  · have e1 : lo + ((0 : Nat) : Int) * 1 = lo := by simp
    have e2 : (((hi - lo).toNat : Nat) : Int) - ((0 : Nat) : Int) = Builtin.Range.rangeSize lo hi 1 := by rw [rangeSize_one]; split <;> omega
    show IsRangeIter _ _ (lo + ((0 : Nat) : Int) * 1) ((((hi - lo).toNat : Nat) : Int) - ((0 : Nat) : Int)) 1
    rw [e1, e2]
    exact Heap.get?_push_size _ rfl
  · have e : b = (s.heap.push { cls := .type "range", data := .fields #[.int lo t, .int hi u, .int 1 v] }).objs.size := by simpa using hb
    subst e
    exact I1.fpOk (Nat.le_refl _) (I1.hok.fresh (Nat.le_refl _))
def iRng1 (ta : TA) : TI := fun σ H R => ta σ H fun vs H1 => ∃ j : Int, vs = [.int j] ∧ -(2 ^ 62) ≤ j ∧ j < 2 ^ 62 ∧ R (Itr 0 j.toNat) H1
def iRng2 (ta : TA) : TI := fun σ H R => ta σ H fun vs H1 => ∃ i j : Int, vs = [.int i, .int j] ∧ (-(2 ^ 62) ≤ i ∧ i < 2 ^ 62 ∧ -(2 ^ 62) ≤ j ∧ j < 2 ^ 62) ∧ R (Itr i (j - i).toNat) H1
theorem pi_range1 {a : Expr} {ta : TA} {p pos : Pos} (hg : Gl X "range") (hm : X.mg "range" = none) (ha : PA X [a] ta) (hs : starEach [a] X.env = [(false, eval a X.env)] := by rfl) : PI X tg (.Call (.Name "range" p) [a] [] pos) (iRng1 ta) := by
  intro pins s σ H R I h
  refine Call_ (ld_blt I hg hm boot_range (PyProof.Rows.callWith_type1 (thn (ha pos pins s σ H _ I h) fun us s1 ⟨vs, H1, I1, r1, q1⟩ => ?_) hs rfl))
  obtain ⟨j, e, q1, q2, q⟩ := q1
  subst e
  cases r1 with
  | cons r rr =>
    cases rr
    obtain ⟨t, rfl⟩ := r
    exact call_range_1 (range_it I1 (by omega) (by omega) q1 q2 (by simpa using q))
/-! ### for -/
/-- W: the invariant by the turn and a measure; N: what the body is to reach -/
def tFor (wi : TI) (g : TG) (tb : TS) : TS := fun D σ H => wi σ H fun J H1 => ∃ W : Nat → Nat → St → Hp → Prop, (∃ m, W 0 m σ H1) ∧ ∀ i m σ H, W i m σ H →
  (J.stop i H ∧ D.nx σ H) ∨ (J.go i H ∧ ∃ N : St → Hp → Prop, (∀ σ' H', N σ' H' → ∃ m', m' < m ∧ W (i + 1) m' σ' H') ∧ ∀ x H', J.yld i H x H' → g x σ H' fun σ2 H2 => tb { D with nx := N, ct := N, bk := D.nx } σ2 H2)
/-- the records at fp as they stand -/
def pinsAt (fp : List Addr) (h : Heap) : List (Addr × Obj) := fp.filterMap fun b => (h.get? b).map fun o => (b, o)
theorem mem_pinsAt {fp : List Addr} {h : Heap} {b : Addr} {o : Obj} (hb : b ∈ fp) (e : h.get? b = some o) : (b, o) ∈ pinsAt fp h := List.mem_filterMap.mpr ⟨b, hb, by rw [e]; rfl⟩
theorem of_pinsAt {fp : List Addr} {h : Heap} {p : Addr × Obj} (hp : p ∈ pinsAt fp h) : p.1 ∈ fp ∧ h.get? p.1 = some p.2 := by
  obtain ⟨b, hb, e⟩ := List.mem_filterMap.mp hp
  cases q : h.get? b with
  | none => rw [q] at e; cases e
  | some o =>
    rw [q] at e
    have e' : (b, o) = p := Option.some.inj e
    subst e'
    exact ⟨hb, q⟩
theorem Inv.pinned {pins : List (Addr × Obj)} {σ : St} {H : Hp} {s : Shared} {fp : List Addr} (I : Inv X pins σ H s) (hf : ∀ b ∈ fp, FpOk X pins H b) (ho : ∀ b ∈ fp, ∃ o, s.heap.get? b = some o ∧ ∀ v, o.data ≠ .cell v) : Inv X (pins ++ pinsAt fp s.heap) σ H s :=
  I.pins_of fun p hp => (List.mem_append.mp hp).elim (fun z => I.pin p (List.mem_append_right _ z)) fun z => by
    obtain ⟨hb, e⟩ := of_pinsAt z
    obtain ⟨f0, f1, f2, _⟩ := hf p.1 hb
    obtain ⟨o, e', d⟩ := ho p.1 hb
    rw [e] at e'; cases e'
    exact ⟨e, f0, f1, f2, d⟩
theorem Inv.unpinned {pins pl : List (Addr × Obj)} {σ : St} {H : Hp} {s : Shared} (I : Inv X (pins ++ pl) σ H s) : Inv X pins σ H s := I.pins_of fun p hp => I.pin p (List.mem_append_right _ (List.mem_append_left _ hp))
theorem ps_for {iter : Expr} {body : List Stmt} {wi : TI} {g : TG} {tb : TS} {pos : Pos} (hp : PassesOwn (model X.prog X.w) X.A X.env X.xe) (hc : X.calm = true) (hi : PI X tg iter wi) (hg : PG X tg g) (hb : PSs X body tb)
    (hs : ∀ x, foldedSetIterable iter X.env x = pure x := by intro _; rfl) : PS X (.For tg iter body [] pos) (tFor wi g tb) := by
  intro pins s σ H D I h
  refine wpAny_For (thn (hi pins s σ H _ I h) fun v s1 h1 => thn h1 fun itv s2 h2 => ?_) hs
  obtain ⟨it, fp, tn, J, H2, e, I2, T, st2, f2, W, ⟨m0, w0⟩, turn⟩ := h2
  subst e
  -- what stays true of the iterator's objects through the loop
  have stat : ∀ {H' : Hp}, (∀ b ∈ fp, H' b = none) → ∀ b ∈ fp, FpOk X pins H' b := fun hn b hb => ⟨hn b hb, (f2 b hb).2⟩
  refine codeAny_forLoop_any (fun n s' => ∃ i σ' H', Inv X pins σ' H' s' ∧ tn i s'.heap ∧ (∀ b ∈ fp, H' b = none) ∧ W i n σ' H') ?_ m0 ⟨0, σ, H2, I2, st2, fun b hb => (f2 b hb).1, w0⟩
  rintro n s3 ⟨i, σ3, H3, I3, st3, fr3, w3⟩
  rcases turn i n σ3 H3 w3 with ⟨stop, qn⟩ | ⟨go, N, hN, step⟩
  · refine wpAny_passesOwn hp (thn (T.done X rfl rfl rfl hc i pins s3 σ3 H3 X.xe I3 (stat fr3) st3 stop) fun r s4 ⟨hr, I4⟩ => ?_)
    subst hr
    exact wpAny_execs_nil ⟨σ3, H3, I4, qn⟩
  · refine wpAny_passesOwn hp (thn (T.item X rfl rfl rfl hc i pins s3 σ3 H3 X.xe I3 (stat fr3) st3 go) fun r s4 ⟨u, hr, h4⟩ => ?_)
    subst hr
    refine wpAny_passesOwn hp (thn h4 fun _ s5 ⟨x, H5, I5, r5, y5, st5, fr5⟩ => ?_)
    have I5' := I5.pinned (stat fr5) (T.obj _ _ st5)
    refine wpAny_passesOwn hp (thn (hg _ s5 σ3 H5 x u _ I5' r5 (step x H5 y5)) fun _ s6 ⟨σ6, H6, I6, q6⟩ => ?_)
    refine wpAny_passesOwn hp (thn (hb _ s6 σ6 H6 _ I6 q6) fun f s7 q7 => ?_)
    have again : ∀ {σ7 : St} {H7 : Hp}, Inv X (pins ++ pinsAt fp s5.heap) σ7 H7 s7 → N σ7 H7 → ∃ m, m < n ∧ ∃ i σ' H', Inv X pins σ' H' s7 ∧ tn i s7.heap ∧ (∀ b ∈ fp, H' b = none) ∧ W i m σ' H' := fun {σ7 H7} I7 n7 => by
      obtain ⟨m', hm, w7⟩ := hN σ7 H7 n7
      refine ⟨m', hm, i + 1, σ7, H7, I7.unpinned, T.keep _ _ _ st5 fun b hb o e => (I7.pin (b, o) (List.mem_append_right _ (List.mem_append_right _ (mem_pinsAt hb e)))).1, fun b hb => ?_, w7⟩
      obtain ⟨o, e, d⟩ := T.obj _ _ st5 b hb
      exact (I7.pin (b, o) (List.mem_append_right _ (List.mem_append_right _ (mem_pinsAt hb e)))).2.1
    cases f with
    | next => obtain ⟨σ7, H7, I7, n7⟩ := q7; exact again I7 n7
    | cont => obtain ⟨σ7, H7, I7, n7⟩ := q7; exact again I7 n7
    | brk => obtain ⟨σ7, H7, I7, q7⟩ := q7; exact ⟨σ7, H7, I7.unpinned, q7⟩
    | ret v => obtain ⟨x7, σ7, H7, I7, r7, q7⟩ := q7; exact ⟨x7, σ7, H7, I7.unpinned, r7, q7⟩
end

/-! ### the forms one uses -/
/-- over a list that the body leaves as it is -/
theorem for_list {K : PySem.W.Frag} {a : Addr} {xs : List V} {g : TG} {tb : TS} {D : Ends} {σ : St} {H : Hp} (Pv : Nat → St → Hp → Prop) (h0 : Pv 0 σ H) (hl : ∀ i σ H, i ≤ xs.length → Pv i σ H → SqL K H a xs)
    (hs : ∀ i x σ H, xs[i]? = some x → Pv i σ H → g x σ H fun σ2 H2 => tb { D with nx := Pv (i + 1), ct := Pv (i + 1), bk := D.nx } σ2 H2) (hd : ∀ σ H, Pv xs.length σ H → D.nx σ H) :
    ∃ W : Nat → Nat → St → Hp → Prop, (∃ m, W 0 m σ H) ∧ ∀ i m σ H, W i m σ H →
      ((Itl K a).stop i H ∧ D.nx σ H) ∨ ((Itl K a).go i H ∧ ∃ N : St → Hp → Prop, (∀ σ' H', N σ' H' → ∃ m', m' < m ∧ W (i + 1) m' σ' H') ∧ ∀ x H', (Itl K a).yld i H x H' → g x σ H' fun σ2 H2 => tb { D with nx := N, ct := N, bk := D.nx } σ2 H2) := by
  refine ⟨fun i m σ H => m = xs.length - i ∧ i ≤ xs.length ∧ Pv i σ H, ⟨xs.length, by simp, Nat.zero_le _, h0⟩, ?_⟩
  rintro i m σ H ⟨rfl, hi, p⟩
  have q := hl i σ H hi p
  by_cases hlt : i < xs.length
  · refine .inr ⟨⟨xs, xs[i], q, by simp [hlt]⟩, Pv (i + 1), fun σ' H' p' => ⟨xs.length - (i + 1), by omega, rfl, hlt, p'⟩, fun x H' y => ?_⟩
    obtain ⟨e, y⟩ := y
    subst e
    exact hs i x σ _ (y xs q) p
  · have e : i = xs.length := by omega
    subst e
    exact .inl ⟨⟨xs, q, Nat.le_refl _⟩, hd σ H p⟩
theorem for_range {lo : Int} {n : Nat} {g : TG} {tb : TS} {D : Ends} {σ : St} {H : Hp} (Pv : Nat → St → Hp → Prop) (h0 : Pv 0 σ H)
    (hs : ∀ i σ H, i < n → Pv i σ H → g (.int (lo + i)) σ H fun σ2 H2 => tb { D with nx := Pv (i + 1), ct := Pv (i + 1), bk := D.nx } σ2 H2) (hd : ∀ σ H, Pv n σ H → D.nx σ H) :
    ∃ W : Nat → Nat → St → Hp → Prop, (∃ m, W 0 m σ H) ∧ ∀ i m σ H, W i m σ H →
      ((Itr lo n).stop i H ∧ D.nx σ H) ∨ ((Itr lo n).go i H ∧ ∃ N : St → Hp → Prop, (∀ σ' H', N σ' H' → ∃ m', m' < m ∧ W (i + 1) m' σ' H') ∧ ∀ x H', (Itr lo n).yld i H x H' → g x σ H' fun σ2 H2 => tb { D with nx := N, ct := N, bk := D.nx } σ2 H2) := by
  refine ⟨fun i m σ H => m = n - i ∧ i ≤ n ∧ Pv i σ H, ⟨n, by simp, Nat.zero_le _, h0⟩, ?_⟩
  rintro i m σ H ⟨rfl, hi, p⟩
  by_cases hlt : i < n
  · refine .inr ⟨hlt, Pv (i + 1), fun σ' H' p' => ⟨n - (i + 1), by omega, rfl, hlt, p'⟩, fun x H' y => ?_⟩
    obtain ⟨e, y⟩ := y
    subst e y
    exact hs i σ _ hlt p
  · have e : i = n := by omega
    subst e
    exact .inl ⟨Nat.le_refl _, hd σ H p⟩
end L2

namespace L2
open PySem PySem.Spec PyProof.Rows

abbrev R2 := V → V → Hp → VK → Prop
/-- a two-place operation on values: f is binaryOp op, inplaceOp op or compareOp op -/
def OpR (X : Cx) (f : Value → Value → Sem Value) (r : R2) : Prop :=
  ∀ (pins : List (Addr × Obj)) (s : Shared) (σ : St) (H : Hp) (x y : V) (v u : Value) (Q : VK), Inv X pins σ H s → RelV x v → RelV y u → r x y H Q →
    wpAny (model X.prog X.w) X.A (f v u) (EP X pins σ Q) X.xe s
/-- a one-place operation -/
def UnR (X : Cx) (f : Value → Sem Value) (r : V → Hp → VK → Prop) : Prop :=
  ∀ (pins : List (Addr × Obj)) (s : Shared) (σ : St) (H : Hp) (x : V) (v : Value) (Q : VK), Inv X pins σ H s → RelV x v → r x H Q →
    wpAny (model X.prog X.w) X.A (f v) (EP X pins σ Q) X.xe s
/-- a call of a value that is known (a builtin, a type) with values -/
def CallR (X : Cx) (f : Value) (r : List V → Hp → VK → Prop) : Prop :=
  ∀ (pins : List (Addr × Obj)) (s : Shared) (σ : St) (H : Hp) (xs : List V) (us : List Value) (Q : VK), Inv X pins σ H s → Vals xs us → r xs H Q →
    wpAny (model X.prog X.w) X.A (call f us) (EP X pins σ Q) X.xe s
/-- a value's truth -/
def TruR (X : Cx) (r : V → Hp → (Bool → Hp → Prop) → Prop) : Prop :=
  ∀ (pins : List (Addr × Obj)) (s : Shared) (σ : St) (H : Hp) (x : V) (v : Value) (Q : Bool → Hp → Prop), Inv X pins σ H s → RelV x v → r x H Q →
    wpAny (model X.prog X.w) X.A (truthy v) (TP X pins σ Q) X.xe s

def tOp (r : R2) (ta tb : TE) : TE := fun σ H Q => ta σ H fun x H1 => tb σ H1 fun y H2 => r x y H2 Q
def tUn (r : V → Hp → VK → Prop) (ta : TE) : TE := fun σ H Q => ta σ H fun x H1 => r x H1 Q
/-- ints in, under C, and a value out -/
def rI (C : Int → Int → Prop) (g : Int → Int → V) : R2 := fun x y H Q => ∃ i j, x = .int i ∧ y = .int j ∧ C i j ∧ Q (g i j) H
def rI0 (g : Int → Int → V) : R2 := fun x y H Q => ∃ i j, x = .int i ∧ y = .int j ∧ Q (g i j) H
def rU (g : Int → V) : V → Hp → VK → Prop := fun x H Q => ∃ i, x = .int i ∧ Q (g i) H

section
variable {X : Cx} {a b c : Expr} {ta tb tc : TE} {pos : Pos}

theorem binT (ha : PE X a ta) (hb : PE X b tb) {pins : List (Addr × Obj)} {s : Shared} {σ : St} {H : Hp} {R : V → V → Hp → Prop} (I : Inv X pins σ H s)
    (h : ta σ H fun x H1 => tb σ H1 fun y H2 => R x y H2) {Q : Value → Shared → Prop} {f : Value → Value → Sem Value}
    (hf : ∀ v u s2 x y H2, Inv X pins σ H2 s2 → RelV x v → RelV y u → R x y H2 → wpAny (model X.prog X.w) X.A (f v u) Q X.xe s2) :
    wpAny (model X.prog X.w) X.A (eval a X.env) (fun v s₁ => wpAny (model X.prog X.w) X.A (eval b X.env) (fun u s₂ => wpAny (model X.prog X.w) X.A (f v u) Q X.xe s₂) X.xe s₁) X.xe s := by
  refine thn (ha pins s σ H _ I h) fun v s1 ⟨x, H1, I1, r1, q1⟩ => ?_
  refine thn (hb pins s1 σ H1 _ I1 q1) fun u s2 ⟨y, H2, I2, r2, q2⟩ => ?_
  exact hf v u s2 x y H2 I2 r1 r2 q2

theorem pe_op {op : Operator} {r : R2} (ho : OpR X (binaryOp op) r) (ha : PE X a ta) (hb : PE X b tb) : PE X (.BinOp a op b pos) (tOp r ta tb) := by
  intro pins s σ H Q I h
  exact wpAny_BinOp (binT ha hb I h fun v u s2 x y H2 I2 rx ry q => ho pins s2 σ H2 x y v u Q I2 rx ry q)
theorem pe_un {op : UnaryOp} {r : V → Hp → VK → Prop} (ho : UnR X (unaryOp op) r) (ha : PE X a ta) : PE X (.UnaryOp op a pos) (tUn r ta) := by
  intro pins s σ H Q I h
  exact UnaryOp_ (thn (ha pins s σ H _ I h) fun v s1 ⟨x, H1, I1, r1, q1⟩ => ho pins s1 σ H1 x v Q I1 r1 q1)
/-! ### ints -/
theorem opI {f : Value → Value → Sem Value} {C : Int → Int → Prop} {g : Int → Int → Int}
    (rule : ∀ (i j : Int) (t u : Tok) (s : Shared) (Q : Value → Shared → Prop) (E : Value → Shared → Prop), C i j → Q (.int (g i j) s.toks) { s with toks := s.toks + 1 } → wpAny (model X.prog X.w) X.A (f (.int i t) (.int j u)) Q E s) :
    OpR X f (rI C fun i j => .int (g i j)) := by
  intro pins s σ H x y v u Q I rx ry h
  obtain ⟨i, j, rfl, rfl, hc, q⟩ := h
  obtain ⟨t, rfl⟩ := rx
  obtain ⟨t', rfl⟩ := ry
  exact rule i j t t' s _ _ hc ⟨.int (g i j), H, I.tok _, ⟨_, rfl⟩, q⟩
theorem opI0 {f : Value → Value → Sem Value} {g : Int → Int → Int}
    (rule : ∀ (i j : Int) (t u : Tok) (s : Shared) (Q : Value → Shared → Prop) (E : Value → Shared → Prop), Q (.int (g i j) s.toks) { s with toks := s.toks + 1 } → wpAny (model X.prog X.w) X.A (f (.int i t) (.int j u)) Q E s) :
    OpR X f (rI0 fun i j => .int (g i j)) := by
  intro pins s σ H x y v u Q I rx ry h
  obtain ⟨i, j, rfl, rfl, q⟩ := h
  obtain ⟨t, rfl⟩ := rx
  obtain ⟨t', rfl⟩ := ry
  exact rule i j t t' s _ _ ⟨.int (g i j), H, I.tok _, ⟨_, rfl⟩, q⟩
theorem opB0 {f : Value → Value → Sem Value} {g : Int → Int → Bool}
    (rule : ∀ (i j : Int) (t u : Tok) (s : Shared) (Q : Value → Shared → Prop) (E : Value → Shared → Prop), Q (.bool (g i j)) s → wpAny (model X.prog X.w) X.A (f (.int i t) (.int j u)) Q E s) :
    OpR X f (rI0 fun i j => .bl (g i j)) := by
  intro pins s σ H x y v u Q I rx ry h
  obtain ⟨i, j, rfl, rfl, q⟩ := h
  obtain ⟨t, rfl⟩ := rx
  obtain ⟨t', rfl⟩ := ry
  exact rule i j t t' s _ _ ⟨.bl (g i j), H, I, rfl, q⟩

def CDiv (i j : Int) : Prop := 0 < j ∧ j < 1073741824
def CDivN (i j : Int) : Prop := j ≠ 0 ∧ j.natAbs < 1073741824
def CPow (i j : Int) : Prop := 0 ≤ j ∧ j ≤ 1000000 ∧ i.natAbs < 2 ^ 64
def CMul (i j : Int) : Prop := (-(2 ^ 64) < i ∧ i < 2 ^ 64) ∨ (-(2 ^ 64) < j ∧ j < 2 ^ 64)
theorem op_add : OpR X (binaryOp .Add) (rI0 fun i j => .int (i + j)) := opI0 fun _ _ _ _ _ _ _ q => add_int q
theorem op_sub : OpR X (binaryOp .Sub) (rI0 fun i j => .int (i - j)) := opI0 fun _ _ _ _ _ _ _ q => sub_int q
/-- // by a positive divisor -/
theorem op_fdiv : OpR X (binaryOp .FloorDiv) (rI CDiv fun i j => .int (i / j)) := opI fun i j _ _ _ _ _ hc q => by
  have h1 : (0 : Int) < j := hc.1
  have h2 : j < 1073741824 := hc.2
  exact floordiv_int (by omega) (by rw [Int.fdiv_eq_ediv_of_nonneg i (by omega)]; exact q) (.inl (PyProof.noPylong_small (by omega)))
/-- % by a positive divisor of any size -/
theorem op_mod : OpR X (binaryOp .Mod) (rI (fun _ j => 0 < j) fun i j => .int (i % j)) := opI fun i j _ _ _ _ _ hc q => by
  have h1 : (0 : Int) < j := hc
  exact mod_int' (by omega) (by rw [Int.fmod_eq_emod_of_nonneg i (by omega)]; exact q)
theorem op_pow : OpR X (binaryOp .Pow) (rI CPow fun i j => .int (i ^ j.toNat)) := opI fun _ _ _ _ _ _ _ hc q => pow_int_small hc.1 hc.2.1 hc.2.2 q
theorem op_shl : OpR X (binaryOp .LShift) (rI CPow fun i j => .int (i * 2 ^ j.toNat)) := opI fun _ _ _ _ _ _ _ hc q => lshift_int_small hc.1 hc.2.1 hc.2.2 q
theorem unI {f : Value → Sem Value} {g : Int → Int}
    (rule : ∀ (i : Int) (t : Tok) (s : Shared) (Q : Value → Shared → Prop) (E : Value → Shared → Prop), Q (.int (g i) s.toks) { s with toks := s.toks + 1 } → wpAny (model X.prog X.w) X.A (f (.int i t)) Q E s) :
    UnR X f (rU fun i => .int (g i)) := by
  intro pins s σ H x v Q I rx h
  obtain ⟨i, rfl, q⟩ := h
  obtain ⟨t, rfl⟩ := rx
  exact rule i t s _ _ ⟨.int (g i), H, I.tok _, ⟨_, rfl⟩, q⟩
theorem un_neg : UnR X (unaryOp .USub) (rU fun i => .int (-i)) := unI fun _ _ _ _ _ q => neg_int q
/-! ### bools among ints: n += (a < b) -/
end

/-! ### comparisons -/
/-- the scalars that == tells apart as data does -/
def scal : V → V → Bool
  | .non, .non => true | .non, .int _ => true | .int _, .non => true | .non, .bl _ => true | .bl _, .non => true | .non, .str _ => true | .str _, .non => true
  | .int _, .int _ => true | .bl _, .bl _ => true | .str _, .str _ => true | .byt _, .byt _ => true
  | .int _, .str _ => true | .str _, .int _ => true | .bl _, .str _ => true | .str _, .bl _ => true
  | _, _ => false
def rEq : R2 := fun x y H Q => scal x y = true ∧ Q (.bl (decide (x = y))) H
def rNe : R2 := fun x y H Q => scal x y = true ∧ Q (.bl (!decide (x = y))) H

theorem dec_int {i j : Int} : decide (V.int i = V.int j) = (i == j) := by
  rw [Bool.eq_iff_iff]
  simp
theorem dec_bl {i j : Bool} : decide (V.bl i = V.bl j) = (i == j) := by
  rw [Bool.eq_iff_iff]
  simp
theorem dec_str {i j : Str} : decide (V.str i = V.str j) = (i == j) := by
  rw [Bool.eq_iff_iff]
  simp
theorem dec_byt {i j : Array UInt8} : decide (V.byt i = V.byt j) = (i.toList == j.toList) := by
  rw [Bool.eq_iff_iff]
  cases i
  cases j
  simp

section
variable {X : Cx} {a b c : Expr} {ta tb tc : TE} {pos : Pos}
theorem fin_bl {pins : List (Addr × Obj)} {σ : St} {H : Hp} {s : Shared} {Q : VK} {k k' : Bool} (I : Inv X pins σ H s) (q : Q (.bl k) H) (e : k = k') : EP X pins σ Q (.bool k') s := by
  subst e
  exact ⟨.bl k, H, I, rfl, q⟩
theorem op_eq : OpR X (compareOp .Eq) rEq := by
  intro pins s σ H x y v u Q I rx ry h
  obtain ⟨hs, q⟩ := h
  cases x with
  | non =>
    cases rx
    cases y with
    | non => cases ry; exact PySem.EqNone.eq_none_none (fin_bl I q (by simp))
    | bl j => cases ry; exact PySem.EqNone.eq_none_bool (fin_bl I q (by simp))
    | int j => obtain ⟨t', rfl⟩ := ry; exact PySem.EqNone.eq_none_int (fin_bl I q (by simp))
    | str j => obtain ⟨t', rfl⟩ := ry; exact PySem.EqNone.eq_none_str (fin_bl I q (by simp))
    | _ => exact absurd (show false = true from hs) Bool.false_ne_true
  | bl i =>
    cases rx
    cases y with
    | non => cases ry; exact PySem.EqNone.eq_bool_none (fin_bl I q (by simp))
    | bl j => cases ry; exact eq_bool (fin_bl I q dec_bl)
    | str j => obtain ⟨t', rfl⟩ := ry; exact PySem.EqMixed.eq_bool_str (fin_bl I q (by simp))
    | _ => exact absurd (show false = true from hs) Bool.false_ne_true
  | int i =>
    obtain ⟨t, rfl⟩ := rx
    cases y with
    | non => cases ry; exact PySem.EqNone.eq_int_none (fin_bl I q (by simp))
    | int j => obtain ⟨t', rfl⟩ := ry; exact eq_int (fin_bl I q dec_int)
    | str j => obtain ⟨t', rfl⟩ := ry; exact PySem.EqMixed.eq_int_str (fin_bl I q (by simp))
    | _ => exact absurd (show false = true from hs) Bool.false_ne_true
  | str i =>
    obtain ⟨t, rfl⟩ := rx
    cases y with
    | non => cases ry; exact PySem.EqNone.eq_str_none (fin_bl I q (by simp))
    | bl j => cases ry; exact PySem.EqMixed.eq_str_bool (fin_bl I q (by simp))
    | int j => obtain ⟨t', rfl⟩ := ry; exact PySem.EqMixed.eq_str_int (fin_bl I q (by simp))
    | str j => obtain ⟨t', rfl⟩ := ry; exact eq_str (fin_bl I q dec_str)
    | _ => exact absurd (show false = true from hs) Bool.false_ne_true
  | byt i =>
    obtain ⟨t, rfl⟩ := rx
    cases y with
    | byt j => obtain ⟨t', rfl⟩ := ry; exact PySem.W.eq_bytes (fin_bl I q dec_byt)
    | _ => exact absurd (show false = true from hs) Bool.false_ne_true
  | _ => cases y <;> exact absurd (show false = true from hs) Bool.false_ne_true
theorem op_ne : OpR X (compareOp .NotEq) rNe := by
  intro pins s σ H x y v u Q I rx ry h
  obtain ⟨hs, q⟩ := h
  cases x with
  | non =>
    cases rx
    cases y with
    | non => cases ry; exact PySem.EqNone.ne_none_none (fin_bl I q (by simp))
    | bl j => cases ry; exact PySem.EqNone.ne_none_bool (fin_bl I q (by simp))
    | int j => obtain ⟨t', rfl⟩ := ry; exact PySem.EqNone.ne_none_int (fin_bl I q (by simp))
    | str j => obtain ⟨t', rfl⟩ := ry; exact PySem.EqNone.ne_none_str (fin_bl I q (by simp))
    | _ => exact absurd (show false = true from hs) Bool.false_ne_true
  | bl i =>
    cases rx
    cases y with
    | non => cases ry; exact PySem.EqNone.ne_bool_none (fin_bl I q (by simp))
    | bl j => cases ry; exact ne_bool (fin_bl I q (congrArg not dec_bl))
    | str j => obtain ⟨t', rfl⟩ := ry; exact PySem.EqMixed.ne_bool_str (fin_bl I q (by simp))
    | _ => exact absurd (show false = true from hs) Bool.false_ne_true
  | int i =>
    obtain ⟨t, rfl⟩ := rx
    cases y with
    | non => cases ry; exact PySem.EqNone.ne_int_none (fin_bl I q (by simp))
    | int j => obtain ⟨t', rfl⟩ := ry; exact ne_int (fin_bl I q (congrArg not dec_int))
    | str j => obtain ⟨t', rfl⟩ := ry; exact PySem.EqMixed.ne_int_str (fin_bl I q (by simp))
    | _ => exact absurd (show false = true from hs) Bool.false_ne_true
  | str i =>
    obtain ⟨t, rfl⟩ := rx
    cases y with
    | non => cases ry; exact PySem.EqNone.ne_str_none (fin_bl I q (by simp))
    | bl j => cases ry; exact PySem.EqMixed.ne_str_bool (fin_bl I q (by simp))
    | int j => obtain ⟨t', rfl⟩ := ry; exact PySem.EqMixed.ne_str_int (fin_bl I q (by simp))
    | str j => obtain ⟨t', rfl⟩ := ry; exact ne_str (fin_bl I q (congrArg not dec_str))
    | _ => exact absurd (show false = true from hs) Bool.false_ne_true
  | byt i =>
    obtain ⟨t, rfl⟩ := rx
    cases y with
    | byt j => obtain ⟨t', rfl⟩ := ry; exact PySem.W.ne_bytes (fin_bl I q (congrArg not dec_byt))
    | _ => exact absurd (show false = true from hs) Bool.false_ne_true
  | _ => cases y <;> exact absurd (show false = true from hs) Bool.false_ne_true

theorem op_lt : OpR X (compareOp .Lt) (rI0 fun i j => .bl (decide (i < j))) := opB0 fun _ _ _ _ _ _ _ q => lt_int q
theorem op_le : OpR X (compareOp .LtE) (rI0 fun i j => .bl (decide (i ≤ j))) := opB0 fun _ _ _ _ _ _ _ q => le_int q
theorem op_ge : OpR X (compareOp .GtE) (rI0 fun i j => .bl (decide (j ≤ i))) := opB0 fun _ _ _ _ _ _ _ q => ge_int q
/-- is, is not of two objects that are tracked lists or instances -/
def isObj : HO → Bool
  | .lst _ => true
  | .ins _ _ _ => true
  | _ => false
theorem nomark (b : Expr) {op : CmpOp} (h : op ≠ .In := by decide) (h2 : op ≠ .NotIn := by decide) : behindInMarks op b = false := by
  have e1 : (op == CmpOp.In) = false := by cases op <;> first | rfl | exact absurd rfl h
  have e2 : (op == CmpOp.NotIn) = false := by cases op <;> first | rfl | exact absurd rfl h2
  cases b <;> simp [behindInMarks, e1, e2]
/-- a comparison as a value; hm: nomark b, or (for in, not in) by with_unfolding_all rfl -/
theorem pe_cmpR {op : CmpOp} {r : R2} (ho : OpR X (compareOp op) r) (ha : PE X a ta) (hb : PE X b tb) (hm : behindInMarks op b = false) : PE X (.Compare a [op] [b] pos) (tOp r ta tb) := by
  intro pins s σ H Q I h
  exact wpAny_Compare1 (binT ha hb I h fun v u s2 x y H2 I2 rx ry q => ho pins s2 σ H2 x y v u Q I2 rx ry q) hm
/-- a reading of a value as a test -/
def tTest (t : TE) : TT := fun σ H Q => t σ H fun x H' => ∃ k, x = .bl k ∧ Q k H'
theorem pt_cmpR {op : CmpOp} {r : R2} (ho : OpR X (compareOp op) r) (ha : PE X a ta) (hb : PE X b tb) (hm : behindInMarks op b = false) : PT X (.Compare a [op] [b] pos) (tTest (tOp r ta tb)) := by
  intro pins s σ H Q I h
  refine wpAny_isTrue_Compare1 (thn (ha pins s σ H _ I h) fun v s1 ⟨x, H1, I1, r1, q1⟩ => thn (hb pins s1 σ H1 _ I1 q1) fun u s2 ⟨y, H2, I2, r2, q2⟩ =>
    thn (ho pins s2 σ H2 x y v u _ I2 r1 r2 q2) fun c s3 ⟨z, H3, I3, r3, k, e, q3⟩ => ?_) hm
  subst e
  cases r3
  exact wpAny_truthy_bool ⟨H3, I3, q3⟩
/-- a op1 b op2 c -/
def tChain (r r' : R2) (ta tb tc : TE) : TE := fun σ H Q => ta σ H fun x H1 => tb σ H1 fun y H2 => r x y H2 fun z H3 => ∃ k, z = .bl k ∧
  (if k = true then tc σ H3 fun w' H4 => r' y w' H4 Q else Q (.bl false) H3)
theorem pt_chain {op op' : CmpOp} {r r' : R2} (ho : OpR X (compareOp op) r) (ho' : OpR X (compareOp op') r') (ha : PE X a ta) (hb : PE X b tb) (hc : PE X c tc)
    (hm : lastMarks [op, op'] [b, c] = false := by with_unfolding_all rfl) : PT X (.Compare a [op, op'] [b, c] pos) (tTest (tChain r r' ta tb tc)) := by
  intro pins s σ H Q I h
  refine isTrue_chain (thn (ha pins s σ H _ I h) fun v s1 ⟨x, H1, I1, r1, q1⟩ => test_link (thn (hb pins s1 σ H1 _ I1 q1) fun u s2 ⟨y, H2, I2, r2, q2⟩ =>
    thn (ho pins s2 σ H2 x y v u _ I2 r1 r2 q2) fun d s3 ⟨z, H3, I3, r3, k, e, q3⟩ => ?_)) hm
  subst e
  cases r3
  refine wpAny_truthy_bool ?_
  cases k with
  | false =>
    obtain ⟨k', e', q'⟩ := q3
    cases e'
    exact ite_ff ⟨H3, I3, q'⟩
  | true =>
    refine ite_tt (test_last (thn (hc pins s3 σ H3 _ I3 q3) fun w' s4 ⟨z', H4, I4, r4, q4⟩ => thn (ho' pins s4 σ H4 y z' u w' _ I4 r2 r4 q4) fun d' s5 ⟨z2, H5, I5, r5, k2, e2, q5⟩ => ?_))
    subst e2
    cases r5
    exact wpAny_truthy_bool ⟨H5, I5, q5⟩

/-! ### truth -/
/-- a value's truth by the abstract heap -/
def TruV (K : PySem.W.Frag) (x : V) (H : Hp) (k : Bool) : Prop :=
  match x with
  | .non => k = false
  | .bl b => k = b
  | .int i => k = (i != 0)
  | .str y => y.length ≤ sizeLine ∧ k = ((y.length : Int) != 0)
  | .byt y => y.size ≤ sizeLine ∧ k = ((y.size : Int) != 0)
  | .ref p => (∃ xs, SqL K H p xs ∧ k = !xs.isEmpty) ∨ (∃ xs, SqT K H p xs ∧ k = !xs.isEmpty) ∨ ∃ kvs, H p = some (.dK kvs) ∧ k = !kvs.isEmpty
  | _ => False
theorem line63 : (sizeLine : Nat) < 2 ^ 63 := by rw [sizeLine_eq]; decide
/-! ### strs and bytes -/
def PlainIxT (b : Expr) : Prop := ∀ o i, subscripted b false o i = operate [o, i] (getItem o i)
/-! ### scalar builtins, by CallR -/
theorem vals1 {x : V} {us : List Value} (r : Vals [x] us) : ∃ u, us = [u] ∧ RelV x u := by
  cases r with
  | cons r1 r2 => cases r2; exact ⟨_, rfl, r1⟩
theorem vals2 {x y : V} {us : List Value} (r : Vals [x, y] us) : ∃ u w', us = [u, w'] ∧ RelV x u ∧ RelV y w' := by
  cases r with
  | cons r1 r2 =>
    cases r2 with
    | cons r3 r4 => cases r4; exact ⟨_, _, rfl, r1, r3⟩
theorem call_min2 (hc : X.calm = true) : CallR X (.builtin "min") (fun xs H Q => ∃ i j, xs = [.int i, .int j] ∧ Q (.int (if j < i then j else i)) H) := by
  intro pins s σ H xs us Q I r h
  obtain ⟨i, j, rfl, q⟩ := h
  obtain ⟨u, w', rfl, ⟨t, rfl⟩, ⟨t', rfl⟩⟩ := vals2 r
  refine min_two_ints (I.ok.hd hc) fun h' tk k => ⟨_, H, I.kept k, ?_, q⟩
  by_cases hj : j < i
  · rw [if_pos hj, if_pos hj]; exact ⟨_, rfl⟩
  · rw [if_neg hj, if_neg hj]; exact ⟨_, rfl⟩
/-- len of a str, a bytes, a list, a tuple -/
def LenV (K : PySem.W.Frag) (x : V) (H : Hp) (n : Nat) : Prop :=
  match x with
  | .str y => y.length ≤ sizeLine ∧ n = y.length
  | .byt y => y.size ≤ sizeLine ∧ n = y.size
  | .ref p => (∃ xs, SqL K H p xs ∧ n = xs.length) ∨ ∃ xs, SqT K H p xs ∧ n = xs.length
  | _ => False
end
end L2

namespace L2
open PySem PySem.Spec PyProof.Rows

/-! ### an instance, its attributes a map -/
structure ObjM (h : Heap) (x dx C : Addr) (mA : Str → Option Value) : Prop where
  obj : h.get? x = some (PySem.W.instObj C dx)
  ns : h.Ns1 dx mA
  ne : dx ≠ x

section
variable {prog : Program} {w : World} {A : Around} {E : Value → Shared → Prop} {s : Shared} {K : PySem.W.Frag} {x dx C f : Addr} {mA : Str → Option Value} {name : Str} {v : Value}

end

/-! ### the attributes as a list of pairs -/
def putF (f : Str) (v : V) : List (Str × V) → List (Str × V)
  | [] => [(f, v)]
  | (g, x) :: r => if g = f then (g, v) :: r else (g, x) :: putF f v r
section
variable {P : Program} {w : World} {H H' : Hp} {h h' : Heap} {a C dx : Addr} {fs fs' : List (Str × V)}
end

/-! ### what of the text a class must have -/
structure Cls (K : PySem.W.Frag) (C : Addr) : Prop where
  pg : PySem.W.plainGet K C Str.empty = true
  hd : PySem.W.hasDictIn K C = true
  po : PySem.W.plainOver K C = true
  sa : PySem.W.findIn K (.ref C) "__setattr__" = some (some (.builtin "object.__setattr__"))
/-- no class of it has the name -/
def NoAttr (K : PySem.W.Frag) (C : Addr) (f : Str) : Prop := PySem.W.findIn K (.ref C) f = some none
/-- a constant of the class -/
structure Con (K : PySem.W.Frag) (C : Addr) (f : Str) (v : V) (u : Value) : Prop where
  at_ : PySem.W.findIn K (.ref C) f = some (some u)
  rel : RelV v u
  get : PySem.W.specialIn K u "__get__" = some none
  cp : PySem.W.copiedNames.contains f = false
/-- a method: a plain def of the class or of one above it -/
structure Meth (K : PySem.W.Frag) (C : Addr) (m : Str) (f : Addr) : Prop where
  at_ : PySem.W.findIn K (.ref C) m = some (some (.ref f))
  fn : PySem.W.isFn K (.ref f) = true
  kp : PySem.W.keepIn K (.ref f) = true

section
variable {X : Cx} {pins : List (Addr × Obj)} {σ : St} {H : Hp} {s : Shared} {a C dx : Addr} {fs : List (Str × V)} {f : Str} {v : V} {A : Around} {E : Value → Shared → Prop}

end

/-! ### readings and rules -/
/-- e.f, an attribute of the instance -/
def tFld (K : PySem.W.Frag) (ta : TE) (f : Str) : TE := fun σ H Q => ta σ H fun x H1 => ∃ a C dx fs v, x = .ref a ∧ H1 a = some (.ins C dx fs) ∧ Cls K C ∧ NoAttr K C f ∧ fs.lookup f = some v ∧ Q v H1
/-- e.f, a constant of the class -/
def tCon (K : PySem.W.Frag) (ta : TE) (f : Str) : TE := fun σ H Q => ta σ H fun x H1 => ∃ a C dx fs v u, x = .ref a ∧ H1 a = some (.ins C dx fs) ∧ Cls K C ∧ Con K C f v u ∧ fs.lookup f = none ∧ Q v H1
/-- e.f = value -/
def sFld (K : PySem.W.Frag) (ta tv : TE) (f : Str) : TS := fun D σ H => tv σ H fun y H1 => ta σ H1 fun x H2 => ∃ a C dx fs, x = .ref a ∧ H2 a = some (.ins C dx fs) ∧ Cls K C ∧ NoAttr K C f ∧ fs.length < 1000 ∧
  D.nx σ (upd H2 a (.ins C dx (putF f y fs)))
/-- an augmented operator on two values -/
def InOp (X : Cx) (op : Operator) (rd : V → V → Hp → VK → Prop) : Prop :=
  ∀ (pins : List (Addr × Obj)) (s : Shared) (σ : St) (H : Hp) (x y : V) (u v : Value) (Q : VK), Inv X pins σ H s → RelV x u → RelV y v → rd x y H Q → wpAny (model X.prog X.w) X.A (inplaceOp op u v) (EP X pins σ Q) X.xe s
/-- e.f op= value -/
def sFldAug (K : PySem.W.Frag) (ta tv : TE) (rd : V → V → Hp → VK → Prop) (f : Str) : TS := fun D σ H => ta σ H fun x H1 => ∃ a C dx fs v, x = .ref a ∧ H1 a = some (.ins C dx fs) ∧ Cls K C ∧ NoAttr K C f ∧ fs.lookup f = some v ∧
  tv σ H1 fun y H2 => rd v y H2 fun z H3 => ∃ dx' fs', H3 a = some (.ins C dx' fs') ∧ fs'.length < 1000 ∧ D.nx σ (upd H3 a (.ins C dx' (putF f z fs')))

section
variable {X : Cx} {o e value : Expr} {f : Str} {pos pos' tpos : Pos} {ta tv : TE}
def rAdd : V → V → Hp → VK → Prop := fun x y H Q => ∃ i j, x = .int i ∧ y = .int j ∧ Q (.int (i + j)) H
def rSub : V → V → Hp → VK → Prop := fun x y H Q => ∃ i j, x = .int i ∧ y = .int j ∧ Q (.int (i - j)) H
end

/-! ### isinstance -/
section
variable {X : Cx} {pins : List (Addr × Obj)} {σ : St} {H : Hp} {s : Shared} {A : Around} {E : Value → Shared → Prop} {Q : Value → Shared → Prop} {c : Value} {b : Bool}
/-- the type of a value, as the fragment's deciders take it; for an instance its class -/
inductive TyOf (K : PySem.W.Frag) (H : Hp) : V → Value → Prop where
  | non : TyOf K H .non (.type "NoneType")
  | bl (x : Bool) : TyOf K H (.bl x) (.type "bool")
  | int (i : Int) : TyOf K H (.int i) (.type "int")
  | str (x : Str) : TyOf K H (.str x) (.type "str")
  | flt (x : UInt64) : TyOf K H (.flt x) (.type "float")
  | lst {a : Addr} {xs : List V} (e : H a = some (.lst xs)) : TyOf K H (.ref a) (.type "list")
  | frz {a : Addr} {o : Obj} {xs : List V} (e : H a = some (.frz o (.lst xs))) : TyOf K H (.ref a) (.type "list")
  | tup {a : Addr} {xs : List V} (e : H a = some (.tup xs)) : TyOf K H (.ref a) (.type "tuple")
  | dK {a : Addr} {kvs : List (Key × V)} (e : H a = some (.dK kvs)) : TyOf K H (.ref a) (.type "dict")
  | dT {a : Addr} {kvs : List (List Key × V)} (e : H a = some (.dT kvs)) : TyOf K H (.ref a) (.type "dict")
  | ins {a C dx : Addr} {fs : List (Str × V)} (e : H a = some (.ins C dx fs)) (cl : Cls K C) (ha : PySem.W.findIn K (.ref C) "__class__" = some (some (.builtin "object.__class__")))
      (hn : PySem.W.specialIn K (.builtin "object.__class__") "__get__" = some (some (.builtin "getset_descriptor.__get__"))) (htk : PySem.W.takesIn K (.builtin "object.__class__") = some true)
      (hm : PySem.W.mroIn K C (.type "object") = some true) : TyOf K H (.ref a) (.ref C)
end
end L2

namespace L2
open PySem PySem.Spec PyProof.Rows

/-! ### room -/
structure Room (k : Nat) (A : Around) : Prop where
  hd : A.handled = none
  dp : A.depth + 3 * k + 5 < recursionLimit
  un : A.units + 16 * k + 200 < cLine
theorem Room.mono {j k : Nat} {A : Around} (r : Room k A) (h : j ≤ k) : Room j A := ⟨r.hd, by have := r.dp; omega, by have := r.un; omega⟩
theorem Room.deeper {k : Nat} {A : Around} (r : Room (k + 1) A) (env : Env) : Room k (A.deeper env) :=
  ⟨r.hd, by have := r.dp; show A.depth + 1 + 3 * k + 5 < _; omega, by have := r.un; show A.units + 3 + 16 * k + 200 < _; omega⟩
theorem Room.in1 {k : Nat} {A : Around} (r : Room (k + 1) A) : Room k A.in1 :=
  ⟨r.hd, by have := r.dp; show A.depth + 3 * k + 5 < _; omega, by have := r.un; show A.units + 1 + 16 * k + 200 < _; omega⟩
theorem Room.depth {k : Nat} {A : Around} (r : Room k A) : A.depth < recursionLimit := by have := r.dp; omega
theorem Room.units {k : Nat} {A : Around} (r : Room k A) : A.units + 64 < cLine := by have := r.un; omega
/-! ### argument lists and displays -/
def tNil : TA := fun _ H Q => Q [] H
def tCons (ta : TE) (tr : TA) : TA := fun σ H Q => ta σ H fun x H1 => tr σ H1 fun xs H2 => Q (x :: xs) H2
section
variable {X : Cx} {e : Expr} {es : List Expr} {te : TE} {t : TA} {pos : Pos}
theorem pa_nil : PA X [] tNil := fun _ _ _ _ H Q I h => Calls.spliced_nil ⟨[], H, I, .nil, h⟩
theorem pa_cons (ha : PE X e te) (hr : PA X es t) (hs : starEach (e :: es) X.env = (false, eval e X.env) :: starEach es X.env := by rfl) : PA X (e :: es) (tCons te t) := by
  intro pos pins s σ H Q I h
  rw [hs]
  show wpAny _ _ (spliced ((false, eval e X.env) :: backTo pos (starEach es X.env))) _ _ s
  refine Calls.spliced_cons (thn (ha pins s σ H _ I h) fun u s1 ⟨x, H1, I1, r1, q1⟩ => ?_)
  exact thn (hr pos pins s1 σ H1 _ I1 q1) fun us s2 ⟨xs, H2, I2, r2, q2⟩ => ⟨x :: xs, H2, I2, .cons r1 r2, q2⟩

/-- a tuple, a list of written items -/
def tTup (t : TA) : TE := fun σ H Q => t σ H fun xs H1 => xs.length ≤ sizeLine ∧ ∀ p, H1 p = none → Q (.ref p) (upd H1 p (.tup xs))
def tLst (t : TA) : TE := fun σ H Q => t σ H fun xs H1 => xs.length ≤ sizeLine ∧ ∀ p, H1 p = none → Q (.ref p) (upd H1 p (.lst xs))
theorem pe_lst (h : PA X es t) : PE X (.List es pos) (tLst t) := by
  intro pins s σ H Q I hq
  refine wpAny_List_spliced (thn (h pos pins s σ H _ I hq) fun us s1 ⟨xs, H1, I1, r, z, q⟩ => ⟨by rw [← r.length]; exact z, ?_⟩)
  have hf : H1 s1.heap.objs.size = none := I1.hok.fresh (Nat.le_refl _)
  refine ⟨.ref s1.heap.objs.size, upd H1 s1.heap.objs.size (.lst xs), I1.laid (t' := s1.toks) (fun b u e => Heap.get?_push_of_some _ e) (Nat.le_refl _) ?_, rfl, q _ hf⟩
  exact ⟨z, us, 0, r, Heap.get?_push_size _ rfl⟩
end

/-! ### what a def promises -/
/-- a def's promise: the bound arguments in the parameters' order, the heap, the wanted end, the wanted exception -/
abbrev Sp := List V → Hp → VK → XK → Prop
/-- how an exception lies behind a call (file 08 gives it): the callers' frames, abstract heap and state ahead of the call, the wish, the exception, the state -/
abbrev CXT := List Env → Hp → Shared → XK → Value → Shared → Prop

/-- the state at a call -/
structure Env0 (P : Program) (w : World) (K : PySem.W.Frag) (mg : Str → Option Value) (base : Heap) (A : Around) (outer : List Env) (s : Shared) (H : Hp) : Prop where
  frames : A.frames = some outer
  mod : Mod K mg base
  bs : ∀ b o, base.get? b = some o → s.heap.get? b = some o ∧ H b = none
  bsz : base.objs.size ≤ s.heap.objs.size
  funs : s.heap.FunFrames base outer
  frf : ∀ b ∈ frs outer, H b = none
  hok : HOk P w H s.heap
  bare : AllBare s.gens
/-- a call's end -/
def CE (outer : List Env) (P : Program) (w : World) (H : Hp) (s : Shared) (Q : VK) (u : Value) (s' : Shared) : Prop :=
  ∃ v H', s'.os = s.os ∧ AllBare s'.gens ∧ Un (frs outer) [] H H' s.heap s'.heap ∧ HOk P w H' s'.heap ∧ RelV v u ∧ Q v H'
def CR (CX : CXT) (outer : List Env) (P : Program) (w : World) (H : Hp) (s : Shared) (Q : VK) (E : XK) (r : Result) (s' : Shared) : Prop :=
  match r with
  | .ok (.ret u) => CE outer P w H s Q u s'
  | .ok _ => False
  | .error e => CX outer H s E e s'
structure FnOk (P : Program) (w : World) (K : PySem.W.Frag) (mg : Str → Option Value) (base : Heap) (CX : CXT) (k : Nat) (f : Addr) (fd : FuncData) (ps : List Str) (sp : Sp) : Prop where
  len : ∀ vs H Q E, sp vs H Q E → vs.length = ps.length
  run : ∀ (A : Around) (outer : List Env) (s : Shared) (H : Hp) (args : Args) (us : List Value) (vs : List V) (Q : VK) (E : XK), Room k A → Env0 P w K mg base A outer s H → BindsTo s fd args (ps.zip us) → Vals vs us → sp vs H Q E →
    codeAny (model P w) A (.call (.ref f) args) (CR CX outer P w H s Q E) s
theorem FnOk.mono {P : Program} {w : World} {K : PySem.W.Frag} {mg : Str → Option Value} {base : Heap} {CX : CXT} {j k : Nat} {f : Addr} {fd : FuncData} {ps : List Str} {sp : Sp} (F : FnOk P w K mg base CX j f fd ps sp) (h : j ≤ k) :
    FnOk P w K mg base CX k f fd ps sp := ⟨F.len, fun A outer s H args us vs Q E hr => F.run A outer s H args us vs Q E (hr.mono h)⟩
section
variable {X : Cx} {pins : List (Addr × Obj)} {σ : St} {H : Hp} {s s' : Shared}
/-- from a body: what a callee wants -/
theorem Inv.env0 (I : Inv X pins σ H s) : Env0 X.prog X.w X.K X.mg X.base X.A X.stack s H :=
  ⟨I.ok.frames, I.ok.mod, I.bs, Nat.le_trans I.ok.bsz I.sz, I.stack, I.stkFree, I.hok, I.bare⟩
/-- behind a call -/
theorem Inv.after {Q : VK} {u : Value} (I : Inv X pins σ H s) (h : CE X.stack X.prog X.w H s Q u s') : EP X pins σ Q u s' := by
  obtain ⟨v, H', os, bare, un, hok, r, q⟩ := h
  obtain ⟨hh, g, d, t, os'⟩ := s'
  obtain rfl : os' = s.os := os
  exact ⟨v, H', I.call (h' := hh) (g' := g) (d' := d) (t' := t) (ch := []) un hok bare (fun b z => absurd z (by simp)), r, q⟩
end

/-! ### calls -/
/-- f(..): the written arguments, then the defaults dvs; E: what is wanted of an exception -/
def tCall (sp : Sp) (dvs : List V) (E : XK) (t : TA) : TE := fun σ H Q => t σ H fun vs H1 => sp (vs ++ dvs) H1 Q E
/-- o.m(..) of an instance of the class at C -/
def tMeth (C : Addr) (m : Str) (sp : Sp) (dvs : List V) (E : XK) (ta : TE) (t : TA) : TE := fun σ H Q => ta σ H fun x H1 => ∃ a dx fs, x = .ref a ∧ H1 a = some (.ins C dx fs) ∧ fs.lookup m = none ∧
  t σ H1 fun vs H2 => sp (x :: (vs ++ dvs)) H2 Q E
/-- C(..): a new instance and its dict, then __init__ -/
def tMake (C : Addr) (sp : Sp) (dvs : List V) (E : XK) (t : TA) : TE := fun σ H Q => t σ H fun vs H1 => ∀ x dx, H1 x = none → H1 dx = none → dx ≠ x →
  sp (.ref x :: (vs ++ dvs)) (upd (upd H1 dx (.own x)) x (.ins C dx [])) (fun v H2 => v = .non ∧ Q (.ref x) H2) E

/-- how the parameters are bound: us the positional arguments, kw the keywords' values by name, ds the defaults that fill up -/
def Binds (K : PySem.W.Frag) (fd : FuncData) (ps : List Str) (ds : List Value) : Prop :=
  ∀ (s : Shared) (us : List Value), K.In s.heap → (us ++ ds).length = ps.length → BindsTo s fd ⟨us, []⟩ (ps.zip (us ++ ds))
/-- every parameter is given -/
theorem Binds.all {K : PySem.W.Frag} {fd : FuncData} {ps : List Str} (h : ∀ us : List Value, us.length = ps.length → bindArgs fd ⟨us, []⟩ = pure (ps.zip us)) : Binds K fd ps [] := fun s us _ hl => by
  rw [List.append_nil] at hl ⊢
  exact .of_eq (h us hl)

/-- an exception of a callee reaches what this body wants of exceptions -/
def Passes (CX : CXT) (X : Cx) (E : XK) : Prop := ∀ (pins : List (Addr × Obj)) (σ : St) (H : Hp) (s : Shared) (e : Value) (s' : Shared), Inv X pins σ H s → CX X.stack H s E e s' → X.xe e s'

section
variable {X : Cx} {CX : CXT} {k : Nat} {f C : Addr} {fd : FuncData} {ps : List Str} {sp : Sp} {dvs : List V} {ds : List Value} {E : XK} {x m : Str} {p pos apos : Pos} {e o : Expr} {es : List Expr} {ta : TE} {t : TA}

/-- the callee runs -/
theorem run_fn {pins : List (Addr × Obj)} {σ : St} {H : Hp} {s : Shared} {Q : VK} {us : List Value} {vs : List V} (F : FnOk X.prog X.w X.K X.mg X.base CX k f fd ps sp) (hr : Room k X.A) (hb : Binds X.K fd ps ds) (hd : Vals dvs ds) (hx : Passes CX X E)
    (I : Inv X pins σ H s) (r : Vals vs us) (h : sp (vs ++ dvs) H Q E) : wpAny (model X.prog X.w) X.A (call (.ref f) us) (EP X pins σ Q) X.xe s := by
  have r2 : Vals (vs ++ dvs) (us ++ ds) := r.append hd
  have hl : (us ++ ds).length = ps.length := by rw [← r2.length]; exact F.len _ _ _ _ h
  refine wpAny_call (codeAny_mono (F.run X.A X.stack s H ⟨us, []⟩ (us ++ ds) (vs ++ dvs) Q E hr I.env0 (hb s us I.kIn hl) r2 h) fun r s' hq => ?_)
  cases r with
  | error e => exact hx pins σ H s e s' I hq
  | ok fl =>
    cases fl with
    | ret u => exact I.after hq
    | next => exact False.elim hq
    | brk => exact False.elim hq
    | cont => exact False.elim hq

theorem pe_call (F : FnOk X.prog X.w X.K X.mg X.base CX k f fd ps sp) (hr : Room k X.A) (hg : Gl X x) (hm : X.mg x = some (.ref f)) (hk : PySem.W.keepIn X.K (.ref f) = true) (hb : Binds X.K fd ps ds) (hd : Vals dvs ds) (hx : Passes CX X E)
    (ha : PA X (e :: es) t) (hdb : (x == ("__debug__" : Str)) = false := by decide) (he : starEach (e :: es) X.env = (false, eval e X.env) :: starEach es X.env := by rfl) (hpl : (backTo pos (starEach es X.env)).any (·.1) = false := by rfl) :
    PE X (.Call (.Name x p) (e :: es) [] pos) (tCall sp dvs E t) := by
  intro pins s σ H Q I h
  refine wpAny_Call_Name_kw (ld_glob I hg hm ?_ hdb)
  refine PySem.W.callWith_K (h₀ := X.base) I.ok.mod.kin hk (thn (ha pos pins s σ H _ I h) fun us s1 ⟨vs, H1, I1, r, q⟩ => ⟨I1.kIn, ?_⟩) he hpl
  exact run_fn F hr hb hd hx I1 r q
/-- what a class must have to be made -/
structure Mk (K : PySem.W.Frag) (C f : Addr) : Prop where
  makes : PySem.W.makesIn K C = true
  init : PySem.W.findIn K (.ref C) "__init__" = some (some (.ref f))
  fn : PySem.W.isFn K (.ref f) = true
  kp : PySem.W.keepIn K (.ref C) = true

end

/-! ### keywords -/
/-- the values of the keywords, from the left -/
def PK (X : Cx) (kws : List Keyword) (t : TA) : Prop :=
  ∀ (pos : Pos) (pins : List (Addr × Obj)) (s : Shared) (σ : St) (H : Hp) (Q : List V → Hp → Prop), Inv X pins σ H s → t σ H Q → wpAny (model X.prog X.w) X.A (evalAll ((backToKw pos (keywordEach kws X.env)).map (·.2))) (AP X pins σ Q) X.xe s
section
variable {X : Cx} {CX : CXT} {k : Nat} {f C : Addr} {fd : FuncData} {ps ks : List Str} {sp : Sp} {E : XK} {x m : Str} {p pos apos kpos : Pos} {e o : Expr} {es : List Expr} {kws : List Keyword} {te ta : TE} {t tk : TA} {nm : Option Str}
/-- how a call with keywords binds: g puts the positional values us and the keywords' values ws (names ks) in the parameters' order, defaults among them -/
structure KBinds (K : PySem.W.Frag) (fd : FuncData) (ps ks : List Str) (g : List Value → List Value → List Value) (gV : List V → List V → List V) : Prop where
  to : ∀ (s : Shared) (us ws : List Value), K.In s.heap → (g us ws).length = ps.length → BindsTo s fd ⟨us, ks.zip ws⟩ (ps.zip (g us ws))
  rel : ∀ {vs : List V} {us : List Value} {zs : List V} {ws : List Value}, Vals vs us → Vals zs ws → Vals (gV vs zs) (g us ws)
def tCallK (sp : Sp) (gV : List V → List V → List V) (E : XK) (t tk : TA) : TE := fun σ H Q => t σ H fun vs H1 => tk σ H1 fun zs H2 => sp (gV vs zs) H2 Q E
variable {g : List Value → List Value → List Value} {gV : List V → List V → List V}
end

/-! ### a def's body keeps its promise -/
/-- names: the parameters first -/
structure FnScope (N P : List Str) (sc : Scope) : Prop where
  kind : sc.kind = .function
  co : sc.isCoroutine = false
  gen : sc.isGenerator = false
  nd : N.Nodup
  pre : N.take P.length = P
  par : ∀ x ∈ P, sc.names.lookup x = some .local ∨ sc.names.lookup x = some .cell
  nofree : ∀ y ∈ sc.names, y.2 ≠ .free

theorem bindL_out {kindOf : Str → Option NameKind} {x : Str} : ∀ {binds : List (Str × Value)} {m : Str → Option Value}, (∀ v, (x, v) ∉ binds) → bindL kindOf binds m x = m x
  | [], _, _ => rfl
  | (n, v) :: r, m, h => by
    unfold bindL
    rw [bindL_out fun w hw => h w (List.mem_cons_of_mem _ hw)]
    split
    · have : x ≠ n := by rintro rfl; exact h v List.mem_cons_self
      simp [this]
    · rfl
theorem bindC_out {kindOf : Str → Option NameKind} {x : Str} : ∀ {binds : List (Str × Value)} {m : Str → Option Value}, (∀ v, (x, v) ∉ binds) → bindC kindOf binds m x = m x
  | [], _, _ => rfl
  | (n, v) :: r, m, h => by
    unfold bindC
    rw [bindC_out fun w hw => h w (List.mem_cons_of_mem _ hw)]
    split
    · rfl
    · have : x ≠ n := by rintro rfl; exact h v List.mem_cons_self
      simp [this]
theorem bindL_get {kindOf : Str → Option NameKind} {x : Str} {v : Value} : ∀ {P : List Str} {vs : List Value} {i : Nat} {m : Str → Option Value}, P.Nodup → P[i]? = some x → vs[i]? = some v → kindOf x = some .local →
    bindL kindOf (P.zip vs) m x = some v
  | [], _, _, _, _, h, _, _ => by simp at h
  | _ :: _, [], _, _, _, _, h, _ => by simp at h
  | p :: P, w :: vs, 0, m, nd, h1, h2, hk => by
    simp at h1 h2; subst h1; subst h2
    show bindL kindOf ((p, w) :: P.zip vs) m p = _
    unfold bindL
    rw [bindL_out fun v hv => (List.nodup_cons.mp nd).1 (List.of_mem_zip hv).1, if_pos hk]
    simp
  | p :: P, w :: vs, i + 1, m, nd, h1, h2, hk => by
    show bindL kindOf ((p, w) :: P.zip vs) m x = _
    unfold bindL
    exact bindL_get (i := i) (List.nodup_cons.mp nd).2 (by simpa using h1) (by simpa using h2) hk
theorem bindC_get {kindOf : Str → Option NameKind} {x : Str} {v : Value} : ∀ {P : List Str} {vs : List Value} {i : Nat} {m : Str → Option Value}, P.Nodup → P[i]? = some x → vs[i]? = some v → kindOf x ≠ some .local →
    bindC kindOf (P.zip vs) m x = some v
  | [], _, _, _, _, h, _, _ => by simp at h
  | _ :: _, [], _, _, _, _, h, _ => by simp at h
  | p :: P, w :: vs, 0, m, nd, h1, h2, hk => by
    simp at h1 h2; subst h1; subst h2
    show bindC kindOf ((p, w) :: P.zip vs) m p = _
    unfold bindC
    rw [bindC_out fun v hv => (List.nodup_cons.mp nd).1 (List.of_mem_zip hv).1, if_neg hk]
    simp
  | p :: P, w :: vs, i + 1, m, nd, h1, h2, hk => by
    show bindC kindOf ((p, w) :: P.zip vs) m x = _
    unfold bindC
    exact bindC_get (i := i) (List.nodup_cons.mp nd).2 (by simpa using h1) (by simpa using h2) hk

/-- the names' values at the entry -/
def start (N : List Str) (vs : List V) : St := vs.map some ++ List.replicate (N.length - vs.length) none

/-- the context of a def's body, at its entry; an exception leaves the frame, then lies as CX says -/
def cxOf (CX : CXT) (P : Program) (w : World) (K : PySem.W.Frag) (mg : Str → Option Value) (base : Heap) (N : List Str) (qual : Str) (scope : Scope) (f : Addr) (cd : Value) (A : Around) (outer : List Env) (s : Shared) (H : Hp) (E : XK) : Cx where
  prog := P
  w := w
  K := K
  mg := mg
  base := base
  A := A.deeper (envOfC qual scope s.heap.objs.size f cd)
  N := N
  s₀ := s
  H₀ := H
  env := envOfC qual scope s.heap.objs.size f cd
  outer := outer
  stack := envOfC qual scope s.heap.objs.size f cd :: outer
  ex := []
  calm := true
  fn := fun _ => true
  pn := []
  xe := fun e s' => wpAny (model P w) (A.deeper (envOfC qual scope s.heap.objs.size f cd)) (leaving (envOfC qual scope s.heap.objs.size f cd) e) (fun _ s'' => CX outer H s E e s'') (fun e' s'' => CX outer H s E e' s'') s'

theorem cell_has {sc : Scope} {n : Nat} {x : Str} (h : sc.names.lookup x = some .cell) : ∃ c, (cellsFrom n sc.names []).lookup x = some c := by
  have q := PySem.W.cellsFrom_some sc.names n [] (.inl h)
  exact Option.isSome_iff_exists.mp q

theorem inv_start {CX : CXT} {P : Program} {w : World} {K : PySem.W.Frag} {mg : Str → Option Value} {base : Heap} {N ps : List Str} {qual : Str} {scope : Scope} {f : Addr} {cd : Value} {A : Around} {outer : List Env} {s s1 : Shared} {H : Hp} {E : XK} {us : List Value} {vs : List V}
    (S : FnScope N ps scope) (hd : A.handled = none) (e0 : Env0 P w K mg base A outer s H) (hl : vs.length = ps.length) (r : Vals vs us)
    (x : InCallC s s.heap.objs.size (bindL (envOfC qual scope s.heap.objs.size f cd).kindOf (ps.zip us) fun _ => none) (cellsFrom (s.heap.objs.size + 1) scope.names []) (bindC (envOfC qual scope s.heap.objs.size f cd).kindOf (ps.zip us) fun _ => none) s1) :
    Inv (cxOf CX P w K mg base N qual scope f cd A outer s H E) [] (start N vs) H s1 := by
  have hpl : ps.length ≤ N.length := by have := congrArg List.length S.pre; rw [List.length_take] at this; omega
  obtain ⟨h1, tk, rfl, hk⟩ := x.done
  have noA : ∀ b : Addr, b ∉ (cxOf CX P w K mg base N qual scope f cd A outer s H E).ex := fun b z => absurd (show b ∈ ([] : List Addr) from z) (by simp)
  refine ⟨⟨e0.mod, S.kind, rfl, rfl, Nat.le_refl _, fun y z c h1 h2 => ?_, fun y hy => ?_, fun y c _ h => ?_, fun _ => hd, Around.frames_deeper e0.frames, .inr ⟨rfl, rfl⟩, fun b z => absurd z (noA b), e0.bs, e0.bsz, fun b _ _ => noA b, fun b z => absurd z (noA b), e0.funs, e0.frf⟩,
    rfl, e0.bare, Un.kept hk, ⟨_, x.toInCall.ns, fun i y v h1 h2 h3 => ?_⟩, fun y c h => ⟨_, x.cell y c h⟩, e0.hok.fresh (Nat.le_refl _), fun y c h => ?_, fun p hp => absurd (show p ∈ ([] : List (Addr × Obj)) from hp) (by simp), e0.hok.kept hk, ?_⟩
  · exact name_of_addr x.apart (PySem.mem_of_lookup h1) (PySem.mem_of_lookup h2)
  · have hy : scope.names.lookup y = some .cell ∨ scope.names.lookup y = some .free := hy
    rcases hy with hy | hy
    · exact cell_has hy
    · exact absurd rfl (S.nofree _ (PySem.mem_of_lookup hy))
  · exact Nat.le_of_lt (x.above y c (PySem.mem_of_lookup h))
  · have hi : i < vs.length := by
      unfold start at h2
      by_cases hi : i < vs.length
      · exact hi
      · rw [List.getElem?_append_right (by simpa using hi)] at h2
        rw [List.getElem?_replicate] at h2
        split at h2 <;> cases h2
    have ha : vs[i]? = some v := by
      unfold start at h2
      rw [List.getElem?_append_left (by simpa using hi), List.getElem?_map] at h2
      cases e : vs[i]? with
      | none => rw [e] at h2; cases h2
      | some a => rw [e] at h2; cases h2; rfl
    obtain ⟨u, hu, rv⟩ := r.get ha
    have hp : ps[i]? = some y := by
      rw [← S.pre, List.getElem?_take_of_lt (by omega)]; exact h1
    have ndP : ps.Nodup := by rw [← S.pre]; exact S.nd.sublist (List.take_sublist _ _)
    refine ⟨u, rv, ?_⟩
    rcases S.par y (List.mem_of_getElem? hp) with k | k
    · exact .inl ⟨k, bindL_get ndP hp hu k⟩
    · obtain ⟨c, e⟩ := cell_has (n := s.heap.objs.size + 1) k
      refine .inr ⟨.inl k, c, e, ?_⟩
      have q := x.cell y c e
      rw [bindC_get ndP hp hu (by show scope.names.lookup y ≠ _; rw [k]; decide)] at q
      exact q
  · exact e0.hok.fresh (Nat.le_of_lt (x.above y c (PySem.mem_of_lookup h)))
  · unfold start
    show _ = N.length
    rw [List.length_append, List.length_map, List.length_replicate]
    omega

/-- THE RULE: a def (or a method) of the text, by its body. The body's reading t is chosen for each entry; it is run at the parameters' values -/
theorem fn_of {CX : CXT} {P : Program} {w : World} {K : PySem.W.Frag} {mg : Str → Option Value} {base : Heap} {k : Nat} {f : Addr} {name qual : Str} {params : Arguments} {body : List Stmt} {scope : Scope} {dV kV doc pm cdv ct oc : Value} {an od : Option Addr}
    {osl : Array (Option Value)} {N ps : List Str} {sp : Sp} (lk : K.lookup f = some ⟨oc, od, .func (PySem.W.fnOf name qual params body scope dV kV doc pm an cdv ct), osl⟩) (hcd : PySem.W.codeIn K cdv qual = true) (S : FnScope N ps scope)
    (len : ∀ vs H Q E, sp vs H Q E → vs.length = ps.length)
    (hbody : ∀ (A : Around) (outer : List Env) (s : Shared) (H : Hp) (vs : List V) (Q : VK) (E : XK), Room k (A.deeper (envOfC qual scope s.heap.objs.size f cdv)) → sp vs H Q E →
      ∃ t, PSs (cxOf CX P w K mg base N qual scope f cdv A outer s H E) body t ∧ t { nx := fun _ H' => Q .non H', rt := Q } (start N vs) H) :
    FnOk P w K mg base CX (k + 1) f (PySem.W.fnOf name qual params body scope dV kV doc pm an cdv ct) ps sp := by
  refine ⟨len, fun A outer s H args us vs Q E hr e0 hb r hsp => ?_⟩
  have hl := len _ _ _ _ hsp
  have KX : K.In s.heap := e0.mod.kin.keeps fun b o e => (e0.bs b o e).1
  have lim : s.heap.NoLimit := e0.mod.nolimit.keeps fun b o e => (e0.bs b o e).1
  have hkind : ∀ y ∈ ps.zip us, scope.names.lookup y.1 = some .local ∨ (scope.names.lookup y.1 = some .cell ∧ ((cellsFrom (s.heap.objs.size + 1) scope.names []).lookup y.1).isSome = true) := fun ⟨n, v⟩ hy => by
    rcases S.par n (List.of_mem_zip hy).1 with q | q
    · exact .inl q
    · exact .inr ⟨q, PySem.W.cellsFrom_some _ _ _ (.inl q)⟩
  refine codeAny_call_function hr.depth (KX _ _ lk) rfl S.co S.gen rfl (PySem.W.codeRec_of KX hcd) (hb _ _ _ _ ?_)
  refine wpAny_newFunctionEnv_cells S.kind hkind fun env he s1 x => ?_
  subst he
  refine ⟨lim.keeps x.toInCall.keep, codeAny_func ?_⟩
  obtain ⟨t, ht, hq⟩ := hbody A outer s H vs Q E (hr.deeper _) hsp
  have I : Inv (cxOf CX P w K mg base N qual scope f cdv A outer s H E) [] (start N vs) H s1 := inv_start S hr.hd e0 hl r x
  refine wpAny_mono (ht [] s1 (start N vs) H _ I hq) (fun fl s' hs => ?_) fun e s' hs => hs
  have fin : ∀ {σ' : St} {H' : Hp} {v : V} {u : Value}, Inv (cxOf CX P w K mg base N qual scope f cdv A outer s H E) [] σ' H' s' → RelV v u → Q v H' → CE outer P w H s Q u s' :=
    fun {σ' H' v u} J rv q => ⟨v, H', J.os, J.bare, J.base, J.hok, rv, q⟩
  cases fl with
  | ret u =>
    obtain ⟨v, σ', H', J, rv, q⟩ := hs
    exact fin J rv q
  | next =>
    obtain ⟨σ', H', J, q⟩ := hs
    exact fin (v := V.non) (u := Value.none) J rfl q
  | brk =>
    obtain ⟨_, _, _, q⟩ := hs
    exact False.elim q
  | cont =>
    obtain ⟨_, _, _, q⟩ := hs
    exact False.elim q
end L2

namespace L2
open PySem PySem.Spec PyProof.Rows
section
variable {X : Cx} {x : Str} {p pos : Pos} {e : Expr} {es : List Expr} {t : TA} {id T : String} {r : List V → Hp → VK → Prop}

def tCB (r : List V → Hp → VK → Prop) (t : TA) : TE := fun σ H Q => t σ H fun vs H1 => r vs H1 Q
/-- f(e, ..), f a built-in function -/
theorem pe_callB (hc : CallR X (.builtin id) r) (hg : Gl X x) (hm : X.mg x = none) (hv : bootBuiltins x = some (.builtin id)) (ha : PA X (e :: es) t) (hn : x ≠ "__name__" := by decide) (hdb : (x == ("__debug__" : Str)) = false := by decide)
    (he : starEach (e :: es) X.env = (false, eval e X.env) :: starEach es X.env := by rfl) (hpl : (backTo pos (starEach es X.env)).any (·.1) = false := by rfl) : PE X (.Call (.Name x p) (e :: es) [] pos) (tCB r t) := by
  intro pins s σ H Q I h
  refine wpAny_Call_Name_kw (ld_blt I hg hm hv ?_ hn hdb)
  exact PyProof.Rows.callWith_builtin1 (thn (ha pos pins s σ H _ I h) fun us s1 ⟨vs, H1, I1, r1, q1⟩ => hc pins s1 σ H1 vs us Q I1 r1 q1) he hpl
end
end L2

namespace HT
open PySem PyProof.Rows

/-- t < u of tuples of ints -/
def lexLt : List Int → List Int → Bool
  | [], [] => false
  | [], _ :: _ => true
  | _ :: _, [] => false
  | x :: xs, y :: ys => if x = y then lexLt xs ys else decide (x < y)
section
open PySem.SeqAt
open PySem.AutoSeq1 (wpAny_loadPart')
open PySem.MeetsSeq PySem.MeetsSeq2 PySem.MeetsSeq3

end

section
variable {prog : Program} {w : World} {A : Around} {E : Value → Shared → Prop} {s : Shared}

/-! ### t[a:b], not the whole -/
/-- a slice's bound as a place among n (d where it is left out) -/
def sIx (n d : Nat) : Option Int → Nat
  | none => d
  | some v => if v < 0 then (v + (n : Int)).toNat else min v.toNat n
theorem sIx_nat (n d k : Nat) : sIx n d (some (k : Int)) = min k n := by
  show (if (k : Int) < 0 then ((k : Int) + (n : Int)).toNat else min (k : Int).toNat n) = min k n
  rw [if_neg (by omega), Int.toNat_natCast]
end
end HT

namespace L2
open PySem PySem.Spec PyProof.Rows

/-! ### the parts of a slice -/
abbrev TO := St → Hp → (Option Int → Hp → Prop) → Prop
/-- a slice's part (left out, or an int) -/
def PO (X : Cx) (e : Option Expr) (t : TO) : Prop :=
  ∀ (pins : List (Addr × Obj)) (s : Shared) (σ : St) (H : Hp) (Q : Option Int → Hp → Prop), Inv X pins σ H s → t σ H Q →
    wpAny (model X.prog X.w) X.A (evalPart e X.env) (fun u s' => ∃ o H', Inv X pins σ H' s' ∧ IsPart u o ∧ Q o H') X.xe s
def tNoPart : TO := fun _ H Q => Q none H
def tPart (t : TE) : TO := fun σ H Q => t σ H fun x H1 => ∃ i, x = .int i ∧ Q (some i) H1

section
variable {X : Cx} {e : Expr} {te : TE} {lo hi : Option Expr} {tl th : TO} {pos p2 : Pos}

theorem po_none : PO X none tNoPart := by
  intro pins s σ H Q I h
  rw [evalPart_none]
  exact wpAny_pure ⟨none, H, I, .none, h⟩
theorem po_some (h : PE X e te) : PO X (some e) (tPart te) := by
  intro pins s σ H Q I hw
  rw [evalPart_some]
  refine thn (h pins s σ H _ I hw) fun u s1 ⟨x, H1, I1, r1, q1⟩ => ?_
  obtain ⟨i, rfl, q⟩ := q1
  obtain ⟨t, rfl⟩ := r1
  exact ⟨some i, H1, I1, .int i t, q⟩

/-- what a slice of a value is, by values: the slice object stands at sl -/
def SlR (X : Cx) (r : V → Option Int → Option Int → Hp → VK → Prop) : Prop :=
  ∀ (pins : List (Addr × Obj)) (s : Shared) (σ : St) (H : Hp) (x : V) (v vl vu : Value) (lo hi : Option Int) (sl : Addr) (Q : VK), Inv X pins σ H s → RelV x v → s.heap.IsSliceOf sl vl vu .none → IsPart vl lo → IsPart vu hi → r x lo hi H Q →
    ∃ T id, typeLookup (.type T) "__getitem__" = pure (some (.builtin id)) ∧ s.TypeIs v T ∧ wpAny (model X.prog X.w) X.A (getItem v (.ref sl)) (EP X pins σ Q) X.xe s
def tSl (r : V → Option Int → Option Int → Hp → VK → Prop) (te : TE) (tl th : TO) : TE := fun σ H Q => te σ H fun x H1 => tl σ H1 fun l H2 => th σ H2 fun u H3 => r x l u H3 Q
/-- a[lo:hi], any a -/
theorem pe_slice {r : V → Option Int → Option Int → Hp → VK → Prop} (hr : SlR X r) (he : PE X e te) (hl : PO X lo tl) (hu : PO X hi th) : PE X (.Subscript e (.Slice lo hi none p2) pos) (tSl r te tl th) := by
  intro pins s σ H Q I h
  refine Subscript_ (thn (he pins s σ H _ I h) fun v s1 ⟨x, H1, I1, r1, q1⟩ => ?_)
  refine wpAny_Slice (thn (hl pins s1 σ H1 _ I1 q1) fun vl s2 ⟨l, H2, I2, pl, q2⟩ => thn (hu pins s2 σ H2 _ I2 q2) fun vu s3 ⟨u, H3, I3, pu, q3⟩ => ?_)
  rw [evalPart_none]
  refine wpAny_pure ?_
  have I4 : Inv X pins σ H3 { s3 with heap := s3.heap.push { cls := .type "slice", data := .fields #[vl, vu, .none] } } := I3.kept (t' := s3.toks) fun b ob q => Heap.get?_push_of_some _ q
  obtain ⟨T, id, hT, ht, hg⟩ := hr pins { s3 with heap := s3.heap.push { cls := .type "slice", data := .fields #[vl, vu, .none] } } σ H3 x v vl vu l u s3.heap.objs.size Q I4 r1 (Heap.IsSliceOf.new ..) pl pu q3
  show wpAny (model X.prog X.w) X.A (subscriptTail e (.Slice lo hi none p2) v (.ref s3.heap.objs.size)) (EP X pins σ Q) X.xe { s3 with heap := s3.heap.push { cls := .type "slice", data := .fields #[vl, vu, .none] } }
  exact tail_any (ops := [.ref s3.heap.objs.size, v]) ht hT hg (by with_unfolding_all rfl)

/-- the items of xs[lo:hi] -/
def cutV (xs : List V) (lo hi : Option Int) : List V := (xs.drop (HT.sIx xs.length 0 lo)).take (HT.sIx xs.length xs.length hi - HT.sIx xs.length 0 lo)
theorem cutV_length (xs : List V) (lo hi : Option Int) : (cutV xs lo hi).length ≤ xs.length := by
  unfold cutV
  rw [List.length_take, List.length_drop]
  omega
/-- t[lo:hi], not the whole of it (the whole would be t itself) -/
def rSlT (K : PySem.W.Frag) : V → Option Int → Option Int → Hp → VK → Prop := fun x lo hi H Q => ∃ a xs, x = .ref a ∧ SqT K H a xs ∧
  ¬ (HT.sIx xs.length 0 lo = 0 ∧ HT.sIx xs.length xs.length hi = xs.length) ∧ ∀ p, H p = none → Q (.ref p) (upd H p (.tup (cutV xs lo hi)))
/-! ### t < u, t + u -/
def rLtT (K : PySem.W.Frag) : R2 := fun x y H Q => ∃ a b ns ms, x = .ref a ∧ y = .ref b ∧ SqT K H a (ns.map V.int) ∧ SqT K H b (ms.map V.int) ∧ Q (.bl (HT.lexLt ns ms)) H
/-- t + u, t not empty: u empty gives t itself -/
def rCatT (K : PySem.W.Frag) : R2 := fun x y H Q => ∃ a b xs ys, x = .ref a ∧ y = .ref b ∧ SqT K H a xs ∧ SqT K H b ys ∧ xs ≠ [] ∧ xs.length + ys.length ≤ sizeLine ∧
  (ys = [] → Q (.ref a) H) ∧ (ys ≠ [] → ∀ p, H p = none → Q (.ref p) (upd H p (.tup (xs ++ ys))))
end
end L2

namespace L2
open PySem PySem.Spec PyProof.Rows

/-! ### places -/
/-- the place that an index of any sign means -/
def ixN (n : Nat) (i : Int) : Option Nat := if 0 ≤ i then (if i < n then some i.toNat else none) else if -(n : Int) ≤ i then some (i + n).toNat else none
def atI {α : Type} (xs : List α) (i : Int) : Option α := (ixN xs.length i).bind fun j => xs[j]?
theorem ixN_seq {n : Nat} {i : Int} {j : Nat} (h : ixN n i = some j) : seqIndex? i n = some j ∧ j < n ∧ -(n : Int) ≤ i ∧ i < n := by
  unfold ixN at h
  by_cases h0 : 0 ≤ i
  · rw [if_pos h0] at h
    by_cases h1 : i < n
    · rw [if_pos h1] at h
      have e : i.toNat = j := Option.some.inj h
      exact ⟨by rw [seqIndex_of h0 h1, e], by omega, by omega, h1⟩
    · rw [if_neg h1] at h; cases h
  · rw [if_neg h0] at h
    by_cases h1 : -(n : Int) ≤ i
    · rw [if_pos h1] at h
      have e : (i + n).toNat = j := Option.some.inj h
      exact ⟨by rw [seqIndex_neg (by omega) h1, e], by omega, h1, by omega⟩
    · rw [if_neg h1] at h; cases h
theorem atI_get {α : Type} {xs : List α} {i : Int} {v : α} (h : atI xs i = some v) : ∃ j, seqIndex? i xs.length = some j ∧ xs[j]? = some v ∧ j < xs.length ∧ -(xs.length : Int) ≤ i ∧ i < xs.length := by
  unfold atI at h
  cases e : ixN xs.length i with
  | none => rw [e] at h; cases h
  | some j =>
    rw [e] at h
    obtain ⟨h1, h2, h3, h4⟩ := ixN_seq e
    exact ⟨j, h1, h, h2, h3, h4⟩
theorem atI_nat {α : Type} {xs : List α} {j : Nat} {v : α} (h : xs[j]? = some v) : atI xs (j : Int) = some v := by
  have hj : j < xs.length := (List.getElem?_eq_some_iff.mp h).1
  have e : ixN xs.length (j : Int) = some j := by
    unfold ixN
    rw [if_pos (by omega), if_pos (by omega)]; simp
  unfold atI; rw [e]; exact h
/-! ### what may be subscripted -/
/-- what stands as an index of a plain subscript -/
def PlainIx (b : Expr) : Prop := ∀ o i, subscripted b false o i = operate [o, i] (getItem o i)
/-- a subscript by values -/
def IxR (X : Cx) (r : R2) : Prop :=
  ∀ (value slice : Expr) (pins : List (Addr × Obj)) (s : Shared) (σ : St) (H : Hp) (x y : V) (v u : Value) (Q : VK), Inv X pins σ H s → RelV x v → RelV y u → r x y H Q →
    subscripted slice false v u = operate [v, u] (getItem v u) → wpAny (model X.prog X.w) X.A (subscriptTail value slice v u) (EP X pins σ Q) X.xe s
/-- a call of a builtin's method by values: the receiver, the arguments -/
def MtR (X : Cx) (id : String) (r : V → List V → Hp → VK → Prop) : Prop :=
  ∀ (pins : List (Addr × Obj)) (s : Shared) (σ : St) (H : Hp) (x : V) (xs : List V) (v : Value) (us : List Value) (Q : VK), Inv X pins σ H s → RelV x v → Vals xs us → r x xs H Q →
    wpAny (model X.prog X.w) X.A (call (.builtin id) (v :: us)) (EP X pins σ Q) X.xe s
section
variable {X : Cx} {a b : Expr} {ta tb : TE} {pos : Pos}
/-- a[b] -/
theorem pe_ix {r : R2} (hr : IxR X r) (ha : PE X a ta) (hb : PE X b tb) (hs : PlainIx b) : PE X (.Subscript a b pos) (tOp r ta tb) := by
  intro pins s σ H Q I h
  exact Subscript_ (binT ha hb I h fun v u s2 x y H2 I2 rx ry q => hr a b pins s2 σ H2 x y v u Q I2 rx ry q (hs _ _))

def rIxL (K : PySem.W.Frag) : R2 := fun x y H Q => ∃ p xs i v, x = .ref p ∧ y = .int i ∧ SqL K H p xs ∧ atI xs i = some v ∧ Q v H
def rIxT (K : PySem.W.Frag) : R2 := fun x y H Q => ∃ p xs i v, x = .ref p ∧ y = .int i ∧ SqT K H p xs ∧ atI xs i = some v ∧ Q v H
def rIxS : R2 := fun x y H Q => ∃ z i c, x = .str z ∧ y = .int i ∧ z.length ≤ sizeLine ∧ atI z.cps.toList i = some c ∧ Q (.str ⟨#[c]⟩) H
theorem ix_list : IxR X (rIxL X.K) := by
  intro value slice pins s σ H x y v u Q I rx ry h hs
  obtain ⟨p, xs, i, z, rfl, rfl, hq, he, q⟩ := h
  cases rx
  obtain ⟨t, rfl⟩ := ry
  obtain ⟨its, r, pl, hz⟩ := I.list hq
  obtain ⟨j, h1, h2, h3, h4, h5⟩ := atI_get he
  obtain ⟨w, ew, rw'⟩ := r.get h2
  have hl := r.length
  have hn := line63
  have fin : EP X pins σ Q w s := ⟨z, H, I, rw', q⟩
  by_cases h0 : 0 ≤ i
  · have hj : i.toNat = j := by
      rw [seqIndex_of h0 h5] at h1
      exact Option.some.inj h1
    exact item_listR pl.isList h0 (by omega) (by rw [hj]; simpa using ew) fin hs
  · have hj : (i + (its.toArray.size : Int)).toNat = j := by
      rw [seqIndex_neg (by omega) h4] at h1
      rw [List.size_toArray, ← hl]
      exact Option.some.inj h1
    exact subscriptTail_builtinR (x := w) pl.isList.typeIs slot_list_getitem.lookup
      (wpAny_getItem_list_neg (Q := fun r s' => r = w ∧ EP X pins σ Q r s') pl.isList (by omega) (by rw [List.size_toArray] <;> omega) (by omega) (by rw [hj]; simpa using ew) ⟨rfl, fin⟩) hs
/-- list, tuple or str -/
def rIx (K : PySem.W.Frag) : R2 := fun x y H Q => rIxL K x y H Q ∨ rIxT K x y H Q ∨ rIxS x y H Q
/-! ### xs[i] = v, any sign -/
/-- the list's object behind a store -/
theorem mapSeq_set (its : List Value) (n j : Nat) (u : Value) : Obj.mapSeq (·.setIfInBounds j u) { cls := .type "list", data := .seq its.toArray n } = { cls := .type "list", data := .seq (its.set j u).toArray n } := by
  simp [Obj.mapSeq]
theorem Inv.lst {pins : List (Addr × Obj)} {σ : St} {H : Hp} {s : Shared} {p : Addr} {xs : List V} (I : Inv X pins σ H s) (h : H p = some (.lst xs)) :
    ∃ (its : List Value) (n : Nat), Vals xs its ∧ s.heap.get? p = some { cls := .type "list", data := .seq its.toArray n } ∧ xs.length ≤ sizeLine := by
  obtain ⟨z, its, n, r, e⟩ := I.hok p _ h
  exact ⟨its, n, r, e, z⟩
/-- the list at p is written by an update of its object -/
theorem Inv.lstUpd {pins : List (Addr × Obj)} {σ : St} {H : Hp} {s : Shared} {p : Addr} {xs ys : List V} {its its' : List Value} {n n' : Nat} {f : Obj → Obj} (I : Inv X pins σ H s) (h : H p = some (.lst xs))
    (ho : s.heap.get? p = some { cls := .type "list", data := .seq its.toArray n }) (hf : f { cls := .type "list", data := .seq its.toArray n } = { cls := .type "list", data := .seq its'.toArray n' }) (r : Vals ys its') (hz : ys.length ≤ sizeLine) (t : Nat) :
    Inv X pins σ (upd H p (.lst ys)) { s with heap := s.heap.update p f, toks := t } := by
  have e : (s.heap.update p f).get? p = some { cls := .type "list", data := .seq its'.toArray n' } := by
    rw [Heap.get?_update_self f ho (by rw [hf] <;> rfl), hf]
  refine I.write (x := p) (e := p) (by rw [h]; trivial) (.inl rfl) (fun b u hb q => (Heap.get?_update_other _ _ (Ne.symm hb)).trans q) ⟨_, e⟩ ?_
  exact ⟨hz, its', n', r, e⟩
def rSetL : V → V → V → Hp → (Hp → Prop) → Prop := fun o i v H Q => ∃ p xs k j, o = .ref p ∧ i = .int k ∧ H p = some (.lst xs) ∧ ixN xs.length k = some j ∧ Q (upd H p (.lst (xs.set j v)))
theorem set_list : PSet X rSetL := by
  intro pins s σ H o i v ov iv u Q I ro ri rv h
  obtain ⟨p, xs, k, j, rfl, rfl, hp, hj, q⟩ := h
  cases ro
  obtain ⟨t, rfl⟩ := ri
  obtain ⟨its, n, r, ho, hz⟩ := I.lst hp
  obtain ⟨h1, h2, h3, h4⟩ := ixN_seq hj
  have hl := r.length
  have hn := line63
  have I' : Inv X pins σ (upd H p (.lst (xs.set j v))) { s with heap := s.heap.update p (Obj.mapSeq (·.setIfInBounds j u)) } :=
    I.lstUpd hp ho (mapSeq_set its n j u) (r.set rv j) (by rw [List.length_set]; exact hz) s.toks
  by_cases h0 : 0 ≤ k
  · have hk : k.toNat = j := by
      rw [seqIndex_of h0 h4] at h1
      exact Option.some.inj h1
    exact PySem.W.ki_setAt ho h0 (by omega) (by rw [List.size_toArray, ← hl]; exact h4) (by rw [hk]; exact ⟨_, I', q⟩)
  · have hk : (k + (its.toArray.size : Int)).toNat = j := by
      rw [seqIndex_neg (by omega) h3] at h1
      rw [List.size_toArray, ← hl]
      exact Option.some.inj h1
    exact PySem.W.ki_setBack ho (by omega) (by rw [List.size_toArray, ← hl]; exact h3) (by omega) (by rw [hk]; exact ⟨_, I', q⟩)

/-! ### slices -/
theorem slice_bounds (lo hi : Option Int) (n : Nat) : (sliceBounds lo hi none n).1 = ((HT.sIx n 0 lo : Nat) : Int) ∧ (sliceBounds lo hi none n).2.1 = ((HT.sIx n n hi : Nat) : Int) ∧ (sliceBounds lo hi none n).2.2 = 1 := by
  refine ⟨?_, ?_, rfl⟩
  · cases lo with
    | none => simp [sliceBounds, HT.sIx]
    | some i =>
      simp only [sliceBounds, HT.sIx, Option.getD_none, show (1 : Int) > 0 by decide, if_true]
      by_cases h : i < 0
      · simp only [h, if_true] <;> omega
      · simp only [h, if_false] <;> omega
  · cases hi with
    | none => simp [sliceBounds, HT.sIx]
    | some i =>
      simp only [sliceBounds, HT.sIx, Option.getD_none, show (1 : Int) > 0 by decide, if_true]
      by_cases h : i < 0
      · simp only [h, if_true] <;> omega
      · simp only [h, if_false] <;> omega
theorem slicePick_cut (its : List Value) (lo hi : Option Int) : slicePick its.toArray lo hi none = ((its.drop (HT.sIx its.length 0 lo)).take (HT.sIx its.length its.length hi - HT.sIx its.length 0 lo)).toArray := by
  obtain ⟨h1, h2, h3⟩ := slice_bounds lo hi its.toArray.size
  unfold slicePick
  rw [h1, h2, h3]
  simp only [sliceRange_one, pick_run, List.size_toArray] <;> rfl
/-- xs[lo:hi] of a list: a new list -/
def rSlL (K : PySem.W.Frag) : V → Option Int → Option Int → Hp → VK → Prop := fun x lo hi H Q => ∃ a xs, x = .ref a ∧ SqL K H a xs ∧ ∀ p, H p = none → Q (.ref p) (upd H p (.lst (cutV xs lo hi)))
theorem sl_list : SlR X (rSlL X.K) := by
  intro pins s σ H x v vl vu lo hi sl Q I rx hs pl pu h
  obtain ⟨a, xs, rfl, hx, q⟩ := h
  cases rx
  obtain ⟨its, r, ht, hz⟩ := I.list hx
  have hlen := r.length
  refine ⟨"list", _, slot_list_getitem.lookup, ht.isList.typeIs, ?_⟩
  refine wpAny_getItem_list_slice ht.isList hs pl pu .none (by simp) ?_ (by rw [List.size_toArray] <;> omega)
  rw [slicePick_cut, ← hlen]
  refine ⟨.ref s.heap.objs.size, _, I.laid (t' := s.toks) (o := .lst (cutV xs lo hi)) (fun b ob q => Heap.get?_push_of_some _ q) (Nat.le_refl _) ?_, rfl, q _ (I.hok.fresh (Nat.le_refl _))⟩
  exact ⟨Nat.le_trans (cutV_length xs lo hi) hz, _, 0, (r.drop (HT.sIx xs.length 0 lo)).take (HT.sIx xs.length xs.length hi - HT.sIx xs.length 0 lo), Heap.get?_push_size _ rfl⟩

/-! ### in, not in: flat items -/
def flatV : V → Bool
  | .non => true
  | .bl _ => true
  | .int _ => true
  | .str _ => true
  | _ => false
/-- == of flat values -/
def eqV : V → V → Bool
  | .non, .non => true
  | .bl a, .bl b => a == b
  | .bl a, .int b => (if a then 1 else 0) == b
  | .int a, .bl b => a == (if b then 1 else 0)
  | .int a, .int b => a == b
  | .str a, .str b => a == b
  | _, _ => false
theorem eqAt_V {A : Around} {s : Shared} {y x : V} {u v : Value} (ry : RelV y u) (rx : RelV x v) (fy : flatV y = true) (fx : flatV x = true) : SeqAt.EqAt A s u v (eqV y x) := by
  cases y with
  | non =>
    cases ry
    cases x with
    | non => cases rx; exact SeqAt.EqAt.same _
    | bl b => cases rx; exact SeqAt.EqAt.none_bool b
    | int b => obtain ⟨t, rfl⟩ := rx; exact SeqAt.EqAt.none_int b t
    | str b => obtain ⟨t, rfl⟩ := rx; exact SeqAt.EqAt.none_str b t
    | _ => exact absurd (show false = true from fx) Bool.false_ne_true
  | bl a =>
    cases ry
    cases x with
    | non => cases rx; exact SeqAt.EqAt.bool_none a
    | bl b => cases rx; exact SeqAt.EqAt.bool_bool a b
    | int b => obtain ⟨t, rfl⟩ := rx; exact SeqAt.EqAt.bool_int a b t
    | str b => obtain ⟨t, rfl⟩ := rx; exact SeqAt.EqAt.bool_str a b t
    | _ => exact absurd (show false = true from fx) Bool.false_ne_true
  | int a =>
    obtain ⟨t', rfl⟩ := ry
    cases x with
    | non => cases rx; exact SeqAt.EqAt.int_none a t'
    | bl b => cases rx; exact SeqAt.EqAt.int_bool a t' b
    | int b => obtain ⟨t, rfl⟩ := rx; exact SeqAt.EqAt.int_int a t' b t
    | str b => obtain ⟨t, rfl⟩ := rx; exact SeqAt.EqAt.int_str a t' b t
    | _ => exact absurd (show false = true from fx) Bool.false_ne_true
  | str a =>
    obtain ⟨t', rfl⟩ := ry
    cases x with
    | non => cases rx; exact SeqAt.EqAt.str_none a t'
    | bl b => cases rx; exact SeqAt.EqAt.str_bool a t' b
    | int b => obtain ⟨t, rfl⟩ := rx; exact SeqAt.EqAt.str_int a t' b t
    | str b => obtain ⟨t, rfl⟩ := rx; exact SeqAt.EqAt.str_str a t' b t
    | _ => exact absurd (show false = true from fx) Bool.false_ne_true
  | _ => exact absurd (show false = true from fy) Bool.false_ne_true
/-- the items' answers, read off the values (a value's own answer does not lean on its token) -/
def eqU (x : V) (u : Value) : Bool := match u with
  | .none => eqV .non x
  | .bool b => eqV (.bl b) x
  | .int i _ => eqV (.int i) x
  | .str z _ => eqV (.str z) x
  | _ => false
theorem eqU_of {x y : V} {u : Value} (r : RelV y u) (f : flatV y = true) : eqU x u = eqV y x := by
  cases y with
  | non => cases r; rfl
  | bl b => cases r; rfl
  | int i => obtain ⟨t, rfl⟩ := r; rfl
  | str z => obtain ⟨t, rfl⟩ := r; rfl
  | _ => exact absurd (show false = true from f) Bool.false_ne_true
theorem mem_eqAt {A : Around} {s : Shared} {x : V} {v : Value} (rx : RelV x v) (fx : flatV x = true) : ∀ {xs : List V} {us : List Value}, Vals xs us → xs.all flatV = true → ∀ u ∈ us, SeqAt.EqAt A s u v (eqU x u)
  | _, _, .nil, _ => fun u hu => by cases hu
  | y :: xs, u :: us, .cons r t, f => fun u' hu => by
    rw [List.all_cons, Bool.and_eq_true] at f
    rcases List.mem_cons.mp hu with rfl | hu
    · rw [eqU_of r f.1]; exact eqAt_V r rx f.1 fx
    · exact mem_eqAt rx fx t f.2 u' hu
def inV (x : V) (xs : List V) : Bool := xs.any fun y => eqV y x
/-- x in a list or tuple of flat items -/
def rIn (K : PySem.W.Frag) (neg : Bool) : R2 := fun x y H Q => ∃ p xs, y = .ref p ∧ (SqL K H p xs ∨ SqT K H p xs) ∧ flatV x = true ∧ xs.all flatV = true ∧ Q (.bl (if neg then !inV x xs else inV x xs)) H
/-! ### len, list(x), tuple(x) of any list or tuple that is read -/
theorem call_len_seq : CallR X (.builtin "len") (fun xs H Q => ∃ p ys, xs = [.ref p] ∧ (SqL X.K H p ys ∨ SqT X.K H p ys) ∧ Q (.int ys.length) H) := by
  intro pins s σ H xs us Q I r h
  obtain ⟨p, ys, rfl, hq, q⟩ := h
  obtain ⟨u, rfl, rx⟩ := vals1 r
  cases rx
  have hn := line63
  rcases hq with hq | hq
  · obtain ⟨its, r', pl, hz⟩ := I.list hq
    have hlen := r'.length
    exact Calls.call_len_list pl.isList (by simp only [List.size_toArray] <;> omega) ⟨.int ys.length, H, I.tok _, ⟨s.toks + 1, by rw [List.size_toArray, hlen]⟩, q⟩
  · obtain ⟨its, r', pl, hz⟩ := I.tuple hq
    have hlen := r'.length
    exact len_tuple pl (by simp only [List.size_toArray] <;> omega) ⟨.int ys.length, H, I.tok _, ⟨s.toks + 1, by rw [List.size_toArray, hlen]⟩, q⟩
/-! ### the call of a builtin's method: o.m(..) -/
/-- the value is of that builtin type -/
def tyV (K : PySem.W.Frag) (T : String) (x : V) (H : Hp) : Prop := match x with
  | .str _ => T = "str"
  | .int _ => T = "int"
  | .ref p => (T = "list" ∧ ∃ xs, SqL K H p xs) ∨ (T = "tuple" ∧ ∃ o, K.lookup p = some o ∧ o.cls = .type "tuple" ∧ o.dict = none) ∨
      (T = "dict" ∧ ((∃ kvs, H p = some (.dK kvs)) ∨ ∃ kvs, H p = some (.dT kvs))) ∨ (T = "set" ∧ ∃ S n, H p = some (.set S n))
  | _ => False
theorem tyV_is {pins : List (Addr × Obj)} {σ : St} {H : Hp} {s : Shared} {T : String} {x : V} {v : Value} (I : Inv X pins σ H s) (r : RelV x v) (ty : tyV X.K T x H) :
    s.TypeIs v T ∧ ∀ a, v = .ref a → ∃ ob, s.heap.get? a = some ob ∧ ob.dict = none := by
  cases x with
  | str z =>
    obtain ⟨t, rfl⟩ := r
    cases (show T = "str" from ty)
    exact ⟨typeIs_str s z t, fun _ e => nomatch e⟩
  | int i =>
    obtain ⟨t, rfl⟩ := r
    cases (show T = "int" from ty)
    exact ⟨typeIs_int s i t, fun _ e => nomatch e⟩
  | ref p =>
    cases r
    rcases ty with ⟨rfl, xs, hq⟩ | ⟨rfl, o, hk, hc, hd⟩ | ⟨rfl, hk⟩ | ⟨rfl, S, n, hk⟩
    · obtain ⟨its, _, pl, _⟩ := I.list hq
      refine ⟨pl.isList.typeIs, fun a e => ?_⟩
      cases e
      obtain ⟨o, n, e, c, hd, _⟩ := pl
      exact ⟨o, e, hd⟩
    · refine ⟨⟨o, I.kIn p o hk, hc⟩, fun a e => ?_⟩
      cases e
      exact ⟨o, I.kIn _ o hk, hd⟩
    · have z : ∃ o, s.heap.get? p = some o ∧ o.ExactDict := by
        rcases hk with ⟨kvs, hk⟩ | ⟨kvs, hk⟩
        · obtain ⟨_, _, _, _, o, _, _, e, ex, _⟩ := I.hok p _ hk
          exact ⟨o, e, ex⟩
        · obtain ⟨_, _, _, _, o, _, _, e, ex, _⟩ := I.hok p _ hk
          exact ⟨o, e, ex⟩
      obtain ⟨o, e, ex⟩ := z
      refine ⟨⟨o, e, ex.1⟩, fun a e2 => ?_⟩
      cases e2
      exact ⟨o, e, ex.2.1⟩
    · obtain ⟨o, _, _, _, e, ex, _⟩ := I.hok p _ hk
      refine ⟨⟨o, e, ex.1⟩, fun a e2 => ?_⟩
      cases e2
      exact ⟨o, e, ex.2.1⟩
  | _ => exact False.elim ty
def tBM0 (K : PySem.W.Frag) (T : String) (r : V → List V → Hp → VK → Prop) (to : TE) : TE := fun σ H Q => to σ H fun x H1 => tyV K T x H1 ∧ r x [] H1 Q
def tBM (K : PySem.W.Frag) (T : String) (r : V → List V → Hp → VK → Prop) (to : TE) (t : TA) : TE := fun σ H Q => to σ H fun x H1 => tyV K T x H1 ∧ t σ H1 fun xs H2 => r x xs H2 Q
variable {o e : Expr} {es : List Expr} {to : TE} {t : TA} {name : Str} {apos cpos : Pos} {T id : String} {r : V → List V → Hp → VK → Prop}
theorem pe_bm (pa : PlainAttrs T) (slot : Slot T name id) (hty : typeOf (.builtin id) = pure (.type "method_descriptor")) (hm : MtR X id r) (ho : PE X o to) (ha : PA X (e :: es) t)
    (hbase : attributeBase o name X.env (eval o X.env) = eval o X.env := by rfl)
    (hfew : ((backTo cpos (starEach (e :: es) X.env)).all (fun x => !x.1) && (backToKw cpos (keywordEach [] X.env)).all (fun x => x.1.isSome)
      && decide ((e :: es).length + ([] : List Keyword).length + (if ([] : List Keyword).isEmpty then 0 else 1) < 30)) = true := by rfl)
    (hline : (apos.endLine == cpos.line) = true := by rfl) (hs : starEach (e :: es) X.env = (false, eval e X.env) :: starEach es X.env := by rfl) (hplain : (backTo cpos (starEach es X.env)).any (·.1) = false := by rfl) :
    PE X (.Call (.Attribute o name apos) (e :: es) [] cpos) (tBM X.K T r to t) := by
  intro pins s σ H Q I h
  refine wpAny_Call_method_late hbase hfew hline rfl (thn (ho pins s σ H _ I h) fun v s1 ⟨x, H1, I1, r1, ty, q1⟩ => ?_)
  obtain ⟨h1, h2⟩ := tyV_is I1 r1 ty
  refine ⟨T, id, pa, slot, hty, h1, h2, ?_⟩
  have hA := ha cpos pins s1 σ H1 _ I1 q1
  rw [hs] at hA ⊢
  refine Calls.callWith_builtin (by show (false || (backTo cpos (starEach es X.env)).any (·.1)) = false; rw [hplain] <;> rfl) (Calls.evalArgs_plain ?_)
  exact thn hA fun us s2 ⟨vs, H2, I2, r2, q2⟩ => hm pins s2 σ H2 x vs v us Q I2 r1 r2 q2
/- xs.append(e), list.index on a module's tuple .. are MtR facts of 06m -/
end
end L2

namespace L2
open PySem PySem.Spec PyProof.Rows

def MtM (X : Cx) (id : String) (r : V → List V → Hp → VK → Prop) : Prop :=
  ∀ (pins : List (Addr × Obj)) (s : Shared) (σ : St) (H : Hp) (x : V) (xs : List V) (v : Value) (us : List Value) (Q : VK), Inv X pins σ H s → RelV x v → Vals xs us → r x xs H Q →
    wpAny (model X.prog X.w) X.A (call (.builtin id) (v :: us)) (EP X pins σ Q) X.xe s

/-! ### lists of values -/
theorem Vals.one : ∀ {x : V} {us : List Value}, Vals [x] us → ∃ u, us = [u] ∧ RelV x u
  | _, _, .cons r .nil => ⟨_, rfl, r⟩
theorem Vals.rep {xs : List V} {us : List Value} (h : Vals xs us) : ∀ k : Nat, Vals (List.replicate k xs).flatten (List.replicate k us).flatten
  | 0 => .nil
  | k + 1 => by
    rw [List.replicate_succ, List.replicate_succ, List.flatten_cons, List.flatten_cons]
    exact Vals.append h (Vals.rep h k)
theorem foldl_rep (its : List Value) : ∀ (k : Nat) (acc : List Value),
    List.foldl (fun x1 x2 => x1 ++ x2) acc.toArray (List.replicate k its.toArray) = (acc ++ (List.replicate k its).flatten).toArray
  | 0, acc => by simp
  | k + 1, acc => by
    have e : acc.toArray ++ its.toArray = (acc ++ its).toArray := by simp
    have e2 : (acc ++ its) ++ (List.replicate k its).flatten = acc ++ (List.replicate (k + 1) its).flatten := by
      rw [List.replicate_succ, List.flatten_cons, List.append_assoc]
    rw [← e2, ← foldl_rep its k (acc ++ its), ← e, List.replicate_succ, List.foldl_cons]

section
variable {X : Cx} {pins : List (Addr × Obj)} {σ : St} {H : Hp} {s : Shared} {l b : Addr} {xs ys zs : List V}

/-! ### the two steps: a tracked list is rewritten, a new list is laid -/
theorem Inv.lset {its its' : List Value} {n : Nat} {f : Array Value → Array Value} {t' : Nat} (I : Inv X pins σ H s) (hH : H l = some (.lst xs))
    (e : s.heap.get? l = some { cls := .type "list", data := .seq its.toArray n }) (hf : f its.toArray = its'.toArray) (hv : Vals ys its') (hz : ys.length ≤ sizeLine) :
    Inv X pins σ (upd H l (.lst ys)) { s with heap := s.heap.update l (Obj.mapSeq f), toks := t' } := by
  have q := PySem.IsL.update e f
  rw [hf] at q
  refine I.write (x := l) (e := l) (by rw [hH]; exact trivial) (.inl rfl) (fun b' u hb hu => (Heap.get?_update_other s.heap (Obj.mapSeq f) (Ne.symm hb)).trans hu) ⟨_, q⟩ ?_
  exact ⟨hz, its', _, hv, q⟩
theorem Inv.lnew {its : List Value} {t' : Nat} (I : Inv X pins σ H s) (hv : Vals ys its) (hz : ys.length ≤ sizeLine) :
    Inv X pins σ (upd H s.heap.objs.size (.lst ys)) { s with heap := s.heap.push { cls := .type "list", data := .seq its.toArray }, toks := t' } :=
  I.laid (fun _ _ q => Heap.get?_push_of_some _ q) (Nat.le_refl _) ⟨hz, its, 0, hv, Heap.get?_push_size _ rfl⟩
theorem Inv.fresh (I : Inv X pins σ H s) : H s.heap.objs.size = none := I.hok.fresh (Nat.le_refl _)
theorem Inv.lstM (I : Inv X pins σ H s) (hH : H l = some (.lst xs)) : xs.length ≤ sizeLine ∧ ∃ (its : List Value) (n : Nat), Vals xs its ∧ xs.length = its.length ∧ s.heap.get? l = some { cls := .type "list", data := .seq its.toArray n } := by
  obtain ⟨z, its, n, r, e⟩ := I.hok l _ hH
  exact ⟨z, its, n, r, r.length, e⟩

theorem notLongL {n : Nat} (h : n ≤ sizeLine) : Builtin.List.listTooLong n = false := by
  unfold Builtin.List.listTooLong
  exact decide_eq_false (by omega)
end

section
variable {X : Cx}

/-! ### methods -/
def rAppend : V → List V → Hp → VK → Prop := fun x vs H Q => ∃ l xs y, x = .ref l ∧ vs = [y] ∧ H l = some (.lst xs) ∧ xs.length < sizeLine ∧ Q .non (upd H l (.lst (xs ++ [y])))
theorem mt_append : MtM X "list.append" rAppend := by
  intro pins s σ H x vs v us Q I rx rv h
  obtain ⟨l, xs, y, rfl, rfl, hH, hz, q⟩ := h
  cases rx
  obtain ⟨u, rfl, ru⟩ := rv.one
  obtain ⟨z, its, n, r, hl, e⟩ := I.lstM hH
  refine call_meets F.slot_list_append ⟨_, e, rfl⟩ F.entry_list_append (F.args_list_append_2 _ _) (PySem.list_append l its.toArray n u (by rw [List.size_toArray]; omega)) ⟨e, ?_⟩
  refine ⟨.non, _, I.lset (its' := its ++ [u]) hH e (by simp) (r.append (.cons ru .nil)) ?_, rfl, q⟩
  rw [List.length_append, List.length_singleton]
  omega

def rExtend : V → List V → Hp → VK → Prop := fun x vs H Q => ∃ l b xs zs, x = .ref l ∧ vs = [.ref b] ∧ H l = some (.lst xs) ∧ H b = some (.lst zs) ∧ xs.length + zs.length ≤ sizeLine ∧ Q .non (upd H l (.lst (xs ++ zs)))
def rPop : V → List V → Hp → VK → Prop := fun x vs H Q => ∃ l xs y, x = .ref l ∧ vs = [] ∧ H l = some (.lst xs) ∧ xs[xs.length - 1]? = some y ∧ Q y (upd H l (.lst xs.dropLast))
def rPopAt : V → List V → Hp → VK → Prop := fun x vs H Q => ∃ l xs i k y, x = .ref l ∧ vs = [.int i] ∧ H l = some (.lst xs) ∧ -(2 ^ 63) ≤ i ∧ i < 2 ^ 63 ∧ seqIndex? i xs.length = some k ∧ xs[k]? = some y ∧ Q y (upd H l (.lst (xs.eraseIdx k)))
def rReverse : V → List V → Hp → VK → Prop := fun x vs H Q => ∃ l xs, x = .ref l ∧ vs = [] ∧ H l = some (.lst xs) ∧ Q .non (upd H l (.lst xs.reverse))
def rClear : V → List V → Hp → VK → Prop := fun x vs H Q => ∃ l xs, x = .ref l ∧ vs = [] ∧ H l = some (.lst xs) ∧ Q .non (upd H l (.lst []))
/-! ### list + list, list += list, list * int -/
def rCat : R2 := fun x y H Q => ∃ l b xs zs, x = .ref l ∧ y = .ref b ∧ H l = some (.lst xs) ∧ H b = some (.lst zs) ∧ xs.length + zs.length ≤ sizeLine ∧ ∀ p, H p = none → Q (.ref p) (upd H p (.lst (xs ++ zs)))
theorem op_cat : OpR X (binaryOp .Add) rCat := by
  intro pins s σ H x y v u Q I rx ry h
  obtain ⟨l, b, xs, zs, rfl, rfl, hH, hB, hz, q⟩ := h
  cases rx
  cases ry
  obtain ⟨z, its, n, r, hl, e⟩ := I.lstM hH
  obtain ⟨z2, its2, n2, r2, hl2, e2⟩ := I.lstM hB
  refine PySem.P.add_list e e2 ?_ (by rw [List.size_toArray, List.size_toArray]; omega)
  have ea : its.toArray ++ its2.toArray = (its ++ its2).toArray := by simp
  rw [ea]
  exact ⟨.ref _, _, I.lnew (t' := s.toks) (r.append r2) (by rw [List.length_append]; omega), rfl, q _ I.fresh⟩
/-- a list times an int (a negative one is nothing) -/
def rRep : R2 := fun x y H Q => ∃ l k xs, x = .ref l ∧ y = .int k ∧ H l = some (.lst xs) ∧ -(2 ^ 63) ≤ k ∧ k < 2 ^ 63 ∧ xs.length * k.toNat ≤ sizeLine ∧
  ∀ p, H p = none → Q (.ref p) (upd H p (.lst (List.replicate k.toNat xs).flatten))
theorem len_rep {α : Type} (xs : List α) (k : Nat) : (List.replicate k xs).flatten.length = k * xs.length := by
  induction k with
  | zero => simp
  | succ k ih => rw [List.replicate_succ, List.flatten_cons, List.length_append, ih, Nat.succ_mul, Nat.add_comm]
theorem op_rep : OpR X (binaryOp .Mult) rRep := by
  intro pins s σ H x y v u Q I rx ry h
  obtain ⟨l, k, xs, rfl, rfl, hH, h1, h2, hz, q⟩ := h
  cases rx
  obtain ⟨t, rfl⟩ := ry
  obtain ⟨z, its, n, r, hl, e⟩ := I.lstM hH
  have hlen : its.toArray.size * k.toNat ≤ sizeLine := by rw [List.size_toArray, ← hl]; exact hz
  have hcap : ¬ its.toArray.size * k.toNat > (2 ^ 63 - 1) / 8 := by
    have : (sizeLine : Nat) ≤ (2 ^ 63 - 1) / 8 := by decide
    omega
  have hfit : ¬ (!Builtin.List.listFitsIndex k) = true := by
    rw [fitsIndex_both h1 h2]
    exact Bool.false_ne_true
  have hlong : ¬ Builtin.List.listTooLong (its.toArray.size * k.toNat) = true := by
    rw [notLongL hlen]
    exact Bool.false_ne_true
  have hnew : List.foldl (fun x1 x2 => x1 ++ x2) #[] (List.replicate (if its.toArray.isEmpty = true then 0 else k.toNat) its.toArray) = (List.replicate k.toNat its).flatten.toArray := by
    have f0 : ∀ m : Nat, List.foldl (fun x1 x2 => x1 ++ x2) #[] (List.replicate m its.toArray) = (List.replicate m its).flatten.toArray := fun m => by
      have := foldl_rep its m []
      rw [List.nil_append] at this
      exact this
    rw [f0]
    cases its with
    | nil => simp
    | cons a r' => rw [if_neg (by simp)]
  refine wpAny_binaryOp_repeat_ref (T := "list") (U := "int") (by decide) ⟨_, e, rfl⟩ (fun s' => typeIs_int s' k t) noFill_list_mul F.fills_int_mul F.slot_int_rmul repeat_list F.slot_int_index.lookup
    (call_meets F.slot_int_rmul (typeIs_int s k t) F.entry_int_rmul (F.args_int_rmul_2 _ _) (int___rmul___int_list k t l its.toArray n)
      ⟨e, rfl, ⟨_, e, rfl⟩, call_meets F.slot_list_mul ⟨_, e, rfl⟩ F.entry_list_mul (F.args_list_mul_2 _ _) (AutoListH.list___mul___list_int_3 l its.toArray n k t hfit hcap hlong) ⟨e, ?_⟩⟩)
  rw [hnew]
  exact ⟨.ref _, _, I.lnew (t' := s.toks) (r.rep k.toNat) (by rw [len_rep, Nat.mul_comm]; exact hz), rfl, q _ I.fresh⟩

/-! ### del xs[i] -/
end

/-! ### xs[a:b] = ys -/
section
variable {prog : Program} {w : World} {A : Around} {E : Value → Shared → Prop} {s : Shared}
end

section
variable {X : Cx}
end
end L2

namespace Att
open PySem PySem.W PySem.Calls PyProof.Rows

/-! ### the script -/
theorem ints_of_wellAll {P : Params} {h : Heap} : ∀ (ns : List Int) (vs : List Value), WellAll P h vs (ns.map WData.int) → IntsAre vs ns := by
  intro ns
  induction ns with
  | nil =>
    intro vs w
    rw [List.map_nil] at w
    cases w
    exact .nil
  | cons n ns ih =>
    intro vs w
    rw [List.map_cons] at w
    cases w with
    | cons a b =>
      cases a
      exact .cons _ _ (ih _ b)

theorem script_of {l : OpenLaw} {n : Nat} (hn : l.most = some n) {P : Params} {h : Heap} {args : List WData} {vals : List Value}
    (hpre : l.row.toRowW.claim.pre args = true) (hwl : WellAll P h vals args) :
    ∃ a vs ns, vals = [Value.ref a] ∧ args = [WData.list (ns.map WData.int)] ∧ h.get? a = some { cls := .type "list", data := .seq vs.toArray } ∧ IntsAre vs ns ∧ ns.length ≤ n := by
  have hsh : WShape.hasAll [] args [.list .int] = true := (pre_splitW hpre).1
  have hc : l.pre.holds [] { args := args } = true := (pre_splitW hpre).2
  obtain ⟨d, r, rfl, h1, h2⟩ := hasAllW_cons hsh
  obtain rfl := hasAllW_nil h2
  obtain ⟨xs, rfl, h3⟩ := hasW_list h1
  obtain ⟨ns, rfl⟩ := items_int h3
  have hlen : ns.length ≤ n := by
    unfold OpenLaw.pre at hc
    have h4 : (WTm.not (.lt (.lit (.int (n : Int))) (.len (.arg 0)))).holds [] { args := [.list (ns.map .int)] } = true := by
      have h4 := (holds_andW hc).1
      rw [hn] at h4
      exact h4
    have h5 := condW_of h4 (w_not (w_lt w_lit (w_len_list (w_arg rfl))))
    rw [List.length_map] at h5
    refine Nat.le_of_not_lt fun q => ?_
    have q' : (n : Int) < ((ns.length : Nat) : Int) := by omega
    first
      | (rw [decide_eq_true q'] at h5; exact absurd h5 (by decide))
      | (simp at h5; omega)
  cases hwl with
  | cons w1 w2 =>
    cases w2
    cases w1 with
    | list ho hall => exact ⟨_, _, ns, rfl, rfl, ho, ints_of_wellAll ns _ hall, hlen⟩

theorem post_true (l : OpenLaw) (args : List WData) : l.row.toRowW.claim.post args (.bool true) args = true :=
  postW_of (r := l.row.toRowW) (X := (true == true))
    (show WShape.has [] (.bool true) .bool = true by first | rfl | decide | simp [WShape.has, WShape.arms, WShape.armsAll])
    (show (WTm.eq .res (.lit (.bool true))).value [] { args := args, res := some (.bool true), after := args } = some (.bool (true == true)) from w_eq_bool (w_res rfl) w_lit) rfl

/-! ### the attachment: holds_open's last premise (the goal 'hc' behind k_head) from a wpAny of the law's body -/
/-- the same from a codeAny of the CALL (for a layer whose function contracts speak of calls) -/
theorem attach_call {l : OpenLaw} {n : Nat} {q : Program} {loose : List Str} {XP : (Str → Option Value) → Heap → Prop} {YP : World → Heap → Prop} {d : DefRec}
    (hn : l.most = some n) (hdf : d.params.defaults = [])
    (call : ∀ (w : World) (s₀ s₁ : Shared) (mg mb : Str → Option Value) (fa : Addr) (o : Obj) (pm cd doc : Value) (a : Addr) (vs : List Value) (ns : List Int),
      Ground q loose [] XP w s₀ mg mb s₁.heap → YP w s₁.heap →
      s₁.heap.get? fa = some o → o.data = .func (docDef d.name d.params d.body d.scope pm cd doc) → s₁.heap.CodeRec cd d.name → mg d.name = some (.ref fa) →
      s₁.heap.get? a = some { cls := .type "list", data := .seq vs.toArray } → IntsAre vs ns → ns.length ≤ n → s₁.gens = #[] →
      codeAny (model l.prog w) callerA (.call (.ref fa) ⟨[.ref a], []⟩) (fun r s' => r = .ok (.ret (.bool true)) ∧ OldK s₁.heap s'.heap ∧ s'.os = s₁.os ∧ AllBare s'.gens) s₁) :
    WalkO q loose XP YP l.row.toRowW d [] (fun f vs => PySem.call f vs) := by
  intro w s₀ s₁ mg mb G Y fa o pm cd doc dV kV ho hd hcd hD hmg hg args vals as hpre hlay hrd hwl hlo
  obtain rfl : dV = .none := Dflts.none hD hdf
  obtain rfl : kV = .none := Dflts.noKw hD
  obtain ⟨a, vs, ns, rfl, rfl, hobj, hints, hlen⟩ := script_of hn hpre hwl
  refine enter_call (codeAny_mono (call w s₀ s₁ mg mb fa o pm cd doc a vs ns G Y ho (fd_plain hd) hcd hmg hobj hints hlen hg) fun r s' hq => ?_)
  obtain ⟨rfl, h2, h3, h4⟩ := hq
  exact ⟨.inl ⟨.bool true, .bool true, [], rfl, fun _ => rfl, .bool true, post_true l _, fun _ => ⟨List.Pairwise.nil, fun _ hm => (nomatch hm)⟩⟩, h2, h3, h4⟩

/-! ### rules over ANY heap (no ledger) from facts about the written part K: the library's own take a ledger (News) for what they write -/
section
variable {prog : Program} {w : World} {A : Around} {E : Value → Shared → Prop} {s : Shared} {K : Frag}

/-! the whole heap as the ledger: makes every rule that writes through a ledger a rule over any heap -/
def noObjs (h : Heap) : Heap := { h with objs := #[] }
def ledger (h : Heap) (L d : Addr) : List (Addr × Obj) := (List.range h.objs.size).filterMap fun a => if a = L ∨ a = d then none else (h.get? a).map fun o => (a, o)
end
end Att

namespace L2
open PySem PySem.Spec PyProof.Rows

theorem vals_ints : ∀ {vs : List Value} {ns : List Int}, IntsAre vs ns → Vals (ns.map V.int) vs
  | _, _, .nil => .nil
  | _, _, .cons n t h => .cons ⟨t, rfl⟩ (vals_ints h)

/-- nothing is tracked but the script, known to the object (or it is an object of the module) -/
def Only (H : Hp) : Prop := ∀ b, H b = none ∨ ∃ o xs, H b = some (.frz o (.lst xs))

end L2

namespace L2
open PySem PySem.Spec PyProof.Rows

abbrev KOf {K : PySem.W.Frag} {h : Heap} (_ : K.In h) : PySem.W.Frag := K

end L2

/- THE LAST THEOREM (shape; LID, My.* are yours):
   My.Adr: a structure of the addresses that your layer names (classes, functions); My.Txt K t: a structure (Prop) of the equations over K;
   My.txt_mk : {K} {implicit addresses ..} (e1 : nsIn K mainGlobals "law" = some (some (.ref f))) (e2 : K.lookup f = some ⟨oc, od, .func (fnOf "law" "law" params body scope dV kV doc pm an cdv ct), sl⟩) (e3 : codeIn K cdv "law" = true) .. : ∃ t, My.Txt K t

set_option maxRecDepth 100000 in
set_option maxHeartbeats 0 in
theorem PySem.Challenge.cw_LID_holds : PySem.Challenge.rw_LID.Holds := by
  w_on; o_law; k_head; (case hw => w_witness2)
  k_fill
  refine L2.walk_of (l := PySem.Challenge.rw_LID) (n := 63) (k := 40) (x := "script") (CX := fun w => ..) (sp := fun _ => My.sp_law) rfl (by decide) rfl ⟨rfl, by decide, by decide⟩ (fun w h Y => PySem.W.kIn_of Y) ?F ?S ?C
  case F =>
    intro w mg fa h KX G hmg
    have T : ∃ t, My.Txt (L2.KOf KX) t := by
      dsimp only [L2.KOf]                          -- K must stand as «<heap const> w.params» for k_is
      refine' My.txt_mk ?e1 ?e2 ?e3 ..
      (case e1 => PySem.W.k_is)                    -- in the order: a name -> its address -> its object -> its parts
      (case e2 => PySem.W.k_is)
      ..
    obtain ⟨t, T⟩ := T
    have e0 := hmg.symm.trans (PySem.W.mg_of KX G T.law)
    cases e0                                       -- fa is the law's own address
    exact ⟨_, fun s u => .of_eq rfl, fun base kb nb => My.law_fn T kb nb⟩     -- if «.of_eq rfl» comes too early: refine' ⟨_, ?b, fun base kb nb => My.law_fn T kb nb⟩; exact fun s u => .of_eq rfl
  case S => exact fun w H a ns hl hO hS => ..
  case C => exact ..
(the tactic k_is has no namespace: write k_is) -/

/-! SHORT WORDS over the layer: a def of the text, its body, what a loop and a test want. -/
namespace L2
open PySem PySem.Spec PyProof.Rows

/-! ### the text by places -/
/-- the j-th statement of a class's body -/
def inClass (s : Stmt) (j : Nat) : Stmt := match s with
  | .ClassDef _ _ _ body _ _ _ _ _ _ _ => body.getD j (.Pass ⟨0, 0, 0, 0⟩)
  | _ => .Pass ⟨0, 0, 0, 0⟩
def defArgs (s : Stmt) : Arguments := match s with
  | .FunctionDef _ a _ _ _ _ _ _ _ _ => a
  | _ => { posonlyargs := [], args := [], vararg := none, kwonlyargs := [], kw_defaults := [], kwarg := none, defaults := [] }
def defBody (s : Stmt) : List Stmt := match s with
  | .FunctionDef _ _ b _ _ _ _ _ _ _ => b
  | _ => []
def defScope (s : Stmt) : Scope := match s with
  | .FunctionDef _ _ _ _ _ _ sc _ _ _ => sc
  | _ => { kind := .function, names := [], isGenerator := false, isCoroutine := false }

/-! ### no exception leaves a def -/
abbrev CX0 : CXT := fun _ _ _ _ _ _ => False
abbrev E0 : XK := fun _ _ _ => False
theorem pass0 {X : Cx} : Passes CX0 X E0 := fun _ _ _ _ _ _ _ h => h.elim

/-! ### a def (or method) of the text as it stands behind the top -/
structure Fun (K : PySem.W.Frag) (x qual : Str) (st : Stmt) (f : Addr) (fd : FuncData) : Prop where
  ex : ∃ (oc : Value) (od : Option Addr) (kV doc pm : Value) (an : Option Addr) (cdv ct : Value) (osl : Array (Option Value)),
    fd = PySem.W.fnOf x qual (defArgs st) (defBody st) (defScope st) .none kV doc pm an cdv ct ∧ K.lookup f = some ⟨oc, od, .func fd, osl⟩ ∧ PySem.W.codeIn K cdv qual = true
  kp : PySem.W.keepIn K (.ref f) = true
section
variable {P : Program} {w : World} {K : PySem.W.Frag} {mg : Str → Option Value} {base : Heap}
/-- THE RULE for a def: its body as a term of rules, and the reading of that term -/
theorem Fun.ok {x qual : Str} {st : Stmt} {f : Addr} {fd : FuncData} {N ps : List Str} {k : Nat} {sp : Sp} (F : Fun K x qual st f fd) (S : FnScope N ps (defScope st)) (len : ∀ vs H Q E, sp vs H Q E → vs.length = ps.length)
    (hbody : ∀ (cdv : Value) (A : Around) (outer : List Env) (s : Shared) (H : Hp) (vs : List V) (Q : VK) (E : XK), Room k (A.deeper (envOfC qual (defScope st) s.heap.objs.size f cdv)) → sp vs H Q E →
      ∃ t, PSs (cxOf CX0 P w K mg base N qual (defScope st) f cdv A outer s H E).nox (defBody st) t ∧ t { nx := fun _ H' => Q .non H', rt := Q } (start N vs) H) : FnOk P w K mg base CX0 (k + 1) f fd ps sp := by
  obtain ⟨oc, od, kV, doc, pm, an, cdv, ct, osl, rfl, lk, hcd⟩ := F.ex
  refine fn_of lk hcd S len fun A outer s H vs Q E hr hsp => ?_
  obtain ⟨t, h, q⟩ := hbody cdv A outer s H vs Q E hr hsp
  exact ⟨t, h.nox, q⟩
/-- how its arguments bind (no defaults): h is «fun _ _ _ _ _ _ us hl => match us, hl with | [_, _], _ => rfl», one _ a parameter -/
theorem Fun.binds {x qual : Str} {st : Stmt} {f : Addr} {fd : FuncData} {ps : List Str} (F : Fun K x qual st f fd)
    (h : ∀ (kV doc pm : Value) (an : Option Addr) (cdv ct : Value) (us : List Value), us.length = ps.length → bindArgs (PySem.W.fnOf x qual (defArgs st) (defBody st) (defScope st) .none kV doc pm an cdv ct) ⟨us, []⟩ = pure (ps.zip us)) : Binds K fd ps [] := by
  obtain ⟨oc, od, kV, doc, pm, an, cdv, ct, osl, rfl, lk, hcd⟩ := F.ex
  exact .all (h kV doc pm an cdv ct)
theorem fun_mk {x qual : Str} {st : Stmt} {f : Addr} {oc : Value} {od an : Option Addr} {osl : Array (Option Value)} {kV doc pm cdv ct : Value} (l : K.lookup f = some ⟨oc, od, .func (PySem.W.fnOf x qual (defArgs st) (defBody st) (defScope st) .none kV doc pm an cdv ct), osl⟩)
    (c : PySem.W.codeIn K cdv qual = true) (k : PySem.W.keepIn K (.ref f) = true) : Fun K x qual st f (PySem.W.fnOf x qual (defArgs st) (defBody st) (defScope st) .none kV doc pm an cdv ct) := ⟨⟨oc, od, kV, doc, pm, an, cdv, ct, osl, rfl, l, c⟩, k⟩
end
/-! ### expressions in short: the name that stands in the i-th slot -/
section
variable {X : Cx}
theorem pv (i : Nat) {x : Str} {pos : Pos} (hN : X.N[i]? = some x := by rfl) (hv : Vis X.env.scope x := by first | exact Or.inl rfl | exact Or.inr (Or.inl rfl) | exact Or.inr (Or.inr rfl)) (hd : (x == ("__debug__" : Str)) = false := by decide)
    (hcd : (x == ("__classdict__" : Str)) = false := by decide) : PE X (.Name x pos) (tVar i) := pe_var hN hv hd hcd
end

/-! ### tests -/
theorem iteT {A B : Prop} (h : A) : if true = true then A else B := by
  rw [if_pos rfl]
  exact h
theorem ite2 {c A B : Prop} [Decidable c] (h1 : c → A) (h2 : ¬ c → B) : if c then A else B := by
  by_cases h : c
  · rw [if_pos h]
    exact h1 h
  · rw [if_neg h]
    exact h2 h
/-! ### heaps -/
/-- all that was tracked is as it was -/
def Same (H H' : Hp) : Prop := ∀ b o, H b = some o → H' b = some o
theorem Same.trans {H H1 H2 : Hp} (a : Same H H1) (b : Same H1 H2) : Same H H2 := fun c o h => b c o (a c o h)
theorem Same.free {H H' : Hp} (e : Same H H') {l : Addr} (h : H' l = Option.none) : H l = Option.none := by
  cases q : H l with
  | none => rfl
  | some o =>
    rw [e l o q] at h
    cases h
theorem Same.seq {K : PySem.W.Frag} {H H' : Hp} {a : Addr} {xs : List V} (e : Same H H') (h : SqL K H a xs) : SqL K H' a xs := by
  rcases h with (h | ⟨o, h⟩) | h
  · exact .inl (.inl (e _ _ h))
  · exact .inl (.inr ⟨o, e _ _ h⟩)
  · exact .inr h

end L2
set_option Elab.async false
set_option linter.all false
set_option maxRecDepth 100000
set_option maxHeartbeats 4000000
/-! own rules over the hand layer -/
namespace L2
open PySem PySem.Spec PyProof.Rows
/-! ### a def that is known by its promise -/
structure Has (P : Program) (w : World) (K : PySem.W.Frag) (mg : Str → Option Value) (base : Heap) (k : Nat) (x : Str) (ps : List Str) (sp : Sp) : Prop where
  ex : ∃ f fd, FnOk P w K mg base CX0 k f fd ps sp ∧ Binds K fd ps [] ∧ PySem.W.keepIn K (.ref f) = true ∧ mg x = some (.ref f) ∧ ∃ oc od osl, K.lookup f = some ⟨oc, od, .func fd, osl⟩
theorem Has.mono {P : Program} {w : World} {K : PySem.W.Frag} {mg : Str → Option Value} {base : Heap} {j k : Nat} {x : Str} {ps : List Str} {sp : Sp} (h : Has P w K mg base j x ps sp) (hjk : j ≤ k) : Has P w K mg base k x ps sp := by
  obtain ⟨f, fd, a, b, c, d, l⟩ := h.ex
  exact ⟨f, fd, a.mono hjk, b, c, d, l⟩
section
variable {X : Cx} {k : Nat} {x : Str} {ps : List Str} {sp : Sp} {p pos : Pos} {e : Expr} {es : List Expr} {t : TA}
def tCallH (sp : Sp) (t : TA) : TE := fun σ H Q => t σ H fun vs H1 => sp vs H1 Q E0
theorem pe_callH (F : Has X.prog X.w X.K X.mg X.base k x ps sp) (hr : Room k X.A) (ha : PA X (e :: es) t) (hg : Gl X x := by rfl)
    (hdb : (x == ("__debug__" : Str)) = false := by decide) (he : starEach (e :: es) X.env = (false, eval e X.env) :: starEach es X.env := by rfl) (hpl : (backTo pos (starEach es X.env)).any (·.1) = false := by rfl) :
    PE X (.Call (.Name x p) (e :: es) [] pos) (tCallH sp t) := by
  obtain ⟨f, fd, G, b, c, d, _⟩ := F.ex
  intro pins s σ H Q I h
  refine (pe_call (E := E0) G hr hg d c b .nil pass0 ha hdb he hpl) pins s σ H Q I ?_
  show t σ H fun vs H1 => sp (vs ++ []) H1 Q E0
  simp only [List.append_nil]
  exact h
end
/-! ### products of any size -/
section
variable {X : Cx}
theorem op_mulB : OpR X (binaryOp .Mult) (rI IntMulOk fun i j => .int (i * j)) := opI fun _ _ _ _ _ _ _ hc q => mul_int q hc
end
/-! ### a range by steps -/
def Itrs (lo c : Int) (n : Nat) : It := ⟨fun i _ => i < n, fun i H x H' => H' = H ∧ x = .int (lo + i * c), fun i _ => n ≤ i⟩
theorem turn_rangeS {P : Program} {w : World} {K : PySem.W.Frag} {tg : Expr} (it : Addr) (lo c : Int) (n : Nat) : Turn P w K tg (Itrs lo c n) [it] it (fun i h => IsRangeIter h it (lo + (i : Nat) * c) ((n : Int) - (i : Nat)) c) where
  mem := by simp
  obj := fun i h st b hb => by
    have e : b = it := by simpa using hb
    subst e
    exact ⟨_, st, fun v z => by
      have z' : Data.fields _ = Data.cell v := z
      cases z'⟩
  keep := fun i h h' st k => k it (by simp) _ st
  item := by
    intro X hP hw hK hc i pins s σ H E I hf st hg
    subst hP hw hK
    obtain ⟨f0, f1, f2, f3, f4, f5⟩ := hf it (by simp)
    have W := Walks.range (prog := X.prog) (w := X.w) (I.ok.hd hc) it lo c n
    refine W.item i s _ _ hg st fun v h' tk hv st' kk => ?_
    obtain ⟨t, rfl⟩ := hv
    have I1 : Inv X pins σ H { s with heap := h', toks := tk } := I.turned (fun b o hb e => kk b o (by simpa using hb) e) f0 f1 f3 f4 f5
    exact ⟨_, rfl, go_of (s := { s with heap := h', toks := tk }) (n := "range_iterator") st' rfl rfl (by decide) ⟨.int (lo + i * c), H, I1, ⟨t, rfl⟩, ⟨rfl, rfl⟩, st', fun b hb => (hf b hb).1⟩⟩
  done := by
    intro X hP hw hK hc i pins s σ H E I hf st hg
    subst hP hw hK
    obtain ⟨f0, f1, f2, f3, f4, f5⟩ := hf it (by simp)
    exact wpAny_pyNext_range_end (I.ok.hd hc) st (by have : n ≤ i := hg; omega) fun h' eb => ⟨rfl, I.turned (t' := s.toks) (fun b o hb e => eb b o hb e) f0 f1 f3 f4 f5⟩
  self := fun _ _ _ _ _ st h => wpAny_pyIter_rangeiter st h
section
variable {X : Cx} {tg : Expr}
theorem rangeS_it {pins : List (Addr × Obj)} {σ : St} {H : Hp} {s : Shared} {R : It → Hp → Prop} {E : Value → Shared → Prop} {lo hi c : Int} {t u v : Tok} {tk : Nat} (I : Inv X pins σ H s) (hs : Builtin.Range.small lo hi c = true) (h0 : 0 ≤ Builtin.Range.rangeSize lo hi c)
    (q : R (Itrs lo c (Builtin.Range.rangeSize lo hi c).toNat) H) : wpAny (model X.prog X.w) X.A (pyIter (.ref s.heap.objs.size)) (PIE X pins σ tg R) E { s with heap := s.heap.push { cls := .type "range", data := .fields #[.int lo t, .int hi u, .int c v] }, toks := tk } := by
  refine wpAny_pyIter_range (IsRange.new ..) hs ?_
  have I1 : Inv X pins σ H { s with heap := s.heap.push { cls := .type "range", data := .fields #[.int lo t, .int hi u, .int c v] }, toks := tk } := I.kept fun b o e => Heap.get?_push_of_some _ e
  refine ⟨(s.heap.push { cls := .type "range", data := .fields #[.int lo t, .int hi u, .int c v] }).objs.size, [(s.heap.push { cls := .type "range", data := .fields #[.int lo t, .int hi u, .int c v] }).objs.size], _, _, H, rfl,
    I1.kept (t' := tk) fun b o e => Heap.get?_push_of_some _ e, turn_rangeS _ lo c (Builtin.Range.rangeSize lo hi c).toNat, ?_, fun b hb => ?_, q⟩
  · have e1 : lo + ((0 : Nat) : Int) * c = lo := by simp
    have e2 : (((Builtin.Range.rangeSize lo hi c).toNat : Nat) : Int) - ((0 : Nat) : Int) = Builtin.Range.rangeSize lo hi c := by omega
    show IsRangeIter _ _ (lo + ((0 : Nat) : Int) * c) ((((Builtin.Range.rangeSize lo hi c).toNat : Nat) : Int) - ((0 : Nat) : Int)) c
    rw [e1, e2]
    exact Heap.get?_push_size _ rfl
  · have e : b = (s.heap.push { cls := .type "range", data := .fields #[.int lo t, .int hi u, .int c v] }).objs.size := by simpa using hb
    subst e
    exact I1.fpOk (Nat.le_refl _) (I1.hok.fresh (Nat.le_refl _))
/-- range(a, b, c), c a small step up or down -/
def iRng3 (ta : TA) : TI := fun σ H R => ta σ H fun vs H1 => ∃ i j c : Int, vs = [.int i, .int j, .int c] ∧ (c ≠ 0 ∧ -1000000 < c ∧ c < 1000000) ∧ (Builtin.Range.small i j c = true ∧ 0 ≤ Builtin.Range.rangeSize i j c) ∧ R (Itrs i c (Builtin.Range.rangeSize i j c).toNat) H1
theorem pi_range3 {a b c : Expr} {ta : TA} {p pos : Pos} (hg : Gl X "range") (hm : X.mg "range" = none) (ha : PA X [a, b, c] ta) (hs : starEach [a, b, c] X.env = [(false, eval a X.env), (false, eval b X.env), (false, eval c X.env)] := by rfl) (hs2 : starEach [b, c] X.env = [(false, eval b X.env), (false, eval c X.env)] := by rfl) :
    PI X tg (.Call (.Name "range" p) [a, b, c] [] pos) (iRng3 ta) := by
  intro pins s σ H R I h
  refine Call_ (ld_blt I hg hm boot_range (PyProof.Rows.callWith_type1 (thn (ha pos pins s σ H _ I h) fun us s1 ⟨vs, H1, I1, r1, q1⟩ => ?_) (by rw [hs, hs2]) (by rw [hs2]; rfl)))
  obtain ⟨i, j, c', e, ⟨q1, q2, q3⟩, ⟨q4, q5⟩, q⟩ := q1
  subst e
  cases r1 with
  | cons r rr =>
    cases rr with
    | cons r' rr =>
      cases rr with
      | cons r'' rr =>
        cases rr
        obtain ⟨t, rfl⟩ := r
        obtain ⟨t', rfl⟩ := r'
        obtain ⟨t'', rfl⟩ := r''
        exact call_range_3 q1 (rangeS_it I1 q4 q5 q) (.inl (PyProof.noPylong_small (by omega)))
end
theorem for_rangeS {lo c : Int} {n : Nat} {g : TG} {tb : TS} {D : Ends} {σ : St} {H : Hp} (Pv : Nat → St → Hp → Prop) (h0 : Pv 0 σ H)
    (hs : ∀ i σ H, i < n → Pv i σ H → g (.int (lo + i * c)) σ H fun σ2 H2 => tb { D with nx := Pv (i + 1), ct := Pv (i + 1), bk := D.nx } σ2 H2) (hd : ∀ σ H, Pv n σ H → D.nx σ H) :
    ∃ W : Nat → Nat → St → Hp → Prop, (∃ m, W 0 m σ H) ∧ ∀ i m σ H, W i m σ H →
      ((Itrs lo c n).stop i H ∧ D.nx σ H) ∨ ((Itrs lo c n).go i H ∧ ∃ N : St → Hp → Prop, (∀ σ' H', N σ' H' → ∃ m', m' < m ∧ W (i + 1) m' σ' H') ∧ ∀ x H', (Itrs lo c n).yld i H x H' → g x σ H' fun σ2 H2 => tb { D with nx := N, ct := N, bk := D.nx } σ2 H2) := by
  refine ⟨fun i m σ H => m = n - i ∧ i ≤ n ∧ Pv i σ H, ⟨n, by simp, Nat.zero_le _, h0⟩, ?_⟩
  rintro i m σ H ⟨rfl, hi, p⟩
  by_cases hlt : i < n
  · refine .inr ⟨hlt, Pv (i + 1), fun σ' H' p' => ⟨n - (i + 1), by omega, rfl, hlt, p'⟩, fun x H' y => ?_⟩
    obtain ⟨e, y⟩ := y
    subst e y
    exact hs i σ _ hlt p
  · have e : i = n := by omega
    subst e
    exact .inl ⟨Nat.le_refl _, hd σ H p⟩
/-! ### products: the bits -/
end L2
namespace L2
open PySem PySem.Spec PyProof.Rows
/-! ### a def of the text, its name, its parameters -/
structure Def (K : PySem.W.Frag) (mg : Str → Option Value) (x : Str) (st : Stmt) (ps : List Str) : Prop where
  ex : ∃ f fd, Fun K x x st f fd ∧ Binds K fd ps [] ∧ mg x = some (.ref f)
section
variable {P : Program} {w : World} {K : PySem.W.Frag} {mg : Str → Option Value} {base : Heap}
theorem Def.has {x : Str} {st : Stmt} {N ps : List Str} {k : Nat} {sp : Sp} (F : Def K mg x st ps) (S : FnScope N ps (defScope st)) (len : ∀ vs H Q E, sp vs H Q E → vs.length = ps.length)
    (hbody : ∀ (f : Addr) (cdv : Value) (A : Around) (outer : List Env) (s : Shared) (H : Hp) (vs : List V) (Q : VK) (E : XK), Room k (A.deeper (envOfC x (defScope st) s.heap.objs.size f cdv)) → sp vs H Q E →
      ∃ t, PSs (cxOf CX0 P w K mg base N x (defScope st) f cdv A outer s H E).nox (defBody st) t ∧ t { nx := fun _ H' => Q .non H', rt := Q } (start N vs) H) : Has P w K mg base (k + 1) x ps sp := by
  obtain ⟨f, fd, F, b, m⟩ := F.ex
  refine ⟨f, fd, F.ok S len (hbody f), b, F.kp, m, ?_⟩
  obtain ⟨oc, od, kV, doc, pm, an, cdv, ct, osl, e, lk, hcd⟩ := F.ex
  exact ⟨oc, od, osl, lk⟩
theorem def_mk {x : Str} {st : Stmt} {f : Addr} {ps : List Str} {h : Heap} {oc : Value} {od an : Option Addr} {osl : Array (Option Value)} {kV doc pm cdv ct : Value} (X : K.In h) (G : h.Ns mainGlobals mg) (a : PySem.W.nsIn K mainGlobals x = some (some (.ref f)))
    (l : K.lookup f = some ⟨oc, od, .func (PySem.W.fnOf x x (defArgs st) (defBody st) (defScope st) .none kV doc pm an cdv ct), osl⟩) (c : PySem.W.codeIn K cdv x = true) (k : PySem.W.keepIn K (.ref f) = true)
    (b : ∀ (kV doc pm : Value) (an : Option Addr) (cdv ct : Value) (us : List Value), us.length = ps.length → bindArgs (PySem.W.fnOf x x (defArgs st) (defBody st) (defScope st) .none kV doc pm an cdv ct) ⟨us, []⟩ = pure (ps.zip us)) : Def K mg x st ps :=
  let F := fun_mk (st := st) l c k
  ⟨f, _, F, F.binds b, PySem.W.mg_of X G a⟩
end
/-! ### promises by the number of arguments -/
def sp1 (φ : V → Hp → VK → Prop) : Sp := fun vs H Q _ => ∃ a, vs = [a] ∧ φ a H Q
def sp2 (φ : V → V → Hp → VK → Prop) : Sp := fun vs H Q _ => ∃ a b, vs = [a, b] ∧ φ a b H Q
def sp3 (φ : V → V → V → Hp → VK → Prop) : Sp := fun vs H Q _ => ∃ a b c, vs = [a, b, c] ∧ φ a b c H Q
def sp4 (φ : V → V → V → V → Hp → VK → Prop) : Sp := fun vs H Q _ => ∃ a b c d, vs = [a, b, c, d] ∧ φ a b c d H Q
theorem len1 {φ : V → Hp → VK → Prop} {x : Str} : ∀ vs H Q E, sp1 φ vs H Q E → vs.length = [x].length := fun _ _ _ _ ⟨_, e, _⟩ => by rw [e]; rfl
theorem len2 {φ : V → V → Hp → VK → Prop} {x y : Str} : ∀ vs H Q E, sp2 φ vs H Q E → vs.length = [x, y].length := fun _ _ _ _ ⟨_, _, e, _⟩ => by rw [e]; rfl
theorem len3 {φ : V → V → V → Hp → VK → Prop} {x y z : Str} : ∀ vs H Q E, sp3 φ vs H Q E → vs.length = [x, y, z].length := fun _ _ _ _ ⟨_, _, _, e, _⟩ => by rw [e]; rfl
/-! ### small conditions -/
theorem mulS1 {i j : Int} (h1 : -(2 ^ 64) < i) (h2 : i < 2 ^ 64) : IntMulOk i j := IntMulOk.of_left (intBits_le_64 h1 h2)
theorem mulS2 {i j : Int} (h1 : -(2 ^ 64) < j) (h2 : j < 2 ^ 64) : IntMulOk i j := IntMulOk.of_right (intBits_le_64 h1 h2)
theorem range_up {lo hi c : Int} (h1 : -(2 ^ 60) ≤ lo) (h2 : lo < 2 ^ 60) (h3 : -(2 ^ 60) ≤ hi) (h4 : hi < 2 ^ 60) (h5 : 0 < c) (h6 : c < 2 ^ 20) : Builtin.Range.small lo hi c = true ∧ 0 ≤ Builtin.Range.rangeSize lo hi c ∧ Builtin.Range.rangeSize lo hi c ≤ 2 ^ 61 := by
  have e : Builtin.Range.rangeSize lo hi c = if lo < hi then (hi - lo - 1) / c + 1 else 0 := by unfold Builtin.Range.rangeSize; rw [if_pos h5]
  have k0 : lo < hi → 0 ≤ (hi - lo - 1) / c := fun h => Int.ediv_nonneg (by omega) (by omega)
  have k1 : lo < hi → (hi - lo - 1) / c ≤ hi - lo - 1 := fun h => Int.ediv_le_self _ (by omega)
  have k2 : lo < hi → (hi - lo - 1) / c * c ≤ hi - lo - 1 := fun h => Int.ediv_mul_le _ (by omega)
  have k3 : 0 ≤ Builtin.Range.rangeSize lo hi c ∧ Builtin.Range.rangeSize lo hi c ≤ 2 ^ 61 := by
    rw [e]
    split
    · rename_i h; have := k0 h; have := k1 h; omega
    · omega
  refine ⟨?_, k3⟩
  unfold Builtin.Range.small
  rw [if_pos (show c > 0 from h5)]
  simp only [Builtin.Range.rangeFitsLong, Bool.and_eq_true, Bool.or_eq_true, decide_eq_true_eq, beq_iff_eq]
  generalize Builtin.Range.rangeSize lo hi c = r at k3 ⊢
  clear e k0 k1 k2
  omega
end L2
set_option Elab.async false
set_option linter.all false
set_option maxRecDepth 100000
set_option maxHeartbeats 4000000
/-! list comprehensions over the hand layer -/
namespace L2
open PySem PySem.Spec PyProof.Rows
/-! ### the captured cells -/
def closG (names : List (Str × NameKind)) (cells : List (Str × Addr)) (cs : List (Str × Addr)) : List (Str × Addr) :=
  match names with
  | [] => cs
  | (n, k) :: r => closG r cells (if k == .free then (n, (cells.lookup n).getD 0) :: cs else cs)
theorem closureFor_go {env : Env} : ∀ (names : List (Str × NameKind)) (cs : List (Str × Addr)), (∀ x ∈ names, x.2 = .free → ∃ c, env.cells.lookup x.1 = some c) →
    (forIn names cs fun (x : Str × NameKind) (cs : List (Str × Addr)) => (if (x.2 == NameKind.free) = true then (do let c ← cellOf env x.1; pure (ForInStep.yield ((x.1, c) :: cs))) else pure (ForInStep.yield cs) : Sem (ForInStep (List (Str × Addr))))) = pure (closG names env.cells cs)
  | [], cs, _ => rfl
  | (n, k) :: r, cs, h => by
    rw [List.forIn_cons]
    have hr : ∀ x ∈ r, x.2 = .free → ∃ c, env.cells.lookup x.1 = some c := fun x hx => h x (List.mem_cons_of_mem _ hx)
    by_cases hk : k = .free
    · subst hk
      obtain ⟨c, hc⟩ := h (n, .free) List.mem_cons_self rfl
      have hc : env.cells.lookup n = some c := hc
      have e : cellOf env n = pure c := by unfold cellOf; rw [hc]
      rw [if_pos (by rfl), e, pure_bind, pure_bind]
      show (forIn r ((n, c) :: cs) _ : Sem _) = _
      rw [closureFor_go r _ hr]
      show _ = pure (closG r env.cells (if (NameKind.free == NameKind.free) = true then (n, (env.cells.lookup n).getD 0) :: cs else cs))
      rw [if_pos (by rfl), hc]
      rfl
    · have hb : (k == NameKind.free) = false := by simpa using hk
      rw [if_neg (by rw [hb]; decide), pure_bind]
      show (forIn r cs _ : Sem _) = _
      rw [closureFor_go r _ hr]
      show _ = pure (closG r env.cells (if (k == NameKind.free) = true then (n, (env.cells.lookup n).getD 0) :: cs else cs))
      rw [if_neg (by rw [hb]; decide)]
theorem closureFor_is {scope : Scope} {env : Env} (h : ∀ x ∈ scope.names, x.2 = .free → ∃ c, env.cells.lookup x.1 = some c) : closureFor scope env = pure (closG scope.names env.cells []) := by
  have e := closureFor_go (env := env) scope.names [] h
  unfold closureFor
  rw [← e]
  first | rfl | simp
theorem closG_look {cells : List (Str × Addr)} {x : Str} {c : Addr} : ∀ (names : List (Str × NameKind)) (cs : List (Str × Addr)), (∀ y ∈ names, y.2 = .free → ∃ c, cells.lookup y.1 = some c) → (cs.lookup x = some c → cells.lookup x = some c) →
    (closG names cells cs).lookup x = some c → cells.lookup x = some c
  | [], cs, _, h0, h => h0 h
  | (n, k) :: r, cs, hf, h0, h => by
    have hr : ∀ x ∈ r, x.2 = .free → ∃ c, cells.lookup x.1 = some c := fun x hx => hf x (List.mem_cons_of_mem _ hx)
    unfold closG at h
    by_cases hk : k = .free
    · subst hk
      obtain ⟨c', hc⟩ := hf (n, .free) List.mem_cons_self rfl
      have hc : cells.lookup n = some c' := hc
      rw [if_pos (by rfl), hc] at h
      refine closG_look r _ hr (fun q => ?_) h
      rw [List.lookup_cons] at q
      cases e : x == n with
      | true =>
        rw [e] at q
        have e' : x = n := by simpa using e
        subst e'
        cases q
        exact hc
      | false => rw [e] at q; exact h0 q
    · have hb : (k == NameKind.free) = false := by simpa using hk
      rw [if_neg (by rw [hb]; decide)] at h
      exact closG_look r _ hr h0 h
theorem closG_has {cells : List (Str × Addr)} {x : Str} : ∀ (names : List (Str × NameKind)) (cs : List (Str × Addr)), ((x, NameKind.free) ∈ names ∨ ∃ c, cs.lookup x = some c) → ∃ c, (closG names cells cs).lookup x = some c
  | [], cs, h => by
    rcases h with h | h
    · cases h
    · exact h
  | (n, k) :: r, cs, h => by
    unfold closG
    refine closG_has r _ ?_
    rcases h with h | ⟨c, h⟩
    · rcases List.mem_cons.mp h with e | e
      · cases e
        refine .inr ⟨(cells.lookup x).getD 0, ?_⟩
        rw [if_pos (by rfl), List.lookup_cons]
        simp
      · exact .inl e
    · split
      · rw [List.lookup_cons]
        cases e : x == n with
        | true => exact .inr ⟨_, rfl⟩
        | false => exact .inr ⟨c, h⟩
      · exact .inr ⟨c, h⟩

/-! ### the loop of a comprehension, without exceptions -/
section
variable {prog : Program} {w : World} {A : Around} {R : Result → Shared → Prop} {s : Shared}
abbrev F0 : Value → Shared → Prop := fun _ _ => False
abbrev testsOf (ifs : List Expr) (env : Env) : Sem Bool := forIn ifs true fun c r => if r = true then do let ok ← isTrue c env (eval c env); pure (ForInStep.yield ok) else pure (ForInStep.yield r)
theorem compLoop_any {elt target iter : Expr} {ifs : List Expr} {scope : Scope} {pos : Pos} {it acc : Value} {env : Env} (I : Nat → Shared → Prop)
    (turn : ∀ n s, I n s → wpAny (model prog w) A (pyNext it) (fun r s1 => match r with
      | none => R (.ok .next) s1
      | some v => wpAny (model prog w) A (letOwnedTupleGo target it v) (fun _ s2 => wpAny (model prog w) A (assign target env v) (fun _ s3 =>
          wpAny (model prog w) A (testsOf ifs env) (fun ok s4 =>
            if ok = true then wpAny (model prog w) A (eval elt env) (fun x s5 =>
              wpAny (model prog w) A (call (.builtin "list.append") [acc, x]) (fun _ s6 => ∃ m, m < n ∧ I m s6) F0 s5) F0 s4
            else ∃ m, m < n ∧ I m s4) F0 s3) F0 s2) F0 s1) F0 s)
    (n : Nat) (h : I n s) :
    codeAny (model prog w) A (.compLoop (.ListComp elt [⟨target, iter, ifs, 0⟩] scope pos) 0 it acc env) R s := by
  refine codeAny_loop rfl I (fun n s hI => ?_) n h
  show wpAny _ A ((compTurn (.ListComp elt [⟨target, iter, ifs, 0⟩] scope pos) 0 it acc env).onRaise (fun x => do noteFrame x env; theTreesLotGoes x)) _ _ s
  refine wpAny_noted ?_
  rw [compTurn_list]
  refine wpAny_bind (wpAny_standAt (wpAny_bind (wpAny_mono (turn n s hI) (fun r s1 h1 => ?_) fun _ _ z => False.elim z)))
  cases r with
  | none => exact wpAny_pure h1
  | some v =>
    refine wpAny_bind (wpAny_mono h1 (fun _ s2 h2 => ?_) fun _ _ z => False.elim z)
    refine wpAny_bind (wpAny_mono h2 (fun _ s3 h3 => wpAny_bind (wpAny_mono h3 (fun ok s4 h4 => ?_) fun _ _ z => False.elim z)) fun _ _ z => False.elim z)
    cases ok with
    | false => exact wpAny_pure ⟨rfl, h4⟩
    | true =>
      exact wpAny_bind (wpAny_bind (wpAny_mono h4 (fun x s5 h5 => wpAny_bind (wpAny_mono h5 (fun _ s6 h6 => wpAny_pure (wpAny_pure ⟨rfl, h6⟩)) fun _ _ z => False.elim z)) fun _ _ z => False.elim z))
end
/-! ### the block's context -/
def compCx (X : Cx) (N' : List Str) (scope : Scope) (s3 : Shared) (H3 : Hp) (fp : List Addr) (pins : List (Addr × Obj)) : Cx :=
  { prog := X.prog, w := X.w, K := X.K, mg := X.mg, base := X.base, A := X.A, N := N', s₀ := s3, H₀ := H3, env := compEnvC scope (closG scope.names X.env.cells []) s3.heap.objs.size X.env,
    outer := X.stack, stack := X.stack, ex := fp, fn := fun _ => false, calm := X.calm, pn := X.pn ++ pins, xe := F0 }
/-- the names of the block: its own, then those of the def that it reads, by their slots there -/
def compN (X : Cx) (vars : List Str) (caps : List Nat) : List Str := vars ++ caps.map fun j => X.N.getD j ""
def compS (vars : List Str) (caps : List Nat) (σ : St) : St := vars.map (fun _ => none) ++ caps.map fun j => σ.getD j none
structure CompScope (X : Cx) (scope : Scope) (caps : List Nat) : Prop where
  kind : scope.kind = .function
  loc : ∀ x ∈ scope.names, x.2 = .local → scope.names.lookup x.1 = some .local
  nocell : ∀ x ∈ scope.names, x.2 ≠ .cell
  free : ∀ x ∈ scope.names, x.2 = .free → X.env.kindOf x.1 = some .cell
  caps : ∀ j ∈ caps, ∃ x, X.N[j]? = some x ∧ X.env.kindOf x = some .cell ∧ (x, NameKind.free) ∈ scope.names ∧ (relabel scope X.env).names.lookup x = some .cell
section
variable {X : Cx} {scope : Scope} {caps : List Nat} {pins : List (Addr × Obj)} {σ : St} {H : Hp} {s : Shared} {fp : List Addr}
theorem CompScope.cells (S : CompScope X scope caps) (I : Inv X pins σ H s) : ∀ x ∈ scope.names, x.2 = .free → ∃ c, X.env.cells.lookup x.1 = some c := fun x hx hf => I.ok.has x.1 (.inl (S.free x hx hf))
theorem CompScope.look (S : CompScope X scope caps) (I : Inv X pins σ H s) {x : Str} {c : Addr} (h : (closG scope.names X.env.cells []).lookup x = some c) : X.env.cells.lookup x = some c :=
  closG_look scope.names [] (S.cells I) (fun q => by cases q) h
theorem relabel_kind {env : Env} {x : Str} : ∀ {names : List (Str × NameKind)} {k : NameKind}, (names.map fun (n, k) => if (k == NameKind.free && env.scope.kind == .function && env.kindOf n == some .cell) then (n, NameKind.cell) else (n, k)).lookup x = some k →
    ((x, k) ∈ names) ∨ (k = .cell ∧ (x, NameKind.free) ∈ names)
  | [], _, h => by simp at h
  | (n, k0) :: r, k, h => by
    have ih := @relabel_kind env x r k
    have g : List.lookup x ((if (k0 == NameKind.free && env.scope.kind == .function && env.kindOf n == some .cell) = true then (n, NameKind.cell) else (n, k0)) :: (r.map fun (n, k) => if (k == NameKind.free && env.scope.kind == .function && env.kindOf n == some .cell) then (n, NameKind.cell) else (n, k))) = some k := h
    by_cases hc : (k0 == NameKind.free && env.scope.kind == .function && env.kindOf n == some .cell) = true
    · rw [if_pos hc, List.lookup_cons] at g
      have hk0 : k0 = .free := by
        simp only [Bool.and_eq_true] at hc
        simpa using hc.1.1
      cases hx : x == n with
      | true =>
        rw [hx] at g
        have e : x = n := by simpa using hx
        subst e
        have g : some NameKind.cell = some k := g
        cases g
        exact .inr ⟨rfl, by rw [hk0]; exact List.mem_cons_self⟩
      | false =>
        rw [hx] at g
        rcases ih g with z | ⟨z1, z2⟩
        · exact .inl (List.mem_cons_of_mem _ z)
        · exact .inr ⟨z1, List.mem_cons_of_mem _ z2⟩
    · rw [if_neg hc, List.lookup_cons] at g
      cases hx : x == n with
      | true =>
        rw [hx] at g
        have e : x = n := by simpa using hx
        subst e
        have g : some k0 = some k := g
        cases g
        exact .inl List.mem_cons_self
      | false =>
        rw [hx] at g
        rcases ih g with z | ⟨z1, z2⟩
        · exact .inl (List.mem_cons_of_mem _ z)
        · exact .inr ⟨z1, List.mem_cons_of_mem _ z2⟩
theorem CompScope.ok (S : CompScope X scope caps) {N' : List Str} (I : Inv X pins σ H s) (hf : ∀ b ∈ fp, FpOk X pins H b) (hob : ∀ b ∈ fp, ∃ o, s.heap.get? b = some o) : (compCx X N' scope s H fp pins).Ok where
  mod := I.ok.mod
  kind := S.kind
  glob := I.ok.glob
  blt := I.ok.blt
  above := Nat.le_refl _
  inj := fun x y c h1 h2 => I.ok.inj x y c (S.look I h1) (S.look I h2)
  has := fun x h => by
    refine closG_has scope.names [] (.inl ?_)
    rcases h with h | h
    · rcases relabel_kind h with z | ⟨_, z⟩
      · exact absurd rfl (S.nocell _ z)
      · exact z
    · rcases relabel_kind h with z | ⟨z, _⟩
      · exact z
      · cases z
  cab := fun _ _ h => by cases h
  hd := I.ok.hd
  frames := I.ok.frames
  stk := .inl rfl
  exf := fun b hb => by
    obtain ⟨o, ho⟩ := hob b hb
    refine ⟨Nat.ne_of_lt (Heap.lt_size ho), fun x c e => (hf b hb).2.2.2.2.1 x c (S.look I e)⟩
  bs := I.bs
  bsz := Nat.le_trans I.ok.bsz I.sz
  noex := fun b o e hb => by
    rcases (hf b hb).2.2.2.1 with z | z
    · exact I.ok.noex b o e z
    · exact absurd (Nat.lt_of_lt_of_le (Heap.lt_size e) (Nat.le_trans I.ok.bsz z)) (Nat.lt_irrefl _)
  exfs := fun b hb z => by
    rcases List.mem_cons.mp (I.stkSub b z) with e | e
    · exact (hf b hb).2.1 e
    · exact (hf b hb).2.2.1 e
  funs := I.stack
  frf := I.stkFree
/-- the block's first state -/
theorem CompScope.start (S : CompScope X scope caps) {vars : List Str} {h' : Heap} {tk : Nat} (I : Inv X pins σ H s) (hf : ∀ b ∈ fp, FpOk X pins H b) (hob : ∀ b ∈ fp, ∃ o, s.heap.get? b = some o)
    (hn : h'.Ns s.heap.objs.size (fun _ => none)) (hk : ∀ b o, s.heap.get? b = some o → h'.get? b = some o) : Inv (compCx X (compN X vars caps) scope s H fp pins) [] (compS vars caps σ) H { s with heap := h', toks := tk } := by
  refine ⟨S.ok I hf hob, rfl, I.bare, Un.kept hk, ⟨_, hn, fun i x v h1 h2 h3 => ?_⟩, fun x c h => ?_, I.hok.fresh (Nat.le_refl _), fun x c h => I.freeC x c (S.look I h), fun p hp => ?_, I.hok.kept hk, ?_⟩
  · have h1 : (vars ++ caps.map fun j => X.N.getD j "")[i]? = some x := h1
    have h2 : (vars.map (fun _ => (none : Option V)) ++ caps.map fun j => σ.getD j none)[i]? = some (some v) := h2
    have hi : ¬ i < vars.length := fun hi => by
      rw [List.getElem?_append_left (by simpa using hi), List.getElem?_map] at h2
      cases e : vars[i]? with
      | none => rw [e] at h2; cases h2
      | some z => rw [e] at h2; cases h2
    rw [List.getElem?_append_right (by simpa using hi), List.getElem?_map, List.length_map] at h2
    rw [List.getElem?_append_right (by omega), List.getElem?_map] at h1
    cases e : caps[i - vars.length]? with
    | none => rw [e] at h2; cases h2
    | some j =>
      rw [e] at h1 h2
      obtain ⟨y, hy, hyk, hyf, hyl⟩ := S.caps j (List.mem_of_getElem? e)
      have exy : y = x := by
        have : X.N.getD j "" = x := by simpa using h1
        rw [← this]
        simp [List.getD, hy]
      subst exy
      have hσ : σ[j]? = some (some v) := by
        have q : σ.getD j none = some v := by simpa using h2
        cases e2 : σ[j]? with
        | none => simp [List.getD, e2] at q
        | some z =>
          simp [List.getD, e2] at q
          rw [q]
      obtain ⟨m, _, hl⟩ := I.loc
      obtain ⟨u, r, l⟩ := hl j y v hy hσ (.inr (.inl hyk))
      refine ⟨u, r, ?_⟩
      rcases l with ⟨k, _⟩ | ⟨_, c, hc, hcell⟩
      · rw [hyk] at k; cases k
      · obtain ⟨c', hc'⟩ := closG_has (cells := X.env.cells) (x := y) scope.names [] (.inl hyf)
        have ecc : c = c' := by
          have := S.look I hc'
          rw [hc] at this
          exact Option.some.inj this
        subst ecc
        refine .inr ⟨?_, c, hc', ?_⟩
        · exact .inl hyl
        · obtain ⟨o, ho, hd⟩ := hcell
          exact ⟨o, hk c o ho, hd⟩
  · obtain ⟨v, o, ho, hd⟩ := I.cell x c (S.look I h)
    exact ⟨v, o, hk c o ho, hd⟩
  · have hp : p ∈ X.pn ++ pins := by
      have : p ∈ (X.pn ++ pins) ++ [] := hp
      simpa using this
    obtain ⟨e, n, ne, nf, d⟩ := I.pin p hp
    refine ⟨hk _ _ e, n, Nat.ne_of_lt (Heap.lt_size e), fun z => ?_, d⟩
    rcases List.mem_cons.mp (I.stkSub _ z) with q | q
    · exact ne q
    · exact nf q
  · show (compS vars caps σ).length = (compN X vars caps).length
    simp [compS, compN]

/-- behind the block -/
theorem CompScope.behind (S : CompScope X scope caps) {N' : List Str} {σ' : St} {H' : Hp} {s' : Shared} {pl : List (Addr × Obj)} (I : Inv X pins σ H s) (hf : ∀ b ∈ fp, FpOk X pins H b) (J : Inv (compCx X N' scope s H fp pins) pl σ' H' s') : Inv X pins σ H' s' :=
  I.call' (ch := fp) J.os J.base J.hok J.bare fun b hb => ⟨(hf b hb).2.2.2.1, (hf b hb).2.1, (hf b hb).2.2.2.2.1, (hf b hb).2.2.2.2.2⟩
end
/-! ### the rule -/
abbrev TT1 := TT
def tTrue : TT := fun _ H Q => Q true H
def PTs (X : Cx) (ifs : List Expr) (t : TT) : Prop :=
  ∀ (pins : List (Addr × Obj)) (s : Shared) (σ : St) (H : Hp) (Q : Bool → Hp → Prop), Inv X pins σ H s → t σ H Q → wpAny (model X.prog X.w) X.A (testsOf ifs X.env) (TP X pins σ Q) X.xe s
theorem pts_nil {X : Cx} : PTs X [] tTrue := fun pins s σ H Q I h => wpAny_tests_nil ⟨H, I, h⟩
theorem pts_one {X : Cx} {c : Expr} {t : TT} (h : PT X c t) : PTs X [c] t := fun pins s σ H Q I q => wpAny_tests_one (h pins s σ H Q I q)
/-- the list at acc is built; W: an invariant by the turn and a measure -/
def rComp (vars : List Str) (caps : List Nat) (J : It) (g : TG) (tt : TT) (te : TE) (σ : St) (H1 : Hp) (Q : VK) : Prop :=
  ∀ acc, H1 acc = none → ∃ W : Nat → Nat → St → Hp → Prop, (∃ m, W 0 m (compS vars caps σ) (upd H1 acc (.lst []))) ∧ ∀ i m σ' H', W i m σ' H' →
    (J.stop i H' ∧ Q (.ref acc) H') ∨ (J.go i H' ∧ ∃ N : St → Hp → Prop, (∀ σ'' H'', N σ'' H'' → ∃ m', m' < m ∧ W (i + 1) m' σ'' H'') ∧ ∀ x H2, J.yld i H' x H2 → g x σ' H2 fun σ2 H3 => tt σ2 H3 fun b H4 =>
      if b = true then te σ2 H4 fun v H5 => ∃ ys, H5 acc = some (.lst ys) ∧ ys.length < sizeLine ∧ N σ2 (upd H5 acc (.lst (ys ++ [v]))) else N σ2 H4)
def tComp (vars : List Str) (caps : List Nat) (wi : TI) (g : TG) (tt : TT) (te : TE) : TE := fun σ H Q => wi σ H fun J H1 => rComp vars caps J g tt te σ H1 Q
structure CompBody (X : Cx) (vars : List Str) (caps : List Nat) (scope : Scope) (tg : Expr) (ifs : List Expr) (elt : Expr) (g : TG) (tt : TT) (te : TE) : Prop where
  ok : ∀ (s3 : Shared) (H3 : Hp) (fp : List Addr) (pins : List (Addr × Obj)), PG (compCx X (compN X vars caps) scope s3 H3 fp pins) tg g ∧ PTs (compCx X (compN X vars caps) scope s3 H3 fp pins) ifs tt ∧ PE (compCx X (compN X vars caps) scope s3 H3 fp pins) elt te
section
variable {X : Cx} {vars : List Str} {caps : List Nat} {scope : Scope} {tg iter elt : Expr} {ifs : List Expr} {pos : Pos} {wi : TI} {g : TG} {tt : TT} {te : TE}
/-- from the iterator on: the new list, the block's frame, the loop; RR: what is wanted behind the loop, at the list, the block's frame -/
theorem comp_run (S : CompScope X scope caps) (hc : X.calm = true) (B : CompBody X vars caps scope tg ifs elt g tt te) {pins : List (Addr × Obj)} {s2 : Shared} {σ : St} {H1 : Hp} {Q : VK} {it : Addr} {fp : List Addr} {tn : Nat → Heap → Prop} {J : It} {E : Value → Shared → Prop}
    {RR : Value → Addr → Result → Shared → Prop} (I2 : Inv X pins σ H1 s2) (T : Turn X.prog X.w X.K tg J fp it tn) (st2 : tn 0 s2.heap) (f2 : ∀ b ∈ fp, FpOk X pins H1 b) (q : rComp vars caps J g tt te σ H1 Q)
    (hRR : ∀ acc C s' H' m, Inv X pins σ H' s' → s'.heap.Ns C m → s2.heap.objs.size ≤ C → H' C = none → Q (.ref acc) H' → RR (.ref acc) C (.ok .next) s') :
    wpAny (model X.prog X.w) X.A (newList []) (fun acc s3 => wpAny (model X.prog X.w) X.A (newFunctionEnv scope X.env.globals (closG scope.names X.env.cells []) [] X.env.qual none .none (some X.env)) (fun cenv s4 =>
      codeAny (model X.prog X.w) X.A (.compStart (.ListComp elt [⟨tg, iter, ifs, 0⟩] scope pos) 0 (.ref it) acc { cenv with scope := relabel scope X.env }) (RR acc cenv.locals) s4) E s3) E s2 := by
  refine wpAny_newObj_type ?_
  have hfr : H1 s2.heap.objs.size = none := I2.hok.fresh (Nat.le_refl _)
  obtain ⟨W, ⟨m0, w0⟩, turn⟩ := q s2.heap.objs.size hfr
  generalize hs3 : ({ s2 with heap := s2.heap.push { cls := .type "list", dict := none, data := .seq ([] : List Value).toArray } } : Shared) = s3
  have hsz : s3.heap.objs.size = s2.heap.objs.size + 1 := by rw [← hs3]; simp [Heap.size_push]
  have old : ∀ b o, s2.heap.get? b = some o → s3.heap.get? b = some o := fun b o e => by rw [← hs3]; exact Heap.get?_push_of_some _ e
  have I3 : Inv X pins σ (upd H1 s2.heap.objs.size (.lst [])) s3 := by
    rw [← hs3]
    exact I2.laid (t' := s2.toks) (fun b u e => Heap.get?_push_of_some _ e) (Nat.le_refl _) ⟨by show 0 ≤ sizeLine; decide, [], 0, .nil, Heap.get?_push_size _ rfl⟩
  have hob : ∀ b ∈ fp, ∃ o, s2.heap.get? b = some o := fun b hb => by
    obtain ⟨o, ho, _⟩ := T.obj 0 _ st2 b hb
    exact ⟨o, ho⟩
  have f3 : ∀ b ∈ fp, FpOk X pins (upd H1 s2.heap.objs.size (.lst [])) b := fun b hb => by
    obtain ⟨o, ho⟩ := hob b hb
    exact ⟨by rw [upd_ne (Nat.ne_of_lt (Heap.lt_size ho))]; exact (f2 b hb).1, (f2 b hb).2⟩
  have hob3 : ∀ b ∈ fp, ∃ o, s3.heap.get? b = some o := fun b hb => by
    obtain ⟨o, ho⟩ := hob b hb
    exact ⟨o, old b o ho⟩
  refine wpAny_newFunctionEnv S.nocell (by intro y hy; simp at hy) (fun h4 hn4 hs4 => ?_) S.kind
  have keep4 : ∀ b o, s3.heap.get? b = some o → h4.get? b = some o := fun b o e => hs4.extBut b o (Nat.ne_of_lt (Heap.lt_size e)) (Heap.get?_push_of_some _ e)
  have I4 := S.start (vars := vars) (tk := s3.toks + ([] : List (Str × Value)).length) I3 f3 hob3 hn4 keep4
  obtain ⟨PG', PT', PE'⟩ := B.ok s3 (upd H1 s2.heap.objs.size (.lst [])) fp pins
  generalize hX : compCx X (compN X vars caps) scope s3 (upd H1 s2.heap.objs.size (.lst [])) fp pins = X' at *
  have st4 : tn 0 h4 := T.keep 0 _ _ st2 fun b _ o e => keep4 b o (old b o e)
  have eA : X'.A = X.A := by rw [← hX]; rfl
  have eP : X'.prog = X.prog := by rw [← hX]; rfl
  have eW : X'.w = X.w := by rw [← hX]; rfl
  have eK : X'.K = X.K := by rw [← hX]; rfl
  have ec : X'.calm = true := by rw [← hX]; exact hc
  have ex : X'.xe = F0 := by rw [← hX]; rfl
  have eE : X'.env = compEnvC scope (closG scope.names X.env.cells []) s3.heap.objs.size X.env := by rw [← hX]; rfl
  have stat : ∀ {H' : Hp}, (∀ b ∈ fp, H' b = none) → ∀ b ∈ fp, FpOk X' [] H' b := fun {H'} hn b hb => by
    obtain ⟨a1, a2, a3, a4, a5, a6⟩ := f3 b hb
    obtain ⟨o, ho⟩ := hob3 b hb
    rw [← hX]
    refine ⟨hn b hb, Nat.ne_of_lt (Heap.lt_size ho), fun z => ?_, .inl hb, fun x c e => a5 x c (S.look I3 e), fun p hp => a6 p ?_⟩
    · rcases List.mem_cons.mp (I3.stkSub b z) with e | e
      · exact a2 e
      · exact a3 e
    · have hp : p ∈ (X.pn ++ pins) ++ [] := hp
      simpa using hp
  have loop : ∀ s5 : Shared, s5 = { s3 with heap := h4, toks := s3.toks + ([] : List (Str × Value)).length } →
      codeAny (model X.prog X.w) X.A (.compLoop (.ListComp elt [⟨tg, iter, ifs, 0⟩] scope pos) 0 (.ref it) (.ref s2.heap.objs.size) (compEnvC scope (closG scope.names X.env.cells []) s3.heap.objs.size X.env)) (RR (.ref s2.heap.objs.size) s3.heap.objs.size) s5 := by
    rintro s5 rfl
    refine compLoop_any (fun n s' => ∃ i σ' H', Inv X' [] σ' H' s' ∧ tn i s'.heap ∧ (∀ b ∈ fp, H' b = none) ∧ W i n σ' H') ?_ m0 ⟨0, _, _, I4, st4, fun b hb => (f3 b hb).1, w0⟩
    rintro n s6 ⟨i, σ6, H6, I6, st6, fr6, w6⟩
    rw [← eA, ← eE, ← eP, ← eW]
    rcases turn i n σ6 H6 w6 with ⟨stop, qn⟩ | ⟨go, N, hN, step⟩
    · have z := T.done X' eP eW eK ec i [] s6 σ6 H6 F0 I6 (stat fr6) st6 stop
      rw [← eP, ← eW] at z
      refine thn z fun r s7 ⟨hr, I7⟩ => ?_
      subst hr
      obtain ⟨m, hm, _⟩ := id I7.loc
      have I7' : Inv X pins σ H6 s7 := by
        rw [← hX] at I7
        exact S.behind I3 f3 I7
      have hm : s7.heap.Ns s3.heap.objs.size m := by rw [eE] at hm; exact hm
      have hC : H6 s3.heap.objs.size = none := by
        have := I7.free
        rw [eE] at this
        exact this
      exact hRR s2.heap.objs.size s3.heap.objs.size s7 H6 m I7' hm (by omega) hC qn
    · have z := T.item X' eP eW eK ec i [] s6 σ6 H6 F0 I6 (stat fr6) st6 go
      rw [← eP, ← eW] at z
      refine thn z fun r s7 ⟨u, hr, h7⟩ => ?_
      subst hr
      refine thn h7 fun _ s8 ⟨x, H8, I8, r8, y8, st8, fr8⟩ => ?_
      have I8' := I8.pinned (stat fr8) (T.obj _ _ st8)
      have z9 := PG' _ s8 σ6 H8 x u _ I8' r8 (step x H8 y8)
      rw [ex] at z9
      refine thn z9 fun _ s9 ⟨σ9, H9, I9, q9⟩ => ?_
      have z10 := PT' _ s9 σ9 H9 _ I9 q9
      rw [ex] at z10
      refine thn z10 fun ok s10 ⟨H10, I10, q10⟩ => ?_
      have again : ∀ {s11 : Shared} {H11 : Hp}, Inv X' ([] ++ pinsAt fp s8.heap) σ9 H11 s11 → N σ9 H11 → ∃ m, m < n ∧ ∃ i σ' H', Inv X' [] σ' H' s11 ∧ tn i s11.heap ∧ (∀ b ∈ fp, H' b = none) ∧ W i m σ' H' := fun {s11 H11} I11 n11 => by
        obtain ⟨m', hm, w11⟩ := hN σ9 H11 n11
        refine ⟨m', hm, i + 1, σ9, H11, I11.unpinned, T.keep _ _ _ st8 fun b hb o e => (I11.pin (b, o) (List.mem_append_right _ (List.mem_append_right _ (mem_pinsAt hb e)))).1, fun b hb => ?_, w11⟩
        obtain ⟨o, e, d⟩ := T.obj _ _ st8 b hb
        exact (I11.pin (b, o) (List.mem_append_right _ (List.mem_append_right _ (mem_pinsAt hb e)))).2.1
      cases ok with
      | false =>
        rw [if_neg Bool.false_ne_true] at q10 ⊢
        exact again I10 q10
      | true =>
        rw [if_pos rfl] at q10 ⊢
        have z11 := PE' _ s10 σ9 H10 _ I10 q10
        rw [ex] at z11
        refine thn z11 fun v s11 ⟨y, H11, I11, r11, ys, hy, hlen, n11⟩ => ?_
        have z12 := mt_append (X := X') _ s11 σ9 H11 (.ref s2.heap.objs.size) [y] _ [v] (fun _ H12 => N σ9 H12) I11 rfl (.cons r11 .nil) ⟨_, ys, y, rfl, rfl, hy, hlen, n11⟩
        rw [ex] at z12
        exact thn z12 fun _ s12 ⟨_, H12, I12, _, n12⟩ => again I12 n12
  exact codeAny_compStart_list (loop _ rfl) (T.self X.A 0 _ _ _ st4 (loop _ rfl))
/-- [elt for tg in iter if ..], as a value -/
theorem pe_comp (S : CompScope X scope caps) (hc : X.calm = true) (hi : PI X tg iter wi) (B : CompBody X vars caps scope tg ifs elt g tt te) (hs : ∀ x, foldedSetIterable iter X.env x = pure x := by intro _; rfl) :
    PE X (.ListComp elt [⟨tg, iter, ifs, 0⟩] scope pos) (tComp vars caps wi g tt te) := by
  intro pins s σ H Q I h
  rw [eval_ListComp]
  refine wpAny_comprehension_free (use := none) rfl hs (closureFor_is (S.cells I)) S.kind S.loc ?_
  refine thn (hi pins s σ H _ I h) fun v s1 h1 => thn h1 fun itv s2 h2 => ?_
  obtain ⟨it, fp, tn, J, H2, e, I2, T, st2, f2, q⟩ := h2
  subst e
  refine comp_run (RR := fun acc C => compPost (model X.prog X.w) X.A X.xe none (EP X pins σ Q) acc C) S hc B I2 T st2 f2 q fun acc C s' H' m I' hm hC hn q' => ?_
  refine ⟨m, hm, fun h'' hs'' => ?_⟩
  have hCL : C ≠ X.env.locals := fun z => absurd (Nat.lt_of_lt_of_le I2.lt (z ▸ hC)) (Nat.lt_irrefl _)
  exact ⟨.ref acc, H', I'.turned (t' := s'.toks) (fun b o hb e => hs''.extBut b o hb e) hn hCL (.inr (Nat.le_trans I2.sz hC)) (fun x c e z => by
    obtain ⟨v, hv⟩ := I2.cell x c e
    exact absurd (Nat.lt_of_lt_of_le hv.lt (z ▸ hC)) (Nat.lt_irrefl _)) (fun p hp z => by
    exact absurd (Nat.lt_of_lt_of_le (Heap.lt_size (I2.pin p hp).1) (z ▸ hC)) (Nat.lt_irrefl _)), rfl, q'⟩
end
/-! ### the scope's conditions, by the written scopes alone -/
structure CompScopeC (outer : Scope) (N : List Str) (scope : Scope) (caps : List Nat) : Prop where
  ok : outer.kind = .function ∧ scope.kind = .function ∧ (∀ x ∈ scope.names, x.2 = .local → scope.names.lookup x.1 = some .local) ∧ (∀ x ∈ scope.names, x.2 ≠ .cell) ∧ (∀ x ∈ scope.names, x.2 = .free → outer.names.lookup x.1 = some .cell) ∧
    ∀ j ∈ caps, j < N.length ∧ outer.names.lookup (N.getD j "") = some .cell ∧ (N.getD j "", NameKind.free) ∈ scope.names ∧ scope.names.lookup (N.getD j "") = some .free
theorem relabel_free {env : Env} {x : Str} (hk : env.scope.kind = .function) (hx : env.kindOf x = some .cell) : ∀ {names : List (Str × NameKind)}, names.lookup x = some .free →
    (names.map fun (n, k) => if (k == NameKind.free && env.scope.kind == .function && env.kindOf n == some .cell) then (n, NameKind.cell) else (n, k)).lookup x = some .cell
  | [], h => by simp at h
  | (n, k) :: r, h => by
    have ih := @relabel_free env x hk hx r
    show List.lookup x ((if (k == NameKind.free && env.scope.kind == .function && env.kindOf n == some .cell) = true then (n, NameKind.cell) else (n, k)) :: _) = _
    rw [List.lookup_cons] at h
    cases e : x == n with
    | true =>
      rw [e] at h
      have e' : x = n := by simpa using e
      subst e'
      have hk' : k = .free := Option.some.inj h
      subst hk'
      have hc : (NameKind.free == NameKind.free && env.scope.kind == .function && env.kindOf x == some .cell) = true := by rw [hk, hx]; rfl
      rw [if_pos hc, List.lookup_cons]
      simp
    | false =>
      rw [e] at h
      have q := ih h
      by_cases hc : (k == NameKind.free && env.scope.kind == .function && env.kindOf n == some .cell) = true
      · rw [if_pos hc, List.lookup_cons, e]; exact q
      · rw [if_neg hc, List.lookup_cons, e]; exact q
theorem CompScope.of {X : Cx} {outer : Scope} {N : List Str} {scope : Scope} {caps : List Nat} (h1 : X.env.scope = outer) (h2 : X.N = N) (h : CompScopeC outer N scope caps) : CompScope X scope caps := by
  subst h1; subst h2
  obtain ⟨a, b, c, d, e, f⟩ := h.ok
  refine ⟨b, c, d, e, fun j hj => ?_⟩
  obtain ⟨f1, f2, f3, f4⟩ := f j hj
  have g : X.N.getD j "" = X.N[j] := by simp [List.getD, List.getElem?_eq_getElem f1]
  rw [g] at f2 f3 f4
  exact ⟨X.N[j], List.getElem?_eq_getElem f1, f2, f3, relabel_free (env := X.env) a f2 f4⟩
end L2
set_option Elab.async false
set_option linter.all false
set_option maxRecDepth 100000
set_option maxHeartbeats 4000000
namespace L2
open PySem PySem.Spec PyProof.Rows
/-! ### == and != of lists, at any depth -/
inductive DEq (K : PySem.W.Frag) (H : Hp) : Nat → V → V → Bool → Prop where
  | flat {n : Nat} {x y : V} : flatV x = true → flatV y = true → DEq K H n x y (eqV x y)
  | same {n : Nat} (a : Addr) : DEq K H n (.ref a) (.ref a) true
  | list {n : Nat} {a b : Addr} {xs ys : List V} (e : Nat → Bool) : a ≠ b → SqL K H a xs → SqL K H b ys → xs.length = ys.length → (∀ (i : Nat) (x y : V), xs[i]? = some x → ys[i]? = some y → DEq K H n x y (e i)) →
      DEq K H (n + 1) (.ref a) (.ref b) ((List.range xs.length).all e)
  | short {n : Nat} {a b : Addr} {xs ys : List V} : a ≠ b → SqL K H a xs → SqL K H b ys → xs.length ≠ ys.length → DEq K H (n + 1) (.ref a) (.ref b) false
  | tup {n : Nat} {a b : Addr} {xs ys : List V} (e : Nat → Bool) : a ≠ b → SqT K H a xs → SqT K H b ys → (∀ (i : Nat) (x y : V), xs[i]? = some x → ys[i]? = some y → DEq K H n x y (e i)) →
      DEq K H (n + 1) (.ref a) (.ref b) ((List.range (min xs.length ys.length)).all e && xs.length == ys.length)
section
variable {X : Cx} {pins : List (Addr × Obj)} {σ : St} {H : Hp} {s : Shared}
theorem Vals.getA {xs : List V} {us : List Value} {j : Nat} (r : Vals xs us) (h : j < us.toArray.size) : ∃ x, xs[j]? = some x ∧ RelV x us.toArray[j] := by
  have hl := r.length
  have hj : j < xs.length := by simp at h; omega
  obtain ⟨u, e1, e2⟩ := r.get (List.getElem?_eq_getElem hj)
  refine ⟨xs[j], List.getElem?_eq_getElem hj, ?_⟩
  have : us.toArray[j] = u := by
    have q : us[j]? = some us[j] := List.getElem?_eq_getElem (by omega)
    rw [q] at e1
    simpa using e1
  rw [this]
  exact e2
theorem DEq.eqAt {n : Nat} {x y : V} {b : Bool} (I : Inv X pins σ H s) (d : DEq X.K H n x y b) : ∀ {A : Around} {u v : Value}, RelV x u → RelV y v → A.units + n < cLine → SeqAt.EqAt A s u v b := by
  induction d with
  | flat f1 f2 => intro A u v r1 r2 _; exact eqAt_V r1 r2 f1 f2
  | same a => intro A u v r1 r2 _; cases r1; cases r2; exact SeqAt.EqAt.same _
  | @list n a b xs ys e hne h1 h2 hl hd ih =>
    intro A u v r1 r2 hu
    cases r1; cases r2
    obtain ⟨its, q1, p1, _⟩ := I.list h1
    obtain ⟨its2, q2, p2, _⟩ := I.list h2
    have l1 := q1.length
    have l2 := q2.length
    have z := SeqAt.RcAt.lists (A := A) (e := e) p1.isList p2.isList (by simp; omega) (by omega) (fun j g1 g2 => by
      obtain ⟨x, ex, rx⟩ := q1.getA g1
      obtain ⟨y, ey, ry⟩ := q2.getA g2
      exact ih j x y ex ey rx ry (by show A.units + 1 + n < cLine; omega))
    rw [show its.toArray.size = xs.length by simp; omega] at z
    exact SeqAt.EqAt.of_refs hne z
  | @short n a b xs ys hne h1 h2 hl =>
    intro A u v r1 r2 hu
    cases r1; cases r2
    obtain ⟨its, q1, p1, _⟩ := I.list h1
    obtain ⟨its2, q2, p2, _⟩ := I.list h2
    have l1 := q1.length
    have l2 := q2.length
    exact SeqAt.EqAt.of_refs hne (SeqAt.RcAt.lists_lengths p1.isList p2.isList (by simp; omega) (by omega))
  | @tup n a b xs ys e hne h1 h2 hd ih =>
    intro A u v r1 r2 hu
    cases r1; cases r2
    obtain ⟨its, q1, p1, _⟩ := I.tuple h1
    obtain ⟨its2, q2, p2, _⟩ := I.tuple h2
    have l1 := q1.length
    have l2 := q2.length
    have z := SeqAt.RcAt.tuples (A := A) (e := e) p1 p2 (by omega) (fun j g1 g2 => by
      obtain ⟨x, ex, rx⟩ := q1.getA g1
      obtain ⟨y, ey, ry⟩ := q2.getA g2
      exact ih j x y ex ey rx ry (by show A.units + 1 + n < cLine; omega))
    rw [show its.toArray.size = xs.length by simp; omega, show its2.toArray.size = ys.length by simp; omega] at z
    exact SeqAt.EqAt.of_refs hne z
/-- the answer of == on two lists whose items are compared by e -/
def rEqD (K : PySem.W.Frag) (neg : Bool) : R2 := fun x y H Q => ∃ a b xs ys, x = .ref a ∧ y = .ref b ∧ SqL K H a xs ∧ SqL K H b ys ∧
  ((xs.length ≠ ys.length ∧ Q (.bl neg) H) ∨ (xs.length = ys.length ∧ ∃ e : Nat → Bool, (∀ (i : Nat) (x y : V), xs[i]? = some x → ys[i]? = some y → DEq K H 40 x y (e i)) ∧ Q (.bl (if neg then !((List.range xs.length).all e) else (List.range xs.length).all e)) H))
theorem op_eqD (hu : X.A.units + 64 < cLine) : OpR X (compareOp .Eq) (rEqD X.K false) := by
  intro pins s σ H x y v u Q I rx ry h
  obtain ⟨a, b, xs, ys, rfl, rfl, h1, h2, q⟩ := h
  cases rx; cases ry
  obtain ⟨its, q1, p1, _⟩ := I.list h1
  obtain ⟨its2, q2, p2, _⟩ := I.list h2
  have l1 := q1.length
  have l2 := q2.length
  rcases q with ⟨hl, q⟩ | ⟨hl, e, he, q⟩
  · exact SeqAt.eq_list_lengthsAt p1.isList p2.isList (by simp; omega) (by omega) ⟨.bl false, H, I, rfl, q⟩
  · refine SeqAt.eq_listAt (e := e) p1.isList p2.isList (by simp; omega) (by omega) (fun j g1 g2 => ?_) ⟨.bl _, H, I, rfl, ?_⟩
    · obtain ⟨x, ex, rx⟩ := q1.getA g1
      obtain ⟨y, ey, ry⟩ := q2.getA g2
      exact (he j x y ex ey).eqAt I rx ry (by show X.A.units + 1 + 40 < cLine; omega)
    · rw [show its.toArray.size = xs.length by simp; omega]
      exact q
theorem op_neD (hu : X.A.units + 64 < cLine) : OpR X (compareOp .NotEq) (rEqD X.K true) := by
  intro pins s σ H x y v u Q I rx ry h
  obtain ⟨a, b, xs, ys, rfl, rfl, h1, h2, q⟩ := h
  cases rx; cases ry
  obtain ⟨its, q1, p1, _⟩ := I.list h1
  obtain ⟨its2, q2, p2, _⟩ := I.list h2
  have l1 := q1.length
  have l2 := q2.length
  rcases q with ⟨hl, q⟩ | ⟨hl, e, he, q⟩
  · exact SeqAt.RcNeAt.lists_lengths p1.isList p2.isList (by simp; omega) (by omega) _ _ _ _ ⟨.bl true, H, I, rfl, q⟩
  · refine SeqAt.RcNeAt.lists (e := e) p1.isList p2.isList (by simp; omega) (by omega) (fun j g1 g2 => ?_) _ _ _ _ ⟨.bl _, H, I, rfl, ?_⟩
    · obtain ⟨x, ex, rx⟩ := q1.getA g1
      obtain ⟨y, ey, ry⟩ := q2.getA g2
      exact (he j x y ex ey).eqAt I rx ry (by show X.A.units + 1 + 40 < cLine; omega)
    · rw [show its.toArray.size = xs.length by simp; omega]
      exact q
/-- two lists of ints -/
def rEqL (K : PySem.W.Frag) (neg : Bool) : R2 := fun x y H Q => ∃ (a b : Addr) (ns ms : List Int), x = .ref a ∧ y = .ref b ∧ SqL K H a (ns.map V.int) ∧ SqL K H b (ms.map V.int) ∧ Q (.bl (if neg then !decide (ns = ms) else decide (ns = ms))) H
theorem all_eq_ints {ns ms : List Int} (h : ns.length = ms.length) : ((List.range ns.length).all fun i => ns.getD i 0 == ms.getD i 0) = decide (ns = ms) := by
  by_cases e : ns = ms
  · subst e; simp
  · rw [decide_eq_false e]
    cases q : ((List.range ns.length).all fun i => ns.getD i 0 == ms.getD i 0) with
    | false => rfl
    | true =>
      exfalso
      apply e
      apply List.ext_getElem h
      intro i h1 h2
      have z := List.all_eq_true.mp q i (List.mem_range.mpr h1)
      simp [List.getD, List.getElem?_eq_getElem h1, List.getElem?_eq_getElem h2] at z
      exact z
theorem eqL_D {K : PySem.W.Frag} {neg : Bool} {x y : V} {H : Hp} {Q : VK} (h : rEqL K neg x y H Q) : rEqD K neg x y H Q := by
  obtain ⟨a, b, ns, ms, rfl, rfl, h1, h2, q⟩ := h
  refine ⟨a, b, _, _, rfl, rfl, h1, h2, ?_⟩
  by_cases hl : ns.length = ms.length
  · refine .inr ⟨by simpa using hl, fun i => ns.getD i 0 == ms.getD i 0, fun i x y hx hy => ?_, ?_⟩
    · rw [List.getElem?_map] at hx hy
      cases e1 : ns[i]? with
      | none => rw [e1] at hx; cases hx
      | some p =>
        cases e2 : ms[i]? with
        | none => rw [e2] at hy; cases hy
        | some p' =>
          rw [e1] at hx; rw [e2] at hy
          cases hx; cases hy
          have : (ns.getD i 0 == ms.getD i 0) = eqV (.int p) (.int p') := by
            simp [List.getD, e1, e2, eqV]
          show DEq K H 40 _ _ (ns.getD i 0 == ms.getD i 0)
          rw [this]
          exact .flat rfl rfl
    · rw [List.length_map, all_eq_ints hl]
      exact q
  · refine .inl ⟨by simpa using hl, ?_⟩
    have : decide (ns = ms) = false := decide_eq_false fun e => hl (by rw [e])
    rw [this] at q
    cases neg with
    | true => exact q
    | false => exact q
theorem op_eqL (hu : X.A.units + 64 < cLine) : OpR X (compareOp .Eq) (rEqL X.K false) := fun pins s σ H x y v u Q I rx ry h => op_eqD hu pins s σ H x y v u Q I rx ry (eqL_D h)
theorem op_neL (hu : X.A.units + 64 < cLine) : OpR X (compareOp .NotEq) (rEqL X.K true) := fun pins s σ H x y v u Q I rx ry h => op_neD hu pins s σ H x y v u Q I rx ry (eqL_D h)
end

/-! ### an iterator of two records, that makes a tuple at each turn: enumerate -/
section
variable {X : Cx} {pins : List (Addr × Obj)} {σ : St} {H : Hp} {s : Shared} {h' : Heap}
theorem Inv.turnedNew {ch : List Addr} {T : Addr} {o : HO} {tk : Nat} (I : Inv X pins σ H s) (k : ∀ b u, b ∉ ch → s.heap.get? b = some u → h'.get? b = some u) (hf : ∀ b ∈ ch, FpOk X pins H b) (hT : s.heap.objs.size ≤ T) (th : ∃ u, h'.get? T = some u)
    (new : ObjOk X.prog X.w (upd H T o) h' T o) : Inv X pins σ (upd H T o) { s with heap := h', toks := tk } := by
  have hn : H T = none := I.hok.fresh hT
  have nch : ∀ b u, H b = some u → b ∉ ch := fun b u e z => by
    have := (hf b z).1
    rw [e] at this
    cases this
  refine I.step (g' := s.gens) (d' := s.drawn) (ch := ch) (fun b hb => ⟨(hf b hb).2.2.2.1, (hf b hb).2.1, (hf b hb).2.2.2.2.1, (hf b hb).2.2.2.2.2⟩) (fun b u _ _ hc e _ => k b u hc e) (fun b u _ _ hc e _ => ⟨u.slots, k b u hc e⟩)
    (fun b u _ e n => by rw [upd_ne (fun (z : b = T) => absurd (Nat.lt_of_lt_of_le (Heap.lt_size e) (z ▸ hT)) (Nat.lt_irrefl _))]; exact n) (fun b u hc e => ⟨u, k b u hc e⟩)
    (fun b xs e => by rw [upd_ne (ne_of_none e hn)]; exact e) (fun b u v e => by rw [upd_ne (ne_of_none e hn)]; exact e) (fun b ps e => ⟨#[], by rw [upd_ne (ne_of_none e hn), e]; simp⟩) (fun m hm => ?_) (fun b u e => ?_) I.bare
  · obtain ⟨ob, es, ep, ho, r⟩ := hm
    refine ⟨ob, es, ep, k _ ob (fun z => (hf _ z).2.1 rfl) ho, r⟩
  · by_cases hb : b = T
    · subst hb; rw [upd_same] at e; cases e; exact new
    · rw [upd_ne hb] at e
      refine (I.hok b u e).stay (fun c v hc q => k c v ?_ q) (fun c q => by rw [upd_ne (ne_of_none q hn)]; exact q) fun c xs q => by rw [upd_ne (ne_of_none q hn)]; exact q
      rcases hc with z | z
      · rw [z]; exact nch b u e
      · exact nch c _ z
theorem Inv.turnedMany {ch : List Addr} {tk : Nat} (I : Inv X pins σ H s) (k : ∀ b u, b ∉ ch → s.heap.get? b = some u → h'.get? b = some u) (hf : ∀ b ∈ ch, FpOk X pins H b) : Inv X pins σ H { s with heap := h', toks := tk } := by
  have nch : ∀ b u, H b = some u → b ∉ ch := fun b u e z => by
    have := (hf b z).1
    rw [e] at this
    cases this
  refine I.step (g' := s.gens) (d' := s.drawn) (ch := ch) (fun b hb => ⟨(hf b hb).2.2.2.1, (hf b hb).2.1, (hf b hb).2.2.2.2.1, (hf b hb).2.2.2.2.2⟩) (fun b u _ _ hc e _ => k b u hc e) (fun b u _ _ hc e _ => ⟨u.slots, k b u hc e⟩)
    (fun b u _ e n => n) (fun b u hc e => ⟨u, k b u hc e⟩) (fun b xs e => e) (fun b u v e => e) (fun b ps e => ⟨#[], by rw [e]; simp⟩) (fun m hm => ?_) (fun b u e => ?_) I.bare
  · obtain ⟨ob, es, ep, ho, r⟩ := hm
    refine ⟨ob, es, ep, k _ ob (fun z => (hf _ z).2.1 rfl) ho, r⟩
  · refine (I.hok b u e).stay (fun c v hc q => k c v ?_ q) (fun c q => q) fun c xs q => q
    rcases hc with z | z
    · rw [z]; exact nch b u e
    · exact nch c _ z
end
def Ite (K : PySem.W.Frag) (a : Addr) : It :=
  ⟨fun i H => ∃ xs x, SqL K H a xs ∧ xs[i]? = some x, fun i H x H' => ∃ T v, x = .ref T ∧ H T = none ∧ H' = upd H T (.tup [.int i, v]) ∧ ∀ xs, SqL K H a xs → xs[i]? = some v, fun i H => ∃ xs, SqL K H a xs ∧ xs.length = i⟩
theorem turn_enum {P : Program} {w : World} {K : PySem.W.Frag} {elts : List Expr} {k : Nat} {tp : Pos} (a it e : Addr) (hei : e ≠ it) : Turn P w K (.Tuple elts k tp) (Ite K a) [e, it] e (fun i h => (∃ old, IsEnum h e it i old) ∧ h.IsListIter it a i) where
  mem := by simp
  obj := fun i h st b hb => by
    obtain ⟨⟨old, he⟩, hi⟩ := st
    rcases List.mem_cons.mp hb with z | hb
    · subst z
      exact ⟨_, he, fun v z => by
        have z' : Data.fields _ = Data.cell v := z
        cases z'⟩
    · have z : b = it := by simpa using hb
      subst z
      obtain ⟨o, e, c, d⟩ := hi
      exact ⟨o, e, fun v z => by rw [d] at z; cases z⟩
  keep := fun i h h' st kk => by
    obtain ⟨⟨old, he⟩, hi⟩ := st
    exact ⟨⟨old, kk e (by simp) _ he⟩, hi.at fun o z => kk it (by simp) o z⟩
  item := by
    intro X hP hw hK hc i pins s σ H E I hf st hg
    subst hP hw hK
    obtain ⟨⟨old, he⟩, hi⟩ := st
    obtain ⟨xs, x, hq, hx⟩ := hg
    obtain ⟨its, rv, p, hz⟩ := I.list hq
    obtain ⟨u, hu, ru⟩ := rv.get hx
    have hil : i < its.toArray.size := by
      have := (List.getElem?_eq_some_iff.mp hu).1
      simpa using this
    have hai : a ≠ it := fun z => by
      obtain ⟨o, ho, hc', _⟩ := hi
      obtain ⟨o2, ho2, hc2, _⟩ := p.isList
      rw [z, ho] at ho2
      cases ho2
      rw [hc'] at hc2
      exact absurd hc2 (by decide)
    have hea : e ≠ a := fun z => by
      obtain ⟨o2, ho2, hc2, _⟩ := p.isList
      have he2 : s.heap.get? e = some _ := he
      rw [← z, he2] at ho2
      cases ho2
      have hc2 : Value.type "enumerate" = Value.type "list" := hc2
      exact absurd hc2 (by decide)
    have D := Draws.list (prog := X.prog) (w := X.w) (A := X.A.in1) (I.ok.hd hc) it a hai its.toArray
    refine wpAny_pyNext_enum_itemD D he ⟨hi, p.isList⟩ hil hei (by simp [hei, hea]) fun y h1 tk hy hout hst hT hsz hk => ?_
    have ey : y = u := by
      have q : its.toArray[i]? = some y := hy
      have q2 : its.toArray[i]? = some u := by simpa using hu
      rw [q2] at q
      exact (Option.some.inj q).symm
    subst ey
    refine ⟨_, rfl, ?_⟩
    refine wpAny_letOwnedTupleGo_enum hout fun h2 he2 hs2 => ?_
    have hTe : s.heap.objs.size ≠ e := fun z => absurd (Heap.lt_size he) (by rw [← z]; exact Nat.lt_irrefl _)
    have keep : ∀ b o, b ∉ [e, it] → s.heap.get? b = some o → h2.get? b = some o := fun b o hb q => by
      have h1' : b ≠ e := fun z => hb (by simp [z])
      have h2' : b ≠ it := fun z => hb (by simp [z])
      exact (hs2.2 b h1').trans (hk b o h1' h2' q)
    have hT2 : h2.get? s.heap.objs.size = some { cls := .type "tuple", data := .seq #[.int i tk, y] } := (hs2.2 _ hTe).trans hT
    refine ⟨.ref s.heap.objs.size, upd H s.heap.objs.size (.tup [.int i, x]), I.turnedNew (tk := tk + 1) keep hf (Nat.le_refl _) ⟨_, hT2⟩ ?_, rfl, ⟨_, x, rfl, I.hok.fresh (Nat.le_refl _), rfl, fun ys hys => by rw [I.list_inj hys hq]; exact hx⟩, ⟨⟨_, by simpa using he2⟩, ?_⟩, fun b hb => ?_⟩
    · exact ⟨by show 2 ≤ sizeLine; decide, [.int i tk, y], .cons ⟨_, rfl⟩ (.cons ru .nil), ⟨_, hT2, rfl, _, rfl⟩⟩
    · exact hst.1.at fun o z => (hs2.2 it (Ne.symm hei)).trans z
    · have hbn := (hf b hb).1
      rw [upd_ne]
      · exact hbn
      · intro z
        rcases List.mem_cons.mp hb with q | hb
        · exact hTe (z ▸ q)
        · have q : b = it := by simpa using hb
          obtain ⟨o, ho, _⟩ := hi
          have := Heap.lt_size ho
          rw [← q, z] at this
          exact absurd this (Nat.lt_irrefl _)
  done := by
    intro X hP hw hK hc i pins s σ H E I hf st hg
    subst hP hw hK
    obtain ⟨⟨old, he⟩, hi⟩ := st
    obtain ⟨xs, hq, hx⟩ := hg
    obtain ⟨its, rv, p, hz⟩ := I.list hq
    have hl := rv.length
    have hai : a ≠ it := fun z => by
      obtain ⟨o, ho, hc', _⟩ := hi
      obtain ⟨o2, ho2, hc2, _⟩ := p.isList
      rw [z, ho] at ho2
      cases ho2
      rw [hc'] at hc2
      exact absurd hc2 (by decide)
    have D := Draws.list (prog := X.prog) (w := X.w) (A := X.A.in1) (I.ok.hd hc) it a hai its.toArray
    have hsz : its.toArray.size = i := by simp; omega
    refine wpAny_pyNext_enum_endD D he ⟨by rw [hsz]; exact hi, p.isList⟩ fun h1 hx1 => ⟨rfl, ?_⟩
    exact I.turnedMany (ch := [e, it]) (tk := s.toks) (fun b o hb q => hx1 b o (fun z => hb (by simp [z])) q) hf
  self := fun _ _ _ _ _ st h => by
    obtain ⟨⟨old, he⟩, _⟩ := st
    exact wpAny_pyIter_enum he h
section
variable {X : Cx} {elts : List Expr} {k : Nat} {tp : Pos}
def iEnum (K : PySem.W.Frag) (ta : TA) : TI := fun σ H R => ta σ H fun vs H1 => ∃ a, vs = [.ref a] ∧ (∃ xs, SqL K H1 a xs) ∧ R (Ite K a) H1
theorem pi_enum {l : Expr} {ta : TA} {p pos : Pos} (hg : Gl X "enumerate") (hm : X.mg "enumerate" = none) (ha : PA X [l] ta) (hs : starEach [l] X.env = [(false, eval l X.env)] := by rfl) : PI X (.Tuple elts k tp) (.Call (.Name "enumerate" p) [l] [] pos) (iEnum X.K ta) := by
  intro pins s σ H R I h
  refine Call_ (ld_blt I hg hm boot_enumerate (PyProof.Rows.callWith_type1 (thn (ha pos pins s σ H _ I h) fun us s1 ⟨vs, H1, I1, r1, q1⟩ => ?_) hs rfl))
  obtain ⟨a, e, ⟨xs, hq⟩, q⟩ := q1
  subst e
  obtain ⟨u, rfl, r⟩ := vals1 r1
  cases r
  obtain ⟨its, rv, pl, hz⟩ := I1.list hq
  refine call_enumerate_list pl.isList fun h1 he hit hsz hk => ?_
  refine wpAny_pyIter_enum he ?_
  refine ⟨s1.heap.objs.size + 1, [s1.heap.objs.size + 1, s1.heap.objs.size], _, _, H1, rfl, I1.kept (t' := s1.toks) hk, turn_enum a s1.heap.objs.size (s1.heap.objs.size + 1) (Nat.succ_ne_self _), ⟨⟨_, he⟩, hit⟩, fun b hb => ?_, q⟩
  have hb : s1.heap.objs.size ≤ b := by
    rcases List.mem_cons.mp hb with z | hb
    · rw [z]; exact Nat.le_succ _
    · have z : b = s1.heap.objs.size := by simpa using hb
      rw [z]; exact Nat.le_refl _
  exact I1.fpOk hb (I1.hok.fresh hb)
end
/-- for i, x in enumerate(xs), where the body leaves xs as it is -/
theorem for_enum {K : PySem.W.Frag} {a : Addr} {xs : List V} {g : TG} {tb : TS} {D : Ends} {σ : St} {H : Hp} (Pv : Nat → St → Hp → Prop) (h0 : Pv 0 σ H) (hl : ∀ i σ H, i ≤ xs.length → Pv i σ H → SqL K H a xs)
    (hs : ∀ i x σ H T, xs[i]? = some x → Pv i σ H → H T = none → g (.ref T) σ (upd H T (.tup [.int i, x])) fun σ2 H2 => tb { D with nx := Pv (i + 1), ct := Pv (i + 1), bk := D.nx } σ2 H2) (hd : ∀ σ H, Pv xs.length σ H → D.nx σ H) :
    ∃ W : Nat → Nat → St → Hp → Prop, (∃ m, W 0 m σ H) ∧ ∀ i m σ H, W i m σ H →
      ((Ite K a).stop i H ∧ D.nx σ H) ∨ ((Ite K a).go i H ∧ ∃ N : St → Hp → Prop, (∀ σ' H', N σ' H' → ∃ m', m' < m ∧ W (i + 1) m' σ' H') ∧ ∀ x H', (Ite K a).yld i H x H' → g x σ H' fun σ2 H2 => tb { D with nx := N, ct := N, bk := D.nx } σ2 H2) := by
  refine ⟨fun i m σ H => m = xs.length - i ∧ i ≤ xs.length ∧ Pv i σ H, ⟨xs.length, by simp, Nat.zero_le _, h0⟩, ?_⟩
  rintro i m σ H ⟨rfl, hi, p⟩
  have q := hl i σ H hi p
  by_cases hlt : i < xs.length
  · refine .inr ⟨⟨xs, xs[i], q, by simp [hlt]⟩, Pv (i + 1), fun σ' H' p' => ⟨xs.length - (i + 1), by omega, rfl, hlt, p'⟩, fun x H' y => ?_⟩
    obtain ⟨T, v, rfl, hT, rfl, y⟩ := y
    exact hs i v σ H T (y xs q) p hT
  · have e : i = xs.length := by omega
    subst e
    exact .inl ⟨⟨xs, q, rfl⟩, hd σ H p⟩
end L2
set_option Elab.async false
set_option linter.all false
set_option maxRecDepth 100000
set_option maxHeartbeats 4000000
namespace L2
open PySem PySem.Spec PyProof.Rows
/-! ### list(range(..)) -/
/-- lo, lo + 1, .., n of them -/
def rangeL (lo : Int) (n : Nat) : List Int := (List.range n).map fun i => lo + (i : Nat)
section
variable {X : Cx} {pos pos2 p p2 : Pos} {a b : Expr} {ta : TA}
def rMade (xs : List V) (H : Hp) (Q : VK) : Prop := ∀ l, H l = none → Q (.ref l) (upd H l (.lst xs))
def tListRange1 (ta : TA) : TE := fun σ H Q => ta σ H fun vs H1 => ∃ j : Int, vs = [.int j] ∧ -1000000 < j ∧ j < 1000000 ∧ rMade ((rangeL 0 j.toNat).map V.int) H1 Q
def tListRange2 (ta : TA) : TE := fun σ H Q => ta σ H fun vs H1 => ∃ i j : Int, vs = [.int i, .int j] ∧ (-1000000 < i ∧ i < 1000000 ∧ -1000000 < j ∧ j < 1000000) ∧ rMade ((rangeL i (j - i).toNat).map V.int) H1 Q
end
/-! ### xs.index(y), sorted(xs), all(xs), sum(xs) -/
section
variable {X : Cx}
def rIndex (K : PySem.W.Frag) : V → List V → Hp → VK → Prop := fun x vs H Q => ∃ (l : Addr) (ns : List Int) (y : Int), x = .ref l ∧ vs = [.int y] ∧ SqL K H l (ns.map V.int) ∧ y ∈ ns ∧ Q (.int (ns.idxOf y : Nat)) H
def rSorted (K : PySem.W.Frag) : List V → Hp → VK → Prop := fun xs H Q => ∃ (p : Addr) (ns : List Int), xs = [.ref p] ∧ SqL K H p (ns.map V.int) ∧ ns.length < 64 ∧ ∀ ms : List Int, ms.Perm ns → ms.Pairwise (· ≤ ·) → rMade (ms.map V.int) H Q
/-- xs[i], for xs[i] op= .. -/
def gIx (K : PySem.W.Frag) : V → V → Hp → VK → Prop := fun x y H Q => ∃ p xs i v, x = .ref p ∧ y = .int i ∧ SqL K H p xs ∧ 0 ≤ i ∧ xs[i.toNat]? = some v ∧ Q v H
end
/-! ### x = [.. for ..]: the store comes ahead of the end of the block -/
section
variable {X : Cx} {vars : List Str} {caps : List Nat} {scope : Scope} {tg iter elt : Expr} {ifs : List Expr} {pos py spos : Pos} {wi : TI} {g : TG} {tt : TT} {te : TE}
theorem ps_setC {i : Nat} {y : Str} (S : CompScope X scope caps) (hc : X.calm = true) (hN : X.N.Nodup) (hi : X.N[i]? = some y) (hy : X.env.scope.names.lookup y = some .local) (hit : PI X tg iter wi) (B : CompBody X vars caps scope tg ifs elt g tt te)
    (hsw : swapsWith (.ListComp elt [⟨tg, iter, ifs, 0⟩] scope pos) (some (.Name y py)) spos.line X.env = pure true := by rfl) (hs : ∀ x, foldedSetIterable iter X.env x = pure x := by intro _; rfl) :
    PS X (.Assign [.Name y py] (.ListComp elt [⟨tg, iter, ifs, 0⟩] scope pos) spos) (tAsg (tComp vars caps wi g tt te) (gName i)) := by
  intro pins s σ H D I h
  rw [exec_Assign_Name_used _ _ _ _ hsw]
  refine wpAny_bind (wpAny_standAt (wpAny_bind ?_))
  show wpAny _ X.A (do let _ ← comprehension (.ListComp elt [⟨tg, iter, ifs, 0⟩] scope pos) scope X.env _ (newList []) false (eval iter X.env) (some (assign (.Name y py) X.env))) _ _ s
  refine wpAny_bind (wpAny_mono (wpAny_comprehension_free (use := some (assign (.Name y py) X.env)) (Q := fun _ s' => SP X pins D .next s') rfl hs (closureFor_is (S.cells I)) S.kind S.loc ?_) (fun _ s' hq => wpAny_pure (wpAny_pure hq)) fun _ _ e => e)
  refine thn (hit pins s σ H _ I h) fun v s1 h1 => thn h1 fun itv s2 h2 => ?_
  obtain ⟨it, fp, tn, J, H2, e, I2, T, st2, f2, q⟩ := h2
  subst e
  refine comp_run (RR := fun acc C => compPost (model X.prog X.w) X.A X.xe (some (assign (.Name y py) X.env)) (fun _ s' => SP X pins D .next s') acc C) S hc B I2 T st2 f2 q fun acc C s' H' m I' hm hC hn q' => ?_
  have hCL : C ≠ X.env.locals := fun z => absurd (Nat.lt_of_lt_of_le I2.lt (z ▸ hC)) (Nat.lt_irrefl _)
  have hCc : ∀ x c, X.env.cells.lookup x = some c → c ≠ C := fun x c e z => by
    obtain ⟨v, hv⟩ := I2.cell x c e
    exact absurd (Nat.lt_of_lt_of_le hv.lt (z ▸ hC)) (Nat.lt_irrefl _)
  show wpAny _ X.A (assign (.Name y py) X.env (.ref acc)) _ _ s'
  refine wpAny_assign_Name (store_ok2 I' hN hi (.inl hy) (v := .ref acc) rfl (fun s'' I'' ⟨b, hsb, hb⟩ => ?_) (.inr hy))
  have hbC : b ≠ C := by
    rcases hb with z | z
    · rw [z]; exact Ne.symm hCL
    · exact hCc y b z
  refine ⟨m, hm.sameBut hsb (Ne.symm hbC), fun h'' hs'' => ?_⟩
  exact ⟨_, H', I''.turned (t' := s''.toks) (fun b o hb e => hs''.extBut b o hb e) hn hCL (.inr (Nat.le_trans I2.sz hC)) hCc (fun p hp z => by
    exact absurd (Nat.lt_of_lt_of_le (Heap.lt_size (I2.pin p hp).1) (z ▸ hC)) (Nat.lt_irrefl _)), q'⟩
end
end L2
set_option Elab.async false
set_option linter.all false
set_option maxRecDepth 100000
set_option maxHeartbeats 4000000
namespace L2
open PySem PySem.Spec PyProof.Rows
theorem Same.new {H : Hp} {p : Addr} (h : H p = none) (o : HO) : Same H (upd H p o) := fun b u q => by rw [upd_ne (ne_of_none q h)]; exact q
/-- what was made anew here may be changed -/
theorem Same.put {H H' : Hp} {l : Addr} {o : HO} (e : Same H H') (h : H l = none) : Same H (upd H' l o) := fun b u q => by rw [upd_ne (ne_of_none q h)]; exact e b u q
/-- a new list is handed back, all that was tracked stays -/
def rNew (xs : List V) (H : Hp) (Q : VK) : Prop := ∀ r H', Same H H' → H r = none → H' r = some (.lst xs) → Q (.ref r) H'
theorem rNew.made {xs : List V} {H : Hp} {Q : VK} (h : rNew xs H Q) : rMade xs H Q := fun l hl => h l _ (Same.new hl _) hl upd_same
/-! ### comprehensions whose items change nothing -/
section
variable {K : PySem.W.Frag} {a : Addr} {xs : List V} {x : Str} {caps : List Nat} {g : TG} {tt : TT} {te : TE} {σ : St} {H : Hp} {Q : VK}
theorem filter_succ {p : Nat → Bool} (i : Nat) : (List.range (i + 1)).filter p = (List.range i).filter p ++ (if p i = true then [i] else []) := by
  rw [List.range_succ, List.filter_append]
  cases h : p i <;> simp [h]
theorem comp_pure {J : It} {n : Nat} {item : Nat → V → Prop} (F : Nat → V) (p : Nat → Bool) (hn : n ≤ sizeLine)
    (hgo : ∀ i acc ys, i < n → H acc = none → J.go i (upd H acc (.lst ys))) (hst : ∀ acc ys, H acc = none → J.stop n (upd H acc (.lst ys)))
    (hy : ∀ i acc ys v H', i < n → H acc = none → J.yld i (upd H acc (.lst ys)) v H' → H' = upd H acc (.lst ys) ∧ item i v)
    (hs : ∀ (i : Nat) (v : V) (t : Option V) (acc : Addr) (ys : List V) (N : St → Hp → Prop) (Kt : V → St → Hp → Prop), i < n → item i v → H acc = none → (∀ t', p i = true → Kt (F i) (t' :: caps.map fun j => σ.getD j none) (upd H acc (.lst ys))) → (∀ t', p i = false → N (t' :: caps.map fun j => σ.getD j none) (upd H acc (.lst ys))) →
      g v (t :: caps.map fun j => σ.getD j none) (upd H acc (.lst ys)) fun σ2 H3 => tt σ2 H3 fun b H4 => if b = true then te σ2 H4 fun v H5 => Kt v σ2 H5 else N σ2 H4)
    (hQ : rMade (((List.range n).filter p).map F) H Q) : rComp [x] caps J g tt te σ H Q := by
  intro acc hacc
  refine ⟨fun i m σ' H' => m = n - i ∧ i ≤ n ∧ (∃ t, σ' = t :: caps.map fun j => σ.getD j none) ∧ H' = upd H acc (.lst (((List.range i).filter p).map F)), ⟨n, rfl, Nat.zero_le _, ⟨none, rfl⟩, rfl⟩, ?_⟩
  rintro i m σ' H' ⟨rfl, hi, ⟨t, rfl⟩, rfl⟩
  by_cases hlt : i < n
  · refine .inr ⟨hgo i acc _ hlt hacc, fun σ2 H2 => (∃ t, σ2 = t :: caps.map fun j => σ.getD j none) ∧ H2 = upd H acc (.lst (((List.range (i + 1)).filter p).map F)), fun σ'' H'' ⟨h1, h2⟩ => ⟨n - (i + 1), by omega, rfl, hlt, h1, h2⟩, fun v H2 y => ?_⟩
    obtain ⟨rfl, hv⟩ := hy i acc _ v H2 hlt hacc y
    refine hs i v t acc _ _ (fun v σ2 H5 => ∃ ys, H5 acc = some (.lst ys) ∧ ys.length < sizeLine ∧ (∃ t, σ2 = t :: caps.map fun j => σ.getD j none) ∧ upd H5 acc (.lst (ys ++ [v])) = upd H acc (.lst (((List.range (i + 1)).filter p).map F))) hlt hv hacc (fun t' hp => ?_) fun t' hp => ?_
    · refine ⟨_, upd_same, ?_, ⟨t', rfl⟩, ?_⟩
      · rw [List.length_map]
        have := List.length_filter_le p (List.range i)
        rw [List.length_range] at this
        omega
      · rw [upd_upd, filter_succ, if_pos hp, List.map_append]
        rfl
    · refine ⟨⟨t', rfl⟩, ?_⟩
      rw [filter_succ, if_neg (by rw [hp]; decide), List.append_nil]
  · have e : i = n := by omega
    subst e
    exact .inl ⟨hst acc _ hacc, hQ acc hacc⟩
/-- over a list -/
theorem comp_list (F : Nat → V) (p : Nat → Bool) (hn : xs.length ≤ sizeLine) (hq : SqL K H a xs)
    (hs : ∀ (i : Nat) (v : V) (t : Option V) (acc : Addr) (ys : List V) (N : St → Hp → Prop) (Kt : V → St → Hp → Prop), i < xs.length → xs[i]? = some v → H acc = none → (∀ t', p i = true → Kt (F i) (t' :: caps.map fun j => σ.getD j none) (upd H acc (.lst ys))) → (∀ t', p i = false → N (t' :: caps.map fun j => σ.getD j none) (upd H acc (.lst ys))) →
      g v (t :: caps.map fun j => σ.getD j none) (upd H acc (.lst ys)) fun σ2 H3 => tt σ2 H3 fun b H4 => if b = true then te σ2 H4 fun v H5 => Kt v σ2 H5 else N σ2 H4)
    (hQ : rMade (((List.range xs.length).filter p).map F) H Q) : rComp [x] caps (Itl K a) g tt te σ H Q :=
  comp_pure (item := fun i v => xs[i]? = some v) F p hn (fun i acc ys hi h => ⟨xs, xs[i], (Same.new h _).seq hq, List.getElem?_eq_getElem hi⟩) (fun acc ys h => ⟨xs, (Same.new h _).seq hq, Nat.le_refl _⟩)
    (fun i acc ys v H' hi h y => ⟨y.1, y.2 xs ((Same.new h _).seq hq)⟩) hs hQ
/-- over a range -/
theorem comp_range {lo : Int} {n : Nat} (F : Nat → V) (p : Nat → Bool) (hn : n ≤ sizeLine)
    (hs : ∀ (i : Nat) (t : Option V) (acc : Addr) (ys : List V) (N : St → Hp → Prop) (Kt : V → St → Hp → Prop), i < n → H acc = none → (∀ t', p i = true → Kt (F i) (t' :: caps.map fun j => σ.getD j none) (upd H acc (.lst ys))) → (∀ t', p i = false → N (t' :: caps.map fun j => σ.getD j none) (upd H acc (.lst ys))) →
      g (.int (lo + i)) (t :: caps.map fun j => σ.getD j none) (upd H acc (.lst ys)) fun σ2 H3 => tt σ2 H3 fun b H4 => if b = true then te σ2 H4 fun v H5 => Kt v σ2 H5 else N σ2 H4)
    (hQ : rMade (((List.range n).filter p).map F) H Q) : rComp [x] caps (Itr lo n) g tt te σ H Q :=
  comp_pure (item := fun i v => v = .int (lo + i)) F p hn (fun i acc ys hi h => hi) (fun acc ys h => Nat.le_refl _)
    (fun i acc ys v H' hi h y => y) (fun i v t acc ys N Kt hi hv h k1 k2 => by subst hv; exact hs i t acc ys N Kt hi h k1 k2) hQ
end
theorem filter_true {n : Nat} : (List.range n).filter (fun _ => true) = List.range n := by simp
/-! ### reading lists of ints -/
theorem atI_int {ns : List Int} {k : Int} (h0 : 0 ≤ k) (h : k < (ns.length : Int)) : atI (ns.map V.int) k = some (.int (ns.getD k.toNat 0)) := by
  have hk : k.toNat < ns.length := by omega
  have ek : k = ((k.toNat : Nat) : Int) := by omega
  have q : atI (ns.map V.int) ((k.toNat : Nat) : Int) = some (.int (ns.getD k.toNat 0)) := atI_nat (by simp [List.getD, hk])
  rw [← ek] at q
  exact q
theorem atV {xs : List V} {k : Int} {v : V} (h0 : 0 ≤ k) (h : xs[k.toNat]? = some v) : atI xs k = some v := by
  have ek : k = ((k.toNat : Nat) : Int) := by omega
  have q : atI xs ((k.toNat : Nat) : Int) = some v := atI_nat h
  rw [← ek] at q
  exact q
/-! ### the rules by a named written part: no context stands in a reading -/
section
variable {X : Cx} {K : PySem.W.Frag}
theorem k_ix_list (h : X.K = K := by rfl) : IxR X (rIxL K) := h ▸ ix_list
theorem k_len (h : X.K = K := by rfl) : CallR X (.builtin "len") (fun xs H Q => ∃ p ys, xs = [.ref p] ∧ (SqL K H p ys ∨ SqT K H p ys) ∧ Q (.int ys.length) H) := h ▸ call_len_seq
theorem k_sl_list (h : X.K = K := by rfl) : SlR X (rSlL K) := h ▸ sl_list
theorem k_eqL (hu : X.A.units + 64 < cLine) (h : X.K = K := by rfl) : OpR X (compareOp .Eq) (rEqL K false) := h ▸ op_eqL hu
theorem k_neL (hu : X.A.units + 64 < cLine) (h : X.K = K := by rfl) : OpR X (compareOp .NotEq) (rEqL K true) := h ▸ op_neL hu
theorem k_neD (hu : X.A.units + 64 < cLine) (h : X.K = K := by rfl) : OpR X (compareOp .NotEq) (rEqD K true) := h ▸ op_neD hu
theorem k_pi_list {tg l : Expr} {tl : TE} (hl : PE X l tl) (h : X.K = K := by rfl) : PI X tg l (iList K tl) := h ▸ pi_list hl
theorem k_pi_enum {elts : List Expr} {k : Nat} {tp : Pos} {l : Expr} {ta : TA} {p pos : Pos} (hg : Gl X "enumerate") (hm : X.mg "enumerate" = none) (ha : PA X [l] ta) (hs : starEach [l] X.env = [(false, eval l X.env)] := by rfl) (h : X.K = K := by rfl) :
    PI X (.Tuple elts k tp) (.Call (.Name "enumerate" p) [l] [] pos) (iEnum K ta) := h ▸ pi_enum hg hm ha hs
theorem k_pg_tup {pos : Pos} {es : List Expr} {k : Nat} {t : TGs} {n : Nat} (hc : X.calm = true) (hh : PGs X es t) (hn : (assignEach es X.env).length = n := by rfl) (hst : (assignEach es X.env).findIdx? (·.1) = none := by rfl) (h : X.K = K := by rfl) : PG X (.Tuple es k pos) (gTup K n t) := h ▸ pg_tup hc hh hn hst
end
section
variable {X : Cx} {K : PySem.W.Frag} {T : String} {name : Str} {id : String} {r : V → List V → Hp → VK → Prop} {o e : Expr} {es : List Expr} {to : TE} {t : TA} {cpos apos : Pos}
theorem k_bm (pa : PlainAttrs T) (slot : Slot T name id) (hty : typeOf (.builtin id) = pure (.type "method_descriptor")) (hm : MtR X id r) (ho : PE X o to) (ha : PA X (e :: es) t)
    (hbase : attributeBase o name X.env (eval o X.env) = eval o X.env := by rfl)
    (hfew : ((backTo cpos (starEach (e :: es) X.env)).all (fun x => !x.1) && (backToKw cpos (keywordEach [] X.env)).all (fun x => x.1.isSome)
      && decide ((e :: es).length + ([] : List Keyword).length + (if ([] : List Keyword).isEmpty then 0 else 1) < 30)) = true := by rfl)
    (hline : (apos.endLine == cpos.line) = true := by rfl) (hs : starEach (e :: es) X.env = (false, eval e X.env) :: starEach es X.env := by rfl) (hplain : (backTo cpos (starEach es X.env)).any (·.1) = false := by rfl) (h : X.K = K := by rfl) :
    PE X (.Call (.Attribute o name apos) (e :: es) [] cpos) (tBM K T r to t) := h ▸ pe_bm pa slot hty hm ho ha hbase hfew hline hs hplain
end
end L2
set_option Elab.async false
set_option linter.all false
set_option maxRecDepth 100000
set_option maxHeartbeats 4000000
namespace L2
open PySem PySem.Spec PyProof.Rows
namespace RV
section
variable {prog : Program} {w : World} {A : Around} {E : Value → Shared → Prop} {s : Shared}
end
end RV
section
variable {X : Cx} {pos pos2 p p2 : Pos} {a : Expr} {ta : TA} {K : PySem.W.Frag}
def tListRev (K : PySem.W.Frag) (ta : TA) : TE := fun σ H Q => ta σ H fun vs H1 => ∃ q xs, SqL K H1 q xs ∧ vs = [.ref q] ∧ rMade xs.reverse H1 Q
end
end L2
set_option Elab.async false
set_option linter.all false
set_option maxRecDepth 100000
set_option maxHeartbeats 4000000
namespace L2
open PySem PySem.Spec PyProof.Rows
/-! ### for x, y in zip(xs, ys): two lists of one length -/
def Itz (K : PySem.W.Frag) (a b : Addr) : It :=
  ⟨fun i H => ∃ xs ys x y, SqL K H a xs ∧ SqL K H b ys ∧ xs[i]? = some x ∧ ys[i]? = some y,
   fun i H x H' => ∃ T u v, x = .ref T ∧ H T = none ∧ H' = upd H T (.tup [u, v]) ∧ ∀ xs ys, SqL K H a xs → SqL K H b ys → xs[i]? = some u ∧ ys[i]? = some v,
   fun i H => ∃ xs ys, SqL K H a xs ∧ SqL K H b ys ∧ min xs.length ys.length = i⟩
theorem ne_cls {h : Heap} {a b : Addr} {o u : Obj} {m n : String} (h1 : h.get? a = some o) (h2 : h.get? b = some u) (c1 : o.cls = .type m) (c2 : u.cls = .type n) (hc : m ≠ n) : a ≠ b := fun e => by
  subst e
  rw [h1] at h2
  cases h2
  rw [c1] at c2
  exact hc (Value.type.inj c2)
structure ZAt (h : Heap) (z TI TO i1 i2 l1 l2 : Addr) (i : Nat) : Prop where
  hz : IsZip h z TI TO .none
  hTI : IsPair h TI (.ref i1) (.ref i2)
  hTO : ∃ a b, IsPair h TO a b
  h1 : h.IsListIter i1 l1 i
  h2 : h.IsListIter i2 l2 i
theorem z_apart {h : Heap} {z TI TO i1 i2 l1 l2 : Addr} {i : Nat} {xs ys : Array Value} (n1 : TI ≠ TO) (n2 : i1 ≠ i2) (Z : ZAt h z TI TO i1 i2 l1 l2 i) (q1 : h.IsList l1 xs) (q2 : h.IsList l2 ys) : ZipApart z TI TO i1 i2 l1 l2 := by
  obtain ⟨hz, hTI, ⟨a, b, hTO⟩, ⟨o1, g1, c1, _⟩, ⟨o2, g2, c2, _⟩⟩ := Z
  obtain ⟨p1, k1, d1, _⟩ := q1
  obtain ⟨p2, k2, d2, _⟩ := q2
  refine ⟨?_, ?_, ?_, ?_, n1, ?_, ?_, ?_, ?_, n2, ?_, ?_, ?_, ?_, ?_, ?_, ?_, ?_⟩
  · exact ne_cls hTI hz rfl rfl (by decide)
  · exact ne_cls hTO hz rfl rfl (by decide)
  · exact ne_cls g1 hz c1 rfl (by decide)
  · exact ne_cls g2 hz c2 rfl (by decide)
  · exact ne_cls hTI g1 rfl c1 (by decide)
  · exact ne_cls hTI g2 rfl c2 (by decide)
  · exact ne_cls hTO g1 rfl c1 (by decide)
  · exact ne_cls hTO g2 rfl c2 (by decide)
  · exact ne_cls k1 hz d1 rfl (by decide)
  · exact ne_cls k1 hTO d1 rfl (by decide)
  · exact ne_cls k1 g1 d1 c1 (by decide)
  · exact ne_cls k1 g2 d1 c2 (by decide)
  · exact ne_cls k2 hz d2 rfl (by decide)
  · exact ne_cls k2 hTO d2 rfl (by decide)
  · exact ne_cls k2 g1 d2 c1 (by decide)
  · exact ne_cls k2 g2 d2 c2 (by decide)
theorem turn_zip {P : Program} {w : World} {K : PySem.W.Frag} {elts : List Expr} {k : Nat} {tp : Pos} (l1 l2 z TI TO i1 i2 : Addr) (n1 : TI ≠ TO) (n2 : i1 ≠ i2) :
    Turn P w K (.Tuple elts k tp) (Itz K l1 l2) [z, TI, TO, i1, i2] z (fun i h => ZAt h z TI TO i1 i2 l1 l2 i) where
  mem := by simp
  obj := fun i h st b hb => by
    obtain ⟨hz, hTI, ⟨a, c, hTO⟩, ⟨o1, g1, c1, d1⟩, ⟨o2, g2, c2, d2⟩⟩ := st
    simp only [List.mem_cons, List.not_mem_nil, or_false] at hb
    rcases hb with rfl | rfl | rfl | rfl | rfl
    · exact ⟨_, hz, fun v z => by have z' : Data.fields _ = Data.cell v := z; cases z'⟩
    · exact ⟨_, hTI, fun v z => by have z' : Data.seq _ _ = Data.cell v := z; cases z'⟩
    · exact ⟨_, hTO, fun v z => by have z' : Data.seq _ _ = Data.cell v := z; cases z'⟩
    · exact ⟨o1, g1, fun v z => by rw [d1] at z; cases z⟩
    · exact ⟨o2, g2, fun v z => by rw [d2] at z; cases z⟩
  keep := fun i h h' st kk => by
    obtain ⟨hz, hTI, ⟨a, c, hTO⟩, h1, h2⟩ := st
    exact ⟨kk z (by simp) _ hz, kk TI (by simp) _ hTI, ⟨a, c, kk TO (by simp) _ hTO⟩, h1.at fun o e => kk i1 (by simp) o e, h2.at fun o e => kk i2 (by simp) o e⟩
  item := by
    intro X hP hw hK hc i pins s σ H E I hf st hg
    subst hP hw hK
    obtain ⟨xs, ys, x, y, hq1, hq2, hx, hy⟩ := hg
    obtain ⟨its1, rv1, p1, hz1⟩ := I.list hq1
    obtain ⟨its2, rv2, p2, hz2⟩ := I.list hq2
    obtain ⟨u1, hu1, ru1⟩ := rv1.get hx
    obtain ⟨u2, hu2, ru2⟩ := rv2.get hy
    have D := z_apart n1 n2 st p1.isList p2.isList
    obtain ⟨hz, hTI, ⟨a, c, hTO⟩, h1, h2⟩ := st
    refine wpAny_pyNext_zip_item D hz hTI hTO h1 h2 p1.isList p2.isList (x := u1) (y := u2) (by simpa using hu1) (by simpa using hu2) fun h' a1 a2 a3 a4 a5 a6 a7 => ?_
    refine ⟨_, rfl, ?_⟩
    refine wpAny_letOwnedTupleGo_zip a1 fun h3 hz3 hs3 => ?_
    have lt : ∀ {c o}, s.heap.get? c = some o → s.heap.objs.size ≠ c := fun e => Nat.ne_of_gt (Heap.lt_size e)
    have tz := lt hz
    have tTI := lt hTI
    have tTO := lt hTO
    have ti1 : s.heap.objs.size ≠ i1 := by obtain ⟨_, e, _⟩ := h1; exact lt e
    have ti2 : s.heap.objs.size ≠ i2 := by obtain ⟨_, e, _⟩ := h2; exact lt e
    have keep : ∀ b o, b ∉ [z, TI, TO, i1, i2] → s.heap.get? b = some o → h3.get? b = some o := fun b o hb q => by
      simp only [List.mem_cons, List.not_mem_nil, or_false, not_or] at hb
      exact hs3.extBut _ _ hb.1 (a7 b o hb.1 hb.2.2.1 hb.2.2.2.1 hb.2.2.2.2 q)
    have hT3 : IsPair h3 s.heap.objs.size u1 u2 := hs3.extBut _ _ tz a5
    refine ⟨.ref s.heap.objs.size, upd H s.heap.objs.size (.tup [x, y]), I.turnedNew (tk := s.toks) keep hf (Nat.le_refl _) ⟨_, hT3⟩ ?_, rfl, ⟨_, x, y, rfl, I.hok.fresh (Nat.le_refl _), rfl, fun as bs ha hb => ?_⟩, ⟨hz3, ?_, ?_, ?_, ?_⟩, fun b hb => ?_⟩
    · exact ⟨by show 2 ≤ sizeLine; decide, [u1, u2], .cons ru1 (.cons ru2 .nil), ⟨_, hT3, rfl, _, rfl⟩⟩
    · rw [I.list_inj ha hq1, I.list_inj hb hq2]; exact ⟨hx, hy⟩
    · exact hs3.extBut _ _ D.TIz (a7 _ _ D.TIz D.TITO D.TIi1 D.TIi2 hTI)
    · exact ⟨_, _, hs3.extBut _ _ D.TOz a2⟩
    · exact a3.at fun o e => hs3.extBut _ _ D.i1z e
    · exact a4.at fun o e => hs3.extBut _ _ D.i2z e
    · rw [upd_ne]
      · exact (hf b hb).1
      · intro e
        simp only [List.mem_cons, List.not_mem_nil, or_false] at hb
        rcases hb with q | q | q | q | q
        · exact tz (e.symm.trans q)
        · exact tTI (e.symm.trans q)
        · exact tTO (e.symm.trans q)
        · exact ti1 (e.symm.trans q)
        · exact ti2 (e.symm.trans q)
  done := by
    intro X hP hw hK hc i pins s σ H E I hf st hg
    subst hP hw hK
    obtain ⟨xs, ys, hq1, hq2, hm⟩ := hg
    obtain ⟨its1, rv1, p1, hz1⟩ := I.list hq1
    obtain ⟨its2, rv2, p2, hz2⟩ := I.list hq2
    have hl1 := rv1.length
    have hl2 := rv2.length
    have D := z_apart n1 n2 st p1.isList p2.isList
    obtain ⟨hz, hTI, ⟨a, c, hTO⟩, h1, h2⟩ := st
    have hend : its1.toArray[i]? = none ∨ its2.toArray[i]? = none := by
      rcases Nat.le_total xs.length ys.length with q | q
      · left; rw [Array.getElem?_eq_none]; simp; omega
      · right; rw [Array.getElem?_eq_none]; simp; omega
    refine wpAny_pyNext_zip_end (I.ok.hd hc) D hz hTI hTO h1 h2 p1.isList p2.isList hend fun h' hk => ⟨rfl, ?_⟩
    refine I.turnedMany (ch := [z, TI, TO, i1, i2]) (tk := s.toks) (fun b o hb q => ?_) hf
    simp only [List.mem_cons, List.not_mem_nil, or_false, not_or] at hb
    exact hk b o hb.1 hb.2.2.1 hb.2.2.2.1 hb.2.2.2.2 q
  self := fun _ _ _ _ _ st h => wpAny_pyIter_zip st.hz h
section
variable {X : Cx} {elts : List Expr} {k : Nat} {tp : Pos}
def iZip (K : PySem.W.Frag) (ta : TA) : TI := fun σ H R => ta σ H fun vs H1 => ∃ a b, vs = [.ref a, .ref b] ∧ (∃ xs, SqL K H1 a xs) ∧ (∃ ys, SqL K H1 b ys) ∧ R (Itz K a b) H1
theorem pi_zip {l l' : Expr} {ta : TA} {p pos : Pos} (hg : Gl X "zip") (hm : X.mg "zip" = none) (ha : PA X [l, l'] ta) (hs : starEach [l, l'] X.env = [(false, eval l X.env), (false, eval l' X.env)] := by rfl) (hs2 : starEach [l'] X.env = [(false, eval l' X.env)] := by rfl) :
    PI X (.Tuple elts k tp) (.Call (.Name "zip" p) [l, l'] [] pos) (iZip X.K ta) := by
  intro pins s σ H R I h
  refine Call_ (ld_blt I hg hm boot_zip (PyProof.Rows.callWith_type1 (thn (ha pos pins s σ H _ I h) fun us s1 ⟨vs, H1, I1, r1, q1⟩ => ?_) (by rw [hs, hs2]) (by rw [hs2]; rfl)))
  obtain ⟨a, b, e, ⟨xs, hq1⟩, ⟨ys, hq2⟩, q⟩ := q1
  subst e
  obtain ⟨u, v, rfl, ru, rv⟩ : ∃ u v, us = [u, v] ∧ RelV (.ref a) u ∧ RelV (.ref b) v := by
    cases r1 with
    | cons r rr =>
      cases rr with
      | cons r' rr => cases rr; exact ⟨_, _, rfl, r, r'⟩
  cases ru
  cases rv
  obtain ⟨its1, rv1, p1, hz1⟩ := I1.list hq1
  obtain ⟨its2, rv2, p2, hz2⟩ := I1.list hq2
  refine call_zip_2 p1.isList p2.isList fun h1 hz hTI hTO hi1 hi2 hsz hk => ?_
  refine wpAny_pyIter_zip hz ?_
  refine ⟨s1.heap.objs.size + 4, [s1.heap.objs.size + 4, s1.heap.objs.size + 2, s1.heap.objs.size + 3, s1.heap.objs.size, s1.heap.objs.size + 1], _, _, H1, rfl, I1.kept (t' := s1.toks) hk, turn_zip a b _ _ _ _ _ (Nat.ne_of_lt (Nat.lt_succ_self _)) (Nat.ne_of_lt (Nat.lt_succ_self _)), ⟨hz, hTI, ⟨_, _, hTO⟩, hi1, hi2⟩, fun b hb => ?_, q⟩
  have hb : s1.heap.objs.size ≤ b := by
    simp only [List.mem_cons, List.not_mem_nil, or_false] at hb
    rcases hb with q | q | q | q | q <;> rw [q] <;> omega
  exact I1.fpOk hb (I1.hok.fresh hb)
end
/-- for x, y in zip(xs, ys), where the body leaves both as they are -/
theorem for_zip {K : PySem.W.Frag} {a b : Addr} {xs ys : List V} {g : TG} {tb : TS} {D : Ends} {σ : St} {H : Hp} (he : xs.length = ys.length) (Pv : Nat → St → Hp → Prop) (h0 : Pv 0 σ H) (hl : ∀ i σ H, i ≤ xs.length → Pv i σ H → SqL K H a xs ∧ SqL K H b ys)
    (hs : ∀ i x y σ H T, xs[i]? = some x → ys[i]? = some y → Pv i σ H → H T = none → g (.ref T) σ (upd H T (.tup [x, y])) fun σ2 H2 => tb { D with nx := Pv (i + 1), ct := Pv (i + 1), bk := D.nx } σ2 H2) (hd : ∀ σ H, Pv xs.length σ H → D.nx σ H) :
    ∃ W : Nat → Nat → St → Hp → Prop, (∃ m, W 0 m σ H) ∧ ∀ i m σ H, W i m σ H →
      ((Itz K a b).stop i H ∧ D.nx σ H) ∨ ((Itz K a b).go i H ∧ ∃ N : St → Hp → Prop, (∀ σ' H', N σ' H' → ∃ m', m' < m ∧ W (i + 1) m' σ' H') ∧ ∀ x H', (Itz K a b).yld i H x H' → g x σ H' fun σ2 H2 => tb { D with nx := N, ct := N, bk := D.nx } σ2 H2) := by
  refine ⟨fun i m σ H => m = xs.length - i ∧ i ≤ xs.length ∧ Pv i σ H, ⟨xs.length, by simp, Nat.zero_le _, h0⟩, ?_⟩
  rintro i m σ H ⟨rfl, hi, p⟩
  obtain ⟨q1, q2⟩ := hl i σ H hi p
  by_cases hlt : i < xs.length
  · refine .inr ⟨⟨xs, ys, xs[i], ys[i], q1, q2, by simp [hlt], by simp⟩, Pv (i + 1), fun σ' H' p' => ⟨xs.length - (i + 1), by omega, rfl, hlt, p'⟩, fun x H' y => ?_⟩
    obtain ⟨T, u, v, rfl, hT, rfl, y⟩ := y
    exact hs i u v σ H T (y xs ys q1 q2).1 (y xs ys q1 q2).2 p hT
  · have e : i = xs.length := by omega
    subst e
    exact .inl ⟨⟨xs, ys, q1, q2, by omega⟩, hd σ H p⟩
/-! ### a comprehension over zip: the tuples it makes stay behind -/
section
variable {K : PySem.W.Frag} {a b : Addr} {xs ys : List V} {x y : Str} {caps : List Nat} {g : TG} {tt : TT} {te : TE} {σ : St} {H : Hp} {Q : VK}
end
/-! ### xs.count(x) -/
section
variable {X : Cx}
def rCount (K : PySem.W.Frag) : V → List V → Hp → VK → Prop := fun x vs H Q => ∃ (l : Addr) (xs : List V) (y : V), x = .ref l ∧ vs = [y] ∧ SqL K H l xs ∧ flatV y = true ∧ xs.all flatV = true ∧ Q (.int (xs.countP fun z => eqV z y : Nat)) H
theorem countP_eqU {x : V} : ∀ {xs : List V} {us : List Value}, Vals xs us → xs.all flatV = true → us.countP (eqU x) = xs.countP fun y => eqV y x
  | _, _, .nil, _ => rfl
  | y :: xs, u :: us, .cons r t, f => by
    rw [List.all_cons, Bool.and_eq_true] at f
    rw [List.countP_cons, List.countP_cons, eqU_of r f.1, countP_eqU t f.2]
theorem mt_count : MtR X "list.count" (rCount X.K) := by
  intro pins s σ H x xs v us Q I rx rs h
  obtain ⟨l, ys, y, rfl, rfl, hq, hy, hf, q⟩ := h
  cases rx
  obtain ⟨u, rfl, ru⟩ := vals1 rs
  obtain ⟨its, r, p, hz⟩ := I.list hq
  obtain ⟨⟨cls, dd, data, sl⟩, ho, hc, n, hd⟩ := id p.isList
  simp only at hc hd
  subst hc hd
  refine call_meets F.slot_list_count p.isList.typeIs F.entry_list_count (F.args_list_count_2 _ _) (SeqAt.list_countAt l its.toArray n dd sl u (eqU y)) ⟨ho, fun w hw => ?_, ?_⟩
  · exact mem_eqAt ru hy r hf w (by simpa using hw)
  · rw [show its.toArray.toList = its from rfl, countP_eqU r hf]
    exact ⟨.int _, H, I.tok _, ⟨_, rfl⟩, q⟩
theorem k_count {K : PySem.W.Frag} (h : X.K = K := by rfl) : MtR X "list.count" (rCount K) := h ▸ mt_count
theorem k_pi_zip {K : PySem.W.Frag} {elts : List Expr} {k : Nat} {tp : Pos} {l l' : Expr} {ta : TA} {p pos : Pos} (hg : Gl X "zip") (hm : X.mg "zip" = none) (ha : PA X [l, l'] ta) (hs : starEach [l, l'] X.env = [(false, eval l X.env), (false, eval l' X.env)] := by rfl) (hs2 : starEach [l'] X.env = [(false, eval l' X.env)] := by rfl) (h : X.K = K := by rfl) :
    PI X (.Tuple elts k tp) (.Call (.Name "zip" p) [l, l'] [] pos) (iZip K ta) := h ▸ pi_zip hg hm ha hs hs2
theorem count_ints (ns : List Int) (k : Int) : ((ns.map V.int).countP fun z => eqV z (.int k)) = ns.count k := by
  induction ns with
  | nil => rfl
  | cons a l ih => rw [List.map_cons, List.countP_cons, List.count_cons, ih]; rfl
theorem flat_ints (ns : List Int) : (ns.map V.int).all flatV = true := by simp [flatV]
/-! ### xs[::-1] -/
theorem pick_rev (its : List Value) : slicePick its.toArray none none (some (-1)) = its.reverse.toArray := by
  unfold slicePick
  have h1 : (sliceBounds none none (some (-1)) its.toArray.size) = ((its.length : Int) - 1, -1, -1) := by
    simp [sliceBounds]
  rw [h1]
  have h2 : sliceRange ((its.length : Int) - 1) (-1) (-1) = (List.range its.length).map fun k => its.length - 1 - k := by
    unfold sliceRange
    have e : (if (-1 : Int) > 0 then (if ((its.length : Int) - 1) < -1 then (-1 - ((its.length : Int) - 1) + -1 - 1) / -1 else 0) else (if ((its.length : Int) - 1) > -1 then (((its.length : Int) - 1) - -1 - -1 - 1) / (- -1) else 0)).toNat = its.length := by
      rw [if_neg (by decide)]
      split <;> simp <;> omega
    simp only [e]
    refine List.map_congr_left fun k hk => ?_
    have := List.mem_range.mp hk
    omega
  rw [h2]
  congr 1
  apply List.ext_getElem?
  intro i
  have e3 : ((List.range its.length).map fun k => its.length - 1 - k).filterMap (fun x => its.toArray[x]?) = (List.range its.length).map fun k => its.getD (its.length - 1 - k) .none := by
    rw [List.filterMap_map]
    rw [show ((fun x => its.toArray[x]?) ∘ fun k => its.length - 1 - k) = fun k => its[its.length - 1 - k]? from by funext k; simp]
    have : ∀ l : List Nat, (∀ k ∈ l, k < its.length) → l.filterMap (fun k => its[its.length - 1 - k]?) = l.map fun k => its.getD (its.length - 1 - k) .none := by
      intro l
      induction l with
      | nil => intro _; rfl
      | cons a l ih =>
        intro h
        have ha := h a (by simp)
        rw [List.filterMap_cons, List.map_cons, ih fun k hk => h k (by simp [hk])]
        have hlt : its.length - 1 - a < its.length := by omega
        simp [List.getD, List.getElem?_eq_getElem hlt]
    exact this _ fun k hk => List.mem_range.mp hk
  rw [e3]
  by_cases hi : i < its.length
  · rw [List.getElem?_map, List.getElem?_range hi, List.getElem?_reverse hi]
    have hlt : its.length - 1 - i < its.length := by omega
    simp [List.getD, List.getElem?_eq_getElem hlt]
  · rw [List.getElem?_eq_none (by simp; omega), List.getElem?_eq_none (by simp; omega)]
theorem vals_reverse : ∀ {xs : List V} {us : List Value}, Vals xs us → Vals xs.reverse us.reverse
  | _, _, .nil => .nil
  | x :: xs, u :: us, .cons r t => by
    rw [List.reverse_cons, List.reverse_cons]
    exact (vals_reverse t).append (.cons r .nil)
def tRev (K : PySem.W.Frag) (te : TE) (ts : TO) : TE := fun σ H Q => te σ H fun x H1 => ts σ H1 fun k H2 => k = some (-1) ∧ ∃ a xs, x = .ref a ∧ SqL K H2 a xs ∧ rMade xs.reverse H2 Q
theorem pe_rev {e st : Expr} {te : TE} {ts : TO} {pos p2 : Pos} (he : PE X e te) (hst : PO X (some st) ts) : PE X (.Subscript e (.Slice none none (some st) p2) pos) (tRev X.K te ts) := by
  intro pins s σ H Q I h
  refine Subscript_ (thn (he pins s σ H _ I h) fun v s1 ⟨x, H1, I1, r1, q1⟩ => ?_)
  refine wpAny_Slice ?_
  rw [evalPart_none]
  refine wpAny_pure ?_
  refine wpAny_pure ?_
  refine thn (hst pins s1 σ H1 _ I1 q1) fun vs s3 ⟨k, H3, I3, pk, q3⟩ => ?_
  obtain ⟨rfl, a, xs, rfl, hx, q⟩ := q3
  cases r1
  have I4 : Inv X pins σ H3 { s3 with heap := s3.heap.push { cls := .type "slice", data := .fields #[.none, .none, vs] } } := I3.kept (t' := s3.toks) fun b ob q => Heap.get?_push_of_some _ q
  obtain ⟨its, r, ht, hz⟩ := I4.list hx
  have hlen := r.length
  show wpAny (model X.prog X.w) X.A (subscriptTail e (.Slice none none (some st) p2) (.ref a) (.ref s3.heap.objs.size)) (EP X pins σ Q) X.xe { s3 with heap := s3.heap.push { cls := .type "slice", data := .fields #[.none, .none, vs] } }
  refine tail_any (ops := [.ref a, .ref s3.heap.objs.size]) ht.isList.typeIs slot_list_getitem.lookup ?_ (by with_unfolding_all rfl)
  refine wpAny_getItem_list_slice ht.isList (Heap.IsSliceOf.new ..) .none .none pk (by simp) ?_ (by rw [List.size_toArray] <;> omega)
  rw [pick_rev]
  refine ⟨.ref _, _, I4.laid (t' := s3.toks) (o := .lst xs.reverse) (fun b ob q => Heap.get?_push_of_some _ q) (Nat.le_refl _) ?_, rfl, q _ (I4.hok.fresh (Nat.le_refl _))⟩
  exact ⟨by rw [List.length_reverse]; exact hz, _, 0, vals_reverse r, Heap.get?_push_size _ rfl⟩
theorem k_rev {K : PySem.W.Frag} {e st : Expr} {te : TE} {ts : TO} {pos p2 : Pos} (he : PE X e te) (hst : PO X (some st) ts) (h : X.K = K := by rfl) : PE X (.Subscript e (.Slice none none (some st) p2) pos) (tRev K te ts) := h ▸ pe_rev he hst
end
/-! ### == of lists that are the same -/
theorem eqV_self : ∀ {x : V}, flatV x = true → eqV x x = true
  | .non, _ => rfl
  | .bl b, _ => by simp [eqV]
  | .int i, _ => by simp [eqV]
  | .str z, _ => by simp [eqV]
  | .ref _, h => by cases h
  | .ty _, h => by cases h
  | .flt _, h => by cases h
  | .byt _, h => by cases h
theorem DEq.flats {K : PySem.W.Frag} {H : Hp} {n : Nat} {a b : Addr} {xs : List V} (h1 : SqL K H a xs) (h2 : SqL K H b xs) (f : xs.all flatV = true) : DEq K H (n + 1) (.ref a) (.ref b) true := by
  by_cases e : a = b
  · subst e; exact .same a
  · have z := DEq.list (n := n) (fun _ => true) e h1 h2 rfl fun i x y hx hy => by
      rw [hx] at hy
      cases hy
      have fx : flatV x = true := List.all_eq_true.mp f x (List.mem_of_getElem? hx)
      have := DEq.flat (K := K) (H := H) (n := n) fx fx
      rw [eqV_self fx] at this
      exact this
    have e : ((List.range xs.length).all fun _ => true) = true := by simp
    rw [e] at z
    exact z
/-- two lists whose items are the same one by one -/
theorem eqD_all {K : PySem.W.Frag} {neg : Bool} {H : Hp} {Q : VK} {a b : Addr} {xs ys : List V} (h1 : SqL K H a xs) (h2 : SqL K H b ys) (hl : xs.length = ys.length) (f : ∀ (i : Nat) (x y : V), xs[i]? = some x → ys[i]? = some y → DEq K H 40 x y true) (q : Q (.bl (!neg)) H) : rEqD K neg (.ref a) (.ref b) H Q := by
  refine ⟨a, b, xs, ys, rfl, rfl, h1, h2, .inr ⟨hl, fun _ => true, f, ?_⟩⟩
  have e : ((List.range xs.length).all fun _ => true) = true := by simp
  rw [e]
  cases neg <;> exact q
end L2
set_option Elab.async false
set_option linter.all false
set_option maxRecDepth 100000
set_option maxHeartbeats 4000000
namespace L2
open PySem PySem.Spec PyProof.Rows
theorem atI_bl {bs : List Bool} {k : Int} (h0 : 0 ≤ k) (h : k < (bs.length : Int)) : atI (bs.map V.bl) k = some (.bl (bs.getD k.toNat false)) := by
  have hk : k.toNat < bs.length := by omega
  refine atV h0 ?_
  rw [List.getElem?_map, List.getElem?_eq_getElem hk]
  simp [List.getD, List.getElem?_eq_getElem hk]
theorem new_is {H H1 : Hp} {g : Addr} {o : HO} (hg : H g = none) (e : upd H g o = H1) : Same H H1 ∧ H1 g = some o := by
  subst e
  exact ⟨Same.new hg _, upd_same⟩
theorem set_is {H H1 H2 : Hp} {g : Addr} {o : HO} (hg : H g = none) (s : Same H H1) (e : upd H1 g o = H2) : Same H H2 ∧ H2 g = some o := by
  subst e
  exact ⟨s.put hg, upd_same⟩
theorem cut_take {xs : List V} {k : Int} (h0 : 0 ≤ k) : cutV xs none (some k) = xs.take k.toNat := by
  unfold cutV
  have e1 : HT.sIx xs.length 0 none = 0 := rfl
  have e2 : HT.sIx xs.length xs.length (some k) = min k.toNat xs.length := by
    show (if k < 0 then (k + (xs.length : Int)).toNat else min k.toNat xs.length) = _
    rw [if_neg (by omega)]
  rw [e1, e2, List.drop_zero, Nat.sub_zero]
  apply List.ext_getElem?
  intro i
  rw [List.getElem?_take, List.getElem?_take]
  by_cases h : i < k.toNat
  · by_cases h2 : i < xs.length
    · rw [if_pos (by omega), if_pos h]
    · rw [List.getElem?_eq_none (by omega)]; simp
  · rw [if_neg (by omega), if_neg h]
theorem cut_drop {xs : List V} {k : Int} (h0 : 0 ≤ k) : cutV xs (some k) none = xs.drop k.toNat := by
  unfold cutV
  have e1 : HT.sIx xs.length xs.length none = xs.length := rfl
  have e2 : HT.sIx xs.length 0 (some k) = min k.toNat xs.length := by
    show (if k < 0 then (k + (xs.length : Int)).toNat else min k.toNat xs.length) = _
    rw [if_neg (by omega)]
  rw [e1, e2]
  rw [List.take_of_length_le (by rw [List.length_drop]; omega)]
  by_cases h : k.toNat ≤ xs.length
  · rw [Nat.min_eq_left h]
  · rw [Nat.min_eq_right (by omega), List.drop_of_length_le (Nat.le_refl _), List.drop_of_length_le (by omega)]
theorem cut_mid {xs : List V} {a b : Nat} (hab : a + b ≤ xs.length) : cutV xs (some (a : Int)) (some ((a : Int) + (b : Int))) = (xs.drop a).take b := by
  unfold cutV
  have e1 : HT.sIx xs.length 0 (some (a : Int)) = a := by rw [HT.sIx_nat]; omega
  have e2 : HT.sIx xs.length xs.length (some ((a : Int) + (b : Int))) = a + b := by
    rw [show ((a : Int) + (b : Int)) = ((a + b : Nat) : Int) by omega, HT.sIx_nat]; omega
  rw [e1, e2]
  congr 1
  omega
theorem cut_both {ls : List Int} {k : Int} (h0 : 0 ≤ k) : cutV (ls.map V.int) none (some k) ++ cutV (ls.map V.int) (some (k + 1)) none = (ls.eraseIdx k.toNat).map V.int := by
  rw [cut_take h0, cut_drop (by omega), List.eraseIdx_eq_take_drop_succ, List.map_append, List.map_take, List.map_drop]
  rw [show (k + 1).toNat = k.toNat + 1 by omega]
def sp5 (φ : V → V → V → V → V → Hp → VK → Prop) : Sp := fun vs H Q _ => ∃ a b c d e, vs = [a, b, c, d, e] ∧ φ a b c d e H Q
end L2
set_option Elab.async false
set_option linter.all false
set_option maxRecDepth 100000
set_option maxHeartbeats 4000000
namespace L2
open PySem PySem.Spec PyProof.Rows
/-! ### a comprehension over a list whose items may change the heap -/
section
variable {K : PySem.W.Frag} {a : Addr} {xs : List V} {x : Str} {caps : List Nat} {g : TG} {tt : TT} {te : TE} {σ : St} {H : Hp} {Q : VK}
end
end L2
set_option Elab.async false
set_option linter.all false
set_option maxRecDepth 100000
set_option maxHeartbeats 4000000
namespace L2
open PySem PySem.Spec PyProof.Rows
/-! ### a comprehension whose items are values that come to be on the way -/
section
variable {K : PySem.W.Frag} {a : Addr} {xs : List V} {x : Str} {caps : List Nat} {g : TG} {tt : TT} {te : TE} {σ : St} {H : Hp} {Q : VK}
theorem comp_it {J : It} {n : Nat} {item : Nat → V → Prop} (Pv : Addr → Nat → List V → Hp → Prop) (hn : n ≤ sizeLine) (h0 : ∀ acc, H acc = none → Pv acc 0 [] (upd H acc (.lst [])))
    (hgo : ∀ acc i vs H', H acc = none → i < n → Pv acc i vs H' → J.go i H') (hst : ∀ acc vs H', H acc = none → Pv acc n vs H' → J.stop n H')
    (hy : ∀ acc i vs H' v H'', H acc = none → i < n → Pv acc i vs H' → J.yld i H' v H'' → H'' = H' ∧ item i v)
    (hs : ∀ (acc : Addr) (i : Nat) (v : V) (t : Option V) (vs : List V) (H' : Hp) (N : St → Hp → Prop) (Kt : V → St → Hp → Prop), H acc = none → i < n → item i v → vs.length = i → Pv acc i vs H' → H' acc = some (.lst vs) →
      (∀ t' y H'', H'' acc = some (.lst vs) → Pv acc (i + 1) (vs ++ [y]) (upd H'' acc (.lst (vs ++ [y]))) → Kt y (t' :: caps.map fun j => σ.getD j none) H'') →
      g v (t :: caps.map fun j => σ.getD j none) H' fun σ2 H3 => tt σ2 H3 fun b H4 => if b = true then te σ2 H4 fun v H5 => Kt v σ2 H5 else N σ2 H4)
    (hQ : ∀ acc vs H', H acc = none → vs.length = n → Pv acc n vs H' → H' acc = some (.lst vs) → Q (.ref acc) H') : rComp [x] caps J g tt te σ H Q := by
  intro acc hacc
  refine ⟨fun i m σ' H' => m = n - i ∧ i ≤ n ∧ (∃ t, σ' = t :: caps.map fun j => σ.getD j none) ∧ ∃ vs, vs.length = i ∧ Pv acc i vs H' ∧ H' acc = some (.lst vs), ⟨n, rfl, Nat.zero_le _, ⟨none, rfl⟩, [], rfl, h0 acc hacc, upd_same⟩, ?_⟩
  rintro i m σ' H' ⟨rfl, hi, ⟨t, rfl⟩, vs, lv, p, ea⟩
  by_cases hlt : i < n
  · refine .inr ⟨hgo acc i vs H' hacc hlt p, fun σ2 H2 => (∃ t, σ2 = t :: caps.map fun j => σ.getD j none) ∧ ∃ vs, vs.length = i + 1 ∧ Pv acc (i + 1) vs H2 ∧ H2 acc = some (.lst vs), fun σ'' H'' ⟨h1, h2⟩ => ⟨n - (i + 1), by omega, rfl, hlt, h1, h2⟩, fun v H2 y => ?_⟩
    obtain ⟨rfl, iv⟩ := hy acc i vs H' v H2 hacc hlt p y
    refine hs acc i v t vs H2 _ (fun v σ2 H5 => ∃ ys, H5 acc = some (.lst ys) ∧ ys.length < sizeLine ∧ (∃ t, σ2 = t :: caps.map fun j => σ.getD j none) ∧ ∃ vs, vs.length = i + 1 ∧ Pv acc (i + 1) vs (upd H5 acc (.lst (ys ++ [v]))) ∧ (upd H5 acc (.lst (ys ++ [v]))) acc = some (.lst vs)) hacc hlt iv lv p ea fun t' y H'' e2 p2 => ?_
    exact ⟨_, e2, by omega, ⟨t', rfl⟩, vs ++ [y], by rw [List.length_append, lv]; rfl, p2, upd_same⟩
  · have e : i = n := by omega
    subst e
    exact .inl ⟨hst acc vs H' hacc p, hQ acc vs H' hacc lv p ea⟩
end
/-! ### tables: lists of lists -/
structure Tb (K : PySem.W.Frag) (H : Hp) (r : Addr) (xss : List (List V)) : Prop where
  ex : ∃ adr : List Addr, SqL K H r (adr.map V.ref) ∧ adr.length = xss.length ∧ ∀ (i : Nat) (a : Addr), adr[i]? = some a → ∃ xs, xss[i]? = some xs ∧ SqL K H a xs
/-- made anew since H0 -/
structure TbN (H0 H : Hp) (r : Addr) (xss : List (List V)) : Prop where
  ex : ∃ adr : List Addr, H r = some (.lst (adr.map V.ref)) ∧ adr.length = xss.length ∧ adr.Nodup ∧ ∀ (i : Nat) (a : Addr), adr[i]? = some a → H0 a = none ∧ a ≠ r ∧ ∃ xs, xss[i]? = some xs ∧ H a = some (.lst xs)
theorem Tb.same {K : PySem.W.Frag} {H H' : Hp} {r : Addr} {xss : List (List V)} (h : Tb K H r xss) (s : Same H H') : Tb K H' r xss := by
  obtain ⟨adr, h1, h2, h3⟩ := h.ex
  refine ⟨adr, s.seq h1, h2, fun i a ha => ?_⟩
  obtain ⟨xs, e, q⟩ := h3 i a ha
  exact ⟨xs, e, s.seq q⟩
theorem TbN.tb {K : PySem.W.Frag} {H0 H : Hp} {r : Addr} {xss : List (List V)} (h : TbN H0 H r xss) : Tb K H r xss := by
  obtain ⟨adr, h1, h2, _, h3⟩ := h.ex
  refine ⟨adr, SqL.of h1, h2, fun i a ha => ?_⟩
  obtain ⟨_, _, xs, e, q⟩ := h3 i a ha
  exact ⟨xs, e, SqL.of q⟩
def rNewT (xss : List (List V)) (H : Hp) (Q : VK) : Prop := ∀ r H', Same H H' → H r = none → TbN H H' r xss → Q (.ref r) H'
/-- list i of a table -/
theorem Tb.at_ {K : PySem.W.Frag} {H : Hp} {r : Addr} {xss : List (List V)} (h : Tb K H r xss) : ∃ ys, SqL K H r ys ∧ ys.length = xss.length ∧ ∀ (i : Nat), i < xss.length → ∃ a, ys[i]? = some (.ref a) ∧ SqL K H a (xss.getD i []) := by
  obtain ⟨adr, h1, h2, h3⟩ := h.ex
  refine ⟨_, h1, by rw [List.length_map, h2], fun i hi => ?_⟩
  have e : adr[i]? = some adr[i] := List.getElem?_eq_getElem (by omega)
  obtain ⟨xs, e2, q⟩ := h3 i _ e
  refine ⟨_, by rw [List.getElem?_map, e]; rfl, ?_⟩
  rw [List.getD, e2]
  exact q
theorem tb_eq {K : PySem.W.Frag} {H : Hp} {neg : Bool} {Q : VK} {a b : Addr} {xss : List (List V)} (h1 : Tb K H a xss) (h2 : Tb K H b xss) (f : ∀ xs ∈ xss, xs.all flatV = true) (q : Q (.bl (!neg)) H) : rEqD K neg (.ref a) (.ref b) H Q := by
  obtain ⟨ys, y1, y2, y3⟩ := h1.at_
  obtain ⟨zs, z1, z2, z3⟩ := h2.at_
  refine eqD_all y1 z1 (by omega) (fun i x y hx hy => ?_) q
  have hi : i < xss.length := by have := (List.getElem?_eq_some_iff.mp hx).1; omega
  obtain ⟨p, e1, q1⟩ := y3 i hi
  obtain ⟨q, e2, q2⟩ := z3 i hi
  rw [e1] at hx
  rw [e2] at hy
  cases hx
  cases hy
  refine DEq.flats q1 q2 (f _ ?_)
  rw [List.getD, List.getElem?_eq_getElem hi]
  exact List.getElem_mem hi
/-! a comprehension whose items are new lists -/
section
variable {K : PySem.W.Frag} {a : Addr} {xs : List V} {x : Str} {caps : List Nat} {g : TG} {tt : TT} {te : TE} {σ : St} {H : Hp} {Q : VK}
theorem comp_rows {J : It} {n : Nat} {item : Nat → V → Prop} (F : Nat → List V) (hn : n ≤ sizeLine) (hgo : ∀ i H', Same H H' → i < n → J.go i H') (hst : ∀ H', Same H H' → J.stop n H')
    (hy : ∀ i H' v H'', Same H H' → i < n → J.yld i H' v H'' → H'' = H' ∧ item i v)
    (hs : ∀ (i : Nat) (v : V) (t : Option V) (H' : Hp) (N : St → Hp → Prop) (Kt : V → St → Hp → Prop), i < n → item i v → Same H H' → (∀ t', rNew (F i) H' fun y H'' => Kt y (t' :: caps.map fun j => σ.getD j none) H'') →
      g v (t :: caps.map fun j => σ.getD j none) H' fun σ2 H3 => tt σ2 H3 fun b H4 => if b = true then te σ2 H4 fun v H5 => Kt v σ2 H5 else N σ2 H4)
    (hQ : rNewT ((List.range n).map F) H Q) : rComp [x] caps J g tt te σ H Q := by
  refine comp_it (item := item) (fun acc i vs H' => Same H H' ∧ ∃ adr : List Addr, vs = adr.map V.ref ∧ adr.length = i ∧ adr.Nodup ∧ ∀ (j : Nat) (b : Addr), adr[j]? = some b → H b = none ∧ b ≠ acc ∧ H' b = some (.lst (F j))) hn
    (fun acc hacc => ⟨Same.new hacc _, [], rfl, rfl, List.nodup_nil, fun j b hb => by cases hb⟩) (fun acc i vs H' _ hi p => hgo i H' p.1 hi) (fun acc vs H' _ p => hst H' p.1) (fun acc i vs H' v H'' _ hi p y => hy i H' v H'' p.1 hi y) ?_ ?_
  · intro acc i v t vs H' N Kt hacc hi iv lv p ea k
    obtain ⟨sm, adr, e1, e2, en, e3⟩ := p
    refine hs i v t H' N Kt hi iv sm fun t' r H'' s2 hr er => ?_
    have hra : r ≠ acc := fun e => by rw [e, ea] at hr; cases hr
    refine k t' (.ref r) H'' (s2 _ _ ea) ⟨(sm.trans s2).put hacc, adr ++ [r], by rw [e1, List.map_append]; rfl, by rw [List.length_append, e2]; rfl, ?_, fun j b hb => ?_⟩
    · rw [List.nodup_append]
      refine ⟨en, by simp, fun b hb c hc e => ?_⟩
      rw [List.mem_singleton] at hc
      subst hc
      subst e
      obtain ⟨j, hj⟩ := List.mem_iff_getElem?.mp hb
      rw [(e3 j b hj).2.2] at hr
      cases hr
    rcases Nat.lt_or_ge j adr.length with h | h
    · rw [List.getElem?_append_left h] at hb
      obtain ⟨q1, q2, q3⟩ := e3 j b hb
      exact ⟨q1, q2, by rw [upd_ne q2]; exact s2 _ _ q3⟩
    · rw [List.getElem?_append_right h] at hb
      have eh : j - adr.length = 0 := by
        rcases Nat.eq_zero_or_pos (j - adr.length) with z | z
        · exact z
        · rw [List.getElem?_eq_none (by simp; omega)] at hb; cases hb
      rw [eh] at hb
      cases hb
      have : j = i := by omega
      subst this
      exact ⟨sm.free hr, hra, by rw [upd_ne hra]; exact er⟩
  · intro acc vs H' hacc lv p ea
    obtain ⟨sm, adr, e1, e2, en, e3⟩ := p
    subst e1
    refine hQ acc H' sm hacc ⟨adr, ea, by simp [e2], en, fun i b hb => ?_⟩
    obtain ⟨q1, q2, q3⟩ := e3 i b hb
    have hi : i < n := by have := (List.getElem?_eq_some_iff.mp hb).1; omega
    exact ⟨q1, q2, F i, by rw [List.getElem?_map, List.getElem?_range hi]; rfl, q3⟩
theorem comp_rowsR {lo : Int} {n : Nat} (F : Nat → List V) (hn : n ≤ sizeLine)
    (hs : ∀ (i : Nat) (t : Option V) (H' : Hp) (N : St → Hp → Prop) (Kt : V → St → Hp → Prop), i < n → Same H H' → (∀ t', rNew (F i) H' fun y H'' => Kt y (t' :: caps.map fun j => σ.getD j none) H'') →
      g (.int (lo + i)) (t :: caps.map fun j => σ.getD j none) H' fun σ2 H3 => tt σ2 H3 fun b H4 => if b = true then te σ2 H4 fun v H5 => Kt v σ2 H5 else N σ2 H4)
    (hQ : rNewT ((List.range n).map F) H Q) : rComp [x] caps (Itr lo n) g tt te σ H Q :=
  comp_rows (item := fun i v => v = .int (lo + i)) F hn (fun i H' s hi => hi) (fun H' s => Nat.le_refl _) (fun i H' v H'' s hi y => y) (fun i v t H' N Kt hi hv s k => by subst hv; exact hs i t H' N Kt hi s k) hQ
end
end L2
set_option Elab.async false
set_option linter.all false
set_option maxRecDepth 100000
set_option maxHeartbeats 4000000
namespace L2
open PySem PySem.Spec PyProof.Rows
section
variable {X : Cx}
/-- min(xs), xs a list of ints that is not empty -/
def rMinL (K : PySem.W.Frag) : List V → Hp → VK → Prop := fun xs H Q => ∃ (p : Addr) (ns : List Int), xs = [.ref p] ∧ SqL K H p (ns.map V.int) ∧ 0 < ns.length ∧ ∀ m : Int, m ∈ ns → (∀ a ∈ ns, m ≤ a) → Q (.int m) H
def rMaxL (K : PySem.W.Frag) : List V → Hp → VK → Prop := fun xs H Q => ∃ (p : Addr) (ns : List Int), xs = [.ref p] ∧ SqL K H p (ns.map V.int) ∧ 0 < ns.length ∧ ∀ m : Int, m ∈ ns → (∀ a ∈ ns, a ≤ m) → Q (.int m) H
/-- // by a divisor of many figures -/
def CDivB (_ j : Int) : Prop := j ≠ 0 ∧ j.natAbs < 2 ^ 9000
end
/-! ### != of tuples -/
section
variable {X : Cx}
def rNeT (K : PySem.W.Frag) : R2 := fun x y H Q => ∃ a b xs ys, x = .ref a ∧ y = .ref b ∧ SqT K H a xs ∧ SqT K H b ys ∧ ∃ e : Nat → Bool, (∀ (i : Nat) (x y : V), xs[i]? = some x → ys[i]? = some y → DEq K H 40 x y (e i)) ∧ Q (.bl (!((List.range (min xs.length ys.length)).all e && xs.length == ys.length))) H
end
/-! ### a comprehension with a test, that makes things on the way -/
section
variable {K : PySem.W.Frag} {a : Addr} {xs : List V} {x : Str} {caps : List Nat} {g : TG} {tt : TT} {te : TE} {σ : St} {H : Hp} {Q : VK}
end
end L2
namespace M
def iota (n : Nat) : List Int := (List.range n).map fun i => ((i : Nat) : Int)
theorem iota_length (n : Nat) : (iota n).length = n := by simp [iota]
theorem mem_iota {n : Nat} {c : Int} : c ∈ iota n ↔ 0 ≤ c ∧ c < n := by
  simp only [iota, List.mem_map, List.mem_range]
  constructor
  · rintro ⟨i, hi, rfl⟩; omega
  · rintro ⟨h0, h1⟩; exact ⟨c.toNat, by omega, by omega⟩
theorem iota_nodup (n : Nat) : (iota n).Nodup := by
  unfold iota List.Nodup
  rw [List.pairwise_map]
  refine List.Pairwise.imp ?_ (List.nodup_range (n := n))
  intro a b h e
  exact h (by omega)
theorem iota_getElem? {n i : Nat} (h : i < n) : (iota n)[i]? = some (i : Int) := by simp [iota, h]
/-- an order of n cards -/
structure Ord (n : Nat) (ns : List Int) : Prop where
  len : ns.length = n
  nd : ns.Nodup
  bd : ∀ c ∈ ns, 0 ≤ c ∧ c < n
theorem sub_of_full : ∀ {l m : List Int}, l.Nodup → (∀ c ∈ l, c ∈ m) → m.length ≤ l.length → ∀ c ∈ m, c ∈ l
  | [], m, _, _, h, c, hc => by
    have : m = [] := List.eq_nil_of_length_eq_zero (by simpa using h)
    rw [this] at hc; cases hc
  | a :: l, m, nd, hs, h, c, hc => by
    have nd' := List.nodup_cons.mp nd
    by_cases e : c = a
    · rw [e]; exact List.mem_cons_self
    · have ha : a ∈ m := hs a List.mem_cons_self
      refine List.mem_cons_of_mem _ (sub_of_full (m := m.erase a) nd'.2 (fun d hd => ?_) ?_ c ((List.mem_erase_of_ne e).mpr hc))
      · have : d ≠ a := fun z => nd'.1 (z ▸ hd)
        exact (List.mem_erase_of_ne this).mpr (hs d (List.mem_cons_of_mem _ hd))
      · have := List.length_erase_of_mem ha
        simp at h
        omega
theorem Ord.has {n : Nat} {ns : List Int} (o : Ord n ns) {c : Int} (h0 : 0 ≤ c) (h1 : c < n) : c ∈ ns :=
  sub_of_full (m := iota n) o.nd (fun d hd => mem_iota.mpr (o.bd d hd)) (by rw [iota_length, o.len]; exact Nat.le_refl _) c (mem_iota.mpr ⟨h0, h1⟩)
theorem Ord.of_perm {n : Nat} {ns : List Int} (p : ns.Perm (iota n)) : Ord n ns :=
  ⟨by rw [p.length_eq, iota_length], (List.Perm.nodup_iff p).mpr (iota_nodup n), fun c hc => mem_iota.mp (p.mem_iff.mp hc)⟩
theorem Ord.getD_bd {n : Nat} {ns : List Int} (o : Ord n ns) {i : Nat} (h : i < n) : 0 ≤ ns.getD i 0 ∧ ns.getD i 0 < n := by
  have hi : i < ns.length := by rw [o.len]; exact h
  have : ns.getD i 0 = ns[i] := by simp [List.getD, List.getElem?_eq_getElem hi]
  rw [this]
  exact o.bd _ (List.getElem_mem hi)
theorem take_out_perm : ∀ {l : List Int} {i : Nat} (h : i < l.length), (l[i] :: l.eraseIdx i).Perm l
  | a :: l, 0, _ => List.Perm.refl _
  | a :: l, i + 1, h => by
    have h' : i < l.length := by simpa using h
    show (l[i] :: a :: l.eraseIdx i).Perm (a :: l)
    exact (List.Perm.swap a l[i] _).trans ((take_out_perm h').cons a)
/-- the step of a draw -/
theorem draw_perm {as ls : List Int} {n i : Nat} (h : (as ++ ls).Perm (iota n)) (hi : i < ls.length) : (as ++ [ls[i]] ++ ls.eraseIdx i).Perm (iota n) := by
  refine List.Perm.trans ?_ h
  rw [List.append_assoc]
  refine List.Perm.append_left as ?_
  exact take_out_perm hi
/-! places -/
def plc (n : Nat) (ns : List Int) : List Int := (List.range n).map fun c => ((ns.idxOf ((c : Nat) : Int) : Nat) : Int)
theorem plc_length (n : Nat) (ns : List Int) : (plc n ns).length = n := by simp [plc]
theorem plc_get {n : Nat} {ns : List Int} {c : Nat} (h : c < n) : (plc n ns)[c]? = some ((ns.idxOf (c : Int) : Nat) : Int) := by simp [plc, h]
theorem idx_lt {n : Nat} {ns : List Int} (o : Ord n ns) {c : Int} (h0 : 0 ≤ c) (h1 : c < n) : ns.idxOf c < n := by
  have := List.idxOf_lt_length_iff.mpr (o.has h0 h1)
  rw [o.len] at this
  exact this
theorem getElem_idx {n : Nat} {ns : List Int} (o : Ord n ns) {c : Int} (h0 : 0 ≤ c) (h1 : c < n) : ns[ns.idxOf c]? = some c := by
  have h := List.idxOf_lt_length_iff.mpr (o.has h0 h1)
  rw [List.getElem?_eq_getElem h]
  simp [List.getElem_idxOf]
theorem idx_of_get {n : Nat} {ns : List Int} (o : Ord n ns) {i : Nat} {c : Int} (h : ns[i]? = some c) : ns.idxOf c = i := by
  have hi := (List.getElem?_eq_some_iff.mp h).1
  have hc : c ∈ ns := List.mem_of_getElem? h
  have b := o.bd c hc
  have e := getElem_idx o b.1 b.2
  have hj : ns.idxOf c < ns.length := List.idxOf_lt_length_iff.mpr hc
  rw [← h, List.getElem?_eq_getElem hj, List.getElem?_eq_getElem hi] at e
  exact (List.getElem_inj o.nd).mp (Option.some.inj e)
/-! one laid by the other -/
def lay (one other : List Int) : List Int := other.map fun c => one.getD c.toNat 0
theorem lay_iota {n : Nat} {a : List Int} (o : Ord n a) : lay (iota n) a = a := by
  unfold lay
  conv => rhs; rw [← List.map_id a]
  apply List.map_congr_left
  intro c hc
  have b := o.bd c hc
  simp only [List.getD, iota_getElem? (show c.toNat < n by omega), Option.getD_some, id]
  omega
/-! the loop of places -/
def plcUpTo (n : Nat) (ns : List Int) (i : Nat) : List Int := (List.range n).map fun c => if ((c : Nat) : Int) ∈ ns.take i then ((ns.idxOf ((c : Nat) : Int) : Nat) : Int) else 0
theorem plcUpTo_zero (n : Nat) (ns : List Int) : plcUpTo n ns 0 = List.replicate n 0 := by
  simp [plcUpTo]
  apply List.ext_getElem?
  intro i
  by_cases h : i < n <;> simp [h]
theorem plcUpTo_length (n : Nat) (ns : List Int) (i : Nat) : (plcUpTo n ns i).length = n := by simp [plcUpTo]
theorem plcUpTo_all {n : Nat} {ns : List Int} (o : Ord n ns) : plcUpTo n ns n = plc n ns := by
  unfold plcUpTo plc
  apply List.map_congr_left
  intro c hc
  have hc := List.mem_range.mp hc
  rw [List.take_of_length_le (by rw [o.len]; exact Nat.le_refl _), if_pos (o.has (by omega) (by omega))]
theorem plcUpTo_succ {n : Nat} {ns : List Int} (o : Ord n ns) {i : Nat} {c : Int} (h : ns[i]? = some c) : (plcUpTo n ns i).set c.toNat (i : Int) = plcUpTo n ns (i + 1) := by
  have hi := (List.getElem?_eq_some_iff.mp h).1
  have b := o.bd c (List.mem_of_getElem? h)
  have hx := idx_of_get o h
  apply List.ext_getElem?
  intro j
  by_cases hj : j < n
  · rw [List.getElem?_set]
    have e1 : (plcUpTo n ns i)[j]? = some (if ((j : Nat) : Int) ∈ ns.take i then ((ns.idxOf ((j : Nat) : Int) : Nat) : Int) else 0) := by simp [plcUpTo, hj]
    have e2 : (plcUpTo n ns (i + 1))[j]? = some (if ((j : Nat) : Int) ∈ ns.take (i + 1) then ((ns.idxOf ((j : Nat) : Int) : Nat) : Int) else 0) := by simp [plcUpTo, hj]
    have mem : ∀ d : Int, d ∈ ns.take (i + 1) ↔ d ∈ ns.take i ∨ d = c := fun d => by
      rw [List.take_add_one, h, List.mem_append]
      simp
    rw [e1, e2]
    split
    · rename_i ec
      rw [if_pos (by rw [plcUpTo_length]; omega)]
      have : ((j : Nat) : Int) = c := by omega
      rw [if_pos ((mem _).mpr (.inr this)), this, hx]
    · rename_i ec
      have : ((j : Nat) : Int) ≠ c := by omega
      by_cases hm : ((j : Nat) : Int) ∈ ns.take i
      · rw [if_pos hm, if_pos ((mem _).mpr (.inl hm))]
      · rw [if_neg hm, if_neg (fun z => ((mem _).mp z).elim hm this)]
  · rw [List.getElem?_eq_none (by rw [List.length_set, plcUpTo_length]; omega), List.getElem?_eq_none (by rw [plcUpTo_length]; omega)]
end M
namespace M
def cnt (n : Nat) (P : Nat → Bool) : Nat := ((List.range n).filter P).length
theorem cnt_succ (n : Nat) (P : Nat → Bool) : cnt (n + 1) P = cnt n P + if P n = true then 1 else 0 := by
  unfold cnt
  rw [List.range_succ, List.filter_append, List.length_append]
  cases h : P n <;> simp [h]
theorem cnt_congr {n : Nat} {P Q : Nat → Bool} (h : ∀ i, i < n → P i = Q i) : cnt n P = cnt n Q := by
  induction n with
  | zero => rfl
  | succ n ih => rw [cnt_succ, cnt_succ, ih fun i hi => h i (by omega), h n (by omega)]
/-- how many falls -/
def flN (ns : List Int) : Nat := cnt (ns.length - 1) fun p => decide (ns.getD (p + 1) 0 < ns.getD p 0)
/-! cards taken by going through the pack -/
def pos (ns : List Int) (d : Nat) : Nat := ns.idxOf (d : Int)
def dsc (ns : List Int) (d : Nat) : Bool := decide (pos ns (d + 1) < pos ns d)
/-- going through, from the card c0 on; i cards are looked at, c is wanted -/
structure Pass (n : Nat) (ns : List Int) (c0 i c : Nat) : Prop where
  le0 : c0 ≤ c
  len : c ≤ n
  seen : ∀ d, c0 ≤ d → d < c → pos ns d < i
  up : ∀ d, c0 ≤ d → d + 1 < c → dsc ns d = false
  next : c < n → i ≤ pos ns c ∨ (c0 < c ∧ dsc ns (c - 1) = true)
/-- between two rounds -/
structure Rnd (n : Nat) (ns : List Int) (c r : Nat) : Prop where
  le : c ≤ n
  zero : c = 0 → r = 0
  many : 0 < c → r = 1 + cnt (c - 1) (dsc ns)
  down : 0 < c → c < n → dsc ns (c - 1) = true
end M
namespace M
def ch : Nat → Nat → Nat
  | _, 0 => 1
  | 0, _ + 1 => 0
  | n + 1, k + 1 => ch n k + ch n (k + 1)
/-- the product n (n - 1) .., k factors -/
def df (n : Nat) : Nat → Nat
  | 0 => 1
  | k + 1 => df n k * (n - k)
/-- over ints -/
def chI (n k : Int) : Int := if k < 0 ∨ n < k then 0 else (ch n.toNat k.toNat : Int)
end M
namespace M
/-- a word for h heaps and n cards -/
structure Wd (h n : Nat) (ws : List Int) : Prop where
  len : ws.length = n
  bd : ∀ x ∈ ws, 0 ≤ x ∧ x < h
def cn (ws : List Int) (h : Nat) : Nat := ws.count (h : Int)
/-- where heap h begins -/
def stt (ws : List Int) : Nat → Nat
  | 0 => 0
  | h + 1 => stt ws h + cn ws h
theorem stt_nil : ∀ h, stt [] h = 0
  | 0 => rfl
  | h + 1 => by rw [stt, stt_nil h]; rfl
theorem stt_cons (w : Int) (ws : List Int) (w0 : 0 ≤ w) : ∀ h : Nat, stt (w :: ws) h = stt ws h + if w < h then 1 else 0
  | 0 => by rw [stt, stt, if_neg (by omega)]
  | h + 1 => by
    rw [stt, stt, stt_cons w ws w0 h]
    unfold cn
    rw [List.count_cons]
    by_cases e : w = (h : Int)
    · rw [if_neg (by omega), if_pos (by simp [e]), if_pos (by omega)]; omega
    · rw [if_neg (show ¬ ((w == (h : Int)) = true) by simpa using e)]
      by_cases l : w < h
      · rw [if_pos l, if_pos (by omega)]; omega
      · rw [if_neg l, if_neg (by omega)]; omega
theorem stt_all {h : Nat} : ∀ {ws : List Int}, (∀ x ∈ ws, 0 ≤ x ∧ x < (h : Int)) → stt ws h = ws.length
  | [], _ => stt_nil h
  | w :: ws, b => by
    have bw := b w (by simp)
    rw [stt_cons w ws bw.1, if_pos bw.2, stt_all fun x hx => b x (by simp [hx])]
    rfl
theorem stt_mono (ws : List Int) {a : Nat} : ∀ {b : Nat}, a ≤ b → stt ws a ≤ stt ws b
  | 0, h => by have : a = 0 := by omega
               rw [this]; exact Nat.le_refl _
  | b + 1, h => by
    by_cases e : a = b + 1
    · rw [e]; exact Nat.le_refl _
    · have := stt_mono ws (a := a) (b := b) (by omega)
      rw [stt]
      omega
/-- the heap of place p -/
def hp (ws : List Int) (p : Nat) : Nat := (ws.getD p 0).toNat
/-- how many of that heap lie ahead -/
def kk (ws : List Int) (p : Nat) : Nat := (ws.take p).count (ws.getD p 0)
theorem split_at {ws : List Int} {p : Nat} (h : p < ws.length) : ws = ws.take p ++ ws.getD p 0 :: ws.drop (p + 1) := by
  have e : ws.getD p 0 = ws[p] := by simp [List.getD, List.getElem?_eq_getElem h]
  rw [e, List.getElem_cons_drop h, List.take_append_drop]
theorem hp_cast {h n : Nat} {ws : List Int} (W : Wd h n ws) {p : Nat} (hp' : p < n) : ((hp ws p : Nat) : Int) = ws.getD p 0 ∧ hp ws p < h := by
  have hl : p < ws.length := by rw [W.len]; exact hp'
  have e : ws.getD p 0 = ws[p] := by simp [List.getD, List.getElem?_eq_getElem hl]
  have := W.bd ws[p] (List.getElem_mem hl)
  unfold hp
  rw [e]
  omega
theorem kk_lt {h n : Nat} {ws : List Int} (W : Wd h n ws) {p : Nat} (hp' : p < n) : kk ws p < cn ws (hp ws p) := by
  have hl : p < ws.length := by rw [W.len]; exact hp'
  unfold cn
  rw [(hp_cast W hp').1]
  unfold kk
  have e := congrArg (List.count (ws.getD p 0)) (split_at hl)
  rw [List.count_append, List.count_cons_self] at e
  omega
/-- from which place the card at p comes -/
def dr (bs : List Bool) (ws : List Int) (p : Nat) : Nat :=
  if bs.getD (hp ws p) false = true then stt ws (hp ws p) + cn ws (hp ws p) - 1 - kk ws p else stt ws (hp ws p) + kk ws p
def drawn (bs : List Bool) (ws : List Int) : List Int := (List.range ws.length).map fun p => ((dr bs ws p : Nat) : Int)
theorem drawn_length (bs : List Bool) (ws : List Int) : (drawn bs ws).length = ws.length := by simp [drawn]
theorem dr_bd {h n : Nat} {bs : List Bool} {ws : List Int} (W : Wd h n ws) {p : Nat} (hp' : p < n) : stt ws (hp ws p) ≤ dr bs ws p ∧ dr bs ws p < stt ws (hp ws p + 1) := by
  have k := kk_lt W hp'
  unfold dr
  rw [stt]
  split <;> omega
theorem dr_lt {h n : Nat} {bs : List Bool} {ws : List Int} (W : Wd h n ws) {p : Nat} (hp' : p < n) : dr bs ws p < n := by
  have b := (dr_bd (bs := bs) W hp').2
  have m := stt_mono ws (show hp ws p + 1 ≤ h from (hp_cast W hp').2)
  rw [stt_all W.bd, W.len] at m
  omega
theorem kk_lt_kk {h n : Nat} {ws : List Int} (W : Wd h n ws) {p q : Nat} (hpq : p < q) (hq : q < n) (e : ws.getD p 0 = ws.getD q 0) : kk ws p < kk ws q := by
  unfold kk
  rw [← e]
  have hl : p < ws.length := by rw [W.len]; omega
  have e1 : (ws.take q).getD p 0 = ws.getD p 0 := by simp [List.getD, List.getElem?_take, hpq]
  have e2 : (ws.take q).take p = ws.take p := by rw [List.take_take]; congr 1; omega
  have hlq : p < (ws.take q).length := by rw [List.length_take, W.len]; omega
  have s := congrArg (List.count (ws.getD p 0)) (split_at hlq)
  rw [e1, e2, List.count_append, List.count_cons_self] at s
  omega
theorem dr_inj {h n : Nat} {bs : List Bool} {ws : List Int} (W : Wd h n ws) {p q : Nat} (hp' : p < n) (hq : q < n) (e : dr bs ws p = dr bs ws q) : p = q := by
  have bp := dr_bd (bs := bs) W hp'
  have bq := dr_bd (bs := bs) W hq
  have eh : hp ws p = hp ws q := by
    rcases Nat.lt_trichotomy (hp ws p) (hp ws q) with l | l | l
    · have := stt_mono ws (show hp ws p + 1 ≤ hp ws q from l); omega
    · exact l
    · have := stt_mono ws (show hp ws q + 1 ≤ hp ws p from l); omega
  have eg : ws.getD p 0 = ws.getD q 0 := by rw [← (hp_cast W hp').1, ← (hp_cast W hq).1, eh]
  have kp := kk_lt W hp'
  have kq := kk_lt W hq
  have ek : kk ws p = kk ws q := by
    unfold dr at e
    rw [eh] at e kp
    split at e <;> omega
  rcases Nat.lt_trichotomy p q with l | l | l
  · have := kk_lt_kk W l hq eg; omega
  · exact l
  · have := kk_lt_kk W l hp' eg.symm; omega
theorem ord_drawn {h n : Nat} {bs : List Bool} {ws : List Int} (W : Wd h n ws) : Ord n (drawn bs ws) where
  len := by rw [drawn_length, W.len]
  nd := by
    unfold drawn List.Nodup
    rw [List.pairwise_map]
    refine List.Pairwise.imp_of_mem ?_ (List.nodup_range (n := ws.length))
    intro a b ha hb hab e
    have ha' := List.mem_range.mp ha
    have hb' := List.mem_range.mp hb
    rw [W.len] at ha' hb'
    exact hab (dr_inj W ha' hb' (Int.ofNat.inj e))
  bd := by
    intro c hc
    obtain ⟨p, hp', rfl⟩ := List.mem_map.mp hc
    have hp2 := List.mem_range.mp hp'
    rw [W.len] at hp2
    have := dr_lt (bs := bs) W hp2
    omega
/-- the sizes of the heaps -/
def szs (h : Nat) (ws : List Int) : List Int := (List.range h).map fun i => ((cn ws i : Nat) : Int)
/-- the places of the tops -/
def tops (bs : List Bool) (ws : List Int) (i : Nat) : List Int :=
  (List.range bs.length).map fun h => if bs.getD h false = true then ((stt ws h : Nat) : Int) + (cn ws h : Nat) - 1 - ((ws.take i).count ((h : Nat) : Int) : Nat) else ((stt ws h : Nat) : Int) + ((ws.take i).count ((h : Nat) : Int) : Nat)
theorem take_succ_count {ws : List Int} {i : Nat} (hi : i < ws.length) (x : Int) : (ws.take (i + 1)).count x = (ws.take i).count x + if ws.getD i 0 = x then 1 else 0 := by
  have e : ws.getD i 0 = ws[i] := by simp [List.getD, List.getElem?_eq_getElem hi]
  rw [List.take_succ_eq_append_getElem hi, List.count_append, List.count_cons, List.count_nil, e]
  by_cases h : ws[i] = x
  · simp [h]
  · rw [if_neg (show ¬ ((ws[i] == x) = true) by simpa using h), if_neg h]
/-- heap h, cut from the order and turned over where it is to be -/
def hc (bs : List Bool) (ws os : List Int) (h : Nat) : List Int :=
  if bs.getD h false = true then ((os.drop (stt ws h)).take (cn ws h)).reverse else (os.drop (stt ws h)).take (cn ws h)
theorem hc_get {n : Nat} {bs : List Bool} {ws os : List Int} (W : Wd bs.length n ws) (lo : os.length = n) {i : Nat} (hi : i < n) : (hc bs ws os (hp ws i))[kk ws i]? = some (os.getD (dr bs ws i) 0) := by
  have c := hp_cast W hi
  have k := kk_lt W hi
  have d := dr_lt (bs := bs) W hi
  have m := stt_mono ws (show hp ws i + 1 ≤ bs.length from c.2)
  rw [stt_all W.bd, W.len, stt] at m
  have ed : os[dr bs ws i]? = some (os.getD (dr bs ws i) 0) := by
    rw [List.getElem?_eq_getElem (by omega)]
    simp [List.getD, List.getElem?_eq_getElem (show dr bs ws i < os.length by omega)]
  rw [← ed]
  unfold hc dr
  have hl : ((os.drop (stt ws (hp ws i))).take (cn ws (hp ws i))).length = cn ws (hp ws i) := by rw [List.length_take, List.length_drop]; omega
  split
  · rw [List.getElem?_reverse (by rw [hl]; exact k), hl, List.getElem?_take, if_pos (by omega), List.getElem?_drop]
    congr 1
    omega
  · rw [List.getElem?_take, if_pos k, List.getElem?_drop]
theorem lay_drawn {n : Nat} {bs : List Bool} {ws os : List Int} (W : Wd bs.length n ws) : lay os (drawn bs ws) = (List.range n).map fun p => os.getD (dr bs ws p) 0 := by
  unfold lay drawn
  rw [List.map_map, W.len]
  refine List.map_congr_left fun p _ => ?_
  show os.getD ((dr bs ws p : Nat) : Int).toNat 0 = _
  rw [Int.toNat_natCast]
end M
namespace M
theorem Ord.perm {n : Nat} {a : List Int} (o : Ord n a) : a.Perm (iota n) := by
  rw [List.perm_ext_iff_of_nodup o.nd (iota_nodup n)]
  intro c
  rw [mem_iota]
  exact ⟨o.bd c, fun h => o.has h.1 h.2⟩
end M
namespace M
/-- the sum of f from h on below a -/
def sm (f : Nat → Nat) (a h : Nat) : Nat := ((List.range (a - h)).map fun j => f (h + j)).sum
theorem sm_stop {f : Nat → Nat} {a h : Nat} (e : a ≤ h) : sm f a h = 0 := by unfold sm; rw [Nat.sub_eq_zero_of_le e]; rfl
theorem sm_step {f : Nat → Nat} {a h : Nat} (e : h < a) : sm f a h = f h + sm f a (h + 1) := by
  unfold sm
  obtain ⟨k, hk⟩ : ∃ k, a - h = k + 1 := ⟨a - h - 1, by omega⟩
  rw [hk, show a - (h + 1) = k by omega, List.range_succ_eq_map, List.map_cons, List.sum_cons, List.map_map, Nat.add_zero]
  congr 2
  refine List.map_congr_left fun j _ => ?_
  show f (h + (j + 1)) = f (h + 1 + j)
  congr 1
  omega
/-- the least heap for the next card -/
def lf (ab : Bool) (bs : List Bool) (h : Nat) : Nat := if (ab != bs.getD h false) = true then h else h + 1
/-- in how many ways the cards go from heap h on: one flag a card, whether it lies above its next one -/
def wy (bs : List Bool) : List Bool → Nat → Nat
  | [], _ => 1
  | ab :: r, h => sm (fun x => wy bs r (lf ab bs x)) bs.length h
theorem wy_cons (bs : List Bool) (ab : Bool) (r : List Bool) (h : Nat) : wy bs (ab :: r) h = sm (fun x => wy bs r (lf ab bs x)) bs.length h := rfl
theorem wy_stop {bs : List Bool} {ab : Bool} {r : List Bool} {h : Nat} (e : bs.length ≤ h) : wy bs (ab :: r) h = 0 := by rw [wy_cons, sm_stop e]
theorem wy_step {bs : List Bool} {ab : Bool} {r : List Bool} {h : Nat} (e : h < bs.length) : wy bs (ab :: r) h = wy bs r (lf ab bs h) + wy bs (ab :: r) (h + 1) := by rw [wy_cons, sm_step e, wy_cons]
/-- how many flags but the last are t -/
def steps (t : Bool) : List Bool → Nat
  | [] => 0
  | [_] => 0
  | x :: y :: r => (if x = t then 1 else 0) + steps t (y :: r)
/-- whether each card lies above its next one -/
def abv (n : Nat) (ns : List Int) : List Bool := (List.range (n - 1)).map (fun c => decide ((plc n ns).getD c 0 < (plc n ns).getD (c + 1) 0)) ++ [true]
theorem abv_length {n : Nat} (ns : List Int) (h : 1 ≤ n) : (abv n ns).length = n := by simp [abv]; omega
theorem plc_getD {n c : Nat} {ns : List Int} (h : c < n) : (plc n ns).getD c 0 = ((pos ns c : Nat) : Int) := by
  rw [List.getD, plc_get h]; rfl
theorem pos_ne_succ {n : Nat} {ns : List Int} (o : Ord n ns) {c : Nat} (h : c + 1 < n) : pos ns c ≠ pos ns (c + 1) := fun e => by
  have h1 := getElem_idx o (c := (c : Int)) (by omega) (by omega)
  have h2 := getElem_idx o (c := ((c + 1 : Nat) : Int)) (by omega) (by omega)
  unfold pos at e
  rw [e, h2] at h1
  have := Option.some.inj h1
  omega
end M
namespace M
/-- how heap g of b is counted behind a heap that is turned or not -/
def see (t : Bool) (b g : Nat) : Nat := if t = true then b - 1 - g else g
def jm (ms os : List Bool) : List Bool := (List.range (ms.length * os.length)).map fun h => (ms.getD (h / os.length) false) != (os.getD (see (ms.getD (h / os.length) false) os.length (h % os.length)) false)
def row (os : List Bool) (m : Bool) : List Bool := (if m = true then os.reverse else os).map fun o => (m != o)
def jd (ms os : List Bool) : List Bool := ms.flatMap (row os)
end M
namespace M
theorem kk_iff {h n : Nat} {ws : List Int} (W : Wd h n ws) {p q : Nat} (hp' : p < n) (hq : q < n) (e : hp ws p = hp ws q) : kk ws p < kk ws q ↔ p < q := by
  have eg : ws.getD p 0 = ws.getD q 0 := by rw [← (hp_cast W hp').1, ← (hp_cast W hq).1, e]
  constructor
  · intro l
    rcases Nat.lt_trichotomy p q with z | z | z
    · exact z
    · subst z; omega
    · have := kk_lt_kk W z hp' eg.symm; omega
  · intro l
    exact kk_lt_kk W l hq eg
/-- how the places that are drawn from lie to one another -/
theorem dr_iff {h n : Nat} {bs : List Bool} {ws : List Int} (W : Wd h n ws) {p q : Nat} (hp' : p < n) (hq : q < n) :
    dr bs ws p < dr bs ws q ↔ hp ws p < hp ws q ∨ (hp ws p = hp ws q ∧ (if bs.getD (hp ws p) false = true then q < p else p < q)) := by
  have bp := dr_bd (bs := bs) W hp'
  have bq := dr_bd (bs := bs) W hq
  rcases Nat.lt_trichotomy (hp ws p) (hp ws q) with l | l | l
  · have := stt_mono ws (show hp ws p + 1 ≤ hp ws q from l)
    constructor
    · intro _; exact .inl l
    · intro _; omega
  · have k1 := kk_iff W hp' hq l
    have k2 := kk_iff W hq hp' l.symm
    have kp := kk_lt W hp'
    have kq := kk_lt W hq
    unfold dr
    rw [l] at kp ⊢
    split
    · constructor
      · intro z; exact .inr ⟨rfl, k2.mp (by omega)⟩
      · rintro (z | ⟨_, z⟩)
        · omega
        · have := k2.mpr z; omega
    · constructor
      · intro z; exact .inr ⟨rfl, k1.mp (by omega)⟩
      · rintro (z | ⟨_, z⟩)
        · omega
        · have := k1.mpr z; omega
  · have := stt_mono ws (show hp ws q + 1 ≤ hp ws p from l)
    constructor
    · intro z; omega
    · rintro (z | ⟨z, _⟩) <;> omega
theorem cnt_getD {n : Nat} {a : List Int} (h : a.length = n) (P : Int → Bool) : cnt n (fun q => P (a.getD q 0)) = (a.filter P).length := by
  have e : a = (List.range n).map fun q => a.getD q 0 := by
    apply List.ext_getElem?
    intro i
    by_cases hi : i < n
    · rw [List.getElem?_map, List.getElem?_range hi, List.getElem?_eq_getElem (by omega)]
      simp [List.getD, List.getElem?_eq_getElem (show i < a.length by omega)]
    · rw [List.getElem?_eq_none (by omega), List.getElem?_eq_none (by simp; omega)]
  have e2 : (a.filter P).length = (((List.range n).map fun q => a.getD q 0).filter P).length := by rw [← e]
  rw [e2]
  unfold cnt
  induction List.range n with
  | nil => rfl
  | cons x l ih =>
    rw [List.map_cons, List.filter_cons, List.filter_cons]
    split
    · rw [List.length_cons, List.length_cons, ih]
    · exact ih
theorem iota_below (n : Nat) : ∀ c : Nat, c ≤ n → ((iota n).filter fun x => decide (x < (c : Int))).length = c := by
  induction n with
  | zero => intro c h; have : c = 0 := by omega
            subst this; rfl
  | succ n ih =>
    intro c h
    unfold iota at ih ⊢
    rw [List.range_succ, List.map_append, List.filter_append, List.length_append]
    by_cases e : c = n + 1
    · subst e
      have : ((List.range n).map (fun i => ((i : Nat) : Int))).filter (fun x => decide (x < ((n + 1 : Nat) : Int))) = (List.range n).map (fun i => ((i : Nat) : Int)) := by
        rw [List.filter_eq_self]
        intro x hx
        obtain ⟨i, hi, rfl⟩ := List.mem_map.mp hx
        have := List.mem_range.mp hi
        simp
        omega
      have h1 : (([n].map fun i => ((i : Nat) : Int)).filter fun x => decide (x < ((n + 1 : Nat) : Int))) = [((n : Nat) : Int)] := by
        show List.filter _ [((n : Nat) : Int)] = _
        rw [List.filter_cons, if_pos (by rw [decide_eq_true_eq]; omega)]
        rfl
      rw [this, h1, List.length_map, List.length_range]
      rfl
    · rw [ih c (by omega)]
      have : ([n].map (fun i => ((i : Nat) : Int))).filter (fun x => decide (x < (c : Int))) = [] := by
        simp
        omega
      rw [this]
      rfl
theorem ord_rank {n : Nat} {a : List Int} (o : Ord n a) {p : Nat} (h : p < n) : a.getD p 0 = ((cnt n fun q => decide (a.getD q 0 < a.getD p 0) : Nat) : Int) := by
  have b := o.getD_bd h
  rw [cnt_getD o.len (fun x => decide (x < a.getD p 0)), (o.perm.filter _).length_eq]
  have := iota_below n (a.getD p 0).toNat (by omega)
  rw [show (((a.getD p 0).toNat : Nat) : Int) = a.getD p 0 by omega] at this
  omega
/-- an order is told by how its cards lie to one another -/
theorem ord_same {n : Nat} {a b : List Int} (oa : Ord n a) (ob : Ord n b) (h : ∀ p q, p < n → q < n → (a.getD p 0 < a.getD q 0 ↔ b.getD p 0 < b.getD q 0)) : a = b := by
  apply List.ext_getElem?
  intro i
  by_cases hi : i < n
  · have ea : a[i]? = some (a.getD i 0) := by
      rw [List.getElem?_eq_getElem (by rw [oa.len]; exact hi)]
      simp [List.getD, List.getElem?_eq_getElem (show i < a.length by rw [oa.len]; exact hi)]
    have eb : b[i]? = some (b.getD i 0) := by
      rw [List.getElem?_eq_getElem (by rw [ob.len]; exact hi)]
      simp [List.getD, List.getElem?_eq_getElem (show i < b.length by rw [ob.len]; exact hi)]
    rw [ea, eb, ord_rank oa hi, ord_rank ob hi]
    congr 2
    refine cnt_congr fun q hq => ?_
    have := h q i hq hi
    by_cases z : a.getD q 0 < a.getD i 0
    · rw [decide_eq_true z, decide_eq_true (this.mp z)]
    · rw [decide_eq_false z, decide_eq_false fun w => z (this.mpr w)]
  · rw [List.getElem?_eq_none (by rw [oa.len]; omega), List.getElem?_eq_none (by rw [ob.len]; omega)]
theorem drawn_getD {n h : Nat} {bs : List Bool} {ws : List Int} (W : Wd h n ws) {p : Nat} (hp' : p < n) : (drawn bs ws).getD p 0 = ((dr bs ws p : Nat) : Int) := by
  have : p < ws.length := by rw [W.len]; exact hp'
  simp [drawn, List.getD, this]
/-- the joined word -/
def jw (ms os : List Bool) (w1 w2 : List Int) : List Int :=
  (List.range w2.length).map fun p => (((hp w1 (dr os w2 p)) * os.length + see (ms.getD (hp w1 (dr os w2 p)) false) os.length (hp w2 p) : Nat) : Int)
end M
namespace M
theorem wy_anti {bs : List Bool} {ab : Bool} {r : List Bool} : ∀ {k h h' : Nat}, h' - h = k → h ≤ h' → wy bs (ab :: r) h' ≤ wy bs (ab :: r) h
  | 0, h, h', e, l => by have : h = h' := by omega
                         subst this; exact Nat.le_refl _
  | k + 1, h, h', e, l => by
    have ih := wy_anti (bs := bs) (ab := ab) (r := r) (k := k) (h := h + 1) (h' := h') (by omega) (by omega)
    by_cases q : h < bs.length
    · rw [wy_step q]; omega
    · rw [wy_stop (h := h') (by omega)]; exact Nat.zero_le _
/-- the first h from there on that has P -/
def fnd (P : Nat → Bool) : Nat → Nat → Nat
  | 0, h => h
  | k + 1, h => if P h = true then h else fnd P k (h + 1)
theorem fnd_spec {P : Nat → Bool} : ∀ {k h x : Nat}, h ≤ x → x < h + k → P x = true → h ≤ fnd P k h ∧ fnd P k h < h + k ∧ P (fnd P k h) = true ∧ ∀ y, h ≤ y → y < fnd P k h → P y = false
  | 0, h, x, h1, h2, _ => by omega
  | k + 1, h, x, h1, h2, hp => by
    unfold fnd
    by_cases q : P h = true
    · rw [if_pos q]
      exact ⟨Nat.le_refl _, by omega, q, fun y a b => by omega⟩
    · rw [if_neg q]
      have hx : h + 1 ≤ x := by
        rcases Nat.lt_or_ge h x with z | z
        · exact z
        · have : h = x := by omega
          subst this
          exact absurd hp q
      obtain ⟨a, b, c, d⟩ := fnd_spec (P := P) (k := k) (h := h + 1) hx (by omega) hp
      refine ⟨by omega, by omega, c, fun y y1 y2 => ?_⟩
      by_cases z : y = h
      · subst z; exact Bool.eq_false_iff.mpr q
      · exact d y (by omega) y2
/-- the heap of the next card, of the way of number k from heap l on -/
def nxt (bs av : List Bool) (l k : Nat) : Nat := fnd (fun h => decide (k < wy bs av l - wy bs av (h + 1))) (bs.length - l) l
theorem nxt_spec {bs : List Bool} {ab : Bool} {r : List Bool} {l k : Nat} (h : k < wy bs (ab :: r) l) :
    l ≤ nxt bs (ab :: r) l k ∧ nxt bs (ab :: r) l k < bs.length ∧ wy bs (ab :: r) l - wy bs (ab :: r) (nxt bs (ab :: r) l k) ≤ k ∧ k < wy bs (ab :: r) l - wy bs (ab :: r) (nxt bs (ab :: r) l k + 1) := by
  have hl : l < bs.length := by
    rcases Nat.lt_or_ge l bs.length with z | z
    · exact z
    · rw [wy_stop z] at h; omega
  have hp : (fun h => decide (k < wy bs (ab :: r) l - wy bs (ab :: r) (h + 1))) (bs.length - 1) = true := by
    show decide _ = true
    rw [decide_eq_true_eq, wy_stop (h := bs.length - 1 + 1) (by omega)]
    omega
  obtain ⟨a, b, c, d⟩ := fnd_spec (P := fun h => decide (k < wy bs (ab :: r) l - wy bs (ab :: r) (h + 1))) (k := bs.length - l) (h := l) (x := bs.length - 1) (by omega) (by omega) hp
  have e : fnd (fun h => decide (k < wy bs (ab :: r) l - wy bs (ab :: r) (h + 1))) (bs.length - l) l = nxt bs (ab :: r) l k := rfl
  rw [e] at a b c d
  refine ⟨a, by omega, ?_, by simpa using c⟩
  by_cases z : nxt bs (ab :: r) l k = l
  · rw [z]; omega
  · have := d (nxt bs (ab :: r) l k - 1) (by omega) (by omega)
    rw [decide_eq_false_iff_not, show nxt bs (ab :: r) l k - 1 + 1 = nxt bs (ab :: r) l k by omega] at this
    omega
/-- the heaps of the cards, of the way of number k -/
def wayH (bs : List Bool) : List Bool → Nat → Nat → List Nat
  | [], _, _ => []
  | ab :: r, l, k => nxt bs (ab :: r) l k :: wayH bs r (lf ab bs (nxt bs (ab :: r) l k)) (k - (wy bs (ab :: r) l - wy bs (ab :: r) (nxt bs (ab :: r) l k)))
theorem wayH_length (bs : List Bool) : ∀ (av : List Bool) (l k : Nat), (wayH bs av l k).length = av.length
  | [], _, _ => rfl
  | ab :: r, l, k => by show (wayH bs r _ _).length + 1 = _; rw [wayH_length bs r]; rfl
theorem left_lt {bs : List Bool} {ab : Bool} {r : List Bool} {l k : Nat} (h : k < wy bs (ab :: r) l) :
    k - (wy bs (ab :: r) l - wy bs (ab :: r) (nxt bs (ab :: r) l k)) < wy bs r (lf ab bs (nxt bs (ab :: r) l k)) := by
  obtain ⟨a, b, c, d⟩ := nxt_spec h
  have st := wy_step (bs := bs) (ab := ab) (r := r) b
  have an := wy_anti (bs := bs) (ab := ab) (r := r) rfl a
  omega
/-- heaps card by card that make a way -/
def Gd (bs : List Bool) : List Bool → Nat → List Nat → Prop
  | [], _, [] => True
  | ab :: r, l, h :: t => l ≤ h ∧ h < bs.length ∧ Gd bs r (lf ab bs h) t
  | _, _, _ => False
theorem gd_way (bs : List Bool) : ∀ (av : List Bool) (l k : Nat), k < wy bs av l → Gd bs av l (wayH bs av l k)
  | [], _, _, _ => True.intro
  | ab :: r, l, k, h => by
    obtain ⟨a, b, c, d⟩ := nxt_spec h
    exact ⟨a, b, gd_way bs r _ _ (left_lt h)⟩
theorem gd_len {bs : List Bool} : ∀ {av : List Bool} {l : Nat} {hs : List Nat}, Gd bs av l hs → hs.length = av.length
  | [], _, [], _ => rfl
  | ab :: r, l, h :: t, g => by show t.length + 1 = r.length + 1; rw [gd_len g.2.2]
  | [], _, _ :: _, g => g.elim
  | _ :: _, _, [], g => g.elim
theorem gd_lt {bs : List Bool} : ∀ {av : List Bool} {l : Nat} {hs : List Nat}, Gd bs av l hs → ∀ h ∈ hs, h < bs.length
  | [], _, [], _, h, hh => by cases hh
  | ab :: r, l, x :: t, g, h, hh => by
    rcases List.mem_cons.mp hh with rfl | hh
    · exact g.2.1
    · exact gd_lt g.2.2 h hh
  | [], _, _ :: _, g, _, _ => g.elim
  | _ :: _, _, [], g, _, _ => g.elim
theorem gd_step {bs : List Bool} : ∀ {av : List Bool} {l : Nat} {hs : List Nat}, Gd bs av l hs → ∀ c, c + 1 < av.length → lf (av.getD c false) bs (hs.getD c 0) ≤ hs.getD (c + 1) 0
  | [], _, [], _, c, hc => by simp at hc
  | [_], _, _ :: _, g, c, hc => by simp at hc
  | x :: y :: r, l, h :: h2 :: t, g, c, hc => by
    cases c with
    | zero => exact g.2.2.1
    | succ c => exact gd_step g.2.2 c (by simp at hc ⊢; omega)
  | _ :: _ :: _, _, [_], g, _, _ => g.2.2.elim
  | [], _, _ :: _, g, _, _ => g.elim
  | _ :: _, _, [], g, _, _ => g.elim
theorem gd_of {bs : List Bool} : ∀ {av : List Bool} {l : Nat} {hs : List Nat}, hs.length = av.length → (∀ h ∈ hs, h < bs.length) → (∀ c, c + 1 < av.length → lf (av.getD c false) bs (hs.getD c 0) ≤ hs.getD (c + 1) 0) → (av ≠ [] → l ≤ hs.getD 0 0) → Gd bs av l hs
  | [], _, [], _, _, _, _ => True.intro
  | [], _, _ :: _, e, _, _, _ => by simp at e
  | _ :: _, _, [], e, _, _, _ => by simp at e
  | ab :: r, l, h :: t, e, b, s, z => by
    refine ⟨z (by simp), b h (by simp), gd_of (by simpa using e) (fun x hx => b x (by simp [hx])) (fun c hc => ?_) fun hr => ?_⟩
    · exact s (c + 1) (by simp at hc ⊢; omega)
    · cases r with
      | nil => exact absurd rfl hr
      | cons y r => exact s 0 (by simp)
/-- the number of a way -/
def num (bs : List Bool) : List Bool → Nat → List Nat → Nat
  | ab :: r, l, h :: t => (wy bs (ab :: r) l - wy bs (ab :: r) h) + num bs r (lf ab bs h) t
  | _, _, _ => 0
theorem num_lt {bs : List Bool} : ∀ {av : List Bool} {l : Nat} {hs : List Nat}, Gd bs av l hs → num bs av l hs < wy bs av l
  | [], _, [], _ => Nat.one_pos
  | ab :: r, l, h :: t, g => by
    have ih := num_lt g.2.2
    have st := wy_step (bs := bs) (ab := ab) (r := r) g.2.1
    have an := wy_anti (bs := bs) (ab := ab) (r := r) rfl g.1
    show (wy bs (ab :: r) l - wy bs (ab :: r) h) + num bs r (lf ab bs h) t < _
    omega
  | [], _, _ :: _, g => g.elim
  | _ :: _, _, [], g => g.elim
theorem nxt_uniq {bs : List Bool} {ab : Bool} {r : List Bool} {l k h : Nat} (g1 : l ≤ h) (g2 : h < bs.length) (g3 : wy bs (ab :: r) l - wy bs (ab :: r) h ≤ k) (g4 : k < wy bs (ab :: r) l - wy bs (ab :: r) (h + 1)) : nxt bs (ab :: r) l k = h := by
  have hk : k < wy bs (ab :: r) l := by omega
  obtain ⟨a, b, c, d⟩ := nxt_spec hk
  rcases Nat.lt_trichotomy (nxt bs (ab :: r) l k) h with z | z | z
  · have an := wy_anti (bs := bs) (ab := ab) (r := r) rfl (show nxt bs (ab :: r) l k + 1 ≤ h from z)
    omega
  · exact z
  · have an := wy_anti (bs := bs) (ab := ab) (r := r) rfl (show h + 1 ≤ nxt bs (ab :: r) l k from z)
    omega
theorem way_num {bs : List Bool} : ∀ {av : List Bool} {l : Nat} {hs : List Nat}, Gd bs av l hs → wayH bs av l (num bs av l hs) = hs
  | [], _, [], _ => rfl
  | ab :: r, l, h :: t, g => by
    have lt := num_lt g.2.2
    have st := wy_step (bs := bs) (ab := ab) (r := r) g.2.1
    have an := wy_anti (bs := bs) (ab := ab) (r := r) rfl g.1
    have e : nxt bs (ab :: r) l (num bs (ab :: r) l (h :: t)) = h := by
      refine nxt_uniq g.1 g.2.1 ?_ ?_
      · show _ ≤ (wy bs (ab :: r) l - wy bs (ab :: r) h) + num bs r (lf ab bs h) t; omega
      · show (wy bs (ab :: r) l - wy bs (ab :: r) h) + num bs r (lf ab bs h) t < _; omega
    show nxt bs (ab :: r) l (num bs (ab :: r) l (h :: t)) :: wayH bs r (lf ab bs (nxt bs (ab :: r) l (num bs (ab :: r) l (h :: t)))) (num bs (ab :: r) l (h :: t) - (wy bs (ab :: r) l - wy bs (ab :: r) (nxt bs (ab :: r) l (num bs (ab :: r) l (h :: t))))) = _
    rw [e]
    congr 1
    have e2 : num bs (ab :: r) l (h :: t) - (wy bs (ab :: r) l - wy bs (ab :: r) h) = num bs r (lf ab bs h) t := by
      show (wy bs (ab :: r) l - wy bs (ab :: r) h) + num bs r (lf ab bs h) t - _ = _
      omega
    rw [e2]
    exact way_num g.2.2
  | [], _, _ :: _, g => g.elim
  | _ :: _, _, [], g => g.elim
theorem num_way (bs : List Bool) : ∀ (av : List Bool) (l k : Nat), k < wy bs av l → num bs av l (wayH bs av l k) = k
  | [], _, k, h => by have : k = 0 := by have h : k < 1 := h; omega
                      subst this; rfl
  | ab :: r, l, k, h => by
    obtain ⟨a, b, c, d⟩ := nxt_spec h
    have ih := num_way bs r _ _ (left_lt h)
    show (wy bs (ab :: r) l - wy bs (ab :: r) (nxt bs (ab :: r) l k)) + num bs r _ (wayH bs r _ _) = k
    rw [ih]
    omega
/-- a later number, a way that comes behind -/
theorem way_lex (bs : List Bool) : ∀ (av : List Bool) (l k k' : Nat), k < k' → k' < wy bs av l → ∃ j, j < av.length ∧ (∀ m, m < j → (wayH bs av l k').getD m 0 = (wayH bs av l k).getD m 0) ∧ (wayH bs av l k).getD j 0 < (wayH bs av l k').getD j 0
  | [], _, k, k', h, h' => by have h' : k' < 1 := h'; omega
  | ab :: r, l, k, k', h, h' => by
    have hk : k < wy bs (ab :: r) l := by omega
    obtain ⟨a, b, c, d⟩ := nxt_spec hk
    obtain ⟨a', b', c', d'⟩ := nxt_spec h'
    rcases Nat.lt_trichotomy (nxt bs (ab :: r) l k) (nxt bs (ab :: r) l k') with z | z | z
    · exact ⟨0, by simp, fun m hm => by omega, z⟩
    · have lk := left_lt hk
      have lk' := left_lt h'
      rw [← z] at lk' c'
      obtain ⟨j, j1, j2, j3⟩ := way_lex bs r (lf ab bs (nxt bs (ab :: r) l k)) (k - (wy bs (ab :: r) l - wy bs (ab :: r) (nxt bs (ab :: r) l k))) (k' - (wy bs (ab :: r) l - wy bs (ab :: r) (nxt bs (ab :: r) l k))) (by omega) lk'
      refine ⟨j + 1, by simpa using j1, fun m hm => ?_, ?_⟩
      · cases m with
        | zero => exact z.symm
        | succ m =>
          have := j2 m (by omega)
          show (wayH bs r (lf ab bs (nxt bs (ab :: r) l k')) (k' - (wy bs (ab :: r) l - wy bs (ab :: r) (nxt bs (ab :: r) l k')))).getD m 0 = _
          rw [← z]
          exact this
      · show _ < (wayH bs r (lf ab bs (nxt bs (ab :: r) l k')) (k' - (wy bs (ab :: r) l - wy bs (ab :: r) (nxt bs (ab :: r) l k')))).getD j 0
        rw [← z]
        exact j3
    · have an := wy_anti (bs := bs) (ab := ab) (r := r) rfl (show nxt bs (ab :: r) l k' + 1 ≤ nxt bs (ab :: r) l k from z)
      omega
end M
namespace M
/-- the word that has the heaps by cards -/
def wo (ns : List Int) (hs : List Nat) : List Int := ns.map fun c => ((hs.getD c.toNat 0 : Nat) : Int)
theorem wo_length (ns : List Int) (hs : List Nat) : (wo ns hs).length = ns.length := by simp [wo]
theorem wo_getD {ns : List Int} {hs : List Nat} {p : Nat} (h : p < ns.length) : (wo ns hs).getD p 0 = ((hs.getD (ns.getD p 0).toNat 0 : Nat) : Int) := by
  simp [wo, List.getD, h]
theorem wo_hp {ns : List Int} {hs : List Nat} {p : Nat} (h : p < ns.length) : hp (wo ns hs) p = hs.getD (ns.getD p 0).toNat 0 := by
  unfold hp
  rw [wo_getD h, Int.toNat_natCast]
theorem wo_wd {n : Nat} {bs : List Bool} {ns : List Int} {hs : List Nat} (o : Ord n ns) (hl : hs.length = n) (hb : ∀ h ∈ hs, h < bs.length) : Wd bs.length n (wo ns hs) where
  len := by rw [wo_length, o.len]
  bd := by
    intro x hx
    obtain ⟨c, hc, rfl⟩ := List.mem_map.mp hx
    have b := o.bd c hc
    have hlt : c.toNat < hs.length := by omega
    have e : hs.getD c.toNat 0 = hs[c.toNat] := by simp [List.getD, List.getElem?_eq_getElem hlt]
    have := hb _ (List.getElem_mem hlt)
    rw [e]
    omega
theorem abv_getD {n c : Nat} {ns : List Int} (h : c + 1 < n) : (abv n ns).getD c false = decide (pos ns c < pos ns (c + 1)) := by
  unfold abv
  rw [List.getD, List.getElem?_append_left (by simp; omega), List.getElem?_map, List.getElem?_range (by omega), Option.map_some, Option.getD_some, plc_getD (by omega), plc_getD (by omega)]
  by_cases q : pos ns c < pos ns (c + 1)
  · rw [decide_eq_true q, decide_eq_true (by omega)]
  · rw [decide_eq_false q, decide_eq_false (by omega)]
theorem step_in {n : Nat} {bs : List Bool} {ns : List Int} {hs : List Nat} (o : Ord n ns) (h1 : 1 ≤ n) (g : Gd bs (abv n ns) 0 hs) {c : Nat} (hc : c + 1 < n) :
    hs.getD c 0 ≤ hs.getD (c + 1) 0 ∧ (hs.getD c 0 = hs.getD (c + 1) 0 → (bs.getD (hs.getD c 0) false = false → pos ns c < pos ns (c + 1)) ∧ (bs.getD (hs.getD c 0) false = true → pos ns (c + 1) < pos ns c)) := by
  have s := gd_step g c (by rw [abv_length ns h1]; exact hc)
  rw [abv_getD hc] at s
  have ne := pos_ne_succ o hc
  unfold lf at s
  by_cases q : pos ns c < pos ns (c + 1)
  · rw [decide_eq_true q] at s
    cases hb : bs.getD (hs.getD c 0) false
    · rw [hb, if_pos (by decide)] at s
      exact ⟨s, fun _ => ⟨fun _ => q, fun z => (by cases z)⟩⟩
    · rw [hb, if_neg (by decide)] at s
      exact ⟨by omega, fun z => by omega⟩
  · rw [decide_eq_false q] at s
    cases hb : bs.getD (hs.getD c 0) false
    · rw [hb, if_neg (by decide)] at s
      exact ⟨by omega, fun z => by omega⟩
    · rw [hb, if_pos (by decide)] at s
      exact ⟨s, fun _ => ⟨fun z => (by cases z), fun _ => by omega⟩⟩
theorem chain_in {n : Nat} {bs : List Bool} {ns : List Int} {hs : List Nat} (o : Ord n ns) (h1 : 1 ≤ n) (g : Gd bs (abv n ns) 0 hs) {c : Nat} : ∀ {e : Nat}, c + (e + 1) < n →
    hs.getD c 0 ≤ hs.getD (c + (e + 1)) 0 ∧ (hs.getD c 0 = hs.getD (c + (e + 1)) 0 → (bs.getD (hs.getD c 0) false = false → pos ns c < pos ns (c + (e + 1))) ∧ (bs.getD (hs.getD c 0) false = true → pos ns (c + (e + 1)) < pos ns c))
  | 0, he => step_in o h1 g he
  | e + 1, he => by
    obtain ⟨a1, a2⟩ := chain_in o h1 g (c := c) (e := e) (by omega)
    obtain ⟨b1, b2⟩ := step_in o h1 g (c := c + (e + 1)) (by omega)
    rw [show c + (e + 1 + 1) = c + (e + 1) + 1 by omega]
    refine ⟨by omega, fun z => ?_⟩
    have z1 : hs.getD c 0 = hs.getD (c + (e + 1)) 0 := by omega
    obtain ⟨p1, p2⟩ := a2 z1
    obtain ⟨q1, q2⟩ := b2 (by omega)
    rw [← z1] at q1 q2
    exact ⟨fun w => by have := p1 w; have := q1 w; omega, fun w => by have := p2 w; have := q2 w; omega⟩
theorem both_in {n : Nat} {bs : List Bool} {ns : List Int} {hs : List Nat} (o : Ord n ns) (h1 : 1 ≤ n) (g : Gd bs (abv n ns) 0 hs) {c d : Nat} (hcd : c < d) (hd : d < n) :
    hs.getD c 0 ≤ hs.getD d 0 ∧ (hs.getD c 0 = hs.getD d 0 → (bs.getD (hs.getD c 0) false = false → pos ns c < pos ns d) ∧ (bs.getD (hs.getD c 0) false = true → pos ns d < pos ns c)) := by
  obtain ⟨e, rfl⟩ : ∃ e, d = c + (e + 1) := ⟨d - c - 1, by omega⟩
  exact chain_in o h1 g hd
theorem pos_at {n : Nat} {ns : List Int} (o : Ord n ns) {p : Nat} (h : p < n) : pos ns (ns.getD p 0).toNat = p := by
  have b := o.getD_bd h
  unfold pos
  rw [show (((ns.getD p 0).toNat : Nat) : Int) = ns.getD p 0 by omega]
  refine idx_of_get o ?_
  rw [List.getElem?_eq_getElem (by rw [o.len]; exact h)]
  simp [List.getD, List.getElem?_eq_getElem (show p < ns.length by rw [o.len]; exact h)]
/-- heaps that make a way lead to the order -/
theorem leads {n : Nat} {bs : List Bool} {ns : List Int} {hs : List Nat} (o : Ord n ns) (h1 : 1 ≤ n) (g : Gd bs (abv n ns) 0 hs) : drawn bs (wo ns hs) = ns := by
  have hl : hs.length = n := by rw [gd_len g, abv_length ns h1]
  have W := wo_wd o hl (gd_lt g)
  refine ord_same (ord_drawn W) o fun p q hp' hq => ?_
  rw [drawn_getD W hp', drawn_getD W hq]
  have i := dr_iff (bs := bs) W hp' hq
  rw [wo_hp (by rw [o.len]; exact hp'), wo_hp (by rw [o.len]; exact hq)] at i
  have bp := o.getD_bd hp'
  have bq := o.getD_bd hq
  have pp := pos_at o hp'
  have pq := pos_at o hq
  have k1 : (ns.getD p 0 < ns.getD q 0) ↔ (ns.getD p 0).toNat < (ns.getD q 0).toNat := by omega
  rw [k1]
  have cb : (ns.getD p 0).toNat < n := by omega
  have db : (ns.getD q 0).toNat < n := by omega
  generalize (ns.getD p 0).toNat = c at *
  generalize (ns.getD q 0).toNat = d at *
  generalize dr bs (wo ns hs) p = D at *
  generalize dr bs (wo ns hs) q = D' at *
  have main : D < D' ↔ c < d := by
    rw [i]
    rcases Nat.lt_trichotomy c d with z | z | z
    · obtain ⟨a1, a2⟩ := both_in o h1 g z db
      constructor
      · intro _; exact z
      · intro _
        by_cases e : hs.getD c 0 = hs.getD d 0
        · obtain ⟨q1, q2⟩ := a2 e
          rw [pp, pq] at q1 q2
          cases hb : bs.getD (hs.getD c 0) false
          · exact .inr ⟨e, by simpa using q1 hb⟩
          · exact .inr ⟨e, by simpa using q2 hb⟩
        · exact .inl (by omega)
    · subst z
      have : p = q := by rw [← pp, ← pq]
      subst this
      constructor
      · rintro (w | ⟨_, w⟩)
        · omega
        · split at w <;> omega
      · intro w; omega
    · obtain ⟨a1, a2⟩ := both_in o h1 g z cb
      constructor
      · rintro (w | ⟨e, w⟩)
        · omega
        · obtain ⟨q1, q2⟩ := a2 e.symm
          rw [pp, pq] at q1 q2
          rw [← e] at q1 q2
          split at w
          · rename_i hb
            have := q2 hb; omega
          · rename_i hb
            have := q1 (Bool.eq_false_iff.mpr hb); omega
      · intro w; omega
  omega
/-- the heaps of the cards of a word -/
def heapsOf (n : Nat) (ns ws : List Int) : List Nat := (List.range n).map fun c => hp ws (pos ns c)
theorem heapsOf_getD {n c : Nat} {ns ws : List Int} (h : c < n) : (heapsOf n ns ws).getD c 0 = hp ws (pos ns c) := by simp [heapsOf, List.getD, h]
theorem dr_pos {n h : Nat} {bs : List Bool} {ns ws : List Int} (W : Wd h n ws) (o : Ord n ns) (e : drawn bs ws = ns) {c : Nat} (hc : c < n) : dr bs ws (pos ns c) = c := by
  have hp' : pos ns c < n := idx_lt o (by omega) (by omega)
  have g := getElem_idx o (c := (c : Int)) (by omega) (by omega)
  have d := drawn_getD (bs := bs) W hp'
  rw [e, List.getD] at d
  unfold pos at d ⊢
  rw [g] at d
  have : ((c : Nat) : Int) = ((dr bs ws (ns.idxOf (c : Int)) : Nat) : Int) := d
  omega
/-- a word that leads to the order has heaps that make a way -/
theorem leads_back {n : Nat} {bs : List Bool} {ns ws : List Int} (h1 : 1 ≤ n) (W : Wd bs.length n ws) (e : drawn bs ws = ns) : Gd bs (abv n ns) 0 (heapsOf n ns ws) := by
  have o : Ord n ns := by rw [← e]; exact ord_drawn W
  refine gd_of (by rw [abv_length ns h1]; simp [heapsOf]) (fun h hh => ?_) (fun c hc => ?_) fun _ => Nat.zero_le _
  · obtain ⟨c, hc, rfl⟩ := List.mem_map.mp hh
    have := List.mem_range.mp hc
    exact (hp_cast W (idx_lt o (c := (c : Int)) (by omega) (by omega))).2
  · rw [abv_length ns h1] at hc
    rw [abv_getD hc, heapsOf_getD (by omega), heapsOf_getD hc]
    have p1 : pos ns c < n := idx_lt o (by omega) (by omega)
    have p2 : pos ns (c + 1) < n := idx_lt o (by omega) (by omega)
    have i := dr_iff (bs := bs) W p1 p2
    rw [dr_pos W o e (by omega), dr_pos W o e hc] at i
    have ne := pos_ne_succ o hc
    rcases i.mp (by omega) with z | ⟨z, w⟩
    · unfold lf; split <;> omega
    · unfold lf
      split at w
      · rename_i hb
        rw [hb, decide_eq_false (by omega), if_pos (by decide)]
        omega
      · rename_i hb
        rw [Bool.eq_false_iff.mpr hb, decide_eq_true w, if_pos (by decide)]
        omega
theorem wo_heaps {n h : Nat} {ns ws : List Int} (o : Ord n ns) (W : Wd h n ws) : wo ns (heapsOf n ns ws) = ws := by
  apply List.ext_getElem?
  intro i
  by_cases hi : i < n
  · have b := o.getD_bd hi
    have e1 : (wo ns (heapsOf n ns ws))[i]? = some ((wo ns (heapsOf n ns ws)).getD i 0) := by
      rw [List.getElem?_eq_getElem (by rw [wo_length, o.len]; exact hi)]
      simp [List.getD, List.getElem?_eq_getElem (show i < (wo ns (heapsOf n ns ws)).length by rw [wo_length, o.len]; exact hi)]
    have e2 : ws[i]? = some (ws.getD i 0) := by
      rw [List.getElem?_eq_getElem (by rw [W.len]; exact hi)]
      simp [List.getD, List.getElem?_eq_getElem (show i < ws.length by rw [W.len]; exact hi)]
    rw [e1, e2, wo_getD (by rw [o.len]; exact hi), heapsOf_getD (by omega), pos_at o hi, (hp_cast W hi).1]
  · rw [List.getElem?_eq_none (by rw [wo_length, o.len]; omega), List.getElem?_eq_none (by rw [W.len]; omega)]
theorem heaps_wo {n : Nat} {ns : List Int} {hs : List Nat} (o : Ord n ns) (hl : hs.length = n) : heapsOf n ns (wo ns hs) = hs := by
  apply List.ext_getElem?
  intro c
  by_cases hc : c < n
  · have p1 : pos ns c < n := idx_lt o (by omega) (by omega)
    have g := getElem_idx o (c := (c : Int)) (by omega) (by omega)
    have e1 : (heapsOf n ns (wo ns hs))[c]? = some ((heapsOf n ns (wo ns hs)).getD c 0) := by
      rw [List.getElem?_eq_getElem (by simp [heapsOf]; exact hc)]
      simp [List.getD, List.getElem?_eq_getElem (show c < (heapsOf n ns (wo ns hs)).length by simp [heapsOf]; exact hc)]
    have e2 : hs[c]? = some (hs.getD c 0) := by
      rw [List.getElem?_eq_getElem (by omega)]
      simp [List.getD, List.getElem?_eq_getElem (show c < hs.length by omega)]
    have e3 : ns.getD (pos ns c) 0 = (c : Int) := by unfold pos; rw [List.getD, g]; rfl
    rw [e1, e2, heapsOf_getD hc, wo_hp (by rw [o.len]; exact p1), e3, Int.toNat_natCast]
  · rw [List.getElem?_eq_none (by simp [heapsOf]; omega), List.getElem?_eq_none (by omega)]
end M
namespace M
theorem nxt_min {bs : List Bool} {ab : Bool} {r : List Bool} {l k y : Nat} (h : k < wy bs (ab :: r) l) (h1 : l ≤ y) (h2 : y ≤ nxt bs (ab :: r) l k) : (((wy bs (ab :: r) l : Nat) : Int) - ((wy bs (ab :: r) (y + 1) : Nat) : Int) ≤ (k : Int)) ↔ y < nxt bs (ab :: r) l k := by
  obtain ⟨a, b, c, d⟩ := nxt_spec h
  have an := wy_anti (bs := bs) (ab := ab) (r := r) rfl (show l ≤ y + 1 by omega)
  constructor
  · intro z
    rcases Nat.lt_or_ge y (nxt bs (ab :: r) l k) with w | w
    · exact w
    · have : y = nxt bs (ab :: r) l k := by omega
      subst this
      omega
  · intro z
    have an2 := wy_anti (bs := bs) (ab := ab) (r := r) rfl (show y + 1 ≤ nxt bs (ab :: r) l k from z)
    omega
theorem lay_wo (ns : List Int) (hs : List Nat) : lay (hs.map fun h => ((h : Nat) : Int)) ns = wo ns hs := by
  unfold lay wo
  refine List.map_congr_left fun c _ => ?_
  by_cases h : c.toNat < hs.length
  · simp [List.getD, h]
  · simp [List.getD, h]
/-- by cards, as far as the first i places tell -/
def byc (n : Nat) (ns ws : List Int) (i : Nat) : List Int := (List.range n).map fun c => if ((c : Nat) : Int) ∈ ns.take i then ws.getD (ns.idxOf ((c : Nat) : Int)) 0 else 0
theorem byc_length (n : Nat) (ns ws : List Int) (i : Nat) : (byc n ns ws i).length = n := by simp [byc]
theorem byc_zero (n : Nat) (ns ws : List Int) : byc n ns ws 0 = List.replicate n 0 := by
  apply List.ext_getElem?
  intro i
  by_cases h : i < n <;> simp [byc, h]
theorem byc_all {n : Nat} {ns ws : List Int} (o : Ord n ns) : byc n ns ws n = (List.range n).map fun c => ws.getD (pos ns c) 0 := by
  unfold byc pos
  refine List.map_congr_left fun c hc => ?_
  have := List.mem_range.mp hc
  rw [List.take_of_length_le (by rw [o.len]; exact Nat.le_refl _), if_pos (o.has (by omega) (by omega))]
theorem byc_succ {n : Nat} {ns ws : List Int} (o : Ord n ns) {i : Nat} {c : Int} (h : ns[i]? = some c) : (byc n ns ws i).set c.toNat (ws.getD i 0) = byc n ns ws (i + 1) := by
  have b := o.bd c (List.mem_of_getElem? h)
  have ei := idx_of_get o h
  apply List.ext_getElem?
  intro j
  by_cases hj : j < n
  · by_cases e : c.toNat = j
    · rw [e, List.getElem?_set_self (by rw [byc_length]; exact hj)]
      have ec : ((j : Nat) : Int) = c := by omega
      simp only [byc, List.getElem?_map, List.getElem?_range hj, Option.map_some]
      rw [ec, if_pos (by rw [List.take_succ, h]; simp), ei]
    · rw [List.getElem?_set_ne e]
      simp only [byc, List.getElem?_map, List.getElem?_range hj, Option.map_some]
      have : (((j : Nat) : Int) ∈ ns.take (i + 1)) ↔ (((j : Nat) : Int) ∈ ns.take i) := by
        rw [List.take_succ, h]
        simp
        intro z
        omega
      by_cases q : ((j : Nat) : Int) ∈ ns.take i
      · rw [if_pos q, if_pos (this.mpr q)]
      · rw [if_neg q, if_neg fun w => q (this.mp w)]
  · rw [List.getElem?_eq_none (by rw [List.length_set, byc_length]; omega), List.getElem?_eq_none (by rw [byc_length]; omega)]
/-- by cards: the heaps of a way's word -/
theorem byc_wo {n : Nat} {ns : List Int} {hs : List Nat} (o : Ord n ns) (hl : hs.length = n) : ((List.range n).map fun c => (wo ns hs).getD (pos ns c) 0) = hs.map fun h => ((h : Nat) : Int) := by
  apply List.ext_getElem?
  intro c
  by_cases hc : c < n
  · have p1 : pos ns c < n := idx_lt o (by omega) (by omega)
    have g := getElem_idx o (c := (c : Int)) (by omega) (by omega)
    have e3 : ns.getD (pos ns c) 0 = (c : Int) := by unfold pos; rw [List.getD, g]; rfl
    rw [List.getElem?_map, List.getElem?_range hc, Option.map_some, wo_getD (by rw [o.len]; exact p1), e3, Int.toNat_natCast, List.getElem?_map, List.getElem?_eq_getElem (by omega)]
    simp [List.getD, List.getElem?_eq_getElem (show c < hs.length by omega)]
  · rw [List.getElem?_eq_none (by simp; omega), List.getElem?_eq_none (by simp; omega)]
end M
namespace M
end M
set_option linter.all false
namespace M
def fir (b : Nat) (w : List Int) : List Int := w.map fun x => x / (b : Int)
def mor (ms os : List Bool) (w : List Int) : List Int := w.map fun x => ((see (ms.getD (x / (os.length : Int)).toNat false) os.length (x % (os.length : Int)).toNat : Nat) : Int)
end M
/-! all words, and how many pairs of words lead to an order -/
set_option maxHeartbeats 2000000
namespace M
/-- all words of n cards and b heaps -/
def allw (b : Nat) : Nat → List (List Int)
  | 0 => [[]]
  | n + 1 => (allw b n).flatMap fun w => (List.range b).map fun i => w ++ [((i : Nat) : Int)]
theorem mem_allw {b : Nat} : ∀ {n : Nat} {w : List Int}, w ∈ allw b n ↔ Wd b n w
  | 0, w => by
    unfold allw
    rw [List.mem_singleton]
    exact ⟨fun e => by subst e; exact ⟨rfl, fun x hx => by cases hx⟩, fun W => List.length_eq_zero_iff.mp W.len⟩
  | n + 1, w => by
    unfold allw
    rw [List.mem_flatMap]
    constructor
    · rintro ⟨v, hv, hw⟩
      rw [List.mem_map] at hw
      obtain ⟨i, hi, rfl⟩ := hw
      have V := mem_allw.mp hv
      have hi := List.mem_range.mp hi
      refine ⟨by rw [List.length_append, V.len]; rfl, fun x hx => ?_⟩
      rcases List.mem_append.mp hx with z | z
      · exact V.bd x z
      · rw [List.mem_singleton] at z
        omega
    · intro W
      have hne : w ≠ [] := fun e => by have := W.len; rw [e] at this; cases this
      have hl := W.bd _ (List.getLast_mem hne)
      refine ⟨w.dropLast, mem_allw.mpr ⟨by rw [List.length_dropLast, W.len]; rfl, fun x hx => W.bd x (by rw [List.dropLast_eq_take] at hx; exact List.mem_of_mem_take hx)⟩, ?_⟩
      rw [List.mem_map]
      refine ⟨(w.getLast hne).toNat, List.mem_range.mpr (by omega), ?_⟩
      rw [Int.toNat_of_nonneg hl.1]
      exact List.dropLast_concat_getLast hne
theorem nd_allw (b : Nat) : ∀ n : Nat, (allw b n).Nodup
  | 0 => by unfold allw; simp
  | n + 1 => by
    unfold allw
    refine List.pairwise_flatMap.mpr ⟨fun w _ => ?_, ?_⟩
    · refine List.pairwise_map.mpr (List.nodup_range.imp fun {i j} h e => ?_)
      have := List.append_cancel_left e
      simp at this
      omega
    · refine (nd_allw b n).imp fun {v w} h x hx y hy e => ?_
      rw [List.mem_map] at hx hy
      obtain ⟨i, _, rfl⟩ := hx
      obtain ⟨j, _, rfl⟩ := hy
      exact h (List.append_inj_left' e rfl)
theorem allw_length (b : Nat) : ∀ n : Nat, (allw b n).length = b ^ n
  | 0 => rfl
  | n + 1 => by
    unfold allw
    rw [List.length_flatMap]
    simp only [List.length_map, List.length_range]
    rw [List.map_const', List.sum_replicate_nat, allw_length b n, Nat.pow_succ]
/-- all pairs of words -/
def pairsW (n a b : Nat) : List (List Int × List Int) := (allw a n).flatMap fun v => (allw b n).map fun w => (v, w)
/-- the order that two riffles lead to -/
def led (ms os : List Bool) (p : List Int × List Int) : List Int := lay (drawn ms p.1) (drawn os p.2)
/-- the parted word -/
def qw (ms os : List Bool) (n : Nat) (w : List Int) : List Int × List Int := (lay (fir os.length w) (plc n (drawn os (mor ms os w))), mor ms os w)
end M
set_option Elab.async false
set_option linter.all false
set_option maxRecDepth 100000
set_option maxHeartbeats 4000000
/-! the short sort asked by ranks that differ: it puts the places in their order -/
namespace M
open PySem PySem.W PyProof.Rows
/-- what the sort comes to when every question is answered by lt -/
def kev {α : Type} (lt : Nat → Nat → Bool) : KasT α → α
  | .ret a => a
  | .ask i j k => kev lt (k (lt i j))
theorem kev_bind {α β : Type} {lt : Nat → Nat → Bool} {f : α → KasT β} : ∀ t : KasT α, kev lt (t.bind f) = kev lt (f (kev lt t))
  | .ret _ => rfl
  | .ask i j k => kev_bind (k (lt i j))
variable {rk : Nat → Nat}
def gk (rk : Nat → Nat) (p : Array Nat) (i : Nat) : Nat := rk (p.getD i 0)
def ltk (rk : Nat → Nat) (i j : Nat) : Bool := decide (rk i < rk j)
theorem gk_congr {p q : Array Nat} {i j : Nat} (h : p[i]? = q[j]?) : gk rk p i = gk rk q j := by
  unfold gk
  rw [Array.getD_eq_getD_getElem?, Array.getD_eq_getD_getElem?, h]
/-- the first k stand in order -/
def So (rk : Nat → Nat) (p : Array Nat) (k : Nat) : Prop := ∀ i j, i ≤ j → j < k → gk rk p i ≤ gk rk p j
theorem so_adj {p : Array Nat} {k : Nat} (h : ∀ i, 1 ≤ i → i < k → gk rk p (i - 1) ≤ gk rk p i) : So rk p k := by
  intro i j hij
  induction j with
  | zero => intro _; have : i = 0 := by omega
            subst this; exact Nat.le_refl _
  | succ j ih =>
    intro hj
    rcases Nat.lt_or_ge i (j + 1) with q | q
    · have a := ih (by omega) (by omega)
      have b := h (j + 1) (by omega) hj
      rw [Nat.add_sub_cancel] at b
      omega
    · have : i = j + 1 := by omega
      subst this
      exact Nat.le_refl _
/-- a permutation of the places below n; the ranks differ -/
structure Pn (rk : Nat → Nat) (n : Nat) (p : Array Nat) : Prop where
  perm : p.toList.Perm (List.range n)
  inj : ∀ i j, i < n → j < n → rk i = rk j → i = j
theorem Pn.size {n : Nat} {p : Array Nat} (h : Pn rk n p) : p.size = n := by
  have := h.perm.length_eq
  rw [List.length_range, Array.length_toList] at this
  exact this
theorem Pn.ne {n : Nat} {p : Array Nat} (h : Pn rk n p) {i j : Nat} (hi : i < n) (hj : j < n) (hij : i ≠ j) : gk rk p i ≠ gk rk p j := by
  intro e
  have nd : p.toList.Nodup := h.perm.nodup_iff.mpr List.nodup_range
  have s := h.size
  have g : ∀ k, (hk : k < n) → p.getD k 0 = p.toList[k]'(by rw [Array.length_toList]; omega) := fun k hk => by
    rw [Array.getElem_toList]
    simp [Array.getD, s, hk]
  have m : ∀ k, k < n → p.getD k 0 < n := fun k hk => by
    rw [g k hk]
    exact List.mem_range.mp (h.perm.mem_iff.mp (List.getElem_mem _))
  have := h.inj _ _ (m i hi) (m j hj) e
  rw [g i hi, g j hj] at this
  exact hij ((List.getElem_inj nd).mp this)
theorem Pn.rev {n : Nat} {p : Array Nat} (h : Pn rk n p) (i j : Nat) : Pn rk n (kas_rev p i j) := ⟨(Array.perm_iff_toList_perm.mp (mirror_perm p i j _)).trans h.perm, h.inj⟩
theorem Pn.bub {n : Nat} {p : Array Nat} (h : Pn rk n p) (i j : Nat) : Pn rk n (bubble p i j) := ⟨(Array.perm_iff_toList_perm.mp (bubble_perm p i j)).trans h.perm, h.inj⟩
theorem asc_is {p : Array Nat} : ∀ (f n : Nat), 1 ≤ n → n ≤ kev (ltk rk) (kas_asc p f n) ∧ kev (ltk rk) (kas_asc p f n) ≤ n + f ∧ (∀ i, n ≤ i → i < kev (ltk rk) (kas_asc p f n) → gk rk p (i - 1) ≤ gk rk p i) ∧ (kev (ltk rk) (kas_asc p f n) < n + f → gk rk p (kev (ltk rk) (kas_asc p f n)) < gk rk p (kev (ltk rk) (kas_asc p f n) - 1))
  | 0, n, h => ⟨Nat.le_refl n, Nat.le_refl n, fun i h1 h2 => absurd h2 (Nat.not_lt.mpr h1), fun h2 => absurd h2 (Nat.lt_irrefl n)⟩
  | f + 1, n, h => by
    have e : kev (ltk rk) (kas_asc p (f + 1) n) = kev (ltk rk) (if ltk rk (p.getD n 0) (p.getD (n - 1) 0) = true then KasT.ret n else kas_asc p f (n + 1)) := rfl
    rw [e]
    by_cases c : ltk rk (p.getD n 0) (p.getD (n - 1) 0) = true
    · rw [if_pos c]
      show n ≤ n ∧ n ≤ n + (f + 1) ∧ (∀ i, n ≤ i → i < n → _) ∧ (n < n + (f + 1) → gk rk p n < gk rk p (n - 1))
      refine ⟨by omega, by omega, fun i h1 h2 => by omega, fun _ => ?_⟩
      exact of_decide_eq_true c
    · rw [if_neg c]
      obtain ⟨a1, a2, a3, a4⟩ := asc_is f (n + 1) (by omega)
      refine ⟨by omega, by omega, fun i h1 h2 => ?_, fun h2 => a4 (by omega)⟩
      rcases Nat.lt_or_ge n i with q | q
      · exact a3 i q h2
      · have : i = n := by omega
        subst this
        have : ¬ gk rk p i < gk rk p (i - 1) := fun z => c (decide_eq_true z)
        omega
theorem desc_is {N : Nat} {p : Array Nat} (P : Pn rk N p) : ∀ (f n : Nat), 1 ≤ n → n + f ≤ N → ∃ m, kev (ltk rk) (kas_desc f p n 0) = (p, m, 0) ∧ n ≤ m ∧ m ≤ n + f ∧ ∀ i, n ≤ i → i < m → gk rk p i < gk rk p (i - 1)
  | 0, n, h, hz => ⟨n, rfl, Nat.le_refl n, Nat.le_refl n, fun i h1 h2 => absurd h2 (Nat.not_lt.mpr h1)⟩
  | f + 1, n, h, hz => by
    have e : kev (ltk rk) (kas_desc (f + 1) p n 0) = kev (ltk rk) (if ltk rk (p.getD n 0) (p.getD (n - 1) 0) = true then (if 0 > 0 then kas_desc f (kas_rev p (n - (0 + 1)) n) (n + 1) 0 else kas_desc f p (n + 1) 0)
      else .ask (p.getD (n - 1) 0) (p.getD n 0) fun d => if d = true then .ret (p, n, 0) else kas_desc f p (n + 1) (0 + 1)) := rfl
    rw [e]
    by_cases c : ltk rk (p.getD n 0) (p.getD (n - 1) 0) = true
    · rw [if_pos c, if_neg (by omega)]
      obtain ⟨m, a1, a2, a3, a4⟩ := desc_is P f (n + 1) (by omega) (by omega)
      refine ⟨m, a1, by omega, by omega, fun i h1 h2 => ?_⟩
      rcases Nat.lt_or_ge n i with q | q
      · exact a4 i q h2
      · have : i = n := by omega
        subst this
        exact of_decide_eq_true c
    · rw [if_neg c]
      have c' : ¬ gk rk p n < gk rk p (n - 1) := fun z => c (decide_eq_true z)
      have ne := P.ne (show n < N by omega) (show n - 1 < N by omega) (by omega)
      have d : ltk rk (p.getD (n - 1) 0) (p.getD n 0) = true := by
        have : gk rk p (n - 1) < gk rk p n := by omega
        exact decide_eq_true this
      refine ⟨n, ?_, by omega, by omega, fun i h1 h2 => by omega⟩
      show kev (ltk rk) (if ltk rk (p.getD (n - 1) 0) (p.getD n 0) = true then KasT.ret (p, n, 0) else kas_desc f p (n + 1) (0 + 1)) = _
      rw [if_pos d]
      rfl
theorem gk_rev {p : Array Nat} {m : Nat} (hm : m ≤ p.size) (k : Nat) : gk rk (kas_rev p 0 m) k = if k < m then gk rk p (m - 1 - k) else gk rk p k := by
  have e := getElem?_mirror_all (i := 0) hm k
  by_cases c : k < m
  · rw [if_pos c]
    rw [if_pos ⟨Nat.zero_le _, c⟩, Nat.zero_add] at e
    exact gk_congr e
  · rw [if_neg c]
    rw [if_neg (fun z => c z.2)] at e
    exact gk_congr e
theorem count_is {N : Nat} {p : Array Nat} (P : Pn rk N p) (h1 : 1 ≤ N) : ∃ m q, kev (ltk rk) (kas_count N p) = (m, q) ∧ 1 ≤ m ∧ m ≤ N ∧ Pn rk N q ∧ So rk q m := by
  unfold kas_count
  rw [kev_bind]
  obtain ⟨a1, a2, a3, a4⟩ := asc_is (rk := rk) (p := p) (N - 1) 1 (by omega)
  generalize kev (ltk rk) (kas_asc p (N - 1) 1) = n at a1 a2 a3 a4
  have so := so_adj (rk := rk) (p := p) (k := n) a3
  by_cases c : (n == N) = true
  · rw [if_pos c]
    exact ⟨n, p, rfl, a1, by omega, P, so⟩
  rw [if_neg c]
  have cn : n ≠ N := by simpa using c
  by_cases c1 : n > 1
  · rw [if_pos c1]
    have lt : gk rk p 0 < gk rk p (n - 1) := by
      have := so 0 (n - 1) (by omega) (by omega)
      have := P.ne (show 0 < N by omega) (show n - 1 < N by omega) (by omega)
      omega
    refine ⟨n, p, ?_, a1, by omega, P, so⟩
    show kev (ltk rk) (if ltk rk (p.getD 0 0) (p.getD (n - 1) 0) = true then KasT.ret (n, p) else _) = _
    rw [if_pos (show ltk rk (p.getD 0 0) (p.getD (n - 1) 0) = true from decide_eq_true lt)]
    rfl
  · rw [if_neg c1]
    have n1 : n = 1 := by omega
    subst n1
    have d0 := a4 (by omega)
    unfold kas_descPart
    rw [kev_bind]
    obtain ⟨m, b1, b2, b3, b4⟩ := desc_is P (N - (1 + 1)) (1 + 1) (by omega) (by omega)
    rw [b1]
    dsimp only
    rw [if_neg (by omega)]
    unfold kas_tail3
    rw [kev_bind]
    have P2 := P.rev 0 m
    have hs := P.size
    obtain ⟨g1, g2, g3, g4⟩ := asc_is (rk := rk) (p := kas_rev p 0 m) (N - m) m (by omega)
    generalize kev (ltk rk) (kas_asc (kas_rev p 0 m) (N - m) m) = k at g1 g2 g3 g4
    refine ⟨k, kas_rev p 0 m, rfl, by omega, by omega, P2, so_adj fun i h1 h2 => ?_⟩
    rcases Nat.lt_or_ge i m with q | q
    · rw [gk_rev (by omega), gk_rev (by omega), if_pos (by omega), if_pos q]
      have z : ∀ i, 1 ≤ i → i < m → gk rk p i < gk rk p (i - 1) := fun i h1 h2 => by
        rcases Nat.lt_or_ge i 2 with q | q
        · have : i = 1 := by omega
          subst this
          exact d0
        · exact b4 i q h2
      have := z (m - 1 - (i - 1)) (by omega) (by omega)
      rw [show m - 1 - (i - 1) - 1 = m - 1 - i by omega] at this
      omega
    · exact g3 i q h2
theorem place_is {p : Array Nat} {k : Nat} (so : So rk p k) : ∀ (f l r : Nat), r - l ≤ f → l ≤ r → r ≤ k → (∀ i, i < l → gk rk p i ≤ gk rk p k) → (∀ i, r ≤ i → i < k → gk rk p k ≤ gk rk p i) →
    kev (ltk rk) (kas_place p k f l r) ≤ k ∧ (∀ i, i < kev (ltk rk) (kas_place p k f l r) → gk rk p i ≤ gk rk p k) ∧ ∀ i, kev (ltk rk) (kas_place p k f l r) ≤ i → i < k → gk rk p k ≤ gk rk p i
  | 0, l, r, h, h1, h2, a, b => by
    have : l = r := by omega
    subst this
    exact ⟨h2, a, b⟩
  | f + 1, l, r, h, h1, h2, a, b => by
    unfold kas_place
    by_cases c : l ≥ r
    · rw [if_pos c]
      have : l = r := by omega
      subst this
      exact ⟨h2, a, b⟩
    · rw [if_neg c]
      have e : kev (ltk rk) (KasT.ask (p.getD k 0) (p.getD ((l + r) / 2) 0) fun c => if c = true then kas_place p k f l ((l + r) / 2) else kas_place p k f ((l + r) / 2 + 1) r) = kev (ltk rk) (if ltk rk (p.getD k 0) (p.getD ((l + r) / 2) 0) = true then kas_place p k f l ((l + r) / 2) else kas_place p k f ((l + r) / 2 + 1) r) := rfl
      rw [e]
      by_cases d : ltk rk (p.getD k 0) (p.getD ((l + r) / 2) 0) = true
      · rw [if_pos d]
        have d' : gk rk p k < gk rk p ((l + r) / 2) := of_decide_eq_true d
        exact place_is so f l _ (by omega) (by omega) (by omega) a fun i h3 h4 => by
          have := so ((l + r) / 2) i h3 h4
          omega
      · rw [if_neg d]
        have d' : ¬ gk rk p k < gk rk p ((l + r) / 2) := fun z => d (decide_eq_true z)
        exact place_is so f _ r (by omega) (by omega) (by omega) (fun i h3 => by
          have := so i ((l + r) / 2) (by omega) (by omega)
          omega) b
theorem gk_bub {p : Array Nat} {k l : Nat} (hk : k < p.size) (hl : l ≤ k) (i : Nat) : gk rk (bubble p k (k - l)) i = if i = l then gk rk p k else if l < i ∧ i ≤ k then gk rk p (i - 1) else gk rk p i := by
  have e := getElem?_bubble hk (k - l) (by omega) i
  rw [show k - (k - l) = l by omega] at e
  by_cases c : i = l
  · rw [if_pos c] at e ⊢; exact gk_congr e
  · rw [if_neg c] at e ⊢
    by_cases d : l < i ∧ i ≤ k
    · rw [if_pos d] at e ⊢; exact gk_congr e
    · rw [if_neg d] at e ⊢; exact gk_congr e
theorem bin_is {N : Nat} : ∀ (f k : Nat) {p : Array Nat}, Pn rk N p → So rk p k → k + f = N → Pn rk N (kev (ltk rk) (kas_bin f p k)) ∧ So rk (kev (ltk rk) (kas_bin f p k)) N
  | 0, k, p, P, so, h => by
    have : k = N := by omega
    subst this
    exact ⟨P, so⟩
  | f + 1, k, p, P, so, h => by
    unfold kas_bin
    rw [kev_bind]
    obtain ⟨a1, a2, a3⟩ := place_is so k 0 k (by omega) (by omega) (Nat.le_refl k) (fun i hi => absurd hi (Nat.not_lt_zero i)) (fun i h1 h2 => absurd h2 (Nat.not_lt.mpr h1))
    generalize kev (ltk rk) (kas_place p k k 0 k) = l at a1 a2 a3
    have hs := P.size
    refine bin_is f (k + 1) (P.bub k (k - l)) (fun i j hij hj => ?_) (by omega)
    rw [gk_bub (by omega) a1, gk_bub (by omega) a1]
    by_cases i1 : i = l <;> by_cases j1 : j = l
    · rw [if_pos i1, if_pos j1]; exact Nat.le_refl _
    · rw [if_pos i1, if_neg j1, if_pos (by omega)]
      exact a3 (j - 1) (by omega) (by omega)
    · rw [if_neg i1, if_neg (by omega), if_pos j1]
      exact a2 i (by omega)
    · rw [if_neg i1, if_neg j1]
      by_cases i2 : l < i ∧ i ≤ k <;> by_cases j2 : l < j ∧ j ≤ k
      · rw [if_pos i2, if_pos j2]; exact so _ _ (by omega) (by omega)
      · omega
      · rw [if_neg i2, if_pos j2]; exact so _ _ (by omega) (by omega)
      · rw [if_neg i2, if_neg j2]; exact so _ _ (by omega) (by omega)
theorem sort_is {n : Nat} (h1 : 1 ≤ n) (inj : ∀ i j, i < n → j < n → rk i = rk j → i = j) : Pn rk n (kev (ltk rk) (kas_sort n)) ∧ So rk (kev (ltk rk) (kas_sort n)) n := by
  unfold kas_sort
  rw [kev_bind]
  obtain ⟨m, q, e, m1, m2, P, so⟩ := count_is (p := List.toArray (List.range n)) ⟨by simp, inj⟩ h1
  rw [e]
  dsimp only
  by_cases c : m < n
  · rw [if_pos c, Nat.max_eq_left m1]
    exact bin_is (n - m) m P so (by omega)
  · rw [if_neg c]
    have : m = n := by omega
    subst this
    exact ⟨P, so⟩
end M
set_option Elab.async false
set_option linter.all false
set_option maxRecDepth 100000
set_option maxHeartbeats 4000000
namespace K25
open PySem L2
local macro_rules | `(tactic| walk_at "sq") => `(tactic| first | assumption | (refine SqL.of ?_; assumption) | (refine SqL.of ?_; exact upd_same))
local macro_rules | `(tactic| walk_at "cj") => `(tactic| first | (with_reducible show (_ : Int) ≤ _; omega) | (with_reducible show (_ : Int) < _; omega) | exact rfl | assumption | omega | decide | (unfold CDiv; omega) | (unfold CPow; decide) | (show (0 : Int) < _; first | omega | decide) | (show _ ≤ sizeLine; rw [sizeLine_eq]; simp; done) | (refine mulS1 ?_ ?_ <;> omega) | (refine mulS2 ?_ ?_ <;> omega))
local macro_rules | `(tactic| walk_at "rd1") => `(tactic| first | refine ⟨_, rfl, ?_⟩ | refine ⟨_, _, rfl, rfl, ?_⟩ | refine ⟨_, _, rfl, ?_⟩ | refine ⟨_, _, _, rfl, ?_⟩ | refine ⟨_, _, _, _, rfl, ?_⟩ | refine ⟨_, _, _, _, _, rfl, ?_⟩ | refine ⟨_, _, rfl, .inl (by walk_at "sq"), ?_⟩ | refine And.intro (by walk_at "cj") ?_)
local macro_rules | `(tactic| walk_at "rd") => `(tactic| repeat walk_at "rd1")

def top (i : Nat) : Stmt := PySem.Challenge.pw_riftcarry_k25_all_ways.main.body.getD i (.Pass ⟨0, 0, 0, 0⟩)
abbrev s_places : Stmt := top 4
abbrev s_laid : Stmt := top 5
abbrev s_how_many : Stmt := top 7
abbrev s_way : Stmt := top 8
abbrev s_each_above_next : Stmt := top 9
abbrev s_least_for_next : Stmt := top 10
abbrev s_counted : Stmt := top 11
abbrev s_l_deep : Stmt := top 13
abbrev s_l_order : Stmt := top 15
abbrev s_l_word : Stmt := top 17
abbrev s_l_riffled : Stmt := top 18
abbrev s_l_heaps : Stmt := top 19
abbrev s_l_words : Stmt := top 20
abbrev s_l_due : Stmt := top 21
abbrev s_law : Stmt := top 22
/-- the text as it stands behind the top -/
structure Txt (K : PySem.W.Frag) (mg : Str → Option Value) : Prop where
  f_places : Def K mg "places" s_places ["order"]
  f_laid : Def K mg "laid" s_laid ["one", "other"]
  f_how_many : Def K mg "how_many" s_how_many ["order", "marks"]
  f_way : Def K mg "way" s_way ["order", "marks", "number"]
  f_each_above_next : Def K mg "each_above_next" s_each_above_next ["order"]
  f_least_for_next : Def K mg "least_for_next" s_least_for_next ["above_next", "marks", "heap"]
  f_counted : Def K mg "counted" s_counted ["above_next", "marks"]
  f_l_deep : Def K mg "_law_deep" s_l_deep ["_law_script", "_law_k"]
  f_l_order : Def K mg "_law_order" s_l_order ["_law_cell", "_law_n"]
  f_l_word : Def K mg "_law_word" s_l_word ["_law_cell", "_law_heaps_here", "_law_n"]
  f_l_riffled : Def K mg "_law_riffled" s_l_riffled ["_law_order_here", "_law_marks_here", "_law_word_here"]
  f_l_heaps : Def K mg "_law_heaps" s_l_heaps ["_law_order_here", "_law_told"]
  f_l_words : Def K mg "_law_words" s_l_words ["_law_heaps_here", "_law_n"]
  f_l_due : Def K mg "_law_due" s_l_due ["_law_order_here", "_law_marks_here"]
  f_law : Def K mg "law" s_law ["_law_script"]
  z_enumerate : mg "enumerate" = none
  z_len : mg "len" = none
  z_min : mg "min" = none
  z_range : mg "range" = none
  z_sorted : mg "sorted" = none
  z_zip : mg "zip" = none
theorem sc_places : FnScope ["order", "above", "place", "card"] ["order"] (defScope s_places) := ⟨rfl, rfl, rfl, by decide +kernel, rfl, by decide +kernel, by decide +kernel⟩
theorem sc_laid : FnScope ["one", "other"] ["one", "other"] (defScope s_laid) := ⟨rfl, rfl, rfl, by decide +kernel, rfl, by decide +kernel, by decide +kernel⟩
theorem sc_how_many : FnScope ["order", "marks"] ["order", "marks"] (defScope s_how_many) := ⟨rfl, rfl, rfl, by decide +kernel, rfl, by decide +kernel, by decide +kernel⟩
theorem sc_way : FnScope ["order", "marks", "number", "above_next", "table", "heaps", "least", "left", "card", "row", "heap"] ["order", "marks", "number"] (defScope s_way) := ⟨rfl, rfl, rfl, by decide +kernel, rfl, by decide +kernel, by decide +kernel⟩
theorem sc_each_above_next : FnScope ["order", "place"] ["order"] (defScope s_each_above_next) := ⟨rfl, rfl, rfl, by decide +kernel, rfl, by decide +kernel, by decide +kernel⟩
theorem sc_least_for_next : FnScope ["above_next", "marks", "heap"] ["above_next", "marks", "heap"] (defScope s_least_for_next) := ⟨rfl, rfl, rfl, by decide +kernel, rfl, by decide +kernel, by decide +kernel⟩
theorem sc_counted : FnScope ["above_next", "marks", "heaps", "behind", "table", "card", "row", "heap"] ["above_next", "marks"] (defScope s_counted) := ⟨rfl, rfl, rfl, by decide +kernel, rfl, by decide +kernel, by decide +kernel⟩
theorem sc_l_deep : FnScope ["_law_script", "_law_k", "_law_cell", "_law_deep_here", "_law_j"] ["_law_script", "_law_k"] (defScope s_l_deep) := ⟨rfl, rfl, rfl, by decide +kernel, rfl, by decide +kernel, by decide +kernel⟩
theorem sc_l_order : FnScope ["_law_cell", "_law_n", "_law_left", "_law_order_here", "_law_at"] ["_law_cell", "_law_n"] (defScope s_l_order) := ⟨rfl, rfl, rfl, by decide +kernel, rfl, by decide +kernel, by decide +kernel⟩
theorem sc_l_word : FnScope ["_law_cell", "_law_heaps_here", "_law_n", "_law_word_here", "_law_k"] ["_law_cell", "_law_heaps_here", "_law_n"] (defScope s_l_word) := ⟨rfl, rfl, rfl, by decide +kernel, rfl, by decide +kernel, by decide +kernel⟩
theorem sc_l_riffled : FnScope ["_law_order_here", "_law_marks_here", "_law_word_here", "_law_heaps_here", "_law_start", "_law_heap", "_law_size", "_law_cards_here", "_law_out"] ["_law_order_here", "_law_marks_here", "_law_word_here"] (defScope s_l_riffled) := ⟨rfl, rfl, rfl, by decide +kernel, rfl, by decide +kernel, by decide +kernel⟩
theorem sc_l_heaps : FnScope ["_law_order_here", "_law_told", "_law_heaps_here", "_law_card", "_law_heap"] ["_law_order_here", "_law_told"] (defScope s_l_heaps) := ⟨rfl, rfl, rfl, by decide +kernel, rfl, by decide +kernel, by decide +kernel⟩
theorem sc_l_words : FnScope ["_law_heaps_here", "_law_n", "_law_words_here", "_law_k", "_law_longer", "_law_word_here", "_law_heap"] ["_law_heaps_here", "_law_n"] (defScope s_l_words) := ⟨rfl, rfl, rfl, by decide +kernel, rfl, by decide +kernel, by decide +kernel⟩
theorem sc_l_due : FnScope ["_law_order_here", "_law_marks_here", "_law_n", "_law_start", "_law_found"] ["_law_order_here", "_law_marks_here"] (defScope s_l_due) := ⟨rfl, rfl, rfl, by decide +kernel, rfl, by decide +kernel, by decide +kernel⟩
theorem sc_law : FnScope ["_law_script", "_law_k", "_law_cell", "_law_marks_here", "_law_n", "_law_rest", "_law_order_here", "_law_due_here"] ["_law_script"] (defScope s_law) := ⟨rfl, rfl, rfl, by decide +kernel, rfl, by decide +kernel, by decide +kernel⟩

section
variable {P : Program} {w : World} {K : PySem.W.Frag} {mg : Str → Option Value} {base : Heap} {k : Nat}
abbrev iL (ns : List Int) : List V := ns.map V.int
abbrev bL (bs : List Bool) : List V := bs.map V.bl
theorem lt_line {n : Nat} (h : n ≤ 1000) : n ≤ sizeLine := by rw [sizeLine_eq]; omega
theorem lt_line' {n : Nat} (h : n ≤ 1000) : n < sizeLine := by rw [sizeLine_eq]; omega
theorem getD_some {α : Type} {xs : List α} {d v : α} {i : Nat} (h : xs[i]? = some v) : xs.getD i d = v := by rw [List.getD, h]; rfl
def sp_l_deep (K : PySem.W.Frag) : Sp := sp2 fun a b H Q => ∃ (p : Addr) (ns : List Int) (k : Int), SqL K H p (iL ns) ∧ a = .ref p ∧ b = .int k ∧ 0 ≤ k ∧ ∀ c : Int, Q (.int c) H
theorem ok_l_deep (T : Txt K mg)  : Has P w K mg base (k + 1) "_law_deep" ["_law_script", "_law_k"] (sp_l_deep K) := by
  refine T.f_l_deep.has sc_l_deep len2 (fun f cdv A outer s H vs Q E hr h => ?_)
  obtain ⟨a0, a1, rfl, h⟩ := h
  refine ⟨_, pss_cons (ps_set (i := 2) sc_l_deep.nd rfl (Or.inl rfl) pe_int)
    (pss_cons (ps_if (pt_cmpR op_lt (pv 1) (pe_callB (k_len (K := K)) rfl T.z_len PySem.boot_len (pa_cons (pv 0) pa_nil)) (nomark _))
    (pss_one (ps_set (i := 2) sc_l_deep.nd rfl (Or.inl rfl) (pe_ix (k_ix_list (K := K)) (pv 0) (pv 1) (fun _ _ => rfl))))
    (pss_nil))
    (pss_cons (ps_if (PW.pt (pw_or (pt_cmpR op_lt (pv 2) pe_int (nomark _)) (pw_or1 (pt_cmpR op_ge (pv 2) (pe_op op_pow pe_int pe_int) (nomark _)))))
    (pss_one (ps_ret (pv 2)))
    (pss_nil))
    (pss_cons (ps_set (i := 3) sc_l_deep.nd rfl (Or.inl rfl) pe_int)
    (pss_cons (ps_for PassesOwn.never rfl (pi_range1 rfl T.z_range (pa_cons pe_int pa_nil)) (pg_name (i := 4) sc_l_deep.nd rfl (Or.inl rfl))
    (pss_one (ps_set (i := 3) sc_l_deep.nd rfl (Or.inl rfl) (pe_op op_add (pe_op op_mulB (pv 3) pe_int) (pe_op op_mod (pe_op op_mulB (pe_op op_mod (pe_op op_add (pe_op op_mulB (pv 2) pe_int) (pe_op op_mulB (pe_op op_mulB (pe_op op_add (pv 4) pe_int) (pe_op op_add (pe_op op_add (pv 4) (pv 1)) pe_int)) pe_int)) pe_int) pe_int) pe_int)))))
    (pss_one (ps_ret (pv 3))))))), ?_⟩
  obtain ⟨p, ns, k, hS, rfl, rfl, h0, q⟩ := h
  walk_at "rd"
  refine ite2 (fun c => ?_) (fun c => ?_)
  · simp only [decide_eq_true_eq, List.length_map] at c
    walk_at "rd"
    refine ⟨p, _, _, _, rfl, rfl, hS, atI_int h0 c, ?_⟩
    generalize ns.getD k.toNat 0 = cell
    walk_at "rd"
    refine ite2 (fun c => iteT ⟨_, rfl, q _⟩) (fun c => ?_)
    walk_at "rd"
    refine ite2 (fun c => ⟨_, rfl, q _⟩) (fun c => ?_)
    walk_at "rd"
    refine for_range (fun i σ' H' => (∃ (d : Int) (t : Option V), σ' = [some (.ref p), some (.int k), some (.int cell), some (.int d), t] ∧ H' = H) ∨ False) (.inl ⟨0, none, rfl, rfl⟩) ?_ ?_
    · intro i σ' H' hi z
      obtain ⟨d, t, rfl, rfl⟩ := z.resolve_right id
      walk_at "rd"
      exact .inl ⟨_, _, rfl, rfl⟩
    · intro σ' H' z
      obtain ⟨d, t, rfl, rfl⟩ := z.resolve_right id
      walk_at "rd"
      exact q _
  · walk_at "rd"
    refine for_range (fun i σ' H' => (∃ (d : Int) (t : Option V), σ' = [some (.ref p), some (.int k), some (.int 0), some (.int d), t] ∧ H' = H) ∨ False) (.inl ⟨0, none, rfl, rfl⟩) ?_ ?_
    · intro i σ' H' hi z
      obtain ⟨d, t, rfl, rfl⟩ := z.resolve_right id
      walk_at "rd"
      exact .inl ⟨_, _, rfl, rfl⟩
    · intro σ' H' z
      obtain ⟨d, t, rfl, rfl⟩ := z.resolve_right id
      walk_at "rd"
      exact q _
def sp_l_order (K : PySem.W.Frag) : Sp := sp2 fun a b H Q => ∃ (c : Int) (n : Nat), a = .int c ∧ b = .int n ∧ (1 ≤ n ∧ n ≤ 60) ∧ ∀ as : List Int, M.Ord n as → rNew (iL as) H Q
theorem ok_l_order (T : Txt K mg)  : Has P w K mg base (k + 1) "_law_order" ["_law_cell", "_law_n"] (sp_l_order K) := by
  refine T.f_l_order.has sc_l_order len2 (fun f cdv A outer s H vs Q E hr h => ?_)
  obtain ⟨a0, a1, rfl, h⟩ := h
  refine ⟨_, pss_cons (ps_setC (i := 2) (vars := ["_law_k"]) (caps := []) (CompScope.of (outer := defScope s_l_order) (N := ["_law_cell", "_law_n", "_law_left", "_law_order_here", "_law_at"]) rfl rfl ⟨by decide +kernel⟩) rfl sc_l_order.nd rfl rfl (pi_range1 rfl T.z_range (pa_cons (pv 1) pa_nil)) ⟨fun _ _ _ _ => ⟨(pg_name (i := 0) (show List.Nodup (["_law_k"] : List Str) by decide +kernel) rfl (Or.inl rfl)), pts_nil, (pv 0)⟩⟩)
    (pss_cons (ps_set (i := 3) sc_l_order.nd rfl (Or.inl rfl) (pe_lst pa_nil))
    (pss_cons (ps_while PassesOwn.never (pt_cmpR (k_neL (K := K) hr.units) (pv 2) (pe_lst pa_nil) (nomark _))
    (pss_cons (ps_set (i := 4) sc_l_order.nd rfl (Or.inl rfl) (pe_op op_mod (pv 0) (pe_callB (k_len (K := K)) rfl T.z_len PySem.boot_len (pa_cons (pv 2) pa_nil))))
      (pss_cons (ps_set (i := 0) sc_l_order.nd rfl (Or.inl rfl) (pe_op op_fdiv (pv 0) (pe_callB (k_len (K := K)) rfl T.z_len PySem.boot_len (pa_cons (pv 2) pa_nil))))
      (pss_cons (ps_expr (k_bm (K := K) PySem.F.plainAttrs_list PySem.F.slot_list_append PySem.F.type_list_append mt_append (pv 3) (pa_cons (pe_ix (k_ix_list (K := K)) (pv 2) (pv 4) (fun _ _ => rfl)) pa_nil)))
      (pss_one (ps_set (i := 2) sc_l_order.nd rfl (Or.inl rfl) (pe_op op_cat (pe_slice (k_sl_list (K := K)) (pv 2) po_none (po_some (pv 4))) (pe_slice (k_sl_list (K := K)) (pv 2) (po_some (pe_op op_add (pv 4) pe_int)) po_none))))))))
    (pss_one (ps_ret (pv 3))))), ?_⟩
  obtain ⟨c, n, rfl, rfl, ⟨h1, h2⟩, q⟩ := h
  walk_at "rd"
  rw [Int.toNat_natCast]
  refine comp_range (fun i => .int (i : Int)) (fun _ => true) (lt_line (by omega)) ?_ ?_
  · intro i t acc ys N Kt hi hacc k1 _
    walk_at "rd"
    have k2 := k1 (some (.int (0 + i))) rfl
    rw [Int.zero_add (i : Int)] at k2 ⊢
    exact k2
  rw [filter_true]
  have e0 : ((List.range n).map fun i : Nat => V.int (i : Int)) = iL (M.iota n) := by rw [M.iota, iL, List.map_map]; rfl
  rw [e0]
  intro L0 hL0
  generalize e1 : upd H L0 _ = H1
  obtain ⟨s1, eL0⟩ := new_is hL0 e1
  walk_at "rd"
  intro O hO
  generalize e2 : upd H1 O _ = H2
  obtain ⟨s2, eO2⟩ := new_is hO e2
  have hO0 : H O = none := s1.free hO
  clear e1 e2
  refine ⟨fun m σ' H' => (∃ (c' : Int) (L : Addr) (as ls : List Int) (t : Option V), σ' = [some (.int c'), some (.int n), some (.ref L), some (.ref O), t] ∧ Same H H' ∧ H' L = some (.lst (iL ls)) ∧ H' O = some (.lst (iL as)) ∧ L ≠ O ∧ (as ++ ls).Perm (M.iota n) ∧ m = ls.length) ∨ False,
    ⟨n, .inl ⟨c, L0, [], M.iota n, none, rfl, s1.trans s2, s2 _ _ eL0, eO2, ne_of_none eL0 hO, by simp, (M.iota_length n).symm⟩⟩, ?_⟩
  intro m σ' H' z
  obtain ⟨c', L, as, ls, t, rfl, sm, eL, eO, hLO, pm, rfl⟩ := z.resolve_right id
  have ll : as.length + ls.length = n := by
    have := pm.length_eq
    rw [List.length_append, M.iota_length] at this
    exact this
  have hll : (iL ls).length = ls.length := List.length_map _
  walk_at "rd"
  intro E1 hE1
  generalize e3 : upd H' E1 _ = H3
  obtain ⟨s3, eE1⟩ := new_is hE1 e3
  clear e3
  have SL : SqL K H3 L (iL ls) := SqL.of (s3 _ _ eL)
  refine ⟨L, E1, ls, [], rfl, rfl, SL, SqL.of eE1, ?_⟩
  walk_at "rd"
  refine ite2 (fun cc => ?_) (fun cc => ?_)
  · have hne : ls ≠ [] := by simpa using cc
    have hpos : 0 < ls.length := List.length_pos_iff.mpr hne
    refine ⟨fun σ2 H4 => (∃ (c' : Int) (L : Addr) (as' ls' : List Int) (t : Option V), σ2 = [some (.int c'), some (.int n), some (.ref L), some (.ref O), t] ∧ Same H H4 ∧ H4 L = some (.lst (iL ls')) ∧ H4 O = some (.lst (iL as')) ∧ L ≠ O ∧ (as' ++ ls').Perm (M.iota n) ∧ ls'.length < ls.length) ∨ False, fun σ2 H4 z => ?_, ?_⟩
    · obtain ⟨c2, L2, as2, ls2, t2, e, a1, a2, a3, a4, a5, a6⟩ := z.resolve_right id
      exact ⟨ls2.length, a6, .inl ⟨c2, L2, as2, ls2, t2, e, a1, a2, a3, a4, a5, rfl⟩⟩
    walk_at "rd"
    rw [hll]
    have m0 : 0 ≤ c' % (ls.length : Int) := Int.emod_nonneg _ (by omega)
    have m1 : c' % (ls.length : Int) < (ls.length : Int) := Int.emod_lt_of_pos _ (by omega)
    have eO3 := s3 _ _ eO
    refine ⟨.inl ⟨rfl, _, SqL.of eO3⟩, ?_⟩
    walk_at "rd"
    refine ⟨L, _, _, _, rfl, rfl, SL, atI_int m0 m1, ?_⟩
    walk_at "rd"
    refine ⟨O, _, _, rfl, rfl, eO3, by rw [List.length_map]; exact lt_line' (by omega), ?_⟩
    generalize e4 : upd H3 O _ = H4
    obtain ⟨s4, eO4⟩ := set_is hO0 (sm.trans s3) e4
    have eL4 : H4 L = some (.lst (iL ls)) := by rw [← e4, upd_ne hLO]; exact s3 _ _ eL
    clear e4
    walk_at "rd"
    refine ⟨L, _, rfl, SqL.of eL4, ?_⟩
    intro A1 hA1
    generalize e5 : upd H4 A1 _ = H5
    obtain ⟨s5, eA1⟩ := new_is hA1 e5
    walk_at "rd"
    refine ⟨L, _, rfl, SqL.of (s5 _ _ eL4), ?_⟩
    intro A2 hA2
    generalize e6 : upd H5 A2 _ = H6
    obtain ⟨s6, eA2⟩ := new_is hA2 e6
    refine ⟨A1, A2, _, _, rfl, rfl, s6 _ _ eA1, eA2, ?_, ?_⟩
    · exact lt_line (Nat.le_trans (Nat.add_le_add (cutV_length _ _ _) (cutV_length _ _ _)) (by omega))
    intro A3 hA3
    generalize e7 : upd H6 A3 _ = H7
    obtain ⟨s7, eA3⟩ := new_is hA3 e7
    have s47 := s5.trans (s6.trans s7)
    have key : cutV (iL ls) none (some (c' % (ls.length : Int))) ++ cutV (iL ls) (some (c' % (ls.length : Int) + 1)) none = iL (ls.eraseIdx (c' % (ls.length : Int)).toNat) := cut_both m0
    rw [key] at eA3
    have hlt : (c' % (ls.length : Int)).toNat < ls.length := by omega
    have ev : ls.getD (c' % (ls.length : Int)).toNat 0 = ls[(c' % (ls.length : Int)).toNat] := by simp [List.getD, List.getElem?_eq_getElem hlt]
    refine .inl ⟨_, A3, as ++ [ls[(c' % (ls.length : Int)).toNat]], ls.eraseIdx (c' % (ls.length : Int)).toNat, _, rfl, s4.trans s47, eA3, ?_, ?_, M.draw_perm pm hlt, ?_⟩
    · rw [s47 _ _ eO4, ev]; simp
    · exact fun e => ne_of_none (s6 _ _ (s5 _ _ eO4)) hA3 e.symm
    · rw [List.length_eraseIdx_of_lt hlt]; omega
  · walk_at "rd"
    have hls : ls = [] := by simpa using cc
    rw [hls, List.append_nil] at pm
    exact q as (M.Ord.of_perm pm) O H3 (sm.trans s3) hO0 (s3 _ _ eO)
theorem rep0 : ∀ n : Nat, (List.replicate n [V.int 0]).flatten = iL (List.replicate n 0)
  | 0 => rfl
  | n + 1 => by rw [List.replicate_succ, List.flatten_cons, rep0 n]; rfl
def sp_places (K : PySem.W.Frag) : Sp := sp1 fun a H Q => ∃ (p : Addr) (ns : List Int) (n : Nat), SqL K H p (iL ns) ∧ a = .ref p ∧ M.Ord n ns ∧ n ≤ 1000 ∧ rNew (iL (M.plc n ns)) H Q
theorem ok_places (T : Txt K mg)  : Has P w K mg base (k + 1) "places" ["order"] (sp_places K) := by
  refine T.f_places.has sc_places len1 (fun f cdv A outer s H vs Q E hr h => ?_)
  obtain ⟨a0, rfl, h⟩ := h
  refine ⟨_, pss_cons (ps_set (i := 1) sc_places.nd rfl (Or.inl rfl) (pe_op op_rep (pe_lst (pa_cons pe_int pa_nil)) (pe_callB (k_len (K := K)) rfl T.z_len PySem.boot_len (pa_cons (pv 0) pa_nil))))
    (pss_cons (ps_for PassesOwn.never rfl (k_pi_enum (K := K) rfl T.z_enumerate (pa_cons (pv 0) pa_nil)) (k_pg_tup (K := K) (n := 2) rfl (pgs_cons (pg_name (i := 2) sc_places.nd rfl (Or.inl rfl)) (pgs_cons (pg_name (i := 3) sc_places.nd rfl (Or.inl rfl)) pgs_nil)))
    (pss_one (ps_asg (pv 2) (pg_sub (pv 1) (pv 3) set_list))))
    (pss_one (ps_ret (pv 1)))), ?_⟩
  obtain ⟨p, ns, n, hS, rfl, ho, hn, q⟩ := h
  have hl : ns.length = n := ho.len
  walk_at "rd"
  intro z hz
  have s1 : Same H (upd H z (.lst [.int 0])) := Same.new hz _
  refine ⟨_, rfl, _, _, rfl, .inl (s1.seq hS), ?_⟩
  refine ⟨z, _, _, rfl, rfl, upd_same, by omega, by rw [List.length_map]; omega, ?_, fun t ht => ?_⟩
  · rw [List.length_map, sizeLine_eq]; simp; omega
  have e0 : (List.replicate ((iL ns).length : Int).toNat [V.int 0]).flatten = iL (M.plcUpTo n ns 0) := by
    rw [M.plcUpTo_zero, List.length_map, hl, Int.toNat_natCast, rep0]
  rw [e0]
  have hzt : t ≠ z := fun e => by rw [e, upd_same] at ht; cases ht
  have ht0 : H t = none := by rw [upd_ne hzt] at ht; exact ht
  have s2 : Same H (upd (upd H z (.lst [.int 0])) t (.lst (iL (M.plcUpTo n ns 0)))) := s1.put ht0
  refine ⟨_, rfl, p, rfl, ⟨_, s2.seq hS⟩, ?_⟩
  refine for_enum (xs := iL ns) (fun i σ' H' => (∃ t1 t2, σ' = [some (.ref p), some (.ref t), t1, t2] ∧ Same H H' ∧ H' t = some (.lst (iL (M.plcUpTo n ns i)))) ∨ False) (.inl ⟨_, _, rfl, s2, upd_same⟩) ?_ ?_ ?_
  · intro i σ' H' _ z
    obtain ⟨t1, t2, rfl, s3, _⟩ := z.resolve_right id
    exact s3.seq hS
  · intro i x σ' H' T hx z hT
    obtain ⟨t1, t2, rfl, s3, e3⟩ := z.resolve_right id
    rw [List.getElem?_map] at hx
    cases ec : ns[i]? with
    | none => rw [ec] at hx; cases hx
    | some c =>
      rw [ec] at hx
      cases hx
      have b := ho.bd c (List.mem_of_getElem? ec)
      have htT : t ≠ T := ne_of_none e3 hT
      refine ⟨T, _, rfl, SqT.of upd_same, rfl, ?_⟩
      walk_at "rd"
      refine ⟨t, _, _, c.toNat, rfl, rfl, by rw [upd_ne htT]; exact e3, ?_, ?_⟩
      · unfold ixN
        rw [if_pos b.1, if_pos (by rw [List.length_map, M.plcUpTo_length]; exact b.2)]
      · refine .inl ⟨_, _, rfl, ?_, ?_⟩
        · have s4 : Same H (upd H' T (.tup [.int i, .int c])) := s3.put (s3.free hT)
          exact s4.put ht0
        · rw [upd_same, ← M.plcUpTo_succ ho ec]
          simp [List.map_set]
  · intro σ' H' z
    obtain ⟨t1, t2, rfl, s3, e3⟩ := z.resolve_right id
    walk_at "rd"
    refine q t H' s3 ht0 ?_
    rw [← M.plcUpTo_all ho, e3, List.length_map, hl]
def sp_l_word (K : PySem.W.Frag) : Sp := sp3 fun a b c H Q => ∃ (e h : Int) (n : Nat), a = .int e ∧ b = .int h ∧ c = .int n ∧ (1 ≤ h ∧ h ≤ 400 ∧ n ≤ 60) ∧ ∀ ws : List Int, ws.length = n → (∀ x ∈ ws, 0 ≤ x ∧ x < h) → rNew (iL ws) H Q
theorem ok_l_word (T : Txt K mg)  : Has P w K mg base (k + 1) "_law_word" ["_law_cell", "_law_heaps_here", "_law_n"] (sp_l_word K) := by
  refine T.f_l_word.has sc_l_word len3 (fun f cdv A outer s H vs Q E hr h => ?_)
  obtain ⟨a0, a1, a2, rfl, h⟩ := h
  refine ⟨_, pss_cons (ps_set (i := 3) sc_l_word.nd rfl (Or.inl rfl) (pe_lst pa_nil))
    (pss_cons (ps_for PassesOwn.never rfl (pi_range1 rfl T.z_range (pa_cons (pv 2) pa_nil)) (pg_name (i := 4) sc_l_word.nd rfl (Or.inl rfl))
    (pss_cons (ps_expr (k_bm (K := K) PySem.F.plainAttrs_list PySem.F.slot_list_append PySem.F.type_list_append mt_append (pv 3) (pa_cons (pe_op op_mod (pv 0) (pv 1)) pa_nil)))
      (pss_one (ps_set (i := 0) sc_l_word.nd rfl (Or.inl rfl) (pe_op op_fdiv (pv 0) (pv 1))))))
    (pss_one (ps_ret (pv 3)))), ?_⟩
  obtain ⟨e, h, n, rfl, rfl, rfl, ⟨h1, h2, h4⟩, q⟩ := h
  walk_at "rd"
  intro O hO
  walk_at "rd"
  rw [Int.toNat_natCast]
  refine for_range (fun i σ' H' => (∃ (ws : List Int) (c' : Int) (t : Option V), σ' = [some (.int c'), some (.int h), some (.int n), some (.ref O), t] ∧ Same H H' ∧ H' O = some (.lst (iL ws)) ∧ ws.length = i ∧ ∀ x ∈ ws, 0 ≤ x ∧ x < h) ∨ False) (.inl ⟨[], e, none, rfl, Same.new hO _, upd_same, rfl, by simp⟩) ?_ ?_
  · intro i σ' H' hi z
    obtain ⟨ws, c', t, rfl, sm, eO, hb, hw⟩ := z.resolve_right id
    walk_at "rd"
    refine ⟨.inl ⟨rfl, _, SqL.of eO⟩, ?_⟩
    walk_at "rd"
    refine ⟨O, _, _, rfl, rfl, eO, by rw [List.length_map]; exact lt_line' (by omega), ?_⟩
    walk_at "rd"
    refine .inl ⟨ws ++ [c' % h], _, _, rfl, sm.put hO, by rw [upd_same]; simp, by simp; omega, fun x hx => ?_⟩
    rcases List.mem_append.mp hx with hx | hx
    · exact hw x hx
    · have : x = c' % h := by simpa using hx
      rw [this]
      exact ⟨Int.emod_nonneg _ (by omega), Int.emod_lt_of_pos _ (by omega)⟩
  · intro σ' H' z
    obtain ⟨ws, c', t, rfl, sm, eO, hb, hw⟩ := z.resolve_right id
    walk_at "rd"
    exact q ws hb hw O H' sm hO eO
def sp_laid (K : PySem.W.Frag) : Sp := sp2 fun a b H Q => ∃ (p q : Addr) (ns ms : List Int), SqL K H p (iL ns) ∧ SqL K H q (iL ms) ∧ a = .ref p ∧ b = .ref q ∧ ms.length ≤ 1000 ∧ (∀ c ∈ ms, 0 ≤ c ∧ c < (ns.length : Int)) ∧ rNew (iL (M.lay ns ms)) H Q
theorem ok_laid (T : Txt K mg)  : Has P w K mg base (k + 1) "laid" ["one", "other"] (sp_laid K) := by
  refine T.f_laid.has sc_laid len2 (fun f cdv A outer s H vs Q E hr h => ?_)
  obtain ⟨a0, a1, rfl, h⟩ := h
  refine ⟨_, pss_one (ps_ret (pe_comp (vars := ["card"]) (caps := [0]) (CompScope.of (outer := defScope s_laid) (N := ["one", "other"]) rfl rfl ⟨by decide +kernel⟩) rfl (k_pi_list (K := K) (pv 1)) ⟨fun _ _ _ _ => ⟨(pg_name (i := 0) (show List.Nodup (["card", "one"] : List Str) by decide +kernel) rfl (Or.inl rfl)), pts_nil, (pe_ix (k_ix_list (K := K)) (pv 1) (pv 0) (fun _ _ => rfl))⟩⟩)), ?_⟩
  obtain ⟨p, q', ns, ms, hp, hq, rfl, rfl, hm, hb, q⟩ := h
  walk_at "rd"
  refine ⟨⟨_, hq⟩, ?_⟩
  refine comp_list (xs := iL ms) (fun i => .int (ns.getD (ms.getD i 0).toNat 0)) (fun _ => true) (by rw [List.length_map]; exact lt_line hm) hq ?_ ?_
  · intro i v t acc ys N Kt hi hv hacc k1 _
    rw [List.getElem?_map] at hv
    cases ec : ms[i]? with
    | none => rw [ec] at hv; cases hv
    | some c =>
      rw [ec] at hv
      cases hv
      have b := hb c (List.mem_of_getElem? ec)
      walk_at "rd"
      refine ⟨p, _, _, _, rfl, rfl, (Same.new hacc _).seq hp, atI_int b.1 b.2, ?_⟩
      have := k1 (some (.int c)) rfl
      rw [show ms.getD i 0 = c by simp [List.getD, ec]] at this
      exact this
  · rw [filter_true]
    have e : ((List.range (iL ms).length).map fun i => V.int (ns.getD (ms.getD i 0).toNat 0)) = iL (M.lay ns ms) := by
      unfold M.lay
      apply List.ext_getElem?
      intro i
      by_cases h : i < ms.length <;> simp [h, List.getD]
    rw [e]
    exact q.made
def sp_l_riffled (K : PySem.W.Frag) : Sp := sp3 fun a b c H Q => ∃ (o p r : Addr) (os : List Int) (bs : List Bool) (ws : List Int) (n : Nat), SqL K H o (iL os) ∧ SqL K H p (bL bs) ∧ SqL K H r (iL ws) ∧ a = .ref o ∧ b = .ref p ∧ c = .ref r ∧ os.length = n ∧ M.Wd bs.length n ws ∧ n ≤ 1000 ∧ bs.length ≤ 1000 ∧ rNew (iL (M.lay os (M.drawn bs ws))) H Q
theorem ok_l_riffled (T : Txt K mg)  : Has P w K mg base (k + 1) "_law_riffled" ["_law_order_here", "_law_marks_here", "_law_word_here"] (sp_l_riffled K) := by
  refine T.f_l_riffled.has sc_l_riffled len3 (fun f cdv A outer s H vs Q E hr h => ?_)
  obtain ⟨a0, a1, a2, rfl, h⟩ := h
  refine ⟨_, pss_cons (ps_set (i := 3) sc_l_riffled.nd rfl (Or.inl rfl) (pe_lst pa_nil))
    (pss_cons (ps_set (i := 4) sc_l_riffled.nd rfl (Or.inl rfl) pe_int)
    (pss_cons (ps_for PassesOwn.never rfl (pi_range1 rfl T.z_range (pa_cons (pe_callB (k_len (K := K)) rfl T.z_len PySem.boot_len (pa_cons (pv 1) pa_nil)) pa_nil)) (pg_name (i := 5) sc_l_riffled.nd rfl (Or.inl rfl))
    (pss_cons (ps_set (i := 6) sc_l_riffled.nd rfl (Or.inl rfl) (k_bm (K := K) PySem.F.plainAttrs_list PySem.F.slot_list_count PySem.F.type_list_count (k_count (K := K)) (pv 2) (pa_cons (pv 5) pa_nil)))
      (pss_cons (ps_set (i := 7) sc_l_riffled.nd rfl (Or.inl rfl) (pe_slice (k_sl_list (K := K)) (pv 0) (po_some (pv 4)) (po_some (pe_op op_add (pv 4) (pv 6)))))
      (pss_cons (ps_if (pt_val (pe_ix (k_ix_list (K := K)) (pv 1) (pv 5) (fun _ _ => rfl)))
      (pss_one (ps_set (i := 7) sc_l_riffled.nd rfl (Or.inl rfl) (k_rev (K := K) (pv 7) (po_some (pe_un un_neg pe_int)))))
      (pss_nil))
      (pss_cons (ps_expr (k_bm (K := K) PySem.F.plainAttrs_list PySem.F.slot_list_append PySem.F.type_list_append mt_append (pv 3) (pa_cons (pv 7) pa_nil)))
      (pss_one (ps_set (i := 4) sc_l_riffled.nd rfl (Or.inl rfl) (pe_op op_add (pv 4) (pv 6)))))))))
    (pss_cons (ps_set (i := 8) sc_l_riffled.nd rfl (Or.inl rfl) (pe_lst pa_nil))
    (pss_cons (ps_for PassesOwn.never rfl (k_pi_list (K := K) (pv 2)) (pg_name (i := 5) sc_l_riffled.nd rfl (Or.inl rfl))
    (pss_cons (ps_expr (k_bm (K := K) PySem.F.plainAttrs_list PySem.F.slot_list_append PySem.F.type_list_append mt_append (pv 8) (pa_cons (pe_ix (k_ix_list (K := K)) (pe_ix (k_ix_list (K := K)) (pv 3) (pv 5) (fun _ _ => rfl)) pe_int (fun _ _ => rfl)) pa_nil)))
      (pss_one (ps_asg (pe_slice (k_sl_list (K := K)) (pe_ix (k_ix_list (K := K)) (pv 3) (pv 5) (fun _ _ => rfl)) (po_some pe_int) po_none) (pg_sub (pv 3) (pv 5) set_list)))))
    (pss_one (ps_ret (pv 8))))))), ?_⟩
  obtain ⟨o, p, r, os, bs, ws, n, ho, hp, hr', rfl, rfl, rfl, lo, W, hn, hb, q⟩ := h
  have hl2 : (bL bs).length = bs.length := List.length_map _
  have hl1 : (iL ws).length = n := by rw [List.length_map, W.len]
  walk_at "rd"
  intro Z hZ
  generalize e1 : upd H Z _ = H1
  obtain ⟨s1, eZ1⟩ := new_is hZ e1
  have hp1 := s1.seq hp
  clear e1
  walk_at "rd"
  rw [hl2, Int.toNat_natCast]
  refine for_range (fun i σ' H' => (∃ (adr : List Addr) (t5 t6 t7 t8 : Option V), σ' = [some (.ref o), some (.ref p), some (.ref r), some (.ref Z), some (.int (M.stt ws i : Nat)), t5, t6, t7, t8] ∧ Same H H' ∧ H' Z = some (.lst (adr.map V.ref)) ∧ adr.length = i ∧ ∀ (h : Nat) (a : Addr), adr[h]? = some a → H' a = some (.lst (iL (M.hc bs ws os h))) ∧ a ≠ Z) ∨ False)
    (.inl ⟨[], _, _, _, _, rfl, s1, eZ1, rfl, fun h a ha => by cases ha⟩) ?_ ?_
  · intro i σ' H' hi z
    obtain ⟨adr, t5, t6, t7, t8, rfl, sm, eZ, la, hA⟩ := z.resolve_right id
    rw [Int.zero_add (i : Int)]
    have m := M.stt_mono ws (show i + 1 ≤ bs.length from hi)
    rw [M.stt_all W.bd, W.len, M.stt] at m
    have hR := sm.seq hr'
    walk_at "rd"
    refine ⟨.inl ⟨rfl, _, hR⟩, ?_⟩
    walk_at "rd"
    refine ⟨r, _, _, rfl, rfl, hR, rfl, flat_ints ws, ?_⟩
    rw [count_ints]
    walk_at "rd"
    refine ⟨o, _, rfl, sm.seq ho, ?_⟩
    intro A hA0
    generalize e2 : upd H' A _ = H2
    obtain ⟨s2, eA⟩ := new_is hA0 e2
    clear e2
    rw [show List.count (i : Int) ws = M.cn ws i from rfl, cut_mid (by rw [List.length_map, lo]; omega), ← List.map_drop, ← List.map_take] at eA
    walk_at "rd"
    have hab : atI (bL bs) (i : Int) = some (.bl (bs.getD i false)) := by
      have := atI_bl (bs := bs) (k := (i : Int)) (by omega) (by omega)
      rw [Int.toNat_natCast] at this
      exact this
    refine ⟨p, _, _, _, rfl, rfl, s2.seq (sm.seq hp), hab, ?_⟩
    walk_at "rd"
    refine ite2 (fun c => ?_) (fun c => ?_)
    · walk_at "rd"
      refine ⟨A, _, rfl, SqL.of eA, ?_⟩
      intro C hC'
      generalize e3 : upd H2 C _ = HC
      obtain ⟨s3, eC⟩ := new_is hC' e3
      have sC : Same H HC ∧ Same H' HC := ⟨sm.trans (s2.trans s3), s2.trans s3⟩
      have hC : H' C = none := s2.free hC'
      rw [← List.map_reverse, show ((os.drop (M.stt ws i)).take (M.cn ws i)).reverse = M.hc bs ws os i by unfold M.hc; rw [if_pos c]] at eC
      have eC' : HC C = some (.lst (iL (M.hc bs ws os i))) := eC
      have eZ' : HC Z = some (.lst (adr.map V.ref)) := sC.2 _ _ eZ
      have hCZ : C ≠ Z := fun e => ne_of_none eZ hC e.symm
      have smC : Same H HC := sC.1
      walk_at "rd"
      refine ⟨.inl ⟨rfl, _, SqL.of eZ'⟩, ?_⟩
      walk_at "rd"
      refine ⟨Z, _, _, rfl, rfl, eZ', by rw [List.length_map]; exact lt_line' (by omega), ?_⟩
      generalize e9 : upd HC Z _ = H9
      obtain ⟨s9, eZ9⟩ := set_is hZ smC e9
      walk_at "rd"
      refine .inl ⟨adr ++ [C], _, _, _, _, rfl, s9, by rw [eZ9]; simp, by simp; omega, fun h a ha => ?_⟩
      rcases Nat.lt_or_ge h adr.length with hh | hh
      · rw [List.getElem?_append_left hh] at ha
        obtain ⟨q1, q2⟩ := hA h a ha
        exact ⟨by rw [← e9, upd_ne q2]; exact sC.2 _ _ q1, q2⟩
      · rw [List.getElem?_append_right hh] at ha
        have eh : h - adr.length = 0 := by
          rcases Nat.eq_zero_or_pos (h - adr.length) with z | z
          · exact z
          · rw [List.getElem?_eq_none (by simp; omega)] at ha; cases ha
        rw [eh] at ha
        cases ha
        have : h = i := by omega
        subst this
        exact ⟨by rw [← e9, upd_ne hCZ]; exact eC', hCZ⟩
    · have sC : Same H H2 ∧ Same H' H2 := ⟨sm.trans s2, s2⟩
      have hC := hA0
      have eC : H2 A = some (.lst (iL (M.hc bs ws os i))) := by rw [eA]; unfold M.hc; rw [if_neg c]
      have eC' : H2 A = some (.lst (iL (M.hc bs ws os i))) := eC
      have eZ' : H2 Z = some (.lst (adr.map V.ref)) := sC.2 _ _ eZ
      have hCZ : A ≠ Z := fun e => ne_of_none eZ hC e.symm
      have smC : Same H H2 := sC.1
      walk_at "rd"
      refine ⟨.inl ⟨rfl, _, SqL.of eZ'⟩, ?_⟩
      walk_at "rd"
      refine ⟨Z, _, _, rfl, rfl, eZ', by rw [List.length_map]; exact lt_line' (by omega), ?_⟩
      generalize e9 : upd H2 Z _ = H9
      obtain ⟨s9, eZ9⟩ := set_is hZ smC e9
      walk_at "rd"
      refine .inl ⟨adr ++ [A], _, _, _, _, rfl, s9, by rw [eZ9]; simp, by simp; omega, fun h a ha => ?_⟩
      rcases Nat.lt_or_ge h adr.length with hh | hh
      · rw [List.getElem?_append_left hh] at ha
        obtain ⟨q1, q2⟩ := hA h a ha
        exact ⟨by rw [← e9, upd_ne q2]; exact sC.2 _ _ q1, q2⟩
      · rw [List.getElem?_append_right hh] at ha
        have eh : h - adr.length = 0 := by
          rcases Nat.eq_zero_or_pos (h - adr.length) with z | z
          · exact z
          · rw [List.getElem?_eq_none (by simp; omega)] at ha; cases ha
        rw [eh] at ha
        cases ha
        have : h = i := by omega
        subst this
        exact ⟨by rw [← e9, upd_ne hCZ]; exact eC', hCZ⟩
  · intro σ' H' z
    obtain ⟨adr, t5, t6, t7, t8, rfl, sm, eZ, la, hA⟩ := z.resolve_right id
    walk_at "rd"
    intro O hO
    generalize e2 : upd H' O _ = H2
    obtain ⟨s2, eO2⟩ := new_is hO e2
    clear e2
    have hO0 : H O = none := sm.free hO
    have hOZ : O ≠ Z := fun e => ne_of_none eZ hO e.symm
    walk_at "rd"
    refine ⟨⟨_, (sm.trans s2).seq hr'⟩, ?_⟩
    refine for_list (xs := iL ws) (fun i σ' H' => (∃ (adr : List Addr) (t4 t5 t6 t7 : Option V), σ' = [some (.ref o), some (.ref p), some (.ref r), some (.ref Z), t4, t5, t6, t7, some (.ref O)] ∧ Same H H' ∧ H' Z = some (.lst (adr.map V.ref)) ∧ adr.length = bs.length ∧ (∀ (h : Nat) (a : Addr), adr[h]? = some a → H' a = some (.lst (iL ((M.hc bs ws os h).drop ((ws.take i).count (h : Int))))) ∧ a ≠ Z ∧ a ≠ O) ∧ H' O = some (.lst (iL ((List.range i).map fun p => os.getD (M.dr bs ws p) 0)))) ∨ False)
      (.inl ⟨adr, _, _, _, _, rfl, sm.trans s2, s2 _ _ eZ, la, fun h a ha => ⟨by rw [s2 _ _ (hA h a ha).1]; simp, (hA h a ha).2, ne_of_none (hA h a ha).1 hO⟩, eO2⟩) ?_ ?_ ?_
    · intro i σ' H' _ z
      obtain ⟨adr, t4, t5, t6, t7, rfl, sm, _⟩ := z.resolve_right id
      exact sm.seq hr'
    · intro i x σ' H' hx z
      obtain ⟨adr, t4, t5, t6, t7, rfl, sm, eZ, la, hA, eO⟩ := z.resolve_right id
      have hin : i < n := by
        have := (List.getElem?_eq_some_iff.mp hx).1
        rw [hl1] at this
        exact this
      have c := M.hp_cast W hin
      have ex : x = .int ((M.hp ws i : Nat) : Int) := by
        rw [List.getElem?_map, List.getElem?_eq_getElem (by rw [W.len]; exact hin)] at hx
        rw [c.1, ← Option.some.inj hx]
        simp [List.getD, List.getElem?_eq_getElem (show i < ws.length by rw [W.len]; exact hin)]
      subst ex
      obtain ⟨a, ha⟩ : ∃ a, adr[M.hp ws i]? = some a := ⟨_, List.getElem?_eq_getElem (by rw [la]; exact c.2)⟩
      obtain ⟨ea, haZ, haO⟩ := hA _ a ha
      have ek : (ws.take i).count ((M.hp ws i : Nat) : Int) = M.kk ws i := by rw [c.1]; rfl
      rw [ek] at ea
      have hat : atI (adr.map V.ref) ((M.hp ws i : Nat) : Int) = some (.ref a) := atV (by omega) (by rw [Int.toNat_natCast, List.getElem?_map, ha]; rfl)
      have hat0 : atI (iL ((M.hc bs ws os (M.hp ws i)).drop (M.kk ws i))) 0 = some (.int (os.getD (M.dr bs ws i) 0)) := atV (by omega) (by
        rw [show (0 : Int).toNat = 0 from rfl, List.getElem?_map, List.getElem?_drop, Nat.add_zero, M.hc_get W lo hin]; rfl)
      have hix : ixN (adr.map V.ref).length ((M.hp ws i : Nat) : Int) = some (M.hp ws i) := by
        unfold ixN
        rw [if_pos (by omega), if_pos (by rw [List.length_map, la]; omega), Int.toNat_natCast]
      walk_at "rd"
      refine ⟨.inl ⟨rfl, _, SqL.of eO⟩, ?_⟩
      walk_at "rd"
      refine ⟨Z, _, _, _, rfl, rfl, SqL.of eZ, hat, ?_⟩
      walk_at "rd"
      refine ⟨a, _, _, _, rfl, rfl, SqL.of ea, hat0, ?_⟩
      walk_at "rd"
      refine ⟨O, _, _, rfl, rfl, eO, by rw [List.length_map, List.length_map, List.length_range]; exact lt_line' (by omega), ?_⟩
      generalize e4 : upd H' O _ = H4
      obtain ⟨s4, eO4⟩ := set_is hO0 sm e4
      have eZ4 : H4 Z = some (.lst (adr.map V.ref)) := by rw [← e4, upd_ne (Ne.symm hOZ)]; exact eZ
      have ea4 : H4 a = some (.lst (iL ((M.hc bs ws os (M.hp ws i)).drop (M.kk ws i)))) := by rw [← e4, upd_ne haO]; exact ea
      have k4 : ∀ b u, b ≠ O → H' b = some u → H4 b = some u := fun b u hb e => by rw [← e4, upd_ne hb]; exact e
      clear e4
      walk_at "rd"
      refine ⟨Z, _, _, _, rfl, rfl, SqL.of eZ4, hat, ?_⟩
      walk_at "rd"
      refine ⟨a, _, rfl, SqL.of ea4, ?_⟩
      intro B hB
      generalize e5 : upd H4 B _ = H5
      obtain ⟨s5, eB⟩ := new_is hB e5
      clear e5
      rw [cut_drop (by omega), ← List.map_drop, List.drop_drop, show (1 : Int).toNat = 1 from rfl] at eB
      have hBZ : B ≠ Z := fun e => ne_of_none eZ4 hB e.symm
      have hBO : B ≠ O := fun e => ne_of_none eO4 hB e.symm
      walk_at "rd"
      refine ⟨Z, _, _, _, rfl, rfl, s5 _ _ eZ4, hix, ?_⟩
      generalize e6 : upd H5 Z _ = H6
      obtain ⟨s6, eZ6⟩ := set_is hZ (s4.trans s5) e6
      have hl : i < ws.length := by rw [W.len]; exact hin
      refine .inl ⟨adr.set (M.hp ws i) B, _, _, _, _, rfl, s6, by rw [eZ6]; simp [List.map_set], by rw [List.length_set]; exact la, fun h b hb => ?_, ?_⟩
      · rw [M.take_succ_count hl, ← c.1]
        by_cases e : M.hp ws i = h
        · subst e
          rw [List.getElem?_set_self (by rw [la]; exact c.2)] at hb
          cases hb
          refine ⟨?_, hBZ, hBO⟩
          rw [if_pos rfl, ek, ← e6, upd_ne hBZ]
          exact eB
        · rw [List.getElem?_set_ne e] at hb
          obtain ⟨q1, q2, q3⟩ := hA h b hb
          refine ⟨?_, q2, q3⟩
          rw [if_neg (by omega), ← e6, upd_ne q2]
          exact s5 _ _ (k4 _ _ q3 q1)
      · rw [← e6, upd_ne hOZ, s5 _ _ eO4, List.range_succ, List.map_append]
        simp
    · intro σ' H' z
      obtain ⟨adr, t4, t5, t6, t7, rfl, sm, eZ, la, hA, eO⟩ := z.resolve_right id
      walk_at "rd"
      refine q O H' sm hO0 ?_
      rw [eO, M.lay_drawn W, List.length_map, W.len]
end
end K25
set_option Elab.async false
set_option linter.all false
set_option maxRecDepth 100000
set_option maxHeartbeats 4000000
namespace K25
open PySem L2
local macro_rules | `(tactic| walk_at "sq") => `(tactic| first | assumption | (refine SqL.of ?_; assumption) | (refine SqL.of ?_; exact upd_same))
local macro_rules | `(tactic| walk_at "cj") => `(tactic| first | (with_reducible show (_ : Int) ≤ _; omega) | (with_reducible show (_ : Int) < _; omega) | exact rfl | assumption | omega | decide | (unfold CDiv; omega) | (unfold CPow; decide) | (show (0 : Int) < _; first | omega | decide) | (show _ ≤ sizeLine; rw [sizeLine_eq]; simp; done) | (refine mulS1 ?_ ?_ <;> omega) | (refine mulS2 ?_ ?_ <;> omega))
local macro_rules | `(tactic| walk_at "rd1") => `(tactic| first | refine ⟨_, rfl, ?_⟩ | refine ⟨_, _, rfl, rfl, ?_⟩ | refine ⟨_, _, rfl, ?_⟩ | refine ⟨_, _, _, rfl, ?_⟩ | refine ⟨_, _, _, _, rfl, ?_⟩ | refine ⟨_, _, _, _, _, rfl, ?_⟩ | refine ⟨_, _, rfl, .inl (by walk_at "sq"), ?_⟩ | refine And.intro (by walk_at "cj") ?_)
local macro_rules | `(tactic| walk_at "rd") => `(tactic| repeat walk_at "rd1")

section
variable {P : Program} {w : World} {K : PySem.W.Frag} {mg : Str → Option Value} {base : Heap} {k : Nat}
def sp_each_above_next (K : PySem.W.Frag) : Sp := sp1 fun a H Q => ∃ (p : Addr) (ns : List Int) (n : Nat), SqL K H p (iL ns) ∧ a = .ref p ∧ M.Ord n ns ∧ (1 ≤ n ∧ n ≤ 1000) ∧ rNew (bL (M.abv n ns)) H Q
theorem ok_each_above_next (T : Txt K mg) (g_places : Has P w K mg base k "places" ["order"] (sp_places K)) : Has P w K mg base (k + 1) "each_above_next" ["order"] (sp_each_above_next K) := by
  refine T.f_each_above_next.has sc_each_above_next len1 (fun f cdv A outer s H vs Q E hr h => ?_)
  obtain ⟨a0, rfl, h⟩ := h
  refine ⟨_, pss_cons (ps_set (i := 1) sc_each_above_next.nd rfl (Or.inr rfl) (pe_callH g_places hr (pa_cons (pv 0) pa_nil)))
    (pss_one (ps_ret (pe_op op_cat (pe_comp (vars := ["card"]) (caps := [1]) (CompScope.of (outer := defScope s_each_above_next) (N := ["order", "place"]) rfl rfl ⟨by decide +kernel⟩) rfl (pi_range1 rfl T.z_range (pa_cons (pe_op op_sub (pe_callB (k_len (K := K)) rfl T.z_len PySem.boot_len (pa_cons (pv 0) pa_nil)) pe_int) pa_nil)) ⟨fun _ _ _ _ => ⟨(pg_name (i := 0) (show List.Nodup (["card", "place"] : List Str) by decide +kernel) rfl (Or.inl rfl)), pts_nil, (pe_cmpR op_lt (pe_ix (k_ix_list (K := K)) (pv 1) (pv 0) (fun _ _ => rfl)) (pe_ix (k_ix_list (K := K)) (pv 1) (pe_op op_add (pv 0) pe_int) (fun _ _ => rfl)) (nomark _))⟩⟩) (pe_lst (pa_cons pe_bl pa_nil))))), ?_⟩
  obtain ⟨p, ns, n, hp, rfl, o, ⟨h1, h2⟩, q⟩ := h
  have hl : (iL ns).length = n := by rw [List.length_map, o.len]
  walk_at "rd"
  refine ⟨p, ns, n, hp, rfl, o, h2, fun z H1 s1 hz ez => ?_⟩
  have hp1 := s1.seq hp
  walk_at "rd"
  rw [hl, show ((n : Int) - 1).toNat = n - 1 by omega]
  refine comp_range (fun c => .bl (decide ((M.plc n ns).getD c 0 < (M.plc n ns).getD (c + 1) 0))) (fun _ => true) (lt_line (by omega)) ?_ ?_
  · intro i t acc ys N Kt hi hacc k1 _
    have SZ : SqL K (upd H1 acc (.lst ys)) z (iL (M.plc n ns)) := SqL.of ((Same.new hacc (.lst ys)) _ _ ez)
    have k2 := k1 (some (.int (0 + i))) rfl
    rw [Int.zero_add (i : Int)] at k2 ⊢
    walk_at "rd"
    refine ⟨z, _, _, _, rfl, rfl, SZ, atI_int (by omega) (by rw [M.plc_length]; omega), ?_⟩
    walk_at "rd"
    refine ⟨z, _, _, _, rfl, rfl, SZ, atI_int (by omega) (by rw [M.plc_length]; omega), ?_⟩
    walk_at "rd"
    rw [Int.toNat_natCast, show ((i : Int) + 1).toNat = i + 1 by omega]
    exact k2
  rw [filter_true]
  intro A hA
  generalize e2 : upd H1 A _ = H2
  obtain ⟨s2, eA⟩ := new_is hA e2
  walk_at "rd"
  intro B hB
  generalize e3 : upd H2 B _ = H3
  obtain ⟨s3, eB⟩ := new_is hB e3
  clear e2 e3
  refine ⟨A, B, _, _, rfl, rfl, s3 _ _ eA, eB, lt_line (by simp; omega), ?_⟩
  intro r hr
  have s03 := s1.trans (s2.trans s3)
  refine q r _ (s03.put (s03.free hr)) (s03.free hr) ?_
  rw [upd_same, M.abv, bL, List.map_append, List.map_map]
  rfl
def sp_least_for_next (K : PySem.W.Frag) : Sp := sp3 fun a b c H Q => ∃ (ab : Bool) (p : Addr) (bs : List Bool) (h : Nat), a = .bl ab ∧ b = .ref p ∧ c = .int h ∧ SqL K H p (bL bs) ∧ h < bs.length ∧ Q (.int ((M.lf ab bs h : Nat) : Int)) H
theorem ok_least_for_next (T : Txt K mg)  : Has P w K mg base (k + 1) "least_for_next" ["above_next", "marks", "heap"] (sp_least_for_next K) := by
  refine T.f_least_for_next.has sc_least_for_next len3 (fun f cdv A outer s H vs Q E hr h => ?_)
  obtain ⟨a0, a1, a2, rfl, h⟩ := h
  refine ⟨_, pss_one (ps_ret (pe_ifExp (pt_cmpR op_ne (pv 0) (pe_ix (k_ix_list (K := K)) (pv 1) (pv 2) (fun _ _ => rfl)) (nomark _)) (pv 2) (pe_op op_add (pv 2) pe_int))), ?_⟩
  obtain ⟨ab, p, bs, h, rfl, rfl, rfl, hp, hh, q⟩ := h
  have hab : atI (bL bs) (h : Int) = some (.bl (bs.getD h false)) := by
    have := atI_bl (bs := bs) (k := (h : Int)) (by omega) (by omega)
    rw [Int.toNat_natCast] at this
    exact this
  walk_at "rd"
  refine ⟨p, _, _, _, rfl, rfl, hp, hab, ?_⟩
  walk_at "rd"
  have xo : (!decide (V.bl ab = V.bl (bs.getD h false))) = (ab != bs.getD h false) := by cases ab <;> cases bs.getD h false <;> decide
  rw [xo]
  unfold M.lf at q
  refine ite2 (fun c => ?_) (fun c => ?_)
  · rw [if_pos c] at q
    exact ⟨_, rfl, q⟩
  · rw [if_neg c] at q
    walk_at "rd"
    rw [show ((h + 1 : Nat) : Int) = (h : Int) + 1 by omega] at q
    exact q
/-- a row of the table: by heaps -/
def rwI (bs av : List Bool) : List Int := (List.range (bs.length + 1)).map fun h => ((M.wy bs av h : Nat) : Int)
theorem rwI_length (bs av : List Bool) : (rwI bs av).length = bs.length + 1 := by simp [rwI]
theorem rwI_getD {bs av : List Bool} {h : Nat} (hh : h ≤ bs.length) : (rwI bs av).getD h 0 = ((M.wy bs av h : Nat) : Int) := by
  have : h < bs.length + 1 := by omega
  simp [rwI, List.getD, this]
/-- the row as it is being filled from behind: heaps from j on stand -/
def rwF (bs av : List Bool) (j : Nat) : List Int := (List.range (bs.length + 1)).map fun h => if j ≤ h then ((M.wy bs av h : Nat) : Int) else 0
theorem rwF_length (bs av : List Bool) (j : Nat) : (rwF bs av j).length = bs.length + 1 := by simp [rwF]
theorem rwF_getD {bs av : List Bool} {j h : Nat} (hh : h ≤ bs.length) (hj : j ≤ h) : (rwF bs av j).getD h 0 = ((M.wy bs av h : Nat) : Int) := by
  have : h < bs.length + 1 := by omega
  simp [rwF, List.getD, this, hj]
theorem rwF_zero (bs av : List Bool) : rwF bs av 0 = rwI bs av := by simp [rwF, rwI]
theorem rwF_start (bs : List Bool) (ab : Bool) (r : List Bool) : rwF bs (ab :: r) bs.length = List.replicate (bs.length + 1) 0 := by
  apply List.ext_getElem?
  intro i
  by_cases h : i < bs.length + 1
  · simp only [rwF, List.getElem?_map, List.getElem?_range h, List.getElem?_replicate, h, if_true, Option.map_some]
    congr 1
    split
    · rw [M.wy_stop (by omega)]; rfl
    · rfl
  · rw [List.getElem?_eq_none (by rw [rwF_length]; omega), List.getElem?_eq_none (by simp; omega)]
theorem rwF_step {bs : List Bool} {ab : Bool} {r : List Bool} {j : Nat} (hj : j < bs.length) : (rwF bs (ab :: r) (j + 1)).set j (((M.wy bs (ab :: r) j : Nat) : Int)) = rwF bs (ab :: r) j := by
  apply List.ext_getElem?
  intro i
  by_cases h : i < bs.length + 1
  · by_cases e : j = i
    · subst e
      rw [List.getElem?_set_self (by rw [rwF_length]; omega)]
      simp only [rwF, List.getElem?_map, List.getElem?_range h, Option.map_some]
      simp
    · rw [List.getElem?_set_ne e]
      simp only [rwF, List.getElem?_map, List.getElem?_range h, Option.map_some]
      by_cases q : j + 1 ≤ i
      · rw [if_pos q, if_pos (by omega)]
      · rw [if_neg q, if_neg (by omega)]
  · rw [List.getElem?_eq_none (by rw [List.length_set, rwF_length]; omega), List.getElem?_eq_none (by rw [rwF_length]; omega)]
theorem range_down (n : Nat) (h : n ≤ 1000) : Builtin.Range.small ((n : Int) - 1) (-1) (-1) = true ∧ Builtin.Range.rangeSize ((n : Int) - 1) (-1) (-1) = (n : Int) := by
  have e : Builtin.Range.rangeSize ((n : Int) - 1) (-1) (-1) = (n : Int) := by
    unfold Builtin.Range.rangeSize
    simp
    omega
  refine ⟨?_, e⟩
  unfold Builtin.Range.small
  rw [e]
  simp [Builtin.Range.rangeFitsLong]
  omega
def sp_counted (K : PySem.W.Frag) : Sp := sp2 fun a b H Q => ∃ (p r : Addr) (av bs : List Bool) (n : Nat), SqL K H p (bL av) ∧ SqL K H r (bL bs) ∧ a = .ref p ∧ b = .ref r ∧ av.length = n ∧ n ≤ 1000 ∧ bs.length ≤ 900 ∧
  ∀ (T : Addr) (H' : Hp) (adr : List Addr), Same H H' → H T = none → H' T = some (.lst (adr.map V.ref)) → adr.length = n → (∀ (c : Nat) (a : Addr), adr[c]? = some a → H' a = some (.lst (iL (rwI bs (av.drop c))))) → Q (.ref T) H'
theorem rep1 : ∀ (v : Int) (n : Nat), (List.replicate n [V.int v]).flatten = iL (List.replicate n v)
  | _, 0 => rfl
  | v, n + 1 => by rw [List.replicate_succ, List.flatten_cons, rep1 v n]; rfl
theorem rwI_nil (bs : List Bool) : rwI bs [] = List.replicate (bs.length + 1) 1 := by
  apply List.ext_getElem?
  intro i
  by_cases h : i < bs.length + 1
  · simp [rwI, h, M.wy]
  · rw [List.getElem?_eq_none (by rw [rwI_length]; omega), List.getElem?_eq_none (by simp; omega)]
theorem ok_counted (T : Txt K mg) (g_least_for_next : Has P w K mg base k "least_for_next" ["above_next", "marks", "heap"] (sp_least_for_next K)) : Has P w K mg base (k + 1) "counted" ["above_next", "marks"] (sp_counted K) := by
  refine T.f_counted.has sc_counted len2 (fun f cdv A outer s H vs Q E hr h => ?_)
  obtain ⟨a0, a1, rfl, h⟩ := h
  refine ⟨_, pss_cons (ps_set (i := 2) sc_counted.nd rfl (Or.inl rfl) (pe_callB (k_len (K := K)) rfl T.z_len PySem.boot_len (pa_cons (pv 1) pa_nil)))
    (pss_cons (ps_set (i := 3) sc_counted.nd rfl (Or.inl rfl) (pe_op op_rep (pe_lst (pa_cons pe_int pa_nil)) (pe_op op_add (pv 2) pe_int)))
    (pss_cons (ps_set (i := 4) sc_counted.nd rfl (Or.inl rfl) (pe_lst pa_nil))
    (pss_cons (ps_for PassesOwn.never rfl (pi_range3 rfl T.z_range (pa_cons (pe_op op_sub (pe_callB (k_len (K := K)) rfl T.z_len PySem.boot_len (pa_cons (pv 0) pa_nil)) pe_int) (pa_cons (pe_un un_neg pe_int) (pa_cons (pe_un un_neg pe_int) pa_nil)))) (pg_name (i := 5) sc_counted.nd rfl (Or.inl rfl))
    (pss_cons (ps_set (i := 6) sc_counted.nd rfl (Or.inl rfl) (pe_op op_rep (pe_lst (pa_cons pe_int pa_nil)) (pe_op op_add (pv 2) pe_int)))
      (pss_cons (ps_for PassesOwn.never rfl (pi_range3 rfl T.z_range (pa_cons (pe_op op_sub (pv 2) pe_int) (pa_cons (pe_un un_neg pe_int) (pa_cons (pe_un un_neg pe_int) pa_nil)))) (pg_name (i := 7) sc_counted.nd rfl (Or.inl rfl))
      (pss_one (ps_asg (pe_op op_add (pe_ix (k_ix_list (K := K)) (pv 6) (pe_op op_add (pv 7) pe_int) (fun _ _ => rfl)) (pe_ix (k_ix_list (K := K)) (pv 3) (pe_callH g_least_for_next hr (pa_cons (pe_ix (k_ix_list (K := K)) (pv 0) (pv 5) (fun _ _ => rfl)) (pa_cons (pv 1) (pa_cons (pv 7) pa_nil)))) (fun _ _ => rfl))) (pg_sub (pv 6) (pv 7) set_list))))
      (pss_cons (ps_expr (k_bm (K := K) PySem.F.plainAttrs_list PySem.F.slot_list_append PySem.F.type_list_append mt_append (pv 4) (pa_cons (pv 6) pa_nil)))
      (pss_one (ps_set (i := 3) sc_counted.nd rfl (Or.inl rfl) (pv 6)))))))
    (pss_one (ps_ret (k_rev (K := K) (pv 4) (po_some (pe_un un_neg pe_int)))))))), ?_⟩
  obtain ⟨p, r, av, bs, n, hp, hr', rfl, rfl, ln, hn, hb, q⟩ := h
  have hl1 : (bL av).length = n := by rw [List.length_map, ln]
  have hl2 : (bL bs).length = bs.length := List.length_map _
  walk_at "rd"
  intro z0 hz0
  generalize e1 : upd H z0 _ = H1
  obtain ⟨s1, ez0⟩ := new_is hz0 e1
  clear e1
  walk_at "rd"
  refine ⟨z0, _, _, rfl, rfl, ez0, by omega, by omega, ?_, ?_⟩
  · rw [sizeLine_eq]; simp; omega
  intro B0 hB0
  generalize e2 : upd H1 B0 _ = H2
  obtain ⟨s2, eB0⟩ := new_is hB0 e2
  clear e2
  rw [rep1, hl2, show (((bs.length : Int) + 1)).toNat = bs.length + 1 by omega, ← rwI_nil] at eB0
  walk_at "rd"
  intro T hT
  generalize e3 : upd H2 T _ = H3
  obtain ⟨s3, eT3⟩ := new_is hT e3
  clear e3
  have s03 := s1.trans (s2.trans s3)
  have hT0 : H T = none := (s1.trans s2).free hT
  have hp3 := s03.seq hp
  walk_at "rd"
  rw [hl1, hl2]
  obtain ⟨rd1, rd2⟩ := range_down n hn
  refine ⟨⟨rd1, by rw [rd2]; omega⟩, ?_⟩
  rw [rd2, Int.toNat_natCast]
  refine for_rangeS (fun i σ' H' => (∃ (B : Addr) (adr : List Addr) (t5 t6 t7 : Option V), σ' = [some (.ref p), some (.ref r), some (.int (bs.length : Int)), some (.ref B), some (.ref T), t5, t6, t7] ∧ Same H H' ∧ H' B = some (.lst (iL (rwI bs (av.drop (n - i))))) ∧ H' T = some (.lst (adr.map V.ref)) ∧ adr.length = i ∧ B ≠ T ∧ ∀ (j : Nat) (a : Addr), adr[j]? = some a → a ≠ T ∧ H' a = some (.lst (iL (rwI bs (av.drop (n - 1 - j)))))) ∨ False)
    (.inl ⟨B0, [], _, _, _, rfl, s03, ?_, eT3, rfl, ne_of_none eB0 hT, fun j a h => by cases h⟩) ?_ ?_
  · rw [s3 _ _ eB0, Nat.sub_zero, List.drop_of_length_le (by omega)]
  · intro i σ' H' hi z
    obtain ⟨B, adr, t5, t6, t7, rfl, sm, eB, eT, la, hBT, hA⟩ := z.resolve_right id
    have ecard : ((n : Int) - 1 + (i : Int) * -1) = ((n - 1 - i : Nat) : Int) := by omega
    rw [ecard]
    have hci : n - 1 - i < av.length := by omega
    have edrop : av.drop (n - 1 - i) = av[n - 1 - i] :: av.drop (n - i) := by
      rw [List.drop_eq_getElem_cons hci]
      congr 2
      omega
    have hac : atI (bL av) ((n - 1 - i : Nat) : Int) = some (.bl av[n - 1 - i]) := atV (by omega) (by rw [Int.toNat_natCast, List.getElem?_map, List.getElem?_eq_getElem hci]; rfl)
    generalize av[n - 1 - i] = ab at edrop hac
    generalize av.drop (n - i) = rs at edrop eB
    walk_at "rd"
    intro y0 hy0
    generalize e4 : upd H' y0 _ = H4
    obtain ⟨s4, ey0⟩ := new_is hy0 e4
    clear e4
    walk_at "rd"
    refine ⟨y0, _, _, rfl, rfl, ey0, by omega, by omega, ?_, ?_⟩
    · rw [sizeLine_eq]; simp; omega
    intro R hR
    generalize e5 : upd H4 R _ = H5
    obtain ⟨s5, eR5⟩ := new_is hR e5
    clear e5
    rw [rep1, show (((bs.length : Int) + 1)).toNat = bs.length + 1 by omega, ← rwF_start bs ab rs] at eR5
    have hR' : H' R = none := s4.free hR
    have s45 := s4.trans s5
    have hRT : R ≠ T := fun e => ne_of_none eT hR' e.symm
    have hRB : R ≠ B := fun e => ne_of_none eB hR' e.symm
    walk_at "rd"
    obtain ⟨rb1, rb2⟩ := range_down bs.length (by omega)
    refine ⟨⟨rb1, by rw [rb2]; omega⟩, ?_⟩
    rw [rb2, Int.toNat_natCast]
    refine for_rangeS (fun j σ2 H6 => (∃ (t7 : Option V), σ2 = [some (.ref p), some (.ref r), some (.int (bs.length : Int)), some (.ref B), some (.ref T), some (.int ((n - 1 - i : Nat) : Int)), some (.ref R), t7] ∧ Same H' H6 ∧ H6 R = some (.lst (iL (rwF bs (ab :: rs) (bs.length - j))))) ∨ False)
      (.inl ⟨_, rfl, s45, by rw [eR5, Nat.sub_zero]⟩) ?_ ?_
    · intro j σ2 H6 hj z
      obtain ⟨t7, rfl, s6, eR⟩ := z.resolve_right id
      have eheap : ((bs.length : Int) - 1 + (j : Int) * -1) = ((bs.length - 1 - j : Nat) : Int) := by omega
      rw [eheap]
      generalize hx : bs.length - 1 - j = x
      have hxb : x < bs.length := by omega
      have hxj : bs.length - j = x + 1 := by omega
      rw [hxj] at eR
      have hlf : M.lf ab bs x ≤ bs.length := by unfold M.lf; split <;> omega
      have sm6 := sm.trans s6
      walk_at "rd"
      refine ⟨R, _, _, _, rfl, rfl, SqL.of eR, atI_int (by omega) (by rw [rwF_length]; omega), ?_⟩
      walk_at "rd"
      refine ⟨p, _, _, _, rfl, rfl, sm6.seq hp, hac, ?_⟩
      walk_at "rd"
      refine ⟨ab, r, bs, x, rfl, rfl, rfl, sm6.seq hr', hxb, ?_⟩
      refine ⟨B, _, _, _, rfl, rfl, SqL.of (s6 _ _ eB), atI_int (by omega) (by rw [rwI_length]; omega), ?_⟩
      walk_at "rd"
      refine ⟨R, _, _, x, rfl, rfl, eR, ?_, ?_⟩
      · unfold ixN
        rw [if_pos (by omega), if_pos (by rw [List.length_map, rwF_length]; omega), Int.toNat_natCast]
      refine .inl ⟨_, rfl, s6.put hR', ?_⟩
      rw [upd_same, show bs.length - (j + 1) = x by omega, ← rwF_step hxb]
      rw [Int.toNat_natCast, show ((x : Int) + 1).toNat = x + 1 by omega, rwF_getD (by omega) (Nat.le_refl _), rwI_getD hlf, M.wy_step hxb]
      refine congrArg some (congrArg HO.lst ?_)
      refine Eq.trans ?_ List.map_set.symm
      exact congrArg (List.set _ x) (congrArg V.int (by omega))
    · intro σ2 H6 z
      obtain ⟨t7, rfl, s6, eR⟩ := z.resolve_right id
      rw [Nat.sub_self, rwF_zero, ← edrop] at eR
      walk_at "rd"
      refine ⟨.inl ⟨rfl, _, SqL.of (s6 _ _ eT)⟩, ?_⟩
      walk_at "rd"
      refine ⟨T, _, _, rfl, rfl, s6 _ _ eT, by rw [List.length_map]; exact lt_line' (by omega), ?_⟩
      generalize e7 : upd H6 T _ = H7
      obtain ⟨s7, eT7⟩ := set_is hT0 (sm.trans s6) e7
      walk_at "rd"
      refine .inl ⟨R, adr ++ [R], _, _, _, rfl, s7, ?_, by rw [eT7]; simp, by simp; omega, hRT, fun j' a ha => ?_⟩
      · rw [← e7, upd_ne hRT, eR, show n - (i + 1) = n - 1 - i by omega]
      · rcases Nat.lt_or_ge j' adr.length with hh | hh
        · rw [List.getElem?_append_left hh] at ha
          obtain ⟨q1, q2⟩ := hA j' a ha
          exact ⟨q1, by rw [← e7, upd_ne q1]; exact s6 _ _ q2⟩
        · rw [List.getElem?_append_right hh] at ha
          have eh : j' - adr.length = 0 := by
            rcases Nat.eq_zero_or_pos (j' - adr.length) with z | z
            · exact z
            · rw [List.getElem?_eq_none (by simp; omega)] at ha; cases ha
          rw [eh] at ha
          cases ha
          have : j' = i := by omega
          subst this
          exact ⟨hRT, by rw [← e7, upd_ne hRT]; exact eR⟩
  · intro σ' H' z
    obtain ⟨B, adr, t5, t6, t7, rfl, sm, eB, eT, la, hBT, hA⟩ := z.resolve_right id
    walk_at "rd"
    refine ⟨T, _, rfl, SqL.of eT, ?_⟩
    intro T2 hT2
    refine q T2 _ adr.reverse (sm.put (sm.free hT2)) (sm.free hT2) (by rw [upd_same]; simp) (by simp; omega) fun c a ha => ?_
    have hc : c < adr.length := by
      have := (List.getElem?_eq_some_iff.mp ha).1
      simpa using this
    rw [List.getElem?_reverse hc] at ha
    obtain ⟨q1, q2⟩ := hA _ a ha
    rw [upd_ne (ne_of_none q2 hT2), q2, show n - 1 - (adr.length - 1 - c) = c by omega]
def sp_how_many (K : PySem.W.Frag) : Sp := sp2 fun a b H Q => ∃ (p r : Addr) (ns : List Int) (bs : List Bool) (n : Nat), SqL K H p (iL ns) ∧ SqL K H r (bL bs) ∧ a = .ref p ∧ b = .ref r ∧ M.Ord n ns ∧ (1 ≤ n ∧ n ≤ 1000) ∧ bs.length ≤ 900 ∧ ∀ H', Same H H' → Q (.int ((M.wy bs (M.abv n ns) 0 : Nat) : Int)) H'
theorem ok_how_many (T : Txt K mg) (g_counted : Has P w K mg base k "counted" ["above_next", "marks"] (sp_counted K)) (g_each_above_next : Has P w K mg base k "each_above_next" ["order"] (sp_each_above_next K)) : Has P w K mg base (k + 1) "how_many" ["order", "marks"] (sp_how_many K) := by
  refine T.f_how_many.has sc_how_many len2 (fun f cdv A outer s H vs Q E hr h => ?_)
  obtain ⟨a0, a1, rfl, h⟩ := h
  refine ⟨_, pss_one (ps_ret (pe_ix (k_ix_list (K := K)) (pe_ix (k_ix_list (K := K)) (pe_callH g_counted hr (pa_cons (pe_callH g_each_above_next hr (pa_cons (pv 0) pa_nil)) (pa_cons (pv 1) pa_nil))) pe_int (fun _ _ => rfl)) pe_int (fun _ _ => rfl))), ?_⟩
  obtain ⟨p, r, ns, bs, n, hp, hr', rfl, rfl, o, ⟨h1, h2⟩, hb, q⟩ := h
  walk_at "rd"
  refine ⟨p, ns, n, hp, rfl, o, ⟨h1, h2⟩, fun v H1 s1 hv ev => ?_⟩
  walk_at "rd"
  refine ⟨v, r, _, bs, n, SqL.of ev, s1.seq hr', rfl, rfl, M.abv_length ns h1, h2, hb, fun T H2 adr s2 hT eT la hA => ?_⟩
  obtain ⟨a, ha⟩ : ∃ a, adr[0]? = some a := ⟨_, List.getElem?_eq_getElem (by omega)⟩
  have ea := hA 0 a ha
  rw [List.drop_zero] at ea
  walk_at "rd"
  refine ⟨T, _, _, _, rfl, rfl, SqL.of eT, atV (v := .ref a) (by omega) (by rw [show (0 : Int).toNat = 0 from rfl, List.getElem?_map, ha]; rfl), ?_⟩
  walk_at "rd"
  refine ⟨a, _, _, _, rfl, rfl, SqL.of ea, atI_int (by omega) (by rw [rwI_length]; omega), ?_⟩
  rw [show (0 : Int).toNat = 0 from rfl, rwI_getD (Nat.zero_le _)]
  exact q _ (s1.trans s2)
abbrev cI (hs : List Nat) : List Int := hs.map fun h => ((h : Nat) : Int)
theorem sub3 {y a b : Nat} (h : a - b ≤ y) (h2 : b ≤ a) : ((y - (a - b) : Nat) : Int) = (y : Int) - ((a : Int) - (b : Int)) := by omega
def sp_way (K : PySem.W.Frag) : Sp := sp3 fun a b c H Q => ∃ (p r : Addr) (ns : List Int) (bs : List Bool) (n x : Nat), SqL K H p (iL ns) ∧ SqL K H r (bL bs) ∧ a = .ref p ∧ b = .ref r ∧ c = .int x ∧ M.Ord n ns ∧ (1 ≤ n ∧ n ≤ 900 ∧ bs.length ≤ 900) ∧ x < M.wy bs (M.abv n ns) 0 ∧ rNew (iL (M.wo ns (M.wayH bs (M.abv n ns) 0 x))) H Q
theorem ok_way (T : Txt K mg) (g_each_above_next : Has P w K mg base k "each_above_next" ["order"] (sp_each_above_next K)) (g_counted : Has P w K mg base k "counted" ["above_next", "marks"] (sp_counted K)) (g_least_for_next : Has P w K mg base k "least_for_next" ["above_next", "marks", "heap"] (sp_least_for_next K)) (g_laid : Has P w K mg base k "laid" ["one", "other"] (sp_laid K)) : Has P w K mg base (k + 1) "way" ["order", "marks", "number"] (sp_way K) := by
  refine T.f_way.has sc_way len3 (fun f cdv A outer s H vs Q E hr h => ?_)
  obtain ⟨a0, a1, a2, rfl, h⟩ := h
  refine ⟨_, pss_cons (ps_set (i := 3) sc_way.nd rfl (Or.inl rfl) (pe_callH g_each_above_next hr (pa_cons (pv 0) pa_nil)))
    (pss_cons (ps_set (i := 4) sc_way.nd rfl (Or.inl rfl) (pe_callH g_counted hr (pa_cons (pv 3) (pa_cons (pv 1) pa_nil))))
    (pss_cons (ps_if (pt_not (pt_chain op_le op_lt pe_int (pv 2) (pe_ix (k_ix_list (K := K)) (pe_ix (k_ix_list (K := K)) (pv 4) pe_int (fun _ _ => rfl)) pe_int (fun _ _ => rfl))))
    (pss_one (ps_never))
    (pss_nil))
    (pss_cons (ps_set (i := 5) sc_way.nd rfl (Or.inl rfl) (pe_lst pa_nil))
    (pss_cons (ps_set (i := 6) sc_way.nd rfl (Or.inl rfl) pe_int)
    (pss_cons (ps_set (i := 7) sc_way.nd rfl (Or.inl rfl) (pv 2))
    (pss_cons (ps_for PassesOwn.never rfl (k_pi_enum (K := K) rfl T.z_enumerate (pa_cons (pv 4) pa_nil)) (k_pg_tup (K := K) (n := 2) rfl (pgs_cons (pg_name (i := 8) sc_way.nd rfl (Or.inl rfl)) (pgs_cons (pg_name (i := 9) sc_way.nd rfl (Or.inl rfl)) pgs_nil)))
    (pss_cons (ps_set (i := 10) sc_way.nd rfl (Or.inl rfl) (pv 6))
      (pss_cons (ps_while PassesOwn.never (pt_cmpR op_le (pe_op op_sub (pe_ix (k_ix_list (K := K)) (pv 9) (pv 6) (fun _ _ => rfl)) (pe_ix (k_ix_list (K := K)) (pv 9) (pe_op op_add (pv 10) pe_int) (fun _ _ => rfl))) (pv 7) (nomark _))
      (pss_one (ps_set (i := 10) sc_way.nd rfl (Or.inl rfl) (pe_op op_add (pv 10) pe_int))))
      (pss_cons (ps_set (i := 7) sc_way.nd rfl (Or.inl rfl) (pe_op op_sub (pv 7) (pe_op op_sub (pe_ix (k_ix_list (K := K)) (pv 9) (pv 6) (fun _ _ => rfl)) (pe_ix (k_ix_list (K := K)) (pv 9) (pv 10) (fun _ _ => rfl)))))
      (pss_cons (ps_expr (k_bm (K := K) PySem.F.plainAttrs_list PySem.F.slot_list_append PySem.F.type_list_append mt_append (pv 5) (pa_cons (pv 10) pa_nil)))
      (pss_one (ps_set (i := 6) sc_way.nd rfl (Or.inl rfl) (pe_callH g_least_for_next hr (pa_cons (pe_ix (k_ix_list (K := K)) (pv 3) (pv 8) (fun _ _ => rfl)) (pa_cons (pv 1) (pa_cons (pv 10) pa_nil)))))))))))
    (pss_one (ps_ret (pe_callH g_laid hr (pa_cons (pv 5) (pa_cons (pv 0) pa_nil))))))))))), ?_⟩
  obtain ⟨p, r, ns, bs, n, x, hp, hr', rfl, rfl, rfl, o, ⟨h1, h2, h3⟩, hx, q⟩ := h
  have lav : (M.abv n ns).length = n := M.abv_length ns h1
  have hwl : (M.wayH bs (M.abv n ns) 0 x).length = n := by rw [M.wayH_length, lav]
  walk_at "rd"
  refine ⟨p, ns, n, hp, rfl, o, ⟨h1, by omega⟩, fun v H1 s1 hv ev => ?_⟩
  generalize M.abv n ns = av at *
  walk_at "rd"
  refine ⟨v, r, av, bs, n, SqL.of ev, s1.seq hr', rfl, rfl, lav, by omega, h3, fun T H2 adr s2 hT eT la hA => ?_⟩
  have s02 := s1.trans s2
  obtain ⟨a, ha⟩ : ∃ a, adr[0]? = some a := ⟨_, List.getElem?_eq_getElem (by omega)⟩
  have ea := hA 0 a ha
  rw [List.drop_zero] at ea
  walk_at "rd"
  refine ⟨T, _, _, _, rfl, rfl, SqL.of eT, atV (v := .ref a) (by omega) (by rw [show (0 : Int).toNat = 0 from rfl, List.getElem?_map, ha]; rfl), ?_⟩
  walk_at "rd"
  refine ⟨a, _, _, _, rfl, rfl, SqL.of ea, atI_int (by omega) (by rw [rwI_length]; omega), ?_⟩
  rw [show (0 : Int).toNat = 0 from rfl, rwI_getD (Nat.zero_le _)]
  walk_at "rd"
  rw [decide_eq_true (show (x : Int) < ((M.wy bs av 0 : Nat) : Int) by omega)]
  walk_at "rd"
  intro Hh hHh
  generalize e3 : upd H2 Hh _ = H3
  obtain ⟨s3, eHh⟩ := new_is hHh e3
  clear e3
  have s03 := s02.trans s3
  have hHh0 : H Hh = none := s02.free hHh
  walk_at "rd"
  refine ⟨⟨_, SqL.of (s3 _ _ eT)⟩, ?_⟩
  refine for_enum (xs := adr.map V.ref) (fun i σ' H' => (∃ (l y : Nat) (dn : List Nat) (t8 t9 t10 : Option V), σ' = [some (.ref p), some (.ref r), some (.int x), some (.ref v), some (.ref T), some (.ref Hh), some (.int l), some (.int y), t8, t9, t10] ∧ Same H2 H' ∧ H' Hh = some (.lst (iL (cI dn))) ∧ y < M.wy bs (av.drop i) l ∧ dn ++ M.wayH bs (av.drop i) l y = M.wayH bs av 0 x ∧ dn.length = i) ∨ False)
    (.inl ⟨0, x, [], _, _, _, rfl, s3, eHh, hx, rfl, rfl⟩) ?_ ?_ ?_
  · intro i σ' H' _ z
    obtain ⟨l, y, dn, t8, t9, t10, rfl, sm, _⟩ := z.resolve_right id
    exact SqL.of (sm _ _ eT)
  · intro i w σ' H' Tu hw z hTu
    obtain ⟨l, y, dn, t8, t9, t10, rfl, sm, eH, hy, hdn, ldn⟩ := z.resolve_right id
    have hin : i < n := by
      have := (List.getElem?_eq_some_iff.mp hw).1
      rw [List.length_map, la] at this
      exact this
    obtain ⟨b, hb⟩ : ∃ b, adr[i]? = some b := ⟨_, List.getElem?_eq_getElem (by omega)⟩
    have ew : w = .ref b := by rw [List.getElem?_map, hb] at hw; exact (Option.some.inj hw).symm
    subst ew
    have eb := hA i b hb
    have hci : i < av.length := by omega
    have edrop : av.drop i = av[i] :: av.drop (i + 1) := List.drop_eq_getElem_cons hci
    have hac : atI (bL av) (i : Int) = some (.bl av[i]) := atV (by omega) (by rw [Int.toNat_natCast, List.getElem?_map, List.getElem?_eq_getElem hci]; rfl)
    generalize av[i] = ab at edrop hac
    rw [edrop] at eb hy hdn
    generalize av.drop (i + 1) = rs at *
    obtain ⟨k1, k2, k3, k4⟩ := M.nxt_spec hy
    have hHT : Hh ≠ Tu := ne_of_none eH hTu
    generalize e4 : upd H' Tu _ = H4
    obtain ⟨s4, eTu⟩ := new_is hTu e4
    clear e4
    have sm4 := sm.trans s4
    have s04 := s02.trans sm4
    have eb4 := sm4 _ _ eb
    have eH4 := s4 _ _ eH
    refine ⟨Tu, _, rfl, SqT.of eTu, rfl, ?_⟩
    walk_at "rd"
    have at0 : ∀ z : Nat, z ≤ bs.length → atI (iL (rwI bs (ab :: rs))) (z : Int) = some (.int ((M.wy bs (ab :: rs) z : Nat) : Int)) := fun z hz => by
      have := atI_int (ns := rwI bs (ab :: rs)) (k := (z : Int)) (by omega) (by rw [rwI_length]; omega)
      rw [Int.toNat_natCast, rwI_getD hz] at this
      exact this
    refine ⟨fun m σ2 H5 => (∃ heap : Nat, σ2 = [some (.ref p), some (.ref r), some (.int x), some (.ref v), some (.ref T), some (.ref Hh), some (.int l), some (.int y), some (.int i), some (.ref b), some (.int heap)] ∧ H5 = H4 ∧ l ≤ heap ∧ heap ≤ M.nxt bs (ab :: rs) l y ∧ m = M.nxt bs (ab :: rs) l y - heap) ∨ False, ⟨_, .inl ⟨l, rfl, rfl, Nat.le_refl _, k1, rfl⟩⟩, ?_⟩
    intro m σ2 H5 z
    obtain ⟨heap, rfl, rfl, j1, j2, rfl⟩ := z.resolve_right id
    walk_at "rd"
    refine ⟨b, _, _, _, rfl, rfl, SqL.of eb4, at0 l (by omega), ?_⟩
    walk_at "rd"
    refine ⟨b, _, _, _, rfl, rfl, SqL.of eb4, by rw [show ((heap : Int) + 1) = ((heap + 1 : Nat) : Int) by omega]; exact at0 (heap + 1) (by omega), ?_⟩
    walk_at "rd"
    have mn := M.nxt_min hy j1 j2
    refine ite2 (fun c => ?_) (fun c => ?_)
    · have hlt : heap < M.nxt bs (ab :: rs) l y := mn.mp (by simpa using c)
      refine ⟨fun σ3 H6 => (σ3 = [some (.ref p), some (.ref r), some (.int x), some (.ref v), some (.ref T), some (.ref Hh), some (.int l), some (.int y), some (.int i), some (.ref b), some (.int ((heap + 1 : Nat) : Int))] ∧ H6 = H5) ∨ False, fun σ3 H6 z => ?_, ?_⟩
      · obtain ⟨rfl, rfl⟩ := z.resolve_right id
        exact ⟨_, by omega, .inl ⟨heap + 1, rfl, rfl, by omega, hlt, rfl⟩⟩
      · walk_at "rd"
        exact .inl ⟨rfl, rfl⟩
    · have heq : heap = M.nxt bs (ab :: rs) l y := by
        have : ¬ heap < M.nxt bs (ab :: rs) l y := fun z => c (by simpa using mn.mpr z)
        omega
      have lft := M.left_lt hy
      have an := M.wy_anti (bs := bs) (ab := ab) (r := rs) rfl k1
      have hdn2 : dn ++ (M.nxt bs (ab :: rs) l y :: M.wayH bs rs (M.lf ab bs (M.nxt bs (ab :: rs) l y)) (y - (M.wy bs (ab :: rs) l - M.wy bs (ab :: rs) (M.nxt bs (ab :: rs) l y)))) = M.wayH bs av 0 x := hdn
      rw [← heq] at lft k2 k3 an hdn2
      walk_at "rd"
      refine ⟨b, _, _, _, rfl, rfl, SqL.of eb4, at0 l (by omega), ?_⟩
      walk_at "rd"
      refine ⟨b, _, _, _, rfl, rfl, SqL.of eb4, at0 heap (by omega), ?_⟩
      walk_at "rd"
      refine ⟨.inl ⟨rfl, _, SqL.of eH4⟩, ?_⟩
      walk_at "rd"
      refine ⟨Hh, _, _, rfl, rfl, eH4, by rw [List.length_map, List.length_map, ldn]; exact lt_line' (by omega), ?_⟩
      generalize e6 : upd H5 Hh _ = H6
      obtain ⟨s6, eH6⟩ := set_is hHh sm4 e6
      clear e6
      walk_at "rd"
      refine ⟨v, _, _, _, rfl, rfl, SqL.of (s6 _ _ (s2 _ _ ev)), hac, ?_⟩
      walk_at "rd"
      refine ⟨ab, r, bs, heap, rfl, rfl, rfl, (s02.trans s6).seq hr', k2, ?_⟩
      refine .inl ⟨M.lf ab bs heap, y - (M.wy bs (ab :: rs) l - M.wy bs (ab :: rs) heap), dn ++ [heap], some (.int i), some (.ref b), some (.int heap), ?_, s6, by rw [eH6]; simp, lft, ?_, by simp; omega⟩
      · rw [sub3 k3 an]
        rfl
      · rw [List.append_assoc]
        exact hdn2
  · intro σ' H' z
    obtain ⟨l, y, dn, t8, t9, t10, rfl, sm, eH, hy, hdn, ldn⟩ := z.resolve_right id
    have e0 : av.drop (adr.map V.ref).length = [] := List.drop_of_length_le (by rw [List.length_map]; omega)
    rw [e0] at hdn
    have hd2 : dn = M.wayH bs av 0 x := by rw [← hdn]; exact (List.append_nil _).symm
    walk_at "rd"
    refine ⟨Hh, p, cI dn, ns, SqL.of eH, (s02.trans sm).seq hp, rfl, rfl, by rw [o.len]; omega, ?_, fun u H5 s5 hu eu => ?_⟩
    · intro c hc
      have := o.bd c hc
      rw [List.length_map, hd2, hwl]
      exact this
    · refine q u H5 ((s02.trans sm).trans s5) ((s02.trans sm).free hu) ?_
      rw [eu, M.lay_wo, hd2]
def sp_l_heaps (K : PySem.W.Frag) : Sp := sp2 fun a b H Q => ∃ (p r : Addr) (ns ws : List Int) (n : Nat), SqL K H p (iL ns) ∧ SqL K H r (iL ws) ∧ a = .ref p ∧ b = .ref r ∧ M.Ord n ns ∧ ws.length = n ∧ n ≤ 900 ∧ rNew (iL ((List.range n).map fun c => ws.getD (M.pos ns c) 0)) H Q
theorem ok_l_heaps (T : Txt K mg)  : Has P w K mg base (k + 1) "_law_heaps" ["_law_order_here", "_law_told"] (sp_l_heaps K) := by
  refine T.f_l_heaps.has sc_l_heaps len2 (fun f cdv A outer s H vs Q E hr h => ?_)
  obtain ⟨a0, a1, rfl, h⟩ := h
  refine ⟨_, pss_cons (ps_setC (i := 2) (vars := ["_law_card"]) (caps := []) (CompScope.of (outer := defScope s_l_heaps) (N := ["_law_order_here", "_law_told", "_law_heaps_here", "_law_card", "_law_heap"]) rfl rfl ⟨by decide +kernel⟩) rfl sc_l_heaps.nd rfl rfl (k_pi_list (K := K) (pv 0)) ⟨fun _ _ _ _ => ⟨(pg_name (i := 0) (show List.Nodup (["_law_card"] : List Str) by decide +kernel) rfl (Or.inl rfl)), pts_nil, pe_int⟩⟩)
    (pss_cons (ps_for PassesOwn.never rfl (k_pi_zip (K := K) rfl T.z_zip (pa_cons (pv 0) (pa_cons (pv 1) pa_nil))) (k_pg_tup (K := K) (n := 2) rfl (pgs_cons (pg_name (i := 3) sc_l_heaps.nd rfl (Or.inl rfl)) (pgs_cons (pg_name (i := 4) sc_l_heaps.nd rfl (Or.inl rfl)) pgs_nil)))
    (pss_one (ps_asg (pv 4) (pg_sub (pv 2) (pv 3) set_list))))
    (pss_one (ps_ret (pv 2)))), ?_⟩
  obtain ⟨p, r, ns, ws, n, hp, hr', rfl, rfl, o, lw, hn, q⟩ := h
  have hl1 : (iL ns).length = n := by rw [List.length_map, o.len]
  have hl2 : (iL ws).length = n := by rw [List.length_map, lw]
  walk_at "rd"
  refine ⟨⟨_, hp⟩, ?_⟩
  refine comp_list (xs := iL ns) (fun _ => .int 0) (fun _ => true) (by rw [hl1]; exact lt_line (by omega)) hp ?_ ?_
  · intro i v t acc ys N Kt hi hv hacc k1 _
    walk_at "rd"
    exact k1 _ rfl
  rw [filter_true, hl1]
  have e0 : ((List.range n).map fun _ : Nat => V.int 0) = iL (M.byc n ns ws 0) := by
    rw [M.byc_zero]
    apply List.ext_getElem?
    intro i
    by_cases h : i < n <;> simp [h]
  rw [e0]
  intro A hA
  generalize e1 : upd H A _ = H1
  obtain ⟨s1, eA⟩ := new_is hA e1
  clear e1
  walk_at "rd"
  refine ⟨⟨_, s1.seq hp⟩, ⟨_, s1.seq hr'⟩, ?_⟩
  refine for_zip (xs := iL ns) (ys := iL ws) (by rw [hl1, hl2]) (fun i σ' H' => (∃ t3 t4, σ' = [some (.ref p), some (.ref r), some (.ref A), t3, t4] ∧ Same H H' ∧ H' A = some (.lst (iL (M.byc n ns ws i)))) ∨ False) (.inl ⟨_, _, rfl, s1, eA⟩) ?_ ?_ ?_
  · intro i σ' H' _ z
    obtain ⟨t3, t4, rfl, sm, _⟩ := z.resolve_right id
    exact ⟨sm.seq hp, sm.seq hr'⟩
  · intro i x y σ' H' T hx hy z hT
    obtain ⟨t3, t4, rfl, sm, eA'⟩ := z.resolve_right id
    rw [List.getElem?_map] at hx hy
    cases ec : ns[i]? with
    | none => rw [ec] at hx; cases hx
    | some c =>
      cases ed : ws[i]? with
      | none => rw [ed] at hy; cases hy
      | some d =>
        rw [ec] at hx
        rw [ed] at hy
        cases hx
        cases hy
        have b := o.bd c (List.mem_of_getElem? ec)
        have hAT : A ≠ T := ne_of_none eA' hT
        have ev : ws.getD i 0 = d := getD_some ed
        refine ⟨T, _, rfl, SqT.of upd_same, rfl, ?_⟩
        walk_at "rd"
        refine ⟨A, _, _, c.toNat, rfl, rfl, by rw [upd_ne hAT]; exact eA', ?_, ?_⟩
        · unfold ixN
          rw [if_pos b.1, if_pos (by rw [List.length_map, M.byc_length]; exact b.2)]
        · refine .inl ⟨_, _, rfl, (sm.put (sm.free hT)).put hA, ?_⟩
          rw [upd_same, ← M.byc_succ o ec, ev]
          simp [List.map_set]
  · intro σ' H' z
    obtain ⟨t3, t4, rfl, sm, eA'⟩ := z.resolve_right id
    walk_at "rd"
    refine q A H' sm hA ?_
    rw [eA', hl1, M.byc_all o]
end
end K25
set_option Elab.async false
set_option linter.all false
set_option maxRecDepth 100000
set_option maxHeartbeats 4000000
namespace K25
open PySem L2
local macro_rules | `(tactic| walk_at "sq") => `(tactic| first | assumption | (refine SqL.of ?_; assumption) | (refine SqL.of ?_; exact upd_same))
local macro_rules | `(tactic| walk_at "cj") => `(tactic| first | (with_reducible show (_ : Int) ≤ _; omega) | (with_reducible show (_ : Int) < _; omega) | exact rfl | assumption | omega | decide | (unfold CDiv; omega) | (unfold CPow; decide) | (show (0 : Int) < _; first | omega | decide) | (show _ ≤ sizeLine; rw [sizeLine_eq]; simp; done) | (refine mulS1 ?_ ?_ <;> omega) | (refine mulS2 ?_ ?_ <;> omega))
local macro_rules | `(tactic| walk_at "rd1") => `(tactic| first | refine ⟨_, rfl, ?_⟩ | refine ⟨_, _, rfl, rfl, ?_⟩ | refine ⟨_, _, rfl, ?_⟩ | refine ⟨_, _, _, rfl, ?_⟩ | refine ⟨_, _, _, _, rfl, ?_⟩ | refine ⟨_, _, _, _, _, rfl, ?_⟩ | refine ⟨_, _, rfl, .inl (by walk_at "sq"), ?_⟩ | refine And.intro (by walk_at "cj") ?_)
local macro_rules | `(tactic| walk_at "rd") => `(tactic| repeat walk_at "rd1")

section
variable {P : Program} {w : World} {K : PySem.W.Frag} {mg : Str → Option Value} {base : Heap} {k : Nat}
/-- a list of words, each a new list -/
def Gz (H0 H : Hp) (r : Addr) (ls : List (List Int)) : Prop := ∃ adr : List Addr, (H0 r = none ∧ H r = some (.lst (adr.map V.ref))) ∧ adr.length = ls.length ∧ ∀ (i : Nat) (a : Addr), adr[i]? = some a → (H0 a = none ∧ a ≠ r) ∧ ∃ ws, ls[i]? = some ws ∧ H a = some (.lst (iL ws))
def sp_l_words (K : PySem.W.Frag) : Sp := sp2 fun a b H Q => ∃ c m : Nat, a = .int c ∧ b = .int m ∧ (m ≤ 6 ∧ 1 ≤ c ∧ c ^ m ≤ 4096) ∧ ∀ r H', Same H H' → Gz H H' r (M.allw c m) → Q (.ref r) H'
theorem line8 {n : Nat} (h : n ≤ 10000) : n ≤ sizeLine := by rw [sizeLine_eq]; omega
theorem ne_of_none' {H : Hp} {a b : Addr} {o : HO} (h1 : H b = some o) (h2 : H a = none) : a ≠ b := fun e => by rw [e, h1] at h2; cases h2
def ext0 (w : List Int) (c : Nat) : List (List Int) := (List.range c).map fun i => w ++ [((i : Nat) : Int)]
theorem ext0_succ (w : List Int) (c : Nat) : ext0 w (c + 1) = ext0 w c ++ [w ++ [((c : Nat) : Int)]] := by unfold ext0; rw [List.range_succ, List.map_append]; rfl
theorem ext0_len (w : List Int) (c : Nat) : (ext0 w c).length = c := by simp [ext0]
def ext1 (c : Nat) (l : List (List Int)) : List (List Int) := l.flatMap fun w => ext0 w c
theorem ext1_snoc (c : Nat) (l : List (List Int)) (w : List Int) : ext1 c (l ++ [w]) = ext1 c l ++ ext0 w c := by
  unfold ext1
  rw [List.flatMap_append]
  simp
theorem ext1_len (c : Nat) (l : List (List Int)) : (ext1 c l).length = l.length * c := by
  unfold ext1
  rw [List.length_flatMap]
  simp [ext0, List.map_const', List.sum_replicate_nat]
theorem take_snoc {α : Type} {l : List α} {j : Nat} {x : α} (h : l[j]? = some x) : l.take (j + 1) = l.take j ++ [x] := by
  rw [List.take_add_one, h]
  rfl
/-- one more word at the end -/
theorem Gz.put {H0 H1 H H' : Hp} {r a : Addr} {ls : List (List Int)} {ws : List Int} {adr : List Addr} (ga : adr.length = ls.length) (gh : ∀ (i : Nat) (a : Addr), adr[i]? = some a → (H0 a = none ∧ a ≠ r) ∧ ∃ ws, ls[i]? = some ws ∧ H a = some (.lst (iL ws))) (hr : H0 r = none) (s : Same H H1) (ha0 : H0 a = none) (har : a ≠ r) (ea : H1 a = some (.lst (iL ws))) (e : upd H1 r (.lst (adr.map V.ref ++ [.ref a])) = H') : Gz H0 H' r (ls ++ [ws]) := by
  refine ⟨adr ++ [a], ⟨hr, by rw [← e, upd_same, List.map_append]; rfl⟩, by rw [List.length_append, List.length_append, ga]; rfl, fun i b hb => ?_⟩
  rcases Nat.lt_or_ge i adr.length with h | h
  · rw [List.getElem?_append_left h] at hb
    obtain ⟨n1, vs, W1, e1⟩ := gh i b hb
    exact ⟨n1, vs, by rw [List.getElem?_append_left (by omega)]; exact W1, by rw [← e, upd_ne n1.2]; exact s _ _ e1⟩
  · have hl := (List.getElem?_eq_some_iff.mp hb).1
    rw [List.length_append, List.length_singleton] at hl
    have : i = adr.length := by omega
    subst this
    rw [List.getElem?_append_right h, Nat.sub_self] at hb
    cases hb
    exact ⟨⟨ha0, har⟩, ws, by rw [List.getElem?_append_right (by omega), ga, Nat.sub_self]; rfl, by rw [← e, upd_ne har]; exact ea⟩
theorem ok_l_words (T : Txt K mg)  : Has P w K mg base (k + 1) "_law_words" ["_law_heaps_here", "_law_n"] (sp_l_words K) := by
  refine T.f_l_words.has sc_l_words len2 (fun f cdv A outer s H vs Q E hr h => ?_)
  obtain ⟨a0, a1, rfl, h⟩ := h
  refine ⟨_, pss_cons (ps_set (i := 2) sc_l_words.nd rfl (Or.inl rfl) (pe_lst (pa_cons (pe_lst pa_nil) pa_nil)))
    (pss_cons (ps_for PassesOwn.never rfl (pi_range1 rfl T.z_range (pa_cons (pv 1) pa_nil)) (pg_name (i := 3) sc_l_words.nd rfl (Or.inl rfl))
    (pss_cons (ps_set (i := 4) sc_l_words.nd rfl (Or.inl rfl) (pe_lst pa_nil))
      (pss_cons (ps_for PassesOwn.never rfl (k_pi_list (K := K) (pv 2)) (pg_name (i := 5) sc_l_words.nd rfl (Or.inl rfl))
      (pss_one (ps_for PassesOwn.never rfl (pi_range1 rfl T.z_range (pa_cons (pv 0) pa_nil)) (pg_name (i := 6) sc_l_words.nd rfl (Or.inl rfl))
        (pss_one (ps_expr (k_bm (K := K) PySem.F.plainAttrs_list PySem.F.slot_list_append PySem.F.type_list_append mt_append (pv 4) (pa_cons (pe_op op_cat (pv 5) (pe_lst (pa_cons (pv 6) pa_nil))) pa_nil)))))))
      (pss_one (ps_set (i := 2) sc_l_words.nd rfl (Or.inl rfl) (pv 4))))))
    (pss_one (ps_ret (pv 2)))), ?_⟩
  obtain ⟨c, m, rfl, rfl, ⟨m6, c1, hp⟩, q⟩ := h
  have pw : ∀ i, i ≤ m → c ^ i ≤ 4096 := fun i hi => Nat.le_trans (Nat.pow_le_pow_right c1 hi) hp
  walk_at "rd"
  intro E0 hE0
  generalize e1 : upd H E0 _ = H1
  obtain ⟨s1, eE0⟩ := new_is hE0 e1
  clear e1
  walk_at "rd"
  intro R0 hR0
  generalize e2 : upd H1 R0 _ = H2
  obtain ⟨s2, eR0⟩ := new_is hR0 e2
  clear e2
  have g0 : Gz H H2 R0 (M.allw c 0) := ⟨[E0], ⟨s1.free hR0, eR0⟩, rfl, fun i a ha => by
    match i, ha with
    | 0, ha =>
      cases ha
      exact ⟨⟨hE0, ne_of_none eE0 hR0⟩, [], rfl, s2 _ _ eE0⟩⟩
  walk_at "rd"
  rw [Int.toNat_natCast]
  refine for_range (fun i σ' H' => (∃ (r : Addr) (t3 t4 t5 t6 : Option V), σ' = [some (.int c), some (.int m), some (.ref r), t3, t4, t5, t6] ∧ Same H H' ∧ Gz H H' r (M.allw c i)) ∨ False) (.inl ⟨_, _, _, _, _, rfl, s1.trans s2, g0⟩) ?_ ?_
  · intro i σ' H3 hi z
    obtain ⟨r, t3, t4, t5, t6, rfl, s3, g3⟩ := z.resolve_right id
    walk_at "rd"
    intro L hL
    generalize e4 : upd H3 L _ = H4
    obtain ⟨s4, eL⟩ := new_is hL e4
    clear e4
    obtain ⟨adr, ⟨_, er⟩, la, hA⟩ := g3
    have pwi := pw (i + 1) (by omega)
    rw [Nat.pow_succ, ← M.allw_length, ← la] at pwi
    have g4 : Gz H H4 L (ext1 c ((M.allw c i).take 0)) := ⟨[], ⟨s3.free hL, eL⟩, by simp [ext1], fun i a ha => by cases ha⟩
    walk_at "rd"
    refine ⟨⟨_, SqL.of (s4 _ _ er)⟩, ?_⟩
    refine for_list (xs := adr.map V.ref) (fun j σ' H' => (∃ (t5 t6 : Option V), σ' = [some (.int c), some (.int m), some (.ref r), some (.int (0 + (i : Int))), some (.ref L), t5, t6] ∧ Same H3 H' ∧ Gz H H' L (ext1 c ((M.allw c i).take j))) ∨ False) (.inl ⟨_, _, rfl, s4, g4⟩) ?_ ?_ ?_
    · intro j σ' H' _ z
      obtain ⟨t5, t6, rfl, sm, _⟩ := z.resolve_right id
      exact SqL.of (sm _ _ er)
    · intro j x σ' H5 hx z
      obtain ⟨t5, t6, rfl, s5, g5⟩ := z.resolve_right id
      have hj : j < adr.length := by have := (List.getElem?_eq_some_iff.mp hx).1; rw [List.length_map] at this; exact this
      have e0 : adr[j]? = some adr[j] := List.getElem?_eq_getElem hj
      obtain ⟨_, wd, ewd, eh⟩ := hA j adr[j] e0
      have W : M.Wd c i wd := M.mem_allw.mp (List.mem_of_getElem? ewd)
      rw [List.getElem?_map, e0] at hx
      cases hx
      generalize adr[j] = a at eh ⊢
      have cj : (j + 1) * c ≤ adr.length * c := Nat.mul_le_mul_right c (by omega)
      rw [Nat.succ_mul] at cj
      walk_at "rd"
      rw [Int.toNat_natCast]
      refine for_range (fun i2 σ' H' => (∃ (t6 : Option V), σ' = [some (.int c), some (.int m), some (.ref r), some (.int (0 + (i : Int))), some (.ref L), some (.ref a), t6] ∧ Same H3 H' ∧ Gz H H' L (ext1 c ((M.allw c i).take j) ++ ext0 wd i2)) ∨ False) (.inl ⟨_, rfl, s5, by rw [show ext0 wd 0 = [] from rfl, List.append_nil]; exact g5⟩) ?_ ?_
      · intro i2 σ' H6 hi2 z
        obtain ⟨t6, rfl, s6, adrL, ⟨hL0, eL6⟩, laL, hAL⟩ := z.resolve_right id
        have ea6 := s6 _ _ eh
        have lw := W.len
        have laL' : adrL.length = j * c + i2 := by rw [laL, List.length_append, ext1_len, List.length_take, Nat.min_eq_left (by omega), ext0_len]
        rw [Int.zero_add (i2 : Int)]
        walk_at "rd"
        refine ⟨.inl ⟨rfl, _, SqL.of eL6⟩, ?_⟩
        walk_at "rd"
        intro A hA'
        generalize e7 : upd H6 A _ = H7
        obtain ⟨s7, eA⟩ := new_is hA' e7
        clear e7
        walk_at "rd"
        refine ⟨a, A, _, _, rfl, rfl, s7 _ _ ea6, eA, lt_line (by rw [List.length_map, lw]; show i + 1 ≤ _; omega), ?_⟩
        intro B hB
        generalize e8 : upd H7 B _ = H8
        obtain ⟨s8, eB⟩ := new_is hB e8
        clear e8
        have s68 := s7.trans s8
        have eB' : H8 B = some (.lst (iL (wd ++ [((i2 : Nat) : Int)]))) := by rw [eB]; simp [iL]
        have nB : B ≠ L := ne_of_none' eL6 (s7.free hB)
        walk_at "rd"
        refine ⟨L, _, _, rfl, rfl, s68 _ _ eL6, by rw [List.length_map, laL', sizeLine_eq]; omega, ?_⟩
        generalize e9 : upd H8 L _ = H9
        obtain ⟨s9, _⟩ := set_is hL (s6.trans s68) e9
        refine .inl ⟨_, rfl, s9, ?_⟩
        rw [ext0_succ, ← List.append_assoc]
        exact Gz.put laL hAL hL0 s68 ((s3.trans s6).free (s7.free hB)) nB eB' e9
      · intro σ' H6 z
        obtain ⟨t6, rfl, s6, g6⟩ := z.resolve_right id
        refine .inl ⟨_, _, rfl, s6, ?_⟩
        rw [take_snoc ewd, ext1_snoc]
        exact g6
    · intro σ' H5 z
      obtain ⟨t5, t6, rfl, s5, g5⟩ := z.resolve_right id
      walk_at "rd"
      refine .inl ⟨L, _, _, _, _, rfl, s3.trans s5, ?_⟩
      rw [List.length_map, la, List.take_length] at g5
      exact g5
  · intro σ' H3 z
    obtain ⟨r, t3, t4, t5, t6, rfl, s3, g3⟩ := z.resolve_right id
    walk_at "rd"
    exact q _ _ s3 g3
end
end K25
set_option Elab.async false
set_option linter.all false
set_option maxRecDepth 100000
set_option maxHeartbeats 4000000
/-! the head of a law one of whose defs makes a def or a lambda: its code's table is tracked, and may grow -/
namespace L2
open PySem PySem.Spec PyProof.Rows
def OnlyT (P0 : Addr) (H : Hp) : Prop := H P0 = some (.tbl #[]) ∧ ∀ b, b ≠ P0 → H b = none ∨ ∃ o xs, H b = some (.frz o (.lst xs))
theorem law_callT {P : Program} {w : World} {K : PySem.W.Frag} {mg mb : Str → Option Value} {CX : CXT} {k : Nat} {fa a P0 c0 : Addr} {fd : FuncData} {x : Str} {sp : Sp} {s₁ : Shared} {vs : List Value} {ns : List Int}
    (KX : K.In s₁.heap) (hns : s₁.heap.Ns mainGlobals mg) (hb : s₁.heap.Ns builtinsNs mb) (hbb : ∀ x : Str, x ≠ "__name__" → mb x = bootBuiltins x) (hlim : s₁.heap.NoLimit) (hg : s₁.gens = #[])
    (ha : s₁.heap.get? a = some { cls := .type "list", data := .seq vs.toArray }) (hi : IntsAre vs ns) (hl : ns.length ≤ sizeLine) (hr : Room k callerA)
    (hP : s₁.heap.get? P0 = some (PySem.W.tabObj #[])) (hC : PySem.W.CodeHd s₁.heap c0 P0) (hKP : K.lookup P0 = none) (hbi : s₁.heap.BuiltinsAt mg P0)
    (F : ∀ base : Heap, K.In base → base.Ns mainGlobals mg → base.BuiltinsAt mg P0 → FnOk P w K mg base CX k fa fd [x] sp) (hbind : ∀ (s : Shared) (u : Value), BindsTo s fd ⟨[u], []⟩ [(x, u)])
    (hsp : ∀ H : Hp, OnlyT P0 H → SqL K H a (ns.map V.int) → sp [.ref a] H (fun v _ => v = .bl true) fun _ _ _ => False)
    (hCX : ∀ H e s', CX [] H s₁ (fun _ _ _ => False) e s' → False) :
    codeAny (model P w) callerA (.call (.ref fa) ⟨[.ref a], []⟩) (fun r s' => r = .ok (.ret (.bool true)) ∧ OldK s₁.heap s'.heap ∧ s'.os = s₁.os ∧ AllBare s'.gens) s₁ := by
  have rv := vals_ints hi
  have lenV := hi.length
  have naP : a ≠ P0 := fun e => by rw [e, hP] at ha; cases ha
  have core : ∀ H : Hp, OnlyT P0 H → SqL K H a (ns.map V.int) → HOk P w H s₁.heap → (∀ b, H b ≠ none → b = a ∨ b = P0) → (H a ≠ none → K.lookup a = none) →
      codeAny (model P w) callerA (.call (.ref fa) ⟨[.ref a], []⟩) (fun r s' => r = .ok (.ret (.bool true)) ∧ OldK s₁.heap s'.heap ∧ s'.os = s₁.os ∧ AllBare s'.gens) s₁ := by
    intro H hO hS hok hA hK
    have base_of : ∀ {b : Addr} {o : Obj}, s₁.heap.get? b = some o → H b = none → (hidT s₁.heap H).get? b = some o := fun e n => hidT_get e n
    have noA : ∀ {b : Addr} {o : Obj} {es : Array DictEntry} {ep : Nat}, s₁.heap.get? b = some o → o.data = .dict es ep → H b = none := fun {b o es ep} e d => by
      cases q : H b with
      | none => rfl
      | some u =>
        rcases hA b (by rw [q]; simp) with e' | e'
        · subst e'
          rw [ha] at e; cases e
          have d' : Data.seq vs.toArray _ = Data.dict es ep := d
          cases d'
        · subst e'
          rw [hP] at e; cases e
          have d' : Data.fields #[] = Data.dict es ep := d
          cases d'
    have nsK : ∀ {b : Addr} {m : Str → Option Value}, s₁.heap.Ns b m → (hidT s₁.heap H).Ns b m := fun {b m} ⟨o, es, ep, e, d, r⟩ => ⟨o, es, ep, base_of e (noA e d), d, r⟩
    have hKb : K.In (hidT s₁.heap H) := fun b o e => base_of (KX b o e) (by
      cases q : H b with
      | none => rfl
      | some u =>
        rcases hA b (by rw [q]; simp) with e' | e'
        · subst e'
          rw [hK (by rw [q]; simp)] at e; cases e
        · subst e'
          rw [hKP] at e; cases e)
    have hBi : (hidT s₁.heap H).BuiltinsAt mg P0 := by
      obtain ⟨bm, ob, b1, b2, b3, b4, b5, b6, b7, b8⟩ := hbi
      refine ⟨bm, ob, b1, b2, b3, b4, base_of b5 ?_, b6, b7, b8⟩
      cases q : H bm with
      | none => rfl
      | some u =>
        rcases hA bm (by rw [q]; simp) with e' | e'
        · rw [e', ha] at b5; cases b5; cases b8
        · exact absurd e' b4
    have hM : Mod K mg (hidT s₁.heap H) := ⟨hKb, nsK hns, ⟨mb, nsK hb, hbb⟩, let ⟨mc, h1, h2⟩ := hlim; ⟨mc, nsK h1, h2⟩⟩
    have e0 : Env0 P w K mg (hidT s₁.heap H) callerA [] s₁ H := ⟨rfl, hM, fun b o e => of_hidT e, Nat.le_of_eq (hidT_size _ _), trivial, fun b hb => absurd (show b ∈ ([] : List Addr) from hb) (by simp), hok, .of_eq hg⟩
    refine codeAny_mono ((F _ hKb (nsK hns) hBi).run callerA [] s₁ H ⟨[.ref a], []⟩ [.ref a] [.ref a] _ _ hr e0 (hbind s₁ (.ref a)) (.cons rfl .nil) (hsp H hO hS)) fun r s' h => ?_
    cases r with
    | error e => exact (hCX H e s' h).elim
    | ok fl =>
      cases fl with
      | next => exact False.elim h
      | brk => exact False.elim h
      | cont => exact False.elim h
      | ret u =>
        obtain ⟨v, H', os, bare, un, hok', r', q⟩ := h
        have q' : v = .bl true := q
        subst q'
        obtain rfl : u = Value.bool true := r'
        have kept : ∀ b o, b ≠ P0 → s₁.heap.get? b = some o → s'.heap.get? b = some o := fun b o hb e => by
          cases q : H b with
          | none => exact un.keep b o e q (by intro z; exact absurd (show b ∈ ([] : List Addr) from z) (by simp)) (by simp)
          | some u =>
            rcases hO.2 b hb with z | ⟨ob, xs, z⟩
            · rw [q] at z; cases z
            · have z2 := un.frzs b ob _ z
              obtain ⟨e1, _⟩ := hok b _ z
              obtain ⟨e2, _⟩ := hok' b _ z2
              rw [e] at e1; cases e1
              exact e2
        obtain ⟨more, eP⟩ := un.tbls P0 _ hO.1
        have gP : s'.heap.get? P0 = some { cls := .none, data := .fields (#[] ++ more) } := hok' P0 _ eP
        refine ⟨rfl, ⟨fun b o e => ?_, fun b o e => ?_⟩, os, bare⟩
        · by_cases hb : b = P0
          · subst hb
            rw [hP] at e; cases e
            exact .inr (.inl ⟨(hC.tab hP).isCodeTable, rfl, #[], more, rfl, gP⟩)
          · exact .inl (kept b o hb e)
        · by_cases hb : b = P0
          · subst hb
            exact ⟨_, gP⟩
          · exact ⟨o, kept b o hb e⟩
  have okP : ∀ H : Hp, ObjOk P w H s₁.heap P0 (.tbl #[]) := fun H => hP
  cases hk : K.lookup a with
  | some o =>
    have e := KX a o hk
    rw [ha] at e
    cases e
    refine core (fun b => if b = P0 then some (.tbl #[]) else none) ⟨if_pos rfl, fun b hb => .inl (if_neg hb)⟩ (.inr ⟨_, vs.toArray, _, hk, rfl, rfl, rfl, by rw [List.size_toArray, lenV]; exact hl, by simpa using rv⟩) (fun b u z => ?_) (fun b z => ?_) fun z => absurd (if_neg naP) z
    · by_cases hb : b = P0
      · have z' := (if_pos hb).symm.trans z
        cases z'
        subst hb
        exact okP _
      · have z' := (if_neg hb).symm.trans z
        cases z'
    · by_cases hb : b = P0
      · exact .inr hb
      · exact absurd (if_neg hb) z
  | none =>
    have at1 : ∀ b, b = a → (fun b => if b = P0 then some (HO.tbl #[]) else if b = a then some (.frz { cls := .type "list", data := .seq vs.toArray } (.lst (ns.map V.int))) else none) b = some (.frz { cls := .type "list", data := .seq vs.toArray } (.lst (ns.map V.int))) := fun b e => by
      subst e
      show (if b = P0 then _ else _) = _
      rw [if_neg naP, if_pos rfl]
    have at2 : ∀ b, b ≠ a → b ≠ P0 → (fun b => if b = P0 then some (HO.tbl #[]) else if b = a then some (.frz { cls := .type "list", data := .seq vs.toArray } (.lst (ns.map V.int))) else none) b = none := fun b e1 e2 => by
      show (if b = P0 then _ else _) = _
      rw [if_neg e2, if_neg e1]
    refine core (fun b => if b = P0 then some (.tbl #[]) else if b = a then some (.frz { cls := .type "list", data := .seq vs.toArray } (.lst (ns.map V.int))) else none) ⟨if_pos rfl, fun b hb => ?_⟩ (.inl (.inr ⟨{ cls := .type "list", data := .seq vs.toArray }, at1 a rfl⟩)) (fun b u z => ?_) (fun b z => ?_) fun _ => hk
    · by_cases hb' : b = a
      · exact .inr ⟨_, _, at1 b hb'⟩
      · exact .inl (at2 b hb' hb)
    · by_cases hb : b = P0
      · have z' := (if_pos hb).symm.trans z
        cases z'
        subst hb
        exact okP _
      · by_cases hb' : b = a
        · have z' := (at1 b hb').symm.trans z
          cases z'
          subst hb'
          exact ⟨ha, by rw [List.length_map]; exact hl, vs, _, rv, ha⟩
        · have z' := (at2 b hb' hb).symm.trans z
          cases z'
    · by_cases hb : b = P0
      · exact .inr hb
      · by_cases hb' : b = a
        · exact .inl hb'
        · exact absurd (at2 b hb' hb) z
/-- the goal that k_head leaves (case hc), where one def makes lambdas: P0 is its code's table -/
theorem walk_ofT {l : PySem.W.OpenLaw} {n k : Nat} {q : Program} {loose : List Str} {XP : (Str → Option Value) → Heap → Prop} {YP : World → Heap → Prop} {d : DefRec} {K : Params → PySem.W.Frag} {CX : CXT} {sp : PySem.W.Frag → Sp} {x : Str} {P0 c0 : Addr}
    (hn : l.most = some n) (hn2 : n ≤ sizeLine) (hdf : d.params.defaults = []) (hr : Room k callerA)
    (hY : ∀ (w : World) (h : Heap), YP w h → (K w.params).In h) (hT : ∀ (w : World) (h : Heap), YP w h → h.get? P0 = some (PySem.W.tabObj #[]))
    (F : ∀ (w : World) (mg : Str → Option Value) (fa : Addr) (h : Heap), (K w.params).In h → h.Ns mainGlobals mg → mg d.name = some (.ref fa) →
      (PySem.W.codeHdIn (K w.params) c0 P0 = true ∧ (K w.params).lookup P0 = none) ∧ ∃ fd : FuncData, (∀ (s : Shared) (u : Value), BindsTo s fd ⟨[u], []⟩ [(x, u)]) ∧
        ∀ base : Heap, (K w.params).In base → base.Ns mainGlobals mg → base.BuiltinsAt mg P0 → FnOk l.prog w (K w.params) mg base CX k fa fd [x] (sp (K w.params)))
    (hsp : ∀ (K : PySem.W.Frag) (H : Hp) (a : Addr) (ns : List Int), ns.length ≤ n → OnlyT P0 H → SqL K H a (ns.map V.int) → sp K [.ref a] H (fun v _ => v = .bl true) fun _ _ _ => False)
    (hCX : ∀ (H : Hp) (s : Shared) (e : Value) (s' : Shared), CX [] H s (fun _ _ _ => False) e s' → False) :
    PySem.W.WalkO q loose XP YP l.row.toRowW d [] (fun f vs => PySem.call f vs) := by
  refine Att.attach_call hn hdf fun w s₀ s₁ mg mb fa o pm cd doc a vs ns G Y ho hd hcd hmg hobj hints hlen hg => ?_
  have KX := hY w _ Y
  obtain ⟨⟨hc1, hc2⟩, fd, hb, hF⟩ := F w mg fa _ KX G.T.g hmg
  have hP := hT w _ Y
  have hBi : s₁.heap.BuiltinsAt mg P0 := by
    obtain ⟨bm, ob, b1, b2, b3, b4, b5, b6⟩ := G.T.bmain
    refine ⟨bm, ob, b1, b2, fun q => ?_, fun q => ?_, b3, b4, b5, b6⟩
    · obtain ⟨o, es, ep, e, hd, _⟩ := G.T.g
      rw [q, e] at b3; cases b3; rw [hd] at b6; cases b6
    · rw [q, hP] at b3; cases b3; cases b4
  exact law_callT KX G.T.g G.T.b G.T.builtins G.T.nolimit hg hobj hints (Nat.le_trans hlen hn2) hr hP (PySem.W.codeHd_of_K KX hc1) hc2 hBi hF hb (fun H hO hS => hsp _ H a ns hlen hO hS) fun H e s' => hCX H s₁ e s'
section
variable {P : Program} {w : World} {K : PySem.W.Frag} {mg : Str → Option Value} {base : Heap}
/-- a def whose code's table is at P0 -/
structure DefT (K : PySem.W.Frag) (mg : Str → Option Value) (x : Str) (st : Stmt) (ps : List Str) (P0 : Addr) : Prop where
  ex : ∃ f fd c0, Fun K x x st f fd ∧ Binds K fd ps [] ∧ mg x = some (.ref f) ∧ fd.code = .ref c0 ∧ PySem.W.codeHdIn K c0 P0 = true
theorem DefT.has {x : Str} {st : Stmt} {N ps : List Str} {k : Nat} {sp : Sp} {P0 : Addr} (F : DefT K mg x st ps P0) (S : FnScope N ps (defScope st)) (len : ∀ vs H Q E, sp vs H Q E → vs.length = ps.length)
    (hbody : ∀ (f c0 : Addr) (A : Around) (outer : List Env) (s : Shared) (H : Hp) (vs : List V) (Q : VK) (E : XK), PySem.W.codeHdIn K c0 P0 = true → Room k (A.deeper (envOfC x (defScope st) s.heap.objs.size f (.ref c0))) → sp vs H Q E →
      ∃ t, PSs (cxOf CX0 P w K mg base N x (defScope st) f (.ref c0) A outer s H E).nox (defBody st) t ∧ t { nx := fun _ H' => Q .non H', rt := Q } (start N vs) H) : Has P w K mg base (k + 1) x ps sp := by
  obtain ⟨f, fd, c0, F, b, m, hc, hd⟩ := F.ex
  refine ⟨f, fd, ?_, b, F.kp, m, ?_⟩
  · obtain ⟨oc, od, kV, doc, pm, an, cdv, ct, osl, rfl, lk, hcd⟩ := F.ex
    have e : cdv = .ref c0 := hc
    subst e
    refine fn_of lk hcd S len fun A outer s H vs Q E hr hsp => ?_
    obtain ⟨t, h, q⟩ := hbody f c0 A outer s H vs Q E hd hr hsp
    exact ⟨t, h.nox, q⟩
  · obtain ⟨oc, od, kV, doc, pm, an, cdv, ct, osl, e, lk, hcd⟩ := F.ex
    exact ⟨oc, od, osl, lk⟩
end
end L2
set_option Elab.async false
set_option linter.all false
set_option maxRecDepth 100000
set_option maxHeartbeats 4000000
/-! a lambda is made -/
namespace L2
open PySem PySem.Spec PyProof.Rows
def codeE (c : Addr) (q : Str) : HO := .ext fun h => h.CodeRec (.ref c) q
def objE (f : Addr) (o : Obj) : HO := .ext fun h => h.get? f = some o
/-- all that is tracked stays, but the table at P0 -/
def KeepT (P0 : Addr) (H H' : Hp) : Prop := ∀ b o, b ≠ P0 → H b = some o → H' b = some o
theorem KeepT.refl {P0 : Addr} {H : Hp} : KeepT P0 H H := fun _ _ _ e => e
theorem KeepT.trans {P0 : Addr} {H H1 H2 : Hp} (a : KeepT P0 H H1) (b : KeepT P0 H1 H2) : KeepT P0 H H2 := fun c o n e => b c o n (a c o n e)
theorem KeepT.of {P0 : Addr} {H H1 : Hp} (s : Same H H1) : KeepT P0 H H1 := fun c o _ e => s c o e
/-- the table holds nothing, or the code of the lambda at pos -/
def Tab (P0 : Addr) (line col : Nat) (q : Str) (H : Hp) : Prop := H P0 = some (.tbl #[]) ∨ ∃ c, c ≠ P0 ∧ H P0 = some (.tbl #[rawInt line, rawInt col, .ref c]) ∧ H c = some (codeE c q)
theorem Tab.same {P0 : Addr} {line col : Nat} {q : Str} {H H1 : Hp} (t : Tab P0 line col q H) (s : Same H H1) : Tab P0 line col q H1 := by
  rcases t with t | ⟨c, n, e1, e2⟩
  · exact .inl (s _ _ t)
  · exact .inr ⟨c, n, s _ _ e1, s _ _ e2⟩
theorem code_ok {P : Program} {w : World} {H : Hp} {h : Heap} {c : Addr} {q : Str} (x : h.CodeRec (.ref c) q) : ObjOk P w H h c (codeE c q) := by
  refine ⟨x, ?_, fun h1 h2 y k => ?_⟩
  · obtain ⟨c', o, _, _, e, g, _⟩ := x
    cases e
    exact ⟨o, g⟩
  · obtain ⟨c', o, vs, t, e, g, r⟩ := y
    cases e
    exact ⟨c, o, vs, t, rfl, k _ g, r⟩
theorem obj_ok {P : Program} {w : World} {H : Hp} {h : Heap} {f : Addr} {o : Obj} (x : h.get? f = some o) : ObjOk P w H h f (objE f o) := ⟨x, ⟨o, x⟩, fun h1 h2 y k => k o y⟩
section
variable {X : Cx} {pins : List (Addr × Obj)} {σ : List (Option V)} {H : Hp} {s : Shared} {c0 P0 : Addr} {params : Arguments} {body : Expr} {scope : Scope} {pos : Pos} {clos : List (Str × Addr)} {Q : Value → Shared → Prop} {E : Value → Shared → Prop} {M : Model} {A : Around}
theorem lam_made (I : Inv X pins σ H s) (hcode : X.env.code = .ref c0) (hd : PySem.W.codeHdIn X.K c0 P0 = true) (hbi : X.base.BuiltinsAt X.mg P0) (hT : Tab P0 pos.line pos.col (X.env.qual ++ "<lambda>") H) (hcl : closureFor scope X.env = pure clos) (hdef : defaultsOf params X.env = ([], []))
    (h : ∀ f c' ctv H1 s', KeepT P0 H H1 → Tab P0 pos.line pos.col (X.env.qual ++ "<lambda>") H1 → H1 c' = some (codeE c' (X.env.qual ++ "<lambda>")) → H1 f = none →
      Inv X pins σ (upd H1 f (objE f (PySem.W.kla_obj "<lambda>" (X.env.qual ++ "<lambda>") params body scope clos ((X.mg "__name__").getD .none) c' ctv))) s' → Q (.ref f) s') :
    wpAny M A (eval (.Lambda params body scope pos) X.env) Q E s := by
  refine PySem.W.kla_eval hdef ?_
  have hg : s.heap.Ns mainGlobals X.mg := I.mod.glob.keeps I.bk
  have C : PySem.W.CodeHd s.heap c0 P0 := PySem.W.codeHd_of_K I.kIn hd
  have hbi' : s.heap.BuiltinsAt X.mg P0 := by
    obtain ⟨bm, ob, b1, b2, b3, b4, b5, b6⟩ := hbi
    exact ⟨bm, ob, b1, b2, b3, b4, I.bk _ _ b5, b6⟩
  have fin : ∀ (H1 : Hp) (c' : Addr) (ctv : Value) (h' : Heap) (tk : Nat), KeepT P0 H H1 → Tab P0 pos.line pos.col (X.env.qual ++ "<lambda>") H1 → H1 c' = some (codeE c' (X.env.qual ++ "<lambda>")) → Inv X pins σ H1 { s with heap := h', toks := tk } →
      Q (.ref h'.objs.size) { s with heap := h'.push (PySem.W.kla_obj "<lambda>" (X.env.qual ++ "<lambda>") params body scope clos ((X.mg "__name__").getD .none) c' ctv), toks := tk } := fun H1 c' ctv h' tk k t e J => by
    have n1 : H1 h'.objs.size = none := J.hok.fresh (Nat.le_refl _)
    exact h _ c' ctv H1 _ k t e n1 (J.laid (t' := tk) (fun b u q => Heap.get?_push_of_some _ q) (Nat.le_refl _) (obj_ok (Heap.get?_push_size _ rfl)))
  rcases hT with hT | ⟨c, nc, e1, e2⟩
  · have hP : s.heap.get? P0 = some (PySem.W.tabObj #[]) := I.hok P0 _ hT
    have hgP : mainGlobals ≠ P0 := fun q => by
      obtain ⟨o, es, ep, e, hdd, _⟩ := hg
      rw [q, hP] at e; cases e; cases hdd
    refine PySem.W.kla_makeFunction (mg := X.mg) hcl I.ok.glob hg hcode C hP trivial rfl hgP hbi' fun c' ctv h' tk hx hge hlt hrec htb => ?_
    have nc' : H c' = none := I.hok.fresh hge
    have cP : c' ≠ P0 := fun e => by rw [e, hT] at nc'; cases nc'
    have htb' : h'.get? P0 = some { cls := .none, data := .fields #[rawInt pos.line, rawInt pos.col, .ref c'] } := by rw [htb]; rfl
    have at1 : ∀ b u, b ≠ P0 → H b = some u → (upd (upd H P0 (.tbl #[rawInt pos.line, rawInt pos.col, .ref c'])) c' (codeE c' (X.env.qual ++ "<lambda>"))) b = some u := fun b u n e => by
      rw [upd_ne (fun z => by rw [z, nc'] at e; cases e), upd_ne n]; exact e
    have atP : (upd (upd H P0 (.tbl #[rawInt pos.line, rawInt pos.col, .ref c'])) c' (codeE c' (X.env.qual ++ "<lambda>"))) P0 = some (.tbl #[rawInt pos.line, rawInt pos.col, .ref c']) := by rw [upd_ne (Ne.symm cP), upd_same]
    have keep : ∀ b o, b ≠ P0 → s.heap.get? b = some o → h'.get? b = some o := fun b o n e => hx b o n e
    have neP : ∀ b, H b = none → b ≠ P0 := fun b n z => by rw [z, hT] at n; cases n
    refine fin _ c' ctv h' tk (fun b o n e => at1 b o n e) (.inr ⟨c', cP, atP, upd_same⟩) upd_same (I.un (t' := tk) ⟨fun b o e n _ _ => keep b o (neP b n) e, fun b o e n _ _ => ⟨o.slots, keep b o (neP b n) e⟩, fun b o e n _ => ?_, fun b o e _ => ?_, fun b xs e => ?_, fun b o u e => ?_, fun b ps e => ?_⟩ fun b u e => ?_)
    · rw [upd_ne (fun z => ?_), upd_ne (neP b n)]
      · exact n
      · have := Heap.lt_size e
        rw [z] at this
        exact absurd (Nat.lt_of_lt_of_le this hge) (Nat.lt_irrefl _)
    · by_cases hb : b = P0
      · subst hb; exact ⟨_, htb'⟩
      · exact ⟨o, keep b o hb e⟩
    · exact at1 b _ (fun z => by rw [z, hT] at e; cases e) e
    · exact at1 b _ (fun z => by rw [z, hT] at e; cases e) e
    · by_cases hb : b = P0
      · subst hb
        rw [hT] at e
        cases e
        exact ⟨#[rawInt pos.line, rawInt pos.col, .ref c'], by rw [atP]; simp⟩
      · exact ⟨#[], by rw [at1 b _ hb e]; simp⟩
    · by_cases hc : b = c'
      · subst hc
        rw [upd_same] at e
        cases e
        exact code_ok hrec
      · rw [upd_ne hc] at e
        by_cases hb : b = P0
        · subst hb
          rw [upd_same] at e
          cases e
          exact htb'
        · rw [upd_ne hb] at e
          refine (I.hok b u e).stay (fun c v hc q => keep c v ?_ q) (fun c q => at1 c _ ?_ q) fun c xs q => at1 c _ ?_ q
          · rcases hc with z | z
            · rw [z]; exact hb
            · intro z2; rw [z2, hT] at z; cases z
          · intro z2; rw [z2, hT] at q; cases q
          · intro z2; rw [z2, hT] at q; cases q
  · have hP : s.heap.get? P0 = some (PySem.W.tabObj #[rawInt pos.line, rawInt pos.col, .ref c]) := I.hok P0 _ e1
    refine PySem.W.kla_makeFunctionHit (mg := X.mg) hcl I.ok.glob hg hcode C hP ?_ (cv := .ref c) ?_ hbi' fun ctv h' tk hk hsz => ?_
    · trivial
    · simp [codeAmong, rawInt]
    · exact fin H c ctv h' tk KeepT.refl (.inr ⟨c, nc, e1, e2⟩) e2 (I.kept hk)
end
end L2
set_option Elab.async false
set_option linter.all false
set_option maxRecDepth 100000
set_option maxHeartbeats 4000000
/-! a lambda of one name that reads one name of its def is called -/
namespace L2
open PySem PySem.Spec PyProof.Rows
structure LamScope (scope : Scope) (x y : Str) : Prop where
  kind : scope.kind = .function
  lx : scope.names.lookup x = some .local
  ly : scope.names.lookup y = some .free
  nocell : ∀ z ∈ scope.names, z.2 ≠ .cell
  free : ∀ z ∈ scope.names, z.2 = .free → z.1 = y
  co : scope.isCoroutine = false
  gen : scope.isGenerator = false
  ne : x ≠ y
abbrev lamEnv (q : Str) (scope : Scope) (L f c' c : Addr) (y : Str) : Env := PySem.W.envX q scope L f (.ref c') [(y, c)]
/-- the context of the lambda's body -/
def lamCx (X : Cx) (x y q : Str) (scope : Scope) (f c' c : Addr) (B : Around) (s : Shared) (H : Hp) : Cx :=
  { prog := X.prog, w := X.w, K := X.K, mg := X.mg, base := X.base, A := B.deeper (lamEnv q scope s.heap.objs.size f c' c y), N := [x, y], s₀ := s, H₀ := H, env := lamEnv q scope s.heap.objs.size f c' c y,
    outer := X.stack, stack := lamEnv q scope s.heap.objs.size f c' c y :: X.stack, ex := [], fn := fun _ => false, calm := true, pn := [], xe := fun _ _ => False }
section
variable {X : Cx} {pins : List (Addr × Obj)} {σ : List (Option V)} {H : Hp} {s : Shared} {x y q : Str} {scope : Scope} {f c' c : Addr} {B : Around} {i : Nat} {v vy : V} {u : Value}
theorem lam_start (S : LamScope scope x y) (I : Inv X pins σ H s) (hB : B.frames = X.A.frames) (hBh : B.handled = none) (hN : X.N[i]? = some y) (hσ : σ[i]? = some (some vy)) (hk : X.env.scope.names.lookup y = some .cell) (hc : X.env.cells.lookup y = some c) (rv : RelV v u) {h' : Heap} {tk : Nat}
    (hns : h'.Ns s.heap.objs.size (fun z => [(x, u)].reverse.lookup z)) (hkp : ∀ b o, s.heap.get? b = some o → h'.get? b = some o) : Inv (lamCx X x y q scope f c' c B s H) [] [some v, some vy] H { s with heap := h', toks := tk } := by
  have e0 := I.env0
  have noA : ∀ b : Addr, b ∉ (lamCx X x y q scope f c' c B s H).ex := fun b z => absurd (show b ∈ ([] : List Addr) from z) (by simp)
  have one : ∀ z d, (lamCx X x y q scope f c' c B s H).env.cells.lookup z = some d → z = y ∧ d = c := fun z d e => by
    have e : (if z == y then some c else none) = some d := by
      have e' : List.lookup z [(y, c)] = some d := e
      rw [List.lookup_cons] at e'
      cases hz : z == y with
      | true => rw [hz] at e'; exact e'
      | false => rw [hz] at e'; cases e'
    split at e
    · rename_i hz
      exact ⟨by simpa using hz, (Option.some.inj e).symm⟩
    · cases e
  have cy : (lamCx X x y q scope f c' c B s H).env.cells.lookup y = some c := by
    show List.lookup y [(y, c)] = some c
    rw [List.lookup_cons]
    simp
  obtain ⟨m, hm, hl⟩ := id I.loc
  obtain ⟨uy, ry, ly⟩ := hl i y vy hN hσ (.inr (.inl hk))
  have cellY : s.heap.IsCell c (some uy) := by
    rcases ly with ⟨k, _⟩ | ⟨_, d, e, z⟩
    · have : X.env.scope.names.lookup y = some .local := k
      rw [hk] at this; cases this
    · rw [hc] at e; cases e; exact z
  have cellY' : h'.IsCell c (some uy) := by
    obtain ⟨o, ho, hd⟩ := cellY
    exact ⟨o, hkp _ _ ho, hd⟩
  refine ⟨⟨e0.mod, S.kind, rfl, rfl, Nat.le_refl _, fun z1 z2 d h1 h2 => ?_, fun z hz => ?_, fun z d h1 _ => ?_, fun _ => hBh, ?_, .inr ⟨rfl, rfl⟩, fun b z => absurd z (noA b), e0.bs, e0.bsz, fun b _ _ => noA b, fun b z => absurd z (noA b), e0.funs, e0.frf⟩,
    rfl, e0.bare, Un.kept hkp, ⟨_, hns, fun j z w h1 h2 h3 => ?_⟩, fun z d h => ?_, e0.hok.fresh (Nat.le_refl _), fun z d h => ?_, fun p hp => absurd (show p ∈ ([] : List (Addr × Obj)) from hp) (by simp), e0.hok.kept hkp, rfl⟩
  · rw [(one _ _ h1).1, (one _ _ h2).1]
  · have hz : scope.names.lookup z = some .cell ∨ scope.names.lookup z = some .free := hz
    rcases hz with hz | hz
    · exact absurd rfl (S.nocell _ (PySem.mem_of_lookup hz))
    · have : z = y := S.free _ (PySem.mem_of_lookup hz) rfl
      subst this
      exact ⟨c, cy⟩
  · have h1 : false = true := h1
    cases h1
  · exact Around.frames_deeper (hB.trans I.ok.frames)
  · match j, h1, h2 with
    | 0, h1, h2 =>
      cases h1
      cases h2
      exact ⟨u, rv, .inl ⟨S.lx, by show List.lookup x [(x, u)] = some u; rw [List.lookup_cons]; simp⟩⟩
    | 1, h1, h2 =>
      cases h1
      cases h2
      exact ⟨uy, ry, .inr ⟨.inr S.ly, c, cy, cellY'⟩⟩
    | j + 2, h1, h2 => cases h2
  · obtain ⟨rfl, rfl⟩ := one _ _ h
    exact ⟨_, cellY'⟩
  · obtain ⟨rfl, rfl⟩ := one _ _ h
    exact I.freeC _ _ hc
/-- f(v), f the lambda -/
theorem lam_call {params : Arguments} {body : Expr} {pm ctv : Value} {te : TE} {Q : VK} {E : Value → Shared → Prop} (S : LamScope scope x y) (I : Inv X pins σ H s) (hB : B.frames = X.A.frames) (hBh : B.handled = none) (hroom : B.depth < recursionLimit) (hN : X.N[i]? = some y) (hσ : σ[i]? = some (some vy)) (hk : X.env.scope.names.lookup y = some .cell) (hc : X.env.cells.lookup y = some c) (rv : RelV v u)
    (hf : s.heap.get? f = some (PySem.W.kla_obj "<lambda>" q params body scope [(y, c)] pm c' ctv)) (hcd : s.heap.CodeRec (.ref c') q) (hbind : bindArgs (PySem.W.kla_fn "<lambda>" q params body scope [(y, c)] pm (.ref c') ctv) ⟨[u], []⟩ = pure [(x, u)])
    (hpe : PE (lamCx X x y q scope f c' c B s H) body te) (hq : te [some v, some vy] H Q) : wpAny (model X.prog X.w) B (call (.ref f) [u]) (EP X pins σ Q) E s := by
  refine wpAny_call (PySem.W.kla_callFunE hroom hf rfl S.co S.gen rfl hcd ?_)
  rw [hbind]
  refine wpAny_pure (wpAny_newFunctionEnv S.nocell (fun z hz => ?_) (fun h₁ hns hsb => ⟨?_, ?_⟩) S.kind)
  · have : z = (x, u) := by simpa using hz
    subst this
    exact S.lx
  · exact (I.nolimit).fresh _ hsb
  · have hkp : ∀ b o, s.heap.get? b = some o → h₁.get? b = some o := fun b o e => hsb.extBut b o (Nat.ne_of_lt (Heap.lt_size e)) (Heap.get?_push_of_some _ e)
    have J := lam_start (q := q) (f := f) (c' := c') (tk := s.toks + [(x, u)].length) S I hB hBh hN hσ hk hc rv hns hkp
    refine PySem.W.kla_codeExpr (wpAny_mono (hpe [] _ _ H Q J hq) (fun r s' z => ?_) fun _ _ z => False.elim z)
    obtain ⟨v', H', J', r', q'⟩ := z
    exact I.after ⟨v', H', J'.os, J'.bare, J'.base, J'.hok, r', q'⟩
end
end L2
set_option Elab.async false
set_option linter.all false
set_option maxRecDepth 100000
set_option maxHeartbeats 4000000
/-! ### xs > ys of two lists of ints that first differ at a place j, where xs has more -/
namespace GtL
open PySem PyProof.Rows PySem.SeqAt
open PySem.AutoSeq1 (wpAny_loadPart')
open PySem.MeetsSeq PySem.MeetsSeq2 PySem.MeetsSeq3
end GtL
namespace L2
open PySem PySem.Spec PyProof.Rows
section
variable {X : Cx}
def rGtL (K : PySem.W.Frag) : R2 := fun x y H Q => ∃ (a b : Addr) (ns ms : List Int) (j : Nat), x = .ref a ∧ y = .ref b ∧ SqL K H a (ns.map V.int) ∧ SqL K H b (ms.map V.int) ∧ j < ns.length ∧ j < ms.length ∧ (∀ m, m < j → ns.getD m 0 = ms.getD m 0) ∧ ms.getD j 0 < ns.getD j 0 ∧ Q (.bl true) H
theorem int_at {ns : List Int} {us : List Value} (r : Vals (ns.map V.int) us) {j : Nat} (h : j < ns.length) : ∃ t, us[j]? = some (.int (ns.getD j 0) t) := by
  have e1 : (ns.map V.int)[j]? = some (.int (ns.getD j 0)) := by
    rw [List.getElem?_map, List.getElem?_eq_getElem h]
    simp [List.getD, List.getElem?_eq_getElem h]
  obtain ⟨u, hu, t, rfl⟩ := r.get e1
  exact ⟨t, hu⟩
end
end L2
set_option Elab.async false
set_option linter.all false
set_option maxRecDepth 100000
set_option maxHeartbeats 4000000
/-! ### keys that are lists of ints: the lesser of two that first differ at a place j -/
namespace LtL
open PySem PyProof.Rows PySem.SeqAt
open PySem.AutoSeq1 (wpAny_loadPart')
open PySem.MeetsSeq PySem.MeetsSeq2 PySem.MeetsSeq3
theorem more_int (A : Around) (s : Shared) (a : Int) (t : Tok) (c : Int) (u : Tok) (prog : Program) (w : World) (E : Value → Shared → Prop) (Q : Value → Shared → Prop) (q : Q (.bool (decide (a < c))) s) :
    wpAny (model prog w) A (richCompare .Lt (.int a t) (.int c u)) Q E s :=
  (PyProof.Rows.lt_int q : wpAny (model prog w) A (compareOp .Lt (.int a t) (.int c u)) Q E s)
theorem walk (la lb : Addr) (as bs : Array Value) (na nb : Nat) (da db : Option Addr) (sa sb : Array (Option Value)) (j : Nat) (ha : j < as.size) (hb : j < bs.size) (a c : Int) (t u : Tok) (ea : as[j] = .int a t) (eb : bs[j] = .int c u) (hac : a ≠ c) (k : Nat) :
    ∀ i : Nat, j - i = k → i ≤ j → Meets (Builtin.«list.__eq__.loop» ⟨[.ref la, .ref lb, rawInt i, rawInt 0], []⟩)
      (fun A R s => s.heap.get? la = some { cls := .type "list", dict := da, data := .seq as na, slots := sa } ∧ s.heap.get? lb = some { cls := .type "list", dict := db, data := .seq bs nb, slots := sb } ∧
        (∀ m (h1 : m < as.size) (h2 : m < bs.size), m < j → EqAt A.in1 s as[m] bs[m] true) ∧ R (.ok (.ret (.bool (decide (a < c))))) s) := by
  induction k with
  | zero =>
    intro i hk hij prog w A R s h
    obtain ⟨hp, g, d, tk, os⟩ := s
    obtain ⟨qa, qb, he, h⟩ := h
    have hi : i = j := by omega
    subst hi
    wp_walk using wpAny_loadPart' qa, wpAny_loadPart' qb
    have g1 : as[((i : Nat) : Int).toNat]? = some (.int a t) := by rw [Int.toNat_natCast, Array.getElem?_eq_getElem ha, ea]
    have g2 : bs[((i : Nat) : Int).toNat]? = some (.int c u) := by rw [Int.toNat_natCast, Array.getElem?_eq_getElem hb, eb]
    rw [g1, g2]
    have ne : EqAt A.in1 ⟨hp, g, d, tk, os⟩ (.int a t) (.int c u) false := by
      have := EqAt.int_int (A := A.in1) (s := ⟨hp, g, d, tk, os⟩) a t c u
      rw [show (a == c) = false by simp; omega] at this
      exact this
    refine wpAny_bind (ne prog w _ _ ?_)
    have hmo := more_int A.in1 ⟨hp, g, d, tk, os⟩ a t c u prog w
    wp_walk using wpAny_loadPart' qa, wpAny_loadPart' qb
    rw [g1, g2]
    wp_walk using hmo
    exact h
  | succ k ih =>
    intro i hk hij prog w A R s h
    obtain ⟨hp, g, d, tk, os⟩ := s
    obtain ⟨qa, qb, he, h⟩ := h
    wp_walk using wpAny_loadPart' qa, wpAny_loadPart' qb
    have l1 : i < as.size := by omega
    have l2 : i < bs.size := by omega
    have g1 : as[((i : Nat) : Int).toNat]? = some as[i] := by rw [Int.toNat_natCast, Array.getElem?_eq_getElem l1]
    have g2 : bs[((i : Nat) : Int).toNat]? = some bs[i] := by rw [Int.toNat_natCast, Array.getElem?_eq_getElem l2]
    rw [g1, g2]
    refine wpAny_bind (he i l1 l2 (by omega) prog w _ _ ?_)
    wp_walk
    rw [show ((i : Int) + 1) = ((i + 1 : Nat) : Int) by omega]
    refine ⟨plainId_quiet plain_eq_loop _, codeAny_builtin entry_eq_loop ?_⟩
    rw [Around.under_plainId plain_eq_loop _]
    exact ih (i + 1) (by omega) (by omega) prog w A R _ ⟨qa, qb, he, h⟩
theorem top (la lb : Addr) (as bs : Array Value) (na nb : Nat) (da db : Option Addr) (sa sb : Array (Option Value)) (j : Nat) (ha : j < as.size) (hb : j < bs.size) (a c : Int) (t u : Tok) (ea : as[j] = .int a t) (eb : bs[j] = .int c u) (hac : a ≠ c) :
    Meets (Builtin.«list.__lt__» ⟨[.ref la, .ref lb], []⟩)
      (fun A R s => s.heap.get? la = some { cls := .type "list", dict := da, data := .seq as na, slots := sa } ∧ s.heap.get? lb = some { cls := .type "list", dict := db, data := .seq bs nb, slots := sb } ∧
        (∀ m (h1 : m < as.size) (h2 : m < bs.size), m < j → EqAt A.in1 s as[m] bs[m] true) ∧ R (.ok (.ret (.bool (decide (a < c))))) s) := by
  intro prog w A R s h
  obtain ⟨hp, g, d, tk, os⟩ := s
  obtain ⟨qa, qb, he, h⟩ := h
  have hsub := AutoSeq1.sub_list_list
  wp_walk using wpAny_loadPart' qa, wpAny_loadPart' qb
  refine ⟨plainId_quiet plain_eq_loop _, codeAny_builtin entry_eq_loop ?_⟩
  rw [Around.under_plainId plain_eq_loop _]
  exact walk la lb as bs na nb da db sa sb j ha hb a c t u ea eb hac _ 0 rfl (Nat.zero_le _) prog w A R _ ⟨qa, qb, he, h⟩
end LtL
namespace L2
open PySem PySem.Spec PyProof.Rows
section
variable {X : Cx}
theorem key_lt {pins : List (Addr × Obj)} {σ : List (Option V)} {H : Hp} {s : Shared} {B : Around} {a b : Addr} {ns ms : List Int} {j : Nat} {Q : Bool → Shared → Prop} {E : Value → Shared → Prop} (hu : B.units < cLine) (I : Inv X pins σ H s) (h1 : SqL X.K H a (ns.map V.int)) (h2 : SqL X.K H b (ms.map V.int)) (j1 : j < ns.length) (j2 : j < ms.length)
    (he : ∀ m, m < j → ns.getD m 0 = ms.getD m 0) (hl : ns.getD j 0 ≠ ms.getD j 0) (q : Q (decide (ns.getD j 0 < ms.getD j 0)) s) : wpAny (model X.prog X.w) B (keyLt' oneType' (.ref a) (.ref b)) Q E s := by
  obtain ⟨us, r1, p1, z1⟩ := I.list h1
  obtain ⟨ws, r2, p2, z2⟩ := I.list h2
  have n1 : us.length = ns.length := by have := r1.length; simpa using this.symm
  have n2 : ws.length = ms.length := by have := r2.length; simpa using this.symm
  obtain ⟨⟨cls, dd, data, sl⟩, ho, hc, n, hd⟩ := id p1.isList
  obtain ⟨⟨cls2, dd2, data2, sl2⟩, ho2, hc2, n', hd2⟩ := id p2.isList
  simp only at hc hd hc2 hd2
  subst hc hd hc2 hd2
  obtain ⟨t1, e1⟩ := int_at r1 j1
  obtain ⟨t2, e2⟩ := int_at r2 j2
  have k1 : us.toArray[j]'(by simp; omega) = .int (ns.getD j 0) t1 := by
    rw [List.getElem_toArray]
    exact (List.getElem?_eq_some_iff.mp e1).2
  have k2 : ws.toArray[j]'(by simp; omega) = .int (ms.getD j 0) t2 := by
    rw [List.getElem_toArray]
    exact (List.getElem?_eq_some_iff.mp e2).2
  rw [keyLt'_oneType, oneLt'_eq]
  simp only [if_true]
  refine wpAny_bind (wpAny_cRoomFor hu ?_)
  refine wpAny_bind (wpAny_callSpecialIfBound?_slot ⟨_, ho, rfl⟩ PySem.F.slot_list_lt ?_)
  refine call_meets PySem.F.slot_list_lt ⟨_, ho, rfl⟩ PySem.F.entry_list_lt (PySem.F.args_list_lt_2 _ _) (LtL.top a b us.toArray ws.toArray n n' dd dd2 sl sl2 j (by simp; omega) (by simp; omega) _ _ t1 t2 k1 k2 hl)
    ⟨ho, ho2, fun m m1 m2 hm => ?_, wpAny_truthy_bool q⟩
  obtain ⟨t3, e3⟩ := int_at r1 (show m < ns.length by omega)
  obtain ⟨t4, e4⟩ := int_at r2 (show m < ms.length by omega)
  have k3 : us.toArray[m] = .int (ns.getD m 0) t3 := by
    rw [List.getElem_toArray]
    exact (List.getElem?_eq_some_iff.mp e3).2
  have k4 : ws.toArray[m] = .int (ms.getD m 0) t4 := by
    rw [List.getElem_toArray]
    exact (List.getElem?_eq_some_iff.mp e4).2
  rw [k3, k4, he m hm]
  have := SeqAt.EqAt.int_int (A := B.in1) (s := s) (ms.getD m 0) t3 (ms.getD m 0) t4
  rw [show (ms.getD m 0 == ms.getD m 0) = true by simp] at this
  exact this
end
end L2
set_option Elab.async false
set_option linter.all false
set_option maxRecDepth 100000
set_option maxHeartbeats 4000000
/-! the questions of the short sort are about places below n -/
namespace M
open PySem PySem.W PyProof.Rows
def kasP {α : Type} (n : Nat) (R : α → Prop) : KasT α → Prop
  | .ret a => R a
  | .ask i j k => i < n ∧ j < n ∧ ∀ b, kasP n R (k b)
theorem kasP_bind {α β : Type} {n : Nat} {R : α → Prop} {R' : β → Prop} {f : α → KasT β} (h : ∀ a, R a → kasP n R' (f a)) : ∀ t : KasT α, kasP n R t → kasP n R' (t.bind f)
  | .ret a, q => h a q
  | .ask i j k, q => ⟨q.1, q.2.1, fun b => kasP_bind h (k b) (q.2.2 b)⟩
def Bel (n : Nat) (p : Array Nat) : Prop := ∀ k, p.getD k 0 < n
theorem bel_perm {n : Nat} (h : 1 ≤ n) {p q : Array Nat} (b : Bel n p) (e : q.Perm p) : Bel n q := by
  intro k
  rcases Nat.lt_or_ge k q.size with hk | hk
  · have m : q[k] ∈ p.toList := (Array.perm_iff_toList_perm.mp e).mem_iff.mp (by simp)
    obtain ⟨j, hj, e2⟩ := List.mem_iff_getElem.mp m
    have hj' : j < p.size := by simpa using hj
    have z := b j
    have e3 : p.getD j 0 = p[j] := by simp [Array.getD, hj']
    have e4 : q.getD k 0 = q[k] := by simp [Array.getD, hk]
    rw [e4, ← e2, Array.getElem_toList, ← e3]
    exact z
  · have : q.getD k 0 = 0 := by simp [Array.getD, Nat.not_lt.mpr hk]
    rw [this]
    exact h
theorem bel_rev {n : Nat} (h : 1 ≤ n) {p : Array Nat} (b : Bel n p) (i j : Nat) : Bel n (kas_rev p i j) := bel_perm h b (mirror_perm p i j _)
theorem bel_bub {n : Nat} (h : 1 ≤ n) {p : Array Nat} (b : Bel n p) (i j : Nat) : Bel n (bubble p i j) := bel_perm h b (bubble_perm p i j)
theorem asc_in {n : Nat} {p : Array Nat} (b : Bel n p) : ∀ f m, kasP n (fun _ => True) (kas_asc p f m)
  | 0, m => trivial
  | f + 1, m => ⟨b m, b (m - 1), fun c => by
    show kasP n _ (if c = true then KasT.ret m else kas_asc p f (m + 1))
    split
    · trivial
    · exact asc_in b f (m + 1)⟩
theorem desc_in {n : Nat} (h : 1 ≤ n) : ∀ f {p : Array Nat} m q, Bel n p → kasP n (fun r => Bel n r.1) (kas_desc f p m q)
  | 0, p, m, q, b => b
  | f + 1, p, m, q, b => ⟨b m, b (m - 1), fun c => by
    show kasP n _ (if c = true then (if q > 0 then kas_desc f (kas_rev p (m - (q + 1)) m) (m + 1) 0 else kas_desc f p (m + 1) 0)
      else .ask (p.getD (m - 1) 0) (p.getD m 0) fun d => if d = true then .ret (p, m, q) else kas_desc f p (m + 1) (q + 1))
    split
    · split
      · exact desc_in h f (m + 1) 0 (bel_rev h b _ _)
      · exact desc_in h f (m + 1) 0 b
    · refine ⟨b (m - 1), b m, fun d => ?_⟩
      show kasP n _ (if d = true then KasT.ret (p, m, q) else kas_desc f p (m + 1) (q + 1))
      split
      · exact b
      · exact desc_in h f (m + 1) (q + 1) b⟩
theorem tail_in {n m : Nat} (h : 1 ≤ n) {p : Array Nat} (b : Bel n p) (k : Nat) : kasP n (fun r => Bel n r.2) (kas_tail3 k m p) := by
  unfold kas_tail3
  refine kasP_bind (R := fun _ => True) (fun a _ => ?_) _ (asc_in (bel_rev h b 0 k) _ _)
  exact bel_rev h b 0 k
theorem part_in {n m : Nat} (h : 1 ≤ n) {p : Array Nat} (b : Bel n p) (k : Nat) : kasP n (fun r => Bel n r.2) (kas_descPart k m p) := by
  unfold kas_descPart
  refine kasP_bind (fun r hr => ?_) _ (desc_in h _ _ _ b)
  split
  · exact tail_in h (bel_rev h hr _ _) _
  · exact tail_in h hr _
theorem count_in {n m : Nat} (h : 1 ≤ n) {p : Array Nat} (b : Bel n p) : kasP n (fun r => Bel n r.2) (kas_count m p) := by
  unfold kas_count
  refine kasP_bind (fun k _ => ?_) _ (asc_in b _ _)
  split
  · exact b
  · split
    · refine ⟨b 0, b (k - 1), fun c => ?_⟩
      show kasP n _ (if c = true then KasT.ret (k, p) else _)
      split
      · exact b
      · exact part_in h (bel_rev h b _ _) _
    · exact part_in h b _
theorem place_in {n : Nat} {p : Array Nat} (b : Bel n p) (k : Nat) : ∀ f l r, kasP n (fun _ => True) (kas_place p k f l r)
  | 0, l, r => trivial
  | f + 1, l, r => by
    unfold kas_place
    split
    · trivial
    · refine ⟨b k, b _, fun c => ?_⟩
      show kasP n _ (if c = true then kas_place p k f l ((l + r) / 2) else kas_place p k f ((l + r) / 2 + 1) r)
      split
      · exact place_in b k f _ _
      · exact place_in b k f _ _
theorem bin_in {n : Nat} (h : 1 ≤ n) : ∀ f {p : Array Nat} k, Bel n p → kasP n (fun _ => True) (kas_bin f p k)
  | 0, p, k, b => trivial
  | f + 1, p, k, b => by
    unfold kas_bin
    exact kasP_bind (fun l _ => bin_in h f (k + 1) (bel_bub h b _ _)) _ (place_in b k _ _ _)
theorem sort_in {n : Nat} (h : 1 ≤ n) : kasP n (fun _ => True) (kas_sort n) := by
  unfold kas_sort
  refine kasP_bind (fun r hr => ?_) _ (count_in h (p := List.toArray (List.range n)) fun k => ?_)
  · split
    · exact bin_in h _ _ hr
    · trivial
  · rcases Nat.lt_or_ge k n with hk | hk
    · simp [Array.getD, hk]
    · simp [Array.getD, Nat.not_lt.mpr hk]
      omega
/-- the sort, asked of places below n alone -/
theorem kev_wpn {α : Type} {n : Nat} {lt : Nat → Nat → Bool} {cmp : Nat → Nat → (Bool → Shared → Prop) → Shared → Prop} (I : Shared → Prop) (h : ∀ i j C s, i < n → j < n → I s → (∀ s', I s' → C (lt i j) s') → cmp i j C s) {Q : α → Shared → Prop} : ∀ (t : KasT α) (s : Shared), kasP n (fun _ => True) t → I s → (∀ s', I s' → Q (kev lt t) s') → t.kasWp cmp Q s
  | .ret a, s, _, hs, q => q s hs
  | .ask i j k, s, p, hs, q => h i j _ s p.1 p.2.1 hs fun s' hs' => kev_wpn I h (k (lt i j)) s' (p.2.2 _) hs' q
end M
set_option Elab.async false
set_option linter.all false
set_option maxRecDepth 100000
set_option maxHeartbeats 4000000
/-! ### a key is not below itself -/
namespace LtL
open PySem PyProof.Rows PySem.SeqAt
open PySem.AutoSeq1 (wpAny_loadPart')
open PySem.MeetsSeq PySem.MeetsSeq2 PySem.MeetsSeq3
theorem walkE (la lb : Addr) (as bs : Array Value) (na nb : Nat) (da db : Option Addr) (sa sb : Array (Option Value)) (hsz : as.size = bs.size) (k : Nat) :
    ∀ i : Nat, as.size - i = k → Meets (Builtin.«list.__eq__.loop» ⟨[.ref la, .ref lb, rawInt i, rawInt 0], []⟩)
      (fun A R s => s.heap.get? la = some { cls := .type "list", dict := da, data := .seq as na, slots := sa } ∧ s.heap.get? lb = some { cls := .type "list", dict := db, data := .seq bs nb, slots := sb } ∧
        (∀ m (h1 : m < as.size) (h2 : m < bs.size), EqAt A.in1 s as[m] bs[m] true) ∧ R (.ok (.ret (.bool false))) s) := by
  induction k with
  | zero =>
    intro i hk prog w A R s h
    obtain ⟨hp, g, d, tk, os⟩ := s
    obtain ⟨qa, qb, he, h⟩ := h
    wp_walk using wpAny_loadPart' qa, wpAny_loadPart' qb
    have g1 : as[((i : Nat) : Int).toNat]? = none := by simp; omega
    have g2 : bs[((i : Nat) : Int).toNat]? = none := by simp; omega
    rw [g1, g2]
    wp_walk using wpAny_loadPart' qa, wpAny_loadPart' qb
    show R (.ok (.ret (.bool (decide (as.size < bs.size))))) _
    rw [hsz]
    simpa using h
  | succ k ih =>
    intro i hk prog w A R s h
    obtain ⟨hp, g, d, tk, os⟩ := s
    obtain ⟨qa, qb, he, h⟩ := h
    wp_walk using wpAny_loadPart' qa, wpAny_loadPart' qb
    have l1 : i < as.size := by omega
    have l2 : i < bs.size := by omega
    have g1 : as[((i : Nat) : Int).toNat]? = some as[i] := by rw [Int.toNat_natCast, Array.getElem?_eq_getElem l1]
    have g2 : bs[((i : Nat) : Int).toNat]? = some bs[i] := by rw [Int.toNat_natCast, Array.getElem?_eq_getElem l2]
    rw [g1, g2]
    refine wpAny_bind (he i l1 l2 prog w _ _ ?_)
    wp_walk
    rw [show ((i : Int) + 1) = ((i + 1 : Nat) : Int) by omega]
    refine ⟨plainId_quiet plain_eq_loop _, codeAny_builtin entry_eq_loop ?_⟩
    rw [Around.under_plainId plain_eq_loop _]
    exact ih (i + 1) (by omega) prog w A R _ ⟨qa, qb, he, h⟩
theorem topE (la lb : Addr) (as bs : Array Value) (na nb : Nat) (da db : Option Addr) (sa sb : Array (Option Value)) (hsz : as.size = bs.size) :
    Meets (Builtin.«list.__lt__» ⟨[.ref la, .ref lb], []⟩)
      (fun A R s => s.heap.get? la = some { cls := .type "list", dict := da, data := .seq as na, slots := sa } ∧ s.heap.get? lb = some { cls := .type "list", dict := db, data := .seq bs nb, slots := sb } ∧
        (∀ m (h1 : m < as.size) (h2 : m < bs.size), EqAt A.in1 s as[m] bs[m] true) ∧ R (.ok (.ret (.bool false))) s) := by
  intro prog w A R s h
  obtain ⟨hp, g, d, tk, os⟩ := s
  obtain ⟨qa, qb, he, h⟩ := h
  have hsub := AutoSeq1.sub_list_list
  wp_walk using wpAny_loadPart' qa, wpAny_loadPart' qb
  refine ⟨plainId_quiet plain_eq_loop _, codeAny_builtin entry_eq_loop ?_⟩
  rw [Around.under_plainId plain_eq_loop _]
  exact walkE la lb as bs na nb da db sa sb hsz _ 0 rfl prog w A R _ ⟨qa, qb, he, h⟩
end LtL
namespace L2
open PySem PySem.Spec PyProof.Rows
section
variable {X : Cx}
theorem key_same {pins : List (Addr × Obj)} {σ : List (Option V)} {H : Hp} {s : Shared} {B : Around} {a b : Addr} {ns : List Int} {Q : Bool → Shared → Prop} {E : Value → Shared → Prop} (hu : B.units < cLine) (I : Inv X pins σ H s) (h1 : SqL X.K H a (ns.map V.int)) (h2 : SqL X.K H b (ns.map V.int))
    (q : Q false s) : wpAny (model X.prog X.w) B (keyLt' oneType' (.ref a) (.ref b)) Q E s := by
  obtain ⟨us, r1, p1, z1⟩ := I.list h1
  obtain ⟨ws, r2, p2, z2⟩ := I.list h2
  have n1 : us.length = ns.length := by have := r1.length; simpa using this.symm
  have n2 : ws.length = ns.length := by have := r2.length; simpa using this.symm
  obtain ⟨⟨cls, dd, data, sl⟩, ho, hc, n, hd⟩ := id p1.isList
  obtain ⟨⟨cls2, dd2, data2, sl2⟩, ho2, hc2, n', hd2⟩ := id p2.isList
  simp only at hc hd hc2 hd2
  subst hc hd hc2 hd2
  rw [keyLt'_oneType, oneLt'_eq]
  simp only [if_true]
  refine wpAny_bind (wpAny_cRoomFor hu ?_)
  refine wpAny_bind (wpAny_callSpecialIfBound?_slot ⟨_, ho, rfl⟩ PySem.F.slot_list_lt ?_)
  refine call_meets PySem.F.slot_list_lt ⟨_, ho, rfl⟩ PySem.F.entry_list_lt (PySem.F.args_list_lt_2 _ _) (LtL.topE a b us.toArray ws.toArray n n' dd dd2 sl sl2 (by simp; omega))
    ⟨ho, ho2, fun m m1 m2 => ?_, wpAny_truthy_bool q⟩
  have m1' : m < us.length := by simpa using m1
  obtain ⟨t3, e3⟩ := int_at r1 (show m < ns.length by omega)
  obtain ⟨t4, e4⟩ := int_at r2 (show m < ns.length by omega)
  have k3 : us.toArray[m] = .int (ns.getD m 0) t3 := by
    rw [List.getElem_toArray]
    exact (List.getElem?_eq_some_iff.mp e3).2
  have k4 : ws.toArray[m] = .int (ns.getD m 0) t4 := by
    rw [List.getElem_toArray]
    exact (List.getElem?_eq_some_iff.mp e4).2
  rw [k3, k4]
  have := SeqAt.EqAt.int_int (A := B.in1) (s := s) (ns.getD m 0) t3 (ns.getD m 0) t4
  rw [show (ns.getD m 0 == ns.getD m 0) = true by simp] at this
  exact this
end
end L2
set_option Elab.async false
set_option linter.all false
set_option maxRecDepth 100000
set_option maxHeartbeats 4000000
namespace L2
open PySem PySem.Spec PySem.Calls PyProof.Rows
section
variable {X : Cx} {pins : List (Addr × Obj)} {σ : List (Option V)} {H : Hp} {s : Shared} {l f : Addr} {xs : List V} {keys : Nat → List Int} {rk : Nat → Nat} {Q : VK} {E : Value → Shared → Prop}
/-- while the keys are made: i of them are there -/
def KeyI (X : Cx) (pins : List (Addr × Obj)) (σ : List (Option V)) (H : Hp) (keys : Nat → List Int) (D kS : Addr) (e1 : Nat) (i : Nat) (s : Shared) : Prop :=
  ∃ (H1 : Hp) (kas : List Addr), Inv X pins σ H1 s ∧ Same H H1 ∧ H1 D = some (objE D (seqObj "list" #[] e1)) ∧ H1 kS = some (.lst (kas.map V.ref)) ∧ D ≠ kS ∧ kas.length = i ∧ ∀ j ka, kas[j]? = some ka → (ka ≠ kS ∧ ka ≠ D) ∧ H1 ka = some (.lst ((keys j).map V.int))
theorem vals_refs : ∀ {as : List Addr} {us : List Value}, Vals (as.map V.ref) us → us = as.map Value.ref
  | [], us, h => by cases h; rfl
  | a :: r, us, h => by
    cases h with
    | cons h1 h2 =>
      cases h1
      rw [vals_refs h2]
      rfl
theorem key_put {D kS : Addr} {e1 i : Nat} {k : Value} {ka : Addr} {H1 H2 : Hp} {kas : List Addr} {Qu : Unit → Shared → Prop} {M : Model} {A : Around} (J : Inv X pins σ H2 s) (s0 : Same H H1) (sm : Same H1 H2) (eD : H1 D = some (objE D (seqObj "list" #[] e1))) (eK : H1 kS = some (.lst (kas.map V.ref))) (nDK : D ≠ kS) (hk0 : H kS = none)
    (hl : kas.length = i) (hA : ∀ j ka, kas[j]? = some ka → (ka ≠ kS ∧ ka ≠ D) ∧ H1 ka = some (.lst ((keys j).map V.int))) (nk : H1 ka = none) (ek : H2 ka = some (.lst ((keys i).map V.int))) (h64 : i < 64)
    (q : ∀ s', KeyI X pins σ H keys D kS e1 (i + 1) s' → Qu () s') : wpAny M A (Builtin.List.listUpdate (.ref kS) (·.push (.ref ka))) Qu E s := by
  obtain ⟨z, its, n, r, e⟩ := J.hok kS _ (sm _ _ eK)
  have ei := vals_refs r
  subst ei
  have kk : ka ≠ kS := fun z => by rw [z, eK] at nk; cases nk
  have kD : ka ≠ D := fun z => by rw [z, eD] at nk; cases nk
  refine listUpdate_at e rfl ?_ (by rw [List.size_toArray, List.length_map, sizeLine_eq]; omega) (by rw [Array.size_push, List.size_toArray, List.length_map, sizeLine_eq]; omega)
  have s1 := Heap.SameBut.update s.heap kS (Obj.mapSeq (·.push (.ref ka)))
  obtain ⟨c2, hc2⟩ : ∃ c2, (s.heap.update kS (Obj.mapSeq (·.push (.ref ka)))).get? kS = some (seqObj "list" ((kas.map Value.ref).toArray.push (.ref ka)) c2) := ⟨_, get?_update_seq e (·.push (.ref ka))⟩
  have J3 := J.write (x := kS) (e := kS) (o := .lst ((kas ++ [ka]).map V.ref)) (t' := s.toks) (h' := s.heap.update kS (Obj.mapSeq (·.push (.ref ka)))) (by rw [sm _ _ eK]; trivial) (.inl rfl) (fun b u hb q => by rw [s1.2 b hb]; exact q) ⟨_, hc2⟩
    ⟨by rw [List.length_map, List.length_append, sizeLine_eq]; show kas.length + 1 ≤ _; omega, (kas ++ [ka]).map Value.ref, c2, ?_, by rw [hc2]; simp [seqObj]⟩
  · refine q _ ⟨_, kas ++ [ka], J3, fun b o hb => ?_, ?_, upd_same, nDK, by rw [List.length_append, hl]; rfl, fun j a ha => ?_⟩
    · rw [upd_ne (fun z => by rw [z, hk0] at hb; cases hb)]
      exact sm _ _ (s0 _ _ hb)
    · rw [upd_ne nDK]
      exact sm _ _ eD
    · rcases Nat.lt_or_ge j kas.length with hj | hj
      · rw [List.getElem?_append_left hj] at ha
        obtain ⟨⟨n1, n2⟩, e2⟩ := hA j a ha
        exact ⟨⟨n1, n2⟩, by rw [upd_ne n1]; exact sm _ _ e2⟩
      · have hl2 := (List.getElem?_eq_some_iff.mp ha).1
        rw [List.length_append, List.length_singleton] at hl2
        have : j = i := by omega
        subst this
        rw [List.getElem?_append_right hj, show j - kas.length = 0 by omega] at ha
        cases ha
        exact ⟨⟨kk, kD⟩, by rw [upd_ne kk]; exact ek⟩
  · have : ∀ l : List Addr, Vals (l.map V.ref) (l.map Value.ref) := fun l => by
      induction l with
      | nil => exact .nil
      | cons a r ih => exact .cons rfl ih
    exact this _
theorem key_tail {D kS : Addr} {e1 n : Nat} {st : SortSt} {out : List V} {outV : List Value} {P : PySem.Fin → Shared → Prop} {M : Model} {A : Around} (K : KeyI X pins σ H keys D kS e1 n s) (hD0 : H D = none) (hk0 : H kS = none) (rel : Vals out outV) (hout : (arrOf st).map (·.2) = outV.toArray) (hf : failedOf st = none) (hz : out.length < 64) (hn : n < 64)
    (q : ∀ s' H', Inv X pins σ H' s' → Same H H' → H' D = some (.lst out) → P (.done (.ret .none)) s') : wpAny M A (ksk_tail D false e1 (.ref kS) st) P E s := by
  obtain ⟨H1, kas, J, sm, eD, eK, nDK, hl, hA⟩ := K
  obtain ⟨z, its, nk, r, ek⟩ := J.hok kS _ eK
  have ei := vals_refs r
  subst ei
  obtain ⟨eD', _, _⟩ := J.hok D _ eD
  have eD' : s.heap.get? D = some (seqObj "list" #[] e1) := eD'
  have lo : outV.length = out.length := rel.length.symm
  have s1 := Heap.SameBut.update s.heap kS (Obj.mapSeq fun _ => (#[] : Array Value))
  obtain ⟨ck, hck⟩ : ∃ ck, (s.heap.update kS (Obj.mapSeq fun _ => (#[] : Array Value))).get? kS = some (seqObj "list" #[] ck) := ⟨_, get?_update_seq ek fun _ => #[]⟩
  have J2 := J.write (x := kS) (e := kS) (o := .lst []) (t' := s.toks) (h' := s.heap.update kS (Obj.mapSeq fun _ => (#[] : Array Value))) (by rw [eK]; trivial) (.inl rfl) (fun b u hb q => by rw [s1.2 b hb]; exact q) ⟨_, hck⟩ ⟨Nat.zero_le _, [], ck, .nil, hck⟩
  have eD2 : (s.heap.update kS (Obj.mapSeq fun _ => (#[] : Array Value))).get? D = some (seqObj "list" #[] e1) := by rw [s1.2 D nDK]; exact eD'
  have s2 := Heap.SameBut.update (s.heap.update kS (Obj.mapSeq fun _ => (#[] : Array Value))) D (Obj.mapSeq fun _ => outV.toArray)
  obtain ⟨c2, hc2⟩ : ∃ c2, ((s.heap.update kS (Obj.mapSeq fun _ => (#[] : Array Value))).update D (Obj.mapSeq fun _ => outV.toArray)).get? D = some (seqObj "list" outV.toArray c2) := ⟨_, get?_update_seq eD2 fun _ => outV.toArray⟩
  have J3 := J2.write (x := D) (e := D) (o := .lst out) (t' := s.toks) (h' := (s.heap.update kS (Obj.mapSeq fun _ => (#[] : Array Value))).update D (Obj.mapSeq fun _ => outV.toArray)) (by rw [upd_ne nDK, eD]; trivial) (.inl rfl) (fun b u hb q => by rw [s2.2 b hb]; exact q) ⟨_, hc2⟩ ⟨by rw [sizeLine_eq]; omega, outV, c2, rel, hc2⟩
  unfold ksk_tail
  try dsimp only
  rw [hout]
  refine wpAny_bind (listUpdate_at ek rfl ?_ (by rw [List.size_toArray, List.length_map, sizeLine_eq]; omega) (Nat.zero_le _))
  refine wpAny_bind (wpAny_letGo ?_)
  refine wpAny_bind (seqEpoch_at eD2 rfl ?_)
  refine wpAny_bind (listUpdate_at eD2 rfl ?_ (Nat.zero_le _) (by show outV.toArray.size ≤ _; rw [List.size_toArray, sizeLine_eq]; omega))
  rw [hf]
  simp only [bne_self_eq_false, Bool.false_eq_true, if_false]
  refine wpAny_pure (q _ _ J3 (fun b o hb => ?_) upd_same)
  rw [upd_ne (fun z => by rw [z, hD0] at hb; cases hb), upd_ne (fun z => by rw [z, hk0] at hb; cases hb)]
  exact sm _ _ hb
/-- the keys tell which item stands before which -/
def Ranked (keys : Nat → List Int) (rk : Nat → Nat) (n : Nat) : Prop := (∀ i j, i < n → j < n → rk i = rk j → i = j) ∧ ∀ i j, i < n → j < n → i ≠ j → ∃ m, m < (keys i).length ∧ m < (keys j).length ∧ (∀ m', m' < m → (keys i).getD m' 0 = (keys j).getD m' 0) ∧ (keys i).getD m 0 ≠ (keys j).getD m 0 ∧ decide ((keys i).getD m 0 < (keys j).getD m 0) = decide (rk i < rk j)
theorem key_cmp {D kS : Addr} {e1 n : Nat} {B : Around} {H1 : Hp} {kas : List Addr} (hu : B.units < cLine) (R : Ranked keys rk n) (J : Inv X pins σ H1 s) (hl : kas.length = n) (hA : ∀ j ka, kas[j]? = some ka → (ka ≠ kS ∧ ka ≠ D) ∧ H1 ka = some (.lst ((keys j).map V.int)))
    {i j : Nat} {C : Bool → Shared → Prop} (hi : i < n) (hj : j < n) (q : C (M.ltk rk i j) s) : PySem.W.kas_ask X.prog X.w B oneType' (kas.map Value.ref) i j C s := by
  have ei : kas[i]? = some kas[i] := List.getElem?_eq_getElem (by omega)
  have ej : kas[j]? = some kas[j] := List.getElem?_eq_getElem (by omega)
  have g : ∀ k, (hk : k < n) → (kas.map Value.ref).getD k Value.none = .ref (kas[k]'(by omega)) := fun k hk => by
    rw [List.getD, List.getElem?_map, List.getElem?_eq_getElem (by omega)]
    rfl
  unfold PySem.W.kas_ask
  rw [g i hi, g j hj]
  by_cases e : i = j
  · subst e
    refine key_same hu J (SqL.of (hA i _ ei).2) (SqL.of (hA i _ ei).2) ?_
    have : M.ltk rk i i = false := by unfold M.ltk; simp
    rw [this] at q
    exact q
  · obtain ⟨m, m1, m2, m3, m4, m5⟩ := R.2 i j hi hj e
    refine key_lt hu J (SqL.of (hA i _ ei).2) (SqL.of (hA j _ ej).2) m1 m2 m3 m4 ?_
    rw [m5]
    exact q
end
end L2
set_option Elab.async false
set_option linter.all false
set_option maxRecDepth 100000
set_option maxHeartbeats 4000000
namespace L2
open PySem PySem.Spec PySem.Calls PyProof.Rows
section
variable {X : Cx} {pins : List (Addr × Obj)} {σ : List (Option V)} {H : Hp} {s : Shared} {l f : Addr} {xs : List V} {keys : Nat → List Int} {rk : Nat → Nat} {Q : VK} {E : Value → Shared → Prop}
/-- in the order of the ranks -/
def InRank (rk : Nat → Nat) (n : Nat) (p : List Nat) : Prop := p.Perm (List.range n) ∧ ∀ i j, i ≤ j → j < n → rk (p.getD i 0) ≤ rk (p.getD j 0)
theorem vals_pick {xs : List V} {us : List Value} (r : Vals xs us) : ∀ p : List Nat, (∀ i ∈ p, i < xs.length) → Vals (p.map fun i => xs.getD i .non) (p.map fun i => us.getD i Value.none)
  | [], _ => .nil
  | i :: p, h => by
    have hi := h i List.mem_cons_self
    have e : xs[i]? = some xs[i] := List.getElem?_eq_getElem hi
    obtain ⟨u, hu, rv⟩ := r.get e
    refine .cons ?_ (vals_pick r p fun j hj => h j (List.mem_cons_of_mem _ hj))
    have a1 : xs.getD i .non = xs[i] := by simp [List.getD, e]
    have a2 : us.getD i Value.none = u := by simp [List.getD, hu]
    show RelV (xs.getD i .non) (us.getD i Value.none)
    rw [a1, a2]
    exact rv
theorem range_pick {xs : List V} {us : List Value} : (List.range us.length).map (fun i => us.getD i Value.none) = us := by
  apply List.ext_getElem
  · simp
  · intro i h1 h2
    simp [List.getD, h2]
theorem key_end {D kS : Addr} {e1 n : Nat} {us : List Value} {ksA : Array Value} {B : Around} {P : PySem.Fin → Shared → Prop} (hu : B.units < cLine) (R : Ranked keys rk n) (K : KeyI X pins σ H keys D kS e1 n s) (hD0 : H D = none) (hk0 : H kS = none) (rel : Vals xs us) (hn : xs.length = n) (h64 : n < 64)
    (hks : ∀ H1 (kas : List Addr), Inv X pins σ H1 s → H1 kS = some (.lst (kas.map V.ref)) → ksA = (kas.map Value.ref).toArray)
    (q : ∀ p s' H', InRank rk n p → Inv X pins σ H' s' → Same H H' → H' D = some (.lst (p.map fun i => xs.getD i .non)) → P (.done (.ret .none)) s') : wpAny (model X.prog X.w) B (ksk_end D false us.toArray e1 (.ref kS) ksA) P E s := by
  have K0 := K
  obtain ⟨H1, kas, J, sm, eD, eK, nDK, hl, hA⟩ := K
  have ek := hks H1 kas J eK
  subst ek
  have lu : us.length = n := by rw [← hn]; exact rel.length.symm
  unfold ksk_end
  try dsimp only
  rw [if_neg (by decide)]
  by_cases h2 : us.toArray.size < 2
  · rw [if_pos h2, if_pos h2]
    refine wpAny_bind (wpAny_pure ?_)
    refine wpAny_bind (wpAny_pure ?_)
    rw [List.size_toArray] at h2
    have lp : InRank rk n (List.range n) := ⟨List.Perm.refl _, fun i j hij hj => by
      have : i = j := by omega
      subst this
      exact Nat.le_refl _⟩
    refine key_tail K0 hD0 hk0 (out := (List.range n).map fun i => xs.getD i .non) (outV := (List.range n).map fun i => us.getD i Value.none) (vals_pick rel _ fun i hi => by rw [hn]; exact List.mem_range.mp hi) ?_ rfl (by simp; omega) h64 fun s' H' J' sm' eo => q _ s' H' lp J' sm' eo
    rw [← lu, range_pick (xs := xs)]
    show (((kas.map Value.ref).toArray.zip us.toArray).map (·.2)) = us.toArray
    apply Array.toList_inj.mp
    simp
    rw [List.map_snd_zip]
    simp
    omega
  · rw [if_neg h2, if_neg h2]
    rw [List.size_toArray] at h2
    have hlk : (kas.map Value.ref).length = us.length := by rw [List.length_map]; omega
    refine wpAny_bind (PySem.W.kas_kind (T := .type "list") (by rw [hlk]; omega) (fun v hv => ?_) (by decide) (by decide) ?_)
    · obtain ⟨ka, hka, rfl⟩ := List.mem_map.mp hv
      obtain ⟨j, hj, ej⟩ := List.mem_iff_getElem.mp hka
      obtain ⟨_, e2⟩ := hA j ka (by rw [List.getElem?_eq_getElem hj, ej])
      obtain ⟨_, its, m, _, eh⟩ := J.hok ka _ e2
      intro A' Q' E' s' k' q'
      exact wpAny_typeOf ⟨_, k' _ _ eh, rfl⟩ q'
    · obtain ⟨P1, so⟩ := M.sort_is (rk := rk) (n := n) (by omega) R.1
      refine wpAny_bind (wpAny_mono (PySem.W.kat_run (κ := oneType') (Q := fun st' s' => s' = s ∧ arrOf st' = (M.kev (M.ltk rk) (PySem.W.kas_sort n)).map (PySem.W.kas_item ((kas.map Value.ref).toArray.zip us.toArray)) ∧ failedOf st' = none) (G := fun p s' => s' = s ∧ p = M.kev (M.ltk rk) (PySem.W.kas_sort n)) hlk (by omega) (by omega) (fun p st' s' _ a2 a3 a4 => ⟨a4.1, by rw [← a4.2]; exact a2, a3⟩) ?_) (fun r s' hr => ?_) fun _ _ x => x)
      · rw [lu]
        refine M.kev_wpn (n := n) (fun s' => s' = s) (fun i j C s' hi hj hs' hC => ?_) _ s (M.sort_in (by omega)) rfl fun s' hs' => ⟨hs', rfl⟩
        subst hs'
        exact key_cmp (e1 := e1) hu R J hl hA hi hj (hC _ rfl)
      · obtain ⟨⟨⟩, st'⟩ := r
        obtain ⟨rfl, har, hf⟩ := hr
        have hsn := PySem.W.kat_snds (vs := us) hlk har
        generalize M.kev (M.ltk rk) (PySem.W.kas_sort n) = p at P1 so har hsn
        have pl : p.toList.length = n := by rw [P1.perm.length_eq, List.length_range]
        have ir : InRank rk n p.toList := ⟨P1.perm, fun i j hij hj => by
          have := so i j hij hj
          unfold M.gk at this
          rw [Array.getD_eq_getD_getElem?, Array.getD_eq_getD_getElem?] at this
          simpa [List.getD] using this⟩
        exact key_tail K0 hD0 hk0 (out := p.toList.map fun i => xs.getD i .non) (vals_pick rel _ fun i hi => by rw [hn]; exact List.mem_range.mp (P1.perm.mem_iff.mp hi)) hsn hf (by rw [List.length_map, pl]; exact h64) h64 fun s' H' J' sm' eo => q _ s' H' ir J' sm' eo
end
end L2
set_option Elab.async false
set_option linter.all false
set_option maxRecDepth 100000
set_option maxHeartbeats 4000000
namespace L2
open PySem PySem.Spec PySem.Calls PyProof.Rows
section
variable {X : Cx} {pins : List (Addr × Obj)} {σ : List (Option V)} {H : Hp} {s : Shared} {l f : Addr} {xs : List V} {keys : Nat → List Int} {rk : Nat → Nat} {Q : VK} {E : Value → Shared → Prop}
/-- what the key's function is to do -/
def Keys (X : Cx) (pins : List (Addr × Obj)) (σ : List (Option V)) (H : Hp) (xs : List V) (keys : Nat → List Int) (f : Addr) (B : Around) : Prop :=
  ∀ (j : Nat) (v : V) (u : Value) (H1 : Hp) (s1 : Shared), xs[j]? = some v → RelV v u → Inv X pins σ H1 s1 → Same H H1 →
    wpAny (model X.prog X.w) B (call (.ref f) [u]) (EP X pins σ fun r H2 => ∃ ka, r = .ref ka ∧ Same H1 H2 ∧ H1 ka = none ∧ H2 ka = some (.lst ((keys j).map V.int))) (fun _ _ => False) s1
theorem key_rest {D kS : Addr} {e1 n : Nat} {us : List Value} {B : Around} {P : PySem.Fin → Shared → Prop} (hu : B.units < cLine) (R : Ranked keys rk n) (K : KeyI X pins σ H keys D kS e1 0 s) (hD0 : H D = none) (hk0 : H kS = none) (rel : Vals xs us) (hn : xs.length = n) (h64 : n < 64) (hk : Keys X pins σ H xs keys f B)
    (q : ∀ p s' H', InRank rk n p → Inv X pins σ H' s' → Same H H' → H' D = some (.lst (p.map fun i => xs.getD i .non)) → P (.done (.ret .none)) s') : wpAny (model X.prog X.w) B (ksk_rest D (.ref f) false us.toArray e1 (.ref kS)) P E s := by
  have lu : us.length = n := by rw [← hn]; exact rel.length.symm
  unfold ksk_rest
  refine wpAny_bind (wpAny_rule ?_)
  first
    | rw [List.forIn_toArray]
    | (rw [← Array.forIn_toList]; simp only [List.toList_toArray])
    | rw [← Array.forIn_toList]
  refine wpAny_bind (ksk_fold (KeyI X pins σ H keys D kS e1) us 0 s K (fun j x s' hx hI => ?_) fun s' hd => ?_)
  · rw [Nat.zero_add] at hI ⊢
    obtain ⟨H1, kas, J, sm, eD, eK, nDK, hl, hA⟩ := hI
    have hj : j < us.length := (List.getElem?_eq_some_iff.mp hx).1
    have ev : xs[j]? = some xs[j] := List.getElem?_eq_getElem (by omega)
    obtain ⟨u, hu', rv⟩ := rel.get ev
    rw [hx] at hu'
    cases hu'
    refine wpAny_bind (wpAny_attempt (wpAny_mono (hk j _ x H1 s' ev rv J sm) (fun k s'' hk' => ?_) fun _ _ hF => hF.elim))
    obtain ⟨v, H2, J2, r2, ka, rfl, sm2, nk, ek⟩ := hk'
    cases r2
    try dsimp only
    refine wpAny_bind (key_put (k := .none) J2 sm sm2 eD eK nDK hk0 hl hA nk ek (by omega) fun s3 hs3 => wpAny_pure ⟨rfl, hs3⟩)
  · rw [Nat.zero_add, lu] at hd
    have hd' := hd
    obtain ⟨H1, kas, J, sm, eD, eK, nDK, hl, hA⟩ := hd
    obtain ⟨z, its, m, r, e⟩ := J.hok kS _ eK
    try dsimp only
    refine wpAny_bind (listItems_at e rfl ?_)
    refine key_end hu R hd' hD0 hk0 rel hn h64 (fun H1' kas' J' eK' => ?_) q
    obtain ⟨z', its', m', r', e'⟩ := J'.hok kS _ eK'
    rw [e] at e'
    have ei : its.toArray = its'.toArray := by
      have := Option.some.inj e'
      injection this with _ _ h3
      injection h3
    rw [ei, vals_refs r']
theorem sorted_key {n : Nat} (hu : X.A.units + 100 < cLine) (I : Inv X pins σ H s) (hl : SqL X.K H l xs) (hn : xs.length = n) (h64 : n < 64) (R : Ranked keys rk n) (hk : Keys X pins σ H xs keys f X.A.in1.in1)
    (q : ∀ p D H', InRank rk n p → Same H H' → H D = none → H' D = some (.lst (p.map fun i => xs.getD i .non)) → Q (.ref D) H') : wpAny (model X.prog X.w) X.A (call (.builtin "sorted") [.ref l] [(Str.ofString "key", .ref f)]) (EP X pins σ Q) E s := by
  obtain ⟨us, rel, ht, hz⟩ := I.list hl
  have lu : us.length = n := by rw [← hn]; exact rel.length.symm
  refine call_function_entry_kw kind_sorted plain_sorted entry_sorted (ksk_s1 _ _) ?_
  unfold Builtin.«sorted»
  refine wpAny_bind (m := checkCount "sorted" 1 1 _) (wpAny_pure ?_)
  refine wpAny_bind (collect_list ht.isList ?_ (by rw [sizeLine_eq]; omega))
  refine wpAny_bind (wpAny_newList ?_ (by rw [sizeLine_eq]; omega))
  have hsz : ((s.heap.push (seqObj "list" #[] 0)).update s.heap.objs.size (Obj.mapSeq (· ++ us.toArray))).objs.size = s.heap.objs.size + 1 := by
    rw [Heap.size_update, size_push']
  have hoL : (((s.heap.push (seqObj "list" #[] 0)).update s.heap.objs.size (Obj.mapSeq (· ++ us.toArray))).push (seqObj "list" us.toArray 0)).get? (s.heap.objs.size + 1) = some (seqObj "list" us.toArray 0) := by
    rw [← hsz]; exact Heap.get?_push_size _ rfl
  have keep : ∀ b o, s.heap.get? b = some o → (((s.heap.push (seqObj "list" #[] 0)).update s.heap.objs.size (Obj.mapSeq (· ++ us.toArray))).push (seqObj "list" us.toArray 0)).get? b = some o := fun b o q => by
    have hlt : b < s.heap.objs.size := Heap.lt_size q
    rw [Heap.get?_push_ne _ _ _ (by rw [hsz]; exact Nat.ne_of_lt (Nat.lt_succ_of_lt hlt)), Heap.get?_update_ne _ _ _ _ (Nat.ne_of_lt hlt), Heap.get?_push_ne _ _ _ (Nat.ne_of_lt hlt)]
    exact q
  show wpAny _ _ _ _ _ { s with heap := ((s.heap.push (seqObj "list" #[] 0)).update s.heap.objs.size (Obj.mapSeq (· ++ us.toArray))).push (seqObj "list" us.toArray 0) }
  rw [hsz]
  generalize hh : ((s.heap.push (seqObj "list" #[] 0)).update s.heap.objs.size (Obj.mapSeq (· ++ us.toArray))).push (seqObj "list" us.toArray 0) = h2 at hoL keep ⊢
  generalize hD : s.heap.objs.size + 1 = D at hoL ⊢
  have hDf : s.heap.objs.size ≤ D := by omega
  have hD0 : H D = none := I.hok.fresh hDf
  refine wpAny_bind (wpAny_holding (wpAny_call_entry_kw slot_list_sort ⟨_, hoL, rfl⟩ entry_list_sort ?body (ksk_l1 _ _)))
  case body =>
    show wpAny (model X.prog X.w) X.A.in1.in1 (Builtin.«list.sort» ⟨[.ref D], [(Str.ofString "key", .ref f)]⟩) _ _ _
    rw [ksk_t1]
    unfold ksk_tree
    have s1 := Heap.SameBut.update h2 D (Obj.mapSeq fun _ => (#[] : Array Value))
    obtain ⟨e1, ho1⟩ : ∃ e1, (h2.update D (Obj.mapSeq fun _ => (#[] : Array Value))).get? D = some (seqObj "list" #[] e1) := ⟨_, get?_update_seq hoL fun _ => #[]⟩
    refine wpAny_bind (listItems_at hoL rfl ?_)
    refine wpAny_bind (listUpdate_at hoL rfl ?_ (by rw [List.size_toArray, sizeLine_eq]; omega) (Nat.zero_le _))
    refine wpAny_bind (seqEpoch_at ho1 rfl ?_)
    refine wpAny_bind (wpAny_newTuple ?_ (by show us.length ≤ _; rw [sizeLine_eq]; omega))
    refine wpAny_bind (wpAny_newList ?_ (Nat.zero_le _))
    refine wpAny_holding ?_
    have keep2 : ∀ b o, s.heap.get? b = some o → ((h2.update D (Obj.mapSeq fun _ => (#[] : Array Value))).push (seqObj "tuple" us.toArray 0)).get? b = some o := fun b o e => by
      have hlt : b < s.heap.objs.size := Heap.lt_size e
      refine Heap.get?_push_of_some _ ?_
      rw [s1.2 b (Nat.ne_of_lt (by rw [← hD]; exact Nat.lt_succ_of_lt hlt))]
      exact keep b o e
    have J1 := I.laid (a := D) (o := objE D (seqObj "list" #[] e1)) (t' := s.toks) (h' := (h2.update D (Obj.mapSeq fun _ => (#[] : Array Value))).push (seqObj "tuple" us.toArray 0)) keep2 hDf (obj_ok (Heap.get?_push_of_some _ ho1))
    generalize hh3 : (h2.update D (Obj.mapSeq fun _ => (#[] : Array Value))).push (seqObj "tuple" us.toArray 0) = h3 at J1
    have J2 := J1.laid (a := h3.objs.size) (o := .lst []) (t' := s.toks) (h' := h3.push (seqObj "list" #[] 0)) (fun b u q => Heap.get?_push_of_some _ q) (Nat.le_refl _) ⟨Nat.zero_le _, [], 0, .nil, Heap.get?_push_size _ rfl⟩
    have hkS0 : upd H D (objE D (seqObj "list" #[] e1)) h3.objs.size = none := J1.hok.fresh (Nat.le_refl _)
    have nDK : D ≠ h3.objs.size := fun e => by rw [← e, upd_same] at hkS0; cases hkS0
    have hk0 : H h3.objs.size = none := by rw [upd_ne (Ne.symm nDK)] at hkS0; exact hkS0
    have sm : Same H (upd (upd H D (objE D (seqObj "list" #[] e1))) h3.objs.size (.lst [])) := fun b o e => by
      rw [upd_ne (fun z => by rw [z, hk0] at e; cases e), upd_ne (fun z => by rw [z, hD0] at e; cases e)]
      exact e
    show wpAny (model X.prog X.w) X.A.in1.in1 (ksk_rest D (.ref f) false us.toArray e1 (.ref h3.objs.size)) _ _ { s with heap := h3.push (seqObj "list" #[] 0) }
    refine key_rest (n := n) (by show X.A.units + 1 + 1 < _; omega) R ⟨_, [], J2, sm, by rw [upd_ne nDK, upd_same], upd_same, nDK, rfl, fun j ka e => by cases e⟩ hD0 hk0 rel hn h64 hk fun p s' H' ir J' sm' eo => ?_
    exact ⟨_, rfl, wpAny_pure ⟨_, rfl, .ref D, H', J', rfl, q p D H' ir sm' hD0 eo⟩⟩
end
end L2
set_option Elab.async false
set_option linter.all false
set_option maxRecDepth 100000
set_option maxHeartbeats 4000000
namespace L2
open PySem PySem.Spec PySem.Calls PyProof.Rows
section
variable {X : Cx} {K : PySem.W.Frag} {e : Expr} {ta : TA} {te : TE} {p pos kp lpos : Pos} {params : Arguments} {body : Expr} {scope : Scope} {x y : Str} {c c0 P0 : Addr} {iy k : Nat}
def tSortedLam (P0 : Addr) (line col : Nat) (q : Str) (iy : Nat) (ta : TA) (te : TE) : TE := fun σ H Q => ta σ H fun vs H1 => ∃ (l : Addr) (xs : List V) (vy : V) (keys : Nat → List Int) (rk : Nat → Nat) (n : Nat), vs = [.ref l] ∧ σ[iy]? = some (some vy) ∧ xs.length = n ∧ n < 64 ∧ Tab P0 line col q H1 ∧ H1 l = some (.lst xs) ∧ Ranked keys rk n ∧
  (∀ H2, KeepT P0 H1 H2 → ∀ j v, xs[j]? = some v → te [some v, some vy] H2 fun r H3 => ∃ ka, r = .ref ka ∧ Same H2 H3 ∧ H2 ka = none ∧ H3 ka = some (.lst ((keys j).map V.int))) ∧
  ∀ o D H2, InRank rk n o → KeepT P0 H1 H2 → Tab P0 line col q H2 → H1 D = none → H2 D = some (.lst (o.map fun i => xs.getD i .non)) → Q (.ref D) H2
/-- sorted(e, key=lambda x: body), body reads y of the def -/
theorem pe_sortedLam (hr : Room (k + 1) X.A) (hcal : X.calm = true) (hg : Gl X "sorted") (hm : X.mg "sorted" = none) (hbi : X.base.BuiltinsAt X.mg P0) (hd : PySem.W.codeHdIn X.K c0 P0 = true) (hcode : X.env.code = .ref c0) (S : LamScope scope x y) (hN : X.N[iy]? = some y) (hk : X.env.scope.names.lookup y = some .cell) (hc : X.env.cells.lookup y = some c)
    (hcl : closureFor scope X.env = pure [(y, c)]) (hdef : defaultsOf params X.env = ([], []))
    (hbind : ∀ (pm : Value) (c' : Addr) (ctv u : Value), bindArgs (PySem.W.kla_fn "<lambda>" (X.env.qual ++ "<lambda>") params body scope [(y, c)] pm (.ref c') ctv) ⟨[u], []⟩ = pure [(x, u)])
    (ha : PA X [e] ta) (hbody : ∀ (f c' : Addr) (s1 : Shared) (H1 : Hp), PE (lamCx X x y (X.env.qual ++ "<lambda>") scope f c' c X.A.in1.in1 s1 H1) body te)
    (he : backTo pos (starEach [e] X.env) = (false, eval e X.env) :: backTo pos (starEach [] X.env) := by rfl) (hpl : (backTo pos (starEach [e] X.env)).any (·.1) = false := by rfl) :
    PE X (.Call (.Name "sorted" p) [e] [⟨some "key", .Lambda params body scope lpos, kp⟩] pos) (tSortedLam P0 lpos.line lpos.col (X.env.qual ++ "<lambda>") iy ta te) := by
  intro pins s σ H Q I h
  refine wpAny_Call_Name_kw (ld_blt I hg hm boot_sorted ?_)
  refine callWith_kw (thn (ha pos pins s σ H _ I h) fun us s1 ⟨vs, H1, I1, r1, q1⟩ => ?_) he hpl
  obtain ⟨l, xs, vy, keys, rk, n, rfl, hσ, hn, h64, hT, hl, R, hte, q⟩ := q1
  cases r1 with
  | cons r1 r2 =>
    cases r2
    cases r1
    refine kws_cons (lam_made I1 hcode hd hbi hT hcl hdef fun f c' ctv H2 s2 kt tab ec nf J => kws_nil ?_)
    have nl : l ≠ P0 := fun z => by
      rcases hT with t | ⟨_, _, t, _⟩ <;> rw [z, t] at hl <;> cases hl
    have sm2 : Same H2 (upd H2 f (objE f (PySem.W.kla_obj "<lambda>" (X.env.qual ++ "<lambda>") params body scope [(y, c)] ((X.mg "__name__").getD .none) c' ctv))) := Same.new nf _
    refine sorted_key (n := n) (keys := keys) (rk := rk) (by have := hr.un; omega) J (SqL.of (sm2 _ _ (kt l _ nl hl))) hn h64 R (fun j v u H3 s3 ev rv J3 sm3 => ?_) fun o D H' ir sm hD eo => ?_
    · obtain ⟨hf, _⟩ := J3.hok f _ (sm3 _ _ upd_same)
      obtain ⟨hcd, _⟩ := J3.hok c' _ (sm3 _ _ (sm2 _ _ ec))
      have k3 : KeepT P0 H1 H3 := kt.trans (KeepT.of (fun b o z => sm3 _ _ (sm2 _ _ z)))
      exact lam_call S J3 rfl (I.ok.hd hcal) (by have := hr.dp; show X.A.depth < _; omega) hN hσ hk hc rv hf hcd (hbind _ _ _ _) (hbody f c' s3 H3) (hte H3 k3 j v ev)
    · have nD : D ≠ P0 := fun z => by
        rcases tab with t | ⟨_, _, t, _⟩ <;> have t' := sm2 _ _ t <;> rw [z, t'] at hD <;> cases hD
      refine q o D H' ir (kt.trans (KeepT.of fun b u z => sm _ _ (sm2 _ _ z))) ((tab.same sm2).same sm) ?_ eo
      cases z : H1 D with
      | none => rfl
      | some u =>
        have := sm2 _ _ (kt D u nD z)
        rw [this] at hD
        cases hD
end
end L2
set_option linter.all false
namespace M
theorem nd_ext : ∀ {l m : List Nat}, l.Nodup → m.Nodup → (∀ x, x ∈ l ↔ x ∈ m) → l.Perm m
  | [], m, _, _, h => by
    have : m = [] := List.eq_nil_iff_forall_not_mem.mpr fun x hx => by have := (h x).mpr hx; cases this
    rw [this]
  | a :: r, m, nd, nm, h => by
    have ha : a ∈ m := (h a).mp List.mem_cons_self
    obtain ⟨n1, n2⟩ := List.nodup_cons.mp nd
    refine List.Perm.trans (List.Perm.cons a (nd_ext n2 (nm.erase a) fun x => ?_)) (List.perm_cons_erase ha).symm
    rw [nm.mem_erase_iff]
    constructor
    · intro hx
      exact ⟨fun e => n1 (e ▸ hx), (h x).mp (List.mem_cons_of_mem _ hx)⟩
    · rintro ⟨hne, hx⟩
      rcases List.mem_cons.mp ((h x).mpr hx) with q | q
      · exact absurd q hne
      · exact q
/-- n numbers that differ, below n, that rise, are 0, 1, .. -/
theorem rise_all {q : List Nat} {n : Nat} (p : q.Perm (List.range n)) (h : ∀ i j, i ≤ j → j < n → q.getD i 0 ≤ q.getD j 0) {i : Nat} (hi : i < n) : q.getD i 0 = i := by
  have hl : q.length = n := by rw [p.length_eq, List.length_range]
  have nd : q.Nodup := p.nodup_iff.mpr List.nodup_range
  have g : ∀ k, (hk : k < n) → q.getD k 0 = q[k]'(by omega) := fun k hk => by simp [List.getD, show k < q.length by omega]
  have st : ∀ k, k + 1 < n → q.getD k 0 < q.getD (k + 1) 0 := fun k hk => by
    have a := h k (k + 1) (by omega) hk
    have : q.getD k 0 ≠ q.getD (k + 1) 0 := fun e => by
      rw [g k (by omega), g (k + 1) hk] at e
      have := (List.getElem_inj nd).mp e
      omega
    omega
  have lo : ∀ k, k < n → k ≤ q.getD k 0 := fun k => by
    induction k with
    | zero => intro _; exact Nat.zero_le _
    | succ k ih =>
      intro hk
      have := ih (by omega)
      have := st k hk
      omega
  have up : ∀ d k, k + d + 1 = n → q.getD k 0 ≤ k := fun d => by
    induction d with
    | zero =>
      intro k hk
      have m : q[k]'(by omega) ∈ List.range n := p.mem_iff.mp (List.getElem_mem _)
      have := List.mem_range.mp m
      rw [g k (by omega)]
      omega
    | succ d ih =>
      intro k hk
      have := ih (k + 1) (by omega)
      have := st k (by omega)
      omega
  have a := lo i hi
  have b := up (n - 1 - i) i (by omega)
  omega
section
variable {n : Nat} {bs : List Bool} {ns : List Int}
/-- the words that lead to ns -/
def fdw (bs : List Bool) (n : Nat) (ns : List Int) : List (List Int) := (allw bs.length n).filter fun w => decide (drawn bs w = ns)
def nmw (bs : List Bool) (n : Nat) (ns w : List Int) : Nat := num bs (abv n ns) 0 (heapsOf n ns w)
def kyw (n : Nat) (ns w : List Int) : List Int := (List.range n).map fun c => w.getD (pos ns c) 0
theorem fdw_iff {w : List Int} : w ∈ fdw bs n ns ↔ Wd bs.length n w ∧ drawn bs w = ns := by
  unfold fdw
  rw [List.mem_filter, mem_allw]
  simp
theorem nmw_lt (h1 : 1 ≤ n) {w : List Int} (h : w ∈ fdw bs n ns) : nmw bs n ns w < wy bs (abv n ns) 0 := by
  obtain ⟨W, e⟩ := fdw_iff.mp h
  exact num_lt (leads_back h1 W e)
theorem way_nmw (h1 : 1 ≤ n) {w : List Int} (h : w ∈ fdw bs n ns) : wayH bs (abv n ns) 0 (nmw bs n ns w) = heapsOf n ns w := by
  obtain ⟨W, e⟩ := fdw_iff.mp h
  exact way_num (leads_back h1 W e)
theorem wo_nmw (h1 : 1 ≤ n) (o : Ord n ns) {w : List Int} (h : w ∈ fdw bs n ns) : wo ns (wayH bs (abv n ns) 0 (nmw bs n ns w)) = w := by
  rw [way_nmw h1 h]
  exact wo_heaps o (fdw_iff.mp h).1
theorem abv_len (h1 : 1 ≤ n) : (abv n ns).length = n := by simp [abv]; omega
theorem way_in (h1 : 1 ≤ n) (o : Ord n ns) {k : Nat} (hk : k < wy bs (abv n ns) 0) : wo ns (wayH bs (abv n ns) 0 k) ∈ fdw bs n ns ∧ nmw bs n ns (wo ns (wayH bs (abv n ns) 0 k)) = k := by
  have g := gd_way bs (abv n ns) 0 k hk
  have hl : (wayH bs (abv n ns) 0 k).length = n := by rw [wayH_length, abv_len h1]
  refine ⟨fdw_iff.mpr ⟨wo_wd o hl (gd_lt g), leads o h1 g⟩, ?_⟩
  unfold nmw
  rw [heaps_wo o hl, num_way _ _ _ _ hk]
theorem kyw_way (h1 : 1 ≤ n) (o : Ord n ns) {w : List Int} (h : w ∈ fdw bs n ns) : kyw n ns w = (wayH bs (abv n ns) 0 (nmw bs n ns w)).map fun x => ((x : Nat) : Int) := by
  have e := wo_nmw h1 o h
  have hl : (wayH bs (abv n ns) 0 (nmw bs n ns w)).length = n := by rw [wayH_length, abv_len h1]
  have := byc_wo o hl
  rw [e] at this
  exact this
theorem nmw_perm (h1 : 1 ≤ n) (o : Ord n ns) : ((fdw bs n ns).map (nmw bs n ns)).Perm (List.range (wy bs (abv n ns) 0)) := by
  refine nd_ext ?_ List.nodup_range fun x => ?_
  · refine List.pairwise_map.mpr ?_
    have nd : (fdw bs n ns).Nodup := (nd_allw _ _).sublist List.filter_sublist
    exact nd.imp_of_mem fun {a c} ha hc hne e => hne (by rw [← wo_nmw h1 o ha, ← wo_nmw h1 o hc, e])
  · rw [List.mem_map, List.mem_range]
    constructor
    · rintro ⟨w, hw, rfl⟩
      exact nmw_lt h1 hw
    · intro hx
      exact ⟨_, (way_in h1 o hx).1, (way_in h1 o hx).2⟩
theorem fdw_len (h1 : 1 ≤ n) (o : Ord n ns) : (fdw bs n ns).length = wy bs (abv n ns) 0 := by
  have := (nmw_perm (bs := bs) h1 o).length_eq
  rw [List.length_map, List.length_range] at this
  exact this
/-- the rank of the i-th found word -/
def rkw (bs : List Bool) (n : Nat) (ns : List Int) (i : Nat) : Nat := nmw bs n ns ((fdw bs n ns).getD i [])
theorem fdw_at {i : Nat} (hi : i < (fdw bs n ns).length) : (fdw bs n ns).getD i [] ∈ fdw bs n ns := by
  rw [List.getD, List.getElem?_eq_getElem hi]
  exact List.getElem_mem hi
theorem rkw_inj (h1 : 1 ≤ n) (o : Ord n ns) {i j : Nat} (hi : i < (fdw bs n ns).length) (hj : j < (fdw bs n ns).length) (e : rkw bs n ns i = rkw bs n ns j) : i = j := by
  have nd : (fdw bs n ns).Nodup := (nd_allw _ _).sublist List.filter_sublist
  have a := wo_nmw h1 o (fdw_at hi)
  have b := wo_nmw h1 o (fdw_at hj)
  unfold rkw at e
  rw [e, b] at a
  have g : ∀ k, (hk : k < (fdw bs n ns).length) → (fdw bs n ns).getD k [] = (fdw bs n ns)[k] := fun k hk => by simp [List.getD, hk]
  rw [g i hi, g j hj] at a
  exact ((List.getElem_inj nd).mp a).symm
/-- the found words by rank are the ways in turn -/
theorem by_rank (h1 : 1 ≤ n) (o : Ord n ns) {p : List Nat} (pm : p.Perm (List.range (fdw bs n ns).length)) (h : ∀ i j, i ≤ j → j < (fdw bs n ns).length → rkw bs n ns (p.getD i 0) ≤ rkw bs n ns (p.getD j 0)) :
    p.map (fun i => (fdw bs n ns).getD i []) = (List.range (wy bs (abv n ns) 0)).map fun k => wo ns (wayH bs (abv n ns) 0 k) := by
  have hl := fdw_len (bs := bs) h1 o
  have pl : p.length = (fdw bs n ns).length := by rw [pm.length_eq, List.length_range]
  have q : (p.map (rkw bs n ns)).Perm (List.range (wy bs (abv n ns) 0)) := by
    refine (pm.map _).trans ?_
    have : (List.range (fdw bs n ns).length).map (rkw bs n ns) = (fdw bs n ns).map (nmw bs n ns) := by
      apply List.ext_getElem
      · simp
      · intro i h1 h2
        have : i < (fdw bs n ns).length := by simpa using h1
        simp [rkw, List.getD, this]
    rw [this]
    exact nmw_perm h1 o
  have gq : ∀ i, i < p.length → (p.map (rkw bs n ns)).getD i 0 = rkw bs n ns (p.getD i 0) := fun i hi => by simp [List.getD, hi]
  apply List.ext_getElem
  · simp; omega
  · intro i a1 a2
    have hi : i < p.length := by simpa using a1
    have e := rise_all q (fun a b hab hb => by rw [gq a (by omega), gq b (by omega)]; exact h a b hab (by omega)) (i := i) (by omega)
    rw [gq i hi] at e
    have hp : p.getD i 0 < (fdw bs n ns).length := by
      have : p.getD i 0 = p[i] := by simp [List.getD, hi]
      rw [this]
      exact List.mem_range.mp (pm.mem_iff.mp (List.getElem_mem hi))
    have z := wo_nmw h1 o (fdw_at hp)
    have e' : nmw bs n ns ((fdw bs n ns).getD (p.getD i 0) []) = i := e
    rw [e'] at z
    have pe : p.getD i 0 = p[i] := by simp [List.getD, hi]
    simp only [List.getElem_map, List.getElem_range]
    rw [z, pe]
/-- the keys of two found words first differ where their ranks tell -/
theorem ky_lex (h1 : 1 ≤ n) (o : Ord n ns) {v w : List Int} (hv : v ∈ fdw bs n ns) (hw : w ∈ fdw bs n ns) (h : nmw bs n ns v < nmw bs n ns w) :
    ∃ m, m < (kyw n ns v).length ∧ m < (kyw n ns w).length ∧ (∀ m', m' < m → (kyw n ns v).getD m' 0 = (kyw n ns w).getD m' 0) ∧ (kyw n ns v).getD m 0 < (kyw n ns w).getD m 0 := by
  obtain ⟨j, j1, j2, j3⟩ := way_lex bs (abv n ns) 0 _ _ h (nmw_lt h1 hw)
  have l1 : (kyw n ns v).length = n := by simp [kyw]
  have l2 : (kyw n ns w).length = n := by simp [kyw]
  rw [abv_len h1] at j1
  have g : ∀ {u : List Int}, u ∈ fdw bs n ns → ∀ m, m < n → (kyw n ns u).getD m 0 = (((wayH bs (abv n ns) 0 (nmw bs n ns u)).getD m 0 : Nat) : Int) := fun {u} hu m hm => by
    rw [kyw_way h1 o hu]
    have : m < (wayH bs (abv n ns) 0 (nmw bs n ns u)).length := by rw [wayH_length, abv_len h1]; exact hm
    simp [List.getD, this]
  refine ⟨j, by omega, by omega, fun m' hm' => ?_, ?_⟩
  · rw [g hv m' (by omega), g hw m' (by omega), j2 m' hm']
  · rw [g hv j j1, g hw j j1]
    omega
end
end M
set_option Elab.async false
set_option linter.all false
set_option maxRecDepth 100000
set_option maxHeartbeats 4000000
namespace K25
open PySem L2
local macro_rules | `(tactic| walk_at "sq") => `(tactic| first | assumption | (refine SqL.of ?_; assumption) | (refine SqL.of ?_; exact upd_same))
local macro_rules | `(tactic| walk_at "cj") => `(tactic| first | (with_reducible show (_ : Int) ≤ _; omega) | (with_reducible show (_ : Int) < _; omega) | exact rfl | assumption | omega | decide | (unfold CDiv; omega) | (unfold CPow; decide) | (show (0 : Int) < _; first | omega | decide) | (show _ ≤ sizeLine; rw [sizeLine_eq]; simp; done) | (refine mulS1 ?_ ?_ <;> omega) | (refine mulS2 ?_ ?_ <;> omega))
local macro_rules | `(tactic| walk_at "rd1") => `(tactic| first | refine ⟨_, rfl, ?_⟩ | refine ⟨_, _, rfl, rfl, ?_⟩ | refine ⟨_, _, rfl, ?_⟩ | refine ⟨_, _, _, rfl, ?_⟩ | refine ⟨_, _, _, _, rfl, ?_⟩ | refine ⟨_, _, _, _, _, rfl, ?_⟩ | refine ⟨_, _, rfl, .inl (by walk_at "sq"), ?_⟩ | refine And.intro (by walk_at "cj") ?_)
local macro_rules | `(tactic| walk_at "rd") => `(tactic| repeat walk_at "rd1")

section
variable {K : PySem.W.Frag} {a : Addr} {xs : List V} {x : Str} {caps : List Nat} {g : TG} {tt : TT} {te : TE} {σ : St} {H : Hp} {Q : VK}
/-- over a list, with a test; the heap changes on the way -/
theorem comp_itF (Pv : Addr → Nat → List V → Hp → Prop) (hn : xs.length ≤ sizeLine) (h0 : ∀ acc, H acc = none → Pv acc 0 [] (upd H acc (.lst []))) (hq : ∀ acc i vs H', H acc = none → i ≤ xs.length → Pv acc i vs H' → SqL K H' a xs)
    (hs : ∀ (acc : Addr) (i : Nat) (v : V) (t : Option V) (vs : List V) (H' : Hp) (N : St → Hp → Prop) (Kt : V → St → Hp → Prop), H acc = none → i < xs.length → xs[i]? = some v → vs.length ≤ i → Pv acc i vs H' → H' acc = some (.lst vs) →
      (∀ t' y H'', H'' acc = some (.lst vs) → Pv acc (i + 1) (vs ++ [y]) (upd H'' acc (.lst (vs ++ [y]))) → Kt y (t' :: caps.map fun j => σ.getD j none) H'') →
      (∀ t' H'', H'' acc = some (.lst vs) → Pv acc (i + 1) vs H'' → N (t' :: caps.map fun j => σ.getD j none) H'') →
      g v (t :: caps.map fun j => σ.getD j none) H' fun σ2 H3 => tt σ2 H3 fun b H4 => if b = true then te σ2 H4 fun v H5 => Kt v σ2 H5 else N σ2 H4)
    (hQ : ∀ acc vs H', H acc = none → Pv acc xs.length vs H' → H' acc = some (.lst vs) → Q (.ref acc) H') : rComp [x] caps (Itl K a) g tt te σ H Q := by
  intro acc hacc
  refine ⟨fun i m σ' H' => m = xs.length - i ∧ i ≤ xs.length ∧ (∃ t, σ' = t :: caps.map fun j => σ.getD j none) ∧ ∃ vs, vs.length ≤ i ∧ Pv acc i vs H' ∧ H' acc = some (.lst vs), ⟨xs.length, rfl, Nat.zero_le _, ⟨none, rfl⟩, [], Nat.zero_le _, h0 acc hacc, upd_same⟩, ?_⟩
  rintro i m σ' H' ⟨rfl, hi, ⟨t, rfl⟩, vs, lv, p, ea⟩
  by_cases hlt : i < xs.length
  · refine .inr ⟨⟨xs, xs[i], hq acc i vs H' hacc hi p, List.getElem?_eq_getElem hlt⟩, fun σ2 H2 => (∃ t, σ2 = t :: caps.map fun j => σ.getD j none) ∧ ∃ vs, vs.length ≤ i + 1 ∧ Pv acc (i + 1) vs H2 ∧ H2 acc = some (.lst vs), fun σ'' H'' ⟨h1, h2⟩ => ⟨xs.length - (i + 1), by omega, rfl, hlt, h1, h2⟩, fun v H2 y => ?_⟩
    obtain ⟨rfl, iv⟩ : H2 = H' ∧ xs[i]? = some v := ⟨y.1, y.2 xs (hq acc i vs H' hacc hi p)⟩
    refine hs acc i v t vs H2 _ (fun v σ2 H5 => ∃ ys, H5 acc = some (.lst ys) ∧ ys.length < sizeLine ∧ (∃ t, σ2 = t :: caps.map fun j => σ.getD j none) ∧ ∃ vs, vs.length ≤ i + 1 ∧ Pv acc (i + 1) vs (upd H5 acc (.lst (ys ++ [v]))) ∧ (upd H5 acc (.lst (ys ++ [v]))) acc = some (.lst vs)) hacc hlt iv lv p ea (fun t' y H'' e2 p2 => ?_) fun t' H'' e2 p2 => ?_
    · exact ⟨_, e2, by omega, ⟨t', rfl⟩, vs ++ [y], by rw [List.length_append]; show vs.length + 1 ≤ _; omega, p2, upd_same⟩
    · exact ⟨⟨t', rfl⟩, vs, by omega, p2, e2⟩
  · have e : i = xs.length := by omega
    subst e
    exact .inl ⟨⟨xs, hq acc _ vs H' hacc (Nat.le_refl _) p, Nat.le_refl _⟩, hQ acc vs H' hacc p ea⟩
end
def bl : Nat → List (List Bool)
  | 0 => [[]]
  | n + 1 => (bl n).flatMap fun l => [true :: l, false :: l]
theorem mem_bl : ∀ (l : List Bool), l ∈ bl l.length
  | [] => by simp [bl]
  | a :: r => by
    show a :: r ∈ (bl r.length).flatMap fun l => [true :: l, false :: l]
    exact List.mem_flatMap.mpr ⟨r, mem_bl r, by cases a <;> simp⟩
theorem few_chk : ((List.range 4).all fun b => (List.range 5).all fun n => (bl (b + 1)).all fun bs => (bl (n + 1)).all fun av => decide (M.wy bs av 0 < 64)) = true := by decide +kernel
theorem few {bs av : List Bool} (b1 : 1 ≤ bs.length) (b4 : bs.length ≤ 4) (n1 : 1 ≤ av.length) (n5 : av.length ≤ 5) : M.wy bs av 0 < 64 := by
  have h := few_chk
  simp only [List.all_eq_true, decide_eq_true_eq, List.mem_range] at h
  have := h (bs.length - 1) (by omega) (av.length - 1) (by omega) bs (by rw [show bs.length - 1 + 1 = bs.length by omega]; exact mem_bl bs) av (by rw [show av.length - 1 + 1 = av.length by omega]; exact mem_bl av)
  exact this
end K25
set_option Elab.async false
set_option linter.all false
set_option maxRecDepth 100000
set_option maxHeartbeats 4000000
namespace K25
open PySem L2
local macro_rules | `(tactic| walk_at "sq") => `(tactic| first | assumption | (refine SqL.of ?_; assumption) | (refine SqL.of ?_; exact upd_same))
local macro_rules | `(tactic| walk_at "cj") => `(tactic| first | (with_reducible show (_ : Int) ≤ _; omega) | (with_reducible show (_ : Int) < _; omega) | exact rfl | assumption | omega | decide | (unfold CDiv; omega) | (unfold CPow; decide) | (show (0 : Int) < _; first | omega | decide) | (show _ ≤ sizeLine; rw [sizeLine_eq]; simp; done) | (refine mulS1 ?_ ?_ <;> omega) | (refine mulS2 ?_ ?_ <;> omega))
local macro_rules | `(tactic| walk_at "rd1") => `(tactic| first | refine ⟨_, rfl, ?_⟩ | refine ⟨_, _, rfl, rfl, ?_⟩ | refine ⟨_, _, rfl, ?_⟩ | refine ⟨_, _, _, rfl, ?_⟩ | refine ⟨_, _, _, _, rfl, ?_⟩ | refine ⟨_, _, _, _, _, rfl, ?_⟩ | refine ⟨_, _, rfl, .inl (by walk_at "sq"), ?_⟩ | refine And.intro (by walk_at "cj") ?_)
local macro_rules | `(tactic| walk_at "rd") => `(tactic| repeat walk_at "rd1")

section
variable {P : Program} {w : World} {K : PySem.W.Frag} {mg : Str → Option Value} {base : Heap} {k : Nat}
/-- the table of _law_due's code -/
abbrev P0 : Addr := 138
abbrev lamQ : Str := (PyProof.Rows.envOfC "_law_due" (defScope s_l_due) 0 0 .none).qual ++ "<lambda>"
abbrev TabD (H : Hp) : Prop := Tab P0 122 34 lamQ H
def lamOf : Stmt → Scope
  | .Return (some (.Call _ _ (k :: _) _)) _ => (match k.value with | .Lambda _ _ sc _ => sc | _ => default)
  | _ => default
theorem lamS : LamScope (lamOf ((defBody s_l_due).getD 3 (.Pass ⟨0, 0, 0, 0⟩))) "_law_word_here" "_law_order_here" := ⟨by decide +kernel, by decide +kernel, by decide +kernel, by decide +kernel, by decide +kernel, by decide +kernel, by decide +kernel, by decide +kernel⟩
theorem keepT_seq {H H' : Hp} {a : Addr} {xs : List V} (t : TabD H) (k : KeepT P0 H H') (h : SqL K H a xs) : SqL K H' a xs := by
  rcases h with h | h
  · have ne : ∀ u, H a = some u → (∀ ps, u ≠ .tbl ps) → a ≠ P0 := fun u e n z => by
      rcases t with t | ⟨_, _, t, _⟩
      · rw [z, t] at e; exact n _ (Option.some.inj e).symm
      · rw [z, t] at e; exact n _ (Option.some.inj e).symm
    rcases h with h | ⟨o, h⟩
    · exact .inl (.inl (k a _ (ne _ h fun ps z => by cases z) h))
    · exact .inl (.inr ⟨o, k a _ (ne _ h fun ps z => by cases z) h⟩)
  · exact .inr h
def sp_l_due (K : PySem.W.Frag) : Sp := sp2 fun a b H Q => ∃ (o r : Addr) (ns : List Int) (bs : List Bool) (n : Nat), SqL K H o (iL ns) ∧ SqL K H r (bL bs) ∧ a = .ref o ∧ b = .ref r ∧ M.Ord n ns ∧ (1 ≤ n ∧ n ≤ 5 ∧ 1 ≤ bs.length ∧ bs.length ≤ 4) ∧ TabD H ∧
  ∀ D H', KeepT P0 H H' → TabD H' → Tb K H' D (((List.range (M.wy bs (M.abv n ns) 0)).map fun k => M.wo ns (M.wayH bs (M.abv n ns) 0 k)).map fun w => iL w) → Q (.ref D) H'
theorem ok_l_due (T : Txt K mg) (DT : DefT K mg "_law_due" s_l_due ["_law_order_here", "_law_marks_here"] P0) (hbi : base.BuiltinsAt mg P0) (g_l_heaps : Has P w K mg base k "_law_heaps" ["_law_order_here", "_law_told"] (sp_l_heaps K)) (g_l_riffled : Has P w K mg base (k + 3) "_law_riffled" ["_law_order_here", "_law_marks_here", "_law_word_here"] (sp_l_riffled K)) (g_l_words : Has P w K mg base (k + 3) "_law_words" ["_law_heaps_here", "_law_n"] (sp_l_words K)) : Has P w K mg base (k + 4) "_law_due" ["_law_order_here", "_law_marks_here"] (sp_l_due K) := by
  refine DT.has sc_l_due len2 (fun f c0 A outer s H vs Q E hd hr h => ?_)
  obtain ⟨a0, a1, rfl, h⟩ := h
  refine ⟨_, pss_cons (ps_set (i := 2) sc_l_due.nd rfl (Or.inl rfl) (pe_callB (k_len (K := K)) rfl T.z_len PySem.boot_len (pa_cons (pv 0) pa_nil)))
    (pss_cons (ps_set (i := 3) sc_l_due.nd rfl (Or.inr rfl) (pe_comp (vars := ["_law_k"]) (caps := []) (CompScope.of (outer := defScope s_l_due) (N := ["_law_order_here", "_law_marks_here", "_law_n", "_law_start", "_law_found"]) rfl rfl ⟨by decide +kernel⟩) rfl (pi_range1 rfl T.z_range (pa_cons (pv 2) pa_nil)) ⟨fun _ _ _ _ => ⟨(pg_name (i := 0) (show List.Nodup (["_law_k"] : List Str) by decide +kernel) rfl (Or.inl rfl)), pts_nil, (pv 0)⟩⟩))
    (pss_cons (ps_setC (i := 4) (vars := ["_law_word_here"]) (caps := [0, 3, 1]) (CompScope.of (outer := defScope s_l_due) (N := ["_law_order_here", "_law_marks_here", "_law_n", "_law_start", "_law_found"]) rfl rfl ⟨by decide +kernel⟩) rfl sc_l_due.nd rfl rfl (k_pi_list (K := K) (pe_callH g_l_words hr (pa_cons (pe_callB (k_len (K := K)) rfl T.z_len PySem.boot_len (pa_cons (pv 1) pa_nil)) (pa_cons (pv 2) pa_nil)))) ⟨fun _ _ _ _ => ⟨(pg_name (i := 0) (show List.Nodup (["_law_word_here", "_law_order_here", "_law_start", "_law_marks_here"] : List Str) by decide +kernel) rfl (Or.inl rfl)), (pts_one (pt_cmpR (k_eqL (K := K) hr.units) (pe_callH g_l_riffled hr (pa_cons (pv 2) (pa_cons (pv 3) (pa_cons (pv 0) pa_nil)))) (pv 1) (nomark _))), (pv 0)⟩⟩)
    (pss_one (ps_ret (pe_sortedLam (k := k + 2) (x := "_law_word_here") (y := "_law_order_here") (iy := 0) (P0 := P0) hr rfl rfl T.z_sorted hbi hd rfl lamS rfl rfl rfl rfl rfl (fun _ _ _ _ => rfl) (pa_cons (pv 4) pa_nil) (fun _ _ _ _ => pe_callH g_l_heaps ((hr.in1.in1).deeper _) (pa_cons (pv 1) (pa_cons (pv 0) pa_nil)))))))), ?_⟩
  obtain ⟨o, r, ns, bs, n, ho, hr', rfl, rfl, hO, ⟨n1, n5, b1, b4⟩, hT, q⟩ := h
  have lo : (iL ns).length = n := by rw [List.length_map]; exact hO.len
  have lb : (bL bs).length = bs.length := List.length_map _
  walk_at "rd"
  rw [lo, Int.toNat_natCast]
  refine comp_range (fun i => .int (0 + (i : Int))) (fun _ => true) (lt_line (by omega)) ?_ ?_
  · intro i t acc ys N Kt hi hacc k1 _
    walk_at "rd"
    exact k1 _ rfl
  rw [filter_true, show ((List.range n).map fun i : Nat => V.int (0 + (i : Int))) = iL (M.iota n) by simp [iL, M.iota]]
  intro S hS
  generalize e1 : upd H S _ = H1
  obtain ⟨s1, eS⟩ := new_is hS e1
  clear e1
  have ho1 := s1.seq ho
  have hr1 := s1.seq hr'
  walk_at "rd"
  rw [lb]
  have pw : bs.length ^ n ≤ 4096 := Nat.le_trans (Nat.pow_le_pow_left b4 n) (Nat.le_trans (Nat.pow_le_pow_right (show 0 < 4 by omega) n5) (by decide))
  refine ⟨⟨by omega, b1, pw⟩, fun r2 H2 s2 ⟨adr, ⟨_, er⟩, la, hA⟩ => ?_⟩
  have eS2 := s2 _ _ eS
  have ho2 := s2.seq ho1
  have hr2 := s2.seq hr1
  have lA : adr.length ≤ 4096 := by rw [la, M.allw_length]; exact pw
  walk_at "rd"
  refine ⟨⟨_, SqL.of er⟩, ?_⟩
  refine comp_itF (xs := adr.map V.ref) (fun acc i vs H' => Same H2 H' ∧ ∃ as : List Addr, vs = as.map V.ref ∧ as.length = (((M.allw bs.length n).take i).filter fun w => decide (M.drawn bs w = ns)).length ∧ ∀ (j : Nat) (a : Addr), as[j]? = some a → ∃ ws, (((M.allw bs.length n).take i).filter fun w => decide (M.drawn bs w = ns))[j]? = some ws ∧ H2 a = some (.lst (iL ws))) (by rw [List.length_map]; exact line8 (by omega)) (fun acc ha => ⟨Same.new ha _, [], rfl, by simp, fun (j : Nat) (a : Addr) h => by simp at h⟩) (fun acc i vs H' ha _ p => SqL.of (p.1 _ _ er)) ?_ ?_
  · intro acc i v t vs H3 N Kt ha hi hv lv ⟨s3, as, eas, las, hAs⟩ eacc k1 k2
    rw [List.length_map] at hi
    have e0 : adr[i]? = some adr[i] := List.getElem?_eq_getElem hi
    obtain ⟨_, wd, ewd, eh⟩ := hA i adr[i] e0
    have W : M.Wd bs.length n wd := M.mem_allw.mp (List.mem_of_getElem? ewd)
    rw [List.getElem?_map, e0] at hv
    cases hv
    generalize adr[i] = a at eh ⊢
    walk_at "rd"
    refine ⟨S, r, a, M.iota n, bs, wd, n, SqL.of (s3 _ _ eS2), s3.seq hr2, SqL.of (s3 _ _ eh), rfl, rfl, rfl, M.iota_length n, W, by omega, by omega, ?_⟩
    intro Y H4 s4 hY eY
    rw [M.lay_iota (M.ord_drawn W)] at eY
    have na : acc ≠ Y := ne_of_none eacc hY
    have s34 := s3.trans s4
    walk_at "rd"
    refine ⟨Y, o, _, ns, rfl, rfl, SqL.of eY, s34.seq ho2, ?_⟩
    have fs := List.filter_append ((M.allw bs.length n).take i) [wd] (p := fun w => decide (M.drawn bs w = ns))
    rw [← take_snoc ewd] at fs
    by_cases c : M.drawn bs wd = ns
    · have f1 : [wd].filter (fun w => decide (M.drawn bs w = ns)) = [wd] := by simp [c]
      rw [f1] at fs
      rw [decide_eq_true c]
      walk_at "rd"
      refine k1 _ _ _ (s4 _ _ eacc) ⟨s34.put ha, as ++ [a], by rw [eas, List.map_append]; rfl, by rw [fs, List.length_append, List.length_append, las]; rfl, fun j b hb => ?_⟩
      rw [fs]
      rcases Nat.lt_or_ge j as.length with hj | hj
      · rw [List.getElem?_append_left hj] at hb
        obtain ⟨ws, w1, w2⟩ := hAs j b hb
        exact ⟨ws, by rw [List.getElem?_append_left (by omega)]; exact w1, w2⟩
      · have hl2 := (List.getElem?_eq_some_iff.mp hb).1
        rw [List.length_append, List.length_singleton] at hl2
        rw [List.getElem?_append_right hj, show j - as.length = 0 by omega] at hb
        cases hb
        exact ⟨wd, by rw [List.getElem?_append_right (by omega), show j - (((M.allw bs.length n).take i).filter fun w => decide (M.drawn bs w = ns)).length = 0 by omega]; rfl, eh⟩
    · have f1 : [wd].filter (fun w => decide (M.drawn bs w = ns)) = [] := by simp [c]
      rw [f1, List.append_nil] at fs
      rw [decide_eq_false c]
      walk_at "rd"
      refine k2 _ _ (s4 _ _ eacc) ⟨s34, as, eas, by rw [fs]; exact las, fun j b hb => ?_⟩
      rw [fs]
      exact hAs j b hb
  · intro acc vs H3 ha ⟨s3, as, eas, las, hAs⟩ eacc
    subst eas
    rw [List.length_map, la, List.take_length] at las hAs
    have sH3 : Same H H3 := s1.trans (s2.trans s3)
    have fl := M.fdw_len (bs := bs) n1 hO
    have N64 : M.wy bs (M.abv n ns) 0 < 64 := few b1 b4 (by rw [M.abv_len n1]; exact n1) (by rw [M.abv_len n1]; exact n5)
    have las' : as.length = (M.fdw bs n ns).length := las
    have hAs' : ∀ j a, as[j]? = some a → H3 a = some (.lst (iL ((M.fdw bs n ns).getD j []))) := fun j a h => by
      obtain ⟨ws, w1, w2⟩ := hAs j a h
      have w1' : (M.fdw bs n ns)[j]? = some ws := w1
      rw [List.getD, w1']
      exact s3 _ _ w2
    have oR : ∀ i j, i < as.length → j < as.length → M.rkw bs n ns i = M.rkw bs n ns j → i = j := fun i j hi hj e => M.rkw_inj n1 hO (by omega) (by omega) e
    walk_at "rd"
    refine ⟨acc, as.map V.ref, .ref o, fun j => M.kyw n ns ((M.fdw bs n ns).getD j []), M.rkw bs n ns, as.length, rfl, rfl, List.length_map _, by omega, hT.same sH3, eacc, ⟨oR, fun i j hi hj hne => ?_⟩, fun H4 k4 j v hv => ?_, fun p D H4 ir k4 t4 hD eD => ?_⟩
    · have mi := M.fdw_at (bs := bs) (n := n) (ns := ns) (i := i) (by omega)
      have mj := M.fdw_at (bs := bs) (n := n) (ns := ns) (i := j) (by omega)
      rcases Nat.lt_or_ge (M.rkw bs n ns i) (M.rkw bs n ns j) with c | c
      · obtain ⟨m, m1, m2, m3, m4⟩ := M.ky_lex n1 hO mi mj c
        exact ⟨m, m1, m2, m3, Int.ne_of_lt m4, (decide_eq_true m4).trans (decide_eq_true c).symm⟩
      · have c' : M.rkw bs n ns j < M.rkw bs n ns i := by
          have : M.rkw bs n ns i ≠ M.rkw bs n ns j := fun e => hne (oR i j hi hj e)
          omega
        obtain ⟨m, m1, m2, m3, m4⟩ := M.ky_lex n1 hO mj mi c'
        exact ⟨m, m2, m1, fun m' hm' => (m3 m' hm').symm, (Int.ne_of_lt m4).symm, (decide_eq_false (Int.not_lt.mpr (Int.le_of_lt m4))).trans (decide_eq_false (Nat.not_lt.mpr (Nat.le_of_lt c'))).symm⟩
    · have hj : j < as.length := by have := (List.getElem?_eq_some_iff.mp hv).1; rw [List.length_map] at this; exact this
      have e0 : as[j]? = some as[j] := List.getElem?_eq_getElem hj
      rw [List.getElem?_map, e0] at hv
      cases hv
      have ea := hAs' j _ e0
      have mj := M.fdw_at (bs := bs) (n := n) (ns := ns) (i := j) (by omega)
      have tH3 := hT.same sH3
      have lw := (M.fdw_iff.mp mj).1.len
      walk_at "rd"
      refine ⟨o, as[j], ns, _, n, keepT_seq tH3 k4 (sH3.seq ho), keepT_seq tH3 k4 (SqL.of ea), rfl, rfl, hO, lw, by omega, ?_⟩
      intro Ky H5 s5 hKy eKy
      exact ⟨Ky, rfl, s5, hKy, eKy⟩
    · have br := M.by_rank (bs := bs) n1 hO (p := p) (by rw [← las']; exact ir.1) (fun i j hij hj => ir.2 i j hij (by omega))
      have tH3 := hT.same sH3
      refine q D H4 ((KeepT.of sH3).trans k4) t4 ⟨p.map fun i => as.getD i 0, ?_, ?_, fun i a ha => ?_⟩
      · have : (p.map fun i => (as.map V.ref).getD i .non) = (p.map fun i => as.getD i 0).map V.ref := by
          rw [List.map_map]
          refine List.map_congr_left fun i hi => ?_
          have hi' : i < as.length := List.mem_range.mp (ir.1.mem_iff.mp hi)
          simp [List.getD, hi']
        rw [this] at eD
        exact SqL.of eD
      · rw [List.length_map, List.length_map, ← br, List.length_map]
      · have hi : i < p.length := by have := (List.getElem?_eq_some_iff.mp ha).1; rw [List.length_map] at this; exact this
        have hpi : p[i] < as.length := List.mem_range.mp (ir.1.mem_iff.mp (List.getElem_mem hi))
        rw [List.getElem?_map, List.getElem?_eq_getElem hi] at ha
        cases ha
        have e0 : as[p[i]]? = some (as.getD p[i] 0) := by rw [List.getD, List.getElem?_eq_getElem hpi]; rfl
        refine ⟨iL ((M.fdw bs n ns).getD p[i] []), ?_, keepT_seq tH3 k4 (SqL.of (hAs' _ _ e0))⟩
        rw [← br, List.getElem?_map, List.getElem?_map, List.getElem?_eq_getElem hi]
        rfl
end
end K25
set_option Elab.async false
set_option linter.all false
set_option maxRecDepth 100000
set_option maxHeartbeats 4000000
namespace K25
open PySem L2
local macro_rules | `(tactic| walk_at "sq") => `(tactic| first | assumption | (refine SqL.of ?_; assumption) | (refine SqL.of ?_; exact upd_same))
local macro_rules | `(tactic| walk_at "cj") => `(tactic| first | (with_reducible show (_ : Int) ≤ _; omega) | (with_reducible show (_ : Int) < _; omega) | exact rfl | assumption | omega | decide | (unfold CDiv; omega) | (unfold CPow; decide) | (show (0 : Int) < _; first | omega | decide) | (show _ ≤ sizeLine; rw [sizeLine_eq]; simp; done) | (refine mulS1 ?_ ?_ <;> omega) | (refine mulS2 ?_ ?_ <;> omega))
local macro_rules | `(tactic| walk_at "rd1") => `(tactic| first | refine ⟨_, rfl, ?_⟩ | refine ⟨_, _, rfl, rfl, ?_⟩ | refine ⟨_, _, rfl, ?_⟩ | refine ⟨_, _, _, rfl, ?_⟩ | refine ⟨_, _, _, _, rfl, ?_⟩ | refine ⟨_, _, _, _, _, rfl, ?_⟩ | refine ⟨_, _, rfl, .inl (by walk_at "sq"), ?_⟩ | refine And.intro (by walk_at "cj") ?_)
local macro_rules | `(tactic| walk_at "rd") => `(tactic| repeat walk_at "rd1")

section
variable {P : Program} {w : World} {K : PySem.W.Frag} {mg : Str → Option Value} {base : Heap} {k : Nat}
def sp_law (K : PySem.W.Frag) : Sp := sp1 fun a H Q => ∃ (p : Addr) (ns : List Int), SqL K H p (iL ns) ∧ a = .ref p ∧ ns.length ≤ 63 ∧ TabD H ∧ ∀ H', Q (.bl true) H'
theorem ok_law (T : Txt K mg) (g_l_deep : Has P w K mg base k "_law_deep" ["_law_script", "_law_k"] (sp_l_deep K)) (g_l_order : Has P w K mg base k "_law_order" ["_law_cell", "_law_n"] (sp_l_order K)) (g_l_riffled : Has P w K mg base k "_law_riffled" ["_law_order_here", "_law_marks_here", "_law_word_here"] (sp_l_riffled K)) (g_l_word : Has P w K mg base k "_law_word" ["_law_cell", "_law_heaps_here", "_law_n"] (sp_l_word K)) (g_l_due : Has P w K mg base k "_law_due" ["_law_order_here", "_law_marks_here"] (sp_l_due K)) (g_how_many : Has P w K mg base k "how_many" ["order", "marks"] (sp_how_many K)) (g_way : Has P w K mg base k "way" ["order", "marks", "number"] (sp_way K)) : Has P w K mg base (k + 1) "law" ["_law_script"] (sp_law K) := by
  refine T.f_law.has sc_law len1 (fun f cdv A outer s H vs Q E hr h => ?_)
  obtain ⟨a0, rfl, h⟩ := h
  refine ⟨_, pss_cons (ps_for PassesOwn.never rfl (pi_range3 rfl T.z_range (pa_cons pe_int (pa_cons (pe_op op_add (pe_callB (call_min2 rfl) rfl T.z_min PyProof.Rows.boot_min (pa_cons pe_int (pa_cons (pe_callB (k_len (K := K)) rfl T.z_len PySem.boot_len (pa_cons (pv 0) pa_nil)) pa_nil))) pe_int) (pa_cons pe_int pa_nil)))) (pg_name (i := 1) sc_law.nd rfl (Or.inl rfl))
    (pss_cons (ps_set (i := 2) sc_law.nd rfl (Or.inr rfl) (pe_callH g_l_deep hr (pa_cons (pv 0) (pa_cons (pv 1) pa_nil))))
      (pss_cons (ps_set (i := 3) sc_law.nd rfl (Or.inr rfl) (pe_comp (vars := ["_law_j"]) (caps := [2]) (CompScope.of (outer := defScope s_law) (N := ["_law_script", "_law_k", "_law_cell", "_law_marks_here", "_law_n", "_law_rest", "_law_order_here", "_law_due_here"]) rfl rfl ⟨by decide +kernel⟩) rfl (pi_range1 rfl T.z_range (pa_cons (pe_op op_add pe_int (pe_op op_mod (pv 2) pe_int)) pa_nil)) ⟨fun _ _ _ _ => ⟨(pg_name (i := 0) (show List.Nodup (["_law_j", "_law_cell"] : List Str) by decide +kernel) rfl (Or.inl rfl)), pts_nil, (pe_cmpR op_eq (pe_op op_mod (pe_op op_fdiv (pe_op op_fdiv (pv 1) pe_int) (pe_op op_shl pe_int (pv 0))) pe_int) pe_int (nomark _))⟩⟩))
      (pss_cons (ps_set (i := 4) sc_law.nd rfl (Or.inl rfl) (pe_op op_add pe_int (pe_op op_mod (pe_op op_fdiv (pv 2) pe_int) (pe_ix (k_ix_list (K := K)) (pe_lst (pa_cons pe_int (pa_cons pe_int (pa_cons pe_int (pa_cons pe_int pa_nil))))) (pe_op op_sub (pe_callB (k_len (K := K)) rfl T.z_len PySem.boot_len (pa_cons (pv 3) pa_nil)) pe_int) (fun _ _ => rfl)))))
      (pss_cons (ps_set (i := 5) sc_law.nd rfl (Or.inl rfl) (pe_callH g_l_deep hr (pa_cons (pv 0) (pa_cons (pe_op op_add (pv 1) pe_int) pa_nil))))
      (pss_cons (ps_set (i := 6) sc_law.nd rfl (Or.inr rfl) (pe_callH g_l_order hr (pa_cons (pe_op op_fdiv (pv 5) pe_int) (pa_cons (pv 4) pa_nil))))
      (pss_cons (ps_if (pt_cmpR op_eq (pe_op op_mod (pv 5) pe_int) pe_int (nomark _))
      (pss_one (ps_set (i := 6) sc_law.nd rfl (Or.inr rfl) (pe_callH g_l_riffled hr (pa_cons (pe_comp (vars := ["_law_card"]) (caps := []) (CompScope.of (outer := defScope s_law) (N := ["_law_script", "_law_k", "_law_cell", "_law_marks_here", "_law_n", "_law_rest", "_law_order_here", "_law_due_here"]) rfl rfl ⟨by decide +kernel⟩) rfl (pi_range1 rfl T.z_range (pa_cons (pv 4) pa_nil)) ⟨fun _ _ _ _ => ⟨(pg_name (i := 0) (show List.Nodup (["_law_card"] : List Str) by decide +kernel) rfl (Or.inl rfl)), pts_nil, (pv 0)⟩⟩) (pa_cons (pv 3) (pa_cons (pe_callH g_l_word hr (pa_cons (pe_op op_fdiv (pv 5) pe_int) (pa_cons (pe_callB (k_len (K := K)) rfl T.z_len PySem.boot_len (pa_cons (pv 3) pa_nil)) (pa_cons (pv 4) pa_nil)))) pa_nil))))))
      (pss_nil))
      (pss_cons (ps_set (i := 7) sc_law.nd rfl (Or.inl rfl) (pe_callH g_l_due hr (pa_cons (pv 6) (pa_cons (pv 3) pa_nil))))
      (pss_cons (ps_if (pt_cmpR op_ne (pe_callH g_how_many hr (pa_cons (pv 6) (pa_cons (pv 3) pa_nil))) (pe_callB (k_len (K := K)) rfl T.z_len PySem.boot_len (pa_cons (pv 7) pa_nil)) (nomark _))
      (pss_one (ps_ret pe_bl))
      (pss_nil))
      (pss_one (ps_if (pt_cmpR (k_neD (K := K) hr.units) (pe_comp (vars := ["_law_number"]) (caps := [6, 3]) (CompScope.of (outer := defScope s_law) (N := ["_law_script", "_law_k", "_law_cell", "_law_marks_here", "_law_n", "_law_rest", "_law_order_here", "_law_due_here"]) rfl rfl ⟨by decide +kernel⟩) rfl (pi_range1 rfl T.z_range (pa_cons (pe_callB (k_len (K := K)) rfl T.z_len PySem.boot_len (pa_cons (pv 7) pa_nil)) pa_nil)) ⟨fun _ _ _ _ => ⟨(pg_name (i := 0) (show List.Nodup (["_law_number", "_law_order_here", "_law_marks_here"] : List Str) by decide +kernel) rfl (Or.inl rfl)), pts_nil, (pe_callH g_way hr (pa_cons (pv 1) (pa_cons (pv 2) (pa_cons (pv 0) pa_nil))))⟩⟩) (pv 7) (nomark _))
      (pss_one (ps_ret pe_bl))
      (pss_nil))))))))))))
    (pss_one (ps_ret pe_bl)), ?_⟩
  obtain ⟨p, ns, hS, rfl, h63, hT, q⟩ := h
  walk_at "rd"
  have hl : ((if ((iL ns).length : Int) < 16 then ((iL ns).length : Int) else 16) + 1) < 100 := by split <;> omega
  have hl0 : 0 ≤ ((if ((iL ns).length : Int) < 16 then ((iL ns).length : Int) else 16) + 1) := by split <;> omega
  generalize ((if ((iL ns).length : Int) < 16 then ((iL ns).length : Int) else 16) + 1) = hi at hl hl0 ⊢
  obtain ⟨r1, r2, r3⟩ := range_up (lo := 0) (hi := hi) (c := 2) (by omega) (by omega) (by omega) (by omega) (by decide) (by decide)
  refine ⟨⟨r1, r2⟩, ?_⟩
  refine for_rangeS (fun i σ' H' => (∃ t1 t2 t3 t4 t5 t6 t7 : Option V, σ' = [some (.ref p), t1, t2, t3, t4, t5, t6, t7] ∧ KeepT P0 H H' ∧ TabD H') ∨ False) (.inl ⟨_, _, _, _, _, _, _, rfl, KeepT.refl, hT⟩) ?_ ?_
  · intro i σ' H' hi z
    obtain ⟨t1, t2, t3, t4, t5, t6, t7, rfl, sm, tH⟩ := z.resolve_right id
    have hSi := keepT_seq hT sm hS
    walk_at "rd"
    refine ⟨p, ns, _, hSi, rfl, rfl, by omega, fun c1 => ?_⟩
    have a0 := Int.emod_nonneg c1 (show (4 : Int) ≠ 0 by decide)
    have a1 := Int.emod_lt_of_pos c1 (show (0 : Int) < 4 by decide)
    obtain ⟨m, hm⟩ : ∃ m : Nat, 1 + c1 % 4 = (m : Int) := ⟨(1 + c1 % 4).toNat, by omega⟩
    have hm' : (fun i j => V.int (i + j)) 1 (c1 % 4) = V.int m := congrArg V.int hm
    walk_at "rd"
    rw [hm, Int.toNat_natCast]
    refine comp_range (fun j => .bl (decide (V.int (c1 / 64 / (1 * 2 ^ (0 + (j : Int)).toNat) % 2) = V.int 1))) (fun _ => true) (lt_line (by omega)) ?_ ?_
    · intro j t acc ys N Kt hj hacc k1 _
      have pj : (0 : Int) < 1 * 2 ^ (0 + (j : Int)).toNat ∧ (1 * 2 ^ (0 + (j : Int)).toNat : Int) < 100 := by
        have : j < 4 := by omega
        match j, this with
        | 0, _ => decide
        | 1, _ => decide
        | 2, _ => decide
        | 3, _ => decide
      walk_at "rd"
      refine ⟨⟨by omega, by omega, by decide⟩, ?_⟩
      refine ⟨_, _, rfl, rfl, ⟨pj.1, by omega⟩, ?_⟩
      walk_at "rd"
      exact k1 _ rfl
    rw [filter_true]
    obtain ⟨bs, ebs, lbs⟩ : ∃ bs : List Bool, ((List.range m).map fun j : Nat => V.bl (decide (V.int (c1 / 64 / (1 * 2 ^ (0 + (j : Int)).toNat) % 2) = V.int 1))) = bL bs ∧ bs.length = m := ⟨(List.range m).map fun j : Nat => decide (V.int (c1 / 64 / (1 * 2 ^ (0 + (j : Int)).toNat) % 2) = V.int 1), by rw [bL, List.map_map]; rfl, by simp⟩
    rw [ebs]
    clear ebs
    intro B hB
    generalize e1 : upd H' B _ = H1
    obtain ⟨s1, eB⟩ := new_is hB e1
    clear e1
    have lb : (bL bs).length = m := by rw [List.length_map]; exact lbs
    walk_at "rd"
    intro X1 hX1
    generalize e2 : upd H1 X1 _ = H2
    obtain ⟨s2, eX1⟩ := new_is hX1 e2
    clear e2
    have eB2 := s2 _ _ eB
    walk_at "rd"
    refine ⟨B, _, rfl, .inl (SqL.of eB2), ?_⟩
    walk_at "rd"
    rw [lb]
    refine ⟨X1, _, _, _, rfl, rfl, SqL.of (show H2 X1 = some (.lst (iL [5, 5, 5, 4])) from eX1), atI_int (by omega) (by show (m : Int) - 1 < 4; omega), ?_⟩
    have m45 : 4 ≤ ([5, 5, 5, 4] : List Int).getD ((m : Int) - 1).toNat 0 ∧ ([5, 5, 5, 4] : List Int).getD ((m : Int) - 1).toNat 0 ≤ 5 := by
      have h1 : 1 ≤ m := by omega
      have h4 : m ≤ 4 := by omega
      match m, h1, h4 with
      | 1, _, _ => decide
      | 2, _, _ => decide
      | 3, _, _ => decide
      | 4, _, _ => decide
    generalize ([5, 5, 5, 4] : List Int).getD ((m : Int) - 1).toNat 0 = u at m45 ⊢
    have n0 := Int.emod_nonneg (c1 / 4) (show u ≠ 0 by omega)
    have n1 := Int.emod_lt_of_pos (c1 / 4) (show (0 : Int) < u by omega)
    obtain ⟨n, hn⟩ : ∃ n : Nat, 1 + c1 / 4 % u = (n : Int) := ⟨(1 + c1 / 4 % u).toNat, by omega⟩
    have hn' : (fun i j => V.int (i + j)) 1 (c1 / 4 % u) = V.int n := congrArg V.int hn
    have s12 := s1.trans s2
    have hS2 := s12.seq hSi
    walk_at "rd"
    rw [hn']
    refine ⟨p, ns, _, hS2, rfl, rfl, by omega, fun c2 => ?_⟩
    walk_at "rd"
    intro os oo
    intro O H3 s3 hO eO
    have s13 := s12.trans s3
    have eB3 := s3 _ _ eB2
    walk_at "rd"
    refine ite2 (fun cc => ?_) (fun cc => ?_)
    · walk_at "rd"
      rw [Int.toNat_natCast]
      refine comp_range (fun i => .int (0 + (i : Int))) (fun _ => true) (lt_line (by omega)) ?_ ?_
      · intro j t acc ys N Kt hj hacc k1 _
        walk_at "rd"
        exact k1 _ rfl
      rw [filter_true, show ((List.range n).map fun i : Nat => V.int (0 + (i : Int))) = iL (M.iota n) by simp [iL, M.iota]]
      intro I1 hI1
      generalize e4 : upd H3 I1 _ = H4
      obtain ⟨s4, eI⟩ := new_is hI1 e4
      clear e4
      walk_at "rd"
      refine ⟨B, _, rfl, .inl (SqL.of (s4 _ _ eB3)), ?_⟩
      walk_at "rd"
      rw [lb]
      refine ⟨c2 / 2, m, n, rfl, rfl, rfl, ⟨by omega, by omega, by omega⟩, fun ws lw bw => ?_⟩
      have W : M.Wd bs.length n ws := ⟨lw, by rw [lbs]; exact bw⟩
      intro W1 H5 s5 hW1 eW1
      have s45 := s4.trans s5
      walk_at "rd"
      refine ⟨I1, B, W1, M.iota n, bs, ws, n, SqL.of (s5 _ _ eI), SqL.of (s45 _ _ eB3), SqL.of eW1, rfl, rfl, rfl, M.iota_length n, W, by omega, by omega, ?_⟩
      intro O2 H6 s6 hO2 eO2
      have oo2 := M.ord_drawn (bs := bs) W
      rw [M.lay_iota oo2] at eO2
      generalize M.drawn bs ws = os2 at oo2 eO2
      have s46 := s45.trans s6
      have eOO := eO2
      have eBB := s46 _ _ eB3
      have TT := tH.same (s13.trans s46)
      have kO := sm.trans (KeepT.of (s13.trans s46))
      have tOO : TabD H6 := TT
      walk_at "rd"
      refine ⟨O2, B, os2, bs, n, SqL.of eOO, SqL.of eBB, rfl, rfl, oo2, ⟨by omega, by omega, by omega, by omega⟩, tOO, fun D H8 k8 t8 tb8 => ?_⟩
      have eO8 := keepT_seq (K := K) tOO k8 (SqL.of eOO)
      have eB8 := keepT_seq (K := K) tOO k8 (SqL.of eBB)
      obtain ⟨adD, eD8, lD, hD8⟩ := tb8.ex
      have lD' : (adD.map V.ref).length = M.wy bs (M.abv n os2) 0 := by rw [List.length_map, lD]; simp
      walk_at "rd"
      refine ⟨O2, B, os2, bs, n, eO8, eB8, rfl, rfl, oo2, ⟨by omega, by omega⟩, by omega, fun H9 s9 => ?_⟩
      have N64 : M.wy bs (M.abv n os2) 0 < 64 := few (by omega) (by omega) (by rw [M.abv_len (by omega)]; omega) (by rw [M.abv_len (by omega)]; omega)
      generalize hNw : M.wy bs (M.abv n os2) 0 = Nw at tb8 lD' N64 ⊢
      walk_at "rd"
      refine ⟨D, _, rfl, .inl (s9.seq eD8), ?_⟩
      walk_at "rd"
      rw [lD', decide_eq_true rfl]
      walk_at "rd"
      refine ⟨D, _, rfl, .inl (s9.seq eD8), ?_⟩
      walk_at "rd"
      rw [lD', Int.toNat_natCast]
      refine comp_rowsR (fun k => iL (M.wo os2 (M.wayH bs (M.abv n os2) 0 k))) (lt_line (by omega)) ?_ ?_
      · intro k2 t HA N Kt hk2 smA k1
        rw [Int.zero_add (k2 : Int)]
        walk_at "rd"
        refine ⟨O2, B, os2, bs, n, k2, smA.seq (s9.seq eO8), smA.seq (s9.seq eB8), rfl, rfl, rfl, oo2, ⟨by omega, by omega, by omega⟩, by rw [hNw]; exact hk2, ?_⟩
        intro Y HB sB hY eY
        exact k1 _ Y HB sB hY eY
      intro C HC sC hC tbC
      have tbD : Tb K HC D ((List.range Nw).map fun k => iL (M.wo os2 (M.wayH bs (M.abv n os2) 0 k))) := by
        have tq := (tb8.same s9).same sC
        rw [List.map_map] at tq
        exact tq
      walk_at "rd"
      refine tb_eq tbC.tb tbD (fun xs hx => ?_) ?_
      · obtain ⟨k, _, rfl⟩ := List.mem_map.mp hx
        rw [List.all_map]
        simp [flatV]
      walk_at "rd"
      exact .inl ⟨_, _, _, _, _, _, _, rfl, kO.trans (k8.trans (KeepT.of (s9.trans sC))), t8.same (s9.trans sC)⟩
    · have eOO := eO
      have eBB := eB3
      have TT := tH.same s13
      have kO := sm.trans (KeepT.of s13)
      have tOO : TabD H3 := TT
      walk_at "rd"
      refine ⟨O, B, os, bs, n, SqL.of eOO, SqL.of eBB, rfl, rfl, oo, ⟨by omega, by omega, by omega, by omega⟩, tOO, fun D H8 k8 t8 tb8 => ?_⟩
      have eO8 := keepT_seq (K := K) tOO k8 (SqL.of eOO)
      have eB8 := keepT_seq (K := K) tOO k8 (SqL.of eBB)
      obtain ⟨adD, eD8, lD, hD8⟩ := tb8.ex
      have lD' : (adD.map V.ref).length = M.wy bs (M.abv n os) 0 := by rw [List.length_map, lD]; simp
      walk_at "rd"
      refine ⟨O, B, os, bs, n, eO8, eB8, rfl, rfl, oo, ⟨by omega, by omega⟩, by omega, fun H9 s9 => ?_⟩
      have N64 : M.wy bs (M.abv n os) 0 < 64 := few (by omega) (by omega) (by rw [M.abv_len (by omega)]; omega) (by rw [M.abv_len (by omega)]; omega)
      generalize hNw : M.wy bs (M.abv n os) 0 = Nw at tb8 lD' N64 ⊢
      walk_at "rd"
      refine ⟨D, _, rfl, .inl (s9.seq eD8), ?_⟩
      walk_at "rd"
      rw [lD', decide_eq_true rfl]
      walk_at "rd"
      refine ⟨D, _, rfl, .inl (s9.seq eD8), ?_⟩
      walk_at "rd"
      rw [lD', Int.toNat_natCast]
      refine comp_rowsR (fun k => iL (M.wo os (M.wayH bs (M.abv n os) 0 k))) (lt_line (by omega)) ?_ ?_
      · intro k2 t HA N Kt hk2 smA k1
        rw [Int.zero_add (k2 : Int)]
        walk_at "rd"
        refine ⟨O, B, os, bs, n, k2, smA.seq (s9.seq eO8), smA.seq (s9.seq eB8), rfl, rfl, rfl, oo, ⟨by omega, by omega, by omega⟩, by rw [hNw]; exact hk2, ?_⟩
        intro Y HB sB hY eY
        exact k1 _ Y HB sB hY eY
      intro C HC sC hC tbC
      have tbD : Tb K HC D ((List.range Nw).map fun k => iL (M.wo os (M.wayH bs (M.abv n os) 0 k))) := by
        have tq := (tb8.same s9).same sC
        rw [List.map_map] at tq
        exact tq
      walk_at "rd"
      refine tb_eq tbC.tb tbD (fun xs hx => ?_) ?_
      · obtain ⟨k, _, rfl⟩ := List.mem_map.mp hx
        rw [List.all_map]
        simp [flatV]
      walk_at "rd"
      exact .inl ⟨_, _, _, _, _, _, _, rfl, kO.trans (k8.trans (KeepT.of (s9.trans sC))), t8.same (s9.trans sC)⟩
  · intro σ' H' z
    obtain ⟨t1, t2, t3, t4, t5, t6, t7, rfl, sm, tH⟩ := z.resolve_right id
    walk_at "rd"
    exact q _
end
end K25
set_option Elab.async false
set_option linter.all false
set_option maxRecDepth 100000
set_option maxHeartbeats 4000000
namespace K25
open PySem L2
local macro_rules | `(tactic| walk_at "sq") => `(tactic| first | assumption | (refine SqL.of ?_; assumption) | (refine SqL.of ?_; exact upd_same))
local macro_rules | `(tactic| walk_at "cj") => `(tactic| first | (with_reducible show (_ : Int) ≤ _; omega) | (with_reducible show (_ : Int) < _; omega) | exact rfl | assumption | omega | decide | (unfold CDiv; omega) | (unfold CPow; decide) | (show (0 : Int) < _; first | omega | decide) | (show _ ≤ sizeLine; rw [sizeLine_eq]; simp; done) | (refine mulS1 ?_ ?_ <;> omega) | (refine mulS2 ?_ ?_ <;> omega))
local macro_rules | `(tactic| walk_at "rd1") => `(tactic| first | refine ⟨_, rfl, ?_⟩ | refine ⟨_, _, rfl, rfl, ?_⟩ | refine ⟨_, _, rfl, ?_⟩ | refine ⟨_, _, _, rfl, ?_⟩ | refine ⟨_, _, _, _, rfl, ?_⟩ | refine ⟨_, _, _, _, _, rfl, ?_⟩ | refine ⟨_, _, rfl, .inl (by walk_at "sq"), ?_⟩ | refine And.intro (by walk_at "cj") ?_)
local macro_rules | `(tactic| walk_at "rd") => `(tactic| repeat walk_at "rd1")

-- the top
theorem txt_mk {K : PySem.W.Frag} {h : Heap} {mg : Str → Option Value} (X : K.In h) (G : h.Ns mainGlobals mg)
    {f0 : Addr} {od0 an0 : Option Addr} {sl0 : Array (Option Value)} {oc0 kV0 dc0 pm0 cd0 ct0 : Value} {f1 : Addr} {od1 an1 : Option Addr} {sl1 : Array (Option Value)} {oc1 kV1 dc1 pm1 cd1 ct1 : Value} {f2 : Addr} {od2 an2 : Option Addr} {sl2 : Array (Option Value)} {oc2 kV2 dc2 pm2 cd2 ct2 : Value} {f3 : Addr} {od3 an3 : Option Addr} {sl3 : Array (Option Value)} {oc3 kV3 dc3 pm3 cd3 ct3 : Value} {f4 : Addr} {od4 an4 : Option Addr} {sl4 : Array (Option Value)} {oc4 kV4 dc4 pm4 cd4 ct4 : Value} {f5 : Addr} {od5 an5 : Option Addr} {sl5 : Array (Option Value)} {oc5 kV5 dc5 pm5 cd5 ct5 : Value} {f6 : Addr} {od6 an6 : Option Addr} {sl6 : Array (Option Value)} {oc6 kV6 dc6 pm6 cd6 ct6 : Value} {f7 : Addr} {od7 an7 : Option Addr} {sl7 : Array (Option Value)} {oc7 kV7 dc7 pm7 cd7 ct7 : Value} {f8 : Addr} {od8 an8 : Option Addr} {sl8 : Array (Option Value)} {oc8 kV8 dc8 pm8 cd8 ct8 : Value} {f9 : Addr} {od9 an9 : Option Addr} {sl9 : Array (Option Value)} {oc9 kV9 dc9 pm9 cd9 ct9 : Value} {f10 : Addr} {od10 an10 : Option Addr} {sl10 : Array (Option Value)} {oc10 kV10 dc10 pm10 cd10 ct10 : Value} {f11 : Addr} {od11 an11 : Option Addr} {sl11 : Array (Option Value)} {oc11 kV11 dc11 pm11 cd11 ct11 : Value} {f12 : Addr} {od12 an12 : Option Addr} {sl12 : Array (Option Value)} {oc12 kV12 dc12 pm12 cd12 ct12 : Value} {f13 : Addr} {od13 an13 : Option Addr} {sl13 : Array (Option Value)} {oc13 kV13 dc13 pm13 cd13 ct13 : Value} {f14 : Addr} {od14 an14 : Option Addr} {sl14 : Array (Option Value)} {oc14 kV14 dc14 pm14 cd14 ct14 : Value}
    (a0 : PySem.W.nsIn K mainGlobals "places" = some (some (.ref f0))) (l0 : K.lookup f0 = some ⟨oc0, od0, .func (PySem.W.fnOf "places" "places" (defArgs s_places) (defBody s_places) (defScope s_places) .none kV0 dc0 pm0 an0 cd0 ct0), sl0⟩) (c0 : PySem.W.codeIn K cd0 "places" = true) (k0 : PySem.W.keepIn K (.ref f0) = true)
    (a1 : PySem.W.nsIn K mainGlobals "laid" = some (some (.ref f1))) (l1 : K.lookup f1 = some ⟨oc1, od1, .func (PySem.W.fnOf "laid" "laid" (defArgs s_laid) (defBody s_laid) (defScope s_laid) .none kV1 dc1 pm1 an1 cd1 ct1), sl1⟩) (c1 : PySem.W.codeIn K cd1 "laid" = true) (k1 : PySem.W.keepIn K (.ref f1) = true)
    (a2 : PySem.W.nsIn K mainGlobals "how_many" = some (some (.ref f2))) (l2 : K.lookup f2 = some ⟨oc2, od2, .func (PySem.W.fnOf "how_many" "how_many" (defArgs s_how_many) (defBody s_how_many) (defScope s_how_many) .none kV2 dc2 pm2 an2 cd2 ct2), sl2⟩) (c2 : PySem.W.codeIn K cd2 "how_many" = true) (k2 : PySem.W.keepIn K (.ref f2) = true)
    (a3 : PySem.W.nsIn K mainGlobals "way" = some (some (.ref f3))) (l3 : K.lookup f3 = some ⟨oc3, od3, .func (PySem.W.fnOf "way" "way" (defArgs s_way) (defBody s_way) (defScope s_way) .none kV3 dc3 pm3 an3 cd3 ct3), sl3⟩) (c3 : PySem.W.codeIn K cd3 "way" = true) (k3 : PySem.W.keepIn K (.ref f3) = true)
    (a4 : PySem.W.nsIn K mainGlobals "each_above_next" = some (some (.ref f4))) (l4 : K.lookup f4 = some ⟨oc4, od4, .func (PySem.W.fnOf "each_above_next" "each_above_next" (defArgs s_each_above_next) (defBody s_each_above_next) (defScope s_each_above_next) .none kV4 dc4 pm4 an4 cd4 ct4), sl4⟩) (c4 : PySem.W.codeIn K cd4 "each_above_next" = true) (k4 : PySem.W.keepIn K (.ref f4) = true)
    (a5 : PySem.W.nsIn K mainGlobals "least_for_next" = some (some (.ref f5))) (l5 : K.lookup f5 = some ⟨oc5, od5, .func (PySem.W.fnOf "least_for_next" "least_for_next" (defArgs s_least_for_next) (defBody s_least_for_next) (defScope s_least_for_next) .none kV5 dc5 pm5 an5 cd5 ct5), sl5⟩) (c5 : PySem.W.codeIn K cd5 "least_for_next" = true) (k5 : PySem.W.keepIn K (.ref f5) = true)
    (a6 : PySem.W.nsIn K mainGlobals "counted" = some (some (.ref f6))) (l6 : K.lookup f6 = some ⟨oc6, od6, .func (PySem.W.fnOf "counted" "counted" (defArgs s_counted) (defBody s_counted) (defScope s_counted) .none kV6 dc6 pm6 an6 cd6 ct6), sl6⟩) (c6 : PySem.W.codeIn K cd6 "counted" = true) (k6 : PySem.W.keepIn K (.ref f6) = true)
    (a7 : PySem.W.nsIn K mainGlobals "_law_deep" = some (some (.ref f7))) (l7 : K.lookup f7 = some ⟨oc7, od7, .func (PySem.W.fnOf "_law_deep" "_law_deep" (defArgs s_l_deep) (defBody s_l_deep) (defScope s_l_deep) .none kV7 dc7 pm7 an7 cd7 ct7), sl7⟩) (c7 : PySem.W.codeIn K cd7 "_law_deep" = true) (k7 : PySem.W.keepIn K (.ref f7) = true)
    (a8 : PySem.W.nsIn K mainGlobals "_law_order" = some (some (.ref f8))) (l8 : K.lookup f8 = some ⟨oc8, od8, .func (PySem.W.fnOf "_law_order" "_law_order" (defArgs s_l_order) (defBody s_l_order) (defScope s_l_order) .none kV8 dc8 pm8 an8 cd8 ct8), sl8⟩) (c8 : PySem.W.codeIn K cd8 "_law_order" = true) (k8 : PySem.W.keepIn K (.ref f8) = true)
    (a9 : PySem.W.nsIn K mainGlobals "_law_word" = some (some (.ref f9))) (l9 : K.lookup f9 = some ⟨oc9, od9, .func (PySem.W.fnOf "_law_word" "_law_word" (defArgs s_l_word) (defBody s_l_word) (defScope s_l_word) .none kV9 dc9 pm9 an9 cd9 ct9), sl9⟩) (c9 : PySem.W.codeIn K cd9 "_law_word" = true) (k9 : PySem.W.keepIn K (.ref f9) = true)
    (a10 : PySem.W.nsIn K mainGlobals "_law_riffled" = some (some (.ref f10))) (l10 : K.lookup f10 = some ⟨oc10, od10, .func (PySem.W.fnOf "_law_riffled" "_law_riffled" (defArgs s_l_riffled) (defBody s_l_riffled) (defScope s_l_riffled) .none kV10 dc10 pm10 an10 cd10 ct10), sl10⟩) (c10 : PySem.W.codeIn K cd10 "_law_riffled" = true) (k10 : PySem.W.keepIn K (.ref f10) = true)
    (a11 : PySem.W.nsIn K mainGlobals "_law_heaps" = some (some (.ref f11))) (l11 : K.lookup f11 = some ⟨oc11, od11, .func (PySem.W.fnOf "_law_heaps" "_law_heaps" (defArgs s_l_heaps) (defBody s_l_heaps) (defScope s_l_heaps) .none kV11 dc11 pm11 an11 cd11 ct11), sl11⟩) (c11 : PySem.W.codeIn K cd11 "_law_heaps" = true) (k11 : PySem.W.keepIn K (.ref f11) = true)
    (a12 : PySem.W.nsIn K mainGlobals "_law_words" = some (some (.ref f12))) (l12 : K.lookup f12 = some ⟨oc12, od12, .func (PySem.W.fnOf "_law_words" "_law_words" (defArgs s_l_words) (defBody s_l_words) (defScope s_l_words) .none kV12 dc12 pm12 an12 cd12 ct12), sl12⟩) (c12 : PySem.W.codeIn K cd12 "_law_words" = true) (k12 : PySem.W.keepIn K (.ref f12) = true)
    (a13 : PySem.W.nsIn K mainGlobals "_law_due" = some (some (.ref f13))) (l13 : K.lookup f13 = some ⟨oc13, od13, .func (PySem.W.fnOf "_law_due" "_law_due" (defArgs s_l_due) (defBody s_l_due) (defScope s_l_due) .none kV13 dc13 pm13 an13 cd13 ct13), sl13⟩) (c13 : PySem.W.codeIn K cd13 "_law_due" = true) (k13 : PySem.W.keepIn K (.ref f13) = true)
    (a14 : PySem.W.nsIn K mainGlobals "law" = some (some (.ref f14))) (l14 : K.lookup f14 = some ⟨oc14, od14, .func (PySem.W.fnOf "law" "law" (defArgs s_law) (defBody s_law) (defScope s_law) .none kV14 dc14 pm14 an14 cd14 ct14), sl14⟩) (c14 : PySem.W.codeIn K cd14 "law" = true) (k14 : PySem.W.keepIn K (.ref f14) = true)
    (z0 : PySem.W.nsIn K mainGlobals "enumerate" = some none)
    (z1 : PySem.W.nsIn K mainGlobals "len" = some none)
    (z2 : PySem.W.nsIn K mainGlobals "min" = some none)
    (z3 : PySem.W.nsIn K mainGlobals "range" = some none)
    (z4 : PySem.W.nsIn K mainGlobals "sorted" = some none)
    (z5 : PySem.W.nsIn K mainGlobals "zip" = some none)
    : Txt K mg where
  f_places := def_mk (st := s_places) (ps := ["order"]) X G a0 l0 c0 k0 fun _ _ _ _ _ _ us hl => match us, hl with | [_], _ => rfl
  f_laid := def_mk (st := s_laid) (ps := ["one", "other"]) X G a1 l1 c1 k1 fun _ _ _ _ _ _ us hl => match us, hl with | [_, _], _ => rfl
  f_how_many := def_mk (st := s_how_many) (ps := ["order", "marks"]) X G a2 l2 c2 k2 fun _ _ _ _ _ _ us hl => match us, hl with | [_, _], _ => rfl
  f_way := def_mk (st := s_way) (ps := ["order", "marks", "number"]) X G a3 l3 c3 k3 fun _ _ _ _ _ _ us hl => match us, hl with | [_, _, _], _ => rfl
  f_each_above_next := def_mk (st := s_each_above_next) (ps := ["order"]) X G a4 l4 c4 k4 fun _ _ _ _ _ _ us hl => match us, hl with | [_], _ => rfl
  f_least_for_next := def_mk (st := s_least_for_next) (ps := ["above_next", "marks", "heap"]) X G a5 l5 c5 k5 fun _ _ _ _ _ _ us hl => match us, hl with | [_, _, _], _ => rfl
  f_counted := def_mk (st := s_counted) (ps := ["above_next", "marks"]) X G a6 l6 c6 k6 fun _ _ _ _ _ _ us hl => match us, hl with | [_, _], _ => rfl
  f_l_deep := def_mk (st := s_l_deep) (ps := ["_law_script", "_law_k"]) X G a7 l7 c7 k7 fun _ _ _ _ _ _ us hl => match us, hl with | [_, _], _ => rfl
  f_l_order := def_mk (st := s_l_order) (ps := ["_law_cell", "_law_n"]) X G a8 l8 c8 k8 fun _ _ _ _ _ _ us hl => match us, hl with | [_, _], _ => rfl
  f_l_word := def_mk (st := s_l_word) (ps := ["_law_cell", "_law_heaps_here", "_law_n"]) X G a9 l9 c9 k9 fun _ _ _ _ _ _ us hl => match us, hl with | [_, _, _], _ => rfl
  f_l_riffled := def_mk (st := s_l_riffled) (ps := ["_law_order_here", "_law_marks_here", "_law_word_here"]) X G a10 l10 c10 k10 fun _ _ _ _ _ _ us hl => match us, hl with | [_, _, _], _ => rfl
  f_l_heaps := def_mk (st := s_l_heaps) (ps := ["_law_order_here", "_law_told"]) X G a11 l11 c11 k11 fun _ _ _ _ _ _ us hl => match us, hl with | [_, _], _ => rfl
  f_l_words := def_mk (st := s_l_words) (ps := ["_law_heaps_here", "_law_n"]) X G a12 l12 c12 k12 fun _ _ _ _ _ _ us hl => match us, hl with | [_, _], _ => rfl
  f_l_due := def_mk (st := s_l_due) (ps := ["_law_order_here", "_law_marks_here"]) X G a13 l13 c13 k13 fun _ _ _ _ _ _ us hl => match us, hl with | [_, _], _ => rfl
  f_law := def_mk (st := s_law) (ps := ["_law_script"]) X G a14 l14 c14 k14 fun _ _ _ _ _ _ us hl => match us, hl with | [_], _ => rfl
  z_enumerate := PySem.W.mg_none_of X G z0
  z_len := PySem.W.mg_none_of X G z1
  z_min := PySem.W.mg_none_of X G z2
  z_range := PySem.W.mg_none_of X G z3
  z_sorted := PySem.W.mg_none_of X G z4
  z_zip := PySem.W.mg_none_of X G z5

section
variable {P : Program} {w : World} {K : PySem.W.Frag} {mg : Str → Option Value} {base : Heap}
theorem defT_mk {x : Str} {st : Stmt} {f c0 P0 : Addr} {ps : List Str} {h : Heap} {oc : Value} {od an : Option Addr} {osl : Array (Option Value)} {kV doc pm ct : Value} (X : K.In h) (G : h.Ns mainGlobals mg) (a : PySem.W.nsIn K mainGlobals x = some (some (.ref f)))
    (l : K.lookup f = some ⟨oc, od, .func (PySem.W.fnOf x x (defArgs st) (defBody st) (defScope st) .none kV doc pm an (.ref c0) ct), osl⟩) (c : PySem.W.codeIn K (.ref c0) x = true) (k : PySem.W.keepIn K (.ref f) = true) (hd : PySem.W.codeHdIn K c0 P0 = true)
    (b : ∀ (kV doc pm : Value) (an : Option Addr) (cdv ct : Value) (us : List Value), us.length = ps.length → bindArgs (PySem.W.fnOf x x (defArgs st) (defBody st) (defScope st) .none kV doc pm an cdv ct) ⟨us, []⟩ = pure (ps.zip us)) : DefT K mg x st ps P0 :=
  let F := fun_mk (st := st) l c k
  ⟨f, _, c0, F, F.binds b, PySem.W.mg_of X G a, rfl, hd⟩
theorem dueT {f c0 : Addr} {h : Heap} {oc : Value} {od an : Option Addr} {osl : Array (Option Value)} {kV doc pm ct : Value} (X : K.In h) (G : h.Ns mainGlobals mg) (a : PySem.W.nsIn K mainGlobals "_law_due" = some (some (.ref f)))
    (l : K.lookup f = some ⟨oc, od, .func (PySem.W.fnOf "_law_due" "_law_due" (defArgs s_l_due) (defBody s_l_due) (defScope s_l_due) .none kV doc pm an (.ref c0) ct), osl⟩) (c : PySem.W.codeIn K (.ref c0) "_law_due" = true) (k : PySem.W.keepIn K (.ref f) = true) (hd : PySem.W.codeHdIn K c0 P0 = true) : DefT K mg "_law_due" s_l_due ["_law_order_here", "_law_marks_here"] P0 :=
  defT_mk X G a l c k hd fun _ _ _ _ _ _ us hl => match us, hl with | [_, _], _ => rfl
theorem law_has (T : Txt K mg) (DT : DefT K mg "_law_due" s_l_due ["_law_order_here", "_law_marks_here"] P0) (hbi : base.BuiltinsAt mg P0) : Has P w K mg base 6 "law" ["_law_script"] (sp_law K) := by
  have h_l_deep := ok_l_deep (P := P) (w := w) (base := base) (k := 0) T 
  have h_l_order := ok_l_order (P := P) (w := w) (base := base) (k := 0) T 
  have h_l_riffled := ok_l_riffled (P := P) (w := w) (base := base) (k := 0) T 
  have h_l_word := ok_l_word (P := P) (w := w) (base := base) (k := 0) T 
  have h_l_words := ok_l_words (P := P) (w := w) (base := base) (k := 0) T 
  have h_l_heaps := ok_l_heaps (P := P) (w := w) (base := base) (k := 0) T 
  have h_l_due := ok_l_due (P := P) (w := w) (base := base) (k := 1) T DT hbi (h_l_heaps.mono (by decide)) (h_l_riffled.mono (by decide)) (h_l_words.mono (by decide))
  have h_least_for_next := ok_least_for_next (P := P) (w := w) (base := base) (k := 0) T 
  have h_counted := ok_counted (P := P) (w := w) (base := base) (k := 1) T (h_least_for_next.mono (by decide))
  have h_places := ok_places (P := P) (w := w) (base := base) (k := 0) T 
  have h_each_above_next := ok_each_above_next (P := P) (w := w) (base := base) (k := 1) T (h_places.mono (by decide))
  have h_how_many := ok_how_many (P := P) (w := w) (base := base) (k := 2) T (h_counted.mono (by decide)) (h_each_above_next.mono (by decide))
  have h_laid := ok_laid (P := P) (w := w) (base := base) (k := 0) T 
  have h_way := ok_way (P := P) (w := w) (base := base) (k := 2) T (h_each_above_next.mono (by decide)) (h_counted.mono (by decide)) (h_least_for_next.mono (by decide)) (h_laid.mono (by decide))
  have h_law := ok_law (P := P) (w := w) (base := base) (k := 5) T (h_l_deep.mono (by decide)) (h_l_order.mono (by decide)) (h_l_riffled.mono (by decide)) (h_l_word.mono (by decide)) (h_l_due.mono (by decide)) (h_how_many.mono (by decide)) (h_way.mono (by decide))
  exact h_law
theorem fin_ofT {x y : Str} {st : Stmt} {fa P0 : Addr} {k : Nat} {sp : Sp} (D : Def K mg x st [y]) (hfa : mg x = some (.ref fa)) (h : ∀ base : Heap, base.BuiltinsAt mg P0 → Has P w K mg base k x [y] sp)
    (b : ∀ (kV doc pm : Value) (an : Option Addr) (cdv ct u : Value), bindArgs (PySem.W.fnOf x x (defArgs st) (defBody st) (defScope st) .none kV doc pm an cdv ct) ⟨[u], []⟩ = pure [(y, u)]) :
    ∃ fd : FuncData, (∀ (s : Shared) (u : Value), BindsTo s fd ⟨[u], []⟩ [(y, u)]) ∧ ∀ base : Heap, base.BuiltinsAt mg P0 → FnOk P w K mg base CX0 k fa fd [y] sp := by
  obtain ⟨f, fd, F, _, m⟩ := D.ex
  rw [hfa] at m
  cases m
  obtain ⟨oc, od, kV, doc, pm, an, cdv, ct, osl, rfl, lk, hcd⟩ := F.ex
  refine ⟨PySem.W.fnOf x x (defArgs st) (defBody st) (defScope st) .none kV doc pm an cdv ct, fun s u => .of_eq (b ..), fun base hbi => ?_⟩
  obtain ⟨f', fd', G, _, _, m', oc', od', osl', lk'⟩ := (h base hbi).ex
  rw [hfa] at m'
  cases m'
  rw [lk] at lk'
  cases lk'
  exact G
abbrev depth : Nat := 6
theorem sp_law_top {H : Hp} {a : Addr} {ns : List Int} (hl : ns.length ≤ 63) (hO : OnlyT P0 H) (hS : SqL K H a (ns.map V.int)) : sp_law K [.ref a] H (fun v _ => v = .bl true) fun _ _ _ => False := ⟨_, rfl, a, ns, hS, rfl, hl, .inl hO.1, fun _ => rfl⟩
end
end K25
-- FINAL
open PySem PySem.W PyProof.Rows
set_option maxRecDepth 100000 in
set_option maxHeartbeats 0 in
theorem PySem.Challenge.cw_riftcarry_k25_all_ways_holds : PySem.Challenge.rw_riftcarry_k25_all_ways.Holds := by
  w_on; o_law; k_head; (case hw => w_witness2)
  k_fill
  refine L2.walk_ofT (P0 := K25.P0) (c0 := 140) (l := PySem.Challenge.rw_riftcarry_k25_all_ways) (n := 63) (k := K25.depth) (x := "_law_script") (CX := L2.CX0) (sp := K25.sp_law) rfl (by decide) rfl ⟨rfl, by decide, by decide⟩ (fun w h Y => PySem.W.km_in_of Y) (fun w h Y => PySem.W.km_tabs_of Y _ (List.mem_cons_self ..)) ?F ?S ?C
  case F =>
    intro w mg fa h KX G hmg
    have T : K25.Txt (L2.KOf KX) mg := by
      dsimp only [L2.KOf]
      refine' K25.txt_mk KX G ?a0 ?l0 ?c0 ?k0 ?a1 ?l1 ?c1 ?k1 ?a2 ?l2 ?c2 ?k2 ?a3 ?l3 ?c3 ?k3 ?a4 ?l4 ?c4 ?k4 ?a5 ?l5 ?c5 ?k5 ?a6 ?l6 ?c6 ?k6 ?a7 ?l7 ?c7 ?k7 ?a8 ?l8 ?c8 ?k8 ?a9 ?l9 ?c9 ?k9 ?a10 ?l10 ?c10 ?k10 ?a11 ?l11 ?c11 ?k11 ?a12 ?l12 ?c12 ?k12 ?a13 ?l13 ?c13 ?k13 ?a14 ?l14 ?c14 ?k14 ?z0 ?z1 ?z2 ?z3 ?z4 ?z5
      (case a0 => k_is)
      (case l0 => k_is)
      (case c0 => k_is)
      (case k0 => k_is)
      (case a1 => k_is)
      (case l1 => k_is)
      (case c1 => k_is)
      (case k1 => k_is)
      (case a2 => k_is)
      (case l2 => k_is)
      (case c2 => k_is)
      (case k2 => k_is)
      (case a3 => k_is)
      (case l3 => k_is)
      (case c3 => k_is)
      (case k3 => k_is)
      (case a4 => k_is)
      (case l4 => k_is)
      (case c4 => k_is)
      (case k4 => k_is)
      (case a5 => k_is)
      (case l5 => k_is)
      (case c5 => k_is)
      (case k5 => k_is)
      (case a6 => k_is)
      (case l6 => k_is)
      (case c6 => k_is)
      (case k6 => k_is)
      (case a7 => k_is)
      (case l7 => k_is)
      (case c7 => k_is)
      (case k7 => k_is)
      (case a8 => k_is)
      (case l8 => k_is)
      (case c8 => k_is)
      (case k8 => k_is)
      (case a9 => k_is)
      (case l9 => k_is)
      (case c9 => k_is)
      (case k9 => k_is)
      (case a10 => k_is)
      (case l10 => k_is)
      (case c10 => k_is)
      (case k10 => k_is)
      (case a11 => k_is)
      (case l11 => k_is)
      (case c11 => k_is)
      (case k11 => k_is)
      (case a12 => k_is)
      (case l12 => k_is)
      (case c12 => k_is)
      (case k12 => k_is)
      (case a13 => k_is)
      (case l13 => k_is)
      (case c13 => k_is)
      (case k13 => k_is)
      (case a14 => k_is)
      (case l14 => k_is)
      (case c14 => k_is)
      (case k14 => k_is)
      (case z0 => k_is)
      (case z1 => k_is)
      (case z2 => k_is)
      (case z3 => k_is)
      (case z4 => k_is)
      (case z5 => k_is)
    have DT : L2.DefT (L2.KOf KX) mg "_law_due" K25.s_l_due ["_law_order_here", "_law_marks_here"] K25.P0 := by
      dsimp only [L2.KOf]
      refine' K25.dueT KX G ?a0 ?l0 ?c0 ?k0 ?h0
      (case a0 => k_is)
      (case l0 => k_is)
      (case c0 => k_is)
      (case k0 => k_is)
      (case h0 => kernel_rfl)
    refine ⟨⟨by kernel_rfl, by kernel_rfl⟩, ?_⟩
    obtain ⟨fd, hb, hF⟩ := K25.fin_ofT (P := PySem.Challenge.rw_riftcarry_k25_all_ways.prog) (w := w) (P0 := K25.P0) (sp := K25.sp_law _) T.f_law hmg (fun base hbi => K25.law_has T DT hbi) (fun _ _ _ _ _ _ _ => rfl)
    exact ⟨fd, hb, fun base _ _ hbi => hF base hbi⟩
  case S => exact fun K H a ns hl hO hS => K25.sp_law_top hl hO hS
  case C => exact fun _ _ _ _ z => z
