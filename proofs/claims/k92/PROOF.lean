import PyProof.Rows.All
import Wide.All
import OpenK.AllK
import Wide.FinOn
import Lean
import PyProof.EqAt
import PyProof.EqKinds
import PyProof.TupleCall
import PyProof.NeKinds
import PyProof.ZipIter
import PySem.Challenge.RW_riftcarry_k92_rows_refused
set_option Elab.async false
set_option linter.all false
set_option maxRecDepth 100000
set_option maxHeartbeats 4000000
namespace L2
open PySem PySem.Spec PyProof.Rows
abbrev Key:=Sum Int Str
def dN:Key→Value→Bool
 | .inl k,v=>Value.isInt k v
 | .inr x,v=>Value.isStrOf x v
def adK (w:World):Key→Int
 | .inl k=>hashInt k
 | .inr x=>hashStr w x
theorem XS:∀{k:Key} {v:Value},dN k v=true→(∃i t,k=Sum.inl i∧v=Value.int i t)∨(∃x t,k=Sum.inr x∧v=Value.str x t)
 | .inl i,v,h=>by
   obtain⟨t,e⟩:=Value.isInt_shape (k:=i) (v:=v) h
   exact .inl ⟨i,t,rfl,e⟩
 | .inr x,v,h=>by
   obtain⟨t,e⟩:=Value.isStrOf_shape (x:=x) (v:=v) h
   exact .inr ⟨x,t,rfl,e⟩
theorem bO (a b:Int):decide ((Sum.inl a:Key)=Sum.inl b)=(a==b):=by
 by_cases e:a=b
 ·subst e;simp
 ·have h:¬(Sum.inl a:Key)=Sum.inl b:=λq=>e (Sum.inl.inj q)
  rw[decide_eq_false h]
  exact(beq_eq_false_iff_ne.mpr e).symm
theorem bN (a b:Str):decide ((Sum.inr a:Key)=Sum.inr b)=decide (a=b):=by
 by_cases e:a=b
 ·subst e;simp
 ·have h:¬(Sum.inr a:Key)=Sum.inr b:=λq=>e (Sum.inr.inj q)
  rw[decide_eq_false h,decide_eq_false e]
theorem bM (a:Int) (b:Str):decide ((Sum.inl a:Key)=Sum.inr b)=false:=decide_eq_false (λq=>nomatch q)
theorem bK (a:Str) (b:Int):decide ((Sum.inr a:Key)=Sum.inl b)=false:=decide_eq_false (λq=>nomatch q)
def DW (prog:Program) (w:World):PySem.KeyKind prog w Key where
 is:=dN
 hash:=adK w
 inj:=λv a b ha hb=>by
  rcases XS ha with⟨i,t,rfl,rfl⟩ | ⟨x,t,rfl,rfl⟩
  ·rcases XS hb with⟨j,u,rfl,e⟩ | ⟨y,u,rfl,e⟩
   ·injection e with e1 _;rw[e1]
   ·exact nomatch e
  ·rcases XS hb with⟨j,u,rfl,e⟩ | ⟨y,u,rfl,e⟩
   ·exact nomatch e
   ·injection e with e1 _;rw[e1]
 byValue:=λk v h=>by
  rcases XS h with⟨i,t,rfl,rfl⟩ | ⟨x,t,rfl,rfl⟩<;>rfl
 pyHash:=λhv h=>by
  rcases XS hv with⟨i,t,rfl,rfl⟩ | ⟨x,t,rfl,rfl⟩
  ·exact wpAny_pyHash_int h
  ·exact wpAny_pyHash_str h
 eqBool:=λhu hv h=>by
  rcases XS hu with⟨i,t,rfl,rfl⟩ | ⟨x,t,rfl,rfl⟩
  ·rcases XS hv with⟨j,u,rfl,rfl⟩ | ⟨y,u,rfl,rfl⟩
   ·rw[bO]at h;exact wpAny_eqBool_int h
   ·rw[bM]at h;exact SeqAt.EqAt.int_str i t y u _ _ _ _ h
  ·rcases XS hv with⟨j,u,rfl,rfl⟩ | ⟨y,u,rfl,rfl⟩
   ·rw[bK]at h;exact SeqAt.EqAt.str_int x t j u _ _ _ _ h
   ·rw[bN]at h;exact wpAny_eqBool_str h
 «strs» :=λk x t v h=>by
  rcases XS h with⟨i,u,rfl,e⟩ | ⟨y,u,rfl,e⟩
  ·exact nomatch e
  ·injection e with e1 _
   subst e1
   cases v<;>rfl
end L2
namespace L2
open PySem PySem.Spec PyProof.Rows
inductive V where
 |non |bl (b:Bool) |int (i:Int) |str (x:Str) |Bw (b:Array UInt8) |flt (b:UInt64) |ref (a:Addr) |ty (n:String)
 deriving DecidableEq
def RelV:V→Value→Prop
 | .non,u=>u=Value.none
 | .bl b,u=>u=Value.bool b
 | .int i,u=>∃t,u=Value.int i t
 | .str x,u=>∃t,u=Value.str x t
 | .Bw b,u=>∃t,u=Value.bytes b t
 | .flt b,u=>∃t,u=Value.float b t
 | .ref a,u=>u=Value.ref a
 | .ty n,u=>u=Value.type n
abbrev Vals:List V→List Value→Prop:=Paired RelV
theorem Vals.length {xs:List V} {us:List Value} (r:Vals xs us):xs.length=us.length:=Paired.length r
theorem Vals.get:∀{xs:List V} {us:List Value} {i:Nat} {x:V},Vals xs us→xs[i]? =some x→∃u,us[i]? =some u∧RelV x u
 |_,_,_,_,.nil,e=>by simp at e
 |_,_,0,_,.cons r _,e=>by simp at e;subst e;exact⟨_,rfl,r⟩
 |_,_,i+1,x,.cons _ t,e=>by
  obtain⟨u,h1,h2⟩:=Vals.get (i:=i) (x:=x) t (by simpa using e)
  exact⟨u,by simpa using h1,h2⟩
theorem Vals.set {x:V} {u:Value} (r:RelV x u):∀{xs:List V} {us:List Value} (i:Nat),Vals xs us→Vals (xs.set i x) (us.set i u)
 |_,_,_,.nil=> .nil
 |_,_,0,.cons _ t=> .cons r t
 |_,_,i+1,.cons q t=> .cons q (Vals.set r i t)
theorem Vals.append:∀{xs ys:List V} {us ws:List Value},Vals xs us→Vals ys ws→Vals (xs++ys) (us++ws)
 |_,_,_,_,.nil,s=>s
 |_,_,_,_,.cons r t,s=> .cons r (Vals.append t s)
theorem Vals.take:∀{xs:List V} {us:List Value} (n:Nat),Vals xs us→Vals (xs.take n) (us.take n)
 |_,_,0,_=> .nil
 |_,_,_+1,.nil=> .nil
 |_,_,n+1,.cons r t=> .cons r (Vals.take n t)
theorem Vals.drop:∀{xs:List V} {us:List Value} (n:Nat),Vals xs us→Vals (xs.drop n) (us.drop n)
 |_,_,0,r=>r
 |_,_,_+1,.nil=> .nil
 |_,_,n+1,.cons _ t=>Vals.drop n t
def Gv:Option V→Option Value→Prop
 |some v,some u=>RelV v u
 |none,none=>True
 |_,_=>False
def KV {κ:Type}:List (κ×V)→List (κ×Value)→Prop:=Paired λ(p:κ×V) (q:κ×Value)=>p.1=q.1∧RelV p.2 q.2
def kV:Key→V
 | .inl i=> .int i
 | .inr x=> .str x
inductive HO where
 |lst (xs:List V)
 |tup (xs:List V)
 |dK (kvs:List (Key×V)) |dT (kvs:List (List Key×V))
 |set (S:Int→Bool) (n:Nat)
 |ins (C dx:Addr) (fs:List (Str×V))
 |own (x:Addr)
 |xd (fs:List (Str×V))
 |met (f x:Addr)
 |rng (lo hi:Int)
 |yg (o:Obj) (u:HO)
 |yj (ps:Array Value)
 |ext (φ:Heap→Prop)
abbrev Hp:=Addr→Option HO
def upd (H:Hp) (a:Addr) (o:HO):Hp:=λb=>if b=a then some o else H b
theorem Z1 {H:Hp} {a:Addr} {o:HO}:upd H a o a=some o:=by unfold upd;rw[if_pos rfl]
theorem Zw {H:Hp} {a b:Addr} {o:HO} (h:b≠a):upd H a o b=H b:=by unfold upd;rw[if_neg h]
theorem jr {H:Hp} {a:Addr} {o u:HO}:upd (upd H a o) a u=upd H a u:=by
 funext b;unfold upd;split<;>rfl
theorem Fw {H:Hp} {a b:Addr} {o u:HO} (h:H a=some o) (h':H b=some u) (d:o≠u):a≠b:=by
 intro e;subst e;rw[h]at h';exact d (Option.some.inj h')
theorem ZF {H:Hp} {a b:Addr} {o:HO} (h:H a=some o) (h':H b=none):a≠b:=by
 intro e;subst e;rw[h]at h';cases h'
section
variable (P:Program) (w:World)
def Xe (H:Hp) (h:Heap) (a:Addr):HO→Prop
 | .lst xs=>xs.length≤sizeLine∧∃(its:List Value) (n:Nat),Vals xs its∧h.get? a=some {cls:=.type "list",data:=.seq its.toArray n}
 | .tup xs=>xs.length≤sizeLine∧∃its:List Value,Vals xs its∧IsTup h a its.toArray
 | .dK kvs=>kvs.length≤sizeLine∧(a==sysModules)=false∧∃vs,KV kvs vs∧h.DictOf (DW P w) a vs
 | .dT kvs=>kvs.length≤sizeLine∧(a==sysModules)=false∧∃xs:List (List Key×Addr×Value),
  Paired (λ(p:List Key×V) (q:List Key×Addr×Value)=>p.1=q.1∧H q.2.1=some (.tup (p.1.map kV))∧RelV p.2 q.2.2) kvs xs ∧
  ∃o es ep,h.get? a=some o∧o.ExactDict∧o.data= .dict es ep∧es.toList=xs.map (entryOfKey (tupleKind (DW P w)))∧(xs.map (·.1)).Nodup
 | .set S n=>h.SetOf (intKind P w) a S n
 | .ins C dx fs=>H dx=some (.own a)∧fs.length≤1000∧dx≠a∧h.get? a=some (PySem.W.instObj C dx) ∧
  ∃mA,h.Ns1 dx mA∧(∀f,Gv (fs.lookup f) (mA f))∧PySem.Within mA (fs.map (·.1))
 | .own _=>∃o,h.get? a=some o
 | .xd fs=>∃mA,h.Ns1 a mA∧∀f,Gv (fs.lookup f) (mA f)
 | .rng lo hi=>∃t u v,h.get? a=some {cls:=.type "range",data:=.fields #[.int lo t,.int hi u,.int 1 v]}
 | .yg o u=>h.get? a=some o∧Xe H h a u
 | .yj ps=>h.get? a=some {cls:=.none,data:=.fields ps}
 | .met f x=>h.get? a=some (PySem.W.methodObj (.ref f) (.ref x))
 | .ext φ=>φ h∧(∃o,h.get? a=some o)∧∀h1 h2:Heap,φ h1→(∀o,h1.get? a=some o→h2.get? a=some o)→φ h2
def Qz (H:Hp) (h:Heap):Prop:=∀a o,H a=some o→Xe P w H h a o
end
section
variable {P:Program} {w:World} {H H':Hp} {h h':Heap} {a:Addr} {o:HO}
theorem Xe.lt (x:Xe P w H h a o):a<h.objs.size:=by
 cases o with
 |lst xs=>obtain⟨_,_,_,_,e⟩:=x;exact Heap.lt_size e
 |tup xs=>obtain⟨_,_,_,p⟩:=x;exact p.lt
 |dK kvs=>obtain⟨_,_,_,_,o,_,_,e,_⟩:=x;exact Heap.lt_size e
 |dT kvs=>obtain⟨_,_,_,_,o,_,_,e,_⟩:=x;exact Heap.lt_size e
 |set S n=>obtain⟨o,_,_,_,e,_⟩:=x;exact Heap.lt_size e
 |ins C dx fs=>obtain⟨_,_,_,e,_⟩:=x;exact Heap.lt_size e
 |own y=>obtain⟨_,e⟩:=x;exact Heap.lt_size e
 |xd fs=>obtain⟨_,⟨_,_,_,e,_⟩,_⟩:=x;exact Heap.lt_size e
 |rng lo hi=>obtain⟨_,_,_,e⟩:=x;exact Heap.lt_size e
 |yg ob u=>obtain⟨e,_⟩:=x;exact Heap.lt_size e
 |yj ps=>exact Heap.lt_size (show h.get? a=some _ from x)
 |met f y=>exact Heap.lt_size (show h.get? a=some _ from x)
 |ext φ=>obtain⟨_,⟨_,e⟩,_⟩:=x;exact Heap.lt_size e
theorem Paired.tG {α β:Type} {F G:α→β→Prop}:∀{l₁:List α} {l₂:List β},Paired F l₁ l₂→(∀a b,F a b→G a b)→Paired G l₁ l₂
 |_,_,.nil,_=> .nil
 |_,_,.cons r t,f=> .cons (f _ _ r) (Paired.tG t f)
theorem Xe.stay (x:Xe P w H h a o) (k:∀b u,(b=a∨H b=some (.own a))→h.get? b=some u→h'.get? b=some u)
 (ho:∀b,H b=some (.own a)→H' b=some (.own a)) (ht:∀b xs,H b=some (.tup xs)→H' b=some (.tup xs)):Xe P w H' h' a o:=by
 induction o with
 |lst xs=>obtain⟨z,its,n,r,e⟩:=x;exact⟨z,its,n,r,k _ _ (.inl rfl) e⟩
 |tup xs=>obtain⟨z,its,r,ob,e,c⟩:=x;exact⟨z,its,r,ob,k _ _ (.inl rfl) e,c⟩
 |dK kvs=>obtain⟨z,y,vs,r,ob,es,ep,e,c⟩:=x;exact⟨z,y,vs,r,ob,es,ep,k _ _ (.inl rfl) e,c⟩
 |dT kvs =>
  obtain⟨z,y,xs,r,ob,es,ep,e,c⟩:=x
  exact⟨z,y,xs,Paired.tG r λp q z=>⟨z.1,ht _ _ z.2.1,z.2.2⟩,ob,es,ep,k _ _ (.inl rfl) e,c⟩
 |set S n=>obtain⟨ob,es,ep,t,e,c⟩:=x;exact⟨ob,es,ep,t,k _ _ (.inl rfl) e,c⟩
 |ins C dx fs =>
  obtain⟨d,z,ne,e,mA,⟨od,es,ep,e2,c⟩,r⟩:=x
  exact⟨ho _ d,z,ne,k _ _ (.inl rfl) e,mA,⟨od,es,ep,k _ _ (.inr d) e2,c⟩,r⟩
 |own y=>obtain⟨ob,e⟩:=x;exact⟨ob,k _ _ (.inl rfl) e⟩
 |xd fs=>obtain⟨mA,⟨od,es,ep,e,c⟩,r⟩:=x;exact⟨mA,⟨od,es,ep,k _ _ (.inl rfl) e,c⟩,r⟩
 |rng lo hi=>obtain⟨t,u,v,e⟩:=x;exact⟨t,u,v,k _ _ (.inl rfl) e⟩
 |yg ob u ih=>obtain⟨e,q⟩:=x;exact⟨k _ _ (.inl rfl) e,ih q⟩
 |yj ps =>
  have e:h.get? a=some {cls:=.none,data:=.fields ps}:=x
  show h'.get? a=some {cls:=.none,data:=.fields ps}
  exact k a _ (.inl rfl) e
 |met f y =>
  have e:h.get? a=some (PySem.W.methodObj (.ref f) (.ref y)):=x
  show h'.get? a=some (PySem.W.methodObj (.ref f) (.ref y))
  exact k a _ (.inl rfl) e
 |ext φ=>obtain⟨p,⟨o,e⟩,st⟩:=x;exact⟨st _ _ p λo q=>k _ _ (.inl rfl) q,⟨o,k _ _ (.inl rfl) e⟩,st⟩
theorem Qz.lt (x:Qz P w H h) (e:H a=some o):a<h.objs.size:=(x a o e).lt
theorem Qz.fresh (x:Qz P w H h) (e:h.objs.size≤a):H a=none:=by
 cases q:H a with
 |none=>rfl
 |some u=>exact absurd (Nat.lt_of_lt_of_le (x.lt q) e) (Nat.lt_irrefl _)
theorem Qz.kept (x:Qz P w H h) (k:∀b u,h.get? b=some u→h'.get? b=some u):Qz P w H h':=λa o e =>
 (x a o e).stay (λb u _ q=>k b u q) (λ_ q=>q) λ_ _ q=>q
theorem Qz.laid (x:Qz P w H h) (k:∀b u,h.get? b=some u→h'.get? b=some u) (hp:h.objs.size≤a) (new:Xe P w (upd H a o) h' a o):Qz P w (upd H a o) h':=λb u e=>by
 have hn:=x.fresh hp
 by_cases hb:b=a
 ·subst hb;rw[Z1]at e;cases e;exact new
 ·rw[Zw hb]at e
  exact(x b u e).stay (λc v _ q=>k c v q) (λc q=>by rw[Zw (ZF q hn)];exact q) λc xs q=>by rw[Zw (ZF q hn)];exact q
end
def Rd (H:Hp) (a:Addr) (u:HO):Prop:=H a=some u∨∃o,H a=some (.yg o u)
theorem Rd.of {H:Hp} {a:Addr} {u:HO} (h:H a=some u):Rd H a u:=.inl h
theorem Rd.ok {P:Program} {w:World} {H:Hp} {h:Heap} {a:Addr} {u:HO} (r:Rd H a u) (x:Qz P w H h):Xe P w H h a u:=by
 rcases r with r | ⟨o,r⟩
 ·exact x a u r
 ·obtain⟨_,q⟩:=x a _ r
  exact q
def Mut:Option HO→Prop
 |some (.lst _)=>True
 |some (.dK _)=>True
 |some (.dT _)=>True
 |some (.set _ _)=>True
 |some (.ins _ _ _)=>True
 |some (.ext _)=>True
 |_=>False
section
variable {P:Program} {w:World} {H:Hp} {h h':Heap} {x e:Addr} {o':HO}
theorem Qz.write (ok:Qz P w H h) (mu:Mut (H x)) (he:e=x∨H e=some (.own x)) (k:∀b u,b≠e→h.get? b=some u→h'.get? b=some u) (heo:∃u,h'.get? e=some u)
 (new:Xe P w (upd H x o') h' x o'):Qz P w (upd H x o') h':=λb u q=>by
 have aa3:∀c y,H c=some (.own y)→c≠x:=λc y r z=>by subst z;rw[r]at mu;exact mu
 have adL:∀c xs,H c=some (.tup xs)→c≠x:=λc xs r z=>by subst z;rw[r]at mu;exact mu
 by_cases hb:b=x
 ·subst hb;rw[Z1]at q;cases q;exact new
 ·rw[Zw hb]at q
  by_cases hbe:b=e
  ·have q':H b=some (.own x):=by
    rcases he with z |z
    ·exact absurd (hbe.trans z) hb
    ·rw[hbe];exact z
   rw[q]at q';cases q'
   obtain⟨v,hv⟩:=heo
   exact⟨v,by rw[hbe];exact hv⟩
  ·refine(ok b u q).stay (λc v hc r=>k c v ?_ r) (λc r=>by rw[Zw (aa3 c b r)];exact r) λc xs r=>by rw[Zw (adL c xs r)];exact r
   rcases hc with rfl |hc
   ·exact hbe
   ·rintro rfl
    rcases he with z |z
    ·exact aa3 c b hc z
    ·rw[hc]at z;cases z;exact hb rfl
end
structure Un (fs ex:List Addr) (H H':Hp) (h h':Heap):Prop where
 keep:∀b o,h.get? b=some o→H b=none→b∉fs→b∉ex→h'.get? b=some o
 slot:∀b o,h.get? b=some o→H b=none→b∈fs→b∉ex→∃sl,h'.get? b=some {o with slots:=sl}
 free:∀b o,h.get? b=some o→H b=none→b∉ex→H' b=none
 there:∀b o,h.get? b=some o→b∉ex→∃o',h'.get? b=some o'
 tups:∀b xs,H b=some (.tup xs)→H' b=some (.tup xs)
 R3:∀b o u,H b=some (.yg o u)→H' b=some (.yg o u)
 Rq:∀b ps,H b=some (.yj ps)→∃more,H' b=some (.yj (ps++more))
section
variable {fs fs' ex ex':List Addr} {H H1 H2:Hp} {h h1 h2 h':Heap} {a x e:Addr} {o:HO}
theorem Un.any (u:Un fs ex H H1 h h1) {b:Addr} {ob:Obj} (q:h.get? b=some ob) (n:H b=none) (hx:b∉ex):∃sl,h1.get? b=some {ob with slots:=sl}:=by
 by_cases hb:b∈fs
 ·exact u.slot b ob q n hb hx
 ·exact⟨ob.slots,u.keep b ob q n hb hx⟩
theorem Un.trans (a:Un fs ex H H1 h h1) (b:Un fs ex H1 H2 h1 h2):Un fs ex H H2 h h2 where
 keep:=λc ob q n hc hx=>b.keep c ob (a.keep c ob q n hc hx) (a.free c ob q n hx) hc hx
 slot:=λc ob q n hc hx=>by
  obtain⟨sl,e1⟩:=a.slot c ob q n hc hx
  obtain⟨sl',e2⟩:=b.slot c _ e1 (a.free c ob q n hx) hc hx
  exact⟨sl',e2⟩
 free:=λc ob q n hx=>by
  obtain⟨o',e1⟩:=a.there c ob q hx
  exact b.free c o' e1 (a.free c ob q n hx) hx
 there:=λc ob q hx=>by
  obtain⟨o',e1⟩:=a.there c ob q hx
  exact b.there c o' e1 hx
 tups:=λc xs q=>b.tups c xs (a.tups c xs q)
 R3:=λc ob xs q=>b.R3 c ob xs (a.R3 c ob xs q)
 Rq:=λc ps q=>by
  obtain⟨m1,e1⟩:=a.Rq c ps q
  obtain⟨m2,e2⟩:=b.Rq c _ e1
  exact⟨m1++m2,by rw[e2,Array.append_assoc]⟩
theorem Un.kept (k:∀b u,h.get? b=some u→h'.get? b=some u):Un fs ex H H h h':=
 ⟨λb ob q _ _ _=>k b ob q,λb ob q _ _ _=>⟨ob.slots,k b ob q⟩,λ_ _ _ n _=>n,λb ob q _=>⟨ob,k b ob q⟩,λ_ _ q=>q,λ_ _ _ q=>q,λ_ ps q=>⟨#[],by rw[q];simp⟩⟩
theorem Un.refl:Un fs ex H H h h:=Un.kept λ_ _ q=>q
theorem Un.laid (k:∀b u,h.get? b=some u→h'.get? b=some u) (hp:h.objs.size≤a) (hn:H a=none):Un fs ex H (upd H a o) h h' where
 keep:=λb u q _ _ _=>k b u q
 slot:=λb u q _ _ _=>⟨u.slots,k b u q⟩
 free:=λb u q n _=>by rw[Zw (Nat.ne_of_lt (Nat.lt_of_lt_of_le (Heap.lt_size q) hp))];exact n
 there:=λb u q _=>⟨u,k b u q⟩
 tups:=λb xs q=>by rw[Zw (ZF q hn)];exact q
 R3:=λb u xs q=>by rw[Zw (ZF q hn)];exact q
 Rq:=λb ps q=>⟨#[],by rw[Zw (ZF q hn),q];simp⟩
theorem Un.write (mu:Mut (H x)) (he:e=x∨H e=some (.own x)) (k:∀b u,b≠e→h.get? b=some u→h'.get? b=some u) (heo:∃u,h'.get? e=some u):Un fs ex H (upd H x o) h h':=by
 have hx:∀b,H b=none→b≠x:=λb n z=>by subst z;rw[n]at mu;exact mu
 have hb:∀b,H b=none→b≠e:=λb n z=>by
  subst z
  rcases he with r |r
  ·exact hx b n r
  ·rw[n]at r;cases r
 have hm:∀b u,H b=some u→¬Mut (some u)→b≠x:=λb u q nm z=>by subst z;rw[q]at mu;exact nm mu
 refine⟨λb u q n _ _=>k b u (hb b n) q,λb u q n _ _=>⟨u.slots,k b u (hb b n) q⟩,λb u q n _=>by rw[Zw (hx b n)];exact n,λb u q _=>?_,
  λb xs q=>by rw[Zw (hm b _ q λz=>z)];exact q,λb u xs q=>by rw[Zw (hm b _ q λz=>z)];exact q,λb ps q=>⟨#[],by rw[Zw (hm b _ q λz=>z),q];simp⟩⟩
 by_cases hbe:b=e
 ·subst hbe;exact heo
 ·exact⟨u,k b u hbe q⟩
theorem Un.mono (u:Un fs ex H H1 h h1) (hs:∀b∈fs,b∈fs') (hx:∀b∈ex,b∈ex'):Un fs' ex' H H1 h h1:=
 ⟨λb ob q n hb he=>u.keep b ob q n (λz=>hb (hs b z)) λz=>he (hx b z),λ_ _ q n _ he=>u.any q n λz=>he (hx _ z),λb ob q n he=>u.free b ob q n λz=>he (hx b z),λb ob q he=>u.there b ob q λz=>he (hx b z),u.tups,u.R3,u.Rq⟩
end
def trk (h:Heap) (H:Hp):List Addr:=(List.range h.objs.size).filter λa=>(H a).isSome
def DR (h:Heap) (H:Hp):Heap:=PySem.W.hideAll h (trk h H)
theorem tE (h:Heap) (H:Hp):(DR h H).objs.size=h.objs.size:=PySem.W.hideAll_size _ _
theorem qb {h:Heap} {H:Hp} {b:Addr} {o:Obj} (e:h.get? b=some o) (n:H b=none):(DR h H).get? b=some o:=
 PySem.W.hideAll_get _ e λhm=>by
  have q:(H b).isSome=true:=(List.mem_filter.mp hm).2
  rw[n]at q;simp at q
theorem jq {h:Heap} {H:Hp} {b:Addr} {o:Obj} (e:(DR h H).get? b=some o):h.get? b=some o∧H b=none:=by
 have e':h.get? b=some o:=PySem.W.of_hideAll (trk h H) e
 refine⟨e',?_⟩
 cases q:H b with
 |none=>rfl
 |some x =>
  have hm:b∈trk h H:=List.mem_filter.mpr ⟨List.mem_range.mpr (Heap.lt_size e'),by simp[q]⟩
  have z:(DR h H).get? b=none:=PySem.W.hideAll_none (trk h H) hm
  rw[z]at e;cases e
def jo (g h:Heap) (L:Addr):List (Addr×Obj):=(List.range h.objs.size).filterMap λa=>if a=L∨(g.get? a).isSome=true then none else(h.get? a).map λo=>(a,o)
def rest (g h:Heap) (L d:Addr):List (Addr×Obj):=(jo g h L).filter λp=>decide (p.1≠d)
end L2
namespace L2
open PySem PySem.Spec PyProof.Rows
structure Mod (K:PySem.W.Frag) (mg:Str→Option Value) (base:Heap):Prop where
 dM:K.In base
 glob:base.Ns mainGlobals mg
 blt:∃mb,base.Ns builtinsNs mb∧∀x:Str,x≠"__name__"→mb x=bootBuiltins x
 nolimit:base.NoLimit
structure Cx where
 prog:Program
 w:World
 K:PySem.W.Frag
 mg:Str→Option Value
 base:Heap
 A:Around
 N:List Str
 s₀:Shared
 H₀:Hp
 env:Env
 outer:List Env
 stack:List Env
 ex:List Addr
 fn:Str→Bool
 calm:Bool
 pn:List (Addr×Obj)
 xe:Value→Shared→Prop
def frs (l:List Env):List Addr:=l.filterMap (·.frame)
abbrev Cx.fs (X:Cx):List Addr:=frs X.outer
def Vis (sc:Scope) (x:Str):Prop:=sc.names.lookup x=some .local∨sc.names.lookup x=some .cell∨sc.names.lookup x=some .free
def Loc (sc:Scope) (x:Str):Prop:=sc.names.lookup x=some .local∨sc.names.lookup x=some .cell
def Look (env:Env) (h:Heap) (m:Str→Option Value) (x:Str) (u:Value):Prop:=
 (env.kindOf x=some .local∧m x=some u)∨((env.kindOf x=some .cell∨env.kindOf x=some .free)∧∃c,env.cells.lookup x=some c∧h.IsCell c (some u))
structure Cx.Ok (X:Cx):Prop where
 mod:Mod X.K X.mg X.base
 kind:X.env.scope.kind= .function
 glob:X.env.globals=mainGlobals
 blt:X.env.builtins=builtinsNs
 above:X.s₀.heap.objs.size≤X.env.locals
 inj:∀x y c,X.env.cells.lookup x=some c→X.env.cells.lookup y=some c→x=y
 has:∀x,(X.env.kindOf x=some .cell∨X.env.kindOf x=some .free)→∃c,X.env.cells.lookup x=some c
 cab:∀x c,X.fn x=true→X.env.cells.lookup x=some c→X.s₀.heap.objs.size≤c
 hd:X.calm=true→X.A.handled=none
 frames:X.A.frames=some X.stack
 stk:X.stack=X.outer∨(X.stack=X.env :: X.outer∧X.env.frame=some X.env.locals)
 bJ:∀b∈X.ex,b≠X.env.locals∧∀x c,X.env.cells.lookup x=some c→c≠b
 bs:∀b o,X.base.get? b=some o→X.s₀.heap.get? b=some o∧X.H₀ b=none
 yd:X.base.objs.size≤X.s₀.heap.objs.size
 Gu:∀b o,X.base.get? b=some o→b∉X.ex
 DQ:∀b∈X.ex,b∉X.fs
 QG:X.s₀.heap.FunFrames X.base X.outer
 tD:∀b∈X.fs,X.H₀ b=none
structure Inv (X:Cx) (pins:List (Addr×Obj)) (σ:List (Option V)) (H:Hp) (s:Shared):Prop where
 ok:X.Ok
 os:s.os=X.s₀.os
 bare:AllBare s.gens
 base:Un X.fs X.ex X.H₀ H X.s₀.heap s.heap
 loc:∃m,s.heap.Ns X.env.locals m∧∀(i:Nat) (x:Str) (v:V),X.N[i]? =some x→σ[i]? =some (some v)→Vis X.env.scope x→∃u,RelV v u∧Look X.env s.heap m x u
 cell:∀x c,X.env.cells.lookup x=some c→∃v,s.heap.IsCell c v
 free:H X.env.locals=none
 Uq:∀x c,X.env.cells.lookup x=some c→H c=none
 pin:∀p∈X.pn++pins,s.heap.get? p.1=some p.2∧H p.1=none∧p.1≠X.env.locals∧p.1∉X.fs∧∀v,p.2.data≠ .cell v
 hok:Qz X.prog X.w H s.heap
 len:σ.length=X.N.length
section
variable {X:Cx} {pins:List (Addr×Obj)} {σ:List (Option V)} {H H':Hp} {s:Shared} {h':Heap}
theorem Cx.Ok.adM (ok:X.Ok) {b:Addr} {o:Obj} (e:X.base.get? b=some o):b∉X.fs:=λhb=>by
 have:=(ok.QG.mem hb).1
 rw[e]at this;cases this
theorem Inv.bs (I:Inv X pins σ H s):∀b o,X.base.get? b=some o→s.heap.get? b=some o∧H b=none:=λb o e =>
 ⟨I.base.keep b o (I.ok.bs b o e).1 (I.ok.bs b o e).2 (I.ok.adM e) (I.ok.Gu b o e),I.base.free b o (I.ok.bs b o e).1 (I.ok.bs b o e).2 (I.ok.Gu b o e)⟩
theorem Inv.bk (I:Inv X pins σ H s):∀b o,X.base.get? b=some o→s.heap.get? b=some o:=λb o e=>(I.bs b o e).1
theorem Inv.mod (I:Inv X pins σ H s):Mod X.K X.mg X.base:=I.ok.mod
theorem Inv.Qx (I:Inv X pins σ H s):X.K.In s.heap:=I.ok.mod.dM.keeps I.bk
theorem Inv.lt (I:Inv X pins σ H s):X.env.locals<s.heap.objs.size:=let ⟨_,hn,_⟩:=I.loc;hn.lt
theorem Inv.sz (I:Inv X pins σ H s):X.s₀.heap.objs.size≤s.heap.objs.size:=Nat.le_trans I.ok.above (Nat.le_of_lt I.lt)
theorem Inv.adN (I:Inv X pins σ H s) {a:Addr} (h:s.heap.objs.size≤a):a∉X.fs:=λhb=>by
 obtain⟨_,o,ho,_⟩:=I.ok.QG.mem hb
 exact absurd (Nat.lt_of_lt_of_le (Heap.lt_size ho) (Nat.le_trans I.sz h)) (Nat.lt_irrefl _)
theorem Inv.dJ (I:Inv X pins σ H s):∀x c,X.env.cells.lookup x=some c→c≠X.env.locals:=λx c e z=>by
 obtain⟨v,o,ho,hd⟩:=I.cell x c e
 obtain⟨m,⟨o',es,ep,ho',hd',_⟩,_⟩:=I.loc
 rw[z,ho']at ho;cases ho;rw[hd']at hd;cases hd
theorem Inv.QG (I:Inv X pins σ H s):s.heap.FunFrames X.base X.outer:=by
 have all:∀(l:List Env),(∀b∈frs l,b∈X.fs)→X.s₀.heap.FunFrames X.base l→s.heap.FunFrames X.base l:=by
  intro l
  induction l with
  |nil=>intro _ _;trivial
  |cons env r ih =>
   intro hs hl
   obtain⟨hk,⟨L,o,hf,hn,ho,hd⟩,hr⟩:=hl
   have hL:L∈X.fs:=hs L (by unfold frs;rw[List.filterMap_cons,hf];exact List.mem_cons_self)
   obtain⟨sl,e⟩:=I.base.slot L o ho (I.ok.tD L hL) hL λz=>I.ok.DQ L z hL
   exact⟨hk,⟨L,_,hf,hn,e,hd⟩,ih (λb hb=>hs b (by unfold frs;rw[List.filterMap_cons,hf];exact List.mem_cons_of_mem _ hb)) hr⟩
 exact all X.outer (λ_ hb=>hb) I.ok.QG
theorem Inv.stack (I:Inv X pins σ H s):s.heap.FunFrames X.base X.stack:=by
 rcases I.ok.stk with e | ⟨e,hf⟩
 ·rw[e];exact I.QG
 ·rw[e]
  obtain⟨m,hn,_⟩:=I.loc
  refine .cons (by rw[I.ok.kind];decide) hf hn ?_ I.QG
  exact Heap.get?_none_of_le (Nat.le_trans I.ok.yd I.ok.above)
theorem Inv.Lb (I:Inv X pins σ H s):∀b∈frs X.stack,b∈X.env.locals :: X.fs:=λb hb=>by
 rcases I.ok.stk with e | ⟨e,hf⟩
 ·rw[e]at hb;exact List.mem_cons_of_mem _ hb
 ·rw[e]at hb
  unfold frs at hb
  rw[List.filterMap_cons,hf]at hb
  exact hb
theorem Inv.DP (I:Inv X pins σ H s):∀b∈frs X.stack,H b=none:=λb hb=>by
 rcases List.mem_cons.mp (I.Lb b hb)with e |hb
 ·rw[e];exact I.free
 ·obtain⟨_,o,ho,_⟩:=I.ok.QG.mem hb
  exact I.base.free b o ho (I.ok.tD b hb) λz=>I.ok.DQ b z hb
theorem Inv.step {g':Array GenState} {t':Nat} {d':Drawn} {ch:List Addr} (I:Inv X pins σ H s)
 (hch:∀b∈ch,(b∈X.ex∨X.s₀.heap.objs.size≤b)∧b≠X.env.locals∧(∀x c,X.env.cells.lookup x=some c→c≠b)∧∀p∈X.pn++pins,p.1≠b)
 (keep:∀b o,b≠X.env.locals→b∉X.fs→b∉ch→s.heap.get? b=some o→H b=none→h'.get? b=some o)
 (slot:∀b o,b≠X.env.locals→b∈X.fs→b∉ch→s.heap.get? b=some o→H b=none→∃sl,h'.get? b=some {o with slots:=sl}) (free:∀b o,b∉ch→s.heap.get? b=some o→H b=none→H' b=none)
 (there:∀b o,b∉ch→s.heap.get? b=some o→∃o',h'.get? b=some o')
 (tups:∀b xs,H b=some (.tup xs)→H' b=some (.tup xs)) (R3:∀b o u,H b=some (.yg o u)→H' b=some (.yg o u)) (Rq:∀b ps,H b=some (.yj ps)→∃more,H' b=some (.yj (ps++more)))
 (ns:∀m,s.heap.Ns X.env.locals m→h'.Ns X.env.locals m) (hok:Qz X.prog X.w H' h') (hg:AllBare g'):
 Inv X pins σ H' {s with heap:=h',gens:=g',drawn:=d',toks:=t'}:=by
 have neL:∀b o,X.s₀.heap.get? b=some o→b≠X.env.locals:=λb o e=>Nat.ne_of_lt (Nat.lt_of_lt_of_le (Heap.lt_size e) I.ok.above)
 have neC:∀b o,X.s₀.heap.get? b=some o→b∉X.ex→b∉ch:=λb o e hx hb=>by
  rcases(hch b hb).1 with z |z
  ·exact hx z
  ·exact absurd (Nat.lt_of_lt_of_le (Heap.lt_size e) z) (Nat.lt_irrefl _)
 have cellK:∀x c,X.env.cells.lookup x=some c→∀v,s.heap.IsCell c v→h'.IsCell c v:=λx c e v ⟨o,ho,hd⟩=>by
  have p8:c∉ch:=λz=>(hch c z).2.2.1 x c e rfl
  by_cases hc:c∈X.fs
  ·obtain⟨sl,q⟩:=slot c o (I.dJ x c e) hc p8 ho (I.Uq x c e)
   exact⟨_,q,hd⟩
  ·exact⟨o,keep c o (I.dJ x c e) hc p8 ho (I.Uq x c e),hd⟩
 refine⟨I.ok,I.os,hg,⟨λb o e n hb hx=>?_,λb o e n hb hx=>?_,λb o e n hx=>?_,λb o e hx=>?_,λb xs e=>tups b xs (I.base.tups b xs e),λb o xs e=>R3 b o xs (I.base.R3 b o xs e),λb ps e=>?_⟩,?_,λx c e=>?_,?_,λx c e=>?_,λp hp=>?_,hok,I.len⟩
 ·exact keep b o (neL b o e) hb (neC b o e hx) (I.base.keep b o e n hb hx) (I.base.free b o e n hx)
 ·obtain⟨sl,e1⟩:=I.base.slot b o e n hb hx
  obtain⟨sl',e2⟩:=slot b _ (neL b o e) hb (neC b o e hx) e1 (I.base.free b o e n hx)
  exact⟨sl',e2⟩
 ·obtain⟨o',e1⟩:=I.base.there b o e hx
  exact free b o' (neC b o e hx) e1 (I.base.free b o e n hx)
 ·obtain⟨o',e1⟩:=I.base.there b o e hx
  exact there b o' (neC b o e hx) e1
 ·obtain⟨m1,e1⟩:=I.base.Rq b ps e
  obtain⟨m2,e2⟩:=Rq b _ e1
  exact⟨m1++m2,by rw[e2,Array.append_assoc]⟩
 ·obtain⟨m,hn,hl⟩:=I.loc
  refine⟨m,ns m hn,λi x v e1 e2 e3=>?_⟩
  obtain⟨u,r,l⟩:=hl i x v e1 e2 e3
  refine⟨u,r,?_⟩
  rcases l with l | ⟨k,c,e,z⟩
  ·exact .inl l
  ·exact .inr ⟨k,c,e,cellK x c e _ z⟩
 ·obtain⟨v,z⟩:=I.cell x c e
  exact⟨v,cellK x c e v z⟩
 ·obtain⟨m,⟨o,_,_,ho,_⟩,_⟩:=I.loc
  exact free _ o (λz=>(hch _ z).2.1 rfl) ho I.free
 ·obtain⟨v,o,ho,hd⟩:=I.cell x c e
  exact free c o (λz=>(hch c z).2.2.1 x c e rfl) ho (I.Uq x c e)
 ·obtain⟨e,n,ne,nf,d⟩:=I.pin p hp
  have p8:p.1∉ch:=λz=>(hch p.1 z).2.2.2 p hp rfl
  exact⟨keep p.1 p.2 ne nf p8 e n,free p.1 p.2 p8 e n,ne,nf,d⟩
theorem Inv.un {t':Nat} (I:Inv X pins σ H s) (u:Un X.fs [] H H' s.heap h') (hok:Qz X.prog X.w H' h'):Inv X pins σ H' {s with heap:=h',toks:=t'}:=by
 obtain⟨m,⟨o,es,ep,ho,r⟩,_⟩:=id I.loc
 obtain⟨sl,hL⟩:=u.any ho I.free (by simp)
 exact I.step (g':=s.gens) (d':=s.drawn) (ch:=[]) (λ_ z=>nomatch z) (λb o _ hb _ e n=>u.keep b o e n hb (by simp)) (λb o _ hb _ e n=>u.slot b o e n hb (by simp)) (λb o _ e n=>u.free b o e n (by simp)) (λb o _ e=>u.there b o e (by simp)) u.tups u.R3 u.Rq (λm' hm=>by
  obtain⟨o',es',ep',ho',r'⟩:=hm
  rw[ho]at ho';cases ho'
  exact⟨_,es',ep',hL,r'⟩) hok I.bare
theorem Inv.call {g':Array GenState} {t':Nat} {d':Drawn} {ch:List Addr} (I:Inv X pins σ H s) (u:Un (frs X.stack) ch H H' s.heap h') (hok:Qz X.prog X.w H' h') (hg:AllBare g')
 (hch:∀b∈ch,(b∈X.ex∨X.s₀.heap.objs.size≤b)∧b≠X.env.locals∧(∀x c,X.env.cells.lookup x=some c→c≠b)∧∀p∈X.pn++pins,p.1≠b):
 Inv X pins σ H' {s with heap:=h',gens:=g',drawn:=d',toks:=t'}:=by
 obtain⟨m,⟨o,es,ep,ho,r⟩,_⟩:=id I.loc
 obtain⟨sl,hL⟩:=u.any ho I.free λz=>(hch _ z).2.1 rfl
 exact I.step (ch:=ch) hch (λb o hL hb hc e n=>u.keep b o e n (λz=>(List.mem_cons.mp (I.Lb b z)).elim hL hb) hc) (λb o _ _ hc e n=>u.any e n hc) (λb o hc e n=>u.free b o e n hc) (λb o hc e=>u.there b o e hc) u.tups u.R3 u.Rq (λm' hm=>by
  obtain⟨o',es',ep',ho',r'⟩:=hm
  rw[ho]at ho';cases ho'
  exact⟨_,es',ep',hL,r'⟩) hok hg
theorem Inv.turned {t':Nat} {it:Addr} (I:Inv X pins σ H s) (k:∀b o,b≠it→s.heap.get? b=some o→h'.get? b=some o) (hn:H it=none) (hL:it≠X.env.locals)
 (h1:it∈X.ex∨X.s₀.heap.objs.size≤it) (h2:∀x c,X.env.cells.lookup x=some c→c≠it) (h3:∀p∈X.pn++pins,p.1≠it):Inv X pins σ H {s with heap:=h',toks:=t'}:=by
 have nit:∀b u,H b=some u→b≠it:=λb u e z=>by rw[z,hn]at e;cases e
 refine I.step (g':=s.gens) (d':=s.drawn) (ch:=[it]) (λb hb=>?_) (λb o _ _ hc e _=>k b o (λz=>hc (by simp[z])) e) (λb o _ _ hc e _=>⟨o.slots,k b o (λz=>hc (by simp[z])) e⟩) (λ_ _ _ _ n=>n)
  (λb o hc e=>⟨o,k b o (λz=>hc (by simp[z])) e⟩) (λ_ _ e=>e) (λ_ _ _ e=>e) (λb ps e=>⟨#[],by rw[e];simp⟩) (λm hm=>?_) (λb u e=>?_) I.bare
 ·have e:b=it:=by simpa using hb
  subst e
  exact⟨h1,hL,h2,h3⟩
 ·obtain⟨o,es,ep,ho,r⟩:=hm
  exact⟨o,es,ep,k _ o (Ne.symm hL) ho,r⟩
 ·refine(I.hok b u e).stay (λc v hc q=>k c v ?_ q) (λ_ q=>q) λ_ _ q=>q
  rcases hc with z |z
  ·rw[z];exact nit b u e
  ·exact nit c _ z
theorem Inv.tok (I:Inv X pins σ H s) (t:Nat):Inv X pins σ H {s with toks:=t}:=I.un (h':=s.heap) (t':=t) Un.refl I.hok
theorem Inv.kept {t':Nat} (I:Inv X pins σ H s) (k:∀b u,s.heap.get? b=some u→h'.get? b=some u):Inv X pins σ H {s with heap:=h',toks:=t'}:=I.un (Un.kept k) (I.hok.kept k)
theorem Inv.laid {a:Addr} {o:HO} {t':Nat} (I:Inv X pins σ H s) (k:∀b u,s.heap.get? b=some u→h'.get? b=some u) (hp:s.heap.objs.size≤a) (new:Xe X.prog X.w (upd H a o) h' a o):
 Inv X pins σ (upd H a o) {s with heap:=h',toks:=t'}:=I.un (Un.laid k hp (I.hok.fresh hp)) (I.hok.laid k hp new)
theorem Inv.write {x e:Addr} {o:HO} {t':Nat} (I:Inv X pins σ H s) (mu:Mut (H x)) (he:e=x∨H e=some (.own x)) (k:∀b u,b≠e→s.heap.get? b=some u→h'.get? b=some u) (heo:∃u,h'.get? e=some u)
 (new:Xe X.prog X.w (upd H x o) h' x o):Inv X pins σ (upd H x o) {s with heap:=h',toks:=t'}:=I.un (Un.write mu he k heo) (I.hok.write mu he k heo new)
theorem Inv.vo {vm:List (Addr×Obj)} (I:Inv X pins σ H s) (h:∀p∈vm,s.heap.get? p.1=some p.2∧H p.1=none∧p.1≠X.env.locals∧p.1∉X.fs∧∀v,p.2.data≠ .cell v):Inv X vm σ H s:=
 ⟨I.ok,I.os,I.bare,I.base,I.loc,I.cell,I.free,I.Uq,λp hp=>(List.mem_append.mp hp).elim (λz=>I.pin p (List.mem_append_left _ z)) (h p),I.hok,I.len⟩
theorem Bv {N:List Str} (hN:N.Nodup) {i j:Nat} {x:Str} (a:N[i]? =some x) (b:N[j]? =some x):i=j:=by
 obtain⟨h1,e1⟩:=List.getElem?_eq_some_iff.mp a
 obtain⟨h2,e2⟩:=List.getElem?_eq_some_iff.mp b
 exact(List.getElem_inj hN).mp (e1.trans e2.symm)
theorem tu {M:Model} {A:Around} {E:Value→Shared→Prop} {i:Nat} {x:Str} {v:V} {u:Value} {Q:Unit→Shared→Prop} (I:Inv X pins σ H s) (hN:X.N.Nodup) (hi:X.N[i]? =some x) (hx:Loc X.env.scope x) (r:RelV v u)
 (h:∀s',Inv X pins (σ.set i (some v)) H s'→(∃a,Heap.SameBut a s.heap s'.heap∧(a=X.env.locals∨X.env.cells.lookup x=some a))→Q () s') (hf:X.fn x=true∨X.env.scope.names.lookup x=some .local:=by first |exact .inl rfl |exact .inr rfl |assumption):wpAny M A (storeName X.env x u) Q E s:=by
 obtain⟨m,hn,hl⟩:=id I.loc
 have hcls:(X.env.scope.kind== .class || (X.env.scope.kind== .module && X.env.locals != X.env.globals))=false:=by rw[I.ok.kind];rfl
 have hiσ:i<σ.length:=by rw[I.len];exact(List.getElem?_eq_some_iff.mp hi).1
 have dJ:=I.dJ
 have tracked:∀{a:Addr} {h':Heap},(∃o,s.heap.get? a=some o∧H a=none)→Heap.SameBut a s.heap h'→Qz X.prog X.w H h':=λ{a h'} ha hs b ob e=>by
  obtain⟨_,_,hfree⟩:=ha
  refine(I.hok b ob e).stay (λc w' hc q=>(hs.2 c ?_).trans q) (λ_ q=>q) λ_ _ q=>q
  rintro rfl
  rcases hc with rfl |hc
  ·rw[hfree]at e;cases e
  ·rw[hfree]at hc;cases hc
 rcases hx with hk |hk
 ·refine wpAny_storeName_local hk hn (λh' hn' hs=>?_) hcls
  obtain⟨oL,_,_,hoL,_⟩:=id hn
  refine h _ ⟨I.ok,I.os,I.bare,⟨λb o e n hb hx=>?_,λb o e n hb hx=>?_,I.base.free,λb o e hx=>?_,I.base.tups,I.base.R3,I.base.Rq⟩,⟨_,hn',λj y v' e1 e2 e3=>?_⟩,λy c e=>?_,I.free,I.Uq,λp hp=>?_,tracked ⟨oL,hoL,I.free⟩ hs,by simpa using I.len⟩ ⟨_,hs,.inl rfl⟩
  ·exact(hs.2 b (Nat.ne_of_lt (Nat.lt_of_lt_of_le (Heap.lt_size e) I.ok.above))).trans (I.base.keep b o e n hb hx)
  ·obtain⟨sl,e1⟩:=I.base.slot b o e n hb hx
   exact⟨sl,(hs.2 b (Nat.ne_of_lt (Nat.lt_of_lt_of_le (Heap.lt_size e) I.ok.above))).trans e1⟩
  ·obtain⟨o',e1⟩:=I.base.there b o e hx
   exact⟨o',(hs.2 b (Nat.ne_of_lt (Nat.lt_of_lt_of_le (Heap.lt_size e) I.ok.above))).trans e1⟩
  ·by_cases hj:j=i
   ·subst hj
    rw[hi]at e1;cases e1
    rw[List.getElem?_set_self hiσ]at e2
    cases e2
    exact⟨u,r,.inl ⟨hk,by simp⟩⟩
   ·rw[List.getElem?_set_ne (Ne.symm hj)]at e2
    obtain⟨u',r',q⟩:=hl j y v' e1 e2 e3
    refine⟨u',r',?_⟩
    rcases q with⟨k,e⟩ | ⟨k,c,e,z⟩
    ·refine .inl ⟨k,?_⟩
     have:y≠x:=λe=>hj (Bv hN e1 (e▸hi))
     simp[this,e]
    ·exact .inr ⟨k,c,e,z.sameBut hs (dJ y c e)⟩
  ·obtain⟨w',z⟩:=I.cell y c e
   exact⟨w',z.sameBut hs (dJ y c e)⟩
  ·obtain⟨e,n,ne,nf,d⟩:=I.pin p hp
   exact⟨(hs.2 p.1 ne).trans e,n,ne,nf,d⟩
 ·have hfn:X.fn x=true:=by
   rcases hf with z |z
   ·exact z
   ·rw[z]at hk;cases hk
  obtain⟨c,hc⟩:=I.ok.has x (.inl hk)
  obtain⟨w',z⟩:=I.cell x c hc
  refine wpAny_storeName_cell I.ok.kind hk hc z (λh' hc' hs=>?_)
  obtain⟨oc,hoc,adO⟩:=id z
  refine h {s with heap:=h'} ⟨I.ok,I.os,I.bare,⟨λb o e n hb hx=>?_,λb o e n hb hx=>?_,I.base.free,λb o e hx=>?_,I.base.tups,I.base.R3,I.base.Rq⟩,⟨m,hn.sameBut hs (Ne.symm (dJ x c hc)),λj y v' e1 e2 e3=>?_⟩,λy c' e=>?_,I.free,I.Uq,λp hp=>?_,tracked ⟨oc,hoc,I.Uq x c hc⟩ hs,by simpa using I.len⟩ ⟨c,hs,.inr hc⟩
  ·exact(hs.2 b (Nat.ne_of_lt (Nat.lt_of_lt_of_le (Heap.lt_size e) (I.ok.cab x c hfn hc)))).trans (I.base.keep b o e n hb hx)
  ·obtain⟨sl,e1⟩:=I.base.slot b o e n hb hx
   exact⟨sl,(hs.2 b (Nat.ne_of_lt (Nat.lt_of_lt_of_le (Heap.lt_size e) (I.ok.cab x c hfn hc)))).trans e1⟩
  ·obtain⟨o',e1⟩:=I.base.there b o e hx
   exact⟨o',(hs.2 b (Nat.ne_of_lt (Nat.lt_of_lt_of_le (Heap.lt_size e) (I.ok.cab x c hfn hc)))).trans e1⟩
  ·by_cases hj:j=i
   ·subst hj
    rw[hi]at e1;cases e1
    rw[List.getElem?_set_self hiσ]at e2
    cases e2
    exact⟨u,r,.inr ⟨.inl hk,c,hc,hc'⟩⟩
   ·rw[List.getElem?_set_ne (Ne.symm hj)]at e2
    obtain⟨u',r',q⟩:=hl j y v' e1 e2 e3
    refine⟨u',r',?_⟩
    rcases q with q | ⟨k,c',e,z'⟩
    ·exact .inl q
    ·refine .inr ⟨k,c',e,z'.sameBut hs ?_⟩
     rintro rfl
     exact hj (Bv hN e1 (I.ok.inj _ _ _ e hc▸hi))
  ·by_cases hcc:c'=c
   ·subst hcc;exact⟨_,hc'⟩
   ·obtain⟨w2,z2⟩:=I.cell y c' e
    exact⟨w2,z2.sameBut hs hcc⟩
  ·obtain⟨e,n,ne,nf,d⟩:=I.pin p hp
   refine⟨(hs.2 p.1 ?_).trans e,n,ne,nf,d⟩
   intro q
   rw[q,hoc]at e
   have q':oc=p.2:=Option.some.inj e
   exact d w' (by rw[←q'];exact adO)
theorem Jk {M:Model} {A:Around} {E:Value→Shared→Prop} {i:Nat} {x:Str} {v:V} {u:Value} {Q:Unit→Shared→Prop} (I:Inv X pins σ H s) (hN:X.N.Nodup) (hi:X.N[i]? =some x) (hx:Loc X.env.scope x) (r:RelV v u)
 (h:∀s',Inv X pins (σ.set i (some v)) H s'→Q () s') (hf:X.fn x=true∨X.env.scope.names.lookup x=some .local:=by first |exact .inl rfl |exact .inr rfl |assumption):wpAny M A (storeName X.env x u) Q E s:=
 tu I hN hi hx r (λs' I' _=>h s' I') hf
theorem Inv.call' {s':Shared} {ch:List Addr} (I:Inv X pins σ H s) (ho:s'.os=s.os) (u:Un (frs X.stack) ch H H' s.heap s'.heap) (hok:Qz X.prog X.w H' s'.heap) (hg:AllBare s'.gens)
 (hch:∀b∈ch,(b∈X.ex∨X.s₀.heap.objs.size≤b)∧b≠X.env.locals∧(∀x c,X.env.cells.lookup x=some c→c≠b)∧∀p∈X.pn++pins,p.1≠b):Inv X pins σ H' s':=by
 obtain⟨h',g',d',t',o'⟩:=s'
 have e:o'=s.os:=ho
 subst e
 exact I.call (g':=g') (t':=t') (d':=d') u hok hg hch
end
abbrev XK:=Value→Option Addr→Hp→Prop
abbrev St:=List (Option V)
abbrev VK:=V→Hp→Prop
abbrev TE:=St→Hp→VK→Prop
abbrev TT:=St→Hp→(Bool→Hp→Prop)→Prop
abbrev TA:=St→Hp→(List V→Hp→Prop)→Prop
structure Ends where
 nx:St→Hp→Prop
 rt:VK
 bk:St→Hp→Prop:=λ_ _=>False
 ct:St→Hp→Prop:=λ_ _=>False
abbrev TS:=Ends→St→Hp→Prop
def EP (X:Cx) (pins:List (Addr×Obj)) (σ:St) (Q:VK) (u:Value) (s':Shared):Prop:=∃v H',Inv X pins σ H' s'∧RelV v u∧Q v H'
def TP (X:Cx) (pins:List (Addr×Obj)) (σ:St) (Q:Bool→Hp→Prop) (b:Bool) (s':Shared):Prop:=∃H',Inv X pins σ H' s'∧Q b H'
def AP (X:Cx) (pins:List (Addr×Obj)) (σ:St) (Q:List V→Hp→Prop) (us:List Value) (s':Shared):Prop:=∃vs H',Inv X pins σ H' s'∧Vals vs us∧Q vs H'
def SP (X:Cx) (pins:List (Addr×Obj)) (D:Ends) (f:Flow) (s':Shared):Prop:=
 match f with
 | .next=>∃σ' H',Inv X pins σ' H' s'∧D.nx σ' H'
 | .brk=>∃σ' H',Inv X pins σ' H' s'∧D.bk σ' H'
 | .cont=>∃σ' H',Inv X pins σ' H' s'∧D.ct σ' H'
 | .ret u=>∃v σ' H',Inv X pins σ' H' s'∧RelV v u∧D.rt v H'
def PE (X:Cx) (e:Expr) (t:TE):Prop:=
 ∀(pins:List (Addr×Obj)) (s:Shared) (σ:St) (H:Hp) (Q:VK),Inv X pins σ H s→t σ H Q→wpAny (model X.prog X.w) X.A (eval e X.env) (EP X pins σ Q) X.xe s
def PT (X:Cx) (e:Expr) (t:TT):Prop:=
 ∀(pins:List (Addr×Obj)) (s:Shared) (σ:St) (H:Hp) (Q:Bool→Hp→Prop),Inv X pins σ H s→t σ H Q→wpAny (model X.prog X.w) X.A (isTrue e X.env (eval e X.env)) (TP X pins σ Q) X.xe s
def PW (X:Cx) (e:Expr) (t:TT):Prop:=
 ∀(whole:Sem Value) (pins:List (Addr×Obj)) (s:Shared) (σ:St) (H:Hp) (Q:Bool→Hp→Prop),Inv X pins σ H s→t σ H Q→wpAny (model X.prog X.w) X.A (isTrue e X.env whole) (TP X pins σ Q) X.xe s
theorem PW.pt {X:Cx} {e:Expr} {t:TT} (h:PW X e t):PT X e t:=h _
def PA (X:Cx) (es:List Expr) (t:TA):Prop:=
 ∀(pos:Pos) (pins:List (Addr×Obj)) (s:Shared) (σ:St) (H:Hp) (Q:List V→Hp→Prop),Inv X pins σ H s→t σ H Q→wpAny (model X.prog X.w) X.A (spliced (backTo pos (starEach es X.env))) (AP X pins σ Q) X.xe s
def PS (X:Cx) (st:Stmt) (t:TS):Prop:=
 ∀(pins:List (Addr×Obj)) (s:Shared) (σ:St) (H:Hp) (D:Ends),Inv X pins σ H s→t D σ H→wpAny (model X.prog X.w) X.A (exec st X.env) (SP X pins D) X.xe s
def QF (X:Cx) (st:List Stmt) (t:TS):Prop:=
 ∀(pins:List (Addr×Obj)) (s:Shared) (σ:St) (H:Hp) (D:Ends),Inv X pins σ H s→t D σ H→wpAny (model X.prog X.w) X.A (execs st X.env) (SP X pins D) X.xe s
theorem Yy {α:Type} {t:Sem α} {Q Q':α→Shared→Prop} {M:Model} {A:Around} {E:Value→Shared→Prop} {s:Shared} (h:wpAny M A t Q E s) (hQ:∀a s,Q a s→Q' a s):wpAny M A t Q' E s:=wpAny_mono h hQ λ_ _ x=>x
end L2
namespace L2
open PySem PySem.Spec PyProof.Rows
section
variable {X:Cx}
def aa4 (i:Nat):TE:=λσ H Q=>∃v,σ[i]? =some (some v)∧Q v H
def tC (v:V):TE:=λ_ H Q=>Q v H
theorem bI {i:Nat} {x:Str} {pos:Pos} (hN:X.N[i]? =some x) (hv:Vis X.env.scope x) (hd:(x==("__debug__":Str))=false:=by decide) (hcd:(x==("__classdict__":Str))=false:=by decide):PE X (.Name x pos) (aa4 i):=by
 intro pins s σ H Q I h
 obtain⟨v,e,h⟩:=h
 obtain⟨m,hn,hl⟩:=I.loc
 obtain⟨u,r,l⟩:=hl i x v hN e hv
 have fin:EP X pins σ Q u s:=⟨v,H,I,r,h⟩
 rcases l with⟨hk,hm⟩ | ⟨hk,c,hc,hcell⟩
 ·exact wpAny_Name (wpAny_loadName_local I.ok.kind hk hn hm fin) hd
 ·rcases hk with hk |hk
  ·exact wpAny_Name (wpAny_loadName_cell I.ok.kind hk hc hcell fin) hd
  ·exact wpAny_Name (wpAny_loadName_free I.ok.kind hk hc hcell fin hcd) hd
theorem Z5 {i j pos}:PE X (.Constant (.int i) j pos) (tC (.int i)):=λ_ _ _ H _ I h=>wpAny_Constant_int ⟨.int i,H,I.tok _,⟨_,rfl⟩,h⟩
theorem U3 {b j pos}:PE X (.Constant (.bool b) j pos) (tC (.bl b)):=λ_ _ _ H _ I h=>Constant_bool ⟨.bl b,H,I,rfl,h⟩
theorem p7 {j pos}:PE X (.Constant .none j pos) (tC .non):=λ_ _ _ H _ I h=>Constant_none ⟨.non,H,I,rfl,h⟩
theorem ZK {x j pos}:PE X (.Constant (.str x) j pos) (tC (.str x)):=λ_ _ _ H _ I h=>Calls.Constant_str ⟨.str x,H,I.tok _,⟨_,rfl⟩,h⟩
def Gl (X:Cx) (x:Str):Prop:=X.env.kindOf x=some .globalImplicit
theorem Tc {E:Value→Shared→Prop} {pins:List (Addr×Obj)} {s:Shared} {σ:St} {H:Hp} {x:Str} {u:Value} {pos:Pos} {Q:Value→Shared→Prop} (I:Inv X pins σ H s) (hg:Gl X x) (hm:X.mg x=some u) (h:Q u s)
 (hd:(x==("__debug__":Str))=false:=by decide):wpAny (model X.prog X.w) X.A (eval (.Name x pos) X.env) Q E s:=
 Calls.Name_function_global I.ok.kind hg (Calls.loadGlobal_global (by rw[I.ok.glob];exact I.mod.glob.keeps I.bk) hm h) hd
theorem T3 {E:Value→Shared→Prop} {pins:List (Addr×Obj)} {s:Shared} {σ:St} {H:Hp} {x:Str} {u:Value} {pos:Pos} {Q:Value→Shared→Prop} (I:Inv X pins σ H s) (hg:Gl X x) (hm:X.mg x=none) (hv:bootBuiltins x=some u) (h:Q u s)
 (hn:x≠"__name__":=by decide) (hd:(x==("__debug__":Str))=false:=by decide):wpAny (model X.prog X.w) X.A (eval (.Name x pos) X.env) Q E s:=by
 obtain⟨mb,h1,h2⟩:=I.mod.blt
 exact Calls.Name_function_global I.ok.kind hg (Calls.loadGlobal_builtin (by rw[I.ok.glob];exact I.mod.glob.keeps I.bk) hm (by rw[I.ok.blt];exact h1.keeps I.bk) ((h2 x hn).trans hv) h) hd
theorem Yx {x:Str} {v:V} {u:Value} {pos:Pos} (hg:Gl X x) (hm:X.mg x=some u) (r:RelV v u) (hd:(x==("__debug__":Str))=false:=by decide):PE X (.Name x pos) (tC v):=
 λ_ _ _ H _ I h=>Tc I hg hm ⟨v,H,I,r,h⟩ hd
theorem DN {x:Str} {v:V} {u:Value} {pos:Pos} (hg:Gl X x) (hm:X.mg x=none) (hv:bootBuiltins x=some u) (r:RelV v u) (hn:x≠"__name__":=by decide) (hd:(x==("__debug__":Str))=false:=by decide):PE X (.Name x pos) (tC v):=
 λ_ _ _ H _ I h=>T3 I hg hm hv ⟨v,H,I,r,h⟩ hn hd
def t2I (ta tb:TE) (k:Int→Int→Hp→Prop):St→Hp→Prop:=λσ H=>ta σ H λx H1=>tb σ H1 λy H2=>∃i j,x= .int i∧y= .int j∧k i j H2
def amD (ta tb:TE):TE:=λσ H Q=>t2I ta tb (λi j H2=>Q (.int (i+j)) H2) σ H
def amE (ta tb:TE):TE:=λσ H Q=>t2I ta tb (λi j H2=>Q (.int (i-j)) H2) σ H
def amF (ta tb:TE):TE:=λσ H Q=>t2I ta tb (λi j H2=>(-(2 ^ 64)<i∧i<2 ^ 64)∧Q (.int (i*j)) H2) σ H
variable {a b:Expr} {ta tb:TE} {pos:Pos}
def PC (X:Cx) (op:CmpOp) (a b:Expr) (t:TE):Prop:=
 ∀(pins:List (Addr×Obj)) (s:Shared) (σ:St) (H:Hp) (Q:VK),Inv X pins σ H s→t σ H Q →
  wpAny (model X.prog X.w) X.A (eval a X.env) (λv s₁=>wpAny (model X.prog X.w) X.A (eval b X.env) (λu s₂=>wpAny (model X.prog X.w) X.A (compareOp op v u) (EP X pins σ Q) X.xe s₂) X.xe s₁) X.xe s
def sZ (p:Int→Int→Bool) (ta tb:TE):TE:=λσ H Q=>t2I ta tb (λi j H2=>Q (.bl (p i j)) H2) σ H
abbrev tLt:TE→TE→TE:=sZ λi j=>decide (i<j)
abbrev tLe:TE→TE→TE:=sZ λi j=>decide (i≤j)
abbrev tGt:TE→TE→TE:=sZ λi j=>decide (j<i)
abbrev tGe:TE→TE→TE:=sZ λi j=>decide (j≤i)
abbrev amG:TE→TE→TE:=sZ λi j=>decide (i=j)
abbrev amH:TE→TE→TE:=sZ λi j=> !decide (i=j)
def amI (ta:TE):TE:=λσ H Q=>ta σ H λx H1=>Q (.bl (decide (x= .non))) H1
def amm (ta:TE):TE:=λσ H Q=>ta σ H λx H1=>Q (.bl (!decide (x= .non))) H1
def tB (t:TE):TT:=λσ H Q=>t σ H λx H1=>∃c,x= .bl c∧Q c H1
theorem YM {e:Expr} {t:TE} (h:PE X e t) (he:∀whole,isTrue e X.env whole=(do let v ←whole;standAt e.pos;holding [v] (truthy v)):=by intro _;rfl):PT X e (tB t):=by
 intro pins s σ H Q I hw
 refine isTrue_plain (Yy (h pins s σ H _ I hw) λv s1 ⟨x,H1,I1,r1,q1⟩=>?_) (he _)
 obtain⟨d,rfl,q⟩:=q1
 cases r1
 exact wpAny_truthy_bool ⟨H1,I1,q⟩
variable {tA tB':TT} {rest:List Expr}
def adP (t u:TT):TT:=λσ H Q=>t σ H λc H1=>if c=true then u σ H1 Q else Q false H1
def tOr (t u:TT):TT:=λσ H Q=>t σ H λc H1=>if c=true then Q true H1 else u σ H1 Q
def adQ (t:TT):TT:=λσ H Q=>t σ H λc H1=>Q (!c) H1
theorem O9 (ha:PT X a tA):PW X (.BoolOp .And [a] pos) tA:=by
 intro wh pins s σ H Q I h
 refine isTrue_and (Yy (ha pins s σ H Q I h) λc s1 e=>?_)
 cases c with
 |true=>exact isTrue_and_nil e
 |false=>exact e
theorem Rp (ha:PT X a tA):PW X (.BoolOp .Or [a] pos) tA:=by
 intro wh pins s σ H Q I h
 refine isTrue_or (Yy (ha pins s σ H Q I h) λc s1 e=>?_)
 cases c with
 |false=>exact isTrue_or_nil e
 |true=>exact e
theorem La (ha:PT X a tA) (hb:PW X (.BoolOp .And (b :: rest) pos) tB'):PW X (.BoolOp .And (a :: b :: rest) pos) (adP tA tB'):=by
 intro wh pins s σ H Q I h
 refine isTrue_and (Yy (ha pins s σ H _ I h) λc s1 ⟨H1,I1,q1⟩=>?_)
 cases c with
 |true=>exact hb wh pins s1 σ H1 Q I1 q1
 |false=>exact⟨H1,I1,q1⟩
theorem QX (ha:PT X a tA) (hb:PW X (.BoolOp .Or (b :: rest) pos) tB'):PW X (.BoolOp .Or (a :: b :: rest) pos) (tOr tA tB'):=by
 intro wh pins s σ H Q I h
 refine isTrue_or (Yy (ha pins s σ H _ I h) λc s1 ⟨H1,I1,q1⟩=>?_)
 cases c with
 |true=>exact⟨H1,I1,q1⟩
 |false=>exact hb wh pins s1 σ H1 Q I1 q1
theorem Yr (ha:PT X a tA):PT X (.UnaryOp .Not a pos) (adQ tA):=by
 intro pins s σ H Q I h
 exact isTrue_not (ha pins s σ H (λc H1=>Q (!c) H1) I h)
def aa5 (ta tb:TE):TE:=λσ H Q=>ta σ H λx H1=>∃c,x= .bl c∧if c=true then tb σ H1 Q else Q (.bl false) H1
def adR (ta tb:TE):TE:=λσ H Q=>ta σ H λx H1=>∃c,x= .bl c∧if c=true then Q (.bl true) H1 else tb σ H1 Q
def aa6 (ta:TE):TE:=λσ H Q=>ta σ H λx H1=>∃c,x= .bl c∧Q (.bl (!c)) H1
theorem Jj {op} {t:TE} (h:PE X a t):PE X (.BoolOp op [a] pos) t:=λpins s σ H Q I hw=>BoolOp_one (h pins s σ H Q I hw)
theorem DK (ha:PE X a ta) (hb:PE X (.BoolOp .And (b :: rest) pos) tb):PE X (.BoolOp .And (a :: b :: rest) pos) (aa5 ta tb):=by
 intro pins s σ H Q I h
 refine BoolOp_and (Yy (ha pins s σ H _ I h) λv s1 ⟨x,H1,I1,r1,q1⟩=>?_)
 obtain⟨c,rfl,q1⟩:=q1
 cases r1
 refine wpAny_truthy_bool ?_
 cases c with
 |true=>exact hb pins s1 σ H1 Q I1 q1
 |false=>exact⟨.bl false,H1,I1,rfl,q1⟩
theorem aa7 (ha:PE X a ta) (hb:PE X (.BoolOp .Or (b :: rest) pos) tb):PE X (.BoolOp .Or (a :: b :: rest) pos) (adR ta tb):=by
 intro pins s σ H Q I h
 refine BoolOp_or (Yy (ha pins s σ H _ I h) λv s1 ⟨x,H1,I1,r1,q1⟩=>?_)
 obtain⟨c,rfl,q1⟩:=q1
 cases r1
 refine wpAny_truthy_bool ?_
 cases c with
 |false=>exact hb pins s1 σ H1 Q I1 q1
 |true=>exact⟨.bl true,H1,I1,rfl,q1⟩
theorem pZ (ha:PE X a ta):PE X (.UnaryOp .Not a pos) (aa6 ta):=by
 intro pins s σ H Q I h
 refine UnaryOp_ (Yy (ha pins s σ H _ I h) λv s1 ⟨x,H1,I1,r1,q1⟩=>?_)
 obtain⟨c,rfl,q1⟩:=q1
 cases r1
 exact not_of (wpAny_truthy_bool ⟨.bl (!c),H1,I1,rfl,q1⟩)
def tIf (t:TT) (ta tb:TE):TE:=λσ H Q=>t σ H λc H1=>if c=true then ta σ H1 Q else tb σ H1 Q
theorem U0 {c:Expr} (hc:PT X c tA) (ha:PE X a ta) (hb:PE X b tb):PE X (.IfExp c a b pos) (tIf tA ta tb):=by
 intro pins s σ H Q I h
 refine wpAny_IfExp (Yy (hc pins s σ H _ I h) λd s1 ⟨H1,I1,q1⟩=>?_)
 cases d with
 |true=>exact ha pins s1 σ H1 Q I1 q1
 |false=>exact hb pins s1 σ H1 Q I1 q1
end
end L2
namespace L2
open PySem PySem.Spec PyProof.Rows
def ZJ (K:PySem.W.Frag) (H:Hp) (a:Addr) (xs:List V):Prop:=
 Rd H a (.lst xs) ∨
  ∃(o:Obj) (its:Array Value) (n:Nat),K.lookup a=some o∧o.cls= .type "list"∧o.dict=none∧o.data= .seq its n∧its.size≤sizeLine∧Vals xs its.toList
def TY (K:PySem.W.Frag) (H:Hp) (a:Addr) (xs:List V):Prop:=
 Rd H a (.tup xs) ∨
  ∃(o:Obj) (its:Array Value) (n:Nat),K.lookup a=some o∧o.cls= .type "tuple"∧o.data= .seq its n∧its.size≤sizeLine∧Vals xs its.toList
def adS:Value→Option V
 | .none=>some .non
 | .bool b=>some (.bl b)
 | .int i _=>some (.int i)
 | .str x _=>some (.str x)
 | .bytes b _=>some (.Bw b)
 | .float b _=>some (.flt b)
 | .ref a=>some (.ref a)
 | .type n=>some (.ty n)
 |_=>none
theorem RelV.abs {x:V} {u:Value} (r:RelV x u):adS u=some x:=by
 cases x with
 |non=>cases r;rfl
 |bl _=>cases r;rfl
 |int _=>obtain⟨t,rfl⟩:=r;rfl
 |str _=>obtain⟨t,rfl⟩:=r;rfl
 |Bw _=>obtain⟨t,rfl⟩:=r;rfl
 |flt _=>obtain⟨t,rfl⟩:=r;rfl
 |ref _=>cases r;rfl
 |ty _=>cases r;rfl
theorem RelV.inj {x y:V} {u:Value} (r:RelV x u) (q:RelV y u):x=y:=Option.some.inj (r.abs.symm.trans q.abs)
theorem Vals.inj:∀{xs ys:List V} {us:List Value},Vals xs us→Vals ys us→xs=ys
 |_,_,_,.nil,.nil=>rfl
 |_,_,_,.cons r t,.cons r' t'=>by rw[r.inj r',Vals.inj t t']
section
variable {X:Cx} {pins:List (Addr×Obj)} {σ:St} {H:Hp} {s:Shared} {a:Addr} {xs ys:List V}
theorem ZJ.of {K:PySem.W.Frag} (h:H a=some (.lst xs)):ZJ K H a xs:=.inl (.inl h)
theorem TY.of {K:PySem.W.Frag} (h:H a=some (.tup xs)):TY K H a xs:=.inl (.inl h)
theorem Inv.list (I:Inv X pins σ H s) (h:ZJ X.K H a xs):∃its:List Value,Vals xs its∧PlainL s.heap a its.toArray∧xs.length≤sizeLine:=by
 rcases h with h | ⟨o,its,n,hk,hc,hd,hs,hz,r⟩
 ·obtain⟨z,its,n,r,e⟩:=h.ok I.hok
  exact⟨its,r,⟨_,n,e,rfl,rfl,rfl⟩,z⟩
 ·refine⟨its.toList,r,⟨o,n,I.Qx a o hk,hc,hd,by simpa using hs⟩,?_⟩
  have e:=r.length
  simp only[Array.length_toList]at e
  omega
theorem Inv.tuple (I:Inv X pins σ H s) (h:TY X.K H a xs):∃its:List Value,Vals xs its∧IsTup s.heap a its.toArray∧xs.length≤sizeLine:=by
 rcases h with h | ⟨o,its,n,hk,hc,hs,hz,r⟩
 ·obtain⟨z,its,r,p⟩:=h.ok I.hok
  exact⟨its,r,p,z⟩
 ·refine⟨its.toList,r,⟨o,I.Qx a o hk,hc,n,by simpa using hs⟩,?_⟩
  have e:=r.length
  simp only[Array.length_toList]at e
  omega
theorem Inv.Qw (I:Inv X pins σ H s) (h:ZJ X.K H a xs) (h':ZJ X.K H a ys):xs=ys:=by
 obtain⟨its,r,⟨o,n,e,_,_,d⟩,_⟩:=I.list h
 obtain⟨its',r',⟨o',n',e',_,_,d'⟩,_⟩:=I.list h'
 rw[e]at e';cases e'
 rw[d]at d'
 injection d' with d1 _
 have:its=its':=by simpa using congrArg Array.toList d1
 subst this
 exact r.inj r'
end
abbrev Cx.wish (X:Cx) (E:Value→Shared→Prop):Cx:={X with xe:=E}
abbrev Cx.JN (X:Cx):Cx:=X.wish λ_ _=>False
theorem Cx.Ok.wish {X:Cx} (ok:X.Ok) (E:Value→Shared→Prop):(X.wish E).Ok:=
 ⟨ok.mod,ok.kind,ok.glob,ok.blt,ok.above,ok.inj,ok.has,ok.cab,ok.hd,ok.frames,ok.stk,ok.bJ,ok.bs,ok.yd,ok.Gu,ok.DQ,ok.QG,ok.tD⟩
theorem Cx.Ok.Vr {X:Cx} {E:Value→Shared→Prop} (ok:(X.wish E).Ok):X.Ok:=
 ⟨ok.mod,ok.kind,ok.glob,ok.blt,ok.above,ok.inj,ok.has,ok.cab,ok.hd,ok.frames,ok.stk,ok.bJ,ok.bs,ok.yd,ok.Gu,ok.DQ,ok.QG,ok.tD⟩
section
variable {X:Cx} {pins:List (Addr×Obj)} {σ:St} {H:Hp} {s:Shared} {E:Value→Shared→Prop}
theorem Inv.wish (I:Inv X pins σ H s) (E:Value→Shared→Prop):Inv (X.wish E) pins σ H s:=⟨I.ok.wish E,I.os,I.bare,I.base,I.loc,I.cell,I.free,I.Uq,I.pin,I.hok,I.len⟩
theorem Inv.Vr (I:Inv (X.wish E) pins σ H s):Inv X pins σ H s:=⟨I.ok.Vr,I.os,I.bare,I.base,I.loc,I.cell,I.free,I.Uq,I.pin,I.hok,I.len⟩
theorem SP.Vr {D:Ends} {f:Flow} {s':Shared} (h:SP (X.wish E) pins D f s'):SP X pins D f s':=by
 cases f with
 |next=>obtain⟨σ',H',I,q⟩:=h;exact⟨σ',H',I.Vr,q⟩
 |brk=>obtain⟨σ',H',I,q⟩:=h;exact⟨σ',H',I.Vr,q⟩
 |cont=>obtain⟨σ',H',I,q⟩:=h;exact⟨σ',H',I.Vr,q⟩
 |ret u=>obtain⟨v,σ',H',I,r,q⟩:=h;exact⟨v,σ',H',I.Vr,r,q⟩
theorem QF.JN {st:List Stmt} {t:TS} (h:QF X.JN st t):QF X st t:=λpins s σ H D I hw =>
 wpAny_mono (h pins s σ H D (I.wish _) hw) (λ_ _ q=>q.Vr) λ_ _ z=>False.elim z
end
section
variable {X:Cx} {st:Stmt} {rest:List Stmt} {t u:TS} {e:Expr} {te:TE} {pos:Pos}
def dI:TS:=λD σ H=>D.nx σ H
def aa8 (t u:TS):TS:=λD σ H=>t {D with nx:=u D} σ H
theorem Zz:QF X [] dI:=λ_ _ σ H _ I h=>wpAny_execs_nil ⟨σ,H,I,h⟩
theorem Z7 (h1:PS X st t) (h2:QF X rest u):QF X (st :: rest) (aa8 t u):=by
 intro pins s σ H D I h
 refine wpAny_execs_cons (Yy (h1 pins s σ H {D with nx:=u D} I h) λf s1 q=>?_)
 cases f with
 |next =>
  obtain⟨σ',H',I',q⟩:=q
  exact h2 pins s1 σ' H' D I' q
 |ret v=>exact q
 |brk=>exact q
 |cont=>exact q
theorem Z6 (h1:PS X st t):QF X [st] t:=by
 intro pins s σ H D I h
 refine wpAny_execs_cons (Yy (h1 pins s σ H D I h) λf s1 q=>?_)
 cases f with
 |next=>exact wpAny_execs_nil q
 |ret v=>exact q
 |brk=>exact q
 |cont=>exact q
def adT:TS:=λD σ H=>D.bk σ H
def amn:TS:=λD σ H=>D.ct σ H
theorem Inv.quiet {pins:List (Addr×Obj)} {σ:St} {H:Hp} {s:Shared} (I:Inv X pins σ H s):interactive X.env=false:=by simp[interactive,I.ok.kind]
def aa9 (te:TE):TS:=λD σ H=>te σ H λ_ H1=>D.nx σ H1
theorem YH (he:PE X e te) (hs:swapsWith e none pos.line X.env=pure false:=by rfl):PS X (.Expr e pos) (aa9 te):=by
 intro pins s σ H D I h
 exact wpAny_Expr_any (Yy (he pins s σ H _ I h) λv s1 ⟨x,H1,I1,r1,q1⟩=>⟨σ,H1,I1,q1⟩) I.quiet hs
def abb (te:TE):TS:=λD σ H=>te σ H D.rt
theorem ZR (he:PE X e te):PS X (.Return (some e) pos) (abb te):=by
 intro pins s σ H D I h
 exact wpAny_Return_some (Yy (he pins s σ H _ I h) λv s1 ⟨x,H1,I1,r1,q1⟩=>⟨x,σ,H1,I1,r1,q1⟩)
def amo:TS:=λD _ H=>D.rt .non H
def abd (c:TT) (t u:TS):TS:=λD σ H=>c σ H λb H1=>if b=true then t D σ H1 else u D σ H1
theorem Zn {c:Expr} {a b:List Stmt} {tc:TT} (hc:PT X c tc) (ha:QF X a t) (hb:QF X b u):PS X (.If c a b pos) (abd tc t u):=by
 intro pins s σ H D I h
 refine wpAny_If (Yy (hc pins s σ H _ I h) λd s1 ⟨H1,I1,q1⟩=>?_)
 cases d with
 |true=>exact ha pins s1 σ H1 D I1 q1
 |false=>exact hb pins s1 σ H1 D I1 q1
def bH:TS:=λ_ _ _=>False
theorem R0:PS X st bH:=λ_ _ _ _ _ _ h=>h.elim
end
abbrev TG:=V→St→Hp→(St→Hp→Prop)→Prop
abbrev dH:=List V→St→Hp→(St→Hp→Prop)→Prop
def PG (X:Cx) (target:Expr) (t:TG):Prop:=
 ∀(pins:List (Addr×Obj)) (s:Shared) (σ:St) (H:Hp) (v:V) (u:Value) (Q:St→Hp→Prop),Inv X pins σ H s→RelV v u→t v σ H Q →
  wpAny (model X.prog X.w) X.A (assign target X.env u) (λ_ s'=>∃σ' H',Inv X pins σ' H' s'∧Q σ' H') X.xe s
def PGs (X:Cx) (ts:List Expr) (t:dH):Prop:=
 ∀(pins:List (Addr×Obj)) (s:Shared) (σ:St) (H:Hp) (vs:List V) (us:List Value) (Q:St→Hp→Prop),Inv X pins σ H s→Vals vs us→t vs σ H Q →
  wpAny (model X.prog X.w) X.A (assignInOrder ((assignEach ts X.env).map (·.2)) us) (λ_ s'=>∃σ' H',Inv X pins σ' H' s'∧Q σ' H') X.xe s
abbrev jk:=V→V→V→Hp→(Hp→Prop)→Prop
def abe (X:Cx) (t:jk):Prop:=
 ∀(pins:List (Addr×Obj)) (s:Shared) (σ:St) (H:Hp) (o i v:V) (ov iv u:Value) (Q:Hp→Prop),Inv X pins σ H s→RelV o ov→RelV i iv→RelV v u→t o i v H Q →
  wpAny (model X.prog X.w) X.A (setItem ov iv u) (λ_ s'=>∃H',Inv X pins σ H' s'∧Q H') X.xe s
abbrev TIp:=V→V→Hp→VK→Prop
def PIp (X:Cx) (op:Operator) (t:TIp):Prop:=
 ∀(pins:List (Addr×Obj)) (s:Shared) (σ:St) (H:Hp) (x y:V) (v u:Value) (Q:VK),Inv X pins σ H s→RelV x v→RelV y u→t x y H Q →
  wpAny (model X.prog X.w) X.A (inplaceOp op v u) (EP X pins σ Q) X.xe s
section
variable {X:Cx} {pos:Pos}
def pY (i:Nat):TG:=λv σ H Q=>Q (σ.set i (some v)) H
theorem Zy {i:Nat} {x:Str} (hN:X.N.Nodup) (hi:X.N[i]? =some x) (hx:Loc X.env.scope x) (hf:X.fn x=true∨X.env.scope.names.lookup x=some .local:=by first |exact .inl rfl |exact .inr rfl |assumption):PG X (.Name x pos) (pY i):=by
 intro pins s σ H v u Q I r h
 exact wpAny_assign_Name (Jk I hN hi hx r (λs' I'=>⟨_,H,I',h⟩) hf)
def adU:dH:=λvs σ H Q=>vs=[]∧Q σ H
def abf (t:TG) (u:dH):dH:=λvs σ H Q=>∃v r,vs=v :: r∧t v σ H λσ' H'=>u r σ' H' Q
theorem U7:PGs X [] adU:=by
 intro pins s σ H vs us Q I r h
 obtain⟨e,h⟩:=h
 subst e
 cases r
 exact assignInOrder_nil ⟨σ,H,I,h⟩
theorem Y6 {e:Expr} {es:List Expr} {t:TG} {u:dH} (h1:PG X e t) (h2:PGs X es u)
 (hs:(assignEach (e :: es) X.env).map (·.2)=assign e X.env :: (assignEach es X.env).map (·.2):=by rfl):PGs X (e :: es) (abf t u):=by
 intro pins s σ H vs us Q I r h
 obtain⟨v,vr,e1,h⟩:=h
 subst e1
 cases r with
 |cons r rr =>
  rw[hs]
  refine assignInOrder_cons (Yy (h1 pins s σ H _ _ _ I r h) λ_ s1 ⟨σ1,H1,I1,q1⟩=>?_)
  exact h2 pins s1 σ1 H1 _ _ Q I1 rr q1
def abg (K:PySem.W.Frag) (n:Nat) (t:dH):TG:=λv σ H Q=>∃a xs,v= .ref a∧TY K H a xs∧xs.length=n∧t xs σ H Q
theorem bG {es:List Expr} {k:Nat} {t:dH} {n:Nat} (hc:X.calm=true) (h:PGs X es t)
 (hn:(assignEach es X.env).length=n:=by rfl) (hst:(assignEach es X.env).findIdx? (·.1)=none:=by rfl):PG X (.Tuple es k pos) (abg X.K n t):=by
 intro pins s σ H v u Q I r hw
 obtain⟨a,xs,e1,hq,hl,hw⟩:=hw
 subst e1
 cases r
 obtain⟨its,rv,ht,hz⟩:=I.tuple hq
 refine assign_Tuple_tuple (I.ok.hd hc) ht (by simp[hn,←hl,rv.length]) hst λh' hx=>?_
 have I1:Inv X pins σ H {s with heap:=h'}:=I.kept (t':=s.toks) λb o e=>hx b o (Nat.ne_of_lt (Heap.lt_size e)) e
 exact h pins _ σ H xs _ Q I1 (by simpa using rv) hw
def adV (to ti:TE) (t:jk):TG:=λv σ H Q=>to σ H λo H1=>ti σ H1 λi H2=>t o i v H2 λH3=>Q σ H3
theorem yc {o i:Expr} {to ti:TE} {t:jk} (ho:PE X o to) (hi:PE X i ti) (hs:abe X t)
 (ha:∀v,assign (.Subscript o i pos) X.env v=(do
  let ov ←holding [v] (eval o X.env)
  let iv ←holding [v,ov] (eval i X.env)
  standAt pos
  holding [v,ov,iv] (setItem ov iv v)
  release [v,ov,iv] []):=by intro _;rfl):PG X (.Subscript o i pos) (adV to ti t):=by
 intro pins s σ H v u Q I r h
 rw[ha]
 refine wpAny_bind (wpAny_holding (Yy (ho pins s σ H _ I h) λov s1 ⟨x,H1,I1,r1,q1⟩=>?_))
 refine wpAny_bind (wpAny_holding (Yy (hi pins s1 σ H1 _ I1 q1) λiv s2 ⟨y,H2,I2,r2,q2⟩=>?_))
 refine wpAny_bind (wpAny_standAt (wpAny_bind (wpAny_holding (Yy (hs pins s2 σ H2 x y v ov iv u _ I2 r1 r2 r q2) λ_ s3 ⟨H3,I3,q3⟩=>?_))))
 exact wpAny_release ⟨σ,H3,I3,q3⟩
def bF (te:TE) (g:TG):TS:=λD σ H=>te σ H λx H1=>g x σ H1 D.nx
theorem DG {tg e:Expr} {te:TE} {g:TG} (he:PE X e te) (hg:PG X tg g) (hs:swapsWithSole [tg] e pos.line X.env=pure false:=by rfl) (hw:swappedStores [tg] e X.env=pure none:=by rfl)
 (h1:(assignEach [tg] X.env).map (·.2)=[assign tg X.env]:=by rfl):PS X (.Assign [tg] e pos) (bF te g):=by
 intro pins s σ H D I h
 refine wpAny_Assign_stores (Yy (he pins s σ H _ I h) λv s1 ⟨x,H1,I1,r1,q1⟩=>?_) hs hw
 rw[h1]
 exact Yy (hg pins s1 σ H1 x v _ I1 r1 q1) λ_ s2 q=>q
theorem ZW {i:Nat} {x:Str} {e:Expr} {te:TE} {pos':Pos} (hN:X.N.Nodup) (hi:X.N[i]? =some x) (hx:Loc X.env.scope x) (he:PE X e te) (hs:swapsWith e (some (.Name x pos')) pos.line X.env=pure false:=by rfl) (hf:X.fn x=true∨X.env.scope.names.lookup x=some .local:=by first |exact .inl rfl |exact .inr rfl |assumption):
 PS X (.Assign [.Name x pos'] e pos) (bF te (pY i)):=by
 intro pins s σ H D I h
 refine wpAny_Assign_Name (Yy (he pins s σ H _ I h) λv s1 ⟨y,H1,I1,r1,q1⟩=>?_) hs
 exact Jk I1 hN hi hx r1 (λs2 I2=>⟨_,H1,I2,q1⟩) hf
def amJ (i j:Nat) (ta:TA):TS:=λD σ H=>ta σ H λvs H1=>∃v w,vs=[v,w]∧D.nx ((σ.set i (some v)).set j (some w)) H1
def amK (i:Nat) (te:TE) (ti:TIp):TS:=λD σ H=>∃x,σ[i]? =some (some x)∧te σ H λy H1=>ti x y H1 λz H2=>D.nx (σ.set i (some z)) H2
def amq (to ti te:TE) (adW:V→V→Hp→VK→Prop) (tip:TIp) (adX:jk):TS:=λD σ H=>to σ H λo H1=>ti σ H1 λi H2=>adW o i H2 λx H3=>te σ H3 λy H4=>tip x y H4 λz H5=>adX o i z H5 λH6=>D.nx σ H6
def amL (X:Cx) (t:V→V→Hp→VK→Prop):Prop:=
 ∀(pins:List (Addr×Obj)) (s:Shared) (σ:St) (H:Hp) (o i:V) (ov iv:Value) (Q:VK),Inv X pins σ H s→RelV o ov→RelV i iv→t o i H Q →
  wpAny (model X.prog X.w) X.A (getItem ov iv) (EP X pins σ Q) X.xe s
def ipI (f:Int→Int→Int):TIp:=λx y H Q=>∃i j,x= .int i∧y= .int j∧Q (.int (f i j)) H
end
section
variable {X:Cx} {pos:Pos}
def pX (c:TT) (tb:TS):TS:=λD σ H=>∃W:Nat→St→Hp→Prop,(∃m,W m σ H)∧∀m σ H,W m σ H →
 c σ H λb H1=>if b=true then ∃N:St→Hp→Prop,(∀σ' H',N σ' H'→∃m',m'<m∧W m' σ' H')∧tb {D with nx:=N,ct:=N,bk:=D.nx} σ H1 else D.nx σ H1
theorem Ji {c:Expr} {body:List Stmt} {tc:TT} {tb:TS} (hp:PassesOwn (model X.prog X.w) X.A X.env X.xe) (hc:PT X c tc) (hb:QF X body tb):PS X (.While c body [] pos) (pX tc tb):=by
 intro pins s σ H D I h
 obtain⟨W,⟨m0,w0⟩,turn⟩:=h
 refine wpAny_While (codeAny_whileLoop (λn s'=>∃σ' H',Inv X pins σ' H' s'∧W n σ' H') ?_ m0 ⟨σ,H,I,w0⟩)
 rintro n s1 ⟨σ1,H1,I1,w1⟩
 refine wpAny_passesOwn hp (Yy (hc pins s1 σ1 H1 _ I1 (turn n σ1 H1 w1)) λb s2 ⟨H2,I2,q2⟩=>?_)
 cases b with
 |true =>
  obtain⟨N,hN,q2⟩:=q2
  rw[if_pos rfl]
  refine wpAny_passesOwn hp (Yy (hb pins s2 σ1 H2 _ I2 q2) λf s3 q3=>?_)
  cases f with
  |next =>
   obtain⟨σ3,H3,I3,n3⟩:=q3
   obtain⟨m',hm,w3⟩:=hN σ3 H3 n3
   exact⟨m',hm,σ3,H3,I3,w3⟩
  |cont =>
   obtain⟨σ3,H3,I3,n3⟩:=q3
   obtain⟨m',hm,w3⟩:=hN σ3 H3 n3
   exact⟨m',hm,σ3,H3,I3,w3⟩
  |brk=>exact q3
  |ret v=>exact q3
 |false =>
  rw[if_neg Bool.false_ne_true]
  exact wpAny_execs_nil ⟨σ1,H2,I2,q2⟩
end
structure It where
 go:Nat→Hp→Prop
 pW:Nat→Hp→V→Hp→Prop
 stop:Nat→Hp→Prop
def Qv (X:Cx) (pins:List (Addr×Obj)) (H:Hp) (b:Addr):Prop:=
 H b=none∧b≠X.env.locals∧b∉X.fs∧(b∈X.ex∨X.s₀.heap.objs.size≤b)∧(∀x c,X.env.cells.lookup x=some c→c≠b)∧∀p∈X.pn++pins,p.1≠b
theorem Inv.Bu {X:Cx} {pins:List (Addr×Obj)} {σ:St} {H H':Hp} {s:Shared} {b:Addr} (I:Inv X pins σ H s) (hb:s.heap.objs.size≤b) (hn:H' b=none):Qv X pins H' b:=by
 refine⟨hn,Nat.ne_of_gt (Nat.lt_of_lt_of_le I.lt hb),I.adN hb,.inr (Nat.le_trans I.sz hb),λx c e z=>?_,λp hp z=>?_⟩
 ·obtain⟨v,q⟩:=I.cell x c e
  exact absurd (Nat.lt_of_lt_of_le q.lt (by rw[z];exact hb)) (Nat.lt_irrefl _)
 ·exact absurd (Nat.lt_of_lt_of_le (Heap.lt_size (I.pin p hp).1) (by rw[z];exact hb)) (Nat.lt_irrefl _)
structure Turn (P:Program) (w:World) (K:PySem.W.Frag) (tg:Expr) (J:It) (fp:List Addr) (it:Addr) (tn:Nat→Heap→Prop):Prop where
 mem:it∈fp
 obj:∀i h,tn i h→∀b∈fp,∃o,h.get? b=some o∧∀v,o.data≠ .cell v
 keep:∀i h h',tn i h→(∀b∈fp,∀o,h.get? b=some o→h'.get? b=some o)→tn i h'
 item:∀(X:Cx),X.prog=P→X.w=w→X.K=K→X.calm=true→∀(i:Nat) (pins:List (Addr×Obj)) (s:Shared) (σ:St) (H:Hp) (E:Value→Shared→Prop),Inv X pins σ H s→(∀b∈fp,Qv X pins H b)→tn i s.heap→J.go i H →
  wpAny (model P w) X.A (pyNext (.ref it)) (λr s1=>∃u,r=some u ∧
   wpAny (model P w) X.A (letOwnedTupleGo tg (.ref it) u) (λ_ s2=>∃x H',Inv X pins σ H' s2∧RelV x u∧J.pW i H x H'∧tn (i+1) s2.heap∧∀b∈fp,H' b=none) E s1) E s
 done:∀(X:Cx),X.prog=P→X.w=w→X.K=K→X.calm=true→∀(i:Nat) (pins:List (Addr×Obj)) (s:Shared) (σ:St) (H:Hp) (E:Value→Shared→Prop),Inv X pins σ H s→(∀b∈fp,Qv X pins H b)→tn i s.heap→J.stop i H →
  wpAny (model P w) X.A (pyNext (.ref it)) (λr s1=>r=none∧Inv X pins σ H s1) E s
 self:∀(A:Around) (i:Nat) (s:Shared) (Q:Value→Shared→Prop) (E:Value→Shared→Prop),tn i s.heap→Q (.ref it) s→wpAny (model P w) A (pyIter (.ref it)) Q E s
abbrev TI:=St→Hp→(It→Hp→Prop)→Prop
def PIE (X:Cx) (pins:List (Addr×Obj)) (σ:St) (tg:Expr) (R:It→Hp→Prop) (itv:Value) (s2:Shared):Prop:=
 ∃(it:Addr) (fp:List Addr) (tn:Nat→Heap→Prop) (J:It) (H':Hp),itv= .ref it∧Inv X pins σ H' s2∧Turn X.prog X.w X.K tg J fp it tn∧tn 0 s2.heap∧(∀b∈fp,Qv X pins H' b)∧R J H'
def PI (X:Cx) (tg iter:Expr) (wi:TI):Prop:=
 ∀(pins:List (Addr×Obj)) (s:Shared) (σ:St) (H:Hp) (R:It→Hp→Prop),Inv X pins σ H s→wi σ H R →
  wpAny (model X.prog X.w) X.A (eval iter X.env) (λv s1=>wpAny (model X.prog X.w) X.A (pyIter v) (PIE X pins σ tg R) X.xe s1) X.xe s
theorem vh {M:Model} {A:Around} {E:Value→Shared→Prop} {s:Shared} {tg:Expr} {it:Addr} {u:Value} {o:Obj} {n:String} {vs:Array Value} {Q:Unit→Shared→Prop} (ho:s.heap.get? it=some o) (hc:o.cls= .type n) (hd:o.data= .fields vs)
 (hn:["enumerate","zip","dict_itemiterator","dict_reverseitemiterator","odict_iterator","itertools.zip_longest","itertools.pairwise"].contains n=false) (hQ:Q () s):wpAny M A (letOwnedTupleGo tg (.ref it) u) Q E s:=by
 unfold letOwnedTupleGo
 cases tg<;>first
  |exact wpAny_pure hQ
  | (cases u<;>first
   |exact wpAny_pure hQ
   | (refine wpAny_bind (wpAny_load ho ?_)
      rw[hc,hd]
      show wpAny M A (if(["enumerate","zip","dict_itemiterator","dict_reverseitemiterator","odict_iterator","itertools.zip_longest","itertools.pairwise"].contains n && vs[0]? ==some (rawInt _))=true then _ else _) Q E s
      rw[if_neg (by intro h;rw[hn,Bool.false_and]at h;cases h)]
      exact wpAny_pure hQ))
def dG (K:PySem.W.Frag) (a:Addr):It:=
 ⟨λi H=>∃xs x,ZJ K H a xs∧xs[i]? =some x,λi H x H'=>H'=H∧∀xs,ZJ K H a xs→xs[i]? =some x,λi H=>∃xs,ZJ K H a xs∧xs.length≤i⟩
def Itt (K:PySem.W.Frag) (a:Addr):It:=
 ⟨λi H=>∃xs x,TY K H a xs∧xs[i]? =some x,λi H x H'=>H'=H∧∀xs,TY K H a xs→xs[i]? =some x,λi H=>∃xs,TY K H a xs∧xs.length≤i⟩
def dF (lo:Int) (n:Nat):It:=⟨λi _=>i<n,λi H x H'=>H'=H∧x= .int (lo+i),λi _=>n≤i⟩
theorem sY {P:Program} {w:World} {K:PySem.W.Frag} {tg:Expr} (a it:Addr):Turn P w K tg (dG K a) [it] it (λi h=>h.IsListIter it a i) where
 mem:=by simp
 obj:=λi h st b hb=>by
  have e:b=it:=by simpa using hb
  subst e
  obtain⟨o,e,c,d⟩:=st
  exact⟨o,e,λv z=>by rw[d]at z;cases z⟩
 keep:=λi h h' st k=>st.at λo e=>k it (by simp) o e
 item:=by
  intro X hP hw hK hc i pins s σ H E I hf st hg
  subst hP hw hK
  obtain⟨xs,x,hq,hx⟩:=hg
  obtain⟨its,rv,p,hz⟩:=I.list hq
  obtain⟨u,hu,ru⟩:=rv.get hx
  obtain⟨f0,f1,f2,f3,f4,f5⟩:=hf it (by simp)
  refine wpAny_pyNext_list_item st p.isList (x:=u) (by simpa using hu) λh' st' sb=>?_
  have I1:Inv X pins σ H {s with heap:=h'}:=I.turned (t':=s.toks) (λb o hb e=>(sb.2 b hb).trans e) f0 f1 f3 f4 f5
  obtain⟨o,e,c,d⟩:=id st'
  exact⟨u,rfl,vh (s:={s with heap:=h'}) e c d (by decide) ⟨x,H,I1,ru,⟨rfl,λys hy=>by rw[I.Qw hy hq];exact hx⟩,st',λb hb=>(hf b hb).1⟩⟩
 done:=by
  intro X hP hw hK hc i pins s σ H E I hf st hg
  subst hP hw hK
  obtain⟨xs,hq,hx⟩:=hg
  obtain⟨its,rv,p,hz⟩:=I.list hq
  obtain⟨f0,f1,f2,f3,f4,f5⟩:=hf it (by simp)
  have hl:=rv.length
  exact wpAny_pyNext_list_end (I.ok.hd hc) st p.isList (by simp;omega) λh' eb=>⟨rfl,I.turned (t':=s.toks) (λb o hb e=>eb b o hb e) f0 f1 f3 f4 f5⟩
 self:=λ_ _ _ _ _ st h=>wpAny_pyIter_listiter st h
theorem xZ {P:Program} {w:World} {K:PySem.W.Frag} {tg:Expr} (it:Addr) (lo:Int) (n:Nat):Turn P w K tg (dF lo n) [it] it (λi h=>IsRangeIter h it (lo+(i:Nat)*1) ((n:Int)-(i:Nat)) 1) where
 mem:=by simp
 obj:=λi h st b hb=>by
  have e:b=it:=by simpa using hb
  subst e
  exact⟨_,st,λv z=>by
   have z':Data.fields _=Data.cell v:=z
   cases z'⟩
 keep:=λi h h' st k=>k it (by simp) _ st
 item:=by
  intro X hP hw hK hc i pins s σ H E I hf st hg
  subst hP hw hK
  obtain⟨f0,f1,f2,f3,f4,f5⟩:=hf it (by simp)
  have W:=Walks.range (prog:=X.prog) (w:=X.w) (I.ok.hd hc) it lo 1 n
  refine W.item i s _ _ hg st λv h' tk hv st' kk=>?_
  obtain⟨t,rfl⟩:=hv
  have I1:Inv X pins σ H {s with heap:=h',toks:=tk}:=I.turned (λb o hb e=>kk b o (by simpa using hb) e) f0 f1 f3 f4 f5
  refine⟨_,rfl,vh (s:={s with heap:=h',toks:=tk}) (n:="range_iterator") st' rfl rfl (by decide) ⟨.int (lo+i),H,I1,⟨t,?_⟩,⟨rfl,rfl⟩,st',λb hb=>(hf b hb).1⟩⟩
  rw[Int.mul_one]
 done:=by
  intro X hP hw hK hc i pins s σ H E I hf st hg
  subst hP hw hK
  obtain⟨f0,f1,f2,f3,f4,f5⟩:=hf it (by simp)
  exact wpAny_pyNext_range_end (I.ok.hd hc) st (by have:n≤i:=hg;omega) λh' eb=>⟨rfl,I.turned (t':=s.toks) (λb o hb e=>eb b o hb e) f0 f1 f3 f4 f5⟩
 self:=λ_ _ _ _ _ st h=>wpAny_pyIter_rangeiter st h
end L2
namespace L2
open PySem PySem.Spec PyProof.Rows
section
variable {X:Cx} {tg:Expr}
def dD (K:PySem.W.Frag) (tl:TE):TI:=λσ H R=>tl σ H λx H1=>∃a,x= .ref a∧(∃xs,ZJ K H1 a xs)∧R (dG K a) H1
def amM (K:PySem.W.Frag) (tl:TE):TI:=λσ H R=>tl σ H λx H1=>∃a,x= .ref a∧(∃xs,TY K H1 a xs)∧R (Itt K a) H1
theorem jj {l:Expr} {tl:TE} (hl:PE X l tl):PI X tg l (dD X.K tl):=by
 intro pins s σ H R I h
 refine Yy (hl pins s σ H _ I h) λv s1 ⟨x,H1,I1,r1,q1⟩=>?_
 obtain⟨a,e,⟨xs,hq⟩,q⟩:=q1
 subst e
 cases r1
 obtain⟨its,rv,p,hz⟩:=I1.list hq
 refine wpAny_pyIter_list p.isList ?_
 refine⟨s1.heap.objs.size,[s1.heap.objs.size],_,_,H1,rfl,I1.kept (t':=s1.toks) λb o e=>Heap.get?_push_of_some _ e,sY a _,⟨_,Heap.get?_push_size _ rfl,rfl,rfl⟩,λb hb=>?_,q⟩
 have e:b=s1.heap.objs.size:=by simpa using hb
 subst e
 exact I1.Bu (Nat.le_refl _) (I1.hok.fresh (Nat.le_refl _))
theorem Bt {pins:List (Addr×Obj)} {σ:St} {H:Hp} {s:Shared} {R:It→Hp→Prop} {E:Value→Shared→Prop} {lo hi:Int} {t u v:Tok} {tk:Nat} (I:Inv X pins σ H s) (h1: -(2 ^ 62)≤lo) (h2:lo<2 ^ 62) (h3: -(2 ^ 62)≤hi) (h4:hi<2 ^ 62)
 (q:R (dF lo (hi-lo).toNat) H):wpAny (model X.prog X.w) X.A (pyIter (.ref s.heap.objs.size)) (PIE X pins σ tg R) E {s with heap:=s.heap.push {cls:=.type "range",data:=.fields #[.int lo t,.int hi u,.int 1 v]},toks:=tk}:=by
 refine wpAny_pyIter_range (IsRange.new ..) (small_one h1 h2 h3 h4) ?_
 have I1:Inv X pins σ H {s with heap:=s.heap.push {cls:=.type "range",data:=.fields #[.int lo t,.int hi u,.int 1 v]},toks:=tk}:=I.kept λb o e=>Heap.get?_push_of_some _ e
 refine⟨(s.heap.push {cls:=.type "range",data:=.fields #[.int lo t,.int hi u,.int 1 v]}).objs.size,[(s.heap.push {cls:=.type "range",data:=.fields #[.int lo t,.int hi u,.int 1 v]}).objs.size],_,_,H,rfl,
  I1.kept (t':=tk) λb o e=>Heap.get?_push_of_some _ e,xZ _ lo (hi-lo).toNat,?_,λb hb=>?_,q⟩
 ·have e1:lo+((0:Nat):Int)*1=lo:=by simp
  have e2:(((hi-lo).toNat:Nat):Int)-((0:Nat):Int)=Builtin.Range.rangeSize lo hi 1:=by rw[rangeSize_one];split<;>omega
  show IsRangeIter _ _ (lo+((0:Nat):Int)*1) ((((hi-lo).toNat:Nat):Int)-((0:Nat):Int)) 1
  rw[e1,e2]
  exact Heap.get?_push_size _ rfl
 ·have e:b=(s.heap.push {cls:=.type "range",data:=.fields #[.int lo t,.int hi u,.int 1 v]}).objs.size:=by simpa using hb
  subst e
  exact I1.Bu (Nat.le_refl _) (I1.hok.fresh (Nat.le_refl _))
def abh (ta:TA):TI:=λσ H R=>ta σ H λvs H1=>∃j:Int,vs=[.int j]∧ -(2 ^ 62)≤j∧j<2 ^ 62∧R (dF 0 j.toNat) H1
def abj (ta:TA):TI:=λσ H R=>ta σ H λvs H1=>∃i j:Int,vs=[.int i,.int j]∧(-(2 ^ 62)≤i∧i<2 ^ 62∧ -(2 ^ 62)≤j∧j<2 ^ 62)∧R (dF i (j-i).toNat) H1
theorem Xy {a:Expr} {ta:TA} {p pos:Pos} (hg:Gl X "range") (hm:X.mg "range"=none) (ha:PA X [a] ta) (hs:starEach [a] X.env=[(false,eval a X.env)]:=by rfl):PI X tg (.Call (.Name "range" p) [a] [] pos) (abh ta):=by
 intro pins s σ H R I h
 refine Call_ (T3 I hg hm boot_range (PyProof.Rows.callWith_type1 (Yy (ha pos pins s σ H _ I h) λus s1 ⟨vs,H1,I1,r1,q1⟩=>?_) hs rfl))
 obtain⟨j,e,q1,q2,q⟩:=q1
 subst e
 cases r1 with
 |cons r rr =>
  cases rr
  obtain⟨t,rfl⟩:=r
  exact call_range_1 (Bt I1 (by omega) (by omega) q1 q2 (by simpa using q))
theorem sX {a b:Expr} {ta:TA} {p pos:Pos} (hg:Gl X "range") (hm:X.mg "range"=none) (ha:PA X [a,b] ta) (hs:starEach [a,b] X.env=[(false,eval a X.env),(false,eval b X.env)]:=by rfl) (hs2:starEach [b] X.env=[(false,eval b X.env)]:=by rfl):
 PI X tg (.Call (.Name "range" p) [a,b] [] pos) (abj ta):=by
 intro pins s σ H R I h
 refine Call_ (T3 I hg hm boot_range (PyProof.Rows.callWith_type1 (Yy (ha pos pins s σ H _ I h) λus s1 ⟨vs,H1,I1,r1,q1⟩=>?_) (by rw[hs,hs2]) (by rw[hs2];rfl)))
 obtain⟨i,j,e,⟨q1,q2,q3,q4⟩,q⟩:=q1
 subst e
 cases r1 with
 |cons r rr =>
  cases rr with
  |cons r' rr =>
   cases rr
   obtain⟨t,rfl⟩:=r
   obtain⟨t',rfl⟩:=r'
   exact call_range_2 (Bt I1 q1 q2 q3 q4 q)
def abk (wi:TI) (g:TG) (tb:TS):TS:=λD σ H=>wi σ H λJ H1=>∃W:Nat→Nat→St→Hp→Prop,(∃m,W 0 m σ H1)∧∀i m σ H,W i m σ H →
 (J.stop i H∧D.nx σ H)∨(J.go i H∧∃N:St→Hp→Prop,(∀σ' H',N σ' H'→∃m',m'<m∧W (i+1) m' σ' H')∧∀x H',J.pW i H x H'→g x σ H' λσ2 H2=>tb {D with nx:=N,ct:=N,bk:=D.nx} σ2 H2)
def K_ (fp:List Addr) (h:Heap):List (Addr×Obj):=fp.filterMap λb=>(h.get? b).map λo=>(b,o)
theorem Vq {fp:List Addr} {h:Heap} {b:Addr} {o:Obj} (hb:b∈fp) (e:h.get? b=some o):(b,o)∈K_ fp h:=List.mem_filterMap.mpr ⟨b,hb,by rw[e];rfl⟩
theorem sW {fp:List Addr} {h:Heap} {p:Addr×Obj} (hp:p∈K_ fp h):p.1∈fp∧h.get? p.1=some p.2:=by
 obtain⟨b,hb,e⟩:=List.mem_filterMap.mp hp
 cases q:h.get? b with
 |none=>rw[q]at e;cases e
 |some o =>
  rw[q]at e
  have e':(b,o)=p:=Option.some.inj e
  subst e'
  exact⟨hb,q⟩
theorem Inv.pinned {pins:List (Addr×Obj)} {σ:St} {H:Hp} {s:Shared} {fp:List Addr} (I:Inv X pins σ H s) (hf:∀b∈fp,Qv X pins H b) (ho:∀b∈fp,∃o,s.heap.get? b=some o∧∀v,o.data≠ .cell v):Inv X (pins++K_ fp s.heap) σ H s:=
 I.vo λp hp=>(List.mem_append.mp hp).elim (λz=>I.pin p (List.mem_append_right _ z)) λz=>by
   obtain⟨hb,e⟩:=sW z
   obtain⟨f0,f1,f2,_⟩:=hf p.1 hb
   obtain⟨o,e',d⟩:=ho p.1 hb
   rw[e]at e';cases e'
   exact⟨e,f0,f1,f2,d⟩
theorem Inv.Qu {pins pl:List (Addr×Obj)} {σ:St} {H:Hp} {s:Shared} (I:Inv X (pins++pl) σ H s):Inv X pins σ H s:=I.vo λp hp=>I.pin p (List.mem_append_right _ (List.mem_append_left _ hp))
theorem Xa {iter:Expr} {body:List Stmt} {wi:TI} {g:TG} {tb:TS} {pos:Pos} (hp:PassesOwn (model X.prog X.w) X.A X.env X.xe) (hc:X.calm=true) (hi:PI X tg iter wi) (hg:PG X tg g) (hb:QF X body tb)
 (hs:∀x,foldedSetIterable iter X.env x=pure x:=by intro _;rfl):PS X (.For tg iter body [] pos) (abk wi g tb):=by
 intro pins s σ H D I h
 refine wpAny_For (Yy (hi pins s σ H _ I h) λv s1 h1=>Yy h1 λitv s2 h2=>?_) hs
 obtain⟨it,fp,tn,J,H2,e,I2,T,st2,f2,W,⟨m0,w0⟩,turn⟩:=h2
 subst e
 have stat:∀{H':Hp},(∀b∈fp,H' b=none)→∀b∈fp,Qv X pins H' b:=λhn b hb=>⟨hn b hb,(f2 b hb).2⟩
 refine codeAny_forLoop_any (λn s'=>∃i σ' H',Inv X pins σ' H' s'∧tn i s'.heap∧(∀b∈fp,H' b=none)∧W i n σ' H') ?_ m0 ⟨0,σ,H2,I2,st2,λb hb=>(f2 b hb).1,w0⟩
 rintro n s3 ⟨i,σ3,H3,I3,st3,fr3,w3⟩
 rcases turn i n σ3 H3 w3 with⟨stop,qn⟩ | ⟨go,N,hN,step⟩
 ·refine wpAny_passesOwn hp (Yy (T.done X rfl rfl rfl hc i pins s3 σ3 H3 X.xe I3 (stat fr3) st3 stop) λr s4 ⟨hr,I4⟩=>?_)
  subst hr
  exact wpAny_execs_nil ⟨σ3,H3,I4,qn⟩
 ·refine wpAny_passesOwn hp (Yy (T.item X rfl rfl rfl hc i pins s3 σ3 H3 X.xe I3 (stat fr3) st3 go) λr s4 ⟨u,hr,h4⟩=>?_)
  subst hr
  refine wpAny_passesOwn hp (Yy h4 λ_ s5 ⟨x,H5,I5,r5,y5,st5,fr5⟩=>?_)
  have I5':=I5.pinned (stat fr5) (T.obj _ _ st5)
  refine wpAny_passesOwn hp (Yy (hg _ s5 σ3 H5 x u _ I5' r5 (step x H5 y5)) λ_ s6 ⟨σ6,H6,I6,q6⟩=>?_)
  refine wpAny_passesOwn hp (Yy (hb _ s6 σ6 H6 _ I6 q6) λf s7 q7=>?_)
  have again:∀{σ7:St} {H7:Hp},Inv X (pins++K_ fp s5.heap) σ7 H7 s7→N σ7 H7→∃m,m<n∧∃i σ' H',Inv X pins σ' H' s7∧tn i s7.heap∧(∀b∈fp,H' b=none)∧W i m σ' H':=λ{σ7 H7} I7 n7=>by
   obtain⟨m',hm,w7⟩:=hN σ7 H7 n7
   refine⟨m',hm,i+1,σ7,H7,I7.Qu,T.keep _ _ _ st5 λb hb o e=>(I7.pin (b,o) (List.mem_append_right _ (List.mem_append_right _ (Vq hb e)))).1,λb hb=>?_,w7⟩
   obtain⟨o,e,d⟩:=T.obj _ _ st5 b hb
   exact(I7.pin (b,o) (List.mem_append_right _ (List.mem_append_right _ (Vq hb e)))).2.1
  cases f with
  |next=>obtain⟨σ7,H7,I7,n7⟩:=q7;exact again I7 n7
  |cont=>obtain⟨σ7,H7,I7,n7⟩:=q7;exact again I7 n7
  |brk=>obtain⟨σ7,H7,I7,q7⟩:=q7;exact⟨σ7,H7,I7.Qu,q7⟩
  |ret v=>obtain⟨x7,σ7,H7,I7,r7,q7⟩:=q7;exact⟨x7,σ7,H7,I7.Qu,r7,q7⟩
end
theorem MN {K:PySem.W.Frag} {a:Addr} {xs:List V} {g:TG} {tb:TS} {D:Ends} {σ:St} {H:Hp} (Pv:Nat→St→Hp→Prop) (h0:Pv 0 σ H) (hl:∀i σ H,i≤xs.length→Pv i σ H→ZJ K H a xs)
 (hs:∀i x σ H,xs[i]? =some x→Pv i σ H→g x σ H λσ2 H2=>tb {D with nx:=Pv (i+1),ct:=Pv (i+1),bk:=D.nx} σ2 H2) (hd:∀σ H,Pv xs.length σ H→D.nx σ H):
 ∃W:Nat→Nat→St→Hp→Prop,(∃m,W 0 m σ H)∧∀i m σ H,W i m σ H →
  ((dG K a).stop i H∧D.nx σ H)∨((dG K a).go i H∧∃N:St→Hp→Prop,(∀σ' H',N σ' H'→∃m',m'<m∧W (i+1) m' σ' H')∧∀x H',(dG K a).pW i H x H'→g x σ H' λσ2 H2=>tb {D with nx:=N,ct:=N,bk:=D.nx} σ2 H2):=by
 refine⟨λi m σ H=>m=xs.length-i∧i≤xs.length∧Pv i σ H,⟨xs.length,by simp,Nat.zero_le _,h0⟩,?_⟩
 rintro i m σ H ⟨rfl,hi,p⟩
 have q:=hl i σ H hi p
 by_cases hlt:i<xs.length
 ·refine .inr ⟨⟨xs,xs[i],q,by simp[hlt]⟩,Pv (i+1),λσ' H' p'=>⟨xs.length-(i+1),by omega,rfl,hlt,p'⟩,λx H' y=>?_⟩
  obtain⟨e,y⟩:=y
  subst e
  exact hs i x σ _ (y xs q) p
 ·have e:i=xs.length:=by omega
  subst e
  exact .inl ⟨⟨xs,q,Nat.le_refl _⟩,hd σ H p⟩
theorem Ud {lo:Int} {n:Nat} {g:TG} {tb:TS} {D:Ends} {σ:St} {H:Hp} (Pv:Nat→St→Hp→Prop) (h0:Pv 0 σ H)
 (hs:∀i σ H,i<n→Pv i σ H→g (.int (lo+i)) σ H λσ2 H2=>tb {D with nx:=Pv (i+1),ct:=Pv (i+1),bk:=D.nx} σ2 H2) (hd:∀σ H,Pv n σ H→D.nx σ H):
 ∃W:Nat→Nat→St→Hp→Prop,(∃m,W 0 m σ H)∧∀i m σ H,W i m σ H →
  ((dF lo n).stop i H∧D.nx σ H)∨((dF lo n).go i H∧∃N:St→Hp→Prop,(∀σ' H',N σ' H'→∃m',m'<m∧W (i+1) m' σ' H')∧∀x H',(dF lo n).pW i H x H'→g x σ H' λσ2 H2=>tb {D with nx:=N,ct:=N,bk:=D.nx} σ2 H2):=by
 refine⟨λi m σ H=>m=n-i∧i≤n∧Pv i σ H,⟨n,by simp,Nat.zero_le _,h0⟩,?_⟩
 rintro i m σ H ⟨rfl,hi,p⟩
 by_cases hlt:i<n
 ·refine .inr ⟨hlt,Pv (i+1),λσ' H' p'=>⟨n-(i+1),by omega,rfl,hlt,p'⟩,λx H' y=>?_⟩
  obtain⟨e,y⟩:=y
  subst e y
  exact hs i σ _ hlt p
 ·have e:i=n:=by omega
  subst e
  exact .inl ⟨Nat.le_refl _,hd σ H p⟩
end L2
namespace L2
open PySem PySem.Spec PyProof.Rows
abbrev R2:=V→V→Hp→VK→Prop
def Qt (X:Cx) (f:Value→Value→Sem Value) (r:R2):Prop:=
 ∀(pins:List (Addr×Obj)) (s:Shared) (σ:St) (H:Hp) (x y:V) (v u:Value) (Q:VK),Inv X pins σ H s→RelV x v→RelV y u→r x y H Q →
  wpAny (model X.prog X.w) X.A (f v u) (EP X pins σ Q) X.xe s
def UnR (X:Cx) (f:Value→Sem Value) (r:V→Hp→VK→Prop):Prop:=
 ∀(pins:List (Addr×Obj)) (s:Shared) (σ:St) (H:Hp) (x:V) (v:Value) (Q:VK),Inv X pins σ H s→RelV x v→r x H Q →
  wpAny (model X.prog X.w) X.A (f v) (EP X pins σ Q) X.xe s
def Xv (X:Cx) (f:Value) (r:List V→Hp→VK→Prop):Prop:=
 ∀(pins:List (Addr×Obj)) (s:Shared) (σ:St) (H:Hp) (xs:List V) (us:List Value) (Q:VK),Inv X pins σ H s→Vals xs us→r xs H Q →
  wpAny (model X.prog X.w) X.A (call f us) (EP X pins σ Q) X.xe s
def adY (X:Cx) (r:V→Hp→(Bool→Hp→Prop)→Prop):Prop:=
 ∀(pins:List (Addr×Obj)) (s:Shared) (σ:St) (H:Hp) (x:V) (v:Value) (Q:Bool→Hp→Prop),Inv X pins σ H s→RelV x v→r x H Q →
  wpAny (model X.prog X.w) X.A (truthy v) (TP X pins σ Q) X.xe s
def bD (r:R2) (ta tb:TE):TE:=λσ H Q=>ta σ H λx H1=>tb σ H1 λy H2=>r x y H2 Q
def tUn (r:V→Hp→VK→Prop) (ta:TE):TE:=λσ H Q=>ta σ H λx H1=>r x H1 Q
def rI (C:Int→Int→Prop) (g:Int→Int→V):R2:=λx y H Q=>∃i j,x= .int i∧y= .int j∧C i j∧Q (g i j) H
def dB (g:Int→Int→V):R2:=λx y H Q=>∃i j,x= .int i∧y= .int j∧Q (g i j) H
def rU (g:Int→V):V→Hp→VK→Prop:=λx H Q=>∃i,x= .int i∧Q (g i) H
section
variable {X:Cx} {a b c:Expr} {ta tb tc:TE} {pos:Pos}
theorem bC (ha:PE X a ta) (hb:PE X b tb) {pins:List (Addr×Obj)} {s:Shared} {σ:St} {H:Hp} {R:V→V→Hp→Prop} (I:Inv X pins σ H s)
 (h:ta σ H λx H1=>tb σ H1 λy H2=>R x y H2) {Q:Value→Shared→Prop} {f:Value→Value→Sem Value}
 (hf:∀v u s2 x y H2,Inv X pins σ H2 s2→RelV x v→RelV y u→R x y H2→wpAny (model X.prog X.w) X.A (f v u) Q X.xe s2):
 wpAny (model X.prog X.w) X.A (eval a X.env) (λv s₁=>wpAny (model X.prog X.w) X.A (eval b X.env) (λu s₂=>wpAny (model X.prog X.w) X.A (f v u) Q X.xe s₂) X.xe s₁) X.xe s:=by
 refine Yy (ha pins s σ H _ I h) λv s1 ⟨x,H1,I1,r1,q1⟩=>?_
 refine Yy (hb pins s1 σ H1 _ I1 q1) λu s2 ⟨y,H2,I2,r2,q2⟩=>?_
 exact hf v u s2 x y H2 I2 r1 r2 q2
theorem ZS {op:Operator} {r:R2} (ho:Qt X (binaryOp op) r) (ha:PE X a ta) (hb:PE X b tb):PE X (.BinOp a op b pos) (bD r ta tb):=by
 intro pins s σ H Q I h
 exact wpAny_BinOp (bC ha hb I h λv u s2 x y H2 I2 rx ry q=>ho pins s2 σ H2 x y v u Q I2 rx ry q)
theorem Jh {op:UnaryOp} {r:V→Hp→VK→Prop} (ho:UnR X (unaryOp op) r) (ha:PE X a ta):PE X (.UnaryOp op a pos) (tUn r ta):=by
 intro pins s σ H Q I h
 exact UnaryOp_ (Yy (ha pins s σ H _ I h) λv s1 ⟨x,H1,I1,r1,q1⟩=>ho pins s1 σ H1 x v Q I1 r1 q1)
theorem opI {f:Value→Value→Sem Value} {C:Int→Int→Prop} {g:Int→Int→Int}
 (rule:∀(i j:Int) (t u:Tok) (s:Shared) (Q:Value→Shared→Prop) (E:Value→Shared→Prop),C i j→Q (.int (g i j) s.toks) {s with toks:=s.toks+1}→wpAny (model X.prog X.w) X.A (f (.int i t) (.int j u)) Q E s):
 Qt X f (rI C λi j=> .int (g i j)):=by
 intro pins s σ H x y v u Q I rx ry h
 obtain⟨i,j,rfl,rfl,hc,q⟩:=h
 obtain⟨t,rfl⟩:=rx
 obtain⟨t',rfl⟩:=ry
 exact rule i j t t' s _ _ hc ⟨.int (g i j),H,I.tok _,⟨_,rfl⟩,q⟩
theorem abl {f:Value→Value→Sem Value} {g:Int→Int→Int}
 (rule:∀(i j:Int) (t u:Tok) (s:Shared) (Q:Value→Shared→Prop) (E:Value→Shared→Prop),Q (.int (g i j) s.toks) {s with toks:=s.toks+1}→wpAny (model X.prog X.w) X.A (f (.int i t) (.int j u)) Q E s):
 Qt X f (dB λi j=> .int (g i j)):=by
 intro pins s σ H x y v u Q I rx ry h
 obtain⟨i,j,rfl,rfl,q⟩:=h
 obtain⟨t,rfl⟩:=rx
 obtain⟨t',rfl⟩:=ry
 exact rule i j t t' s _ _ ⟨.int (g i j),H,I.tok _,⟨_,rfl⟩,q⟩
theorem ji {f:Value→Value→Sem Value} {g:Int→Int→Bool}
 (rule:∀(i j:Int) (t u:Tok) (s:Shared) (Q:Value→Shared→Prop) (E:Value→Shared→Prop),Q (.bool (g i j)) s→wpAny (model X.prog X.w) X.A (f (.int i t) (.int j u)) Q E s):
 Qt X f (dB λi j=> .bl (g i j)):=by
 intro pins s σ H x y v u Q I rx ry h
 obtain⟨i,j,rfl,rfl,q⟩:=h
 obtain⟨t,rfl⟩:=rx
 obtain⟨t',rfl⟩:=ry
 exact rule i j t t' s _ _ ⟨.bl (g i j),H,I,rfl,q⟩
def R_ (i j:Int):Prop:=0<j∧j<1073741824
def amr (i j:Int):Prop:=j≠0∧j.natAbs<1073741824
def R9 (i j:Int):Prop:=0≤j∧j≤1000000∧i.natAbs<2 ^ 64
def amN (i j:Int):Prop:=(-(2 ^ 64)<i∧i<2 ^ 64)∨(-(2 ^ 64)<j∧j<2 ^ 64)
theorem Zo:Qt X (binaryOp .Add) (dB λi j=> .int (i+j)):=abl λ_ _ _ _ _ _ _ q=>add_int q
theorem X7:Qt X (binaryOp .Sub) (dB λi j=> .int (i-j)):=abl λ_ _ _ _ _ _ _ q=>sub_int q
theorem Yb:Qt X (binaryOp .FloorDiv) (rI R_ λi j=> .int (i / j)):=opI λi j _ _ _ _ _ hc q=>by
 have h1:(0:Int)<j:=hc.1
 have h2:j<1073741824:=hc.2
 exact floordiv_int (by omega) (by rw[Int.fdiv_eq_ediv_of_nonneg i (by omega)];exact q) (.inl (PyProof.noPylong_small (by omega)))
theorem Yi:Qt X (binaryOp .Mod) (rI (λ_ j=>0<j) λi j=> .int (i % j)):=opI λi j _ _ _ _ _ hc q=>by
 have h1:(0:Int)<j:=hc
 exact mod_int' (by omega) (by rw[Int.fmod_eq_emod_of_nonneg i (by omega)];exact q)
theorem K9:Qt X (binaryOp .Pow) (rI R9 λi j=> .int (i ^ j.toNat)):=opI λ_ _ _ _ _ _ _ hc q=>pow_int_small hc.1 hc.2.1 hc.2.2 q
theorem unI {f:Value→Sem Value} {g:Int→Int}
 (rule:∀(i:Int) (t:Tok) (s:Shared) (Q:Value→Shared→Prop) (E:Value→Shared→Prop),Q (.int (g i) s.toks) {s with toks:=s.toks+1}→wpAny (model X.prog X.w) X.A (f (.int i t)) Q E s):
 UnR X f (rU λi=> .int (g i)):=by
 intro pins s σ H x v Q I rx h
 obtain⟨i,rfl,q⟩:=h
 obtain⟨t,rfl⟩:=rx
 exact rule i t s _ _ ⟨.int (g i),H,I.tok _,⟨_,rfl⟩,q⟩
theorem NQ:UnR X (unaryOp .USub) (rU λi=> .int (-i)):=unI λ_ _ _ _ _ q=>neg_int q
end
def abm:V→V→Bool
 | .non,.non=>true | .non,.int _=>true | .int _,.non=>true | .non,.bl _=>true | .bl _,.non=>true | .non,.str _=>true | .str _,.non=>true
 | .int _,.int _=>true | .bl _,.bl _=>true | .str _,.str _=>true | .Bw _,.Bw _=>true
 | .int _,.str _=>true | .str _,.int _=>true | .bl _,.str _=>true | .str _,.bl _=>true
 |_,_=>false
def rEq:R2:=λx y H Q=>abm x y=true∧Q (.bl (decide (x=y))) H
def rNe:R2:=λx y H Q=>abm x y=true∧Q (.bl (!decide (x=y))) H
theorem vg {i j:Int}:decide (V.int i=V.int j)=(i==j):=by
 rw[Bool.eq_iff_iff]
 simp
theorem pU {i j:Bool}:decide (V.bl i=V.bl j)=(i==j):=by
 rw[Bool.eq_iff_iff]
 simp
theorem vf {i j:Str}:decide (V.str i=V.str j)=(i==j):=by
 rw[Bool.eq_iff_iff]
 simp
theorem vd {i j:Array UInt8}:decide (V.Bw i=V.Bw j)=(i.toList==j.toList):=by
 rw[Bool.eq_iff_iff]
 cases i
 cases j
 simp
section
variable {X:Cx} {a b c:Expr} {ta tb tc:TE} {pos:Pos}
theorem Y8 {pins:List (Addr×Obj)} {σ:St} {H:Hp} {s:Shared} {Q:VK} {k k':Bool} (I:Inv X pins σ H s) (q:Q (.bl k) H) (e:k=k'):EP X pins σ Q (.bool k') s:=by
 subst e
 exact⟨.bl k,H,I,rfl,q⟩
theorem YJ:Qt X (compareOp .Eq) rEq:=by
 intro pins s σ H x y v u Q I rx ry h
 obtain⟨hs,q⟩:=h
 cases x with
 |non =>
  cases rx
  cases y with
  |non=>cases ry;exact PySem.EqNone.eq_none_none (Y8 I q (by simp))
  |bl j=>cases ry;exact PySem.EqNone.eq_none_bool (Y8 I q (by simp))
  |int j=>obtain⟨t',rfl⟩:=ry;exact PySem.EqNone.eq_none_int (Y8 I q (by simp))
  |str j=>obtain⟨t',rfl⟩:=ry;exact PySem.EqNone.eq_none_str (Y8 I q (by simp))
  |_=>exact absurd (show false=true from hs) Bool.false_ne_true
 |bl i =>
  cases rx
  cases y with
  |non=>cases ry;exact PySem.EqNone.eq_bool_none (Y8 I q (by simp))
  |bl j=>cases ry;exact eq_bool (Y8 I q pU)
  |str j=>obtain⟨t',rfl⟩:=ry;exact PySem.EqMixed.eq_bool_str (Y8 I q (by simp))
  |_=>exact absurd (show false=true from hs) Bool.false_ne_true
 |int i =>
  obtain⟨t,rfl⟩:=rx
  cases y with
  |non=>cases ry;exact PySem.EqNone.eq_int_none (Y8 I q (by simp))
  |int j=>obtain⟨t',rfl⟩:=ry;exact eq_int (Y8 I q vg)
  |str j=>obtain⟨t',rfl⟩:=ry;exact PySem.EqMixed.eq_int_str (Y8 I q (by simp))
  |_=>exact absurd (show false=true from hs) Bool.false_ne_true
 |str i =>
  obtain⟨t,rfl⟩:=rx
  cases y with
  |non=>cases ry;exact PySem.EqNone.eq_str_none (Y8 I q (by simp))
  |bl j=>cases ry;exact PySem.EqMixed.eq_str_bool (Y8 I q (by simp))
  |int j=>obtain⟨t',rfl⟩:=ry;exact PySem.EqMixed.eq_str_int (Y8 I q (by simp))
  |str j=>obtain⟨t',rfl⟩:=ry;exact eq_str (Y8 I q vf)
  |_=>exact absurd (show false=true from hs) Bool.false_ne_true
 |Bw i =>
  obtain⟨t,rfl⟩:=rx
  cases y with
  |Bw j=>obtain⟨t',rfl⟩:=ry;exact PySem.W.eq_bytes (Y8 I q vd)
  |_=>exact absurd (show false=true from hs) Bool.false_ne_true
 |_=>cases y<;>exact absurd (show false=true from hs) Bool.false_ne_true
theorem Bs:Qt X (compareOp .NotEq) rNe:=by
 intro pins s σ H x y v u Q I rx ry h
 obtain⟨hs,q⟩:=h
 cases x with
 |non =>
  cases rx
  cases y with
  |non=>cases ry;exact PySem.EqNone.ne_none_none (Y8 I q (by simp))
  |bl j=>cases ry;exact PySem.EqNone.ne_none_bool (Y8 I q (by simp))
  |int j=>obtain⟨t',rfl⟩:=ry;exact PySem.EqNone.ne_none_int (Y8 I q (by simp))
  |str j=>obtain⟨t',rfl⟩:=ry;exact PySem.EqNone.ne_none_str (Y8 I q (by simp))
  |_=>exact absurd (show false=true from hs) Bool.false_ne_true
 |bl i =>
  cases rx
  cases y with
  |non=>cases ry;exact PySem.EqNone.ne_bool_none (Y8 I q (by simp))
  |bl j=>cases ry;exact ne_bool (Y8 I q (congrArg not pU))
  |str j=>obtain⟨t',rfl⟩:=ry;exact PySem.EqMixed.ne_bool_str (Y8 I q (by simp))
  |_=>exact absurd (show false=true from hs) Bool.false_ne_true
 |int i =>
  obtain⟨t,rfl⟩:=rx
  cases y with
  |non=>cases ry;exact PySem.EqNone.ne_int_none (Y8 I q (by simp))
  |int j=>obtain⟨t',rfl⟩:=ry;exact ne_int (Y8 I q (congrArg not vg))
  |str j=>obtain⟨t',rfl⟩:=ry;exact PySem.EqMixed.ne_int_str (Y8 I q (by simp))
  |_=>exact absurd (show false=true from hs) Bool.false_ne_true
 |str i =>
  obtain⟨t,rfl⟩:=rx
  cases y with
  |non=>cases ry;exact PySem.EqNone.ne_str_none (Y8 I q (by simp))
  |bl j=>cases ry;exact PySem.EqMixed.ne_str_bool (Y8 I q (by simp))
  |int j=>obtain⟨t',rfl⟩:=ry;exact PySem.EqMixed.ne_str_int (Y8 I q (by simp))
  |str j=>obtain⟨t',rfl⟩:=ry;exact ne_str (Y8 I q (congrArg not vf))
  |_=>exact absurd (show false=true from hs) Bool.false_ne_true
 |Bw i =>
  obtain⟨t,rfl⟩:=rx
  cases y with
  |Bw j=>obtain⟨t',rfl⟩:=ry;exact PySem.W.ne_bytes (Y8 I q (congrArg not vd))
  |_=>exact absurd (show false=true from hs) Bool.false_ne_true
 |_=>cases y<;>exact absurd (show false=true from hs) Bool.false_ne_true
theorem Og:Qt X (compareOp .Lt) (dB λi j=> .bl (decide (i<j))):=ji λ_ _ _ _ _ _ _ q=>lt_int q
theorem Vx:Qt X (compareOp .LtE) (dB λi j=> .bl (decide (i≤j))):=ji λ_ _ _ _ _ _ _ q=>le_int q
theorem Fv:Qt X (compareOp .Gt) (dB λi j=> .bl (decide (j<i))):=ji λ_ _ _ _ _ _ _ q=>gt_int q
theorem dz:Qt X (compareOp .GtE) (dB λi j=> .bl (decide (j≤i))):=ji λ_ _ _ _ _ _ _ q=>ge_int q
theorem Ft:Qt X (compareOp .In) (λx y H Q=>∃i j,x= .str i∧y= .str j∧Q (.bl (!(Builtin.Str.occurrences j i 0 j.length 1).isEmpty)) H):=by
 intro pins s σ H x y v u Q I rx ry h
 obtain⟨i,j,rfl,rfl,q⟩:=h
 obtain⟨t,rfl⟩:=rx
 obtain⟨t',rfl⟩:=ry
 exact in_str (Y8 I q rfl)
theorem bB:Qt X (compareOp .Is) (λx y H Q=>y= .non∧Q (.bl (decide (x= .non))) H):=by
 intro pins s σ H x y v u Q I rx ry h
 obtain⟨rfl,q⟩:=h
 cases ry
 refine is_none_gen (Y8 I q ?_)
 cases x<;>first
  | (cases rx;rfl)
  | (obtain⟨t,rfl⟩:=rx;rfl)
def isObj:HO→Bool
 | .lst _=>true
 | .ins _ _ _=>true
 |_=>false
theorem Zv (b:Expr) {op:CmpOp} (h:op≠ .In:=by decide) (h2:op≠ .NotIn:=by decide):behindInMarks op b=false:=by
 have e1:(op==CmpOp.In)=false:=by cases op<;>first |rfl |exact absurd rfl h
 have e2:(op==CmpOp.NotIn)=false:=by cases op<;>first |rfl |exact absurd rfl h2
 cases b<;>simp[behindInMarks,e1,e2]
theorem V3 {op:CmpOp} {r:R2} (ho:Qt X (compareOp op) r) (ha:PE X a ta) (hb:PE X b tb) (hm:behindInMarks op b=false):PE X (.Compare a [op] [b] pos) (bD r ta tb):=by
 intro pins s σ H Q I h
 exact wpAny_Compare1 (bC ha hb I h λv u s2 x y H2 I2 rx ry q=>ho pins s2 σ H2 x y v u Q I2 rx ry q) hm
def pR (t:TE):TT:=λσ H Q=>t σ H λx H'=>∃k,x= .bl k∧Q k H'
theorem Zu {op:CmpOp} {r:R2} (ho:Qt X (compareOp op) r) (ha:PE X a ta) (hb:PE X b tb) (hm:behindInMarks op b=false):PT X (.Compare a [op] [b] pos) (pR (bD r ta tb)):=by
 intro pins s σ H Q I h
 refine wpAny_isTrue_Compare1 (Yy (ha pins s σ H _ I h) λv s1 ⟨x,H1,I1,r1,q1⟩=>Yy (hb pins s1 σ H1 _ I1 q1) λu s2 ⟨y,H2,I2,r2,q2⟩ =>
  Yy (ho pins s2 σ H2 x y v u _ I2 r1 r2 q2) λc s3 ⟨z,H3,I3,r3,k,e,q3⟩=>?_) hm
 subst e
 cases r3
 exact wpAny_truthy_bool ⟨H3,I3,q3⟩
def pQ (r r':R2) (ta tb tc:TE):TE:=λσ H Q=>ta σ H λx H1=>tb σ H1 λy H2=>r x y H2 λz H3=>∃k,z= .bl k ∧
 (if k=true then tc σ H3 λw' H4=>r' y w' H4 Q else Q (.bl false) H3)
theorem Br {op op':CmpOp} {r r':R2} (ho:Qt X (compareOp op) r) (ho':Qt X (compareOp op') r') (ha:PE X a ta) (hb:PE X b tb) (hc:PE X c tc)
 (hm:lastMarks [op,op'] [b,c]=false:=by with_unfolding_all rfl):PE X (.Compare a [op,op'] [b,c] pos) (pQ r r' ta tb tc):=by
 intro pins s σ H Q I h
 refine Compare_chain (Yy (ha pins s σ H _ I h) λv s1 ⟨x,H1,I1,r1,q1⟩=>chain_link (Yy (hb pins s1 σ H1 _ I1 q1) λu s2 ⟨y,H2,I2,r2,q2⟩ =>
  Yy (ho pins s2 σ H2 x y v u _ I2 r1 r2 q2) λd s3 ⟨z,H3,I3,r3,k,e,q3⟩=>?_)) hm
 subst e
 cases r3
 refine wpAny_truthy_bool ?_
 cases k with
 |false=>exact ite_ff ⟨.bl false,H3,I3,rfl,q3⟩
 |true=>exact ite_tt (chain_last (Yy (hc pins s3 σ H3 _ I3 q3) λw' s4 ⟨z',H4,I4,r4,q4⟩=>ho' pins s4 σ H4 y z' u w' Q I4 r2 r4 q4))
theorem TX {op op':CmpOp} {r r':R2} (ho:Qt X (compareOp op) r) (ho':Qt X (compareOp op') r') (ha:PE X a ta) (hb:PE X b tb) (hc:PE X c tc)
 (hm:lastMarks [op,op'] [b,c]=false:=by with_unfolding_all rfl):PT X (.Compare a [op,op'] [b,c] pos) (pR (pQ r r' ta tb tc)):=by
 intro pins s σ H Q I h
 refine isTrue_chain (Yy (ha pins s σ H _ I h) λv s1 ⟨x,H1,I1,r1,q1⟩=>test_link (Yy (hb pins s1 σ H1 _ I1 q1) λu s2 ⟨y,H2,I2,r2,q2⟩ =>
  Yy (ho pins s2 σ H2 x y v u _ I2 r1 r2 q2) λd s3 ⟨z,H3,I3,r3,k,e,q3⟩=>?_)) hm
 subst e
 cases r3
 refine wpAny_truthy_bool ?_
 cases k with
 |false =>
  obtain⟨k',e',q'⟩:=q3
  cases e'
  exact ite_ff ⟨H3,I3,q'⟩
 |true =>
  refine ite_tt (test_last (Yy (hc pins s3 σ H3 _ I3 q3) λw' s4 ⟨z',H4,I4,r4,q4⟩=>Yy (ho' pins s4 σ H4 y z' u w' _ I4 r2 r4 q4) λd' s5 ⟨z2,H5,I5,r5,k2,e2,q5⟩=>?_))
  subst e2
  cases r5
  exact wpAny_truthy_bool ⟨H5,I5,q5⟩
def bx (K:PySem.W.Frag) (x:V) (H:Hp) (k:Bool):Prop:=
 match x with
 | .non=>k=false
 | .bl b=>k=b
 | .int i=>k=(i != 0)
 | .str y=>y.length≤sizeLine∧k=((y.length:Int) != 0)
 | .Bw y=>y.size≤sizeLine∧k=((y.size:Int) != 0)
 | .ref p=>(∃xs,ZJ K H p xs∧k= !xs.isEmpty)∨(∃xs,TY K H p xs∧k= !xs.isEmpty)∨∃kvs,H p=some (.dK kvs)∧k= !kvs.isEmpty
 |_=>False
theorem xY {κ:Type} {kvs:List (κ×V)} {vs:List (κ×Value)} (r:KV kvs vs):(!vs.isEmpty)= !kvs.isEmpty:=by
 cases r<;>rfl
theorem Jg {xs:List V} {its:List Value} (r:Vals xs its):(!its.toArray.isEmpty)= !xs.isEmpty:=by
 cases r<;>simp
theorem NP:(sizeLine:Nat)<2 ^ 63:=by rw[sizeLine_eq];decide
theorem bh:adY X (λx H Q=>∃k,bx X.K x H k∧Q k H):=by
 intro pins s σ H x v Q I rx h
 obtain⟨k,e,q⟩:=h
 have hl:=NP
 have hs:sizeLine=16777216:=sizeLine_eq
 cases x with
 |non =>
  cases rx
  have e':k=false:=e
  subst e'
  exact truthy_none ⟨H,I,q⟩
 |bl b =>
  cases rx
  have e':k=b:=e
  subst e'
  exact wpAny_truthy_bool ⟨H,I,q⟩
 |int i =>
  obtain⟨t,rfl⟩:=rx
  have e':k=(i != 0):=e
  subst e'
  exact PySem.P.truthy_int ⟨H,I,q⟩
 |str y =>
  obtain⟨t,rfl⟩:=rx
  obtain⟨hy,e'⟩:y.length≤sizeLine∧k=((y.length:Int) != 0):=e
  subst e'
  exact PySem.P.truthy_str (by omega) ⟨H,I.tok _,q⟩
 |Bw y =>
  obtain⟨t,rfl⟩:=rx
  obtain⟨hy,e'⟩:y.size≤sizeLine∧k=((y.size:Int) != 0):=e
  subst e'
  exact PySem.W.truthy_bytes (by omega) ⟨H,I.tok _,q⟩
 |ref p =>
  cases rx
  have e':(∃xs,ZJ X.K H p xs∧k= !xs.isEmpty)∨(∃xs,TY X.K H p xs∧k= !xs.isEmpty)∨∃kvs,H p=some (.dK kvs)∧k= !kvs.isEmpty:=e
  rcases e' with⟨xs,hx,e'⟩ | ⟨xs,hx,e'⟩ | ⟨kvs,hx,e'⟩
  ·subst e'
   obtain⟨its,r,pl,hz⟩:=I.list hx
   have hlen:=r.length
   exact wpAny_truthy_list pl.isList (by simp only[List.size_toArray];omega) ⟨H,I.tok _,by rw[Jg r];exact q⟩
  ·subst e'
   obtain⟨its,r,pl,hz⟩:=I.tuple hx
   have hlen:=r.length
   exact truthy_tuple pl (by simp only[List.size_toArray];omega) ⟨H,I.tok _,by rw[Jg r];exact q⟩
  ·subst e'
   obtain⟨hz,hS,vs,r,m⟩:kvs.length≤sizeLine∧(p==sysModules)=false∧∃vs,KV kvs vs∧s.heap.DictOf (DW X.prog X.w) p vs:=I.hok p _ hx
   have hlen:kvs.length=vs.length:=Paired.length r
   exact wpAny_truthy_dict hS m (by omega) ⟨H,I.tok _,by rw[xY r];exact q⟩
 |_=>exact(show False from e).elim
theorem pP (ha:PE X a ta) (he:∀whole,isTrue a X.env whole=(do let v ←whole;standAt a.pos;holding [v] (truthy v))):
 PT X a (λσ H Q=>ta σ H λx H'=>∃k,bx X.K x H' k∧Q k H'):=by
 intro pins s σ H Q I h
 exact isTrue_plain (Yy (ha pins s σ H _ I h) λv s1 ⟨x,H1,I1,r1,q1⟩=>bh pins s1 σ H1 x v Q I1 r1 q1) (he _)
theorem Zt:Qt X (binaryOp .Add) (λx y H Q=>∃i j,x= .str i∧y= .str j∧i.length+j.length≤sizeLine∧Q (.str (i++j)) H):=by
 intro pins s σ H x y v u Q I rx ry h
 obtain⟨i,j,rfl,rfl,hz,q⟩:=h
 obtain⟨t,rfl⟩:=rx
 obtain⟨t',rfl⟩:=ry
 exact add_str (λt' tk=>⟨.str (i++j),H,I.tok _,⟨_,rfl⟩,q⟩) hz
def abn (b:Expr):Prop:=∀o i,subscripted b false o i=operate [o,i] (getItem o i)
theorem vals1 {x:V} {us:List Value} (r:Vals [x] us):∃u,us=[u]∧RelV x u:=by
 cases r with
 |cons r1 r2=>cases r2;exact⟨_,rfl,r1⟩
theorem vals2 {x y:V} {us:List Value} (r:Vals [x,y] us):∃u w',us=[u,w']∧RelV x u∧RelV y w':=by
 cases r with
 |cons r1 r2 =>
  cases r2 with
  |cons r3 r4=>cases r4;exact⟨_,_,rfl,r1,r3⟩
theorem RZ:Xv X (.builtin "abs") (λxs H Q=>∃i,xs=[.int i]∧Q (.int (if i<0 then -i else i)) H):=by
 intro pins s σ H xs us Q I r h
 obtain⟨i,rfl,q⟩:=h
 obtain⟨u,rfl,t,rfl⟩:=vals1 r
 exact call_abs_int λu tk=>⟨.int (if i<0 then -i else i),H,I.tok _,⟨_,rfl⟩,q⟩
theorem sV (hc:X.calm=true):Xv X (.builtin "min") (λxs H Q=>∃i j,xs=[.int i,.int j]∧Q (.int (if j<i then j else i)) H):=by
 intro pins s σ H xs us Q I r h
 obtain⟨i,j,rfl,q⟩:=h
 obtain⟨u,w',rfl,⟨t,rfl⟩,⟨t',rfl⟩⟩:=vals2 r
 refine min_two_ints (I.ok.hd hc) λh' tk k=>⟨_,H,I.kept k,?_,q⟩
 by_cases hj:j<i
 ·rw[if_pos hj,if_pos hj];exact⟨_,rfl⟩
 ·rw[if_neg hj,if_neg hj];exact⟨_,rfl⟩
theorem sU:Xv X (.type "int") (λxs H Q=>(∃i,xs=[.int i]∧Q (.int i) H)∨∃k,xs=[.bl k]∧Q (.int (if k then 1 else 0)) H):=by
 intro pins s σ H xs us Q I r h
 rcases h with⟨i,rfl,q⟩ | ⟨k,rfl,q⟩
 ·obtain⟨u,rfl,t,rfl⟩:=vals1 r
  exact call_int_int ⟨.int i,H,I,⟨_,rfl⟩,q⟩
 ·obtain⟨u,rfl,r1⟩:=vals1 r
  cases r1
  exact call_int_bool ⟨.int (if k then 1 else 0),H,I.tok _,⟨_,rfl⟩,q⟩
theorem Ze:Xv X (.type "str") (λxs H Q=>∃i,xs=[.int i]∧i.natAbs.log2<1920∧Q (.str (toString i)) H):=by
 intro pins s σ H xs us Q I r h
 obtain⟨i,rfl,hz,q⟩:=h
 obtain⟨u,rfl,t,rfl⟩:=vals1 r
 exact PySem.P.str_of_int hz ⟨.str _,H,I.tok _,⟨_,rfl⟩,q⟩
def amO (K:PySem.W.Frag) (x:V) (H:Hp) (n:Nat):Prop:=
 match x with
 | .str y=>y.length≤sizeLine∧n=y.length
 | .Bw y=>y.size≤sizeLine∧n=y.size
 | .ref p=>(∃xs,ZJ K H p xs∧n=xs.length)∨∃xs,TY K H p xs∧n=xs.length
 |_=>False
end
end L2
namespace L2
open PySem PySem.Spec PyProof.Rows
structure xX (h:Heap) (x dx C:Addr) (mA:Str→Option Value):Prop where
 obj:h.get? x=some (PySem.W.instObj C dx)
 ns:h.Ns1 dx mA
 ne:dx≠x
theorem sS {h:Heap} {dx:Addr} {mA:Str→Option Value} (n:h.Ns1 dx mA):∃od,h.get? dx=some od∧∀name,PySem.W.lookIn name od=some (mA name):=by
 obtain⟨o,es,ep,ho,hd,hk,_,hm⟩:=n
 refine⟨o,ho,λname=>?_⟩
 have e:=hm name
 unfold nsFind findBy at e
 rw[←Array.find?_toList]at e
 unfold PySem.W.lookIn
 rw[hd]
 dsimp only
 split
 ·rename_i y q
  rw[q]at e
  exact congrArg some e
 ·rename_i q
  rw[q]at e
  have a:es.toList.any (·.refKey)=false:=by
   rw[List.any_eq_false]
   intro y hy
   obtain⟨z,t,hkey⟩:=hk y (Array.mem_toList_iff.mp hy)
   simp[DictEntry.refKey,hkey]
  have a':¬es.toList.any (·.refKey)=true:=by rw[a];exact Bool.false_ne_true
  rw[if_neg a']
  exact congrArg some e
theorem xX.look {h:Heap} {x dx C:Addr} {mA:Str→Option Value} (I:xX h x dx C mA):∃od,PySem.W.InstAt h x (PySem.W.instObj C dx) C (some od)∧∀name,PySem.W.lookIn name od=some (mA name):=
 let ⟨od,ho,hl⟩:=sS I.ns
 ⟨od,⟨I.obj,rfl,rfl,ho⟩,hl⟩
section
variable {prog:Program} {w:World} {A:Around} {E:Value→Shared→Prop} {s:Shared} {K:PySem.W.Frag} {x dx C f:Addr} {mA:Str→Option Value} {name:Str} {v:Value}
theorem get_map {expr:Bool} {Q:Value→Shared→Prop} (X:K.In s.heap) (I:xX s.heap x dx C mA) (hg:PySem.W.plainGet K C name=true) (hh:PySem.W.hasDictIn K C=true)
 (ha:PySem.W.findIn K (.ref C) name=some none) (hv:mA name=some v) (hv':PySem.W.handedIn v=true) (h:Q v {s with toks:=s.toks+1}):
 wpAny (model prog w) A (getAttr (.ref x) name expr) Q E s:=by
 obtain⟨od,J,hl⟩:=I.look
 exact PySem.W.get_value X J (PySem.W.plainGet_of hg).1 (PySem.W.findObj_own hh ha rfl (by rw[hl,hv])) hv' h
theorem pO {pl:Sem Bool} {Q:Value×List Value→Shared→Prop} (X:K.In s.heap) (I:xX s.heap x dx C mA) (hg:PySem.W.plainGet K C name=true)
 (hf:PySem.W.findIn K (.ref C) name=some (some (.ref f))) (ht:PySem.W.isFn K (.ref f)=true) (hv:mA name=none) (h:Q (.ref f,[.ref x]) s):
 wpAny (model prog w) A (getMethod (.ref x) name pl) Q E s:=by
 obtain⟨od,J,hl⟩:=I.look
 exact PySem.W.method_fn X J (PySem.W.plainGet_of hg).1 (PySem.W.plainGet_of hg).2 hf (beq_iff_eq.mp ht) (by show(PySem.W.lookIn name od).map (·.isSome)=some false;rw[hl,hv];rfl) h
theorem jh {ns:List Str} {Q:Unit→Shared→Prop} (X:K.In s.heap) (I:xX s.heap x dx C mA)
 (hs:PySem.W.findIn K (.ref C) "__setattr__"=some (some (.builtin "object.__setattr__"))) (hp:PySem.W.plainOver K C=true) (ht:PySem.W.takerIn K C name=some none) (hh:PySem.W.hasDictIn K C=true)
 (hw:PySem.Within mA ns) (hsz:ns.length≤sizeLine)
 (h:∀h',xX h' x dx C (λy=>if y=name then some v else mA y)→Heap.SameBut dx s.heap h'→Q () {s with heap:=h',toks:=s.toks+2}):
 wpAny (model prog w) A (setAttr (.ref x) name v) Q E s:=by
 obtain⟨od,J,hl⟩:=I.look
 refine PySem.W.set_plain X J hs (PySem.W.osa_open (s:={s with toks:=s.toks+1}) (r:=none) X J hp ht λb=>?_)
 obtain⟨cd,hc,hd'⟩:=PySem.W.any_some hh
 have hx:s.heap.get? x=some ⟨.ref C,some dx,.plain,#[]⟩:=I.obj
 refine wpAny_bind (wpAny_pure (wpAny_bind (wpAny_bind (wpAny_loadPart hx (wpAny_bind (PySem.W.Looks.here (s:={s with toks:=s.toks+1}) (PySem.W.looks_clsIn X hc) ?_))))))
 rw[hd']
 refine wpAny_pure (a:=some dx) (wpAny_bind (wpAny_pure (wpAny_bind ?_)))
 refine wpAny_nsSet1 (s:={s with toks:=s.toks+1}) I.ns λh' hn2 hs2=>?_
 obtain⟨oD,esD,epD,hoD,hdD,hcD⟩:=hn2.count (PySem.Within.cons name v hw)
 refine wpAny_bind (wpAny_lookBehind hoD (by rw[hdD];exact pastItsLine_dict (Nat.le_trans hcD (by rw[List.length_cons];omega))) ?_)
 exact wpAny_pure (h _ ⟨(hs2.2 _ (Ne.symm I.ne)).trans I.obj,hn2,I.ne⟩ hs2)
theorem Bq {R:Result→Shared→Prop} {vs:List Value} {kw:List (Str×Value)} (X:K.In s.heap) (hm:PySem.W.makesIn K C=true)
 (hi:PySem.W.findIn K (.ref C) "__init__"=some (some (.ref f))) (hf:PySem.W.typeIn K (.ref f)=some (.type "function"))
 (h:codeAny (model prog w) (A.under (.builtin "type.__call__" ⟨.ref C :: vs,kw⟩)) (.call (.ref f) ⟨.ref (s.heap.objs.size+1) :: vs,kw⟩) (PySem.W.InitBack (s.heap.objs.size+1) R)
  {s with heap:=(s.heap.push PySem.W.emptyDict).push (PySem.W.instObj C s.heap.objs.size)}):
 codeAny (model prog w) A (.call (.ref C) ⟨vs,kw⟩) R s:=by
 obtain⟨hh,g,d,t,os⟩:=s
 exact PySem.W.make_core (PySem.W.makes_of X hm) (PySem.W.looks_findIn X hi) (λself=>PySem.W.bind_fn X self hf) (.inl rfl) h
end
def Qs (f:Str) (v:V):List (Str×V)→List (Str×V)
 | []=>[(f,v)]
 | (g,x) :: r=>if g=f then(g,v) :: r else(g,x) :: Qs f v r
theorem Ke (f g:Str) (v:V):∀fs:List (Str×V),(Qs f v fs).lookup g=if g=f then some v else fs.lookup g
 | []=>by
   show List.lookup g [(f,v)]=_
   by_cases h:g=f
   ·have hb:(g==f)=true:=beq_iff_eq.mpr h
    simp only[List.lookup,hb,if_pos h]
   ·have hb:(g==f)=false:=beq_eq_false_iff_ne.mpr h
    simp only[List.lookup,hb,if_neg h]
 | (k,x) :: r=>by
   have ih:=Ke f g v r
   rw[show Qs f v ((k,x) :: r)=(if k=f then(k,v) :: r else(k,x) :: Qs f v r)from rfl]
   by_cases hk:k=f
   ·rw[if_pos hk]
    by_cases h:g=k
    ·have hb:(g==k)=true:=beq_iff_eq.mpr h
     simp only[List.lookup,hb,if_pos (h.trans hk)]
    ·have hb:(g==k)=false:=beq_eq_false_iff_ne.mpr h
     simp only[List.lookup,hb,if_neg (λe:g=f=>h (e.trans hk.symm))]
   ·rw[if_neg hk]
    by_cases h:g=k
    ·have hb:(g==k)=true:=beq_iff_eq.mpr h
     simp only[List.lookup,hb,if_neg (λe:g=f=>hk (h.symm.trans e))]
    ·have hb:(g==k)=false:=beq_eq_false_iff_ne.mpr h
     simp only[List.lookup,hb]
     exact ih
theorem K8 (f:Str) (v:V):∀fs:List (Str×V),f∈(Qs f v fs).map (·.1)∧∀g,g∈fs.map (·.1)→g∈(Qs f v fs).map (·.1)
 | []=>⟨by simp[Qs],λg h=>by simp at h⟩
 | (k,x) :: r=>by
   obtain⟨i1,i2⟩:=K8 f v r
   rw[show Qs f v ((k,x) :: r)=(if k=f then(k,v) :: r else(k,x) :: Qs f v r)from rfl]
   by_cases hk:k=f
   ·rw[if_pos hk]
    subst hk
    exact⟨by simp,λg h=>by simpa using h⟩
   ·rw[if_neg hk]
    refine⟨?_,λg h=>?_⟩
    ·rw[List.map_cons]
     exact List.mem_cons_of_mem _ i1
    ·rw[List.map_cons]at h ⊢
     rcases List.mem_cons.mp h with e |e
     ·exact List.mem_cons.mpr (.inl e)
     ·exact List.mem_cons_of_mem _ (i2 g e)
theorem Kc (f:Str) (v:V):∀fs:List (Str×V),(Qs f v fs).length≤fs.length+1
 | []=>by simp[Qs]
 | (k,x) :: r=>by
   have ih:=Kc f v r
   rw[show Qs f v ((k,x) :: r)=(if k=f then(k,v) :: r else(k,x) :: Qs f v r)from rfl]
   by_cases hk:k=f
   ·rw[if_pos hk,List.length_cons,List.length_cons];omega
   ·rw[if_neg hk,List.length_cons,List.length_cons];omega
theorem Gv.some_of {v:V} {o:Option Value} (r:Gv (some v) o):∃u,o=some u∧RelV v u:=by
 cases o with
 |none=>exact(show False from r).elim
 |some u=>exact⟨u,rfl,r⟩
theorem Gv.none_of {o:Option Value} (r:Gv none o):o=none:=by
 cases o with
 |none=>rfl
 |some u=>exact(show False from r).elim
theorem sO {v:V} {u:Value} (r:RelV v u):PySem.W.handedIn u=true:=by
 cases v with
 |non=>cases(show u=Value.none from r);rfl
 |bl b=>cases(show u=Value.bool b from r);rfl
 |int i=>obtain⟨t,e⟩:=(show ∃t,u=Value.int i t from r);cases e;rfl
 |str x=>obtain⟨t,e⟩:=(show ∃t,u=Value.str x t from r);cases e;rfl
 |Bw b=>obtain⟨t,e⟩:=(show ∃t,u=Value.bytes b t from r);cases e;rfl
 |flt b=>obtain⟨t,e⟩:=(show ∃t,u=Value.float b t from r);cases e;rfl
 |ref a=>cases(show u=Value.ref a from r);rfl
 |ty n=>cases(show u=Value.type n from r);rfl
section
variable {P:Program} {w:World} {H H':Hp} {h h':Heap} {a C dx:Addr} {fs fs':List (Str×V)}
theorem Jr (hok:Qz P w H h) (e:H a=some (.ins C dx fs)):∃mA,xX h a dx C mA∧(∀f,Gv (fs.lookup f) (mA f))∧PySem.Within mA (fs.map (·.1))∧fs.length≤1000∧H dx=some (.own a):=by
 obtain⟨d,z,ne,ob,mA,n,r,q⟩:=(show Xe P w H h a (.ins C dx fs)from hok a _ e)
 exact⟨mA,⟨ob,n,ne⟩,r,q,z,d⟩
end
structure Cls (K:PySem.W.Frag) (C:Addr):Prop where
 pg:PySem.W.plainGet K C Str.empty=true
 hd:PySem.W.hasDictIn K C=true
 po:PySem.W.plainOver K C=true
 sa:PySem.W.findIn K (.ref C) "__setattr__"=some (some (.builtin "object.__setattr__"))
theorem Cls.get {K:PySem.W.Frag} {C:Addr} (c:Cls K C) (f:Str):PySem.W.plainGet K C f=true:=c.pg
def R8 (K:PySem.W.Frag) (C:Addr) (f:Str):Prop:=PySem.W.findIn K (.ref C) f=some none
theorem R8.taker {K:PySem.W.Frag} {C:Addr} {f:Str} (n:R8 K C f):PySem.W.takerIn K C f=some none:=by
 unfold PySem.W.takerIn
 rw[show PySem.W.findIn K (.ref C) f=some none from n]
 rfl
structure Con (K:PySem.W.Frag) (C:Addr) (f:Str) (v:V) (u:Value):Prop where
 at_:PySem.W.findIn K (.ref C) f=some (some u)
 rel:RelV v u
 get:PySem.W.specialIn K u "__get__"=some none
 cp:PySem.W.copiedNames.contains f=false
structure Meth (K:PySem.W.Frag) (C:Addr) (m:Str) (f:Addr):Prop where
 at_:PySem.W.findIn K (.ref C) m=some (some (.ref f))
 fn:PySem.W.isFn K (.ref f)=true
 kp:PySem.W.keepIn K (.ref f)=true
section
variable {X:Cx} {pins:List (Addr×Obj)} {σ:St} {H:Hp} {s:Shared} {a C dx:Addr} {fs:List (Str×V)} {f:Str} {v:V} {A:Around} {E:Value→Shared→Prop}
theorem xV {b:Bool} {Q:Value→Shared→Prop} (I:Inv X pins σ H s) (e:H a=some (.ins C dx fs)) (c:Cls X.K C) (n:R8 X.K C f) (l:fs.lookup f=some v)
 (h:∀u s',Inv X pins σ H s'→RelV v u→Q u s'):wpAny (model X.prog X.w) A (getAttr (.ref a) f b) Q E s:=by
 obtain⟨mA,O,r,_,_,_⟩:=Jr I.hok e
 obtain⟨u,hu,ru⟩:=Gv.some_of (v:=v) (o:=mA f) (by rw[←l];exact r f)
 exact get_map I.Qx O (c.get f) c.hd n hu (sO ru) (h u _ (I.tok _) ru)
theorem NK {m:Str} {g:Addr} {pl:Sem Bool} {Q:Value×List Value→Shared→Prop} (I:Inv X pins σ H s) (e:H a=some (.ins C dx fs)) (c:Cls X.K C) (k:Meth X.K C m g) (l:fs.lookup m=none)
 (h:Q (.ref g,[.ref a]) s):wpAny (model X.prog X.w) A (getMethod (.ref a) m pl) Q E s:=by
 obtain⟨mA,O,r,_,_,_⟩:=Jr I.hok e
 have hn:mA m=none:=Gv.none_of (by rw[←l];exact r m)
 exact pO I.Qx O (c.get m) k.at_ k.fn hn h
theorem xT {y:V} {u:Value} {Q:Unit→Shared→Prop} (I:Inv X pins σ H s) (e:H a=some (.ins C dx fs)) (c:Cls X.K C) (n:R8 X.K C f) (hl:fs.length<1000) (ry:RelV y u)
 (h:∀s',Inv X pins σ (upd H a (.ins C dx (Qs f y fs))) s'→Q () s'):wpAny (model X.prog X.w) A (setAttr (.ref a) f u) Q E s:=by
 obtain⟨mA,O,r,wi,_,ho⟩:=Jr I.hok e
 have hz:(fs.map (·.1)).length≤sizeLine:=by rw[List.length_map,sizeLine_eq];omega
 refine jh I.Qx O c.sa c.po n.taker c.hd wi hz λh' O' sb=>h _ ?_
 have hd:∃o,h'.get? dx=some o:=let ⟨o,_,_,e',_⟩:=O'.ns;⟨o,e'⟩
 refine I.write (x:=a) (e:=dx) (by rw[e];exact True.intro) (.inr ho) (λb q hb z=>(sb.2 b hb).trans z) hd ?_
 refine⟨by rw[Zw O.ne];exact ho,?_,O.ne,O'.obj,_,O'.ns,λg=>?_,λg hg=>?_⟩
 ·have:=Kc f y fs;omega
 ·show Gv ((Qs f y fs).lookup g) (if g=f then some u else mA g)
  rw[Ke]
  by_cases q:g=f
  ·rw[if_pos q,if_pos q];exact ry
  ·rw[if_neg q,if_neg q];exact r g
 ·by_cases q:g=f
  ·rw[q];exact(K8 f y fs).1
  ·refine(K8 f y fs).2 g (wi g λz=>hg ?_)
   show(if g=f then some u else mA g)=none
   rw[if_neg q];exact z
theorem Inv.made (I:Inv X pins σ H s):Inv X pins σ (upd (upd H s.heap.objs.size (.own (s.heap.objs.size+1))) (s.heap.objs.size+1) (.ins C s.heap.objs.size []))
 {s with heap:=(s.heap.push PySem.W.emptyDict).push (PySem.W.instObj C s.heap.objs.size)}:=by
 have e1:(s.heap.push PySem.W.emptyDict).get? s.heap.objs.size=some PySem.W.emptyDict:=Heap.get?_push_size s.heap rfl
 have e2:((s.heap.push PySem.W.emptyDict).push (PySem.W.instObj C s.heap.objs.size)).get? (s.heap.objs.size+1)=some (PySem.W.instObj C s.heap.objs.size):=by
  have:=Heap.get?_push_size (s.heap.push PySem.W.emptyDict) (o:=PySem.W.instObj C s.heap.objs.size) rfl
  rwa [Heap.size_push]at this
 have e3:(s.heap.push PySem.W.emptyDict).Ns s.heap.objs.size (λ_=>none):=⟨PySem.W.emptyDict,#[],_,e1,rfl,(λe he=>absurd he (by simp)),λ_=>rfl⟩
 have I1:=I.laid (a:=s.heap.objs.size) (o:=.own (s.heap.objs.size+1)) (h':=s.heap.push PySem.W.emptyDict) (t':=s.toks) (λb u q=>Heap.get?_push_of_some _ q) (Nat.le_refl _) ⟨_,e1⟩
 refine I1.laid (a:=s.heap.objs.size+1) (o:=.ins C s.heap.objs.size []) (t':=s.toks) (λb u q=>Heap.get?_push_of_some _ q) (Nat.le_of_eq (Heap.size_push _ _)) ?_
 have ne:s.heap.objs.size≠s.heap.objs.size+1:=Nat.ne_of_lt (Nat.lt_succ_self _)
 refine⟨by rw[Zw ne,Z1],Nat.zero_le _,ne,e2,λ_=>none,(Heap.Ns1.of_empty e3).at λo q=>Heap.get?_push_of_some _ q,λ_=>True.intro,λy hy=>absurd rfl hy⟩
theorem jg {prog:Program} {w:World} {env:Env} {e:Expr} {f:Str} {pos:Pos} {s:Shared} {Q:Value→Shared→Prop} (hb:attributeBase e f env (eval e env)=eval e env)
 (h:wpAny (model prog w) A (eval e env) (λo s₁=>wpAny (model prog w) A (getAttr o f true) Q E s₁) E s):wpAny (model prog w) A (eval (.Attribute e f pos) env) Q E s:=
 Attribute_any_ h (by rw[arm_eval_Attribute,hb])
end
def abo (K:PySem.W.Frag) (ta:TE) (f:Str):TE:=λσ H Q=>ta σ H λx H1=>∃a C dx fs v,x= .ref a∧H1 a=some (.ins C dx fs)∧Cls K C∧R8 K C f∧fs.lookup f=some v∧Q v H1
def amP (K:PySem.W.Frag) (ta:TE) (f:Str):TE:=λσ H Q=>ta σ H λx H1=>∃a C dx fs v u,x= .ref a∧H1 a=some (.ins C dx fs)∧Cls K C∧Con K C f v u∧fs.lookup f=none∧Q v H1
def abp (K:PySem.W.Frag) (ta tv:TE) (f:Str):TS:=λD σ H=>tv σ H λy H1=>ta σ H1 λx H2=>∃a C dx fs,x= .ref a∧H2 a=some (.ins C dx fs)∧Cls K C∧R8 K C f∧fs.length<1000 ∧
 D.nx σ (upd H2 a (.ins C dx (Qs f y fs)))
def amQ (X:Cx) (op:Operator) (rd:V→V→Hp→VK→Prop):Prop:=
 ∀(pins:List (Addr×Obj)) (s:Shared) (σ:St) (H:Hp) (x y:V) (u v:Value) (Q:VK),Inv X pins σ H s→RelV x u→RelV y v→rd x y H Q→wpAny (model X.prog X.w) X.A (inplaceOp op u v) (EP X pins σ Q) X.xe s
def adF (K:PySem.W.Frag) (ta tv:TE) (rd:V→V→Hp→VK→Prop) (f:Str):TS:=λD σ H=>ta σ H λx H1=>∃a C dx fs v,x= .ref a∧H1 a=some (.ins C dx fs)∧Cls K C∧R8 K C f∧fs.lookup f=some v ∧
 tv σ H1 λy H2=>rd v y H2 λz H3=>∃dx' fs',H3 a=some (.ins C dx' fs')∧fs'.length<1000∧D.nx σ (upd H3 a (.ins C dx' (Qs f z fs')))
section
variable {X:Cx} {o e value:Expr} {f:Str} {pos pos' tpos:Pos} {ta tv:TE}
theorem bf (he:PE X e ta) (hb:attributeBase e f X.env (eval e X.env)=eval e X.env):PE X (.Attribute e f pos) (abo X.K ta f):=by
 intro pins s σ H Q I h
 refine jg hb (Yy (he pins s σ H _ I h) λu s1 ⟨x,H1,I1,rx,a,C,dx,fs,v,ex,ea,c,n,l,q⟩=>?_)
 subst ex
 obtain rfl:u=Value.ref a:=rx
 exact xV I1 ea c n l λu' s2 I2 ru=>⟨v,H1,I2,ru,q⟩
theorem aZ (ha:PE X o ta) (hv:PE X value tv) (hs:swapsWith value (some (.Attribute o f pos')) pos.line X.env=pure false):PS X (.Assign [.Attribute o f pos'] value pos) (abp X.K ta tv f):=by
 intro pins s σ H D I h
 refine plainObj_wpAny_Assign_Attribute (Yy (hv pins s σ H _ I h) λu s1 ⟨y,H1,I1,ry,q⟩=>Yy (ha pins s1 σ H1 _ I1 q) λov s2 ⟨x,H2,I2,rx,a,C,dx,fs,ex,ea,c,n,l,q2⟩=>?_) hs
 subst ex
 obtain rfl:ov=Value.ref a:=rx
 exact xT I2 ea c n l ry λs3 I3=>⟨σ,_,I3,q2⟩
def amR:V→V→Hp→VK→Prop:=λx y H Q=>∃i j,x= .int i∧y= .int j∧Q (.int (i+j)) H
def amS:V→V→Hp→VK→Prop:=λx y H Q=>∃i j,x= .int i∧y= .int j∧Q (.int (i-j)) H
end
section
variable {X:Cx} {pins:List (Addr×Obj)} {σ:St} {H:Hp} {s:Shared} {A:Around} {E:Value→Shared→Prop} {Q:Value→Shared→Prop} {c:Value} {b:Bool}
inductive MK (K:PySem.W.Frag) (H:Hp):V→Value→Prop where
 |non:MK K H .non (.type "NoneType")
 |bl (x:Bool):MK K H (.bl x) (.type "bool")
 |int (i:Int):MK K H (.int i) (.type "int")
 |str (x:Str):MK K H (.str x) (.type "str")
 |flt (x:UInt64):MK K H (.flt x) (.type "float")
 |lst {a:Addr} {xs:List V} (e:H a=some (.lst xs)):MK K H (.ref a) (.type "list")
 |yg {a:Addr} {o:Obj} {xs:List V} (e:H a=some (.yg o (.lst xs))):MK K H (.ref a) (.type "list")
 |tup {a:Addr} {xs:List V} (e:H a=some (.tup xs)):MK K H (.ref a) (.type "tuple")
 |dK {a:Addr} {kvs:List (Key×V)} (e:H a=some (.dK kvs)):MK K H (.ref a) (.type "dict")
 |dT {a:Addr} {kvs:List (List Key×V)} (e:H a=some (.dT kvs)):MK K H (.ref a) (.type "dict")
 |ins {a C dx:Addr} {fs:List (Str×V)} (e:H a=some (.ins C dx fs)) (cl:Cls K C) (ha:PySem.W.findIn K (.ref C) "__class__"=some (some (.builtin "object.__class__")))
  (hn:PySem.W.specialIn K (.builtin "object.__class__") "__get__"=some (some (.builtin "getset_descriptor.__get__"))) (htk:PySem.W.takesIn K (.builtin "object.__class__")=some true)
  (hm:PySem.W.mroIn K C (.type "object")=some true):MK K H (.ref a) (.ref C)
theorem sJ {x:V} {u t:Value} (I:Inv X pins σ H s) (rx:RelV x u) (ty:MK X.K H x t) (e:PySem.W.kitOne X.K t c=some b) (h:∀tk,Q (.bool b) {s with toks:=tk}):
 wpAny (model X.prog X.w) A (call (.builtin "isinstance") [u,c]) Q E s:=by
 cases ty with
 |non=>cases(show u=Value.none from rx);exact PySem.W.kia_one PySem.W.kitx_none I.Qx True.intro e (λz=>nomatch z) h
 |bl y=>cases(show u=Value.bool y from rx);exact PySem.W.kia_one PySem.W.kitx_bool I.Qx True.intro e (λz=>nomatch z) h
 |int i=>obtain⟨t,q⟩:=(show ∃t,u=Value.int i t from rx);cases q;exact PySem.W.kia_one PySem.W.kitx_int I.Qx True.intro e (λz=>nomatch z) h
 |str y=>obtain⟨t,q⟩:=(show ∃t,u=Value.str y t from rx);cases q;exact PySem.W.kia_one PySem.W.kitx_str I.Qx True.intro e (λz=>nomatch z) h
 |flt y=>obtain⟨t,q⟩:=(show ∃t,u=Value.float y t from rx);cases q;exact PySem.W.kia_one PySem.W.kitx_float I.Qx True.intro e (λz=>nomatch z) h
 | @lst a xs ea =>
   cases(show u=Value.ref a from rx)
   obtain⟨_,_,n,_,h1⟩:=(show Xe X.prog X.w H s.heap a (.lst xs)from I.hok a _ ea)
   exact PySem.W.kia_one PySem.W.kitx_list I.Qx ⟨_,h1,rfl⟩ e (λz=>nomatch z) h
 | @yg a ob xs ea =>
   cases(show u=Value.ref a from rx)
   obtain⟨_,_,_,n,_,h1⟩:=(show Xe X.prog X.w H s.heap a (.yg ob (.lst xs))from I.hok a _ ea)
   exact PySem.W.kia_one PySem.W.kitx_list I.Qx ⟨_,h1,rfl⟩ e (λz=>nomatch z) h
 | @tup a xs ea =>
   cases(show u=Value.ref a from rx)
   obtain⟨_,_,_,p⟩:=(show Xe X.prog X.w H s.heap a (.tup xs)from I.hok a _ ea)
   obtain⟨o,h1,h2,_⟩:=p
   exact PySem.W.kia_one PySem.W.kitx_tuple I.Qx ⟨o,h1,h2⟩ e (λz=>nomatch z) h
 | @dK a kvs ea =>
   cases(show u=Value.ref a from rx)
   obtain⟨_,_,vs,_,p⟩:=(show Xe X.prog X.w H s.heap a (.dK kvs)from I.hok a _ ea)
   obtain⟨o,es,ep,h1,h2,_⟩:=p
   exact PySem.W.kia_one PySem.W.kitx_dict I.Qx ⟨o,h1,h2.1⟩ e (λz=>nomatch z) h
 | @dT a kvs ea =>
   cases(show u=Value.ref a from rx)
   obtain⟨_,_,xs,_,o,es,ep,h1,h2,_⟩:=(show Xe X.prog X.w H s.heap a (.dT kvs)from I.hok a _ ea)
   exact PySem.W.kia_one PySem.W.kitx_dict I.Qx ⟨o,h1,h2.1⟩ e (λz=>nomatch z) h
 | @ins a C dx fs ea cl ha hn htk hm =>
   cases(show u=Value.ref a from rx)
   obtain⟨mA,O,_⟩:=Jr I.hok ea
   obtain⟨od,J,_⟩:=O.look
   exact PySem.W.kia_one (PySem.W.kitx_own (cl.get _) cl.hd ha hn htk hm) I.Qx J e (λz=>nomatch z) h
end
end L2
namespace L2
open PySem PySem.Spec PyProof.Rows
structure YC (k:Nat) (A:Around):Prop where
 hd:A.handled=none
 dp:A.depth+3*k+5<recursionLimit
 un:A.units+16*k+200<cLine
theorem YC.mono {j k:Nat} {A:Around} (r:YC k A) (h:j≤k):YC j A:=⟨r.hd,by have:=r.dp;omega,by have:=r.un;omega⟩
theorem YC.deeper {k:Nat} {A:Around} (r:YC (k+1) A) (env:Env):YC k (A.deeper env):=
 ⟨r.hd,by have:=r.dp;show A.depth+1+3*k+5< _;omega,by have:=r.un;show A.units+3+16*k+200< _;omega⟩
theorem xQ {A:Around} {C:Addr} {us:List Value} {kw:List (Str×Value)}:(A.under (.builtin "type.__call__" ⟨.ref C :: us,kw⟩)).depth=A.depth+1:=by
 first |rfl |simp[Around.under,Code.weight,Code.isCreation,Code.isGuard,Code.isCaller,Code.frames,Code.isFrame,guardIds]
theorem xP {A:Around} {C:Addr} {us:List Value} {kw:List (Str×Value)}:(A.under (.builtin "type.__call__" ⟨.ref C :: us,kw⟩)).units=A.units+1:=by
 first |rfl |simp[Around.under,Code.cUnits,Code.frames,Code.isFrame]
theorem YC.make {k:Nat} {A:Around} (r:YC (k+1) A) (C:Addr) (us:List Value) (kw:List (Str×Value)):YC k (A.under (.builtin "type.__call__" ⟨.ref C :: us,kw⟩)):=
 ⟨r.hd,by have:=r.dp;rw[xQ];omega,by have:=r.un;rw[xP];omega⟩
theorem YC.depth {k:Nat} {A:Around} (r:YC k A):A.depth<recursionLimit:=by have:=r.dp;omega
theorem YC.units {k:Nat} {A:Around} (r:YC k A):A.units+64<cLine:=by have:=r.un;omega
def Dz:TA:=λ_ H Q=>Q [] H
def pN (ta:TE) (tr:TA):TA:=λσ H Q=>ta σ H λx H1=>tr σ H1 λxs H2=>Q (x :: xs) H2
section
variable {X:Cx} {e:Expr} {es:List Expr} {te:TE} {t:TA} {pos:Pos}
theorem Z8:PA X [] Dz:=λ_ _ _ _ H Q I h=>Calls.spliced_nil ⟨[],H,I,.nil,h⟩
theorem Z_ (ha:PE X e te) (hr:PA X es t) (hs:starEach (e :: es) X.env=(false,eval e X.env) :: starEach es X.env:=by rfl):PA X (e :: es) (pN te t):=by
 intro pos pins s σ H Q I h
 rw[hs]
 show wpAny _ _ (spliced ((false,eval e X.env) :: backTo pos (starEach es X.env))) _ _ s
 refine Calls.spliced_cons (Yy (ha pins s σ H _ I h) λu s1 ⟨x,H1,I1,r1,q1⟩=>?_)
 exact Yy (hr pos pins s1 σ H1 _ I1 q1) λus s2 ⟨xs,H2,I2,r2,q2⟩=>⟨x :: xs,H2,I2,.cons r1 r2,q2⟩
def abq (t:TA):TE:=λσ H Q=>t σ H λxs H1=>xs.length≤sizeLine∧∀p,H1 p=none→Q (.ref p) (upd H1 p (.tup xs))
def abr (t:TA):TE:=λσ H Q=>t σ H λxs H1=>xs.length≤sizeLine∧∀p,H1 p=none→Q (.ref p) (upd H1 p (.lst xs))
theorem TV {x1} (h:PA X es t):PE X (.Tuple es x1 pos) (abq t):=by
 intro pins s σ H Q I hq
 refine wpAny_Tuple_spliced (Yy (h pos pins s σ H _ I hq) λus s1 ⟨xs,H1,I1,r,z,q⟩=>⟨by rw[←r.length];exact z,?_⟩)
 have hf:H1 s1.heap.objs.size=none:=I1.hok.fresh (Nat.le_refl _)
 refine⟨.ref s1.heap.objs.size,upd H1 s1.heap.objs.size (.tup xs),I1.laid (t':=s1.toks) (λb u e=>Heap.get?_push_of_some _ e) (Nat.le_refl _) ?_,rfl,q _ hf⟩
 exact⟨z,us,r,⟨_,Heap.get?_push_size _ rfl,rfl,_,rfl⟩⟩
theorem Yh (h:PA X es t):PE X (.List es pos) (abr t):=by
 intro pins s σ H Q I hq
 refine wpAny_List_spliced (Yy (h pos pins s σ H _ I hq) λus s1 ⟨xs,H1,I1,r,z,q⟩=>⟨by rw[←r.length];exact z,?_⟩)
 have hf:H1 s1.heap.objs.size=none:=I1.hok.fresh (Nat.le_refl _)
 refine⟨.ref s1.heap.objs.size,upd H1 s1.heap.objs.size (.lst xs),I1.laid (t':=s1.toks) (λb u e=>Heap.get?_push_of_some _ e) (Nat.le_refl _) ?_,rfl,q _ hf⟩
 exact⟨z,us,0,r,Heap.get?_push_size _ rfl⟩
end
abbrev Sp:=List V→Hp→VK→XK→Prop
abbrev Dy:=List Env→Hp→Shared→XK→Value→Shared→Prop
structure Dw (P:Program) (w:World) (K:PySem.W.Frag) (mg:Str→Option Value) (base:Heap) (A:Around) (outer:List Env) (s:Shared) (H:Hp):Prop where
 frames:A.frames=some outer
 mod:Mod K mg base
 bs:∀b o,base.get? b=some o→s.heap.get? b=some o∧H b=none
 yd:base.objs.size≤s.heap.objs.size
 QG:s.heap.FunFrames base outer
 tD:∀b∈frs outer,H b=none
 hok:Qz P w H s.heap
 bare:AllBare s.gens
def CE (outer:List Env) (P:Program) (w:World) (H:Hp) (s:Shared) (Q:VK) (u:Value) (s':Shared):Prop:=
 ∃v H',s'.os=s.os∧AllBare s'.gens∧Un (frs outer) [] H H' s.heap s'.heap∧Qz P w H' s'.heap∧RelV v u∧Q v H'
def CR (CX:Dy) (outer:List Env) (P:Program) (w:World) (H:Hp) (s:Shared) (Q:VK) (E:XK) (r:Result) (s':Shared):Prop:=
 match r with
 | .ok (.ret u)=>CE outer P w H s Q u s'
 | .ok _=>False
 | .error e=>CX outer H s E e s'
structure Wr (P:Program) (w:World) (K:PySem.W.Frag) (mg:Str→Option Value) (base:Heap) (CX:Dy) (k:Nat) (f:Addr) (fd:FuncData) (ps:List Str) (sp:Sp):Prop where
 len:∀vs H Q E,sp vs H Q E→vs.length=ps.length
 run:∀(A:Around) (outer:List Env) (s:Shared) (H:Hp) (args:Args) (us:List Value) (vs:List V) (Q:VK) (E:XK),YC k A→Dw P w K mg base A outer s H→BindsTo s fd args (ps.zip us)→Vals vs us→sp vs H Q E →
  codeAny (model P w) A (.call (.ref f) args) (CR CX outer P w H s Q E) s
theorem Wr.mono {P:Program} {w:World} {K:PySem.W.Frag} {mg:Str→Option Value} {base:Heap} {CX:Dy} {j k:Nat} {f:Addr} {fd:FuncData} {ps:List Str} {sp:Sp} (F:Wr P w K mg base CX j f fd ps sp) (h:j≤k):
 Wr P w K mg base CX k f fd ps sp:=⟨F.len,λA outer s H args us vs Q E hr=>F.run A outer s H args us vs Q E (hr.mono h)⟩
theorem Dw.make {P:Program} {w:World} {K:PySem.W.Frag} {mg:Str→Option Value} {base:Heap} {A:Around} {outer:List Env} {s:Shared} {H:Hp} (e:Dw P w K mg base A outer s H) (C:Addr) (us:List Value) (kw:List (Str×Value)):
 Dw P w K mg base (A.under (.builtin "type.__call__" ⟨.ref C :: us,kw⟩)) outer s H:=⟨by first |exact e.frames | (simpa [Around.under,Code.envs,Code.isFrame,pushEnvs]using e.frames),e.mod,e.bs,e.yd,e.QG,e.tD,e.hok,e.bare⟩
section
variable {X:Cx} {pins:List (Addr×Obj)} {σ:St} {H:Hp} {s s':Shared}
theorem Inv.env0 (I:Inv X pins σ H s):Dw X.prog X.w X.K X.mg X.base X.A X.stack s H:=
 ⟨I.ok.frames,I.ok.mod,I.bs,Nat.le_trans I.ok.yd I.sz,I.stack,I.DP,I.hok,I.bare⟩
theorem Inv.after {Q:VK} {u:Value} (I:Inv X pins σ H s) (h:CE X.stack X.prog X.w H s Q u s'):EP X pins σ Q u s':=by
 obtain⟨v,H',os,bare,un,hok,r,q⟩:=h
 obtain⟨hh,g,d,t,os'⟩:=s'
 obtain rfl:os'=s.os:=os
 exact⟨v,H',I.call (h':=hh) (g':=g) (d':=d) (t':=t) (ch:=[]) un hok bare (λb z=>absurd z (by simp)),r,q⟩
end
def abt (sp:Sp) (M4:List V) (E:XK) (t:TA):TE:=λσ H Q=>t σ H λvs H1=>sp (vs++M4) H1 Q E
def abu (C:Addr) (m:Str) (sp:Sp) (M4:List V) (E:XK) (ta:TE) (t:TA):TE:=λσ H Q=>ta σ H λx H1=>∃a dx fs,x= .ref a∧H1 a=some (.ins C dx fs)∧fs.lookup m=none ∧
 t σ H1 λvs H2=>sp (x :: (vs++M4)) H2 Q E
def abw (C:Addr) (sp:Sp) (M4:List V) (E:XK) (t:TA):TE:=λσ H Q=>t σ H λvs H1=>∀x dx,H1 x=none→H1 dx=none→dx≠x →
 sp (.ref x :: (vs++M4)) (upd (upd H1 dx (.own x)) x (.ins C dx [])) (λv H2=>v= .non∧Q (.ref x) H2) E
def Binds (K:PySem.W.Frag) (fd:FuncData) (ps:List Str) (ds:List Value):Prop:=
 ∀(s:Shared) (us:List Value),K.In s.heap→(us++ds).length=ps.length→BindsTo s fd ⟨us,[]⟩ (ps.zip (us++ds))
theorem Binds.all {K:PySem.W.Frag} {fd:FuncData} {ps:List Str} (h:∀us:List Value,us.length=ps.length→bindArgs fd ⟨us,[]⟩=pure (ps.zip us)):Binds K fd ps []:=λs us _ hl=>by
 rw[List.append_nil]at hl ⊢
 exact .of_eq (h us hl)
def Passes (CX:Dy) (X:Cx) (E:XK):Prop:=∀(pins:List (Addr×Obj)) (σ:St) (H:Hp) (s:Shared) (e:Value) (s':Shared),Inv X pins σ H s→CX X.stack H s E e s'→X.xe e s'
section
variable {X:Cx} {CX:Dy} {k:Nat} {f C:Addr} {fd:FuncData} {ps:List Str} {sp:Sp} {M4:List V} {ds:List Value} {E:XK} {x m:Str} {p pos apos:Pos} {e o:Expr} {es:List Expr} {ta:TE} {t:TA}
theorem pL {pins:List (Addr×Obj)} {σ:St} {H:Hp} {s:Shared} {Q:VK} {us:List Value} {vs:List V} (F:Wr X.prog X.w X.K X.mg X.base CX k f fd ps sp) (hr:YC k X.A) (hb:Binds X.K fd ps ds) (hd:Vals M4 ds) (hx:Passes CX X E)
 (I:Inv X pins σ H s) (r:Vals vs us) (h:sp (vs++M4) H Q E):wpAny (model X.prog X.w) X.A (call (.ref f) us) (EP X pins σ Q) X.xe s:=by
 have r2:Vals (vs++M4) (us++ds):=r.append hd
 have hl:(us++ds).length=ps.length:=by rw[←r2.length];exact F.len _ _ _ _ h
 refine wpAny_call (codeAny_mono (F.run X.A X.stack s H ⟨us,[]⟩ (us++ds) (vs++M4) Q E hr I.env0 (hb s us I.Qx hl) r2 h) λr s' hq=>?_)
 cases r with
 |error e=>exact hx pins σ H s e s' I hq
 |ok fl =>
  cases fl with
  |ret u=>exact I.after hq
  |next=>exact False.elim hq
  |brk=>exact False.elim hq
  |cont=>exact False.elim hq
theorem jf (F:Wr X.prog X.w X.K X.mg X.base CX k f fd ps sp) (hr:YC k X.A) (hg:Gl X x) (hm:X.mg x=some (.ref f)) (hk:PySem.W.keepIn X.K (.ref f)=true) (hb:Binds X.K fd ps ds) (hd:Vals M4 ds) (hx:Passes CX X E)
 (ha:PA X (e :: es) t) (hdb:(x==("__debug__":Str))=false:=by decide) (he:starEach (e :: es) X.env=(false,eval e X.env) :: starEach es X.env:=by rfl) (hpl:(backTo pos (starEach es X.env)).any (·.1)=false:=by rfl):
 PE X (.Call (.Name x p) (e :: es) [] pos) (abt sp M4 E t):=by
 intro pins s σ H Q I h
 refine wpAny_Call_Name_kw (Tc I hg hm ?_ hdb)
 refine PySem.W.callWith_K (h₀:=X.base) I.ok.mod.dM hk (Yy (ha pos pins s σ H _ I h) λus s1 ⟨vs,H1,I1,r,q⟩=>⟨I1.Qx,?_⟩) he hpl
 exact pL F hr hb hd hx I1 r q
theorem pK {pl:Sem Bool} (he:PE X o ta) (c:Cls X.K C) (hm:Meth X.K C m f) (F:Wr X.prog X.w X.K X.mg X.base CX k f fd ps sp) (hr:YC k X.A) (hb:Binds X.K fd ps ds) (hd:Vals M4 ds) (hx:Passes CX X E)
 (ht:eval (.Call (.Attribute o m apos) [] [] pos) X.env=(do
  let ov ←eval o X.env
  standAt apos.atName
  let (f,first) ←holding [ov] (getMethod ov m pl)
  callWith pos f first (backTo pos (starEach [] X.env)) (backToKw pos (keywordEach [] X.env))):=by rfl):
 PE X (.Call (.Attribute o m apos) [] [] pos) (abu C m sp M4 E ta Dz):=by
 intro pins s σ H Q I h
 refine PySem.W.methodCall_KW (pl:=pl) (Yy (he pins s σ H _ I h) λu s1 ⟨x,H1,I1,rx,a,dx,fs,ex,ea,l,q⟩=>?_) ht
 subst ex
 obtain rfl:u=Value.ref a:=rx
 refine NK I1 ea c hm l ?_
 exact PySem.W.callWith_K0 (first:=[.ref a]) I1.Qx hm.kp (pL (us:=[.ref a]) (vs:=[.ref a]) F hr hb hd hx I1 (.cons rfl .nil) q)
structure Mk (K:PySem.W.Frag) (C f:Addr):Prop where
 makes:PySem.W.makesIn K C=true
 init:PySem.W.findIn K (.ref C) "__init__"=some (some (.ref f))
 fn:PySem.W.isFn K (.ref f)=true
 kp:PySem.W.keepIn K (.ref C)=true
theorem pJ {pins:List (Addr×Obj)} {σ:St} {H:Hp} {s:Shared} {Q:VK} {us:List Value} {vs:List V} (M:Mk X.K C f) (F:Wr X.prog X.w X.K X.mg X.base CX k f fd ps sp) (hr:YC (k+1) X.A) (hb:Binds X.K fd ps ds) (hd:Vals M4 ds)
 (hx:Passes CX X E) (I:Inv X pins σ H s) (r:Vals vs us)
 (h:∀x dx,H x=none→H dx=none→dx≠x→sp (.ref x :: (vs++M4)) (upd (upd H dx (.own x)) x (.ins C dx [])) (λv H2=>v= .non∧Q (.ref x) H2) E):
 wpAny (model X.prog X.w) X.A (call (.ref C) us) (EP X pins σ Q) X.xe s:=by
 have hq:=h (s.heap.objs.size+1) s.heap.objs.size (I.hok.fresh (Nat.le_succ _)) (I.hok.fresh (Nat.le_refl _)) (Nat.ne_of_lt (Nat.lt_succ_self _))
 have I2:=Inv.made (C:=C) I
 have r2:Vals (V.ref (s.heap.objs.size+1) :: (vs++M4)) (Value.ref (s.heap.objs.size+1) :: (us++ds)):=.cons rfl (r.append hd)
 have hl:(Value.ref (s.heap.objs.size+1) :: us++ds).length=ps.length:=by
  have e:=r2.length
  rw[F.len _ _ _ _ hq]at e
  exact e.symm
 refine wpAny_call (Bq (f:=f) I.Qx M.makes M.init (beq_iff_eq.mp M.fn) (codeAny_mono (F.run _ X.stack _ _ ⟨Value.ref (s.heap.objs.size+1) :: us,[]⟩ (Value.ref (s.heap.objs.size+1) :: (us++ds)) _ _ E (hr.make C us [])
  (I2.env0.make C us []) (hb _ (Value.ref (s.heap.objs.size+1) :: us) I2.Qx hl) r2 hq) λr s' hq'=>?_))
 cases r with
 |error e=>exact hx pins σ _ _ e s' I2 hq'
 |ok fl =>
  cases fl with
  |ret u =>
   obtain⟨v,H',I3,rv,ev,q3⟩:=I2.after hq'
   subst ev
   exact⟨rv,⟨V.ref (s.heap.objs.size+1),H',I3,rfl,q3⟩⟩
  |next=>exact False.elim hq'
  |brk=>exact False.elim hq'
  |cont=>exact False.elim hq'
theorem pI (M:Mk X.K C f) (F:Wr X.prog X.w X.K X.mg X.base CX k f fd ps sp) (hr:YC (k+1) X.A) (hg:Gl X x) (hm:X.mg x=some (.ref C)) (hb:Binds X.K fd ps ds) (hd:Vals M4 ds) (hx:Passes CX X E)
 (hdb:(x==("__debug__":Str))=false:=by decide):PE X (.Call (.Name x p) [] [] pos) (abw C sp M4 E Dz):=by
 intro pins s σ H Q I h
 refine wpAny_Call_Name_kw (Tc I hg hm ?_ hdb)
 exact PySem.W.callWith_K0 I.Qx M.kp (pJ (us:=[]) M F hr hb hd hx I .nil h)
end
def PK (X:Cx) (kws:List Keyword) (t:TA):Prop:=
 ∀(pos:Pos) (pins:List (Addr×Obj)) (s:Shared) (σ:St) (H:Hp) (Q:List V→Hp→Prop),Inv X pins σ H s→t σ H Q→wpAny (model X.prog X.w) X.A (evalAll ((backToKw pos (keywordEach kws X.env)).map (·.2))) (AP X pins σ Q) X.xe s
section
variable {X:Cx} {CX:Dy} {k:Nat} {f C:Addr} {fd:FuncData} {ps ks:List Str} {sp:Sp} {E:XK} {x m:Str} {p pos apos kpos:Pos} {e o:Expr} {es:List Expr} {kws:List Keyword} {te ta:TE} {t tk:TA} {nm:Option Str}
structure adZ (K:PySem.W.Frag) (fd:FuncData) (ps ks:List Str) (g:List Value→List Value→List Value) (gV:List V→List V→List V):Prop where
 to:∀(s:Shared) (us ws:List Value),K.In s.heap→(g us ws).length=ps.length→BindsTo s fd ⟨us,ks.zip ws⟩ (ps.zip (g us ws))
 rel:∀{vs:List V} {us:List Value} {zs:List V} {ws:List Value},Vals vs us→Vals zs ws→Vals (gV vs zs) (g us ws)
def ad0 (sp:Sp) (gV:List V→List V→List V) (E:XK) (t tk:TA):TE:=λσ H Q=>t σ H λvs H1=>tk σ H1 λzs H2=>sp (gV vs zs) H2 Q E
variable {g:List Value→List Value→List Value} {gV:List V→List V→List V}
end
structure ZX (N P:List Str) (sc:Scope):Prop where
 kind:sc.kind= .function
 co:sc.isCoroutine=false
 gen:sc.isGenerator=false
 nd:N.Nodup
 pre:N.take P.length=P
 par:∀x∈P,sc.names.lookup x=some .local∨sc.names.lookup x=some .cell
 aY:∀y∈sc.names,y.2≠ .free
theorem Fq {kindOf:Str→Option NameKind} {x:Str}:∀{binds:List (Str×Value)} {m:Str→Option Value},(∀v,(x,v)∉binds)→bindL kindOf binds m x=m x
 | [],_,_=>rfl
 | (n,v) :: r,m,h=>by
   unfold bindL
   rw[Fq λw hw=>h w (List.mem_cons_of_mem _ hw)]
   split
   ·have:x≠n:=by rintro rfl;exact h v List.mem_cons_self
    simp[this]
   ·rfl
theorem Fp {kindOf:Str→Option NameKind} {x:Str}:∀{binds:List (Str×Value)} {m:Str→Option Value},(∀v,(x,v)∉binds)→bindC kindOf binds m x=m x
 | [],_,_=>rfl
 | (n,v) :: r,m,h=>by
   unfold bindC
   rw[Fp λw hw=>h w (List.mem_cons_of_mem _ hw)]
   split
   ·rfl
   ·have:x≠n:=by rintro rfl;exact h v List.mem_cons_self
    simp[this]
theorem Fo {kindOf:Str→Option NameKind} {x:Str} {v:Value}:∀{P:List Str} {vs:List Value} {i:Nat} {m:Str→Option Value},P.Nodup→P[i]? =some x→vs[i]? =some v→kindOf x=some .local →
 bindL kindOf (P.zip vs) m x=some v
 | [],_,_,_,_,h,_,_=>by simp at h
 |_ :: _,[],_,_,_,_,h,_=>by simp at h
 |p :: P,w :: vs,0,m,nd,h1,h2,hk=>by
  simp at h1 h2;subst h1;subst h2
  show bindL kindOf ((p,w) :: P.zip vs) m p=_
  unfold bindL
  rw[Fq λv hv=>(List.nodup_cons.mp nd).1 (List.of_mem_zip hv).1,if_pos hk]
  simp
 |p :: P,w :: vs,i+1,m,nd,h1,h2,hk=>by
  show bindL kindOf ((p,w) :: P.zip vs) m x=_
  unfold bindL
  exact Fo (i:=i) (List.nodup_cons.mp nd).2 (by simpa using h1) (by simpa using h2) hk
theorem Fl {kindOf:Str→Option NameKind} {x:Str} {v:Value}:∀{P:List Str} {vs:List Value} {i:Nat} {m:Str→Option Value},P.Nodup→P[i]? =some x→vs[i]? =some v→kindOf x≠some .local →
 bindC kindOf (P.zip vs) m x=some v
 | [],_,_,_,_,h,_,_=>by simp at h
 |_ :: _,[],_,_,_,_,h,_=>by simp at h
 |p :: P,w :: vs,0,m,nd,h1,h2,hk=>by
  simp at h1 h2;subst h1;subst h2
  show bindC kindOf ((p,w) :: P.zip vs) m p=_
  unfold bindC
  rw[Fp λv hv=>(List.nodup_cons.mp nd).1 (List.of_mem_zip hv).1,if_neg hk]
  simp
 |p :: P,w :: vs,i+1,m,nd,h1,h2,hk=>by
  show bindC kindOf ((p,w) :: P.zip vs) m x=_
  unfold bindC
  exact Fl (i:=i) (List.nodup_cons.mp nd).2 (by simpa using h1) (by simpa using h2) hk
def start (N:List Str) (vs:List V):St:=vs.map some++List.replicate (N.length-vs.length) none
def Vp (CX:Dy) (P:Program) (w:World) (K:PySem.W.Frag) (mg:Str→Option Value) (base:Heap) (N:List Str) (qual:Str) (scope:Scope) (f:Addr) (cd:Value) (A:Around) (outer:List Env) (s:Shared) (H:Hp) (E:XK):Cx where
 prog:=P
 w:=w
 K:=K
 mg:=mg
 base:=base
 A:=A.deeper (envOfC qual scope s.heap.objs.size f cd)
 N:=N
 s₀:=s
 H₀:=H
 env:=envOfC qual scope s.heap.objs.size f cd
 outer:=outer
 stack:=envOfC qual scope s.heap.objs.size f cd :: outer
 ex:=[]
 calm:=true
 fn:=λ_=>true
 pn:=[]
 xe:=λe s'=>wpAny (model P w) (A.deeper (envOfC qual scope s.heap.objs.size f cd)) (leaving (envOfC qual scope s.heap.objs.size f cd) e) (λ_ s''=>CX outer H s E e s'') (λe' s''=>CX outer H s E e' s'') s'
theorem Bp {sc:Scope} {n:Nat} {x:Str} (h:sc.names.lookup x=some .cell):∃c,(cellsFrom n sc.names []).lookup x=some c:=by
 have q:=PySem.W.cellsFrom_some sc.names n [] (.inl h)
 exact Option.isSome_iff_exists.mp q
theorem Fj {CX:Dy} {P:Program} {w:World} {K:PySem.W.Frag} {mg:Str→Option Value} {base:Heap} {N ps:List Str} {qual:Str} {scope:Scope} {f:Addr} {cd:Value} {A:Around} {outer:List Env} {s s1:Shared} {H:Hp} {E:XK} {us:List Value} {vs:List V}
 (S:ZX N ps scope) (hd:A.handled=none) (e0:Dw P w K mg base A outer s H) (hl:vs.length=ps.length) (r:Vals vs us)
 (x:InCallC s s.heap.objs.size (bindL (envOfC qual scope s.heap.objs.size f cd).kindOf (ps.zip us) λ_=>none) (cellsFrom (s.heap.objs.size+1) scope.names []) (bindC (envOfC qual scope s.heap.objs.size f cd).kindOf (ps.zip us) λ_=>none) s1):
 Inv (Vp CX P w K mg base N qual scope f cd A outer s H E) [] (start N vs) H s1:=by
 have hpl:ps.length≤N.length:=by have:=congrArg List.length S.pre;rw[List.length_take]at this;omega
 obtain⟨h1,tk,rfl,hk⟩:=x.done
 have noA:∀b:Addr,b∉(Vp CX P w K mg base N qual scope f cd A outer s H E).ex:=λb z=>absurd (show b∈([]:List Addr)from z) (by simp)
 refine⟨⟨e0.mod,S.kind,rfl,rfl,Nat.le_refl _,λy z c h1 h2=>?_,λy hy=>?_,λy c _ h=>?_,λ_=>hd,Around.frames_deeper e0.frames,.inr ⟨rfl,rfl⟩,λb z=>absurd z (noA b),e0.bs,e0.yd,λb _ _=>noA b,λb z=>absurd z (noA b),e0.QG,e0.tD⟩,
  rfl,e0.bare,Un.kept hk,⟨_,x.toInCall.ns,λi y v h1 h2 h3=>?_⟩,λy c h=>⟨_,x.cell y c h⟩,e0.hok.fresh (Nat.le_refl _),λy c h=>?_,λp hp=>absurd (show p∈([]:List (Addr×Obj))from hp) (by simp),e0.hok.kept hk,?_⟩
 ·exact name_of_addr x.apart (PySem.mem_of_lookup h1) (PySem.mem_of_lookup h2)
 ·have hy:scope.names.lookup y=some .cell∨scope.names.lookup y=some .free:=hy
  rcases hy with hy |hy
  ·exact Bp hy
  ·exact absurd rfl (S.aY _ (PySem.mem_of_lookup hy))
 ·exact Nat.le_of_lt (x.above y c (PySem.mem_of_lookup h))
 ·have hi:i<vs.length:=by
   unfold start at h2
   by_cases hi:i<vs.length
   ·exact hi
   ·rw[List.getElem?_append_right (by simpa using hi)]at h2
    rw[List.getElem?_replicate]at h2
    split at h2<;>cases h2
  have ha:vs[i]? =some v:=by
   unfold start at h2
   rw[List.getElem?_append_left (by simpa using hi),List.getElem?_map]at h2
   cases e:vs[i]? with
   |none=>rw[e]at h2;cases h2
   |some a=>rw[e]at h2;cases h2;rfl
  obtain⟨u,hu,rv⟩:=r.get ha
  have hp:ps[i]? =some y:=by
   rw[←S.pre,List.getElem?_take_of_lt (by omega)];exact h1
  have ndP:ps.Nodup:=by rw[←S.pre];exact S.nd.sublist (List.take_sublist _ _)
  refine⟨u,rv,?_⟩
  rcases S.par y (List.mem_of_getElem? hp)with k |k
  ·exact .inl ⟨k,Fo ndP hp hu k⟩
  ·obtain⟨c,e⟩:=Bp (n:=s.heap.objs.size+1) k
   refine .inr ⟨.inl k,c,e,?_⟩
   have q:=x.cell y c e
   rw[Fl ndP hp hu (by show scope.names.lookup y≠_;rw[k];decide)]at q
   exact q
 ·exact e0.hok.fresh (Nat.le_of_lt (x.above y c (PySem.mem_of_lookup h)))
 ·unfold start
  show _=N.length
  rw[List.length_append,List.length_map,List.length_replicate]
  omega
theorem Bo {CX:Dy} {P:Program} {w:World} {K:PySem.W.Frag} {mg:Str→Option Value} {base:Heap} {k:Nat} {f:Addr} {name qual:Str} {params:Arguments} {body:List Stmt} {scope:Scope} {dV kV doc pm cdv ct oc:Value} {an od:Option Addr}
 {osl:Array (Option Value)} {N ps:List Str} {sp:Sp} (lk:K.lookup f=some ⟨oc,od,.func (PySem.W.fnOf name qual params body scope dV kV doc pm an cdv ct),osl⟩) (hcd:PySem.W.codeIn K cdv qual=true) (S:ZX N ps scope)
 (len:∀vs H Q E,sp vs H Q E→vs.length=ps.length)
 (hbody:∀(A:Around) (outer:List Env) (s:Shared) (H:Hp) (vs:List V) (Q:VK) (E:XK),YC k (A.deeper (envOfC qual scope s.heap.objs.size f cdv))→sp vs H Q E →
  ∃t,QF (Vp CX P w K mg base N qual scope f cdv A outer s H E) body t∧t {nx:=λ_ H'=>Q .non H',rt:=Q} (start N vs) H):
 Wr P w K mg base CX (k+1) f (PySem.W.fnOf name qual params body scope dV kV doc pm an cdv ct) ps sp:=by
 refine⟨len,λA outer s H args us vs Q E hr e0 hb r hsp=>?_⟩
 have hl:=len _ _ _ _ hsp
 have KX:K.In s.heap:=e0.mod.dM.keeps λb o e=>(e0.bs b o e).1
 have lim:s.heap.NoLimit:=e0.mod.nolimit.keeps λb o e=>(e0.bs b o e).1
 have hkind:∀y∈ps.zip us,scope.names.lookup y.1=some .local∨(scope.names.lookup y.1=some .cell∧((cellsFrom (s.heap.objs.size+1) scope.names []).lookup y.1).isSome=true):=λ⟨n,v⟩ hy=>by
  rcases S.par n (List.of_mem_zip hy).1 with q |q
  ·exact .inl q
  ·exact .inr ⟨q,PySem.W.cellsFrom_some _ _ _ (.inl q)⟩
 refine codeAny_call_function hr.depth (KX _ _ lk) rfl S.co S.gen rfl (PySem.W.codeRec_of KX hcd) (hb _ _ _ _ ?_)
 refine wpAny_newFunctionEnv_cells S.kind hkind λenv he s1 x=>?_
 subst he
 refine⟨lim.keeps x.toInCall.keep,codeAny_func ?_⟩
 obtain⟨t,ht,hq⟩:=hbody A outer s H vs Q E (hr.deeper _) hsp
 have I:Inv (Vp CX P w K mg base N qual scope f cdv A outer s H E) [] (start N vs) H s1:=Fj S hr.hd e0 hl r x
 refine wpAny_mono (ht [] s1 (start N vs) H _ I hq) (λfl s' hs=>?_) λe s' hs=>hs
 have fin:∀{σ':St} {H':Hp} {v:V} {u:Value},Inv (Vp CX P w K mg base N qual scope f cdv A outer s H E) [] σ' H' s'→RelV v u→Q v H'→CE outer P w H s Q u s':=
  λ{σ' H' v u} J rv q=>⟨v,H',J.os,J.bare,J.base,J.hok,rv,q⟩
 cases fl with
 |ret u =>
  obtain⟨v,σ',H',J,rv,q⟩:=hs
  exact fin J rv q
 |next =>
  obtain⟨σ',H',J,q⟩:=hs
  exact fin (v:=V.non) (u:=Value.none) J rfl q
 |brk =>
  obtain⟨_,_,_,q⟩:=hs
  exact False.elim q
 |cont =>
  obtain⟨_,_,_,q⟩:=hs
  exact False.elim q
end L2
namespace L2
open PySem PySem.Spec PyProof.Rows
section
variable {X:Cx} {x:Str} {p pos:Pos} {e:Expr} {es:List Expr} {t:TA} {id T:String} {r:List V→Hp→VK→Prop}
def tCB (r:List V→Hp→VK→Prop) (t:TA):TE:=λσ H Q=>t σ H λvs H1=>r vs H1 Q
theorem ZV (hc:Xv X (.builtin id) r) (hg:Gl X x) (hm:X.mg x=none) (hv:bootBuiltins x=some (.builtin id)) (ha:PA X (e :: es) t) (hn:x≠"__name__":=by decide) (hdb:(x==("__debug__":Str))=false:=by decide)
 (he:starEach (e :: es) X.env=(false,eval e X.env) :: starEach es X.env:=by rfl) (hpl:(backTo pos (starEach es X.env)).any (·.1)=false:=by rfl):PE X (.Call (.Name x p) (e :: es) [] pos) (tCB r t):=by
 intro pins s σ H Q I h
 refine wpAny_Call_Name_kw (T3 I hg hm hv ?_ hn hdb)
 exact PyProof.Rows.callWith_builtin1 (Yy (ha pos pins s σ H _ I h) λus s1 ⟨vs,H1,I1,r1,q1⟩=>hc pins s1 σ H1 vs us Q I1 r1 q1) he hpl
theorem Zd (hc:Xv X (.type T) r) (hg:Gl X x) (hm:X.mg x=none) (hv:bootBuiltins x=some (.type T)) (ha:PA X (e :: es) t) (hn:x≠"__name__":=by decide) (hdb:(x==("__debug__":Str))=false:=by decide)
 (he:starEach (e :: es) X.env=(false,eval e X.env) :: starEach es X.env:=by rfl) (hpl:(backTo pos (starEach es X.env)).any (·.1)=false:=by rfl):PE X (.Call (.Name x p) (e :: es) [] pos) (tCB r t):=by
 intro pins s σ H Q I h
 refine wpAny_Call_Name_kw (T3 I hg hm hv ?_ hn hdb)
 exact PyProof.Rows.callWith_type1 (Yy (ha pos pins s σ H _ I h) λus s1 ⟨vs,H1,I1,r1,q1⟩=>hc pins s1 σ H1 vs us Q I1 r1 q1) he hpl
end
end L2
namespace HT
open PySem PyProof.Rows
def lexLt:List Int→List Int→Bool
 | [],[]=>false
 | [],_ :: _=>true
 |_ :: _,[]=>false
 |x :: xs,y :: ys=>if x=y then lexLt xs ys else decide (x<y)
section
open PySem.SeqAt
open PySem.AutoSeq1 (wpAny_loadPart')
open PySem.MeetsSeq PySem.MeetsSeq2 PySem.MeetsSeq3
end
section
variable {prog:Program} {w:World} {A:Around} {E:Value→Shared→Prop} {s:Shared}
def Jq (n d:Nat):Option Int→Nat
 |none=>d
 |some v=>if v<0 then(v+(n:Int)).toNat else min v.toNat n
theorem u_ (n d k:Nat):Jq n d (some (k:Int))=min k n:=by
 show(if(k:Int)<0 then((k:Int)+(n:Int)).toNat else min (k:Int).toNat n)=min k n
 rw[if_neg (by omega),Int.toNat_natCast]
end
end HT
namespace L2
open PySem PySem.Spec PyProof.Rows
abbrev TO:=St→Hp→(Option Int→Hp→Prop)→Prop
def PO (X:Cx) (e:Option Expr) (t:TO):Prop:=
 ∀(pins:List (Addr×Obj)) (s:Shared) (σ:St) (H:Hp) (Q:Option Int→Hp→Prop),Inv X pins σ H s→t σ H Q →
  wpAny (model X.prog X.w) X.A (evalPart e X.env) (λu s'=>∃o H',Inv X pins σ H' s'∧IsPart u o∧Q o H') X.xe s
def jc:TO:=λ_ H Q=>Q none H
def abx (t:TE):TO:=λσ H Q=>t σ H λx H1=>∃i,x= .int i∧Q (some i) H1
theorem intsAre_of {ns:List Int}:∀{us:List Value},Vals (ns.map V.int) us→IntsAre us ns:=by
 induction ns with
 |nil=>intro us r;rw[List.map_nil]at r;cases r;exact .nil
 |cons n ns ih =>
  intro us r
  rw[List.map_cons]at r
  cases r with
  |cons r1 r2 =>
   obtain⟨t,e⟩:=r1
   subst e
   exact .cons n t (ih r2)
section
variable {X:Cx} {e:Expr} {te:TE} {lo hi:Option Expr} {tl th:TO} {pos p2:Pos}
theorem u9:PO X none jc:=by
 intro pins s σ H Q I h
 rw[evalPart_none]
 exact wpAny_pure ⟨none,H,I,.none,h⟩
theorem Ro (h:PE X e te):PO X (some e) (abx te):=by
 intro pins s σ H Q I hw
 rw[evalPart_some]
 refine Yy (h pins s σ H _ I hw) λu s1 ⟨x,H1,I1,r1,q1⟩=>?_
 obtain⟨i,rfl,q⟩:=q1
 obtain⟨t,rfl⟩:=r1
 exact⟨some i,H1,I1,.int i t,q⟩
def SlR (X:Cx) (r:V→Option Int→Option Int→Hp→VK→Prop):Prop:=
 ∀(pins:List (Addr×Obj)) (s:Shared) (σ:St) (H:Hp) (x:V) (v vl vu:Value) (lo hi:Option Int) (sl:Addr) (Q:VK),Inv X pins σ H s→RelV x v→s.heap.IsSliceOf sl vl vu .none→IsPart vl lo→IsPart vu hi→r x lo hi H Q →
  ∃T id,typeLookup (.type T) "__getitem__"=pure (some (.builtin id))∧s.TypeIs v T∧wpAny (model X.prog X.w) X.A (getItem v (.ref sl)) (EP X pins σ Q) X.xe s
def tSl (r:V→Option Int→Option Int→Hp→VK→Prop) (te:TE) (tl th:TO):TE:=λσ H Q=>te σ H λx H1=>tl σ H1 λl H2=>th σ H2 λu H3=>r x l u H3 Q
theorem MJ {r:V→Option Int→Option Int→Hp→VK→Prop} (hr:SlR X r) (he:PE X e te) (hl:PO X lo tl) (hu:PO X hi th):PE X (.Subscript e (.Slice lo hi none p2) pos) (tSl r te tl th):=by
 intro pins s σ H Q I h
 refine Subscript_ (Yy (he pins s σ H _ I h) λv s1 ⟨x,H1,I1,r1,q1⟩=>?_)
 refine wpAny_Slice (Yy (hl pins s1 σ H1 _ I1 q1) λvl s2 ⟨l,H2,I2,pl,q2⟩=>Yy (hu pins s2 σ H2 _ I2 q2) λvu s3 ⟨u,H3,I3,pu,q3⟩=>?_)
 rw[evalPart_none]
 refine wpAny_pure ?_
 have I4:Inv X pins σ H3 {s3 with heap:=s3.heap.push {cls:=.type "slice",data:=.fields #[vl,vu,.none]}}:=I3.kept (t':=s3.toks) λb ob q=>Heap.get?_push_of_some _ q
 obtain⟨T,id,hT,ht,hg⟩:=hr pins {s3 with heap:=s3.heap.push {cls:=.type "slice",data:=.fields #[vl,vu,.none]}} σ H3 x v vl vu l u s3.heap.objs.size Q I4 r1 (Heap.IsSliceOf.new ..) pl pu q3
 show wpAny (model X.prog X.w) X.A (subscriptTail e (.Slice lo hi none p2) v (.ref s3.heap.objs.size)) (EP X pins σ Q) X.xe {s3 with heap:=s3.heap.push {cls:=.type "slice",data:=.fields #[vl,vu,.none]}}
 exact tail_any (ops:=[.ref s3.heap.objs.size,v]) ht hT hg (by with_unfolding_all rfl)
def K7 (xs:List V) (lo hi:Option Int):List V:=(xs.drop (HT.Jq xs.length 0 lo)).take (HT.Jq xs.length xs.length hi-HT.Jq xs.length 0 lo)
theorem Ka (xs:List V) (lo hi:Option Int):(K7 xs lo hi).length≤xs.length:=by
 unfold K7
 rw[List.length_take,List.length_drop]
 omega
def amT (K:PySem.W.Frag):V→Option Int→Option Int→Hp→VK→Prop:=λx lo hi H Q=>∃a xs,x= .ref a∧TY K H a xs ∧
 ¬(HT.Jq xs.length 0 lo=0∧HT.Jq xs.length xs.length hi=xs.length)∧∀p,H p=none→Q (.ref p) (upd H p (.tup (K7 xs lo hi)))
def amU (K:PySem.W.Frag):R2:=λx y H Q=>∃a b ns ms,x= .ref a∧y= .ref b∧TY K H a (ns.map V.int)∧TY K H b (ms.map V.int)∧Q (.bl (HT.lexLt ns ms)) H
def ams (K:PySem.W.Frag):R2:=λx y H Q=>∃a b xs ys,x= .ref a∧y= .ref b∧TY K H a xs∧TY K H b ys∧xs≠[]∧xs.length+ys.length≤sizeLine ∧
 (ys=[]→Q (.ref a) H)∧(ys≠[]→∀p,H p=none→Q (.ref p) (upd H p (.tup (xs++ys))))
end
end L2
namespace L2
open PySem PySem.Spec PyProof.Rows
def qe (n:Nat) (i:Int):Option Nat:=if 0≤i then(if i<n then some i.toNat else none)else if -(n:Int)≤i then some (i+n).toNat else none
def MP {α:Type} (xs:List α) (i:Int):Option α:=(qe xs.length i).bind λj=>xs[j]?
theorem uZ {n:Nat} {i:Int} {j:Nat} (h:qe n i=some j):seqIndex? i n=some j∧j<n∧ -(n:Int)≤i∧i<n:=by
 unfold qe at h
 by_cases h0:0≤i
 ·rw[if_pos h0]at h
  by_cases h1:i<n
  ·rw[if_pos h1]at h
   have e:i.toNat=j:=Option.some.inj h
   exact⟨by rw[seqIndex_of h0 h1,e],by omega,by omega,h1⟩
  ·rw[if_neg h1]at h;cases h
 ·rw[if_neg h0]at h
  by_cases h1: -(n:Int)≤i
  ·rw[if_pos h1]at h
   have e:(i+n).toNat=j:=Option.some.inj h
   exact⟨by rw[seqIndex_neg (by omega) h1,e],by omega,h1,by omega⟩
  ·rw[if_neg h1]at h;cases h
theorem Dv {α:Type} {xs:List α} {i:Int} {v:α} (h:MP xs i=some v):∃j,seqIndex? i xs.length=some j∧xs[j]? =some v∧j<xs.length∧ -(xs.length:Int)≤i∧i<xs.length:=by
 unfold MP at h
 cases e:qe xs.length i with
 |none=>rw[e]at h;cases h
 |some j =>
  rw[e]at h
  obtain⟨h1,h2,h3,h4⟩:=uZ e
  exact⟨j,h1,h,h2,h3,h4⟩
theorem uY {α:Type} {xs:List α} {j:Nat} {v:α} (h:xs[j]? =some v):MP xs (j:Int)=some v:=by
 have hj:j<xs.length:=(List.getElem?_eq_some_iff.mp h).1
 have e:qe xs.length (j:Int)=some j:=by
  unfold qe
  rw[if_pos (by omega),if_pos (by omega)];simp
 unfold MP;rw[e];exact h
def uX (b:Expr):Prop:=∀o i,subscripted b false o i=operate [o,i] (getItem o i)
def aX (X:Cx) (r:R2):Prop:=
 ∀(value slice:Expr) (pins:List (Addr×Obj)) (s:Shared) (σ:St) (H:Hp) (x y:V) (v u:Value) (Q:VK),Inv X pins σ H s→RelV x v→RelV y u→r x y H Q →
  subscripted slice false v u=operate [v,u] (getItem v u)→wpAny (model X.prog X.w) X.A (subscriptTail value slice v u) (EP X pins σ Q) X.xe s
def pH (X:Cx) (id:String) (r:V→List V→Hp→VK→Prop):Prop:=
 ∀(pins:List (Addr×Obj)) (s:Shared) (σ:St) (H:Hp) (x:V) (xs:List V) (v:Value) (us:List Value) (Q:VK),Inv X pins σ H s→RelV x v→Vals xs us→r x xs H Q →
  wpAny (model X.prog X.w) X.A (call (.builtin id) (v :: us)) (EP X pins σ Q) X.xe s
section
variable {X:Cx} {a b:Expr} {ta tb:TE} {pos:Pos}
theorem Zq {r:R2} (hr:aX X r) (ha:PE X a ta) (hb:PE X b tb) (hs:uX b):PE X (.Subscript a b pos) (bD r ta tb):=by
 intro pins s σ H Q I h
 exact Subscript_ (bC ha hb I h λv u s2 x y H2 I2 rx ry q=>hr a b pins s2 σ H2 x y v u Q I2 rx ry q (hs _ _))
def aW (K:PySem.W.Frag):R2:=λx y H Q=>∃p xs i v,x= .ref p∧y= .int i∧ZJ K H p xs∧MP xs i=some v∧Q v H
def aV (K:PySem.W.Frag):R2:=λx y H Q=>∃p xs i v,x= .ref p∧y= .int i∧TY K H p xs∧MP xs i=some v∧Q v H
def aby:R2:=λx y H Q=>∃z i c,x= .str z∧y= .int i∧z.length≤sizeLine∧MP z.cps.toList i=some c∧Q (.str ⟨#[c]⟩) H
theorem i_:aX X (aW X.K):=by
 intro value slice pins s σ H x y v u Q I rx ry h hs
 obtain⟨p,xs,i,z,rfl,rfl,hq,he,q⟩:=h
 cases rx
 obtain⟨t,rfl⟩:=ry
 obtain⟨its,r,pl,hz⟩:=I.list hq
 obtain⟨j,h1,h2,h3,h4,h5⟩:=Dv he
 obtain⟨w,ew,rw'⟩:=r.get h2
 have hl:=r.length
 have hn:=NP
 have fin:EP X pins σ Q w s:=⟨z,H,I,rw',q⟩
 by_cases h0:0≤i
 ·have hj:i.toNat=j:=by
   rw[seqIndex_of h0 h5]at h1
   exact Option.some.inj h1
  exact item_listR pl.isList h0 (by omega) (by rw[hj];simpa using ew) fin hs
 ·have hj:(i+(its.toArray.size:Int)).toNat=j:=by
   rw[seqIndex_neg (by omega) h4]at h1
   rw[List.size_toArray,←hl]
   exact Option.some.inj h1
  exact subscriptTail_builtinR (x:=w) pl.isList.typeIs slot_list_getitem.lookup
   (wpAny_getItem_list_neg (Q:=λr s'=>r=w∧EP X pins σ Q r s') pl.isList (by omega) (by rw[List.size_toArray]<;>omega) (by omega) (by rw[hj];simpa using ew) ⟨rfl,fin⟩) hs
theorem aU:aX X (aV X.K):=by
 intro value slice pins s σ H x y v u Q I rx ry h hs
 obtain⟨p,xs,i,z,rfl,rfl,hq,he,q⟩:=h
 cases rx
 obtain⟨t,rfl⟩:=ry
 obtain⟨its,r,pl,hz⟩:=I.tuple hq
 obtain⟨j,h1,h2,h3,h4,h5⟩:=Dv he
 obtain⟨w,ew,rw'⟩:=r.get h2
 have hl:=r.length
 have hn:=NP
 have fin:EP X pins σ Q w s:=⟨z,H,I,rw',q⟩
 exact subscriptTail_builtinR (x:=w) pl.typeIs slot_tuple_getitem.lookup
  (getItem_tuple (j:=j) (Q:=λr s'=>r=w∧EP X pins σ Q r s') pl (by omega) (by omega) (by rw[List.size_toArray,←hl];exact h1) (by simpa using ew) ⟨rfl,fin⟩) hs
theorem aR:aX X aby:=by
 intro value slice pins s σ H x y v u Q I rx ry h hs
 obtain⟨z,i,c,rfl,rfl,hz,he,q⟩:=h
 obtain⟨t,rfl⟩:=rx
 obtain⟨t',rfl⟩:=ry
 obtain⟨j,h1,h2,h3,h4,h5⟩:=Dv he
 have hl:z.cps.toList.length=z.length:=by simp[Str.length]
 rw[hl]at h1 h4 h5
 have hn:=NP
 exact tail_any (typeIs_str s z t) slot_str_getitem.lookup (getItem_str (c:=c) (by
  have e1:decide (i< -(2 ^ 63:Int))=false:=decide_eq_false (by omega)
  have e2:decide (i ≥ 2 ^ 63)=false:=decide_eq_false (by omega)
  rw[e1,e2,Bool.or_false]) (by rw[h1];simpa using h2) ⟨.str ⟨#[c]⟩,H,I.tok _,⟨_,rfl⟩,q⟩) hs
def rIx (K:PySem.W.Frag):R2:=λx y H Q=>aW K x y H Q∨aV K x y H Q∨aby x y H Q
theorem xO (its:List Value) (n j:Nat) (u:Value):Obj.mapSeq (·.setIfInBounds j u) {cls:=.type "list",data:=.seq its.toArray n}={cls:=.type "list",data:=.seq (its.set j u).toArray n}:=by
 simp[Obj.mapSeq]
theorem Inv.lst {pins:List (Addr×Obj)} {σ:St} {H:Hp} {s:Shared} {p:Addr} {xs:List V} (I:Inv X pins σ H s) (h:H p=some (.lst xs)):
 ∃(its:List Value) (n:Nat),Vals xs its∧s.heap.get? p=some {cls:=.type "list",data:=.seq its.toArray n}∧xs.length≤sizeLine:=by
 obtain⟨z,its,n,r,e⟩:=I.hok p _ h
 exact⟨its,n,r,e,z⟩
theorem Inv.aQ {pins:List (Addr×Obj)} {σ:St} {H:Hp} {s:Shared} {p:Addr} {xs ys:List V} {its its':List Value} {n n':Nat} {f:Obj→Obj} (I:Inv X pins σ H s) (h:H p=some (.lst xs))
 (ho:s.heap.get? p=some {cls:=.type "list",data:=.seq its.toArray n}) (hf:f {cls:=.type "list",data:=.seq its.toArray n}={cls:=.type "list",data:=.seq its'.toArray n'}) (r:Vals ys its') (hz:ys.length≤sizeLine) (t:Nat):
 Inv X pins σ (upd H p (.lst ys)) {s with heap:=s.heap.update p f,toks:=t}:=by
 have e:(s.heap.update p f).get? p=some {cls:=.type "list",data:=.seq its'.toArray n'}:=by
  rw[Heap.get?_update_self f ho (by rw[hf]<;>rfl),hf]
 refine I.write (x:=p) (e:=p) (by rw[h];trivial) (.inl rfl) (λb u hb q=>(Heap.get?_update_other _ _ (Ne.symm hb)).trans q) ⟨_,e⟩ ?_
 exact⟨hz,its',n',r,e⟩
def abz:V→V→V→Hp→(Hp→Prop)→Prop:=λo i v H Q=>∃p xs k j,o= .ref p∧i= .int k∧H p=some (.lst xs)∧qe xs.length k=some j∧Q (upd H p (.lst (xs.set j v)))
theorem set_list:abe X abz:=by
 intro pins s σ H o i v ov iv u Q I ro ri rv h
 obtain⟨p,xs,k,j,rfl,rfl,hp,hj,q⟩:=h
 cases ro
 obtain⟨t,rfl⟩:=ri
 obtain⟨its,n,r,ho,hz⟩:=I.lst hp
 obtain⟨h1,h2,h3,h4⟩:=uZ hj
 have hl:=r.length
 have hn:=NP
 have I':Inv X pins σ (upd H p (.lst (xs.set j v))) {s with heap:=s.heap.update p (Obj.mapSeq (·.setIfInBounds j u))}:=
  I.aQ hp ho (xO its n j u) (r.set rv j) (by rw[List.length_set];exact hz) s.toks
 by_cases h0:0≤k
 ·have hk:k.toNat=j:=by
   rw[seqIndex_of h0 h4]at h1
   exact Option.some.inj h1
  exact PySem.W.ki_setAt ho h0 (by omega) (by rw[List.size_toArray,←hl];exact h4) (by rw[hk];exact⟨_,I',q⟩)
 ·have hk:(k+(its.toArray.size:Int)).toNat=j:=by
   rw[seqIndex_neg (by omega) h3]at h1
   rw[List.size_toArray,←hl]
   exact Option.some.inj h1
  exact PySem.W.ki_setBack ho (by omega) (by rw[List.size_toArray,←hl];exact h3) (by omega) (by rw[hk];exact⟨_,I',q⟩)
theorem Du (lo hi:Option Int) (n:Nat):(sliceBounds lo hi none n).1=((HT.Jq n 0 lo:Nat):Int)∧(sliceBounds lo hi none n).2.1=((HT.Jq n n hi:Nat):Int)∧(sliceBounds lo hi none n).2.2=1:=by
 refine⟨?_,?_,rfl⟩
 ·cases lo with
  |none=>simp[sliceBounds,HT.Jq]
  |some i =>
   simp only[sliceBounds,HT.Jq,Option.getD_none,show(1:Int) > 0 by decide,if_true]
   by_cases h:i<0
   ·simp only[h,if_true]<;>omega
   ·simp only[h,if_false]<;>omega
 ·cases hi with
  |none=>simp[sliceBounds,HT.Jq]
  |some i =>
   simp only[sliceBounds,HT.Jq,Option.getD_none,show(1:Int) > 0 by decide,if_true]
   by_cases h:i<0
   ·simp only[h,if_true]<;>omega
   ·simp only[h,if_false]<;>omega
theorem Gs (its:List Value) (lo hi:Option Int):slicePick its.toArray lo hi none=((its.drop (HT.Jq its.length 0 lo)).take (HT.Jq its.length its.length hi-HT.Jq its.length 0 lo)).toArray:=by
 obtain⟨h1,h2,h3⟩:=Du lo hi its.toArray.size
 unfold slicePick
 rw[h1,h2,h3]
 simp only[sliceRange_one,pick_run,List.size_toArray]<;>rfl
def abA (K:PySem.W.Frag):V→Option Int→Option Int→Hp→VK→Prop:=λx lo hi H Q=>∃a xs,x= .ref a∧ZJ K H a xs∧∀p,H p=none→Q (.ref p) (upd H p (.lst (K7 xs lo hi)))
theorem iZ:SlR X (abA X.K):=by
 intro pins s σ H x v vl vu lo hi sl Q I rx hs pl pu h
 obtain⟨a,xs,rfl,hx,q⟩:=h
 cases rx
 obtain⟨its,r,ht,hz⟩:=I.list hx
 have hlen:=r.length
 refine⟨"list",_,slot_list_getitem.lookup,ht.isList.typeIs,?_⟩
 refine wpAny_getItem_list_slice ht.isList hs pl pu .none (by simp) ?_ (by rw[List.size_toArray]<;>omega)
 rw[Gs,←hlen]
 refine⟨.ref s.heap.objs.size,_,I.laid (t':=s.toks) (o:=.lst (K7 xs lo hi)) (λb ob q=>Heap.get?_push_of_some _ q) (Nat.le_refl _) ?_,rfl,q _ (I.hok.fresh (Nat.le_refl _))⟩
 exact⟨Nat.le_trans (Ka xs lo hi) hz,_,0,(r.drop (HT.Jq xs.length 0 lo)).take (HT.Jq xs.length xs.length hi-HT.Jq xs.length 0 lo),Heap.get?_push_size _ rfl⟩
def Xx:V→Bool
 | .non=>true
 | .bl _=>true
 | .int _=>true
 | .str _=>true
 |_=>false
def xM:V→V→Bool
 | .non,.non=>true
 | .bl a,.bl b=>a==b
 | .bl a,.int b=>(if a then 1 else 0)==b
 | .int a,.bl b=>a==(if b then 1 else 0)
 | .int a,.int b=>a==b
 | .str a,.str b=>a==b
 |_,_=>false
theorem pG {A:Around} {s:Shared} {y x:V} {u v:Value} (ry:RelV y u) (rx:RelV x v) (fy:Xx y=true) (fx:Xx x=true):SeqAt.EqAt A s u v (xM y x):=by
 cases y with
 |non =>
  cases ry
  cases x with
  |non=>cases rx;exact SeqAt.EqAt.same _
  |bl b=>cases rx;exact SeqAt.EqAt.none_bool b
  |int b=>obtain⟨t,rfl⟩:=rx;exact SeqAt.EqAt.none_int b t
  |str b=>obtain⟨t,rfl⟩:=rx;exact SeqAt.EqAt.none_str b t
  |_=>exact absurd (show false=true from fx) Bool.false_ne_true
 |bl a =>
  cases ry
  cases x with
  |non=>cases rx;exact SeqAt.EqAt.bool_none a
  |bl b=>cases rx;exact SeqAt.EqAt.bool_bool a b
  |int b=>obtain⟨t,rfl⟩:=rx;exact SeqAt.EqAt.bool_int a b t
  |str b=>obtain⟨t,rfl⟩:=rx;exact SeqAt.EqAt.bool_str a b t
  |_=>exact absurd (show false=true from fx) Bool.false_ne_true
 |int a =>
  obtain⟨t',rfl⟩:=ry
  cases x with
  |non=>cases rx;exact SeqAt.EqAt.int_none a t'
  |bl b=>cases rx;exact SeqAt.EqAt.int_bool a t' b
  |int b=>obtain⟨t,rfl⟩:=rx;exact SeqAt.EqAt.int_int a t' b t
  |str b=>obtain⟨t,rfl⟩:=rx;exact SeqAt.EqAt.int_str a t' b t
  |_=>exact absurd (show false=true from fx) Bool.false_ne_true
 |str a =>
  obtain⟨t',rfl⟩:=ry
  cases x with
  |non=>cases rx;exact SeqAt.EqAt.str_none a t'
  |bl b=>cases rx;exact SeqAt.EqAt.str_bool a t' b
  |int b=>obtain⟨t,rfl⟩:=rx;exact SeqAt.EqAt.str_int a t' b t
  |str b=>obtain⟨t,rfl⟩:=rx;exact SeqAt.EqAt.str_str a t' b t
  |_=>exact absurd (show false=true from fx) Bool.false_ne_true
 |_=>exact absurd (show false=true from fy) Bool.false_ne_true
def eqU (x:V) (u:Value):Bool:=match u with
 | .none=>xM .non x
 | .bool b=>xM (.bl b) x
 | .int i _=>xM (.int i) x
 | .str z _=>xM (.str z) x
 |_=>false
theorem pF {x y:V} {u:Value} (r:RelV y u) (f:Xx y=true):eqU x u=xM y x:=by
 cases y with
 |non=>cases r;rfl
 |bl b=>cases r;rfl
 |int i=>obtain⟨t,rfl⟩:=r;rfl
 |str z=>obtain⟨t,rfl⟩:=r;rfl
 |_=>exact absurd (show false=true from f) Bool.false_ne_true
theorem Bm {A:Around} {s:Shared} {x:V} {v:Value} (rx:RelV x v) (fx:Xx x=true):∀{xs:List V} {us:List Value},Vals xs us→xs.all Xx=true→∀u∈us,SeqAt.EqAt A s u v (eqU x u)
 |_,_,.nil,_=>λu hu=>by cases hu
 |y :: xs,u :: us,.cons r t,f=>λu' hu=>by
  rw[List.all_cons,Bool.and_eq_true]at f
  rcases List.mem_cons.mp hu with rfl |hu
  ·rw[pF r f.1];exact pG r rx f.1 fx
  ·exact Bm rx fx t f.2 u' hu
def inV (x:V) (xs:List V):Bool:=xs.any λy=>xM y x
def rIn (K:PySem.W.Frag) (neg:Bool):R2:=λx y H Q=>∃p xs,y= .ref p∧(ZJ K H p xs∨TY K H p xs)∧Xx x=true∧xs.all Xx=true∧Q (.bl (if neg then !inV x xs else inV x xs)) H
theorem Dt:Xv X (.builtin "len") (λxs H Q=>∃p ys,xs=[.ref p]∧(ZJ X.K H p ys∨TY X.K H p ys)∧Q (.int ys.length) H):=by
 intro pins s σ H xs us Q I r h
 obtain⟨p,ys,rfl,hq,q⟩:=h
 obtain⟨u,rfl,rx⟩:=vals1 r
 cases rx
 have hn:=NP
 rcases hq with hq |hq
 ·obtain⟨its,r',pl,hz⟩:=I.list hq
  have hlen:=r'.length
  exact Calls.call_len_list pl.isList (by simp only[List.size_toArray]<;>omega) ⟨.int ys.length,H,I.tok _,⟨s.toks+1,by rw[List.size_toArray,hlen]⟩,q⟩
 ·obtain⟨its,r',pl,hz⟩:=I.tuple hq
  have hlen:=r'.length
  exact len_tuple pl (by simp only[List.size_toArray]<;>omega) ⟨.int ys.length,H,I.tok _,⟨s.toks+1,by rw[List.size_toArray,hlen]⟩,q⟩
theorem Rn:Xv X (.builtin "len") (λxs H Q=>∃z,xs=[.str z]∧z.length≤sizeLine∧Q (.int z.length) H):=by
 intro pins s σ H xs us Q I r h
 obtain⟨z,rfl,hz,q⟩:=h
 obtain⟨u,rfl,t,rfl⟩:=vals1 r
 have hn:=NP
 exact len_str (by omega) ⟨.int z.length,H,I.tok _,⟨_,rfl⟩,q⟩
theorem Dr:Xv X (.type "list") (λxs H Q=>∃p ys,xs=[.ref p]∧(ZJ X.K H p ys∨TY X.K H p ys)∧∀l,H l=none→Q (.ref l) (upd H l (.lst ys))):=by
 intro pins s σ H xs us Q I r h
 obtain⟨p,ys,rfl,hq,q⟩:=h
 obtain⟨u,rfl,rx⟩:=vals1 r
 cases rx
 have fin:∀(its:List Value),Vals ys its→ys.length≤sizeLine→∀(h':Heap) (c':Nat),(∀b o',s.heap.get? b=some o'→h'.get? b=some o') →
  h'.get? s.heap.objs.size=some {cls:=.type "list",dict:=none,data:=.seq its.toArray c',slots:=#[]}→EP X pins σ Q (.ref s.heap.objs.size) {s with heap:=h'}:=λits r' hz h' c' kp e =>
  ⟨.ref s.heap.objs.size,_,I.laid (t':=s.toks) kp (Nat.le_refl _) (show Xe X.prog X.w _ h' _ (.lst ys)from⟨hz,its,c',r',e⟩),rfl,q _ (I.hok.fresh (Nat.le_refl _))⟩
 rcases hq with hq |hq
 ·obtain⟨its,r',pl,hz⟩:=I.list hq
  have hlen:=r'.length
  obtain⟨o,ho,hc,n,hd⟩:=pl.isList
  exact call_list_seq p (.inl rfl) ho hc hd (λh' c' kp e=>fin its r' hz h' c' kp e) (by simp only[List.size_toArray]<;>omega)
 ·obtain⟨its,r',pl,hz⟩:=I.tuple hq
  have hlen:=r'.length
  obtain⟨o,ho,hc,n,hd⟩:=pl
  exact call_list_seq p (.inr rfl) ho hc hd (λh' c' kp e=>fin its r' hz h' c' kp e) (by simp only[List.size_toArray]<;>omega)
def tyV (K:PySem.W.Frag) (T:String) (x:V) (H:Hp):Prop:=match x with
 | .str _=>T="str"
 | .int _=>T="int"
 | .ref p=>(T="list"∧∃xs,ZJ K H p xs)∨(T="tuple"∧∃o,K.lookup p=some o∧o.cls= .type "tuple"∧o.dict=none) ∨
  (T="dict"∧((∃kvs,H p=some (.dK kvs))∨∃kvs,H p=some (.dT kvs)))∨(T="set"∧∃S n,H p=some (.set S n))
 |_=>False
theorem pD {pins:List (Addr×Obj)} {σ:St} {H:Hp} {s:Shared} {T:String} {x:V} {v:Value} (I:Inv X pins σ H s) (r:RelV x v) (ty:tyV X.K T x H):
 s.TypeIs v T∧∀a,v= .ref a→∃ob,s.heap.get? a=some ob∧ob.dict=none:=by
 cases x with
 |str z =>
  obtain⟨t,rfl⟩:=r
  cases(show T="str" from ty)
  exact⟨typeIs_str s z t,λ_ e=>nomatch e⟩
 |int i =>
  obtain⟨t,rfl⟩:=r
  cases(show T="int" from ty)
  exact⟨typeIs_int s i t,λ_ e=>nomatch e⟩
 |ref p =>
  cases r
  rcases ty with⟨rfl,xs,hq⟩ | ⟨rfl,o,hk,hc,hd⟩ | ⟨rfl,hk⟩ | ⟨rfl,S,n,hk⟩
  ·obtain⟨its,_,pl,_⟩:=I.list hq
   refine⟨pl.isList.typeIs,λa e=>?_⟩
   cases e
   obtain⟨o,n,e,c,hd,_⟩:=pl
   exact⟨o,e,hd⟩
  ·refine⟨⟨o,I.Qx p o hk,hc⟩,λa e=>?_⟩
   cases e
   exact⟨o,I.Qx _ o hk,hd⟩
  ·have z:∃o,s.heap.get? p=some o∧o.ExactDict:=by
    rcases hk with⟨kvs,hk⟩ | ⟨kvs,hk⟩
    ·obtain⟨_,_,_,_,o,_,_,e,ex,_⟩:=I.hok p _ hk
     exact⟨o,e,ex⟩
    ·obtain⟨_,_,_,_,o,_,_,e,ex,_⟩:=I.hok p _ hk
     exact⟨o,e,ex⟩
   obtain⟨o,e,ex⟩:=z
   refine⟨⟨o,e,ex.1⟩,λa e2=>?_⟩
   cases e2
   exact⟨o,e,ex.2.1⟩
  ·obtain⟨o,_,_,_,e,ex,_⟩:=I.hok p _ hk
   refine⟨⟨o,e,ex.1⟩,λa e2=>?_⟩
   cases e2
   exact⟨o,e,ex.2.1⟩
 |_=>exact False.elim ty
def abB (K:PySem.W.Frag) (T:String) (r:V→List V→Hp→VK→Prop) (to:TE):TE:=λσ H Q=>to σ H λx H1=>tyV K T x H1∧r x [] H1 Q
def tBM (K:PySem.W.Frag) (T:String) (r:V→List V→Hp→VK→Prop) (to:TE) (t:TA):TE:=λσ H Q=>to σ H λx H1=>tyV K T x H1∧t σ H1 λxs H2=>r x xs H2 Q
variable {o e:Expr} {es:List Expr} {to:TE} {t:TA} {name:Str} {apos cpos:Pos} {T id:String} {r:V→List V→Hp→VK→Prop}
theorem aP (pa:PlainAttrs T) (slot:Slot T name id) (hty:typeOf (.builtin id)=pure (.type "method_descriptor")) (hm:pH X id r) (ho:PE X o to)
 (hbase:attributeBase o name X.env (eval o X.env)=eval o X.env:=by rfl) (hline:(apos.endLine==cpos.line)=true:=by rfl):PE X (.Call (.Attribute o name apos) [] [] cpos) (abB X.K T r to):=by
 intro pins s σ H Q I h
 refine wpAny_Call_method0_late hbase hline (Yy (ho pins s σ H _ I h) λv s1 ⟨x,H1,I1,r1,ty,q1⟩=>?_)
 obtain⟨h1,h2⟩:=pD I1 r1 ty
 exact⟨T,id,pa,slot,hty,h1,h2,Calls.callWith_builtin rfl (PySem.evalArgs_none (hm pins s1 σ H1 x [] v [] Q I1 r1 .nil q1))⟩
theorem abC (pa:PlainAttrs T) (slot:Slot T name id) (hty:typeOf (.builtin id)=pure (.type "method_descriptor")) (hm:pH X id r) (ho:PE X o to) (ha:PA X (e :: es) t)
 (hbase:attributeBase o name X.env (eval o X.env)=eval o X.env:=by rfl)
 (hfew:((backTo cpos (starEach (e :: es) X.env)).all (λx=> !x.1) && (backToKw cpos (keywordEach [] X.env)).all (λx=>x.1.isSome)
  && decide ((e :: es).length+([]:List Keyword).length+(if([]:List Keyword).isEmpty then 0 else 1)<30))=true:=by rfl)
 (hline:(apos.endLine==cpos.line)=true:=by rfl) (hs:starEach (e :: es) X.env=(false,eval e X.env) :: starEach es X.env:=by rfl) (hplain:(backTo cpos (starEach es X.env)).any (·.1)=false:=by rfl):
 PE X (.Call (.Attribute o name apos) (e :: es) [] cpos) (tBM X.K T r to t):=by
 intro pins s σ H Q I h
 refine wpAny_Call_method_late hbase hfew hline rfl (Yy (ho pins s σ H _ I h) λv s1 ⟨x,H1,I1,r1,ty,q1⟩=>?_)
 obtain⟨h1,h2⟩:=pD I1 r1 ty
 refine⟨T,id,pa,slot,hty,h1,h2,?_⟩
 have hA:=ha cpos pins s1 σ H1 _ I1 q1
 rw[hs]at hA ⊢
 refine Calls.callWith_builtin (by show(false || (backTo cpos (starEach es X.env)).any (·.1))=false;rw[hplain]<;>rfl) (Calls.evalArgs_plain ?_)
 exact Yy hA λus s2 ⟨vs,H2,I2,r2,q2⟩=>hm pins s2 σ H2 x vs v us Q I2 r1 r2 q2
end
end L2
namespace L2
open PySem PySem.Spec PyProof.Rows
def MtM (X:Cx) (id:String) (r:V→List V→Hp→VK→Prop):Prop:=
 ∀(pins:List (Addr×Obj)) (s:Shared) (σ:St) (H:Hp) (x:V) (xs:List V) (v:Value) (us:List Value) (Q:VK),Inv X pins σ H s→RelV x v→Vals xs us→r x xs H Q →
  wpAny (model X.prog X.w) X.A (call (.builtin id) (v :: us)) (EP X pins σ Q) X.xe s
theorem Vals.one:∀{x:V} {us:List Value},Vals [x] us→∃u,us=[u]∧RelV x u
 |_,_,.cons r .nil=>⟨_,rfl,r⟩
theorem Vals.zero:∀{us:List Value},Vals [] us→us=[]
 |_,.nil=>rfl
theorem Vals.dropLast {xs:List V} {us:List Value} (h:Vals xs us):Vals xs.dropLast us.dropLast:=by
 induction h with
 |nil=>exact .nil
 |cons r t ih =>
  cases t with
  |nil=>exact .nil
  |cons q t'=>exact .cons r ih
theorem Vals.rep {xs:List V} {us:List Value} (h:Vals xs us):∀k:Nat,Vals (List.replicate k xs).flatten (List.replicate k us).flatten
 | 0=> .nil
 |k+1=>by
  rw[List.replicate_succ,List.replicate_succ,List.flatten_cons,List.flatten_cons]
  exact Vals.append h (Vals.rep h k)
theorem xK {α:Type} (l:List α):l.eraseIdx (l.length-1)=l.dropLast:=by
 induction l with
 |nil=>rfl
 |cons a r ih =>
  cases r with
  |nil=>rfl
  |cons b r =>
   have e:(a :: b :: r).length-1=((b :: r).length-1)+1:=by
    have h1:(a :: b :: r).length=r.length+2:=rfl
    have h2:(b :: r).length=r.length+1:=rfl
    omega
   rw[e,List.eraseIdx_cons_succ,ih]
   all_goals rfl
theorem foldl_rep (its:List Value):∀(k:Nat) (acc:List Value),
 List.foldl (λx1 x2=>x1++x2) acc.toArray (List.replicate k its.toArray)=(acc++(List.replicate k its).flatten).toArray
 | 0,acc=>by simp
 |k+1,acc=>by
  have e:acc.toArray++its.toArray=(acc++its).toArray:=by simp
  have e2:(acc++its)++(List.replicate k its).flatten=acc++(List.replicate (k+1) its).flatten:=by
   rw[List.replicate_succ,List.flatten_cons,List.append_assoc]
  rw[←e2,←foldl_rep its k (acc++its),←e,List.replicate_succ,List.foldl_cons]
section
variable {X:Cx} {pins:List (Addr×Obj)} {σ:St} {H:Hp} {s:Shared} {l b:Addr} {xs ys zs:List V}
theorem Inv.abD {its its':List Value} {n:Nat} {f:Array Value→Array Value} {t':Nat} (I:Inv X pins σ H s) (hH:H l=some (.lst xs))
 (e:s.heap.get? l=some {cls:=.type "list",data:=.seq its.toArray n}) (hf:f its.toArray=its'.toArray) (hv:Vals ys its') (hz:ys.length≤sizeLine):
 Inv X pins σ (upd H l (.lst ys)) {s with heap:=s.heap.update l (Obj.mapSeq f),toks:=t'}:=by
 have q:=PySem.IsL.update e f
 rw[hf]at q
 refine I.write (x:=l) (e:=l) (by rw[hH];exact trivial) (.inl rfl) (λb' u hb hu=>(Heap.get?_update_other s.heap (Obj.mapSeq f) (Ne.symm hb)).trans hu) ⟨_,q⟩ ?_
 exact⟨hz,its',_,hv,q⟩
theorem Inv.abE {its:List Value} {t':Nat} (I:Inv X pins σ H s) (hv:Vals ys its) (hz:ys.length≤sizeLine):
 Inv X pins σ (upd H s.heap.objs.size (.lst ys)) {s with heap:=s.heap.push {cls:=.type "list",data:=.seq its.toArray},toks:=t'}:=
 I.laid (λ_ _ q=>Heap.get?_push_of_some _ q) (Nat.le_refl _) ⟨hz,its,0,hv,Heap.get?_push_size _ rfl⟩
theorem Inv.fresh (I:Inv X pins σ H s):H s.heap.objs.size=none:=I.hok.fresh (Nat.le_refl _)
theorem Inv.pC (I:Inv X pins σ H s) (hH:H l=some (.lst xs)):xs.length≤sizeLine∧∃(its:List Value) (n:Nat),Vals xs its∧xs.length=its.length∧s.heap.get? l=some {cls:=.type "list",data:=.seq its.toArray n}:=by
 obtain⟨z,its,n,r,e⟩:=I.hok l _ hH
 exact⟨z,its,n,r,r.length,e⟩
theorem pB {n:Nat} (h:n≤sizeLine):Builtin.List.listTooLong n=false:=by
 unfold Builtin.List.listTooLong
 exact decide_eq_false (by omega)
end
section
variable {X:Cx}
def iY:V→List V→Hp→VK→Prop:=λx vs H Q=>∃l xs y,x= .ref l∧vs=[y]∧H l=some (.lst xs)∧xs.length<sizeLine∧Q .non (upd H l (.lst (xs++[y])))
theorem Xk:MtM X "list.append" iY:=by
 intro pins s σ H x vs v us Q I rx rv h
 obtain⟨l,xs,y,rfl,rfl,hH,hz,q⟩:=h
 cases rx
 obtain⟨u,rfl,ru⟩:=rv.one
 obtain⟨z,its,n,r,hl,e⟩:=I.pC hH
 refine call_meets F.slot_list_append ⟨_,e,rfl⟩ F.entry_list_append (F.args_list_append_2 _ _) (PySem.list_append l its.toArray n u (by rw[List.size_toArray];omega)) ⟨e,?_⟩
 refine⟨.non,_,I.abD (its':=its++[u]) hH e (by simp) (r.append (.cons ru .nil)) ?_,rfl,q⟩
 rw[List.length_append,List.length_singleton]
 omega
def adG:V→List V→Hp→VK→Prop:=λx vs H Q=>∃l b xs zs,x= .ref l∧vs=[.ref b]∧H l=some (.lst xs)∧H b=some (.lst zs)∧xs.length+zs.length≤sizeLine∧Q .non (upd H l (.lst (xs++zs)))
def ad1:V→List V→Hp→VK→Prop:=λx vs H Q=>∃l xs y,x= .ref l∧vs=[]∧H l=some (.lst xs)∧xs[xs.length-1]? =some y∧Q y (upd H l (.lst xs.dropLast))
theorem pA:MtM X "list.pop" ad1:=by
 intro pins s σ H x vs v us Q I rx rv h
 obtain⟨l,xs,y,rfl,rfl,hH,hy,q⟩:=h
 cases rx
 have hus:=rv.zero
 subst hus
 obtain⟨z,its,n,r,hl,e⟩:=I.pC hH
 obtain⟨u,hu,ru⟩:=r.get hy
 have hy':its.toArray[its.toArray.size-1]? =some u:=by
  show its.toArray[its.length-1]? =some u
  rw[←Array.getElem?_toList,←hl]
  exact hu
 refine call_meets F.slot_list_pop ⟨_,e,rfl⟩ F.entry_list_pop (F.args_list_pop_1 _) (MeetsSeq.list_pop_last l its.toArray n u hy' (by rw[List.size_toArray];omega)) ⟨e,?_⟩
 refine⟨y,_,I.abD (its':=its.dropLast) hH e ?_ r.dropLast ?_,ru,q⟩
 ·show its.toArray.eraseIdxIfInBounds (its.toArray.size-1)=its.dropLast.toArray
  rw[List.size_toArray,List.eraseIdxIfInBounds_toArray,xK]
 ·rw[List.length_dropLast]
  omega
def ad2:V→List V→Hp→VK→Prop:=λx vs H Q=>∃l xs i k y,x= .ref l∧vs=[.int i]∧H l=some (.lst xs)∧ -(2 ^ 63)≤i∧i<2 ^ 63∧seqIndex? i xs.length=some k∧xs[k]? =some y∧Q y (upd H l (.lst (xs.eraseIdx k)))
def abF:V→List V→Hp→VK→Prop:=λx vs H Q=>∃l xs,x= .ref l∧vs=[]∧H l=some (.lst xs)∧Q .non (upd H l (.lst xs.reverse))
def ad3:V→List V→Hp→VK→Prop:=λx vs H Q=>∃l xs,x= .ref l∧vs=[]∧H l=some (.lst xs)∧Q .non (upd H l (.lst []))
def ad4:R2:=λx y H Q=>∃l b xs zs,x= .ref l∧y= .ref b∧H l=some (.lst xs)∧H b=some (.lst zs)∧xs.length+zs.length≤sizeLine∧∀p,H p=none→Q (.ref p) (upd H p (.lst (xs++zs)))
theorem TQ:Qt X (binaryOp .Add) ad4:=by
 intro pins s σ H x y v u Q I rx ry h
 obtain⟨l,b,xs,zs,rfl,rfl,hH,hB,hz,q⟩:=h
 cases rx
 cases ry
 obtain⟨z,its,n,r,hl,e⟩:=I.pC hH
 obtain⟨z2,its2,n2,r2,hl2,e2⟩:=I.pC hB
 refine PySem.P.add_list e e2 ?_ (by rw[List.size_toArray,List.size_toArray];omega)
 have ea:its.toArray++its2.toArray=(its++its2).toArray:=by simp
 rw[ea]
 exact⟨.ref _,_,I.abE (t':=s.toks) (r.append r2) (by rw[List.length_append];omega),rfl,q _ I.fresh⟩
def ad5:R2:=λx y H Q=>∃l k xs,x= .ref l∧y= .int k∧H l=some (.lst xs)∧ -(2 ^ 63)≤k∧k<2 ^ 63∧xs.length*k.toNat≤sizeLine ∧
 ∀p,H p=none→Q (.ref p) (upd H p (.lst (List.replicate k.toNat xs).flatten))
theorem len_rep {α:Type} (xs:List α) (k:Nat):(List.replicate k xs).flatten.length=k*xs.length:=by
 induction k with
 |zero=>simp
 |succ k ih=>rw[List.replicate_succ,List.flatten_cons,List.length_append,ih,Nat.succ_mul,Nat.add_comm]
theorem Jf:Qt X (binaryOp .Mult) ad5:=by
 intro pins s σ H x y v u Q I rx ry h
 obtain⟨l,k,xs,rfl,rfl,hH,h1,h2,hz,q⟩:=h
 cases rx
 obtain⟨t,rfl⟩:=ry
 obtain⟨z,its,n,r,hl,e⟩:=I.pC hH
 have hlen:its.toArray.size*k.toNat≤sizeLine:=by rw[List.size_toArray,←hl];exact hz
 have hcap:¬its.toArray.size*k.toNat > (2 ^ 63-1) / 8:=by
  have:(sizeLine:Nat)≤(2 ^ 63-1) / 8:=by decide
  omega
 have hfit:¬(!Builtin.List.listFitsIndex k)=true:=by
  rw[fitsIndex_both h1 h2]
  exact Bool.false_ne_true
 have abG:¬Builtin.List.listTooLong (its.toArray.size*k.toNat)=true:=by
  rw[pB hlen]
  exact Bool.false_ne_true
 have hnew:List.foldl (λx1 x2=>x1++x2) #[] (List.replicate (if its.toArray.isEmpty=true then 0 else k.toNat) its.toArray)=(List.replicate k.toNat its).flatten.toArray:=by
  have f0:∀m:Nat,List.foldl (λx1 x2=>x1++x2) #[] (List.replicate m its.toArray)=(List.replicate m its).flatten.toArray:=λm=>by
   have:=foldl_rep its m []
   rw[List.nil_append]at this
   exact this
  rw[f0]
  cases its with
  |nil=>simp
  |cons a r'=>rw[if_neg (by simp)]
 refine wpAny_binaryOp_repeat_ref (T:="list") (U:="int") (by decide) ⟨_,e,rfl⟩ (λs'=>typeIs_int s' k t) noFill_list_mul F.fills_int_mul F.slot_int_rmul repeat_list F.slot_int_index.lookup
  (call_meets F.slot_int_rmul (typeIs_int s k t) F.entry_int_rmul (F.args_int_rmul_2 _ _) (int___rmul___int_list k t l its.toArray n)
   ⟨e,rfl,⟨_,e,rfl⟩,call_meets F.slot_list_mul ⟨_,e,rfl⟩ F.entry_list_mul (F.args_list_mul_2 _ _) (AutoListH.list___mul___list_int_3 l its.toArray n k t hfit hcap abG) ⟨e,?_⟩⟩)
 rw[hnew]
 exact⟨.ref _,_,I.abE (t':=s.toks) (r.rep k.toNat) (by rw[len_rep,Nat.mul_comm];exact hz),rfl,q _ I.fresh⟩
end
section
variable {prog:Program} {w:World} {A:Around} {E:Value→Shared→Prop} {s:Shared}
end
section
variable {X:Cx}
end
end L2
namespace Att
open PySem PySem.W PySem.Calls PyProof.Rows
theorem JM {P:Params} {h:Heap}:∀(ns:List Int) (vs:List Value),WellAll P h vs (ns.map WData.int)→IntsAre vs ns:=by
 intro ns
 induction ns with
 |nil =>
  intro vs w
  rw[List.map_nil]at w
  cases w
  exact .nil
 |cons n ns ih =>
  intro vs w
  rw[List.map_cons]at w
  cases w with
  |cons a b =>
   cases a
   exact .cons _ _ (ih _ b)
theorem sI {l:OpenLaw} {n:Nat} (hn:l.most=some n) {P:Params} {h:Heap} {args:List WData} {vals:List Value}
 (hpre:l.row.toRowW.claim.pre args=true) (hwl:WellAll P h vals args):
 ∃a vs ns,vals=[Value.ref a]∧args=[WData.list (ns.map WData.int)]∧h.get? a=some {cls:=.type "list",data:=.seq vs.toArray}∧IntsAre vs ns∧ns.length≤n:=by
 have hsh:WShape.hasAll [] args [.list .int]=true:=(pre_splitW hpre).1
 have hc:l.pre.holds [] {args:=args}=true:=(pre_splitW hpre).2
 obtain⟨d,r,rfl,h1,h2⟩:=hasAllW_cons hsh
 obtain rfl:=hasAllW_nil h2
 obtain⟨xs,rfl,h3⟩:=hasW_list h1
 obtain⟨ns,rfl⟩:=items_int h3
 have hlen:ns.length≤n:=by
  unfold OpenLaw.pre at hc
  have h4:(WTm.not (.lt (.lit (.int (n:Int))) (.len (.arg 0)))).holds [] {args:=[.list (ns.map .int)]}=true:=by
   have h4:=(holds_andW hc).1
   rw[hn]at h4
   exact h4
  have h5:=condW_of h4 (w_not (w_lt w_lit (w_len_list (w_arg rfl))))
  rw[List.length_map]at h5
  refine Nat.le_of_not_lt λq=>?_
  have q':(n:Int)<((ns.length:Nat):Int):=by omega
  first
   | (rw[decide_eq_true q']at h5;exact absurd h5 (by decide))
   | (simp at h5;omega)
 cases hwl with
 |cons w1 w2 =>
  cases w2
  cases w1 with
  |list ho hall=>exact⟨_,_,ns,rfl,rfl,ho,JM ns _ hall,hlen⟩
theorem sH (l:OpenLaw) (args:List WData):l.row.toRowW.claim.post args (.bool true) args=true:=
 postW_of (r:=l.row.toRowW) (X:=(true==true))
  (show WShape.has [] (.bool true) .bool=true by first |rfl |decide |simp[WShape.has,WShape.arms,WShape.armsAll])
  (show(WTm.eq .res (.lit (.bool true))).value [] {args:=args,res:=some (.bool true),after:=args}=some (.bool (true==true))from w_eq_bool (w_res rfl) w_lit) rfl
theorem Bl {l:OpenLaw} {n:Nat} {q:Program} {loose:List Str} {XP:(Str→Option Value)→Heap→Prop} {YP:World→Heap→Prop} {d:DefRec}
 (hn:l.most=some n) (hdf:d.params.defaults=[])
 (call:∀(w:World) (s₀ s₁:Shared) (mg mb:Str→Option Value) (fa:Addr) (o:Obj) (pm cd doc:Value) (a:Addr) (vs:List Value) (ns:List Int),
  Ground q loose [] XP w s₀ mg mb s₁.heap→YP w s₁.heap →
  s₁.heap.get? fa=some o→o.data= .func (docDef d.name d.params d.body d.scope pm cd doc)→s₁.heap.CodeRec cd d.name→mg d.name=some (.ref fa) →
  s₁.heap.get? a=some {cls:=.type "list",data:=.seq vs.toArray}→IntsAre vs ns→ns.length≤n→s₁.gens= #[] →
  codeAny (model l.prog w) callerA (.call (.ref fa) ⟨[.ref a],[]⟩) (λr s'=>r= .ok (.ret (.bool true))∧OldK s₁.heap s'.heap∧s'.os=s₁.os∧AllBare s'.gens) s₁):
 WalkO q loose XP YP l.row.toRowW d [] (λf vs=>PySem.call f vs):=by
 intro w s₀ s₁ mg mb G Y fa o pm cd doc dV kV ho hd hcd hD hmg hg args vals as hpre hlay hrd hwl hlo
 obtain rfl:dV= .none:=Dflts.none hD hdf
 obtain rfl:kV= .none:=Dflts.noKw hD
 obtain⟨a,vs,ns,rfl,rfl,hobj,hints,hlen⟩:=sI hn hpre hwl
 refine enter_call (codeAny_mono (call w s₀ s₁ mg mb fa o pm cd doc a vs ns G Y ho (fd_plain hd) hcd hmg hobj hints hlen hg) λr s' hq=>?_)
 obtain⟨rfl,h2,h3,h4⟩:=hq
 exact⟨.inl ⟨.bool true,.bool true,[],rfl,λ_=>rfl,.bool true,sH l _,λ_=>⟨List.Pairwise.nil,λ_ hm=>(nomatch hm)⟩⟩,h2,h3,h4⟩
section
variable {prog:Program} {w:World} {A:Around} {E:Value→Shared→Prop} {s:Shared} {K:Frag}
def ad6 (h:Heap):Heap:={h with objs:=#[]}
def ledger (h:Heap) (L d:Addr):List (Addr×Obj):=(List.range h.objs.size).filterMap λa=>if a=L∨a=d then none else(h.get? a).map λo=>(a,o)
end
end Att
namespace L2
open PySem PySem.Spec PyProof.Rows
theorem Fi:∀{vs:List Value} {ns:List Int},IntsAre vs ns→Vals (ns.map V.int) vs
 |_,_,.nil=> .nil
 |_,_,.cons n t h=> .cons ⟨t,rfl⟩ (Fi h)
def Only (H:Hp):Prop:=∀b,H b=none∨∃o xs,H b=some (.yg o (.lst xs))
theorem o_ {P:Program} {w:World} {K:PySem.W.Frag} {mg mb:Str→Option Value} {CX:Dy} {k:Nat} {fa a:Addr} {fd:FuncData} {x:Str} {sp:Sp} {s₁:Shared} {vs:List Value} {ns:List Int}
 (KX:K.In s₁.heap) (hns:s₁.heap.Ns mainGlobals mg) (hb:s₁.heap.Ns builtinsNs mb) (hbb:∀x:Str,x≠"__name__"→mb x=bootBuiltins x) (hlim:s₁.heap.NoLimit) (hg:s₁.gens= #[])
 (ha:s₁.heap.get? a=some {cls:=.type "list",data:=.seq vs.toArray}) (hi:IntsAre vs ns) (hl:ns.length≤sizeLine) (hr:YC k callerA)
 (F:∀base:Heap,K.In base→base.Ns mainGlobals mg→Wr P w K mg base CX k fa fd [x] sp) (hbind:∀(s:Shared) (u:Value),BindsTo s fd ⟨[u],[]⟩ [(x,u)])
 (hsp:∀H:Hp,Only H→ZJ K H a (ns.map V.int)→sp [.ref a] H (λv _=>v= .bl true) λ_ _ _=>False)
 (hCX:∀H e s',CX [] H s₁ (λ_ _ _=>False) e s'→False):
 codeAny (model P w) callerA (.call (.ref fa) ⟨[.ref a],[]⟩) (λr s'=>r= .ok (.ret (.bool true))∧OldK s₁.heap s'.heap∧s'.os=s₁.os∧AllBare s'.gens) s₁:=by
 have rv:=Fi hi
 have lenV:=hi.length
 have core:∀H:Hp,Only H→ZJ K H a (ns.map V.int)→Qz P w H s₁.heap→(∀b,H b≠none→b=a)→(H a≠none→K.lookup a=none) →
  codeAny (model P w) callerA (.call (.ref fa) ⟨[.ref a],[]⟩) (λr s'=>r= .ok (.ret (.bool true))∧OldK s₁.heap s'.heap∧s'.os=s₁.os∧AllBare s'.gens) s₁:=by
  intro H hO hS hok hA hK
  have uW:∀{b:Addr} {o:Obj},s₁.heap.get? b=some o→H b=none→(DR s₁.heap H).get? b=some o:=λe n=>qb e n
  have noA:∀{b:Addr} {o:Obj} {es:Array DictEntry} {ep:Nat},s₁.heap.get? b=some o→o.data= .dict es ep→H b=none:=λ{b o es ep} e d=>by
   cases q:H b with
   |none=>rfl
   |some u =>
    have e':b=a:=hA b (by rw[q];simp)
    subst e'
    rw[ha]at e;cases e
    have d':Data.seq vs.toArray _=Data.dict es ep:=d
    cases d'
  have nsK:∀{b:Addr} {m:Str→Option Value},s₁.heap.Ns b m→(DR s₁.heap H).Ns b m:=λ{b m} ⟨o,es,ep,e,d,r⟩=>⟨o,es,ep,uW e (noA e d),d,r⟩
  have hKb:K.In (DR s₁.heap H):=λb o e=>uW (KX b o e) (by
   cases q:H b with
   |none=>rfl
   |some u =>
    have e':b=a:=hA b (by rw[q];simp)
    subst e'
    rw[hK (by rw[q];simp)]at e;cases e)
  have hM:Mod K mg (DR s₁.heap H):=⟨hKb,nsK hns,⟨mb,nsK hb,hbb⟩,let ⟨mc,h1,h2⟩:=hlim;⟨mc,nsK h1,h2⟩⟩
  have e0:Dw P w K mg (DR s₁.heap H) callerA [] s₁ H:=⟨rfl,hM,λb o e=>jq e,Nat.le_of_eq (tE _ _),trivial,λb hb=>absurd (show b∈([]:List Addr)from hb) (by simp),hok,.of_eq hg⟩
  refine codeAny_mono ((F _ hKb (nsK hns)).run callerA [] s₁ H ⟨[.ref a],[]⟩ [.ref a] [.ref a] _ _ hr e0 (hbind s₁ (.ref a)) (.cons rfl .nil) (hsp H hO hS)) λr s' h=>?_
  cases r with
  |error e=>exact(hCX H e s' h).elim
  |ok fl =>
   cases fl with
   |next=>exact False.elim h
   |brk=>exact False.elim h
   |cont=>exact False.elim h
   |ret u =>
    obtain⟨v,H',os,bare,un,hok',r',q⟩:=h
    have q':v= .bl true:=q
    subst q'
    obtain rfl:u=Value.bool true:=r'
    refine⟨rfl,OldK.of_keep λb o e=>?_,os,bare⟩
    cases q:H b with
    |none=>exact un.keep b o e q (by intro z;exact absurd (show b∈([]:List Addr)from z) (by simp)) (by simp)
    |some u =>
     rcases hO b with z | ⟨ob,xs,z⟩
     ·rw[q]at z;cases z
     ·have z2:=un.R3 b ob _ z
      obtain⟨e1,_⟩:=hok b _ z
      obtain⟨e2,_⟩:=hok' b _ z2
      rw[e]at e1;cases e1
      exact e2
 cases hk:K.lookup a with
 |some o =>
  have e:=KX a o hk
  rw[ha]at e
  cases e
  refine core (λ_=>none) (λ_=> .inl rfl) (.inr ⟨_,vs.toArray,_,hk,rfl,rfl,rfl,by rw[List.size_toArray,lenV];exact hl,by simpa using rv⟩) (λb u z=>by have z':(none:Option HO)=some u:=z;cases z') (λb z=>absurd rfl z) λz=>absurd rfl z
 |none =>
  refine core (λb=>if b=a then some (.yg {cls:=.type "list",data:=.seq vs.toArray} (.lst (ns.map V.int)))else none) (λb=>?_) (.inl (.inr ⟨{cls:=.type "list",data:=.seq vs.toArray},if_pos rfl⟩)) (λb u z=>?_) (λb z=>?_) λ_=>hk
  ·by_cases hb:b=a
   ·exact .inr ⟨_,_,if_pos hb⟩
   ·exact .inl (if_neg hb)
  ·by_cases hb:b=a
   ·have z':=(if_pos hb).symm.trans z
    cases z'
    subst hb
    exact⟨ha,by rw[List.length_map];exact hl,vs,_,rv,ha⟩
   ·have z':=(if_neg hb).symm.trans z
    cases z'
  ·by_cases hb:b=a
   ·exact hb
   ·exact absurd (if_neg hb) z
end L2
namespace L2
open PySem PySem.Spec PyProof.Rows
abbrev KOf {K:PySem.W.Frag} {h:Heap} (_:K.In h):PySem.W.Frag:=K
theorem iW {l:PySem.W.OpenLaw} {n k:Nat} {q:Program} {loose:List Str} {XP:(Str→Option Value)→Heap→Prop} {YP:World→Heap→Prop} {d:DefRec} {K:Params→PySem.W.Frag} {CX:World→Dy} {sp:World→Sp} {x:Str}
 (hn:l.most=some n) (hn2:n≤sizeLine) (hdf:d.params.defaults=[]) (hr:YC k callerA)
 (hY:∀(w:World) (h:Heap),YP w h→(K w.params).In h)
 (F:∀(w:World) (mg:Str→Option Value) (fa:Addr) (h:Heap),(K w.params).In h→h.Ns mainGlobals mg→mg d.name=some (.ref fa) →
  ∃fd:FuncData,(∀(s:Shared) (u:Value),BindsTo s fd ⟨[u],[]⟩ [(x,u)]) ∧
   ∀base:Heap,(K w.params).In base→base.Ns mainGlobals mg→Wr l.prog w (K w.params) mg base (CX w) k fa fd [x] (sp w))
 (hsp:∀(w:World) (H:Hp) (a:Addr) (ns:List Int),ns.length≤n→Only H→ZJ (K w.params) H a (ns.map V.int)→sp w [.ref a] H (λv _=>v= .bl true) λ_ _ _=>False)
 (hCX:∀(w:World) (H:Hp) (s:Shared) (e:Value) (s':Shared),CX w [] H s (λ_ _ _=>False) e s'→False):
 PySem.W.WalkO q loose XP YP l.row.toRowW d [] (λf vs=>PySem.call f vs):=by
 refine Att.Bl hn hdf λw s₀ s₁ mg mb fa o pm cd doc a vs ns G Y ho hd hcd hmg hobj hints hlen hg=>?_
 have KX:=hY w _ Y
 obtain⟨fd,hb,hF⟩:=F w mg fa _ KX G.T.g hmg
 exact o_ KX G.T.g G.T.b G.T.builtins G.T.nolimit hg hobj hints (Nat.le_trans hlen hn2) hr hF hb (λH hO hS=>hsp w H a ns hlen hO hS) λH e s'=>hCX w H s₁ e s'
theorem o9 {l:PySem.W.OpenLaw} {n k:Nat} {q:Program} {loose:List Str} {XP:(Str→Option Value)→Heap→Prop} {YP:World→Heap→Prop} {d:DefRec} {K:Params→PySem.W.Frag} {CX:Dy} {sp:PySem.W.Frag→Sp} {x:Str}
 (hn:l.most=some n) (hn2:n≤sizeLine) (hdf:d.params.defaults=[]) (hr:YC k callerA)
 (hY:∀(w:World) (h:Heap),YP w h→(K w.params).In h)
 (F:∀(w:World) (mg:Str→Option Value) (fa:Addr) (h:Heap),(K w.params).In h→h.Ns mainGlobals mg→mg d.name=some (.ref fa) →
  ∃fd:FuncData,(∀(s:Shared) (u:Value),BindsTo s fd ⟨[u],[]⟩ [(x,u)]) ∧
   ∀base:Heap,(K w.params).In base→base.Ns mainGlobals mg→Wr l.prog w (K w.params) mg base CX k fa fd [x] (sp (K w.params)))
 (hsp:∀(K:PySem.W.Frag) (H:Hp) (a:Addr) (ns:List Int),ns.length≤n→Only H→ZJ K H a (ns.map V.int)→sp K [.ref a] H (λv _=>v= .bl true) λ_ _ _=>False)
 (hCX:∀(H:Hp) (s:Shared) (e:Value) (s':Shared),CX [] H s (λ_ _ _=>False) e s'→False):
 PySem.W.WalkO q loose XP YP l.row.toRowW d [] (λf vs=>PySem.call f vs):=
 iW (K:=K) (CX:=λ_=>CX) (sp:=λw=>sp (K w.params)) hn hn2 hdf hr hY F (λw H a ns h1 h2 h3=>hsp (K w.params) H a ns h1 h2 h3) λ_ H s e s'=>hCX H s e s'
end L2
namespace L2
open PySem PySem.Spec PyProof.Rows
def inClass (s:Stmt) (j:Nat):Stmt:=match s with
 | .ClassDef _ _ _ body _ _ _ _ _ _ _=>body.getD j (.Pass ⟨0,0,0,0⟩)
 |_=> .Pass ⟨0,0,0,0⟩
def Z0 (s:Stmt):Arguments:=match s with
 | .FunctionDef _ a _ _ _ _ _ _ _ _=>a
 |_=>{posonlyargs:=[],args:=[],vararg:=none,kwonlyargs:=[],kw_defaults:=[],kwarg:=none,defaults:=[]}
def Z2 (s:Stmt):List Stmt:=match s with
 | .FunctionDef _ _ b _ _ _ _ _ _ _=>b
 |_=>[]
def Z9 (s:Stmt):Scope:=match s with
 | .FunctionDef _ _ _ _ _ _ sc _ _ _=>sc
 |_=>{kind:=.function,names:=[],isGenerator:=false,isCoroutine:=false}
abbrev Je:Dy:=λ_ _ _ _ _ _=>False
abbrev E0:XK:=λ_ _ _=>False
theorem o8 {X:Cx}:Passes Je X E0:=λ_ _ _ _ _ _ _ h=>h.elim
structure dw (K:PySem.W.Frag) (x qual:Str) (st:Stmt) (f:Addr) (fd:FuncData):Prop where
 ex:∃(oc:Value) (od:Option Addr) (kV doc pm:Value) (an:Option Addr) (cdv ct:Value) (osl:Array (Option Value)),
  fd=PySem.W.fnOf x qual (Z0 st) (Z2 st) (Z9 st) .none kV doc pm an cdv ct∧K.lookup f=some ⟨oc,od,.func fd,osl⟩∧PySem.W.codeIn K cdv qual=true
 kp:PySem.W.keepIn K (.ref f)=true
section
variable {P:Program} {w:World} {K:PySem.W.Frag} {mg:Str→Option Value} {base:Heap}
theorem dw.ok {x qual:Str} {st:Stmt} {f:Addr} {fd:FuncData} {N ps:List Str} {k:Nat} {sp:Sp} (F:dw K x qual st f fd) (S:ZX N ps (Z9 st)) (len:∀vs H Q E,sp vs H Q E→vs.length=ps.length)
 (hbody:∀(cdv:Value) (A:Around) (outer:List Env) (s:Shared) (H:Hp) (vs:List V) (Q:VK) (E:XK),YC k (A.deeper (envOfC qual (Z9 st) s.heap.objs.size f cdv))→sp vs H Q E →
  ∃t,QF (Vp Je P w K mg base N qual (Z9 st) f cdv A outer s H E).JN (Z2 st) t∧t {nx:=λ_ H'=>Q .non H',rt:=Q} (start N vs) H):Wr P w K mg base Je (k+1) f fd ps sp:=by
 obtain⟨oc,od,kV,doc,pm,an,cdv,ct,osl,rfl,lk,hcd⟩:=F.ex
 refine Bo lk hcd S len λA outer s H vs Q E hr hsp=>?_
 obtain⟨t,h,q⟩:=hbody cdv A outer s H vs Q E hr hsp
 exact⟨t,h.JN,q⟩
theorem dw.binds {x qual:Str} {st:Stmt} {f:Addr} {fd:FuncData} {ps:List Str} (F:dw K x qual st f fd)
 (h:∀(kV doc pm:Value) (an:Option Addr) (cdv ct:Value) (us:List Value),us.length=ps.length→bindArgs (PySem.W.fnOf x qual (Z0 st) (Z2 st) (Z9 st) .none kV doc pm an cdv ct) ⟨us,[]⟩=pure (ps.zip us)):Binds K fd ps []:=by
 obtain⟨oc,od,kV,doc,pm,an,cdv,ct,osl,rfl,lk,hcd⟩:=F.ex
 exact .all (h kV doc pm an cdv ct)
theorem xJ {x qual:Str} {st:Stmt} {f:Addr} {oc:Value} {od an:Option Addr} {osl:Array (Option Value)} {kV doc pm cdv ct:Value} (l:K.lookup f=some ⟨oc,od,.func (PySem.W.fnOf x qual (Z0 st) (Z2 st) (Z9 st) .none kV doc pm an cdv ct),osl⟩)
 (c:PySem.W.codeIn K cdv qual=true) (k:PySem.W.keepIn K (.ref f)=true):dw K x qual st f (PySem.W.fnOf x qual (Z0 st) (Z2 st) (Z9 st) .none kV doc pm an cdv ct):=⟨⟨oc,od,kV,doc,pm,an,cdv,ct,osl,rfl,l,c⟩,k⟩
end
section
variable {X:Cx}
theorem pv (i:Nat) {x:Str} {pos:Pos} (hN:X.N[i]? =some x:=by rfl) (hv:Vis X.env.scope x:=by first |exact Or.inl rfl |exact Or.inr (Or.inl rfl) |exact Or.inr (Or.inr rfl)) (hd:(x==("__debug__":Str))=false:=by decide)
 (hcd:(x==("__classdict__":Str))=false:=by decide):PE X (.Name x pos) (aa4 i):=bI hN hv hd hcd
end
theorem xH {A B:Prop} (h:B):if false=true then A else B:=by
 rw[if_neg Bool.false_ne_true]
 exact h
theorem XR {c A B:Prop} [Decidable c] (h1:c→A) (h2:¬c→B):if c then A else B:=by
 by_cases h:c
 ·rw[if_pos h]
  exact h1 h
 ·rw[if_neg h]
  exact h2 h
def Same (H H':Hp):Prop:=∀b o,H b=some o→H' b=some o
theorem Same.refl (H:Hp):Same H H:=λ_ _ h=>h
theorem Same.trans {H H1 H2:Hp} (a:Same H H1) (b:Same H1 H2):Same H H2:=λc o h=>b c o (a c o h)
theorem Same.free {H H':Hp} (e:Same H H') {l:Addr} (h:H' l=Option.none):H l=Option.none:=by
 cases q:H l with
 |none=>rfl
 |some o =>
  rw[e l o q]at h
  cases h
theorem Same.seq {K:PySem.W.Frag} {H H':Hp} {a:Addr} {xs:List V} (e:Same H H') (h:ZJ K H a xs):ZJ K H' a xs:=by
 rcases h with(h | ⟨o,h⟩) |h
 ·exact .inl (.inl (e _ _ h))
 ·exact .inl (.inr ⟨o,e _ _ h⟩)
 ·exact .inr h
end L2
namespace L2
open PySem PySem.Spec PyProof.Rows
structure Has (P:Program) (w:World) (K:PySem.W.Frag) (mg:Str→Option Value) (base:Heap) (k:Nat) (x:Str) (ps:List Str) (sp:Sp):Prop where
 ex:∃f fd,Wr P w K mg base Je k f fd ps sp∧Binds K fd ps []∧PySem.W.keepIn K (.ref f)=true∧mg x=some (.ref f)∧∃oc od osl,K.lookup f=some ⟨oc,od,.func fd,osl⟩
theorem Has.mono {P:Program} {w:World} {K:PySem.W.Frag} {mg:Str→Option Value} {base:Heap} {j k:Nat} {x:Str} {ps:List Str} {sp:Sp} (h:Has P w K mg base j x ps sp) (hjk:j≤k):Has P w K mg base k x ps sp:=by
 obtain⟨f,fd,a,b,c,d,l⟩:=h.ex
 exact⟨f,fd,a.mono hjk,b,c,d,l⟩
section
variable {X:Cx} {k:Nat} {x:Str} {ps:List Str} {sp:Sp} {p pos:Pos} {e:Expr} {es:List Expr} {t:TA}
def oZ (sp:Sp) (t:TA):TE:=λσ H Q=>t σ H λvs H1=>sp vs H1 Q E0
theorem Z4 (F:Has X.prog X.w X.K X.mg X.base k x ps sp) (hr:YC k X.A) (ha:PA X (e :: es) t) (hg:Gl X x:=by rfl)
 (hdb:(x==("__debug__":Str))=false:=by decide) (he:starEach (e :: es) X.env=(false,eval e X.env) :: starEach es X.env:=by rfl) (hpl:(backTo pos (starEach es X.env)).any (·.1)=false:=by rfl):
 PE X (.Call (.Name x p) (e :: es) [] pos) (oZ sp t):=by
 obtain⟨f,fd,G,b,c,d,_⟩:=F.ex
 intro pins s σ H Q I h
 refine(jf (E:=E0) G hr hg d c b .nil o8 ha hdb he hpl) pins s σ H Q I ?_
 show t σ H λvs H1=>sp (vs++[]) H1 Q E0
 simp only[List.append_nil]
 exact h
end
section
variable {X:Cx}
theorem X_:Qt X (binaryOp .Mult) (rI IntMulOk λi j=> .int (i*j)):=opI λ_ _ _ _ _ _ _ hc q=>mul_int q hc
theorem Bk:Xv X (.builtin "isinstance") (λxs H Q=>∃x t n b,xs=[x,.ty n]∧MK X.K H x t∧PySem.W.kitOne X.K t (.type n)=some b∧Q (.bl b) H):=by
 intro pins s σ H xs us Q I r h
 obtain⟨x,t,n,b,rfl,ty,e,q⟩:=h
 obtain⟨u,w',rfl,rx,ry⟩:=vals2 r
 cases ry
 exact sJ I rx ty e λtk=>⟨.bl b,H,I.tok _,rfl,q⟩
end
def sy (lo c:Int) (n:Nat):It:=⟨λi _=>i<n,λi H x H'=>H'=H∧x= .int (lo+i*c),λi _=>n≤i⟩
theorem Bj {P:Program} {w:World} {K:PySem.W.Frag} {tg:Expr} (it:Addr) (lo c:Int) (n:Nat):Turn P w K tg (sy lo c n) [it] it (λi h=>IsRangeIter h it (lo+(i:Nat)*c) ((n:Int)-(i:Nat)) c) where
 mem:=by simp
 obj:=λi h st b hb=>by
  have e:b=it:=by simpa using hb
  subst e
  exact⟨_,st,λv z=>by
   have z':Data.fields _=Data.cell v:=z
   cases z'⟩
 keep:=λi h h' st k=>k it (by simp) _ st
 item:=by
  intro X hP hw hK hc i pins s σ H E I hf st hg
  subst hP hw hK
  obtain⟨f0,f1,f2,f3,f4,f5⟩:=hf it (by simp)
  have W:=Walks.range (prog:=X.prog) (w:=X.w) (I.ok.hd hc) it lo c n
  refine W.item i s _ _ hg st λv h' tk hv st' kk=>?_
  obtain⟨t,rfl⟩:=hv
  have I1:Inv X pins σ H {s with heap:=h',toks:=tk}:=I.turned (λb o hb e=>kk b o (by simpa using hb) e) f0 f1 f3 f4 f5
  exact⟨_,rfl,vh (s:={s with heap:=h',toks:=tk}) (n:="range_iterator") st' rfl rfl (by decide) ⟨.int (lo+i*c),H,I1,⟨t,rfl⟩,⟨rfl,rfl⟩,st',λb hb=>(hf b hb).1⟩⟩
 done:=by
  intro X hP hw hK hc i pins s σ H E I hf st hg
  subst hP hw hK
  obtain⟨f0,f1,f2,f3,f4,f5⟩:=hf it (by simp)
  exact wpAny_pyNext_range_end (I.ok.hd hc) st (by have:n≤i:=hg;omega) λh' eb=>⟨rfl,I.turned (t':=s.toks) (λb o hb e=>eb b o hb e) f0 f1 f3 f4 f5⟩
 self:=λ_ _ _ _ _ st h=>wpAny_pyIter_rangeiter st h
section
variable {X:Cx} {tg:Expr}
theorem su {pins:List (Addr×Obj)} {σ:St} {H:Hp} {s:Shared} {R:It→Hp→Prop} {E:Value→Shared→Prop} {lo hi c:Int} {t u v:Tok} {tk:Nat} (I:Inv X pins σ H s) (hs:Builtin.Range.small lo hi c=true) (h0:0≤Builtin.Range.rangeSize lo hi c)
 (q:R (sy lo c (Builtin.Range.rangeSize lo hi c).toNat) H):wpAny (model X.prog X.w) X.A (pyIter (.ref s.heap.objs.size)) (PIE X pins σ tg R) E {s with heap:=s.heap.push {cls:=.type "range",data:=.fields #[.int lo t,.int hi u,.int c v]},toks:=tk}:=by
 refine wpAny_pyIter_range (IsRange.new ..) hs ?_
 have I1:Inv X pins σ H {s with heap:=s.heap.push {cls:=.type "range",data:=.fields #[.int lo t,.int hi u,.int c v]},toks:=tk}:=I.kept λb o e=>Heap.get?_push_of_some _ e
 refine⟨(s.heap.push {cls:=.type "range",data:=.fields #[.int lo t,.int hi u,.int c v]}).objs.size,[(s.heap.push {cls:=.type "range",data:=.fields #[.int lo t,.int hi u,.int c v]}).objs.size],_,_,H,rfl,
  I1.kept (t':=tk) λb o e=>Heap.get?_push_of_some _ e,Bj _ lo c (Builtin.Range.rangeSize lo hi c).toNat,?_,λb hb=>?_,q⟩
 ·have e1:lo+((0:Nat):Int)*c=lo:=by simp
  have e2:(((Builtin.Range.rangeSize lo hi c).toNat:Nat):Int)-((0:Nat):Int)=Builtin.Range.rangeSize lo hi c:=by omega
  show IsRangeIter _ _ (lo+((0:Nat):Int)*c) ((((Builtin.Range.rangeSize lo hi c).toNat:Nat):Int)-((0:Nat):Int)) c
  rw[e1,e2]
  exact Heap.get?_push_size _ rfl
 ·have e:b=(s.heap.push {cls:=.type "range",data:=.fields #[.int lo t,.int hi u,.int c v]}).objs.size:=by simpa using hb
  subst e
  exact I1.Bu (Nat.le_refl _) (I1.hok.fresh (Nat.le_refl _))
def abH (ta:TA):TI:=λσ H R=>ta σ H λvs H1=>∃i j c:Int,vs=[.int i,.int j,.int c]∧(c≠0∧ -1000000<c∧c<1000000)∧(Builtin.Range.small i j c=true∧0≤Builtin.Range.rangeSize i j c)∧R (sy i c (Builtin.Range.rangeSize i j c).toNat) H1
theorem K6 {a b c:Expr} {ta:TA} {p pos:Pos} (hg:Gl X "range") (hm:X.mg "range"=none) (ha:PA X [a,b,c] ta) (hs:starEach [a,b,c] X.env=[(false,eval a X.env),(false,eval b X.env),(false,eval c X.env)]:=by rfl) (hs2:starEach [b,c] X.env=[(false,eval b X.env),(false,eval c X.env)]:=by rfl):
 PI X tg (.Call (.Name "range" p) [a,b,c] [] pos) (abH ta):=by
 intro pins s σ H R I h
 refine Call_ (T3 I hg hm boot_range (PyProof.Rows.callWith_type1 (Yy (ha pos pins s σ H _ I h) λus s1 ⟨vs,H1,I1,r1,q1⟩=>?_) (by rw[hs,hs2]) (by rw[hs2];rfl)))
 obtain⟨i,j,c',e,⟨q1,q2,q3⟩,⟨q4,q5⟩,q⟩:=q1
 subst e
 cases r1 with
 |cons r rr =>
  cases rr with
  |cons r' rr =>
   cases rr with
   |cons r'' rr =>
    cases rr
    obtain⟨t,rfl⟩:=r
    obtain⟨t',rfl⟩:=r'
    obtain⟨t'',rfl⟩:=r''
    exact call_range_3 q1 (su I1 q4 q5 q) (.inl (PyProof.noPylong_small (by omega)))
end
theorem Nz {lo c:Int} {n:Nat} {g:TG} {tb:TS} {D:Ends} {σ:St} {H:Hp} (Pv:Nat→St→Hp→Prop) (h0:Pv 0 σ H)
 (hs:∀i σ H,i<n→Pv i σ H→g (.int (lo+i*c)) σ H λσ2 H2=>tb {D with nx:=Pv (i+1),ct:=Pv (i+1),bk:=D.nx} σ2 H2) (hd:∀σ H,Pv n σ H→D.nx σ H):
 ∃W:Nat→Nat→St→Hp→Prop,(∃m,W 0 m σ H)∧∀i m σ H,W i m σ H →
  ((sy lo c n).stop i H∧D.nx σ H)∨((sy lo c n).go i H∧∃N:St→Hp→Prop,(∀σ' H',N σ' H'→∃m',m'<m∧W (i+1) m' σ' H')∧∀x H',(sy lo c n).pW i H x H'→g x σ H' λσ2 H2=>tb {D with nx:=N,ct:=N,bk:=D.nx} σ2 H2):=by
 refine⟨λi m σ H=>m=n-i∧i≤n∧Pv i σ H,⟨n,by simp,Nat.zero_le _,h0⟩,?_⟩
 rintro i m σ H ⟨rfl,hi,p⟩
 by_cases hlt:i<n
 ·refine .inr ⟨hlt,Pv (i+1),λσ' H' p'=>⟨n-(i+1),by omega,rfl,hlt,p'⟩,λx H' y=>?_⟩
  obtain⟨e,y⟩:=y
  subst e y
  exact hs i σ _ hlt p
 ·have e:i=n:=by omega
  subst e
  exact .inl ⟨Nat.le_refl _,hd σ H p⟩
theorem mulOk_of {a b:Int} {m n:Nat} (ha:a.natAbs<2 ^ m) (hb:b.natAbs<2 ^ n) (h:m+n≤134217728):IntMulOk a b:=IntMulOk.of_le (intBits_le_iff.mpr ha) (intBits_le_iff.mpr hb) h
end L2
namespace L2
open PySem PySem.Spec PyProof.Rows
structure Def (K:PySem.W.Frag) (mg:Str→Option Value) (x:Str) (st:Stmt) (ps:List Str):Prop where
 ex:∃f fd,dw K x x st f fd∧Binds K fd ps []∧mg x=some (.ref f)
section
variable {P:Program} {w:World} {K:PySem.W.Frag} {mg:Str→Option Value} {base:Heap}
theorem Def.has {x:Str} {st:Stmt} {N ps:List Str} {k:Nat} {sp:Sp} (F:Def K mg x st ps) (S:ZX N ps (Z9 st)) (len:∀vs H Q E,sp vs H Q E→vs.length=ps.length)
 (hbody:∀(f:Addr) (cdv:Value) (A:Around) (outer:List Env) (s:Shared) (H:Hp) (vs:List V) (Q:VK) (E:XK),YC k (A.deeper (envOfC x (Z9 st) s.heap.objs.size f cdv))→sp vs H Q E →
  ∃t,QF (Vp Je P w K mg base N x (Z9 st) f cdv A outer s H E).JN (Z2 st) t∧t {nx:=λ_ H'=>Q .non H',rt:=Q} (start N vs) H):Has P w K mg base (k+1) x ps sp:=by
 obtain⟨f,fd,F,b,m⟩:=F.ex
 refine⟨f,fd,F.ok S len (hbody f),b,F.kp,m,?_⟩
 obtain⟨oc,od,kV,doc,pm,an,cdv,ct,osl,e,lk,hcd⟩:=F.ex
 exact⟨oc,od,osl,lk⟩
theorem ZC {x:Str} {st:Stmt} {f:Addr} {ps:List Str} {h:Heap} {oc:Value} {od an:Option Addr} {osl:Array (Option Value)} {kV doc pm cdv ct:Value} (X:K.In h) (G:h.Ns mainGlobals mg) (a:PySem.W.nsIn K mainGlobals x=some (some (.ref f)))
 (l:K.lookup f=some ⟨oc,od,.func (PySem.W.fnOf x x (Z0 st) (Z2 st) (Z9 st) .none kV doc pm an cdv ct),osl⟩) (c:PySem.W.codeIn K cdv x=true) (k:PySem.W.keepIn K (.ref f)=true)
 (b:∀(kV doc pm:Value) (an:Option Addr) (cdv ct:Value) (us:List Value),us.length=ps.length→bindArgs (PySem.W.fnOf x x (Z0 st) (Z2 st) (Z9 st) .none kV doc pm an cdv ct) ⟨us,[]⟩=pure (ps.zip us)):Def K mg x st ps:=
 let F:=xJ (st:=st) l c k
 ⟨f,_,F,F.binds b,PySem.W.mg_of X G a⟩
end
def QW (φ:V→Hp→VK→Prop):Sp:=λvs H Q _=>∃a,vs=[a]∧φ a H Q
def JL (φ:V→V→Hp→VK→Prop):Sp:=λvs H Q _=>∃a b,vs=[a,b]∧φ a b H Q
def oY (φ:V→V→V→Hp→VK→Prop):Sp:=λvs H Q _=>∃a b c,vs=[a,b,c]∧φ a b c H Q
def sp4 (φ:V→V→V→V→Hp→VK→Prop):Sp:=λvs H Q _=>∃a b c d,vs=[a,b,c,d]∧φ a b c d H Q
theorem len1 {φ:V→Hp→VK→Prop} {x:Str}:∀vs H Q E,QW φ vs H Q E→vs.length=[x].length:=λ_ _ _ _ ⟨_,e,_⟩=>by rw[e];rfl
theorem len2 {φ:V→V→Hp→VK→Prop} {x y:Str}:∀vs H Q E,JL φ vs H Q E→vs.length=[x,y].length:=λ_ _ _ _ ⟨_,_,e,_⟩=>by rw[e];rfl
theorem Gq {φ:V→V→V→Hp→VK→Prop} {x y z:Str}:∀vs H Q E,oY φ vs H Q E→vs.length=[x,y,z].length:=λ_ _ _ _ ⟨_,_,_,e,_⟩=>by rw[e];rfl
theorem abI {φ:V→V→V→V→Hp→VK→Prop} {x y z u:Str}:∀vs H Q E,sp4 φ vs H Q E→vs.length=[x,y,z,u].length:=λ_ _ _ _ ⟨_,_,_,_,e,_⟩=>by rw[e];rfl
theorem Wv {i j:Int} (h1: -(2 ^ 64)<i) (h2:i<2 ^ 64):IntMulOk i j:=IntMulOk.of_left (intBits_le_64 h1 h2)
theorem Wb {i j:Int} (h1: -(2 ^ 64)<j) (h2:j<2 ^ 64):IntMulOk i j:=IntMulOk.of_right (intBits_le_64 h1 h2)
theorem oX {lo hi c:Int} (h1: -(2 ^ 60)≤lo) (h2:lo<2 ^ 60) (h3: -(2 ^ 60)≤hi) (h4:hi<2 ^ 60) (h5:0<c) (h6:c<2 ^ 20):Builtin.Range.small lo hi c=true∧0≤Builtin.Range.rangeSize lo hi c∧Builtin.Range.rangeSize lo hi c≤2 ^ 61:=by
 have e:Builtin.Range.rangeSize lo hi c=if lo<hi then(hi-lo-1) / c+1 else 0:=by unfold Builtin.Range.rangeSize;rw[if_pos h5]
 have k0:lo<hi→0≤(hi-lo-1) / c:=λh=>Int.ediv_nonneg (by omega) (by omega)
 have k1:lo<hi→(hi-lo-1) / c≤hi-lo-1:=λh=>Int.ediv_le_self _ (by omega)
 have k2:lo<hi→(hi-lo-1) / c*c≤hi-lo-1:=λh=>Int.ediv_mul_le _ (by omega)
 have k3:0≤Builtin.Range.rangeSize lo hi c∧Builtin.Range.rangeSize lo hi c≤2 ^ 61:=by
  rw[e]
  split
  ·rename_i h;have:=k0 h;have:=k1 h;omega
  ·omega
 refine⟨?_,k3⟩
 unfold Builtin.Range.small
 rw[if_pos (show c > 0 from h5)]
 simp only[Builtin.Range.rangeFitsLong,Bool.and_eq_true,Bool.or_eq_true,decide_eq_true_eq,beq_iff_eq]
 generalize Builtin.Range.rangeSize lo hi c=r at k3 ⊢
 clear e k0 k1 k2
 omega
end L2
namespace L2
open PySem PySem.Spec PyProof.Rows
def UW (names:List (Str×NameKind)) (cells:List (Str×Addr)) (cs:List (Str×Addr)):List (Str×Addr):=
 match names with
 | []=>cs
 | (n,k) :: r=>UW r cells (if k== .free then(n,(cells.lookup n).getD 0) :: cs else cs)
theorem R7 {env:Env}:∀(names:List (Str×NameKind)) (cs:List (Str×Addr)),(∀x∈names,x.2= .free→∃c,env.cells.lookup x.1=some c) →
 (forIn names cs λ(x:Str×NameKind) (cs:List (Str×Addr))=>(if(x.2==NameKind.free)=true then(do let c ←cellOf env x.1;pure (ForInStep.yield ((x.1,c) :: cs)))else pure (ForInStep.yield cs):Sem (ForInStep (List (Str×Addr)))))=pure (UW names env.cells cs)
 | [],cs,_=>rfl
 | (n,k) :: r,cs,h=>by
   rw[List.forIn_cons]
   have hr:∀x∈r,x.2= .free→∃c,env.cells.lookup x.1=some c:=λx hx=>h x (List.mem_cons_of_mem _ hx)
   by_cases hk:k= .free
   ·subst hk
    obtain⟨c,hc⟩:=h (n,.free) List.mem_cons_self rfl
    have hc:env.cells.lookup n=some c:=hc
    have e:cellOf env n=pure c:=by unfold cellOf;rw[hc]
    rw[if_pos (by rfl),e,pure_bind,pure_bind]
    show(forIn r ((n,c) :: cs) _:Sem _)=_
    rw[R7 r _ hr]
    show _=pure (UW r env.cells (if(NameKind.free==NameKind.free)=true then(n,(env.cells.lookup n).getD 0) :: cs else cs))
    rw[if_pos (by rfl),hc]
    rfl
   ·have hb:(k==NameKind.free)=false:=by simpa using hk
    rw[if_neg (by rw[hb];decide),pure_bind]
    show(forIn r cs _:Sem _)=_
    rw[R7 r _ hr]
    show _=pure (UW r env.cells (if(k==NameKind.free)=true then(n,(env.cells.lookup n).getD 0) :: cs else cs))
    rw[if_neg (by rw[hb];decide)]
theorem Oe {scope:Scope} {env:Env} (h:∀x∈scope.names,x.2= .free→∃c,env.cells.lookup x.1=some c):closureFor scope env=pure (UW scope.names env.cells []):=by
 have e:=R7 (env:=env) scope.names [] h
 unfold closureFor
 rw[←e]
 first |rfl |simp
theorem Ny {cells:List (Str×Addr)} {x:Str} {c:Addr}:∀(names:List (Str×NameKind)) (cs:List (Str×Addr)),(∀y∈names,y.2= .free→∃c,cells.lookup y.1=some c)→(cs.lookup x=some c→cells.lookup x=some c) →
 (UW names cells cs).lookup x=some c→cells.lookup x=some c
 | [],cs,_,h0,h=>h0 h
 | (n,k) :: r,cs,hf,h0,h=>by
   have hr:∀x∈r,x.2= .free→∃c,cells.lookup x.1=some c:=λx hx=>hf x (List.mem_cons_of_mem _ hx)
   unfold UW at h
   by_cases hk:k= .free
   ·subst hk
    obtain⟨c',hc⟩:=hf (n,.free) List.mem_cons_self rfl
    have hc:cells.lookup n=some c':=hc
    rw[if_pos (by rfl),hc]at h
    refine Ny r _ hr (λq=>?_) h
    rw[List.lookup_cons]at q
    cases e:x==n with
    |true =>
     rw[e]at q
     have e':x=n:=by simpa using e
     subst e'
     cases q
     exact hc
    |false=>rw[e]at q;exact h0 q
   ·have hb:(k==NameKind.free)=false:=by simpa using hk
    rw[if_neg (by rw[hb];decide)]at h
    exact Ny r _ hr h0 h
theorem K5 {cells:List (Str×Addr)} {x:Str}:∀(names:List (Str×NameKind)) (cs:List (Str×Addr)),((x,NameKind.free)∈names∨∃c,cs.lookup x=some c)→∃c,(UW names cells cs).lookup x=some c
 | [],cs,h=>by
   rcases h with h |h
   ·cases h
   ·exact h
 | (n,k) :: r,cs,h=>by
   unfold UW
   refine K5 r _ ?_
   rcases h with h | ⟨c,h⟩
   ·rcases List.mem_cons.mp h with e |e
    ·cases e
     refine .inr ⟨(cells.lookup x).getD 0,?_⟩
     rw[if_pos (by rfl),List.lookup_cons]
     simp
    ·exact .inl e
   ·split
    ·rw[List.lookup_cons]
     cases e:x==n with
     |true=>exact .inr ⟨_,rfl⟩
     |false=>exact .inr ⟨c,h⟩
    ·exact .inr ⟨c,h⟩
section
variable {prog:Program} {w:World} {A:Around} {R:Result→Shared→Prop} {s:Shared}
abbrev F0:Value→Shared→Prop:=λ_ _=>False
abbrev Dq (ifs:List Expr) (env:Env):Sem Bool:=forIn ifs true λc r=>if r=true then do let ok ←isTrue c env (eval c env);pure (ForInStep.yield ok)else pure (ForInStep.yield r)
theorem Dp {elt target iter:Expr} {ifs:List Expr} {scope:Scope} {pos:Pos} {it acc:Value} {env:Env} (I:Nat→Shared→Prop)
 (turn:∀n s,I n s→wpAny (model prog w) A (pyNext it) (λr s1=>match r with
  |none=>R (.ok .next) s1
  |some v=>wpAny (model prog w) A (letOwnedTupleGo target it v) (λ_ s2=>wpAny (model prog w) A (assign target env v) (λ_ s3 =>
   wpAny (model prog w) A (Dq ifs env) (λok s4 =>
    if ok=true then wpAny (model prog w) A (eval elt env) (λx s5 =>
     wpAny (model prog w) A (call (.builtin "list.append") [acc,x]) (λ_ s6=>∃m,m<n∧I m s6) F0 s5) F0 s4
    else ∃m,m<n∧I m s4) F0 s3) F0 s2) F0 s1) F0 s)
 (n:Nat) (h:I n s):
 codeAny (model prog w) A (.compLoop (.ListComp elt [⟨target,iter,ifs,0⟩] scope pos) 0 it acc env) R s:=by
 refine codeAny_loop rfl I (λn s hI=>?_) n h
 show wpAny _ A ((compTurn (.ListComp elt [⟨target,iter,ifs,0⟩] scope pos) 0 it acc env).onRaise (λx=>do noteFrame x env;theTreesLotGoes x)) _ _ s
 refine wpAny_noted ?_
 rw[compTurn_list]
 refine wpAny_bind (wpAny_standAt (wpAny_bind (wpAny_mono (turn n s hI) (λr s1 h1=>?_) λ_ _ z=>False.elim z)))
 cases r with
 |none=>exact wpAny_pure h1
 |some v =>
  refine wpAny_bind (wpAny_mono h1 (λ_ s2 h2=>?_) λ_ _ z=>False.elim z)
  refine wpAny_bind (wpAny_mono h2 (λ_ s3 h3=>wpAny_bind (wpAny_mono h3 (λok s4 h4=>?_) λ_ _ z=>False.elim z)) λ_ _ z=>False.elim z)
  cases ok with
  |false=>exact wpAny_pure ⟨rfl,h4⟩
  |true =>
   exact wpAny_bind (wpAny_bind (wpAny_mono h4 (λx s5 h5=>wpAny_bind (wpAny_mono h5 (λ_ s6 h6=>wpAny_pure (wpAny_pure ⟨rfl,h6⟩)) λ_ _ z=>False.elim z)) λ_ _ z=>False.elim z))
end
def W_ (X:Cx) (N':List Str) (scope:Scope) (s3:Shared) (H3:Hp) (fp:List Addr) (pins:List (Addr×Obj)):Cx:=
 {prog:=X.prog,w:=X.w,K:=X.K,mg:=X.mg,base:=X.base,A:=X.A,N:=N',s₀:=s3,H₀:=H3,env:=compEnvC scope (UW scope.names X.env.cells []) s3.heap.objs.size X.env,
  outer:=X.stack,stack:=X.stack,ex:=fp,fn:=λ_=>false,calm:=X.calm,pn:=X.pn++pins,xe:=F0}
def UL (X:Cx) (vars:List Str) (caps:List Nat):List Str:=vars++caps.map λj=>X.N.getD j ""
def uV (vars:List Str) (caps:List Nat) (σ:St):St:=vars.map (λ_=>none)++caps.map λj=>σ.getD j none
structure ZD (X:Cx) (scope:Scope) (caps:List Nat):Prop where
 kind:scope.kind= .function
 loc:∀x∈scope.names,x.2= .local→scope.names.lookup x.1=some .local
 xG:∀x∈scope.names,x.2≠ .cell
 free:∀x∈scope.names,x.2= .free→X.env.kindOf x.1=some .cell
 caps:∀j∈caps,∃x,X.N[j]? =some x∧X.env.kindOf x=some .cell∧(x,NameKind.free)∈scope.names∧(relabel scope X.env).names.lookup x=some .cell
section
variable {X:Cx} {scope:Scope} {caps:List Nat} {pins:List (Addr×Obj)} {σ:St} {H:Hp} {s:Shared} {fp:List Addr}
theorem ZD.cells (S:ZD X scope caps) (I:Inv X pins σ H s):∀x∈scope.names,x.2= .free→∃c,X.env.cells.lookup x.1=some c:=λx hx hf=>I.ok.has x.1 (.inl (S.free x hx hf))
theorem ZD.look (S:ZD X scope caps) (I:Inv X pins σ H s) {x:Str} {c:Addr} (h:(UW scope.names X.env.cells []).lookup x=some c):X.env.cells.lookup x=some c:=
 Ny scope.names [] (S.cells I) (λq=>by cases q) h
theorem Rm {env:Env} {x:Str}:∀{names:List (Str×NameKind)} {k:NameKind},(names.map λ(n,k)=>if(k==NameKind.free && env.scope.kind== .function && env.kindOf n==some .cell)then(n,NameKind.cell)else(n,k)).lookup x=some k →
 ((x,k)∈names)∨(k= .cell∧(x,NameKind.free)∈names)
 | [],_,h=>by simp at h
 | (n,k0) :: r,k,h=>by
   have ih:=@Rm env x r k
   have g:List.lookup x ((if(k0==NameKind.free && env.scope.kind== .function && env.kindOf n==some .cell)=true then(n,NameKind.cell)else(n,k0)) :: (r.map λ(n,k)=>if(k==NameKind.free && env.scope.kind== .function && env.kindOf n==some .cell)then(n,NameKind.cell)else(n,k)))=some k:=h
   by_cases hc:(k0==NameKind.free && env.scope.kind== .function && env.kindOf n==some .cell)=true
   ·rw[if_pos hc,List.lookup_cons]at g
    have hk0:k0= .free:=by
     simp only[Bool.and_eq_true]at hc
     simpa using hc.1.1
    cases hx:x==n with
    |true =>
     rw[hx]at g
     have e:x=n:=by simpa using hx
     subst e
     have g:some NameKind.cell=some k:=g
     cases g
     exact .inr ⟨rfl,by rw[hk0];exact List.mem_cons_self⟩
    |false =>
     rw[hx]at g
     rcases ih g with z | ⟨z1,z2⟩
     ·exact .inl (List.mem_cons_of_mem _ z)
     ·exact .inr ⟨z1,List.mem_cons_of_mem _ z2⟩
   ·rw[if_neg hc,List.lookup_cons]at g
    cases hx:x==n with
    |true =>
     rw[hx]at g
     have e:x=n:=by simpa using hx
     subst e
     have g:some k0=some k:=g
     cases g
     exact .inl List.mem_cons_self
    |false =>
     rw[hx]at g
     rcases ih g with z | ⟨z1,z2⟩
     ·exact .inl (List.mem_cons_of_mem _ z)
     ·exact .inr ⟨z1,List.mem_cons_of_mem _ z2⟩
theorem ZD.ok (S:ZD X scope caps) {N':List Str} (I:Inv X pins σ H s) (hf:∀b∈fp,Qv X pins H b) (hob:∀b∈fp,∃o,s.heap.get? b=some o):(W_ X N' scope s H fp pins).Ok where
 mod:=I.ok.mod
 kind:=S.kind
 glob:=I.ok.glob
 blt:=I.ok.blt
 above:=Nat.le_refl _
 inj:=λx y c h1 h2=>I.ok.inj x y c (S.look I h1) (S.look I h2)
 has:=λx h=>by
  refine K5 scope.names [] (.inl ?_)
  rcases h with h |h
  ·rcases Rm h with z | ⟨_,z⟩
   ·exact absurd rfl (S.xG _ z)
   ·exact z
  ·rcases Rm h with z | ⟨z,_⟩
   ·exact z
   ·cases z
 cab:=λ_ _ h=>by cases h
 hd:=I.ok.hd
 frames:=I.ok.frames
 stk:=.inl rfl
 bJ:=λb hb=>by
  obtain⟨o,ho⟩:=hob b hb
  refine⟨Nat.ne_of_lt (Heap.lt_size ho),λx c e=>(hf b hb).2.2.2.2.1 x c (S.look I e)⟩
 bs:=I.bs
 yd:=Nat.le_trans I.ok.yd I.sz
 Gu:=λb o e hb=>by
  rcases(hf b hb).2.2.2.1 with z |z
  ·exact I.ok.Gu b o e z
  ·exact absurd (Nat.lt_of_lt_of_le (Heap.lt_size e) (Nat.le_trans I.ok.yd z)) (Nat.lt_irrefl _)
 DQ:=λb hb z=>by
  rcases List.mem_cons.mp (I.Lb b z)with e |e
  ·exact(hf b hb).2.1 e
  ·exact(hf b hb).2.2.1 e
 QG:=I.stack
 tD:=I.DP
theorem ZD.start (S:ZD X scope caps) {vars:List Str} {h':Heap} {tk:Nat} (I:Inv X pins σ H s) (hf:∀b∈fp,Qv X pins H b) (hob:∀b∈fp,∃o,s.heap.get? b=some o)
 (hn:h'.Ns s.heap.objs.size (λ_=>none)) (hk:∀b o,s.heap.get? b=some o→h'.get? b=some o):Inv (W_ X (UL X vars caps) scope s H fp pins) [] (uV vars caps σ) H {s with heap:=h',toks:=tk}:=by
 refine⟨S.ok I hf hob,rfl,I.bare,Un.kept hk,⟨_,hn,λi x v h1 h2 h3=>?_⟩,λx c h=>?_,I.hok.fresh (Nat.le_refl _),λx c h=>I.Uq x c (S.look I h),λp hp=>?_,I.hok.kept hk,?_⟩
 ·have h1:(vars++caps.map λj=>X.N.getD j "")[i]? =some x:=h1
  have h2:(vars.map (λ_=>(none:Option V))++caps.map λj=>σ.getD j none)[i]? =some (some v):=h2
  have hi:¬i<vars.length:=λhi=>by
   rw[List.getElem?_append_left (by simpa using hi),List.getElem?_map]at h2
   cases e:vars[i]? with
   |none=>rw[e]at h2;cases h2
   |some z=>rw[e]at h2;cases h2
  rw[List.getElem?_append_right (by simpa using hi),List.getElem?_map,List.length_map]at h2
  rw[List.getElem?_append_right (by omega),List.getElem?_map]at h1
  cases e:caps[i-vars.length]? with
  |none=>rw[e]at h2;cases h2
  |some j =>
   rw[e]at h1 h2
   obtain⟨y,hy,hyk,hyf,hyl⟩:=S.caps j (List.mem_of_getElem? e)
   have exy:y=x:=by
    have:X.N.getD j ""=x:=by simpa using h1
    rw[←this]
    simp[List.getD,hy]
   subst exy
   have hσ:σ[j]? =some (some v):=by
    have q:σ.getD j none=some v:=by simpa using h2
    cases e2:σ[j]? with
    |none=>simp[List.getD,e2]at q
    |some z =>
     simp[List.getD,e2]at q
     rw[q]
   obtain⟨m,_,hl⟩:=I.loc
   obtain⟨u,r,l⟩:=hl j y v hy hσ (.inr (.inl hyk))
   refine⟨u,r,?_⟩
   rcases l with⟨k,_⟩ | ⟨_,c,hc,hcell⟩
   ·rw[hyk]at k;cases k
   ·obtain⟨c',hc'⟩:=K5 (cells:=X.env.cells) (x:=y) scope.names [] (.inl hyf)
    have ecc:c=c':=by
     have:=S.look I hc'
     rw[hc]at this
     exact Option.some.inj this
    subst ecc
    refine .inr ⟨?_,c,hc',?_⟩
    ·exact .inl hyl
    ·obtain⟨o,ho,hd⟩:=hcell
     exact⟨o,hk c o ho,hd⟩
 ·obtain⟨v,o,ho,hd⟩:=I.cell x c (S.look I h)
  exact⟨v,o,hk c o ho,hd⟩
 ·have hp:p∈X.pn++pins:=by
   have:p∈(X.pn++pins)++[]:=hp
   simpa using this
  obtain⟨e,n,ne,nf,d⟩:=I.pin p hp
  refine⟨hk _ _ e,n,Nat.ne_of_lt (Heap.lt_size e),λz=>?_,d⟩
  rcases List.mem_cons.mp (I.Lb _ z)with q |q
  ·exact ne q
  ·exact nf q
 ·show(uV vars caps σ).length=(UL X vars caps).length
  simp[uV,UL]
theorem ZD.behind (S:ZD X scope caps) {N':List Str} {σ':St} {H':Hp} {s':Shared} {pl:List (Addr×Obj)} (I:Inv X pins σ H s) (hf:∀b∈fp,Qv X pins H b) (J:Inv (W_ X N' scope s H fp pins) pl σ' H' s'):Inv X pins σ H' s':=
 I.call' (ch:=fp) J.os J.base J.hok J.bare λb hb=>⟨(hf b hb).2.2.2.1,(hf b hb).2.1,(hf b hb).2.2.2.2.1,(hf b hb).2.2.2.2.2⟩
end
abbrev TT1:=TT
def dj:TT:=λ_ H Q=>Q true H
def PTs (X:Cx) (ifs:List Expr) (t:TT):Prop:=
 ∀(pins:List (Addr×Obj)) (s:Shared) (σ:St) (H:Hp) (Q:Bool→Hp→Prop),Inv X pins σ H s→t σ H Q→wpAny (model X.prog X.w) X.A (Dq ifs X.env) (TP X pins σ Q) X.xe s
theorem YG {X:Cx}:PTs X [] dj:=λpins s σ H Q I h=>wpAny_tests_nil ⟨H,I,h⟩
theorem iV {X:Cx} {c:Expr} {t:TT} (h:PT X c t):PTs X [c] t:=λpins s σ H Q I q=>wpAny_tests_one (h pins s σ H Q I q)
def Od (vars:List Str) (caps:List Nat) (J:It) (g:TG) (tt:TT) (te:TE) (σ:St) (H1:Hp) (Q:VK):Prop:=
 ∀acc,H1 acc=none→∃W:Nat→Nat→St→Hp→Prop,(∃m,W 0 m (uV vars caps σ) (upd H1 acc (.lst [])))∧∀i m σ' H',W i m σ' H' →
  (J.stop i H'∧Q (.ref acc) H')∨(J.go i H'∧∃N:St→Hp→Prop,(∀σ'' Jp,N σ'' Jp→∃m',m'<m∧W (i+1) m' σ'' Jp)∧∀x H2,J.pW i H' x H2→g x σ' H2 λσ2 H3=>tt σ2 H3 λb H4 =>
    if b=true then te σ2 H4 λv H5=>∃ys,H5 acc=some (.lst ys)∧ys.length<sizeLine∧N σ2 (upd H5 acc (.lst (ys++[v])))else N σ2 H4)
def dh (vars:List Str) (caps:List Nat) (wi:TI) (g:TG) (tt:TT) (te:TE):TE:=λσ H Q=>wi σ H λJ H1=>Od vars caps J g tt te σ H1 Q
structure Bh (X:Cx) (vars:List Str) (caps:List Nat) (scope:Scope) (tg:Expr) (ifs:List Expr) (elt:Expr) (g:TG) (tt:TT) (te:TE):Prop where
 ok:∀(s3:Shared) (H3:Hp) (fp:List Addr) (pins:List (Addr×Obj)),PG (W_ X (UL X vars caps) scope s3 H3 fp pins) tg g∧PTs (W_ X (UL X vars caps) scope s3 H3 fp pins) ifs tt∧PE (W_ X (UL X vars caps) scope s3 H3 fp pins) elt te
section
variable {X:Cx} {vars:List Str} {caps:List Nat} {scope:Scope} {tg iter elt:Expr} {ifs:List Expr} {pos:Pos} {wi:TI} {g:TG} {tt:TT} {te:TE}
theorem oW (S:ZD X scope caps) (hc:X.calm=true) (B:Bh X vars caps scope tg ifs elt g tt te) {pins:List (Addr×Obj)} {s2:Shared} {σ:St} {H1:Hp} {Q:VK} {it:Addr} {fp:List Addr} {tn:Nat→Heap→Prop} {J:It} {E:Value→Shared→Prop}
 {RR:Value→Addr→Result→Shared→Prop} (I2:Inv X pins σ H1 s2) (T:Turn X.prog X.w X.K tg J fp it tn) (st2:tn 0 s2.heap) (f2:∀b∈fp,Qv X pins H1 b) (q:Od vars caps J g tt te σ H1 Q)
 (hRR:∀acc C s' H' m,Inv X pins σ H' s'→s'.heap.Ns C m→s2.heap.objs.size≤C→H' C=none→Q (.ref acc) H'→RR (.ref acc) C (.ok .next) s'):
 wpAny (model X.prog X.w) X.A (newList []) (λacc s3=>wpAny (model X.prog X.w) X.A (newFunctionEnv scope X.env.globals (UW scope.names X.env.cells []) [] X.env.qual none .none (some X.env)) (λcenv s4 =>
  codeAny (model X.prog X.w) X.A (.compStart (.ListComp elt [⟨tg,iter,ifs,0⟩] scope pos) 0 (.ref it) acc {cenv with scope:=relabel scope X.env}) (RR acc cenv.locals) s4) E s3) E s2:=by
 refine wpAny_newObj_type ?_
 have hfr:H1 s2.heap.objs.size=none:=I2.hok.fresh (Nat.le_refl _)
 obtain⟨W,⟨m0,w0⟩,turn⟩:=q s2.heap.objs.size hfr
 generalize hs3:({s2 with heap:=s2.heap.push {cls:=.type "list",dict:=none,data:=.seq ([]:List Value).toArray}}:Shared)=s3
 have hsz:s3.heap.objs.size=s2.heap.objs.size+1:=by rw[←hs3];simp[Heap.size_push]
 have old:∀b o,s2.heap.get? b=some o→s3.heap.get? b=some o:=λb o e=>by rw[←hs3];exact Heap.get?_push_of_some _ e
 have I3:Inv X pins σ (upd H1 s2.heap.objs.size (.lst [])) s3:=by
  rw[←hs3]
  exact I2.laid (t':=s2.toks) (λb u e=>Heap.get?_push_of_some _ e) (Nat.le_refl _) ⟨by show 0≤sizeLine;decide,[],0,.nil,Heap.get?_push_size _ rfl⟩
 have hob:∀b∈fp,∃o,s2.heap.get? b=some o:=λb hb=>by
  obtain⟨o,ho,_⟩:=T.obj 0 _ st2 b hb
  exact⟨o,ho⟩
 have f3:∀b∈fp,Qv X pins (upd H1 s2.heap.objs.size (.lst [])) b:=λb hb=>by
  obtain⟨o,ho⟩:=hob b hb
  exact⟨by rw[Zw (Nat.ne_of_lt (Heap.lt_size ho))];exact(f2 b hb).1,(f2 b hb).2⟩
 have oV:∀b∈fp,∃o,s3.heap.get? b=some o:=λb hb=>by
  obtain⟨o,ho⟩:=hob b hb
  exact⟨o,old b o ho⟩
 refine wpAny_newFunctionEnv S.xG (by intro y hy;simp at hy) (λh4 hn4 hs4=>?_) S.kind
 have Bg:∀b o,s3.heap.get? b=some o→h4.get? b=some o:=λb o e=>hs4.extBut b o (Nat.ne_of_lt (Heap.lt_size e)) (Heap.get?_push_of_some _ e)
 have I4:=S.start (vars:=vars) (tk:=s3.toks+([]:List (Str×Value)).length) I3 f3 oV hn4 Bg
 obtain⟨PG',PT',PE'⟩:=B.ok s3 (upd H1 s2.heap.objs.size (.lst [])) fp pins
 generalize hX:W_ X (UL X vars caps) scope s3 (upd H1 s2.heap.objs.size (.lst [])) fp pins=X' at *
 have st4:tn 0 h4:=T.keep 0 _ _ st2 λb _ o e=>Bg b o (old b o e)
 have eA:X'.A=X.A:=by rw[←hX];rfl
 have eP:X'.prog=X.prog:=by rw[←hX];rfl
 have eW:X'.w=X.w:=by rw[←hX];rfl
 have eK:X'.K=X.K:=by rw[←hX];rfl
 have ec:X'.calm=true:=by rw[←hX];exact hc
 have ex:X'.xe=F0:=by rw[←hX];rfl
 have eE:X'.env=compEnvC scope (UW scope.names X.env.cells []) s3.heap.objs.size X.env:=by rw[←hX];rfl
 have stat:∀{H':Hp},(∀b∈fp,H' b=none)→∀b∈fp,Qv X' [] H' b:=λ{H'} hn b hb=>by
  obtain⟨a1,a2,a3,a4,a5,a6⟩:=f3 b hb
  obtain⟨o,ho⟩:=oV b hb
  rw[←hX]
  refine⟨hn b hb,Nat.ne_of_lt (Heap.lt_size ho),λz=>?_,.inl hb,λx c e=>a5 x c (S.look I3 e),λp hp=>a6 p ?_⟩
  ·rcases List.mem_cons.mp (I3.Lb b z)with e |e
   ·exact a2 e
   ·exact a3 e
  ·have hp:p∈(X.pn++pins)++[]:=hp
   simpa using hp
 have loop:∀s5:Shared,s5={s3 with heap:=h4,toks:=s3.toks+([]:List (Str×Value)).length} →
  codeAny (model X.prog X.w) X.A (.compLoop (.ListComp elt [⟨tg,iter,ifs,0⟩] scope pos) 0 (.ref it) (.ref s2.heap.objs.size) (compEnvC scope (UW scope.names X.env.cells []) s3.heap.objs.size X.env)) (RR (.ref s2.heap.objs.size) s3.heap.objs.size) s5:=by
  rintro s5 rfl
  refine Dp (λn s'=>∃i σ' H',Inv X' [] σ' H' s'∧tn i s'.heap∧(∀b∈fp,H' b=none)∧W i n σ' H') ?_ m0 ⟨0,_,_,I4,st4,λb hb=>(f3 b hb).1,w0⟩
  rintro n s6 ⟨i,σ6,H6,I6,st6,fr6,w6⟩
  rw[←eA,←eE,←eP,←eW]
  rcases turn i n σ6 H6 w6 with⟨stop,qn⟩ | ⟨go,N,hN,step⟩
  ·have z:=T.done X' eP eW eK ec i [] s6 σ6 H6 F0 I6 (stat fr6) st6 stop
   rw[←eP,←eW]at z
   refine Yy z λr s7 ⟨hr,I7⟩=>?_
   subst hr
   obtain⟨m,hm,_⟩:=id I7.loc
   have I7':Inv X pins σ H6 s7:=by
    rw[←hX]at I7
    exact S.behind I3 f3 I7
   have hm:s7.heap.Ns s3.heap.objs.size m:=by rw[eE]at hm;exact hm
   have hC:H6 s3.heap.objs.size=none:=by
    have:=I7.free
    rw[eE]at this
    exact this
   exact hRR s2.heap.objs.size s3.heap.objs.size s7 H6 m I7' hm (by omega) hC qn
  ·have z:=T.item X' eP eW eK ec i [] s6 σ6 H6 F0 I6 (stat fr6) st6 go
   rw[←eP,←eW]at z
   refine Yy z λr s7 ⟨u,hr,h7⟩=>?_
   subst hr
   refine Yy h7 λ_ s8 ⟨x,H8,I8,r8,y8,aO,fr8⟩=>?_
   have I8':=I8.pinned (stat fr8) (T.obj _ _ aO)
   have z9:=PG' _ s8 σ6 H8 x u _ I8' r8 (step x H8 y8)
   rw[ex]at z9
   refine Yy z9 λ_ s9 ⟨σ9,H9,I9,q9⟩=>?_
   have cZ:=PT' _ s9 σ9 H9 _ I9 q9
   rw[ex]at cZ
   refine Yy cZ λok s10 ⟨H10,I10,iU⟩=>?_
   have again:∀{rZ:Shared} {xu:Hp},Inv X' ([]++K_ fp s8.heap) σ9 xu rZ→N σ9 xu→∃m,m<n∧∃i σ' H',Inv X' [] σ' H' rZ∧tn i rZ.heap∧(∀b∈fp,H' b=none)∧W i m σ' H':=λ{rZ xu} oU aN=>by
    obtain⟨m',hm,w11⟩:=hN σ9 xu aN
    refine⟨m',hm,i+1,σ9,xu,oU.Qu,T.keep _ _ _ aO λb hb o e=>(oU.pin (b,o) (List.mem_append_right _ (List.mem_append_right _ (Vq hb e)))).1,λb hb=>?_,w11⟩
    obtain⟨o,e,d⟩:=T.obj _ _ aO b hb
    exact(oU.pin (b,o) (List.mem_append_right _ (List.mem_append_right _ (Vq hb e)))).2.1
   cases ok with
   |false =>
    rw[if_neg Bool.false_ne_true]at iU ⊢
    exact again I10 iU
   |true =>
    rw[if_pos rfl]at iU ⊢
    have cY:=PE' _ s10 σ9 H10 _ I10 iU
    rw[ex]at cY
    refine Yy cY λv rZ ⟨y,xu,oU,r11,ys,hy,hlen,aN⟩=>?_
    have cX:=Xk (X:=X') _ rZ σ9 xu (.ref s2.heap.objs.size) [y] _ [v] (λ_ H12=>N σ9 H12) oU rfl (.cons r11 .nil) ⟨_,ys,y,rfl,rfl,hy,hlen,aN⟩
    rw[ex]at cX
    exact Yy cX λ_ s12 ⟨_,H12,I12,_,n12⟩=>again I12 n12
 exact codeAny_compStart_list (loop _ rfl) (T.self X.A 0 _ _ _ st4 (loop _ rfl))
theorem YF (S:ZD X scope caps) (hc:X.calm=true) (hi:PI X tg iter wi) (B:Bh X vars caps scope tg ifs elt g tt te) (hs:∀x,foldedSetIterable iter X.env x=pure x:=by intro _;rfl):
 PE X (.ListComp elt [⟨tg,iter,ifs,0⟩] scope pos) (dh vars caps wi g tt te):=by
 intro pins s σ H Q I h
 rw[eval_ListComp]
 refine wpAny_comprehension_free (use:=none) rfl hs (Oe (S.cells I)) S.kind S.loc ?_
 refine Yy (hi pins s σ H _ I h) λv s1 h1=>Yy h1 λitv s2 h2=>?_
 obtain⟨it,fp,tn,J,H2,e,I2,T,st2,f2,q⟩:=h2
 subst e
 refine oW (RR:=λacc C=>compPost (model X.prog X.w) X.A X.xe none (EP X pins σ Q) acc C) S hc B I2 T st2 f2 q λacc C s' H' m I' hm hC hn q'=>?_
 refine⟨m,hm,λh'' hs''=>?_⟩
 have hCL:C≠X.env.locals:=λz=>absurd (Nat.lt_of_lt_of_le I2.lt (z▸hC)) (Nat.lt_irrefl _)
 exact⟨.ref acc,H',I'.turned (t':=s'.toks) (λb o hb e=>hs''.extBut b o hb e) hn hCL (.inr (Nat.le_trans I2.sz hC)) (λx c e z=>by
  obtain⟨v,hv⟩:=I2.cell x c e
  exact absurd (Nat.lt_of_lt_of_le hv.lt (z▸hC)) (Nat.lt_irrefl _)) (λp hp z=>by
  exact absurd (Nat.lt_of_lt_of_le (Heap.lt_size (I2.pin p hp).1) (z▸hC)) (Nat.lt_irrefl _)),rfl,q'⟩
end
structure xr (outer:Scope) (N:List Str) (scope:Scope) (caps:List Nat):Prop where
 ok:outer.kind= .function∧scope.kind= .function∧(∀x∈scope.names,x.2= .local→scope.names.lookup x.1=some .local)∧(∀x∈scope.names,x.2≠ .cell)∧(∀x∈scope.names,x.2= .free→outer.names.lookup x.1=some .cell) ∧
  ∀j∈caps,j<N.length∧outer.names.lookup (N.getD j "")=some .cell∧(N.getD j "",NameKind.free)∈scope.names∧scope.names.lookup (N.getD j "")=some .free
theorem MF {env:Env} {x:Str} (hk:env.scope.kind= .function) (hx:env.kindOf x=some .cell):∀{names:List (Str×NameKind)},names.lookup x=some .free →
 (names.map λ(n,k)=>if(k==NameKind.free && env.scope.kind== .function && env.kindOf n==some .cell)then(n,NameKind.cell)else(n,k)).lookup x=some .cell
 | [],h=>by simp at h
 | (n,k) :: r,h=>by
   have ih:=@MF env x hk hx r
   show List.lookup x ((if(k==NameKind.free && env.scope.kind== .function && env.kindOf n==some .cell)=true then(n,NameKind.cell)else(n,k)) :: _)=_
   rw[List.lookup_cons]at h
   cases e:x==n with
   |true =>
    rw[e]at h
    have e':x=n:=by simpa using e
    subst e'
    have hk':k= .free:=Option.some.inj h
    subst hk'
    have hc:(NameKind.free==NameKind.free && env.scope.kind== .function && env.kindOf x==some .cell)=true:=by rw[hk,hx];rfl
    rw[if_pos hc,List.lookup_cons]
    simp
   |false =>
    rw[e]at h
    have q:=ih h
    by_cases hc:(k==NameKind.free && env.scope.kind== .function && env.kindOf n==some .cell)=true
    ·rw[if_pos hc,List.lookup_cons,e];exact q
    ·rw[if_neg hc,List.lookup_cons,e];exact q
theorem ZD.of {X:Cx} {outer:Scope} {N:List Str} {scope:Scope} {caps:List Nat} (h1:X.env.scope=outer) (h2:X.N=N) (h:xr outer N scope caps):ZD X scope caps:=by
 subst h1;subst h2
 obtain⟨a,b,c,d,e,f⟩:=h.ok
 refine⟨b,c,d,e,λj hj=>?_⟩
 obtain⟨f1,f2,f3,f4⟩:=f j hj
 have g:X.N.getD j ""=X.N[j]:=by simp[List.getD,List.getElem?_eq_getElem f1]
 rw[g]at f2 f3 f4
 exact⟨X.N[j],List.getElem?_eq_getElem f1,f2,f3,MF (env:=X.env) a f2 f4⟩
end L2
namespace L2
open PySem PySem.Spec PyProof.Rows
inductive rY (K:PySem.W.Frag) (H:Hp):Nat→V→V→Bool→Prop where
 |flat {n:Nat} {x y:V}:Xx x=true→Xx y=true→rY K H n x y (xM x y)
 |same {n:Nat} (a:Addr):rY K H n (.ref a) (.ref a) true
 |list {n:Nat} {a b:Addr} {xs ys:List V} (e:Nat→Bool):a≠b→ZJ K H a xs→ZJ K H b ys→xs.length=ys.length→(∀(i:Nat) (x y:V),xs[i]? =some x→ys[i]? =some y→rY K H n x y (e i)) →
  rY K H (n+1) (.ref a) (.ref b) ((List.range xs.length).all e)
 |short {n:Nat} {a b:Addr} {xs ys:List V}:a≠b→ZJ K H a xs→ZJ K H b ys→xs.length≠ys.length→rY K H (n+1) (.ref a) (.ref b) false
 |tup {n:Nat} {a b:Addr} {xs ys:List V} (e:Nat→Bool):a≠b→TY K H a xs→TY K H b ys→(∀(i:Nat) (x y:V),xs[i]? =some x→ys[i]? =some y→rY K H n x y (e i)) →
  rY K H (n+1) (.ref a) (.ref b) ((List.range (min xs.length ys.length)).all e && xs.length==ys.length)
section
variable {X:Cx} {pins:List (Addr×Obj)} {σ:St} {H:Hp} {s:Shared}
theorem Vals.Bf {xs:List V} {us:List Value} {j:Nat} (r:Vals xs us) (h:j<us.toArray.size):∃x,xs[j]? =some x∧RelV x us.toArray[j]:=by
 have hl:=r.length
 have hj:j<xs.length:=by simp at h;omega
 obtain⟨u,e1,e2⟩:=r.get (List.getElem?_eq_getElem hj)
 refine⟨xs[j],List.getElem?_eq_getElem hj,?_⟩
 have:us.toArray[j]=u:=by
  have q:us[j]? =some us[j]:=List.getElem?_eq_getElem (by omega)
  rw[q]at e1
  simpa using e1
 rw[this]
 exact e2
theorem rY.abJ {n:Nat} {x y:V} {b:Bool} (I:Inv X pins σ H s) (d:rY X.K H n x y b):∀{A:Around} {u v:Value},RelV x u→RelV y v→A.units+n<cLine→SeqAt.EqAt A s u v b:=by
 induction d with
 |flat f1 f2=>intro A u v r1 r2 _;exact pG r1 r2 f1 f2
 |same a=>intro A u v r1 r2 _;cases r1;cases r2;exact SeqAt.EqAt.same _
 | @list n a b xs ys e hne h1 h2 hl hd ih =>
   intro A u v r1 r2 hu
   cases r1;cases r2
   obtain⟨its,q1,p1,_⟩:=I.list h1
   obtain⟨its2,q2,p2,_⟩:=I.list h2
   have l1:=q1.length
   have l2:=q2.length
   have z:=SeqAt.RcAt.lists (A:=A) (e:=e) p1.isList p2.isList (by simp;omega) (by omega) (λj g1 g2=>by
    obtain⟨x,ex,rx⟩:=q1.Bf g1
    obtain⟨y,ey,ry⟩:=q2.Bf g2
    exact ih j x y ex ey rx ry (by show A.units+1+n<cLine;omega))
   rw[show its.toArray.size=xs.length by simp;omega]at z
   exact SeqAt.EqAt.of_refs hne z
 | @short n a b xs ys hne h1 h2 hl =>
   intro A u v r1 r2 hu
   cases r1;cases r2
   obtain⟨its,q1,p1,_⟩:=I.list h1
   obtain⟨its2,q2,p2,_⟩:=I.list h2
   have l1:=q1.length
   have l2:=q2.length
   exact SeqAt.EqAt.of_refs hne (SeqAt.RcAt.lists_lengths p1.isList p2.isList (by simp;omega) (by omega))
 | @tup n a b xs ys e hne h1 h2 hd ih =>
   intro A u v r1 r2 hu
   cases r1;cases r2
   obtain⟨its,q1,p1,_⟩:=I.tuple h1
   obtain⟨its2,q2,p2,_⟩:=I.tuple h2
   have l1:=q1.length
   have l2:=q2.length
   have z:=SeqAt.RcAt.tuples (A:=A) (e:=e) p1 p2 (by omega) (λj g1 g2=>by
    obtain⟨x,ex,rx⟩:=q1.Bf g1
    obtain⟨y,ey,ry⟩:=q2.Bf g2
    exact ih j x y ex ey rx ry (by show A.units+1+n<cLine;omega))
   rw[show its.toArray.size=xs.length by simp;omega,show its2.toArray.size=ys.length by simp;omega]at z
   exact SeqAt.EqAt.of_refs hne z
def oR (K:PySem.W.Frag) (neg:Bool):R2:=λx y H Q=>∃a b xs ys,x= .ref a∧y= .ref b∧ZJ K H a xs∧ZJ K H b ys ∧
 ((xs.length≠ys.length∧Q (.bl neg) H)∨(xs.length=ys.length∧∃e:Nat→Bool,(∀(i:Nat) (x y:V),xs[i]? =some x→ys[i]? =some y→rY K H 40 x y (e i))∧Q (.bl (if neg then !((List.range xs.length).all e)else(List.range xs.length).all e)) H))
theorem aM (hu:X.A.units+64<cLine):Qt X (compareOp .Eq) (oR X.K false):=by
 intro pins s σ H x y v u Q I rx ry h
 obtain⟨a,b,xs,ys,rfl,rfl,h1,h2,q⟩:=h
 cases rx;cases ry
 obtain⟨its,q1,p1,_⟩:=I.list h1
 obtain⟨its2,q2,p2,_⟩:=I.list h2
 have l1:=q1.length
 have l2:=q2.length
 rcases q with⟨hl,q⟩ | ⟨hl,e,he,q⟩
 ·exact SeqAt.eq_list_lengthsAt p1.isList p2.isList (by simp;omega) (by omega) ⟨.bl false,H,I,rfl,q⟩
 ·refine SeqAt.eq_listAt (e:=e) p1.isList p2.isList (by simp;omega) (by omega) (λj g1 g2=>?_) ⟨.bl _,H,I,rfl,?_⟩
  ·obtain⟨x,ex,rx⟩:=q1.Bf g1
   obtain⟨y,ey,ry⟩:=q2.Bf g2
   exact(he j x y ex ey).abJ I rx ry (by show X.A.units+1+40<cLine;omega)
  ·rw[show its.toArray.size=xs.length by simp;omega]
   exact q
theorem aK (hu:X.A.units+64<cLine):Qt X (compareOp .NotEq) (oR X.K true):=by
 intro pins s σ H x y v u Q I rx ry h
 obtain⟨a,b,xs,ys,rfl,rfl,h1,h2,q⟩:=h
 cases rx;cases ry
 obtain⟨its,q1,p1,_⟩:=I.list h1
 obtain⟨its2,q2,p2,_⟩:=I.list h2
 have l1:=q1.length
 have l2:=q2.length
 rcases q with⟨hl,q⟩ | ⟨hl,e,he,q⟩
 ·exact SeqAt.RcNeAt.lists_lengths p1.isList p2.isList (by simp;omega) (by omega) _ _ _ _ ⟨.bl true,H,I,rfl,q⟩
 ·refine SeqAt.RcNeAt.lists (e:=e) p1.isList p2.isList (by simp;omega) (by omega) (λj g1 g2=>?_) _ _ _ _ ⟨.bl _,H,I,rfl,?_⟩
  ·obtain⟨x,ex,rx⟩:=q1.Bf g1
   obtain⟨y,ey,ry⟩:=q2.Bf g2
   exact(he j x y ex ey).abJ I rx ry (by show X.A.units+1+40<cLine;omega)
  ·rw[show its.toArray.size=xs.length by simp;omega]
   exact q
def amV (K:PySem.W.Frag) (neg:Bool):R2:=λx y H Q=>∃(a b:Addr) (ns ms:List Int),x= .ref a∧y= .ref b∧ZJ K H a (ns.map V.int)∧ZJ K H b (ms.map V.int)∧Q (.bl (if neg then !decide (ns=ms)else decide (ns=ms))) H
end
section
variable {X:Cx} {pins:List (Addr×Obj)} {σ:St} {H:Hp} {s:Shared} {h':Heap}
theorem Inv.K4 {ch:List Addr} {T:Addr} {o:HO} {tk:Nat} (I:Inv X pins σ H s) (k:∀b u,b∉ch→s.heap.get? b=some u→h'.get? b=some u) (hf:∀b∈ch,Qv X pins H b) (hT:s.heap.objs.size≤T) (th:∃u,h'.get? T=some u)
 (new:Xe X.prog X.w (upd H T o) h' T o):Inv X pins σ (upd H T o) {s with heap:=h',toks:=tk}:=by
 have hn:H T=none:=I.hok.fresh hT
 have p8:∀b u,H b=some u→b∉ch:=λb u e z=>by
  have:=(hf b z).1
  rw[e]at this
  cases this
 refine I.step (g':=s.gens) (d':=s.drawn) (ch:=ch) (λb hb=>⟨(hf b hb).2.2.2.1,(hf b hb).2.1,(hf b hb).2.2.2.2.1,(hf b hb).2.2.2.2.2⟩) (λb u _ _ hc e _=>k b u hc e) (λb u _ _ hc e _=>⟨u.slots,k b u hc e⟩)
  (λb u _ e n=>by rw[Zw (λ(z:b=T)=>absurd (Nat.lt_of_lt_of_le (Heap.lt_size e) (z▸hT)) (Nat.lt_irrefl _))];exact n) (λb u hc e=>⟨u,k b u hc e⟩)
  (λb xs e=>by rw[Zw (ZF e hn)];exact e) (λb u v e=>by rw[Zw (ZF e hn)];exact e) (λb ps e=>⟨#[],by rw[Zw (ZF e hn),e];simp⟩) (λm hm=>?_) (λb u e=>?_) I.bare
 ·obtain⟨ob,es,ep,ho,r⟩:=hm
  refine⟨ob,es,ep,k _ ob (λz=>(hf _ z).2.1 rfl) ho,r⟩
 ·by_cases hb:b=T
  ·subst hb;rw[Z1]at e;cases e;exact new
  ·rw[Zw hb]at e
   refine(I.hok b u e).stay (λc v hc q=>k c v ?_ q) (λc q=>by rw[Zw (ZF q hn)];exact q) λc xs q=>by rw[Zw (ZF q hn)];exact q
   rcases hc with z |z
   ·rw[z];exact p8 b u e
   ·exact p8 c _ z
theorem Inv.Nx {ch:List Addr} {tk:Nat} (I:Inv X pins σ H s) (k:∀b u,b∉ch→s.heap.get? b=some u→h'.get? b=some u) (hf:∀b∈ch,Qv X pins H b):Inv X pins σ H {s with heap:=h',toks:=tk}:=by
 have p8:∀b u,H b=some u→b∉ch:=λb u e z=>by
  have:=(hf b z).1
  rw[e]at this
  cases this
 refine I.step (g':=s.gens) (d':=s.drawn) (ch:=ch) (λb hb=>⟨(hf b hb).2.2.2.1,(hf b hb).2.1,(hf b hb).2.2.2.2.1,(hf b hb).2.2.2.2.2⟩) (λb u _ _ hc e _=>k b u hc e) (λb u _ _ hc e _=>⟨u.slots,k b u hc e⟩)
  (λb u _ e n=>n) (λb u hc e=>⟨u,k b u hc e⟩) (λb xs e=>e) (λb u v e=>e) (λb ps e=>⟨#[],by rw[e];simp⟩) (λm hm=>?_) (λb u e=>?_) I.bare
 ·obtain⟨ob,es,ep,ho,r⟩:=hm
  refine⟨ob,es,ep,k _ ob (λz=>(hf _ z).2.1 rfl) ho,r⟩
 ·refine(I.hok b u e).stay (λc v hc q=>k c v ?_ q) (λc q=>q) λc xs q=>q
  rcases hc with z |z
  ·rw[z];exact p8 b u e
  ·exact p8 c _ z
end
def Ite (K:PySem.W.Frag) (a:Addr):It:=
 ⟨λi H=>∃xs x,ZJ K H a xs∧xs[i]? =some x,λi H x H'=>∃T v,x= .ref T∧H T=none∧H'=upd H T (.tup [.int i,v])∧∀xs,ZJ K H a xs→xs[i]? =some v,λi H=>∃xs,ZJ K H a xs∧xs.length=i⟩
theorem rW {P:Program} {w:World} {K:PySem.W.Frag} {elts:List Expr} {k:Nat} {tp:Pos} (a it e:Addr) (hei:e≠it):Turn P w K (.Tuple elts k tp) (Ite K a) [e,it] e (λi h=>(∃old,IsEnum h e it i old)∧h.IsListIter it a i) where
 mem:=by simp
 obj:=λi h st b hb=>by
  obtain⟨⟨old,he⟩,hi⟩:=st
  rcases List.mem_cons.mp hb with z |hb
  ·subst z
   exact⟨_,he,λv z=>by
    have z':Data.fields _=Data.cell v:=z
    cases z'⟩
  ·have z:b=it:=by simpa using hb
   subst z
   obtain⟨o,e,c,d⟩:=hi
   exact⟨o,e,λv z=>by rw[d]at z;cases z⟩
 keep:=λi h h' st kk=>by
  obtain⟨⟨old,he⟩,hi⟩:=st
  exact⟨⟨old,kk e (by simp) _ he⟩,hi.at λo z=>kk it (by simp) o z⟩
 item:=by
  intro X hP hw hK hc i pins s σ H E I hf st hg
  subst hP hw hK
  obtain⟨⟨old,he⟩,hi⟩:=st
  obtain⟨xs,x,hq,hx⟩:=hg
  obtain⟨its,rv,p,hz⟩:=I.list hq
  obtain⟨u,hu,ru⟩:=rv.get hx
  have hil:i<its.toArray.size:=by
   have:=(List.getElem?_eq_some_iff.mp hu).1
   simpa using this
  have hai:a≠it:=λz=>by
   obtain⟨o,ho,hc',_⟩:=hi
   obtain⟨o2,ho2,hc2,_⟩:=p.isList
   rw[z,ho]at ho2
   cases ho2
   rw[hc']at hc2
   exact absurd hc2 (by decide)
  have hea:e≠a:=λz=>by
   obtain⟨o2,ho2,hc2,_⟩:=p.isList
   have he2:s.heap.get? e=some _:=he
   rw[←z,he2]at ho2
   cases ho2
   have hc2:Value.type "enumerate"=Value.type "list":=hc2
   exact absurd hc2 (by decide)
  have D:=Draws.list (prog:=X.prog) (w:=X.w) (A:=X.A.in1) (I.ok.hd hc) it a hai its.toArray
  refine wpAny_pyNext_enum_itemD D he ⟨hi,p.isList⟩ hil hei (by simp[hei,hea]) λy h1 tk hy hout hst hT hsz hk=>?_
  have ey:y=u:=by
   have q:its.toArray[i]? =some y:=hy
   have q2:its.toArray[i]? =some u:=by simpa using hu
   rw[q2]at q
   exact(Option.some.inj q).symm
  subst ey
  refine⟨_,rfl,?_⟩
  refine wpAny_letOwnedTupleGo_enum hout λh2 he2 hs2=>?_
  have hTe:s.heap.objs.size≠e:=λz=>absurd (Heap.lt_size he) (by rw[←z];exact Nat.lt_irrefl _)
  have keep:∀b o,b∉[e,it]→s.heap.get? b=some o→h2.get? b=some o:=λb o hb q=>by
   have h1':b≠e:=λz=>hb (by simp[z])
   have h2':b≠it:=λz=>hb (by simp[z])
   exact(hs2.2 b h1').trans (hk b o h1' h2' q)
  have hT2:h2.get? s.heap.objs.size=some {cls:=.type "tuple",data:=.seq #[.int i tk,y]}:=(hs2.2 _ hTe).trans hT
  refine⟨.ref s.heap.objs.size,upd H s.heap.objs.size (.tup [.int i,x]),I.K4 (tk:=tk+1) keep hf (Nat.le_refl _) ⟨_,hT2⟩ ?_,rfl,⟨_,x,rfl,I.hok.fresh (Nat.le_refl _),rfl,λys hys=>by rw[I.Qw hys hq];exact hx⟩,⟨⟨_,by simpa using he2⟩,?_⟩,λb hb=>?_⟩
  ·exact⟨by show 2≤sizeLine;decide,[.int i tk,y],.cons ⟨_,rfl⟩ (.cons ru .nil),⟨_,hT2,rfl,_,rfl⟩⟩
  ·exact hst.1.at λo z=>(hs2.2 it (Ne.symm hei)).trans z
  ·have hbn:=(hf b hb).1
   rw[Zw]
   ·exact hbn
   ·intro z
    rcases List.mem_cons.mp hb with q |hb
    ·exact hTe (z▸q)
    ·have q:b=it:=by simpa using hb
     obtain⟨o,ho,_⟩:=hi
     have:=Heap.lt_size ho
     rw[←q,z]at this
     exact absurd this (Nat.lt_irrefl _)
 done:=by
  intro X hP hw hK hc i pins s σ H E I hf st hg
  subst hP hw hK
  obtain⟨⟨old,he⟩,hi⟩:=st
  obtain⟨xs,hq,hx⟩:=hg
  obtain⟨its,rv,p,hz⟩:=I.list hq
  have hl:=rv.length
  have hai:a≠it:=λz=>by
   obtain⟨o,ho,hc',_⟩:=hi
   obtain⟨o2,ho2,hc2,_⟩:=p.isList
   rw[z,ho]at ho2
   cases ho2
   rw[hc']at hc2
   exact absurd hc2 (by decide)
  have D:=Draws.list (prog:=X.prog) (w:=X.w) (A:=X.A.in1) (I.ok.hd hc) it a hai its.toArray
  have hsz:its.toArray.size=i:=by simp;omega
  refine wpAny_pyNext_enum_endD D he ⟨by rw[hsz];exact hi,p.isList⟩ λh1 hx1=>⟨rfl,?_⟩
  exact I.Nx (ch:=[e,it]) (tk:=s.toks) (λb o hb q=>hx1 b o (λz=>hb (by simp[z])) q) hf
 self:=λ_ _ _ _ _ st h=>by
  obtain⟨⟨old,he⟩,_⟩:=st
  exact wpAny_pyIter_enum he h
section
variable {X:Cx} {elts:List Expr} {k:Nat} {tp:Pos}
def cW (K:PySem.W.Frag) (ta:TA):TI:=λσ H R=>ta σ H λvs H1=>∃a,vs=[.ref a]∧(∃xs,ZJ K H1 a xs)∧R (Ite K a) H1
theorem iT {l:Expr} {ta:TA} {p pos:Pos} (hg:Gl X "enumerate") (hm:X.mg "enumerate"=none) (ha:PA X [l] ta) (hs:starEach [l] X.env=[(false,eval l X.env)]:=by rfl):PI X (.Tuple elts k tp) (.Call (.Name "enumerate" p) [l] [] pos) (cW X.K ta):=by
 intro pins s σ H R I h
 refine Call_ (T3 I hg hm boot_enumerate (PyProof.Rows.callWith_type1 (Yy (ha pos pins s σ H _ I h) λus s1 ⟨vs,H1,I1,r1,q1⟩=>?_) hs rfl))
 obtain⟨a,e,⟨xs,hq⟩,q⟩:=q1
 subst e
 obtain⟨u,rfl,r⟩:=vals1 r1
 cases r
 obtain⟨its,rv,pl,hz⟩:=I1.list hq
 refine call_enumerate_list pl.isList λh1 he hit hsz hk=>?_
 refine wpAny_pyIter_enum he ?_
 refine⟨s1.heap.objs.size+1,[s1.heap.objs.size+1,s1.heap.objs.size],_,_,H1,rfl,I1.kept (t':=s1.toks) hk,rW a s1.heap.objs.size (s1.heap.objs.size+1) (Nat.succ_ne_self _),⟨⟨_,he⟩,hit⟩,λb hb=>?_,q⟩
 have hb:s1.heap.objs.size≤b:=by
  rcases List.mem_cons.mp hb with z |hb
  ·rw[z];exact Nat.le_succ _
  ·have z:b=s1.heap.objs.size:=by simpa using hb
   rw[z];exact Nat.le_refl _
 exact I1.Bu hb (I1.hok.fresh hb)
end
theorem Jd {K:PySem.W.Frag} {a:Addr} {xs:List V} {g:TG} {tb:TS} {D:Ends} {σ:St} {H:Hp} (Pv:Nat→St→Hp→Prop) (h0:Pv 0 σ H) (hl:∀i σ H,i≤xs.length→Pv i σ H→ZJ K H a xs)
 (hs:∀i x σ H T,xs[i]? =some x→Pv i σ H→H T=none→g (.ref T) σ (upd H T (.tup [.int i,x])) λσ2 H2=>tb {D with nx:=Pv (i+1),ct:=Pv (i+1),bk:=D.nx} σ2 H2) (hd:∀σ H,Pv xs.length σ H→D.nx σ H):
 ∃W:Nat→Nat→St→Hp→Prop,(∃m,W 0 m σ H)∧∀i m σ H,W i m σ H →
  ((Ite K a).stop i H∧D.nx σ H)∨((Ite K a).go i H∧∃N:St→Hp→Prop,(∀σ' H',N σ' H'→∃m',m'<m∧W (i+1) m' σ' H')∧∀x H',(Ite K a).pW i H x H'→g x σ H' λσ2 H2=>tb {D with nx:=N,ct:=N,bk:=D.nx} σ2 H2):=by
 refine⟨λi m σ H=>m=xs.length-i∧i≤xs.length∧Pv i σ H,⟨xs.length,by simp,Nat.zero_le _,h0⟩,?_⟩
 rintro i m σ H ⟨rfl,hi,p⟩
 have q:=hl i σ H hi p
 by_cases hlt:i<xs.length
 ·refine .inr ⟨⟨xs,xs[i],q,by simp[hlt]⟩,Pv (i+1),λσ' H' p'=>⟨xs.length-(i+1),by omega,rfl,hlt,p'⟩,λx H' y=>?_⟩
  obtain⟨T,v,rfl,hT,rfl,y⟩:=y
  exact hs i v σ H T (y xs q) p hT
 ·have e:i=xs.length:=by omega
  subst e
  exact .inl ⟨⟨xs,q,rfl⟩,hd σ H p⟩
end L2
namespace L2
open PySem PySem.Spec PyProof.Rows
def Uw (lo:Int) (n:Nat):List Int:=(List.range n).map λi=>lo+(i:Nat)
theorem Gp (lo:Int) (n:Nat):(Uw lo n).length=n:=by simp[Uw]
theorem xq {lo:Int} {n:Nat} {acc:Array Value} (h:ItemsOf (λi v=>∃t,v= .int (lo+i*1) t) acc n):Vals ((Uw lo n).map V.int) acc.toList:=by
 obtain⟨h1,h2⟩:=h
 have key:∀(xs:List V) (us:List Value),xs.length=us.length→(∀(i:Nat) x u,xs[i]? =some x→us[i]? =some u→RelV x u)→Vals xs us:=by
  intro xs
  induction xs with
  |nil=>intro us hl _;cases us with |nil=>exact .nil |cons _ _=>cases hl
  |cons x xs ih =>
   intro us hl h
   cases us with
   |nil=>cases hl
   |cons u us=>exact .cons (h 0 x u rfl rfl) (ih us (by simpa using hl) λi y v a b=>h (i+1) y v (by simpa using a) (by simpa using b))
 refine key _ _ (by simp[Uw,h1]) λi x u hx hu=>?_
 obtain⟨t,rfl⟩:=h2 i u (by simpa using hu)
 have hi:i<n:=by
  have:=(List.getElem?_eq_some_iff.mp hu).1
  simp at this
  omega
 have:x= .int (lo+i):=by
  simp[Uw,hi]at hx
  exact hx.symm
 subst this
 exact⟨t,by rw[Int.mul_one]⟩
section
variable {X:Cx} {pos pos2 p p2:Pos} {a b:Expr} {ta:TA}
def RX (xs:List V) (H:Hp) (Q:VK):Prop:=∀l,H l=none→Q (.ref l) (upd H l (.lst xs))
def Bc (ta:TA):TE:=λσ H Q=>ta σ H λvs H1=>∃j:Int,vs=[.int j]∧ -1000000<j∧j<1000000∧RX ((Uw 0 j.toNat).map V.int) H1 Q
def cV (ta:TA):TE:=λσ H Q=>ta σ H λvs H1=>∃i j:Int,vs=[.int i,.int j]∧(-1000000<i∧i<1000000∧ -1000000<j∧j<1000000)∧RX ((Uw i (j-i).toNat).map V.int) H1 Q
theorem oO {pins:List (Addr×Obj)} {σ:St} {H:Hp} {s:Shared} {E:Value→Shared→Prop} {Q:VK} {lo hi:Int} {t u v:Tok} {tk:Nat} (hc:X.calm=true) (I:Inv X pins σ H s) (h1: -1000000<lo) (h2:lo<1000000) (h3: -1000000<hi) (h4:hi<1000000)
 (q:RX ((Uw lo (hi-lo).toNat).map V.int) H Q):
 wpAny (model X.prog X.w) X.A (call (.type "list") [.ref s.heap.objs.size]) (EP X pins σ Q) E {s with heap:=s.heap.push {cls:=.type "range",data:=.fields #[.int lo t,.int hi u,.int 1 v]},toks:=tk}:=by
 have I1:Inv X pins σ H {s with heap:=s.heap.push {cls:=.type "range",data:=.fields #[.int lo t,.int hi u,.int 1 v]},toks:=tk}:=I.kept λb o e=>Heap.get?_push_of_some _ e
 have hsz:Builtin.Range.rangeSize lo hi 1=((hi-lo).toNat:Int):=by rw[rangeSize_one];split<;>omega
 refine call_list_range (n:=(hi-lo).toNat) (I1.ok.hd hc) (IsRange.new ..) (small_one (by omega) (by omega) (by omega) (by omega)) hsz (by omega) λh' tk' acc' c' hk hl hit=>?_
 have hf:=I1.hok.fresh (Nat.le_refl (s.heap.push {cls:=.type "range",data:=.fields #[.int lo t,.int hi u,.int 1 v]}).objs.size)
 refine⟨.ref _,upd H _ (.lst ((Uw lo (hi-lo).toNat).map V.int)),I1.laid (t':=tk') hk (Nat.le_refl _) ?_,rfl,q _ hf⟩
 refine⟨?_,acc'.toList,c',xq hit,by simpa using hl⟩
 rw[List.length_map,Gp,sizeLine_eq]
 omega
theorem Gn (hc:X.calm=true) (hg:Gl X "list") (hm:X.mg "list"=none) (hg2:Gl X "range") (hm2:X.mg "range"=none) (ha:PA X [a] ta) (hs:starEach [a] X.env=[(false,eval a X.env)]:=by rfl)
 (hs2:starEach [.Call (.Name "range" p2) [a] [] pos2] X.env=[(false,eval (.Call (.Name "range" p2) [a] [] pos2) X.env)]:=by rfl):PE X (.Call (.Name "list" p) [.Call (.Name "range" p2) [a] [] pos2] [] pos) (Bc ta):=by
 intro pins s σ H Q I h
 refine wpAny_Call_Name_kw (T3 I hg hm boot_list ?_)
 refine PyProof.Rows.callWith_type1 ?_ hs2 rfl
 rw[hs2]
 refine Calls.spliced_cons ?_
 refine Call_ (T3 I hg2 hm2 boot_range (PyProof.Rows.callWith_type1 (Yy (ha pos2 pins s σ H _ I h) λus s1 ⟨vs,H1,I1,r1,q1⟩=>?_) hs rfl))
 obtain⟨j,e,q1,q2,q⟩:=q1
 subst e
 obtain⟨u,rfl,t,rfl⟩:=vals1 r1
 refine call_range_1 (Calls.spliced_nil ?_)
 exact oO hc I1 (by omega) (by omega) q1 q2 (by simpa using q)
end
theorem xg:∀{ns:List Int} {us:List Value},Vals (ns.map V.int) us→IntsAre us ns
 | [],_,.nil=> .nil
 |n :: r,_,.cons ⟨t,e⟩ h=>by subst e;exact .cons n t (xg h)
section
variable {X:Cx}
def ad7 (K:PySem.W.Frag):V→List V→Hp→VK→Prop:=λx vs H Q=>∃(l:Addr) (ns:List Int) (y:Int),x= .ref l∧vs=[.int y]∧ZJ K H l (ns.map V.int)∧y∈ns∧Q (.int (ns.idxOf y:Nat)) H
def adH (K:PySem.W.Frag):List V→Hp→VK→Prop:=λxs H Q=>∃(p:Addr) (ns:List Int),xs=[.ref p]∧ZJ K H p (ns.map V.int)∧ns.length<64∧∀ms:List Int,ms.Perm ns→ms.Pairwise (· ≤ ·)→RX (ms.map V.int) H Q
theorem oN (hc:X.calm=true):Xv X (.builtin "sum") (λxs H Q=>∃(p:Addr) (ns:List Int),xs=[.ref p]∧ZJ X.K H p (ns.map V.int)∧Q (.int ns.sum) H):=by
 intro pins s σ H xs us Q I r h
 obtain⟨p,ns,rfl,hq,q⟩:=h
 obtain⟨u,rfl,rx⟩:=vals1 r
 cases rx
 obtain⟨its,rv,pl,hz⟩:=I.list hq
 have hi:=xg rv
 obtain⟨ps,e⟩:=hi.allInts.items
 have hn:numsOf its=ps.toList.map (·.1):=by
  have:=nums_intItems ps
  rw[←e]at this
  simpa using this
 rw[hi.numsOf]at hn
 have hl:=pl.isList
 rw[e]at hl
 refine sum_intListG (I.ok.hd hc) hl λh' tk t' hk=>⟨.int ns.sum,H,I.kept hk,⟨t',?_⟩,q⟩
 rw[preSum_eq,hn,List.take_of_length_le (by simp)]
theorem oM (hc:X.calm=true):Xv X (.builtin "all") (λxs H Q=>∃(p:Addr) (bs:List Bool),xs=[.ref p]∧ZJ X.K H p (bs.map V.bl)∧Q (.bl (bs.all id)) H):=by
 intro pins s σ H xs us Q I r h
 obtain⟨p,bs,rfl,hq,q⟩:=h
 obtain⟨u,rfl,rx⟩:=vals1 r
 cases rx
 obtain⟨its,rv,pl,hz⟩:=I.list hq
 have hl:=rv.length
 refine call_all_walk (wpAny_pyIter_list pl.isList ?_)
 have hne:p≠s.heap.objs.size:=Nat.ne_of_lt (by obtain⟨o,ho,_⟩:=pl.isList;exact Heap.lt_size ho)
 refine⟨s.heap.objs.size,_,_,_,_,_,λi=>bs.getD i true,rfl,Walks.list (A:=X.A.in1) (I.ok.hd hc) _ p hne its.toArray,⟨⟨_,Heap.get?_push_size _ rfl,rfl,rfl⟩,pl.isList.at λo e=>Heap.get?_push_of_some _ e⟩,?_,λh' tk hk=>?_⟩
 ·intro i v s' Q' E' hv hq'
  have hv:its[i]? =some v:=by simpa using hv
  have hi:i<bs.length:=by
   have:=(List.getElem?_eq_some_iff.mp hv).1
   simp at hl
   omega
  obtain⟨u,e2,ru⟩:=rv.get (i:=i) (x:=.bl bs[i]) (by simp[hi])
  rw[hv]at e2
  cases e2
  cases ru
  simp only[List.getD,List.getElem?_eq_getElem hi,Option.getD_some]at hq'
  exact wpAny_truthy_bool hq'
 ·have e:((List.range its.toArray.size).all λi=>bs.getD i true)=bs.all id:=by
   have:its.toArray.size=bs.length:=by simp at hl ⊢;omega
   rw[this]
   rw[Bool.eq_iff_iff,List.all_eq_true,List.all_eq_true]
   constructor
   ·intro h b hb
    obtain⟨i,hi,rfl⟩:=List.getElem_of_mem hb
    have:=h i (List.mem_range.mpr hi)
    simpa [List.getD,List.getElem?_eq_getElem hi]using this
   ·intro h i hi
    have hi:=List.mem_range.mp hi
    have:=h bs[i] (List.getElem_mem hi)
    simpa [List.getD,List.getElem?_eq_getElem hi]using this
  refine⟨.bl (bs.all id),H,I.kept (t':=tk) (λb o z=>hk b o ?_ (Heap.get?_push_of_some _ z)),?_,q⟩
  ·have:=Heap.lt_size z
   intro hm
   have hm:b=s.heap.objs.size:=by simpa using hm
   rw[hm]at this
   exact absurd this (Nat.lt_irrefl _)
  ·rw[e];rfl
def gIx (K:PySem.W.Frag):V→V→Hp→VK→Prop:=λx y H Q=>∃p xs i v,x= .ref p∧y= .int i∧ZJ K H p xs∧0≤i∧xs[i.toNat]? =some v∧Q v H
end
section
variable {X:Cx} {vars:List Str} {caps:List Nat} {scope:Scope} {tg iter elt:Expr} {ifs:List Expr} {pos py spos:Pos} {wi:TI} {g:TG} {tt:TT} {te:TE}
end
end L2
namespace L2
open PySem PySem.Spec PyProof.Rows
theorem Same.new {H:Hp} {p:Addr} (h:H p=none) (o:HO):Same H (upd H p o):=λb u q=>by rw[Zw (ZF q h)];exact q
theorem Same.put {H H':Hp} {l:Addr} {o:HO} (e:Same H H') (h:H l=none):Same H (upd H' l o):=λb u q=>by rw[Zw (ZF q h)];exact e b u q
def rNew (xs:List V) (H:Hp) (Q:VK):Prop:=∀r H',Same H H'→H r=none→H' r=some (.lst xs)→Q (.ref r) H'
theorem rNew.made {xs:List V} {H:Hp} {Q:VK} (h:rNew xs H Q):RX xs H Q:=λl hl=>h l _ (Same.new hl _) hl Z1
section
variable {K:PySem.W.Frag} {a:Addr} {xs:List V} {x:Str} {caps:List Nat} {g:TG} {tt:TT} {te:TE} {σ:St} {H:Hp} {Q:VK}
theorem J_ {p:Nat→Bool} (i:Nat):(List.range (i+1)).filter p=(List.range i).filter p++(if p i=true then [i]else []):=by
 rw[List.range_succ,List.filter_append]
 cases h:p i<;>simp[h]
theorem K3 {J:It} {n:Nat} {item:Nat→V→Prop} (F:Nat→V) (p:Nat→Bool) (hn:n≤sizeLine)
 (hgo:∀i acc ys,i<n→H acc=none→J.go i (upd H acc (.lst ys))) (hst:∀acc ys,H acc=none→J.stop n (upd H acc (.lst ys)))
 (hy:∀i acc ys v H',i<n→H acc=none→J.pW i (upd H acc (.lst ys)) v H'→H'=upd H acc (.lst ys)∧item i v)
 (hs:∀(i:Nat) (v:V) (t:Option V) (acc:Addr) (ys:List V) (N:St→Hp→Prop) (Kt:V→St→Hp→Prop),i<n→item i v→H acc=none→(∀t',p i=true→Kt (F i) (t' :: caps.map λj=>σ.getD j none) (upd H acc (.lst ys)))→(∀t',p i=false→N (t' :: caps.map λj=>σ.getD j none) (upd H acc (.lst ys))) →
  g v (t :: caps.map λj=>σ.getD j none) (upd H acc (.lst ys)) λσ2 H3=>tt σ2 H3 λb H4=>if b=true then te σ2 H4 λv H5=>Kt v σ2 H5 else N σ2 H4)
 (hQ:RX (((List.range n).filter p).map F) H Q):Od [x] caps J g tt te σ H Q:=by
 intro acc hacc
 refine⟨λi m σ' H'=>m=n-i∧i≤n∧(∃t,σ'=t :: caps.map λj=>σ.getD j none)∧H'=upd H acc (.lst (((List.range i).filter p).map F)),⟨n,rfl,Nat.zero_le _,⟨none,rfl⟩,rfl⟩,?_⟩
 rintro i m σ' H' ⟨rfl,hi,⟨t,rfl⟩,rfl⟩
 by_cases hlt:i<n
 ·refine .inr ⟨hgo i acc _ hlt hacc,λσ2 H2=>(∃t,σ2=t :: caps.map λj=>σ.getD j none)∧H2=upd H acc (.lst (((List.range (i+1)).filter p).map F)),λσ'' Jp ⟨h1,h2⟩=>⟨n-(i+1),by omega,rfl,hlt,h1,h2⟩,λv H2 y=>?_⟩
  obtain⟨rfl,hv⟩:=hy i acc _ v H2 hlt hacc y
  refine hs i v t acc _ _ (λv σ2 H5=>∃ys,H5 acc=some (.lst ys)∧ys.length<sizeLine∧(∃t,σ2=t :: caps.map λj=>σ.getD j none)∧upd H5 acc (.lst (ys++[v]))=upd H acc (.lst (((List.range (i+1)).filter p).map F))) hlt hv hacc (λt' hp=>?_) λt' hp=>?_
  ·refine⟨_,Z1,?_,⟨t',rfl⟩,?_⟩
   ·rw[List.length_map]
    have:=List.length_filter_le p (List.range i)
    rw[List.length_range]at this
    omega
   ·rw[jr,J_,if_pos hp,List.map_append]
    rfl
  ·refine⟨⟨t',rfl⟩,?_⟩
   rw[J_,if_neg (by rw[hp];decide),List.append_nil]
 ·have e:i=n:=by omega
  subst e
  exact .inl ⟨hst acc _ hacc,hQ acc hacc⟩
theorem Wa (F:Nat→V) (p:Nat→Bool) (hn:xs.length≤sizeLine) (hq:ZJ K H a xs)
 (hs:∀(i:Nat) (v:V) (t:Option V) (acc:Addr) (ys:List V) (N:St→Hp→Prop) (Kt:V→St→Hp→Prop),i<xs.length→xs[i]? =some v→H acc=none→(∀t',p i=true→Kt (F i) (t' :: caps.map λj=>σ.getD j none) (upd H acc (.lst ys)))→(∀t',p i=false→N (t' :: caps.map λj=>σ.getD j none) (upd H acc (.lst ys))) →
  g v (t :: caps.map λj=>σ.getD j none) (upd H acc (.lst ys)) λσ2 H3=>tt σ2 H3 λb H4=>if b=true then te σ2 H4 λv H5=>Kt v σ2 H5 else N σ2 H4)
 (hQ:RX (((List.range xs.length).filter p).map F) H Q):Od [x] caps (dG K a) g tt te σ H Q:=
 K3 (item:=λi v=>xs[i]? =some v) F p hn (λi acc ys hi h=>⟨xs,xs[i],(Same.new h _).seq hq,List.getElem?_eq_getElem hi⟩) (λacc ys h=>⟨xs,(Same.new h _).seq hq,Nat.le_refl _⟩)
  (λi acc ys v H' hi h y=>⟨y.1,y.2 xs ((Same.new h _).seq hq)⟩) hs hQ
theorem Vo {lo:Int} {n:Nat} (F:Nat→V) (p:Nat→Bool) (hn:n≤sizeLine)
 (hs:∀(i:Nat) (t:Option V) (acc:Addr) (ys:List V) (N:St→Hp→Prop) (Kt:V→St→Hp→Prop),i<n→H acc=none→(∀t',p i=true→Kt (F i) (t' :: caps.map λj=>σ.getD j none) (upd H acc (.lst ys)))→(∀t',p i=false→N (t' :: caps.map λj=>σ.getD j none) (upd H acc (.lst ys))) →
  g (.int (lo+i)) (t :: caps.map λj=>σ.getD j none) (upd H acc (.lst ys)) λσ2 H3=>tt σ2 H3 λb H4=>if b=true then te σ2 H4 λv H5=>Kt v σ2 H5 else N σ2 H4)
 (hQ:RX (((List.range n).filter p).map F) H Q):Od [x] caps (dF lo n) g tt te σ H Q:=
 K3 (item:=λi v=>v= .int (lo+i)) F p hn (λi acc ys hi h=>hi) (λacc ys h=>Nat.le_refl _)
  (λi acc ys v H' hi h y=>y) (λi v t acc ys N Kt hi hv h k1 k2=>by subst hv;exact hs i t acc ys N Kt hi h k1 k2) hQ
end
theorem filter_true {n:Nat}:(List.range n).filter (λ_=>true)=List.range n:=by simp
theorem Xd {ns:List Int} {k:Int} (h0:0≤k) (h:k<(ns.length:Int)):MP (ns.map V.int) k=some (.int (ns.getD k.toNat 0)):=by
 have hk:k.toNat<ns.length:=by omega
 have ek:k=((k.toNat:Nat):Int):=by omega
 have q:MP (ns.map V.int) ((k.toNat:Nat):Int)=some (.int (ns.getD k.toNat 0)):=uY (by simp[List.getD,hk])
 rw[←ek]at q
 exact q
theorem qd {xs:List V} {k:Int} {v:V} (h0:0≤k) (h:xs[k.toNat]? =some v):MP xs k=some v:=by
 have ek:k=((k.toNat:Nat):Int):=by omega
 have q:MP xs ((k.toNat:Nat):Int)=some v:=uY h
 rw[←ek]at q
 exact q
section
variable {X:Cx} {K:PySem.W.Frag}
theorem ZQ (h:X.K=K:=by rfl):aX X (aW K):=h▸i_
theorem W9 (h:X.K=K:=by rfl):aX X (aV K):=h▸aU
theorem Y4 (h:X.K=K:=by rfl):Xv X (.builtin "len") (λxs H Q=>∃p ys,xs=[.ref p]∧(ZJ K H p ys∨TY K H p ys)∧Q (.int ys.length) H):=h▸Dt
theorem O8 (h:X.K=K:=by rfl):SlR X (abA K):=h▸iZ
theorem abK (hu:X.A.units+64<cLine) (h:X.K=K:=by rfl):Qt X (compareOp .Eq) (oR K false):=h▸aM hu
theorem abL (hu:X.A.units+64<cLine) (h:X.K=K:=by rfl):Qt X (compareOp .NotEq) (oR K true):=h▸aK hu
theorem Uc (h:X.K=K:=by rfl):Xv X (.type "list") (λxs H Q=>∃p ys,xs=[.ref p]∧(ZJ K H p ys∨TY K H p ys)∧∀l,H l=none→Q (.ref l) (upd H l (.lst ys))):=h▸Dr
theorem Jc (h:X.K=K:=by rfl):Xv X (.builtin "isinstance") (λxs H Q=>∃x t n b,xs=[x,.ty n]∧MK K H x t∧PySem.W.kitOne K t (.type n)=some b∧Q (.bl b) H):=h▸Bk
theorem cU (hc:X.calm=true) (h:X.K=K:=by rfl):Xv X (.builtin "sum") (λxs H Q=>∃(p:Addr) (ns:List Int),xs=[.ref p]∧ZJ K H p (ns.map V.int)∧Q (.int ns.sum) H):=h▸oN hc
theorem k_all (hc:X.calm=true) (h:X.K=K:=by rfl):Xv X (.builtin "all") (λxs H Q=>∃(p:Addr) (bs:List Bool),xs=[.ref p]∧ZJ K H p (bs.map V.bl)∧Q (.bl (bs.all id)) H):=h▸oM hc
theorem YX {tg l:Expr} {tl:TE} (hl:PE X l tl) (h:X.K=K:=by rfl):PI X tg l (dD K tl):=h▸jj hl
theorem O7 {elts:List Expr} {k:Nat} {tp:Pos} {l:Expr} {ta:TA} {p pos:Pos} (hg:Gl X "enumerate") (hm:X.mg "enumerate"=none) (ha:PA X [l] ta) (hs:starEach [l] X.env=[(false,eval l X.env)]:=by rfl) (h:X.K=K:=by rfl):
 PI X (.Tuple elts k tp) (.Call (.Name "enumerate" p) [l] [] pos) (cW K ta):=h▸iT hg hm ha hs
theorem Wq {pos:Pos} {es:List Expr} {k:Nat} {t:dH} {n:Nat} (hc:X.calm=true) (hh:PGs X es t) (hn:(assignEach es X.env).length=n:=by rfl) (hst:(assignEach es X.env).findIdx? (·.1)=none:=by rfl) (h:X.K=K:=by rfl):PG X (.Tuple es k pos) (abg K n t):=h▸bG hc hh hn hst
end
section
variable {X:Cx} {K:PySem.W.Frag} {T:String} {name:Str} {id:String} {r:V→List V→Hp→VK→Prop} {o e:Expr} {es:List Expr} {to:TE} {t:TA} {cpos apos:Pos}
theorem cT (pa:PlainAttrs T) (slot:Slot T name id) (hty:typeOf (.builtin id)=pure (.type "method_descriptor")) (hm:pH X id r) (ho:PE X o to)
 (hbase:attributeBase o name X.env (eval o X.env)=eval o X.env:=by rfl) (hline:(apos.endLine==cpos.line)=true:=by rfl) (h:X.K=K:=by rfl):PE X (.Call (.Attribute o name apos) [] [] cpos) (abB K T r to):=h▸aP pa slot hty hm ho hbase hline
theorem Qq (pa:PlainAttrs T) (slot:Slot T name id) (hty:typeOf (.builtin id)=pure (.type "method_descriptor")) (hm:pH X id r) (ho:PE X o to) (ha:PA X (e :: es) t)
 (hbase:attributeBase o name X.env (eval o X.env)=eval o X.env:=by rfl)
 (hfew:((backTo cpos (starEach (e :: es) X.env)).all (λx=> !x.1) && (backToKw cpos (keywordEach [] X.env)).all (λx=>x.1.isSome)
  && decide ((e :: es).length+([]:List Keyword).length+(if([]:List Keyword).isEmpty then 0 else 1)<30))=true:=by rfl)
 (hline:(apos.endLine==cpos.line)=true:=by rfl) (hs:starEach (e :: es) X.env=(false,eval e X.env) :: starEach es X.env:=by rfl) (hplain:(backTo cpos (starEach es X.env)).any (·.1)=false:=by rfl) (h:X.K=K:=by rfl):
 PE X (.Call (.Attribute o name apos) (e :: es) [] cpos) (tBM K T r to t):=h▸abC pa slot hty hm ho ha hbase hfew hline hs hplain
end
end L2
namespace L2
open PySem PySem.Spec PyProof.Rows
namespace RV
section
variable {prog:Program} {w:World} {A:Around} {E:Value→Shared→Prop} {s:Shared}
end
end RV
section
variable {X:Cx} {pos pos2 p p2:Pos} {a:Expr} {ta:TA} {K:PySem.W.Frag}
def abM (K:PySem.W.Frag) (ta:TA):TE:=λσ H Q=>ta σ H λvs H1=>∃q xs,ZJ K H1 q xs∧vs=[.ref q]∧RX xs.reverse H1 Q
end
end L2
namespace L2
open PySem PySem.Spec PyProof.Rows
def Itz (K:PySem.W.Frag) (a b:Addr):It:=
 ⟨λi H=>∃xs ys x y,ZJ K H a xs∧ZJ K H b ys∧xs[i]? =some x∧ys[i]? =some y,
  λi H x H'=>∃T u v,x= .ref T∧H T=none∧H'=upd H T (.tup [u,v])∧∀xs ys,ZJ K H a xs→ZJ K H b ys→xs[i]? =some u∧ys[i]? =some v,
  λi H=>∃xs ys,ZJ K H a xs∧ZJ K H b ys∧min xs.length ys.length=i⟩
theorem Wu {h:Heap} {a b:Addr} {o u:Obj} {m n:String} (h1:h.get? a=some o) (h2:h.get? b=some u) (c1:o.cls= .type m) (c2:u.cls= .type n) (hc:m≠n):a≠b:=λe=>by
 subst e
 rw[h1]at h2
 cases h2
 rw[c1]at c2
 exact hc (Value.type.inj c2)
structure ZAt (h:Heap) (z TI TO i1 i2 l1 l2:Addr) (i:Nat):Prop where
 hz:IsZip h z TI TO .none
 hTI:IsPair h TI (.ref i1) (.ref i2)
 hTO:∃a b,IsPair h TO a b
 h1:h.IsListIter i1 l1 i
 h2:h.IsListIter i2 l2 i
theorem uU {h:Heap} {z TI TO i1 i2 l1 l2:Addr} {i:Nat} {xs ys:Array Value} (n1:TI≠TO) (n2:i1≠i2) (Z:ZAt h z TI TO i1 i2 l1 l2 i) (q1:h.IsList l1 xs) (q2:h.IsList l2 ys):ZipApart z TI TO i1 i2 l1 l2:=by
 obtain⟨hz,hTI,⟨a,b,hTO⟩,⟨o1,g1,c1,_⟩,⟨o2,g2,c2,_⟩⟩:=Z
 obtain⟨p1,k1,d1,_⟩:=q1
 obtain⟨p2,k2,d2,_⟩:=q2
 refine⟨?_,?_,?_,?_,n1,?_,?_,?_,?_,n2,?_,?_,?_,?_,?_,?_,?_,?_⟩
 ·exact Wu hTI hz rfl rfl (by decide)
 ·exact Wu hTO hz rfl rfl (by decide)
 ·exact Wu g1 hz c1 rfl (by decide)
 ·exact Wu g2 hz c2 rfl (by decide)
 ·exact Wu hTI g1 rfl c1 (by decide)
 ·exact Wu hTI g2 rfl c2 (by decide)
 ·exact Wu hTO g1 rfl c1 (by decide)
 ·exact Wu hTO g2 rfl c2 (by decide)
 ·exact Wu k1 hz d1 rfl (by decide)
 ·exact Wu k1 hTO d1 rfl (by decide)
 ·exact Wu k1 g1 d1 c1 (by decide)
 ·exact Wu k1 g2 d1 c2 (by decide)
 ·exact Wu k2 hz d2 rfl (by decide)
 ·exact Wu k2 hTO d2 rfl (by decide)
 ·exact Wu k2 g1 d2 c1 (by decide)
 ·exact Wu k2 g2 d2 c2 (by decide)
theorem oK {P:Program} {w:World} {K:PySem.W.Frag} {elts:List Expr} {k:Nat} {tp:Pos} (l1 l2 z TI TO i1 i2:Addr) (n1:TI≠TO) (n2:i1≠i2):
 Turn P w K (.Tuple elts k tp) (Itz K l1 l2) [z,TI,TO,i1,i2] z (λi h=>ZAt h z TI TO i1 i2 l1 l2 i) where
 mem:=by simp
 obj:=λi h st b hb=>by
  obtain⟨hz,hTI,⟨a,c,hTO⟩,⟨o1,g1,c1,d1⟩,⟨o2,g2,c2,d2⟩⟩:=st
  simp only[List.mem_cons,List.not_mem_nil,or_false]at hb
  rcases hb with rfl |rfl |rfl |rfl |rfl
  ·exact⟨_,hz,λv z=>by have z':Data.fields _=Data.cell v:=z;cases z'⟩
  ·exact⟨_,hTI,λv z=>by have z':Data.seq _ _=Data.cell v:=z;cases z'⟩
  ·exact⟨_,hTO,λv z=>by have z':Data.seq _ _=Data.cell v:=z;cases z'⟩
  ·exact⟨o1,g1,λv z=>by rw[d1]at z;cases z⟩
  ·exact⟨o2,g2,λv z=>by rw[d2]at z;cases z⟩
 keep:=λi h h' st kk=>by
  obtain⟨hz,hTI,⟨a,c,hTO⟩,h1,h2⟩:=st
  exact⟨kk z (by simp) _ hz,kk TI (by simp) _ hTI,⟨a,c,kk TO (by simp) _ hTO⟩,h1.at λo e=>kk i1 (by simp) o e,h2.at λo e=>kk i2 (by simp) o e⟩
 item:=by
  intro X hP hw hK hc i pins s σ H E I hf st hg
  subst hP hw hK
  obtain⟨xs,ys,x,y,hq1,hq2,hx,hy⟩:=hg
  obtain⟨aJ,rv1,p1,hz1⟩:=I.list hq1
  obtain⟨its2,rv2,p2,hz2⟩:=I.list hq2
  obtain⟨u1,hu1,ru1⟩:=rv1.get hx
  obtain⟨u2,hu2,ru2⟩:=rv2.get hy
  have D:=uU n1 n2 st p1.isList p2.isList
  obtain⟨hz,hTI,⟨a,c,hTO⟩,h1,h2⟩:=st
  refine wpAny_pyNext_zip_item D hz hTI hTO h1 h2 p1.isList p2.isList (x:=u1) (y:=u2) (by simpa using hu1) (by simpa using hu2) λh' a1 a2 a3 a4 a5 a6 a7=>?_
  refine⟨_,rfl,?_⟩
  refine wpAny_letOwnedTupleGo_zip a1 λh3 hz3 hs3=>?_
  have lt:∀{c o},s.heap.get? c=some o→s.heap.objs.size≠c:=λe=>Nat.ne_of_gt (Heap.lt_size e)
  have tz:=lt hz
  have tTI:=lt hTI
  have tTO:=lt hTO
  have ti1:s.heap.objs.size≠i1:=by obtain⟨_,e,_⟩:=h1;exact lt e
  have ti2:s.heap.objs.size≠i2:=by obtain⟨_,e,_⟩:=h2;exact lt e
  have keep:∀b o,b∉[z,TI,TO,i1,i2]→s.heap.get? b=some o→h3.get? b=some o:=λb o hb q=>by
   simp only[List.mem_cons,List.not_mem_nil,or_false,not_or]at hb
   exact hs3.extBut _ _ hb.1 (a7 b o hb.1 hb.2.2.1 hb.2.2.2.1 hb.2.2.2.2 q)
  have hT3:IsPair h3 s.heap.objs.size u1 u2:=hs3.extBut _ _ tz a5
  refine⟨.ref s.heap.objs.size,upd H s.heap.objs.size (.tup [x,y]),I.K4 (tk:=s.toks) keep hf (Nat.le_refl _) ⟨_,hT3⟩ ?_,rfl,⟨_,x,y,rfl,I.hok.fresh (Nat.le_refl _),rfl,λas bs ha hb=>?_⟩,⟨hz3,?_,?_,?_,?_⟩,λb hb=>?_⟩
  ·exact⟨by show 2≤sizeLine;decide,[u1,u2],.cons ru1 (.cons ru2 .nil),⟨_,hT3,rfl,_,rfl⟩⟩
  ·rw[I.Qw ha hq1,I.Qw hb hq2];exact⟨hx,hy⟩
  ·exact hs3.extBut _ _ D.TIz (a7 _ _ D.TIz D.TITO D.TIi1 D.TIi2 hTI)
  ·exact⟨_,_,hs3.extBut _ _ D.TOz a2⟩
  ·exact a3.at λo e=>hs3.extBut _ _ D.i1z e
  ·exact a4.at λo e=>hs3.extBut _ _ D.i2z e
  ·rw[Zw]
   ·exact(hf b hb).1
   ·intro e
    simp only[List.mem_cons,List.not_mem_nil,or_false]at hb
    rcases hb with q |q |q |q |q
    ·exact tz (e.symm.trans q)
    ·exact tTI (e.symm.trans q)
    ·exact tTO (e.symm.trans q)
    ·exact ti1 (e.symm.trans q)
    ·exact ti2 (e.symm.trans q)
 done:=by
  intro X hP hw hK hc i pins s σ H E I hf st hg
  subst hP hw hK
  obtain⟨xs,ys,hq1,hq2,hm⟩:=hg
  obtain⟨aJ,rv1,p1,hz1⟩:=I.list hq1
  obtain⟨its2,rv2,p2,hz2⟩:=I.list hq2
  have hl1:=rv1.length
  have hl2:=rv2.length
  have D:=uU n1 n2 st p1.isList p2.isList
  obtain⟨hz,hTI,⟨a,c,hTO⟩,h1,h2⟩:=st
  have hend:aJ.toArray[i]? =none∨its2.toArray[i]? =none:=by
   rcases Nat.le_total xs.length ys.length with q |q
   ·left;rw[Array.getElem?_eq_none];simp;omega
   ·right;rw[Array.getElem?_eq_none];simp;omega
  refine wpAny_pyNext_zip_end (I.ok.hd hc) D hz hTI hTO h1 h2 p1.isList p2.isList hend λh' hk=>⟨rfl,?_⟩
  refine I.Nx (ch:=[z,TI,TO,i1,i2]) (tk:=s.toks) (λb o hb q=>?_) hf
  simp only[List.mem_cons,List.not_mem_nil,or_false,not_or]at hb
  exact hk b o hb.1 hb.2.2.1 hb.2.2.2.1 hb.2.2.2.2 q
 self:=λ_ _ _ _ _ st h=>wpAny_pyIter_zip st.hz h
section
variable {X:Cx} {elts:List Expr} {k:Nat} {tp:Pos}
def abN (K:PySem.W.Frag) (ta:TA):TI:=λσ H R=>ta σ H λvs H1=>∃a b,vs=[.ref a,.ref b]∧(∃xs,ZJ K H1 a xs)∧(∃ys,ZJ K H1 b ys)∧R (Itz K a b) H1
theorem aH {l l':Expr} {ta:TA} {p pos:Pos} (hg:Gl X "zip") (hm:X.mg "zip"=none) (ha:PA X [l,l'] ta) (hs:starEach [l,l'] X.env=[(false,eval l X.env),(false,eval l' X.env)]:=by rfl) (hs2:starEach [l'] X.env=[(false,eval l' X.env)]:=by rfl):
 PI X (.Tuple elts k tp) (.Call (.Name "zip" p) [l,l'] [] pos) (abN X.K ta):=by
 intro pins s σ H R I h
 refine Call_ (T3 I hg hm boot_zip (PyProof.Rows.callWith_type1 (Yy (ha pos pins s σ H _ I h) λus s1 ⟨vs,H1,I1,r1,q1⟩=>?_) (by rw[hs,hs2]) (by rw[hs2];rfl)))
 obtain⟨a,b,e,⟨xs,hq1⟩,⟨ys,hq2⟩,q⟩:=q1
 subst e
 obtain⟨u,v,rfl,ru,rv⟩:∃u v,us=[u,v]∧RelV (.ref a) u∧RelV (.ref b) v:=by
  cases r1 with
  |cons r rr =>
   cases rr with
   |cons r' rr=>cases rr;exact⟨_,_,rfl,r,r'⟩
 cases ru
 cases rv
 obtain⟨aJ,rv1,p1,hz1⟩:=I1.list hq1
 obtain⟨its2,rv2,p2,hz2⟩:=I1.list hq2
 refine call_zip_2 p1.isList p2.isList λh1 hz hTI hTO hi1 hi2 hsz hk=>?_
 refine wpAny_pyIter_zip hz ?_
 refine⟨s1.heap.objs.size+4,[s1.heap.objs.size+4,s1.heap.objs.size+2,s1.heap.objs.size+3,s1.heap.objs.size,s1.heap.objs.size+1],_,_,H1,rfl,I1.kept (t':=s1.toks) hk,oK a b _ _ _ _ _ (Nat.ne_of_lt (Nat.lt_succ_self _)) (Nat.ne_of_lt (Nat.lt_succ_self _)),⟨hz,hTI,⟨_,_,hTO⟩,hi1,hi2⟩,λb hb=>?_,q⟩
 have hb:s1.heap.objs.size≤b:=by
  simp only[List.mem_cons,List.not_mem_nil,or_false]at hb
  rcases hb with q |q |q |q |q<;>rw[q]<;>omega
 exact I1.Bu hb (I1.hok.fresh hb)
end
theorem iR {K:PySem.W.Frag} {a b:Addr} {xs ys:List V} {g:TG} {tb:TS} {D:Ends} {σ:St} {H:Hp} (he:xs.length=ys.length) (Pv:Nat→St→Hp→Prop) (h0:Pv 0 σ H) (hl:∀i σ H,i≤xs.length→Pv i σ H→ZJ K H a xs∧ZJ K H b ys)
 (hs:∀i x y σ H T,xs[i]? =some x→ys[i]? =some y→Pv i σ H→H T=none→g (.ref T) σ (upd H T (.tup [x,y])) λσ2 H2=>tb {D with nx:=Pv (i+1),ct:=Pv (i+1),bk:=D.nx} σ2 H2) (hd:∀σ H,Pv xs.length σ H→D.nx σ H):
 ∃W:Nat→Nat→St→Hp→Prop,(∃m,W 0 m σ H)∧∀i m σ H,W i m σ H →
  ((Itz K a b).stop i H∧D.nx σ H)∨((Itz K a b).go i H∧∃N:St→Hp→Prop,(∀σ' H',N σ' H'→∃m',m'<m∧W (i+1) m' σ' H')∧∀x H',(Itz K a b).pW i H x H'→g x σ H' λσ2 H2=>tb {D with nx:=N,ct:=N,bk:=D.nx} σ2 H2):=by
 refine⟨λi m σ H=>m=xs.length-i∧i≤xs.length∧Pv i σ H,⟨xs.length,by simp,Nat.zero_le _,h0⟩,?_⟩
 rintro i m σ H ⟨rfl,hi,p⟩
 obtain⟨q1,q2⟩:=hl i σ H hi p
 by_cases hlt:i<xs.length
 ·refine .inr ⟨⟨xs,ys,xs[i],ys[i],q1,q2,by simp[hlt],by simp⟩,Pv (i+1),λσ' H' p'=>⟨xs.length-(i+1),by omega,rfl,hlt,p'⟩,λx H' y=>?_⟩
  obtain⟨T,u,v,rfl,hT,rfl,y⟩:=y
  exact hs i u v σ H T (y xs ys q1 q2).1 (y xs ys q1 q2).2 p hT
 ·have e:i=xs.length:=by omega
  subst e
  exact .inl ⟨⟨xs,ys,q1,q2,by omega⟩,hd σ H p⟩
section
variable {K:PySem.W.Frag} {a b:Addr} {xs ys:List V} {x y:Str} {caps:List Nat} {g:TG} {tt:TT} {te:TE} {σ:St} {H:Hp} {Q:VK}
theorem oJ (F:Nat→V) (he:xs.length=ys.length) (hn:xs.length≤sizeLine) (hq1:ZJ K H a xs) (hq2:ZJ K H b ys)
 (hs:∀(i:Nat) (u v:V) (t1 t2:Option V) (T:Addr) (H1:Hp) (N:St→Hp→Prop) (Kt:V→St→Hp→Prop),xs[i]? =some u→ys[i]? =some v→Same H H1→H1 T=none→(∀t1' t2' H2,Same (upd H1 T (.tup [u,v])) H2→Kt (F i) (t1' :: t2' :: caps.map λj=>σ.getD j none) H2) →
  g (.ref T) (t1 :: t2 :: caps.map λj=>σ.getD j none) (upd H1 T (.tup [u,v])) λσ2 H3=>tt σ2 H3 λb H4=>if b=true then te σ2 H4 λv H5=>Kt v σ2 H5 else N σ2 H4)
 (hQ:rNew ((List.range xs.length).map F) H Q):Od [x,y] caps (Itz K a b) g tt te σ H Q:=by
 intro acc hacc
 have S0:∀ys',Same H (upd H acc (.lst ys')):=λys'=>Same.new hacc _
 refine⟨λi m σ' H'=>m=xs.length-i∧i≤xs.length∧(∃t1 t2,σ'=t1 :: t2 :: caps.map λj=>σ.getD j none)∧Same H H'∧H' acc=some (.lst ((List.range i).map F)),⟨xs.length,rfl,Nat.zero_le _,⟨none,none,rfl⟩,S0 _,Z1⟩,?_⟩
 rintro i m σ' H' ⟨rfl,hi,⟨t1,t2,rfl⟩,sm,ea⟩
 by_cases hlt:i<xs.length
 ·refine .inr ⟨⟨xs,ys,xs[i],ys[i],sm.seq hq1,sm.seq hq2,by simp[hlt],by simp⟩,λσ2 H2=>(∃t1 t2,σ2=t1 :: t2 :: caps.map λj=>σ.getD j none)∧Same H H2∧H2 acc=some (.lst ((List.range (i+1)).map F)),λσ'' Jp ⟨h1,h2,h3⟩=>⟨xs.length-(i+1),by omega,rfl,hlt,h1,h2,h3⟩,λv H2 y=>?_⟩
  obtain⟨T,u,v,rfl,hT,rfl,y⟩:=y
  refine hs i u v t1 t2 T H' _ _ (y xs ys (sm.seq hq1) (sm.seq hq2)).1 (y xs ys (sm.seq hq1) (sm.seq hq2)).2 sm hT λt1' t2' H3 s3=>?_
  have sT:Same H' (upd H' T (.tup [u,v])):=Same.new hT _
  have e3:=s3 _ _ (sT _ _ ea)
  refine⟨_,e3,?_,⟨t1',t2',rfl⟩,?_,?_⟩
  ·rw[List.length_map,List.length_range];omega
  ·exact(sm.trans (sT.trans s3)).put hacc
  ·rw[Z1,List.range_succ,List.map_append];rfl
 ·have e:i=xs.length:=by omega
  subst e
  exact .inl ⟨⟨xs,ys,sm.seq hq1,sm.seq hq2,by omega⟩,hQ acc H' sm hacc ea⟩
end
section
variable {X:Cx}
def oH (K:PySem.W.Frag):V→List V→Hp→VK→Prop:=λx vs H Q=>∃(l:Addr) (xs:List V) (y:V),x= .ref l∧vs=[y]∧ZJ K H l xs∧Xx y=true∧xs.all Xx=true∧Q (.int (xs.countP λz=>xM z y:Nat)) H
theorem Jb {x:V}:∀{xs:List V} {us:List Value},Vals xs us→xs.all Xx=true→us.countP (eqU x)=xs.countP λy=>xM y x
 |_,_,.nil,_=>rfl
 |y :: xs,u :: us,.cons r t,f=>by
  rw[List.all_cons,Bool.and_eq_true]at f
  rw[List.countP_cons,List.countP_cons,pF r f.1,Jb t f.2]
theorem oG:pH X "list.count" (oH X.K):=by
 intro pins s σ H x xs v us Q I rx rs h
 obtain⟨l,ys,y,rfl,rfl,hq,hy,hf,q⟩:=h
 cases rx
 obtain⟨u,rfl,ru⟩:=vals1 rs
 obtain⟨its,r,p,hz⟩:=I.list hq
 obtain⟨⟨cls,dd,data,sl⟩,ho,hc,n,hd⟩:=id p.isList
 simp only at hc hd
 subst hc hd
 refine call_meets F.slot_list_count p.isList.typeIs F.entry_list_count (F.args_list_count_2 _ _) (SeqAt.list_countAt l its.toArray n dd sl u (eqU y)) ⟨ho,λw hw=>?_,?_⟩
 ·exact Bm ru hy r hf w (by simpa using hw)
 ·rw[show its.toArray.toList=its from rfl,Jb r hf]
  exact⟨.int _,H,I.tok _,⟨_,rfl⟩,q⟩
theorem iQ {K:PySem.W.Frag} (h:X.K=K:=by rfl):pH X "list.count" (oH K):=h▸oG
theorem Bb {K:PySem.W.Frag} {elts:List Expr} {k:Nat} {tp:Pos} {l l':Expr} {ta:TA} {p pos:Pos} (hg:Gl X "zip") (hm:X.mg "zip"=none) (ha:PA X [l,l'] ta) (hs:starEach [l,l'] X.env=[(false,eval l X.env),(false,eval l' X.env)]:=by rfl) (hs2:starEach [l'] X.env=[(false,eval l' X.env)]:=by rfl) (h:X.K=K:=by rfl):
 PI X (.Tuple elts k tp) (.Call (.Name "zip" p) [l,l'] [] pos) (abN K ta):=h▸aH hg hm ha hs hs2
theorem wZ (ns:List Int) (k:Int):((ns.map V.int).countP λz=>xM z (.int k))=ns.count k:=by
 induction ns with
 |nil=>rfl
 |cons a l ih=>rw[List.map_cons,List.countP_cons,List.count_cons,ih];rfl
theorem Fg (ns:List Int):(ns.map V.int).all Xx=true:=by simp[Xx]
theorem oF (its:List Value):slicePick its.toArray none none (some (-1))=its.reverse.toArray:=by
 unfold slicePick
 have h1:(sliceBounds none none (some (-1)) its.toArray.size)=((its.length:Int)-1,-1,-1):=by
  simp[sliceBounds]
 rw[h1]
 have h2:sliceRange ((its.length:Int)-1) (-1) (-1)=(List.range its.length).map λk=>its.length-1-k:=by
  unfold sliceRange
  have e:(if(-1:Int) > 0 then(if((its.length:Int)-1)< -1 then(-1-((its.length:Int)-1)+ -1-1) / -1 else 0)else(if((its.length:Int)-1) > -1 then(((its.length:Int)-1) - -1 - -1-1) / (- -1)else 0)).toNat=its.length:=by
   rw[if_neg (by decide)]
   split<;>simp<;>omega
  simp only[e]
  refine List.map_congr_left λk hk=>?_
  have:=List.mem_range.mp hk
  omega
 rw[h2]
 congr 1
 apply List.ext_getElem?
 intro i
 have e3:((List.range its.length).map λk=>its.length-1-k).filterMap (λx=>its.toArray[x]?)=(List.range its.length).map λk=>its.getD (its.length-1-k) .none:=by
  rw[List.filterMap_map]
  rw[show((λx=>its.toArray[x]?) ∘ λk=>its.length-1-k)=λk=>its[its.length-1-k]? from by funext k;simp]
  have:∀l:List Nat,(∀k∈l,k<its.length)→l.filterMap (λk=>its[its.length-1-k]?)=l.map λk=>its.getD (its.length-1-k) .none:=by
   intro l
   induction l with
   |nil=>intro _;rfl
   |cons a l ih =>
    intro h
    have ha:=h a (by simp)
    rw[List.filterMap_cons,List.map_cons,ih λk hk=>h k (by simp[hk])]
    have hlt:its.length-1-a<its.length:=by omega
    simp[List.getD,List.getElem?_eq_getElem hlt]
  exact this _ λk hk=>List.mem_range.mp hk
 rw[e3]
 by_cases hi:i<its.length
 ·rw[List.getElem?_map,List.getElem?_range hi,List.getElem?_reverse hi]
  have hlt:its.length-1-i<its.length:=by omega
  simp[List.getD,List.getElem?_eq_getElem hlt]
 ·rw[List.getElem?_eq_none (by simp;omega),List.getElem?_eq_none (by simp;omega)]
theorem Mz:∀{xs:List V} {us:List Value},Vals xs us→Vals xs.reverse us.reverse
 |_,_,.nil=> .nil
 |x :: xs,u :: us,.cons r t=>by
  rw[List.reverse_cons,List.reverse_cons]
  exact(Mz t).append (.cons r .nil)
def abO (K:PySem.W.Frag) (te:TE) (ts:TO):TE:=λσ H Q=>te σ H λx H1=>ts σ H1 λk H2=>k=some (-1)∧∃a xs,x= .ref a∧ZJ K H2 a xs∧RX xs.reverse H2 Q
theorem aG {e st:Expr} {te:TE} {ts:TO} {pos p2:Pos} (he:PE X e te) (hst:PO X (some st) ts):PE X (.Subscript e (.Slice none none (some st) p2) pos) (abO X.K te ts):=by
 intro pins s σ H Q I h
 refine Subscript_ (Yy (he pins s σ H _ I h) λv s1 ⟨x,H1,I1,r1,q1⟩=>?_)
 refine wpAny_Slice ?_
 rw[evalPart_none]
 refine wpAny_pure ?_
 refine wpAny_pure ?_
 refine Yy (hst pins s1 σ H1 _ I1 q1) λvs s3 ⟨k,H3,I3,pk,q3⟩=>?_
 obtain⟨rfl,a,xs,rfl,hx,q⟩:=q3
 cases r1
 have I4:Inv X pins σ H3 {s3 with heap:=s3.heap.push {cls:=.type "slice",data:=.fields #[.none,.none,vs]}}:=I3.kept (t':=s3.toks) λb ob q=>Heap.get?_push_of_some _ q
 obtain⟨its,r,ht,hz⟩:=I4.list hx
 have hlen:=r.length
 show wpAny (model X.prog X.w) X.A (subscriptTail e (.Slice none none (some st) p2) (.ref a) (.ref s3.heap.objs.size)) (EP X pins σ Q) X.xe {s3 with heap:=s3.heap.push {cls:=.type "slice",data:=.fields #[.none,.none,vs]}}
 refine tail_any (ops:=[.ref a,.ref s3.heap.objs.size]) ht.isList.typeIs slot_list_getitem.lookup ?_ (by with_unfolding_all rfl)
 refine wpAny_getItem_list_slice ht.isList (Heap.IsSliceOf.new ..) .none .none pk (by simp) ?_ (by rw[List.size_toArray]<;>omega)
 rw[oF]
 refine⟨.ref _,_,I4.laid (t':=s3.toks) (o:=.lst xs.reverse) (λb ob q=>Heap.get?_push_of_some _ q) (Nat.le_refl _) ?_,rfl,q _ (I4.hok.fresh (Nat.le_refl _))⟩
 exact⟨by rw[List.length_reverse];exact hz,_,0,Mz r,Heap.get?_push_size _ rfl⟩
theorem abP {K:PySem.W.Frag} {e st:Expr} {te:TE} {ts:TO} {pos p2:Pos} (he:PE X e te) (hst:PO X (some st) ts) (h:X.K=K:=by rfl):PE X (.Subscript e (.Slice none none (some st) p2) pos) (abO K te ts):=h▸aG he hst
end
theorem oE:∀{x:V},Xx x=true→xM x x=true
 | .non,_=>rfl
 | .bl b,_=>by simp[xM]
 | .int i,_=>by simp[xM]
 | .str z,_=>by simp[xM]
 | .ref _,h=>by cases h
 | .ty _,h=>by cases h
 | .flt _,h=>by cases h
 | .Bw _,h=>by cases h
theorem Ba {K:PySem.W.Frag} {neg:Bool} {H:Hp} {Q:VK} {a b:Addr} {xs:List V} (h1:ZJ K H a xs) (h2:ZJ K H b xs) (f:xs.all Xx=true) (q:Q (.bl (!neg)) H):oR K neg (.ref a) (.ref b) H Q:=by
 refine⟨a,b,xs,xs,rfl,rfl,h1,h2,.inr ⟨rfl,λ_=>true,λi x y hx hy=>?_,?_⟩⟩
 ·rw[hx]at hy
  cases hy
  have fx:Xx x=true:=List.all_eq_true.mp f x (List.mem_of_getElem? hx)
  have:=rY.flat (K:=K) (H:=H) (n:=40) fx fx
  rw[oE fx]at this
  exact this
 ·have e:((List.range xs.length).all λ_=>true)=true:=by simp
  rw[e]
  cases neg<;>exact q
end L2
namespace L2
open PySem PySem.Spec PyProof.Rows
theorem Ja {bs:List Bool} {k:Int} (h0:0≤k) (h:k<(bs.length:Int)):MP (bs.map V.bl) k=some (.bl (bs.getD k.toNat false)):=by
 have hk:k.toNat<bs.length:=by omega
 refine qd h0 ?_
 rw[List.getElem?_map,List.getElem?_eq_getElem hk]
 simp[List.getD,List.getElem?_eq_getElem hk]
theorem ZG {H H1:Hp} {g:Addr} {o:HO} (hg:H g=none) (e:upd H g o=H1):Same H H1∧H1 g=some o:=by
 subst e
 exact⟨Same.new hg _,Z1⟩
theorem oA {H H1 H2:Hp} {g:Addr} {o:HO} (hg:H g=none) (s:Same H H1) (e:upd H1 g o=H2):Same H H2∧H2 g=some o:=by
 subst e
 exact⟨s.put hg,Z1⟩
theorem iM {xs:List V} {a b:Nat} (hab:a+b≤xs.length):K7 xs (some (a:Int)) (some ((a:Int)+(b:Int)))=(xs.drop a).take b:=by
 unfold K7
 have e1:HT.Jq xs.length 0 (some (a:Int))=a:=by rw[HT.u_];omega
 have e2:HT.Jq xs.length xs.length (some ((a:Int)+(b:Int)))=a+b:=by
  rw[show((a:Int)+(b:Int))=((a+b:Nat):Int)by omega,HT.u_];omega
 rw[e1,e2]
 congr 1
 omega
def sp5 (φ:V→V→V→V→V→Hp→VK→Prop):Sp:=λvs H Q _=>∃a b c d e,vs=[a,b,c,d,e]∧φ a b c d e H Q
end L2
namespace L2
open PySem PySem.Spec PyProof.Rows
section
variable {K:PySem.W.Frag} {a:Addr} {xs:List V} {x:Str} {caps:List Nat} {g:TG} {tt:TT} {te:TE} {σ:St} {H:Hp} {Q:VK}
theorem wY (F:Nat→V) (Pv:Addr→Nat→Hp→Prop) (hn:xs.length≤sizeLine) (h0:∀acc,H acc=none→Pv acc 0 (upd H acc (.lst []))) (hl:∀acc i H',H acc=none→Pv acc i H'→ZJ K H' a xs)
 (hs:∀(acc:Addr) (i:Nat) (v:V) (t:Option V) (H':Hp) (N:St→Hp→Prop) (Kt:V→St→Hp→Prop),H acc=none→xs[i]? =some v→Pv acc i H'→H' acc=some (.lst ((List.range i).map F)) →
  (∀t' Jp,Jp acc=some (.lst ((List.range i).map F))→Pv acc (i+1) (upd Jp acc (.lst ((List.range (i+1)).map F)))→Kt (F i) (t' :: caps.map λj=>σ.getD j none) Jp) →
  g v (t :: caps.map λj=>σ.getD j none) H' λσ2 H3=>tt σ2 H3 λb H4=>if b=true then te σ2 H4 λv H5=>Kt v σ2 H5 else N σ2 H4)
 (hQ:∀acc H',H acc=none→Pv acc xs.length H'→H' acc=some (.lst ((List.range xs.length).map F))→Q (.ref acc) H'):Od [x] caps (dG K a) g tt te σ H Q:=by
 intro acc hacc
 refine⟨λi m σ' H'=>m=xs.length-i∧i≤xs.length∧(∃t,σ'=t :: caps.map λj=>σ.getD j none)∧Pv acc i H'∧H' acc=some (.lst ((List.range i).map F)),⟨xs.length,rfl,Nat.zero_le _,⟨none,rfl⟩,h0 acc hacc,Z1⟩,?_⟩
 rintro i m σ' H' ⟨rfl,hi,⟨t,rfl⟩,p,ea⟩
 have hq:=hl acc i H' hacc p
 by_cases hlt:i<xs.length
 ·refine .inr ⟨⟨xs,xs[i],hq,by simp[hlt]⟩,λσ2 H2=>(∃t,σ2=t :: caps.map λj=>σ.getD j none)∧Pv acc (i+1) H2∧H2 acc=some (.lst ((List.range (i+1)).map F)),λσ'' Jp ⟨h1,h2,h3⟩=>⟨xs.length-(i+1),by omega,rfl,hlt,h1,h2,h3⟩,λv H2 y=>?_⟩
  obtain⟨rfl,y⟩:=y
  refine hs acc i v t H2 _ (λv σ2 H5=>∃ys,H5 acc=some (.lst ys)∧ys.length<sizeLine∧(∃t,σ2=t :: caps.map λj=>σ.getD j none)∧Pv acc (i+1) (upd H5 acc (.lst (ys++[v])))∧(upd H5 acc (.lst (ys++[v]))) acc=some (.lst ((List.range (i+1)).map F))) hacc (y xs hq) p ea λt' Jp e2 p2=>?_
  have er:(List.range i).map F++[F i]=(List.range (i+1)).map F:=by rw[List.range_succ,List.map_append];rfl
  refine⟨_,e2,?_,⟨t',rfl⟩,?_,?_⟩
  ·rw[List.length_map,List.length_range];omega
  ·rw[er];exact p2
  ·rw[er];exact Z1
 ·have e:i=xs.length:=by omega
  subst e
  exact .inl ⟨⟨xs,hq,Nat.le_refl _⟩,hQ acc H' hacc p ea⟩
end
end L2
namespace L2
open PySem PySem.Spec PyProof.Rows
def Its (z:Str):It:=
 ⟨λi _=>i<z.cps.size,λi H x H'=>H'=H∧∃c,z.cps.toList[i]? =some c∧x= .str ⟨#[c]⟩,λi _=>z.cps.size≤i⟩
theorem A_ {P:Program} {w:World} {K:PySem.W.Frag} {tg:Expr} {nm:String} {z:Str} {t:Tok} (it:Addr)
 (hW:∀A':Around,A'.handled=none→Walks P w A' it [it] [it] z.cps.size (SignAt z) (λi h=>h.IsStrIter it nm z t i))
 (hs:∀(A:Around) (i:Nat) (s:Shared) (Q:Value→Shared→Prop) (E:Value→Shared→Prop),s.heap.IsStrIter it nm z t i→Q (.ref it) s→wpAny (model P w) A (pyIter (.ref it)) Q E s)
 (hn:["enumerate","zip","dict_itemiterator","dict_reverseitemiterator","odict_iterator","itertools.zip_longest","itertools.pairwise"].contains nm=false):
 Turn P w K tg (Its z) [it] it (λi h=>i≤z.cps.size∧h.IsStrIter it nm z t i) where
 mem:=by simp
 obj:=λi h st b hb=>by
  have e:b=it:=by simpa using hb
  subst e
  obtain⟨_,o,e,c,d⟩:=st
  exact⟨o,e,λv z=>by rw[d]at z;cases z⟩
 keep:=λi h h' st k=>by
  obtain⟨h1,o,e,r⟩:=st
  exact⟨h1,o,k it (by simp) o e,r⟩
 item:=by
  intro X hP hw hK hc i pins s σ H E I hf st hg
  subst hP hw hK
  obtain⟨f0,f1,f2,f3,f4,f5⟩:=hf it (by simp)
  refine(hW X.A (I.ok.hd hc)).item i s _ _ hg st.2 λv h' tk hv st' kk=>?_
  have I1:Inv X pins σ H {s with heap:=h',toks:=tk}:=I.turned (λb o hb e=>kk b o (by simpa using hb) e) f0 f1 f3 f4 f5
  obtain⟨c,u,hc1,rfl⟩:=hv
  obtain⟨o,e,c',d⟩:=id st'
  have hlt:i<z.cps.size:=hg
  refine⟨_,rfl,vh (s:={s with heap:=h',toks:=tk}) (n:=nm) e c' d hn ⟨.str ⟨#[c]⟩,H,I1,⟨u,rfl⟩,⟨rfl,c,by rw[Array.getElem?_toList];exact hc1,rfl⟩,⟨hlt,st'⟩,λb hb=>(hf b hb).1⟩⟩
 done:=by
  intro X hP hw hK hc i pins s σ H E I hf st hg
  subst hP hw hK
  obtain⟨f0,f1,f2,f3,f4,f5⟩:=hf it (by simp)
  have hin:i=z.cps.size:=Nat.le_antisymm st.1 hg
  subst hin
  exact(hW X.A (I.ok.hd hc)).done s _ _ st.2 λh' tk kk=>⟨rfl,I.turned (λb o hb e=>kk b o (by simpa using hb) e) f0 f1 f3 f4 f5⟩
 self:=λA i s Q E st h=>hs A i s Q E st.2 h
section
variable {X:Cx} {tg:Expr}
def ad8 (tl:TE):TI:=λσ H R=>tl σ H λx H1=>∃z,x= .str z∧R (Its z) H1
theorem wX {l:Expr} {tl:TE} (hl:PE X l tl):PI X tg l (ad8 tl):=by
 intro pins s σ H R I h
 refine Yy (hl pins s σ H _ I h) λv s1 ⟨x,H1,I1,r1,q1⟩=>?_
 obtain⟨z,e,q⟩:=q1
 subst e
 obtain⟨t,rfl⟩:=r1
 cases ha:z.cps.all (· <128)
 ·refine wpAny_pyIter_wide ha ?_
  refine⟨s1.heap.objs.size,[s1.heap.objs.size],_,_,H1,rfl,I1.kept (t':=s1.toks) λb o e=>Heap.get?_push_of_some _ e,A_ (nm:="str_iterator") (z:=z) (t:=t) _ (λA' hA=>Walks.strWide hA _ z t) (λA i s Q E st h=>wpAny_pyIter_striter_wide st h) (by decide),⟨Nat.zero_le _,_,Heap.get?_push_size _ rfl,rfl,rfl⟩,λb hb=>?_,q⟩
  have e:b=s1.heap.objs.size:=by simpa using hb
  subst e
  exact I1.Bu (Nat.le_refl _) (I1.hok.fresh (Nat.le_refl _))
 ·refine wpAny_pyIter_ascii ha ?_
  refine⟨s1.heap.objs.size,[s1.heap.objs.size],_,_,H1,rfl,I1.kept (t':=s1.toks) λb o e=>Heap.get?_push_of_some _ e,A_ (nm:="str_ascii_iterator") (z:=z) (t:=t) _ (λA' hA=>Walks.strAscii hA _ z t) (λA i s Q E st h=>wpAny_pyIter_striter_ascii st h) (by decide),⟨Nat.zero_le _,_,Heap.get?_push_size _ rfl,rfl,rfl⟩,λb hb=>?_,q⟩
  have e:b=s1.heap.objs.size:=by simpa using hb
  subst e
  exact I1.Bu (Nat.le_refl _) (I1.hok.fresh (Nat.le_refl _))
end
theorem I_ {z:Str} {x:Str} {caps:List Nat} {g:TG} {te:TE} {σ:St} {H:Hp} {Q:VK} (G:Nat→V) (hn:z.cps.toList.length≤sizeLine)
 (hs:∀(i c:Nat) (t:Option V) (acc:Addr) (ys:List V) (Kt:V→St→Hp→Prop),z.cps.toList[i]? =some c→H acc=none→(∀t',Kt (G c) (t' :: caps.map λj=>σ.getD j none) (upd H acc (.lst ys))) →
  g (.str ⟨#[c]⟩) (t :: caps.map λj=>σ.getD j none) (upd H acc (.lst ys)) λσ2 H3=>te σ2 H3 λv H5=>Kt v σ2 H5)
 (hQ:RX (z.cps.toList.map G) H Q):Od [x] caps (Its z) g dj te σ H Q:=by
 have el:z.cps.toList.length=z.cps.size:=Array.length_toList
 refine K3 (n:=z.cps.toList.length) (item:=λi v=>∃c,z.cps.toList[i]? =some c∧v= .str ⟨#[c]⟩) (λi=>G (z.cps.toList.getD i 0)) (λ_=>true) hn (λi acc ys hi h=>by rw[el]at hi;exact hi) (λacc ys h=>by rw[el];exact Nat.le_refl _)
  (λi acc ys v H' hi h y=>y) ?_ ?_
 ·intro i v t acc ys N Kt hi hv h k1 k2
  obtain⟨c,hc,rfl⟩:=hv
  refine hs i c t acc ys Kt hc h λt'=>?_
  have:=k1 t' rfl
  rw[List.getD,hc]at this
  exact this
 ·rw[filter_true]
  have e:(List.range z.cps.toList.length).map (λi=>G (z.cps.toList.getD i 0))=z.cps.toList.map G:=by
   apply List.ext_getElem?
   intro i
   by_cases h:i<z.cps.toList.length
   ·rw[List.getElem?_map,List.getElem?_range h,List.getElem?_map,List.getElem?_eq_getElem h]
    show some (G (z.cps.toList[i]?.getD 0))=some (G z.cps.toList[i])
    rw[List.getElem?_eq_getElem h]
    rfl
   ·rw[List.getElem?_eq_none (by simpa using h),List.getElem?_eq_none (by simpa using h)]
  rw[e]
  exact hQ
section
variable {X:Cx}
theorem Dm:Xv X (.type "int") (λxs H Q=>∃z n,xs=[.str z]∧PySem.intText? z=some n∧z.length≤640∧Q (.int n) H):=by
 intro pins s σ H xs us Q I r h
 obtain⟨z,n,rfl,hn,hl,q⟩:=h
 obtain⟨u,rfl,t,rfl⟩:=vals1 r
 exact PySem.W.KIN.call_text hn hl ⟨.int n,H,I.tok _,⟨_,rfl⟩,q⟩
def iK:V→List V→Hp→VK→Prop:=λx vs H Q=>∃z y,x= .str z∧vs=[.str y]∧Q (.bl (PySem.Txt.startswith z y)) H
theorem Gm:pH X "str.startswith" iK:=by
 intro pins s σ H x xs v us Q I rx rs h
 obtain⟨z,y,rfl,rfl,q⟩:=h
 obtain⟨t,rfl⟩:=rx
 obtain⟨u,rfl,t',rfl⟩:=vals1 rs
 exact SC.startswith ⟨.bl _,H,I,rfl,q⟩
def adI:V→List V→Hp→VK→Prop:=λx vs H Q=>∃z y i rest,x= .str z∧vs=[.str y]∧Builtin.Str.occurrences z y 0 z.length 1=i :: rest∧Q (.int (i:Nat)) H
theorem ou:∀{ys:List Str} {us:List Value},Vals (ys.map V.str) us→∃l:List (Str×Tok),strValues l=us∧l.map (·.1)=ys
 | [],_,.nil=>⟨[],rfl,rfl⟩
 |y :: r,_,.cons ⟨t,e⟩ h=>by
  obtain⟨l,e1,e2⟩:=ou h
  subst e
  exact⟨(y,t) :: l,by rw[←e1];rfl,by rw[←e2];rfl⟩
def rJoin (K:PySem.W.Frag):V→List V→Hp→VK→Prop:=λx vs H Q=>∃(z:Str) (p:Addr) (ys:List Str),x= .str z∧vs=[.ref p]∧ZJ K H p (ys.map V.str)∧JoinOk z ys=true∧Q (.str (PySem.Txt.join z ys)) H
theorem iI:pH X "str.join" (rJoin X.K):=by
 intro pins s σ H x xs v us Q I rx rs h
 obtain⟨z,p,ys,rfl,rfl,hq,hok,q⟩:=h
 obtain⟨t,rfl⟩:=rx
 obtain⟨u,rfl,ru⟩:=vals1 rs
 cases ru
 obtain⟨its,rv,pl,hz⟩:=I.list hq
 obtain⟨l,e1,e2⟩:=ou rv
 subst e1
 exact SC.join pl.isList e2 hok λt' k=>⟨.str _,H,I.kept (t':=k) (h':=s.heap) (λb o e=>e),⟨_,rfl⟩,q⟩
def abQ:R2:=λx y H Q=>∃z n,x= .str z∧y= .int n∧MulOk z n∧Q (.str (PySem.Txt.mul z n)) H
theorem Xu:Qt X (binaryOp .Mult) abQ:=by
 intro pins s σ H x y v u Q I rx ry h
 obtain⟨z,n,rfl,rfl,hok,q⟩:=h
 obtain⟨t,rfl⟩:=rx
 obtain⟨t',rfl⟩:=ry
 exact SB.mul hok λt' k=>⟨.str _,H,I.kept (t':=k) (h':=s.heap) (λb o e=>e),⟨_,rfl⟩,q⟩
def amW:V→Option Int→Option Int→Hp→VK→Prop:=λx lo hi H Q=>∃z,x= .str z∧z.length≤sizeLine∧Q (.str (PySem.Txt.slice z lo hi)) H
theorem IW {K:PySem.W.Frag} (h:X.K=K:=by rfl):pH X "str.join" (rJoin K):=h▸iI
end
end L2
namespace GtL
open PySem PyProof.Rows PySem.SeqAt
open PySem.AutoSeq1 (wpAny_loadPart')
open PySem.MeetsSeq PySem.MeetsSeq2 PySem.MeetsSeq3
end GtL
namespace L2
open PySem PySem.Spec PyProof.Rows
section
variable {X:Cx}
def amX (K:PySem.W.Frag):R2:=λx y H Q=>∃(a b:Addr) (ns ms:List Int) (j:Nat),x= .ref a∧y= .ref b∧ZJ K H a (ns.map V.int)∧ZJ K H b (ms.map V.int)∧j<ns.length∧j<ms.length∧(∀m,m<j→ns.getD m 0=ms.getD m 0)∧ms.getD j 0<ns.getD j 0∧Q (.bl true) H
end
end L2
namespace L2
open PySem PySem.Spec PyProof.Rows
section
variable {P:Program} {w:World} {H H':Hp} {h h' h2 B G:Heap} {a C:Addr} {o:HO} {l:List Env}
theorem Qz.hide (x:Qz P w H h) {as:List Addr} (hf:∀b∈as,H b=none):Qz P w H (PySem.W.hideAll h as):=λa o e =>
 (x a o e).stay (λb u hb q=>PySem.W.hideAll_get _ q λhm=>by
  rcases hb with z |z
  ·rw[←z,hf _ hm]at e;cases e
  ·rw[hf _ hm]at z;cases z) (λ_ q=>q) λ_ _ q=>q
theorem Un.cut {fs ex:List Addr} {L:Addr} (u:Un (L :: fs) ex H H' h h') (hL:h.get? L=none):Un fs ex H H' h h':=
 ⟨λb o q n hb hx=>u.keep b o q n (λz=>(List.mem_cons.mp z).elim (λe=>by rw[e,hL]at q;cases q) hb) hx,
  λb o q n hb hx=>u.slot b o q n (List.mem_cons_of_mem _ hb) hx,u.free,u.there,u.tups,u.R3,u.Rq⟩
theorem Un.turn (u:Un (frs l) [] H H' G h) (ff:h.FunFrames B l) (st:B.StaysIn h2) (up:h.UpToSlots h2)
 (kB:∀b o,G.get? b=some o→H b=none→b∉frs l→B.get? b=some o) (tB:∀b o,G.get? b=some o→b∉frs l→∃o',B.get? b=some o'):Un (frs l) [] H H' G h2 where
 keep:=λb o q n hb _=>st b o (kB b o q n hb)
 slot:=λb o q n hb hx=>by
  obtain⟨sl,e1⟩:=u.slot b o q n hb hx
  obtain⟨_,o',ho',hd⟩:=ff.mem hb
  rw[e1]at ho';cases ho'
  obtain⟨sl',e2⟩:=up b _ e1 hd
  exact⟨sl',e2⟩
 free:=u.free
 there:=λb o q hx=>by
  by_cases hb:b∈frs l
  ·obtain⟨_,o',ho',hd⟩:=ff.mem hb
   obtain⟨sl',e2⟩:=up b _ ho' hd
   exact⟨_,e2⟩
  ·obtain⟨o',e⟩:=tB b o q hb
   exact⟨o',st b o' e⟩
 tups:=u.tups
 R3:=u.R3
 Rq:=u.Rq
end
structure Fly (P:Program) (w:World) (l:List Env) (H:Hp) (G:Heap) (H':Hp) (a C:Addr) (h:Heap):Prop where
 un:Un (frs l) [] H H' G h
 fl:∃B t,Heap.FlyingW B l a (.ref C) (.ref t) h∧Qz P w H' B∧(∀b o,G.get? b=some o→H b=none→b∉frs l→B.get? b=some o)∧(∀b o,G.get? b=some o→b∉frs l→∃o',B.get? b=some o')
def IV (P:Program) (w:World):Dy:=λl H s E e s'=>∃a C H',e= .ref a∧s'.os=s.os∧AllBare s'.gens∧Fly P w l H s.heap H' a C s'.heap∧E (.ref C) none H'
section
variable {P:Program} {w:World} {K:PySem.W.Frag} {mg:Str→Option Value} {base:Heap} {N:List Str} {qual:Str} {scope:Scope} {f:Addr} {cd:Value} {A:Around} {outer:List Env} {s:Shared} {H:Hp} {E:XK}
theorem Zb:Passes (IV P w) (Vp (IV P w) P w K mg base N qual scope f cd A outer s H E) E:=by
 intro pins σ H1 s1 e s' I ⟨a,C,H',ea,os,bare,F,he⟩
 subst ea
 obtain⟨B,t,fl,hk,kB,tB⟩:=F.fl
 have hL:s.heap.get? s.heap.objs.size=none:=Heap.get?_none_of_le (Nat.le_refl _)
 have ne:∀b o,s.heap.get? b=some o→b∉frs outer→b∉frs (envOfC qual scope s.heap.objs.size f cd :: outer):=λb o q nb z=>by
  have z':b∈s.heap.objs.size :: frs outer:=z
  rcases List.mem_cons.mp z' with e |e
  ·rw[e,hL]at q;cases q
  ·exact nb e
 show wpAny (model P w) (A.deeper (envOfC qual scope s.heap.objs.size f cd)) (leaving (envOfC qual scope s.heap.objs.size f cd) (.ref a)) _ _ s'
 refine wpAny_leaves_onW (outer:=outer) (L:=s.heap.objs.size) I.ok.frames rfl fl λh' x1 x2=>?_
 have u0:Un (frs outer) [] H H1 s.heap s1.heap:=I.base
 have u1:Un (frs (envOfC qual scope s.heap.objs.size f cd :: outer)) [] H1 H' s1.heap h':=F.un.turn fl.2.2.1 x1.1 x2 kB tB
 have u2:Un (frs (envOfC qual scope s.heap.objs.size f cd :: outer)) [] H H' s.heap h':=(u0.mono (λb hb=>List.mem_cons_of_mem _ hb) λb hb=>hb).trans u1
 exact⟨a,C,H',rfl,os.trans I.os,bare,⟨Un.cut u2 hL,B,t,x1,hk,
  λb o q n nb=>kB b o (u0.keep b o q n nb (by simp)) (u0.free b o q n (by simp)) (ne b o q nb),
  λb o q nb=>by
   obtain⟨o',q'⟩:=u0.there b o q (by simp)
   exact tB b o' q' (ne b o q nb)⟩,he⟩
theorem rT {pins:List (Addr×Obj)} {σ:St} {H1:Hp} {s1 s2:Shared} {e C:Addr} {vs:List Value} (I:Inv (Vp (IV P w) P w K mg base N qual scope f cd A outer s H E) pins σ H1 s1)
 (hx:Heap.MadeExcOf s1.heap s2.heap e (.ref C) vs) (hos:s2.os=s1.os) (hg:s2.gens=s1.gens) (he:E (.ref C) none H1):
 (Vp (IV P w) P w K mg base N qual scope f cd A outer s H E).xe (.ref e) s2:=by
 have hL:s.heap.get? s.heap.objs.size=none:=Heap.get?_none_of_le (Nat.le_refl _)
 have ff:s1.heap.FunFrames (PySem.W.hideAll s1.heap (frs (envOfC qual scope s.heap.objs.size f cd :: outer))) (envOfC qual scope s.heap.objs.size f cd :: outer):=
  PySem.W.funFrames_hide I.stack λenv he b hb=>List.mem_filterMap.mpr ⟨env,he,hb⟩
 have ne:∀b o,s.heap.get? b=some o→b∉frs outer→b∉frs (envOfC qual scope s.heap.objs.size f cd :: outer):=λb o q nb z=>by
  have z':b∈s.heap.objs.size :: frs outer:=z
  rcases List.mem_cons.mp z' with e |e
  ·rw[e,hL]at q;cases q
  ·exact nb e
 have hk:Qz P w H1 (PySem.W.hideAll s1.heap (frs (envOfC qual scope s.heap.objs.size f cd :: outer))):=Qz.hide I.hok I.DP
 show wpAny (model P w) (A.deeper (envOfC qual scope s.heap.objs.size f cd)) (leaving (envOfC qual scope s.heap.objs.size f cd) (.ref e)) _ _ s2
 refine wpAny_leaves_madeW (outer:=outer) (L:=s.heap.objs.size) I.ok.frames rfl (λb o q=>PySem.W.of_hideAll _ q) ff hx λh' t x1 x2 x3 x4=>?_
 have u0:Un (frs outer) [] H H1 s.heap s1.heap:=I.base
 have kB:∀b o,s.heap.get? b=some o→H b=none→b∉frs outer→(PySem.W.hideAll s1.heap (frs (envOfC qual scope s.heap.objs.size f cd :: outer))).get? b=some o:=
  λb o q n nb=>PySem.W.hideAll_get _ (u0.keep b o q n nb (by simp)) (ne b o q nb)
 have tB:∀b o,s.heap.get? b=some o→b∉frs outer→∃o',(PySem.W.hideAll s1.heap (frs (envOfC qual scope s.heap.objs.size f cd :: outer))).get? b=some o':=λb o q nb=>by
  obtain⟨o',q'⟩:=u0.there b o q (by simp)
  exact⟨o',PySem.W.hideAll_get _ q' (ne b o q nb)⟩
 exact⟨e,C,H1,rfl,hos.trans I.os,by show AllBare s2.gens;rw[hg];exact I.bare,
  ⟨u0.turn ff.2.2 x1.1 ((Heap.UpToSlots.of_keeps hx.keeps).trans x4) kB tB,_,t,x1,hk,kB,tB⟩,he⟩
end
end L2
namespace L2
open PySem PySem.Spec PyProof.Rows
theorem Wr.oh {P:Program} {w:World} {K:PySem.W.Frag} {mg:Str→Option Value} {base:Heap} {CX:Dy} {k:Nat} {f:Addr} {fd:FuncData} {ps:List Str} {sp:Sp} (F:Wr P w K mg base Je k f fd ps sp):
 Wr P w K mg base CX k f fd ps sp:=⟨F.len,λA outer s H args us vs Q E hr he hb hv hs=>codeAny_mono (F.run A outer s H args us vs Q E hr he hb hv hs) λr s' hq=>by
 cases r with
 |error e=>exact False.elim hq
 |ok fl=>cases fl<;>exact hq⟩
theorem Uv {K:PySem.W.Frag} {h:Heap} {x:Str} {C:Addr} {mro:List Value} {nid:String} {mg:Str→Option Value} (ki:K.In h) (hm:mg x=some (.ref C)) (hq:PySem.W.excIn K C mro nid=true):OwnCls x C mro nid mg h:=by
 refine⟨hm,?_⟩
 unfold PySem.W.excIn at hq
 split at hq
 ·next dk cl slo look =>
  split at hq
  ·next D more z0 z1 z2 z3 idn z5 hmro ad9 =>
   rw[Bool.and_eq_true,Bool.and_eq_true,Bool.and_eq_true,Bool.and_eq_true,Bool.and_eq_true]at hq
   obtain⟨⟨⟨⟨⟨same,nis⟩,abR⟩,tl⟩,abS⟩,aF⟩:=hq
   have abT:D=C:=eq_of_beq same
   have aea:idn=nid:=eq_of_beq nis
   subst abT aea
   cases cl with
   |mk c1 c2 c3 c4 c5 c6 c7 c8 c9 c10 aD =>
    change c3=_ at hmro
    change (!aD)=true at abR
    have aeb:aD=false:=by cases aD<;>first |rfl |cases abR
    subst hmro aeb
    have es:slo= #[z0,z1,z2,z3,some (.builtin idn),z5]:=by
     cases slo with
     |mk lis=>exact congrArg Array.mk ad9
    subst es
    exact⟨more,c4,c1,c5,c2,c6,c7,c8,c9,c10,dk,z0,z1,z2,z3,z5,_,ki _ _ look,.of_isNs (PySem.W.isNs_of_in ki abS),PySem.W.nsMap_none_of_in ki abS (eq_of_beq aF),PySem.W.tail_of_in ki tl⟩
  ·cases hq
 ·cases hq
def Out (X:Cx) (E:XK):Prop:=∀(pins:List (Addr×Obj)) (σ:St) (H:Hp) (s s2:Shared) (e C:Addr) (vs:List Value),Inv X pins σ H s→Heap.MadeExcOf s.heap s2.heap e (.ref C) vs→s2.os=s.os→s2.gens=s.gens→E (.ref C) none H→X.xe (.ref e) s2
theorem TJ {P:Program} {w:World} {K:PySem.W.Frag} {mg:Str→Option Value} {base:Heap} {N:List Str} {qual:Str} {scope:Scope} {f:Addr} {cd:Value} {A:Around} {outer:List Env} {s:Shared} {H:Hp} {E:XK}:
 Out (Vp (IV P w) P w K mg base N qual scope f cd A outer s H E) E:=λ_ _ _ _ _ _ _ _ I hx h1 h2 he=>rT I hx h1 h2 he
def aB (C:Addr) (E:XK) (t:TA):TS:=λ_ σ H=>t σ H λvs H1=>vs.length≤sizeLine∧E (.ref C) none H1
theorem W8 {X:Cx} {E:XK} {x:Str} {C:Addr} {bm:List Value} {B newId initId:String} {np cpos pos:Pos} {e0:Expr} {rest:List Expr} {t:TA} (O:OwnCls x C bm newId X.mg X.base) (FB:ExcBaseFacts B newId initId bm)
 (hc:X.calm=true) (hg:Gl X x) (ho:Out X E) (ha:PA X (e0 :: rest) t) (hdb:(x==("__debug__":Str))=false:=by decide)
 (he:starEach (e0 :: rest) X.env=(false,eval e0 X.env) :: starEach rest X.env:=by rfl) (hpl:(backTo cpos (starEach rest X.env)).any (·.1)=false:=by rfl):
 PS X (.Raise (some (.Call (.Name x np) (e0 :: rest) [] cpos)) none pos) (aB C E t):=by
 intro pins s σ H D I h
 obtain⟨tl,N,nm,q,bs,y1,y2,y3,y4,y5,y6,z0,z1,z2,z3,z5,mN,hC,hN,hni,T⟩:=O.obj
 refine wpAny_Raise_call_subT (C:=C) (nm:=nm) (q:=q) (N:=N) (bs:=bs) (bm:=tl) (hdct:=y1) (sn:=y2) (sub:=y3) (ab:=y4) (col:=y5) (dd:=y6) (k0:=z0) (k1:=z1) (k2:=z2) (k3:=z3) (k5:=z5)
  FB (mN:=mN) (T.hasType FB.hasBase) (I.ok.hd hc) (by rw[he];show(false || _)=false;rw[Bool.false_or];exact hpl) hni (Tc I hg O.bound ⟨rfl,?_⟩ hdb)
 have hw:=ha cpos pins s σ H _ I h
 rw[he]at hw ⊢
 refine Calls.evalArgs_plain (wpAny_mono hw (λus s2 z=>?_) λ_ _ y=>y)
 obtain⟨vs,H1,I1,r,z,q⟩:=z
 exact⟨rfl,by rw[←r.length];exact z,I1.bk _ _ hC,hN.keeps I1.bk,T.keeps I1.bk,λh' e hm=>ho pins σ H1 s2 {s2 with heap:=h'} e C us I1 hm rfl rfl q⟩
end L2
namespace L2
open PySem PySem.Spec PyProof.Rows
def au (sp:Sp) (M4:List V) (W:St→XK) (t:TA):TE:=λσ H Q=>t σ H λvs H1=>sp (vs++M4) H1 Q (W σ)
def Ug (CX:Dy) (X:Cx) (W:St→XK):Prop:=∀(pins:List (Addr×Obj)) (σ:St) (H:Hp) (s:Shared) (e:Value) (s':Shared),Inv X pins σ H s→CX X.stack H s (W σ) e s'→X.xe e s'
section
variable {X:Cx} {CX:Dy} {k:Nat} {f:Addr} {fd:FuncData} {ps:List Str} {sp:Sp} {M4:List V} {ds:List Value} {W:St→XK} {x:Str} {p pos:Pos} {e:Expr} {es:List Expr} {t:TA}
theorem Dl {pins:List (Addr×Obj)} {σ:St} {H:Hp} {s:Shared} {Q:VK} {us:List Value} {vs:List V} (F:Wr X.prog X.w X.K X.mg X.base CX k f fd ps sp) (hr:YC k X.A) (hb:Binds X.K fd ps ds) (hd:Vals M4 ds) (hx:Ug CX X W)
 (I:Inv X pins σ H s) (r:Vals vs us) (h:sp (vs++M4) H Q (W σ)):wpAny (model X.prog X.w) X.A (call (.ref f) us) (EP X pins σ Q) X.xe s:=by
 have rr:Vals (vs++M4) (us++ds):=r.append hd
 have ll:(us++ds).length=ps.length:=by rw[←rr.length];exact F.len _ _ _ _ h
 refine wpAny_call (codeAny_mono (F.run X.A X.stack s H ⟨us,[]⟩ (us++ds) (vs++M4) Q (W σ) hr I.env0 (hb s us I.Qx ll) rr h) λres s' hq=>?_)
 match res,hq with
 | .error e,hq=>exact hx pins σ H s e s' I hq
 | .ok (.ret u),hq=>exact I.after hq
 | .ok .next,hq=>exact False.elim hq
 | .ok .brk,hq=>exact False.elim hq
 | .ok .cont,hq=>exact False.elim hq
theorem n_ (F:Wr X.prog X.w X.K X.mg X.base CX k f fd ps sp) (hr:YC k X.A) (hg:Gl X x) (hm:X.mg x=some (.ref f)) (hk:PySem.W.keepIn X.K (.ref f)=true) (hb:Binds X.K fd ps ds) (hd:Vals M4 ds) (hx:Ug CX X W)
 (ha:PA X (e :: es) t) (hdb:(x==("__debug__":Str))=false:=by decide) (he:starEach (e :: es) X.env=(false,eval e X.env) :: starEach es X.env:=by rfl) (hpl:(backTo pos (starEach es X.env)).any (·.1)=false:=by rfl):
 PE X (.Call (.Name x p) (e :: es) [] pos) (au sp M4 W t):=by
 intro pins s σ H Q I h
 refine wpAny_Call_Name_kw (Tc I hg hm ?_ hdb)
 refine PySem.W.callWith_K (h₀:=X.base) I.ok.mod.dM hk (Yy (ha pos pins s σ H _ I h) λus s1 z=>?_) he hpl
 obtain⟨vs,H1,I1,r,q⟩:=z
 exact⟨I1.Qx,Dl F hr hb hd hx I1 r q⟩
end
abbrev Cx.held (X:Cx) (e:Value):Cx:={X with A:=X.A.mark (some e),calm:=false,xe:=λ_ _=>False}
abbrev Cx.pinned (X:Cx) (pn:List (Addr×Obj)):Cx:={X with pn:=pn}
section
variable {X:Cx} {pins pn:List (Addr×Obj)} {σ:St} {H:Hp} {s:Shared} {e:Value}
theorem Inv.held (I:Inv X pins σ H s) (e:Value):Inv (X.held e) pins σ H s:=
 ⟨⟨I.ok.mod,I.ok.kind,I.ok.glob,I.ok.blt,I.ok.above,I.ok.inj,I.ok.has,I.ok.cab,(λz=>nomatch z),I.ok.frames,I.ok.stk,I.ok.bJ,I.ok.bs,I.ok.yd,I.ok.Gu,I.ok.DQ,I.ok.QG,I.ok.tD⟩,I.os,I.bare,I.base,I.loc,I.cell,I.free,I.Uq,I.pin,I.hok,I.len⟩
theorem Inv.rR (hok:X.Ok) (I:Inv (X.held e) pins σ H s):Inv X pins σ H s:=⟨hok,I.os,I.bare,I.base,I.loc,I.cell,I.free,I.Uq,I.pin,I.hok,I.len⟩
theorem Inv.aq (I:Inv X pins σ H s) (sub:∀p∈pn,p∈X.pn++pins):Inv (X.pinned pn) [] σ H s:=
 ⟨⟨I.ok.mod,I.ok.kind,I.ok.glob,I.ok.blt,I.ok.above,I.ok.inj,I.ok.has,I.ok.cab,I.ok.hd,I.ok.frames,I.ok.stk,I.ok.bJ,I.ok.bs,I.ok.yd,I.ok.Gu,I.ok.DQ,I.ok.QG,I.ok.tD⟩,I.os,I.bare,I.base,I.loc,I.cell,I.free,I.Uq,
   λp hp=>I.pin p (sub p (by simpa using hp)),I.hok,I.len⟩
theorem Inv.Qp {vm:List (Addr×Obj)} (I:Inv (X.pinned (X.pn++pins)) vm σ H s):Inv X pins σ H s:=
 ⟨⟨I.ok.mod,I.ok.kind,I.ok.glob,I.ok.blt,I.ok.above,I.ok.inj,I.ok.has,I.ok.cab,I.ok.hd,I.ok.frames,I.ok.stk,I.ok.bJ,I.ok.bs,I.ok.yd,I.ok.Gu,I.ok.DQ,I.ok.QG,I.ok.tD⟩,I.os,I.bare,I.base,I.loc,I.cell,I.free,I.Uq,
   λp hp=>I.pin p (List.mem_append_left _ hp),I.hok,I.len⟩
end
def IK (a C:Addr):HO:=.ext λh=>∃o vs,h.get? a=some o∧o.cls= .ref C∧o.data= .fields vs
section
variable {P:Program} {w:World} {fs:List Addr} {H H':Hp} {G h:Heap} {a C:Addr}
theorem Un.add (u:Un fs [] H H' G h) (hG:G.get? a=none) (hn:H' a=none) (o:HO):Un fs [] H (upd H' a o) G h where
 keep:=u.keep
 slot:=u.slot
 free:=λb ob q n hx=>by
  have:b≠a:=λz=>by rw[z,hG]at q;cases q
  rw[Zw this];exact u.free b ob q n hx
 there:=u.there
 tups:=λb xs q=>by
  have z:=u.tups b xs q
  rw[Zw (ZF z hn)];exact z
 R3:=λb ob v q=>by
  have z:=u.R3 b ob v q
  rw[Zw (ZF z hn)];exact z
 Rq:=λb ps q=>by
  obtain⟨more,z⟩:=u.Rq b ps q
  exact⟨more,by rw[Zw (ZF z hn)];exact z⟩
theorem Qz.ao (x:Qz P w H h) (hn:H a=none) (he:∃o vs,h.get? a=some o∧o.cls= .ref C∧o.data= .fields vs):Qz P w (upd H a (IK a C)) h:=λb u e=>by
 by_cases hb:b=a
 ·subst hb
  rw[Z1]at e;cases e
  obtain⟨o,vs,h1,h2,h3⟩:=he
  refine⟨⟨o,vs,h1,h2,h3⟩,⟨o,h1⟩,λg1 g2 ⟨o,vs,q1,q2⟩ kk=>⟨o,vs,kk o q1,q2⟩⟩
 ·rw[Zw hb]at e
  exact(x b u e).stay (λc v _ q=>q) (λc q=>by rw[Zw (ZF q hn)];exact q) λc xs q=>by rw[Zw (ZF q hn)];exact q
theorem Xe.has {o:HO} (x:Xe P w H h a o):h.get? a≠none:=by
 cases o with
 |lst xs=>obtain⟨_,_,_,_,e⟩:=x;rw[e];simp
 |tup xs=>obtain⟨_,_,_,o,e,_⟩:=x;rw[e];simp
 |dK kvs=>obtain⟨_,_,_,_,o,_,_,e,_⟩:=x;rw[e];simp
 |dT kvs=>obtain⟨_,_,_,_,o,_,_,e,_⟩:=x;rw[e];simp
 |set S n=>obtain⟨o,_,_,_,e,_⟩:=x;rw[e];simp
 |ins C dx fs=>obtain⟨_,_,_,e,_⟩:=x;rw[e];simp
 |own y=>obtain⟨_,e⟩:=x;rw[e];simp
 |xd fs=>obtain⟨_,⟨_,_,_,e,_⟩,_⟩:=x;rw[e];simp
 |rng lo hi=>obtain⟨_,_,_,e⟩:=x;rw[e];simp
 |yg ob u=>obtain⟨e,_⟩:=x;rw[e];simp
 |yj ps=>rw[show h.get? a=some _ from x];simp
 |met f y=>rw[show h.get? a=some _ from x];simp
 |ext φ=>obtain⟨_,⟨_,e⟩,_⟩:=x;rw[e];simp
end
end L2
namespace L2
open PySem PySem.Spec PyProof.Rows
section
variable {M:Model} {A:Around} {E:Value→Shared→Prop} {h:Heap} {g:Array GenState} {d:Drawn} {t:Nat} {os:OsState}
theorem Az {K:PySem.W.Frag} {e C D:Addr} {oe:Obj} {Q:Bool→Shared→Prop} {y:Str} {bmD:List Value} {nid:String} {mg:Str→Option Value} (ki:K.In h) (he:h.get? e=some oe) (hc:oe.cls= .ref C)
 (O:OwnCls y D bmD nid mg h) (hb:bmD.contains (.type "BaseException")=true) (m:PySem.W.mroIn K C (.ref D)=some true) (hq:Q true ⟨h,g,d,t,os⟩):
 wpAny M A (excMatches (.ref e) (.ref D)) Q E ⟨h,g,d,t,os⟩:=by
 obtain⟨tl,N,nm,q,bs,y1,y2,y3,y4,y5,y6,z0,z1,z2,z3,z5,mN,hD,hN,hni,T⟩:=O.obj
 have l:∀{Q':Bool→Shared→Prop} {E':Value→Shared→Prop},Q' true ⟨h,g,d,t,os⟩→wpAny M A (isSubtype (.ref C) (.ref D)) Q' E' ⟨h,g,d,t,os⟩:=λ{Q' E'} q'=>PySem.W.looks_mroIn (M:=M) ki m A Q' E' _ (λ_ _ z=>z) q'
 have hB:(Value.ref D :: tl).contains (.type "BaseException")=true:=by rw[List.contains_cons,T.hasType hb,Bool.or_true]
 have f:=tc_notTuple
 unfold excMatches
 repeat (first
  | (with_reducible refine wpAny_loadPart_at he ?_;rw[hc])
  |with_reducible refine wpAny_loadPart_at hD ?_
  | (with_reducible refine wpAny_isSubtype_exc hD ?_;rw[hB])
  | (with_reducible refine l ?_)
  |wp_step)
 exact hq
end
theorem Inv.forget {X:Cx} {pins:List (Addr×Obj)} {σ:St} {H:Hp} {s:Shared} {h':Heap} {m':Str→Option Value} {tk:Nat} (I:Inv X pins σ H s) (hn:h'.Ns X.env.locals m') (hs:Heap.SameBut X.env.locals s.heap h'):
 Inv X pins (List.replicate X.N.length none) H {s with heap:=h',toks:=tk}:=by
 have neL:∀{b:Addr} {o:Obj},X.s₀.heap.get? b=some o→b≠X.env.locals:=λ{b o} q=>Nat.ne_of_lt (Nat.lt_of_lt_of_le (Heap.lt_size q) I.ok.above)
 refine⟨I.ok,I.os,I.bare,⟨λb o q n hb hx=>?_,λb o q n hb hx=>?_,I.base.free,λb o q hx=>?_,I.base.tups,I.base.R3,I.base.Rq⟩,⟨m',hn,λj y v e1 e2 e3=>?_⟩,λy c q=>?_,I.free,I.Uq,λp hp=>?_,λb ob q=>?_,List.length_replicate⟩
 ·rw[hs.2 b (neL q)];exact I.base.keep b o q n hb hx
 ·rw[hs.2 b (neL q)];exact I.base.slot b o q n hb hx
 ·rw[hs.2 b (neL q)];exact I.base.there b o q hx
 ·rw[List.getElem?_replicate]at e2
  split at e2<;>cases e2
 ·obtain⟨v,z⟩:=I.cell y c q
  exact⟨v,z.sameBut hs (I.dJ y c q)⟩
 ·obtain⟨e,n,ne,nf,dd⟩:=I.pin p hp
  exact⟨by rw[hs.2 p.1 ne];exact e,n,ne,nf,dd⟩
 ·refine(I.hok b ob q).stay (λc v hc r=>?_) (λ_ z=>z) λ_ _ z=>z
  have nc:c≠X.env.locals:=by
   rintro rfl
   rcases hc with hc |hc
   ·rw[←hc,I.free]at q;cases q
   ·rw[I.free]at hc;cases hc
  rw[hs.2 c nc];exact r
def XT (X:Cx) (W:St→XK):Value→Shared→Prop:=λe s'=>∃(pins:List (Addr×Obj)) (σ:St) (H:Hp) (s:Shared),Inv X pins σ H s∧IV X.prog X.w X.stack H s (W σ) e s'
theorem Iz {X:Cx} {W:St→XK}:Ug (IV X.prog X.w) (X.wish (XT X W)) W:=λpins σ H s e s' I h=>⟨pins,σ,H,s,I.Vr,h⟩
def uT (K:PySem.W.Frag) (D:Addr) (i:Nat) (ts:TS) (rt:VK):St→XK:=λσ c _ H'=>∃C,c= .ref C∧PySem.W.mroIn K C (.ref D)=some true ∧
 ∀a,H' a=none→ts {nx:=λ_ _=>False,rt:=rt} (σ.set i (some (.ref a))) (upd H' a (IK a C))
def aec (K:PySem.W.Frag) (D:Addr) (i:Nat) (tb:(St→XK)→TS) (ts:TS):TS:=λDn σ H=>tb (uT K D i ts Dn.rt) Dn σ H
section
variable {X:Cx} {body suite:List Stmt} {b0:Stmt} {y n:Str} {D:Addr} {bmD:List Value} {nid:String} {i:Nat} {tb:(St→XK)→TS} {ts:TS} {np hpos pos:Pos}
theorem aj (hb:∀(pn:List (Addr×Obj)) (W:St→XK),QF ((X.pinned pn).wish (XT (X.pinned pn) W)) body (tb W)) (hs:∀(pn:List (Addr×Obj)) (e:Value),QF ((X.pinned pn).held e) (b0 :: suite) ts)
 (O:OwnCls y D bmD nid X.mg X.base) (hB:bmD.contains (.type "BaseException")=true) (hg:Gl X y) (hN:X.N.Nodup) (hi:X.N[i]? =some n) (hl:X.env.kindOf n=some .local)
 (hst:X.stack=X.env :: X.outer) (hfr:X.env.frame=some X.env.locals) (hdb:(y==("__debug__":Str))=false:=by decide):
 PS X (.Try body [.ExceptHandler (some (.Name y np)) (some n) (b0 :: suite) hpos] [] [] pos) (aec X.K D i tb ts):=by
 intro pins s σ H Dn I h
 have Ip:Inv (X.pinned (X.pn++pins)) [] σ H s:=I.aq λp hp=>hp
 refine wpAny_Try_except (wpAny_mono (hb (X.pn++pins) (uT X.K D i ts Dn.rt) [] s σ H Dn (Ip.wish _) h) (λf s1 z=>?_) λe s1 z=>?_)
 ·have z':SP (X.pinned (X.pn++pins)) [] Dn f s1:=SP.Vr z
  cases f with
  |next =>
   obtain⟨σ',H',I',q⟩:=z'
   exact wpAny_execs_nil ⟨σ',H',I'.Qp,q⟩
  |brk=>obtain⟨σ',H',I',q⟩:=z';exact⟨σ',H',I'.Qp,q⟩
  |cont=>obtain⟨σ',H',I',q⟩:=z';exact⟨σ',H',I'.Qp,q⟩
  |ret u=>obtain⟨v,σ',H',I',r,q⟩:=z';exact⟨v,σ',H',I'.Qp,r,q⟩
 ·obtain⟨pp,σ1,H1,s0,I1,a,C,H',ea,eos,bare,F,cls,ec,hm,hq⟩:=z
  subst ea
  cases ec
  obtain⟨B,t,fl,hk,kB,tB⟩:=F.fl
  have un:=F.un
  have ff:=fl.2.2.1
  have frames:X.A.frames=some (X.env :: X.outer):=by rw[←hst];exact I.ok.frames
  have fl':Heap.FlyingW B (X.env :: X.outer) a (.ref C) (.ref t) s1.heap:=by rw[←hst];exact fl
  have inv:∀h',B.StaysIn h'→s1.heap.UpToSlots h'→Inv (X.pinned (X.pn++pins)) pp σ1 H' {s1 with heap:=h'}:=λh' st up =>
   I1.call' (s':={s1 with heap:=h'}) (ch:=[]) eos (un.turn ff st up kB tB) (hk.kept st) bare λb hb=>absurd hb (by simp)
  have B_a:B.get? a=none:=fl.2.1
  have H'a:H' a=none:=by
   cases q:H' a with
   |none=>rfl
   |some o=>exact absurd B_a (hk a o q).has
  refine wpAny_looks_onW frames hfr fl' λh4 Ay up4=>?_
  refine wpAny_landsW Ay λh5 fl5 up5=>?_
  have I5:=(inv h5 fl5.1 (up4.trans up5)).held (.ref a)
  obtain⟨oe,he,hec⟩:=fl5.there
  refine wpAny_handleBy_cons (codeAny_handlers_test (Tc (X:=(X.pinned (X.pn++pins)).held (.ref a)) I5 hg O.bound ?_ hdb)) (by intro q;cases q)
  refine Az I5.Qx he hec (O.keeps I5.bk) hB hm ?_
  refine codeAny_handlers_suite_as (lands_againW fl5 λh6 fl6 up6=>?_)
  have up:s1.heap.UpToSlots h6:=(up4.trans up5).trans up6
  have un6:=un.turn ff fl6.1 up kB tB
  have Ga:s0.heap.get? a=none:=by
   cases q:s0.heap.get? a with
   |none=>rfl
   |some o =>
    by_cases hb:a∈frs X.stack
    ·obtain⟨_,o1,ho1,hd1⟩:=ff.mem hb
     obtain⟨oe1,vs1,_,_,_,he1,_,hd2,_⟩:=fl.2.2.2
     rw[ho1]at he1;cases he1
     exact absurd hd2 (hd1 vs1)
    ·obtain⟨o',e'⟩:=tB a o q hb
     rw[B_a]at e';cases e'
  obtain⟨oe6,vs6,he6,aed,aee,_⟩:=fl6.first
  have I6:Inv (X.pinned (X.pn++pins)) pp σ1 (upd H' a (IK a C)) {s1 with heap:=h6}:=
   I1.call' (s':={s1 with heap:=h6}) (ch:=[]) eos (un6.add Ga H'a _) ((hk.kept fl6.1).ao H'a ⟨oe6,vs6,he6,aed,aee⟩) bare λb hb=>absurd hb (by simp)
  refine Jk (X:=(X.pinned (X.pn++pins)).held (.ref a)) (I6.held (.ref a)) hN hi (.inl hl) (v:=.ref a) rfl (λs7 I7=>?_) (.inr hl)
  refine wpAny_mono (hs (X.pn++pins) (.ref a) pp s7 _ _ _ I7 (hq a H'a)) (λf s8 z8=>?_) λ_ _ z=>False.elim z
  cases f with
  |next=>obtain⟨_,_,_,z⟩:=z8;exact False.elim z
  |brk=>obtain⟨_,_,_,z⟩:=z8;exact False.elim z
  |cont=>obtain⟨_,_,_,z⟩:=z8;exact False.elim z
  |ret u =>
   obtain⟨v,σ8,H8,I8,r8,q8⟩:=z8
   obtain⟨m8,hn8,_⟩:=id I8.loc
   refine wpAny_nameGoes hl hn8 (by rw[I.ok.kind];rfl) λh9 m9 hn9 same=>?_
   exact⟨v,_,H8,((I8.rR Ip.ok).forget hn9 same).Qp,r8,q8⟩
end
end L2
namespace L2
open PySem PySem.Spec PyProof.Rows
structure Oc (K:PySem.W.Frag) (C:Addr):Prop where
 ga:PySem.W.findIn K (.ref C) "__getattribute__"=some (some (.builtin "BaseException.__getattribute__"))
 na:PySem.W.findIn K (.ref C) "__getattr__"=some none
 cl:PySem.W.findIn K (.ref C) "__class__"=some (some (.builtin "object.__class__"))
 ob:PySem.W.mroIn K C (.type "object")=some true
 be:PySem.W.mroIn K C (.type "BaseException")=some true
 ty:(PySem.W.clsIn K C).isSome=true
section
variable {prog:Program} {w:World} {A:Around} {E:Value→Shared→Prop} {h:Heap} {g:Array GenState} {d:Drawn} {t:Nat} {os:OsState} {a C:Addr} {o:Obj} {K:PySem.W.Frag}
theorem aac {R:Result→Shared→Prop} (ki:K.In h) (T:Oc K C) (hx:h.get? a=some o) (hc:o.cls= .ref C) (hq:R (.ok (.ret (.ref C))) ⟨h,g,d,t,os⟩):
 codeAny (model prog w) A (.call (.builtin "getset_descriptor.__get__") ⟨[.builtin "object.__class__",.ref a,.ref C],[]⟩) R ⟨h,g,d,t,os⟩:=by
 have ht:(⟨h,g,d,t,os⟩:Shared).TypeIs (.builtin "object.__class__") "getset_descriptor":=F.typeOf_object_class
 have l:∀{A':Around} {Q':Bool→Shared→Prop} {E':Value→Shared→Prop} {t':Nat},Q' true ⟨h,g,d,t',os⟩→wpAny (model prog w) A' (isSubtype (.ref C) (.type (".".intercalate ("object.__class__".cutAt '.').dropLast))) Q' E' ⟨h,g,d,t',os⟩:=
  λ{A' Q' E' t'} q'=>by rw[F.owner_object_class];exact PySem.W.looks_mroIn ki T.ob A' Q' E' _ (λ_ _ z=>z) q'
 refine codeAny_call_builtin F.slot_gs_get.plain F.entry_gs_get (F.slot_gs_get.check _ _ _ _ _ _ _ _ ht (F.args_gs_get _ _ _) ?_)
 repeat (any_goals (first |assumption | (with_reducible refine wpAny_loadPart_at hx ?_;rw[hc]) |with_reducible refine l ?_ |wp_step))
 refine And.intro (Code.quiet_builtin _ (by decide +kernel)) (codeAny_builtin F.entry_object_class ?_)
 repeat (any_goals (first |assumption | (with_reducible refine wpAny_loadPart_at hx ?_;rw[hc]) |wp_step))
theorem nZ {tk:Tok} {Q:Fin→Shared→Prop} (ki:K.In h) (T:Oc K C) (hx:h.get? a=some o) (hc:o.cls= .ref C) (hq:Q (.done (.ret (.ref C))) ⟨h,g,d,t,os⟩):
 wpAny (model prog w) A (Builtin.«object.__getattribute__» (Args.mk [.ref a,.str "__class__" tk] [])) Q E (⟨h,g,d,t,os⟩:Shared):=by
 have ht:(⟨h,g,d,t,os⟩:Shared).TypeIs (.builtin "object.__class__") "getset_descriptor":=F.typeOf_object_class
 have x1:=F.typeOf_object_class
 have x2:=F.slot_gs_get.lookup
 have x3:=F.slot_gs_set.lookup
 have l:∀{A':Around} {Q':Option Value→Shared→Prop} {E':Value→Shared→Prop} {t':Nat},Q' (some (.builtin "object.__class__")) ⟨h,g,d,t',os⟩→wpAny (model prog w) A' (typeLookup (.ref C) "__class__") Q' E' ⟨h,g,d,t',os⟩:=
  λ{A' Q' E' t'} q'=>PySem.W.looks_findIn ki T.cl A' Q' E' _ (λ_ _ z=>z) q'
 repeat (any_goals (first |assumption | (with_reducible refine wpAny_loadPart_at hx ?_;rw[hc]) |with_reducible refine l ?_ |wp_step))
 refine aac ki T hx hc ?_
 repeat (any_goals (first |exact hq |assumption |wp_step))
theorem nY {M:Model} {nv:Value} {Q:Unit→Shared→Prop} (ki:K.In h) (T:Oc K C) (hx:h.get? a=some o) (hc:o.cls= .ref C) (hq:Q () ⟨h,g,d,t,os⟩):wpAny M A (checkBuiltinCall "BaseException.__getattribute__" ⟨[.ref a,nv],[]⟩) Q E ⟨h,g,d,t,os⟩:=by
 have c1:builtinKind "BaseException.__getattribute__"=some .slot:=by decide +kernel
 have c2:splitId "BaseException.__getattribute__"=some ("BaseException","__getattribute__"):=by decide +kernel
 have l:∀{A':Around} {Q':Bool→Shared→Prop} {E':Value→Shared→Prop} {t':Nat},Q' true ⟨h,g,d,t',os⟩→wpAny M A' (isSubtype (.ref C) (.type "BaseException")) Q' E' ⟨h,g,d,t',os⟩:=
  λ{A' Q' E' t'} q'=>PySem.W.looks_mroIn ki T.be A' Q' E' _ (λ_ _ z=>z) q'
 have c3:=F.args_bexc_ga (.ref a) nv
 simp only[checkBuiltinCall,c1,c2]
 refine wpAny_bind ?_
 unfold isInstance
 repeat (first | (with_reducible refine wpAny_loadPart_at hx ?_;rw[hc]) |with_reducible refine l ?_ |wp_step)
 exact hq
theorem iH {tk:Tok} {R:Result→Shared→Prop} (ki:K.In h) (T:Oc K C) (hx:h.get? a=some o) (hc:o.cls= .ref C) (hq:R (.ok (.ret (.ref C))) ⟨h,g,d,t,os⟩):
 codeAny (model prog w) A (.call (.builtin "BaseException.__getattribute__") ⟨[.ref a,.str "__class__" tk],[]⟩) R ⟨h,g,d,t,os⟩:=
 codeAny_call_builtin F.attr_ValueError.ga.plain F.entry_bexc_ga (nY ki T hx hc (nZ ki T hx hc hq))
theorem abU {tk:Tok} {Q:Value→Shared→Prop} (ki:K.In h) (T:Oc K C) (hx:h.get? a=some o) (hc:o.cls= .ref C) (hq:Q (.ref C) ⟨h,g,d,t,os⟩):
 wpAny (model prog w) A (getAttrBy (.ref a) (.str "__class__" tk) false) Q E ⟨h,g,d,t,os⟩:=by
 have x1:=F.attr_ValueError.ga.bind (.ref a)
 have x2:(Value.builtin "BaseException.__getattribute__"==Value.builtin "object.__getattribute__")=false:=by decide +kernel
 have x3:(onTheHeap (Value.ref C) && Value.builtin "BaseException.__getattribute__"==Value.builtin "object.__getattribute__")=false:=by rw[x2,Bool.and_false]
 have l1:∀{A':Around} {Q':Option Value→Shared→Prop} {E':Value→Shared→Prop} {t':Nat},Q' (some (.builtin "BaseException.__getattribute__")) ⟨h,g,d,t',os⟩→wpAny (model prog w) A' (typeLookup (.ref C) "__getattribute__") Q' E' ⟨h,g,d,t',os⟩:=
  λ{A' Q' E' t'} q'=>PySem.W.looks_findIn ki T.ga A' Q' E' _ (λ_ _ z=>z) q'
 have l2:∀{A':Around} {Q':Option Value→Shared→Prop} {E':Value→Shared→Prop} {t':Nat},Q' none ⟨h,g,d,t',os⟩→wpAny (model prog w) A' (typeLookup (.ref C) "__getattr__") Q' E' ⟨h,g,d,t',os⟩:=
  λ{A' Q' E' t'} q'=>PySem.W.looks_findIn ki T.na A' Q' E' _ (λ_ _ z=>z) q'
 repeat (any_goals (first |assumption | (with_reducible refine wpAny_loadPart_at hx ?_;rw[hc]) |with_reducible refine l1 ?_ |with_reducible refine l2 ?_ |wp_step))
 refine iH ki T hx hc ?_
 repeat (any_goals (first |exact hq |assumption |wp_step))
theorem iG {Q:Option Value→Shared→Prop} (ki:K.In h) (T:Oc K C) (hx:h.get? a=some o) (hc:o.cls= .ref C) (hq:Q (some (.ref C)) ⟨h,g,d,t+1,os⟩):
 wpAny (model prog w) A (getAttr? (.ref a) "__class__") Q E ⟨h,g,d,t,os⟩:=by
 unfold getAttr? getAttrBy?
 repeat (any_goals (first |assumption |with_reducible apply abU ki T hx hc |wp_step))
end
end L2
namespace L2
open PySem PySem.Spec PyProof.Rows
theorem nW {K:PySem.W.Frag} {a C:Addr} (T:Oc K C):PySem.W.KitX K (.ref a) (.ref C) (λh=>∃o,h.get? a=some o∧o.cls= .ref C) where
 ty:=λ_ _ _ p=>by
  obtain⟨o,q1,q2⟩:=p
  exact q2▸(PySem.W.Looks.ld q1).andThen .now
 it:=λ_ _ ki _=>by
  have z:=T.ty
  unfold PySem.W.clsIn at z
  split at z
  ·next look =>
   intro A' Q' E' s' kk q
   unfold isType loadHead
   exact wpAny_bind (wpAny_loadPart (kk _ _ (ki _ _ look)) (wpAny_pure q))
  ·cases z
 ne:=λh tp dd its n sl ki htp=>by
  rw[Bool.eq_false_iff]
  intro q
  have e:C=tp:=Value.ref.inj (eq_of_beq q)
  subst e
  have z:=T.ty
  unfold PySem.W.clsIn at z
  split at z
  ·next look =>
   have z':=(ki _ _ look).symm.trans htp
   cases z'
  ·cases z
 ca:=λ{prog w A E Q s} ki p kk=>by
  obtain⟨h,g,d,t,os⟩:=s
  obtain⟨o,q1,q2⟩:=p
  exact iG ki T q1 q2 kk
theorem wW {X:Cx}:Xv X (.builtin "isinstance") (λxs H Q=>∃a C y b,H a=some (IK a C)∧Oc X.K C∧((∃D,xs=[.ref a,.ref D]∧y= .ref D)∨∃n,xs=[.ref a,.ty n]∧y= .type n)∧PySem.W.kitOne X.K (.ref C) y=some b∧Q (.bl b) H):=by
 intro pins s σ H vs us Q I r h
 obtain⟨a,C,y,b,ea,T,hx,e,q⟩:=h
 obtain⟨⟨o,vs',p1,p2,p3⟩,_⟩:=(show Xe X.prog X.w H s.heap a (IK a C)from I.hok a _ ea)
 have fin:wpAny (model X.prog X.w) X.A (call (.builtin "isinstance") [.ref a,y]) (EP X pins σ Q) X.xe s:=
  PySem.W.kia_one (nW T) I.Qx ⟨o,p1,p2⟩ e (λz=>nomatch z) λtk=>⟨.bl b,H,I.tok _,rfl,q⟩
 rcases hx with⟨D,rfl,rfl⟩ | ⟨n,rfl,rfl⟩
 ·cases r with
  |cons r1 r2 =>
   cases r2 with
   |cons r3 r4 =>
    cases r4
    cases(show _=Value.ref a from r1)
    cases(show _=Value.ref D from r3)
    exact fin
 ·cases r with
  |cons r1 r2 =>
   cases r2 with
   |cons r3 r4 =>
    cases r4
    cases(show _=Value.ref a from r1)
    cases(show _=Value.type n from r3)
    exact fin
end L2
namespace L2
open PySem PySem.Spec PyProof.Rows
structure TF (P:Program) (w:World) (K:PySem.W.Frag) (mg:Str→Option Value) (base:Heap) (k:Nat) (x:Str) (ps:List Str) (sp:Sp):Prop where
 ex:∃f fd,Wr P w K mg base (IV P w) k f fd ps sp∧Binds K fd ps []∧PySem.W.keepIn K (.ref f)=true∧mg x=some (.ref f)
section
variable {P:Program} {w:World} {K:PySem.W.Frag} {mg:Str→Option Value} {base:Heap} {j k:Nat} {x:Str} {ps N:List Str} {sp:Sp} {st:Stmt}
theorem TF.mono (h:TF P w K mg base j x ps sp) (hjk:j≤k):TF P w K mg base k x ps sp:=by
 obtain⟨f,fd,a,r⟩:=h.ex
 exact⟨f,fd,a.mono hjk,r⟩
theorem Def.aad (F:Def K mg x st ps) (S:ZX N ps (Z9 st)) (len:∀vs H Q E,sp vs H Q E→vs.length=ps.length)
 (hbody:∀(f:Addr) (cdv:Value) (A:Around) (outer:List Env) (s:Shared) (H:Hp) (vs:List V) (Q:VK) (E:XK),YC k (A.deeper (envOfC x (Z9 st) s.heap.objs.size f cdv))→sp vs H Q E →
  ∃t,QF (Vp (IV P w) P w K mg base N x (Z9 st) f cdv A outer s H E) (Z2 st) t∧t {nx:=λ_ H'=>Q .non H',rt:=Q} (start N vs) H):TF P w K mg base (k+1) x ps sp:=by
 obtain⟨f,fd,G,b,m⟩:=F.ex
 obtain⟨oc,od,kV,doc,pm,an,cdv,ct,osl,e,lk,hcd⟩:=G.ex
 subst e
 exact⟨f,_,Bo lk hcd S len (hbody f cdv),b,G.kp,m⟩
end
section
variable {X:Cx} {k:Nat} {x:Str} {ps:List Str} {sp:Sp} {p pos:Pos} {e:Expr} {es:List Expr} {t:TA} {W:St→XK} {E:XK}
theorem Passes.Gw {CX:Dy} (h:Passes CX X E):Ug CX X (λ_=>E):=λpins σ H s e s' I q=>h pins σ H s e s' I q
def aae (sp:Sp) (W:St→XK) (t:TA):TE:=λσ H Q=>t σ H λvs H1=>sp vs H1 Q (W σ)
theorem Zc (F:TF X.prog X.w X.K X.mg X.base k x ps sp) (hr:YC k X.A) (hx:Ug (IV X.prog X.w) X W) (ha:PA X (e :: es) t) (hg:Gl X x:=by rfl)
 (hdb:(x==("__debug__":Str))=false:=by decide) (he:starEach (e :: es) X.env=(false,eval e X.env) :: starEach es X.env:=by rfl) (hpl:(backTo pos (starEach es X.env)).any (·.1)=false:=by rfl):
 PE X (.Call (.Name x p) (e :: es) [] pos) (aae sp W t):=by
 obtain⟨f,fd,G,b,c,d⟩:=F.ex
 intro pins s σ H Q I h
 refine(n_ G hr hg d c b .nil hx ha hdb he hpl) pins s σ H Q I ?_
 show t σ H λvs H1=>sp (vs++[]) H1 Q (W σ)
 simp only[List.append_nil]
 exact h
end
def Iw (A:Around):Around:={A with handled:=none}
def Ax (k:Nat) (A:Around):Prop:=YC k (Iw A)
theorem YC.held {k:Nat} {A:Around} (r:YC k A) (e:Value):Ax k (A.mark (some e)):=⟨rfl,r.dp,r.un⟩
abbrev Cx.cR (X:Cx):Cx:={X with calm:=false}
structure abV (P:Program) (w:World) (K:PySem.W.Frag) (mg:Str→Option Value) (base:Heap) (k:Nat) (f:Addr) (fd:FuncData) (ps:List Str) (sp:Sp):Prop where
 len:∀vs H Q E,sp vs H Q E→vs.length=ps.length
 run:∀(A:Around) (outer:List Env) (s:Shared) (H:Hp) (args:Args) (us:List Value) (vs:List V) (Q:VK) (E:XK),Ax k A→Dw P w K mg base A outer s H→BindsTo s fd args (ps.zip us)→Vals vs us→sp vs H Q E →
  codeAny (model P w) A (.call (.ref f) args) (CR Je outer P w H s Q E) s
structure wV (P:Program) (w:World) (K:PySem.W.Frag) (mg:Str→Option Value) (base:Heap) (k:Nat) (x:Str) (ps:List Str) (sp:Sp):Prop where
 ex:∃f fd,abV P w K mg base k f fd ps sp∧Binds K fd ps []∧PySem.W.keepIn K (.ref f)=true∧mg x=some (.ref f)
section
variable {P:Program} {w:World} {K:PySem.W.Frag} {mg:Str→Option Value} {base:Heap} {j k:Nat} {x:Str} {ps N:List Str} {sp:Sp} {st:Stmt}
theorem wV.mono (h:wV P w K mg base j x ps sp) (hjk:j≤k):wV P w K mg base k x ps sp:=by
 obtain⟨f,fd,a,r⟩:=h.ex
 exact⟨f,fd,⟨a.len,λA outer s H args us vs Q E hr=>a.run A outer s H args us vs Q E (YC.mono hr hjk)⟩,r⟩
theorem Def.aef (F:Def K mg x st ps) (S:ZX N ps (Z9 st)) (len:∀vs H Q E,sp vs H Q E→vs.length=ps.length)
 (hbody:∀(f:Addr) (cdv:Value) (A:Around) (outer:List Env) (s:Shared) (H:Hp) (vs:List V) (Q:VK) (E:XK),Ax k (A.deeper (envOfC x (Z9 st) s.heap.objs.size f cdv))→sp vs H Q E →
  ∃t,QF (Vp Je P w K mg base N x (Z9 st) f cdv A outer s H E).JN.cR (Z2 st) t∧t {nx:=λ_ H'=>Q .non H',rt:=Q} (start N vs) H):wV P w K mg base (k+1) x ps sp:=by
 obtain⟨f,fd,G,b,m⟩:=F.ex
 obtain⟨oc,od,kV,doc,pm,an,cdv,ct,osl,e,lk,hcd⟩:=G.ex
 subst e
 refine⟨f,_,⟨len,λA outer s H args us vs Q E hr e0 hb r hsp=>?_⟩,b,G.kp,m⟩
 have ll:=len _ _ _ _ hsp
 have stay:∀b o,base.get? b=some o→s.heap.get? b=some o:=λb o z=>(e0.bs b o z).1
 have ki:K.In s.heap:=e0.mod.dM.keeps stay
 have par:∀y∈ps.zip us,(Z9 st).names.lookup y.1=some .local∨((Z9 st).names.lookup y.1=some .cell∧((cellsFrom (s.heap.objs.size+1) (Z9 st).names []).lookup y.1).isSome=true):=λy hy=>by
  rcases S.par y.1 (List.of_mem_zip (show(y.1,y.2)∈_ from hy)).1 with z |z
  ·exact .inl z
  ·exact .inr ⟨z,PySem.W.cellsFrom_some _ _ _ (.inl z)⟩
 refine codeAny_call_function (YC.depth (A:=Iw A) hr) (ki _ _ lk) rfl S.co S.gen rfl (PySem.W.codeRec_of ki hcd) (hb _ _ _ _ ?_)
 refine wpAny_newFunctionEnv_cells S.kind par λenv he s1 y=>?_
 subst he
 refine⟨(e0.mod.nolimit.keeps stay).keeps y.toInCall.keep,codeAny_func ?_⟩
 have hr2:Ax k (A.deeper (envOfC x (Z9 st) s.heap.objs.size f cdv)):=by
  have z:=YC.deeper (A:=Iw A) hr (envOfC x (Z9 st) s.heap.objs.size f cdv)
  exact⟨rfl,z.dp,z.un⟩
 obtain⟨t,ht,hq⟩:=hbody f cdv A outer s H vs Q E hr2 hsp
 have I0:=Fj (CX:=Je) (qual:=x) (f:=f) (cd:=cdv) (E:=E) (A:=Iw A) S rfl (⟨e0.frames,e0.mod,e0.bs,e0.yd,e0.QG,e0.tD,e0.hok,e0.bare⟩:Dw P w K mg base (Iw A) outer s H) ll r y
 have I:Inv (Vp Je P w K mg base N x (Z9 st) f cdv A outer s H E).JN.cR [] (start N vs) H s1:=
  ⟨⟨I0.ok.mod,I0.ok.kind,I0.ok.glob,I0.ok.blt,I0.ok.above,I0.ok.inj,I0.ok.has,I0.ok.cab,(λz=>nomatch z),Around.frames_deeper e0.frames,I0.ok.stk,I0.ok.bJ,I0.ok.bs,I0.ok.yd,I0.ok.Gu,I0.ok.DQ,I0.ok.QG,I0.ok.tD⟩,
    I0.os,I0.bare,I0.base,I0.loc,I0.cell,I0.free,I0.Uq,I0.pin,I0.hok,I0.len⟩
 refine wpAny_mono (ht [] s1 (start N vs) H _ I hq) (λfl s' hs=>?_) λe s' hs=>False.elim hs
 cases fl with
 |ret u =>
  obtain⟨v,σ',H',J,rv,q⟩:=hs
  exact⟨v,H',J.os,J.bare,J.base,J.hok,rv,q⟩
 |next =>
  obtain⟨σ',H',J,q⟩:=hs
  exact⟨.non,H',J.os,J.bare,J.base,J.hok,rfl,q⟩
 |brk=>obtain⟨_,_,_,q⟩:=hs;exact False.elim q
 |cont=>obtain⟨_,_,_,q⟩:=hs;exact False.elim q
end
section
variable {X:Cx} {k:Nat} {x:Str} {ps:List Str} {sp:Sp} {p pos:Pos} {e:Expr} {es:List Expr} {t:TA}
theorem rQ (F:wV X.prog X.w X.K X.mg X.base k x ps sp) (hr:Ax k X.A) (ha:PA X (e :: es) t) (hg:Gl X x:=by rfl)
 (hdb:(x==("__debug__":Str))=false:=by decide) (he:starEach (e :: es) X.env=(false,eval e X.env) :: starEach es X.env:=by rfl) (hpl:(backTo pos (starEach es X.env)).any (·.1)=false:=by rfl):
 PE X (.Call (.Name x p) (e :: es) [] pos) (oZ sp t):=by
 obtain⟨f,fd,G,b,c,d⟩:=F.ex
 intro pins s σ H Q I h
 refine wpAny_Call_Name_kw (Tc I hg d ?_ hdb)
 refine PySem.W.callWith_K (h₀:=X.base) I.ok.mod.dM c (Yy (ha pos pins s σ H _ I h) λus s1 z=>?_) he hpl
 obtain⟨vs,H1,I1,r,q⟩:=z
 refine⟨I1.Qx,?_⟩
 have ll:(us++[]).length=ps.length:=by rw[List.append_nil,←r.length];exact G.len _ _ _ _ q
 have bb:=b s1 us I1.Qx ll
 rw[List.append_nil]at bb
 refine wpAny_call (codeAny_mono (G.run X.A X.stack s1 H1 ⟨us,[]⟩ us vs Q E0 hr I1.env0 bb r q) λres s' hq=>?_)
 match res,hq with
 | .error e,hq=>exact False.elim hq
 | .ok (.ret u),hq=>exact I1.after hq
 | .ok .next,hq=>exact False.elim hq
 | .ok .brk,hq=>exact False.elim hq
 | .ok .cont,hq=>exact False.elim hq
end
end L2
namespace L2
open PySem PySem.Spec PyProof.Rows
section
variable {X:Cx}
theorem PS.JN {st:Stmt} {t:TS} (h:PS X.JN st t):PS X st t:=λpins s σ H D I hw =>
 wpAny_mono (h pins s σ H D (I.wish _) hw) (λ_ _ q=>q.Vr) λ_ _ z=>False.elim z
theorem Dj {tg iter:Expr} {body:List Stmt} {wi:TI} {g:TG} {tb:TS} {pos:Pos} (hc:X.calm=true) (hi:PI X.JN tg iter wi) (hg:PG X.JN tg g) (hb:QF X.JN body tb)
 (hs:∀x,foldedSetIterable iter X.env x=pure x:=by intro _;rfl):PS X (.For tg iter body [] pos) (abk wi g tb):=PS.JN (Xa PassesOwn.never hc hi hg hb hs)
theorem rP {c:Expr} {body:List Stmt} {tc:TT} {tb:TS} {pos:Pos} (hc:PT X.JN c tc) (hb:QF X.JN body tb):PS X (.While c body [] pos) (pX tc tb):=PS.JN (Ji PassesOwn.never hc hb)
end
end L2
namespace L2
open PySem PySem.Spec PyProof.Rows
theorem wU {x:Value} {c d:Env} (h:c.frame=d.frame):noteFrame x c=noteFrame x d:=by
 unfold noteFrame PySem.frameOf
 rw[h]
def Iv (B:Heap) (l:List Env) (e:Addr) (c a:Value) (fl:Value) (h:Heap):Prop:=B.StaysIn h∧B.get? e=none∧h.FunFrames B l∧h.TracedAtW B e c a fl
section
variable {M:Model} {A:Around} {E:Value→Shared→Prop} {s:Shared} {B:Heap} {l:List Env} {e:Addr} {c a fl:Value}
theorem nU {h:Heap} {T:Addr} {oT:Obj} {ts:Array Value} (v:Value) (hT:h.get? T=some oT) (hdT:oT.data= .fields ts) (b:Addr):
 (b≠T→(h.update T (Obj.mapFields λz=>z.setIfInBounds 3 v)).get? b=h.get? b)∧(∀o,h.get? b=some o→(∀vs,o.data≠ .fields vs)→(h.update T (Obj.mapFields λz=>z.setIfInBounds 3 v)).get? b=some o):=by
 have h1:b≠T→(h.update T (Obj.mapFields λz=>z.setIfInBounds 3 v)).get? b=h.get? b:=λq=>Heap.get?_update_other _ _ (Ne.symm q)
 refine⟨h1,λo ho hn=>?_⟩
 by_cases q:b=T
 ·subst q
  rw[hT]at ho
  cases ho
  exact absurd hdT (hn ts)
 ·rw[h1 q];exact ho
theorem uR {fr:Option Addr} {Q:Unit→Shared→Prop} (R:Iv B l e c a fl s.heap)
 (q:∀h',Iv B l e c a (fr.elim Value.none λf=>rawInt f) h'→s.heap.UpToSlots h'→Q () {s with heap:=h'}):wpAny M A (setFlight (.ref e) fr) Q E s:=by
 obtain⟨st,en,ff,oe,vs,T,oT,ts,g1,g2,g3,g4,g5,g6,g7,g8,g9⟩:=R
 have z3:3<ts.size:=(Array.getElem?_eq_some_iff.mp g9).1
 have pt:=nU (fr.elim Value.none λf=>rawInt f) g7 g8
 have ne:(Value.ref T != Value.none)=true:=by simp
 unfold setFlight
 refine wpAny_bind (wpAny_field g1 g3 g4 ?_)
 rw[if_pos ne]
 refine wpAny_setField g7 g8 z3 (q _ ?_ ?_)
 ·refine⟨λb o hb=>?_,en,ff.of_keeps λb o hb hn=>⟨o,(pt b).2 o hb hn,rfl⟩,oe,vs,T,_,_,?_,g2,g3,g4,g5,g6,Heap.get?_update_self _ g7 (Obj.isFreed_of_fields (Obj.data_mapFields g8 λz=>z.setIfInBounds 3 (fr.elim Value.none λf=>rawInt f))),Obj.data_mapFields g8 λz=>z.setIfInBounds 3 (fr.elim Value.none λf=>rawInt f),?_⟩
  ·have:b≠T:=λz=>by rw[z,g5]at hb;cases hb
   exact((pt b).1 this).trans (st b o hb)
  ·exact((pt e).1 (Ne.symm g6)).trans g1
  ·simp[z3]
 ·exact λb o hb hn=>⟨o.slots,(pt b).2 o hb hn⟩
theorem nT {α:Type} {what:String} {v:Env} {Q:α→Shared→Prop} (R:Iv B l e c a fl s.heap)
 (q:∀h' fl',Iv B l e c a fl' h'→s.heap.UpToSlots h'→E (.ref e) {s with heap:=h'}):wpAny M A (PySem.passOn what (.ref e) v) Q E s:=by
 obtain⟨_,_,_,oe,vs,T,oT,ts,g1,g2,g3,g4,_⟩:=id R
 unfold PySem.passOn
 refine wpAny_bind (wpAny_field g1 g3 g4 ?_)
 rw[if_neg (show ¬(Value.ref T==Value.none)=true by simp)]
 first
  |exact wpAny_bind (wpAny_pure (wpAny_bind (uR R λh' R' up=>wpAny_throw (q h' _ R' up))))
  |exact wpAny_bind (uR R λh' R' up=>wpAny_throw (q h' _ R' up))
theorem rO {env:Env} {outer:List Env} {L:Addr} {Q:Unit→Shared→Prop} (hfr:A.frames=some (env :: outer)) (hf:env.frame=some L) (R:Iv B (env :: outer) e c a fl s.heap)
 (q:∀h',Heap.FlyingW B outer e c a h'→s.heap.UpToSlots h'→Q () {s with heap:=h'}):wpAny M A (leaving env (.ref e)) Q E s:=by
 obtain⟨st,en,ff,tr⟩:=id R
 obtain⟨oe,vs,T,oT,ts,g1,g2,g3,g4,g5,g6,g7,g8,g9⟩:=id tr
 by_cases hv:(fl==rawInt L)=true
 ·have ev:fl=rawInt L:=by simpa using hv
  subst ev
  have hh:Heap.HeldW B (env :: outer) e c a L s.heap:=R
  unfold leaving
  refine wpAny_bind (wpAny_noteFrame_againW hf hh.2.2.2 (wpAny_landsW hh λh' hfl up=>?_))
  exact q h' ⟨hfl.1,hfl.2.1,hfl.2.2.1.2.2,hfl.2.2.2⟩ up
 ·have pt:=nU Value.none g7 g8
  obtain⟨gc,g0⟩:=g2
  subst gc
  unfold leaving noteFrame
  simp only[hf]
  refine wpAny_bind (wpAny_bind (wpAny_field g1 g3 g4 ?_))
  rw[if_pos (show(Value.ref T != Value.none)=true by simp)]
  refine wpAny_bind (wpAny_field g7 g8 g9 ?_)
  rw[if_neg hv]
  refine wpAny_bind (wpAny_setField g7 g8 (Array.getElem?_eq_some_iff.mp g9).1 ?_)
  have e1:=((pt e).1 (Ne.symm g6)).trans g1
  refine wpAny_newEntryW hfr (ff.of_keeps λb o hb hn=>⟨o,(pt b).2 o hb hn,rfl⟩) hf e1 (λb o hb=>?_) en g3 (Array.getElem?_eq_some_iff.mp g4).1 g0 λh' x=>?_
  ·have:b≠T:=λz=>by rw[z,g5]at hb;cases hb
   exact((pt b).1 this).trans (st b o hb)
  ·obtain⟨x1,x2,x3,x4⟩:=x
   exact q h' ⟨x1,en,x2.2.2,x3⟩ λb o hb hn=>x4 b o ((pt b).2 o hb hn) hn
end
end L2
namespace L2
open PySem PySem.Spec PyProof.Rows
section
variable {prog:Program} {w:World} {A:Around} {R:Result→Shared→Prop} {s:Shared}
theorem Gk {elt target iter:Expr} {ifs:List Expr} {scope:Scope} {pos:Pos} {it acc:Value} {env:Env} {EX:Value→Shared→Prop} (hEX:∀x s',EX x s'→notedBy (model prog w) A env (λx s'=>R (.error x) s') x s') (I:Nat→Shared→Prop)
 (turn:∀n s,I n s→wpAny (model prog w) A (pyNext it) (λr s1=>match r with
  |none=>R (.ok .next) s1
  |some v=>wpAny (model prog w) A (letOwnedTupleGo target it v) (λ_ s2=>wpAny (model prog w) A (assign target env v) (λ_ s3 =>
   wpAny (model prog w) A (Dq ifs env) (λok s4 =>
    if ok=true then wpAny (model prog w) A (eval elt env) (λx s5 =>
     wpAny (model prog w) A (call (.builtin "list.append") [acc,x]) (λ_ s6=>∃m,m<n∧I m s6) EX s5) EX s4
    else ∃m,m<n∧I m s4) EX s3) EX s2) EX s1) EX s)
 (n:Nat) (h:I n s):
 codeAny (model prog w) A (.compLoop (.ListComp elt [⟨target,iter,ifs,0⟩] scope pos) 0 it acc env) R s:=by
 refine codeAny_loop rfl I (λn s hI=>?_) n h
 show wpAny _ A ((compTurn (.ListComp elt [⟨target,iter,ifs,0⟩] scope pos) 0 it acc env).onRaise (λx=>do noteFrame x env;theTreesLotGoes x)) _ _ s
 refine wpAny_noted ?_
 rw[compTurn_list]
 refine wpAny_bind (wpAny_standAt (wpAny_bind (wpAny_mono (turn n s hI) (λr s1 h1=>?_) hEX)))
 cases r with
 |none=>exact wpAny_pure h1
 |some v =>
  refine wpAny_bind (wpAny_mono h1 (λ_ s2 h2=>?_) hEX)
  refine wpAny_bind (wpAny_mono h2 (λ_ s3 h3=>wpAny_bind (wpAny_mono h3 (λok s4 h4=>?_) hEX)) hEX)
  cases ok with
  |false=>exact wpAny_pure ⟨rfl,h4⟩
  |true =>
   exact wpAny_bind (wpAny_bind (wpAny_mono h4 (λx s5 h5=>wpAny_bind (wpAny_mono h5 (λ_ s6 h6=>wpAny_pure (wpAny_pure ⟨rfl,h6⟩)) hEX)) hEX))
end
def aaf (X:Cx) (E:XK):Prop:=(X.stack=X.env :: X.outer∧X.env.frame=some X.env.locals∧X.ex=[])∧∀(pins:List (Addr×Obj)) (σ:St) (H:Hp) (s:Shared) (a C t:Addr) (B:Heap) (fl:Value),Inv X pins σ H s→Iv B X.stack a (.ref C) (.ref t) fl s.heap→Qz X.prog X.w H B →
 (∀b o,X.s₀.heap.get? b=some o→X.H₀ b=none→b∉frs X.outer→B.get? b=some o)→(∀b o,X.s₀.heap.get? b=some o→b∉frs X.outer→∃o',B.get? b=some o')→E (.ref C) none H→X.xe (.ref a) s
theorem aeg {P:Program} {w:World} {K:PySem.W.Frag} {mg:Str→Option Value} {base:Heap} {N:List Str} {qual:Str} {scope:Scope} {f:Addr} {cd:Value} {A:Around} {outer:List Env} {s:Shared} {H:Hp} {E:XK}:
 aaf (Vp (IV P w) P w K mg base N qual scope f cd A outer s H E) E:=by
 refine⟨⟨rfl,rfl,rfl⟩,λpins σ H1 s1 a C t B fl I R hk kB tB he=>?_⟩
 show wpAny (model P w) (A.deeper (envOfC qual scope s.heap.objs.size f cd)) (leaving (envOfC qual scope s.heap.objs.size f cd) (.ref a)) _ _ s1
 refine rO (outer:=outer) (L:=s.heap.objs.size) I.ok.frames rfl R λh' x1 up=>?_
 have u0:Un (frs outer) [] H H1 s.heap s1.heap:=I.base
 exact⟨a,C,H1,rfl,I.os,I.bare,⟨u0.turn R.2.2.1.2.2 x1.1 up kB tB,B,t,x1,hk,kB,tB⟩,he⟩
structure rN (X:Cx) (E:XK) (vars:List Str) (caps:List Nat) (scope:Scope) (tg:Expr) (ifs:List Expr) (elt:Expr) (g:TG) (tt:TT) (te:TE):Prop where
 ok:∀(s3:Shared) (H3:Hp) (fp:List Addr) (pins:List (Addr×Obj)),PG ((W_ X (UL X vars caps) scope s3 H3 fp pins).wish (XT (W_ X (UL X vars caps) scope s3 H3 fp pins) λ_=>E)) tg g ∧
  PTs ((W_ X (UL X vars caps) scope s3 H3 fp pins).wish (XT (W_ X (UL X vars caps) scope s3 H3 fp pins) λ_=>E)) ifs tt∧PE ((W_ X (UL X vars caps) scope s3 H3 fp pins).wish (XT (W_ X (UL X vars caps) scope s3 H3 fp pins) λ_=>E)) elt te
section
variable {X:Cx} {E:XK} {vars:List Str} {caps:List Nat} {scope:Scope} {pins:List (Addr×Obj)} {σ:St} {H:Hp} {s:Shared} {fp:List Addr}
theorem Iu {h h' B B':Heap} {c:Addr}:∀{l:List Env},h.FunFrames B l→(∀b,b≠c→h'.get? b=h.get? b)→(∀b,B.get? b=none→B'.get? b=none)→c∉frs l→h'.FunFrames B' l
 | [],_,_,_,_=>trivial
 |v :: r,⟨k,⟨L,o,hf,hn,ho,hd⟩,hr⟩,h1,h2,h3=>by
  have m:L∈frs (v :: r):=List.mem_filterMap.mpr ⟨v,List.mem_cons_self,hf⟩
  exact⟨k,⟨L,o,hf,h2 L hn,by rw[h1 L (λz=>h3 (z▸m))];exact ho,hd⟩,Iu hr h1 h2 λz=>h3 (by
   obtain⟨u,hu,hv⟩:=List.mem_filterMap.mp z
   exact List.mem_filterMap.mpr ⟨u,List.mem_cons_of_mem _ hu,hv⟩)⟩
theorem Aw {acc:Value} {cenv:Env} {Q:Value→Shared→Prop} (S:ZD X scope caps) (ho:aaf X E) (I:Inv X pins σ H s) (hf:∀b∈fp,Qv X pins H b) (hce:cenv.frame=X.env.frame) {e:Value} {s':Shared}
 (z:XT (W_ X (UL X vars caps) scope s H fp pins) (λ_=>E) e s'):
 notedBy (model X.prog X.w) X.A cenv (λx s'=>compPost (model X.prog X.w) X.A X.xe none Q acc s.heap.objs.size (.error x) s') e s':=by
 obtain⟨pp,σ1,H1,s0,I1,a,C,H',ea,eos,bare,F,he⟩:=z
 subst ea
 obtain⟨⟨hst,hfr,hex⟩,hout⟩:=ho
 obtain⟨B,t,fl,hk,kB,tB⟩:=F.fl
 have F:Fly X.prog X.w X.stack H1 s0.heap H' a C s'.heap:=F
 have fl:Heap.FlyingW B X.stack a (.ref C) (.ref t) s'.heap:=fl
 have un:=F.un
 have ff:=fl.2.2.1
 have frames:X.A.frames=some (X.env :: X.outer):=by rw[←hst];exact I.ok.frames
 have fl':Heap.FlyingW B (X.env :: X.outer) a (.ref C) (.ref t) s'.heap:=by rw[←hst];exact fl
 have I0:Inv X pins σ H1 s0:=S.behind I hf I1
 show wpAny (model X.prog X.w) X.A (noteFrame (.ref a) cenv) _ _ s'
 rw[wU hce]
 refine wpAny_looks_onW frames hfr fl' λh4 Ay up4=>?_
 have IY:Inv (W_ X (UL X vars caps) scope s H fp pins) pp σ1 H' {s' with heap:=h4}:=
  I1.call' (s':={s' with heap:=h4}) (ch:=[]) eos (un.turn ff Ay.1 up4 kB tB) (hk.kept Ay.1) bare λb hb=>absurd hb (by simp)
 obtain⟨m,hm,_⟩:=id IY.loc
 have hC:H' s.heap.objs.size=none:=IY.free
 refine⟨m,hm,λh' sb v hv=>?_⟩
 have ob:∀b,b≠s.heap.objs.size→h'.get? b=h4.get? b:=λb hb=>sb.2 b hb
 have abW:∀(b:Addr) (o:Obj) (vs:Array Value),h4.get? b=some o→o.data= .fields vs→b≠s.heap.objs.size:=λb o vs e1 e2 z=>by
  obtain⟨o',es,ep,e3,d,_⟩:=hm
  have e3':h4.get? s.heap.objs.size=some o':=e3
  rw[z,e3']at e1
  cases e1
  rw[d]at e2
  cases e2
 have ncf:s.heap.objs.size∉frs X.stack:=λz=>by
  obtain⟨_,o,e1,_⟩:=I.stack.mem z
  exact absurd (Heap.lt_size e1) (Nat.lt_irrefl _)
 have hB2:∀b o,(PySem.W.hideAll B [s.heap.objs.size]).get? b=some o→b≠s.heap.objs.size∧B.get? b=some o:=λb o q=>⟨λz=>by {
  rw[z,PySem.W.hideAll_none _ (by simp)]at q
  cases q},PySem.W.of_hideAll _ q⟩
 have hB3:∀b,B.get? b=none→(PySem.W.hideAll B [s.heap.objs.size]).get? b=none:=λb n=>by
  cases q:(PySem.W.hideAll B [s.heap.objs.size]).get? b with
  |none=>rfl
  |some o=>rw[(hB2 b o q).2]at n;cases n
 have R:Iv (PySem.W.hideAll B [s.heap.objs.size]) X.stack a (.ref C) (.ref t) (rawInt X.env.locals) h':=by
  obtain⟨k1,k2,k3,oe,vs,T,oT,ts,g1,g2,g3,g4,g5,g6,g7,g8,g9⟩:=Ay
  refine⟨λb o q=>?_,hB3 _ k2,Iu (by rw[hst];exact k3) ob hB3 ncf,oe,vs,T,oT,ts,?_,g2,g3,g4,hB3 _ g5,g6,?_,g8,g9⟩
  ·obtain⟨n1,q1⟩:=hB2 b o q
   rw[ob b n1];exact k1 b o q1
  ·rw[ob a (abW a oe vs g1 g3)];exact g1
  ·rw[ob T (abW T oT ts g7 g8)];exact g7
 refine nT (s:={s' with heap:=h'}) R λh5 fl5 R5 up5=>?_
 have u5:Un (frs X.stack) [s.heap.objs.size] H1 H' s0.heap h5:=by
  have kB':∀b o,s0.heap.get? b=some o→H1 b=none→b∉frs X.stack→b∉[s.heap.objs.size]→h5.get? b=some o:=λb o q n nb nc=>R5.1 b o (PySem.W.hideAll_get _ (kB b o q n nb) nc)
  have up:∀b o,b∉[s.heap.objs.size]→s'.heap.get? b=some o→(∀vs,o.data≠ .fields vs)→∃sl,h5.get? b=some {o with slots:=sl}:=λb o nc q d=>by
   obtain⟨sl,e1⟩:=up4 b o q d
   have e2:h'.get? b=some {o with slots:=sl}:=by rw[ob b (by simpa using nc)];exact e1
   obtain⟨sl2,e3⟩:=up5 b _ e2 d
   exact⟨sl2,e3⟩
  refine⟨λb o q n nb nc=>kB' b o q n nb nc,λb o q n nb nc=>?_,λb o q n _=>un.free b o q n (by simp),λb o q nc=>?_,un.tups,un.R3,un.Rq⟩
  ·obtain⟨sl,e1⟩:=un.slot b o q n nb (by simp)
   obtain⟨_,o',ho',hd⟩:=ff.mem nb
   rw[e1]at ho';cases ho'
   obtain⟨sl2,e2⟩:=up b _ nc e1 hd
   exact⟨sl2,e2⟩
  ·by_cases nb:b∈frs X.stack
   ·obtain⟨_,o',ho',hd⟩:=ff.mem nb
    obtain⟨sl2,e2⟩:=up b _ nc ho' hd
    exact⟨_,e2⟩
   ·obtain⟨o',e⟩:=tB b o q nb
    exact⟨o',R5.1 b o' (PySem.W.hideAll_get _ e nc)⟩
 have hk2:Qz X.prog X.w H' (PySem.W.hideAll B [s.heap.objs.size]):=Qz.hide hk (by simpa using hC)
 have I5:Inv X pins σ H' {s' with heap:=h5}:=I0.call' (s':={s' with heap:=h5}) (ch:=[s.heap.objs.size]) eos u5 (hk2.kept R5.1) bare λb hb=>by
  have eb:b=s.heap.objs.size:=by simpa using hb
  subst eb
  refine⟨.inr I.sz,λz=>absurd (z▸I.lt) (Nat.lt_irrefl _),λx c e z=>?_,λp hp z=>?_⟩
  ·obtain⟨v,hv⟩:=I.cell x c e
   exact absurd (z▸hv.lt) (Nat.lt_irrefl _)
  ·exact absurd (z▸Heap.lt_size (I.pin p hp).1) (Nat.lt_irrefl _)
 have low:∀b o,X.s₀.heap.get? b=some o→b∉frs X.outer→b∉frs X.stack∧b∉[s.heap.objs.size]:=λb o q nb=>by
  have lt:=Heap.lt_size q
  refine⟨λz=>?_,λz=>?_⟩
  ·rw[hst]at z
   have z':b∈X.env.locals :: frs X.outer:=by
    have:frs (X.env :: X.outer)=X.env.locals :: frs X.outer:=by rw[frs,List.filterMap_cons,hfr];rfl
    rw[←this];exact z
   rcases List.mem_cons.mp z' with e1 |e1
   ·exact absurd (Nat.lt_of_lt_of_le lt I.ok.above) (by rw[e1];exact Nat.lt_irrefl _)
   ·exact nb e1
  ·have:b=s.heap.objs.size:=by simpa using z
   exact absurd (Nat.lt_of_lt_of_le lt I.sz) (by rw[this];exact Nat.lt_irrefl _)
 have ub:Un (frs X.outer) [] X.H₀ H1 X.s₀.heap s0.heap:=by
  have:=I0.base
  rw[hex]at this
  exact this
 refine hout pins σ H' _ a C t _ fl5 I5 R5 hk2 (λb o q n nb=>?_) (λb o q nb=>?_) he
 ·exact PySem.W.hideAll_get _ (kB b o (ub.keep b o q n nb (by simp)) (ub.free b o q n (by simp)) (low b o q nb).1) (low b o q nb).2
 ·obtain⟨o1,e1⟩:=ub.there b o q (by simp)
  obtain⟨o2,e2⟩:=tB b o1 e1 (low b o q nb).1
  exact⟨o2,PySem.W.hideAll_get _ e2 (low b o q nb).2⟩
end
section
variable {X:Cx} {E:XK} {vars:List Str} {caps:List Nat} {scope:Scope} {tg iter elt:Expr} {ifs:List Expr} {pos:Pos} {wi:TI} {g:TG} {tt:TT} {te:TE}
theorem nR (S:ZD X scope caps) (hc:X.calm=true) (ho:aaf X E) (hi:PI X tg iter wi) (B:rN X E vars caps scope tg ifs elt g tt te) (hs:∀x,foldedSetIterable iter X.env x=pure x:=by intro _;rfl):
 PE X (.ListComp elt [⟨tg,iter,ifs,0⟩] scope pos) (dh vars caps wi g tt te):=by
 intro pins s σ H Q I h
 rw[eval_ListComp]
 refine wpAny_comprehension_free (use:=none) rfl hs (Oe (S.cells I)) S.kind S.loc ?_
 refine Yy (hi pins s σ H _ I h) λv s1 h1=>Yy h1 λitv s2 h2=>?_
 obtain⟨it,fp,tn,J,H1,e,I2,T,st2,f2,q⟩:=h2
 subst e
 refine wpAny_newObj_type ?_
 have hfr:H1 s2.heap.objs.size=none:=I2.hok.fresh (Nat.le_refl _)
 obtain⟨W,⟨m0,w0⟩,turn⟩:=q s2.heap.objs.size hfr
 generalize hs3:({s2 with heap:=s2.heap.push {cls:=.type "list",dict:=none,data:=.seq ([]:List Value).toArray}}:Shared)=s3
 have hsz:s3.heap.objs.size=s2.heap.objs.size+1:=by rw[←hs3];simp[Heap.size_push]
 have old:∀b o,s2.heap.get? b=some o→s3.heap.get? b=some o:=λb o e=>by rw[←hs3];exact Heap.get?_push_of_some _ e
 have I3:Inv X pins σ (upd H1 s2.heap.objs.size (.lst [])) s3:=by
  rw[←hs3]
  exact I2.laid (t':=s2.toks) (λb u e=>Heap.get?_push_of_some _ e) (Nat.le_refl _) ⟨by show 0≤sizeLine;decide,[],0,.nil,Heap.get?_push_size _ rfl⟩
 have hob:∀b∈fp,∃o,s2.heap.get? b=some o:=λb hb=>by
  obtain⟨o,ho,_⟩:=T.obj 0 _ st2 b hb
  exact⟨o,ho⟩
 have f3:∀b∈fp,Qv X pins (upd H1 s2.heap.objs.size (.lst [])) b:=λb hb=>by
  obtain⟨o,ho⟩:=hob b hb
  exact⟨by rw[Zw (Nat.ne_of_lt (Heap.lt_size ho))];exact(f2 b hb).1,(f2 b hb).2⟩
 have oV:∀b∈fp,∃o,s3.heap.get? b=some o:=λb hb=>by
  obtain⟨o,ho⟩:=hob b hb
  exact⟨o,old b o ho⟩
 refine wpAny_newFunctionEnv S.xG (by intro y hy;simp at hy) (λh4 hn4 hs4=>?_) S.kind
 have Bg:∀b o,s3.heap.get? b=some o→h4.get? b=some o:=λb o e=>hs4.extBut b o (Nat.ne_of_lt (Heap.lt_size e)) (Heap.get?_push_of_some _ e)
 have I4:=S.start (vars:=vars) (tk:=s3.toks+([]:List (Str×Value)).length) I3 f3 oV hn4 Bg
 obtain⟨PG',PT',PE'⟩:=B.ok s3 (upd H1 s2.heap.objs.size (.lst [])) fp pins
 have raised:∀(x:Value) (s':Shared),XT (W_ X (UL X vars caps) scope s3 (upd H1 s2.heap.objs.size (.lst [])) fp pins) (λ_=>E) x s' →
  notedBy (model X.prog X.w) X.A (compEnvC scope (UW scope.names X.env.cells []) s3.heap.objs.size X.env) (λx s'=>compPost (model X.prog X.w) X.A X.xe none (EP X pins σ Q) (.ref s2.heap.objs.size) s3.heap.objs.size (.error x) s') x s':=
  λx s' z=>Aw S ho I3 f3 rfl z
 generalize hX:W_ X (UL X vars caps) scope s3 (upd H1 s2.heap.objs.size (.lst [])) fp pins=X' at *
 have st4:tn 0 h4:=T.keep 0 _ _ st2 λb _ o e=>Bg b o (old b o e)
 have eA:X'.A=X.A:=by rw[←hX];rfl
 have eP:X'.prog=X.prog:=by rw[←hX];rfl
 have eW:X'.w=X.w:=by rw[←hX];rfl
 have eK:X'.K=X.K:=by rw[←hX];rfl
 have ec:X'.calm=true:=by rw[←hX];exact hc
 have eE:X'.env=compEnvC scope (UW scope.names X.env.cells []) s3.heap.objs.size X.env:=by rw[←hX];rfl
 have stat:∀{H':Hp},(∀b∈fp,H' b=none)→∀b∈fp,Qv X' [] H' b:=λ{H'} hn b hb=>by
  obtain⟨a1,a2,a3,a4,a5,a6⟩:=f3 b hb
  obtain⟨o,ho⟩:=oV b hb
  rw[←hX]
  refine⟨hn b hb,Nat.ne_of_lt (Heap.lt_size ho),λz=>?_,.inl hb,λx c e=>a5 x c (S.look I3 e),λp hp=>a6 p ?_⟩
  ·rcases List.mem_cons.mp (I3.Lb b z)with e |e
   ·exact a2 e
   ·exact a3 e
  ·have hp:p∈(X.pn++pins)++[]:=hp
   simpa using hp
 have loop:∀s5:Shared,s5={s3 with heap:=h4,toks:=s3.toks+([]:List (Str×Value)).length} →
  codeAny (model X.prog X.w) X.A (.compLoop (.ListComp elt [⟨tg,iter,ifs,0⟩] scope pos) 0 (.ref it) (.ref s2.heap.objs.size) (compEnvC scope (UW scope.names X.env.cells []) s3.heap.objs.size X.env)) (compPost (model X.prog X.w) X.A X.xe none (EP X pins σ Q) (.ref s2.heap.objs.size) s3.heap.objs.size) s5:=by
  rintro s5 rfl
  refine Gk (EX:=XT X' λ_=>E) raised (λn s'=>∃i σ' H',Inv X' [] σ' H' s'∧tn i s'.heap∧(∀b∈fp,H' b=none)∧W i n σ' H') ?_ m0 ⟨0,_,_,I4,st4,λb hb=>(f3 b hb).1,w0⟩
  rintro n s6 ⟨i,σ6,H6,I6,st6,fr6,w6⟩
  rw[←eA,←eE,←eP,←eW]
  rcases turn i n σ6 H6 w6 with⟨stop,qn⟩ | ⟨go,N,hN,step⟩
  ·have z:=T.done X' eP eW eK ec i [] s6 σ6 H6 (XT X' λ_=>E) I6 (stat fr6) st6 stop
   rw[←eP,←eW]at z
   refine Yy z λr s7 ⟨hr,I7⟩=>?_
   subst hr
   obtain⟨m,hm,_⟩:=id I7.loc
   have I7':Inv X pins σ H6 s7:=by
    rw[←hX]at I7
    exact S.behind I3 f3 I7
   have hm:s7.heap.Ns s3.heap.objs.size m:=by rw[eE]at hm;exact hm
   have hC:H6 s3.heap.objs.size=none:=by
    have:=I7.free
    rw[eE]at this
    exact this
   refine⟨m,hm,λh'' hs''=>?_⟩
   have hCL:s3.heap.objs.size≠X.env.locals:=λz=>absurd (Nat.lt_of_lt_of_le I2.lt (z▸(by omega:s2.heap.objs.size≤s3.heap.objs.size))) (Nat.lt_irrefl _)
   exact⟨.ref s2.heap.objs.size,H6,I7'.turned (t':=s7.toks) (λb o hb e=>hs''.extBut b o hb e) hC hCL (.inr (Nat.le_trans I2.sz (by omega))) (λx c e z=>by
    obtain⟨v,hv⟩:=I2.cell x c e
    exact absurd (Nat.lt_of_lt_of_le hv.lt (z▸(by omega:s2.heap.objs.size≤s3.heap.objs.size))) (Nat.lt_irrefl _)) (λp hp z=>by
    exact absurd (Nat.lt_of_lt_of_le (Heap.lt_size (I2.pin p hp).1) (z▸(by omega:s2.heap.objs.size≤s3.heap.objs.size))) (Nat.lt_irrefl _)),rfl,qn⟩
  ·have z:=T.item X' eP eW eK ec i [] s6 σ6 H6 (XT X' λ_=>E) I6 (stat fr6) st6 go
   rw[←eP,←eW]at z
   refine Yy z λr s7 ⟨u,hr,h7⟩=>?_
   subst hr
   refine Yy h7 λ_ s8 ⟨x,H8,I8,r8,y8,aO,fr8⟩=>?_
   have I8':=(I8.pinned (stat fr8) (T.obj _ _ aO)).wish (XT X' λ_=>E)
   have z9:=PG' _ s8 σ6 H8 x u _ I8' r8 (step x H8 y8)
   refine Yy z9 λ_ s9 ⟨σ9,H9,I9,q9⟩=>?_
   have cZ:=PT' _ s9 σ9 H9 _ I9 q9
   refine Yy cZ λok s10 ⟨H10,I10,iU⟩=>?_
   have again:∀{rZ:Shared} {xu:Hp},Inv X' ([]++K_ fp s8.heap) σ9 xu rZ→N σ9 xu→∃m,m<n∧∃i σ' H',Inv X' [] σ' H' rZ∧tn i rZ.heap∧(∀b∈fp,H' b=none)∧W i m σ' H':=λ{rZ xu} oU aN=>by
    obtain⟨m',hm,w11⟩:=hN σ9 xu aN
    refine⟨m',hm,i+1,σ9,xu,oU.Qu,T.keep _ _ _ aO λb hb o e=>(oU.pin (b,o) (List.mem_append_right _ (List.mem_append_right _ (Vq hb e)))).1,λb hb=>?_,w11⟩
    obtain⟨o,e,d⟩:=T.obj _ _ aO b hb
    exact(oU.pin (b,o) (List.mem_append_right _ (List.mem_append_right _ (Vq hb e)))).2.1
   cases ok with
   |false =>
    rw[if_neg Bool.false_ne_true]at iU ⊢
    exact again I10.Vr iU
   |true =>
    rw[if_pos rfl]at iU ⊢
    have cY:=PE' _ s10 σ9 H10 _ I10 iU
    refine Yy cY λv rZ ⟨y,xu,oU,r11,ys,hy,hlen,aN⟩=>?_
    have cX:=Xk (X:=X'.wish (XT X' λ_=>E)) _ rZ σ9 xu (.ref s2.heap.objs.size) [y] _ [v] (λ_ H12=>N σ9 H12) oU rfl (.cons r11 .nil) ⟨_,ys,y,rfl,rfl,hy,hlen,aN⟩
    exact Yy cX λ_ s12 ⟨_,H12,I12,_,n12⟩=>again I12.Vr n12
 exact codeAny_compStart_list (loop _ rfl) (T.self X.A 0 _ _ _ st4 (loop _ rfl))
end
end L2
namespace L2
open PySem PySem.Spec PyProof.Rows
structure JK (K:PySem.W.Frag) (C:Addr) (m q:Str) (st:Stmt) (ps:List Str):Prop where
 ex:∃f fd,dw K m q st f fd∧Binds K fd ps []∧Meth K C m f
structure K1 (P:Program) (w:World) (K:PySem.W.Frag) (mg:Str→Option Value) (base:Heap) (k:Nat) (C:Addr) (m:Str) (ps:List Str) (sp:Sp):Prop where
 ex:∃f fd,Wr P w K mg base Je k f fd ps sp∧Binds K fd ps []∧Meth K C m f
theorem K1.mono {P:Program} {w:World} {K:PySem.W.Frag} {mg:Str→Option Value} {base:Heap} {j k:Nat} {C:Addr} {m:Str} {ps:List Str} {sp:Sp} (h:K1 P w K mg base j C m ps sp) (hjk:j≤k):K1 P w K mg base k C m ps sp:=by
 obtain⟨f,fd,a,b,c⟩:=h.ex
 exact⟨f,fd,a.mono hjk,b,c⟩
structure Di (K:PySem.W.Frag) (mg:Str→Option Value) (x:Str) (C:Addr) (q:Str) (st:Stmt) (ps:List Str):Prop where
 ex:∃f fd,dw K "__init__" q st f fd∧Binds K fd ps []∧Mk K C f∧mg x=some (.ref C)
structure Av (P:Program) (w:World) (K:PySem.W.Frag) (mg:Str→Option Value) (base:Heap) (k:Nat) (x:Str) (C:Addr) (ps:List Str) (sp:Sp):Prop where
 ex:∃f fd,Wr P w K mg base Je k f fd ps sp∧Binds K fd ps []∧Mk K C f∧mg x=some (.ref C)
theorem Av.mono {P:Program} {w:World} {K:PySem.W.Frag} {mg:Str→Option Value} {base:Heap} {j k:Nat} {x:Str} {C:Addr} {ps:List Str} {sp:Sp} (h:Av P w K mg base j x C ps sp) (hjk:j≤k):Av P w K mg base k x C ps sp:=by
 obtain⟨f,fd,a,b,c⟩:=h.ex
 exact⟨f,fd,a.mono hjk,b,c⟩
section
variable {P:Program} {w:World} {K:PySem.W.Frag} {mg:Str→Option Value} {base:Heap} {C:Addr} {m q x:Str} {st:Stmt} {N ps:List Str} {k:Nat} {sp:Sp}
theorem JK.has (F:JK K C m q st ps) (S:ZX N ps (Z9 st)) (len:∀vs H Q E,sp vs H Q E→vs.length=ps.length)
 (hbody:∀(f:Addr) (cdv:Value) (A:Around) (outer:List Env) (s:Shared) (H:Hp) (vs:List V) (Q:VK) (E:XK),YC k (A.deeper (envOfC q (Z9 st) s.heap.objs.size f cdv))→sp vs H Q E →
  ∃t,QF (Vp Je P w K mg base N q (Z9 st) f cdv A outer s H E).JN (Z2 st) t∧t {nx:=λ_ H'=>Q .non H',rt:=Q} (start N vs) H):K1 P w K mg base (k+1) C m ps sp:=by
 obtain⟨f,fd,F,b,h⟩:=F.ex
 exact⟨f,fd,F.ok S len (hbody f),b,h⟩
theorem Di.has (F:Di K mg x C q st ps) (S:ZX N ps (Z9 st)) (len:∀vs H Q E,sp vs H Q E→vs.length=ps.length)
 (hbody:∀(f:Addr) (cdv:Value) (A:Around) (outer:List Env) (s:Shared) (H:Hp) (vs:List V) (Q:VK) (E:XK),YC k (A.deeper (envOfC q (Z9 st) s.heap.objs.size f cdv))→sp vs H Q E →
  ∃t,QF (Vp Je P w K mg base N q (Z9 st) f cdv A outer s H E).JN (Z2 st) t∧t {nx:=λ_ H'=>Q .non H',rt:=Q} (start N vs) H):Av P w K mg base (k+1) x C ps sp:=by
 obtain⟨f,fd,F,b,h⟩:=F.ex
 exact⟨f,fd,F.ok S len (hbody f),b,h⟩
end
section
variable {X:Cx} {k:Nat} {C:Addr} {m x:Str} {ps:List Str} {sp:Sp} {p pos apos:Pos} {o e:Expr} {es:List Expr} {t:TA} {ta:TE} {K:PySem.W.Frag}
def aag (C:Addr) (m:Str) (sp:Sp) (ta:TE) (t:TA):TE:=λσ H Q=>ta σ H λx H1=>∃a dx fs,x= .ref a∧H1 a=some (.ins C dx fs)∧fs.lookup m=none∧t σ H1 λvs H2=>sp (x :: vs) H2 Q E0
theorem Yw {pl:Sem Bool} (he:PE X o ta) (c:Cls X.K C) (F:K1 X.prog X.w X.K X.mg X.base k C m ps sp) (hr:YC k X.A)
 (ht:eval (.Call (.Attribute o m apos) [] [] pos) X.env=(do
  let ov ←eval o X.env
  standAt apos.atName
  let (f,first) ←holding [ov] (getMethod ov m pl)
  callWith pos f first (backTo pos (starEach [] X.env)) (backToKw pos (keywordEach [] X.env))):=by rfl):
 PE X (.Call (.Attribute o m apos) [] [] pos) (aag C m sp ta Dz):=by
 obtain⟨f,fd,G,b,hm⟩:=F.ex
 intro pins s σ H Q I h
 refine(pK (E:=E0) he c hm G hr b .nil o8 ht) pins s σ H Q I ?_
 show ta σ H λx H1=>∃a dx fs,x= .ref a∧H1 a=some (.ins C dx fs)∧fs.lookup m=none∧Dz σ H1 λvs H2=>sp (x :: (vs++[])) H2 Q E0
 simp only[List.append_nil]
 exact h
def aah (C:Addr) (sp:Sp) (t:TA):TE:=λσ H Q=>t σ H λvs H1=>∀x dx,H1 x=none→H1 dx=none→dx≠x →
 sp (.ref x :: vs) (upd (upd H1 dx (.own x)) x (.ins C dx [])) (λv H2=>v= .non∧Q (.ref x) H2) E0
theorem Vw {f:Str} (he:PE X e ta) (hb:attributeBase e f X.env (eval e X.env)=eval e X.env) (h:X.K=K:=by rfl):PE X (.Attribute e f pos) (abo K ta f):=h▸bf he hb
theorem U6 {f:Str} {value:Expr} {pos':Pos} {tv:TE} (ha:PE X o ta) (hv:PE X value tv) (hs:swapsWith value (some (.Attribute o f pos')) pos.line X.env=pure false) (h:X.K=K:=by rfl):PS X (.Assign [.Attribute o f pos'] value pos) (abp K ta tv f):=h▸aZ ha hv hs
end
theorem Mx {K:PySem.W.Frag} {C f:Addr} {m q:Str} {st:Stmt} {ps:List Str} {oc:Value} {od an:Option Addr} {osl:Array (Option Value)} {kV doc pm cdv ct:Value}
 (a:PySem.W.findIn K (.ref C) m=some (some (.ref f))) (i:PySem.W.isFn K (.ref f)=true) (l:K.lookup f=some ⟨oc,od,.func (PySem.W.fnOf m q (Z0 st) (Z2 st) (Z9 st) .none kV doc pm an cdv ct),osl⟩) (c:PySem.W.codeIn K cdv q=true) (k:PySem.W.keepIn K (.ref f)=true)
 (b:∀(kV doc pm:Value) (an:Option Addr) (cdv ct:Value) (us:List Value),us.length=ps.length→bindArgs (PySem.W.fnOf m q (Z0 st) (Z2 st) (Z9 st) .none kV doc pm an cdv ct) ⟨us,[]⟩=pure (ps.zip us)):JK K C m q st ps:=
 let F:=xJ (st:=st) l c k
 ⟨f,_,F,F.binds b,a,i,k⟩
theorem uQ {K:PySem.W.Frag} {h:Heap} {mg:Str→Option Value} {x:Str} {C f:Addr} {q:Str} {st:Stmt} {ps:List Str} {oc:Value} {od an:Option Addr} {osl:Array (Option Value)} {kV doc pm cdv ct:Value} (X:K.In h) (G:h.Ns mainGlobals mg)
 (aC:PySem.W.nsIn K mainGlobals x=some (some (.ref C))) (mk:PySem.W.makesIn K C=true) (kc:PySem.W.keepIn K (.ref C)=true)
 (a:PySem.W.findIn K (.ref C) "__init__"=some (some (.ref f))) (i:PySem.W.isFn K (.ref f)=true) (l:K.lookup f=some ⟨oc,od,.func (PySem.W.fnOf "__init__" q (Z0 st) (Z2 st) (Z9 st) .none kV doc pm an cdv ct),osl⟩) (c:PySem.W.codeIn K cdv q=true) (k:PySem.W.keepIn K (.ref f)=true)
 (b:∀(kV doc pm:Value) (an:Option Addr) (cdv ct:Value) (us:List Value),us.length=ps.length→bindArgs (PySem.W.fnOf "__init__" q (Z0 st) (Z2 st) (Z9 st) .none kV doc pm an cdv ct) ⟨us,[]⟩=pure (ps.zip us)):Di K mg x C q st ps:=
 let F:=xJ (st:=st) l c k
 ⟨f,_,F,F.binds b,⟨mk,a,i,kc⟩,PySem.W.mg_of X G aC⟩
end L2
namespace L2
open PySem PySem.Spec PyProof.Rows
structure Tz (P:Program) (w:World) (K:PySem.W.Frag) (mg:Str→Option Value) (base:Heap) (k:Nat) (C:Addr) (m:Str) (ps:List Str) (sp:Sp):Prop where
 ex:∃f fd,Wr P w K mg base (IV P w) k f fd ps sp∧Binds K fd ps []∧Meth K C m f
structure Ir (P:Program) (w:World) (K:PySem.W.Frag) (mg:Str→Option Value) (base:Heap) (k:Nat) (x:Str) (C:Addr) (ps:List Str) (sp:Sp):Prop where
 ex:∃f fd,Wr P w K mg base (IV P w) k f fd ps sp∧Binds K fd ps []∧Mk K C f∧mg x=some (.ref C)
section
variable {P:Program} {w:World} {K:PySem.W.Frag} {mg:Str→Option Value} {base:Heap} {C:Addr} {m q x:Str} {st:Stmt} {N ps:List Str} {j k:Nat} {sp:Sp}
theorem Tz.mono (h:Tz P w K mg base j C m ps sp) (hjk:j≤k):Tz P w K mg base k C m ps sp:=by
 obtain⟨f,fd,a,b,c⟩:=h.ex
 exact⟨f,fd,a.mono hjk,b,c⟩
theorem Ir.mono (h:Ir P w K mg base j x C ps sp) (hjk:j≤k):Ir P w K mg base k x C ps sp:=by
 obtain⟨f,fd,a,b,c⟩:=h.ex
 exact⟨f,fd,a.mono hjk,b,c⟩
end
section
variable {X:Cx} {k:Nat} {C:Addr} {m x:Str} {ps:List Str} {sp:Sp} {p pos apos:Pos} {o e:Expr} {es:List Expr} {t:TA} {ta:TE} {W:St→XK}
def nQ (C:Addr) (m:Str) (sp:Sp) (W:St→XK) (ta:TE) (t:TA):TE:=λσ H Q=>ta σ H λx H1=>∃a dx fs,x= .ref a∧H1 a=some (.ins C dx fs)∧fs.lookup m=none∧t σ H1 λvs H2=>sp (x :: vs) H2 Q (W σ)
theorem X6 {pl:Sem Bool} (he:PE X o ta) (c:Cls X.K C) (F:Tz X.prog X.w X.K X.mg X.base k C m ps sp) (hr:YC k X.A) (hx:Ug (IV X.prog X.w) X W) (ha:PA X (e :: es) t)
 (hst:starEach (e :: es) X.env=(false,eval e X.env) :: starEach es X.env:=by rfl) (hpl:(backTo pos (starEach es X.env)).any (·.1)=false:=by rfl)
 (ht:eval (.Call (.Attribute o m apos) (e :: es) [] pos) X.env=(do
  let ov ←eval o X.env
  standAt apos.atName
  let (f,first) ←holding [ov] (getMethod ov m pl)
  callWith pos f first (backTo pos (starEach (e :: es) X.env)) (backToKw pos (keywordEach [] X.env))):=by rfl):
 PE X (.Call (.Attribute o m apos) (e :: es) [] pos) (nQ C m sp W ta t):=by
 obtain⟨f,fd,G,b,hm⟩:=F.ex
 intro pins s σ H Q I h
 refine PySem.W.methodCall_KW (pl:=pl) (Yy (he pins s σ H _ I h) λu s1 ⟨x,H1,I1,rx,a,dx,fs,ex,ea,l,q⟩=>?_) ht
 subst ex
 obtain rfl:u=Value.ref a:=rx
 refine NK I1 ea c hm l ?_
 refine PySem.W.callWith_K (first:=[.ref a]) (h₀:=X.base) I.ok.mod.dM hm.kp (Yy (ha pos pins s1 σ H1 _ I1 q) λus s2 z=>?_) hst hpl
 obtain⟨vs,H2,I2,r,q2⟩:=z
 refine⟨I2.Qx,Dl (us:=.ref a :: us) (vs:=.ref a :: vs) (M4:=[]) (ds:=[]) G hr b .nil hx I2 (.cons rfl r) ?_⟩
 rw[List.append_nil]
 exact q2
theorem Io {pl:Sem Bool} (he:PE X o ta) (c:Cls X.K C) (F:Tz X.prog X.w X.K X.mg X.base k C m ps sp) (hr:YC k X.A) (hx:Ug (IV X.prog X.w) X W)
 (ht:eval (.Call (.Attribute o m apos) [] [] pos) X.env=(do
  let ov ←eval o X.env
  standAt apos.atName
  let (f,first) ←holding [ov] (getMethod ov m pl)
  callWith pos f first (backTo pos (starEach [] X.env)) (backToKw pos (keywordEach [] X.env))):=by rfl):
 PE X (.Call (.Attribute o m apos) [] [] pos) (nQ C m sp W ta Dz):=by
 obtain⟨f,fd,G,b,hm⟩:=F.ex
 intro pins s σ H Q I h
 refine PySem.W.methodCall_KW (pl:=pl) (Yy (he pins s σ H _ I h) λu s1 ⟨x,H1,I1,rx,a,dx,fs,ex,ea,l,q⟩=>?_) ht
 subst ex
 obtain rfl:u=Value.ref a:=rx
 refine NK I1 ea c hm l ?_
 exact PySem.W.callWith_K0 (first:=[.ref a]) I1.Qx hm.kp (Dl (us:=[.ref a]) (vs:=[.ref a]) (M4:=[]) (ds:=[]) G hr b .nil hx I1 (.cons rfl .nil) q)
def aai (C:Addr) (sp:Sp) (W:St→XK) (t:TA):TE:=λσ H Q=>t σ H λvs H1=>∀x dx,H1 x=none→H1 dx=none→dx≠x →
 sp (.ref x :: vs) (upd (upd H1 dx (.own x)) x (.ins C dx [])) (λv H2=>v= .non∧Q (.ref x) H2) (W σ)
theorem Fe (F:Ir X.prog X.w X.K X.mg X.base k x C ps sp) (hr:YC (k+1) X.A) (hx:Ug (IV X.prog X.w) X W) (ha:PA X (e :: es) t) (hg:Gl X x:=by rfl)
 (hdb:(x==("__debug__":Str))=false:=by decide) (he:starEach (e :: es) X.env=(false,eval e X.env) :: starEach es X.env:=by rfl) (hpl:(backTo pos (starEach es X.env)).any (·.1)=false:=by rfl):
 PE X (.Call (.Name x p) (e :: es) [] pos) (aai C sp W t):=by
 obtain⟨f,fd,G,b,M,hm⟩:=F.ex
 intro pins s σ H Q I h
 refine wpAny_Call_Name_kw (Tc I hg hm ?_ hdb)
 refine PySem.W.callWith_K (h₀:=X.base) I.ok.mod.dM M.kp (Yy (ha pos pins s σ H _ I h) λus s1 z=>?_) he hpl
 obtain⟨vs,H1,I1,r,q⟩:=z
 refine⟨I1.Qx,?_⟩
 have hq:=q (s1.heap.objs.size+1) s1.heap.objs.size (I1.hok.fresh (Nat.le_succ _)) (I1.hok.fresh (Nat.le_refl _)) (Nat.ne_of_lt (Nat.lt_succ_self _))
 have I2:=Inv.made (C:=C) I1
 have r2:Vals (V.ref (s1.heap.objs.size+1) :: vs) (Value.ref (s1.heap.objs.size+1) :: us):=.cons rfl r
 have hl:(Value.ref (s1.heap.objs.size+1) :: us++[]).length=ps.length:=by
  rw[List.append_nil,←r2.length]
  exact G.len _ _ _ _ hq
 have bb:=b _ (Value.ref (s1.heap.objs.size+1) :: us) I2.Qx hl
 rw[List.append_nil]at bb
 refine wpAny_call (Bq (f:=f) I1.Qx M.makes M.init (beq_iff_eq.mp M.fn) (codeAny_mono (G.run _ X.stack _ _ ⟨Value.ref (s1.heap.objs.size+1) :: us,[]⟩ (Value.ref (s1.heap.objs.size+1) :: us) _ _ (W σ) (hr.make C us [])
  (I2.env0.make C us []) bb r2 hq) λr s' hq'=>?_))
 cases r with
 |error e=>exact hx pins σ _ _ e s' I2 hq'
 |ok fl =>
  cases fl with
  |ret u =>
   obtain⟨v,H',I3,rv,ev,q3⟩:=I2.after hq'
   subst ev
   exact⟨rv,⟨V.ref (s1.heap.objs.size+1),H',I3,rfl,q3⟩⟩
  |next=>exact False.elim hq'
  |brk=>exact False.elim hq'
  |cont=>exact False.elim hq'
end
end L2
namespace L2
open PySem PySem.Spec PyProof.Rows
section
variable {X:Cx}
theorem Fd:∀l:List (Str×Tok),Vals ((l.map (·.1)).map V.str) (strValues l)
 | []=> .nil
 |p :: r=> .cons ⟨p.2,rfl⟩ (Fd r)
def aaj:V→List V→Hp→VK→Prop:=λx vs H Q=>∃z y,x= .str z∧vs=[.str y]∧(y.length==0)=false∧z.length+2≤sizeLine∧RX ((PySem.Txt.split z y).map V.str) H Q
theorem nP:pH X "str.split" aaj:=by
 intro pins s σ H x xs v us Q I rx rs h
 obtain⟨z,y,rfl,rfl,hy,hz,q⟩:=h
 obtain⟨t,rfl⟩:=rx
 obtain⟨u,rfl,t',rfl⟩:=vals1 rs
 have few:(PySem.Builtin.Str.partsBetween z (PySem.Builtin.Str.occurrences z y 0 z.length (z.length+1)) y.length).length≤sizeLine:=by
  have:=StrLaws.occ_length_le z y 0 z.length (z.length+1)
  rw[length_partsBetween]
  omega
 have fin:∀(l:List (Str×Tok)) (k:Nat),l.map (·.1)=PySem.Txt.split z y→l.length≤sizeLine→EP X pins σ Q (.ref s.heap.objs.size) {s with heap:=s.heap.push {cls:=.type "list",data:=.seq (strValues l).toArray},toks:=k}:=λl k e hl =>
  ⟨.ref _,_,I.laid (t':=k) (o:=.lst ((PySem.Txt.split z y).map V.str)) (λb ob q=>Heap.get?_push_of_some _ q) (Nat.le_refl _) ⟨by rw[List.length_map,←e,List.length_map];exact hl,_,0,by rw[←e];exact Fd l,Heap.get?_push_size _ rfl⟩,rfl,q _ (I.hok.fresh (Nat.le_refl _))⟩
 have one:(1:Nat)≤sizeLine:=by rw[sizeLine_eq];decide
 cases c1:(decide (z.length<y.length) || decide (PySem.Builtin.Str.strKind z<PySem.Builtin.Str.strKind y))with
 |true=>exact call_meets F.slot_str_split (typeIs_str _ _ _) F.entry_str_split (F.args_str_split_2 _ _) (meets_str_split_cannot_occur z y t t' c1) (fin [(z,t)] s.toks (by unfold PySem.Txt.split;rw[if_pos c1];rfl) one)
 |false =>
  cases c2:(PySem.Builtin.Str.occurrences z y 0 z.length (z.length+1)).isEmpty with
  |true=>exact call_meets F.slot_str_split (typeIs_str _ _ _) F.entry_str_split (F.args_str_split_2 _ _) (meets_str_split_not_found z y t t' c1 hy c2) (fin [(z,t)] s.toks (by unfold PySem.Txt.split;rw[if_neg (by rw[c1];decide),if_pos c2];rfl) one)
  |false =>
   refine call_meets F.slot_str_split (typeIs_str _ _ _) F.entry_str_split (F.args_str_split_2 _ _) (meets_str_split_sep z y t t' c1 hy c2 (by omega) few) ?_
   have z1:=fin (numbered s.toks (PySem.Builtin.Str.partsBetween z (PySem.Builtin.Str.occurrences z y 0 z.length (z.length+1)) y.length)) (s.toks+(PySem.Builtin.Str.partsBetween z (PySem.Builtin.Str.occurrences z y 0 z.length (z.length+1)) y.length).length)
    (by rw[numbered_texts];unfold PySem.Txt.split;rw[if_neg (by rw[c1];decide),if_neg (by rw[c2];decide)]) (by
     have e:=congrArg List.length (numbered_texts s.toks (PySem.Builtin.Str.partsBetween z (PySem.Builtin.Str.occurrences z y 0 z.length (z.length+1)) y.length))
     rw[List.length_map]at e
     rw[e];exact few)
   rw[←strsFrom_eq]at z1
   exact z1
def aeh:V→List V→Hp→VK→Prop:=λx vs H Q=>∃z i,x= .str z∧vs=[.int i]∧PadOk i=true∧Q (.str (PySem.Txt.zfill z i)) H
def iD:V→List V→Hp→VK→Prop:=λx vs H Q=>∃z y,x= .str z∧vs=[.str y]∧Q (.int (PySem.Txt.count z y)) H
theorem rM:pH X "str.count" iD:=by
 intro pins s σ H x xs v us Q I rx rs h
 obtain⟨z,y,rfl,rfl,q⟩:=h
 obtain⟨t,rfl⟩:=rx
 obtain⟨u,rfl,t',rfl⟩:=vals1 rs
 exact SC.count ⟨.int _,H,I.tok _,⟨_,rfl⟩,q⟩
def aei (z:Str):Str:=⟨z.cps.toList.reverse.toArray⟩
def amt (te:TE) (ts:TO):TE:=λσ H Q=>te σ H λx H1=>ts σ H1 λk H2=>k=some (-1)∧∃z,x= .str z∧z.length≤sizeLine∧Q (.str (aei z)) H2
def aej (te:TE):TE:=λσ H Q=>te σ H λv H1=>(∃i,v= .int i∧i.natAbs.log2<1920∧Q (.str (toString i)) H1)∨∃z,v= .str z∧z.length≤sizeLine∧Q (.str z) H1
theorem Dh {e:Expr} {te:TE} {pos:Pos} (he:PE X e te):PE X (.FormattedValue e (-1) none pos) (aej te):=by
 intro pins s σ H Q I h
 refine wpAny_FormattedValue_plain (Yy (he pins s σ H _ I h) λv s1 ⟨x,H1,I1,r1,q1⟩=>?_)
 rcases q1 with⟨i,rfl,hl,q⟩ | ⟨z,rfl,hl,q⟩
 ·obtain⟨t,rfl⟩:=r1
  exact wpAny_formatField_int hl ⟨.str _,H1,I1.kept (t':=s1.toks+1+1) λb o e=>e,⟨_,rfl⟩,q⟩
 ·obtain⟨t,rfl⟩:=r1
  exact SB.field_str (λt' k=>⟨.str _,H1,I1.kept (t':=k) λb o e=>e,⟨_,rfl⟩,q⟩) hl
def aak (t1 t2 t3:TE):TE:=λσ H Q=>t1 σ H λx H1=>∃a,x= .str a∧a.length≤sizeLine∧t2 σ H1 λy H2=>∃b,y= .str b∧a.length+b.length≤sizeLine∧t3 σ H2 λz H3=>∃c,z= .str c∧a.length+b.length+c.length≤sizeLine∧Q (.str (a++b++c)) H3
theorem empty_app (a:Str):Str.empty++a=a:=by
 obtain⟨⟨a⟩⟩:=a
 show Str.mk (#[]++_)=_
 simp
theorem Ar {e1 e2 e3:Expr} {t1 t2 t3:TE} {pos:Pos} (h1:PE X e1 t1) (h2:PE X e2 t2) (h3:PE X e3 t3):PE X (.JoinedStr [e1,e2,e3] pos) (aak t1 t2 t3):=by
 intro pins s σ H Q I h
 refine wpAny_JoinedStr ?_
 refine Joins_cons (Yy (h1 pins s σ H _ I h) λv1 s1 ⟨x,H1,I1,r1,a,ex,la,q1⟩=>?_)
 subst ex
 obtain⟨ta,rfl⟩:=r1
 refine⟨a,ta,rfl,by rw[empty_app];exact la,?_⟩
 rw[empty_app]
 refine Joins_cons (Yy (h2 pins s1 σ H1 _ I1 q1) λv2 s2 ⟨y,H2,I2,r2,b,ey,lb,q2⟩=>?_)
 subst ey
 obtain⟨tb,rfl⟩:=r2
 refine⟨b,tb,rfl,by rw[PySem.Str.length_append];exact lb,?_⟩
 refine Joins_cons (Yy (h3 pins s2 σ H2 _ I2 q2) λv3 s3 ⟨z,H3,I3,r3,c,ez,lc,q3⟩=>?_)
 subst ez
 obtain⟨tc,rfl⟩:=r3
 have ll:(a++b++c).length≤sizeLine:=by rw[PySem.Str.length_append,PySem.Str.length_append];exact lc
 refine⟨c,tc,rfl,ll,Joins_nil ⟨ll,.str _,H3,I3.kept (t':=s3.toks+1) λb o e=>e,⟨_,rfl⟩,q3⟩⟩
end
section
variable {P:Program} {w:World} {K:PySem.W.Frag} {mg:Str→Option Value} {base:Heap} {k:Nat} {f C:Addr} {fd:FuncData} {ps:List Str} {sp:Sp} {x m:Str}
def Calm (sp:Sp):Sp:=λvs H Q _=>sp vs H Q E0
end
theorem Qo {X:Cx}:Ug (IV X.prog X.w) X (λ_=>E0):=λ_ _ _ _ _ _ _ h=>by
 obtain⟨_,_,_,_,_,_,_,z⟩:=h
 exact z.elim
end L2
namespace L2
open PySem PySem.Spec PyProof.Rows
def cQ (a b:Sp):Sp:=λvs H Q E=>a vs H Q E∨b vs H Q E
structure Im (P:Program) (w:World) (K:PySem.W.Frag) (mg:Str→Option Value) (base:Heap) (k:Nat) (x:Str) (ps:List Str) (sp:Sp):Prop where
 ex:∃f fd,Wr P w K mg base (IV P w) k f fd ps sp∧Binds K fd ps []∧PySem.W.keepIn K (.ref f)=true∧mg x=some (.ref f)∧∃oc od osl,K.lookup f=some ⟨oc,od,.func fd,osl⟩
structure Tw (P:Program) (w:World) (K:PySem.W.Frag) (mg:Str→Option Value) (base:Heap) (k:Nat) (C:Addr) (m:Str) (ps:List Str) (sp:Sp):Prop where
 ex:∃f fd,Wr P w K mg base (IV P w) k f fd ps sp∧Binds K fd ps []∧Meth K C m f∧∃oc od osl,K.lookup f=some ⟨oc,od,.func fd,osl⟩
structure Ob (P:Program) (w:World) (K:PySem.W.Frag) (mg:Str→Option Value) (base:Heap) (k:Nat) (x:Str) (C:Addr) (ps:List Str) (sp:Sp):Prop where
 ex:∃f fd,Wr P w K mg base (IV P w) k f fd ps sp∧Binds K fd ps []∧Mk K C f∧mg x=some (.ref C)∧∃oc od osl,K.lookup f=some ⟨oc,od,.func fd,osl⟩
section
variable {P:Program} {w:World} {K:PySem.W.Frag} {mg:Str→Option Value} {base:Heap} {j k:Nat} {x m q:Str} {C:Addr} {ps N:List Str} {sp QW JL:Sp} {st:Stmt}
theorem Wr.or {f:Addr} {fd:FuncData} {CX:Dy} (a:Wr P w K mg base CX k f fd ps QW) (b:Wr P w K mg base CX k f fd ps JL):Wr P w K mg base CX k f fd ps (cQ QW JL):=
 ⟨λvs H Q E h=>h.elim (a.len vs H Q E) (b.len vs H Q E),λA outer s H args us vs Q E hr he hb hv hs=>hs.elim (a.run A outer s H args us vs Q E hr he hb hv) (b.run A outer s H args us vs Q E hr he hb hv)⟩
theorem Im.hx (h:Im P w K mg base k x ps sp):TF P w K mg base k x ps sp:=by
 obtain⟨f,fd,a,b,c,d,_⟩:=h.ex
 exact⟨f,fd,a,b,c,d⟩
theorem Tw.hx (h:Tw P w K mg base k C m ps sp):Tz P w K mg base k C m ps sp:=by
 obtain⟨f,fd,a,b,c,_⟩:=h.ex
 exact⟨f,fd,a,b,c⟩
theorem Ob.hx (h:Ob P w K mg base k x C ps sp):Ir P w K mg base k x C ps sp:=by
 obtain⟨f,fd,a,b,c,d,_⟩:=h.ex
 exact⟨f,fd,a,b,c,d⟩
theorem Tw.or (h1:Tw P w K mg base k C m ps QW) (h2:Tw P w K mg base k C m ps JL):Tw P w K mg base k C m ps (cQ QW JL):=by
 obtain⟨f,fd,a,b,c,o1,o2,o3,l⟩:=h1.ex
 obtain⟨f',fd',a',_,c',o1',o2',o3',l'⟩:=h2.ex
 have e:f=f':=by
  have z:=c.at_.symm.trans c'.at_
  cases z
  rfl
 subst e
 rw[l]at l'
 cases l'
 exact⟨f,fd,a.or a',b,c,o1,o2,o3,l⟩
theorem Ob.or (h1:Ob P w K mg base k x C ps QW) (h2:Ob P w K mg base k x C ps JL):Ob P w K mg base k x C ps (cQ QW JL):=by
 obtain⟨f,fd,a,b,c,d,o1,o2,o3,l⟩:=h1.ex
 obtain⟨f',fd',a',_,c',_,o1',o2',o3',l'⟩:=h2.ex
 have e:f=f':=by
  have z:=c.init.symm.trans c'.init
  cases z
  rfl
 subst e
 rw[l]at l'
 cases l'
 exact⟨f,fd,a.or a',b,c,d,o1,o2,o3,l⟩
theorem Def.Nv (F:Def K mg x st ps) (S:ZX N ps (Z9 st)) (len:∀vs H Q E,sp vs H Q E→vs.length=ps.length)
 (hbody:∀(f:Addr) (cdv:Value) (A:Around) (outer:List Env) (s:Shared) (H:Hp) (vs:List V) (Q:VK) (E:XK),YC k (A.deeper (envOfC x (Z9 st) s.heap.objs.size f cdv))→sp vs H Q E →
  ∃t,QF (Vp (IV P w) P w K mg base N x (Z9 st) f cdv A outer s H E) (Z2 st) t∧t {nx:=λ_ H'=>Q .non H',rt:=Q} (start N vs) H):Im P w K mg base (k+1) x ps sp:=by
 obtain⟨f,fd,G,b,m⟩:=F.ex
 obtain⟨oc,od,kV,doc,pm,an,cdv,ct,osl,e,lk,hcd⟩:=G.ex
 subst e
 exact⟨f,_,Bo lk hcd S len (hbody f cdv),b,G.kp,m,_,_,_,lk⟩
theorem JK.Nv (F:JK K C m q st ps) (S:ZX N ps (Z9 st)) (len:∀vs H Q E,sp vs H Q E→vs.length=ps.length)
 (hbody:∀(f:Addr) (cdv:Value) (A:Around) (outer:List Env) (s:Shared) (H:Hp) (vs:List V) (Q:VK) (E:XK),YC k (A.deeper (envOfC q (Z9 st) s.heap.objs.size f cdv))→sp vs H Q E →
  ∃t,QF (Vp (IV P w) P w K mg base N q (Z9 st) f cdv A outer s H E) (Z2 st) t∧t {nx:=λ_ H'=>Q .non H',rt:=Q} (start N vs) H):Tw P w K mg base (k+1) C m ps sp:=by
 obtain⟨f,fd,G,b,h⟩:=F.ex
 obtain⟨oc,od,kV,doc,pm,an,cdv,ct,osl,e,lk,hcd⟩:=G.ex
 subst e
 exact⟨f,_,Bo lk hcd S len (hbody f cdv),b,h,_,_,_,lk⟩
theorem Di.Nv (F:Di K mg x C q st ps) (S:ZX N ps (Z9 st)) (len:∀vs H Q E,sp vs H Q E→vs.length=ps.length)
 (hbody:∀(f:Addr) (cdv:Value) (A:Around) (outer:List Env) (s:Shared) (H:Hp) (vs:List V) (Q:VK) (E:XK),YC k (A.deeper (envOfC q (Z9 st) s.heap.objs.size f cdv))→sp vs H Q E →
  ∃t,QF (Vp (IV P w) P w K mg base N q (Z9 st) f cdv A outer s H E) (Z2 st) t∧t {nx:=λ_ H'=>Q .non H',rt:=Q} (start N vs) H):Ob P w K mg base (k+1) x C ps sp:=by
 obtain⟨f,fd,G,b,h,hm⟩:=F.ex
 obtain⟨oc,od,kV,doc,pm,an,cdv,ct,osl,e,lk,hcd⟩:=G.ex
 subst e
 exact⟨f,_,Bo lk hcd S len (hbody f cdv),b,h,hm,_,_,_,lk⟩
theorem JK.Aq (F:JK K C m q st ps) (S:ZX N ps (Z9 st)) (len:∀vs H Q E,sp vs H Q E→vs.length=ps.length)
 (hbody:∀(f:Addr) (cdv:Value) (A:Around) (outer:List Env) (s:Shared) (H:Hp) (vs:List V) (Q:VK) (E:XK),YC k (A.deeper (envOfC q (Z9 st) s.heap.objs.size f cdv))→sp vs H Q E →
  ∃t,QF (Vp Je P w K mg base N q (Z9 st) f cdv A outer s H E).JN (Z2 st) t∧t {nx:=λ_ H'=>Q .non H',rt:=Q} (start N vs) H):Tw P w K mg base (k+1) C m ps sp:=by
 obtain⟨f,fd,G,b,h⟩:=F.ex
 obtain⟨oc,od,kV,doc,pm,an,cdv,ct,osl,e,lk,hcd⟩:=id G.ex
 subst e
 exact⟨f,_,(G.ok S len (hbody f)).oh,b,h,_,_,_,lk⟩
theorem Di.Aq (F:Di K mg x C q st ps) (S:ZX N ps (Z9 st)) (len:∀vs H Q E,sp vs H Q E→vs.length=ps.length)
 (hbody:∀(f:Addr) (cdv:Value) (A:Around) (outer:List Env) (s:Shared) (H:Hp) (vs:List V) (Q:VK) (E:XK),YC k (A.deeper (envOfC q (Z9 st) s.heap.objs.size f cdv))→sp vs H Q E →
  ∃t,QF (Vp Je P w K mg base N q (Z9 st) f cdv A outer s H E).JN (Z2 st) t∧t {nx:=λ_ H'=>Q .non H',rt:=Q} (start N vs) H):Ob P w K mg base (k+1) x C ps sp:=by
 obtain⟨f,fd,G,b,h,hm⟩:=F.ex
 obtain⟨oc,od,kV,doc,pm,an,cdv,ct,osl,e,lk,hcd⟩:=id G.ex
 subst e
 exact⟨f,_,(G.ok S len (hbody f)).oh,b,h,hm,_,_,_,lk⟩
end
section
variable {X:Cx} {k:Nat} {C:Addr} {x:Str} {ps:List Str} {sp:Sp} {p pos:Pos}
theorem Fb (F:Av X.prog X.w X.K X.mg X.base k x C ps sp) (hr:YC (k+1) X.A) (hg:Gl X x:=by rfl) (hdb:(x==("__debug__":Str))=false:=by decide):PE X (.Call (.Name x p) [] [] pos) (aah C sp Dz):=by
 obtain⟨f,fd,G,b,M,hm⟩:=F.ex
 intro pins s σ H Q I h
 refine(pI (E:=E0) M G hr hg hm b .nil o8 hdb) pins s σ H Q I ?_
 show Dz σ H λvs H1=>∀x dx,H1 x=none→H1 dx=none→dx≠x→sp (.ref x :: (vs++[])) (upd (upd H1 dx (.own x)) x (.ins C dx [])) (λv H2=>v= .non∧Q (.ref x) H2) E0
 simp only[List.append_nil]
 exact h
end
end L2
namespace L2
open PySem PySem.Spec PyProof.Rows
section
variable {K:PySem.W.Frag} {a:Addr} {xs:List V} {x:Str} {caps:List Nat} {g:TG} {tt:TT} {te:TE} {σ:St} {H:Hp} {Q:VK}
theorem iC {J:It} {n:Nat} {item:Nat→V→Prop} (Pv:Addr→Nat→List V→Hp→Prop) (hn:n≤sizeLine) (h0:∀acc,H acc=none→Pv acc 0 [] (upd H acc (.lst [])))
 (hgo:∀acc i vs H',H acc=none→i<n→Pv acc i vs H'→J.go i H') (hst:∀acc vs H',H acc=none→Pv acc n vs H'→J.stop n H')
 (hy:∀acc i vs H' v Jp,H acc=none→i<n→Pv acc i vs H'→J.pW i H' v Jp→Jp=H'∧item i v)
 (hs:∀(acc:Addr) (i:Nat) (v:V) (t:Option V) (vs:List V) (H':Hp) (N:St→Hp→Prop) (Kt:V→St→Hp→Prop),H acc=none→i<n→item i v→vs.length=i→Pv acc i vs H'→H' acc=some (.lst vs) →
  (∀t' y Jp,Jp acc=some (.lst vs)→Pv acc (i+1) (vs++[y]) (upd Jp acc (.lst (vs++[y])))→Kt y (t' :: caps.map λj=>σ.getD j none) Jp) →
  g v (t :: caps.map λj=>σ.getD j none) H' λσ2 H3=>tt σ2 H3 λb H4=>if b=true then te σ2 H4 λv H5=>Kt v σ2 H5 else N σ2 H4)
 (hQ:∀acc vs H',H acc=none→vs.length=n→Pv acc n vs H'→H' acc=some (.lst vs)→Q (.ref acc) H'):Od [x] caps J g tt te σ H Q:=by
 intro acc hacc
 refine⟨λi m σ' H'=>m=n-i∧i≤n∧(∃t,σ'=t :: caps.map λj=>σ.getD j none)∧∃vs,vs.length=i∧Pv acc i vs H'∧H' acc=some (.lst vs),⟨n,rfl,Nat.zero_le _,⟨none,rfl⟩,[],rfl,h0 acc hacc,Z1⟩,?_⟩
 rintro i m σ' H' ⟨rfl,hi,⟨t,rfl⟩,vs,lv,p,ea⟩
 by_cases hlt:i<n
 ·refine .inr ⟨hgo acc i vs H' hacc hlt p,λσ2 H2=>(∃t,σ2=t :: caps.map λj=>σ.getD j none)∧∃vs,vs.length=i+1∧Pv acc (i+1) vs H2∧H2 acc=some (.lst vs),λσ'' Jp ⟨h1,h2⟩=>⟨n-(i+1),by omega,rfl,hlt,h1,h2⟩,λv H2 y=>?_⟩
  obtain⟨rfl,iv⟩:=hy acc i vs H' v H2 hacc hlt p y
  refine hs acc i v t vs H2 _ (λv σ2 H5=>∃ys,H5 acc=some (.lst ys)∧ys.length<sizeLine∧(∃t,σ2=t :: caps.map λj=>σ.getD j none)∧∃vs,vs.length=i+1∧Pv acc (i+1) vs (upd H5 acc (.lst (ys++[v])))∧(upd H5 acc (.lst (ys++[v]))) acc=some (.lst vs)) hacc hlt iv lv p ea λt' y Jp e2 p2=>?_
  exact⟨_,e2,by omega,⟨t',rfl⟩,vs++[y],by rw[List.length_append,lv];rfl,p2,Z1⟩
 ·have e:i=n:=by omega
  subst e
  exact .inl ⟨hst acc vs H' hacc p,hQ acc vs H' hacc lv p ea⟩
end
structure Tb (K:PySem.W.Frag) (H:Hp) (r:Addr) (xss:List (List V)):Prop where
 ex:∃adr:List Addr,ZJ K H r (adr.map V.ref)∧adr.length=xss.length∧∀(i:Nat) (a:Addr),adr[i]? =some a→∃xs,xss[i]? =some xs∧ZJ K H a xs
structure TbN (H0 H:Hp) (r:Addr) (xss:List (List V)):Prop where
 ex:∃adr:List Addr,H r=some (.lst (adr.map V.ref))∧adr.length=xss.length∧adr.Nodup∧∀(i:Nat) (a:Addr),adr[i]? =some a→H0 a=none∧a≠r∧∃xs,xss[i]? =some xs∧H a=some (.lst xs)
def amu (xss:List (List V)) (H:Hp) (Q:VK):Prop:=∀r H',Same H H'→H r=none→TbN H H' r xss→Q (.ref r) H'
section
variable {K:PySem.W.Frag} {a:Addr} {xs:List V} {x:Str} {caps:List Nat} {g:TG} {tt:TT} {te:TE} {σ:St} {H:Hp} {Q:VK}
end
end L2
namespace L2
open PySem PySem.Spec PyProof.Rows
section
variable {K:PySem.W.Frag} {a:Addr} {xs:List V} {x x':Str} {caps:List Nat} {g:TG} {tt:TT} {te:TE} {σ:St} {H:Hp} {Q:VK}
theorem nO (Pv:Addr→Nat→List V→Hp→Prop) (hn:xs.length≤sizeLine) (h0:∀acc,H acc=none→Pv acc 0 [] (upd H acc (.lst []))) (hq:∀acc i vs H',H acc=none→i≤xs.length→Pv acc i vs H'→ZJ K H' a xs)
 (hs:∀(acc:Addr) (i:Nat) (v:V) (t:Option V) (vs:List V) (H':Hp) (N:St→Hp→Prop) (Kt:V→St→Hp→Prop),H acc=none→i<xs.length→xs[i]? =some v→vs.length=i→Pv acc i vs H'→H' acc=some (.lst vs) →
  (∀t' y Jp,Jp acc=some (.lst vs)→Pv acc (i+1) (vs++[y]) (upd Jp acc (.lst (vs++[y])))→Kt y (t' :: caps.map λj=>σ.getD j none) Jp) →
  g v (t :: caps.map λj=>σ.getD j none) H' λσ2 H3=>tt σ2 H3 λb H4=>if b=true then te σ2 H4 λv H5=>Kt v σ2 H5 else N σ2 H4)
 (hQ:∀acc vs H',H acc=none→vs.length=xs.length→Pv acc xs.length vs H'→H' acc=some (.lst vs)→Q (.ref acc) H'):Od [x] caps (dG K a) g tt te σ H Q:=
 iC (item:=λi v=>xs[i]? =some v) Pv hn h0 (λacc i vs H' ha hi p=>⟨xs,xs[i],hq acc i vs H' ha (Nat.le_of_lt hi) p,List.getElem?_eq_getElem hi⟩) (λacc vs H' ha p=>⟨xs,hq acc _ vs H' ha (Nat.le_refl _) p,Nat.le_refl _⟩)
  (λacc i vs H' v Jp ha hi p y=>⟨y.1,y.2 xs (hq acc i vs H' ha (Nat.le_of_lt hi) p)⟩) hs hQ
end
end L2
namespace L2
open PySem PySem.Spec PyProof.Rows
section
variable {X:Cx}
def amv (K:PySem.W.Frag):List V→Hp→VK→Prop:=λxs H Q=>∃(p:Addr) (ns:List Int),xs=[.ref p]∧ZJ K H p (ns.map V.int)∧0<ns.length∧∀m:Int,m∈ns→(∀a∈ns,m≤a)→Q (.int m) H
def cP (K:PySem.W.Frag):List V→Hp→VK→Prop:=λxs H Q=>∃(p:Addr) (ns:List Int),xs=[.ref p]∧ZJ K H p (ns.map V.int)∧0<ns.length∧∀m:Int,m∈ns→(∀a∈ns,a≤m)→Q (.int m) H
theorem memD {ns:List Int} {i:Nat} (h:i<ns.length):ns.getD i 0∈ns:=by
 rw[List.getD,List.getElem?_eq_getElem h]
 exact List.getElem_mem h
theorem rK (hc:X.calm=true):Xv X (.builtin "max") (cP X.K):=by
 intro pins s σ H xs us Q I r h
 obtain⟨p,ns,rfl,hq,hp0,q⟩:=h
 obtain⟨u,rfl,rx⟩:=vals1 r
 cases rx
 obtain⟨its,rv,pl,hz⟩:=I.list hq
 have hi:=xg rv
 obtain⟨ps,e⟩:=hi.allInts.items
 have hn:numsOf its=ps.toList.map (·.1):=by
  have:=nums_intItems ps
  rw[←e]at this
  simpa using this
 rw[hi.numsOf]at hn
 have hl:=pl.isList
 rw[e]at hl
 have hsz:ps.size=ns.length:=by rw[hn,List.length_map,Array.length_toList]
 refine max_intList (I.ok.hd hc) hl (by omega) λv h' tk hv hk=>?_
 obtain⟨t,rfl⟩:=intItems_at hv
 obtain⟨h1,h2⟩:=argBest_gt (numAt ps) (ps.size-1)
 refine⟨.int _,H,I.kept hk,⟨t,rfl⟩,q _ ?_ λa ha=>?_⟩
 ·rw[numAt_eq,←hn];exact memD (by omega)
 ·obtain⟨j,hj⟩:=List.mem_iff_getElem?.mp ha
  have hjl:=(List.getElem?_eq_some_iff.mp hj).1
  have:=h2 j (by omega)
  rw[numAt_eq ps j,←hn,List.getD,hj]at this
  exact this
theorem aal {K:PySem.W.Frag} (hc:X.calm=true) (h:X.K=K:=by rfl):Xv X (.builtin "max") (cP K):=h▸rK hc
def Ao (_ j:Int):Prop:=j≠0∧j.natAbs<2 ^ 9000
theorem Am:Qt X (binaryOp .FloorDiv) (rI Ao λi j=> .int (i.fdiv j)):=opI λ_ _ _ _ _ _ _ hc q=>floordiv_int hc.1 q (.inl (PyProof.noPylong_of_log2 ((Nat.log2_lt (by have:=hc.1;omega)).mpr hc.2)))
end
section
variable {X:Cx}
def amY (K:PySem.W.Frag):R2:=λx y H Q=>∃a b xs ys,x= .ref a∧y= .ref b∧TY K H a xs∧TY K H b ys∧∃e:Nat→Bool,(∀(i:Nat) (x y:V),xs[i]? =some x→ys[i]? =some y→rY K H 40 x y (e i))∧Q (.bl (!((List.range (min xs.length ys.length)).all e && xs.length==ys.length))) H
end
section
variable {K:PySem.W.Frag} {a:Addr} {xs:List V} {x:Str} {caps:List Nat} {g:TG} {tt:TT} {te:TE} {σ:St} {H:Hp} {Q:VK}
end
end L2
namespace L2
open PySem PySem.Spec PyProof.Rows
def Itv (K:PySem.W.Frag) (a:Addr) (n:Nat):It:=
 ⟨λi H=>∃xs,ZJ K H a xs∧xs.length=n∧i<n,λi H x H'=>H'=H∧∀xs,ZJ K H a xs→xs[n-1-i]? =some x,λi H=>n≤i∧∃xs,ZJ K H a xs∧xs.length=n⟩
section
variable {X:Cx} {tg:Expr} {K:PySem.W.Frag}
def amZ (K:PySem.W.Frag) (ta:TA):TI:=λσ H R=>ta σ H λvs H1=>∃a xs,vs=[.ref a]∧ZJ K H1 a xs∧R (Itv K a xs.length) H1
end
theorem uP {X:Cx} {K:PySem.W.Frag} {a:Expr} {ta:TE} (ha:PE X a ta) (he:∀whole,isTrue a X.env whole=(do let v ←whole;standAt a.pos;holding [v] (truthy v)):=by intro _;rfl) (h:X.K=K:=by rfl):
 PT X a (λσ H Q=>ta σ H λx H'=>∃k,bx K x H' k∧Q k H'):=h▸pP ha he
end L2
namespace L2
open PySem PySem.Spec PyProof.Rows
namespace RR
section
variable {prog:Program} {w:World} {A:Around} {E:Value→Shared→Prop} {s:Shared}
end
end RR
section
variable {X:Cx} {pos pos2 am0 p p2 p3:Pos} {a:Expr} {ta:TA}
def jB (ta:TA):TE:=λσ H Q=>ta σ H λvs H1=>∃n:Nat,vs=[.int n]∧n<1000000∧RX ((Uw 0 n).reverse.map V.int) H1 Q
end
end L2
namespace L2
open PySem PySem.Spec PyProof.Rows
section
variable {κ:Type} [DecidableEq κ]
def rJ (kvs:List (κ×V)) (k:κ):Option V:=(kvs.find? λkv=>decide (kv.1=k)).map (·.2)
def putK (kvs:List (κ×V)) (k:κ) (v:V):List (κ×V):=
 if(kvs.any λkv=>decide (kv.1=k))=true then kvs.map (λkv=>if kv.1=k then(kv.1,v)else kv)else kvs++[(k,v)]
def nM (kvs:List (κ×V)) (k:κ):List (κ×V):=kvs.filter λkv=>decide (kv.1≠k)
end
abbrev KT (H:Hp):List (List Key×V)→List (List Key×Addr×Value)→Prop:=Paired λp q=>p.1=q.1∧H q.2.1=some (.tup (p.1.map kV))∧RelV p.2 q.2.2
section
variable {P:Program} {w:World} {H:Hp} {h:Heap} {a:Addr}
end
def rH (H:Hp) (a:Addr) (y:V) (r:Option V):Prop:=
 (∃kvs k,Rd H a (.dK kvs)∧y=kV k∧r=rJ kvs k)∨∃kvs k b,Rd H a (.dT kvs)∧y= .ref b∧H b=some (.tup (k.map kV))∧r=rJ kvs k
def abX (H:Hp) (a:Addr) (y v:V) (H':Hp):Prop:=
 (∃kvs k,H a=some (.dK kvs)∧y=kV k∧kvs.length<sizeLine∧H'=upd H a (.dK (putK kvs k v))) ∨
 ∃kvs k b,H a=some (.dT kvs)∧y= .ref b∧H b=some (.tup (k.map kV))∧kvs.length<sizeLine∧H'=upd H a (.dT (putK kvs k v))
section
variable {X:Cx} {pins:List (Addr×Obj)} {σ:St} {H:Hp} {s:Shared} {a:Addr} {y v:V} {u r:Value} {o:Option V} {A:Around} {E:Value→Shared→Prop}
end
section
variable {X:Cx} {pins:List (Addr×Obj)} {σ:St} {H:Hp} {s:Shared} {a:Addr} {kvs:List (Key×V)} {k:Key} {u:Value} {A:Around} {E:Value→Shared→Prop}
end
def am1 (i:Expr):Prop:=∀ov iv,subscripted i false ov iv=operate [ov,iv] (getItem ov iv)
def amw (td ty:TE):TE:=λσ H Q=>td σ H λx H1=>ty σ H1 λy H2=>∃a v,x= .ref a∧rH H2 a y (some v)∧Q v H2
def am2 (ty td:TE):TE:=λσ H Q=>ty σ H λy H1=>td σ H1 λx H2=>∃a o,x= .ref a∧rH H2 a y o∧Q (.bl o.isSome) H2
def adJ (ty td:TE):TE:=λσ H Q=>ty σ H λy H1=>td σ H1 λx H2=>∃a o,x= .ref a∧rH H2 a y o∧Q (.bl (!o.isSome)) H2
def amx (td ty tv:TE):TS:=λD σ H=>tv σ H λv H1=>td σ H1 λx H2=>ty σ H2 λy H3=>∃a H4,x= .ref a∧abX H3 a y v H4∧D.nx σ H4
def amy (td ty tv:TE) (rd:V→V→Hp→VK→Prop):TS:=λD σ H=>td σ H λx H1=>ty σ H1 λy H2=>∃a v,x= .ref a∧rH H2 a y (some v) ∧
 tv σ H2 λy2 H3=>rd v y2 H3 λz H4=>∃H5,abX H4 a y z H5∧D.nx σ H5
def amA (td ty:TE):TS:=λD σ H=>td σ H λx H1=>ty σ H1 λy H2=>∃a kvs k,x= .ref a∧H2 a=some (.dK kvs)∧y=kV k∧(rJ kvs k).isSome=true∧D.nx σ (upd H2 a (.dK (nM kvs k)))
section
variable {X:Cx} {o i e value:Expr} {pos pos' tpos:Pos} {td ty tv:TE}
end
def aek:TE:=λ_ H Q=>∀p,H p=none→Q (.ref p) (upd H p (.dK []))
def ael:TE:=λ_ H Q=>∀p,H p=none→Q (.ref p) (upd H p (.dT []))
section
variable {X:Cx} {pos:Pos}
end
def wR:List (TE×TE)→St→Hp→(List (V×V)→Hp→Prop)→Prop
 | [],_,H,Q=>Q [] H
 | (tk,tv) :: r,σ,H,Q=>tk σ H λx H1=>tv σ H1 λy H2=>wR r σ H2 λps H3=>Q ((x,y) :: ps) H3
abbrev VV:List (V×V)→List (Value×Value)→Prop:=Paired λp q=>RelV p.1 q.1∧RelV p.2 q.2
def PPs (X:Cx) (pos:Pos) (keys:List (Option Expr)) (values:List Expr) (trs:List (TE×TE)):Prop:=
 ∀(pins:List (Addr×Obj)) (s:Shared) (σ:St) (H:Hp) (Q:List (V×V)→Hp→Prop),Inv X pins σ H s→wR trs σ H Q →
  wpAny (model X.prog X.w) X.A (evalPairs (pairTrees keys values X.env pos)) (λvs s'=>∃ps H',Inv X pins σ H' s'∧VV ps vs∧Q ps H') X.xe s
def aam (kvs more:List (Key×V)):List (Key×V):=more.foldl (λacc kv=>putK acc kv.1 kv.2) kvs
def amB (trs:List (TE×TE)):TE:=λσ H Q=>∀p,H p=none→wR trs σ (upd H p (.dK [])) λps H2=>H2 p=some (.dK [])∧∃kvs:List (Key×V),ps=kvs.map (λkv=>(kV kv.1,kv.2))∧kvs.length≤15∧Q (.ref p) (upd H2 p (.dK (aam [] kvs)))
structure M1 (X:Cx) (o:Expr) (m:Str) (apos:Pos) (e:Expr) (cpos:Pos):Prop where
 base:attributeBase o m X.env (eval o X.env)=eval o X.env
 few:((backTo cpos (starEach [e] X.env)).all (λx=> !x.1) && (backToKw cpos (keywordEach [] X.env)).all (λx=>x.1.isSome)
  && decide (([e]:List Expr).length+([]:List Keyword).length+(if([]:List Keyword).isEmpty then 0 else 1)<30))=true
 line:(apos.endLine==cpos.line)=true
 trees:backTo cpos (starEach [e] X.env)=[(false,eval e X.env)]
structure M2 (X:Cx) (o:Expr) (m:Str) (apos:Pos) (e f:Expr) (cpos:Pos):Prop where
 base:attributeBase o m X.env (eval o X.env)=eval o X.env
 few:((backTo cpos (starEach [e,f] X.env)).all (λx=> !x.1) && (backToKw cpos (keywordEach [] X.env)).all (λx=>x.1.isSome)
  && decide (([e,f]:List Expr).length+([]:List Keyword).length+(if([]:List Keyword).isEmpty then 0 else 1)<30))=true
 line:(apos.endLine==cpos.line)=true
 trees:backTo cpos (starEach [e,f] X.env)=[(false,eval e X.env),(false,eval f X.env)]
def IsD (H:Hp) (a:Addr):Prop:=(∃kvs,Rd H a (.dK kvs))∨∃kvs,Rd H a (.dT kvs)
section
variable {X:Cx} {pins:List (Addr×Obj)} {σ:St} {H:Hp} {s:Shared} {a:Addr} {y d:V} {u r:Value} {o:Option V} {A:Around} {E:Value→Shared→Prop}
end
def aem (td ty:TE):TE:=λσ H Q=>td σ H λx H1=>∃a,x= .ref a∧IsD H1 a∧ty σ H1 λy H2=>∃o,rH H2 a y o∧Q (o.getD .non) H2
def aen (td ty tx:TE):TE:=λσ H Q=>td σ H λx H1=>∃a,x= .ref a∧IsD H1 a∧ty σ H1 λy H2=>tx σ H2 λz H3=>∃o,rH H3 a y o∧Q (o.getD z) H3
def aeo (td ty:TE):TE:=λσ H Q=>td σ H λx H1=>∃a,x= .ref a∧IsD H1 a∧ty σ H1 λy H2=>∃kvs k v,H2 a=some (.dK kvs)∧y=kV k∧rJ kvs k=some v∧Q v (upd H2 a (.dK (nM kvs k)))
def aep (td ty tx:TE):TE:=λσ H Q=>td σ H λx H1=>∃a,x= .ref a∧IsD H1 a∧ty σ H1 λy H2=>tx σ H2 λz H3=>∃kvs k,H3 a=some (.dK kvs)∧y=kV k ∧
 (∀v,rJ kvs k=some v→Q v (upd H3 a (.dK (nM kvs k))))∧(rJ kvs k=none→Q z H3)
section
variable {X:Cx} {o e f:Expr} {apos cpos:Pos} {td ty tx:TE}
end
section
variable {X:Cx} {pins:List (Addr×Obj)} {σ:St} {H:Hp} {s:Shared} {a:Addr} {kvs:List (Key×V)} {A:Around} {E:Value→Shared→Prop}
end
section
variable {X:Cx} {pins:List (Addr×Obj)} {σ:St} {H:Hp} {s:Shared} {a:Addr} {y:V} {u:Value} {A:Around} {E:Value→Shared→Prop}
end
end L2
namespace L2
open PySem PySem.Spec PyProof.Rows
section
variable {κ:Type} [DecidableEq κ]
end
end L2
namespace L2
open PySem PySem.Spec PyProof.Rows
section
variable {X:Cx} {K:PySem.W.Frag}
def met (ns:List Int):List Int:=firstMet (λi=>ns.getD i 0) ns.length
theorem Al (hc:X.calm=true):Xv X (.type "set") (λxs H Q=>∃p ns,xs=[.ref p]∧ZJ X.K H p (ns.map V.int)∧ns.length≤1000∧∀l,H l=none→Q (.ref l) (upd H l (.set (λk=>(met ns).any (· ==k)) (met ns).length))):=by
 intro pins s σ H xs us Q I r h
 obtain⟨p,ns,rfl,hq,hl,q⟩:=h
 obtain⟨u,rfl,rx⟩:=vals1 r
 cases rx
 obtain⟨its,r',pl,hz⟩:=I.list hq
 have hlen:=r'.length
 rw[List.length_map]at hlen
 have hsz:its.toArray.size=ns.length:=by rw[List.size_toArray,hlen]
 refine PySem.call_set_list (items:=its.toArray) (ns:=ns) (I.ok.hd hc) pl.isList (intsAre_of r') (by rw[hsz];show ns.length+1<4096;omega) λh' tk hS kp=>?_
 rw[hsz]at hS
 exact⟨.ref _,_,I.laid (t':=tk) (λb o e=>kp b o (Heap.lt_size e) e) (Nat.le_refl _) (show Xe X.prog X.w _ _ _ (.set (λk=>(met ns).any (· ==k)) (met ns).length)from hS),rfl,q _ (I.hok.fresh (Nat.le_refl _))⟩
theorem nJ (hc:X.calm=true) (h:X.K=K:=by rfl):Xv X (.type "set") (λxs H Q=>∃p ns,xs=[.ref p]∧ZJ K H p (ns.map V.int)∧ns.length≤1000∧∀l,H l=none→Q (.ref l) (upd H l (.set (λk=>(met ns).any (· ==k)) (met ns).length))):=h▸Al hc
theorem Gj:Xv X (.builtin "len") (λxs H Q=>∃p S n,xs=[.ref p]∧H p=some (.set S n)∧n≤1000∧Q (.int (n:Int)) H):=by
 intro pins s σ H xs us Q I r h
 obtain⟨p,S,n,rfl,hp,hn,q⟩:=h
 obtain⟨u,rfl,rx⟩:=vals1 r
 cases rx
 have z:s.heap.SetOf (intKind X.prog X.w) p S n:=(Rd.of hp).ok I.hok
 obtain⟨o,es,ep,t,ho,hex,hd,hel,hmem,hb,hf,hnn⟩:=z
 refine PySem.call_len_set ho hex hd hf (by omega) ?_
 exact⟨.int (n:Int),H,I.kept (λb o e=>e),by rw[hnn];exact⟨_,rfl⟩,q⟩
end
end L2
namespace L2
open PySem PyProof.Rows
theorem uO (val:Nat→Int):∀(i:Nat) (k:Int),(firstMet val i).any (· ==k)=true↔ ∃j,j<i∧val j=k
 | 0,k=>by
   rw[firstMet_zero]
   exact⟨(λh=>by cases h),(λ⟨j,hj,_⟩=>absurd hj (Nat.not_lt_zero _))⟩
 |i+1,k=>by
  rw[firstMet_succ,step_any,Bool.or_eq_true,uO val i k,decide_eq_true_iff]
  constructor
  ·rintro (⟨j,hj,e⟩ |e)
   ·exact⟨j,by omega,e⟩
   ·exact⟨i,by omega,e.symm⟩
  ·rintro⟨j,hj,e⟩
   by_cases h:j=i
   ·subst h;exact .inr e.symm
   ·exact .inl ⟨j,by omega,e⟩
theorem uN (val:Nat→Int):∀i,(firstMet val i).length=i↔ ∀j l,j<l→l<i→val j≠val l
 | 0=>by
   rw[firstMet_zero]
   exact⟨λ_ j l _ h=>absurd h (Nat.not_lt_zero _),λ_=>rfl⟩
 |i+1=>by
  have ih:=uN val i
  have le:=firstMet_length_le val i
  have m:=uO val i (val i)
  rw[firstMet_succ,step_length]
  by_cases h:(firstMet val i).any (· ==val i)=true
  ·rw[if_pos h]
   constructor
   ·intro e;omega
   ·intro a
    obtain⟨j,hj,e⟩:=m.mp h
    exact absurd e (a j i hj (by omega))
  ·rw[if_neg h]
   constructor
   ·intro e j l hjl hl
    by_cases z:l=i
    ·subst z
     intro e2
     exact h (m.mpr ⟨j,hjl,e2⟩)
    ·exact ih.mp (by omega) j l hjl (by omega)
   ·intro a
    have:=ih.mpr λj l h1 h2=>a j l h1 (by omega)
    omega
theorem wQ {ns:List Int}:(met ns).length=ns.length↔ns.Nodup:=by
 unfold met
 rw[uN,List.nodup_iff_pairwise_ne,List.pairwise_iff_getElem]
 constructor
 ·intro a i j hi hj hij
  have:=a i j hij hj
  rw[List.getD,List.getElem?_eq_getElem hi,List.getD,List.getElem?_eq_getElem hj]at this
  exact this
 ·intro a j l hjl hl
  rw[List.getD,List.getElem?_eq_getElem (by omega),List.getD,List.getElem?_eq_getElem hl]
  exact a j l (by omega) hl hjl
end L2
namespace L2
open PySem PySem.Spec PyProof.Rows
end L2
namespace L2
open PySem PySem.Spec PyProof.Rows
abbrev iB (t:Tok):List (Str×Value):=[(Str.ofString "start",.int 1 t)]
theorem iz (a:Value) (t:Tok):checkTypeCall "enumerate" ⟨[a],iB t⟩=pure ():=by kernel_rfl
theorem aan (a:Value) (t:Tok):checkBuiltinCall "enumerate.__new__" ⟨[.type "enumerate",a],iB t⟩=pure ():=by kernel_rfl
theorem iy (o a:Value) (t:Tok):argsOk "object.__init__" ⟨[o,a],iB t⟩:=by kernel_rfl
abbrev Ak (l:Addr):Obj:={cls:=.type "list_iterator",data:=.fields #[.ref l,.int 0 0]}
abbrev rG (it:Addr) (n:Int):Obj:={cls:=.type "enumerate",data:=.fields #[.none,.bool false,.ref it,rawInt n,.none,.none]}
theorem nH (l:Addr) (items:Array Value) (n:Nat) (dct:Option Addr) (sl:Array (Option Value)) (t:Tok):
 Meets (Builtin.«enumerate.__new__» ⟨[.type "enumerate",.ref l],iB t⟩) (λ_ R s=>s.heap.get? l=some {cls:=.type "list",dict:=dct,data:=.seq items n,slots:=sl} ∧
  R (.ok (.ret (.ref (s.heap.push (Ak l)).objs.size))) {s with heap:=(s.heap.push (Ak l)).push (rG s.heap.objs.size 1)}):=
 .of_wp λprog w A R s hh=>by
  obtain⟨hp,gg,dd,tk,os⟩:=s
  obtain⟨hl,hR⟩:=hh
  have hsub:=sub_enumerate
  have hL:Heap.IsList (Shared.heap ⟨hp,gg,dd,tk,os⟩) l items:=⟨_,hl,rfl,n,rfl⟩
  wp_walk using AutoSeq1.wpAny_loadPart' hl
  refine wpAny_stack_any λst=>?_
  refine wpAny_pure ?_
  split
  ·rename_i c _ _ _ _ _
   cases(c==Value.type "enumerate") <;>
   ·wp_walk using AutoSeq1.wpAny_loadPart' hl,wpAny_pyIter_list hL
    exact⟨_,rfl,hR⟩
  ·wp_walk using AutoSeq1.wpAny_loadPart' hl,wpAny_pyIter_list hL
   exact⟨_,rfl,hR⟩
section
variable {prog:Program} {w:World} {A:Around} {E:Value→Shared→Prop} {s:Shared}
theorem Gi {me a:Value} {t:Tok}:Meets (Builtin.«object.__init__» ⟨[me,a],iB t⟩) (λ_ R s=>s.TypeIs me "enumerate"∧R (.ok (.ret .none)) s):=by
 have l1:=F.called_enumerate.init.lookup
 have l2:=F.called_enumerate.made
 refine Meets.of_wp λ_ _ _ _ _ z=>?_
 obtain⟨z1,z2⟩:=z
 repeat (any_goals (first |assumption |wp_step))
 exact⟨_,rfl,z2⟩
theorem wO {l:Addr} {items:Array Value} {t:Tok} {Q:Value→Shared→Prop} (hL:s.heap.IsList l items)
 (hq:∀h',IsEnum h' (s.heap.objs.size+1) s.heap.objs.size 1 .none→h'.IsListIter s.heap.objs.size l 0→h'.objs.size=s.heap.objs.size+2→(∀b u,s.heap.get? b=some u→h'.get? b=some u)→Q (.ref (s.heap.objs.size+1)) {s with heap:=h'}):
 wpAny (model prog w) A (call (.type "enumerate") [.ref l] (iB t)) Q E s:=by
 obtain⟨⟨c,dct,dt,sl⟩,hl,hc,n,hd⟩:=hL
 have hc':c= .type "list":=hc
 have hd':dt= .seq items n:=hd
 subst hc' hd'
 have ft:=F.called_enumerate
 obtain⟨c0,tl0,m0⟩:=ft.mro
 have m1:=ft.made
 have m2:=ft.sub
 have m3:=iz (.ref l) t
 have m4:=ft.notType
 have m5:=ft.canCreate
 refine wpAny_call (codeAny_of_tree ?_)
 show wpAny _ _ (callAny (.type "enumerate") _) _ _ _
 refine wpAny_pure ⟨Code.quiet_builtin _ (by decide +kernel),?_⟩
 refine codeAny_builtin F.entry_type_call ?_
 rw[Around.under_plain (weight_type_call_type "enumerate" [.ref l] (iB t)) (units_type_call_type "enumerate" [.ref l] (iB t))]
 repeat (any_goals (first |assumption |wp_step))
 have hz:(s.heap.push (Ak l)).objs.size=s.heap.objs.size+1:=Heap.size_push ..
 have he:IsEnum ((s.heap.push (Ak l)).push (rG s.heap.objs.size 1)) (s.heap.objs.size+1) s.heap.objs.size 1 .none:=by
  have z:=Heap.get?_push_size (s.heap.push (Ak l)) (o:=rG s.heap.objs.size 1) rfl
  rw[hz]at z
  exact z
 refine codeAny_mono (codeAny_call_builtin (R:=wants (λv s1=>v= .ref (s.heap.objs.size+1)∧s1={s with heap:=(s.heap.push (Ak l)).push (rG s.heap.objs.size 1)}) E) ft.plain F.entry_enumerate_new (wpAny_of_eq (aan (.ref l) t) (nH l items n dct sl t prog w A.in1 _ s ⟨hl,⟨by rw[hz],rfl⟩⟩))) λr s1 hr=>?_
 cases r with
 |error e=>exact hr
 |ok fl =>
  cases fl with
  |ret v =>
   obtain⟨rfl,rfl⟩:=hr
   have hT:Shared.TypeIs {s with heap:=(s.heap.push (Ak l)).push (rG s.heap.objs.size 1)} (.ref (s.heap.objs.size+1)) "enumerate":=⟨_,he,rfl⟩
   have n1:=ft.init.lookup
   have n2:=ft.init.bind (.ref (s.heap.objs.size+1))
   repeat (any_goals (first |assumption |wp_step))
   refine codeAny_mono (codeAny_call_builtin (R:=wants (λv s2=>v= .none∧s2={s with heap:=(s.heap.push (Ak l)).push (rG s.heap.objs.size 1)}) E) ft.init.plain F.entry_object_init (ft.init.check _ _ _ _ _ _ _ _ hT (iy _ _ t) (Gi prog w A.in1 _ _ ⟨hT,rfl,rfl⟩))) λr2 s2 hr2=>?_
   cases r2 with
   |error e=>exact hr2
   |ok fl2 =>
    cases fl2 with
    |ret v2 =>
     obtain⟨rfl,rfl⟩:=hr2
     have fin:=hq _ he ⟨_,Heap.get?_push_of_some _ (Heap.get?_push_size _ rfl),rfl,rfl⟩ (by rw[Heap.size_push,hz]) λb u z=>Heap.get?_push_of_some _ (Heap.get?_push_of_some _ z)
     repeat (any_goals (first |assumption |wp_step))
    |_=>exact hr2.elim
  |_=>exact hr.elim
end
theorem iw {prog:Program} {w:World} {A:Around} {it:Addr} {fp:List Addr} {n:Nat} {P:Nat→Value→Prop} {St:Nat→Heap→Prop} (D:Draws prog w A it fp n P St):Draws prog w A it fp (n+1) (λj x=>P (j-1) x) (λj h=>1≤j∧St (j-1) h) where
 live:=λi h z=>D.live (i-1) h z.2
 frame:=λi h h' z k=>⟨z.1,D.frame (i-1) h h' z.2 k⟩
 item:=λi s Q E hi z hQ=>D.item (i-1) s Q E (by have:=z.1;omega) z.2 λx h' tk hP hS same=>hQ x h' tk hP ⟨by omega,by rw[show i+1-1=i-1+1 by have:=z.1;omega];exact hS⟩ same
 done:=λs Q E z hE=>D.done s Q E z.2 hE
def nG (K:PySem.W.Frag) (a:Addr):It:=
 ⟨λi H=>∃xs x,ZJ K H a xs∧xs[i]? =some x,λi H x H'=>∃T v,x= .ref T∧H T=none∧H'=upd H T (.tup [.int ((i:Int)+1),v])∧∀xs,ZJ K H a xs→xs[i]? =some v,λi H=>∃xs,ZJ K H a xs∧xs.length=i⟩
theorem wN {P:Program} {w:World} {K:PySem.W.Frag} {elts:List Expr} {k:Nat} {tp:Pos} (a it e:Addr) (hei:e≠it):Turn P w K (.Tuple elts k tp) (nG K a) [e,it] e (λi h=>(∃old,IsEnum h e it ((i+1:Nat):Int) old)∧h.IsListIter it a i) where
 mem:=by simp
 obj:=λi h st b hb=>by
  obtain⟨⟨old,he⟩,hi⟩:=st
  rcases List.mem_cons.mp hb with z |hb
  ·subst z
   exact⟨_,he,λv z=>by
    have z':Data.fields _=Data.cell v:=z
    cases z'⟩
  ·have z:b=it:=by simpa using hb
   subst z
   obtain⟨o,e,c,d⟩:=hi
   exact⟨o,e,λv z=>by rw[d]at z;cases z⟩
 keep:=λi h h' st kk=>by
  obtain⟨⟨old,he⟩,hi⟩:=st
  exact⟨⟨old,kk e (by simp) _ he⟩,hi.at λo z=>kk it (by simp) o z⟩
 item:=by
  intro X hP hw hK hc i pins s σ H E I hf st hg
  subst hP hw hK
  obtain⟨⟨old,he⟩,hi⟩:=st
  obtain⟨xs,x,hq,hx⟩:=hg
  obtain⟨its,rv,p,hz⟩:=I.list hq
  obtain⟨u,hu,ru⟩:=rv.get hx
  have hil:i<its.toArray.size:=by
   have:=(List.getElem?_eq_some_iff.mp hu).1
   simpa using this
  have hai:a≠it:=λz=>by
   obtain⟨o,ho,hc',_⟩:=hi
   obtain⟨o2,ho2,hc2,_⟩:=p.isList
   rw[z,ho]at ho2
   cases ho2
   rw[hc']at hc2
   exact absurd hc2 (by decide)
  have hea:e≠a:=λz=>by
   obtain⟨o2,ho2,hc2,_⟩:=p.isList
   have he2:s.heap.get? e=some _:=he
   rw[←z,he2]at ho2
   cases ho2
   have hc2:Value.type "enumerate"=Value.type "list":=hc2
   exact absurd hc2 (by decide)
  have D:=iw (Draws.list (prog:=X.prog) (w:=X.w) (A:=X.A.in1) (I.ok.hd hc) it a hai its.toArray)
  refine wpAny_pyNext_enum_itemD (i:=i+1) D he ⟨Nat.succ_le_succ (Nat.zero_le _),hi,p.isList⟩ (Nat.succ_lt_succ hil) hei (by simp[hei,hea]) λy h1 tk hy hout hst hT hsz hk=>?_
  have ey:y=u:=by
   have q:its.toArray[i]? =some y:=hy
   have q2:its.toArray[i]? =some u:=by simpa using hu
   rw[q2]at q
   exact(Option.some.inj q).symm
  subst ey
  refine⟨_,rfl,?_⟩
  refine wpAny_letOwnedTupleGo_enum hout λh2 he2 hs2=>?_
  have hTe:s.heap.objs.size≠e:=λz=>absurd (Heap.lt_size he) (by rw[←z];exact Nat.lt_irrefl _)
  have keep:∀b o,b∉[e,it]→s.heap.get? b=some o→h2.get? b=some o:=λb o hb q=>by
   have h1':b≠e:=λz=>hb (by simp[z])
   have h2':b≠it:=λz=>hb (by simp[z])
   exact(hs2.2 b h1').trans (hk b o h1' h2' q)
  have hT2:h2.get? s.heap.objs.size=some {cls:=.type "tuple",data:=.seq #[.int ((i+1:Nat):Int) tk,y]}:=(hs2.2 _ hTe).trans hT
  refine⟨.ref s.heap.objs.size,upd H s.heap.objs.size (.tup [.int ((i:Int)+1),x]),I.K4 (tk:=tk+1) keep hf (Nat.le_refl _) ⟨_,hT2⟩ ?_,rfl,⟨_,x,rfl,I.hok.fresh (Nat.le_refl _),rfl,λys hys=>by rw[I.Qw hys hq];exact hx⟩,⟨⟨_,by simpa using he2⟩,?_⟩,λb hb=>?_⟩
  ·exact⟨by show 2≤sizeLine;decide,[.int ((i+1:Nat):Int) tk,y],.cons ⟨_,rfl⟩ (.cons ru .nil),⟨_,hT2,rfl,_,rfl⟩⟩
  ·exact hst.2.1.at λo z=>(hs2.2 it (Ne.symm hei)).trans z
  ·have hbn:=(hf b hb).1
   rw[Zw]
   ·exact hbn
   ·intro z
    rcases List.mem_cons.mp hb with q |hb
    ·exact hTe (z▸q)
    ·have q:b=it:=by simpa using hb
     obtain⟨o,ho,_⟩:=hi
     have:=Heap.lt_size ho
     rw[←q,z]at this
     exact absurd this (Nat.lt_irrefl _)
 done:=by
  intro X hP hw hK hc i pins s σ H E I hf st hg
  subst hP hw hK
  obtain⟨⟨old,he⟩,hi⟩:=st
  obtain⟨xs,hq,hx⟩:=hg
  obtain⟨its,rv,p,hz⟩:=I.list hq
  have hl:=rv.length
  have hai:a≠it:=λz=>by
   obtain⟨o,ho,hc',_⟩:=hi
   obtain⟨o2,ho2,hc2,_⟩:=p.isList
   rw[z,ho]at ho2
   cases ho2
   rw[hc']at hc2
   exact absurd hc2 (by decide)
  have D:=Draws.list (prog:=X.prog) (w:=X.w) (A:=X.A.in1) (I.ok.hd hc) it a hai its.toArray
  have hsz:its.toArray.size=i:=by simp;omega
  refine wpAny_pyNext_enum_endD D he ⟨by rw[hsz];exact hi,p.isList⟩ λh1 hx1=>⟨rfl,?_⟩
  exact I.Nx (ch:=[e,it]) (tk:=s.toks) (λb o hb q=>hx1 b o (λz=>hb (by simp[z])) q) hf
 self:=λ_ _ _ _ _ st h=>by
  obtain⟨⟨old,he⟩,_⟩:=st
  exact wpAny_pyIter_enum he h
section
variable {M:Model} {A:Around} {E:Value→Shared→Prop} {s:Shared}
theorem iu {pos:Pos} {T:String} {as:List (Bool×Sem Value)} {ks:List (Option Str×Sem Value)} {Q:Value→Shared→Prop} (h1:as.any (·.1)=false) (h2:ks.any (·.1.isNone)=false)
 (h:wpAny M A (evalArgs (.type T) true as ks) (λa s1=>wpAny M A (call (.type T) a.pos a.kw) Q E s1) E s):wpAny M A (callWith pos (.type T) [] as ks) Q E s:=by
 unfold callWith
 refine wpAny_bind ?_
 refine wpAny_holding (wpAny_mono h (λa s1 z=>?_) λ_ _ z=>z)
 refine wpAny_bind (wpAny_standAt ?_)
 simp only[h1,h2,Bool.or_false]
 refine wpAny_bind (wpAny_pure ?_)
 refine wpAny_bind ?_
 exact wpAny_mono z (λr s2 q=>wpAny_bind (wpAny_holding (wpAny_point (wpAny_pure q)))) λ_ _ q=>q
end
section
variable {X:Cx} {elts:List Expr} {k:Nat} {tp:Pos} {K:PySem.W.Frag}
def aao (K:PySem.W.Frag) (ta:TA):TI:=λσ H R=>ta σ H λvs H1=>∃a,vs=[.ref a]∧(∃xs,ZJ K H1 a xs)∧R (nG K a) H1
theorem nF {l:Expr} {ta:TA} {p pos cp kp:Pos} {j:Nat} (hg:Gl X "enumerate") (hm:X.mg "enumerate"=none) (ha:PA X [l] ta) (hs:starEach [l] X.env=[(false,eval l X.env)]:=by rfl) (hK:X.K=K:=by rfl):
 PI X (.Tuple elts k tp) (.Call (.Name "enumerate" p) [l] [⟨some (Str.ofString "start"),.Constant (.int 1) j cp,kp⟩] pos) (aao K ta):=by
 subst hK
 intro pins s σ H R I h
 refine wpAny_Call_Name_kw (T3 I hg hm boot_enumerate ?_)
 have hkw:keywordEach [⟨some (Str.ofString "start"),.Constant (.int 1) j cp,kp⟩] X.env=[(some (Str.ofString "start"),eval (.Constant (.int 1) j cp) X.env)]:=by rfl
 rw[hkw]
 refine iu (by rw[hs];rfl) rfl ?_
 rw[hs]
 refine evalArgs_kw (by rfl) ?_
 have hs':backTo pos [(false,eval l X.env)]=backTo pos (starEach [l] X.env):=by rw[hs]
 show wpAny _ _ (spliced (backTo pos [(false,eval l X.env)])) _ _ _
 rw[hs']
 refine Yy (ha pos pins s σ H _ I h) λus s1 ⟨vs,H1,I1,r1,q1⟩=>?_
 obtain⟨a,e,⟨xs,hq⟩,q⟩:=q1
 subst e
 obtain⟨u,rfl,r⟩:=vals1 r1
 cases r
 show wpAny _ _ (evalAll [do let v ←eval (.Constant (.int 1) j cp) X.env;standAt pos;pure v]) _ _ _
 refine wpAny_bind ?_
 refine wpAny_bind ?_
 refine Yy (Z5 (X:=X) pins s1 σ H1 (λv H2=>v= .int 1∧H2=H1) I1 ⟨rfl,rfl⟩) λv s2 ⟨x,H2,I2,r2,q2⟩=>?_
 obtain⟨rfl,rfl⟩:=q2
 obtain⟨t,rfl⟩:=r2
 refine wpAny_bind (wpAny_standAt (wpAny_pure ?_))
 refine wpAny_bind (wpAny_holding ?_)
 show wpAny _ _ (pure []) _ _ _
 refine wpAny_pure (wpAny_pure ?_)
 show wpAny _ _ (call (.type "enumerate") [.ref a] (iB t)) _ _ _
 obtain⟨its,rv,pl,hz⟩:=I2.list hq
 refine wO pl.isList λh1 he hit hsz hk=>?_
 refine wpAny_pyIter_enum he ?_
 refine⟨s2.heap.objs.size+1,[s2.heap.objs.size+1,s2.heap.objs.size],_,_,_,rfl,I2.kept (t':=s2.toks) hk,wN a s2.heap.objs.size (s2.heap.objs.size+1) (Nat.succ_ne_self _),⟨⟨_,he⟩,hit⟩,λb hb=>?_,q⟩
 have hb:s2.heap.objs.size≤b:=by
  rcases List.mem_cons.mp hb with z |hb
  ·rw[z];exact Nat.le_succ _
  ·have z:b=s2.heap.objs.size:=by simpa using hb
   rw[z];exact Nat.le_refl _
 exact I2.Bu hb (I2.hok.fresh hb)
end
theorem rF {K:PySem.W.Frag} {a:Addr} {xs:List V} {g:TG} {tb:TS} {D:Ends} {σ:St} {H:Hp} (Pv:Nat→St→Hp→Prop) (h0:Pv 0 σ H) (hl:∀i σ H,i≤xs.length→Pv i σ H→ZJ K H a xs)
 (hs:∀i x σ H T,xs[i]? =some x→Pv i σ H→H T=none→g (.ref T) σ (upd H T (.tup [.int ((i:Int)+1),x])) λσ2 H2=>tb {D with nx:=Pv (i+1),ct:=Pv (i+1),bk:=D.nx} σ2 H2) (hd:∀σ H,Pv xs.length σ H→D.nx σ H):
 ∃W:Nat→Nat→St→Hp→Prop,(∃m,W 0 m σ H)∧∀i m σ H,W i m σ H →
  ((nG K a).stop i H∧D.nx σ H)∨((nG K a).go i H∧∃N:St→Hp→Prop,(∀σ' H',N σ' H'→∃m',m'<m∧W (i+1) m' σ' H')∧∀x H',(nG K a).pW i H x H'→g x σ H' λσ2 H2=>tb {D with nx:=N,ct:=N,bk:=D.nx} σ2 H2):=by
 refine⟨λi m σ H=>m=xs.length-i∧i≤xs.length∧Pv i σ H,⟨xs.length,by simp,Nat.zero_le _,h0⟩,?_⟩
 rintro i m σ H ⟨rfl,hi,p⟩
 have q:=hl i σ H hi p
 by_cases hlt:i<xs.length
 ·refine .inr ⟨⟨xs,xs[i],q,by simp[hlt]⟩,Pv (i+1),λσ' H' p'=>⟨xs.length-(i+1),by omega,rfl,hlt,p'⟩,λx H' y=>?_⟩
  obtain⟨T,v,rfl,hT,rfl,y⟩:=y
  exact hs i v σ H T (y xs q) p hT
 ·have:i=xs.length:=by omega
  subst this
  exact .inl ⟨⟨xs,q,rfl⟩,hd σ H p⟩
end L2
namespace L2
open PySem PySem.Spec PyProof.Rows
section
variable {X:Cx}
def am3 (K:PySem.W.Frag):R2:=λx y H Q=>∃a b xs ys,x= .ref a∧y= .ref b∧TY K H a xs∧TY K H b ys∧∃e:Nat→Bool,(∀(i:Nat) (x y:V),xs[i]? =some x→ys[i]? =some y→rY K H 40 x y (e i))∧Q (.bl ((List.range (min xs.length ys.length)).all e && xs.length==ys.length)) H
end
end L2
namespace L2
open PySem PySem.Spec PyProof.Rows
def notStar:Expr→Bool
 | .Starred .. =>false
 |_=>true
theorem rE {e:Expr} {es:List Expr} {env:Env} (h:notStar e=true):starEach (e :: es) env=(false,eval e env) :: starEach es env:=by
 cases e<;>first |rfl |cases h
section
variable {X:Cx} {e:Expr} {es:List Expr} {te:TE} {t:TA}
theorem aer (ha:PE X e te) (hr:PA X es t) (hn:notStar e=true:=by rfl):PA X (e :: es) (pN te t):=Z_ ha hr (rE hn)
end
end L2
namespace M
open PySem
abbrev cd (z:Str):List Nat:=z.cps.toList
theorem Wk {x y:Str} (h:cd x=cd y):x=y:=by
 obtain⟨⟨x⟩⟩:=x
 obtain⟨⟨y⟩⟩:=y
 have h:x=y:=h
 rw[h]
theorem V2 (z:Str):(cd z).length=z.length:=Array.length_toList
theorem XC (a b:Str):cd (a++b)=cd a++cd b:=by
 obtain⟨⟨a⟩⟩:=a
 obtain⟨⟨b⟩⟩:=b
 show(({toList:=a}:Array Nat)++({toList:=b}:Array Nat)).toList=a++b
 simp
theorem abY:cd (Str.ofString "0")=[48]:=by decide +kernel
theorem abZ:cd (Str.ofString "p")=[112]:=by decide +kernel
theorem ab0:cd (Str.ofString "t")=[116]:=by decide +kernel
theorem aap:cd (Str.ofString "")=[]:=by decide +kernel
def yh (z:Str):Prop:=∀c∈cd z,c<128
def dig (c:Nat):Bool:=decide (48≤c) && decide (c≤57)
def pt (c:Nat):Bool:=decide (c=112) || decide (c=116)
theorem ig:∀c:Nat,c<128→Builtin.Str.occurrences (Str.ofString "0123456789") ⟨#[c]⟩ 0 (Str.ofString "0123456789").length 1=if dig c then [c-48]else []:=by decide +kernel
theorem aaq:∀c:Nat,c<128→(!(Builtin.Str.occurrences (Str.ofString "pt") ⟨#[c]⟩ 0 (Str.ofString "pt").length 1).isEmpty)=pt c:=by decide +kernel
theorem nD {c:Nat} (h:c<128):(!(Builtin.Str.occurrences (Str.ofString "0123456789") ⟨#[c]⟩ 0 (Str.ofString "0123456789").length 1).isEmpty)=dig c:=by
 rw[ig c h]
 cases dig c<;>rfl
theorem nC (z:Str):PySem.Txt.startswith z (Str.ofString "0")=decide ((cd z).head? =some 48):=by
 unfold PySem.Txt.startswith Builtin.Str.subAt
 obtain⟨⟨l⟩⟩:=z
 have e0:(Str.ofString "0")=⟨#[48]⟩:=Wk abY
 rw[e0]
 show(decide (0+1≤l.length) && ((({toList:=l}:Array Nat).extract 0 (0+1))== #[48]))=decide (l.head? =some 48)
 cases l with
 |nil=>rfl
 |cons a r =>
  have e1:(({toList:=a :: r}:Array Nat).extract 0 (0+1))= #[a]:=by
   apply Array.ext'
   simp
  rw[e1]
  have e2:decide (0+1≤(a :: r).length)=true:=decide_eq_true (by simp)
  rw[e2,Bool.true_and]
  by_cases h:a=48
  ·subst h;rfl
  ·have:(#[a]== #[48])=false:=by
    simp[h]
   rw[this]
   simp[h]
def V1 (l:List Nat):Bool:=decide (1≤l.length) && decide (l.length≤12) && l.all dig && (decide (l=[48]) || !decide (l.head? =some 48))
theorem wM {l:List Nat} (h:l.all dig=true):PySem.NumText.AllDigits l:=λc hc=>by
 have:=List.all_eq_true.mp h c hc
 unfold dig at this
 simpa using this
theorem rD {z:Str} (h:V1 (cd z)=true):PySem.intText? z=some ((PySem.NumText.digitsVal (cd z):Nat):Int)∧z.length≤640:=by
 unfold V1 at h
 simp only[Bool.and_eq_true,decide_eq_true_eq]at h
 obtain⟨⟨⟨h1,h2⟩,h3⟩,_⟩:=h
 have e:=V2 z
 refine⟨PySem.intText_digits (wM h3) (λq=>?_) (by omega),by omega⟩
 rw[show cd z=[]from q]at h1
 exact absurd h1 (by decide)
theorem Aj (m:Nat):((Nat.toDigits 10 m).map Char.toNat).all dig=true:=by
 rw[List.all_eq_true]
 intro c hc
 obtain⟨ch,hch,e⟩:=List.mem_map.mp hc
 have r:=PyProof.Rows.digit_range (Nat.isDigit_of_mem_toDigits (by decide) (by decide) hch)
 unfold dig
 rw[←e]
 simpa using r
theorem Il:∀(k m:Nat),m<10 ^ (k+1)→(Nat.toDigits 10 m).length≤k+1
 | 0,m,h=>by rw[Nat.toDigits_of_lt_base (by simpa using h)];simp
 |k+1,m,h=>by
  by_cases h1:m<10
  ·rw[Nat.toDigits_of_lt_base h1];simp
  ·have hm:m % 10<10:=Nat.mod_lt m (by decide)
   have t:Nat.toDigits 10 (m / 10)++Nat.toDigits 10 (m % 10)=Nat.toDigits 10 (10*(m / 10)+m % 10):=Nat.toDigits_append_toDigits (by decide) (by omega) hm
   rw[Nat.div_add_mod]at t
   have i:=Il k (m / 10) (by rw[Nat.pow_succ]at h;omega)
   rw[←t,List.length_append,Nat.toDigits_of_lt_base hm]
   simp only[List.length_singleton]
   omega
theorem Dg (m:Nat):Nat.toDigits 10 m≠[]:=by
 by_cases h1:m<10
 ·rw[Nat.toDigits_of_lt_base h1];simp
 ·have hm:m % 10<10:=Nat.mod_lt m (by decide)
  have t:Nat.toDigits 10 (m / 10)++Nat.toDigits 10 (m % 10)=Nat.toDigits 10 (10*(m / 10)+m % 10):=Nat.toDigits_append_toDigits (by decide) (by omega) hm
  rw[Nat.div_add_mod]at t
  rw[←t,Nat.toDigits_of_lt_base hm]
  simp
theorem rC (m:Nat) (h0:m≠0):((Nat.toDigits 10 m).map Char.toNat).head? ≠some 48:=by
 induction m using Nat.strongRecOn with
 |_ m ih =>
  by_cases h1:m<10
  ·rw[Nat.toDigits_of_lt_base h1]
   have:∀d:Nat,d<10→d≠0→([Nat.digitChar d].map Char.toNat).head? ≠some 48:=by decide
   exact this m h1 h0
  ·have hm:m % 10<10:=Nat.mod_lt m (by decide)
   have t:Nat.toDigits 10 (m / 10)++Nat.toDigits 10 (m % 10)=Nat.toDigits 10 (10*(m / 10)+m % 10):=Nat.toDigits_append_toDigits (by decide) (by omega) hm
   rw[Nat.div_add_mod]at t
   have i:=ih (m / 10) (by omega) (by omega)
   rw[←t,List.map_append]
   cases q:Nat.toDigits 10 (m / 10)with
   |nil=>exact absurd q (Dg _)
   |cons a r =>
    rw[q]at i
    simpa using i
theorem aar {n:Int} (h0:0≤n) (h1:n<10 ^ 12):V1 (cd (Str.ofString (toString n)))=true∧((PySem.NumText.digitsVal (cd (Str.ofString (toString n))):Nat):Int)=n∧yh (Str.ofString (toString n))∧1≤(cd (Str.ofString (toString n))).length∧(cd (Str.ofString (toString n))).length≤12:=by
 obtain⟨m,rfl⟩:=Int.eq_ofNat_of_zero_le h0
 have hm:m<10 ^ (11+1):=by
  have:((10 ^ 12:Nat):Int)=10 ^ 12:=by decide
  omega
 have e:cd (Str.ofString (toString ((m:Nat):Int)))=(Nat.toDigits 10 m).map Char.toNat:=PySem.W.KIN.signs_num m
 have l1:=Il 11 m hm
 have l2:1≤(Nat.toDigits 10 m).length:=by
  cases q:Nat.toDigits 10 m with
  |nil=>exact absurd q (Dg m)
  |cons a r=>simp
 have ad:=Aj m
 show V1 (cd (Str.ofString (toString ((m:Nat):Int))))=true∧((PySem.NumText.digitsVal (cd (Str.ofString (toString ((m:Nat):Int)))):Nat):Int)=(m:Int)∧yh (Str.ofString (toString ((m:Nat):Int)))∧1≤(cd (Str.ofString (toString ((m:Nat):Int)))).length∧(cd (Str.ofString (toString ((m:Nat):Int)))).length≤12
 unfold yh
 rw[e,PySem.W.KIN.val_back]
 refine⟨?_,rfl,λc hc=>?_,by rw[List.length_map];exact l2,by rw[List.length_map];exact l1⟩
 ·unfold V1
  rw[ad]
  simp only[List.length_map,Bool.and_eq_true,decide_eq_true_eq,Bool.or_eq_true,Bool.not_eq_true',decide_eq_false_iff_not,true_and,and_true]
  refine⟨⟨l2,l1⟩,?_⟩
  by_cases q:m=0
  ·subst q;exact .inl (by decide)
  ·exact .inr (rC m q)
 ·have:=wM ad c hc
  omega
def Ik (l:List Nat):Bool:=decide (1≤l.length) && decide (l.length≤400) && l.all pt
def mk (l:List Nat):List Bool:=l.map λc=>decide (c=116)
theorem glue (cs:List Nat):cd (PySem.Txt.join (Str.ofString "") (cs.map λc=>(⟨#[c]⟩:Str)))=cs:=by
 show cd (Builtin.Str.glued (Str.ofString "") _)=_
 rw[StrLaws.glued_eq_join]
 induction cs with
 |nil=>rfl
 |cons a r ih =>
  cases r with
  |nil=>rfl
  |cons b r =>
   show cd ((⟨#[a]⟩:Str)++Str.ofString ""++Str.join (Str.ofString "") (List.map (λc=>(⟨#[c]⟩:Str)) (b :: r)))=_
   rw[XC,XC,ih,aap]
   rfl
theorem uM (cs:List Nat) (h:cs.length≤1000):PySem.JoinOk (Str.ofString "") (cs.map λc=>(⟨#[c]⟩:Str))=true:=by
 unfold PySem.JoinOk
 have z:(Str.ofString "").length=0:=by decide
 have e:∀(l:List Nat) (a:Nat),(l.map λc=>(⟨#[c]⟩:Str)).foldl (λx y=>x+y.length+(Str.ofString "").length) a=a+l.length:=by
  intro l
  induction l with
  |nil=>intro a;simp
  |cons b r ih =>
   intro a
   rw[List.map_cons,List.foldl_cons,ih,z]
   show a+1+0+r.length=_
   simp only[List.length_cons]
   omega
 have e2:(List.toArray (cs.map λc=>(⟨#[c]⟩:Str))).foldl (· + ·.length+(Str.ofString "").length) 0=cs.length:=by
  rw[←Array.foldl_toList]
  show List.foldl _ _ _=_
  rw[e cs 0]
  omega
 rw[e2]
 unfold PySem.Builtin.Str.tooLong
 rw[PySem.sizeLine_eq]
 simp
 omega
theorem reps:∀(k:Nat) (a acc:Array Nat),((List.replicate k a).foldl (· ++ ·) acc).toList=acc.toList++(List.replicate k a.toList).flatten
 | 0,a,acc=>by simp
 |k+1,a,acc=>by
  rw[List.replicate_succ,List.foldl_cons,reps k a (acc++a),List.replicate_succ,List.flatten_cons]
  simp
end M
namespace M
open PySem
def R (w:List Nat) (vs:List (List Nat)):List Nat:=w++(vs.map λv=>32 :: v).flatten
theorem Ai (w:List Nat):R w []=w:=by simp[R]
theorem Ij (w v:List Nat) (vs:List (List Nat)):R w (v :: vs)=w++32 :: R v vs:=by simp[R]
theorem uL:∀{w v a b:List Nat},32∉w→32∉v→w++32 :: a=v++32 :: b→w=v∧a=b
 | [],[],_,_,_,_,h=>⟨rfl,(List.cons.inj h).2⟩
 | [],y :: v,_,_,_,hv,h=>absurd (List.mem_cons.mpr (.inl (List.cons.inj h).1)) hv
 |x :: w,[],_,_,hw,_,h=>absurd (List.mem_cons.mpr (.inl (List.cons.inj h).1.symm)) hw
 |x :: w,y :: v,a,b,hw,hv,h=>by
  obtain⟨h1,h2⟩:=List.cons.inj h
  obtain⟨h3,h4⟩:=uL (λz=>hw (List.mem_cons_of_mem _ z)) (λz=>hv (List.mem_cons_of_mem _ z)) h2
  exact⟨by rw[h1,h3],h4⟩
theorem cO:∀{us vs:List (List Nat)} {w v:List Nat},32∉w→32∉v→(∀x∈us,32∉x)→(∀x∈vs,32∉x)→R w us=R v vs→w=v∧us=vs
 | [],[],w,v,_,_,_,_,h=>by rw[Ai,Ai]at h;exact⟨h,rfl⟩
 | [],y :: vs,w,v,hw,_,_,_,h=>by
   rw[Ai,Ij]at h
   exact absurd (by rw[h];simp) hw
 |x :: us,[],w,v,_,hv,_,_,h=>by
  rw[Ai,Ij]at h
  exact absurd (by rw[←h];simp) hv
 |x :: us,y :: vs,w,v,hw,hv,hu,hs,h=>by
  rw[Ij,Ij]at h
  obtain⟨h1,h2⟩:=uL hw hv h
  obtain⟨h3,h4⟩:=cO (hu x List.mem_cons_self) (hs y List.mem_cons_self) (λz hz=>hu z (List.mem_cons_of_mem _ hz)) (λz hz=>hs z (List.mem_cons_of_mem _ hz)) h2
  exact⟨h1,by rw[h3,h4]⟩
theorem Ah:cd (Str.ofString " ")=[32]:=by decide +kernel
theorem ab1:Str.ofString " "=⟨#[32]⟩:=Wk Ah
theorem uK (w:Str) (vs:List Str):cd (Str.join (Str.ofString " ") (w :: vs))=R (cd w) (vs.map cd):=by
 induction vs generalizing w with
 |nil=>rw[List.map_nil,Ai];rfl
 |cons v vs ih =>
  show cd (w++Str.ofString " "++Str.join (Str.ofString " ") (v :: vs))=_
  rw[XC,XC,Ah,ih,List.map_cons,Ij]
  simp
theorem nA (z:Str):PySem.Txt.split z (Str.ofString " ")≠[]:=by
 unfold PySem.Txt.split
 split
 ·simp
 ·split
  ·simp
  ·intro h
   have:=congrArg List.length h
   rw[length_partsBetween]at this
   simp at this
theorem E_ {z w:Str} {vs:List Str} (hw:32∉cd w) (hv:∀x∈vs,32∉cd x) (e:cd z=R (cd w) (vs.map cd)):PySem.Txt.split z (Str.ofString " ")=w :: vs:=by
 have hj:=StrLaws.join_split z (Str.ofString " ")
 have hf:∀p∈PySem.Txt.split z (Str.ofString " "),32∉cd p:=λp hp=>StrLaws.split_free z 32 p (by rw[←ab1];exact hp)
 cases q:PySem.Txt.split z (Str.ofString " ")with
 |nil=>exact absurd q (nA z)
 |cons a r =>
  rw[q]at hj hf
  have e2:=uK a r
  rw[hj,e]at e2
  obtain⟨h1,h2⟩:=cO hw (hf a List.mem_cons_self) (λx hx=>by
   obtain⟨y,hy,rfl⟩:=List.mem_map.mp hx
   exact hv y hy) (λx hx=>by
   obtain⟨y,hy,rfl⟩:=List.mem_map.mp hx
   exact hf y (List.mem_cons_of_mem _ hy)) e2
  have inj:∀(xs ys:List Str),xs.map cd=ys.map cd→xs=ys:=by
   intro xs
   induction xs with
   |nil=>intro ys h;cases ys with
    |nil=>rfl
    |cons b t=>cases h
   |cons b t ih=>intro ys h;cases ys with
    |nil=>cases h
    |cons c u =>
     obtain⟨g1,g2⟩:=List.cons.inj h
     rw[Wk g1,ih u g2]
  rw[Wk h1,inj _ _ h2]
abbrev tx (i:Int):Str:=Str.ofString (toString i)
abbrev dg (i:Int):List Nat:=cd (tx i)
theorem nu (m:Nat):dg ((m:Nat):Int)=(Nat.toDigits 10 m).map Char.toNat:=PySem.W.KIN.signs_num m
theorem wL {i:Int} (h:0≤i):∀c∈dg i,48≤c∧c≤57:=by
 obtain⟨m,rfl⟩:=Int.eq_ofNat_of_zero_le h
 intro c hc
 have hc:c∈dg ((m:Nat):Int):=hc
 rw[nu]at hc
 exact wM (Aj m) c hc
theorem h_ {i:Int} (h:0≤i):32∉dg i:=λz=>by have:=wL h 32 z;omega
theorem KZ {i:Int} {k:Nat} (h:0≤i) (h1:i<10 ^ (k+1)):(tx i).length≤k+1∧1≤(tx i).length:=by
 obtain⟨m,rfl⟩:=Int.eq_ofNat_of_zero_le h
 have hm:m<10 ^ (k+1):=by
  have e:((10 ^ (k+1):Nat):Int)=10 ^ (k+1):=by simp
  have h1:((m:Nat):Int)<10 ^ (k+1):=h1
  omega
 have e:=nu m
 have l1:=Il k m hm
 have e2:(tx ((m:Nat):Int)).length=(Nat.toDigits 10 m).length:=by rw[←V2];show(dg _).length=_;rw[e,List.length_map]
 show(tx ((m:Nat):Int)).length≤k+1∧1≤(tx ((m:Nat):Int)).length
 rw[e2]
 refine⟨l1,?_⟩
 cases q:Nat.toDigits 10 m with
 |nil=>exact absurd q (Dg m)
 |cons a r=>simp
set_option exponentiation.threshold 3000 in
theorem Tv {i:Int} (h:0≤i) (h1:i<10 ^ 500):i.natAbs.log2<1920:=by
 by_cases hz:i.natAbs=0
 ·rw[hz];decide
 ·refine(Nat.log2_lt hz).mpr ?_
  have e:(10 ^ 500:Nat)≤2 ^ 1920:=by decide +kernel
  have:i.natAbs<10 ^ 500:=by
   have e2:((10 ^ 500:Nat):Int)=10 ^ 500:=by simp
   omega
  exact Nat.lt_of_lt_of_le this e
def QV (l:List Int):Str:=PySem.Txt.join (Str.ofString " ") (l.map tx)
theorem Ag (i:Int) (l:List Int):cd (QV (i :: l))=R (dg i) (l.map dg):=by
 show cd (Builtin.Str.glued (Str.ofString " ") _)=_
 rw[StrLaws.glued_eq_join,List.map_cons,uK,List.map_map]
 rfl
theorem g_ {sep:Str} {ys:List Str} {B:Nat} (hB:∀y∈ys,y.length+sep.length≤B) (h:ys.length*B≤1000000):PySem.JoinOk sep ys=true:=by
 unfold PySem.JoinOk
 have e:∀(l:List Str) (a:Nat),(∀y∈l,y.length+sep.length≤B)→l.foldl (λx y=>x+y.length+sep.length) a≤a+l.length*B:=by
  intro l
  induction l with
  |nil=>intro a _;simp
  |cons b r ih =>
   intro a hb
   rw[List.foldl_cons]
   have h1:=ih (a+b.length+sep.length) λy hy=>hb y (List.mem_cons_of_mem _ hy)
   have h2:=hb b List.mem_cons_self
   rw[List.length_cons,Nat.succ_mul]
   omega
 have e2:(List.toArray ys).foldl (λx y=>x+y.length+sep.length) 0≤ys.length*B:=by
  rw[←Array.foldl_toList]
  have:=e ys 0 hB
  simpa using this
 unfold PySem.Builtin.Str.tooLong
 rw[PySem.sizeLine_eq]
 simp only[Bool.not_eq_true',decide_eq_false_iff_not,gt_iff_lt,Nat.not_lt]
 omega
theorem Ii {l:List Int} (h:∀x∈l,0≤x∧x<10 ^ 20) (hl:l.length≤1000):PySem.JoinOk (Str.ofString " ") (l.map tx)=true:=by
 refine g_ (B:=21) (λy hy=>?_) (by rw[List.length_map];omega)
 obtain⟨i,hi,rfl⟩:=List.mem_map.mp hy
 have:=(KZ (k:=19) (h i hi).1 (h i hi).2).1
 have e:(Str.ofString " ").length=1:=by decide +kernel
 omega
end M
namespace M
open PySem
theorem Rk {z:Str} {n:Int} (h0:0≤n) (h2:n≤900) (hl:z.length≤100):PySem.MulOk z n:=by
 refine⟨?_,λa b=>?_,λa b=>?_⟩
 ·rw[decide_eq_false (by omega),decide_eq_false (by omega)];rfl
 ·intro q
  have:100≤(2 ^ 63-1) / n:=by
   rw[Int.le_ediv_iff_mul_le (by omega)]
   omega
  omega
 ·unfold PySem.Builtin.Str.tooLong
  rw[PySem.sizeLine_eq]
  refine decide_eq_false ?_
  have:z.length*n.toNat≤100*900:=Nat.mul_le_mul hl (by omega)
  omega
theorem Ih (z:Str) {n:Int} (h0:0≤n):cd (PySem.Txt.mul z n)=(List.replicate n.toNat (cd z)).flatten:=by
 unfold PySem.Txt.mul
 by_cases h1:n<1
 ·have:n=0:=by omega
  subst this
  rfl
 ·rw[if_neg h1]
  by_cases h2:(n==1 || z.length==0)=true
  ·rw[if_pos h2]
   rw[Bool.or_eq_true,beq_iff_eq,beq_iff_eq]at h2
   rcases h2 with h2 |h2
   ·subst h2
    show cd z=[cd z].flatten
    simp
   ·have e:cd z=[]:=List.eq_nil_of_length_eq_zero (by rw[V2];exact h2)
    rw[e]
    simp
  ·rw[if_neg h2]
   show((List.replicate n.toNat z.cps).foldl (· ++ ·) #[]).toList=_
   rw[reps]
   rfl
theorem Mw (z:Str) {n:Int} (h0:0≤n):(PySem.Txt.mul z n).length=n.toNat*z.length:=by
 rw[←V2,Ih z h0,List.length_flatten,List.map_replicate,List.sum_replicate_nat,V2]
end M
namespace M
open PySem
def RS (w:List Nat) (vs:List (List Nat)):List Nat:=w++(vs.map λv=>47 :: v).flatten
theorem Ig (w:List Nat):RS w []=w:=by simp[RS]
theorem Mv (w v:List Nat) (vs:List (List Nat)):RS w (v :: vs)=w++47 :: RS v vs:=by simp[RS]
theorem Af:∀{w v a b:List Nat},47∉w→47∉v→w++47 :: a=v++47 :: b→w=v∧a=b
 | [],[],_,_,_,_,h=>⟨rfl,(List.cons.inj h).2⟩
 | [],y :: v,_,_,_,hv,h=>absurd (List.mem_cons.mpr (.inl (List.cons.inj h).1)) hv
 |x :: w,[],_,_,hw,_,h=>absurd (List.mem_cons.mpr (.inl (List.cons.inj h).1.symm)) hw
 |x :: w,y :: v,a,b,hw,hv,h=>by
  obtain⟨h1,h2⟩:=List.cons.inj h
  obtain⟨h3,h4⟩:=Af (λz=>hw (List.mem_cons_of_mem _ z)) (λz=>hv (List.mem_cons_of_mem _ z)) h2
  exact⟨by rw[h1,h3],h4⟩
theorem nq:∀{us vs:List (List Nat)} {w v:List Nat},47∉w→47∉v→(∀x∈us,47∉x)→(∀x∈vs,47∉x)→RS w us=RS v vs→w=v∧us=vs
 | [],[],w,v,_,_,_,_,h=>by rw[Ig,Ig]at h;exact⟨h,rfl⟩
 | [],y :: vs,w,v,hw,_,_,_,h=>by
   rw[Ig,Mv]at h
   exact absurd (by rw[h];simp) hw
 |x :: us,[],w,v,_,hv,_,_,h=>by
  rw[Ig,Mv]at h
  exact absurd (by rw[←h];simp) hv
 |x :: us,y :: vs,w,v,hw,hv,hu,hs,h=>by
  rw[Mv,Mv]at h
  obtain⟨h1,h2⟩:=Af hw hv h
  obtain⟨h3,h4⟩:=nq (hu x List.mem_cons_self) (hs y List.mem_cons_self) (λz hz=>hu z (List.mem_cons_of_mem _ hz)) (λz hz=>hs z (List.mem_cons_of_mem _ hz)) h2
  exact⟨h1,by rw[h3,h4]⟩
theorem wK:cd (Str.ofString "/")=[47]:=by decide +kernel
theorem aas:Str.ofString "/"=⟨#[47]⟩:=Wk wK
theorem nj (w:Str) (vs:List Str):cd (Str.join (Str.ofString "/") (w :: vs))=RS (cd w) (vs.map cd):=by
 induction vs generalizing w with
 |nil=>rw[List.map_nil,Ig];rfl
 |cons v vs ih =>
  show cd (w++Str.ofString "/"++Str.join (Str.ofString "/") (v :: vs))=_
  rw[XC,XC,wK,ih,List.map_cons,Mv]
  simp
theorem rB (z:Str):PySem.Txt.split z (Str.ofString "/")≠[]:=by
 unfold PySem.Txt.split
 split
 ·simp
 ·split
  ·simp
  ·intro h
   have:=congrArg List.length h
   rw[length_partsBetween]at this
   simp at this
theorem wJ {z w:Str} {vs:List Str} (hw:47∉cd w) (hv:∀x∈vs,47∉cd x) (e:cd z=RS (cd w) (vs.map cd)):PySem.Txt.split z (Str.ofString "/")=w :: vs:=by
 have hj:=StrLaws.join_split z (Str.ofString "/")
 have hf:∀p∈PySem.Txt.split z (Str.ofString "/"),47∉cd p:=λp hp=>StrLaws.split_free z 47 p (by rw[←aas];exact hp)
 cases q:PySem.Txt.split z (Str.ofString "/")with
 |nil=>exact absurd q (rB z)
 |cons a r =>
  rw[q]at hj hf
  have e2:=nj a r
  rw[hj,e]at e2
  obtain⟨h1,h2⟩:=nq hw (hf a List.mem_cons_self) (λx hx=>by
   obtain⟨y,hy,rfl⟩:=List.mem_map.mp hx
   exact hv y hy) (λx hx=>by
   obtain⟨y,hy,rfl⟩:=List.mem_map.mp hx
   exact hf y (List.mem_cons_of_mem _ hy)) e2
  have inj:∀(xs ys:List Str),xs.map cd=ys.map cd→xs=ys:=by
   intro xs
   induction xs with
   |nil=>intro ys h;cases ys with
    |nil=>rfl
    |cons b t=>cases h
   |cons b t ih=>intro ys h;cases ys with
    |nil=>cases h
    |cons c u =>
     obtain⟨g1,g2⟩:=List.cons.inj h
     rw[Wk g1,ih u g2]
  rw[Wk h1,inj _ _ h2]
theorem ni (z:Str):1≤PySem.Builtin.Str.strKind z:=by
 unfold PySem.Builtin.Str.strKind
 split
 ·decide
 ·split<;>decide
theorem rA {a b z:Str} (ha:47∉cd a) (hb:47∉cd b) (e:cd z=cd a++47 :: cd b):PySem.Txt.count z (Str.ofString "/")=1:=by
 have sp:PySem.Txt.split z (Str.ofString "/")=[a,b]:=wJ ha (by simpa using hb) (by rw[e];simp[RS])
 have lz:1≤z.length:=by rw[←V2,e,List.length_append,List.length_cons];omega
 have l1:(Str.ofString "/").length=1:=by decide +kernel
 have k1:PySem.Builtin.Str.strKind (Str.ofString "/")=1:=by decide +kernel
 have kz:=ni z
 unfold PySem.Txt.split at sp
 rw[if_neg (show ¬(decide (z.length<(Str.ofString "/").length) || decide (PySem.Builtin.Str.strKind z<PySem.Builtin.Str.strKind (Str.ofString "/")))=true by
  rw[l1,k1,decide_eq_false (by omega),decide_eq_false (by omega)];decide)]at sp
 unfold PySem.Txt.count
 split at sp
 ·have:=congrArg List.length sp
  simp at this
 ·have:=congrArg List.length sp
  rw[length_partsBetween]at this
  have h2:([a,b]:List Str).length=2:=rfl
  rw[h2]at this
  omega
end M
namespace M
def iota (n:Nat):List Int:=(List.range n).map λi=>((i:Nat):Int)
theorem Qn (n:Nat):(iota n).length=n:=by simp[iota]
theorem Mu {n:Nat} {c:Int}:c∈iota n↔0≤c∧c<n:=by
 simp only[iota,List.mem_map,List.mem_range]
 constructor
 ·rintro⟨i,hi,rfl⟩;omega
 ·rintro⟨h0,h1⟩;exact⟨c.toNat,by omega,by omega⟩
theorem Ie (n:Nat):(iota n).Nodup:=by
 unfold iota List.Nodup
 rw[List.pairwise_map]
 refine List.Pairwise.imp ?_ (List.nodup_range (n:=n))
 intro a b h e
 exact h (by omega)
theorem Oa {n i:Nat} (h:i<n):(iota n)[i]? =some (i:Int):=by simp[iota,h]
structure Ord (n:Nat) (ns:List Int):Prop where
 len:ns.length=n
 nd:ns.Nodup
 bd:∀c∈ns,0≤c∧c<n
theorem J9:∀{l m:List Int},l.Nodup→(∀c∈l,c∈m)→m.length≤l.length→∀c∈m,c∈l
 | [],m,_,_,h,c,hc=>by
   have:m=[]:=List.eq_nil_of_length_eq_zero (by simpa using h)
   rw[this]at hc;cases hc
 |a :: l,m,nd,hs,h,c,hc=>by
  have nd':=List.nodup_cons.mp nd
  by_cases e:c=a
  ·rw[e];exact List.mem_cons_self
  ·have ha:a∈m:=hs a List.mem_cons_self
   refine List.mem_cons_of_mem _ (J9 (m:=m.erase a) nd'.2 (λd hd=>?_) ?_ c ((List.mem_erase_of_ne e).mpr hc))
   ·have:d≠a:=λz=>nd'.1 (z▸hd)
    exact(List.mem_erase_of_ne this).mpr (hs d (List.mem_cons_of_mem _ hd))
   ·have:=List.length_erase_of_mem ha
    simp at h
    omega
theorem Ord.has {n:Nat} {ns:List Int} (o:Ord n ns) {c:Int} (h0:0≤c) (h1:c<n):c∈ns:=
 J9 (m:=iota n) o.nd (λd hd=>Mu.mpr (o.bd d hd)) (by rw[Qn,o.len];exact Nat.le_refl _) c (Mu.mpr ⟨h0,h1⟩)
theorem Ord.gZ {n:Nat} {ns:List Int} (p:ns.Perm (iota n)):Ord n ns:=
 ⟨by rw[p.length_eq,Qn],(List.Perm.nodup_iff p).mpr (Ie n),λc hc=>Mu.mp (p.mem_iff.mp hc)⟩
theorem m_ (n:Nat):Ord n (iota n):=.gZ (List.Perm.refl _)
theorem Ord.Df {n:Nat} {ns:List Int} (o:Ord n ns) {i:Nat} (h:i<n):0≤ns.getD i 0∧ns.getD i 0<n:=by
 have hi:i<ns.length:=by rw[o.len];exact h
 have:ns.getD i 0=ns[i]:=by simp[List.getD,List.getElem?_eq_getElem hi]
 rw[this]
 exact o.bd _ (List.getElem_mem hi)
def JH (n:Nat) (ns:List Int):List Int:=(List.range n).map λc=>((ns.idxOf ((c:Nat):Int):Nat):Int)
theorem Vn (n:Nat) (ns:List Int):(JH n ns).length=n:=by simp[JH]
theorem gY {n:Nat} {ns:List Int} {c:Nat} (h:c<n):(JH n ns)[c]? =some ((ns.idxOf (c:Int):Nat):Int):=by simp[JH,h]
theorem aat {n:Nat} {ns:List Int} (o:Ord n ns) {c:Int} (h0:0≤c) (h1:c<n):ns.idxOf c<n:=by
 have:=List.idxOf_lt_length_iff.mpr (o.has h0 h1)
 rw[o.len]at this
 exact this
theorem S_ {n:Nat} {ns:List Int} (o:Ord n ns) {c:Int} (h0:0≤c) (h1:c<n):ns[ns.idxOf c]? =some c:=by
 have h:=List.idxOf_lt_length_iff.mpr (o.has h0 h1)
 rw[List.getElem?_eq_getElem h]
 simp[List.getElem_idxOf]
theorem wI {n:Nat} {ns:List Int} (o:Ord n ns) {i:Nat} {c:Int} (h:ns[i]? =some c):ns.idxOf c=i:=by
 have hi:=(List.getElem?_eq_some_iff.mp h).1
 have hc:c∈ns:=List.mem_of_getElem? h
 have b:=o.bd c hc
 have e:=S_ o b.1 b.2
 have hj:ns.idxOf c<ns.length:=List.idxOf_lt_length_iff.mpr hc
 rw[←h,List.getElem?_eq_getElem hj,List.getElem?_eq_getElem hi]at e
 exact(List.getElem_inj o.nd).mp (Option.some.inj e)
theorem Jo {n:Nat} {ns:List Int} (o:Ord n ns):Ord n (JH n ns) where
 len:=Vn n ns
 nd:=by
  unfold JH List.Nodup
  rw[List.pairwise_map]
  rw[List.pairwise_iff_getElem]
  intro i j hi hj hij e
  simp only[List.length_range]at hi hj
  simp only[List.getElem_range]at e
  have e1:=S_ o (c:=(i:Int)) (by omega) (by omega)
  have e2:=S_ o (c:=(j:Int)) (by omega) (by omega)
  rw[show ns.idxOf (i:Int)=ns.idxOf (j:Int)by omega,e2]at e1
  have:=Option.some.inj e1
  omega
 bd:=λc hc=>by
  simp only[JH,List.mem_map,List.mem_range]at hc
  obtain⟨i,hi,rfl⟩:=hc
  have:=aat o (c:=(i:Int)) (by omega) (by omega)
  omega
def lay (one other:List Int):List Int:=other.map λc=>one.getD c.toNat 0
theorem Vm (one other:List Int):(lay one other).length=other.length:=by simp[lay]
theorem Ae {one other:List Int} {i:Nat} (h:i<other.length):(lay one other).getD i 0=one.getD (other.getD i 0).toNat 0:=by
 simp[lay,List.getD,h]
theorem gW {n:Nat} {a b:List Int} (oa:Ord n a) (ob:Ord n b):Ord n (lay a b) where
 len:=by rw[Vm,ob.len]
 nd:=by
  unfold List.Nodup
  rw[List.pairwise_iff_getElem]
  intro i j hi hj hij e
  rw[Vm]at hi hj
  simp only[lay,List.getElem_map]at e
  have b1:=ob.bd b[i] (List.getElem_mem hi)
  have b2:=ob.bd b[j] (List.getElem_mem hj)
  have h1:b[i].toNat<a.length:=by rw[oa.len];omega
  have h2:b[j].toNat<a.length:=by rw[oa.len];omega
  simp only[List.getD,List.getElem?_eq_getElem h1,List.getElem?_eq_getElem h2,Option.getD_some]at e
  have:=(List.getElem_inj oa.nd).mp e
  have e2:b[i]=b[j]:=by omega
  have:=(List.getElem_inj ob.nd).mp e2
  omega
 bd:=λc hc=>by
  simp only[lay,List.mem_map]at hc
  obtain⟨d,hd,rfl⟩:=hc
  have b1:=ob.bd d hd
  exact oa.Df (by omega)
theorem gU {n:Nat} {a:List Int} (o:Ord n a):lay a (JH n a)=iota n:=by
 apply List.ext_getElem?
 intro i
 by_cases hi:i<n
 ·rw[Oa hi]
  unfold lay
  rw[List.getElem?_map,gY hi]
  simp only[Option.map_some,Int.toNat_natCast]
  have e:=S_ o (c:=(i:Int)) (by omega) (by omega)
  simp[List.getD,e]
 ·rw[List.getElem?_eq_none (by rw[Vm,Vn];omega),List.getElem?_eq_none (by rw[Qn];omega)]
theorem rz {n:Nat} {a b c:List Int} (ob:Ord n b) (oc:Ord n c):lay (lay a b) c=lay a (lay b c):=by
 unfold lay
 rw[List.map_map]
 apply List.map_congr_left
 intro d hd
 have bd:=oc.bd d hd
 have h:d.toNat<b.length:=by rw[ob.len];omega
 simp[List.getD,h]
def Xr (n:Nat) (ns:List Int) (i:Nat):List Int:=(List.range n).map λc=>if((c:Nat):Int)∈ns.take i then((ns.idxOf ((c:Nat):Int):Nat):Int)else 0
theorem Dd (n:Nat) (ns:List Int):Xr n ns 0=List.replicate n 0:=by
 simp[Xr]
 apply List.ext_getElem?
 intro i
 by_cases h:i<n<;>simp[h]
theorem V0 (n:Nat) (ns:List Int) (i:Nat):(Xr n ns i).length=n:=by simp[Xr]
theorem Ad {n:Nat} {ns:List Int} (o:Ord n ns):Xr n ns n=JH n ns:=by
 unfold Xr JH
 apply List.map_congr_left
 intro c hc
 have hc:=List.mem_range.mp hc
 rw[List.take_of_length_le (by rw[o.len];exact Nat.le_refl _),if_pos (o.has (by omega) (by omega))]
theorem Dc {n:Nat} {ns:List Int} (o:Ord n ns) {i:Nat} {c:Int} (h:ns[i]? =some c):(Xr n ns i).set c.toNat (i:Int)=Xr n ns (i+1):=by
 have hi:=(List.getElem?_eq_some_iff.mp h).1
 have b:=o.bd c (List.mem_of_getElem? h)
 have hx:=wI o h
 apply List.ext_getElem?
 intro j
 by_cases hj:j<n
 ·rw[List.getElem?_set]
  have e1:(Xr n ns i)[j]? =some (if((j:Nat):Int)∈ns.take i then((ns.idxOf ((j:Nat):Int):Nat):Int)else 0):=by simp[Xr,hj]
  have e2:(Xr n ns (i+1))[j]? =some (if((j:Nat):Int)∈ns.take (i+1)then((ns.idxOf ((j:Nat):Int):Nat):Int)else 0):=by simp[Xr,hj]
  have mem:∀d:Int,d∈ns.take (i+1)↔d∈ns.take i∨d=c:=λd=>by
   rw[List.take_add_one,h,List.mem_append]
   simp
  rw[e1,e2]
  split
  ·rename_i ec
   rw[if_pos (by rw[V0];omega)]
   have:((j:Nat):Int)=c:=by omega
   rw[if_pos ((mem _).mpr (.inr this)),this,hx]
  ·rename_i ec
   have:((j:Nat):Int)≠c:=by omega
   by_cases hm:((j:Nat):Int)∈ns.take i
   ·rw[if_pos hm,if_pos ((mem _).mpr (.inl hm))]
   ·rw[if_neg hm,if_neg (λz=>((mem _).mp z).elim hm this)]
 ·rw[List.getElem?_eq_none (by rw[List.length_set,V0];omega),List.getElem?_eq_none (by rw[V0];omega)]
end M
namespace M
structure Wd (h n:Nat) (ws:List Int):Prop where
 len:ws.length=n
 bd:∀x∈ws,0≤x∧x<h
def cn (ws:List Int) (h:Nat):Nat:=ws.count (h:Int)
def JG (ws:List Int):Nat→Nat
 | 0=>0
 |h+1=>JG ws h+cn ws h
theorem uJ:∀h,JG [] h=0
 | 0=>rfl
 |h+1=>by rw[JG,uJ h];rfl
theorem Ac (w:Int) (ws:List Int) (w0:0≤w):∀h:Nat,JG (w :: ws) h=JG ws h+if w<h then 1 else 0
 | 0=>by rw[JG,JG,if_neg (by omega)]
 |h+1=>by
  rw[JG,JG,Ac w ws w0 h]
  unfold cn
  rw[List.count_cons]
  by_cases e:w=(h:Int)
  ·rw[if_neg (by omega),if_pos (by simp[e]),if_pos (by omega)];omega
  ·rw[if_neg (show ¬((w==(h:Int))=true)by simpa using e)]
   by_cases l:w<h
   ·rw[if_pos l,if_pos (by omega)];omega
   ·rw[if_neg l,if_neg (by omega)];omega
theorem uI {h:Nat}:∀{ws:List Int},(∀x∈ws,0≤x∧x<(h:Int))→JG ws h=ws.length
 | [],_=>uJ h
 |w :: ws,b=>by
  have bw:=b w (by simp)
  rw[Ac w ws bw.1,if_pos bw.2,uI λx hx=>b x (by simp[hx])]
  rfl
theorem RW (ws:List Int) {a:Nat}:∀{b:Nat},a≤b→JG ws a≤JG ws b
 | 0,h=>by have:a=0:=by omega
           rw[this];exact Nat.le_refl _
 |b+1,h=>by
  by_cases e:a=b+1
  ·rw[e];exact Nat.le_refl _
  ·have:=RW ws (a:=a) (b:=b) (by omega)
   rw[JG]
   omega
def hp (ws:List Int) (p:Nat):Nat:=(ws.getD p 0).toNat
def kk (ws:List Int) (p:Nat):Nat:=(ws.take p).count (ws.getD p 0)
theorem Ab {ws:List Int} {p:Nat} (h:p<ws.length):ws=ws.take p++ws.getD p 0 :: ws.drop (p+1):=by
 have e:ws.getD p 0=ws[p]:=by simp[List.getD,List.getElem?_eq_getElem h]
 rw[e,List.getElem_cons_drop h,List.take_append_drop]
theorem XQ {h n:Nat} {ws:List Int} (W:Wd h n ws) {p:Nat} (hp':p<n):((hp ws p:Nat):Int)=ws.getD p 0∧hp ws p<h:=by
 have hl:p<ws.length:=by rw[W.len];exact hp'
 have e:ws.getD p 0=ws[p]:=by simp[List.getD,List.getElem?_eq_getElem hl]
 have:=W.bd ws[p] (List.getElem_mem hl)
 unfold hp
 rw[e]
 omega
theorem EY {h n:Nat} {ws:List Int} (W:Wd h n ws) {p:Nat} (hp':p<n):kk ws p<cn ws (hp ws p):=by
 have hl:p<ws.length:=by rw[W.len];exact hp'
 unfold cn
 rw[(XQ W hp').1]
 unfold kk
 have e:=congrArg (List.count (ws.getD p 0)) (Ab hl)
 rw[List.count_append,List.count_cons_self]at e
 omega
def dr (bs:List Bool) (ws:List Int) (p:Nat):Nat:=
 if bs.getD (hp ws p) false=true then JG ws (hp ws p)+cn ws (hp ws p)-1-kk ws p else JG ws (hp ws p)+kk ws p
def drawn (bs:List Bool) (ws:List Int):List Int:=(List.range ws.length).map λp=>((dr bs ws p:Nat):Int)
theorem WQ (bs:List Bool) (ws:List Int):(drawn bs ws).length=ws.length:=by simp[drawn]
theorem Aa {h n:Nat} {bs:List Bool} {ws:List Int} (W:Wd h n ws) {p:Nat} (hp':p<n):JG ws (hp ws p)≤dr bs ws p∧dr bs ws p<JG ws (hp ws p+1):=by
 have k:=EY W hp'
 unfold dr
 rw[JG]
 split<;>omega
theorem z_ {h n:Nat} {bs:List Bool} {ws:List Int} (W:Wd h n ws) {p:Nat} (hp':p<n):dr bs ws p<n:=by
 have b:=(Aa (bs:=bs) W hp').2
 have m:=RW ws (show hp ws p+1≤h from(XQ W hp').2)
 rw[uI W.bd,W.len]at m
 omega
theorem Mt {h n:Nat} {ws:List Int} (W:Wd h n ws) {p q:Nat} (hpq:p<q) (hq:q<n) (e:ws.getD p 0=ws.getD q 0):kk ws p<kk ws q:=by
 unfold kk
 rw[←e]
 have hl:p<ws.length:=by rw[W.len];omega
 have e1:(ws.take q).getD p 0=ws.getD p 0:=by simp[List.getD,List.getElem?_take,hpq]
 have e2:(ws.take q).take p=ws.take p:=by rw[List.take_take];congr 1;omega
 have hlq:p<(ws.take q).length:=by rw[List.length_take,W.len];omega
 have s:=congrArg (List.count (ws.getD p 0)) (Ab hlq)
 rw[e1,e2,List.count_append,List.count_cons_self]at s
 omega
theorem mZ {h n:Nat} {bs:List Bool} {ws:List Int} (W:Wd h n ws) {p q:Nat} (hp':p<n) (hq:q<n) (e:dr bs ws p=dr bs ws q):p=q:=by
 have bp:=Aa (bs:=bs) W hp'
 have bq:=Aa (bs:=bs) W hq
 have eh:hp ws p=hp ws q:=by
  rcases Nat.lt_trichotomy (hp ws p) (hp ws q)with l |l |l
  ·have:=RW ws (show hp ws p+1≤hp ws q from l);omega
  ·exact l
  ·have:=RW ws (show hp ws q+1≤hp ws p from l);omega
 have eg:ws.getD p 0=ws.getD q 0:=by rw[←(XQ W hp').1,←(XQ W hq).1,eh]
 have kp:=EY W hp'
 have kq:=EY W hq
 have ek:kk ws p=kk ws q:=by
  unfold dr at e
  rw[eh]at e kp
  split at e<;>omega
 rcases Nat.lt_trichotomy p q with l |l |l
 ·have:=Mt W l hq eg;omega
 ·exact l
 ·have:=Mt W l hp' eg.symm;omega
theorem Xj {h n:Nat} {bs:List Bool} {ws:List Int} (W:Wd h n ws):Ord n (drawn bs ws) where
 len:=by rw[WQ,W.len]
 nd:=by
  unfold drawn List.Nodup
  rw[List.pairwise_map]
  refine List.Pairwise.imp_of_mem ?_ (List.nodup_range (n:=ws.length))
  intro a b ha hb hab e
  have ha':=List.mem_range.mp ha
  have hb':=List.mem_range.mp hb
  rw[W.len]at ha' hb'
  exact hab (mZ W ha' hb' (Int.ofNat.inj e))
 bd:=by
  intro c hc
  obtain⟨p,hp',rfl⟩:=List.mem_map.mp hc
  have hp2:=List.mem_range.mp hp'
  rw[W.len]at hp2
  have:=z_ (bs:=bs) W hp2
  omega
def szs (h:Nat) (ws:List Int):List Int:=(List.range h).map λi=>((cn ws i:Nat):Int)
theorem wH (h:Nat) (ws:List Int):(szs h ws).length=h:=by simp[szs]
def tops (bs:List Bool) (ws:List Int) (i:Nat):List Int:=
 (List.range bs.length).map λh=>if bs.getD h false=true then((JG ws h:Nat):Int)+(cn ws h:Nat)-1-((ws.take i).count ((h:Nat):Int):Nat)else((JG ws h:Nat):Int)+((ws.take i).count ((h:Nat):Int):Nat)
theorem Y5 (bs:List Bool) (ws:List Int) (i:Nat):(tops bs ws i).length=bs.length:=by simp[tops]
theorem RT {bs:List Bool} {ws:List Int} {i h:Nat} (hh:h<bs.length):(tops bs ws i).getD h 0=if bs.getD h false=true then((JG ws h:Nat):Int)+(cn ws h:Nat)-1-((ws.take i).count ((h:Nat):Int):Nat)else((JG ws h:Nat):Int)+((ws.take i).count ((h:Nat):Int):Nat):=by
 simp[tops,List.getD,hh]
theorem gR {n:Nat} {bs:List Bool} {ws:List Int} (W:Wd bs.length n ws) {i:Nat} (hi:i<n):(tops bs ws i).getD (hp ws i) 0=((dr bs ws i:Nat):Int):=by
 have c:=XQ W hi
 have k:=EY W hi
 rw[RT c.2,c.1]
 unfold dr
 unfold kk at k ⊢
 split<;>omega
theorem JF {ws:List Int} {i:Nat} (hi:i<ws.length) (x:Int):(ws.take (i+1)).count x=(ws.take i).count x+if ws.getD i 0=x then 1 else 0:=by
 have e:ws.getD i 0=ws[i]:=by simp[List.getD,List.getElem?_eq_getElem hi]
 rw[List.take_succ_eq_append_getElem hi,List.count_append,List.count_cons,List.count_nil,e]
 by_cases h:ws[i]=x
 ·simp[h]
 ·rw[if_neg (show ¬((ws[i]==x)=true)by simpa using h),if_neg h]
theorem rm {n:Nat} {bs:List Bool} {ws:List Int} (W:Wd bs.length n ws) {i:Nat} (hi:i<n):
 (tops bs ws i).set (hp ws i) (if bs.getD (hp ws i) false=true then(tops bs ws i).getD (hp ws i) 0-1 else(tops bs ws i).getD (hp ws i) 0+1)=tops bs ws (i+1):=by
 have c:=XQ W hi
 have hl:i<ws.length:=by rw[W.len];exact hi
 apply List.ext_getElem?
 intro j
 by_cases hj:j<bs.length
 ·have ht:(tops bs ws (i+1))[j]? =some ((tops bs ws (i+1)).getD j 0):=by
   rw[List.getElem?_eq_getElem (by rw[Y5];exact hj)]
   simp[List.getD,List.getElem?_eq_getElem (show j<(tops bs ws (i+1)).length by rw[Y5];exact hj)]
  rw[ht,RT hj,JF hl]
  by_cases e:hp ws i=j
  ·subst e
   rw[List.getElem?_set_self (by rw[Y5];exact hj),RT hj,if_pos c.1.symm]
   congr 1
   split<;>omega
  ·rw[List.getElem?_set_ne e]
   have ht:(tops bs ws i)[j]? =some ((tops bs ws i).getD j 0):=by
    rw[List.getElem?_eq_getElem (by rw[Y5];exact hj)]
    simp[List.getD,List.getElem?_eq_getElem (show j<(tops bs ws i).length by rw[Y5];exact hj)]
   rw[ht,RT hj,if_neg (show ¬ws.getD i 0=(j:Int)by rw[←c.1];omega)]
   rfl
 ·rw[List.getElem?_eq_none (by rw[List.length_set,Y5];omega),List.getElem?_eq_none (by rw[Y5];omega)]
theorem Ib {bs:List Bool} {ws:List Int} {i:Nat}:((List.range (i+1)).map λp=>((dr bs ws p:Nat):Int))=((List.range i).map λp=>((dr bs ws p:Nat):Int))++[((dr bs ws i:Nat):Int)]:=by
 rw[List.range_succ,List.map_append];rfl
def hc (bs:List Bool) (ws os:List Int) (h:Nat):List Int:=
 if bs.getD h false=true then((os.drop (JG ws h)).take (cn ws h)).reverse else(os.drop (JG ws h)).take (cn ws h)
theorem q_ {n:Nat} {bs:List Bool} {ws os:List Int} (W:Wd bs.length n ws):lay os (drawn bs ws)=(List.range n).map λp=>os.getD (dr bs ws p) 0:=by
 unfold lay drawn
 rw[List.map_map,W.len]
 refine List.map_congr_left λp _=>?_
 show os.getD ((dr bs ws p:Nat):Int).toNat 0=_
 rw[Int.toNat_natCast]
end M
namespace M
theorem Ord.perm {n:Nat} {a:List Int} (o:Ord n a):a.Perm (iota n):=by
 rw[List.perm_ext_iff_of_nodup o.nd (Ie n)]
 intro c
 rw[Mu]
 exact⟨o.bd c,λh=>o.has h.1 h.2⟩
theorem aau {n:Nat} {a:List Int} (h:a.length=n):lay a (iota n)=a:=by
 unfold lay iota
 rw[List.map_map]
 apply List.ext_getElem?
 intro i
 by_cases hi:i<n
 ·rw[List.getElem?_map,List.getElem?_range hi,List.getElem?_eq_getElem (by omega)]
  simp[List.getD,List.getElem?_eq_getElem (show i<a.length by omega)]
 ·rw[List.getElem?_eq_none (by simp;omega),List.getElem?_eq_none (by omega)]
theorem qZ {n:Nat} {a d:List Int} (h:a.length=n) (o:Ord n d):lay (lay a d) (JH n d)=a:=by
 rw[rz o (Jo o),gU o,aau h]
end M
namespace M
def see (t:Bool) (b g:Nat):Nat:=if t=true then b-1-g else g
def jm (ms os:List Bool):List Bool:=(List.range (ms.length*os.length)).map λh=>(ms.getD (h / os.length) false) != (os.getD (see (ms.getD (h / os.length) false) os.length (h % os.length)) false)
theorem Vl (ms os:List Bool):(jm ms os).length=ms.length*os.length:=by simp[jm]
def row (os:List Bool) (m:Bool):List Bool:=(if m=true then os.reverse else os).map λo=>(m != o)
def jd (ms os:List Bool):List Bool:=ms.flatMap (row os)
end M
namespace M
def cnt (n:Nat) (P:Nat→Bool):Nat:=((List.range n).filter P).length
theorem zZ (n:Nat) (P:Nat→Bool):cnt (n+1) P=cnt n P+if P n=true then 1 else 0:=by
 unfold cnt
 rw[List.range_succ,List.filter_append,List.length_append]
 cases h:P n<;>simp[h]
theorem qY {n:Nat} {P Q:Nat→Bool} (h:∀i,i<n→P i=Q i):cnt n P=cnt n Q:=by
 induction n with
 |zero=>rfl
 |succ n ih=>rw[zZ,zZ,ih λi hi=>h i (by omega),h n (by omega)]
def gQ (ns:List Int):Nat:=cnt (ns.length-1) λp=>decide (ns.getD (p+1) 0<ns.getD p 0)
def pos (ns:List Int) (d:Nat):Nat:=ns.idxOf (d:Int)
def dsc (ns:List Int) (d:Nat):Bool:=decide (pos ns (d+1)<pos ns d)
structure Pass (n:Nat) (ns:List Int) (c0 i c:Nat):Prop where
 le0:c0≤c
 len:c≤n
 seen:∀d,c0≤d→d<c→pos ns d<i
 up:∀d,c0≤d→d+1<c→dsc ns d=false
 next:c<n→i≤pos ns c∨(c0<c∧dsc ns (c-1)=true)
structure Rnd (n:Nat) (ns:List Int) (c r:Nat):Prop where
 le:c≤n
 zero:c=0→r=0
 many:0<c→r=1+cnt (c-1) (dsc ns)
 down:0<c→c<n→dsc ns (c-1)=true
end M
namespace M
theorem mY {h n:Nat} {ws:List Int} (W:Wd h n ws) {p q:Nat} (hp':p<n) (hq:q<n) (e:hp ws p=hp ws q):kk ws p<kk ws q↔p<q:=by
 have eg:ws.getD p 0=ws.getD q 0:=by rw[←(XQ W hp').1,←(XQ W hq).1,e]
 constructor
 ·intro l
  rcases Nat.lt_trichotomy p q with z |z |z
  ·exact z
  ·subst z;omega
  ·have:=Mt W z hp' eg.symm;omega
 ·intro l
  exact Mt W l hq eg
theorem Ia {h n:Nat} {bs:List Bool} {ws:List Int} (W:Wd h n ws) {p q:Nat} (hp':p<n) (hq:q<n):
 dr bs ws p<dr bs ws q↔hp ws p<hp ws q∨(hp ws p=hp ws q∧(if bs.getD (hp ws p) false=true then q<p else p<q)):=by
 have bp:=Aa (bs:=bs) W hp'
 have bq:=Aa (bs:=bs) W hq
 rcases Nat.lt_trichotomy (hp ws p) (hp ws q)with l |l |l
 ·have:=RW ws (show hp ws p+1≤hp ws q from l)
  constructor
  ·intro _;exact .inl l
  ·intro _;omega
 ·have k1:=mY W hp' hq l
  have k2:=mY W hq hp' l.symm
  have kp:=EY W hp'
  have kq:=EY W hq
  unfold dr
  rw[l]at kp ⊢
  split
  ·constructor
   ·intro z;exact .inr ⟨rfl,k2.mp (by omega)⟩
   ·rintro (z | ⟨_,z⟩)
    ·omega
    ·have:=k2.mpr z;omega
  ·constructor
   ·intro z;exact .inr ⟨rfl,k1.mp (by omega)⟩
   ·rintro (z | ⟨_,z⟩)
    ·omega
    ·have:=k1.mpr z;omega
 ·have:=RW ws (show hp ws q+1≤hp ws p from l)
  constructor
  ·intro z;omega
  ·rintro (z | ⟨z,_⟩)<;>omega
theorem mX {n:Nat} {a:List Int} (h:a.length=n) (P:Int→Bool):cnt n (λq=>P (a.getD q 0))=(a.filter P).length:=by
 have e:a=(List.range n).map λq=>a.getD q 0:=by
  apply List.ext_getElem?
  intro i
  by_cases hi:i<n
  ·rw[List.getElem?_map,List.getElem?_range hi,List.getElem?_eq_getElem (by omega)]
   simp[List.getD,List.getElem?_eq_getElem (show i<a.length by omega)]
  ·rw[List.getElem?_eq_none (by omega),List.getElem?_eq_none (by simp;omega)]
 have e2:(a.filter P).length=(((List.range n).map λq=>a.getD q 0).filter P).length:=by rw[←e]
 rw[e2]
 unfold cnt
 induction List.range n with
 |nil=>rfl
 |cons x l ih =>
  rw[List.map_cons,List.filter_cons,List.filter_cons]
  split
  ·rw[List.length_cons,List.length_cons,ih]
  ·exact ih
theorem wG (n:Nat):∀c:Nat,c≤n→((iota n).filter λx=>decide (x<(c:Int))).length=c:=by
 induction n with
 |zero=>intro c h;have:c=0:=by omega
        subst this;rfl
 |succ n ih =>
  intro c h
  unfold iota at ih ⊢
  rw[List.range_succ,List.map_append,List.filter_append,List.length_append]
  by_cases e:c=n+1
  ·subst e
   have:((List.range n).map (λi=>((i:Nat):Int))).filter (λx=>decide (x<((n+1:Nat):Int)))=(List.range n).map (λi=>((i:Nat):Int)):=by
    rw[List.filter_eq_self]
    intro x hx
    obtain⟨i,hi,rfl⟩:=List.mem_map.mp hx
    have:=List.mem_range.mp hi
    simp
    omega
   have h1:(([n].map λi=>((i:Nat):Int)).filter λx=>decide (x<((n+1:Nat):Int)))=[((n:Nat):Int)]:=by
    show List.filter _ [((n:Nat):Int)]=_
    rw[List.filter_cons,if_pos (by rw[decide_eq_true_eq];omega)]
    rfl
   rw[this,h1,List.length_map,List.length_range]
   rfl
  ·rw[ih c (by omega)]
   have:([n].map (λi=>((i:Nat):Int))).filter (λx=>decide (x<(c:Int)))=[]:=by
    simp
    omega
   rw[this]
   rfl
theorem zY {n:Nat} {a:List Int} (o:Ord n a) {p:Nat} (h:p<n):a.getD p 0=((cnt n λq=>decide (a.getD q 0<a.getD p 0):Nat):Int):=by
 have b:=o.Df h
 rw[mX o.len (λx=>decide (x<a.getD p 0)),(o.perm.filter _).length_eq]
 have:=wG n (a.getD p 0).toNat (by omega)
 rw[show(((a.getD p 0).toNat:Nat):Int)=a.getD p 0 by omega]at this
 omega
theorem zX {n:Nat} {a b:List Int} (oa:Ord n a) (ob:Ord n b) (h:∀p q,p<n→q<n→(a.getD p 0<a.getD q 0↔b.getD p 0<b.getD q 0)):a=b:=by
 apply List.ext_getElem?
 intro i
 by_cases hi:i<n
 ·have ea:a[i]? =some (a.getD i 0):=by
   rw[List.getElem?_eq_getElem (by rw[oa.len];exact hi)]
   simp[List.getD,List.getElem?_eq_getElem (show i<a.length by rw[oa.len];exact hi)]
  have eb:b[i]? =some (b.getD i 0):=by
   rw[List.getElem?_eq_getElem (by rw[ob.len];exact hi)]
   simp[List.getD,List.getElem?_eq_getElem (show i<b.length by rw[ob.len];exact hi)]
  rw[ea,eb,zY oa hi,zY ob hi]
  congr 2
  refine qY λq hq=>?_
  have:=h q i hq hi
  by_cases z:a.getD q 0<a.getD i 0
  ·rw[decide_eq_true z,decide_eq_true (this.mp z)]
  ·rw[decide_eq_false z,decide_eq_false λw=>z (this.mpr w)]
 ·rw[List.getElem?_eq_none (by rw[oa.len];omega),List.getElem?_eq_none (by rw[ob.len];omega)]
theorem W7 {n h:Nat} {bs:List Bool} {ws:List Int} (W:Wd h n ws) {p:Nat} (hp':p<n):(drawn bs ws).getD p 0=((dr bs ws p:Nat):Int):=by
 have:p<ws.length:=by rw[W.len];exact hp'
 simp[drawn,List.getD,this]
def jw (ms os:List Bool) (w1 w2:List Int):List Int:=
 (List.range w2.length).map λp=>(((hp w1 (dr os w2 p))*os.length+see (ms.getD (hp w1 (dr os w2 p)) false) os.length (hp w2 p):Nat):Int)
theorem qX (ms os:List Bool) (w1 w2:List Int):(jw ms os w1 w2).length=w2.length:=by simp[jw]
theorem C_ {t:Bool} {b g:Nat} (h:g<b):see t b g<b:=by unfold see;split<;>omega
theorem gP {t:Bool} {b g:Nat} (h:g<b):see t b (see t b g)=g:=by unfold see;split<;>omega
theorem cN {n:Nat} {ms os:List Bool} {w1 w2:List Int} (W2:Wd os.length n w2) {p:Nat} (h:p<n):hp (jw ms os w1 w2) p=(hp w1 (dr os w2 p))*os.length+see (ms.getD (hp w1 (dr os w2 p)) false) os.length (hp w2 p):=by
 have:p<w2.length:=by rw[W2.len];exact h
 unfold hp
 have e:(jw ms os w1 w2).getD p 0=(((hp w1 (dr os w2 p))*os.length+see (ms.getD (hp w1 (dr os w2 p)) false) os.length (hp w2 p):Nat):Int):=by
  simp[jw,List.getD,this]
 rw[e,Int.toNat_natCast]
 rfl
theorem cM {n:Nat} {ms os:List Bool} {w1 w2:List Int} (W1:Wd ms.length n w1) (W2:Wd os.length n w2):Wd (ms.length*os.length) n (jw ms os w1 w2) where
 len:=by rw[qX,W2.len]
 bd:=by
  intro x hx
  obtain⟨p,hp',rfl⟩:=List.mem_map.mp hx
  have hp2:=List.mem_range.mp hp'
  rw[W2.len]at hp2
  have c1:=(XQ W1 (z_ (bs:=os) W2 hp2)).2
  have c2:=(XQ W2 hp2).2
  have s:=C_ (t:=ms.getD (hp w1 (dr os w2 p)) false) c2
  refine⟨Int.natCast_nonneg _,Int.ofNat_lt.mpr ?_⟩
  calc hp w1 (dr os w2 p)*os.length+see (ms.getD (hp w1 (dr os w2 p)) false) os.length (hp w2 p)
   < hp w1 (dr os w2 p)*os.length+os.length:=by omega
   _=(hp w1 (dr os w2 p)+1)*os.length:=by rw[Nat.succ_mul]
   _≤ms.length*os.length:=Nat.mul_le_mul_right _ c1
theorem CZ {a a' b g g':Nat} (h:g<b) (h':g'<b):a*b+g<a'*b+g'↔a<a'∨(a=a'∧g<g'):=by
 rcases Nat.lt_trichotomy a a' with l |l |l
 ·have:(a+1)*b≤a'*b:=Nat.mul_le_mul_right _ l
  rw[Nat.succ_mul]at this
  constructor
  ·intro _;exact .inl l
  ·intro _;omega
 ·subst l
  constructor
  ·intro z;exact .inr ⟨rfl,by omega⟩
  ·rintro (z | ⟨_,z⟩)<;>omega
 ·have:(a'+1)*b≤a*b:=Nat.mul_le_mul_right _ l
  rw[Nat.succ_mul]at this
  constructor
  ·intro z;omega
  ·rintro (z | ⟨z,_⟩)<;>omega
theorem gO {a a' b g g':Nat} (h:g<b) (h':g'<b):a*b+g=a'*b+g'↔a=a'∧g=g':=by
 constructor
 ·intro e
  have l1:=CZ (a:=a) (a':=a') h h'
  have l2:=CZ (a:=a') (a':=a) h' h
  have n1:¬(a<a'∨(a=a'∧g<g')):=λz=>by have:=l1.mpr z;omega
  have n2:¬(a'<a∨(a'=a∧g'<g)):=λz=>by have:=l2.mpr z;omega
  constructor<;>omega
 ·rintro⟨rfl,rfl⟩;rfl
theorem ab2 {ms os:List Bool} {a g:Nat} (ha:a<ms.length) (hg:g<os.length):(jm ms os).getD (a*os.length+see (ms.getD a false) os.length g) false=(ms.getD a false != os.getD g false):=by
 have s:=C_ (t:=ms.getD a false) hg
 have hlt:a*os.length+see (ms.getD a false) os.length g<ms.length*os.length:=by
  calc a*os.length+see (ms.getD a false) os.length g<a*os.length+os.length:=by omega
   _=(a+1)*os.length:=by rw[Nat.succ_mul]
   _≤ms.length*os.length:=Nat.mul_le_mul_right _ ha
 have hd:(a*os.length+see (ms.getD a false) os.length g) / os.length=a:=by
  rw[Nat.mul_comm,Nat.mul_add_div (by omega),Nat.div_eq_of_lt s];omega
 have hm:(a*os.length+see (ms.getD a false) os.length g) % os.length=see (ms.getD a false) os.length g:=by
  rw[Nat.mul_comm,Nat.mul_add_mod,Nat.mod_eq_of_lt s]
 unfold jm
 rw[List.getD,List.getElem?_map,List.getElem?_range hlt,Option.map_some,Option.getD_some,hd,hm,gP hg]
theorem CW {n:Nat} {ms os:List Bool} {w1 w2:List Int} (W1:Wd ms.length n w1) (W2:Wd os.length n w2):drawn (jm ms os) (jw ms os w1 w2)=lay (drawn ms w1) (drawn os w2):=by
 have WJ:=cM W1 W2
 refine zX (Xj WJ) (gW (Xj W1) (Xj W2)) λp q hp' hq=>?_
 rw[W7 WJ hp',W7 WJ hq]
 rw[Ae (by rw[WQ,W2.len];exact hp'),Ae (by rw[WQ,W2.len];exact hq),W7 W2 hp',W7 W2 hq,Int.toNat_natCast,Int.toNat_natCast]
 have x:=z_ (bs:=os) W2 hp'
 have y:=z_ (bs:=os) W2 hq
 rw[W7 W1 x,W7 W1 y]
 have i1:=Ia (bs:=ms) W1 x y
 have i2:=Ia (bs:=os) W2 hp' hq
 have i2':=Ia (bs:=os) W2 hq hp'
 have iJ:=Ia (bs:=jm ms os) WJ hp' hq
 have inj:=λe=>mZ (bs:=os) W2 hp' hq e
 have c1p:=(XQ W1 x).2
 have c1q:=(XQ W1 y).2
 have c2p:=(XQ W2 hp').2
 have c2q:=(XQ W2 hq).2
 rw[cN W2 hp',cN W2 hq]at iJ
 rw[ab2 c1p c2p]at iJ
 have sp:=C_ (t:=ms.getD (hp w1 (dr os w2 p)) false) c2p
 have sq:=C_ (t:=ms.getD (hp w1 (dr os w2 q)) false) c2q
 rw[CZ sp sq,gO sp sq]at iJ
 generalize hp w1 (dr os w2 p)=a at *
 generalize hp w1 (dr os w2 q)=a' at *
 generalize hp w2 p=g at *
 generalize hp w2 q=g' at *
 generalize dr os w2 p=X at *
 generalize dr os w2 q=Y at *
 generalize dr ms w1 X=D at *
 generalize dr ms w1 Y=D' at *
 generalize dr (jm ms os) (jw ms os w1 w2) p=J at *
 generalize dr (jm ms os) (jw ms os w1 w2) q=J' at *
 have main:J<J'↔D<D':=by
  rw[iJ,i1]
  by_cases ea:a=a'
  ·subst ea
   generalize ms.getD a false=t at *
   by_cases eg:g=g'
   ·subst eg
    generalize os.getD g false=u at *
    unfold see
    cases t<;>cases u<;>simp at i2 i2' ⊢ <;>omega
   ·have:see t os.length g≠see t os.length g':=by unfold see;split<;>omega
    have i3:X<Y↔g<g':=by rw[i2];constructor
                         ·rintro (z | ⟨z,_⟩)
                          ·exact z
                          ·exact absurd z eg
                         ·exact .inl
    have i3':Y<X↔g'<g:=by rw[i2'];constructor
                          ·rintro (z | ⟨z,_⟩)
                           ·exact z
                           ·exact absurd z.symm eg
                          ·exact .inl
    unfold see at this ⊢
    cases t<;>simp at this ⊢ <;>omega
  ·simp[ea]
 omega
end M
namespace M
def UJ (a:List Bool×List Int) (m:List Bool×List Int):List Bool×List Int:=(jm a.1 m.1,jw a.1 m.1 a.2 m.2)
def jl (n:Nat) (qs:List (List Bool×List Int)):List Bool×List Int:=qs.foldl UJ ([false],List.replicate n 0)
def Gd (n:Nat) (m:List Bool×List Int):Prop:=Wd m.1.length n m.2∧1≤m.1.length
theorem mW (n:Nat):jl n []=([false],List.replicate n 0):=rfl
theorem CV (n:Nat) (qs:List (List Bool×List Int)) (m:List Bool×List Int):jl n (qs++[m])=UJ (jl n qs) m:=by simp[jl]
theorem uH {n:Nat} {qs:List (List Bool×List Int)} {i:Nat} {m:List Bool×List Int} (h:qs[i]? =some m):jl n (qs.take (i+1))=UJ (jl n (qs.take i)) m:=by
 rw[List.take_add_one,h]
 exact CV _ _ _
theorem J8 (n:Nat) (qs:List (List Bool×List Int)) (m:List Bool×List Int):(jl n (qs++[m])).1.length=(jl n qs).1.length*m.1.length:=by rw[CV];exact Vl _ _
theorem mV {n:Nat} {a m:List Bool×List Int} (ha:Wd a.1.length n a.2) (hm:Wd m.1.length n m.2):Wd (UJ a m).1.length n (UJ a m).2:=by
 have z:=cM ha hm
 show Wd (jm a.1 m.1).length n _
 rw[Vl]
 exact z
theorem mU (n:Nat):Wd 1 n (List.replicate n 0):=⟨by simp,λx hx=>by have:=List.eq_of_mem_replicate hx;omega⟩
theorem zW {n:Nat} (qs:List (List Bool×List Int)) (h:∀m∈qs,Gd n m):Wd (jl n qs).1.length n (jl n qs).2:=by
 have go:∀(qs:List (List Bool×List Int)) (a:List Bool×List Int),Wd a.1.length n a.2→(∀m∈qs,Gd n m)→Wd (qs.foldl UJ a).1.length n (qs.foldl UJ a).2:=by
  intro qs
  induction qs with
  |nil=>intro a ha _;exact ha
  |cons m qs ih=>intro a ha hm;exact ih _ (mV ha (hm m (by simp)).1) λx hx=>hm x (by simp[hx])
 exact go qs _ (mU n) h
theorem mR {n:Nat} (qs:List (List Bool×List Int)) (h:∀m∈qs,Gd n m):1≤(jl n qs).1.length:=by
 have go:∀(qs:List (List Bool×List Int)) (a:List Bool×List Int),1≤a.1.length→(∀m∈qs,Gd n m)→a.1.length≤(qs.foldl UJ a).1.length:=by
  intro qs
  induction qs with
  |nil=>intro a _ _;exact Nat.le_refl _
  |cons m qs ih =>
   intro a ha hm
   have e:(UJ a m).1.length=a.1.length*m.1.length:=Vl _ _
   have g:=(hm m (by simp)).2
   have l:a.1.length≤(UJ a m).1.length:=by rw[e];exact Nat.le_mul_of_pos_right _ g
   exact Nat.le_trans l (ih _ (by omega) λx hx=>hm x (by simp[hx]))
 exact go qs ([false],List.replicate n 0) (Nat.le_refl 1) h
theorem uG {n:Nat} {qs:List (List Bool×List Int)} (h:∀m∈qs,Gd n m) (i:Nat):(jl n (qs.take i)).1.length≤(jl n qs).1.length:=by
 have go:∀(qs:List (List Bool×List Int)) (a:List Bool×List Int),1≤a.1.length→(∀m∈qs,Gd n m)→a.1.length≤(qs.foldl UJ a).1.length:=by
  intro qs
  induction qs with
  |nil=>intro a _ _;exact Nat.le_refl _
  |cons m qs ih =>
   intro a ha hm
   have e:(UJ a m).1.length=a.1.length*m.1.length:=Vl _ _
   have g:=(hm m (by simp)).2
   have l:a.1.length≤(UJ a m).1.length:=by rw[e];exact Nat.le_mul_of_pos_right _ g
   exact Nat.le_trans l (ih _ (by omega) λx hx=>hm x (by simp[hx]))
 have e:jl n qs=(qs.drop i).foldl UJ (jl n (qs.take i)):=by
  rw[jl,jl,←List.foldl_append,List.take_append_drop]
 rw[e]
 exact go _ _ (mR _ λm hm=>h m (List.mem_of_mem_take hm)) λm hm=>h m (List.mem_of_mem_drop hm)
theorem mQ (n p:Nat):(List.replicate n (0:Int)).getD p 0=0:=by
 simp only[List.getD,List.getElem?_replicate]
 split<;>rfl
theorem Ez {n i:Nat} (h:i<n):(iota n).getD i 0=(i:Int):=by simp only[List.getD,Oa h];rfl
theorem qW (n:Nat):drawn [false] (List.replicate n 0)=iota n:=by
 have W:=mU n
 refine zX (Xj (bs:=[false]) W) (m_ n) λp q hp' hq=>?_
 rw[W7 W hp',W7 W hq,Ez hp',Ez hq,Int.ofNat_lt,Int.ofNat_lt,Ia W hp' hq]
 have e:∀p,hp (List.replicate n 0) p=0:=λp=>by unfold hp;rw[mQ];rfl
 rw[e,e]
 simp
def Led (n:Nat):List (List Int)→List (List Bool×List Int)→Prop
 | [l],[]=>l=iota n
 |l' :: l :: os,m :: ps=>l'=lay l (drawn m.1 m.2)∧Gd n m∧Led n (l :: os) ps
 |_,_=>False
theorem CT {n:Nat}:∀{os:List (List Int)} {ps:List (List Bool×List Int)} {l:List Int},Led n (l :: os) ps→l=drawn (jl n ps.reverse).1 (jl n ps.reverse).2∧∀m∈ps,Gd n m
 | [],[],l,h=>⟨by rw[List.reverse_nil,mW,qW];exact h,by simp⟩
 |l1 :: os,m :: ps,l,h=>by
  obtain⟨e,g,h⟩:=h
  obtain⟨e1,g1⟩:=CT h
  have G:∀x∈m :: ps,Gd n x:=λx hx=>by
   rcases List.mem_cons.mp hx with e |hx
   ·subst e;exact g
   ·exact g1 x hx
  refine⟨?_,G⟩
  rw[List.reverse_cons,CV,e,e1]
  exact(CW (zW ps.reverse λx hx=>g1 x (List.mem_reverse.mp hx)) g.1).symm
 | [],_ :: _,_,h=>False.elim h
 |_ :: _,[],_,h=>False.elim h
end M
namespace M
def lo (c:Int) (l:List Int):Nat:=l.countP λx=>decide (x<c)
def up (c:Int) (l:List Int):Nat:=l.countP λx=>decide (c≤x)
def am4 (c:Int) (os:List Int):List Int:=os.map λx=>if c≤x then 1 else 0
def wF:List Int→Int→Int→Nat→Option Nat
 | [],_,_,_=>none
 |c :: cs,l,g,p=>if c=l then wF cs (l+1) g (p+1)else if c=g then wF cs l (g-1) (p+1)else some (p+1)
structure Str (rs:List Int) (l g:Int):Prop where
 nd:rs.Nodup
 mem:∀x,x∈rs↔l≤x∧x≤g
def wD:List Int→Int→Int→Nat→Option Nat
 | [],_,_,_=>none
 |c :: cs,s,e,p=>if c=e then wD cs s (e+1) (p+1)else if c=s-1 then wD cs (s-1) e (p+1)else some (p+1)
end M
namespace M
def ch:Nat→Nat→Nat
 |_,0=>1
 | 0,_+1=>0
 |n+1,k+1=>ch n k+ch n (k+1)
theorem Xc (n:Nat):ch n 0=1:=by cases n<;>rfl
theorem QT (n k:Nat):ch (n+1) (k+1)=ch n k+ch n (k+1):=rfl
theorem Qm:∀{n k:Nat},n<k→ch n k=0
 | 0,0,h=>absurd h (by omega)
 | 0,_+1,_=>rfl
 |n+1,0,h=>absurd h (by omega)
 |n+1,k+1,h=>by rw[QT,Qm (by omega:n<k),Qm (by omega:n<k+1)]
theorem CQ:∀n:Nat,ch n n=1
 | 0=>rfl
 |n+1=>by rw[QT,CQ n,Qm (by omega:n<n+1)]
theorem O6:∀n k:Nat,(k+1)*ch n (k+1)=(n-k)*ch n k
 | 0,k=>by
   have:ch 0 (k+1)=0:=rfl
   rw[this,Nat.zero_sub];simp
 |n+1,0=>by
  have h:=O6 n 0
  rw[Xc]at h ⊢
  rw[QT,Xc]
  omega
 |n+1,k+1=>by
  have h1:=O6 n k
  have h2:=O6 n (k+1)
  rw[QT,QT]
  by_cases hk:k<n
  ·have e1:n+1-(k+1)=n-k:=by omega
   have e2:n-(k+1)=n-k-1:=by omega
   rw[e1]
   rw[e2]at h2
   obtain⟨d,hd⟩:∃d,n-k=d+1:=⟨n-k-1,by omega⟩
   rw[hd]at h1 h2 ⊢
   simp only[Nat.add_sub_cancel]at h2
   rw[Nat.mul_add,h2,Nat.mul_add,←h1]
   have e3:=Nat.add_mul (k+1+1) d (ch n (k+1))
   have e4:=Nat.add_mul (k+1) (d+1) (ch n (k+1))
   have e5:k+1+1+d=k+1+(d+1):=by omega
   rw[e5]at e3
   omega
  ·rw[Qm (by omega:n<k+1),Qm (by omega:n<k+1+1)]
   have e:n+1-(k+1)=0:=by omega
   rw[e];simp
theorem Ql:∀(m a b:Nat),a+b=m→ch m a=ch m b
 | 0,a,b,h=>by
   have h1:a=0:=by omega
   have h2:b=0:=by omega
   subst h1;subst h2;rfl
 |m+1,0,b,h=>by
  have h2:b=m+1:=by omega
  subst h2
  rw[CQ];rfl
 |m+1,a+1,0,h=>by
  have h2:a=m:=by omega
  subst h2
  rw[CQ];rfl
 |m+1,a+1,b+1,h=>by
  rw[QT,QT,Ql m a (b+1) (by omega),Ql m (a+1) b (by omega)]
  omega
theorem gM {n k:Nat} (h:k≤n):ch n (n-k)=ch n k:=Ql n (n-k) k (by omega)
def df (n:Nat):Nat→Nat
 | 0=>1
 |k+1=>df n k*(n-k)
theorem mO (n k:Nat):df n (k+1)=df n k*(n-k):=rfl
theorem cL (m:Nat):∀k,df (m+1) (k+1)=(m+1)*df m k
 | 0=>by simp[df]
 |k+1=>by rw[mO,cL m k,mO,Nat.mul_assoc,show m+1-(k+1)=m-k by omega]
theorem cJ (n:Nat):∀k,df n k=ch n k*df k k
 | 0=>by rw[Xc];rfl
 |k+1=>by
  have h:=O6 n k
  rw[mO,cJ n k,cL k k]
  rw[Nat.mul_right_comm,Nat.mul_comm (ch n k),←h,Nat.mul_comm (k+1) (ch n (k+1)),Nat.mul_assoc]
theorem mL (n:Nat):∀k,k≤n→0<df n k
 | 0,_=>Nat.one_pos
 |k+1,h=>by rw[mO];exact Nat.mul_pos (mL n k (by omega)) (by omega)
theorem cI {n B:Nat} (h:n≤B):∀k,df n k≤B ^ k
 | 0=>Nat.le_refl _
 |k+1=>by rw[mO,Nat.pow_succ];exact Nat.mul_le_mul (cI h k) (by omega)
theorem mK (n k:Nat):ch n k≤df n k:=by
 rw[cJ]
 exact Nat.le_mul_of_pos_right _ (mL k k (Nat.le_refl _))
theorem aav (n k:Nat):ch n k*(n-k) / (k+1)=ch n (k+1):=by
 rw[Nat.mul_comm,←O6,Nat.mul_div_cancel_left _ (by omega)]
def Uo (n k:Int):Int:=if k<0∨n<k then 0 else(ch n.toNat k.toNat:Int)
theorem YL {n k:Int} (h:k<0∨n<k):Uo n k=0:=by unfold Uo;rw[if_pos h]
theorem Uu {n k:Int} (h0:0≤k) (h:k≤n):Uo n k=(ch n.toNat k.toNat:Int):=by unfold Uo;rw[if_neg (by omega)]
theorem wC {n k:Int} (hn:0<n):Uo (n-1) k+Uo (n-1) (k-1)=Uo n k:=by
 by_cases h0:k<0
 ·rw[YL (.inl h0),YL (.inl h0),YL (.inl (by omega))];rfl
 by_cases h1:k=0
 ·subst h1
  rw[YL (k:=0-1) (.inl (by omega)),Uu (by omega) (by omega),Uu (by omega) (by omega)]
  show((ch (n-1).toNat 0:Nat):Int)+0=((ch n.toNat 0:Nat):Int)
  rw[Xc,Xc];rfl
 by_cases h2:n<k
 ·rw[YL (.inr h2),YL (.inr (by omega)),YL (.inr (by omega))];rfl
 obtain⟨m,hm⟩:∃m:Nat,n=m+1:=⟨n.toNat-1,by omega⟩
 obtain⟨j,hj⟩:∃j:Nat,k=j+1:=⟨k.toNat-1,by omega⟩
 subst hm;subst hj
 have e1:((m:Int)+1).toNat=m+1:=by omega
 have e2:((j:Int)+1).toNat=j+1:=by omega
 have e3:((m:Int)+1-1)=m:=by omega
 have e4:((j:Int)+1-1)=j:=by omega
 have key:Uo m (j+1)=(ch m (j+1):Int):=by
  by_cases h3:(m:Int)<j+1
  ·rw[YL (.inr h3),Qm (by omega)];rfl
  ·rw[Uu (by omega) (by omega),e2];rfl
 rw[e3,e4,key,Uu (k:=(j:Int)) (by omega) (by omega),Uu (by omega) (by omega),e1,e2,QT]
 simp only[Int.toNat_natCast]
 omega
end M
namespace M
def sm (f:Nat→Nat) (a h:Nat):Nat:=((List.range (a-h)).map λj=>f (h+j)).sum
theorem uF {f:Nat→Nat} {a h:Nat} (e:a≤h):sm f a h=0:=by unfold sm;rw[Nat.sub_eq_zero_of_le e];rfl
theorem uE {f:Nat→Nat} {a h:Nat} (e:h<a):sm f a h=f h+sm f a (h+1):=by
 unfold sm
 obtain⟨k,hk⟩:∃k,a-h=k+1:=⟨a-h-1,by omega⟩
 rw[hk,show a-(h+1)=k by omega,List.range_succ_eq_map,List.map_cons,List.sum_cons,List.map_map,Nat.add_zero]
 congr 2
 refine List.map_congr_left λj _=>?_
 show f (h+(j+1))=f (h+1+j)
 congr 1
 omega
def lf (ab:Bool) (bs:List Bool) (h:Nat):Nat:=if(ab != bs.getD h false)=true then h else h+1
def wy (bs:List Bool):List Bool→Nat→Nat
 | [],_=>1
 |ab :: r,h=>sm (λx=>wy bs r (lf ab bs x)) bs.length h
theorem Jm (bs:List Bool) (ab:Bool) (r:List Bool) (h:Nat):wy bs (ab :: r) h=sm (λx=>wy bs r (lf ab bs x)) bs.length h:=rfl
theorem gK {bs:List Bool} {ab:Bool} {r:List Bool} {h:Nat} (e:bs.length≤h):wy bs (ab :: r) h=0:=by rw[Jm,uF e]
theorem gJ {bs:List Bool} {ab:Bool} {r:List Bool} {h:Nat} (e:h<bs.length):wy bs (ab :: r) h=wy bs r (lf ab bs h)+wy bs (ab :: r) (h+1):=by rw[Jm,uE e,Jm]
def steps (t:Bool):List Bool→Nat
 | []=>0
 | [_]=>0
 |x :: y :: r=>(if x=t then 1 else 0)+steps t (y :: r)
def jA (n:Nat) (ns:List Int):List Bool:=(List.range (n-1)).map (λc=>decide ((JH n ns).getD c 0<(JH n ns).getD (c+1) 0))++[true]
theorem Nu {n:Nat} (ns:List Int) (h:1≤n):(jA n ns).length=n:=by simp[jA];omega
end M
namespace M
def lw (os:List Int):Nat→Int
 | 0=>os.getD 0 0
 |m+1=>if os.getD m 0=lw os m+m then lw os m else lw os m-1
def okm (os:List Int) (m:Nat):Prop:=os.getD m 0=lw os m+m∨os.getD m 0=lw os m-1
def Sth (os:List Int) (n:Nat):Prop:=∀i,i<n→okm os i
def yy (os:List Int) (p i:Nat):Int:=if os.getD i 0=lw os i+i then os.getD i 0-p else os.getD i 0
def pat:List Bool→Bool
 | []=>true
 |true :: r=>r.all id
 |false :: r=>pat r
end M
namespace M
def more (cs:List Int):List Int:=(List.range (cs.length+1)).map λ(j:Nat)=>((j:Int)+1)*(cs++[0]).getD j 0+((cs.length:Int)+1-j)*(0 :: cs).getD j 0
def Yj:Nat→List Int
 | 0=>[1]
 |n+1=>more (Yj n)
theorem zV (cs:List Int):(more cs).length=cs.length+1:=by simp[more]
theorem YK:∀n,(Yj n).length=n+1
 | 0=>rfl
 |n+1=>by show(more (Yj n)).length=_;rw[zV,YK n]
theorem qU (cs:List Int) (j:Nat):(cs++[0]).getD j 0=cs.getD j 0:=by
 by_cases h:j<cs.length
 ·simp[List.getD,List.getElem?_append_left h]
 ·by_cases h2:j=cs.length
  ·subst h2;simp[List.getD]
  ·simp[List.getD,List.getElem?_eq_none (show(cs++[0]).length≤j by simp;omega),List.getElem?_eq_none (show cs.length≤j by omega)]
def at_ (cs:List Int):Nat→Int
 | 0=>0
 |j+1=>cs.getD j 0
theorem wB (cs:List Int) (j:Nat):(0 :: cs).getD j 0=at_ cs j:=by cases j<;>rfl
theorem RQ {cs:List Int} {j:Nat} (h:j≤cs.length):(more cs).getD j 0=((j:Int)+1)*cs.getD j 0+((cs.length:Int)+1-j)*at_ cs j:=by
 have:j<cs.length+1:=by omega
 unfold more
 rw[List.getD,List.getElem?_map,List.getElem?_range this,Option.map_some,Option.getD_some,qU,wB]
theorem H_ {a b:Int} (h0:0≤a) (h:a≤b):∀n:Nat,a ^ n≤b ^ n
 | 0=>by rw[Int.pow_zero,Int.pow_zero];exact Int.le_refl _
 |n+1=>by
  rw[Int.pow_succ,Int.pow_succ]
  exact Int.mul_le_mul (H_ h0 h n) h h0 (Int.pow_nonneg (Int.le_trans h0 h))
theorem CP:∀(n:Nat) (j:Nat),0≤(Yj n).getD j 0∧(Yj n).getD j 0≤((n:Int)+2) ^ n
 | 0,j=>by
   cases j with
   |zero=>exact⟨by decide,by decide⟩
   |succ j=>exact⟨by show(0:Int)≤0;decide,by show(0:Int)≤1;decide⟩
 |n+1,j=>by
  have hp:(0:Int)≤((n:Int)+3) ^ n:=Int.pow_nonneg (by omega)
  have hmono:((n:Int)+2) ^ n≤((n:Int)+3) ^ n:=H_ (by omega) (by omega) n
  by_cases h:j≤n+1
  ·have e:(Yj (n+1)).getD j 0=((j:Int)+1)*(Yj n).getD j 0+(((n+1:Nat):Int)+1-j)*at_ (Yj n) j:=by
    show(more (Yj n)).getD j 0=_
    rw[RQ (by rw[YK];exact h),YK]
   have b1:=CP n j
   have b2:0≤at_ (Yj n) j∧at_ (Yj n) j≤((n:Int)+2) ^ n:=by
    cases j with
    |zero=>exact⟨Int.le_refl _,Int.pow_nonneg (by omega)⟩
    |succ j=>exact CP n j
   rw[e]
   have c1:(0:Int)≤(j:Int)+1:=by omega
   have c2:(0:Int)≤((n+1:Nat):Int)+1-j:=by omega
   refine⟨Int.add_nonneg (Int.mul_nonneg c1 b1.1) (Int.mul_nonneg c2 b2.1),?_⟩
   have m1:=Int.mul_le_mul_of_nonneg_left (Int.le_trans b1.2 hmono) c1
   have m2:=Int.mul_le_mul_of_nonneg_left (Int.le_trans b2.2 hmono) c2
   have e2:((((n+1:Nat):Int))+2) ^ (n+1)=((n:Int)+3) ^ n*((n:Int)+3):=by
    rw[Int.pow_succ];congr 1<;>omega
   rw[e2]
   have e3:((n:Int)+3) ^ n*((n:Int)+3)=((j:Int)+1)*((n:Int)+3) ^ n+(((n+1:Nat):Int)+1-j)*((n:Int)+3) ^ n:=by
    rw[←Int.add_mul,Int.mul_comm];congr 1;omega
   rw[e3]
   exact Int.add_le_add m1 m2
  ·have:(Yj (n+1)).getD j 0=0:=by
    rw[List.getD,List.getElem?_eq_none (by rw[YK];omega)];rfl
   rw[this]
   exact⟨Int.le_refl _,Int.pow_nonneg (by omega)⟩
theorem CN {n j:Nat} (h:n<j):(Yj n).getD j 0=0:=by rw[List.getD,List.getElem?_eq_none (by rw[YK];omega)];rfl
theorem Ms:∀(n j:Nat),j≤n→(Yj n).getD (n-j) 0=(Yj n).getD j 0
 | 0,j,h=>by have:j=0:=by omega
             subst this;rfl
 |n+1,j,h=>by
  have e:∀i,i≤n+1→(Yj (n+1)).getD i 0=((i:Int)+1)*(Yj n).getD i 0+(((n+1:Nat):Int)+1-i)*at_ (Yj n) i:=λi hi=>by
   show(more (Yj n)).getD i 0=_
   rw[RQ (by rw[YK];exact hi),YK]
  rw[e _ (by omega),e _ h]
  by_cases h0:j=0
  ·subst h0
   have a1:(Yj n).getD (n+1-0) 0=0:=CN (by omega)
   have a2:at_ (Yj n) (n+1-0)=(Yj n).getD n 0:=rfl
   have a3:at_ (Yj n) 0=0:=rfl
   have a4:=Ms n 0 (by omega)
   rw[Nat.sub_zero]at a4
   rw[a1,a2,a3,a4]
   simp only[Int.mul_zero,Int.zero_add,Int.add_zero]
   congr 1
   omega
  ·obtain⟨i,rfl⟩:∃i,j=i+1:=⟨j-1,by omega⟩
   have a1:at_ (Yj n) (i+1)=(Yj n).getD i 0:=rfl
   by_cases h1:i=n
   ·subst h1
    have b1:(Yj i).getD (i+1) 0=0:=CN (by omega)
    have b2:at_ (Yj i) (i+1-(i+1))=0:=by rw[Nat.sub_self];rfl
    have b3:=Ms i i (by omega)
    rw[Nat.sub_self]at b3
    rw[a1,b1,b2,Nat.sub_self,b3]
    simp only[Int.mul_zero,Int.zero_add,Int.add_zero]
    congr 1
    omega
   ·have c1:=Ms n (i+1) (by omega)
    have c2:=Ms n i (by omega)
    have d1:at_ (Yj n) (n+1-(i+1))=(Yj n).getD (n-(i+1)) 0:=by
     rw[show n+1-(i+1)=(n-(i+1))+1 by omega];rfl
    rw[a1,d1,c1,show n+1-(i+1)=n-i by omega,c2]
    rw[Int.add_comm]
    congr 2<;>omega
def ZL (f:Nat→Int):Nat→Int
 | 0=>0
 |n+1=>ZL f n+f n
theorem VR (f g:Nat→Int):∀n,ZL (λi=>f i+g i) n=ZL f n+ZL g n
 | 0=>rfl
 |n+1=>by show ZL _ n+(f n+g n)=(ZL f n+f n)+(ZL g n+g n);rw[VR f g n];omega
theorem YB (c:Int) (f:Nat→Int):∀n,ZL (λi=>c*f i) n=c*ZL f n
 | 0=>(Int.mul_zero c).symm
 |n+1=>by show ZL _ n+_=c*(ZL f n+f n);rw[YB c f n,Int.mul_add]
theorem ZM {f g:Nat→Int}:∀{n},(∀i,i<n→f i=g i)→ZL f n=ZL g n
 | 0,_=>rfl
 |n+1,h=>by show ZL f n+f n=ZL g n+g n;rw[ZM λi hi=>h i (by omega),h n (by omega)]
theorem Wg (f:Nat→Int):∀n,ZL f (n+1)=f 0+ZL (λi=>f (i+1)) n
 | 0=>by show(0:Int)+f 0=f 0+0;omega
 |n+1=>by show ZL f (n+1)+f (n+1)=f 0+(ZL (λi=>f (i+1)) n+f (n+1));rw[Wg f n];omega
theorem aaw (x k n:Nat) (h:k≤n):((x:Int))*(ch (x+k) n:Nat)=((k:Int)+1)*(ch (x+k) (n+1):Nat)+((n:Int)-k)*(ch (x+k+1) (n+1):Nat):=by
 have st:=O6 (x+k) n
 have e1:((n:Int)+1)*(ch (x+k) (n+1):Nat)=((x:Int)+k-n)*(ch (x+k) n:Nat):=by
  by_cases q:n≤x+k
  ·have:=congrArg (Nat.cast (R:=Int)) st
   rw[Int.natCast_mul,Int.natCast_mul]at this
   rw[show(((x+k-n:Nat)):Int)=(x:Int)+k-n by omega,show(((n+1:Nat)):Int)=(n:Int)+1 by omega]at this
   exact this
  ·rw[Qm (show x+k<n by omega),Qm (show x+k<n+1 by omega)]
   simp
 rw[QT,Int.natCast_add,Int.mul_add]
 have e2:((k:Int)+1)*(ch (x+k) (n+1):Nat)+(((n:Int)-k)*(ch (x+k) n:Nat)+((n:Int)-k)*(ch (x+k) (n+1):Nat))=((n:Int)+1)*(ch (x+k) (n+1):Nat)+((n:Int)-k)*(ch (x+k) n:Nat):=by
  have e3:((n:Int)+1)*(ch (x+k) (n+1):Nat)=((k:Int)+1)*(ch (x+k) (n+1):Nat)+((n:Int)-k)*(ch (x+k) (n+1):Nat):=by
   rw[←Int.add_mul];congr 1;omega
  rw[e3]
  generalize ((k:Int)+1)*(ch (x+k) (n+1):Nat)=A
  generalize ((n:Int)-k)*(ch (x+k) (n+1):Nat)=B
  generalize ((n:Int)-k)*(ch (x+k) n:Nat)=C
  omega
 rw[e2,e1,←Int.add_mul]
 congr 1
 omega
theorem ab3 (x:Nat):∀n,ZL (λk=>(Yj n).getD k 0*((ch (x+k) (n+1):Nat):Int)) (n+1)=((x ^ (n+1):Nat):Int)
 | 0=>by
   show(0:Int)+1*((ch (x+0) 1:Nat):Int)=_
   have e2:∀n,ch n 1=n:=λn=>by
    induction n with
    |zero=>rfl
    |succ n ih=>rw[QT,ih,Xc];omega
   rw[Nat.add_zero,e2,Nat.pow_one]
   omega
 |n+1=>by
  have ih:=ab3 x n
  have e:∀i,i<n+2→(Yj (n+1)).getD i 0*((ch (x+i) (n+2):Nat):Int)=((i:Int)+1)*(Yj n).getD i 0*((ch (x+i) (n+2):Nat):Int)+(((n+1:Nat):Int)+1-i)*at_ (Yj n) i*((ch (x+i) (n+2):Nat):Int):=λi hi=>by
   rw[←Int.add_mul]
   congr 1
   show(more (Yj n)).getD i 0=_
   rw[RQ (by rw[YK];omega),YK]
  rw[ZM e,VR]
  have f1:ZL (λi=>((i:Int)+1)*(Yj n).getD i 0*((ch (x+i) (n+2):Nat):Int)) (n+2)=ZL (λi=>((i:Int)+1)*(Yj n).getD i 0*((ch (x+i) (n+2):Nat):Int)) (n+1):=by
   show ZL _ (n+1)+(((n+1:Nat):Int)+1)*(Yj n).getD (n+1) 0*((ch (x+(n+1)) (n+2):Nat):Int)=_
   rw[CN (show n<n+1 by omega)]
   simp
  have f2:ZL (λi=>(((n+1:Nat):Int)+1-i)*at_ (Yj n) i*((ch (x+i) (n+2):Nat):Int)) (n+2)=ZL (λi=>(((n+1:Nat):Int)-i)*(Yj n).getD i 0*((ch (x+i+1) (n+2):Nat):Int)) (n+1):=by
   rw[Wg]
   have z:at_ (Yj n) 0=0:=rfl
   rw[z]
   simp only[Int.mul_zero,Int.zero_mul,Int.zero_add]
   refine ZM λi hi=>?_
   show(((n+1:Nat):Int)+1-((i+1:Nat):Int))*(Yj n).getD i 0*((ch (x+(i+1)) (n+2):Nat):Int)=_
   congr 2
   omega
  rw[f1,f2,←VR]
  have g:∀i,i<n+1→((i:Int)+1)*(Yj n).getD i 0*((ch (x+i) (n+2):Nat):Int)+(((n+1:Nat):Int)-i)*(Yj n).getD i 0*((ch (x+i+1) (n+2):Nat):Int)=(x:Int)*((Yj n).getD i 0*((ch (x+i) (n+1):Nat):Int)):=λi hi=>by
   have key:=aaw x i (n+1) (by omega)
   have a1:((i:Int)+1)*(Yj n).getD i 0*((ch (x+i) (n+2):Nat):Int)=(Yj n).getD i 0*(((i:Int)+1)*((ch (x+i) (n+2):Nat):Int)):=by
    rw[Int.mul_comm ((i:Int)+1),Int.mul_assoc]
   have a2:(((n+1:Nat):Int)-i)*(Yj n).getD i 0*((ch (x+i+1) (n+2):Nat):Int)=(Yj n).getD i 0*((((n+1:Nat):Int)-i)*((ch (x+i+1) (n+2):Nat):Int)):=by
    rw[Int.mul_comm (((n+1:Nat):Int)-i),Int.mul_assoc]
   rw[a1,a2,←Int.mul_add,←key,←Int.mul_assoc,←Int.mul_assoc,Int.mul_comm (x:Int)]
  rw[ZM g,YB,ih,←Int.natCast_mul,Nat.pow_succ x (n+1),Nat.mul_comm]
end M
namespace M
def lin (row:List Int) (yj:List (List Int)) (m i:Nat):List Int:=(List.range m).map λj=>ZL (λk=>row.getD k 0*(yj.getD k []).getD j 0) i
def idt (m:Nat):List (List Int):=(List.range m).map λi=>(List.range m).map λj=>if i=j then 1 else 0
theorem zU (f:Nat→Int) (j:Nat):∀n,ZL (λk=>f k*(if k=j then 1 else 0)) n=if j<n then f j else 0
 | 0=>by simp[ZL]
 |n+1=>by
  show ZL _ n+f n*(if n=j then 1 else 0)=_
  rw[zU f j n]
  by_cases h:n=j
  ·subst h;simp
  ·by_cases h2:j<n
   ·rw[if_pos h2,if_neg h,if_pos (by omega)];omega
   ·rw[if_neg h2,if_neg h,if_neg (by omega)];omega
theorem gH {xs:List Int} {m:Nat} {f:Nat→Int} (hl:xs.length=m) (h:∀j,j<m→f j=xs.getD j 0):(List.range m).map f=xs:=by
 apply List.ext_getElem?
 intro i
 by_cases hi:i<m
 ·rw[List.getElem?_map,List.getElem?_range hi,Option.map_some,h i hi,List.getD,List.getElem?_eq_getElem (show i<xs.length by omega)]
  rfl
 ·rw[List.getElem?_eq_none (by simp;omega),List.getElem?_eq_none (by omega)]
def sg:Nat→Int
 | 0=>1
 |n+1=> -sg n
def QD (n t:Nat):Int:=((ch n t:Nat):Int)
theorem aax (n t:Nat):QD (n+1) (t+1)=QD n t+QD n (t+1):=by unfold QD;rw[QT];simp
theorem RP (f g:Nat→Int):∀n,ZL (λi=>f i-g i) n=ZL f n-ZL g n
 | 0=>rfl
 |n+1=>by show ZL _ n+(f n-g n)=(ZL f n+f n)-(ZL g n+g n);rw[RP f g n];omega
theorem zT (n:Nat) (F:Nat→Int):ZL (λt=>sg t*QD n t*(F t-F (t+1))) (n+1)=ZL (λt=>sg t*QD (n+1) t*F t) (n+2):=by
 have e1:ZL (λt=>sg t*QD n t*F t) (n+2)=ZL (λt=>sg t*QD n t*F t) (n+1):=by
  show ZL _ (n+1)+sg (n+1)*QD n (n+1)*F (n+1)=_
  have:QD n (n+1)=0:=by unfold QD;rw[Qm (by omega)];rfl
  rw[this];simp
 have e2:ZL (λt=>sg t*QD n t*(F t-F (t+1))) (n+1)=ZL (λt=>sg t*QD n t*F t) (n+1)-ZL (λt=>sg t*QD n t*F (t+1)) (n+1):=by
  rw[←RP]
  exact ZM λt _=>Int.mul_sub ..
 rw[e2,←e1,Wg (λt=>sg t*QD n t*F t),Wg (λt=>sg t*QD (n+1) t*F t)]
 have a0:QD (n+1) 0=QD n 0:=by unfold QD;rw[Xc,Xc]
 have e3:ZL (λt=>sg (t+1)*QD (n+1) (t+1)*F (t+1)) (n+1)=ZL (λt=>sg (t+1)*QD n (t+1)*F (t+1)) (n+1)-ZL (λt=>sg t*QD n t*F (t+1)) (n+1):=by
  rw[←RP]
  refine ZM λt _=>?_
  rw[aax]
  show -sg t*_*_= -sg t*_*_- _
  rw[Int.mul_add,Int.add_mul,Int.neg_mul,Int.neg_mul]
  omega
 rw[a0,e3]
 omega
theorem RN {f:Nat→Int}:∀{n:Nat},(∀i,i<n→f i=0)→ZL f n=0
 | 0,_=>rfl
 |n+1,h=>by show ZL f n+f n=0;rw[RN λi hi=>h i (by omega),h n (by omega)];rfl
theorem zR {f:Nat→Int} {n:Nat}:∀{k:Nat},(∀i,n≤i→f i=0)→ZL f (n+k)=ZL f n
 | 0,_=>rfl
 |k+1,h=>by show ZL f (n+k)+f (n+k)=_;rw[zR h,h _ (by omega)];omega
theorem Ey {f:Nat→Int} {n k:Nat} (h:∀i,n≤i→f i=0) (hk:n≤k):ZL f k=ZL f n:=by
 obtain⟨d,rfl⟩:∃d,k=n+d:=⟨k-n,by omega⟩
 exact zR h
def am (m b:Nat) (T:Int):Int:=ZL (λt=>sg t*QD m t*Uo (T-(t:Int)*b+m) m) (m+1)
def ca (m b i j:Nat):Int:=ZL (λt=>sg t*QD (m+1) t*Uo ((m:Int)-1-i+((j:Int)+1-t)*b) m) (j+1)
theorem ab4 {m b i j:Nat}:ca m b i j=am m b (((j:Int)+1)*b-1-i)-am m b ((j:Int)*b-1-i):=by
 have z1:∀t,j+1≤t→sg t*QD (m+1) t*Uo ((m:Int)-1-i+((j:Int)+1-t)*b) m=0:=λt ht=>by
  have:((j:Int)+1-t)*b≤0:=Int.mul_nonpos_of_nonpos_of_nonneg (by omega) (by omega)
  rw[YL (.inr (by omega)),Int.mul_zero]
 have z2:∀t,m+2≤t→sg t*QD (m+1) t*Uo ((m:Int)-1-i+((j:Int)+1-t)*b) m=0:=λt ht=>by
  have:QD (m+1) t=0:=by unfold QD;rw[Qm (by omega)];rfl
  rw[this];simp
 have e1:ca m b i j=ZL (λt=>sg t*QD (m+1) t*Uo ((m:Int)-1-i+((j:Int)+1-t)*b) m) (m+2):=by
  unfold ca
  rw[←Ey z1 (show j+1≤j+m+2 by omega),←Ey z2 (show m+2≤j+m+2 by omega)]
 rw[e1,←zT m λt=>Uo ((m:Int)-1-i+((j:Int)+1-(t:Nat))*b) m]
 unfold am
 rw[←RP]
 refine ZM λt _=>?_
 rw[←Int.mul_sub]
 congr 2
 ·congr 1
  rw[Int.sub_mul];omega
 ·congr 1
  rw[show((j:Int)+1-((t+1:Nat):Int))=(j:Int)-t by omega,Int.sub_mul];omega
def S:Nat→Nat→(Int→Int)→Int
 | 0,_,f=>f 0
 |m+1,b,f=>ZL (λd=>S m b λx=>f (x+d)) b
theorem Rj {b:Nat}:∀{m:Nat} {f g:Int→Int},(∀x:Int,0≤x→x≤(m:Int)*(b-1)→f x=g x)→S m b f=S m b g
 | 0,f,g,h=>h 0 (by omega) (by omega)
 |m+1,f,g,h=>by
  refine ZM λd hd=>Rj λx h0 h1=>h _ (by omega) ?_
  rw[show(((m+1:Nat):Int))*((b:Int)-1)=(m:Int)*(b-1)+(b-1)by rw[show(((m+1:Nat):Int))=(m:Int)+1 by omega,Int.add_mul,Int.one_mul]]
  omega
theorem mJ {b:Nat}:∀(m:Nat) (f g:Int→Int),S m b (λx=>f x+g x)=S m b f+S m b g
 | 0,f,g=>rfl
 |m+1,f,g=>by
  show ZL _ b=ZL _ b+ZL _ b
  rw[←VR]
  exact ZM λd _=>mJ m _ _
theorem mH {b:Nat} (c:Int):∀(m:Nat) (f:Int→Int),S m b (λx=>c*f x)=c*S m b f
 | 0,f=>rfl
 |m+1,f=>by
  show ZL _ b=c*ZL _ b
  rw[←YB]
  exact ZM λd _=>mH c m _
theorem aay {b:Nat} (m:Nat):S m b (λ_=>0)=0:=by
 have:=mH (b:=b) 0 m (λ_=>0)
 simp only[Int.zero_mul]at this
 exact this
theorem uD {b:Nat} (m:Nat) (h:Nat→Int→Int):∀n,S m b (λx=>ZL (λd=>h d x) n)=ZL (λd=>S m b (h d)) n
 | 0=>aay m
 |n+1=>by
  show S m b (λx=>ZL (λd=>h d x) n+h n x)=_
  rw[mJ,uD m h n];rfl
theorem Qk {f:Nat→Int}:∀{n:Nat},(∀i,i<n→0≤f i)→0≤ZL f n
 | 0,_=>Int.le_refl _
 |n+1,h=>Int.add_nonneg (Qk λi hi=>h i (by omega)) (h n (by omega))
theorem zQ {b:Nat}:∀{m:Nat} {f:Int→Int},(∀x,0≤f x)→0≤S m b f
 | 0,f,h=>h 0
 |m+1,f,h=>Qk λd _=>zQ λx=>h _
theorem HY (c:Int):∀n:Nat,ZL (λ_=>c) n=n*c
 | 0=>by simp[ZL]
 |n+1=>by show ZL _ n+c=_;rw[HY c n,show(((n+1:Nat):Int))=(n:Int)+1 by omega,Int.add_mul,Int.one_mul]
theorem cH {b:Nat}:∀m:Nat,S m b (λ_=>1)=((b ^ m:Nat):Int)
 | 0=>rfl
 |m+1=>by
  show ZL (λ_=>S m b λ_=>1) b=_
  rw[HY,cH m,Nat.pow_succ,Int.natCast_mul,Int.mul_comm]
def ind (p:Prop) [Decidable p]:Int:=if p then 1 else 0
theorem gG (m:Nat) (N:Int):∀b:Nat,ZL (λd=>Uo (N-d+m) m) b=Uo (N+m+1) (m+1)-Uo (N-b+m+1) (m+1)
 | 0=>by show(0:Int)=_;simp
 |b+1=>by
  show ZL _ b+Uo (N-b+m) m=_
  rw[gG m N b]
  have e:Uo (N-(b:Int)+m+1) (m+1)=Uo (N-b+m) (m+1)+Uo (N-b+m) m:=by
   by_cases h:0<N-(b:Int)+m+1
   ·have:=wC (n:=N-(b:Int)+m+1) (k:=(m:Int)+1) h
    rw[show N-(b:Int)+m+1-1=N-b+m by omega,show(m:Int)+1-1=m by omega]at this
    omega
   ·rw[YL (.inr (by omega)),YL (.inr (by omega)),YL (.inr (by omega))];rfl
  rw[e,show N-(((b+1:Nat)):Int)+m+1=N-b+m by omega]
  omega
theorem aaz {b:Nat}:∀(m:Nat) (T:Int),S m b (λx=>ind (x≤T))=am m b T
 | 0,T=>by
   show ind (0≤T)=(0:Int)+1*QD 0 0*Uo (T-((0:Nat):Int)*b+((0:Nat):Int)) ((0:Nat):Int)
   have e0:QD 0 0=1:=rfl
   rw[e0]
   unfold ind
   by_cases h:0≤T
   ·rw[if_pos h,Uu (by omega) (by simp;omega)]
    show(1:Int)=0+1*1*((ch _ 0:Nat):Int)
    rw[Xc];rfl
   ·rw[if_neg h,YL (.inr (by simp;omega))];rfl
 |m+1,T=>by
  show ZL (λd=>S m b λx=>ind (x+d≤T)) b=_
  have e1:∀d:Nat,d<b→(S m b λx=>ind (x+d≤T))=am m b (T-d):=λd _=>by
   rw[←aaz m (T-d)]
   refine Rj λx _ _=>?_
   unfold ind
   by_cases h:x+(d:Int)≤T
   ·rw[if_pos h,if_pos (by omega)]
   ·rw[if_neg h,if_neg (by omega)]
  rw[ZM e1]
  have sw:∀(f:Nat→Nat→Int) (n k:Nat),ZL (λd=>ZL (λt=>f d t) k) n=ZL (λt=>ZL (λd=>f d t) n) k:=λf n k=>by
   induction n with
   |zero=>exact(RN λi _=>rfl).symm
   |succ n ih =>
    show ZL _ n+_=_
    rw[ih,←VR]
    rfl
  unfold am
  rw[sw]
  have e2:∀t:Nat,t<m+1→ZL (λd=>sg t*QD m t*Uo (T-d-(t:Int)*b+m) m) b=sg t*QD m t*(Uo (T-(t:Int)*b+((m+1:Nat):Int)) ((m+1:Nat):Int)-Uo (T-((t+1:Nat):Int)*b+((m+1:Nat):Int)) ((m+1:Nat):Int)):=λt _=>by
   rw[YB]
   congr 1
   have:=gG m (T-(t:Int)*b) b
   have c:∀d:Nat,d<b→Uo (T-d-(t:Int)*b+m) m=Uo (T-(t:Int)*b-d+m) m:=λd _=>by congr 1;omega
   rw[ZM c,this]
   have m1:(((t+1:Nat):Int))*(b:Int)=(t:Int)*b+b:=by rw[show(((t+1:Nat):Int))=(t:Int)+1 by omega,Int.add_mul,Int.one_mul]
   have m2:T-((t+1:Nat):Int)*b+((m+1:Nat):Int)=T-(t:Int)*b-b+m+1:=by rw[m1];omega
   have m3:T-(t:Int)*b+((m+1:Nat):Int)=T-(t:Int)*b+m+1:=by omega
   rw[m2,m3]
   rfl
  rw[ZM e2]
  exact zT m λt=>Uo (T-(t:Int)*b+((m+1:Nat):Int)) ((m+1:Nat):Int)
theorem gF {m b i j:Nat}:ca m b i j=S m b λx=>ind ((j:Int)*b≤x+i∧x+i<((j:Int)+1)*b):=by
 rw[ab4,←aaz,←aaz]
 have e:(S m b λx=>ind (x≤((j:Int)+1)*b-1-i))=(S m b λx=>ind (x≤(j:Int)*b-1-i))+S m b λx=>ind ((j:Int)*b≤x+i∧x+i<((j:Int)+1)*b):=by
  rw[←mJ]
  refine Rj λx _ _=>?_
  have hb:((j:Int)+1)*b=(j:Int)*b+b:=by rw[Int.add_mul,Int.one_mul]
  rw[hb]
  unfold ind
  generalize (j:Int)*b=c
  by_cases h1:x≤c-1-i
  ·rw[if_pos (by omega),if_pos h1,if_neg (by omega)];rfl
  ·by_cases h2:x≤c+b-1-i
   ·rw[if_pos h2,if_neg h1,if_pos (by omega)];rfl
   ·rw[if_neg h2,if_neg h1,if_neg (by omega)];rfl
 omega
theorem qT (m b i j:Nat):0≤ca m b i j:=by
 rw[gF]
 refine zQ λx=>?_
 unfold ind
 split<;>decide
theorem uz {y b:Int} {j:Nat} (hb:0<b):ind ((j:Int)*b≤y∧y<((j:Int)+1)*b)=if y / b=j then 1 else 0:=by
 unfold ind
 by_cases h:(j:Int)*b≤y∧y<((j:Int)+1)*b
 ·rw[if_pos h,if_pos]
  have h1:=Int.le_ediv_of_mul_le hb h.1
  have h2:=Int.ediv_lt_of_lt_mul hb h.2
  omega
 ·rw[if_neg h,if_neg]
  intro e
  apply h
  have h1:=Int.ediv_mul_le y (show b≠0 by omega)
  have h2:=Int.lt_ediv_add_one_mul_self y hb
  rw[e]at h1 h2
  exact⟨h1,h2⟩
theorem zP (q:Int):∀{n:Nat},0≤q→q<n→ZL (λj=>if q=(j:Int)then 1 else 0) n=1
 | 0,h0,h1=>by omega
 |n+1,h0,h1=>by
  show ZL _ n+(if q=(n:Int)then 1 else 0)=1
  by_cases h:q=(n:Int)
  ·rw[if_pos h,RN λi hi=>if_neg (by omega)];rfl
  ·rw[if_neg h,zP q h0 (by omega)];rfl
theorem mG {m b i:Nat} {x:Int} (hb:1≤b) (hi:i<m) (h0:0≤x) (h1:x≤(m:Int)*(b-1)):0≤(x+i) / b∧(x+i) / b<m:=by
 refine⟨Int.ediv_nonneg (by omega) (by omega),Int.ediv_lt_of_lt_mul (by omega) ?_⟩
 rw[Int.mul_sub,Int.mul_one]at h1
 omega
theorem aaA {m b i:Nat} (hb:1≤b) (hi:i<m):ZL (λj=>ca m b i j) m=((b ^ m:Nat):Int):=by
 rw[←cH,ZM λj _=>gF,←uD]
 refine Rj λx h0 h1=>?_
 have hd:=mG hb hi h0 h1
 rw[ZM λj _=>uz (y:=x+i) (b:=(b:Int)) (j:=j) (by omega)]
 exact zP _ hd.1 hd.2
theorem zO (f:Nat→Int):∀n,ZL f n=ZL (λd=>f (n-1-d)) n
 | 0=>rfl
 |n+1=>by
  rw[Wg (λd=>f (n+1-1-d))]
  show ZL f n+f n=f (n+1-1-0)+_
  rw[zO f n,show n+1-1-0=n by omega,Int.add_comm]
  congr 1
  exact ZM λd _=>by congr 1;omega
theorem O5 (f:Nat→Nat→Int) (k:Nat):∀n,ZL (λd=>ZL (λt=>f d t) k) n=ZL (λt=>ZL (λd=>f d t) n) k
 | 0=>(RN λi _=>rfl).symm
 |n+1=>by
  show ZL _ n+_=_
  rw[O5 f k n,←VR]
  rfl
theorem J7 (f:Nat→Int) (n:Nat):∀k,ZL f (n+k)=ZL f n+ZL (λd=>f (n+d)) k
 | 0=>(Int.add_zero _).symm
 |k+1=>by show ZL f (n+k)+f (n+k)=_;rw[J7 f n k];show _=ZL f n+(ZL _ k+f (n+k));omega
theorem HX (f:Nat→Int) (a:Nat):∀b,ZL f (a*b)=ZL (λe=>ZL (λd=>f (d+a*e)) a) b
 | 0=>rfl
 |b+1=>by
  rw[Nat.mul_succ,J7,HX f a b]
  show _=ZL _ b+ZL _ a
  congr 1
  exact ZM λd _=>by congr 1;omega
theorem ab5 (f:Int→Int):∀m,S m 1 f=f 0
 | 0=>rfl
 |m+1=>by
  show(0:Int)+S m 1 (λx=>f (x+((0:Nat):Int)))=f 0
  rw[ab5 _ m,Int.zero_add];rfl
theorem ab6 {m i j:Nat}:ca m 1 i j=if i=j then 1 else 0:=by
 rw[gF,ab5]
 unfold ind
 by_cases h:i=j
 ·rw[if_pos h,if_pos (by simp;omega)]
 ·rw[if_neg h,if_neg (by simp;omega)]
theorem zN (n X:Nat):ZL (λi=>(Yj n).getD i 0*Uo ((n:Int)-i+X) ((n+1:Nat):Int)) (n+1)=((X ^ (n+1):Nat):Int):=by
 rw[←ab3 X n,zO]
 refine ZM λd hd=>?_
 rw[show n+1-1-d=n-d by omega,Ms n d (by omega)]
 congr 1
 have e:(n:Int)-(((n-d:Nat)):Int)+X=((X+d:Nat):Int):=by omega
 rw[e]
 by_cases h:((X+d:Nat):Int)<((n+1:Nat):Int)
 ·rw[YL (.inr h),Qm (by omega)];rfl
 ·rw[Uu (by omega) (by omega),Int.toNat_natCast,Int.toNat_natCast]
theorem mF (n b j:Nat):ZL (λi=>(Yj n).getD i 0*ca (n+1) b i j) (n+1)=((b ^ (n+1):Nat):Int)*ZL (λt=>sg t*QD (n+2) t*(((j+1-t) ^ (n+1):Nat):Int)) (j+1):=by
 have e1:∀i,i<n+1→(Yj n).getD i 0*ca (n+1) b i j=ZL (λt=>(Yj n).getD i 0*(sg t*QD (n+2) t*Uo (((n+1:Nat):Int)-1-i+((j:Int)+1-t)*b) ((n+1:Nat):Int))) (j+1):=λi _=>by
  rw[YB];rfl
 rw[ZM e1,O5,←YB]
 refine ZM λt ht=>?_
 have e2:∀i,i<n+1→(Yj n).getD i 0*(sg t*QD (n+2) t*Uo (((n+1:Nat):Int)-1-i+((j:Int)+1-t)*b) ((n+1:Nat):Int))=sg t*QD (n+2) t*((Yj n).getD i 0*Uo ((n:Int)-i+(((j+1-t)*b:Nat))) ((n+1:Nat):Int)):=λi _=>by
  rw[Int.mul_left_comm]
  congr 3
  have:((((j+1-t)*b:Nat)):Int)=((j:Int)+1-t)*b:=by
   rw[Int.natCast_mul];congr 1;omega
  rw[this];omega
 rw[ZM e2,YB,zN,Nat.mul_pow,Int.natCast_mul]
 rw[←Int.mul_assoc,Int.mul_comm]
theorem mD {n b j:Nat} (hj:j<n+1):ZL (λi=>(Yj n).getD i 0*ca (n+1) b i j) (n+1)=((b ^ (n+1):Nat):Int)*(Yj n).getD j 0:=by
 have h1:=mF n 1 j
 have e:∀i,i<n+1→(Yj n).getD i 0*ca (n+1) 1 i j=(Yj n).getD i 0*(if i=j then 1 else 0):=λi _=>by rw[ab6]
 rw[ZM e,zU (λi=>(Yj n).getD i 0),if_pos hj,Nat.one_pow]at h1
 rw[mF,h1]
 simp
def cat (m b:Nat):List (List Int):=(List.range m).map λi=>(List.range m).map λj=>ca m b i j
def sms (b:Nat):Nat→List Int
 | 0=>[0]
 |m+1=>(sms b m).flatMap λx=>(List.range b).map λd=>x+(d:Nat)
def ab7 (f:Int→Int):List Int→Int
 | []=>0
 |x :: xs=>f x+ab7 f xs
def tal (m b i:Nat) (xs:List Int):List Int:=(List.range m).map λ(j:Nat)=>ab7 (λx=>if(x+i) / b=(j:Int)then 1 else 0) xs
end M
namespace M
theorem cG:∀n,(Yj n).getD 0 0=1
 | 0=>rfl
 |n+1=>by
  show(more (Yj n)).getD 0 0=1
  rw[RQ (Nat.zero_le _),cG n]
  show(0+1)*1+_*(0:Int)=1
  omega
theorem ab8:∀(n k:Nat),ch n k≤ch (n+1) k
 |n,0=>by rw[Xc,Xc];exact Nat.le_refl _
 |n,k+1=>by rw[QT];omega
def Te (n h r:Nat):Int:=Uo ((h:Int)+n-r) n
theorem mC {n h r:Nat} (hr:r≤h):Te n h r=((ch (h+n-r) n:Nat):Int):=by
 unfold Te
 rw[Uu (by omega) (by omega)]
 congr 2
 omega
theorem wz {n h r:Nat} (hr:h<r):Te n h r=0:=YL (.inr (by omega))
theorem qR (n h r:Nat):0≤Te n h r:=by
 rcases Nat.lt_or_ge h r with c |c
 ·rw[wz c];exact Int.le_refl _
 ·rw[mC c];omega
theorem gD (n h r:Nat):Te n h (r+1)≤Te n h r:=by
 rcases Nat.lt_or_ge h (r+1)with c |c
 ·rw[wz c];exact qR n h r
 ·rw[mC c,mC (by omega)]
  have:=ab8 (h+n-(r+1)) n
  rw[show h+n-(r+1)+1=h+n-r by omega]at this
  omega
theorem mz {n h:Nat} (hn:1≤n):ZL (λi=>(Yj (n-1)).getD i 0*Te n h (i+1)) n=((h ^ n:Nat):Int):=by
 obtain⟨n,rfl⟩:∃m,n=m+1:=⟨n-1,by omega⟩
 rw[←zN n h]
 refine ZM λi hi=>?_
 rw[show n+1-1=n by omega]
 unfold Te
 congr 2
 omega
theorem Nt (n j:Nat):0≤(Yj n).getD j 0:=(CP n j).1
end M
namespace M
def pk:Nat→Nat→List Int→List Int
 | 0,_,_=>[]
 |f+1,u,left=>left.getD (u % left.length) 0 :: pk f (u / left.length) (left.eraseIdx (u % left.length))
def flU (n u:Nat):Nat:=gQ (pk n u (iota n))
def lst (n m:Nat):List Int:=(List.range n).map λj=>((cnt m λu=>flU n u==j:Nat):Int)
def fa:Nat→Nat
 | 0=>1
 |k+1=>fa k*(k+1)
theorem Ew (f:Nat→Int):∀n,((List.range n).map f).sum=ZL f n
 | 0=>rfl
 |n+1=>by rw[List.range_succ,List.map_append,List.sum_append,Ew f n];show _+(f n+0)=ZL f n+f n;omega
theorem mq {n j:Nat} (h:n≤60):((Yj n).getD j 0).natAbs<2 ^ 400:=by
 have b:=CP n j
 have m:((n:Int)+2) ^ n≤(62:Int) ^ n:=H_ (by omega) (by omega) n
 have e:(62:Int) ^ n≤62 ^ 60:=by
  have:(62:Nat) ^ n≤62 ^ 60:=Nat.pow_le_pow_right (by decide) h
  have:=Int.ofNat_le.mpr this
  rw[Int.natCast_pow,Int.natCast_pow]at this
  exact this
 have k:(62:Int) ^ 60<2 ^ 400:=by decide +kernel
 omega
end M
namespace M
structure gC (top bottom t b:Int):Prop where
 eq:t*bottom=top*b
 pos:1≤b
 one:Int.gcd t b=1
 aaB:t.natAbs≤top.natAbs
 aes:b.natAbs≤bottom.natAbs
theorem uy {top bottom d:Int} (h:bottom≠0) (hd:d=if bottom > 0 then((Int.gcd top bottom:Nat):Int)else -((Int.gcd top bottom:Nat):Int)):gC top bottom (top.fdiv d) (bottom.fdiv d):=by
 have hg:0<Int.gcd top bottom:=Int.gcd_pos_of_ne_zero_right _ h
 obtain⟨t0,ht⟩:=Int.gcd_dvd_left top bottom
 obtain⟨b0,hb⟩:=Int.gcd_dvd_right top bottom
 have one:Int.gcd t0 b0=1:=by
  have:=Int.gcd_ediv_gcd_ediv_gcd hg
  have e1:top / ((Int.gcd top bottom:Nat):Int)=t0:=by
   conv=>lhs;lhs;rw[ht]
   exact Int.mul_ediv_cancel_left _ (by omega)
  have e2:bottom / ((Int.gcd top bottom:Nat):Int)=b0:=by
   conv=>lhs;lhs;rw[hb]
   exact Int.mul_ediv_cancel_left _ (by omega)
  rw[e1,e2]at this
  exact this
 generalize hgg:Int.gcd top bottom=g at *
 have hg':(0:Int)<(g:Int):=by omega
 have le:∀z:Int,z.natAbs≤((g:Int)*z).natAbs:=λz=>by
  rw[Int.natAbs_mul,Int.natAbs_natCast]
  exact Nat.le_mul_of_pos_left _ hg
 by_cases q:bottom > 0
 ·rw[if_pos q]at hd
  subst hd
  have e1:top.fdiv (g:Int)=t0:=by rw[ht];exact Int.mul_fdiv_cancel_left _ (by omega)
  have e2:bottom.fdiv (g:Int)=b0:=by rw[hb];exact Int.mul_fdiv_cancel_left _ (by omega)
  rw[e1,e2]
  have hb0:0<b0:=by
   rcases Int.lt_or_le 0 b0 with z |z
   ·exact z
   ·have:=Int.mul_nonpos_of_nonneg_of_nonpos (Int.le_of_lt hg') z
    omega
  refine⟨?_,by omega,one,by rw[ht];exact le t0,by rw[hb];exact le b0⟩
  rw[ht,hb,Int.mul_left_comm,Int.mul_assoc]
 ·rw[if_neg q]at hd
  subst hd
  have e1:top.fdiv (-(g:Int))= -t0:=by
   have:top= -(g:Int)* -t0:=by rw[Int.neg_mul_neg];exact ht
   rw[this]
   exact Int.mul_fdiv_cancel_left _ (by omega)
  have e2:bottom.fdiv (-(g:Int))= -b0:=by
   have:bottom= -(g:Int)* -b0:=by rw[Int.neg_mul_neg];exact hb
   rw[this]
   exact Int.mul_fdiv_cancel_left _ (by omega)
  rw[e1,e2]
  have hb0:b0<0:=by
   rcases Int.lt_or_le b0 0 with z |z
   ·exact z
   ·have:=Int.mul_nonneg (Int.le_of_lt hg') z
    omega
  refine⟨?_,by omega,by rw[Int.gcd_neg,Int.neg_gcd];exact one,by rw[Int.natAbs_neg,ht];exact le t0,by rw[Int.natAbs_neg,hb];exact le b0⟩
  rw[ht,hb]
  rw[Int.neg_mul,Int.mul_neg,Int.mul_left_comm,Int.mul_assoc]
end M
namespace M
theorem wu (f:Nat→Nat→Int) (k n:Nat):ZL (λd=>ZL (λt=>f d t) k) n=ZL (λt=>ZL (λd=>f d t) n) k:=O5 f k n
theorem aaC {z b y:Int} (hb:0<b):z / b-y=(z-b*y) / b:=by
 rw[show z-b*y=z+b*(-y)by rw[Int.mul_neg];omega,Int.add_mul_ediv_left _ _ (by omega)]
 omega
theorem conv {b:Nat} (hb:1≤b):∀(n:Nat) (T:Int),S n b (λx=>Uo ((T-x) / b+n) n)=Uo (T+n) n
 | 0,T=>by
   show Uo ((T-0) / b+((0:Nat):Int)) ((0:Nat):Int)=Uo (T+((0:Nat):Int)) ((0:Nat):Int)
   have hb':(0:Int)<b:=by omega
   rcases Int.lt_or_le T 0 with c |c
   ·have:=Int.ediv_neg_of_neg_of_pos (a:=T-0) (b:=b) (by omega) hb'
    rw[YL (.inr (by omega)),YL (.inr (by omega))]
   ·have:=Int.ediv_nonneg (a:=T-0) (b:=b) (by omega) (by omega)
    rw[Uu (by omega) (by omega),Uu (by omega) (by omega)]
    show((ch _ 0:Nat):Int)=((ch _ 0:Nat):Int)
    rw[Xc,Xc]
 |n+1,T=>by
  have hb':(0:Int)<b:=by omega
  obtain⟨N,hN⟩:∃N:Nat,T<N∧0<N:=⟨T.toNat+1,by omega,by omega⟩
  have e1:S (n+1) b (λx=>Uo ((T-x) / b+((n+1:Nat):Int)) ((n+1:Nat):Int))=S (n+1) b (λx=>ZL (λy=>Uo ((T-b*(y:Nat)-x) / b+n) n) N):=by
   refine Rj λx h0 _=>?_
   have hk:=gG n ((T-x) / b) N
   have hlt:(T-x) / b<N:=Int.ediv_lt_of_lt_mul hb' (by
    have h1:N≤N*b:=Nat.le_mul_of_pos_right N hb
    have h2:((N*b:Nat):Int)=(N:Int)*b:=Int.natCast_mul N b
    omega)
   rw[YL (n:=(T-x) / b-N+n+1) (.inr (by omega)),Int.sub_zero]at hk
   rw[show(T-x) / b+((n+1:Nat):Int)=(T-x) / b+n+1 by omega,show(((n+1:Nat):Int))=(n:Int)+1 by omega,←hk]
   refine ZM λy _=>?_
   rw[aaC hb',show T-x-b*(y:Int)=T-b*(y:Int)-x by omega]
  rw[e1]
  have e2:S (n+1) b (λx=>ZL (λy=>Uo ((T-b*(y:Nat)-x) / b+n) n) N)=ZL (λd=>ZL (λy=>Uo (T-((d:Nat)+b*(y:Nat))+n) n) N) b:=by
   show ZL (λd=>S n b (λx=>ZL (λy=>Uo ((T-b*(y:Nat)-(x+(d:Nat))) / b+n) n) N)) b=_
   refine ZM λd _=>?_
   rw[uD]
   refine ZM λy _=>?_
   rw[←conv hb n (T-((d:Nat)+b*(y:Nat)))]
   congr 1
   funext x
   congr 3
   omega
  rw[e2,wu]
  have e3:=HX (λz=>Uo (T-(z:Nat)+n) n) b N
  have e4:ZL (λy=>ZL (λd=>Uo (T-((d:Nat)+(b:Int)*(y:Nat))+n) n) b) N=ZL (λz=>Uo (T-(z:Nat)+n) n) (b*N):=by
   rw[e3]
   refine ZM λy _=>ZM λd _=>?_
   rw[show(((d+b*y:Nat)):Int)=(d:Int)+(b:Int)*(y:Int)by rw[Int.natCast_add,Int.natCast_mul]]
  rw[e4,gG]
  have hbn:(N:Int)≤((b*N:Nat):Int):=by
   have h1:N≤b*N:=Nat.le_mul_of_pos_left N hb
   omega
  rw[YL (n:=T-((b*N:Nat):Int)+n+1) (.inr (by omega)),Int.sub_zero]
  congr 1
  omega
theorem Eu (q:Int) (c:Nat→Int):∀{n:Nat},0≤q→q<n→ZL (λj=>(if q=(j:Int)then 1 else 0)*c j) n=c q.toNat
 | 0,h0,h1=>absurd h1 (by omega)
 |n+1,h0,h1=>by
  show ZL _ n+(if q=(n:Int)then 1 else 0)*c n=_
  by_cases e:q=n
  ·rw[if_pos e,Int.one_mul,RN λi hi=>by rw[if_neg (by omega),Int.zero_mul]]
   rw[show q.toNat=n by omega,Int.zero_add]
  ·rw[if_neg e,Int.zero_mul,Int.add_zero]
   exact Eu q c h0 (by omega)
theorem gB {n b h i:Nat} (hb:1≤b) (hi:i<n):ZL (λj=>ca n b i j*Te n h (j+1)) n=Te n (h*b) (i+1):=by
 have hb':(0:Int)<b:=by omega
 have e1:ZL (λj=>ca n b i j*Te n h (j+1)) n=S n b (λx=>ZL (λj=>(if(x+i) / b=(j:Int)then 1 else 0)*Te n h (j+1)) n):=by
  rw[uD]
  refine ZM λj hj=>?_
  rw[gF,Int.mul_comm,←mH]
  refine Rj λx _ _=>?_
  rw[uz hb',Int.mul_comm]
 have e2:Te n (h*b) (i+1)=Uo ((h:Int)*b-1-i+n) n:=by
  unfold Te
  congr 1
  rw[Int.natCast_mul]
  omega
 rw[e1,e2,←conv hb]
 refine Rj λx h0 h1=>?_
 obtain⟨d0,d1⟩:=mG hb hi h0 h1
 rw[Eu _ (λj=>Te n h (j+1)) d0 d1]
 show Uo ((h:Int)+n-(((((x+i) / b).toNat+1:Nat)):Int)) n=_
 congr 1
 have e3:((h:Int)*b-1-i-x) / b=h-1-(x+i) / b:=by
  have h3:=Int.emod_add_mul_ediv (x+i) b
  have h4:=Int.emod_nonneg (x+i) (show(b:Int)≠0 by omega)
  have h5:=Int.emod_lt_of_pos (x+i) hb'
  have e:(h:Int)*b-1-i-x=(b-1-(x+i) % b)+b*(h-1-(x+i) / b):=by
   rw[Int.mul_sub,Int.mul_sub,Int.mul_one,Int.mul_comm (b:Int) h]
   omega
  rw[e,Int.add_mul_ediv_left _ _ (by omega),Int.ediv_eq_zero_of_lt (by omega) (by omega),Int.zero_add]
 rw[e3]
 omega
theorem mj (cs:List Int):ZL (λj=>(more cs).getD j 0) (cs.length+1)=((cs.length:Int)+1)*ZL (λj=>cs.getD j 0) cs.length:=by
 have e0:ZL (λj=>(more cs).getD j 0) (cs.length+1)=ZL (λj=>((j:Int)+1)*cs.getD j 0) (cs.length+1)+ZL (λj=>((cs.length:Int)+1-j)*at_ cs j) (cs.length+1):=by
  rw[←VR]
  exact ZM λj hj=>RQ (by omega)
 rw[e0,Wg (λj=>((cs.length:Int)+1-j)*at_ cs j)]
 have e1:((cs.length:Int)+1-((0:Nat):Int))*at_ cs 0=0:=Int.mul_zero _
 rw[e1,Int.zero_add]
 show ZL (λj=>((j:Int)+1)*cs.getD j 0) cs.length+((cs.length:Int)+1)*cs.getD cs.length 0+_=_
 have e2:cs.getD cs.length 0=0:=by rw[List.getD,List.getElem?_eq_none (Nat.le_refl _)];rfl
 rw[e2,Int.mul_zero,Int.add_zero,←VR,←YB]
 refine ZM λj hj=>?_
 show((j:Int)+1)*cs.getD j 0+((cs.length:Int)+1-((j+1:Nat):Int))*cs.getD j 0=_
 rw[←Int.add_mul]
 congr 1
 omega
theorem Jl:∀n:Nat,ZL (λj=>(Yj n).getD j 0) (n+1)=((fa (n+1):Nat):Int)
 | 0=>rfl
 |n+1=>by
  have h:=mj (Yj n)
  rw[YK]at h
  have e:((n+1:Nat):Int)+1=((n+1+1:Nat):Int):=by omega
  show ZL (λj=>(more (Yj n)).getD j 0) (n+1+1)=_
  rw[h,Jl n,e,←Int.natCast_mul,Nat.mul_comm]
  rfl
theorem wk:∀n,0<fa n
 | 0=>by decide
 |n+1=>Nat.mul_pos (wk n) (Nat.succ_pos n)
def ab (x:Int):Int:=((x.natAbs:Nat):Int)
theorem aaD {c x:Int} (h:0≤c):ab (c*x)=c*ab x:=by
 unfold ab
 rw[Int.natAbs_mul,Int.natCast_mul]
 congr 1
 omega
theorem aaE (x y:Int):ab (x+y)≤ab x+ab y:=by unfold ab;omega
theorem lZ (f:Nat→Int):∀n,ab (ZL f n)≤ZL (λi=>ab (f i)) n
 | 0=>by show ab 0≤0;decide
 |n+1=>by
  have h1:=aaE (ZL f n) (f n)
  have h2:=lZ f n
  show ab (ZL f n+f n)≤ZL (λi=>ab (f i)) n+ab (f n)
  omega
theorem O4 {f g:Nat→Int}:∀{n},(∀i,i<n→f i≤g i)→ZL f n≤ZL g n
 | 0,_=>Int.le_refl _
 |n+1,h=>Int.add_le_add (O4 λi hi=>h i (by omega)) (h n (by omega))
def ap (n h:Nat):Int:=ZL (λi=>(Yj (n-1)).getD i 0*ab (Te n h (i+1)*(fa n:Nat)-((h ^ n:Nat):Int))) n
theorem Et (n h:Nat):0≤ap n h:=Qk λi _=>Int.mul_nonneg (Nt _ _) (by unfold ab;omega)
theorem gA {n b h:Nat} (hn:1≤n) (hb:1≤b):ap n (h*b)≤((b ^ n:Nat):Int)*ap n h:=by
 have d:∀i,i<n→ab (Te n (h*b) (i+1)*(fa n:Nat)-(((h*b) ^ n:Nat):Int))≤ZL (λj=>ca n b i j*ab (Te n h (j+1)*(fa n:Nat)-((h ^ n:Nat):Int))) n:=λi hi=>by
  have e:Te n (h*b) (i+1)*(fa n:Nat)-(((h*b) ^ n:Nat):Int)=ZL (λj=>ca n b i j*(Te n h (j+1)*(fa n:Nat)-((h ^ n:Nat):Int))) n:=by
   have e1:ZL (λj=>ca n b i j*(Te n h (j+1)*(fa n:Nat)-((h ^ n:Nat):Int))) n=ZL (λj=>ca n b i j*Te n h (j+1)*(fa n:Nat)-ca n b i j*((h ^ n:Nat):Int)) n:=ZM λj _=>by rw[Int.mul_sub,Int.mul_assoc]
   have e2:ZL (λj=>ca n b i j*Te n h (j+1)*(fa n:Nat)) n=Te n (h*b) (i+1)*(fa n:Nat):=by
    rw[←gB hb hi,Int.mul_comm _ ((fa n:Nat):Int),←YB]
    exact ZM λj _=>Int.mul_comm _ _
   have e3:ZL (λj=>ca n b i j*((h ^ n:Nat):Int)) n=(((h*b) ^ n:Nat):Int):=by
    rw[Nat.mul_pow,Int.natCast_mul,←aaA (m:=n) hb hi,←YB]
    exact ZM λj _=>Int.mul_comm _ _
   rw[e1,RP,e2,e3]
  rw[e]
  refine Int.le_trans (lZ _ n) (O4 λj _=>?_)
  rw[aaD (qT _ _ _ _)]
  exact Int.le_refl _
 have e4:ap n (h*b)≤ZL (λi=>(Yj (n-1)).getD i 0*ZL (λj=>ca n b i j*ab (Te n h (j+1)*(fa n:Nat)-((h ^ n:Nat):Int))) n) n:=
  O4 λi hi=>Int.mul_le_mul_of_nonneg_left (d i hi) (Nt _ _)
 refine Int.le_trans e4 (Int.le_of_eq ?_)
 have e5:ZL (λi=>(Yj (n-1)).getD i 0*ZL (λj=>ca n b i j*ab (Te n h (j+1)*(fa n:Nat)-((h ^ n:Nat):Int))) n) n=ZL (λj=>ZL (λi=>(Yj (n-1)).getD i 0*ca n b i j) n*ab (Te n h (j+1)*(fa n:Nat)-((h ^ n:Nat):Int))) n:=by
  have l1:∀i,(Yj (n-1)).getD i 0*ZL (λj=>ca n b i j*ab (Te n h (j+1)*(fa n:Nat)-((h ^ n:Nat):Int))) n=ZL (λj=>(Yj (n-1)).getD i 0*ca n b i j*ab (Te n h (j+1)*(fa n:Nat)-((h ^ n:Nat):Int))) n:=λi=>by
   rw[←YB]
   exact ZM λj _=>by rw[Int.mul_assoc]
  rw[ZM (g:=λi=>ZL (λj=>(Yj (n-1)).getD i 0*ca n b i j*ab (Te n h (j+1)*(fa n:Nat)-((h ^ n:Nat):Int))) n) λi _=>l1 i,O5]
  refine ZM λj _=>?_
  rw[Int.mul_comm (ZL _ n),←YB]
  exact ZM λi _=>Int.mul_comm _ _
 rw[e5]
 unfold ap
 rw[←YB]
 refine ZM λj hj=>?_
 obtain⟨m,rfl⟩:∃m,n=m+1:=⟨n-1,by omega⟩
 rw[show m+1-1=m by omega,mD hj,Int.mul_assoc]
def mx (x:Int):Int:=if x<0 then -x else 0
theorem ab9 (x:Int):ab x=x+2*mx x:=by unfold ab mx;split<;>omega
theorem acd {n h:Nat} (hn:1≤n):ap n h=2*ZL (λi=>(Yj (n-1)).getD i 0*mx (Te n h (i+1)*(fa n:Nat)-((h ^ n:Nat):Int))) n:=by
 have e0:ap n h=ZL (λi=>(Yj (n-1)).getD i 0*Te n h (i+1)*(fa n:Nat)-(Yj (n-1)).getD i 0*((h ^ n:Nat):Int)+2*((Yj (n-1)).getD i 0*mx (Te n h (i+1)*(fa n:Nat)-((h ^ n:Nat):Int)))) n:=by
  unfold ap
  refine ZM λi _=>?_
  rw[ab9,Int.mul_add,Int.mul_sub,Int.mul_assoc]
  congr 1
  rw[←Int.mul_assoc,←Int.mul_assoc,Int.mul_comm _ 2]
 have e1:ZL (λi=>(Yj (n-1)).getD i 0*Te n h (i+1)*(fa n:Nat)) n=((h ^ n:Nat):Int)*(fa n:Nat):=by
  rw[←mz hn,Int.mul_comm _ ((fa n:Nat):Int),←YB]
  exact ZM λi _=>Int.mul_comm _ _
 have e2:ZL (λi=>(Yj (n-1)).getD i 0*((h ^ n:Nat):Int)) n=((h ^ n:Nat):Int)*(fa n:Nat):=by
  obtain⟨m,rfl⟩:∃m,n=m+1:=⟨n-1,by omega⟩
  rw[show m+1-1=m by omega,←Jl m,←YB]
  exact ZM λi _=>Int.mul_comm _ _
 rw[e0,VR,RP,e1,e2,YB]
 omega
theorem zM {n:Nat} (hn:1≤n):ZL (λi=>(Yj (n-1)).getD i 0) n=((fa n:Nat):Int):=by
 obtain⟨m,rfl⟩:∃m,n=m+1:=⟨n-1,by omega⟩
 exact Jl m
theorem J6 (n h:Nat):∀i,Te n h (i+1)≤Te n h 1
 | 0=>Int.le_refl _
 |i+1=>Int.le_trans (gD n h (i+1)) (J6 n h i)
theorem wj {n h:Nat} (hn:1≤n):((h ^ n:Nat):Int)≤Te n h 1*(fa n:Nat):=by
 rw[←mz hn,←zM hn,←YB]
 refine O4 λi _=>?_
 rw[Int.mul_comm]
 exact Int.mul_le_mul_of_nonneg_right (J6 n h i) (Nt _ _)
theorem lY {n:Nat} (hn:1≤n):ap n 1=2*(((fa n:Nat):Int)-1):=by
 rw[acd hn]
 obtain⟨m,rfl⟩:∃m,n=m+1:=⟨n-1,by omega⟩
 rw[show m+1-1=m by omega]
 congr 1
 have hs:=Jl m
 rw[Wg]at hs ⊢
 rw[cG]at hs ⊢
 have h0:=wj (n:=m+1) (h:=1) (by omega)
 have e1:mx (Te (m+1) 1 (0+1)*(fa (m+1):Nat)-((1 ^ (m+1):Nat):Int))=0:=by
  unfold mx
  rw[if_neg (by show ¬(Te (m+1) 1 1*_- _<0);omega)]
 rw[e1]
 have e2:ZL (λi=>(Yj m).getD (i+1) 0*mx (Te (m+1) 1 (i+1+1)*(fa (m+1):Nat)-((1 ^ (m+1):Nat):Int))) m=ZL (λi=>(Yj m).getD (i+1) 0) m:=by
  refine ZM λi _=>?_
  rw[wz (by omega),Int.zero_mul,Nat.one_pow]
  show _*(1:Int)=_
  rw[Int.mul_one]
 rw[e2]
 omega
end M
namespace M
theorem lX {n B:Nat} (h:n<2 ^ B) (k:Nat):df n k<2 ^ (B*k+1):=by
 have:=cI (n:=n) (B:=2 ^ B) (by omega) k
 rw[←Nat.pow_mul]at this
 rw[Nat.pow_succ]
 have:=Nat.two_pow_pos (B*k)
 omega
theorem zL {n B:Nat} (h:n<2 ^ B) (k:Nat):ch n k<2 ^ (B*k+1):=Nat.lt_of_le_of_lt (mK n k) (lX h k)
theorem qQ {n:Int} {m B:Nat} (h:n<2 ^ B):(Uo n m).natAbs<2 ^ (B*m+1):=by
 by_cases c:(m:Int)≤n
 ·rw[Uu (by omega) c,Int.toNat_natCast,Int.natAbs_natCast]
  refine zL ?_ m
  have e:((2 ^ B:Nat):Int)=(2:Int) ^ B:=by simp
  omega
 ·rw[YL (.inr (by omega))]
  exact Nat.two_pow_pos _
theorem Es {x B:Nat} (h:x<2 ^ B) (k:Nat):x ^ k<2 ^ (B*k+1):=by
 have:x ^ k≤(2 ^ B) ^ k:=Nat.pow_le_pow_left (by omega) k
 rw[←Nat.pow_mul]at this
 rw[Nat.pow_succ]
 have:=Nat.two_pow_pos (B*k)
 omega
def am5 (m b:Nat):List Int:=(List.range m).map λj=>ca m b 0 j
end M
namespace M
theorem lW (b n:Nat) (qs:List (List Bool×List Int)) (h:∀m∈qs,m.1.length≤b):(jl n qs).1.length≤b ^ qs.length:=by
 have go:∀(qs:List (List Bool×List Int)) (a:List Bool×List Int),(∀m∈qs,m.1.length≤b)→(qs.foldl UJ a).1.length≤a.1.length*b ^ qs.length:=by
  intro qs
  induction qs with
  |nil=>intro a _;simp
  |cons m qs ih =>
   intro a h
   have e:(UJ a m).1.length=a.1.length*m.1.length:=Vl _ _
   have i:=ih (UJ a m) λx hx=>h x (by simp[hx])
   have l:a.1.length*m.1.length*b ^ qs.length≤a.1.length*b*b ^ qs.length:=Nat.mul_le_mul_right _ (Nat.mul_le_mul_left _ (h m (by simp)))
   rw[e]at i
   rw[List.foldl_cons,List.length_cons,Nat.pow_succ,Nat.mul_comm (b ^ qs.length) b,←Nat.mul_assoc]
   exact Nat.le_trans i l
 have:=go qs ([false],List.replicate n 0) h
 simpa [jl]using this
end M
namespace Ws
open PySem L2
local macro_rules | `(tactic| walk_at "sq") => `(tactic| first | assumption | (refine ZJ.of ?_; assumption) | (refine ZJ.of ?_; exact Z1))
local macro_rules | `(tactic| walk_at "cj") => `(tactic| first | (with_reducible show (_ : Int) ≤ _; omega) | (with_reducible show (_ : Int) < _; omega) | exact rfl | assumption | omega | decide | (unfold R_; omega) | (unfold R9; decide) | (show (0 : Int) < _; first | omega | decide) | (show _ ≤ sizeLine; rw [sizeLine_eq]; simp; done) | (refine Wv ?_ ?_ <;> omega) | (refine Wb ?_ ?_ <;> omega))
local macro_rules | `(tactic| walk_at "rd1") => `(tactic| first | refine ⟨_, rfl, ?_⟩ | refine ⟨_, _, rfl, rfl, ?_⟩ | refine ⟨_, _, rfl, ?_⟩ | refine ⟨_, _, _, rfl, ?_⟩ | refine ⟨_, _, _, _, rfl, ?_⟩ | refine ⟨_, _, _, _, _, rfl, ?_⟩ | refine ⟨_, _, rfl, .inl (by walk_at "sq"), ?_⟩ | refine And.intro (by walk_at "cj") ?_)
local macro_rules | `(tactic| walk_at "rd") => `(tactic| repeat walk_at "rd1")
def top (i:Nat):Stmt:=PySem.Challenge.pw_riftcarry_k92_rows_refused.main.body.getD i (.Pass ⟨0,0,0,0⟩)
abbrev RM:Stmt:=top 11
abbrev Vk:Stmt:=top 12
abbrev Zh:Stmt:=top 13
abbrev Ub:Stmt:=top 15
abbrev W0:Stmt:=top 16
abbrev XM:Stmt:=top 17
abbrev Vj:Stmt:=top 19
abbrev O2:Stmt:=top 20
abbrev O1:Stmt:=top 22
abbrev Wo:Stmt:=top 23
abbrev UG:Stmt:=top 24
abbrev Vi:Stmt:=top 26
abbrev Yv:Stmt:=top 27
abbrev Er:Stmt:=top 29
abbrev Yn:Stmt:=top 30
abbrev OJ:Stmt:=top 33
abbrev RL:Stmt:=top 34
abbrev Nr:Stmt:=top 35
abbrev Ri:Stmt:=top 36
abbrev KY:Stmt:=top 37
abbrev Wf:Stmt:=top 40
abbrev Vh:Stmt:=top 41
abbrev Ua:Stmt:=top 42
abbrev WM:Stmt:=top 43
abbrev Rh:Stmt:=top 44
abbrev T_:Stmt:=top 45
abbrev RK:Stmt:=top 46
abbrev YW:Stmt:=top 47
abbrev Ym:Stmt:=top 48
abbrev Yg:Stmt:=top 50
abbrev Tt:Stmt:=top 51
abbrev KR:Stmt:=top 52
abbrev X5:Stmt:=inClass (top 54) 0
abbrev Xi:Stmt:=inClass (top 54) 1
abbrev V_:Stmt:=inClass (top 54) 2
abbrev WL:Stmt:=inClass (top 54) 3
abbrev WK:Stmt:=inClass (top 54) 5
abbrev Xh:Stmt:=top 58
abbrev Ye:Stmt:=top 59
abbrev Xq:Stmt:=top 60
abbrev Y_:Stmt:=top 61
abbrev Y7:Stmt:=top 62
abbrev Yd:Stmt:=top 63
abbrev Xp:Stmt:=top 64
abbrev V9:Stmt:=top 66
abbrev Vg:Stmt:=top 67
abbrev OD:Stmt:=top 68
abbrev Zg:Stmt:=top 69
abbrev Vf:Stmt:=top 71
abbrev Ep:Stmt:=top 72
abbrev Y0:Stmt:=top 73
abbrev Yl:Stmt:=top 74
abbrev T9:Stmt:=top 75
abbrev X4:Stmt:=inClass (top 82) 0
abbrev Ve:Stmt:=inClass (top 82) 1
abbrev Yk:Stmt:=top 83
abbrev Yu:Stmt:=top 84
abbrev Yt:Stmt:=top 85
abbrev YT:Stmt:=top 86
abbrev WD:Stmt:=top 87
abbrev X3:Stmt:=top 88
abbrev Wz:Stmt:=top 89
abbrev Vd:Stmt:=top 90
abbrev Wy:Stmt:=top 91
abbrev V8:Stmt:=top 93
abbrev T8:Stmt:=top 94
abbrev T7:Stmt:=top 96
abbrev RJ:Stmt:=top 97
abbrev T6:Stmt:=top 99
abbrev V7:Stmt:=top 100
abbrev RG:Stmt:=top 101
abbrev Oz:Stmt:=top 102
abbrev Tr:Stmt:=top 103
abbrev Wn:Stmt:=top 104
structure Txt (K:PySem.W.Frag) (mg:Str→Option Value):Prop where
 zK:Def K mg "choose" RM ["n","k"]
 HW:Def K mg "by_falls" Vk ["n"]
 Uz:Def K mg "with_one_card_more" Zh ["counts"]
 Eo:Def K mg "carries" Ub ["m","b"]
 HS:Def K mg "carries_from" W0 ["m","b","i"]
 Mr:Def K mg "carries_from_to" XM ["m","b","i","j"]
 Hz:Def K mg "is_whole" Vj ["thing"]
 ux:Def K mg "power" O2 ["base","times"]
 uw:Def K mg "added" O1 ["numbers","b"]
 Gh:Def K mg "are_numbers" Wo ["numbers","b"]
 zJ:Def K mg "is_number" UG ["number","b"]
 Hy:Def K mg "fraction" Vi ["top","bottom"]
 SX:Def K mg "greatest_common" Yv ["one","other"]
 cF:Def K mg "far" Er ["n","b","k"]
 RD:Def K mg "words_to_order" Yn ["n","heaps","r"]
 ur:Def K mg "first" OJ ["n"]
 zH:Def K mg "places" RL ["order"]
 lV:Def K mg "laid" Nr ["one","other"]
 uq:Def K mg "falls" Ri ["order"]
 lU:Def K mg "runs" KY ["order"]
 Hx:Def K mg "is_marks" Wf ["marks"]
 En:Def K mg "is_word" Vh ["marks","word","n"]
 Em:Def K mg "is_heap" Ua ["marks","part"]
 Rg:Def K mg "check_word" WM ["marks","word","n"]
 uo:Def K mg "sizes" Rh ["marks","word"]
 KQ:Def K mg "riffled" T_ ["order","marks","word"]
 zG:Def K mg "undone" RK ["order","marks","word"]
 Um:Def K mg "places_drawn_from" YW ["marks","word"]
 RB:Def K mg "places_of_tops" Ym ["marks","counts"]
 Qj:Def K mg "joined_marks" Yg ["marks","others"]
 zF:Def K mg "joined" Tt ["marks","word","others","more"]
 lR:Def K mg "seen" KR ["marks","others","heap","other"]
 N_:Def K mg "read_number" Xh ["word"]
 Qi:Def K mg "read_numbers" Ye ["words"]
 Mq:Def K mg "read_marks" Xq ["word"]
 Ul:Def K mg "is_written_number" Y_ ["word"]
 Tq:Def K mg "is_written_marks" Y7 ["word"]
 Qh:Def K mg "show_numbers" Yd ["row"]
 Mp:Def K mg "show_marks" Xp ["marks"]
 J5:Def K mg "by_second" V9 ["order"]
 Hw:Def K mg "by_first" Vg ["order"]
 um:Def K mg "rests" OD ["order"]
 Uy:Def K mg "leave_unlike_rests" Zg ["cards"]
 Hv:Def K mg "how_many" Vf ["order","marks"]
 cD:Def K mg "way" Ep ["order","marks","number"]
 SN:Def K mg "each_above_next" Y0 ["order"]
 Rz:Def K mg "least_for_next" Yl ["above_next","marks","heap"]
 El:Def K mg "counted" T9 ["above_next","marks"]
 Ry:Def K mg "answer_to_word" Yk ["pack","asked"]
 SM:Def K mg "answer_to_words" Yu ["pack","asked","words"]
 Sy:Def K mg "answer_to_carry" Yt ["numbers"]
 QS:Def K mg "answer_to_add" YT ["words"]
 Ml:Def K mg "figures_of" WD ["word","columns"]
 QM:Def K mg "answer_to_far" X3 ["n","b","k"]
 Mj:Def K mg "show_whole" Wz ["riffle"]
 Hu:Def K mg "show_cut" Vd ["told"]
 Mi:Def K mg "show_rests" Wy ["told"]
 J4:Def K mg "_law_cell_at" V8 ["_law_script","_law_k"]
 Ek:Def K mg "_law_mixed" T8 ["_law_cell","_law_k"]
 Ej:Def K mg "_law_marks" T7 ["_law_cell","_law_most"]
 zE:Def K mg "_law_word" RJ ["_law_cell","_law_heaps","_law_n"]
 Ei:Def K mg "_law_class" T6 ["_law_e"]
 J3:Def K mg "_law_refused" V7 ["_law_desk","_law_row","_law_due_here"]
 zB:Def K mg "_law_none" RG ["_law_cell"]
 uh:Def K mg "_law_due" Oz ["_law_n","_law_cell"]
 zA:Def K mg "_law_seen" Tr ["_law_desk"]
 lQ:Def K mg "law" Wn ["_law_script"]
 Ht:mg "abs"=none
 zy:mg "all"=none
 wg:mg "bool"=none
 V6:mg "enumerate"=none
 ug:mg "int"=none
 YZ:mg "isinstance"=none
 Za:mg "len"=none
 Qg:mg "list"=none
 cC:mg "max"=none
 cB:mg "min"=none
 XJ:mg "range"=none
 cA:mg "set"=none
 Sx:mg "str"=none
 lO:mg "sum"=none
 lN:mg "zip"=none
 Eh:∃t,mg "FIGURES"=some (.str "0123456789" t)
 Mh:∃t,mg "MOST_ADDED"=some (.int 60 t)
 Rc:∃t,mg "MOST_CARDS"=some (.int 60 t)
 Rx:∃t,mg "MOST_CARDS_FAR"=some (.int 20 t)
 Qf:∃t,mg "MOST_FIGURES"=some (.int 12 t)
 VP:∃t,mg "MOST_HEAPS"=some (.int 400 t)
 Rw:∃t,mg "MOST_HEAPS_FAR"=some (.int 60 t)
 QL:∃t,mg "MOST_IN_TABLE"=some (.int 12 t)
 Tp:∃t,mg "MOST_RIFFLES_FAR"=some (.int 20 t)
structure Qe (K:PySem.W.Frag) (mg:Str→Option Value) (C:Addr):Prop where
 cl:Cls K C
 U5:R8 K C "cards"
 V5:R8 K C "riffles"
 Ut:Di K mg "Pack" C "Pack.__init__" X5 ["self","n"]
 R6:JK K C "riffle" "Pack.riffle" Xi ["self","marks","word"]
 Qd:JK K C "undo" "Pack.undo" V_ ["self"]
 Mg:JK K C "order" "Pack.order" WL ["self"]
 Rb:JK K C "whole" "Pack.whole" WK ["self"]
structure JD (K:PySem.W.Frag) (mg:Str→Option Value) (C:Addr):Prop where
 cl:Cls K C
 Nq:R8 K C "pack"
 QK:Di K mg "Desk" C "Desk.__init__" X4 ["self"]
 Hs:JK K C "say" "Desk.say" Ve ["self","row"]
theorem Ox:ZX ["n","k","ways","taken"] ["n","k"] (Z9 RM):=⟨rfl,rfl,rfl,by decide +kernel,rfl,by decide +kernel,by decide +kernel⟩
theorem Qc:ZX ["n","counts"] ["n"] (Z9 Vk):=⟨rfl,rfl,rfl,by decide +kernel,rfl,by decide +kernel,by decide +kernel⟩
theorem X8:ZX ["counts","cards","kept","grown"] ["counts"] (Z9 Zh):=⟨rfl,rfl,rfl,by decide +kernel,rfl,by decide +kernel,by decide +kernel⟩
theorem v9:ZX ["m","b"] ["m","b"] (Z9 Ub):=⟨rfl,rfl,rfl,by decide +kernel,rfl,by decide +kernel,by decide +kernel⟩
theorem zx:ZX ["thing"] ["thing"] (Z9 Vj):=⟨rfl,rfl,rfl,by decide +kernel,rfl,by decide +kernel,by decide +kernel⟩
theorem Mf:ZX ["base","times","number","step"] ["base","times"] (Z9 O2):=⟨rfl,rfl,rfl,by decide +kernel,rfl,by decide +kernel,by decide +kernel⟩
theorem lM:ZX ["numbers","b","figures","carried_on","carry","column","total"] ["numbers","b"] (Z9 O1):=⟨rfl,rfl,rfl,by decide +kernel,rfl,by decide +kernel,by decide +kernel⟩
theorem Qa:ZX ["top","bottom","common","divisor"] ["top","bottom"] (Z9 Vi):=⟨rfl,rfl,rfl,by decide +kernel,rfl,by decide +kernel,by decide +kernel⟩
theorem Xo:ZX ["one","other","rest"] ["one","other"] (Z9 Yv):=⟨rfl,rfl,rfl,by decide +kernel,rfl,by decide +kernel,by decide +kernel⟩
theorem Ra:ZX ["n","b","k","heaps","words","counts","orders","apart","r","count"] ["n","b","k"] (Z9 Er):=⟨rfl,rfl,rfl,by decide +kernel,rfl,by decide +kernel,by decide +kernel⟩
theorem Ma:ZX ["n","heaps","r"] ["n","heaps","r"] (Z9 Yn):=⟨rfl,rfl,rfl,by decide +kernel,rfl,by decide +kernel,by decide +kernel⟩
theorem lK:ZX ["n"] ["n"] (Z9 OJ):=⟨rfl,rfl,rfl,by decide +kernel,rfl,by decide +kernel,by decide +kernel⟩
theorem Ow:ZX ["order","above","place","card"] ["order"] (Z9 RL):=⟨rfl,rfl,rfl,by decide +kernel,rfl,by decide +kernel,by decide +kernel⟩
theorem gw:ZX ["one","other"] ["one","other"] (Z9 Nr):=⟨rfl,rfl,rfl,by decide +kernel,rfl,by decide +kernel,by decide +kernel⟩
theorem lJ:ZX ["order"] ["order"] (Z9 Ri):=⟨rfl,rfl,rfl,by decide +kernel,rfl,by decide +kernel,by decide +kernel⟩
theorem gq:ZX ["order"] ["order"] (Z9 KY):=⟨rfl,rfl,rfl,by decide +kernel,rfl,by decide +kernel,by decide +kernel⟩
theorem zu:ZX ["marks"] ["marks"] (Z9 Wf):=⟨rfl,rfl,rfl,by decide +kernel,rfl,by decide +kernel,by decide +kernel⟩
theorem v8:ZX ["marks","word","n"] ["marks","word","n"] (Z9 Vh):=⟨rfl,rfl,rfl,by decide +kernel,rfl,by decide +kernel,by decide +kernel⟩
theorem v7:ZX ["marks","part"] ["marks","part"] (Z9 Ua):=⟨rfl,rfl,rfl,by decide +kernel,rfl,by decide +kernel,by decide +kernel⟩
theorem N8:ZX ["marks","word","n"] ["marks","word","n"] (Z9 WM):=⟨rfl,rfl,rfl,by decide +kernel,rfl,by decide +kernel,by decide +kernel⟩
theorem lH:ZX ["marks","word"] ["marks","word"] (Z9 Rh):=⟨rfl,rfl,rfl,by decide +kernel,rfl,by decide +kernel,by decide +kernel⟩
theorem Hr:ZX ["order","marks","word"] ["order","marks","word"] (Z9 T_):=⟨rfl,rfl,rfl,by decide +kernel,rfl,by decide +kernel,by decide +kernel⟩
theorem qP:ZX ["order","marks","word"] ["order","marks","word"] (Z9 RK):=⟨rfl,rfl,rfl,by decide +kernel,rfl,by decide +kernel,by decide +kernel⟩
theorem XH:ZX ["marks","word","tops","drawn","heap"] ["marks","word"] (Z9 YW):=⟨rfl,rfl,rfl,by decide +kernel,rfl,by decide +kernel,by decide +kernel⟩
theorem Ys:ZX ["marks","counts","tops","start","turned","count"] ["marks","counts"] (Z9 Ym):=⟨rfl,rfl,rfl,by decide +kernel,rfl,by decide +kernel,by decide +kernel⟩
theorem QJ:ZX ["marks","others","b"] ["marks","others"] (Z9 Yg):=⟨rfl,rfl,rfl,by decide +kernel,rfl,by decide +kernel,by decide +kernel⟩
theorem Ef:ZX ["marks","word","others","more","firsts"] ["marks","word","others","more"] (Z9 Tt):=⟨rfl,rfl,rfl,by decide +kernel,rfl,by decide +kernel,by decide +kernel⟩
theorem gn:ZX ["marks","others","heap","other"] ["marks","others","heap","other"] (Z9 KR):=⟨rfl,rfl,rfl,by decide +kernel,rfl,by decide +kernel,by decide +kernel⟩
theorem Rv:ZX ["self","n"] ["self","n"] (Z9 X5):=⟨rfl,rfl,rfl,by decide +kernel,rfl,by decide +kernel,by decide +kernel⟩
theorem P_:ZX ["self","marks","word"] ["self","marks","word"] (Z9 Xi):=⟨rfl,rfl,rfl,by decide +kernel,rfl,by decide +kernel,by decide +kernel⟩
theorem Ue:ZX ["self","last"] ["self"] (Z9 V_):=⟨rfl,rfl,rfl,by decide +kernel,rfl,by decide +kernel,by decide +kernel⟩
theorem Gg:ZX ["self"] ["self"] (Z9 WL):=⟨rfl,rfl,rfl,by decide +kernel,rfl,by decide +kernel,by decide +kernel⟩
theorem Zk:ZX ["self","marks","word","others","more"] ["self"] (Z9 WK):=⟨rfl,rfl,rfl,by decide +kernel,rfl,by decide +kernel,by decide +kernel⟩
theorem Hq:ZX ["word"] ["word"] (Z9 Xh):=⟨rfl,rfl,rfl,by decide +kernel,rfl,by decide +kernel,by decide +kernel⟩
theorem JC:ZX ["words"] ["words"] (Z9 Ye):=⟨rfl,rfl,rfl,by decide +kernel,rfl,by decide +kernel,by decide +kernel⟩
theorem Gf:ZX ["word"] ["word"] (Z9 Xq):=⟨rfl,rfl,rfl,by decide +kernel,rfl,by decide +kernel,by decide +kernel⟩
theorem P0:ZX ["word"] ["word"] (Z9 Y_):=⟨rfl,rfl,rfl,by decide +kernel,rfl,by decide +kernel,by decide +kernel⟩
theorem Oq:ZX ["word"] ["word"] (Z9 Y7):=⟨rfl,rfl,rfl,by decide +kernel,rfl,by decide +kernel,by decide +kernel⟩
theorem Jz:ZX ["row"] ["row"] (Z9 Yd):=⟨rfl,rfl,rfl,by decide +kernel,rfl,by decide +kernel,by decide +kernel⟩
theorem Ge:ZX ["marks"] ["marks"] (Z9 Xp):=⟨rfl,rfl,rfl,by decide +kernel,rfl,by decide +kernel,by decide +kernel⟩
theorem Xn:ZX ["order","least","greatest","place","card"] ["order"] (Z9 V9):=⟨rfl,rfl,rfl,by decide +kernel,rfl,by decide +kernel,by decide +kernel⟩
theorem WY:ZX ["order","start","end","place","card"] ["order"] (Z9 Vg):=⟨rfl,rfl,rfl,by decide +kernel,rfl,by decide +kernel,by decide +kernel⟩
theorem L_:ZX ["order","n","j","place"] ["order"] (Z9 OD):=⟨rfl,rfl,rfl,by decide +kernel,rfl,by decide +kernel,by decide +kernel⟩
theorem Vv:ZX ["cards","j"] ["cards"] (Z9 Zg):=⟨rfl,rfl,rfl,by decide +kernel,rfl,by decide +kernel,by decide +kernel⟩
theorem zq:ZX ["order","marks"] ["order","marks"] (Z9 Vf):=⟨rfl,rfl,rfl,by decide +kernel,rfl,by decide +kernel,by decide +kernel⟩
theorem Us:ZX ["order","marks","number","above_next","table","heaps","least","left","card","row","heap"] ["order","marks","number"] (Z9 Ep):=⟨rfl,rfl,rfl,by decide +kernel,rfl,by decide +kernel,by decide +kernel⟩
theorem Tn:ZX ["order","place"] ["order"] (Z9 Y0):=⟨rfl,rfl,rfl,by decide +kernel,rfl,by decide +kernel,by decide +kernel⟩
theorem LR:ZX ["above_next","marks","heap"] ["above_next","marks","heap"] (Z9 Yl):=⟨rfl,rfl,rfl,by decide +kernel,rfl,by decide +kernel,by decide +kernel⟩
theorem WX:ZX ["above_next","marks","heaps","behind","table","card","row","heap"] ["above_next","marks"] (Z9 T9):=⟨rfl,rfl,rfl,by decide +kernel,rfl,by decide +kernel,by decide +kernel⟩
theorem KN:ZX ["self"] ["self"] (Z9 X4):=⟨rfl,rfl,rfl,by decide +kernel,rfl,by decide +kernel,by decide +kernel⟩
theorem J2:ZX ["self","row","words"] ["self","row"] (Z9 Ve):=⟨rfl,rfl,rfl,by decide +kernel,rfl,by decide +kernel,by decide +kernel⟩
theorem LQ:ZX ["pack","asked"] ["pack","asked"] (Z9 Yk):=⟨rfl,rfl,rfl,by decide +kernel,rfl,by decide +kernel,by decide +kernel⟩
theorem Np:ZX ["pack","asked","words"] ["pack","asked","words"] (Z9 Yu):=⟨rfl,rfl,rfl,by decide +kernel,rfl,by decide +kernel,by decide +kernel⟩
theorem Yc:ZX ["numbers","m","b","i","j"] ["numbers"] (Z9 Yt):=⟨rfl,rfl,rfl,by decide +kernel,rfl,by decide +kernel,by decide +kernel⟩
theorem Wx:ZX ["words","numbers","columns","carried_on"] ["words"] (Z9 YT):=⟨rfl,rfl,rfl,by decide +kernel,rfl,by decide +kernel,by decide +kernel⟩
theorem Gb:ZX ["word","columns"] ["word","columns"] (Z9 WD):=⟨rfl,rfl,rfl,by decide +kernel,rfl,by decide +kernel,by decide +kernel⟩
theorem Ww:ZX ["n","b","k","told","top","bottom"] ["n","b","k"] (Z9 X3):=⟨rfl,rfl,rfl,by decide +kernel,rfl,by decide +kernel,by decide +kernel⟩
theorem FZ:ZX ["riffle"] ["riffle"] (Z9 Wz):=⟨rfl,rfl,rfl,by decide +kernel,rfl,by decide +kernel,by decide +kernel⟩
theorem PX:ZX ["told","word","count"] ["told"] (Z9 Vd):=⟨rfl,rfl,rfl,by decide +kernel,rfl,by decide +kernel,by decide +kernel⟩
theorem FW:ZX ["told"] ["told"] (Z9 Wy):=⟨rfl,rfl,rfl,by decide +kernel,rfl,by decide +kernel,by decide +kernel⟩
theorem CK:ZX ["_law_script","_law_k"] ["_law_script","_law_k"] (Z9 V8):=⟨rfl,rfl,rfl,by decide +kernel,rfl,by decide +kernel,by decide +kernel⟩
theorem Ho:ZX ["_law_cell","_law_k","_law_number"] ["_law_cell","_law_k"] (Z9 T8):=⟨rfl,rfl,rfl,by decide +kernel,rfl,by decide +kernel,by decide +kernel⟩
theorem WW:ZX ["_law_cell","_law_most","_law_many","_law_rest","_law_marks_here","_law_k","_law_bit"] ["_law_cell","_law_most"] (Z9 T7):=⟨rfl,rfl,rfl,by decide +kernel,rfl,by decide +kernel,by decide +kernel⟩
theorem Vc:ZX ["_law_cell","_law_heaps","_law_n","_law_rest","_law_word_here","_law_k","_law_number"] ["_law_cell","_law_heaps","_law_n"] (Z9 RJ):=⟨rfl,rfl,rfl,by decide +kernel,rfl,by decide +kernel,by decide +kernel⟩
theorem WT:ZX ["_law_e","_law_words"] ["_law_e"] (Z9 T6):=⟨rfl,rfl,rfl,by decide +kernel,rfl,by decide +kernel,by decide +kernel⟩
theorem LK:ZX ["_law_desk","_law_row","_law_due_here","_law_e"] ["_law_desk","_law_row","_law_due_here"] (Z9 V7):=⟨rfl,rfl,rfl,by decide +kernel,rfl,by decide +kernel,by decide +kernel⟩
theorem V4:ZX ["_law_cell","_law_some"] ["_law_cell"] (Z9 RG):=⟨rfl,rfl,rfl,by decide +kernel,rfl,by decide +kernel,by decide +kernel⟩
theorem Hl:ZX ["_law_n","_law_cell","_law_number","_law_fault"] ["_law_n","_law_cell"] (Z9 Oz):=⟨rfl,rfl,rfl,by decide +kernel,rfl,by decide +kernel,by decide +kernel⟩
theorem qO:ZX ["_law_desk"] ["_law_desk"] (Z9 Tr):=⟨rfl,rfl,rfl,by decide +kernel,rfl,by decide +kernel,by decide +kernel⟩
theorem VN:ZX ["_law_script","_law_n","_law_desk","_law_many","_law_k","_law_marks_here","_law_word_here","_law_written","_law_seen_here","_law_cell","_law_row","_law_due_here","_law_wide","_law_far_row"] ["_law_script"] (Z9 Wn):=⟨rfl,rfl,rfl,by decide +kernel,rfl,by decide +kernel,by decide +kernel⟩
section
variable {P:Program} {w:World} {K:PySem.W.Frag} {mg:Str→Option Value} {base:Heap} {k:Nat}
abbrev iL (ns:List Int):List V:=ns.map V.int
abbrev bL (bs:List Bool):List V:=bs.map V.bl
theorem Zx {n:Nat} (h:n≤1000):n≤sizeLine:=by rw[sizeLine_eq];omega
theorem VL {n:Nat} (h:n≤1000):n<sizeLine:=by rw[sizeLine_eq];omega
theorem range_getD {α β:Type} (xs:List α) (d:α) (g:α→β):(List.range xs.length).map (λi=>g (xs.getD i d))=xs.map g:=by
 apply List.ext_getElem?
 intro i
 by_cases h:i<xs.length
 ·rw[List.getElem?_map,List.getElem?_range h,List.getElem?_map,List.getElem?_eq_getElem h]
  simp[List.getD,List.getElem?_eq_getElem h]
 ·rw[List.getElem?_eq_none (by simp;omega),List.getElem?_eq_none (by simp;omega)]
theorem getD_some {α:Type} {xs:List α} {d v:α} {i:Nat} (h:xs[i]? =some v):xs.getD i d=v:=by rw[List.getD,h];rfl
def VJ (K:PySem.W.Frag):Sp:=JL λa b H Q=>∃(p:Addr) (ns:List Int) (k:Int),ZJ K H p (iL ns)∧a= .ref p∧b= .int k∧0≤k∧∀c:Int,Q (.int c) H
def Nm (K:PySem.W.Frag):Sp:=JL λa b H Q=>∃c k:Int,(0≤k∧k≤1000)∧a= .int c∧b= .int k∧∀x:Int,Q (.int x) H
theorem CJ (T:Txt K mg):Has P w K mg base (k+1) "_law_cell_at" ["_law_script","_law_k"] (VJ K):=by
 refine T.J4.has CK len2 (λf cdv A outer s H vs Q E hr h=>?_)
 obtain⟨a0,a1,rfl,h⟩:=h
 refine⟨_,Z7 (Zn (Zu Og (pv 1) (ZV (Y4 (K:=K)) rfl T.Za PySem.boot_len (Z_ (pv 0) Z8)) (Zv _))
  (Z6 (ZR (Zq (ZQ (K:=K)) (pv 0) (pv 1) (λ_ _=>rfl))))
  (Zz))
  (Z6 (ZR Z5)),?_⟩
 obtain⟨p,ns,k,hS,rfl,rfl,h0,q⟩:=h
 walk_at "rd"
 refine XR (λc=>?_) (λc=>?_)<;>simp only[decide_eq_true_eq,List.length_map]at c
 ·walk_at "rd"
  refine⟨p,_,_,_,rfl,rfl,hS,Xd h0 c,?_⟩
  exact q _
 ·exact q 0
theorem vZ (T:Txt K mg):Has P w K mg base (k+1) "_law_mixed" ["_law_cell","_law_k"] (Nm K):=by
 refine T.Ek.has Ho len2 (λf cdv A outer s H vs Q E hr h=>?_)
 obtain⟨a0,a1,rfl,h⟩:=h
 refine⟨_,Z7 (ZW (i:=2) Ho.nd rfl (Or.inl rfl) (ZS Yi (ZS X_ (ZS Zo (ZS Zo (ZS Yi (ZV RZ rfl T.Ht PyProof.Rows.boot_abs (Z_ (pv 0) Z8)) Z5) (ZS X_ Z5 (pv 1))) Z5) (ZS Zo Z5 (ZS X_ (pv 1) (pv 1)))) Z5))
  (Z6 (ZR (ZS Yi (ZS X_ (pv 2) Z5) Z5))),?_⟩
 obtain⟨c,k,⟨h0,h1⟩,rfl,rfl,q⟩:=h
 walk_at "rd"
 exact q _
def Nk (K:PySem.W.Frag):Sp:=JL λa b H Q=>∃c m:Int,(1≤m∧m≤400)∧a= .int c∧b= .int m∧∀bs:List Bool,1≤bs.length→(bs.length:Int)≤m→rNew (bL bs) H Q
theorem vY (T:Txt K mg) (KJ:Has P w K mg base k "_law_mixed" ["_law_cell","_law_k"] (Nm K)):Has P w K mg base (k+1) "_law_marks" ["_law_cell","_law_most"] (Nk K):=by
 refine T.Ej.has WW len2 (λf cdv A outer s H vs Q E hr h=>?_)
 obtain⟨a0,a1,rfl,h⟩:=h
 refine⟨_,Z7 (ZW (i:=2) WW.nd rfl (Or.inl rfl) (ZS Zo Z5 (ZS Yi (pv 0) (pv 1))))
  (Z7 (ZW (i:=3) WW.nd rfl (Or.inl rfl) (ZS Yb (pv 0) (pv 1)))
  (Z7 (ZW (i:=4) WW.nd rfl (Or.inl rfl) (Yh Z8))
  (Z7 (Xa PassesOwn.never rfl (Xy rfl T.XJ (Z_ (pv 2) Z8)) (Zy (i:=5) WW.nd rfl (Or.inl rfl))
  (Z7 (ZW (i:=6) WW.nd rfl (Or.inl rfl) (ZS Yi (pv 3) Z5))
   (Z7 (ZW (i:=3) WW.nd rfl (Or.inl rfl) (ZS Yb (pv 3) Z5))
   (Z7 (Zn (Zu Og (ZV RZ rfl T.Ht PyProof.Rows.boot_abs (Z_ (pv 0) Z8)) (ZS K9 Z5 Z5) (Zv _))
   (Z6 (ZW (i:=6) WW.nd rfl (Or.inl rfl) (ZS Yi (ZS Yb (Z4 KJ hr (Z_ (pv 0) (Z_ (ZS Zo (pv 5) Z5) Z8))) Z5) Z5)))
   (Zz))
   (Z6 (YH (Qq (K:=K) PySem.F.plainAttrs_list PySem.F.slot_list_append PySem.F.type_list_append Xk (pv 4) (Z_ (V3 YJ (pv 6) Z5 (Zv _)) Z8))))))))
  (Z6 (ZR (pv 4)))))),?_⟩
 obtain⟨c,m,⟨h1,h2⟩,rfl,rfl,q⟩:=h
 have hm1:0≤c % m:=Int.emod_nonneg _ (by omega)
 have hm2:c % m<m:=Int.emod_lt_of_pos _ (by omega)
 obtain⟨n,en⟩:∃n:Int,1+c % m=n:=⟨_,rfl⟩
 walk_at "rd"
 intro O hO
 walk_at "rd"
 refine Ud (λi σ' H'=>(∃(bs:List Bool) (r:Int) (t5 t6:Option V),σ'=[some (.int c),some (.int m),some (.int (1+c % m)),some (.int r),some (.ref O),t5,t6]∧Same H H'∧H' O=some (.lst (bL bs))∧bs.length=i)∨False) (.inl ⟨[],_,none,none,rfl,Same.new hO _,Z1,rfl⟩) ?_ ?_
 ·intro i σ' H' hi z
  obtain⟨bs,r,t5,t6,rfl,sm,eO,hb⟩:=z.resolve_right id
  walk_at "rd"
  refine XR (λcc=>?_) (λcc=>?_)
  ·walk_at "rd"
   refine⟨_,_,⟨by omega,by omega⟩,rfl,rfl,λx=>?_⟩
   walk_at "rd"
   refine⟨.inl ⟨rfl,_,ZJ.of eO⟩,?_⟩
   walk_at "rd"
   refine⟨O,_,_,rfl,rfl,eO,by rw[List.length_map];exact VL (by omega),?_⟩
   exact .inl ⟨bs++[decide (V.int (x / 7 % 2)=V.int 1)],_,_,_,rfl,sm.put hO,by rw[Z1];simp,by simp;omega⟩
  ·walk_at "rd"
   refine⟨.inl ⟨rfl,_,ZJ.of eO⟩,?_⟩
   walk_at "rd"
   refine⟨O,_,_,rfl,rfl,eO,by rw[List.length_map];exact VL (by omega),?_⟩
   exact .inl ⟨bs++[decide (V.int (r % 2)=V.int 1)],_,_,_,rfl,sm.put hO,by rw[Z1];simp,by simp;omega⟩
 ·intro σ' H' z
  obtain⟨bs,r,t5,t6,rfl,sm,eO,hb⟩:=z.resolve_right id
  walk_at "rd"
  exact q bs (by omega) (by omega) O H' sm hO eO
def KH (K:PySem.W.Frag):Sp:=oY λa b c H Q=>∃(e h:Int) (n:Nat),(1≤h∧h≤400∧n≤60)∧a= .int e∧b= .int h∧c= .int n∧∀ws:List Int,ws.length=n→(∀x∈ws,0≤x∧x<h)→rNew (iL ws) H Q
theorem qN (T:Txt K mg) (KJ:Has P w K mg base k "_law_mixed" ["_law_cell","_law_k"] (Nm K)):Has P w K mg base (k+1) "_law_word" ["_law_cell","_law_heaps","_law_n"] (KH K):=by
 refine T.zE.has Vc Gq (λf cdv A outer s H vs Q E hr h=>?_)
 obtain⟨a0,a1,a2,rfl,h⟩:=h
 refine⟨_,Z7 (ZW (i:=3) Vc.nd rfl (Or.inl rfl) (pv 0))
  (Z7 (ZW (i:=4) Vc.nd rfl (Or.inl rfl) (Yh Z8))
  (Z7 (Xa PassesOwn.never rfl (Xy rfl T.XJ (Z_ (pv 2) Z8)) (Zy (i:=5) Vc.nd rfl (Or.inl rfl))
  (Z7 (ZW (i:=6) Vc.nd rfl (Or.inl rfl) (ZS Yi (pv 3) (pv 1)))
   (Z7 (ZW (i:=3) Vc.nd rfl (Or.inl rfl) (ZS Yb (pv 3) (pv 1)))
   (Z7 (Zn (Zu Og (ZV RZ rfl T.Ht PyProof.Rows.boot_abs (Z_ (pv 0) Z8)) (ZS K9 Z5 Z5) (Zv _))
   (Z6 (ZW (i:=6) Vc.nd rfl (Or.inl rfl) (ZS Yi (ZS Yb (Z4 KJ hr (Z_ (pv 0) (Z_ (ZS Zo (pv 5) Z5) Z8))) Z5) (pv 1))))
   (Zz))
   (Z6 (YH (Qq (K:=K) PySem.F.plainAttrs_list PySem.F.slot_list_append PySem.F.type_list_append Xk (pv 4) (Z_ (pv 6) Z8))))))))
  (Z6 (ZR (pv 4))))),?_⟩
 obtain⟨e,h,n,⟨h1,h2,h4⟩,rfl,rfl,rfl,q⟩:=h
 walk_at "rd"
 intro O hO
 walk_at "rd"
 rw[Int.toNat_natCast]
 refine Ud (λi σ' H'=>(∃(ws:List Int) (c':Int) (t5 t6:Option V),σ'=[some (.int e),some (.int h),some (.int n),some (.int c'),some (.ref O),t5,t6]∧Same H H'∧H' O=some (.lst (iL ws))∧ws.length=i∧∀x∈ws,0≤x∧x<h)∨False) (.inl ⟨[],e,none,none,rfl,Same.new hO _,Z1,rfl,by simp⟩) ?_ ?_
 ·intro i σ' H' hi z
  obtain⟨ws,c',t5,t6,rfl,sm,eO,hb,hw⟩:=z.resolve_right id
  walk_at "rd"
  refine XR (λcc=>?_) (λcc=>?_)
  ·walk_at "rd"
   refine⟨_,_,⟨by omega,by omega⟩,rfl,rfl,λy=>?_⟩
   walk_at "rd"
   refine⟨.inl ⟨rfl,_,ZJ.of eO⟩,?_⟩
   walk_at "rd"
   refine⟨O,_,_,rfl,rfl,eO,by rw[List.length_map];exact VL (by omega),?_⟩
   refine .inl ⟨ws++[(y / 5) % h],_,_,_,rfl,sm.put hO,by rw[Z1];simp,by simp;omega,λx hx=>?_⟩
   rcases List.mem_append.mp hx with hx |hx
   ·exact hw x hx
   ·have:x=(y / 5) % h:=by simpa using hx
    rw[this]
    exact⟨Int.emod_nonneg _ (by omega),Int.emod_lt_of_pos _ (by omega)⟩
  ·walk_at "rd"
   refine⟨.inl ⟨rfl,_,ZJ.of eO⟩,?_⟩
   walk_at "rd"
   refine⟨O,_,_,rfl,rfl,eO,by rw[List.length_map];exact VL (by omega),?_⟩
   refine .inl ⟨ws++[c' % h],_,_,_,rfl,sm.put hO,by rw[Z1];simp,by simp;omega,λx hx=>?_⟩
   rcases List.mem_append.mp hx with hx |hx
   ·exact hw x hx
   ·have:x=c' % h:=by simpa using hx
    rw[this]
    exact⟨Int.emod_nonneg _ (by omega),Int.emod_lt_of_pos _ (by omega)⟩
 ·intro σ' H' z
  obtain⟨ws,c',t5,t6,rfl,sm,eO,hb,hw⟩:=z.resolve_right id
  walk_at "rd"
  exact q ws hb hw O H' sm hO eO
def isW:V→Bool
 | .int _=>true
 |_=>false
inductive Kd (H:Hp):V→Prop where
 |flat {x:V}:Xx x=true→Kd H x
 |lst {a:Addr} {xs:List V}:H a=some (.lst xs)→Kd H (.ref a)
 |tup {a:Addr} {xs:List V}:H a=some (.tup xs)→Kd H (.ref a)
def Sw (K:PySem.W.Frag):Sp:=QW λa H Q=>Kd H a∧Q (.bl (isW a)) H
theorem zp (T:Txt K mg):Has P w K mg base (k+1) "is_whole" ["thing"] (Sw K):=by
 refine T.Hz.has zx len1 (λf cdv A outer s H vs Q E hr h=>?_)
 obtain⟨a0,rfl,h⟩:=h
 refine⟨_,Z6 (ZR (DK (ZV (Jc (K:=K)) rfl T.YZ PyProof.Rows.boot_isinstance (Z_ (pv 0) (Z_ (DN (v:=.ty "int") rfl T.ug PyProof.Rows.boot_int rfl) Z8))) (Jj (pZ (ZV (Jc (K:=K)) rfl T.YZ PyProof.Rows.boot_isinstance (Z_ (pv 0) (Z_ (DN (v:=.ty "bool") rfl T.wg PyProof.Rows.boot_bool rfl) Z8))))))),?_⟩
 obtain⟨hk,q⟩:=h
 cases hk with
 |flat hf =>
  cases a0 with
  |non=>walk_at "rd";refine⟨_,_,_,_,rfl,.non,rfl,?_⟩;walk_at "rd";exact xH q
  |bl b=>walk_at "rd";refine⟨_,_,_,_,rfl,.bl _,rfl,?_⟩;walk_at "rd";refine⟨_,_,_,_,rfl,.bl _,rfl,?_⟩;walk_at "rd";exact q
  |int b=>walk_at "rd";refine⟨_,_,_,_,rfl,.int _,rfl,?_⟩;walk_at "rd";refine⟨_,_,_,_,rfl,.int _,rfl,?_⟩;walk_at "rd";exact q
  |str b=>walk_at "rd";refine⟨_,_,_,_,rfl,.str _,rfl,?_⟩;walk_at "rd";exact xH q
  |Bw _=>cases hf
  |flt _=>cases hf
  |ref _=>cases hf
  |ty _=>cases hf
 |lst e=>walk_at "rd";refine⟨_,_,_,_,rfl,.lst e,rfl,?_⟩;walk_at "rd";exact xH q
 |tup e=>walk_at "rd";refine⟨_,_,_,_,rfl,.tup e,rfl,?_⟩;walk_at "rd";exact xH q
def uf (n:Nat):V→Bool
 | .int i=>decide (0≤i) && decide (i<n)
 |_=>false
def Hj (K:PySem.W.Frag):Sp:=JL λa b H Q=>∃(p:Addr) (bs:List Bool),ZJ K H p (bL bs)∧a= .ref p∧Xx b=true∧Q (.bl (uf bs.length b)) H
theorem vX (T:Txt K mg) (Tj:Has P w K mg base k "is_whole" ["thing"] (Sw K)):Has P w K mg base (k+1) "is_heap" ["marks","part"] (Hj K):=by
 refine T.Em.has v7 len2 (λf cdv A outer s H vs Q E hr h=>?_)
 obtain⟨a0,a1,rfl,h⟩:=h
 refine⟨_,Z6 (ZR (DK (Z4 Tj hr (Z_ (pv 1) Z8)) (Jj (Br Vx Og Z5 (pv 1) (ZV (Y4 (K:=K)) rfl T.Za PySem.boot_len (Z_ (pv 0) Z8)))))),?_⟩
 obtain⟨p,bs,hS,rfl,hf,q⟩:=h
 have hl:(bL bs).length=bs.length:=List.length_map _
 cases a1 with
 |int i =>
  walk_at "rd"
  refine⟨.flat rfl,?_⟩
  walk_at "rd"
  refine XR (λc=>?_) (λc=>?_)
  ·walk_at "rd"
   rw[hl]
   have e:uf bs.length (.int i)=decide (i<(bs.length:Int)):=by rw[uf,c,Bool.true_and]
   rw[e]at q
   exact q
  ·have e:uf bs.length (.int i)=false:=by rw[uf,Bool.eq_false_iff.mpr c,Bool.false_and]
   rw[e]at q
   exact q
 |non=>walk_at "rd";refine⟨.flat rfl,?_⟩;walk_at "rd";exact xH q
 |bl _=>walk_at "rd";refine⟨.flat rfl,?_⟩;walk_at "rd";exact xH q
 |str _=>walk_at "rd";refine⟨.flat rfl,?_⟩;walk_at "rd";exact xH q
 |Bw _=>cases hf
 |flt _=>cases hf
 |ref _=>cases hf
 |ty _=>cases hf
def Nj (K:PySem.W.Frag):Sp:=oY λa b c H Q=>∃(p r:Addr) (bs:List Bool) (xs:List V) (n:Int),ZJ K H p (bL bs)∧ZJ K H r xs∧a= .ref p∧b= .ref r∧c= .int n∧xs.all Xx=true∧xs.length≤1000∧∀H',Same H H'→Q (.bl (decide ((xs.length:Int)=n) && xs.all (uf bs.length))) H'
theorem vW (T:Txt K mg) (qM:Has P w K mg base k "is_heap" ["marks","part"] (Hj K)):Has P w K mg base (k+1) "is_word" ["marks","word","n"] (Nj K):=by
 refine T.En.has v8 Gq (λf cdv A outer s H vs Q E hr h=>?_)
 obtain⟨a0,a1,a2,rfl,h⟩:=h
 refine⟨_,Z6 (ZR (DK (V3 YJ (ZV (Y4 (K:=K)) rfl T.Za PySem.boot_len (Z_ (pv 1) Z8)) (pv 2) (Zv _)) (Jj (ZV (k_all (K:=K) rfl) rfl T.zy PyProof.Rows.boot_all (Z_ (YF (vars:=["part"]) (caps:=[0]) (ZD.of (outer:=Z9 Vh) (N:=["marks","word","n"]) rfl rfl ⟨by decide +kernel⟩) rfl (YX (K:=K) (pv 1)) ⟨λ_ _ _ _=>⟨(Zy (i:=0) (show List.Nodup (["part","marks"]:List Str)by decide +kernel) rfl (Or.inl rfl)),YG,(Z4 qM hr (Z_ (pv 1) (Z_ (pv 0) Z8)))⟩⟩) Z8))))),?_⟩
 obtain⟨p,r,bs,xs,n,hS,hR,rfl,rfl,rfl,hf,hl,q⟩:=h
 walk_at "rd"
 refine XR (λc=>?_) (λc=>?_)
 ·walk_at "rd"
  refine⟨⟨_,hR⟩,?_⟩
  refine Wa (λi=> .bl (uf bs.length (xs.getD i .non))) (λ_=>true) (Zx hl) hR ?_ ?_
  ·intro i v t acc ys N Kt hi hv hacc k1 _
   have s1:=Same.new hacc (.lst ys)
   walk_at "rd"
   refine⟨p,bs,s1.seq hS,rfl,List.all_eq_true.mp hf v (List.mem_of_getElem? hv),?_⟩
   have:=k1 (some v) rfl
   rw[getD_some hv]at this
   exact this
  ·rw[filter_true,range_getD xs .non λv=>V.bl (uf bs.length v)]
   intro l hl
   refine⟨l,xs.map (uf bs.length),rfl,ZJ.of (by rw[Z1,List.map_map];rfl),?_⟩
   have z:=q _ (Same.new hl (.lst (xs.map λv=>V.bl (uf bs.length v))))
   have c':decide ((xs.length:Int)=n)=true:=by simpa using c
   rw[c',Bool.true_and]at z
   rw[List.all_map]
   exact z
 ·have z:=q _ (Same.refl H)
  have c':decide ((xs.length:Int)=n)=false:=by simpa using c
  rw[c',Bool.false_and]at z
  exact z
theorem gk {h n:Nat} {ws:List Int} (W:M.Wd h n ws):(iL ws).all (uf h)=true:=by
 rw[List.all_eq_true]
 intro x hx
 obtain⟨c,hc,rfl⟩:=List.mem_map.mp hx
 have:=W.bd c hc
 simp only[uf,Bool.and_eq_true,decide_eq_true_eq]
 exact this
def Xg (K:PySem.W.Frag):Sp:=oY λa b c H Q=>∃(p r:Addr) (bs:List Bool) (ws:List Int) (n:Nat),ZJ K H p (bL bs)∧ZJ K H r (iL ws)∧a= .ref p∧b= .ref r∧c= .int n∧M.Wd bs.length n ws∧n≤1000∧∀H',Same H H'→Q .non H'
theorem FT (T:Txt K mg) (KD:Has P w K mg base k "is_word" ["marks","word","n"] (Nj K)):Has P w K mg base (k+1) "check_word" ["marks","word","n"] (Xg K):=by
 refine T.Rg.has N8 Gq (λf cdv A outer s H vs Q E hr h=>?_)
 obtain⟨a0,a1,a2,rfl,h⟩:=h
 refine⟨_,Z6 (Zn (Yr (YM (Z4 KD hr (Z_ (pv 0) (Z_ (pv 1) (Z_ (pv 2) Z8))))))
  (Z6 (R0))
  (Zz)),?_⟩
 obtain⟨p,r,bs,ws,n,hS,hR,rfl,rfl,rfl,W,hl,q⟩:=h
 walk_at "rd"
 refine⟨p,r,bs,_,_,hS,hR,rfl,rfl,rfl,Fg ws,by rw[List.length_map,W.len];exact hl,λH1 s1=>?_⟩
 rw[gk W,List.length_map,W.len,decide_eq_true rfl]
 walk_at "rd"
 exact q _ s1
def zm (K:PySem.W.Frag):Sp:=JL λa b H Q=>∃(p r:Addr) (bs:List Bool) (ws:List Int) (n:Nat),ZJ K H p (bL bs)∧ZJ K H r (iL ws)∧a= .ref p∧b= .ref r∧M.Wd bs.length n ws∧n≤1000∧bs.length≤1000∧rNew (iL (M.szs bs.length ws)) H Q
theorem lG (T:Txt K mg) (XF:Has P w K mg base k "check_word" ["marks","word","n"] (Xg K)):Has P w K mg base (k+1) "sizes" ["marks","word"] (zm K):=by
 refine T.uo.has lH len2 (λf cdv A outer s H vs Q E hr h=>?_)
 obtain⟨a0,a1,rfl,h⟩:=h
 refine⟨_,Z7 (YH (Z4 XF hr (Z_ (pv 0) (Z_ (pv 1) (Z_ (ZV (Y4 (K:=K)) rfl T.Za PySem.boot_len (Z_ (pv 1) Z8)) Z8)))))
  (Z6 (ZR (YF (vars:=["heap"]) (caps:=[1]) (ZD.of (outer:=Z9 Rh) (N:=["marks","word"]) rfl rfl ⟨by decide +kernel⟩) rfl (Xy rfl T.XJ (Z_ (ZV (Y4 (K:=K)) rfl T.Za PySem.boot_len (Z_ (pv 0) Z8)) Z8)) ⟨λ_ _ _ _=>⟨(Zy (i:=0) (show List.Nodup (["heap","word"]:List Str)by decide +kernel) rfl (Or.inl rfl)),YG,(Qq (K:=K) PySem.F.plainAttrs_list PySem.F.slot_list_count PySem.F.type_list_count (iQ (K:=K)) (pv 1) (Z_ (pv 0) Z8))⟩⟩))),?_⟩
 obtain⟨p,r,bs,ws,n,hS,hR,rfl,rfl,W,hl,hb,q⟩:=h
 have hl1:(iL ws).length=n:=by rw[List.length_map,W.len]
 have hl2:(bL bs).length=bs.length:=List.length_map _
 walk_at "rd"
 rw[hl1]
 refine⟨p,r,bs,ws,n,hS,hR,rfl,rfl,rfl,W,hl,λH1 s1=>?_⟩
 have hS1:=s1.seq hS
 have hR1:=s1.seq hR
 walk_at "rd"
 rw[hl2,Int.toNat_natCast]
 refine Vo (λi=> .int ((M.cn ws i:Nat):Int)) (λ_=>true) (Zx hb) ?_ ?_
 ·intro i t acc ys N Kt hi hacc k1 _
  have hR2:=(Same.new hacc (.lst ys)).seq hR1
  walk_at "rd"
  refine⟨.inl ⟨rfl,_,hR2⟩,?_⟩
  walk_at "rd"
  have k2:=k1 (some (.int (0+i))) rfl
  rw[Int.zero_add]at k2 ⊢
  refine⟨r,_,_,rfl,rfl,hR2,rfl,Fg ws,?_⟩
  rw[wZ]
  exact k2
 rw[filter_true]
 intro l hl
 exact q l _ (s1.put (s1.free hl)) (s1.free hl) (by rw[Z1,M.szs,iL,List.map_map];rfl)
def LC (K:PySem.W.Frag):Sp:=JL λa b H Q=>∃(p q:Addr) (ns ms:List Int),ZJ K H p (iL ns)∧ZJ K H q (iL ms)∧a= .ref p∧b= .ref q∧ms.length≤1000∧(∀c∈ms,0≤c∧c<(ns.length:Int))∧rNew (iL (M.lay ns ms)) H Q
theorem gj (T:Txt K mg):Has P w K mg base (k+1) "laid" ["one","other"] (LC K):=by
 refine T.lV.has gw len2 (λf cdv A outer s H vs Q E hr h=>?_)
 obtain⟨a0,a1,rfl,h⟩:=h
 refine⟨_,Z6 (ZR (YF (vars:=["card"]) (caps:=[0]) (ZD.of (outer:=Z9 Nr) (N:=["one","other"]) rfl rfl ⟨by decide +kernel⟩) rfl (YX (K:=K) (pv 1)) ⟨λ_ _ _ _=>⟨(Zy (i:=0) (show List.Nodup (["card","one"]:List Str)by decide +kernel) rfl (Or.inl rfl)),YG,(Zq (ZQ (K:=K)) (pv 1) (pv 0) (λ_ _=>rfl))⟩⟩)),?_⟩
 obtain⟨p,q',ns,ms,hp,hq,rfl,rfl,hm,hb,q⟩:=h
 walk_at "rd"
 refine⟨⟨_,hq⟩,?_⟩
 refine Wa (xs:=iL ms) (λi=> .int (ns.getD (ms.getD i 0).toNat 0)) (λ_=>true) (by rw[List.length_map];exact Zx hm) hq ?_ ?_
 ·intro i v t acc ys N Kt hi hv hacc k1 _
  rw[List.getElem?_map]at hv
  cases ec:ms[i]? with
  |none=>rw[ec]at hv;cases hv
  |some c =>
   rw[ec]at hv
   cases hv
   have b:=hb c (List.mem_of_getElem? ec)
   walk_at "rd"
   refine⟨p,_,_,_,rfl,rfl,(Same.new hacc _).seq hp,Xd b.1 b.2,?_⟩
   have:=k1 (some (.int c)) rfl
   rw[show ms.getD i 0=c by simp[List.getD,ec]]at this
   exact this
 ·rw[filter_true]
  have e:((List.range (iL ms).length).map λi=>V.int (ns.getD (ms.getD i 0).toNat 0))=iL (M.lay ns ms):=by
   unfold M.lay
   apply List.ext_getElem?
   intro i
   by_cases h:i<ms.length<;>simp[h,List.getD]
  rw[e]
  exact q.made
theorem rep0:∀n:Nat,(List.replicate n [V.int 0]).flatten=iL (List.replicate n 0)
 | 0=>rfl
 |n+1=>by rw[List.replicate_succ,List.flatten_cons,rep0 n];rfl
def Ov (K:PySem.W.Frag):Sp:=QW λa H Q=>∃(p:Addr) (ns:List Int) (n:Nat),ZJ K H p (iL ns)∧a= .ref p∧M.Ord n ns∧n≤1000∧rNew (iL (M.JH n ns)) H Q
theorem qL (T:Txt K mg):Has P w K mg base (k+1) "places" ["order"] (Ov K):=by
 refine T.zH.has Ow len1 (λf cdv A outer s H vs Q E hr h=>?_)
 obtain⟨a0,rfl,h⟩:=h
 refine⟨_,Z7 (ZW (i:=1) Ow.nd rfl (Or.inl rfl) (ZS Jf (Yh (Z_ Z5 Z8)) (ZV (Y4 (K:=K)) rfl T.Za PySem.boot_len (Z_ (pv 0) Z8))))
  (Z7 (Xa PassesOwn.never rfl (O7 (K:=K) rfl T.V6 (Z_ (pv 0) Z8)) (Wq (K:=K) (n:=2) rfl (Y6 (Zy (i:=2) Ow.nd rfl (Or.inl rfl)) (Y6 (Zy (i:=3) Ow.nd rfl (Or.inl rfl)) U7)))
  (Z6 (DG (pv 2) (yc (pv 1) (pv 3) set_list))))
  (Z6 (ZR (pv 1)))),?_⟩
 obtain⟨p,ns,n,hS,rfl,ho,hn,q⟩:=h
 have hl:ns.length=n:=ho.len
 walk_at "rd"
 intro z hz
 have s1:Same H (upd H z (.lst [.int 0])):=Same.new hz _
 refine⟨_,rfl,_,_,rfl,.inl (s1.seq hS),?_⟩
 refine⟨z,_,_,rfl,rfl,Z1,by omega,by rw[List.length_map];omega,?_,λt ht=>?_⟩
 ·rw[List.length_map,sizeLine_eq];simp;omega
 have e0:(List.replicate ((iL ns).length:Int).toNat [V.int 0]).flatten=iL (M.Xr n ns 0):=by
  rw[M.Dd,List.length_map,hl,Int.toNat_natCast,rep0]
 rw[e0]
 have hzt:t≠z:=λe=>by rw[e,Z1]at ht;cases ht
 have ht0:H t=none:=by rw[Zw hzt]at ht;exact ht
 have s2:Same H (upd (upd H z (.lst [.int 0])) t (.lst (iL (M.Xr n ns 0)))):=s1.put ht0
 refine⟨_,rfl,p,rfl,⟨_,s2.seq hS⟩,?_⟩
 refine Jd (xs:=iL ns) (λi σ' H'=>(∃t1 t2,σ'=[some (.ref p),some (.ref t),t1,t2]∧Same H H'∧H' t=some (.lst (iL (M.Xr n ns i))))∨False) (.inl ⟨_,_,rfl,s2,Z1⟩) ?_ ?_ ?_
 ·intro i σ' H' _ z
  obtain⟨t1,t2,rfl,s3,_⟩:=z.resolve_right id
  exact s3.seq hS
 ·intro i x σ' H' T hx z hT
  obtain⟨t1,t2,rfl,s3,e3⟩:=z.resolve_right id
  rw[List.getElem?_map]at hx
  cases ec:ns[i]? with
  |none=>rw[ec]at hx;cases hx
  |some c =>
   rw[ec]at hx
   cases hx
   have b:=ho.bd c (List.mem_of_getElem? ec)
   have htT:t≠T:=ZF e3 hT
   refine⟨T,_,rfl,TY.of Z1,rfl,?_⟩
   walk_at "rd"
   refine⟨t,_,_,c.toNat,rfl,rfl,by rw[Zw htT];exact e3,?_,?_⟩
   ·unfold qe
    rw[if_pos b.1,if_pos (by rw[List.length_map,M.V0];exact b.2)]
   ·refine .inl ⟨_,_,rfl,?_,?_⟩
    ·have s4:Same H (upd H' T (.tup [.int i,.int c])):=s3.put (s3.free hT)
     exact s4.put ht0
    ·rw[Z1,←M.Dc ho ec]
     simp[List.map_set]
 ·intro σ' H' z
  obtain⟨t1,t2,rfl,s3,e3⟩:=z.resolve_right id
  walk_at "rd"
  refine q t H' s3 ht0 ?_
  rw[←M.Ad ho,e3,List.length_map,hl]
def Sv (K:PySem.W.Frag):Sp:=JL λa b H Q=>∃(p r:Addr) (bs:List Bool) (ws:List Int),ZJ K H p (bL bs)∧ZJ K H r (iL (M.szs bs.length ws))∧a= .ref p∧b= .ref r∧bs.length≤1000∧rNew (iL (M.tops bs ws 0)) H Q
theorem Lz (T:Txt K mg):Has P w K mg base (k+1) "places_of_tops" ["marks","counts"] (Sv K):=by
 refine T.RB.has Ys len2 (λf cdv A outer s H vs Q E hr h=>?_)
 obtain⟨a0,a1,rfl,h⟩:=h
 refine⟨_,Z7 (ZW (i:=2) Ys.nd rfl (Or.inl rfl) (Yh Z8))
  (Z7 (ZW (i:=3) Ys.nd rfl (Or.inl rfl) Z5)
  (Z7 (Xa PassesOwn.never rfl (Bb (K:=K) rfl T.lN (Z_ (pv 0) (Z_ (pv 1) Z8))) (Wq (K:=K) (n:=2) rfl (Y6 (Zy (i:=4) Ys.nd rfl (Or.inl rfl)) (Y6 (Zy (i:=5) Ys.nd rfl (Or.inl rfl)) U7)))
  (Z7 (YH (Qq (K:=K) PySem.F.plainAttrs_list PySem.F.slot_list_append PySem.F.type_list_append Xk (pv 2) (Z_ (U0 (YM (pv 4)) (ZS X7 (ZS Zo (pv 3) (pv 5)) Z5) (pv 3)) Z8)))
   (Z6 (ZW (i:=3) Ys.nd rfl (Or.inl rfl) (ZS Zo (pv 3) (pv 5))))))
  (Z6 (ZR (pv 2))))),?_⟩
 obtain⟨p,r,bs,ws,hp,hr',rfl,rfl,hb,q⟩:=h
 have hl2:(bL bs).length=bs.length:=List.length_map _
 walk_at "rd"
 intro t ht
 generalize e1:upd H t _=H1
 obtain⟨s1,et⟩:=ZG ht e1
 clear e1
 walk_at "rd"
 refine⟨⟨_,s1.seq hp⟩,⟨_,s1.seq hr'⟩,?_⟩
 refine iR (xs:=bL bs) (ys:=iL (M.szs bs.length ws)) (by rw[List.length_map,List.length_map,M.wH]) (λi σ' H'=>(∃t1 t2,σ'=[some (.ref p),some (.ref r),some (.ref t),some (.int (M.JG ws i:Nat)),t1,t2]∧Same H H'∧H' t=some (.lst (iL ((M.tops bs ws 0).take i))))∨False) (.inl ⟨_,_,rfl,s1,et⟩) ?_ ?_ ?_
 ·intro i σ' H' _ z
  obtain⟨t1,t2,rfl,s3,_⟩:=z.resolve_right id
  exact⟨s3.seq hp,s3.seq hr'⟩
 ·intro i x y σ' H' T hx hy z hT
  obtain⟨t1,t2,rfl,s3,e3⟩:=z.resolve_right id
  have hib:i<bs.length:=by
   have:=(List.getElem?_eq_some_iff.mp hx).1
   rw[List.length_map]at this
   exact this
  have ex:x= .bl (bs.getD i false):=by
   rw[List.getElem?_map,List.getElem?_eq_getElem hib]at hx
   rw[←Option.some.inj hx]
   simp[List.getD,List.getElem?_eq_getElem hib]
  have ey:y= .int ((M.cn ws i:Nat):Int):=by
   rw[List.getElem?_map,M.szs,List.getElem?_map,List.getElem?_range hib]at hy
   exact(Option.some.inj hy).symm
  subst ex ey
  have htT:t≠T:=ZF e3 hT
  have hl3:((M.tops bs ws 0).take i).length=i:=by rw[List.length_take,M.Y5];omega
  have etop:(M.tops bs ws 0).take (i+1)=(M.tops bs ws 0).take i++[(M.tops bs ws 0).getD i 0]:=by
   rw[List.take_succ_eq_append_getElem (by rw[M.Y5];exact hib)]
   simp[List.getD,List.getElem?_eq_getElem (show i<(M.tops bs ws 0).length by rw[M.Y5];exact hib)]
  have eg:=M.RT (ws:=ws) (i:=0) hib
  rw[List.take_zero,List.count_nil]at eg
  have s4:Same H (upd H' T (.tup [.bl (bs.getD i false),.int ((M.cn ws i:Nat):Int)])):=s3.put (s3.free hT)
  refine⟨T,_,rfl,TY.of Z1,rfl,?_⟩
  walk_at "rd"
  refine⟨.inl ⟨rfl,_,ZJ.of (by rw[Zw htT];exact e3)⟩,?_⟩
  walk_at "rd"
  refine XR (λc=>?_) (λc=>?_)
  ·walk_at "rd"
   refine⟨t,_,_,rfl,rfl,by rw[Zw htT];exact e3,by rw[List.length_map,hl3];exact VL (by omega),?_⟩
   walk_at "rd"
   refine .inl ⟨_,_,rfl,s4.put ht,?_⟩
   rw[Z1,etop,eg,if_pos c]
   simp
  ·walk_at "rd"
   refine⟨t,_,_,rfl,rfl,by rw[Zw htT];exact e3,by rw[List.length_map,hl3];exact VL (by omega),?_⟩
   walk_at "rd"
   refine .inl ⟨_,_,rfl,s4.put ht,?_⟩
   rw[Z1,etop,eg,if_neg c]
   simp
 ·intro σ' H' z
  obtain⟨t1,t2,rfl,s3,e3⟩:=z.resolve_right id
  walk_at "rd"
  refine q t H' s3 ht ?_
  rw[e3,List.take_of_length_le (by rw[M.Y5,List.length_map];exact Nat.le_refl _)]
def XD (K:PySem.W.Frag):Sp:=JL λa b H Q=>∃(p r:Addr) (bs:List Bool) (ws:List Int) (n:Nat),ZJ K H p (bL bs)∧ZJ K H r (iL ws)∧a= .ref p∧b= .ref r∧M.Wd bs.length n ws∧n≤1000∧bs.length≤1000∧rNew (iL (M.drawn bs ws)) H Q
theorem PN (T:Txt K mg) (KC:Has P w K mg base k "places_of_tops" ["marks","counts"] (Sv K)) (gb:Has P w K mg base k "sizes" ["marks","word"] (zm K)):Has P w K mg base (k+1) "places_drawn_from" ["marks","word"] (XD K):=by
 refine T.Um.has XH len2 (λf cdv A outer s H vs Q E hr h=>?_)
 obtain⟨a0,a1,rfl,h⟩:=h
 refine⟨_,Z7 (ZW (i:=2) XH.nd rfl (Or.inl rfl) (Z4 KC hr (Z_ (pv 0) (Z_ (Z4 gb hr (Z_ (pv 0) (Z_ (pv 1) Z8))) Z8))))
  (Z7 (ZW (i:=3) XH.nd rfl (Or.inl rfl) (Yh Z8))
  (Z7 (Xa PassesOwn.never rfl (YX (K:=K) (pv 1)) (Zy (i:=4) XH.nd rfl (Or.inl rfl))
  (Z7 (YH (Qq (K:=K) PySem.F.plainAttrs_list PySem.F.slot_list_append PySem.F.type_list_append Xk (pv 3) (Z_ (Zq (ZQ (K:=K)) (pv 2) (pv 4) (λ_ _=>rfl)) Z8)))
   (Z6 (DG (U0 (YM (Zq (ZQ (K:=K)) (pv 0) (pv 4) (λ_ _=>rfl))) (ZS X7 (Zq (ZQ (K:=K)) (pv 2) (pv 4) (λ_ _=>rfl)) Z5) (ZS Zo (Zq (ZQ (K:=K)) (pv 2) (pv 4) (λ_ _=>rfl)) Z5)) (yc (pv 2) (pv 4) set_list)))))
  (Z6 (ZR (pv 3))))),?_⟩
 obtain⟨p,r,bs,ws,n,hp,hr',rfl,rfl,W,hn,hb,q⟩:=h
 have hl1:(iL ws).length=n:=by rw[List.length_map,W.len]
 walk_at "rd"
 refine⟨p,r,bs,ws,n,hp,hr',rfl,rfl,W,hn,hb,λz H1 s1 hz ez=>?_⟩
 walk_at "rd"
 refine⟨p,z,bs,ws,s1.seq hp,ZJ.of ez,rfl,rfl,hb,λt H2 s2 ht et=>?_⟩
 have Ld:=s1.trans s2
 have ht0:H t=none:=s1.free ht
 walk_at "rd"
 intro d hd
 generalize e3:upd H2 d _=H3
 obtain⟨s3,ed⟩:=ZG hd e3
 clear e3
 have hd0:H d=none:=Ld.free hd
 have htd:t≠d:=ZF et hd
 walk_at "rd"
 refine⟨⟨_,(Ld.trans s3).seq hr'⟩,?_⟩
 refine MN (xs:=iL ws) (λi σ' H'=>(∃t1,σ'=[some (.ref p),some (.ref r),some (.ref t),some (.ref d),t1]∧Same H H'∧H' t=some (.lst (iL (M.tops bs ws i)))∧H' d=some (.lst (iL ((List.range i).map λp=>((M.dr bs ws p:Nat):Int)))))∨False) (.inl ⟨_,rfl,Ld.trans s3,s3 _ _ et,ed⟩) ?_ ?_ ?_
 ·intro i σ' H' _ z
  obtain⟨t1,rfl,sm,_,_⟩:=z.resolve_right id
  exact sm.seq hr'
 ·intro i x σ' H' hx z
  obtain⟨t1,rfl,sm,e1,e2⟩:=z.resolve_right id
  have hin:i<n:=by
   have:=(List.getElem?_eq_some_iff.mp hx).1
   rw[hl1]at this
   exact this
  have c:=M.XQ W hin
  have ex:x= .int ((M.hp ws i:Nat):Int):=by
   rw[List.getElem?_map,List.getElem?_eq_getElem (by rw[W.len];exact hin)]at hx
   rw[c.1,←Option.some.inj hx]
   simp[List.getD,List.getElem?_eq_getElem (show i<ws.length by rw[W.len];exact hin)]
  subst ex
  have hat:MP (iL (M.tops bs ws i)) ((M.hp ws i:Nat):Int)=some (.int ((M.tops bs ws i).getD (M.hp ws i) 0)):=by
   have:=Xd (ns:=M.tops bs ws i) (k:=((M.hp ws i:Nat):Int)) (by omega) (by rw[M.Y5];omega)
   rw[Int.toNat_natCast]at this
   exact this
  have hab:MP (bL bs) ((M.hp ws i:Nat):Int)=some (.bl (bs.getD (M.hp ws i) false)):=by
   have:=Ja (bs:=bs) (k:=((M.hp ws i:Nat):Int)) (by omega) (by omega)
   rw[Int.toNat_natCast]at this
   exact this
  have hix:qe (iL (M.tops bs ws i)).length ((M.hp ws i:Nat):Int)=some (M.hp ws i):=by
   unfold qe
   rw[if_pos (by omega),if_pos (by rw[List.length_map,M.Y5];omega),Int.toNat_natCast]
  walk_at "rd"
  refine⟨.inl ⟨rfl,_,ZJ.of e2⟩,?_⟩
  walk_at "rd"
  refine⟨t,_,_,_,rfl,rfl,ZJ.of e1,hat,?_⟩
  walk_at "rd"
  refine⟨d,_,_,rfl,rfl,e2,by rw[List.length_map,List.length_map,List.length_range];exact VL (by omega),?_⟩
  generalize e4:upd H' d _=H4
  obtain⟨s4,ed4⟩:=oA hd0 sm e4
  have et4:H4 t=some (.lst (iL (M.tops bs ws i))):=by rw[←e4,Zw htd];exact e1
  clear e4
  rw[M.gR W hin]at ed4
  walk_at "rd"
  refine⟨p,_,_,_,rfl,rfl,s4.seq hp,hab,?_⟩
  walk_at "rd"
  have es:=M.rm W hin
  refine XR (λcc=>?_) (λcc=>?_)
  ·walk_at "rd"
   refine⟨t,_,_,_,rfl,rfl,ZJ.of et4,hat,?_⟩
   walk_at "rd"
   refine⟨t,_,_,_,rfl,rfl,et4,hix,?_⟩
   refine .inl ⟨_,rfl,s4.put ht0,?_,?_⟩
   ·rw[if_pos cc]at es
    rw[Z1,←es]
    simp[List.map_set]
   ·rw[Zw (Ne.symm htd),ed4,M.Ib]
    simp
  ·walk_at "rd"
   refine⟨t,_,_,_,rfl,rfl,ZJ.of et4,hat,?_⟩
   walk_at "rd"
   refine⟨t,_,_,_,rfl,rfl,et4,hix,?_⟩
   refine .inl ⟨_,rfl,s4.put ht0,?_,?_⟩
   ·rw[if_neg cc]at es
    rw[Z1,←es]
    simp[List.map_set]
   ·rw[Zw (Ne.symm htd),ed4,M.Ib]
    simp
 ·intro σ' H' z
  obtain⟨t1,rfl,sm,e1,e2⟩:=z.resolve_right id
  walk_at "rd"
  refine q d H' sm hd0 ?_
  rw[e2,List.length_map]
  rfl
def Q_ (K:PySem.W.Frag):Sp:=oY λa b c H Q=>∃(o p r:Addr) (os:List Int) (bs:List Bool) (ws:List Int) (n:Nat),ZJ K H o (iL os)∧ZJ K H p (bL bs)∧ZJ K H r (iL ws)∧a= .ref o∧b= .ref p∧c= .ref r∧os.length=n∧M.Wd bs.length n ws∧n≤1000∧bs.length≤1000∧rNew (iL (M.lay os (M.drawn bs ws))) H Q
theorem vV (T:Txt K mg) (XF:Has P w K mg base k "check_word" ["marks","word","n"] (Xg K)) (Ni:Has P w K mg base k "laid" ["one","other"] (LC K)) (Yp:Has P w K mg base k "places_drawn_from" ["marks","word"] (XD K)):Has P w K mg base (k+1) "riffled" ["order","marks","word"] (Q_ K):=by
 refine T.KQ.has Hr Gq (λf cdv A outer s H vs Q E hr h=>?_)
 obtain⟨a0,a1,a2,rfl,h⟩:=h
 refine⟨_,Z7 (YH (Z4 XF hr (Z_ (pv 1) (Z_ (pv 2) (Z_ (ZV (Y4 (K:=K)) rfl T.Za PySem.boot_len (Z_ (pv 0) Z8)) Z8)))))
  (Z6 (ZR (Z4 Ni hr (Z_ (pv 0) (Z_ (Z4 Yp hr (Z_ (pv 1) (Z_ (pv 2) Z8))) Z8))))),?_⟩
 obtain⟨o,p,r,os,bs,ws,n,ho,hp,hr',rfl,rfl,rfl,lo,W,hn,hb,q⟩:=h
 have hl1:(iL os).length=n:=by rw[List.length_map,lo]
 walk_at "rd"
 rw[hl1]
 refine⟨p,r,bs,ws,n,hp,hr',rfl,rfl,rfl,W,hn,λH1 s1=>?_⟩
 walk_at "rd"
 refine⟨p,r,bs,ws,n,s1.seq hp,s1.seq hr',rfl,rfl,W,hn,hb,λz H2 s2 hz ez=>?_⟩
 have Ld:=s1.trans s2
 walk_at "rd"
 refine⟨o,z,os,_,Ld.seq ho,ZJ.of ez,rfl,rfl,by rw[M.WQ,W.len];exact hn,?_,λu H3 s3 hu eu=>?_⟩
 ·intro c hc
  have:=(M.Xj W).bd c hc
  rw[lo]
  exact this
 ·exact q u H3 (Ld.trans s3) (Ld.free hu) eu
def Kz (K:PySem.W.Frag):Sp:=oY λa b c H Q=>∃(o p r:Addr) (os:List Int) (bs:List Bool) (ws:List Int) (n:Nat),ZJ K H o (iL os)∧ZJ K H p (bL bs)∧ZJ K H r (iL ws)∧a= .ref o∧b= .ref p∧c= .ref r∧os.length=n∧M.Wd bs.length n ws∧n≤1000∧bs.length≤1000∧rNew (iL (M.lay os (M.JH n (M.drawn bs ws)))) H Q
theorem qK (T:Txt K mg) (XF:Has P w K mg base k "check_word" ["marks","word","n"] (Xg K)) (Ni:Has P w K mg base k "laid" ["one","other"] (LC K)) (PB:Has P w K mg base k "places" ["order"] (Ov K)) (Yp:Has P w K mg base k "places_drawn_from" ["marks","word"] (XD K)):Has P w K mg base (k+1) "undone" ["order","marks","word"] (Kz K):=by
 refine T.zG.has qP Gq (λf cdv A outer s H vs Q E hr h=>?_)
 obtain⟨a0,a1,a2,rfl,h⟩:=h
 refine⟨_,Z7 (YH (Z4 XF hr (Z_ (pv 1) (Z_ (pv 2) (Z_ (ZV (Y4 (K:=K)) rfl T.Za PySem.boot_len (Z_ (pv 0) Z8)) Z8)))))
  (Z6 (ZR (Z4 Ni hr (Z_ (pv 0) (Z_ (Z4 PB hr (Z_ (Z4 Yp hr (Z_ (pv 1) (Z_ (pv 2) Z8))) Z8)) Z8))))),?_⟩
 obtain⟨o,p,r,os,bs,ws,n,ho,hp,hr',rfl,rfl,rfl,lo,W,hn,hb,q⟩:=h
 have hl1:(iL os).length=n:=by rw[List.length_map,lo]
 walk_at "rd"
 rw[hl1]
 refine⟨p,r,bs,ws,n,hp,hr',rfl,rfl,rfl,W,hn,λH1 s1=>?_⟩
 walk_at "rd"
 refine⟨p,r,bs,ws,n,s1.seq hp,s1.seq hr',rfl,rfl,W,hn,hb,λz H2 s2 hz ez=>?_⟩
 have Ld:=s1.trans s2
 walk_at "rd"
 refine⟨z,_,n,ZJ.of ez,rfl,M.Xj W,hn,λy H3 s3 hy ey=>?_⟩
 have Nh:=Ld.trans s3
 walk_at "rd"
 refine⟨o,y,os,_,Nh.seq ho,ZJ.of ey,rfl,rfl,by rw[M.Vn];exact hn,?_,λu H4 s4 hu eu=>?_⟩
 ·intro c hc
  have:=(M.Jo (M.Xj (bs:=bs) W)).bd c hc
  rw[lo]
  exact this
 ·exact q u H4 (Nh.trans s4) (Nh.free hu) eu
theorem zj (n:Nat):Uw 0 n=M.iota n:=by simp[Uw,M.iota]
def Hi (K:PySem.W.Frag):Sp:=QW λa H Q=>∃n:Nat,n≤1000∧a= .int n∧rNew (iL (M.iota n)) H Q
theorem lF (T:Txt K mg):Has P w K mg base (k+1) "first" ["n"] (Hi K):=by
 refine T.ur.has lK len1 (λf cdv A outer s H vs Q E hr h=>?_)
 obtain⟨a0,rfl,h⟩:=h
 refine⟨_,Z6 (ZR (Gn rfl rfl T.Qg rfl T.XJ (Z_ (pv 0) Z8))),?_⟩
 obtain⟨n,hn,rfl,q⟩:=h
 walk_at "rd"
 rw[Int.toNat_natCast,zj]
 exact q.made
theorem ace (x y:Bool):(!decide (V.bl x=V.bl y))=(x != y):=by cases x<;>cases y<;>decide
def CG (K:PySem.W.Frag):Sp:=sp4 λa b c d H Q=>∃(p r:Addr) (ms os:List Bool) (h g:Nat),ZJ K H p (bL ms)∧ZJ K H r (bL os)∧a= .ref p∧b= .ref r∧c= .int h∧d= .int g∧h<ms.length∧g<os.length∧Q (.int ((M.see (ms.getD h false) os.length g:Nat):Int)) H
theorem fZ (T:Txt K mg):Has P w K mg base (k+1) "seen" ["marks","others","heap","other"] (CG K):=by
 refine T.lR.has gn abI (λf cdv A outer s H vs Q E hr h=>?_)
 obtain⟨a0,a1,a2,a3,rfl,h⟩:=h
 refine⟨_,Z6 (ZR (U0 (YM (Zq (ZQ (K:=K)) (pv 0) (pv 2) (λ_ _=>rfl))) (ZS X7 (ZS X7 (ZV (Y4 (K:=K)) rfl T.Za PySem.boot_len (Z_ (pv 1) Z8)) Z5) (pv 3)) (pv 3))),?_⟩
 obtain⟨p,r,ms,os,h,g,hp,hr',rfl,rfl,rfl,rfl,hh,hg,q⟩:=h
 have hl:(bL os).length=os.length:=List.length_map _
 have hab:MP (bL ms) (h:Int)=some (.bl (ms.getD h false)):=by
  have:=Ja (bs:=ms) (k:=(h:Int)) (by omega) (by omega)
  rw[Int.toNat_natCast]at this
  exact this
 walk_at "rd"
 refine⟨p,_,_,_,rfl,rfl,hp,hab,?_⟩
 walk_at "rd"
 refine XR (λc=>?_) (λc=>?_)
 ·walk_at "rd"
  unfold M.see at q
  rw[if_pos c]at q
  rw[hl]
  have e:((os.length-1-g:Nat):Int)=(os.length:Int)-1-(g:Int):=by omega
  rw[e]at q
  exact q
 ·unfold M.see at q
  rw[if_neg c]at q
  exact⟨_,rfl,q⟩
def Ur (K:PySem.W.Frag):Sp:=JL λa b H Q=>∃(p r:Addr) (ms os:List Bool),ZJ K H p (bL ms)∧ZJ K H r (bL os)∧a= .ref p∧b= .ref r∧1≤os.length∧ms.length≤400∧os.length≤400∧rNew (bL (M.jm ms os)) H Q
theorem Jy (T:Txt K mg) (vU:Has P w K mg base k "seen" ["marks","others","heap","other"] (CG K)):Has P w K mg base (k+1) "joined_marks" ["marks","others"] (Ur K):=by
 refine T.Qj.has QJ len2 (λf cdv A outer s H vs Q E hr h=>?_)
 obtain⟨a0,a1,rfl,h⟩:=h
 refine⟨_,Z7 (ZW (i:=2) QJ.nd rfl (Or.inr rfl) (ZV (Y4 (K:=K)) rfl T.Za PySem.boot_len (Z_ (pv 1) Z8)))
  (Z6 (ZR (YF (vars:=["heap"]) (caps:=[0,1,2]) (ZD.of (outer:=Z9 Yg) (N:=["marks","others","b"]) rfl rfl ⟨by decide +kernel⟩) rfl (Xy rfl T.XJ (Z_ (ZS X_ (ZV (Y4 (K:=K)) rfl T.Za PySem.boot_len (Z_ (pv 0) Z8)) (pv 2)) Z8)) ⟨λ_ _ _ _=>⟨(Zy (i:=0) (show List.Nodup (["heap","marks","others","b"]:List Str)by decide +kernel) rfl (Or.inl rfl)),YG,(V3 Bs (Zq (ZQ (K:=K)) (pv 1) (ZS Yb (pv 0) (pv 3)) (λ_ _=>rfl)) (Zq (ZQ (K:=K)) (pv 2) (Z4 vU hr (Z_ (pv 1) (Z_ (pv 2) (Z_ (ZS Yb (pv 0) (pv 3)) (Z_ (ZS Yi (pv 0) (pv 3)) Z8))))) (λ_ _=>rfl)) (Zv _))⟩⟩))),?_⟩
 obtain⟨p,r,ms,os,hp,hr',rfl,rfl,h1,h2,h3,q⟩:=h
 have hl1:(bL ms).length=ms.length:=List.length_map _
 have hl2:(bL os).length=os.length:=List.length_map _
 have hsz:ms.length*os.length≤160000:=Nat.mul_le_mul h2 h3
 walk_at "rd"
 have e0:((bL ms).length:Int)*((bL os).length:Int)=((ms.length*os.length:Nat):Int):=by rw[hl1,hl2];simp
 rw[e0]
 refine⟨by omega,by omega,?_⟩
 rw[Int.toNat_natCast]
 refine Vo (λi=> .bl ((ms.getD (i / os.length) false) != (os.getD (M.see (ms.getD (i / os.length) false) os.length (i % os.length)) false))) (λ_=>true) (by rw[sizeLine_eq];omega) ?_ ?_
 ·intro i t acc ys N Kt hi hacc k1 _
  have s1:=Same.new hacc (.lst ys)
  have hp1:=s1.seq hp
  have hr1:=s1.seq hr'
  rw[Int.zero_add (i:Int)]at *
  have hd:i / os.length<ms.length:=Nat.div_lt_of_lt_mul (by rw[Nat.mul_comm];exact hi)
  have hm:i % os.length<os.length:=Nat.mod_lt _ (by omega)
  have hs:M.see (ms.getD (i / os.length) false) os.length (i % os.length)<os.length:=by unfold M.see;split<;>omega
  have hab:MP (bL ms) ((i / os.length:Nat):Int)=some (.bl (ms.getD (i / os.length) false)):=by
   have:=Ja (bs:=ms) (k:=((i / os.length:Nat):Int)) (Int.natCast_nonneg _) (Int.ofNat_lt.mpr hd)
   rw[Int.toNat_natCast]at this
   exact this
  have hac:MP (bL os) ((M.see (ms.getD (i / os.length) false) os.length (i % os.length):Nat):Int)=some (.bl (os.getD (M.see (ms.getD (i / os.length) false) os.length (i % os.length)) false)):=by
   have:=Ja (bs:=os) (k:=((M.see (ms.getD (i / os.length) false) os.length (i % os.length):Nat):Int)) (Int.natCast_nonneg _) (Int.ofNat_lt.mpr hs)
   rw[Int.toNat_natCast]at this
   exact this
  have ed:((i:Int) / ((bL os).length:Int))=((i / os.length:Nat):Int):=by rw[hl2];exact(Int.natCast_ediv _ _).symm
  have em:((i:Int) % ((bL os).length:Int))=((i % os.length:Nat):Int):=by rw[hl2];exact(Int.natCast_emod _ _).symm
  walk_at "rd"
  refine⟨p,_,_,_,rfl,rfl,hp1,by rw[ed];exact hab,?_⟩
  walk_at "rd"
  refine⟨p,r,ms,os,i / os.length,i % os.length,hp1,hr1,rfl,rfl,congrArg V.int ed,congrArg V.int em,hd,hm,?_⟩
  refine⟨r,_,_,_,rfl,rfl,hr1,hac,?_⟩
  walk_at "rd"
  rw[ace]
  exact k1 _ rfl
 rw[filter_true]
 have e:((List.range (ms.length*os.length)).map λi=>V.bl ((ms.getD (i / os.length) false) != (os.getD (M.see (ms.getD (i / os.length) false) os.length (i % os.length)) false)))=bL (M.jm ms os):=by rw[M.jm,bL,List.map_map];rfl
 rw[e]
 exact q.made
def Ky (K:PySem.W.Frag):Sp:=sp4 λa b c d H Q=>∃(p r o v:Addr) (ms os:List Bool) (w1 w2:List Int) (n:Nat),ZJ K H p (bL ms)∧ZJ K H r (iL w1)∧ZJ K H o (bL os)∧ZJ K H v (iL w2)∧a= .ref p∧b= .ref r∧c= .ref o∧d= .ref v∧M.Wd ms.length n w1∧M.Wd os.length n w2∧n≤1000∧ms.length≤400∧os.length≤400∧rNew (iL (M.jw ms os w1 w2)) H Q
theorem qJ (T:Txt K mg) (XF:Has P w K mg base k "check_word" ["marks","word","n"] (Xg K)) (Ou:Has P w K mg base k "riffled" ["order","marks","word"] (Q_ K)) (vU:Has P w K mg base k "seen" ["marks","others","heap","other"] (CG K)):Has P w K mg base (k+1) "joined" ["marks","word","others","more"] (Ky K):=by
 refine T.zF.has Ef abI (λf cdv A outer s H vs Q E hr h=>?_)
 obtain⟨a0,a1,a2,a3,rfl,h⟩:=h
 refine⟨_,Z7 (YH (Z4 XF hr (Z_ (pv 0) (Z_ (pv 1) (Z_ (ZV (Y4 (K:=K)) rfl T.Za PySem.boot_len (Z_ (pv 1) Z8)) Z8)))))
  (Z7 (ZW (i:=4) Ef.nd rfl (Or.inl rfl) (Z4 Ou hr (Z_ (pv 1) (Z_ (pv 2) (Z_ (pv 3) Z8)))))
  (Z6 (ZR (YF (vars:=["heap","other"]) (caps:=[0,2]) (ZD.of (outer:=Z9 Tt) (N:=["marks","word","others","more","firsts"]) rfl rfl ⟨by decide +kernel⟩) rfl (Bb (K:=K) rfl T.lN (Z_ (pv 4) (Z_ (pv 3) Z8))) ⟨λ_ _ _ _=>⟨(Wq (K:=K) (n:=2) rfl (Y6 (Zy (i:=0) (show List.Nodup (["heap","other","marks","others"]:List Str)by decide +kernel) rfl (Or.inl rfl)) (Y6 (Zy (i:=1) (show List.Nodup (["heap","other","marks","others"]:List Str)by decide +kernel) rfl (Or.inl rfl)) U7))),YG,(ZS Zo (ZS X_ (pv 0) (ZV (Y4 (K:=K)) rfl T.Za PySem.boot_len (Z_ (pv 3) Z8))) (Z4 vU hr (Z_ (pv 2) (Z_ (pv 3) (Z_ (pv 0) (Z_ (pv 1) Z8))))))⟩⟩)))),?_⟩
 obtain⟨p,r,o,v,ms,os,w1,w2,n,hp,hr',ho,hv,rfl,rfl,rfl,rfl,W1,W2,hn,h3,h4,q⟩:=h
 have hl1:(iL w1).length=n:=by rw[List.length_map,W1.len]
 have hl2:(iL w2).length=n:=by rw[List.length_map,W2.len]
 have hlo:(bL os).length=os.length:=List.length_map _
 walk_at "rd"
 rw[hl1]
 refine⟨p,r,ms,w1,n,hp,hr',rfl,rfl,rfl,W1,hn,λH1 s1=>?_⟩
 walk_at "rd"
 refine⟨r,o,v,w1,os,w2,n,s1.seq hr',s1.seq ho,s1.seq hv,rfl,rfl,rfl,W1.len,W2,hn,by omega,λz H2 s2 hz ez=>?_⟩
 have Ld:=s1.trans s2
 have hlz:(iL (M.lay w1 (M.drawn os w2))).length=n:=by rw[List.length_map,M.Vm,M.WQ,W2.len]
 walk_at "rd"
 refine⟨⟨_,ZJ.of ez⟩,⟨_,Ld.seq hv⟩,?_⟩
 refine oJ (xs:=iL (M.lay w1 (M.drawn os w2))) (ys:=iL w2) (λi=> .int (((M.hp w1 (M.dr os w2 i))*os.length+M.see (ms.getD (M.hp w1 (M.dr os w2 i)) false) os.length (M.hp w2 i):Nat):Int)) (by rw[hlz,hl2]) (by rw[hlz];exact Zx hn) (ZJ.of ez) (Ld.seq hv) ?_ ?_
 ·intro i x y t1 t2 T H3 N Kt hx hy s3 hT k1
  have hin:i<n:=by
   have:=(List.getElem?_eq_some_iff.mp hx).1
   rw[hlz]at this
   exact this
  have hd:=M.z_ (bs:=os) W2 hin
  have c1:=M.XQ W1 hd
  have c2:=M.XQ W2 hin
  have ex:x= .int ((M.hp w1 (M.dr os w2 i):Nat):Int):=by
   rw[List.getElem?_map,M.q_ W2,List.getElem?_map,List.getElem?_range hin]at hx
   rw[←Option.some.inj hx,c1.1]
  have ey:y= .int ((M.hp w2 i:Nat):Int):=by
   rw[List.getElem?_map,List.getElem?_eq_getElem (by rw[W2.len];exact hin)]at hy
   rw[c2.1,←Option.some.inj hy]
   simp[List.getD,List.getElem?_eq_getElem (show i<w2.length by rw[W2.len];exact hin)]
  subst ex ey
  have s4:=(Ld.trans s3).trans (Same.new hT (.tup [.int ((M.hp w1 (M.dr os w2 i):Nat):Int),.int ((M.hp w2 i:Nat):Int)]))
  have ho4:=s4.seq ho
  refine⟨T,_,rfl,TY.of Z1,rfl,?_⟩
  walk_at "rd"
  refine⟨p,o,ms,os,_,_,s4.seq hp,ho4,rfl,rfl,rfl,rfl,c1.2,c2.2,?_⟩
  walk_at "rd"
  have k2:=k1 (some (.int ((M.hp w1 (M.dr os w2 i):Nat):Int))) (some (.int ((M.hp w2 i:Nat):Int))) _ (Same.refl _)
  rw[hlo]
  rw[Int.natCast_add,Int.natCast_mul]at k2
  exact k2
 ·rw[hlz]
  intro u H3 s3 hu eu
  refine q u H3 (Ld.trans s3) (Ld.free hu) ?_
  rw[eu,M.jw,W2.len,iL,List.map_map]
  rfl
abbrev Qy:List Value:=[.type "ValueError",.type "Exception",.type "BaseException",.type "object"]
structure Cl (K:PySem.W.Frag) (c r np nm nr nw tm nf nt:Addr) (a b d w t g x:Bool):Prop where
 sub:PySem.W.mroIn K c (.ref r)=some true
 ty:Oc K c
 k1:PySem.W.kitOne K (.ref c) (.ref np)=some a
 k2:PySem.W.kitOne K (.ref c) (.ref nm)=some b
 k3:PySem.W.kitOne K (.ref c) (.ref nr)=some d
 k4:PySem.W.kitOne K (.ref c) (.ref nw)=some w
 k5:PySem.W.kitOne K (.ref c) (.ref tm)=some t
 k6:PySem.W.kitOne K (.ref c) (.ref nf)=some g
 k7:PySem.W.kitOne K (.ref c) (.ref nt)=some x
structure Td (K:PySem.W.Frag) (mg:Str→Option Value) (r np nm nr nw tm nf nt:Addr):Prop where
 m0:mg "RiftError"=some (.ref r)
 m1:mg "NoPack"=some (.ref np)
 m2:mg "NoMarks"=some (.ref nm)
 m3:mg "NoRiffle"=some (.ref nr)
 m4:mg "NoWay"=some (.ref nw)
 m5:mg "TooMany"=some (.ref tm)
 m6:mg "NoFigures"=some (.ref nf)
 m7:mg "NoText"=some (.ref nt)
 x0:PySem.W.excIn K r Qy "ValueError.__new__"=true
 x1:PySem.W.excIn K np Qy "ValueError.__new__"=true
 x2:PySem.W.excIn K nm Qy "ValueError.__new__"=true
 x3:PySem.W.excIn K nr Qy "ValueError.__new__"=true
 x4:PySem.W.excIn K nw Qy "ValueError.__new__"=true
 x5:PySem.W.excIn K tm Qy "ValueError.__new__"=true
 x6:PySem.W.excIn K nf Qy "ValueError.__new__"=true
 x7:PySem.W.excIn K nt Qy "ValueError.__new__"=true
 c1:Cl K np r np nm nr nw tm nf nt true false false false false false false
 c3:Cl K nr r np nm nr nw tm nf nt false false true false false false false
 c4:Cl K nw r np nm nr nw tm nf nt false false false true false false false
 c5:Cl K tm r np nm nr nw tm nf nt false false false false true false false
 c7:Cl K nt r np nm nr nw tm nf nt false false false false false false true
def vR (φ:V→V→V→Hp→VK→XK→Prop):Sp:=λvs H Q E=>∃a b c,vs=[a,b,c]∧φ a b c H Q E
theorem Ed {φ:V→V→V→Hp→VK→XK→Prop} {x y z:Str}:∀vs H Q E,vR φ vs H Q E→vs.length=[x,y,z].length:=λ_ _ _ _ ⟨_,_,_,e,_⟩=>by rw[e];rfl
def am6 (φ:V→V→V→V→Hp→VK→XK→Prop):Sp:=λvs H Q E=>∃a b c d,vs=[a,b,c,d]∧φ a b c d H Q E
theorem Q9 {X:Cx} {K:PySem.W.Frag} (h:X.K=K:=by rfl):Xv X (.builtin "isinstance") (λxs H Q=>∃a C y b,H a=some (IK a C)∧Oc K C∧((∃D,xs=[.ref a,.ref D]∧y= .ref D)∨∃n,xs=[.ref a,.ty n]∧y= .type n)∧PySem.W.kitOne K (.ref C) y=some b∧Q (.bl b) H):=h▸wW
def jz (h:Nat) (n:Int) (xs:List V):Prop:=(decide ((xs.length:Int)=n) && xs.all (uf h))=false
theorem ud {h:Nat} {n:Int} {xs:List V} (e:(xs.length:Int)≠n):jz h n xs:=by
 unfold jz
 rw[decide_eq_false e,Bool.false_and]
theorem fY {h:Nat} {n:Int} {xs:List V} {v:V} (nv:uf h v=false) (m:v∈xs):jz h n xs:=by
 unfold jz
 rw[Bool.and_eq_false_iff]
 right
 rw[Bool.eq_false_iff]
 intro z
 have:=List.all_eq_true.mp z v m
 rw[nv]at this
 cases this
def Pz (K:PySem.W.Frag) (nr:Addr):Sp:=vR λa b c H _ E=>∃(p q:Addr) (bs:List Bool) (xs:List V) (n:Int),ZJ K H p (bL bs)∧ZJ K H q xs∧a= .ref p∧b= .ref q∧c= .int n∧xs.all Xx=true∧xs.length≤1000∧jz bs.length n xs∧∀H',Same H H'→E (.ref nr) none H'
theorem Hh (T:Txt K mg) {r np nm nr nw tm nf nt:Addr} (e:Td K mg r np nm nr nw tm nf nt) (kb:K.In base) (KD:Has P w K mg base k "is_word" ["marks","word","n"] (Nj K)):TF P w K mg base (k+1) "check_word" ["marks","word","n"] (Pz K nr):=by
 refine T.Rg.aad N8 Ed (λf cdv A outer s H vs Q E hr h=>?_)
 obtain⟨a0,a1,a2,rfl,h⟩:=h
 refine⟨_,Z6 (Zn (Yr (YM (Z4 KD hr (Z_ (pv 0) (Z_ (pv 1) (Z_ (pv 2) Z8))))))
  (Z6 (W8 (Uv (mro:=Qy) (nid:="ValueError.__new__") kb e.m3 e.x3) PySem.F.excBase_ValueError rfl rfl TJ (Z_ ZK Z8)))
  (Zz)),?_⟩
 obtain⟨p,q,bs,xs,n,hS,hR,rfl,rfl,rfl,hf,hl,bad,z⟩:=h
 walk_at "rd"
 refine⟨p,q,bs,_,_,hS,hR,rfl,rfl,rfl,hf,hl,λH1 s1=>?_⟩
 unfold jz at bad
 rw[bad]
 walk_at "rd"
 exact z _ s1
def J1 (K:PySem.W.Frag) (nr:Addr):Sp:=vR λa b c H _ E=>∃(o p q:Addr) (os:List Int) (bs:List Bool) (xs:List V),ZJ K H o (iL os)∧ZJ K H p (bL bs)∧ZJ K H q xs∧a= .ref o∧b= .ref p∧c= .ref q∧xs.all Xx=true∧xs.length≤1000∧jz bs.length os.length xs∧∀H',Same H H'→E (.ref nr) none H'
theorem zf (T:Txt K mg) {r np nm nr nw tm nf nt:Addr} (e:Td K mg r np nm nr nw tm nf nt) (kb:K.In base) (XF:Has P w K mg base k "check_word" ["marks","word","n"] (Xg K)) (Ni:Has P w K mg base k "laid" ["one","other"] (LC K)) (Yp:Has P w K mg base k "places_drawn_from" ["marks","word"] (XD K)) (Q8:TF P w K mg base k "check_word" ["marks","word","n"] (Pz K nr)):TF P w K mg base (k+1) "riffled" ["order","marks","word"] (J1 K nr):=by
 refine T.KQ.aad Hr Ed (λf cdv A outer s H vs Q E hr h=>?_)
 obtain⟨a0,a1,a2,rfl,h⟩:=h
 refine⟨_,Z7 (YH (Zc Q8 hr Zb.Gw (Z_ (pv 1) (Z_ (pv 2) (Z_ (ZV (Y4 (K:=K)) rfl T.Za PySem.boot_len (Z_ (pv 0) Z8)) Z8)))))
  (Z6 (ZR (Z4 Ni hr (Z_ (pv 0) (Z_ (Z4 Yp hr (Z_ (pv 1) (Z_ (pv 2) Z8))) Z8))))),?_⟩
 obtain⟨o,p,q,os,bs,xs,ho,hp,hq,rfl,rfl,rfl,hf,hl,bad,z⟩:=h
 have hl1:(iL os).length=os.length:=List.length_map _
 walk_at "rd"
 rw[hl1]
 exact⟨p,q,bs,xs,_,hp,hq,rfl,rfl,rfl,hf,hl,bad,z⟩
end
section
variable {P:Program} {w:World} {K:PySem.W.Frag} {mg:Str→Option Value} {base:Heap} {k:Nat}
def isB:V→Bool
 | .bl _=>true
 |_=>false
def Py (K:PySem.W.Frag):Sp:=QW λa H Q=>∃(p:Addr) (bs:List Bool),ZJ K H p (bL bs)∧a= .ref p∧1≤bs.length∧bs.length≤400∧∀H',Same H H'→Q (.bl true) H'
theorem zc (T:Txt K mg):Has P w K mg base (k+1) "is_marks" ["marks"] (Py K):=by
 refine T.Hx.has zu len1 (λf cdv A outer s H vs Q E hr h=>?_)
 obtain⟨a0,rfl,h⟩:=h
 refine⟨_,Z7 (Zn (Yr (TX Vx Vx Z5 (ZV (Y4 (K:=K)) rfl T.Za PySem.boot_len (Z_ (pv 0) Z8)) (Yx (v:=.int 400) rfl T.VP.choose_spec ⟨_,rfl⟩)))
  (Z6 (ZR U3))
  (Zz))
  (Z6 (ZR (ZV (k_all (K:=K) rfl) rfl T.zy PyProof.Rows.boot_all (Z_ (YF (vars:=["mark"]) (caps:=[]) (ZD.of (outer:=Z9 Wf) (N:=["marks"]) rfl rfl ⟨by decide +kernel⟩) rfl (YX (K:=K) (pv 0)) ⟨λ_ _ _ _=>⟨(Zy (i:=0) (show List.Nodup (["mark"]:List Str)by decide +kernel) rfl (Or.inl rfl)),YG,(ZV (Jc (K:=K)) rfl T.YZ PyProof.Rows.boot_isinstance (Z_ (pv 0) (Z_ (DN (v:=.ty "bool") rfl T.wg PyProof.Rows.boot_bool rfl) Z8)))⟩⟩) Z8)))),?_⟩
 obtain⟨p,bs,hS,rfl,h1,h2,q⟩:=h
 have hl:(bL bs).length=bs.length:=List.length_map _
 walk_at "rd"
 rw[hl,decide_eq_true (show(1:Int)≤(bs.length:Int)by omega)]
 walk_at "rd"
 rw[decide_eq_true (show(bs.length:Int)≤400 by omega)]
 walk_at "rd"
 refine⟨⟨_,hS⟩,?_⟩
 refine Wa (λi=> .bl true) (λ_=>true) (Zx (by omega)) hS ?_ ?_
 ·intro i v t acc ys N Kt hi hv hacc k1 _
  obtain⟨b,rfl⟩:∃b,v= .bl b:=by
   rw[List.getElem?_map]at hv
   cases e:bs[i]? with
   |none=>rw[e]at hv;cases hv
   |some b=>rw[e]at hv;cases hv;exact⟨b,rfl⟩
  walk_at "rd"
  refine⟨_,_,_,_,rfl,.bl _,rfl,?_⟩
  exact k1 _ rfl
 ·rw[filter_true,hl]
  intro l hl'
  have e:((List.range bs.length).map λ_=>V.bl true)=bL (List.replicate bs.length true):=by
   rw[bL,List.map_replicate,List.map_const',List.length_range]
  rw[e]
  refine⟨l,_,rfl,ZJ.of Z1,?_⟩
  have e2:(List.replicate bs.length true).all id=true:=by simp
  rw[e2]
  exact q _ (Same.new hl' _)
def Yz (c r:Addr):List (Str×V):=[("cards",.ref c),("riffles",.ref r)]
def Yo (K:PySem.W.Frag) (C:Addr):Sp:=QW λa H Q=>∃(p dx c r:Addr) (cs:List Int),H p=some (.ins C dx (Yz c r))∧ZJ K H c (iL cs)∧a= .ref p∧cs.length≤1000∧rNew (iL cs) H Q
theorem FQ (T:Txt K mg) {C:Addr} (U:Qe K mg C):K1 P w K mg base (k+1) C "order" ["self"] (Yo K C):=by
 refine U.Mg.has Gg len1 (λf cdv A outer s H vs Q E hr h=>?_)
 obtain⟨a0,rfl,h⟩:=h
 refine⟨_,Z6 (ZR (Zd (Uc (K:=K)) rfl T.Qg PyProof.Rows.boot_list (Z_ (Vw (K:=K) (pv 0) rfl) Z8))),?_⟩
 obtain⟨p,dx,c,r,cs,hp,hc,rfl,hl,q⟩:=h
 walk_at "rd"
 refine⟨p,C,dx,Yz c r,.ref c,rfl,hp,U.cl,U.U5,rfl,?_⟩
 walk_at "rd"
 exact q.made
def Keep (M:List Addr) (H H':Hp):Prop:=∀a o,a∉M→H a=some o→H' a=some o
theorem _root_.L2.Same.keep {M:List Addr} {H H':Hp} (s:Same H H'):Keep M H H':=λa o _ h=>s a o h
theorem Keep.trans {M:List Addr} {H H1 H2:Hp} (a:Keep M H H1) (b:Keep M H1 H2):Keep M H H2:=λc o hc h=>b c o hc (a c o hc h)
theorem Keep.mono {M N:List Addr} {H H1:Hp} (a:Keep M H H1) (s:∀x∈M,x∈N):Keep N H H1:=λc o hc h=>a c o (λz=>hc (s c z)) h
theorem Keep.upd {M:List Addr} {H H1:Hp} {p:Addr} {o:HO} (e:upd H p o=H1) (hp:p∈M):Keep M H H1∧H1 p=some o:=by
 subst e
 exact⟨λc u hc h=>by rw[Zw (show c≠p from λz=>hc (by rw[z];exact hp))];exact h,Z1⟩
theorem Keep.free {M:List Addr} {H H1:Hp} (k:Keep M H H1) {a:Addr} (hM:∀x∈M,H1 x≠none) (h:H1 a=none):H a=none:=by
 cases e:H a with
 |none=>rfl
 |some o=>exact absurd (k a o (λz=>hM a z h) e) (by rw[h];simp)
def Vb (K:PySem.W.Frag) (C:Addr):Sp:=JL λa b H Q=>∃(p dx:Addr) (n:Nat),H p=some (.ins C dx [])∧a= .ref p∧b= .int n∧1≤n∧n≤60 ∧
 ∀c r H',H c=none→H r=none→c≠r→Keep [p] H H'→H' p=some (.ins C dx (Yz c r))→H' c=some (.lst (iL (M.iota n)))→H' r=some (.lst [])→Q .non H'
theorem Ly (T:Txt K mg) {C:Addr} (U:Qe K mg C) (Tj:Has P w K mg base k "is_whole" ["thing"] (Sw K)) (Cz:Has P w K mg base k "first" ["n"] (Hi K)):Ob P w K mg base (k+1) "Pack" C ["self","n"] (Vb K C):=by
 refine U.Ut.Aq Rv len2 (λf cdv A outer s H vs Q E hr h=>?_)
 obtain⟨a0,a1,rfl,h⟩:=h
 refine⟨_,Z7 (Zn (PW.pt (QX (Yr (YM (Z4 Tj hr (Z_ (pv 1) Z8)))) (Rp (Yr (TX Vx Vx Z5 (pv 1) (Yx (v:=.int 60) rfl T.Rc.choose_spec ⟨_,rfl⟩))))))
  (Z6 (R0))
  (Zz))
  (Z7 (U6 (K:=K) (pv 0) (Z4 Cz hr (Z_ (pv 1) Z8)) rfl)
  (Z6 (U6 (K:=K) (pv 0) (Yh Z8) rfl))),?_⟩
 obtain⟨p,dx,n,hp,rfl,rfl,h1,h2,q⟩:=h
 walk_at "rd"
 refine⟨.flat rfl,?_⟩
 walk_at "rd"
 rw[decide_eq_true (show(1:Int)≤(n:Int)by omega)]
 walk_at "rd"
 rw[decide_eq_true (show(n:Int)≤60 by omega)]
 walk_at "rd"
 refine⟨n,by omega,rfl,λc H1 s1 hc ec=>?_⟩
 walk_at "rd"
 refine⟨p,C,dx,[],rfl,s1 _ _ hp,U.cl,U.U5,by decide,?_⟩
 have hcp:c≠p:=λe=>ZF hp hc e.symm
 generalize e2:upd H1 p _=H2
 have ep2:H2 p=some (.ins C dx [("cards",.ref c)]):=by rw[←e2];exact Z1
 have k2:∀a o,a≠p→H1 a=some o→H2 a=some o:=λa o ha h=>by rw[←e2,Zw ha];exact h
 clear e2
 walk_at "rd"
 intro r hr2
 generalize e3:upd H2 r _=H3
 obtain⟨s3,er⟩:=ZG hr2 e3
 clear e3
 walk_at "rd"
 have hrp:r≠p:=λe=>ZF ep2 hr2 e.symm
 refine⟨p,C,dx,_,rfl,s3 _ _ ep2,U.cl,U.V5,by simp,?_⟩
 generalize e4:upd H3 p _=H4
 have ep4:H4 p=some (.ins C dx (Yz c r)):=by rw[←e4];exact Z1
 have k4:∀a o,a≠p→H3 a=some o→H4 a=some o:=λa o ha h=>by rw[←e4,Zw ha];exact h
 have hcr:c≠r:=λe=>ZF (k2 _ _ hcp ec) hr2 e
 have hr0:H r=none:=by
  cases e:H r with
  |none=>rfl
  |some o=>exact absurd (k2 _ _ hrp (s1 _ _ e)) (by rw[hr2];simp)
 refine q c r H4 hc hr0 hcr (λa o ha h=>?_) ep4 (k4 _ _ hcp (s3 _ _ (k2 _ _ hcp ec))) (k4 _ _ hrp er)
 have ha':a≠p:=λe=>ha (by rw[e];exact List.mem_cons_self)
 exact k4 _ _ ha' (s3 _ _ (k2 _ _ ha' (s1 _ _ h)))
def Px (K:PySem.W.Frag) (C:Addr):Sp:=oY λa b d H Q=>∃(p dx c r m v:Addr) (rs:List V) (cs:List Int) (bs:List Bool) (ws:List Int) (n:Nat),H p=some (.ins C dx (Yz c r))∧H r=some (.lst rs)∧H c=some (.lst (iL cs))∧H m=some (.lst (bL bs))∧H v=some (.lst (iL ws))∧r≠m∧r≠v∧a= .ref p∧b= .ref m∧d= .ref v ∧
 cs.length=n∧M.Wd bs.length n ws∧1≤bs.length∧bs.length≤400∧n≤60∧rs.length≤100 ∧
 ∀c' t m' v' H',H c'=none→H t=none→H m'=none→H v'=none→Keep [p,r] H H'→H' p=some (.ins C dx (Yz c' r))→H' c'=some (.lst (iL (M.lay cs (M.drawn bs ws)))) →
  H' r=some (.lst (rs++[.ref t]))→H' t=some (.tup [.ref m',.ref v'])→H' m'=some (.lst (bL bs))→H' v'=some (.lst (iL ws))→rNew (iL (M.lay cs (M.drawn bs ws))) H' Q
theorem Jx (T:Txt K mg) {C:Addr} (U:Qe K mg C) (Ng:Has P w K mg base k "is_marks" ["marks"] (Py K)) (Ou:Has P w K mg base k "riffled" ["order","marks","word"] (Q_ K)) (Zr:K1 P w K mg base k C "order" ["self"] (Yo K C)):Tw P w K mg base (k+1) C "riffle" ["self","marks","word"] (Px K C):=by
 refine U.R6.Aq P_ Gq (λf cdv A outer s H vs Q E hr h=>?_)
 obtain⟨a0,a1,a2,rfl,h⟩:=h
 refine⟨_,Z7 (Zn (Yr (YM (Z4 Ng hr (Z_ (pv 1) Z8))))
  (Z6 (R0))
  (Zz))
  (Z7 (U6 (K:=K) (pv 0) (Z4 Ou hr (Z_ (Vw (K:=K) (pv 0) rfl) (Z_ (pv 1) (Z_ (pv 2) Z8)))) rfl)
  (Z7 (YH (Qq (K:=K) PySem.F.plainAttrs_list PySem.F.slot_list_append PySem.F.type_list_append Xk (Vw (K:=K) (pv 0) rfl) (Z_ (TV (Z_ (Zd (Uc (K:=K)) rfl T.Qg PyProof.Rows.boot_list (Z_ (pv 1) Z8)) (Z_ (Zd (Uc (K:=K)) rfl T.Qg PyProof.Rows.boot_list (Z_ (pv 2) Z8)) Z8))) Z8)))
  (Z6 (ZR (Yw (pv 0) U.cl Zr hr))))),?_⟩
 obtain⟨p,dx,c,r,m,v,rs,cs,bs,ws,n,hp,hr',hc,hm,hv,nrm,nrv,rfl,rfl,rfl,lc,W,b1,b2,hn,lr,q⟩:=h
 have hpr:p≠r:=Fw hp hr' (by simp)
 have hpm:m≠p:=Fw hm hp (by simp)
 have hpv:v≠p:=Fw hv hp (by simp)
 have lw:ws.length=n:=W.len
 walk_at "rd"
 refine⟨m,bs,ZJ.of hm,rfl,b1,b2,λH1 s1=>?_⟩
 walk_at "rd"
 refine⟨p,C,dx,Yz c r,.ref c,rfl,s1 _ _ hp,U.cl,U.U5,rfl,?_⟩
 walk_at "rd"
 refine⟨c,m,v,cs,bs,ws,n,ZJ.of (s1 _ _ hc),ZJ.of (s1 _ _ hm),ZJ.of (s1 _ _ hv),rfl,rfl,rfl,lc,W,by omega,by omega,λc' H2 s2 hc' ec'=>?_⟩
 have s12:=s1.trans s2
 have aaF:c'≠p:=λe=>ZF (s1 _ _ hp) hc' e.symm
 have aeu:c'≠r:=λe=>ZF (s1 _ _ hr') hc' e.symm
 walk_at "rd"
 refine⟨p,C,dx,Yz c r,rfl,s12 _ _ hp,U.cl,U.U5,by simp[Yz],?_⟩
 generalize e3:upd H2 p _=H3
 obtain⟨k3,qI⟩:=Keep.upd (M:=[p]) e3 List.mem_cons_self
 have qI:H3 p=some (.ins C dx (Yz c' r)):=qI
 clear e3
 have o3:∀a o,a≠p→H2 a=some o→H3 a=some o:=λa o ha h=>k3 a o (by simp[ha]) h
 have cu:H3 r=some (.lst rs):=o3 _ _ (Ne.symm hpr) (s12 _ _ hr')
 walk_at "rd"
 refine⟨p,C,dx,Yz c' r,.ref r,rfl,qI,U.cl,U.V5,rfl,?_⟩
 walk_at "rd"
 refine⟨.inl ⟨rfl,_,ZJ.of cu⟩,?_⟩
 have em3:H3 m=some (.lst (bL bs)):=o3 _ _ hpm (s12 _ _ hm)
 walk_at "rd"
 refine⟨m,_,rfl,.inl (ZJ.of em3),?_⟩
 intro m' hm'
 generalize e4:upd H3 m' _=H4
 obtain⟨s4,em4⟩:=ZG hm' e4
 clear e4
 have ev4:H4 v=some (.lst (iL ws)):=s4 _ _ (o3 _ _ hpv (s12 _ _ hv))
 walk_at "rd"
 refine⟨v,_,rfl,.inl (ZJ.of ev4),?_⟩
 intro v' hv'
 generalize e5:upd H4 v' _=H5
 obtain⟨s5,ev5⟩:=ZG hv' e5
 clear e5
 walk_at "rd"
 intro t ht
 generalize e6:upd H5 t _=H6
 obtain⟨s6,et6⟩:=ZG ht e6
 clear e6
 have s36:=s4.trans (s5.trans s6)
 walk_at "rd"
 refine⟨r,rs,_,rfl,rfl,s36 _ _ cu,VL (by omega),?_⟩
 generalize e7:upd H6 r _=H7
 obtain⟨k7,er7⟩:=Keep.upd (M:=[p,r]) e7 (by simp)
 have o7:∀a o,a≠r→H6 a=some o→H7 a=some o:=λa o ha h=>by rw[←e7,Zw ha];exact h
 clear e7
 have aev:m'≠r:=λe=>ZF cu hm' e.symm
 have aew:v'≠r:=λe=>ZF (s4 _ _ cu) hv' e.symm
 have hrt:t≠r:=λe=>ZF ((s4.trans s5) _ _ cu) ht e.symm
 have ep7:=o7 _ _ hpr (s36 _ _ qI)
 have ec7:H7 c'=some (.lst (iL (M.lay cs (M.drawn bs ws)))):=o7 _ _ aeu (s36 _ _ (o3 _ _ aaF ec'))
 walk_at "rd"
 refine⟨p,dx,Yz c' r,rfl,ep7,rfl,?_⟩
 walk_at "rd"
 refine⟨p,dx,c',r,_,ep7,ZJ.of ec7,rfl,by rw[M.Vm,M.WQ,lw];omega,?_⟩
 have k03:Keep [p,r] H H3:=(s12.keep (M:=[p,r])).trans (k3.mono (by simp))
 have ne3:∀x∈[p,r],H3 x≠none:=by simp[qI,cu]
 have k04:=k03.trans (s4.keep (M:=[p,r]))
 have k05:=k04.trans (s5.keep (M:=[p,r]))
 refine q c' t m' v' H7 (s1.free hc') (k05.free (by simp[(s4.trans s5) _ _ qI,(s4.trans s5) _ _ cu]) ht) (k03.free ne3 hm') (k04.free (by simp[s4 _ _ qI,s4 _ _ cu]) hv') (k05.trans ((s6.keep (M:=[p,r])).trans k7)) ep7 ec7 er7 (o7 _ _ hrt et6) (o7 _ _ aev ((s5.trans s6) _ _ em4)) (o7 _ _ aew (s6 _ _ ev5))
def Lx (K:PySem.W.Frag) (C:Addr):Sp:=QW λa H Q=>∃(p dx c r t m v:Addr) (rs:List V) (cs:List Int) (bs:List Bool) (ws:List Int) (n:Nat),H p=some (.ins C dx (Yz c r))∧H r=some (.lst (rs++[.ref t]))∧H t=some (.tup [.ref m,.ref v])∧H c=some (.lst (iL cs))∧r≠c∧H m=some (.lst (bL bs))∧r≠m∧H v=some (.lst (iL ws))∧r≠v∧a= .ref p ∧
 cs.length=n∧M.Wd bs.length n ws∧bs.length≤400∧n≤60∧rs.length≤100 ∧
 ∀c' H',H c'=none→Keep [p,r] H H'→H' p=some (.ins C dx (Yz c' r))→H' c'=some (.lst (iL (M.lay cs (M.JH n (M.drawn bs ws))))) →
  H' r=some (.lst rs)→rNew (iL (M.lay cs (M.JH n (M.drawn bs ws)))) H' Q
theorem FP (T:Txt K mg) {C:Addr} (U:Qe K mg C) (Hg:Has P w K mg base k "undone" ["order","marks","word"] (Kz K)) (Zr:K1 P w K mg base k C "order" ["self"] (Yo K C)):Tw P w K mg base (k+1) C "undo" ["self"] (Lx K C):=by
 refine U.Qd.Aq Ue len1 (λf cdv A outer s H vs Q E hr h=>?_)
 obtain⟨a0,rfl,h⟩:=h
 refine⟨_,Z7 (Zn (Yr (uP (K:=K) (Vw (K:=K) (pv 0) rfl)))
  (Z6 (R0))
  (Zz))
  (Z7 (ZW (i:=1) Ue.nd rfl (Or.inl rfl) (cT (K:=K) PySem.F.plainAttrs_list PySem.F.slot_list_pop PySem.F.type_list_pop pA (Vw (K:=K) (pv 0) rfl)))
  (Z7 (U6 (K:=K) (pv 0) (Z4 Hg hr (Z_ (Vw (K:=K) (pv 0) rfl) (Z_ (Zq (W9 (K:=K)) (pv 1) Z5 (λ_ _=>rfl)) (Z_ (Zq (W9 (K:=K)) (pv 1) Z5 (λ_ _=>rfl)) Z8)))) rfl)
  (Z6 (ZR (Yw (pv 0) U.cl Zr hr))))),?_⟩
 obtain⟨p,dx,c,r,t,m,v,rs,cs,bs,ws,n,hp,hr',ht,hc,n1,hm,n2,hv,n3,rfl,lc,W,b2,hn,lr,q⟩:=h
 have hpr:p≠r:=Fw hp hr' (by simp)
 have htr:t≠r:=Fw ht hr' (by simp)
 have htp:t≠p:=Fw ht hp (by simp)
 walk_at "rd"
 refine⟨p,C,dx,Yz c r,.ref r,rfl,hp,U.cl,U.V5,rfl,?_⟩
 refine⟨true,.inl ⟨_,ZJ.of hr',by simp⟩,?_⟩
 walk_at "rd"
 refine⟨p,C,dx,Yz c r,.ref r,rfl,hp,U.cl,U.V5,rfl,?_⟩
 walk_at "rd"
 refine⟨.inl ⟨rfl,_,ZJ.of hr'⟩,?_⟩
 walk_at "rd"
 refine⟨r,_,.ref t,rfl,rfl,hr',by simp,?_⟩
 rw[List.dropLast_concat]
 generalize e1:upd H r _=H1
 obtain⟨k1,er1⟩:=Keep.upd (M:=[p,r]) e1 (by simp)
 have o1:∀a o,a≠r→H a=some o→H1 a=some o:=λa o ha h=>by rw[←e1,Zw ha];exact h
 clear e1
 have ep1:=o1 _ _ hpr hp
 have et1:=o1 _ _ htr ht
 walk_at "rd"
 refine⟨p,C,dx,Yz c r,.ref c,rfl,ep1,U.cl,U.U5,rfl,?_⟩
 walk_at "rd"
 refine⟨t,_,_,_,rfl,rfl,TY.of et1,rfl,?_⟩
 walk_at "rd"
 refine⟨t,_,_,_,rfl,rfl,TY.of et1,rfl,?_⟩
 walk_at "rd"
 refine⟨c,m,v,cs,bs,ws,n,ZJ.of (o1 _ _ (Ne.symm n1) hc),ZJ.of (o1 _ _ (Ne.symm n2) hm),ZJ.of (o1 _ _ (Ne.symm n3) hv),rfl,rfl,rfl,lc,W,by omega,by omega,λc' H2 s2 hc' ec'=>?_⟩
 have aaF:c'≠p:=λe=>ZF ep1 hc' e.symm
 walk_at "rd"
 refine⟨p,C,dx,Yz c r,rfl,s2 _ _ ep1,U.cl,U.U5,by simp[Yz],?_⟩
 generalize e3:upd H2 p _=H3
 obtain⟨k3,qI⟩:=Keep.upd (M:=[p,r]) e3 (by simp)
 have qI:H3 p=some (.ins C dx (Yz c' r)):=qI
 have o3:∀a o,a≠p→H2 a=some o→H3 a=some o:=λa o ha h=>by rw[←e3,Zw ha];exact h
 clear e3
 have ec3:=o3 _ _ aaF ec'
 walk_at "rd"
 refine⟨p,dx,Yz c' r,rfl,qI,rfl,?_⟩
 walk_at "rd"
 refine⟨p,dx,c',r,_,qI,ZJ.of ec3,rfl,by rw[M.Vm,(M.Jo (M.Xj W)).len];omega,?_⟩
 exact q c' H3 (k1.free (by simp[ep1,er1]) hc') (k1.trans ((s2.keep (M:=[p,r])).trans k3)) qI ec3 (o3 _ _ (Ne.symm hpr) (s2 _ _ er1))
theorem Cy {ns:List Int} {i:Nat} {x:V} (h:(iL ns)[i]? =some x):i<ns.length∧x= .int (ns.getD i 0):=by
 rw[List.getElem?_map]at h
 cases e:ns[i]? with
 |none=>rw[e]at h;cases h
 |some c =>
  rw[e]at h
  cases h
  exact⟨(List.getElem?_eq_some_iff.mp e).1,by rw[List.getD,e];rfl⟩
theorem Nf {α β:Type} {R:α→β→Prop}:∀{xs:List α} {ys:List β},Paired R xs ys→∀{i:Nat} {x:α},xs[i]? =some x→∃y,ys[i]? =some y∧R x y
 |_,_,.nil,_,_,h=>by simp at h
 |_,_,.cons r _,0,_,h=>by simp at h;subst h;exact⟨_,rfl,r⟩
 |_,_,.cons _ t,i+1,_,h=>by
  obtain⟨y,h1,h2⟩:=Nf t (i:=i) (by simpa using h)
  exact⟨y,by simpa using h1,h2⟩
theorem Hf {α β:Type} {R:α→β→Prop}:∀{xs:List α} {ys:List β},Paired R xs ys→Paired R xs.reverse ys.reverse
 |_,_,.nil=> .nil
 |_,_,.cons r t=>by rw[List.reverse_cons,List.reverse_cons];exact(Hf t).snoc r
abbrev Rf:=List Bool×List Int
def Row (H:Hp) (v:V) (m:Rf):Prop:=∃t a b,v= .ref t∧H t=some (.tup [.ref a,.ref b])∧H a=some (.lst (bL m.1))∧H b=some (.lst (iL m.2))
def am7 (H0 H:Hp) (acc:Addr) (v:V) (m:Rf):Prop:=∃t a b,v= .ref t∧H0 t=none∧t≠acc∧H t=some (.tup [.ref a,.ref b])∧H0 a=none∧a≠acc∧H a=some (.lst (bL m.1))∧H0 b=none∧b≠acc∧H b=some (.lst (iL m.2))
def Good (n:Nat) (m:Rf):Prop:=M.Wd m.1.length n m.2∧1≤m.1.length∧m.1.length≤400
def GdL (n:Nat) (qs:List Rf):Prop:=∀m∈qs,M.Gd n m∧m.1.length≤400
theorem GdL.gd {n:Nat} {qs:List Rf} (h:GdL n qs):∀m∈qs,M.Gd n m:=λm hm=>(h m hm).1
def aex (m:Rf) (H:Hp) (Q:VK):Prop:=∀t a b H',Same H H'→H t=none→H a=none→H b=none→a≠b→H' t=some (.tup [.ref a,.ref b])→H' a=some (.lst (bL m.1))→H' b=some (.lst (iL m.2))→Q (.ref t) H'
structure WhP (C:Addr) (H:Hp) (p dx c r:Addr) (vs:List V) (qs:List Rf) (cs:List Int) (n:Nat):Prop where
 hp:H p=some (.ins C dx (Yz c r))
 hc:H c=some (.lst (iL cs))
 lc:cs.length=n
 hr:H r=some (.lst vs)
 pv:Paired (Row H) vs qs
 hn:n≤60
 gd:GdL n qs
 hv:vs.length≤100
def N7 (K:PySem.W.Frag) (C:Addr):Sp:=QW λa H Q=>∃(p dx c r:Addr) (vs:List V) (qs:List Rf) (cs:List Int) (n:Nat),WhP C H p dx c r vs qs cs n∧a= .ref p∧(M.jl n qs).1.length≤400∧aex (M.jl n qs) H Q
theorem G_ (T:Txt K mg) {C:Addr} (U:Qe K mg C) (G9:Has P w K mg base k "joined" ["marks","word","others","more"] (Ky K)) (Ti:Has P w K mg base k "joined_marks" ["marks","others"] (Ur K)):Tw P w K mg base (k+1) C "whole" ["self"] (N7 K C):=by
 refine U.Rb.Aq Zk len1 (λf cdv A outer s H vs Q E hr h=>?_)
 obtain⟨a0,rfl,h⟩:=h
 refine⟨_,Z7 (ZW (i:=1) Zk.nd rfl (Or.inl rfl) (Yh (Z_ U3 Z8)))
  (Z7 (ZW (i:=2) Zk.nd rfl (Or.inl rfl) (ZS Jf (Yh (Z_ Z5 Z8)) (ZV (Y4 (K:=K)) rfl T.Za PySem.boot_len (Z_ (Vw (K:=K) (pv 0) rfl) Z8))))
  (Z7 (Xa PassesOwn.never rfl (YX (K:=K) (Vw (K:=K) (pv 0) rfl)) (Wq (K:=K) (n:=2) rfl (Y6 (Zy (i:=3) Zk.nd rfl (Or.inl rfl)) (Y6 (Zy (i:=4) Zk.nd rfl (Or.inl rfl)) U7)))
  (Z7 (Zn (Zu Fv (ZS X_ (ZV (Y4 (K:=K)) rfl T.Za PySem.boot_len (Z_ (pv 1) Z8)) (ZV (Y4 (K:=K)) rfl T.Za PySem.boot_len (Z_ (pv 3) Z8))) (Yx (v:=.int 400) rfl T.VP.choose_spec ⟨_,rfl⟩) (Zv _))
   (Z6 (R0))
   (Zz))
   (Z7 (ZW (i:=2) Zk.nd rfl (Or.inl rfl) (Z4 G9 hr (Z_ (pv 1) (Z_ (pv 2) (Z_ (pv 3) (Z_ (pv 4) Z8))))))
   (Z6 (ZW (i:=1) Zk.nd rfl (Or.inl rfl) (Z4 Ti hr (Z_ (pv 1) (Z_ (pv 3) Z8))))))))
  (Z6 (ZR (TV (Z_ (pv 1) (Z_ (pv 2) Z8))))))),?_⟩
 obtain⟨p,dx,c,r,vs,qs,cs,n,⟨hp,hc,lc,hr',pv,hn,gd,hv⟩,rfl,tot,q⟩:=h
 have lvq:=Paired.length pv
 walk_at "rd"
 intro g1 hg1
 generalize e1:upd H g1 _=H1
 obtain⟨s1,eg1⟩:=ZG hg1 e1
 clear e1
 walk_at "rd"
 intro g2 hg2
 generalize e2:upd H1 g2 _=H2
 obtain⟨s2,eg2⟩:=ZG hg2 e2
 clear e2
 have Ld:=s1.trans s2
 walk_at "rd"
 refine⟨p,C,dx,Yz c r,.ref c,rfl,Ld _ _ hp,U.cl,U.U5,rfl,?_⟩
 refine⟨c,_,rfl,.inl (ZJ.of (Ld _ _ hc)),?_⟩
 rw[List.length_map,lc]
 refine⟨g2,_,_,rfl,rfl,eg2,by omega,by omega,by rw[sizeLine_eq];simp;omega,λg3 hg3=>?_⟩
 rw[Int.toNat_natCast,show(List.replicate n [V.int 0]).flatten=iL (List.replicate n 0)by simp[iL]]
 generalize e3:upd H2 g3 _=H3
 obtain⟨s3,eg3⟩:=ZG hg3 e3
 clear e3
 have Nh:=Ld.trans s3
 walk_at "rd"
 refine⟨p,C,dx,Yz c r,.ref r,rfl,Nh _ _ hp,U.cl,U.V5,rfl,?_⟩
 refine⟨r,rfl,⟨_,ZJ.of (Nh _ _ hr')⟩,?_⟩
 refine MN (xs:=vs) (λi σ' H'=>(∃(mA wA:Addr) (t3 t4:Option V),σ'=[some (.ref p),some (.ref mA),some (.ref wA),t3,t4]∧Same H H'∧H mA=none∧H wA=none∧mA≠wA∧H' mA=some (.lst (bL (M.jl n (qs.take i)).1))∧H' wA=some (.lst (iL (M.jl n (qs.take i)).2)))∨False)
  (.inl ⟨g1,g3,_,_,rfl,Nh,hg1,Ld.free hg3,ZF (s2 _ _ eg1) hg3,(s2.trans s3) _ _ eg1,eg3⟩) ?_ ?_ ?_
 ·intro i σ' H' _ z
  obtain⟨mA,wA,t3,t4,rfl,sm,_⟩:=z.resolve_right id
  exact ZJ.of (sm _ _ hr')
 ·intro i x σ' H' hx z
  obtain⟨mA,wA,t3,t4,rfl,sm,nm,nw,nmw,em,ew⟩:=z.resolve_right id
  obtain⟨m,eq,t,a,b,rfl,h1,h2,h3⟩:=Nf pv hx
  have gm:=gd m (List.mem_of_getElem? eq)
  have gt:∀x∈qs.take i,M.Gd n x:=λx hx=>gd.gd x (List.mem_of_mem_take hx)
  have W:=M.zW (qs.take i) gt
  have es:=M.uH (n:=n) eq
  have ll:(M.jl n (qs.take (i+1))).1.length=(M.jl n (qs.take i)).1.length*m.1.length:=by rw[es];exact M.Vl _ _
  have lt:=M.uG gd.gd (i+1)
  have lt0:=M.uG gd.gd i
  walk_at "rd"
  refine⟨t,_,rfl,TY.of (sm _ _ h1),rfl,?_⟩
  walk_at "rd"
  refine⟨mA,_,rfl,.inl (ZJ.of em),?_⟩
  walk_at "rd"
  refine⟨a,_,rfl,.inl (ZJ.of (sm _ _ h2)),?_⟩
  walk_at "rd"
  rw[List.length_map,List.length_map]
  refine⟨Wv (by omega) (by omega),?_⟩
  walk_at "rd"
  have cl:((M.jl n (qs.take i)).1.length:Int)*(m.1.length:Int)=((M.jl n (qs.take (i+1))).1.length:Int):=by rw[ll];simp
  rw[cl,decide_eq_false (show ¬(400:Int)<((M.jl n (qs.take (i+1))).1.length:Int)by omega)]
  walk_at "rd"
  refine⟨mA,wA,a,b,_,_,_,_,n,ZJ.of em,ZJ.of ew,ZJ.of (sm _ _ h2),ZJ.of (sm _ _ h3),rfl,rfl,rfl,rfl,W,gm.1.1,by omega,by omega,gm.2,λw' H5 s5 hw' ew'=>?_⟩
  walk_at "rd"
  refine⟨mA,a,_,_,ZJ.of (s5 _ _ em),ZJ.of (s5 _ _ (sm _ _ h2)),rfl,rfl,gm.1.2,by omega,gm.2,λm' H6 s6 hm' em'=>?_⟩
  exact .inl ⟨m',w',_,_,rfl,sm.trans (s5.trans s6),(sm.trans s5).free hm',sm.free hw',λe=>ZF ew' hm' e.symm,by rw[es];exact em',by rw[es];exact s6 _ _ ew'⟩
 ·intro σ' H' z
  obtain⟨mA,wA,t3,t4,rfl,sm,nm,nw,nmw,em,ew⟩:=z.resolve_right id
  walk_at "rd"
  intro t ht
  generalize e4:upd H' t _=H4
  obtain⟨s4,et⟩:=ZG ht e4
  rw[lvq,List.take_length]at em ew
  exact q t mA wA H4 (sm.trans s4) (sm.free ht) nm nw nmw et (s4 _ _ em) (s4 _ _ ew)
def za (φ:V→Hp→VK→XK→Prop):Sp:=λvs H Q E=>∃a,vs=[a]∧φ a H Q E
theorem G8 {φ:V→Hp→VK→XK→Prop} {x:Str}:∀vs H Q E,za φ vs H Q E→vs.length=[x].length:=λ_ _ _ _ ⟨_,e,_⟩=>by rw[e];rfl
def fX (φ:V→V→Hp→VK→XK→Prop):Sp:=λvs H Q E=>∃a b,vs=[a,b]∧φ a b H Q E
theorem lE {φ:V→V→Hp→VK→XK→Prop} {x y:Str}:∀vs H Q E,fX φ vs H Q E→vs.length=[x,y].length:=λ_ _ _ _ ⟨_,_,e,_⟩=>by rw[e];rfl
def noP (b:V):Prop:=isW b=false∨∃i:Int,b= .int i∧(i<1∨60<i)
def VH (K:PySem.W.Frag) (np:Addr):Sp:=fX λ_ b H _ E=>Kd H b∧noP b∧∀H',Same H H'→E (.ref np) none H'
theorem Ls (T:Txt K mg) {C:Addr} (U:Qe K mg C) {r np nm nr nw tm nf nt:Addr} (e:Td K mg r np nm nr nw tm nf nt) (kb:K.In base) (Tj:Has P w K mg base k "is_whole" ["thing"] (Sw K)) (Cz:Has P w K mg base k "first" ["n"] (Hi K)):Ob P w K mg base (k+1) "Pack" C ["self","n"] (VH K np):=by
 refine U.Ut.Nv Rv lE (λf cdv A outer s H vs Q E hr h=>?_)
 obtain⟨a0,a1,rfl,h⟩:=h
 refine⟨_,Z7 (Zn (PW.pt (QX (Yr (YM (Z4 Tj hr (Z_ (pv 1) Z8)))) (Rp (Yr (TX Vx Vx Z5 (pv 1) (Yx (v:=.int 60) rfl T.Rc.choose_spec ⟨_,rfl⟩))))))
  (Z6 (W8 (Uv (mro:=Qy) (nid:="ValueError.__new__") kb e.m1 e.x1) PySem.F.excBase_ValueError rfl rfl TJ (Z_ ZK Z8)))
  (Zz))
  (Z7 (U6 (K:=K) (pv 0) (Z4 Cz hr (Z_ (pv 1) Z8)) rfl)
  (Z6 (U6 (K:=K) (pv 0) (Yh Z8) rfl))),?_⟩
 obtain⟨hk,bad,z⟩:=h
 walk_at "rd"
 rcases bad with bad | ⟨i,rfl,bad⟩
 ·rw[bad]
  walk_at "rd"
  exact z _ (Same.refl _)
 ·walk_at "rd"
  rcases bad with bad |bad
  ·rw[decide_eq_false (show ¬(1:Int)≤i by omega)]
   walk_at "rd"
   exact z _ (Same.refl _)
  ·rw[decide_eq_true (show(1:Int)≤i by omega)]
   walk_at "rd"
   rw[decide_eq_false (show ¬i≤60 by omega)]
   walk_at "rd"
   exact z _ (Same.refl _)
def QH (K:PySem.W.Frag) (C nr:Addr):Sp:=vR λa b d H _ E=>∃(p dx c r m v:Addr) (bs:List Bool) (ys:List V) (cs:List Int),H p=some (.ins C dx (Yz c r))∧H c=some (.lst (iL cs))∧H m=some (.lst (bL bs))∧H v=some (.lst ys)∧a= .ref p∧b= .ref m∧d= .ref v∧(1≤bs.length∧bs.length≤400)∧(ys.all Xx=true∧ys.length≤900)∧jz bs.length cs.length ys∧∀H',Same H H'→E (.ref nr) none H'
theorem Jw (T:Txt K mg) {C:Addr} (U:Qe K mg C) {r np nm nr nw tm nf nt:Addr} (e:Td K mg r np nm nr nw tm nf nt) (kb:K.In base) (Ng:Has P w K mg base k "is_marks" ["marks"] (Py K)) (Ou:Has P w K mg base k "riffled" ["order","marks","word"] (Q_ K)) (Kw:TF P w K mg base k "riffled" ["order","marks","word"] (J1 K nr)) (Zr:K1 P w K mg base k C "order" ["self"] (Yo K C)):Tw P w K mg base (k+1) C "riffle" ["self","marks","word"] (QH K C nr):=by
 refine U.R6.Nv P_ Ed (λf cdv A outer s H vs Q E hr h=>?_)
 obtain⟨a0,a1,a2,rfl,h⟩:=h
 obtain⟨p,dx,c,r',m,v,bs,ys,cs,hp,hc,hm,hv,rfl,rfl,rfl,⟨b1,b2⟩,fy,bad,z⟩:=h
 refine⟨_,Z7 (Zn (Yr (YM (Z4 Ng hr (Z_ (pv 1) Z8))))
  (Z6 (R0))
  (Zz))
  (Z7 (U6 (K:=K) (pv 0) (Zc Kw hr Zb.Gw (Z_ (Vw (K:=K) (pv 0) rfl) (Z_ (pv 1) (Z_ (pv 2) Z8)))) rfl)
  (Z7 (YH (Qq (K:=K) PySem.F.plainAttrs_list PySem.F.slot_list_append PySem.F.type_list_append Xk (Vw (K:=K) (pv 0) rfl) (Z_ (TV (Z_ (Zd (Uc (K:=K)) rfl T.Qg PyProof.Rows.boot_list (Z_ (pv 1) Z8)) (Z_ (Zd (Uc (K:=K)) rfl T.Qg PyProof.Rows.boot_list (Z_ (pv 2) Z8)) Z8))) Z8)))
  (Z6 (ZR (Yw (pv 0) U.cl Zr hr))))),?_⟩
 walk_at "rd"
 refine⟨m,bs,ZJ.of hm,rfl,b1,b2,λH1 s1=>?_⟩
 walk_at "rd"
 refine⟨p,C,dx,Yz c r',.ref c,rfl,s1 _ _ hp,U.cl,U.U5,rfl,?_⟩
 walk_at "rd"
 exact⟨c,m,v,cs,bs,ys,ZJ.of (s1 _ _ hc),ZJ.of (s1 _ _ hm),ZJ.of (s1 _ _ hv),rfl,rfl,rfl,fy.1,by have:=fy.2;omega,bad,λH2 s2=>z _ (s1.trans s2)⟩
def N6 (K:PySem.W.Frag) (C nr:Addr):Sp:=za λa H _ E=>∃(p dx c r:Addr),H p=some (.ins C dx (Yz c r))∧H r=some (.lst [])∧a= .ref p∧∀H',Same H H'→E (.ref nr) none H'
theorem FN (T:Txt K mg) {C:Addr} (U:Qe K mg C) {r np nm nr nw tm nf nt:Addr} (e:Td K mg r np nm nr nw tm nf nt) (kb:K.In base) (Hg:Has P w K mg base k "undone" ["order","marks","word"] (Kz K)) (Zr:K1 P w K mg base k C "order" ["self"] (Yo K C)):Tw P w K mg base (k+1) C "undo" ["self"] (N6 K C nr):=by
 refine U.Qd.Nv Ue G8 (λf cdv A outer s H vs Q E hr h=>?_)
 obtain⟨a0,rfl,h⟩:=h
 refine⟨_,Z7 (Zn (Yr (uP (K:=K) (Vw (K:=K) (pv 0) rfl)))
  (Z6 (W8 (Uv (mro:=Qy) (nid:="ValueError.__new__") kb e.m3 e.x3) PySem.F.excBase_ValueError rfl rfl TJ (Z_ ZK Z8)))
  (Zz))
  (Z7 (ZW (i:=1) Ue.nd rfl (Or.inl rfl) (cT (K:=K) PySem.F.plainAttrs_list PySem.F.slot_list_pop PySem.F.type_list_pop pA (Vw (K:=K) (pv 0) rfl)))
  (Z7 (U6 (K:=K) (pv 0) (Z4 Hg hr (Z_ (Vw (K:=K) (pv 0) rfl) (Z_ (Zq (W9 (K:=K)) (pv 1) Z5 (λ_ _=>rfl)) (Z_ (Zq (W9 (K:=K)) (pv 1) Z5 (λ_ _=>rfl)) Z8)))) rfl)
  (Z6 (ZR (Yw (pv 0) U.cl Zr hr))))),?_⟩
 obtain⟨p,dx,c,r',hp,hr',rfl,z⟩:=h
 walk_at "rd"
 refine⟨p,C,dx,Yz c r',.ref r',rfl,hp,U.cl,U.V5,rfl,?_⟩
 refine⟨false,.inl ⟨_,ZJ.of hr',by simp⟩,?_⟩
 walk_at "rd"
 exact z _ (Same.refl _)
def Pu (K:PySem.W.Frag) (C tm:Addr):Sp:=za λa H _ E=>∃(p dx c r:Addr) (vs:List V) (qs:List Rf) (cs:List Int) (n:Nat),WhP C H p dx c r vs qs cs n∧a= .ref p∧400<(M.jl n qs).1.length∧∀H',Same H H'→E (.ref tm) none H'
theorem G7 (T:Txt K mg) {C:Addr} (U:Qe K mg C) {r np nm nr nw tm nf nt:Addr} (e:Td K mg r np nm nr nw tm nf nt) (kb:K.In base) (G9:Has P w K mg base k "joined" ["marks","word","others","more"] (Ky K)) (Ti:Has P w K mg base k "joined_marks" ["marks","others"] (Ur K)):Tw P w K mg base (k+1) C "whole" ["self"] (Pu K C tm):=by
 refine U.Rb.Nv Zk G8 (λf cdv A outer s H vs Q E hr h=>?_)
 obtain⟨a0,rfl,h⟩:=h
 refine⟨_,Z7 (ZW (i:=1) Zk.nd rfl (Or.inl rfl) (Yh (Z_ U3 Z8)))
  (Z7 (ZW (i:=2) Zk.nd rfl (Or.inl rfl) (ZS Jf (Yh (Z_ Z5 Z8)) (ZV (Y4 (K:=K)) rfl T.Za PySem.boot_len (Z_ (Vw (K:=K) (pv 0) rfl) Z8))))
  (Z7 (Xa PassesOwn.leaving rfl (YX (K:=K) (Vw (K:=K) (pv 0) rfl)) (Wq (K:=K) (n:=2) rfl (Y6 (Zy (i:=3) Zk.nd rfl (Or.inl rfl)) (Y6 (Zy (i:=4) Zk.nd rfl (Or.inl rfl)) U7)))
  (Z7 (Zn (Zu Fv (ZS X_ (ZV (Y4 (K:=K)) rfl T.Za PySem.boot_len (Z_ (pv 1) Z8)) (ZV (Y4 (K:=K)) rfl T.Za PySem.boot_len (Z_ (pv 3) Z8))) (Yx (v:=.int 400) rfl T.VP.choose_spec ⟨_,rfl⟩) (Zv _))
   (Z6 (W8 (Uv (mro:=Qy) (nid:="ValueError.__new__") kb e.m5 e.x5) PySem.F.excBase_ValueError rfl rfl TJ (Z_ ZK Z8)))
   (Zz))
   (Z7 (ZW (i:=2) Zk.nd rfl (Or.inl rfl) (Z4 G9 hr (Z_ (pv 1) (Z_ (pv 2) (Z_ (pv 3) (Z_ (pv 4) Z8))))))
   (Z6 (ZW (i:=1) Zk.nd rfl (Or.inl rfl) (Z4 Ti hr (Z_ (pv 1) (Z_ (pv 3) Z8))))))))
  (Z6 (ZR (TV (Z_ (pv 1) (Z_ (pv 2) Z8))))))),?_⟩
 obtain⟨p,dx,c,r,vs,qs,cs,n,⟨hp,hc,lc,hr',pv,hn,gd,hv⟩,rfl,tot,q⟩:=h
 have lvq:=Paired.length pv
 walk_at "rd"
 intro g1 hg1
 generalize e1:upd H g1 _=H1
 obtain⟨s1,eg1⟩:=ZG hg1 e1
 clear e1
 walk_at "rd"
 intro g2 hg2
 generalize e2:upd H1 g2 _=H2
 obtain⟨s2,eg2⟩:=ZG hg2 e2
 clear e2
 have Ld:=s1.trans s2
 walk_at "rd"
 refine⟨p,C,dx,Yz c r,.ref c,rfl,Ld _ _ hp,U.cl,U.U5,rfl,?_⟩
 refine⟨c,_,rfl,.inl (ZJ.of (Ld _ _ hc)),?_⟩
 rw[List.length_map,lc]
 refine⟨g2,_,_,rfl,rfl,eg2,by omega,by omega,by rw[sizeLine_eq];simp;omega,λg3 hg3=>?_⟩
 rw[Int.toNat_natCast,show(List.replicate n [V.int 0]).flatten=iL (List.replicate n 0)by simp[iL]]
 generalize e3:upd H2 g3 _=H3
 obtain⟨s3,eg3⟩:=ZG hg3 e3
 clear e3
 have Nh:=Ld.trans s3
 walk_at "rd"
 refine⟨p,C,dx,Yz c r,.ref r,rfl,Nh _ _ hp,U.cl,U.V5,rfl,?_⟩
 refine⟨r,rfl,⟨_,ZJ.of (Nh _ _ hr')⟩,?_⟩
 refine MN (xs:=vs) (λi σ' H'=>(∃(mA wA:Addr) (t3 t4:Option V),σ'=[some (.ref p),some (.ref mA),some (.ref wA),t3,t4]∧Same H H'∧H mA=none∧H wA=none∧mA≠wA∧H' mA=some (.lst (bL (M.jl n (qs.take i)).1))∧H' wA=some (.lst (iL (M.jl n (qs.take i)).2))∧(M.jl n (qs.take i)).1.length≤400)∨False)
  (.inl ⟨g1,g3,_,_,rfl,Nh,hg1,Ld.free hg3,ZF (s2 _ _ eg1) hg3,(s2.trans s3) _ _ eg1,eg3,by simp[M.mW]⟩) ?_ ?_ ?_
 ·intro i σ' H' _ z
  obtain⟨mA,wA,t3,t4,rfl,sm,_⟩:=z.resolve_right id
  exact ZJ.of (sm _ _ hr')
 ·intro i x σ' H' hx z
  obtain⟨mA,wA,t3,t4,rfl,sm,nm,nw,nmw,em,ew,lm⟩:=z.resolve_right id
  obtain⟨m,eq,t,a,b,rfl,h1,h2,h3⟩:=Nf pv hx
  have gm:=gd m (List.mem_of_getElem? eq)
  have gt:∀x∈qs.take i,M.Gd n x:=λx hx=>gd.gd x (List.mem_of_mem_take hx)
  have W:=M.zW (qs.take i) gt
  have es:=M.uH (n:=n) eq
  have ll:(M.jl n (qs.take (i+1))).1.length=(M.jl n (qs.take i)).1.length*m.1.length:=by rw[es];exact M.Vl _ _
  walk_at "rd"
  refine⟨t,_,rfl,TY.of (sm _ _ h1),rfl,?_⟩
  walk_at "rd"
  refine⟨mA,_,rfl,.inl (ZJ.of em),?_⟩
  walk_at "rd"
  refine⟨a,_,rfl,.inl (ZJ.of (sm _ _ h2)),?_⟩
  walk_at "rd"
  rw[List.length_map,List.length_map]
  refine⟨Wv (by omega) (by omega),?_⟩
  walk_at "rd"
  have cl:((M.jl n (qs.take i)).1.length:Int)*(m.1.length:Int)=((M.jl n (qs.take (i+1))).1.length:Int):=by rw[ll];simp
  rw[cl]
  refine XR (λcc=>?_) (λcc=>?_)<;>simp only[decide_eq_true_eq]at cc
  ·walk_at "rd"
   exact q _ sm
  walk_at "rd"
  refine⟨mA,wA,a,b,_,_,_,_,n,ZJ.of em,ZJ.of ew,ZJ.of (sm _ _ h2),ZJ.of (sm _ _ h3),rfl,rfl,rfl,rfl,W,gm.1.1,by omega,by omega,gm.2,λw' H5 s5 hw' ew'=>?_⟩
  walk_at "rd"
  refine⟨mA,a,_,_,ZJ.of (s5 _ _ em),ZJ.of (s5 _ _ (sm _ _ h2)),rfl,rfl,gm.1.2,by omega,gm.2,λm' H6 s6 hm' em'=>?_⟩
  exact .inl ⟨m',w',_,_,rfl,sm.trans (s5.trans s6),(sm.trans s5).free hm',sm.free hw',λe=>ZF ew' hm' e.symm,by rw[es];exact em',by rw[es];exact s6 _ _ ew',by omega⟩
 ·intro σ' H' z
  obtain⟨mA,wA,t3,t4,rfl,sm,nm,nw,nmw,em,ew,lm⟩:=z.resolve_right id
  rw[lvq,List.take_length]at lm
  omega
end
section
variable {P:Program} {w:World} {K:PySem.W.Frag} {mg:Str→Option Value} {base:Heap} {k:Nat}
def Ux (K:PySem.W.Frag):Sp:=QW λa H Q=>∃z,a= .str z∧M.yh z∧z.length≤1000∧∀H',Same H H'→Q (.bl (M.V1 (M.cd z))) H'
def Uk (K:PySem.W.Frag):Sp:=QW λa H Q=>∃z,a= .str z∧M.yh z∧z.length≤1000∧∀H',Same H H'→Q (.bl (M.Ik (M.cd z))) H'
theorem lD {z:Str} {l:List Nat} {y:Str} (h:M.cd y=l):decide (V.str z=V.str y)=decide (M.cd z=l):=by
 subst h
 by_cases q:z=y
 ·subst q;rw[decide_eq_true rfl,decide_eq_true rfl]
 ·rw[decide_eq_false (λe=>q (V.str.inj e)),decide_eq_false (λe=>q (M.Wk e))]
theorem Pr (T:Txt K mg):Has P w K mg base (k+1) "is_written_number" ["word"] (Ux K):=by
 refine T.Ul.has P0 len1 (λf cdv A outer s H vs Q E hr h=>?_)
 obtain⟨a0,rfl,h⟩:=h
 refine⟨_,Z7 (Zn (Yr (TX Vx Vx Z5 (ZV Rn rfl T.Za PySem.boot_len (Z_ (pv 0) Z8)) (Yx (v:=.int 12) rfl T.Qf.choose_spec ⟨_,rfl⟩)))
  (Z6 (ZR U3))
  (Zz))
  (Z7 (Zn (Yr (YM (ZV (k_all (K:=K) rfl) rfl T.zy PyProof.Rows.boot_all (Z_ (YF (vars:=["sign"]) (caps:=[]) (ZD.of (outer:=Z9 Y_) (N:=["word"]) rfl rfl ⟨by decide +kernel⟩) rfl (wX (pv 0)) ⟨λ_ _ _ _=>⟨(Zy (i:=0) (show List.Nodup (["sign"]:List Str)by decide +kernel) rfl (Or.inl rfl)),YG,(V3 Ft (pv 0) (Yx (v:=.str "0123456789") rfl T.Eh.choose_spec ⟨_,rfl⟩) rfl)⟩⟩) Z8))))
  (Z6 (ZR U3))
  (Zz))
  (Z6 (ZR (aa7 (V3 YJ (pv 0) ZK (Zv _)) (Jj (pZ (Qq (K:=K) PySem.F.plainAttrs_str PySem.F.slot_str_startswith PySem.F.type_str_startswith Gm (pv 0) (Z_ ZK Z8)))))))),?_⟩
 obtain⟨z,rfl,ha,hl,q⟩:=h
 have el:=M.V2 z
 have lz:z.length≤sizeLine:=Zx hl
 have no:¬(1≤(M.cd z).length∧(M.cd z).length≤12)→M.V1 (M.cd z)=false:=λn=>by
  unfold M.V1
  have:(decide (1≤(M.cd z).length) && decide ((M.cd z).length≤12))=false:=by
   rw[Bool.eq_false_iff]
   intro e
   rw[Bool.and_eq_true,decide_eq_true_eq,decide_eq_true_eq]at e
   exact n e
  rw[this];rfl
 walk_at "rd"
 refine XR (λc=>?_) (λc=>?_)<;>simp only[decide_eq_true_eq]at c
 ·walk_at "rd"
  refine XR (λd=>?_) (λd=>?_)<;>simp only[Bool.not_eq_true',decide_eq_false_iff_not]at d
  ·have:=q H (Same.refl _)
   rw[no (by omega)]at this
   exact this
  have d:(z.length:Int)≤12:=by
   simpa using d
  walk_at "rd"
  refine I_ (λc=> .bl (M.dig c)) (by rw[el];exact lz) ?_ ?_
  ·intro i c t acc ys Kt hc hn k1
   have aaG:=ha c (List.mem_of_getElem? hc)
   walk_at "rd"
   rw[M.nD aaG]
   exact k1 _
  intro l hl2
  generalize e1:upd H l _=H1
  obtain⟨s1,fW⟩:=ZG hl2 e1
  clear e1
  walk_at "rd"
  refine⟨l,(M.cd z).map M.dig,rfl,ZJ.of (by rw[List.map_map];exact fW),?_⟩
  walk_at "rd"
  have aaH:((M.cd z).map M.dig).all id=(M.cd z).all M.dig:=by rw[List.all_map];rfl
  have yes:M.V1 (M.cd z)=((M.cd z).all M.dig && (decide (M.cd z=[48]) || !decide ((M.cd z).head? =some 48))):=by
   unfold M.V1
   rw[decide_eq_true (show 1≤(M.cd z).length by omega),decide_eq_true (show(M.cd z).length≤12 by omega)]
   rfl
  rw[aaH]
  refine XR (λe=>?_) (λe=>?_)
  ·have:=q H1 s1
   rw[yes,show(M.cd z).all M.dig=false by simpa using e]at this
   exact this
  have e:(M.cd z).all M.dig=true:=by simpa using e
  rw[e,Bool.true_and]at yes
  walk_at "rd"
  rw[lD M.abY]
  have q':=q H1 s1
  rw[yes]at q'
  refine XR (λg=>?_) (λg=>?_)
  ·rw[g]at q'
   exact q'
  rw[Bool.eq_false_iff.mpr g,Bool.false_or]at q'
  walk_at "rd"
  rw[M.nC]
  walk_at "rd"
  exact q'
 ·have:=q H (Same.refl _)
  rw[no (by omega)]at this
  walk_at "rd"
  exact this
theorem Oo (T:Txt K mg):Has P w K mg base (k+1) "is_written_marks" ["word"] (Uk K):=by
 refine T.Tq.has Oq len1 (λf cdv A outer s H vs Q E hr h=>?_)
 obtain⟨a0,rfl,h⟩:=h
 refine⟨_,Z6 (ZR (DK (Br Vx Vx Z5 (ZV Rn rfl T.Za PySem.boot_len (Z_ (pv 0) Z8)) (Yx (v:=.int 400) rfl T.VP.choose_spec ⟨_,rfl⟩)) (Jj (ZV (k_all (K:=K) rfl) rfl T.zy PyProof.Rows.boot_all (Z_ (YF (vars:=["sign"]) (caps:=[]) (ZD.of (outer:=Z9 Y7) (N:=["word"]) rfl rfl ⟨by decide +kernel⟩) rfl (wX (pv 0)) ⟨λ_ _ _ _=>⟨(Zy (i:=0) (show List.Nodup (["sign"]:List Str)by decide +kernel) rfl (Or.inl rfl)),YG,(V3 Ft (pv 0) ZK rfl)⟩⟩) Z8))))),?_⟩
 obtain⟨z,rfl,ha,hl,q⟩:=h
 have el:=M.V2 z
 have lz:z.length≤sizeLine:=Zx hl
 walk_at "rd"
 have no:¬(1≤(M.cd z).length∧(M.cd z).length≤400)→M.Ik (M.cd z)=false:=λn=>by
  unfold M.Ik
  have:(decide (1≤(M.cd z).length) && decide ((M.cd z).length≤400))=false:=by
   rw[Bool.eq_false_iff]
   intro e
   rw[Bool.and_eq_true,decide_eq_true_eq,decide_eq_true_eq]at e
   exact n e
  rw[this];rfl
 refine XR (λc=>?_) (λc=>?_)<;>simp only[decide_eq_true_eq]at c
 ·walk_at "rd"
  refine XR (λd=>?_) (λd=>?_)<;>simp only[decide_eq_true_eq]at d
  ·walk_at "rd"
   refine I_ (λc=> .bl (M.pt c)) (by rw[el];exact lz) ?_ ?_
   ·intro i c t acc ys Kt hc hn k1
    have aaG:=ha c (List.mem_of_getElem? hc)
    walk_at "rd"
    rw[M.aaq c aaG]
    exact k1 _
   intro l hl2
   generalize e1:upd H l _=H1
   obtain⟨s1,fW⟩:=ZG hl2 e1
   clear e1
   walk_at "rd"
   refine⟨l,(M.cd z).map M.pt,rfl,ZJ.of (by rw[List.map_map];exact fW),?_⟩
   have aaH:((M.cd z).map M.pt).all id=(M.cd z).all M.pt:=by rw[List.all_map];rfl
   rw[aaH]
   have:=q H1 s1
   unfold M.Ik at this
   rw[decide_eq_true (show 1≤(M.cd z).length by omega),decide_eq_true (show(M.cd z).length≤400 by omega)]at this
   exact this
  ·have:=q H (Same.refl _)
   rw[no (by omega)]at this
   exact this
 ·have:=q H (Same.refl _)
  rw[no (by omega)]at this
  walk_at "rd"
  exact this
def lC (K:PySem.W.Frag):Sp:=QW λa H Q=>∃z,a= .str z∧M.yh z∧z.length≤1000∧M.V1 (M.cd z)=true∧∀H',Same H H'→Q (.int (PySem.NumText.digitsVal (M.cd z):Nat)) H'
def jy (K:PySem.W.Frag):Sp:=QW λa H Q=>∃z,a= .str z∧M.yh z∧z.length≤1000∧M.Ik (M.cd z)=true∧rNew (bL (M.mk (M.cd z))) H Q
def N5 (K:PySem.W.Frag):Sp:=QW λa H Q=>∃(p:Addr) (bs:List Bool),ZJ K H p (bL bs)∧a= .ref p∧bs.length≤1000∧∀z H',Same H H'→M.cd z=bs.map (λb=>if b=true then 116 else 112)→Q (.str z) H'
theorem FJ (T:Txt K mg):Has P w K mg base (k+1) "show_marks" ["marks"] (N5 K):=by
 refine T.Mp.has Ge len1 (λf cdv A outer s H vs Q E hr h=>?_)
 obtain⟨a0,rfl,h⟩:=h
 refine⟨_,Z6 (ZR (Qq (K:=K) PySem.F.plainAttrs_str PySem.F.slot_str_join PySem.F.type_str_join (IW (K:=K)) ZK (Z_ (YF (vars:=["turned"]) (caps:=[]) (ZD.of (outer:=Z9 Xp) (N:=["marks"]) rfl rfl ⟨by decide +kernel⟩) rfl (YX (K:=K) (pv 0)) ⟨λ_ _ _ _=>⟨(Zy (i:=0) (show List.Nodup (["turned"]:List Str)by decide +kernel) rfl (Or.inl rfl)),YG,(U0 (YM (pv 0)) ZK ZK)⟩⟩) Z8))),?_⟩
 obtain⟨p,bs,hS,rfl,hl,q⟩:=h
 have e0:Str.ofString "t"=⟨#[116]⟩:=M.Wk M.ab0
 have e1:Str.ofString "p"=⟨#[112]⟩:=M.Wk M.abZ
 walk_at "rd"
 refine⟨⟨_,hS⟩,?_⟩
 refine Wa (xs:=bL bs) (λi=> .str ⟨#[if bs.getD i false=true then 116 else 112]⟩) (λ_=>true) (by rw[List.length_map];exact Zx hl) hS ?_ ?_
 ·intro i v t acc ys N Kt hi hv hn k1 k2
  have hi':i<bs.length:=by simpa using hi
  rw[List.getElem?_map,List.getElem?_eq_getElem hi']at hv
  cases hv
  have eb:bs.getD i false=bs[i]:=by rw[List.getD,List.getElem?_eq_getElem hi'];rfl
  have k1':=λt'=>k1 t' rfl
  simp only[eb]at k1'
  walk_at "rd"
  refine XR (λc=>?_) (λc=>?_)
  ·walk_at "rd"
   rw[e0]
   rw[c]at k1'
   exact k1' _
  ·walk_at "rd"
   rw[e1]
   rw[Bool.eq_false_iff.mpr c]at k1'
   exact k1' _
 rw[filter_true,List.length_map,range_getD bs false (λb=>V.str ⟨#[if b=true then 116 else 112]⟩)]
 intro l hl2
 generalize e2:upd H l _=H1
 obtain⟨s1,fW⟩:=ZG hl2 e2
 clear e2
 have em:bs.map (λb=>V.str ⟨#[if b=true then 116 else 112]⟩)=((bs.map (λb=>if b=true then 116 else 112)).map λc=>(⟨#[c]⟩:Str)).map V.str:=by
  rw[List.map_map,List.map_map];rfl
 rw[em]at fW
 walk_at "rd"
 refine⟨_,l,_,rfl,rfl,ZJ.of fW,M.uM _ (by rw[List.length_map];exact hl),?_⟩
 exact q _ H1 s1 (M.glue _)
def numOf (z:Str):Int:=((PySem.NumText.digitsVal (M.cd z):Nat):Int)
def Wj (K:PySem.W.Frag) (nt:Addr):Sp:=za λa H Q E=>∃z,a= .str z∧M.yh z∧z.length≤1000∧∀H',Same H H'→if M.V1 (M.cd z)=true then Q (.int (numOf z)) H' else E (.ref nt) none H'
theorem Jv (T:Txt K mg) {r np nm nr nw tm nf nt:Addr} (e:Td K mg r np nm nr nw tm nf nt) (kb:K.In base) (Om:Has P w K mg base k "is_written_number" ["word"] (Ux K)):Im P w K mg base (k+1) "read_number" ["word"] (Wj K nt):=by
 refine T.N_.Nv Hq G8 (λf cdv A outer s H vs Q E hr h=>?_)
 obtain⟨a0,rfl,h⟩:=h
 refine⟨_,Z7 (Zn (Yr (YM (Z4 Om hr (Z_ (pv 0) Z8))))
  (Z6 (W8 (Uv (mro:=Qy) (nid:="ValueError.__new__") kb e.m7 e.x7) PySem.F.excBase_ValueError rfl rfl TJ (Z_ ZK Z8)))
  (Zz))
  (Z6 (ZR (Zd Dm rfl T.ug PyProof.Rows.boot_int (Z_ (pv 0) Z8)))),?_⟩
 obtain⟨z,rfl,ha,hl,q⟩:=h
 walk_at "rd"
 intro H1 s1
 have q1:=q H1 s1
 cases hn:M.V1 (M.cd z)with
 |false =>
  rw[hn,if_neg (by decide)]at q1
  walk_at "rd"
  exact q1
 |true =>
  rw[hn,if_pos rfl]at q1
  obtain⟨i1,i2⟩:=M.rD hn
  walk_at "rd"
  exact⟨z,_,rfl,i1,i2,q1⟩
def Pq (K:PySem.W.Frag) (nt:Addr):Sp:=za λa H Q E=>∃z,a= .str z∧M.yh z∧z.length≤1000∧(M.Ik (M.cd z)=true→rNew (bL (M.mk (M.cd z))) H Q)∧(M.Ik (M.cd z)=false→∀H',Same H H'→E (.ref nt) none H')
theorem GZ (T:Txt K mg) {r np nm nr nw tm nf nt:Addr} (e:Td K mg r np nm nr nw tm nf nt) (kb:K.In base) (Nb:Has P w K mg base k "is_written_marks" ["word"] (Uk K)):Im P w K mg base (k+1) "read_marks" ["word"] (Pq K nt):=by
 refine T.Mq.Nv Gf G8 (λf cdv A outer s H vs Q E hr h=>?_)
 obtain⟨a0,rfl,h⟩:=h
 refine⟨_,Z7 (Zn (Yr (YM (Z4 Nb hr (Z_ (pv 0) Z8))))
  (Z6 (W8 (Uv (mro:=Qy) (nid:="ValueError.__new__") kb e.m7 e.x7) PySem.F.excBase_ValueError rfl rfl TJ (Z_ ZK Z8)))
  (Zz))
  (Z6 (ZR (YF (vars:=["sign"]) (caps:=[]) (ZD.of (outer:=Z9 Xq) (N:=["word"]) rfl rfl ⟨by decide +kernel⟩) rfl (wX (pv 0)) ⟨λ_ _ _ _=>⟨(Zy (i:=0) (show List.Nodup (["sign"]:List Str)by decide +kernel) rfl (Or.inl rfl)),YG,(V3 YJ (pv 0) ZK (Zv _))⟩⟩))),?_⟩
 obtain⟨z,rfl,ha,hl,q,q2⟩:=h
 have el:=M.V2 z
 have lz:z.length≤sizeLine:=Zx hl
 walk_at "rd"
 intro H1 s1
 cases hn:M.Ik (M.cd z)with
 |false =>
  walk_at "rd"
  exact q2 hn _ s1
 |true =>
  walk_at "rd"
  refine I_ (λc=> .bl (decide (c=116))) (by rw[el];exact lz) ?_ ?_
  ·intro i c t acc ys Kt hc hn k1
   walk_at "rd"
   rw[lD M.ab0]
   have:decide (M.cd ⟨#[c]⟩=[116])=decide (c=116):=by
    by_cases e:c=116
    ·subst e;rfl
    ·rw[decide_eq_false e,decide_eq_false (λz=>e (by simpa [M.cd]using z))]
   rw[this]
   exact k1 _
  intro l hl2
  generalize e1:upd H1 l _=H2
  obtain⟨s2,ea2⟩:=ZG hl2 e1
  clear e1
  refine q hn l H2 (s1.trans s2) (s1.free hl2) ?_
  rw[ea2]
  unfold M.mk bL
  rw[List.map_map]
  rfl
def cg (ws:List Str):Prop:=∀w∈ws,M.yh w∧w.length≤1000
def Va (K:PySem.W.Frag) (nt:Addr):Sp:=za λa H Q E=>∃(p:Addr) (ws:List Str),ZJ K H p (ws.map V.str)∧a= .ref p∧ws.length≤900∧cg ws∧((∀w∈ws,M.V1 (M.cd w)=true)→rNew (iL (ws.map numOf)) H Q)∧((∃w∈ws,M.V1 (M.cd w)=false)→∀H',Same H H'→E (.ref nt) none H')
theorem Kv (T:Txt K mg) {r np nm nr nw tm nf nt:Addr} (e:Td K mg r np nm nr nw tm nf nt) (kb:K.In base) (Xz:TF P w K mg base k "read_number" ["word"] (Wj K nt)):Im P w K mg base (k+1) "read_numbers" ["words"] (Va K nt):=by
 refine T.Qi.Nv JC G8 (λf cdv A outer s H vs Q E hr h=>?_)
 obtain⟨a0,rfl,h⟩:=h
 refine⟨_,Z6 (ZR (nR (vars:=["word"]) (caps:=[]) (ZD.of (outer:=Z9 Ye) (N:=["words"]) rfl rfl ⟨by decide +kernel⟩) rfl aeg (YX (K:=K) (pv 0)) ⟨λ_ _ _ _=>⟨(Zy (i:=0) (show List.Nodup (["word"]:List Str)by decide +kernel) rfl (Or.inl rfl)),YG,(Zc Xz hr Iz (Z_ (pv 0) Z8))⟩⟩)),?_⟩
 obtain⟨p,ws,hS,rfl,hl,hw,q1,q2⟩:=h
 have ll:(ws.map V.str).length=ws.length:=List.length_map _
 walk_at "rd"
 refine⟨⟨_,hS⟩,?_⟩
 refine wY (xs:=ws.map V.str) (λi=> .int (numOf (ws.getD i ⟨#[]⟩))) (λacc i H'=>Same H H'∧∀w∈ws.take i,M.V1 (M.cd w)=true) (Zx (by omega)) (λacc ha=>⟨Same.new ha _,by simp⟩) (λacc i H' _ p=>p.1.seq hS) ?_ ?_
 ·intro acc i v t H' N Kt ha hv ⟨s1,al⟩ ea k1
  have hi:i<ws.length:=by have:=(List.getElem?_eq_some_iff.mp hv).1;omega
  have e0:ws[i]? =some ws[i]:=List.getElem?_eq_getElem hi
  have eg:ws.getD i ⟨#[]⟩=ws[i]:=by rw[List.getD,e0];rfl
  have hm:=List.getElem_mem hi
  rw[List.getElem?_map,e0]at hv
  cases hv
  rw[eg]at k1
  have hwi:=hw _ hm
  have tk:ws.take (i+1)=ws.take i++[ws[i]]:=by rw[List.take_add_one,e0];rfl
  generalize ws[i]=wi at hwi hm k1 tk
  obtain⟨hwA,hwL⟩:=hwi
  walk_at "rd"
  intro H2 s2
  have s12:=s1.trans s2
  cases hn:M.V1 (M.cd wi)with
  |true =>
   rw[if_pos rfl]
   refine k1 _ H2 (s2 _ _ ea) ⟨s12.put ha,λw hw'=>?_⟩
   rw[tk]at hw'
   rcases List.mem_append.mp hw' with h1 |h1
   ·exact al w h1
   ·have:w=wi:=by simpa using h1
    rw[this];exact hn
  |false =>
   rw[if_neg (by decide)]
   exact q2 ⟨wi,hm,hn⟩ _ s12
 ·intro acc H' ha ⟨s1,al⟩ ea
  rw[ll,List.take_length]at al
  rw[ll]at ea
  refine q1 al acc H' s1 ha ?_
  rw[ea,range_getD ws ⟨#[]⟩ (λz=>V.int (numOf z)),iL,List.map_map]
  rfl
def Yq (K:PySem.W.Frag):Sp:=QW λa H Q=>∃(p:Addr) (l:List Int),ZJ K H p (iL l)∧a= .ref p∧l.length≤900∧(∀x∈l,0≤x∧x<10 ^ 20)∧∀H',Same H H'→Q (.str (M.QV l)) H'
theorem Ju (T:Txt K mg):Has P w K mg base (k+1) "show_numbers" ["row"] (Yq K):=by
 refine T.Qh.has Jz len1 (λf cdv A outer s H vs Q E hr h=>?_)
 obtain⟨a0,rfl,h⟩:=h
 refine⟨_,Z6 (ZR (Qq (K:=K) PySem.F.plainAttrs_str PySem.F.slot_str_join PySem.F.type_str_join (IW (K:=K)) ZK (Z_ (YF (vars:=["number"]) (caps:=[]) (ZD.of (outer:=Z9 Yd) (N:=["row"]) rfl rfl ⟨by decide +kernel⟩) rfl (YX (K:=K) (pv 0)) ⟨λ_ _ _ _=>⟨(Zy (i:=0) (show List.Nodup (["number"]:List Str)by decide +kernel) rfl (Or.inl rfl)),YG,(Zd Ze rfl T.Sx PyProof.Rows.boot_str (Z_ (pv 0) Z8))⟩⟩) Z8))),?_⟩
 obtain⟨p,l,hS,rfl,hl,hb,q⟩:=h
 have ll:(iL l).length=l.length:=List.length_map _
 walk_at "rd"
 refine⟨⟨_,hS⟩,?_⟩
 refine Wa (xs:=iL l) (λi=> .str (M.tx (l.getD i 0))) (λ_=>true) (Zx (by omega)) hS ?_ ?_
 ·intro i v t acc ys N Kt hi hv hn k1 k2
  have hi':i<l.length:=by omega
  have e0:l[i]? =some l[i]:=List.getElem?_eq_getElem hi'
  have eg:l.getD i 0=l[i]:=by rw[List.getD,e0];rfl
  have hm:=hb _ (List.getElem_mem hi')
  rw[List.getElem?_map,e0]at hv
  cases hv
  have k1':=λt'=>k1 t' rfl
  simp only[eg]at k1'
  have lg:=M.Tv hm.1 (Int.lt_of_lt_of_le hm.2 (by decide +kernel))
  walk_at "rd"
  exact k1' _
 rw[filter_true,ll,range_getD l 0 (λb=>V.str (M.tx b))]
 intro a hl2
 generalize e2:upd H a _=H1
 obtain⟨s1,fW⟩:=ZG hl2 e2
 clear e2
 have em:l.map (λb=>V.str (M.tx b))=(l.map M.tx).map V.str:=by rw[List.map_map];rfl
 rw[em]at fW
 walk_at "rd"
 refine⟨_,a,_,rfl,rfl,ZJ.of fW,M.Ii hb (by omega),?_⟩
 exact q H1 s1
end
section
variable {P:Program} {w:World} {K:PySem.W.Frag} {mg:Str→Option Value} {base:Heap} {k:Nat}
def b_ (b:Bool) (k:Int) (H:Hp) (Q:VK):Prop:=∀r H',Same H H'→H r=none→H' r=some (.tup [.bl b,.int k])→Q (.ref r) H'
theorem atN {ns:List Int} {i:Nat} (h:i<ns.length):MP (iL ns) (i:Int)=some (.int (ns.getD i 0)):=by
 have:=Xd (ns:=ns) (k:=(i:Int)) (by omega) (by omega)
 rw[Int.toNat_natCast]at this
 exact this
theorem fV {ns:List Int} {n:Nat} (h:ns.length=n) (h1:1≤n):MP (iL ns) (-1)=some (.int (ns.getD (n-1) 0)):=by
 unfold MP qe
 rw[List.length_map,h,if_neg (by decide),if_pos (by omega)]
 show(iL ns)[(-1+(n:Int)).toNat]? =_
 rw[show(-1+(n:Int)).toNat=n-1 by omega,List.getElem?_map,List.getD]
 have:ns[n-1]? =some ns[n-1]:=List.getElem?_eq_getElem (by omega)
 rw[this]
 rfl
theorem uc {ns:List Int} {i:Nat} (h:i<ns.length):ns.drop i=ns.getD i 0 :: ns.drop (i+1):=by
 rw[List.drop_eq_getElem_cons h,List.getD,List.getElem?_eq_getElem h]
 rfl
def lB (os:List Int) (n:Nat):Option Nat:=M.wF os 0 ((n:Int)-1) 0
def res2 (os:List Int) (n:Nat):Bool×Int:=match lB os n with
 |none=>(true,os.getD (n-1) 0)
 |some k=>(false,(k:Int))
def Lr (K:PySem.W.Frag):Sp:=QW λa H Q=>∃(p:Addr) (n:Nat) (os:List Int),ZJ K H p (iL os)∧a= .ref p∧(1≤n∧n≤60)∧M.Ord n os∧b_ (res2 os n).1 (res2 os n).2 H Q
theorem Cw (T:Txt K mg):Has P w K mg base (k+1) "by_second" ["order"] (Lr K):=by
 refine T.J5.has Xn len1 (λf cdv A outer s H vs Q E hr h=>?_)
 obtain⟨a0,rfl,h⟩:=h
 refine⟨_,Z7 (ZW (i:=1) Xn.nd rfl (Or.inl rfl) Z5)
  (Z7 (ZW (i:=2) Xn.nd rfl (Or.inl rfl) (ZS X7 (ZV (Y4 (K:=K)) rfl T.Za PySem.boot_len (Z_ (pv 0) Z8)) Z5))
  (Z7 (Xa PassesOwn.never rfl (O7 (K:=K) rfl T.V6 (Z_ (pv 0) Z8)) (Wq (K:=K) (n:=2) rfl (Y6 (Zy (i:=3) Xn.nd rfl (Or.inl rfl)) (Y6 (Zy (i:=4) Xn.nd rfl (Or.inl rfl)) U7)))
  (Z6 (Zn (Zu YJ (pv 4) (pv 1) (Zv _))
   (Z6 (ZW (i:=1) Xn.nd rfl (Or.inl rfl) (ZS Zo (pv 1) Z5)))
   (Z6 (Zn (Zu YJ (pv 4) (pv 2) (Zv _))
    (Z6 (ZW (i:=2) Xn.nd rfl (Or.inl rfl) (ZS X7 (pv 2) Z5)))
    (Z6 (ZR (TV (Z_ U3 (Z_ (ZS Zo (pv 3) Z5) Z8))))))))))
  (Z6 (ZR (TV (Z_ U3 (Z_ (Zq (ZQ (K:=K)) (pv 0) (Jh NQ Z5) (λ_ _=>rfl)) Z8))))))),?_⟩
 obtain⟨p,n,os,hS,rfl,⟨n1,n2⟩,o,q⟩:=h
 have hl:(iL os).length=n:=by rw[List.length_map,o.len]
 walk_at "rd"
 rw[hl]
 refine⟨⟨_,hS⟩,?_⟩
 refine Jd (xs:=iL os) (λi σ' H'=>(∃(l g:Int) (t3 t4:Option V),σ'=[some (.ref p),some (.int l),some (.int g),t3,t4]∧Same H H'∧M.wF (os.drop i) l g i=lB os n)∨False) (.inl ⟨0,(n:Int)-1,_,_,rfl,Same.refl _,rfl⟩) ?_ ?_ ?_
 ·intro i σ' H' _ z
  obtain⟨l,g,t3,t4,rfl,sm,_⟩:=z.resolve_right id
  exact sm.seq hS
 ·intro i x σ' H' T hx z hT
  obtain⟨l,g,t3,t4,rfl,sm,er⟩:=z.resolve_right id
  obtain⟨hi,rfl⟩:=Cy hx
  rw[uc hi]at er
  unfold M.wF at er
  generalize os.getD i 0=c at er
  have s4:Same H (upd H' T (.tup [.int i,.int c])):=sm.trans (Same.new hT _)
  refine⟨T,_,rfl,TY.of Z1,rfl,?_⟩
  generalize upd H' T (.tup [.int i,.int c])=H4 at s4
  walk_at "rd"
  refine XR (λcc=>?_) (λcc=>?_)<;>simp only[decide_eq_true_eq,V.int.injEq]at cc
  ·walk_at "rd"
   rw[if_pos cc]at er
   exact .inl ⟨_,_,_,_,rfl,s4,er⟩
  ·rw[if_neg cc]at er
   walk_at "rd"
   refine XR (λcd=>?_) (λcd=>?_)<;>simp only[decide_eq_true_eq,V.int.injEq]at cd
   ·walk_at "rd"
    rw[if_pos cd]at er
    exact .inl ⟨_,_,_,_,rfl,s4,er⟩
   ·rw[if_neg cd]at er
    walk_at "rd"
    intro u hu
    generalize e5:upd H4 u _=H5
    obtain⟨s5,eu⟩:=ZG hu e5
    refine q u H5 (s4.trans s5) (s4.free hu) ?_
    unfold res2
    rw[←er,eu]
    rfl
 ·intro σ' H' z
  obtain⟨l,g,t3,t4,rfl,sm,er⟩:=z.resolve_right id
  rw[hl,List.drop_of_length_le (by rw[o.len];omega)]at er
  walk_at "rd"
  refine⟨p,_,_,_,rfl,rfl,sm.seq hS,fV o.len n1,?_⟩
  walk_at "rd"
  intro u hu
  generalize e5:upd H' u _=H5
  obtain⟨s5,eu⟩:=ZG hu e5
  refine q u H5 (sm.trans s5) (sm.free hu) ?_
  unfold res2
  rw[←er,eu]
  rfl
def runs (os:List Int) (n:Nat):Option Nat:=M.wD os (os.getD 0 0) (os.getD 0 0) 0
def res (os:List Int) (n:Nat):Bool×Int:=match runs os n with
 |none=>(true,os.getD 0 0)
 |some k=>(false,(k:Int))
def J0 (K:PySem.W.Frag):Sp:=QW λa H Q=>∃(p:Addr) (n:Nat) (os:List Int),ZJ K H p (iL os)∧a= .ref p∧(1≤n∧n≤60)∧M.Ord n os∧b_ (res os n).1 (res os n).2 H Q
theorem yZ (T:Txt K mg):Has P w K mg base (k+1) "by_first" ["order"] (J0 K):=by
 refine T.Hw.has WY len1 (λf cdv A outer s H vs Q E hr h=>?_)
 obtain⟨a0,rfl,h⟩:=h
 refine⟨_,Z7 (ZW (i:=1) WY.nd rfl (Or.inl rfl) (Zq (ZQ (K:=K)) (pv 0) Z5 (λ_ _=>rfl)))
  (Z7 (ZW (i:=2) WY.nd rfl (Or.inl rfl) (Zq (ZQ (K:=K)) (pv 0) Z5 (λ_ _=>rfl)))
  (Z7 (Xa PassesOwn.never rfl (O7 (K:=K) rfl T.V6 (Z_ (pv 0) Z8)) (Wq (K:=K) (n:=2) rfl (Y6 (Zy (i:=3) WY.nd rfl (Or.inl rfl)) (Y6 (Zy (i:=4) WY.nd rfl (Or.inl rfl)) U7)))
  (Z6 (Zn (Zu YJ (pv 4) (pv 2) (Zv _))
   (Z6 (ZW (i:=2) WY.nd rfl (Or.inl rfl) (ZS Zo (pv 2) Z5)))
   (Z6 (Zn (Zu YJ (pv 4) (ZS X7 (pv 1) Z5) (Zv _))
    (Z6 (ZW (i:=1) WY.nd rfl (Or.inl rfl) (pv 4)))
    (Z6 (ZR (TV (Z_ U3 (Z_ (ZS Zo (pv 3) Z5) Z8))))))))))
  (Z6 (ZR (TV (Z_ U3 (Z_ (Zq (ZQ (K:=K)) (pv 0) Z5 (λ_ _=>rfl)) Z8))))))),?_⟩
 obtain⟨p,n,os,hS,rfl,⟨n1,n2⟩,o,q⟩:=h
 have hl:(iL os).length=n:=by rw[List.length_map,o.len]
 have at0:MP (iL os) 0=some (.int (os.getD 0 0)):=atN (i:=0) (by rw[o.len];omega)
 walk_at "rd"
 refine⟨p,_,_,_,rfl,rfl,hS,at0,?_⟩
 walk_at "rd"
 refine⟨p,_,_,_,rfl,rfl,hS,at0,?_⟩
 walk_at "rd"
 refine⟨⟨_,hS⟩,?_⟩
 refine Jd (xs:=iL os) (λi σ' H'=>(∃(l g:Int) (t3 t4:Option V),σ'=[some (.ref p),some (.int l),some (.int g),t3,t4]∧Same H H'∧M.wD (os.drop i) l g i=runs os n)∨False) (.inl ⟨_,_,_,_,rfl,Same.refl _,rfl⟩) ?_ ?_ ?_
 ·intro i σ' H' _ z
  obtain⟨l,g,t3,t4,rfl,sm,_⟩:=z.resolve_right id
  exact sm.seq hS
 ·intro i x σ' H' T hx z hT
  obtain⟨l,g,t3,t4,rfl,sm,er⟩:=z.resolve_right id
  obtain⟨hi,rfl⟩:=Cy hx
  rw[uc hi]at er
  unfold M.wD at er
  generalize os.getD i 0=c at er
  have s4:Same H (upd H' T (.tup [.int i,.int c])):=sm.trans (Same.new hT _)
  refine⟨T,_,rfl,TY.of Z1,rfl,?_⟩
  generalize upd H' T (.tup [.int i,.int c])=H4 at s4
  walk_at "rd"
  refine XR (λcc=>?_) (λcc=>?_)<;>simp only[decide_eq_true_eq,V.int.injEq]at cc
  ·walk_at "rd"
   rw[if_pos cc]at er
   exact .inl ⟨_,_,_,_,rfl,s4,er⟩
  ·rw[if_neg cc]at er
   walk_at "rd"
   refine XR (λcd=>?_) (λcd=>?_)<;>simp only[decide_eq_true_eq,V.int.injEq]at cd
   ·walk_at "rd"
    rw[if_pos cd,←cd]at er
    exact .inl ⟨_,_,_,_,rfl,s4,er⟩
   ·rw[if_neg cd]at er
    walk_at "rd"
    intro u hu
    generalize e5:upd H4 u _=H5
    obtain⟨s5,eu⟩:=ZG hu e5
    refine q u H5 (s4.trans s5) (s4.free hu) ?_
    unfold res
    rw[←er,eu]
    rfl
 ·intro σ' H' z
  obtain⟨l,g,t3,t4,rfl,sm,er⟩:=z.resolve_right id
  rw[hl,List.drop_of_length_le (by rw[o.len];omega)]at er
  walk_at "rd"
  refine⟨p,_,_,_,rfl,rfl,sm.seq hS,at0,?_⟩
  walk_at "rd"
  intro u hu
  generalize e5:upd H' u _=H5
  obtain⟨s5,eu⟩:=ZG hu e5
  refine q u H5 (sm.trans s5) (sm.free hu) ?_
  unfold res
  rw[←er,eu]
  rfl
def Vu (K:PySem.W.Frag):Sp:=QW λa H Q=>∃(p:Addr) (cs:List Int),ZJ K H p (iL cs)∧a= .ref p∧(1≤cs.length∧cs.length≤60)∧∀H',Same H H'→Q (.bl (decide (cs.map (· % (cs.length:Int))).Nodup)) H'
theorem QC (T:Txt K mg):Has P w K mg base (k+1) "leave_unlike_rests" ["cards"] (Vu K):=by
 refine T.Uy.has Vv len1 (λf cdv A outer s H vs Q E hr h=>?_)
 obtain⟨a0,rfl,h⟩:=h
 refine⟨_,Z7 (ZW (i:=1) Vv.nd rfl (Or.inr rfl) (ZV (Y4 (K:=K)) rfl T.Za PySem.boot_len (Z_ (pv 0) Z8)))
  (Z6 (ZR (V3 YJ (ZV Gj rfl T.Za PySem.boot_len (Z_ (Zd (nJ (K:=K) rfl) rfl T.cA PyProof.Rows.boot_set (Z_ (YF (vars:=["card"]) (caps:=[1]) (ZD.of (outer:=Z9 Zg) (N:=["cards","j"]) rfl rfl ⟨by decide +kernel⟩) rfl (YX (K:=K) (pv 0)) ⟨λ_ _ _ _=>⟨(Zy (i:=0) (show List.Nodup (["card","j"]:List Str)by decide +kernel) rfl (Or.inl rfl)),YG,(ZS Yi (pv 0) (pv 1))⟩⟩) Z8)) Z8)) (pv 1) (Zv _)))),?_⟩
 obtain⟨p,cs,hS,rfl,⟨l1,l2⟩,q⟩:=h
 have hl:(iL cs).length=cs.length:=List.length_map _
 walk_at "rd"
 refine⟨⟨_,hS⟩,?_⟩
 refine Wa (xs:=iL cs) (λi=> .int (cs.getD i 0 % ((iL cs).length:Int))) (λ_=>true) (Zx (by omega)) hS ?_ ?_
 ·intro i v t acc ys N Kt hi hv hacc k1 _
  obtain⟨_,rfl⟩:=Cy hv
  have k2:=k1 (some (.int (cs.getD i 0))) rfl
  walk_at "rd"
  exact k2
 rw[filter_true]
 intro l hl'
 generalize e1:upd H l _=H1
 obtain⟨s1,el⟩:=ZG hl' e1
 clear e1
 have em:(List.range (iL cs).length).map (λi=>V.int (cs.getD i 0 % ((iL cs).length:Int)))=iL (cs.map (· % (cs.length:Int))):=by
  rw[hl]
  apply List.ext_getElem?
  intro i
  rcases Nat.lt_or_ge i cs.length with h |h
  ·rw[List.getElem?_map,List.getElem?_range h,iL,List.getElem?_map,List.getElem?_map,List.getElem?_eq_getElem h]
   simp[List.getD,List.getElem?_eq_getElem h]
  ·rw[List.getElem?_eq_none (by simpa using h),List.getElem?_eq_none (by simp[iL];exact h)]
 rw[em]at el
 walk_at "rd"
 refine⟨l,cs.map (· % (cs.length:Int)),rfl,ZJ.of el,by rw[List.length_map];omega,?_⟩
 intro z hz
 generalize e2:upd H1 z _=H2
 obtain⟨s2,ez⟩:=ZG hz e2
 clear e2
 have hm:(met (cs.map (· % (cs.length:Int)))).length≤1000:=Nat.le_trans (PyProof.Rows.firstMet_length_le _ _) (by rw[List.length_map];omega)
 walk_at "rd"
 refine⟨z,_,_,rfl,ez,hm,?_⟩
 walk_at "rd"
 have ed:decide (V.int (((met (cs.map (· % (cs.length:Int)))).length:Nat):Int)=V.int ((iL cs).length:Int))=decide (cs.map (· % (cs.length:Int))).Nodup:=by
  refine decide_eq_decide.mpr ?_
  rw[←wQ,hl,List.length_map]
  constructor
  ·intro e
   have:=V.int.inj e
   omega
  ·intro e
   rw[e]
 rw[ed]
 exact q _ (s1.trans s2)
def rsd (os:List Int) (j p:Nat):List Int:=((os.drop p).take j).map (· % (j:Int))
def fU (os:List Int) (j p:Nat):Bool:=!decide (rsd os j p).Nodup
def lA (os:List Int) (n:Nat):Prop:=∀j k,1≤j→j≤n→k<n / j→fU os j (k*j)=false
structure jx (os:List Int) (n j k:Nat):Prop where
 j1:1≤j
 j2:j≤n
 k1:k<n / j
 hit:fU os j (k*j)=true
 bj:∀j' k',1≤j'→j'<j→k'<n / j'→fU os j' (k'*j')=false
 bk:∀k',k'<k→fU os j (k'*j)=false
theorem jx.uniq {os:List Int} {n j k j' k':Nat} (h:jx os n j k) (h':jx os n j' k'):j=j'∧k=k':=by
 have ej:j=j':=by
  rcases Nat.lt_trichotomy j j' with c |c |c
  ·have:=h'.bj j k h.j1 c h.k1;rw[h.hit]at this;cases this
  ·exact c
  ·have:=h.bj j' k' h'.j1 c h'.k1;rw[h'.hit]at this;cases this
 subst ej
 refine⟨rfl,?_⟩
 rcases Nat.lt_trichotomy k k' with c |c |c
 ·have:=h'.bk k c;rw[h.hit]at this;cases this
 ·exact c
 ·have:=h.bk k' c;rw[h'.hit]at this;cases this
theorem jx.not {os:List Int} {n j k:Nat} (h:jx os n j k) (a:lA os n):False:=by
 have:=a j k h.j1 h.j2 h.k1
 rw[h.hit]at this
 cases this
theorem fits {n j k:Nat} (h:k<n / j):k*j+j≤n:=by
 have h1:(k+1)*j≤n / j*j:=Nat.mul_le_mul_right j h
 have h2:n / j*j≤n:=Nat.div_mul_le_self n j
 rw[Nat.succ_mul]at h1
 omega
theorem aaI {n j:Nat} (j1:1≤j) (j2:j≤n):(Builtin.Range.rangeSize 0 ((n:Int)-j+1) j).toNat=n / j:=by
 have e:Builtin.Range.rangeSize 0 ((n:Int)-j+1) j=if(0:Int)<(n:Int)-j+1 then((n:Int)-j+1-0-1) / j+1 else 0:=by unfold Builtin.Range.rangeSize;rw[if_pos (by omega)]
 rw[e,if_pos (by omega)]
 have e2:((n:Int)-j+1-0-1) / j+1=((n / j:Nat):Int):=by
  rw[show(n:Int)-j+1-0-1=(n:Int)+(-1)*j by omega,Int.add_mul_ediv_right _ _ (by omega),Int.natCast_ediv]
  omega
 rw[e2,Int.toNat_natCast]
def acf (a b:Int) (H:Hp) (Q:VK):Prop:=∀r H',Same H H'→H r=none→H' r=some (.tup [.int a,.int b])→Q (.ref r) H'
def aaJ (K:PySem.W.Frag):Sp:=QW λa H Q=>∃(p:Addr) (n:Nat) (os:List Int),ZJ K H p (iL os)∧a= .ref p∧(1≤n∧n≤60)∧M.Ord n os∧(lA os n→∀H',Same H H'→Q .non H')∧∀j k,jx os n j k→acf j ((k*j:Nat):Int) H Q
abbrev yX (K:PySem.W.Frag):Sp:=aaJ K
theorem lq (T:Txt K mg) (Pn:Has P w K mg base k "leave_unlike_rests" ["cards"] (Vu K)):Has P w K mg base (k+1) "rests" ["order"] (yX K):=by
 refine T.um.has L_ len1 (λf cdv A outer s H vs Q E hr h=>?_)
 obtain⟨a0,rfl,h⟩:=h
 refine⟨_,Z7 (ZW (i:=1) L_.nd rfl (Or.inl rfl) (ZV (Y4 (K:=K)) rfl T.Za PySem.boot_len (Z_ (pv 0) Z8)))
  (Z7 (Xa PassesOwn.never rfl (sX rfl T.XJ (Z_ Z5 (Z_ (ZS Zo (pv 1) Z5) Z8))) (Zy (i:=2) L_.nd rfl (Or.inl rfl))
  (Z6 (Xa PassesOwn.never rfl (K6 rfl T.XJ (Z_ Z5 (Z_ (ZS Zo (ZS X7 (pv 1) (pv 2)) Z5) (Z_ (pv 2) Z8)))) (Zy (i:=3) L_.nd rfl (Or.inl rfl))
   (Z6 (Zn (Yr (YM (Z4 Pn hr (Z_ (MJ (O8 (K:=K)) (pv 0) (Ro (pv 3)) (Ro (ZS Zo (pv 3) (pv 2)))) Z8))))
    (Z6 (ZR (TV (Z_ (pv 2) (Z_ (pv 3) Z8)))))
    (Zz))))))
  (Z6 (ZR p7))),?_⟩
 obtain⟨p,n,os,hS,rfl,⟨n1,n2⟩,o,q1,q2⟩:=h
 have l:=o.len
 have hl:(iL os).length=n:=by rw[List.length_map,l]
 walk_at "rd"
 rw[hl,show((n:Int)+1-1).toNat=n by omega]
 refine Ud (λi σ' H'=>(∃t2 t3:Option V,σ'=[some (.ref p),some (.int n),t2,t3]∧Same H H'∧∀j' k',1≤j'→j'≤i→k'<n / j'→fU os j' (k'*j')=false)∨False) (.inl ⟨_,_,rfl,Same.refl _,λj' k' h1 h2 _=>absurd h2 (by omega)⟩) ?_ ?_
 ·intro i σ' H' hi z
  obtain⟨t2,t3,rfl,sm,hbj⟩:=z.resolve_right id
  obtain⟨j,hj⟩:∃j:Nat,j=i+1:=⟨_,rfl⟩
  rw[show(1:Int)+(i:Int)=(j:Int)by omega]
  obtain⟨r1,r2,r3⟩:=oX (lo:=0) (hi:=(n:Int)-j+1) (c:=j) (by omega) (by omega) (by omega) (by omega) (by omega) (by omega)
  walk_at "rd"
  refine⟨⟨r1,r2⟩,?_⟩
  rw[aaI (show 1≤j by omega) (show j≤n by omega)]
  refine Nz (λk σ2 H2=>(∃t3:Option V,σ2=[some (.ref p),some (.int n),some (.int j),t3]∧Same H H2∧∀k',k'<k→fU os j (k'*j)=false)∨False) (.inl ⟨_,rfl,sm,λk' hk=>absurd hk (by omega)⟩) ?_ ?_
  ·intro k σ2 H2 hk z
   obtain⟨t3,rfl,sm2,hbk⟩:=z.resolve_right id
   have hf:=fits hk
   have ek:(0:Int)+(k:Int)*(j:Int)=((k*j:Nat):Int):=by rw[Int.natCast_mul];omega
   rw[ek]
   have hS2:=sm2.seq hS
   walk_at "rd"
   refine⟨p,_,rfl,hS2,?_⟩
   rw[iM (by rw[hl];exact hf)]
   intro g hg
   generalize e3:upd H2 g _=H3
   obtain⟨s3,eg⟩:=ZG hg e3
   clear e3
   have eg':H3 g=some (.lst (iL ((os.drop (k*j)).take j))):=by rw[eg,iL,iL,List.map_take,List.map_drop]
   have lc:((os.drop (k*j)).take j).length=j:=by rw[List.length_take,List.length_drop];omega
   walk_at "rd"
   refine⟨g,_,ZJ.of eg',rfl,⟨by omega,by omega⟩,λH4 s4=>?_⟩
   have s24:=sm2.trans (s3.trans s4)
   have ea:decide (((os.drop (k*j)).take j).map (· % (((os.drop (k*j)).take j).length:Int))).Nodup= !fU os j (k*j):=by
    unfold fU rsd
    rw[lc,Bool.not_not]
   rw[ea]
   walk_at "rd"
   cases hc:fU os j (k*j)with
   |false =>
    walk_at "rd"
    refine .inl ⟨_,rfl,s24,λk' hk'=>?_⟩
    rcases Nat.lt_or_ge k' k with c |c
    ·exact hbk k' c
    ·have:k'=k:=by omega
     subst this
     exact hc
   |true =>
    walk_at "rd"
    intro u hu
    generalize e5:upd H4 u _=H5
    obtain⟨s5,eu⟩:=ZG hu e5
    exact q2 j k ⟨by omega,by omega,hk,hc,λj' k' a1 a2 a3=>hbj j' k' a1 (by omega) a3,hbk⟩ u H5 (s24.trans s5) (s24.free hu) eu
  ·intro σ2 H2 z
   obtain⟨t3,rfl,sm2,hbk⟩:=z.resolve_right id
   refine .inl ⟨_,_,rfl,sm2,λj' k' a1 a2 a3=>?_⟩
   rcases Nat.lt_or_ge j' j with c |c
   ·exact hbj j' k' a1 (by omega) a3
   ·have:j'=j:=by omega
    subst this
    exact hbk k' a3
 ·intro σ' H' z
  obtain⟨t2,t3,rfl,sm,hbj⟩:=z.resolve_right id
  walk_at "rd"
  exact q1 (λj k a1 a2 a3=>hbj j k a1 a2 a3) H' sm
def GX (K:PySem.W.Frag):Sp:=QW λa H Q=>∃(p:Addr) (ns:List Int),ZJ K H p (iL ns)∧a= .ref p∧ns.length≤1000∧∀H',Same H H'→Q (.int (M.gQ ns:Nat)) H'
def t_ (K:PySem.W.Frag):Sp:=QW λa H Q=>∃(p:Addr) (ns:List Int) (n:Nat),ZJ K H p (iL ns)∧a= .ref p∧M.Ord n ns∧n≤1000∧∀H',Same H H'→Q (.int ((M.gQ (M.JH n ns):Nat)+1)) H'
theorem k_ (T:Txt K mg):Has P w K mg base (k+1) "falls" ["order"] (GX K):=by
 refine T.uq.has lJ len1 (λf cdv A outer s H vs Q E hr h=>?_)
 obtain⟨a0,rfl,h⟩:=h
 refine⟨_,Z6 (ZR (ZV (Y4 (K:=K)) rfl T.Za PySem.boot_len (Z_ (YF (vars:=["p"]) (caps:=[0]) (ZD.of (outer:=Z9 Ri) (N:=["order"]) rfl rfl ⟨by decide +kernel⟩) rfl (Xy rfl T.XJ (Z_ (ZS X7 (ZV (Y4 (K:=K)) rfl T.Za PySem.boot_len (Z_ (pv 0) Z8)) Z5) Z8)) ⟨λ_ _ _ _=>⟨(Zy (i:=0) (show List.Nodup (["p","order"]:List Str)by decide +kernel) rfl (Or.inl rfl)),(iV (Zu Og (Zq (ZQ (K:=K)) (pv 1) (ZS Zo (pv 0) Z5) (λ_ _=>rfl)) (Zq (ZQ (K:=K)) (pv 1) (pv 0) (λ_ _=>rfl)) (Zv _))),(pv 0)⟩⟩) Z8))),?_⟩
 obtain⟨p,ns,hS,rfl,hn,q⟩:=h
 have hl:(iL ns).length=ns.length:=List.length_map _
 walk_at "rd"
 rw[hl]
 refine Vo (λi=> .int (0+(i:Int))) (λi=>decide (ns.getD (i+1) 0<ns.getD i 0)) (Zx (by omega)) ?_ ?_
 ·intro i t acc ys N Kt hi hacc k1 k2
  have S1:=(Same.new hacc (.lst ys)).seq hS
  walk_at "rd"
  refine⟨p,_,_,_,rfl,rfl,S1,Xd (by omega) (by omega),?_⟩
  walk_at "rd"
  refine⟨p,_,_,_,rfl,rfl,S1,Xd (by omega) (by omega),?_⟩
  walk_at "rd"
  have e1:(0+(i:Int)+1).toNat=i+1:=by omega
  have e2:(0+(i:Int)).toNat=i:=by omega
  rw[e1,e2]
  refine XR (λc=>?_) (λc=>?_)
  ·walk_at "rd"
   exact k1 _ c
  ·exact k2 _ (Bool.eq_false_iff.mpr c)
 ·intro l hl
  refine⟨_,_,rfl,.inl (ZJ.of Z1),?_⟩
  have e:((((List.range ((ns.length:Int)-1).toNat).filter λi=>decide (ns.getD (i+1) 0<ns.getD i 0)).map λi:Nat=>V.int (0+(i:Int))).length:Int)=(M.gQ ns:Nat):=by
   rw[List.length_map,show((ns.length:Int)-1).toNat=ns.length-1 by omega]
   rfl
  have z:=q _ (Same.new hl (.lst (((List.range ((ns.length:Int)-1).toNat).filter λi=>decide (ns.getD (i+1) 0<ns.getD i 0)).map λi:Nat=>V.int (0+(i:Int)))))
  rw[←e]at z
  exact z
theorem fQ (T:Txt K mg) (Cv:Has P w K mg base k "falls" ["order"] (GX K)) (PB:Has P w K mg base k "places" ["order"] (Ov K)):Has P w K mg base (k+1) "runs" ["order"] (t_ K):=by
 refine T.lU.has gq len1 (λf cdv A outer s H vs Q E hr h=>?_)
 obtain⟨a0,rfl,h⟩:=h
 refine⟨_,Z6 (ZR (ZS Zo (Z4 Cv hr (Z_ (Z4 PB hr (Z_ (pv 0) Z8)) Z8)) Z5)),?_⟩
 obtain⟨p,ns,n,hS,rfl,ho,hn,q⟩:=h
 walk_at "rd"
 refine⟨p,ns,n,hS,rfl,ho,hn,λr H1 s1 hr er=>?_⟩
 walk_at "rd"
 refine⟨r,_,ZJ.of er,rfl,by rw[M.Vn];exact hn,λH2 s2=>?_⟩
 walk_at "rd"
 exact q _ (s1.trans s2)
end
section
variable {P:Program} {w:World} {K:PySem.W.Frag} {mg:Str→Option Value} {base:Heap} {k:Nat}
def tL (yj:List (List Int)):List (List V):=yj.map λr=>iL r
structure Tm (m:Nat) (yj:List (List Int)):Prop where
 len:yj.length=m
 row:∀k,k<m→(yj.getD k []).length=m
 bd:∀k j,((yj.getD k []).getD j 0).natAbs<2 ^ 10000
 le:m≤60
def Bd (row:List Int):Prop:=∀k,(row.getD k 0).natAbs<2 ^ 10000
def Fit (n k:Int):Prop:=0≤n∧n≤10 ^ 38∧(n<1000∨k≤60)
def Ec (K:PySem.W.Frag):Sp:=JL λa b H Q=>∃n k:Int,a= .int n∧b= .int k∧Fit n k∧Q (.int (M.Uo n k)) H
theorem qH (T:Txt K mg):Has P w K mg base (k+1) "choose" ["n","k"] (Ec K):=by
 refine T.zK.has Ox len2 (λf cdv A outer s H vs Q E hr h=>?_)
 obtain⟨a0,a1,rfl,h⟩:=h
 refine⟨_,Z7 (Zn (PW.pt (QX (Zu Og (pv 1) Z5 (Zv _)) (Rp (Zu Fv (pv 1) (pv 0) (Zv _)))))
  (Z6 (ZR Z5))
  (Zz))
  (Z7 (ZW (i:=2) Ox.nd rfl (Or.inl rfl) Z5)
  (Z7 (Xa PassesOwn.never rfl (Xy rfl T.XJ (Z_ (ZV (sV rfl) rfl T.cB PyProof.Rows.boot_min (Z_ (pv 1) (Z_ (ZS X7 (pv 0) (pv 1)) Z8))) Z8)) (Zy (i:=3) Ox.nd rfl (Or.inl rfl))
  (Z6 (ZW (i:=2) Ox.nd rfl (Or.inl rfl) (ZS Yb (ZS X_ (pv 2) (ZS X7 (pv 0) (pv 3))) (ZS Zo (pv 3) Z5)))))
  (Z6 (ZR (pv 2))))),?_⟩
 obtain⟨n,k,rfl,rfl,hf,q⟩:=h
 obtain⟨f0,f1,f2⟩:=hf
 walk_at "rd"
 refine XR (λc=>?_) (λc=>?_)<;>simp only[decide_eq_true_eq]at c
 ·refine XR (λd=>?_) (λd=>absurd rfl d)
  rw[M.YL (.inl c)]at q
  exact q
 walk_at "rd"
 refine XR (λd=>?_) (λd=>?_)<;>simp only[decide_eq_true_eq]at d
 ·rw[M.YL (.inr d)]at q
  exact q
 walk_at "rd"
 refine Ud (λi σ' H'=>(∃t,σ'=[some (.int n),some (.int k),some (.int (M.ch n.toNat i:Nat)),t]∧H'=H)∨False) (.inl ⟨none,by rw[M.Xc];rfl,rfl⟩) ?_ ?_
 ·intro i σ' H' hi z
  obtain⟨t,rfl,rfl⟩:=z.resolve_right id
  have hi':(i:Int)<if n-k<k then n-k else k:=by omega
  have h2:(i:Int)≤n:=by split at hi'<;>omega
  have hn:n.toNat<2 ^ 133:=Nat.lt_of_le_of_lt (show n.toNat≤10 ^ 38 by omega) (by decide +kernel)
  have hb:=M.zL hn i
  walk_at "rd"
  refine⟨mulOk_of (m:=133*i+1) (n:=133) (by simpa using hb) (Nat.lt_of_le_of_lt (show _≤10 ^ 38 by omega) (by decide +kernel)) (by split at hi'<;>omega),?_⟩
  walk_at "rd"
  refine .inl ⟨some (.int (0+i)),?_,rfl⟩
  have e:((M.ch n.toNat i:Nat):Int)*(n-(0+i)) / (0+i+1)=((M.ch n.toNat (i+1):Nat):Int):=by
   rw[←M.aav,show n-(0+(i:Int))=((n.toNat-i:Nat):Int)by omega,show(0+(i:Int)+1)=((i+1:Nat):Int)by omega,←Int.natCast_mul,←Int.natCast_ediv]
  rw[←e]
  rfl
 ·intro σ' H' z
  obtain⟨t,rfl,rfl⟩:=z.resolve_right id
  walk_at "rd"
  have e:M.Uo n k=((M.ch n.toNat (if n-k<k then n-k else k).toNat:Nat):Int):=by
   rw[M.Uu (by omega) (by omega)]
   split
   ·rw[show(n-k).toNat=n.toNat-k.toNat by omega,M.gM (by omega)]
   ·rfl
  rw[e]at q
  exact q
def Big (x:Int):Prop:=x.natAbs<2 ^ 4000
theorem Cu (x:Int):(if x<0 then -x else x)=((x.natAbs:Nat):Int):=by split<;>omega
def Tg (K:PySem.W.Frag):Sp:=JL λa b H Q=>∃x y:Nat,a= .int x∧b= .int y∧Q (.int ((Nat.gcd x y:Nat):Int)) H
theorem M_ (T:Txt K mg):Has P w K mg base (k+1) "greatest_common" ["one","other"] (Tg K):=by
 refine T.SX.has Xo len2 (λf cdv A outer s H vs Q E hr h=>?_)
 obtain⟨a0,a1,rfl,h⟩:=h
 refine⟨_,Z7 (Ji PassesOwn.never (Zu Bs (pv 1) Z5 (Zv _))
  (Z7 (ZW (i:=2) Xo.nd rfl (Or.inl rfl) (ZS Yi (pv 0) (pv 1)))
   (Z7 (ZW (i:=0) Xo.nd rfl (Or.inl rfl) (pv 1))
   (Z6 (ZW (i:=1) Xo.nd rfl (Or.inl rfl) (pv 2))))))
  (Z6 (ZR (pv 0))),?_⟩
 obtain⟨x,y,rfl,rfl,q⟩:=h
 refine⟨λm σ' H'=>(∃(x' y':Nat) (t2:Option V),σ'=[some (.int x'),some (.int y'),t2]∧H'=H∧Nat.gcd x' y'=Nat.gcd x y∧m=y')∨False,⟨_,.inl ⟨x,y,_,rfl,rfl,rfl,rfl⟩⟩,?_⟩
 intro m σ' H' z
 obtain⟨x',y',t2,rfl,rfl,hg,rfl⟩:=z.resolve_right id
 walk_at "rd"
 refine XR (λcc=>?_) (λcc=>?_)
 ·have cc':(m:Int)≠0:=by simpa using cc
  have hm:0<m:=by omega
  refine⟨λσ2 H2=>(σ2=[some (.int m),some (.int ((x' % m:Nat):Int)),some (.int ((x' % m:Nat):Int))]∧H2=H')∨False,λσ2 H2 z=>?_,?_⟩
  ·obtain⟨rfl,rfl⟩:=z.resolve_right id
   refine⟨x' % m,Nat.mod_lt _ hm,.inl ⟨_,_,_,rfl,rfl,?_,rfl⟩⟩
   rw[←hg,Nat.gcd_comm m,←Nat.gcd_rec,Nat.gcd_comm]
  walk_at "rd"
  refine .inl ⟨?_,rfl⟩
  rw[Int.natCast_emod]
  rfl
 ·have cc':(m:Int)=0:=by simpa using cc
  have:m=0:=by omega
  subst this
  rw[Nat.gcd_zero_right]at hg
  walk_at "rd"
  rw[hg]
  exact q
def JZ (K:PySem.W.Frag):Sp:=JL λa b H Q=>∃top bottom:Int,a= .int top∧b= .int bottom∧(Big top∧Big bottom∧bottom≠0)∧∀t u:Int,M.gC top bottom t u→∀r H',Same H H'→H r=none→H' r=some (.tup [.int t,.int u])→Q (.ref r) H'
theorem yV (T:Txt K mg) (Lq:Has P w K mg base k "greatest_common" ["one","other"] (Tg K)):Has P w K mg base (k+1) "fraction" ["top","bottom"] (JZ K):=by
 refine T.Hy.has Qa len2 (λf cdv A outer s H vs Q E hr h=>?_)
 obtain⟨a0,a1,rfl,h⟩:=h
 refine⟨_,Z7 (ZW (i:=2) Qa.nd rfl (Or.inl rfl) (Z4 Lq hr (Z_ (ZV RZ rfl T.Ht PyProof.Rows.boot_abs (Z_ (pv 0) Z8)) (Z_ (ZV RZ rfl T.Ht PyProof.Rows.boot_abs (Z_ (pv 1) Z8)) Z8))))
  (Z7 (ZW (i:=3) Qa.nd rfl (Or.inl rfl) (U0 (Zu Fv (pv 1) Z5 (Zv _)) (pv 2) (Jh NQ (pv 2))))
  (Z6 (ZR (TV (Z_ (ZS Am (pv 0) (pv 3)) (Z_ (ZS Am (pv 1) (pv 3)) Z8)))))),?_⟩
 obtain⟨top,bottom,rfl,rfl,⟨b1,b2,h0⟩,q⟩:=h
 have hg:0<Int.gcd top bottom:=Int.gcd_pos_of_ne_zero_right _ h0
 have aey:Int.gcd top bottom≤bottom.natAbs:=Nat.gcd_le_right _ (by omega)
 have hgb:Int.gcd top bottom<2 ^ 9000:=Nat.lt_of_le_of_lt aey (Nat.lt_of_lt_of_le b2 (Nat.pow_le_pow_right (by decide) (by decide)))
 walk_at "rd"
 rw[Cu,Cu]
 refine⟨top.natAbs,bottom.natAbs,rfl,rfl,?_⟩
 rw[show Nat.gcd top.natAbs bottom.natAbs=Int.gcd top bottom from rfl]
 walk_at "rd"
 refine XR (λcc=>?_) (λcc=>?_)<;>simp only[decide_eq_true_eq]at cc
 ·have hd:((Int.gcd top bottom:Nat):Int)=if bottom > 0 then((Int.gcd top bottom:Nat):Int)else -((Int.gcd top bottom:Nat):Int):=by rw[if_pos cc]
  have hd0:((Int.gcd top bottom:Nat):Int)≠0:=by omega
  have hd2:(((Int.gcd top bottom:Nat):Int)).natAbs<2 ^ 9000:=by rw[Int.natAbs_natCast];exact hgb
  have hdB:Ao top ((Int.gcd top bottom:Nat):Int)∧Ao bottom ((Int.gcd top bottom:Nat):Int):=⟨⟨hd0,hd2⟩,⟨hd0,hd2⟩⟩
  walk_at "rd"
  refine And.intro hdB.1 ?_
  walk_at "rd"
  refine And.intro hdB.2 ?_
  walk_at "rd"
  intro r hr'
  generalize e1:upd H r _=H1
  obtain⟨s1,er⟩:=ZG hr' e1
  exact q _ _ (M.uy h0 hd) r H1 s1 hr' er
 ·have hd: -((Int.gcd top bottom:Nat):Int)=if bottom > 0 then((Int.gcd top bottom:Nat):Int)else -((Int.gcd top bottom:Nat):Int):=by rw[if_neg cc]
  have hd0: -((Int.gcd top bottom:Nat):Int)≠0:=by omega
  have hd2:(-((Int.gcd top bottom:Nat):Int)).natAbs<2 ^ 9000:=by rw[Int.natAbs_neg,Int.natAbs_natCast];exact hgb
  walk_at "rd"
  have hdB:Ao top (-((Int.gcd top bottom:Nat):Int))∧Ao bottom (-((Int.gcd top bottom:Nat):Int)):=⟨⟨hd0,hd2⟩,⟨hd0,hd2⟩⟩
  walk_at "rd"
  refine And.intro hdB.1 ?_
  walk_at "rd"
  refine And.intro hdB.2 ?_
  walk_at "rd"
  intro r hr'
  generalize e1:upd H r _=H1
  obtain⟨s1,er⟩:=ZG hr' e1
  exact q _ _ (M.uy h0 hd) r H1 s1 hr' er
def yS (K:PySem.W.Frag):Sp:=JL λa b H Q=>∃x n:Nat,a= .int x∧b= .int n∧(x≤10 ^ 36∧n≤60)∧Q (.int ((x ^ n:Nat):Int)) H
theorem kZ {x:Nat} (h:x≤10 ^ 36):x<2 ^ 133:=Nat.lt_of_le_of_lt h (by decide +kernel)
theorem kY (T:Txt K mg):Has P w K mg base (k+1) "power" ["base","times"] (yS K):=by
 refine T.ux.has Mf len2 (λf cdv A outer s H vs Q E hr h=>?_)
 obtain⟨a0,a1,rfl,h⟩:=h
 refine⟨_,Z7 (ZW (i:=2) Mf.nd rfl (Or.inl rfl) Z5)
  (Z7 (Xa PassesOwn.never rfl (Xy rfl T.XJ (Z_ (pv 1) Z8)) (Zy (i:=3) Mf.nd rfl (Or.inl rfl))
  (Z6 (ZW (i:=2) Mf.nd rfl (Or.inl rfl) (ZS X_ (pv 2) (pv 0)))))
  (Z6 (ZR (pv 2)))),?_⟩
 obtain⟨x,n,rfl,rfl,⟨h1,h2⟩,q⟩:=h
 walk_at "rd"
 rw[Int.toNat_natCast]
 refine Ud (λi σ' H'=>(∃t,σ'=[some (.int x),some (.int n),some (.int ((x ^ i:Nat):Int)),t]∧H'=H)∨False) (.inl ⟨none,by rw[Nat.pow_zero];rfl,rfl⟩) ?_ ?_
 ·intro i σ' H' hi z
  obtain⟨t,rfl,rfl⟩:=z.resolve_right id
  have hb:=M.Es (kZ h1) i
  walk_at "rd"
  refine⟨mulOk_of (m:=133*i+1) (n:=133) (by simpa using hb) (by rw[Int.natAbs_natCast];exact kZ h1) (by omega),?_⟩
  refine .inl ⟨some (.int (0+i)),?_,rfl⟩
  rw[Nat.pow_succ,Int.natCast_mul]
  rfl
 ·intro σ' H' z
  obtain⟨t,rfl,rfl⟩:=z.resolve_right id
  walk_at "rd"
  exact q
def Vt (K:PySem.W.Frag):Sp:=QW λa H Q=>∃(p:Addr) (cs:List Int),H p=some (.lst (iL cs))∧a= .ref p∧cs.length≤900∧rNew (iL (M.more cs)) H Q
theorem QB (T:Txt K mg):Has P w K mg base (k+1) "with_one_card_more" ["counts"] (Vt K):=by
 refine T.Uz.has X8 len1 (λf cdv A outer s H vs Q E hr h=>?_)
 obtain⟨a0,rfl,h⟩:=h
 refine⟨_,Z7 (ZW (i:=1) X8.nd rfl (Or.inr rfl) (ZS Zo (ZV (Y4 (K:=K)) rfl T.Za PySem.boot_len (Z_ (pv 0) Z8)) Z5))
  (Z7 (ZW (i:=2) X8.nd rfl (Or.inr rfl) (ZS TQ (pv 0) (Yh (Z_ Z5 Z8))))
  (Z7 (ZW (i:=3) X8.nd rfl (Or.inr rfl) (ZS TQ (Yh (Z_ Z5 Z8)) (pv 0)))
  (Z6 (ZR (YF (vars:=["j"]) (caps:=[2,1,3]) (ZD.of (outer:=Z9 Zh) (N:=["counts","cards","kept","grown"]) rfl rfl ⟨by decide +kernel⟩) rfl (Xy rfl T.XJ (Z_ (pv 1) Z8)) ⟨λ_ _ _ _=>⟨(Zy (i:=0) (show List.Nodup (["j","kept","cards","grown"]:List Str)by decide +kernel) rfl (Or.inl rfl)),YG,(ZS Zo (ZS X_ (ZS Zo (pv 0) Z5) (Zq (ZQ (K:=K)) (pv 1) (pv 0) (λ_ _=>rfl))) (ZS X_ (ZS X7 (pv 2) (pv 0)) (Zq (ZQ (K:=K)) (pv 3) (pv 0) (λ_ _=>rfl))))⟩⟩))))),?_⟩
 obtain⟨p,cs,hp,rfl,hl,q⟩:=h
 have hS:ZJ K H p (iL cs):=ZJ.of hp
 have hln:(iL cs).length=cs.length:=List.length_map _
 walk_at "rd"
 intro a ha
 generalize e1:upd H a _=H1
 obtain⟨s1,ea⟩:=ZG ha e1
 refine⟨p,a,_,_,rfl,rfl,s1 _ _ hp,ea,Zx (by rw[hln];simp;omega),?_⟩
 intro b hb
 generalize e2:upd H1 b _=H2
 obtain⟨s2,eb⟩:=ZG hb e2
 walk_at "rd"
 intro c hc
 generalize e3:upd H2 c _=H3
 obtain⟨s3,ec⟩:=ZG hc e3
 have Nh:=s1.trans (s2.trans s3)
 walk_at "rd"
 refine⟨c,p,_,_,rfl,rfl,ec,Nh _ _ hp,Zx (by rw[hln];simp;omega),?_⟩
 intro d hd
 generalize e4:upd H3 d _=H4
 obtain⟨s4,ed⟩:=ZG hd e4
 clear e1 e2 e3 e4
 have s04:=Nh.trans s4
 have eb4:H4 b=some (.lst (iL (cs++[0]))):=by rw[(s3.trans s4) _ _ eb];simp
 have ed4:H4 d=some (.lst (iL (0 :: cs))):=ed
 walk_at "rd"
 rw[hln,show((cs.length:Int)+1).toNat=cs.length+1 by omega]
 refine Vo (λj=> .int (((j:Int)+1)*(cs++[0]).getD j 0+((cs.length:Int)+1-j)*(0 :: cs).getD j 0)) (λ_=>true) (Zx (by omega)) ?_ ?_
 ·intro i t acc ys N Kt hi hacc k1 _
  have sa:=Same.new hacc (.lst ys)
  have k2:=k1 (some (.int (0+i))) rfl
  rw[Int.zero_add (i:Int)]at k2 ⊢
  have at1:MP (iL (cs++[0])) (i:Int)=some (.int ((cs++[0]).getD i 0)):=by
   have:=Xd (ns:=cs++[0]) (k:=(i:Int)) (by omega) (by simp;omega)
   rw[Int.toNat_natCast]at this
   exact this
  have at2:MP (iL (0 :: cs)) (i:Int)=some (.int ((0 :: cs).getD i 0)):=by
   have:=Xd (ns:=0 :: cs) (k:=(i:Int)) (by omega) (by simp;omega)
   rw[Int.toNat_natCast]at this
   exact this
  walk_at "rd"
  refine⟨b,_,_,_,rfl,rfl,ZJ.of (sa _ _ eb4),at1,?_⟩
  walk_at "rd"
  refine⟨d,_,_,_,rfl,rfl,ZJ.of (sa _ _ ed4),at2,?_⟩
  walk_at "rd"
  exact k2
 rw[filter_true]
 have e0:((List.range (cs.length+1)).map λj:Nat=>V.int (((j:Int)+1)*(cs++[0]).getD j 0+((cs.length:Int)+1-j)*(0 :: cs).getD j 0))=iL (M.more cs):=by rw[M.more,iL,List.map_map];rfl
 rw[e0]
 intro r hr
 exact q r _ (s04.put (s04.free hr)) (s04.free hr) Z1
def JX (K:PySem.W.Frag):Sp:=QW λa H Q=>∃n:Nat,a= .int n∧(1≤n∧n≤60)∧rNew (iL (M.Yj (n-1))) H Q
theorem yQ (T:Txt K mg) (Pj:Has P w K mg base k "with_one_card_more" ["counts"] (Vt K)):Has P w K mg base (k+1) "by_falls" ["n"] (JX K):=by
 refine T.HW.has Qc len1 (λf cdv A outer s H vs Q E hr h=>?_)
 obtain⟨a0,rfl,h⟩:=h
 refine⟨_,Z7 (ZW (i:=1) Qc.nd rfl (Or.inl rfl) (Yh (Z_ Z5 Z8)))
  (Z7 (Ji PassesOwn.never (Zu Og (ZV (Y4 (K:=K)) rfl T.Za PySem.boot_len (Z_ (pv 1) Z8)) (pv 0) (Zv _))
  (Z6 (ZW (i:=1) Qc.nd rfl (Or.inl rfl) (Z4 Pj hr (Z_ (pv 1) Z8)))))
  (Z6 (ZR (pv 1)))),?_⟩
 obtain⟨n,rfl,⟨h1,h2⟩,q⟩:=h
 walk_at "rd"
 intro c0 hc0
 generalize e1:upd H c0 _=H1
 obtain⟨s1,ec0⟩:=ZG hc0 e1
 clear e1
 refine⟨λm σ' H'=>(∃(i:Nat) (c:Addr),σ'=[some (.int n),some (.ref c)]∧Same H H'∧H' c=some (.lst (iL (M.Yj i)))∧H c=none∧i+1≤n∧m=n-i)∨False,⟨_,.inl ⟨0,c0,rfl,s1,ec0,hc0,h1,rfl⟩⟩,?_⟩
 intro m σ' H' z
 obtain⟨i,c,rfl,sm,ec,hc,hi,rfl⟩:=z.resolve_right id
 have hS:ZJ K H' c (iL (M.Yj i)):=ZJ.of ec
 have hl:(iL (M.Yj i)).length=i+1:=by rw[List.length_map,M.YK]
 walk_at "rd"
 rw[hl]
 refine XR (λcc=>?_) (λcc=>?_)<;>simp only[decide_eq_true_eq]at cc
 ·refine⟨λσ2 H2=>(∃c2,σ2=[some (.int n),some (.ref c2)]∧Same H H2∧H2 c2=some (.lst (iL (M.Yj (i+1))))∧H c2=none)∨False,λσ2 H2 z=>?_,?_⟩
  ·obtain⟨c2,rfl,a1,a2,a3⟩:=z.resolve_right id
   exact⟨n-(i+1),by omega,.inl ⟨i+1,c2,rfl,a1,a2,a3,by omega,rfl⟩⟩
  walk_at "rd"
  refine⟨c,_,ec,rfl,by rw[M.YK];omega,λu H2 s2 hu eu=>?_⟩
  exact .inl ⟨u,rfl,sm.trans s2,eu,sm.free hu⟩
 ·walk_at "rd"
  have:i=n-1:=by omega
  subst this
  exact q c H' sm hc ec
def Ss (K:PySem.W.Frag):Sp:=oY λa b c H Q=>∃n h r:Nat,a= .int n∧b= .int h∧c= .int r∧(n≤60∧h≤10 ^ 36∧r≤n)∧Q (.int (M.Te n h r)) H
theorem Lp (T:Txt K mg) (kW:Has P w K mg base k "choose" ["n","k"] (Ec K)):Has P w K mg base (k+1) "words_to_order" ["n","heaps","r"] (Ss K):=by
 refine T.RD.has Ma Gq (λf cdv A outer s H vs Q E hr h=>?_)
 obtain⟨a0,a1,a2,rfl,h⟩:=h
 refine⟨_,Z6 (ZR (Z4 kW hr (Z_ (ZS X7 (ZS Zo (pv 1) (pv 0)) (pv 2)) (Z_ (pv 0) Z8)))),?_⟩
 obtain⟨n,h,r,rfl,rfl,rfl,⟨h1,h2,h3⟩,q⟩:=h
 walk_at "rd"
 refine⟨⟨by omega,by omega,by omega⟩,?_⟩
 exact q
theorem kO (cs:List Int):cs.sum=M.ZL (λj=>cs.getD j 0) cs.length:=by
 rw[←M.Ew,M.gH rfl λj _=>rfl]
structure Fr (n b k:Nat):Prop where
 n1:1≤n
 n2:n≤20
 b1:1≤b
 b2:b≤60
 k2:k≤20
theorem Fr.le {n b k:Nat} (h:Fr n b k):b ^ k≤10 ^ 36:=Nat.le_trans (Nat.le_trans (Nat.pow_le_pow_left h.b2 k) (Nat.pow_le_pow_right (by decide) h.k2)) (by decide +kernel)
theorem Fr.pos {n b k:Nat} (h:Fr n b k):1≤b ^ k:=Nat.pow_pos h.b1
def bt (n h:Nat):Int:=2*((h ^ n:Nat):Int)*((M.fa n:Nat):Int)
theorem aaK {n:Nat} (h:n≤20):M.fa n<2 ^ 62:=by
 have:∀n,n<21→M.fa n<2 ^ 62:=by decide +kernel
 exact this n (by omega)
theorem kE {n h:Nat} (h1:1≤h):0<bt n h:=by
 have:=Nat.pow_pos (n:=n) (show 0<h by omega)
 have:=M.wk n
 exact Int.mul_pos (Int.mul_pos (by decide) (by omega)) (by omega)
theorem tZ {n h:Nat} (hn:n≤20) (hh:h≤10 ^ 36):h ^ n<2 ^ 2661:=Nat.lt_of_lt_of_le (M.Es (kZ hh) n) (Nat.pow_le_pow_right (by decide) (by omega))
theorem fP {n h r:Nat} (hn:n≤20) (hh:h≤10 ^ 36):(M.Te n h r).natAbs<2 ^ 2661:=
 Nat.lt_of_lt_of_le (M.qQ (m:=n) (B:=133) (Int.lt_of_le_of_lt (show _≤(10:Int) ^ 38 by omega) (by decide +kernel))) (Nat.pow_le_pow_right (by decide) (by omega))
theorem tY {n h:Nat} (hn:n≤20) (hh:h≤10 ^ 36):(bt n h).natAbs<2 ^ 2800:=by
 unfold bt
 rw[Int.natAbs_mul,Int.natAbs_mul,Int.natAbs_natCast,Int.natAbs_natCast]
 have h1:=tZ hn hh
 have h2:=aaK hn
 have h3:2*h ^ n*M.fa n≤2*2 ^ 2661*2 ^ 62:=Nat.mul_le_mul (Nat.mul_le_mul (Nat.le_refl _) (by omega)) (by omega)
 exact Nat.lt_of_le_of_lt h3 (by rw[show 2*2 ^ 2661*2 ^ 62=2 ^ 2724 by rw[show(2:Nat)*2 ^ 2661=2 ^ 2662 from(Nat.pow_succ' (n:=2661) (m:=2)).symm,←Nat.pow_add]];exact Nat.pow_lt_pow_right (by decide) (by decide))
theorem acg {n h:Nat} (hn:1≤n) (hh:1≤h):M.ap n h≤bt n h:=by
 have h1:=M.gA (n:=n) (b:=h) (h:=1) hn hh
 rw[Nat.one_mul,M.lY hn]at h1
 have h2:bt n h=((h ^ n:Nat):Int)*(2*((M.fa n:Nat):Int)):=by
  unfold bt
  rw[Int.mul_comm 2,Int.mul_assoc]
 have h3:((h ^ n:Nat):Int)*(2*(((M.fa n:Nat):Int)-1))≤((h ^ n:Nat):Int)*(2*((M.fa n:Nat):Int)):=Int.mul_le_mul_of_nonneg_left (by omega) (by omega)
 omega
theorem fO {n h:Nat} (hn:1≤n) (hn2:n≤20) (h1:1≤h) (hh:h≤10 ^ 36):(M.ap n h).natAbs<2 ^ 2800:=by
 have a:=acg hn h1
 have b:=M.Et n h
 have c:=tY (n:=n) hn2 hh
 omega
theorem bZ {x:Int} (h:x.natAbs<2 ^ 2800):Big x:=Nat.lt_of_lt_of_le h (Nat.pow_le_pow_right (by decide) (by decide))
def kj (K:PySem.W.Frag):Sp:=oY λa b c H Q=>∃n m k:Nat,a= .int n∧b= .int m∧c= .int k∧Fr n m k∧∀t u:Int,M.gC (M.ap n (m ^ k)) (bt n (m ^ k)) t u→∀r H',Same H H'→H r=none→H' r=some (.tup [.int t,.int u])→Q (.ref r) H'
theorem aaL (T:Txt K mg) (tX:Has P w K mg base k "power" ["base","times"] (yS K)) (vQ:Has P w K mg base k "by_falls" ["n"] (JX K)) (Ku:Has P w K mg base k "words_to_order" ["n","heaps","r"] (Ss K)) (vP:Has P w K mg base k "fraction" ["top","bottom"] (JZ K)):Has P w K mg base (k+1) "far" ["n","b","k"] (kj K):=by
 refine T.cF.has Ra Gq (λf cdv A outer s H vs Q E hr h=>?_)
 obtain⟨a0,a1,a2,rfl,h⟩:=h
 refine⟨_,Z7 (ZW (i:=3) Ra.nd rfl (Or.inl rfl) (Z4 tX hr (Z_ (pv 1) (Z_ (pv 2) Z8))))
  (Z7 (ZW (i:=4) Ra.nd rfl (Or.inl rfl) (Z4 tX hr (Z_ (pv 3) (Z_ (pv 0) Z8))))
  (Z7 (ZW (i:=5) Ra.nd rfl (Or.inl rfl) (Z4 vQ hr (Z_ (pv 0) Z8)))
  (Z7 (ZW (i:=6) Ra.nd rfl (Or.inl rfl) (ZV (cU (K:=K) rfl) rfl T.lO PyProof.Rows.boot_sum (Z_ (pv 5) Z8)))
  (Z7 (ZW (i:=7) Ra.nd rfl (Or.inl rfl) Z5)
  (Z7 (Xa PassesOwn.never rfl (nF (K:=K) rfl T.V6 (Z_ (pv 5) Z8)) (Wq (K:=K) (n:=2) rfl (Y6 (Zy (i:=8) Ra.nd rfl (Or.inl rfl)) (Y6 (Zy (i:=9) Ra.nd rfl (Or.inl rfl)) U7)))
  (Z6 (ZW (i:=7) Ra.nd rfl (Or.inl rfl) (ZS Zo (pv 7) (ZS X_ (pv 9) (ZV RZ rfl T.Ht PyProof.Rows.boot_abs (Z_ (ZS X7 (ZS X_ (Z4 Ku hr (Z_ (pv 0) (Z_ (pv 3) (Z_ (pv 8) Z8)))) (pv 6)) (pv 4)) Z8)))))))
  (Z6 (ZR (Z4 vP hr (Z_ (pv 7) (Z_ (ZS X_ (ZS X_ Z5 (pv 4)) (pv 6)) Z8)))))))))),?_⟩
 obtain⟨n,b,k,rfl,rfl,rfl,fr,q⟩:=h
 have ⟨n1,n2,b1,b2,k2⟩:=fr
 have hh:=fr.le
 have h1:=fr.pos
 walk_at "rd"
 generalize b ^ k=h at hh h1 q ⊢
 walk_at "rd"
 have hpw:=tZ n2 hh
 have hF:=aaK n2
 intro C H1 s1 hC eC
 have le:(M.Yj (n-1)).length=n:=by rw[M.YK];omega
 have SC:ZJ K H1 C (iL (M.Yj (n-1))):=ZJ.of eC
 have esum:(M.Yj (n-1)).sum=((M.fa n:Nat):Int):=by rw[kO,le,M.zM n1]
 walk_at "rd"
 refine⟨C,_,rfl,SC,?_⟩
 rw[esum]
 walk_at "rd"
 refine⟨⟨_,SC⟩,?_⟩
 refine rF (xs:=iL (M.Yj (n-1))) (λi σ' H'=>(∃t8 t9:Option V,σ'=[some (.int n),some (.int b),some (.int k),some (.int h),some (.int ((h ^ n:Nat):Int)),some (.ref C),some (.int (M.fa n:Nat)),some (.int (M.ZL (λi=>(M.Yj (n-1)).getD i 0*M.ab (M.Te n h (i+1)*(M.fa n:Nat)-((h ^ n:Nat):Int))) i)),t8,t9]∧Same H1 H')∨False) (.inl ⟨_,_,rfl,Same.refl _⟩) ?_ ?_ ?_
 ·intro i σ' H' _ z
  obtain⟨t8,t9,rfl,sm⟩:=z.resolve_right id
  exact sm.seq SC
 ·intro i x σ' H' T hx z hT
  obtain⟨t8,t9,rfl,sm⟩:=z.resolve_right id
  obtain⟨hi,rfl⟩:=Cy hx
  rw[le]at hi
  refine⟨T,_,rfl,TY.of Z1,rfl,?_⟩
  have sT:=sm.trans (Same.new hT (.tup [.int ((i:Int)+1),.int ((M.Yj (n-1)).getD i 0)]))
  generalize upd H' T (.tup [.int ((i:Int)+1),.int ((M.Yj (n-1)).getD i 0)])=H3 at sT
  have hw:=fP (r:=i+1) n2 hh
  walk_at "rd"
  refine⟨n,h,i+1,rfl,rfl,congrArg V.int (by omega),⟨by omega,hh,by omega⟩,?_⟩
  walk_at "rd"
  rw[Cu]
  have hd:(M.Te n h (i+1)*((M.fa n:Nat):Int)-((h ^ n:Nat):Int)).natAbs<2 ^ 2724:=by
   have a1:(M.Te n h (i+1)*((M.fa n:Nat):Int)).natAbs<2 ^ 2723:=by
    rw[Int.natAbs_mul,Int.natAbs_natCast]
    exact Nat.lt_of_le_of_lt (Nat.mul_le_mul (Nat.le_of_lt hw) (Nat.le_refl _)) (by rw[show(2:Nat) ^ 2723=2 ^ 2661*2 ^ 62 by rw[←Nat.pow_add]];exact Nat.mul_lt_mul_of_pos_left hF (Nat.two_pow_pos _))
   have a2:(2:Nat) ^ 2724=2 ^ 2723*2:=Nat.pow_succ 2 2723
   have a3:(2:Nat) ^ 2661≤2 ^ 2723:=Nat.pow_le_pow_right (by decide) (by decide)
   omega
  refine⟨mulOk_of (m:=400) (n:=2724) (M.mq (by omega)) (by rw[Int.natAbs_natCast];exact hd) (by decide),?_⟩
  walk_at "rd"
  exact .inl ⟨_,_,rfl,sT⟩
 ·intro σ' H' z
  obtain⟨t8,t9,rfl,sm⟩:=z.resolve_right id
  rw[show(iL (M.Yj (n-1))).length=n by rw[List.length_map,le]]
  walk_at "rd"
  refine⟨⟨bZ (fO n1 n2 h1 hh),bZ (tY n2 hh),by have:=kE (n:=n) h1;unfold bt at this;omega⟩,λt u fo r H3 s3 hr' er=>?_⟩
  exact q t u fo r H3 (s1.trans (sm.trans s3)) ((s1.trans sm).free hr') er
end
section
variable {P:Program} {w:World} {K:PySem.W.Frag} {mg:Str→Option Value} {base:Heap} {k:Nat}
def Wc (K:PySem.W.Frag):Sp:=QW λa H Q=>∃(p:Addr) (ns:List Int) (n:Nat),ZJ K H p (iL ns)∧a= .ref p∧M.Ord n ns∧(1≤n∧n≤1000)∧rNew (bL (M.jA n ns)) H Q
theorem M9 (T:Txt K mg) (PB:Has P w K mg base k "places" ["order"] (Ov K)):Has P w K mg base (k+1) "each_above_next" ["order"] (Wc K):=by
 refine T.SN.has Tn len1 (λf cdv A outer s H vs Q E hr h=>?_)
 obtain⟨a0,rfl,h⟩:=h
 refine⟨_,Z7 (ZW (i:=1) Tn.nd rfl (Or.inr rfl) (Z4 PB hr (Z_ (pv 0) Z8)))
  (Z6 (ZR (ZS TQ (YF (vars:=["card"]) (caps:=[1]) (ZD.of (outer:=Z9 Y0) (N:=["order","place"]) rfl rfl ⟨by decide +kernel⟩) rfl (Xy rfl T.XJ (Z_ (ZS X7 (ZV (Y4 (K:=K)) rfl T.Za PySem.boot_len (Z_ (pv 0) Z8)) Z5) Z8)) ⟨λ_ _ _ _=>⟨(Zy (i:=0) (show List.Nodup (["card","place"]:List Str)by decide +kernel) rfl (Or.inl rfl)),YG,(V3 Og (Zq (ZQ (K:=K)) (pv 1) (pv 0) (λ_ _=>rfl)) (Zq (ZQ (K:=K)) (pv 1) (ZS Zo (pv 0) Z5) (λ_ _=>rfl)) (Zv _))⟩⟩) (Yh (Z_ U3 Z8))))),?_⟩
 obtain⟨p,ns,n,hp,rfl,o,⟨h1,h2⟩,q⟩:=h
 have hl:(iL ns).length=n:=by rw[List.length_map,o.len]
 walk_at "rd"
 refine⟨p,ns,n,hp,rfl,o,h2,λz H1 s1 hz ez=>?_⟩
 have hp1:=s1.seq hp
 walk_at "rd"
 rw[hl,show((n:Int)-1).toNat=n-1 by omega]
 refine Vo (λc=> .bl (decide ((M.JH n ns).getD c 0<(M.JH n ns).getD (c+1) 0))) (λ_=>true) (Zx (by omega)) ?_ ?_
 ·intro i t acc ys N Kt hi hacc k1 _
  have SZ:ZJ K (upd H1 acc (.lst ys)) z (iL (M.JH n ns)):=ZJ.of ((Same.new hacc (.lst ys)) _ _ ez)
  have k2:=k1 (some (.int (0+i))) rfl
  rw[Int.zero_add (i:Int)]at k2 ⊢
  walk_at "rd"
  refine⟨z,_,_,_,rfl,rfl,SZ,Xd (by omega) (by rw[M.Vn];omega),?_⟩
  walk_at "rd"
  refine⟨z,_,_,_,rfl,rfl,SZ,Xd (by omega) (by rw[M.Vn];omega),?_⟩
  walk_at "rd"
  rw[Int.toNat_natCast,show((i:Int)+1).toNat=i+1 by omega]
  exact k2
 rw[filter_true]
 intro A hA
 generalize e2:upd H1 A _=H2
 obtain⟨s2,eA⟩:=ZG hA e2
 walk_at "rd"
 intro B hB
 generalize e3:upd H2 B _=H3
 obtain⟨s3,eB⟩:=ZG hB e3
 clear e2 e3
 refine⟨A,B,_,_,rfl,rfl,s3 _ _ eA,eB,Zx (by simp;omega),?_⟩
 intro r hr
 have Nh:=s1.trans (s2.trans s3)
 refine q r _ (Nh.put (Nh.free hr)) (Nh.free hr) ?_
 rw[Z1,M.jA,bL,List.map_append,List.map_map]
 rfl
def VG (K:PySem.W.Frag):Sp:=oY λa b c H Q=>∃(ab:Bool) (p:Addr) (bs:List Bool) (h:Nat),a= .bl ab∧b= .ref p∧c= .int h∧ZJ K H p (bL bs)∧h<bs.length∧Q (.int ((M.lf ab bs h:Nat):Int)) H
theorem Ln (T:Txt K mg):Has P w K mg base (k+1) "least_for_next" ["above_next","marks","heap"] (VG K):=by
 refine T.Rz.has LR Gq (λf cdv A outer s H vs Q E hr h=>?_)
 obtain⟨a0,a1,a2,rfl,h⟩:=h
 refine⟨_,Z6 (ZR (U0 (Zu Bs (pv 0) (Zq (ZQ (K:=K)) (pv 1) (pv 2) (λ_ _=>rfl)) (Zv _)) (pv 2) (ZS Zo (pv 2) Z5))),?_⟩
 obtain⟨ab,p,bs,h,rfl,rfl,rfl,hp,hh,q⟩:=h
 have hab:MP (bL bs) (h:Int)=some (.bl (bs.getD h false)):=by
  have:=Ja (bs:=bs) (k:=(h:Int)) (by omega) (by omega)
  rw[Int.toNat_natCast]at this
  exact this
 walk_at "rd"
 refine⟨p,_,_,_,rfl,rfl,hp,hab,?_⟩
 walk_at "rd"
 have xo:(!decide (V.bl ab=V.bl (bs.getD h false)))=(ab != bs.getD h false):=by cases ab<;>cases bs.getD h false<;>decide
 rw[xo]
 unfold M.lf at q
 refine XR (λc=>?_) (λc=>?_)
 ·rw[if_pos c]at q
  exact⟨_,rfl,q⟩
 ·rw[if_neg c]at q
  walk_at "rd"
  rw[show((h+1:Nat):Int)=(h:Int)+1 by omega]at q
  exact q
def kh (bs av:List Bool):List Int:=(List.range (bs.length+1)).map λh=>((M.wy bs av h:Nat):Int)
theorem Q7 (bs av:List Bool):(kh bs av).length=bs.length+1:=by simp[kh]
theorem GR {bs av:List Bool} {h:Nat} (hh:h≤bs.length):(kh bs av).getD h 0=((M.wy bs av h:Nat):Int):=by
 have:h<bs.length+1:=by omega
 simp[kh,List.getD,this]
def qG (bs av:List Bool) (j:Nat):List Int:=(List.range (bs.length+1)).map λh=>if j≤h then((M.wy bs av h:Nat):Int)else 0
theorem U_ (bs av:List Bool) (j:Nat):(qG bs av j).length=bs.length+1:=by simp[qG]
theorem j_ {bs av:List Bool} {j h:Nat} (hh:h≤bs.length) (hj:j≤h):(qG bs av j).getD h 0=((M.wy bs av h:Nat):Int):=by
 have:h<bs.length+1:=by omega
 simp[qG,List.getD,this,hj]
theorem j9 (bs av:List Bool):qG bs av 0=kh bs av:=by simp[qG,kh]
theorem qF (bs:List Bool) (ab:Bool) (r:List Bool):qG bs (ab :: r) bs.length=List.replicate (bs.length+1) 0:=by
 apply List.ext_getElem?
 intro i
 by_cases h:i<bs.length+1
 ·simp only[qG,List.getElem?_map,List.getElem?_range h,List.getElem?_replicate,h,if_true,Option.map_some]
  congr 1
  split
  ·rw[M.gK (by omega)];rfl
  ·rfl
 ·rw[List.getElem?_eq_none (by rw[U_];omega),List.getElem?_eq_none (by simp;omega)]
theorem j8 {bs:List Bool} {ab:Bool} {r:List Bool} {j:Nat} (hj:j<bs.length):(qG bs (ab :: r) (j+1)).set j (((M.wy bs (ab :: r) j:Nat):Int))=qG bs (ab :: r) j:=by
 apply List.ext_getElem?
 intro i
 by_cases h:i<bs.length+1
 ·by_cases e:j=i
  ·subst e
   rw[List.getElem?_set_self (by rw[U_];omega)]
   simp only[qG,List.getElem?_map,List.getElem?_range h,Option.map_some]
   simp
  ·rw[List.getElem?_set_ne e]
   simp only[qG,List.getElem?_map,List.getElem?_range h,Option.map_some]
   by_cases q:j+1≤i
   ·rw[if_pos q,if_pos (by omega)]
   ·rw[if_neg q,if_neg (by omega)]
 ·rw[List.getElem?_eq_none (by rw[List.length_set,U_];omega),List.getElem?_eq_none (by rw[U_];omega)]
theorem GQ (n:Nat) (h:n≤1000):Builtin.Range.small ((n:Int)-1) (-1) (-1)=true∧Builtin.Range.rangeSize ((n:Int)-1) (-1) (-1)=(n:Int):=by
 have e:Builtin.Range.rangeSize ((n:Int)-1) (-1) (-1)=(n:Int):=by
  unfold Builtin.Range.rangeSize
  simp
  omega
 refine⟨?_,e⟩
 unfold Builtin.Range.small
 rw[e]
 simp[Builtin.Range.rangeFitsLong]
 omega
def M8 (K:PySem.W.Frag):Sp:=JL λa b H Q=>∃(p r:Addr) (av bs:List Bool) (n:Nat),ZJ K H p (bL av)∧ZJ K H r (bL bs)∧a= .ref p∧b= .ref r∧av.length=n∧n≤1000∧bs.length≤900 ∧
 ∀(T:Addr) (H':Hp) (adr:List Addr),Same H H'→H T=none→H' T=some (.lst (adr.map V.ref))→adr.length=n→(∀(c:Nat) (a:Addr),adr[c]? =some a→H' a=some (.lst (iL (kh bs (av.drop c)))))→Q (.ref T) H'
theorem rep1:∀(v:Int) (n:Nat),(List.replicate n [V.int v]).flatten=iL (List.replicate n v)
 |_,0=>rfl
 |v,n+1=>by rw[List.replicate_succ,List.flatten_cons,rep1 v n];rfl
theorem fM (bs:List Bool):kh bs []=List.replicate (bs.length+1) 1:=by
 apply List.ext_getElem?
 intro i
 by_cases h:i<bs.length+1
 ·simp[kh,h,M.wy]
 ·rw[List.getElem?_eq_none (by rw[Q7];omega),List.getElem?_eq_none (by simp;omega)]
theorem vO (T:Txt K mg) (U9:Has P w K mg base k "least_for_next" ["above_next","marks","heap"] (VG K)):Has P w K mg base (k+1) "counted" ["above_next","marks"] (M8 K):=by
 refine T.El.has WX len2 (λf cdv A outer s H vs Q E hr h=>?_)
 obtain⟨a0,a1,rfl,h⟩:=h
 refine⟨_,Z7 (ZW (i:=2) WX.nd rfl (Or.inl rfl) (ZV (Y4 (K:=K)) rfl T.Za PySem.boot_len (Z_ (pv 1) Z8)))
  (Z7 (ZW (i:=3) WX.nd rfl (Or.inl rfl) (ZS Jf (Yh (Z_ Z5 Z8)) (ZS Zo (pv 2) Z5)))
  (Z7 (ZW (i:=4) WX.nd rfl (Or.inl rfl) (Yh Z8))
  (Z7 (Xa PassesOwn.never rfl (K6 rfl T.XJ (Z_ (ZS X7 (ZV (Y4 (K:=K)) rfl T.Za PySem.boot_len (Z_ (pv 0) Z8)) Z5) (Z_ (Jh NQ Z5) (Z_ (Jh NQ Z5) Z8)))) (Zy (i:=5) WX.nd rfl (Or.inl rfl))
  (Z7 (ZW (i:=6) WX.nd rfl (Or.inl rfl) (ZS Jf (Yh (Z_ Z5 Z8)) (ZS Zo (pv 2) Z5)))
   (Z7 (Xa PassesOwn.never rfl (K6 rfl T.XJ (Z_ (ZS X7 (pv 2) Z5) (Z_ (Jh NQ Z5) (Z_ (Jh NQ Z5) Z8)))) (Zy (i:=7) WX.nd rfl (Or.inl rfl))
   (Z6 (DG (ZS Zo (Zq (ZQ (K:=K)) (pv 6) (ZS Zo (pv 7) Z5) (λ_ _=>rfl)) (Zq (ZQ (K:=K)) (pv 3) (Z4 U9 hr (Z_ (Zq (ZQ (K:=K)) (pv 0) (pv 5) (λ_ _=>rfl)) (Z_ (pv 1) (Z_ (pv 7) Z8)))) (λ_ _=>rfl))) (yc (pv 6) (pv 7) set_list))))
   (Z7 (YH (Qq (K:=K) PySem.F.plainAttrs_list PySem.F.slot_list_append PySem.F.type_list_append Xk (pv 4) (Z_ (pv 6) Z8)))
   (Z6 (ZW (i:=3) WX.nd rfl (Or.inl rfl) (pv 6)))))))
  (Z6 (ZR (abP (K:=K) (pv 4) (Ro (Jh NQ Z5)))))))),?_⟩
 obtain⟨p,r,av,bs,n,hp,hr',rfl,rfl,ln,hn,hb,q⟩:=h
 have hl1:(bL av).length=n:=by rw[List.length_map,ln]
 have hl2:(bL bs).length=bs.length:=List.length_map _
 walk_at "rd"
 intro z0 hz0
 generalize e1:upd H z0 _=H1
 obtain⟨s1,ez0⟩:=ZG hz0 e1
 clear e1
 walk_at "rd"
 refine⟨z0,_,_,rfl,rfl,ez0,by omega,by omega,?_,?_⟩
 ·rw[sizeLine_eq];simp;omega
 intro B0 hB0
 generalize e2:upd H1 B0 _=H2
 obtain⟨s2,eB0⟩:=ZG hB0 e2
 clear e2
 rw[rep1,hl2,show(((bs.length:Int)+1)).toNat=bs.length+1 by omega,←fM]at eB0
 walk_at "rd"
 intro T hT
 generalize e3:upd H2 T _=H3
 obtain⟨s3,eT3⟩:=ZG hT e3
 clear e3
 have Nh:=s1.trans (s2.trans s3)
 have hT0:H T=none:=(s1.trans s2).free hT
 have hp3:=Nh.seq hp
 walk_at "rd"
 rw[hl1,hl2]
 obtain⟨rd1,rd2⟩:=GQ n hn
 refine⟨⟨rd1,by rw[rd2];omega⟩,?_⟩
 rw[rd2,Int.toNat_natCast]
 refine Nz (λi σ' H'=>(∃(B:Addr) (adr:List Addr) (t5 t6 t7:Option V),σ'=[some (.ref p),some (.ref r),some (.int (bs.length:Int)),some (.ref B),some (.ref T),t5,t6,t7]∧Same H H'∧H' B=some (.lst (iL (kh bs (av.drop (n-i)))))∧H' T=some (.lst (adr.map V.ref))∧adr.length=i∧B≠T∧∀(j:Nat) (a:Addr),adr[j]? =some a→a≠T∧H' a=some (.lst (iL (kh bs (av.drop (n-1-j))))))∨False)
  (.inl ⟨B0,[],_,_,_,rfl,Nh,?_,eT3,rfl,ZF eB0 hT,λj a h=>by cases h⟩) ?_ ?_
 ·rw[s3 _ _ eB0,Nat.sub_zero,List.drop_of_length_le (by omega)]
 ·intro i σ' H' hi z
  obtain⟨B,adr,t5,t6,t7,rfl,sm,eB,eT,la,hBT,hA⟩:=z.resolve_right id
  have ach:((n:Int)-1+(i:Int)* -1)=((n-1-i:Nat):Int):=by omega
  rw[ach]
  have hci:n-1-i<av.length:=by omega
  have j7:av.drop (n-1-i)=av[n-1-i] :: av.drop (n-i):=by
   rw[List.drop_eq_getElem_cons hci]
   congr 2
   omega
  have hac:MP (bL av) ((n-1-i:Nat):Int)=some (.bl av[n-1-i]):=qd (by omega) (by rw[Int.toNat_natCast,List.getElem?_map,List.getElem?_eq_getElem hci];rfl)
  generalize av[n-1-i]=ab at j7 hac
  generalize av.drop (n-i)=rs at j7 eB
  walk_at "rd"
  intro y0 hy0
  generalize e4:upd H' y0 _=H4
  obtain⟨s4,ey0⟩:=ZG hy0 e4
  clear e4
  walk_at "rd"
  refine⟨y0,_,_,rfl,rfl,ey0,by omega,by omega,?_,?_⟩
  ·rw[sizeLine_eq];simp;omega
  intro R hR
  generalize e5:upd H4 R _=H5
  obtain⟨s5,eR5⟩:=ZG hR e5
  clear e5
  rw[rep1,show(((bs.length:Int)+1)).toNat=bs.length+1 by omega,←qF bs ab rs]at eR5
  have hR':H' R=none:=s4.free hR
  have s45:=s4.trans s5
  have hRT:R≠T:=λe=>ZF eT hR' e.symm
  have hRB:R≠B:=λe=>ZF eB hR' e.symm
  walk_at "rd"
  obtain⟨rb1,rb2⟩:=GQ bs.length (by omega)
  refine⟨⟨rb1,by rw[rb2];omega⟩,?_⟩
  rw[rb2,Int.toNat_natCast]
  refine Nz (λj σ2 H6=>(∃(t7:Option V),σ2=[some (.ref p),some (.ref r),some (.int (bs.length:Int)),some (.ref B),some (.ref T),some (.int ((n-1-i:Nat):Int)),some (.ref R),t7]∧Same H' H6∧H6 R=some (.lst (iL (qG bs (ab :: rs) (bs.length-j)))))∨False)
   (.inl ⟨_,rfl,s45,by rw[eR5,Nat.sub_zero]⟩) ?_ ?_
  ·intro j σ2 H6 hj z
   obtain⟨t7,rfl,s6,eR⟩:=z.resolve_right id
   have aci:((bs.length:Int)-1+(j:Int)* -1)=((bs.length-1-j:Nat):Int):=by omega
   rw[aci]
   generalize hx:bs.length-1-j=x
   have hxb:x<bs.length:=by omega
   have hxj:bs.length-j=x+1:=by omega
   rw[hxj]at eR
   have hlf:M.lf ab bs x≤bs.length:=by unfold M.lf;split<;>omega
   have sm6:=sm.trans s6
   walk_at "rd"
   refine⟨R,_,_,_,rfl,rfl,ZJ.of eR,Xd (by omega) (by rw[U_];omega),?_⟩
   walk_at "rd"
   refine⟨p,_,_,_,rfl,rfl,sm6.seq hp,hac,?_⟩
   walk_at "rd"
   refine⟨ab,r,bs,x,rfl,rfl,rfl,sm6.seq hr',hxb,?_⟩
   refine⟨B,_,_,_,rfl,rfl,ZJ.of (s6 _ _ eB),Xd (by omega) (by rw[Q7];omega),?_⟩
   walk_at "rd"
   refine⟨R,_,_,x,rfl,rfl,eR,?_,?_⟩
   ·unfold qe
    rw[if_pos (by omega),if_pos (by rw[List.length_map,U_];omega),Int.toNat_natCast]
   refine .inl ⟨_,rfl,s6.put hR',?_⟩
   rw[Z1,show bs.length-(j+1)=x by omega,←j8 hxb]
   rw[Int.toNat_natCast,show((x:Int)+1).toNat=x+1 by omega,j_ (by omega) (Nat.le_refl _),GR hlf,M.gJ hxb]
   refine congrArg some (congrArg HO.lst ?_)
   refine Eq.trans ?_ List.map_set.symm
   exact congrArg (List.set _ x) (congrArg V.int (by omega))
  ·intro σ2 H6 z
   obtain⟨t7,rfl,s6,eR⟩:=z.resolve_right id
   rw[Nat.sub_self,j9,←j7]at eR
   walk_at "rd"
   refine⟨.inl ⟨rfl,_,ZJ.of (s6 _ _ eT)⟩,?_⟩
   walk_at "rd"
   refine⟨T,_,_,rfl,rfl,s6 _ _ eT,by rw[List.length_map];exact VL (by omega),?_⟩
   generalize e7:upd H6 T _=H7
   obtain⟨s7,eT7⟩:=oA hT0 (sm.trans s6) e7
   walk_at "rd"
   refine .inl ⟨R,adr++[R],_,_,_,rfl,s7,?_,by rw[eT7];simp,by simp;omega,hRT,λj' a ha=>?_⟩
   ·rw[←e7,Zw hRT,eR,show n-(i+1)=n-1-i by omega]
   ·rcases Nat.lt_or_ge j' adr.length with hh |hh
    ·rw[List.getElem?_append_left hh]at ha
     obtain⟨q1,q2⟩:=hA j' a ha
     exact⟨q1,by rw[←e7,Zw q1];exact s6 _ _ q2⟩
    ·rw[List.getElem?_append_right hh]at ha
     have eh:j'-adr.length=0:=by
      rcases Nat.eq_zero_or_pos (j'-adr.length)with z |z
      ·exact z
      ·rw[List.getElem?_eq_none (by simp;omega)]at ha;cases ha
     rw[eh]at ha
     cases ha
     have:j'=i:=by omega
     subst this
     exact⟨hRT,by rw[←e7,Zw hRT];exact eR⟩
 ·intro σ' H' z
  obtain⟨B,adr,t5,t6,t7,rfl,sm,eB,eT,la,hBT,hA⟩:=z.resolve_right id
  walk_at "rd"
  refine⟨T,_,rfl,ZJ.of eT,?_⟩
  intro T2 hT2
  refine q T2 _ adr.reverse (sm.put (sm.free hT2)) (sm.free hT2) (by rw[Z1];simp) (by simp;omega) λc a ha=>?_
  have hc:c<adr.length:=by
   have:=(List.getElem?_eq_some_iff.mp ha).1
   simpa using this
  rw[List.getElem?_reverse hc]at ha
  obtain⟨q1,q2⟩:=hA _ a ha
  rw[Zw (ZF q2 hT2),q2,show n-1-(adr.length-1-c)=c by omega]
def JW (K:PySem.W.Frag):Sp:=JL λa b H Q=>∃(p r:Addr) (ns:List Int) (bs:List Bool) (n:Nat),ZJ K H p (iL ns)∧ZJ K H r (bL bs)∧a= .ref p∧b= .ref r∧M.Ord n ns∧(1≤n∧n≤1000)∧bs.length≤900∧∀H',Same H H'→Q (.int ((M.wy bs (M.jA n ns) 0:Nat):Int)) H'
theorem yP (T:Txt K mg) (Ks:Has P w K mg base k "counted" ["above_next","marks"] (M8 K)) (VF:Has P w K mg base k "each_above_next" ["order"] (Wc K)):Has P w K mg base (k+1) "how_many" ["order","marks"] (JW K):=by
 refine T.Hv.has zq len2 (λf cdv A outer s H vs Q E hr h=>?_)
 obtain⟨a0,a1,rfl,h⟩:=h
 refine⟨_,Z6 (ZR (Zq (ZQ (K:=K)) (Zq (ZQ (K:=K)) (Z4 Ks hr (Z_ (Z4 VF hr (Z_ (pv 0) Z8)) (Z_ (pv 1) Z8))) Z5 (λ_ _=>rfl)) Z5 (λ_ _=>rfl))),?_⟩
 obtain⟨p,r,ns,bs,n,hp,hr',rfl,rfl,o,⟨h1,h2⟩,hb,q⟩:=h
 walk_at "rd"
 refine⟨p,ns,n,hp,rfl,o,⟨h1,h2⟩,λv H1 s1 hv ev=>?_⟩
 walk_at "rd"
 refine⟨v,r,_,bs,n,ZJ.of ev,s1.seq hr',rfl,rfl,M.Nu ns h1,h2,hb,λT H2 adr s2 hT eT la hA=>?_⟩
 obtain⟨a,ha⟩:∃a,adr[0]? =some a:=⟨_,List.getElem?_eq_getElem (by omega)⟩
 have ea:=hA 0 a ha
 rw[List.drop_zero]at ea
 walk_at "rd"
 refine⟨T,_,_,_,rfl,rfl,ZJ.of eT,qd (v:=.ref a) (by omega) (by rw[show(0:Int).toNat=0 from rfl,List.getElem?_map,ha];rfl),?_⟩
 walk_at "rd"
 refine⟨a,_,_,_,rfl,rfl,ZJ.of ea,Xd (by omega) (by rw[Q7];omega),?_⟩
 rw[show(0:Int).toNat=0 from rfl,GR (Nat.zero_le _)]
 exact q _ (s1.trans s2)
def tW (K:PySem.W.Frag) (nw:Addr):Sp:=vR λa b c H _ E=>∃(p r:Addr) (ns:List Int) (bs:List Bool) (n:Nat) (x:Int),ZJ K H p (iL ns)∧ZJ K H r (bL bs)∧a= .ref p∧b= .ref r∧c= .int x∧M.Ord n ns∧(1≤n∧n≤900∧bs.length≤900)∧(x<0∨((M.wy bs (M.jA n ns) 0:Nat):Int)≤x)∧∀H',Same H H'→E (.ref nw) none H'
theorem fL (T:Txt K mg) {r np nm nr nw tm nf nt:Addr} (e:Td K mg r np nm nr nw tm nf nt) (kb:K.In base) (VF:Has P w K mg base k "each_above_next" ["order"] (Wc K)) (Ks:Has P w K mg base k "counted" ["above_next","marks"] (M8 K)) (U9:Has P w K mg base k "least_for_next" ["above_next","marks","heap"] (VG K)) (Ni:Has P w K mg base k "laid" ["one","other"] (LC K)):TF P w K mg base (k+1) "way" ["order","marks","number"] (tW K nw):=by
 refine T.cD.aad Us Ed (λf cdv A outer s H vs Q E hr h=>?_)
 obtain⟨a0,a1,a2,rfl,h⟩:=h
 refine⟨_,Z7 (ZW (i:=3) Us.nd rfl (Or.inl rfl) (Z4 VF hr (Z_ (pv 0) Z8)))
  (Z7 (ZW (i:=4) Us.nd rfl (Or.inl rfl) (Z4 Ks hr (Z_ (pv 3) (Z_ (pv 1) Z8))))
  (Z7 (Zn (Yr (TX Vx Og Z5 (pv 2) (Zq (ZQ (K:=K)) (Zq (ZQ (K:=K)) (pv 4) Z5 (λ_ _=>rfl)) Z5 (λ_ _=>rfl))))
  (Z6 (W8 (Uv (mro:=Qy) (nid:="ValueError.__new__") kb e.m4 e.x4) PySem.F.excBase_ValueError rfl rfl TJ (Z_ ZK Z8)))
  (Zz))
  (Z7 (ZW (i:=5) Us.nd rfl (Or.inl rfl) (Yh Z8))
  (Z7 (ZW (i:=6) Us.nd rfl (Or.inl rfl) Z5)
  (Z7 (ZW (i:=7) Us.nd rfl (Or.inl rfl) (pv 2))
  (Z7 (Dj rfl (O7 (K:=K) rfl T.V6 (Z_ (pv 4) Z8)) (Wq (K:=K) (n:=2) rfl (Y6 (Zy (i:=8) Us.nd rfl (Or.inl rfl)) (Y6 (Zy (i:=9) Us.nd rfl (Or.inl rfl)) U7)))
  (Z7 (ZW (i:=10) Us.nd rfl (Or.inl rfl) (pv 6))
   (Z7 (rP (Zu Vx (ZS X7 (Zq (ZQ (K:=K)) (pv 9) (pv 6) (λ_ _=>rfl)) (Zq (ZQ (K:=K)) (pv 9) (ZS Zo (pv 10) Z5) (λ_ _=>rfl))) (pv 7) (Zv _))
   (Z6 (ZW (i:=10) Us.nd rfl (Or.inl rfl) (ZS Zo (pv 10) Z5))))
   (Z7 (ZW (i:=7) Us.nd rfl (Or.inl rfl) (ZS X7 (pv 7) (ZS X7 (Zq (ZQ (K:=K)) (pv 9) (pv 6) (λ_ _=>rfl)) (Zq (ZQ (K:=K)) (pv 9) (pv 10) (λ_ _=>rfl)))))
   (Z7 (YH (Qq (K:=K) PySem.F.plainAttrs_list PySem.F.slot_list_append PySem.F.type_list_append Xk (pv 5) (Z_ (pv 10) Z8)))
   (Z6 (ZW (i:=6) Us.nd rfl (Or.inl rfl) (Z4 U9 hr (Z_ (Zq (ZQ (K:=K)) (pv 3) (pv 8) (λ_ _=>rfl)) (Z_ (pv 1) (Z_ (pv 10) Z8)))))))))))
  (Z6 (ZR (Z4 Ni hr (Z_ (pv 5) (Z_ (pv 0) Z8))))))))))),?_⟩
 obtain⟨p,r,ns,bs,n,x,hp,hr',rfl,rfl,rfl,o,⟨h1,h2,h3⟩,hx,q⟩:=h
 have lav:(M.jA n ns).length=n:=M.Nu ns h1
 walk_at "rd"
 refine⟨p,ns,n,hp,rfl,o,⟨h1,by omega⟩,λv H1 s1 hv ev=>?_⟩
 generalize M.jA n ns=av at *
 walk_at "rd"
 refine⟨v,r,av,bs,n,ZJ.of ev,s1.seq hr',rfl,rfl,lav,by omega,h3,λT H2 adr s2 hT eT la hA=>?_⟩
 have Ld:=s1.trans s2
 obtain⟨a,ha⟩:∃a,adr[0]? =some a:=⟨_,List.getElem?_eq_getElem (by omega)⟩
 have ea:=hA 0 a ha
 rw[List.drop_zero]at ea
 walk_at "rd"
 refine XR (λc=>?_) (λc=>?_)<;>simp only[decide_eq_true_eq]at c
 ·walk_at "rd"
  refine⟨T,_,_,_,rfl,rfl,ZJ.of eT,qd (v:=.ref a) (by omega) (by rw[show(0:Int).toNat=0 from rfl,List.getElem?_map,ha];rfl),?_⟩
  walk_at "rd"
  refine⟨a,_,_,_,rfl,rfl,ZJ.of ea,Xd (by omega) (by rw[Q7];omega),?_⟩
  rw[show(0:Int).toNat=0 from rfl,GR (Nat.zero_le _)]
  walk_at "rd"
  rw[decide_eq_false (show ¬x<((M.wy bs av 0:Nat):Int)by omega)]
  walk_at "rd"
  exact q _ Ld
 ·walk_at "rd"
  exact q _ Ld
end
section
variable {P:Program} {w:World} {K:PySem.W.Frag} {mg:Str→Option Value} {base:Heap} {k:Nat}
def Vs (bs:List Bool):Str:=⟨(bs.map λb=>if b=true then 116 else 112).toArray⟩
theorem yO {z:Str} {bs:List Bool} (h:M.cd z=bs.map λb=>if b=true then 116 else 112):z=Vs bs:=M.Wk (by rw[h];rfl)
theorem T5 (bs:List Bool):(Vs bs).length=bs.length:=by rw[←M.V2];show(bs.map _).length=_;rw[List.length_map]
theorem Kr (l:List Int) (h:∀x∈l,0≤x∧x<10 ^ 20):(M.QV l).length≤l.length*21:=by
 cases l with
 |nil=>decide
 |cons i l =>
  rw[←M.V2,M.Ag]
  have h0:=(M.KZ (k:=19) (h i List.mem_cons_self).1 (h i List.mem_cons_self).2).1
  have e0:(M.dg i).length=(M.tx i).length:=M.V2 _
  have:∀m:List Int,(∀x∈m,0≤x∧x<10 ^ 20)→((m.map M.dg).map λv=>32 :: v).flatten.length≤m.length*21:=by
   intro m
   induction m with
   |nil=>intro _;simp
   |cons a m ih =>
    intro hm
    have h1:=ih λx hx=>hm x (List.mem_cons_of_mem _ hx)
    have h2:=(M.KZ (k:=19) (hm a List.mem_cons_self).1 (hm a List.mem_cons_self).2).1
    have e2:(M.dg a).length=(M.tx a).length:=M.V2 _
    rw[List.map_cons,List.map_cons,List.flatten_cons,List.length_append,List.length_cons,List.length_cons]
    omega
  have h3:=this l λx hx=>h x (List.mem_cons_of_mem _ hx)
  unfold M.R
  rw[List.length_append,List.length_cons]
  omega
def j6 (m:Rf):Str:=Vs m.1++Str.ofString " "++M.QV m.2
def NZ (K:PySem.W.Frag):Sp:=QW λa H Q=>∃(t p q:Addr) (m:Rf),H t=some (.tup [.ref p,.ref q])∧H p=some (.lst (bL m.1))∧H q=some (.lst (iL m.2))∧a= .ref t∧(m.1.length≤400∧m.2.length≤60)∧(∀x∈m.2,0≤x∧x<10 ^ 20)∧∀H',Same H H'→Q (.str (j6 m)) H'
theorem Fz (T:Txt K mg) (Cr:Has P w K mg base k "show_marks" ["marks"] (N5 K)) (Zm:Has P w K mg base k "show_numbers" ["row"] (Yq K)):Has P w K mg base (k+1) "show_whole" ["riffle"] (NZ K):=by
 refine T.Mj.has FZ len1 (λf cdv A outer s H vs Q E hr h=>?_)
 obtain⟨a0,rfl,h⟩:=h
 refine⟨_,Z6 (ZR (ZS Zt (ZS Zt (Z4 Cr hr (Z_ (Zq (W9 (K:=K)) (pv 0) Z5 (λ_ _=>rfl)) Z8)) ZK) (Z4 Zm hr (Z_ (Zq (W9 (K:=K)) (pv 0) Z5 (λ_ _=>rfl)) Z8)))),?_⟩
 obtain⟨t,p,q,m,ht,hp,hq,rfl,⟨h1,h2⟩,hb,z⟩:=h
 have l1:=T5 m.1
 have l2:=Kr m.2 hb
 have l3:(Str.ofString " ").length=1:=by decide +kernel
 walk_at "rd"
 refine⟨t,_,_,_,rfl,rfl,TY.of ht,rfl,?_⟩
 refine⟨_,rfl,p,m.1,ZJ.of hp,rfl,by omega,λz1 H1 s1 e1=>?_⟩
 have e1':=yO e1
 subst e1'
 walk_at "rd"
 refine⟨by rw[sizeLine_eq];omega,?_⟩
 walk_at "rd"
 refine⟨t,_,_,_,rfl,rfl,TY.of (s1 _ _ ht),rfl,?_⟩
 refine⟨_,rfl,q,m.2,ZJ.of (s1 _ _ hq),rfl,by omega,hb,λH2 s2=>?_⟩
 walk_at "rd"
 refine⟨by rw[PySem.Str.length_append,sizeLine_eq];omega,?_⟩
 exact z _ (s1.trans s2)
def fK (b:Bool) (k:Int):Str:=(if b=true then Str.ofString "cut" else Str.ofString "breaks")++Str.ofString " "++M.tx k
def JV (K:PySem.W.Frag):Sp:=QW λa H Q=>∃(t:Addr) (b:Bool) (k:Int),H t=some (.tup [.bl b,.int k])∧a= .ref t∧(0≤k∧k<10 ^ 20)∧Q (.str (fK b k)) H
theorem yN (T:Txt K mg):Has P w K mg base (k+1) "show_cut" ["told"] (JV K):=by
 refine T.Hu.has PX len1 (λf cdv A outer s H vs Q E hr h=>?_)
 obtain⟨a0,rfl,h⟩:=h
 refine⟨_,Z7 (ZW (i:=1) PX.nd rfl (Or.inl rfl) (U0 (YM (Zq (W9 (K:=K)) (pv 0) Z5 (λ_ _=>rfl))) ZK ZK))
  (Z7 (ZW (i:=2) PX.nd rfl (Or.inl rfl) (Zq (W9 (K:=K)) (pv 0) Z5 (λ_ _=>rfl)))
  (Z6 (ZR (Ar (Dh (pv 1)) ZK (Dh (pv 2)))))),?_⟩
 obtain⟨t,b,k,ht,rfl,⟨k0,k1⟩,q⟩:=h
 have lk:(Str.ofString (toString k)).length≤19+1:=(M.KZ (k:=19) k0 k1).1
 have lg:=M.Tv k0 (Int.lt_of_lt_of_le k1 (by decide +kernel))
 have l1:(Str.ofString "cut").length=3:=by decide +kernel
 have l2:(Str.ofString "breaks").length=6:=by decide +kernel
 have l3:(Str.ofString " ").length=1:=by decide +kernel
 unfold fK at q
 walk_at "rd"
 refine⟨t,_,_,_,rfl,rfl,TY.of ht,rfl,?_⟩
 cases b with
 |true =>
  walk_at "rd"
  refine⟨t,_,_,_,rfl,rfl,TY.of ht,rfl,?_⟩
  walk_at "rd"
  refine .inr ⟨_,rfl,by rw[sizeLine_eq];omega,?_⟩
  refine⟨_,rfl,by rw[sizeLine_eq];omega,?_⟩
  walk_at "rd"
  refine .inl ⟨_,rfl,lg,?_⟩
  refine⟨_,rfl,by rw[sizeLine_eq];omega,?_⟩
  exact q
 |false =>
  walk_at "rd"
  refine⟨t,_,_,_,rfl,rfl,TY.of ht,rfl,?_⟩
  walk_at "rd"
  refine .inr ⟨_,rfl,by rw[sizeLine_eq];omega,?_⟩
  refine⟨_,rfl,by rw[sizeLine_eq];omega,?_⟩
  walk_at "rd"
  refine .inl ⟨_,rfl,lg,?_⟩
  refine⟨_,rfl,by rw[sizeLine_eq];omega,?_⟩
  exact q
def NT (K:PySem.W.Frag):Sp:=QW λa H Q=>(a= .non∧Q (.str (Str.ofString "none")) H)∨∃(t:Addr) (j k:Int),H t=some (.tup [.int j,.int k])∧a= .ref t∧(∀x∈[j,k],0≤x∧x<10 ^ 20)∧∀H',Same H H'→Q (.str (M.QV [j,k])) H'
theorem Fy (T:Txt K mg) (Zm:Has P w K mg base k "show_numbers" ["row"] (Yq K)):Has P w K mg base (k+1) "show_rests" ["told"] (NT K):=by
 refine T.Mi.has FW len1 (λf cdv A outer s H vs Q E hr h=>?_)
 obtain⟨a0,rfl,h⟩:=h
 refine⟨_,Z6 (ZR (U0 (Zu bB (pv 0) p7 (Zv _)) ZK (Z4 Zm hr (Z_ (Zd (Uc (K:=K)) rfl T.Qg PyProof.Rows.boot_list (Z_ (pv 0) Z8)) Z8)))),?_⟩
 rcases h with⟨rfl,q⟩ | ⟨t,j,k,ht,rfl,hb,q⟩
 ·walk_at "rd"
  rw[decide_eq_true rfl]
  walk_at "rd"
  exact q
 ·walk_at "rd"
  refine⟨t,_,rfl,.inr (TY.of ht),?_⟩
  intro a ha
  generalize e2:upd H a _=H1
  obtain⟨s1,ea⟩:=ZG ha e2
  clear e2
  walk_at "rd"
  refine⟨a,[j,k],ZJ.of ea,rfl,by show 2≤900;decide,hb,λH2 s2=>?_⟩
  exact q _ (s1.trans s2)
end
section
variable {P:Program} {w:World} {K:PySem.W.Frag} {mg:Str→Option Value} {base:Heap} {k:Nat}
def vN (F:List Addr) (H:Hp) (v:V) (m:Rf):Prop:=∃t a b,v= .ref t∧t∉F∧H t=some (.tup [.ref a,.ref b])∧a∉F∧H a=some (.lst (bL m.1))∧b∉F∧H b=some (.lst (iL m.2))
def qD (F:List Addr) (H:Hp) (v:V) (l:List Int):Prop:=∃a,v= .ref a∧a∉F∧H a=some (.lst (iL l))
theorem vN.row {F:List Addr} {H:Hp} {v:V} {m:Rf} (h:vN F H v m):Row H v m:=by
 obtain⟨t,a,b,e,_,h1,_,h2,_,h3⟩:=h
 exact⟨t,a,b,e,h1,h2,h3⟩
theorem vN.keep {F G:List Addr} {H H':Hp} {v:V} {m:Rf} (h:vN F H v m) (k:Keep G H H') (g:∀x∈G,x∈F):vN F H' v m:=by
 obtain⟨t,a,b,e,n1,h1,n2,h2,n3,h3⟩:=h
 exact⟨t,a,b,e,n1,k _ _ (λz=>n1 (g _ z)) h1,n2,k _ _ (λz=>n2 (g _ z)) h2,n3,k _ _ (λz=>n3 (g _ z)) h3⟩
theorem qD.keep {F G:List Addr} {H H':Hp} {v:V} {l:List Int} (h:qD F H v l) (k:Keep G H H') (g:∀x∈G,x∈F):qD F H' v l:=by
 obtain⟨a,e,n1,h1⟩:=h
 exact⟨a,e,n1,k _ _ (λz=>n1 (g _ z)) h1⟩
structure Pk (C:Addr) (H:Hp) (p r:Addr) (n:Nat) (os:List (List Int)) (ps:List Rf):Prop where
 npr:p≠r
 pk:∃dx c,H p=some (.ins C dx (Yz c r))∧qD [p,r] H (.ref c) (os.headD [])
 rf:∃vs:List V,H r=some (.lst vs.reverse)∧Paired (vN [p,r] H) vs ps
 hi:M.Led n os ps
 nb:1≤n∧n≤60
 sz:∀m∈ps,m.1.length≤400
 ln:ps.length≤90
theorem Pk.same {C:Addr} {H H':Hp} {p r:Addr} {n:Nat} {os:List (List Int)} {ps:List Rf} (S:Pk C H p r n os ps) (s:Same H H'):Pk C H' p r n os ps:=by
 obtain⟨h0,⟨dx,c,h1,h2⟩,⟨v1,h3,h4⟩,hi,nb,sz,ln⟩:=S
 exact⟨h0,⟨dx,c,s _ _ h1,h2.keep (s.keep (M:=[])) (by simp)⟩,⟨v1,s _ _ h3,Paired.tG h4 λ_ _ z=>z.keep (s.keep (M:=[])) (by simp)⟩,hi,nb,sz,ln⟩
theorem Cq {a:Addr} {H:Hp} {xs ys:List V} (h1:H a=some (.lst xs)) (h2:H a=some (.lst ys)):xs=ys:=by
 rw[h1]at h2
 cases h2
 rfl
theorem Ot {n:Nat} {l:List Int} {os:List (List Int)} {ps:List Rf} (h:M.Led n (l :: os) ps):M.Ord n l:=by
 obtain⟨e,g⟩:=M.CT h
 rw[e]
 exact M.Xj (M.zW ps.reverse λm hm=>g m (List.mem_reverse.mp hm))
theorem j5 {n:Nat}:∀{os:List (List Int)} {ps:List Rf},M.Led n os ps→∃l os',os=l :: os'∧os'.length=ps.length
 | [l],[],_=>⟨l,[],rfl,rfl⟩
 |l :: l2 :: os,m :: ps,h=>by
  obtain⟨_,_,e,le⟩:=j5 h.2.2
  cases e
  exact⟨l,_,rfl,by simp[le]⟩
 | [],[],h=>False.elim h
 | [],_ :: _,h=>False.elim h
 | [_],_ :: _,h=>False.elim h
 |_ :: _ :: _,[],h=>False.elim h
theorem Pk.top {C:Addr} {H:Hp} {p r:Addr} {n:Nat} {os:List (List Int)} {ps:List Rf} (S:Pk C H p r n os ps):∃dx c l os',os=l :: os'∧M.Ord n l∧H p=some (.ins C dx (Yz c r))∧H c=some (.lst (iL l))∧c∉[p,r]:=by
 obtain⟨_,⟨dx,c,h1,h2⟩,_,hi,_⟩:=S
 obtain⟨l,os',rfl,_⟩:=j5 hi
 obtain⟨c2,ec,nc,hc⟩:=h2
 cases ec
 exact⟨dx,c,l,os',rfl,Ot hi,h1,hc,nc⟩
theorem Pk.wh {C:Addr} {H:Hp} {p r:Addr} {n:Nat} {l:List Int} {os:List (List Int)} {ps:List Rf} (S:Pk C H p r n (l :: os) ps):∃dx c vs,WhP C H p dx c r vs ps.reverse l n:=by
 obtain⟨_,⟨dx,c,h1,h2⟩,⟨v1,h3,h4⟩,hi,nb,sz,ln⟩:=S
 obtain⟨e,g⟩:=M.CT hi
 obtain⟨c2,ec,_,hc⟩:=h2
 cases ec
 have lv:=Paired.length h4
 have G:GdL n ps.reverse:=λm hm=>⟨g m (List.mem_reverse.mp hm),sz m (List.mem_reverse.mp hm)⟩
 exact⟨dx,c,v1.reverse,h1,hc,(Ot hi).len,h3,Hf (Paired.tG h4 λ_ _ z=>z.row),nb.2,G,by rw[List.length_reverse,lv];omega⟩
theorem Pk.Cp {C:Addr} {H:Hp} {p r:Addr} {n:Nat} {os:List (List Int)} {ps:List Rf} (S:Pk C H p r n os ps):H p≠none∧H r≠none:=by
 obtain⟨_,⟨dx,c,h1,_⟩,⟨v1,h3,_⟩,_⟩:=S
 exact⟨by rw[h1];simp,by rw[h3];simp⟩
theorem Pk.push {C:Addr} {H H':Hp} {p r dx c:Addr} {n:Nat} {l:List Int} {os:List (List Int)} {ps:List Rf} {m:Rf} {x1:List V} {t1:V} (S:Pk C H p r n (l :: os) ps) (k:Keep [p,r] H H')
 (h3:H r=some (.lst x1)) (ep:H' p=some (.ins C dx (Yz c r))) (ec:qD [p,r] H' (.ref c) (M.lay l (M.drawn m.1 m.2))) (er:H' r=some (.lst (x1++[t1]))) (r1:vN [p,r] H' t1 m)
 (g:M.Gd n m) (gz:m.1.length≤400) (lz:ps.length<90):Pk C H' p r n (M.lay l (M.drawn m.1 m.2) :: l :: os) (m :: ps):=by
 obtain⟨h0,_,⟨v1,g3,g4⟩,hi,nb,sz,ln⟩:=S
 have e1:=Cq h3 g3
 subst e1
 exact⟨h0,⟨dx,c,ep,ec⟩,⟨t1 :: v1,by rw[List.reverse_cons];exact er,.cons r1 (Paired.tG g4 λ_ _ z=>z.keep k (λ_ h=>h))⟩,⟨rfl,g,hi⟩,nb,λx hx=>by
  rcases List.mem_cons.mp hx with e |hx
  ·subst e;exact gz
  ·exact sz x hx,by show ps.length+1≤90;omega⟩
theorem Pk.pop {C:Addr} {H H':Hp} {p r dx c:Addr} {n:Nat} {l l':List Int} {os:List (List Int)} {ps:List Rf} {m:Rf} {x1:List V} {t1:V} (S:Pk C H p r n (l' :: l :: os) (m :: ps)) (k:Keep [p,r] H H')
 (h3:H r=some (.lst (x1++[t1]))) (ep:H' p=some (.ins C dx (Yz c r))) (ec:qD [p,r] H' (.ref c) l) (er:H' r=some (.lst x1)):Pk C H' p r n (l :: os) ps:=by
 obtain⟨h0,_,⟨v1,g3,g4⟩,hi,nb,sz,ln⟩:=S
 cases g4 with |cons a1 b1 =>
 have e1:=Cq h3 g3
 rw[List.reverse_cons]at e1
 obtain⟨e1,_⟩:=List.append_inj' e1 rfl
 subst e1
 exact⟨h0,⟨dx,c,ep,ec⟩,⟨_,er,Paired.tG b1 λ_ _ z=>z.keep k (λ_ h=>h)⟩,hi.2.2,nb,λx hx=>sz x (List.mem_cons_of_mem _ hx),by
  have:(m :: ps).length=ps.length+1:=rfl
  omega⟩
theorem Pk.last {C:Addr} {H:Hp} {p r:Addr} {n:Nat} {l' l:List Int} {os:List (List Int)} {ps:List Rf} {m:Rf} (S:Pk C H p r n (l' :: l :: os) (m :: ps)):∃dx c t a b rs,H p=some (.ins C dx (Yz c r))∧H r=some (.lst (rs++[.ref t]))∧H t=some (.tup [.ref a,.ref b])∧H c=some (.lst (iL l'))∧r≠c∧H a=some (.lst (bL m.1))∧r≠a∧H b=some (.lst (iL m.2))∧r≠b∧rs.length≤89∧M.Gd n m∧m.1.length≤400∧M.Ord n l∧l'=M.lay l (M.drawn m.1 m.2):=by
 obtain⟨h0,⟨dx,c,h1,c2,ec,nc,hc⟩,⟨vs,h3,h4⟩,hi,nb,sz,ln⟩:=S
 cases ec
 cases h4 with |cons a1 b1 =>
 obtain⟨t,a,b,rfl,nt,ht,na,ha,nb',hb⟩:=a1
 rw[List.reverse_cons]at h3
 have lv:=Paired.length b1
 have ll:(m :: ps).length=ps.length+1:=rfl
 have ne:∀x,x∉[p,r]→r≠x:=λx hx e=>hx (by rw[e];simp)
 exact⟨dx,c,t,a,b,_,h1,h3,ht,hc,ne _ nc,ha,ne _ na,hb,ne _ nb',by rw[List.length_reverse];omega,hi.2.1,sz m List.mem_cons_self,Ot hi.2.2,hi.1⟩
theorem aaM:∀(n:Nat) (f:Nat→Bool),M.cnt n f≤n:=by
 intro n f
 unfold M.cnt
 exact Nat.le_trans (List.length_filter_le _ _) (by simp)
theorem j4 (l:List Int):M.gQ l≤l.length:=Nat.le_trans (aaM _ _) (by omega)
theorem Cm:∀{rs:List Int} {l g:Int} {p k:Nat},M.wF rs l g p=some k→k≤p+rs.length
 | [],_,_,_,_,h=>by cases h
 |c :: cs,l,g,p,k,h=>by
  unfold M.wF at h
  rw[List.length_cons]
  split at h
  ·have:=Cm h;omega
  ·split at h
   ·have:=Cm h;omega
   ·cases h;omega
theorem Ck:∀{rs:List Int} {l g:Int} {p k:Nat},M.wD rs l g p=some k→k≤p+rs.length
 | [],_,_,_,_,h=>by cases h
 |c :: cs,l,g,p,k,h=>by
  unfold M.wD at h
  rw[List.length_cons]
  split at h
  ·have:=Ck h;omega
  ·split at h
   ·have:=Ck h;omega
   ·cases h;omega
theorem yM {n:Nat} {l:List Int} (o:M.Ord n l) (i:Nat):0≤l.getD i 0∧l.getD i 0≤n:=by
 by_cases h:i<n
 ·have:=o.Df h;omega
 ·rw[List.getD,List.getElem?_eq_none (by rw[o.len];omega)]
  show(0:Int)≤0∧(0:Int)≤n
  omega
theorem fJ {n:Nat} {l:List Int} (o:M.Ord n l):0≤(res2 l n).2∧(res2 l n).2≤n:=by
 unfold res2
 cases h:lB l n with
 |none=>exact yM o _
 |some k=>have:=Cm h;rw[o.len]at this;show(0:Int)≤k∧(k:Int)≤n;omega
theorem aaN {n:Nat} {l:List Int} (o:M.Ord n l):0≤(res l n).2∧(res l n).2≤n:=by
 unfold res
 cases h:runs l n with
 |none=>exact yM o _
 |some k=>have:=Ck h;rw[o.len]at this;show(0:Int)≤k∧(k:Int)≤n;omega
inductive Ph (n:Nat) (l:List Int) (ps:List Rf):Str→Str→Prop
 |order:Ph n l ps "order" (M.QV l)
 |falls:Ph n l ps "falls" (M.tx (M.gQ l:Nat))
 |runs:Ph n l ps "runs" (M.tx ((M.gQ (M.JH n l):Nat)+1))
 |whole:(M.jl n ps.reverse).1.length≤400→Ph n l ps "whole" (j6 (M.jl n ps.reverse))
 |second:Ph n l ps "second" (fK (res2 l n).1 (res2 l n).2)
 |first:Ph n l ps "first" (fK (res l n).1 (res l n).2)
 |aaO:lA l n→Ph n l ps "rests" "none"
 |rests (j k:Nat):jx l n j k→Ph n l ps "rests" (M.QV [(j:Int),((k*j:Nat):Int)])
end
section
variable {P:Program} {w:World} {K:PySem.W.Frag} {mg:Str→Option Value} {base:Heap} {k:Nat}
theorem ZP {a b:Str} {A B:Prop} (h:a≠b) (hB:B):if(decide (V.str a=V.str b))=true then A else B:=by
 rw[decide_eq_false (λe=>h (V.str.inj e))]
 exact hB
theorem Y9 {a b:Str} {A B:Prop} (h:a=b) (hA:A):if(decide (V.str a=V.str b))=true then A else B:=by
 rw[decide_eq_true (congrArg V.str h)]
 exact hA
theorem Xb {w a b:Str} (e:w=a) (h:a≠b):w≠b:=by rw[e];exact h
structure Lo1 (P:Program) (w:World) (K:PySem.W.Frag) (mg:Str→Option Value) (base:Heap) (C nr tm:Addr):Prop where
 Zm:Has P w K mg base 20 "show_numbers" ["row"] (Yq K)
 yL:Tz P w K mg base 20 C "undo" ["self"] (cQ (Lx K C) (N6 K C nr))
 Zr:K1 P w K mg base 20 C "order" ["self"] (Yo K C)
 Cv:Has P w K mg base 20 "falls" ["order"] (GX K)
 aaP:Has P w K mg base 20 "runs" ["order"] (t_ K)
 Cj:Has P w K mg base 20 "show_whole" ["riffle"] (NZ K)
 Ci:Tz P w K mg base 20 C "whole" ["self"] (cQ (N7 K C) (Pu K C tm))
 GP:Has P w K mg base 20 "show_cut" ["told"] (JV K)
 yK:Has P w K mg base 20 "by_second" ["order"] (Lr K)
 vM:Has P w K mg base 20 "by_first" ["order"] (J0 K)
 Cg:Has P w K mg base 20 "show_rests" ["told"] (NT K)
 fH:Has P w K mg base 20 "rests" ["order"] (yX K)
def Ask (n:Nat) (ps:List Rf) (w:Str):Prop:=w="order"∨w="falls"∨w="runs"∨(w="whole"∧(M.jl n ps.reverse).1.length≤400)∨w="second"∨w="first"∨w="rests"
def Unk (w:Str):Prop:=w≠"undo"∧w≠"order"∧w≠"falls"∧w≠"runs"∧w≠"whole"∧w≠"second"∧w≠"first"∧w≠"rests"
def yJ (C nr tm nt:Addr) (H:Hp) (p r:Addr) (n:Nat) (l:List Int) (os:List (List Int)) (ps:List Rf) (w:Str) (Q:VK) (E:XK):Prop:=
 (Ask n ps w∧∀t H',Ph n l ps w t→Same H H'→Q (.str t) H')∨(w="undo"∧ps=[]∧∀H',Same H H'→E (.ref nr) none H') ∨
 (w="undo"∧∃m ps' l2 os2,ps=m :: ps'∧os=l2 :: os2∧∀H',Keep [p,r] H H'→Pk C H' p r n (l2 :: os2) ps'→Q (.str (M.QV l2)) H') ∨
 (w="whole"∧400<(M.jl n ps.reverse).1.length∧∀H',Same H H'→E (.ref tm) none H')∨(Unk w∧∀H',Same H H'→E (.ref nt) none H')
def Tf (K:PySem.W.Frag) (C nr tm nt:Addr):Sp:=fX λa b H Q E=>∃(p r:Addr) (n:Nat) (l:List Int) (os:List (List Int)) (ps:List Rf) (w:Str),Pk C H p r n (l :: os) ps∧a= .ref p∧b= .str w∧yJ C nr tm nt H p r n l os ps w Q E
theorem T4 {n:Nat} {l:List Int} (o:M.Ord n l) (h:n≤60):l.length≤900∧∀x∈l,0≤x∧x<10 ^ 20:=⟨by rw[o.len];omega,λx hx=>by have:=o.bd x hx;omega⟩
theorem M7 (T:Txt K mg) {C:Addr} (U:Qe K mg C) {r np nm nr nw tm nf nt:Addr} (e:Td K mg r np nm nr nw tm nf nt) (kb:K.In base) (L:Lo1 P w K mg base C nr tm):Im P w K mg base 21 "answer_to_word" ["pack","asked"] (Tf K C nr tm nt):=by
 refine T.Ry.Nv (k:=20) LQ lE (λf cdv A outer s H vs Q E hr h=>?_)
 obtain⟨a0,a1,rfl,h⟩:=h
 refine⟨_,Z7 (Zn (Zu YJ (pv 1) ZK (Zv _))
  (Z6 (ZR (Z4 L.Zm hr (Z_ (Io (pv 0) U.cl L.yL hr Zb.Gw) Z8))))
  (Zz))
  (Z7 (Zn (Zu YJ (pv 1) ZK (Zv _))
  (Z6 (ZR (Z4 L.Zm hr (Z_ (Yw (pv 0) U.cl L.Zr hr) Z8))))
  (Zz))
  (Z7 (Zn (Zu YJ (pv 1) ZK (Zv _))
  (Z6 (ZR (Zd Ze rfl T.Sx PyProof.Rows.boot_str (Z_ (Z4 L.Cv hr (Z_ (Yw (pv 0) U.cl L.Zr hr) Z8)) Z8))))
  (Zz))
  (Z7 (Zn (Zu YJ (pv 1) ZK (Zv _))
  (Z6 (ZR (Zd Ze rfl T.Sx PyProof.Rows.boot_str (Z_ (Z4 L.aaP hr (Z_ (Yw (pv 0) U.cl L.Zr hr) Z8)) Z8))))
  (Zz))
  (Z7 (Zn (Zu YJ (pv 1) ZK (Zv _))
  (Z6 (ZR (Z4 L.Cj hr (Z_ (Io (pv 0) U.cl L.Ci hr Zb.Gw) Z8))))
  (Zz))
  (Z7 (Zn (Zu YJ (pv 1) ZK (Zv _))
  (Z6 (ZR (Z4 L.GP hr (Z_ (Z4 L.yK hr (Z_ (Yw (pv 0) U.cl L.Zr hr) Z8)) Z8))))
  (Zz))
  (Z7 (Zn (Zu YJ (pv 1) ZK (Zv _))
  (Z6 (ZR (Z4 L.GP hr (Z_ (Z4 L.vM hr (Z_ (Yw (pv 0) U.cl L.Zr hr) Z8)) Z8))))
  (Zz))
  (Z7 (Zn (Zu YJ (pv 1) ZK (Zv _))
  (Z6 (ZR (Z4 L.Cg hr (Z_ (Z4 L.fH hr (Z_ (Yw (pv 0) U.cl L.Zr hr) Z8)) Z8))))
  (Zz))
  (Z6 (W8 (Uv (mro:=Qy) (nid:="ValueError.__new__") kb e.m7 e.x7) PySem.F.excBase_ValueError rfl rfl TJ (Z_ ZK Z8)))))))))),?_⟩
 obtain⟨p,r',n,l,os,ps,w,S,rfl,rfl,h⟩:=h
 obtain⟨dx,c,l',os',e1,o,hp,hc,nc⟩:=S.top
 cases e1
 have nb:=S.nb
 obtain⟨os1,os2⟩:=T4 o nb.2
 walk_at "rd"
 rcases h with⟨ak,q⟩ | ⟨ew,eps,q⟩ | ⟨ew,m,ps',l2,am8,eps,eos,q⟩ | ⟨ew,big,q⟩ | ⟨⟨n1,n2,n3,n4,n5,n6,n7,n8⟩,q⟩
 ·have lo:=o.len
  have nb1:=nb.1
  have nb2:=nb.2
  rcases ak with ew |ew |ew | ⟨ew,sm⟩ |ew |ew |ew
  ·refine ZP (Xb ew (by decide +kernel)) ?_
   walk_at "rd"
   refine Y9 ew ?_
   walk_at "rd"
   refine⟨p,dx,Yz c r',rfl,hp,rfl,?_⟩
   refine⟨_,rfl,p,dx,c,r',l,hp,ZJ.of hc,rfl,by rw[o.len];omega,?_⟩
   intro O H1 s1 hO eO
   refine⟨_,rfl,O,l,ZJ.of eO,rfl,os1,os2,λH2 s2=>?_⟩
   exact q _ _ (by rw[ew];exact .order) (s1.trans s2)
  ·refine ZP (Xb ew (by decide +kernel)) ?_
   walk_at "rd"
   refine ZP (Xb ew (by decide +kernel)) ?_
   walk_at "rd"
   refine Y9 ew ?_
   walk_at "rd"
   refine⟨p,dx,Yz c r',rfl,hp,rfl,?_⟩
   refine⟨_,rfl,p,dx,c,r',l,hp,ZJ.of hc,rfl,by rw[o.len];omega,?_⟩
   intro O H1 s1 hO eO
   refine⟨_,rfl,O,l,ZJ.of eO,rfl,by omega,λH2 s2=>?_⟩
   walk_at "rd"
   have fb:=j4 l
   refine⟨M.Tv (by omega) (Int.lt_of_lt_of_le (show(M.gQ l:Int)<10 ^ 20 by omega) (by decide +kernel)),?_⟩
   exact q _ _ (by rw[ew];exact .falls) (s1.trans s2)
  ·refine ZP (Xb ew (by decide +kernel)) ?_
   walk_at "rd"
   refine ZP (Xb ew (by decide +kernel)) ?_
   walk_at "rd"
   refine ZP (Xb ew (by decide +kernel)) ?_
   walk_at "rd"
   refine Y9 ew ?_
   walk_at "rd"
   refine⟨p,dx,Yz c r',rfl,hp,rfl,?_⟩
   refine⟨_,rfl,p,dx,c,r',l,hp,ZJ.of hc,rfl,by rw[o.len];omega,?_⟩
   intro O H1 s1 hO eO
   refine⟨_,rfl,O,l,n,ZJ.of eO,rfl,o,by omega,λH2 s2=>?_⟩
   walk_at "rd"
   have fb:=j4 (M.JH n l)
   have fp:=(M.Jo o).len
   refine⟨M.Tv (by omega) (Int.lt_of_lt_of_le (show(M.gQ (M.JH n l):Int)+1<10 ^ 20 by omega) (by decide +kernel)),?_⟩
   exact q _ _ (by rw[ew];exact .runs) (s1.trans s2)
  ·refine ZP (Xb ew (by decide +kernel)) ?_
   walk_at "rd"
   refine ZP (Xb ew (by decide +kernel)) ?_
   walk_at "rd"
   refine ZP (Xb ew (by decide +kernel)) ?_
   walk_at "rd"
   refine ZP (Xb ew (by decide +kernel)) ?_
   walk_at "rd"
   refine Y9 ew ?_
   walk_at "rd"
   obtain⟨bY,c2,vs2,W⟩:=S.wh
   refine⟨p,_,_,rfl,W.hp,rfl,?_⟩
   have jw:=M.zW ps.reverse W.gd.gd
   refine .inl ⟨_,rfl,p,bY,c2,r',vs2,ps.reverse,l,n,W,rfl,sm,?_⟩
   intro t a b H1 s1 ht ha hb nab et ea eb
   refine⟨_,rfl,t,a,b,M.jl n ps.reverse,et,ea,eb,rfl,⟨sm,by rw[jw.len];exact nb2⟩,λx hx=>?_,λH2 s2=>?_⟩
   ·have:=jw.bd x hx
    omega
   ·exact q _ _ (by rw[ew];exact .whole sm) (s1.trans s2)
  ·refine ZP (Xb ew (by decide +kernel)) ?_
   walk_at "rd"
   refine ZP (Xb ew (by decide +kernel)) ?_
   walk_at "rd"
   refine ZP (Xb ew (by decide +kernel)) ?_
   walk_at "rd"
   refine ZP (Xb ew (by decide +kernel)) ?_
   walk_at "rd"
   refine ZP (Xb ew (by decide +kernel)) ?_
   walk_at "rd"
   refine Y9 ew ?_
   walk_at "rd"
   refine⟨p,dx,Yz c r',rfl,hp,rfl,?_⟩
   refine⟨_,rfl,p,dx,c,r',l,hp,ZJ.of hc,rfl,by rw[o.len];omega,?_⟩
   intro O H1 s1 hO eO
   refine⟨_,rfl,O,n,l,ZJ.of eO,rfl,nb,o,?_⟩
   intro t H2 s2 ht et
   have rb:=fJ o
   refine⟨_,rfl,t,_,_,et,rfl,⟨rb.1,by omega⟩,?_⟩
   exact q _ _ (by rw[ew];exact .second) (s1.trans s2)
  ·refine ZP (Xb ew (by decide +kernel)) ?_
   walk_at "rd"
   refine ZP (Xb ew (by decide +kernel)) ?_
   walk_at "rd"
   refine ZP (Xb ew (by decide +kernel)) ?_
   walk_at "rd"
   refine ZP (Xb ew (by decide +kernel)) ?_
   walk_at "rd"
   refine ZP (Xb ew (by decide +kernel)) ?_
   walk_at "rd"
   refine ZP (Xb ew (by decide +kernel)) ?_
   walk_at "rd"
   refine Y9 ew ?_
   walk_at "rd"
   refine⟨p,dx,Yz c r',rfl,hp,rfl,?_⟩
   refine⟨_,rfl,p,dx,c,r',l,hp,ZJ.of hc,rfl,by rw[o.len];omega,?_⟩
   intro O H1 s1 hO eO
   refine⟨_,rfl,O,n,l,ZJ.of eO,rfl,nb,o,?_⟩
   intro t H2 s2 ht et
   have rb:=aaN o
   refine⟨_,rfl,t,_,_,et,rfl,⟨rb.1,by omega⟩,?_⟩
   exact q _ _ (by rw[ew];exact .first) (s1.trans s2)
  ·refine ZP (Xb ew (by decide +kernel)) ?_
   walk_at "rd"
   refine ZP (Xb ew (by decide +kernel)) ?_
   walk_at "rd"
   refine ZP (Xb ew (by decide +kernel)) ?_
   walk_at "rd"
   refine ZP (Xb ew (by decide +kernel)) ?_
   walk_at "rd"
   refine ZP (Xb ew (by decide +kernel)) ?_
   walk_at "rd"
   refine ZP (Xb ew (by decide +kernel)) ?_
   walk_at "rd"
   refine ZP (Xb ew (by decide +kernel)) ?_
   walk_at "rd"
   refine Y9 ew ?_
   walk_at "rd"
   refine⟨p,dx,Yz c r',rfl,hp,rfl,?_⟩
   refine⟨_,rfl,p,dx,c,r',l,hp,ZJ.of hc,rfl,by rw[o.len];omega,?_⟩
   intro O H1 s1 hO eO
   refine⟨_,rfl,O,n,l,ZJ.of eO,rfl,nb,o,λok H2 s2=>?_,λj k fs=>?_⟩
   ·refine⟨_,rfl,.inl ⟨rfl,?_⟩⟩
    exact q _ _ (by rw[ew];exact .aaO ok) (s1.trans s2)
   ·intro t H2 s2 ht et
    have ft:=fits fs.k1
    have j2:=fs.j2
    refine⟨_,rfl,.inr ⟨t,_,_,et,rfl,λx hx=>?_,λH3 s3=>?_⟩⟩
    ·simp only[List.mem_cons,List.not_mem_nil,or_false]at hx
     rcases hx with rfl |rfl
     ·omega
     ·generalize k*j=y at ft ⊢
      omega
    ·exact q _ _ (by rw[ew];exact .rests j k fs) (s1.trans (s2.trans s3))
 ·refine Y9 ew ?_
  walk_at "rd"
  subst eps
  refine⟨p,dx,Yz c r',rfl,hp,rfl,?_⟩
  obtain⟨vs,h3,h4⟩:=S.rf
  cases h4
  exact .inr ⟨_,rfl,p,dx,c,r',hp,h3,rfl,q⟩
 ·refine Y9 ew ?_
  walk_at "rd"
  subst eps
  subst eos
  obtain⟨bY,c2,t,a,b,rs,g1,g2,g3,g4,g5,g6,g7,g8,g9,g10,gd,sz,ol,el⟩:=S.last
  refine⟨p,_,_,rfl,g1,rfl,?_⟩
  refine .inl ⟨_,rfl,p,bY,c2,r',t,a,b,rs,l,m.1,m.2,n,g1,g2,g3,g4,g5,g6,g7,g8,g9,rfl,o.len,gd.1,sz,nb.2,by omega,?_⟩
  intro c' H1 hc' k1 ep ec er
  have back:M.lay l (M.JH n (M.drawn m.1 m.2))=l2:=by rw[el];exact M.qZ ol.len (M.Xj gd.1)
  rw[back]at ec ⊢
  intro O H2 s2 hO eO
  obtain⟨o1,o2⟩:=T4 ol nb.2
  have ne:c'∉[p,r']:=λz=>by
   rcases List.mem_cons.mp z with z |z
   ·rw[z,g1]at hc';cases hc'
   ·have z:c'=r':=by simpa using z
    rw[z,g2]at hc';cases hc'
  refine⟨_,rfl,O,l2,ZJ.of eO,rfl,o1,o2,λH3 s3=>?_⟩
  have PC:=Pk.pop S k1 g2 ep ⟨c',rfl,ne,ec⟩ er
  exact q _ (k1.trans ((s2.trans s3).keep (M:=[p,r']))) (PC.same (s2.trans s3))
 ·refine ZP (Xb ew (by decide +kernel)) ?_
  walk_at "rd"
  refine ZP (Xb ew (by decide +kernel)) ?_
  walk_at "rd"
  refine ZP (Xb ew (by decide +kernel)) ?_
  walk_at "rd"
  refine ZP (Xb ew (by decide +kernel)) ?_
  walk_at "rd"
  refine Y9 ew ?_
  walk_at "rd"
  obtain⟨bY,c2,vs2,W⟩:=S.wh
  refine⟨p,_,_,rfl,W.hp,rfl,?_⟩
  exact .inr ⟨_,rfl,p,bY,c2,r',vs2,ps.reverse,l,n,W,rfl,big,q⟩
 ·refine ZP n1 ?_
  walk_at "rd"
  refine ZP n2 ?_
  walk_at "rd"
  refine ZP n3 ?_
  walk_at "rd"
  refine ZP n4 ?_
  walk_at "rd"
  refine ZP n5 ?_
  walk_at "rd"
  refine ZP n6 ?_
  walk_at "rd"
  refine ZP n7 ?_
  walk_at "rd"
  refine ZP n8 ?_
  walk_at "rd"
  exact q _ (Same.refl _)
end
section
variable {P:Program} {w:World} {K:PySem.W.Frag} {mg:Str→Option Value} {base:Heap} {k:Nat}
def Never:Sp:=λ_ _ _ _=>False
theorem vL {ps:List Str}:∀vs H Q E,Never vs H Q E→vs.length=ps.length:=λ_ _ _ _ h=>h.elim
structure Lo2 (P:Program) (w:World) (K:PySem.W.Frag) (mg:Str→Option Value) (base:Heap) (C nt:Addr):Prop where
 qC:Has P w K mg base 20 "carries" ["m","b"] Never
 VD:TF P w K mg base 20 "read_numbers" ["words"] (Va K nt)
 fG:Has P w K mg base 20 "added" ["numbers","b"] Never
 Ce:Has P w K mg base 20 "figures_of" ["word","columns"] Never
 Zm:Has P w K mg base 20 "show_numbers" ["row"] (Yq K)
 acj:Has P w K mg base 20 "far" ["n","b","k"] (kj K)
def tV (m b i j:Int):Prop:=¬(1≤m∧m≤12)∨b<1∨m≤i∨m≤j
def Uj (K:PySem.W.Frag) (nt:Addr):Sp:=za λa H _ E=>∃(p:Addr) (m b i j:Int),ZJ K H p (iL [m,b,i,j])∧a= .ref p∧tV m b i j∧∀H',Same H H'→E (.ref nt) none H'
theorem Ol (T:Txt K mg) {r np nm nr nw tm nf nt:Addr} (e:Td K mg r np nm nr nw tm nf nt) (kb:K.In base) {C:Addr} (L:Lo2 P w K mg base C nt):Im P w K mg base 21 "answer_to_carry" ["numbers"] (Uj K nt):=by
 refine T.Sy.Nv (k:=20) Yc G8 (λf cdv A outer s H vs Q E hr h=>?_)
 obtain⟨a0,rfl,h⟩:=h
 refine⟨_,Z7 (ZW (i:=1) Yc.nd rfl (Or.inl rfl) (Zq (ZQ (K:=K)) (pv 0) Z5 (λ_ _=>rfl)))
  (Z7 (ZW (i:=2) Yc.nd rfl (Or.inl rfl) (Zq (ZQ (K:=K)) (pv 0) Z5 (λ_ _=>rfl)))
  (Z7 (ZW (i:=3) Yc.nd rfl (Or.inl rfl) (Zq (ZQ (K:=K)) (pv 0) Z5 (λ_ _=>rfl)))
  (Z7 (ZW (i:=4) Yc.nd rfl (Or.inl rfl) (Zq (ZQ (K:=K)) (pv 0) Z5 (λ_ _=>rfl)))
  (Z7 (Zn (PW.pt (QX (Yr (TX Vx Vx Z5 (pv 1) (Yx (v:=.int 12) rfl T.QL.choose_spec ⟨_,rfl⟩))) (QX (Zu Og (pv 2) Z5 (Zv _)) (QX (Zu dz (pv 3) (pv 1) (Zv _)) (Rp (Zu dz (pv 4) (pv 1) (Zv _)))))))
  (Z6 (W8 (Uv (mro:=Qy) (nid:="ValueError.__new__") kb e.m7 e.x7) PySem.F.excBase_ValueError rfl rfl TJ (Z_ ZK Z8)))
  (Zz))
  (Z6 (ZR (Zd Ze rfl T.Sx PyProof.Rows.boot_str (Z_ (Zq (ZQ (K:=K)) (Zq (ZQ (K:=K)) (Z4 L.qC hr (Z_ (pv 1) (Z_ (pv 2) Z8))) (pv 3) (λ_ _=>rfl)) (pv 4) (λ_ _=>rfl)) Z8)))))))),?_⟩
 obtain⟨p,m,b,i,j,hS,rfl,bad,q⟩:=h
 have q':=q _ (Same.refl _)
 walk_at "rd"
 refine⟨p,_,_,_,rfl,rfl,hS,rfl,?_⟩
 walk_at "rd"
 refine⟨p,_,_,_,rfl,rfl,hS,rfl,?_⟩
 walk_at "rd"
 refine⟨p,_,_,_,rfl,rfl,hS,rfl,?_⟩
 walk_at "rd"
 refine⟨p,_,_,_,rfl,rfl,hS,rfl,?_⟩
 walk_at "rd"
 refine XR (λc1=>?_) (λc1=>?_)<;>simp only[decide_eq_true_eq]at c1
 ·walk_at "rd"
  refine XR (λc2=>?_) (λc2=>?_)
  ·walk_at "rd"
   exact q'
  ·have c2:m≤12:=by simpa using c2
   walk_at "rd"
   refine XR (λc3=>?_) (λc3=>?_)<;>simp only[decide_eq_true_eq]at c3
   ·walk_at "rd"
    exact q'
   walk_at "rd"
   refine XR (λc4=>?_) (λc4=>?_)<;>simp only[decide_eq_true_eq]at c4
   ·walk_at "rd"
    exact q'
   walk_at "rd"
   refine XR (λc5=>?_) (λc5=>?_)<;>simp only[decide_eq_true_eq]at c5
   ·walk_at "rd"
    exact q'
   exfalso
   unfold tV at bad
   omega
 ·walk_at "rd"
  exact q'
def Sq (K:PySem.W.Frag) (nt:Addr):Sp:=za λa H _ E=>∃(p:Addr) (ws:List Str),ZJ K H p (ws.map V.str)∧a= .ref p∧ws.length≤900∧cg ws∧(∃w∈ws,M.V1 (M.cd w)=false)∧∀H',Same H H'→E (.ref nt) none H'
theorem Lk (T:Txt K mg) {r np nm nr nw tm nf nt:Addr} (e:Td K mg r np nm nr nw tm nf nt) (kb:K.In base) {C:Addr} (L:Lo2 P w K mg base C nt):Im P w K mg base 21 "answer_to_add" ["words"] (Sq K nt):=by
 refine T.QS.Nv (k:=20) Wx G8 (λf cdv A outer s H vs Q E hr h=>?_)
 obtain⟨a0,rfl,h⟩:=h
 refine⟨_,Z7 (ZW (i:=1) Wx.nd rfl (Or.inl rfl) (Zc L.VD hr Zb.Gw (Z_ (pv 0) Z8)))
  (Z7 (ZW (i:=2) Wx.nd rfl (Or.inr rfl) (ZV (aal (K:=K) rfl) rfl T.cC PyProof.Rows.boot_max (Z_ (YF (vars:=["word"]) (caps:=[]) (ZD.of (outer:=Z9 YT) (N:=["words","numbers","columns","carried_on"]) rfl rfl ⟨by decide +kernel⟩) rfl (YX (K:=K) (pv 0)) ⟨λ_ _ _ _=>⟨(Zy (i:=0) (show List.Nodup (["word"]:List Str)by decide +kernel) rfl (Or.inl rfl)),YG,(ZV Rn rfl T.Za PySem.boot_len (Z_ (pv 0) Z8))⟩⟩) Z8)))
  (Z7 (ZW (i:=3) Wx.nd rfl (Or.inl rfl) (Zq (W9 (K:=K)) (Z4 L.fG hr (Z_ (YF (vars:=["word"]) (caps:=[2]) (ZD.of (outer:=Z9 YT) (N:=["words","numbers","columns","carried_on"]) rfl rfl ⟨by decide +kernel⟩) rfl (YX (K:=K) (pv 0)) ⟨λ_ _ _ _=>⟨(Zy (i:=0) (show List.Nodup (["word","columns"]:List Str)by decide +kernel) rfl (Or.inl rfl)),YG,(Z4 L.Ce hr (Z_ (pv 0) (Z_ (pv 1) Z8)))⟩⟩) (Z_ Z5 Z8))) Z5 (λ_ _=>rfl)))
  (Z6 (ZR (Z4 L.Zm hr (Z_ (ZS TQ (Yh (Z_ (ZV (cU (K:=K) rfl) rfl T.lO PyProof.Rows.boot_sum (Z_ (pv 1) Z8)) Z8)) (pv 3)) Z8)))))),?_⟩
 obtain⟨p,ws,hS,rfl,hl,hw,bad,q⟩:=h
 walk_at "rd"
 refine⟨p,ws,hS,rfl,hl,hw,λal=>?_,λ_=>q⟩
 obtain⟨x,hx,hn⟩:=bad
 rw[al x hx]at hn
 cases hn
theorem acn {top bottom t u:Int} (ok:M.gC top bottom t u) (h0:0≤top) (h1:0<bottom):0≤t:=by
 have e:=ok.eq
 have p:=ok.pos
 rcases Int.lt_or_le t 0 with h |h
 ·have a1:t*bottom<0:=Int.mul_neg_of_neg_of_pos h h1
  have a2:0≤top*u:=Int.mul_nonneg h0 (by omega)
  omega
 ·exact h
def fD (t u:Int):Str:=M.tx t++Str.ofString "/"++M.tx u
def Sh (K:PySem.W.Frag) (nt:Addr):Sp:=vR λa b c H Q E=>∃(n:Nat) (x y:Int),a= .int n∧b= .int x∧c= .int y∧(1≤n∧0≤x∧0≤y) ∧
 (((20<n∨x<1∨60<x∨20<y)∧∀H',Same H H'→E (.ref nt) none H') ∨
  (n≤20∧x=1∧y=0∧∀t u H',0≤t→0≤u→Same H H'→Q (.str (fD t u)) H'))
theorem Lj (T:Txt K mg) {r np nm nr nw tm nf nt:Addr} (e:Td K mg r np nm nr nw tm nf nt) (kb:K.In base) {C:Addr} (L:Lo2 P w K mg base C nt):Im P w K mg base 21 "answer_to_far" ["n","b","k"] (Sh K nt):=by
 refine T.QM.Nv (k:=20) Ww Ed (λf cdv A outer s H vs Q E hr h=>?_)
 obtain⟨a0,a1,a2,rfl,h⟩:=h
 refine⟨_,Z7 (Zn (PW.pt (QX (Zu Fv (pv 0) (Yx (v:=.int 20) rfl T.Rx.choose_spec ⟨_,rfl⟩) (Zv _)) (QX (Yr (TX Vx Vx Z5 (pv 1) (Yx (v:=.int 60) rfl T.Rw.choose_spec ⟨_,rfl⟩))) (Rp (Zu Fv (pv 2) (Yx (v:=.int 20) rfl T.Tp.choose_spec ⟨_,rfl⟩) (Zv _))))))
  (Z6 (W8 (Uv (mro:=Qy) (nid:="ValueError.__new__") kb e.m7 e.x7) PySem.F.excBase_ValueError rfl rfl TJ (Z_ ZK Z8)))
  (Zz))
  (Z7 (ZW (i:=3) Ww.nd rfl (Or.inl rfl) (Z4 L.acj hr (Z_ (pv 0) (Z_ (pv 1) (Z_ (pv 2) Z8)))))
  (Z7 (ZW (i:=4) Ww.nd rfl (Or.inl rfl) (Zq (W9 (K:=K)) (pv 3) Z5 (λ_ _=>rfl)))
  (Z7 (ZW (i:=5) Ww.nd rfl (Or.inl rfl) (Zq (W9 (K:=K)) (pv 3) Z5 (λ_ _=>rfl)))
  (Z6 (ZR (Ar (Dh (pv 4)) ZK (Dh (pv 5)))))))),?_⟩
 obtain⟨n,x,y,rfl,rfl,rfl,⟨n1,x0,y0⟩,h⟩:=h
 rcases h with⟨bad,q⟩ | ⟨n2,rfl,rfl,q⟩
 ·have q':=q _ (Same.refl _)
  walk_at "rd"
  refine XR (λc1=>?_) (λc1=>?_)<;>simp only[decide_eq_true_eq]at c1
  ·walk_at "rd"
   exact q'
  walk_at "rd"
  refine XR (λc2=>?_) (λc2=>?_)<;>simp only[decide_eq_true_eq]at c2
  ·walk_at "rd"
   refine XR (λc3=>?_) (λc3=>?_)
   ·walk_at "rd"
    exact q'
   ·have c3:x≤60:=by simpa using c3
    walk_at "rd"
    refine XR (λc4=>?_) (λc4=>?_)<;>simp only[decide_eq_true_eq]at c4
    ·walk_at "rd"
     exact q'
    exfalso
    omega
  ·walk_at "rd"
   exact q'
 ·walk_at "rd"
  refine XR (λc1=>?_) (λc1=>?_)<;>simp only[decide_eq_true_eq]at c1
  ·exfalso;omega
  walk_at "rd"
  refine⟨n,1,0,rfl,rfl,rfl,⟨n1,n2,by decide,by decide,by decide⟩,λt u ok t1 H1 s1 ht1 et1=>?_⟩
  have e1:(1:Nat) ^ 0=1:=rfl
  rw[e1]at ok
  have fa:=aaK n2
  have fp:=M.wk n
  have tb:=acn ok (M.Et n 1) (kE (n:=n) (Nat.le_refl 1))
  have hb:bt n 1=2*((M.fa n:Nat):Int):=by unfold bt;rw[Nat.one_pow];rfl
  have ha:=M.lY n1
  have aaB:=ok.aaB
  have aez:=ok.aes
  have u1:=ok.pos
  have t20:t<10 ^ 20:=by rw[ha]at aaB;omega
  have u20:u<10 ^ 20:=by rw[hb]at aez;omega
  have lt:(Str.ofString (toString t)).length≤19+1:=(M.KZ (k:=19) tb t20).1
  have lu:(Str.ofString (toString u)).length≤19+1:=(M.KZ (k:=19) (by omega) u20).1
  have gt:=M.Tv tb (Int.lt_of_lt_of_le t20 (by decide +kernel))
  have gu:=M.Tv (show 0≤u by omega) (Int.lt_of_lt_of_le u20 (by decide +kernel))
  have ls:(Str.ofString "/").length=1:=by decide +kernel
  walk_at "rd"
  refine⟨t1,_,_,_,rfl,rfl,TY.of et1,rfl,?_⟩
  walk_at "rd"
  refine⟨t1,_,_,_,rfl,rfl,TY.of et1,rfl,?_⟩
  walk_at "rd"
  refine .inl ⟨_,rfl,gt,?_⟩
  refine⟨_,rfl,by rw[sizeLine_eq];omega,?_⟩
  walk_at "rd"
  refine⟨by rw[sizeLine_eq];omega,?_⟩
  walk_at "rd"
  refine .inl ⟨_,rfl,gu,?_⟩
  refine⟨_,rfl,by rw[sizeLine_eq];omega,?_⟩
  exact q t u H1 tb (by omega) s1
end
section
variable {P:Program} {w:World} {K:PySem.W.Frag} {mg:Str→Option Value} {base:Heap} {k:Nat}
structure Lo3 (P:Program) (w:World) (K:PySem.W.Frag) (mg:Str→Option Value) (base:Heap) (C nr nw nt:Addr):Prop where
 Zm:Has P w K mg base 21 "show_numbers" ["row"] (Yq K)
 Fx:Tz P w K mg base 21 C "riffle" ["self","marks","word"] (cQ (Px K C) (QH K C nr))
 VD:TF P w K mg base 21 "read_numbers" ["words"] (Va K nt)
 Xz:TF P w K mg base 21 "read_number" ["word"] (Wj K nt)
 Q6:TF P w K mg base 21 "read_marks" ["word"] (Pq K nt)
 vK:Has P w K mg base 21 "how_many" ["order","marks"] (JW K)
 Zr:K1 P w K mg base 21 C "order" ["self"] (Yo K C)
 jZ:TF P w K mg base 21 "way" ["order","marks","number"] (tW K nw)
 Li:TF P w K mg base 21 "answer_to_carry" ["numbers"] (Uj K nt)
 Jt:TF P w K mg base 21 "answer_to_add" ["words"] (Sq K nt)
 Js:TF P w K mg base 21 "answer_to_far" ["n","b","k"] (Sh K nt)
abbrev num? (z:Str):Bool:=M.V1 (M.cd z)
abbrev mk? (z:Str):Bool:=M.Ik (M.cd z)
abbrev mkOf (z:Str):List Bool:=M.mk (M.cd z)
def aco (n:Nat) (w:Str) (ws:List Str):Prop:=
 (w="riffle"∧∃a rs,ws=a :: rs∧(mk? a=false∨(mk? a=true∧∃x∈rs,num? x=false))) ∨
 (w="way"∧∃a b,ws=[a,b]∧(mk? a=false∨(mk? a=true∧num? b=false))) ∨
 (w="carry"∧∃a b c d,ws=[a,b,c,d]∧((∃x∈ws,num? x=false)∨((∀x∈ws,num? x=true)∧tV (numOf a) (numOf b) (numOf c) (numOf d)))) ∨
 (w="add"∧ws.length≤60∧∃x∈ws,num? x=false) ∨
 (w="far"∧∃a b,ws=[a,b]∧num? a=true∧num? b=true∧(20<n∨numOf a<1∨60<numOf a∨20<numOf b)) ∨
 (w≠"riffle"∧(w="ways"→ws.length≠1)∧(w="way"→ws.length≠2)∧(w="carry"→ws.length≠4)∧(w="add"→60<ws.length)∧(w="far"→ws.length≠2))
def JR (C nr nw nt:Addr) (H:Hp) (p r:Addr) (n:Nat) (l:List Int) (os:List (List Int)) (ps:List Rf) (w:Str) (ws:List Str) (Q:VK) (E:XK):Prop:=
 (w="riffle"∧∃a rs,ws=a :: rs∧mk? a=true∧(∀x∈rs,num? x=true)∧M.Wd (mkOf a).length n (rs.map numOf)∧ps.length<90∧∀H',Keep [p,r] H H'→Pk C H' p r n (M.lay l (M.drawn (mkOf a) (rs.map numOf)) :: l :: os) ((mkOf a,rs.map numOf) :: ps)→Q (.str (M.QV (M.lay l (M.drawn (mkOf a) (rs.map numOf))))) H') ∨
 (w="riffle"∧∃a rs,ws=a :: rs∧mk? a=true∧(∀x∈rs,num? x=true)∧jz (mkOf a).length n (iL (rs.map numOf))∧∀H',Same H H'→E (.ref nr) none H') ∨
 (w="way"∧∃a b,ws=[a,b]∧mk? a=true∧num? b=true∧((M.wy (mkOf a) (M.jA n l) 0:Nat):Int)≤numOf b∧∀H',Same H H'→E (.ref nw) none H') ∨
 (w="far"∧∃a b,ws=[a,b]∧num? a=true∧num? b=true∧n≤20∧numOf a=1∧numOf b=0∧∀t u H',0≤t→0≤u→Same H H'→Q (.str (fD t u)) H') ∨
 (aco n w ws∧∀H',Same H H'→E (.ref nt) none H')
def Ui (K:PySem.W.Frag) (C nr nw nt:Addr):Sp:=vR λa b d H Q E=>∃(p r q:Addr) (n:Nat) (l:List Int) (os:List (List Int)) (ps:List Rf) (w:Str) (ws:List Str),Pk C H p r n (l :: os) ps∧ZJ K H q (ws.map V.str)∧a= .ref p∧b= .str w∧d= .ref q∧(ws.length≤900∧cg ws∧ws≠[])∧JR C nr nw nt H p r n l os ps w ws Q E
theorem tU {z:Str} (h:mk? z=true):1≤(mkOf z).length∧(mkOf z).length≤400:=by
 unfold mk? M.Ik at h
 simp only[Bool.and_eq_true,decide_eq_true_eq]at h
 unfold mkOf M.mk
 rw[List.length_map]
 exact⟨h.1.1,h.1.2⟩
theorem jY (l:List Int):(iL l).all Xx=true:=by rw[List.all_map];simp[Xx]
theorem Cd {z:Str} (h:num? z=true):0≤numOf z:=by unfold numOf;omega
theorem at0 {x:V} {xs:List V}:MP (x :: xs) 0=some x:=qd (by decide) rfl
theorem at1 {x y:V} {xs:List V}:MP (x :: y :: xs) 1=some y:=qd (by decide) rfl
theorem jX (x:V) (xs:List V):K7 (x :: xs) (some 1) none=xs:=by
 unfold K7
 have e:HT.Jq (x :: xs).length 0 (some 1)=1:=by
  unfold HT.Jq
  simp
 have e2:HT.Jq (x :: xs).length (x :: xs).length none=xs.length+1:=by
  unfold HT.Jq
  simp
 rw[e,e2]
 simp
theorem Oj (T:Txt K mg) {C:Addr} (U:Qe K mg C) {r np nm nr nw tm nf nt:Addr} (e:Td K mg r np nm nr nw tm nf nt) (kb:K.In base) (L:Lo3 P w K mg base C nr nw nt):Im P w K mg base 22 "answer_to_words" ["pack","asked","words"] (Ui K C nr nw nt):=by
 refine T.SM.Nv (k:=21) Np Ed (λf cdv A outer s H vs Q E hr h=>?_)
 obtain⟨a0,a1,a2,rfl,h⟩:=h
 refine⟨_,Z7 (Zn (Zu YJ (pv 1) ZK (Zv _))
  (Z6 (ZR (Z4 L.Zm hr (Z_ (X6 (pv 0) U.cl L.Fx hr Zb.Gw (Z_ (Zc L.Q6 hr Zb.Gw (Z_ (Zq (ZQ (K:=K)) (pv 2) Z5 (λ_ _=>rfl)) Z8)) (Z_ (Zc L.VD hr Zb.Gw (Z_ (MJ (O8 (K:=K)) (pv 2) (Ro Z5) u9) Z8)) Z8))) Z8))))
  (Zz))
  (Z7 (Zn (PW.pt (La (Zu YJ (pv 1) ZK (Zv _)) (O9 (Zu YJ (ZV (Y4 (K:=K)) rfl T.Za PySem.boot_len (Z_ (pv 2) Z8)) Z5 (Zv _)))))
  (Z6 (ZR (Zd Ze rfl T.Sx PyProof.Rows.boot_str (Z_ (Z4 L.vK hr (Z_ (Yw (pv 0) U.cl L.Zr hr) (Z_ (Zc L.Q6 hr Zb.Gw (Z_ (Zq (ZQ (K:=K)) (pv 2) Z5 (λ_ _=>rfl)) Z8)) Z8))) Z8))))
  (Zz))
  (Z7 (Zn (PW.pt (La (Zu YJ (pv 1) ZK (Zv _)) (O9 (Zu YJ (ZV (Y4 (K:=K)) rfl T.Za PySem.boot_len (Z_ (pv 2) Z8)) Z5 (Zv _)))))
  (Z6 (ZR (Z4 L.Zm hr (Z_ (Zc L.jZ hr Zb.Gw (Z_ (Yw (pv 0) U.cl L.Zr hr) (Z_ (Zc L.Q6 hr Zb.Gw (Z_ (Zq (ZQ (K:=K)) (pv 2) Z5 (λ_ _=>rfl)) Z8)) (Z_ (Zc L.Xz hr Zb.Gw (Z_ (Zq (ZQ (K:=K)) (pv 2) Z5 (λ_ _=>rfl)) Z8)) Z8)))) Z8))))
  (Zz))
  (Z7 (Zn (PW.pt (La (Zu YJ (pv 1) ZK (Zv _)) (O9 (Zu YJ (ZV (Y4 (K:=K)) rfl T.Za PySem.boot_len (Z_ (pv 2) Z8)) Z5 (Zv _)))))
  (Z6 (ZR (Zc L.Li hr Zb.Gw (Z_ (Zc L.VD hr Zb.Gw (Z_ (pv 2) Z8)) Z8))))
  (Zz))
  (Z7 (Zn (PW.pt (La (Zu YJ (pv 1) ZK (Zv _)) (O9 (Zu Vx (ZV (Y4 (K:=K)) rfl T.Za PySem.boot_len (Z_ (pv 2) Z8)) (Yx (v:=.int 60) rfl T.Mh.choose_spec ⟨_,rfl⟩) (Zv _)))))
  (Z6 (ZR (Zc L.Jt hr Zb.Gw (Z_ (pv 2) Z8))))
  (Zz))
  (Z7 (Zn (PW.pt (La (Zu YJ (pv 1) ZK (Zv _)) (O9 (Zu YJ (ZV (Y4 (K:=K)) rfl T.Za PySem.boot_len (Z_ (pv 2) Z8)) Z5 (Zv _)))))
  (Z6 (ZR (Zc L.Js hr Zb.Gw (Z_ (ZV (Y4 (K:=K)) rfl T.Za PySem.boot_len (Z_ (Yw (pv 0) U.cl L.Zr hr) Z8)) (Z_ (Zc L.Xz hr Zb.Gw (Z_ (Zq (ZQ (K:=K)) (pv 2) Z5 (λ_ _=>rfl)) Z8)) (Z_ (Zc L.Xz hr Zb.Gw (Z_ (Zq (ZQ (K:=K)) (pv 2) Z5 (λ_ _=>rfl)) Z8)) Z8))))))
  (Zz))
  (Z6 (W8 (Uv (mro:=Qy) (nid:="ValueError.__new__") kb e.m7 e.x7) PySem.F.excBase_ValueError rfl rfl TJ (Z_ ZK Z8)))))))),?_⟩
 obtain⟨p,r',wq,n,l,os,ps,w,ws,S,hW,rfl,rfl,rfl,⟨lw,wd,wne⟩,h⟩:=h
 obtain⟨dx,c,l',os',e1,o,hp,hc,nc⟩:=S.top
 cases e1
 have nb:=S.nb
 obtain⟨os1,os2⟩:=T4 o nb.2
 walk_at "rd"
 rcases h with⟨ew,a,rs,rfl,hm,hn,W,lz,q⟩ | ⟨ew,a,rs,rfl,hm,hn,bad,q⟩ | ⟨ew,a,b,rfl,hm,hn,big,q⟩ | ⟨ew,a,b,rfl,ha,hb,n20,x1,y0,q⟩ | ⟨no,q⟩
 ·refine Y9 ew ?_
  walk_at "rd"
  refine⟨p,dx,Yz c r',rfl,hp,rfl,?_⟩
  walk_at "rd"
  refine⟨wq,_,_,_,rfl,rfl,hW,at0,?_⟩
  walk_at "rd"
  obtain⟨aA,aL⟩:=wd a List.mem_cons_self
  have mb:=tU hm
  refine⟨aA,aL,λ_=>?_,λz=>absurd (z.symm.trans hm) (by decide)⟩
  intro m1 H1 s1 hm1 em1
  walk_at "rd"
  refine⟨wq,_,rfl,s1.seq hW,?_⟩
  intro sl hsl
  generalize e2:upd H1 sl _=H2
  obtain⟨s2,es⟩:=ZG hsl e2
  clear e2
  rw[List.map_cons,jX]at es
  have lr:rs.length≤900:=by have:(a :: rs).length=rs.length+1:=rfl;omega
  have wr:cg rs:=λx hx=>wd x (List.mem_cons_of_mem _ hx)
  walk_at "rd"
  refine⟨sl,rs,ZJ.of es,rfl,lr,wr,λ_=>?_,λz=>?_⟩
  rotate_left
  ·obtain⟨x,hx,hz⟩:=z
   exact absurd ((hn x hx).symm.trans hz) (by decide)
  intro v1 H3 s3 hv1 ev1
  have Nh:=s1.trans (s2.trans s3)
  have S3:=S.same Nh
  have em3:=(s2.trans s3) _ _ em1
  walk_at "rd"
  obtain⟨vs3,hr3,_⟩:=S3.rf
  have ne:∀x,H3 x=none→x∉[p,r']:=λx hx z=>by
   rcases List.mem_cons.mp z with z |z
   ·rw[z]at hx;exact S3.Cp.1 hx
   ·have z:x=r':=by simpa using z
    rw[z]at hx;exact S3.Cp.2 hx
  have hrl:vs3.reverse.length≤100:=by
   obtain⟨vs4,hr4,pr4⟩:=S3.rf
   have:=Cq hr3 hr4
   rw[this,List.length_reverse,Paired.length pr4]
   omega
  have nrm:r'≠m1:=λz=>by
   obtain⟨vs4,hr4,_⟩:=S.rf
   rw[←z,hr4]at hm1;cases hm1
  have nrv:r'≠v1:=λz=>by
   obtain⟨vs4,hr4,_⟩:=(S.same (s1.trans s2)).rf
   rw[←z,hr4]at hv1;cases hv1
  refine .inl ⟨_,_,_,rfl,p,dx,c,r',m1,v1,vs3.reverse,l,mkOf a,rs.map numOf,n,Nh _ _ hp,hr3,Nh _ _ hc,em3,ev1,nrm,nrv,rfl,rfl,rfl,o.len,W,mb.1,mb.2,nb.2,hrl,?_⟩
  intro c' t m' v' H4 hc' ht hm' hv' k4 ep ec er et em ev
  intro O H5 s5 hO eO
  have PC:=Pk.push (m:=(mkOf a,rs.map numOf)) S3 k4 hr3 ep ⟨c',rfl,ne _ hc',ec⟩ er ⟨t,m',v',rfl,ne _ ht,et,ne _ hm',em,ne _ hv',ev⟩ ⟨W,mb.1⟩ mb.2 lz
  obtain⟨o1,o2⟩:=T4 (Ot PC.hi) nb.2
  refine⟨_,rfl,O,_,ZJ.of eO,rfl,o1,o2,λH6 s6=>?_⟩
  exact q H6 ((Nh.keep (M:=[p,r'])).trans (k4.trans ((s5.trans s6).keep (M:=[p,r'])))) (PC.same (s5.trans s6))
 ·refine Y9 ew ?_
  walk_at "rd"
  refine⟨p,dx,Yz c r',rfl,hp,rfl,?_⟩
  walk_at "rd"
  refine⟨wq,_,_,_,rfl,rfl,hW,at0,?_⟩
  walk_at "rd"
  obtain⟨aA,aL⟩:=wd a List.mem_cons_self
  have mb:=tU hm
  refine⟨aA,aL,λ_=>?_,λz=>absurd (z.symm.trans hm) (by decide)⟩
  intro m1 H1 s1 hm1 em1
  walk_at "rd"
  refine⟨wq,_,rfl,s1.seq hW,?_⟩
  intro sl hsl
  generalize e2:upd H1 sl _=H2
  obtain⟨s2,es⟩:=ZG hsl e2
  clear e2
  rw[List.map_cons,jX]at es
  have lr:rs.length≤900:=by have:(a :: rs).length=rs.length+1:=rfl;omega
  have wr:cg rs:=λx hx=>wd x (List.mem_cons_of_mem _ hx)
  walk_at "rd"
  refine⟨sl,rs,ZJ.of es,rfl,lr,wr,λ_=>?_,λz=>?_⟩
  rotate_left
  ·obtain⟨x,hx,hz⟩:=z
   exact absurd ((hn x hx).symm.trans hz) (by decide)
  intro v1 H3 s3 hv1 ev1
  have Nh:=s1.trans (s2.trans s3)
  have S3:=S.same Nh
  have em3:=(s2.trans s3) _ _ em1
  walk_at "rd"
  exact .inr ⟨_,_,_,rfl,p,dx,c,r',m1,v1,mkOf a,iL (rs.map numOf),l,Nh _ _ hp,Nh _ _ hc,em3,ev1,rfl,rfl,rfl,mb,⟨jY _,by rw[List.length_map,List.length_map];exact lr⟩,by rw[o.len];exact bad,λH4 s4=>q _ (Nh.trans s4)⟩
 ·refine ZP (Xb ew (by decide +kernel)) ?_
  walk_at "rd"
  refine ZP (Xb ew (by decide +kernel)) ?_
  walk_at "rd"
  refine Y9 ew ?_
  walk_at "rd"
  refine⟨p,dx,Yz c r',rfl,hp,rfl,?_⟩
  refine⟨_,rfl,p,dx,c,r',l,hp,ZJ.of hc,rfl,by rw[o.len];omega,?_⟩
  intro O H1 s1 hO eO
  walk_at "rd"
  refine⟨wq,_,_,_,rfl,rfl,s1.seq hW,at0,?_⟩
  walk_at "rd"
  obtain⟨aA,aL⟩:=wd a List.mem_cons_self
  obtain⟨bA,bL'⟩:=wd b (List.mem_cons_of_mem _ List.mem_cons_self)
  have mb:=tU hm
  refine⟨aA,aL,λ_=>?_,λz=>absurd (z.symm.trans hm) (by decide)⟩
  intro m1 H2 s2 hm1 em1
  have s12:=s1.trans s2
  walk_at "rd"
  refine⟨wq,_,_,_,rfl,rfl,s12.seq hW,at1,?_⟩
  walk_at "rd"
  intro H3 s3
  rw[if_pos hn]
  walk_at "rd"
  refine⟨O,m1,l,mkOf a,n,numOf b,ZJ.of ((s2.trans s3) _ _ eO),ZJ.of (s3 _ _ em1),rfl,rfl,rfl,o,⟨nb.1,by omega,by omega⟩,.inr big,λH4 s4=>q _ (s12.trans (s3.trans s4))⟩
 ·refine ZP (Xb ew (by decide +kernel)) ?_
  walk_at "rd"
  refine ZP (Xb ew (by decide +kernel)) ?_
  walk_at "rd"
  refine ZP (Xb ew (by decide +kernel)) ?_
  walk_at "rd"
  refine ZP (Xb ew (by decide +kernel)) ?_
  walk_at "rd"
  refine ZP (Xb ew (by decide +kernel)) ?_
  walk_at "rd"
  refine Y9 ew ?_
  walk_at "rd"
  refine⟨p,dx,Yz c r',rfl,hp,rfl,?_⟩
  refine⟨_,rfl,p,dx,c,r',l,hp,ZJ.of hc,rfl,by rw[o.len];omega,?_⟩
  intro O H1 s1 hO eO
  walk_at "rd"
  refine⟨O,_,rfl,.inl (ZJ.of eO),?_⟩
  rw[List.length_map,o.len]
  walk_at "rd"
  refine⟨wq,_,_,_,rfl,rfl,s1.seq hW,at0,?_⟩
  walk_at "rd"
  obtain⟨aA,aL⟩:=wd a List.mem_cons_self
  obtain⟨bA,bL'⟩:=wd b (List.mem_cons_of_mem _ List.mem_cons_self)
  refine⟨aA,aL,λH2 s2=>?_⟩
  rw[if_pos ha]
  walk_at "rd"
  refine⟨wq,_,_,_,rfl,rfl,(s1.trans s2).seq hW,at1,?_⟩
  walk_at "rd"
  intro H3 s3
  rw[if_pos hb]
  walk_at "rd"
  exact⟨n,numOf a,numOf b,rfl,rfl,rfl,⟨nb.1,Cd ha,Cd hb⟩,.inr ⟨n20,x1,y0,λt u H4 h1 h2 s4=>q t u H4 h1 h2 (s1.trans (s2.trans (s3.trans s4)))⟩⟩
 rcases no with⟨ew,a,rs,rfl,bad⟩ | ⟨ew,a,b,rfl,bad⟩ | ⟨ew,a,b,c4,d4,rfl,bad⟩ | ⟨ew,l60,bad⟩ | ⟨ew,a,b,rfl,ha,hb,bad⟩ | ⟨n1,n2,n3,n4,n5,n6⟩
 ·rcases bad with hm | ⟨hm,bad⟩
  ·refine Y9 ew ?_
   walk_at "rd"
   refine⟨p,dx,Yz c r',rfl,hp,rfl,?_⟩
   walk_at "rd"
   refine⟨wq,_,_,_,rfl,rfl,hW,at0,?_⟩
   walk_at "rd"
   obtain⟨aA,aL⟩:=wd a List.mem_cons_self
   exact⟨aA,aL,λz=>absurd (hm.symm.trans z) (by decide),λ_=>q⟩
  ·refine Y9 ew ?_
   walk_at "rd"
   refine⟨p,dx,Yz c r',rfl,hp,rfl,?_⟩
   walk_at "rd"
   refine⟨wq,_,_,_,rfl,rfl,hW,at0,?_⟩
   walk_at "rd"
   obtain⟨aA,aL⟩:=wd a List.mem_cons_self
   have mb:=tU hm
   refine⟨aA,aL,λ_=>?_,λz=>absurd (z.symm.trans hm) (by decide)⟩
   intro m1 H1 s1 hm1 em1
   walk_at "rd"
   refine⟨wq,_,rfl,s1.seq hW,?_⟩
   intro sl hsl
   generalize e2:upd H1 sl _=H2
   obtain⟨s2,es⟩:=ZG hsl e2
   clear e2
   rw[List.map_cons,jX]at es
   have lr:rs.length≤900:=by have:(a :: rs).length=rs.length+1:=rfl;omega
   have wr:cg rs:=λx hx=>wd x (List.mem_cons_of_mem _ hx)
   walk_at "rd"
   refine⟨sl,rs,ZJ.of es,rfl,lr,wr,λal=>?_,λ_ H3 s3=>q _ (s1.trans (s2.trans s3))⟩
   obtain⟨x,hx,hz⟩:=bad
   exact absurd ((al x hx).symm.trans hz) (by decide)
 ·refine ZP (Xb ew (by decide +kernel)) ?_
  walk_at "rd"
  refine ZP (Xb ew (by decide +kernel)) ?_
  walk_at "rd"
  refine Y9 ew ?_
  walk_at "rd"
  refine⟨p,dx,Yz c r',rfl,hp,rfl,?_⟩
  refine⟨_,rfl,p,dx,c,r',l,hp,ZJ.of hc,rfl,by rw[o.len];omega,?_⟩
  intro O H1 s1 hO eO
  walk_at "rd"
  refine⟨wq,_,_,_,rfl,rfl,s1.seq hW,at0,?_⟩
  walk_at "rd"
  obtain⟨aA,aL⟩:=wd a List.mem_cons_self
  obtain⟨bA,bL'⟩:=wd b (List.mem_cons_of_mem _ List.mem_cons_self)
  rcases bad with hm | ⟨hm,hn⟩
  ·exact⟨aA,aL,λz=>absurd (hm.symm.trans z) (by decide),λ_ H2 s2=>q _ (s1.trans s2)⟩
  ·refine⟨aA,aL,λ_=>?_,λz=>absurd (z.symm.trans hm) (by decide)⟩
   intro m1 H2 s2 hm1 em1
   have s12:=s1.trans s2
   walk_at "rd"
   refine⟨wq,_,_,_,rfl,rfl,s12.seq hW,at1,?_⟩
   walk_at "rd"
   intro H3 s3
   rw[if_neg (λz=>absurd (hn.symm.trans z) (by decide))]
   exact q _ (s12.trans s3)
 ·refine ZP (Xb ew (by decide +kernel)) ?_
  walk_at "rd"
  refine ZP (Xb ew (by decide +kernel)) ?_
  walk_at "rd"
  refine ZP (Xb ew (by decide +kernel)) ?_
  walk_at "rd"
  refine Y9 ew ?_
  walk_at "rd"
  refine⟨wq,[a,b,c4,d4],hW,rfl,by show 4≤900;decide,wd,λal=>?_,λ_ H1 s1=>q _ s1⟩
  intro v1 H1 s1 hv1 ev1
  walk_at "rd"
  rcases bad with⟨x,hx,hz⟩ | ⟨_,bad⟩
  ·exact absurd ((al x hx).symm.trans hz) (by decide)
  ·exact⟨v1,numOf a,numOf b,numOf c4,numOf d4,ZJ.of ev1,rfl,bad,λH2 s2=>q _ (s1.trans s2)⟩
 ·refine ZP (Xb ew (by decide +kernel)) ?_
  walk_at "rd"
  refine ZP (Xb ew (by decide +kernel)) ?_
  walk_at "rd"
  refine ZP (Xb ew (by decide +kernel)) ?_
  walk_at "rd"
  refine ZP (Xb ew (by decide +kernel)) ?_
  walk_at "rd"
  refine Y9 ew ?_
  walk_at "rd"
  rw[List.length_map,decide_eq_true (show((ws.length:Nat):Int)≤60 by omega)]
  walk_at "rd"
  exact⟨wq,ws,hW,rfl,lw,wd,bad,q⟩
 ·refine ZP (Xb ew (by decide +kernel)) ?_
  walk_at "rd"
  refine ZP (Xb ew (by decide +kernel)) ?_
  walk_at "rd"
  refine ZP (Xb ew (by decide +kernel)) ?_
  walk_at "rd"
  refine ZP (Xb ew (by decide +kernel)) ?_
  walk_at "rd"
  refine ZP (Xb ew (by decide +kernel)) ?_
  walk_at "rd"
  refine Y9 ew ?_
  walk_at "rd"
  refine⟨p,dx,Yz c r',rfl,hp,rfl,?_⟩
  refine⟨_,rfl,p,dx,c,r',l,hp,ZJ.of hc,rfl,by rw[o.len];omega,?_⟩
  intro O H1 s1 hO eO
  walk_at "rd"
  refine⟨O,_,rfl,.inl (ZJ.of eO),?_⟩
  rw[List.length_map,o.len]
  walk_at "rd"
  refine⟨wq,_,_,_,rfl,rfl,s1.seq hW,at0,?_⟩
  walk_at "rd"
  obtain⟨aA,aL⟩:=wd a List.mem_cons_self
  obtain⟨bA,bL'⟩:=wd b (List.mem_cons_of_mem _ List.mem_cons_self)
  refine⟨aA,aL,λH2 s2=>?_⟩
  rw[if_pos ha]
  walk_at "rd"
  refine⟨wq,_,_,_,rfl,rfl,(s1.trans s2).seq hW,at1,?_⟩
  walk_at "rd"
  intro H3 s3
  rw[if_pos hb]
  walk_at "rd"
  exact⟨n,numOf a,numOf b,rfl,rfl,rfl,⟨nb.1,Cd ha,Cd hb⟩,.inl ⟨bad,λH4 s4=>q _ (s1.trans (s2.trans (s3.trans s4)))⟩⟩
 ·have ll:(ws.map V.str).length=ws.length:=List.length_map _
  refine ZP n1 ?_
  walk_at "rd"
  have c2:w="ways"→¬V.int ((ws.length:Nat):Int)=V.int 1:=λz z2=>n2 z (by have:=V.int.inj z2;omega)
  have c3:w="way"→¬V.int ((ws.length:Nat):Int)=V.int 2:=λz z2=>n3 z (by have:=V.int.inj z2;omega)
  have c4:w="carry"→¬V.int ((ws.length:Nat):Int)=V.int 4:=λz z2=>n4 z (by have:=V.int.inj z2;omega)
  have c5:w="add"→¬((ws.length:Nat):Int)≤60:=λz z2=>by have:=n5 z;omega
  have c6:w="far"→¬V.int ((ws.length:Nat):Int)=V.int 2:=λz z2=>n6 z (by have:=V.int.inj z2;omega)
  by_cases w2:w="ways"
  ·have ew:=w2
   refine Y9 ew ?_
   walk_at "rd"
   rw[ll,decide_eq_false (c2 ew)]
   walk_at "rd"
   refine ZP (Xb ew (by decide +kernel)) ?_
   walk_at "rd"
   refine ZP (Xb ew (by decide +kernel)) ?_
   walk_at "rd"
   refine ZP (Xb ew (by decide +kernel)) ?_
   walk_at "rd"
   refine ZP (Xb ew (by decide +kernel)) ?_
   walk_at "rd"
   exact q _ (Same.refl _)
  by_cases w3:w="way"
  ·have ew:=w3
   refine ZP (Xb ew (by decide +kernel)) ?_
   walk_at "rd"
   refine Y9 ew ?_
   walk_at "rd"
   rw[ll,decide_eq_false (c3 ew)]
   walk_at "rd"
   refine ZP (Xb ew (by decide +kernel)) ?_
   walk_at "rd"
   refine ZP (Xb ew (by decide +kernel)) ?_
   walk_at "rd"
   refine ZP (Xb ew (by decide +kernel)) ?_
   walk_at "rd"
   exact q _ (Same.refl _)
  by_cases w4:w="carry"
  ·have ew:=w4
   refine ZP (Xb ew (by decide +kernel)) ?_
   walk_at "rd"
   refine ZP (Xb ew (by decide +kernel)) ?_
   walk_at "rd"
   refine Y9 ew ?_
   walk_at "rd"
   rw[ll,decide_eq_false (c4 ew)]
   walk_at "rd"
   refine ZP (Xb ew (by decide +kernel)) ?_
   walk_at "rd"
   refine ZP (Xb ew (by decide +kernel)) ?_
   walk_at "rd"
   exact q _ (Same.refl _)
  by_cases w5:w="add"
  ·have ew:=w5
   refine ZP (Xb ew (by decide +kernel)) ?_
   walk_at "rd"
   refine ZP (Xb ew (by decide +kernel)) ?_
   walk_at "rd"
   refine ZP (Xb ew (by decide +kernel)) ?_
   walk_at "rd"
   refine Y9 ew ?_
   walk_at "rd"
   rw[ll,decide_eq_false (c5 ew)]
   walk_at "rd"
   refine ZP (Xb ew (by decide +kernel)) ?_
   walk_at "rd"
   exact q _ (Same.refl _)
  by_cases w6:w="far"
  ·have ew:=w6
   refine ZP (Xb ew (by decide +kernel)) ?_
   walk_at "rd"
   refine ZP (Xb ew (by decide +kernel)) ?_
   walk_at "rd"
   refine ZP (Xb ew (by decide +kernel)) ?_
   walk_at "rd"
   refine ZP (Xb ew (by decide +kernel)) ?_
   walk_at "rd"
   refine Y9 ew ?_
   walk_at "rd"
   rw[ll,decide_eq_false (c6 ew)]
   walk_at "rd"
   exact q _ (Same.refl _)
  refine ZP w2 ?_
  walk_at "rd"
  refine ZP w3 ?_
  walk_at "rd"
  refine ZP w4 ?_
  walk_at "rd"
  refine ZP w5 ?_
  walk_at "rd"
  refine ZP w6 ?_
  walk_at "rd"
  exact q _ (Same.refl _)
end
section
variable {P:Program} {w:World} {K:PySem.W.Frag} {mg:Str→Option Value} {base:Heap} {k:Nat}
def Ru (p:Addr):List (Str×V):=[("pack",.ref p)]
structure Dk (CD C:Addr) (H:Hp) (a p r:Addr) (n:Nat) (os:List (List Int)) (ps:List Rf):Prop where
 d:∃dx,H a=some (.ins CD dx (Ru p))
 pk:Pk C H p r n os ps
theorem Dk.same {CD C:Addr} {H H':Hp} {a p r:Addr} {n:Nat} {os:List (List Int)} {ps:List Rf} (S:Dk CD C H a p r n os ps) (s:Same H H'):Dk CD C H' a p r n os ps:=by
 obtain⟨⟨dx,h⟩,k⟩:=S
 exact⟨⟨dx,s _ _ h⟩,k.same s⟩
theorem Dk.nap {CD C:Addr} {H:Hp} {a p r:Addr} {n:Nat} {os:List (List Int)} {ps:List Rf} (S:Dk CD C H a p r n os ps):a∉[p,r]:=λz=>by
 obtain⟨⟨dx,h⟩,k⟩:=S
 rcases List.mem_cons.mp z with z |z
 ·obtain⟨bY,c,h1,_⟩:=k.pk
  rw[z,h1]at h
  have h':=Option.some.inj h
  injection h' with _ _ h3
  have:("cards":Str)="pack":=(Prod.mk.inj (List.cons.inj h3).1).1
  exact absurd this (by decide +kernel)
 ·have z:a=r:=by simpa using z
  obtain⟨vs,h1,_⟩:=k.rf
  rw[z,h1]at h
  cases h
theorem Dk.keep {CD C:Addr} {H H':Hp} {a p r:Addr} {n n':Nat} {os os':List (List Int)} {ps ps':List Rf} (S:Dk CD C H a p r n os ps) (k:Keep [p,r] H H') (S':Pk C H' p r n' os' ps'):Dk CD C H' a p r n' os' ps':=by
 obtain⟨dx,h⟩:=S.d
 exact⟨⟨dx,k _ _ S.nap h⟩,S'⟩
theorem tR {C:Addr} {H1 H2:Hp} {p dx c r:Addr} {n:Nat} (nb:1≤n∧n≤60) (hp:H1 p=some (.ins C dx [])) (hc:H1 c=none) (hr:H1 r=none) (ncr:c≠r) (ep:H2 p=some (.ins C dx (Yz c r))) (ec:H2 c=some (.lst (iL (M.iota n)))) (er:H2 r=some (.lst [])):Pk C H2 p r n [M.iota n] []:=by
 have n1:p≠r:=λe=>by rw[e,hr]at hp;cases hp
 have n2:c≠p:=λe=>by rw[←e,hc]at hp;cases hp
 exact⟨n1,⟨dx,c,ep,c,rfl,by simp[n2,ncr],ec⟩,⟨[],er,.nil⟩,rfl,nb,by simp,by simp⟩
theorem yJ.same {C nr tm nt:Addr} {H H1:Hp} {p r:Addr} {n:Nat} {l:List Int} {os:List (List Int)} {ps:List Rf} {w:Str} {Q:VK} {E:XK} (h:yJ C nr tm nt H p r n l os ps w Q E) (s:Same H H1):yJ C nr tm nt H1 p r n l os ps w Q E:=by
 rcases h with⟨a,q⟩ | ⟨a,b,q⟩ | ⟨a,m,ps',l2,os2,b,c,q⟩ | ⟨a,b,q⟩ | ⟨a,q⟩
 ·exact .inl ⟨a,λt H' ht s'=>q t H' ht (s.trans s')⟩
 ·exact .inr (.inl ⟨a,b,λH' s'=>q H' (s.trans s')⟩)
 ·exact .inr (.inr (.inl ⟨a,m,ps',l2,os2,b,c,λH' k' P'=>q H' ((s.keep (M:=[p,r])).trans k') P'⟩))
 ·exact .inr (.inr (.inr (.inl ⟨a,b,λH' s'=>q H' (s.trans s')⟩)))
 ·exact .inr (.inr (.inr (.inr ⟨a,λH' s'=>q H' (s.trans s')⟩)))
theorem JR.same {C nr nw nt:Addr} {H H1:Hp} {p r:Addr} {n:Nat} {l:List Int} {os:List (List Int)} {ps:List Rf} {w:Str} {ws:List Str} {Q:VK} {E:XK} (h:JR C nr nw nt H p r n l os ps w ws Q E) (s:Same H H1):JR C nr nw nt H1 p r n l os ps w ws Q E:=by
 rcases h with⟨a,b,c,d,e,f,g,h,q⟩ | ⟨a,b,c,d,e,f,g,q⟩ | ⟨a,b,c,d,e,f,g,q⟩ | ⟨a,b,c,d,e,f,g,h,i,q⟩ | ⟨a,q⟩
 ·exact .inl ⟨a,b,c,d,e,f,g,h,λH' k' P'=>q H' ((s.keep (M:=[p,r])).trans k') P'⟩
 ·exact .inr (.inl ⟨a,b,c,d,e,f,g,λH' s'=>q H' (s.trans s')⟩)
 ·exact .inr (.inr (.inl ⟨a,b,c,d,e,f,g,λH' s'=>q H' (s.trans s')⟩))
 ·exact .inr (.inr (.inr (.inl ⟨a,b,c,d,e,f,g,h,i,λt u H' h1 h2 s'=>q t u H' h1 h2 (s.trans s')⟩)))
 ·exact .inr (.inr (.inr (.inr ⟨a,λH' s'=>q H' (s.trans s')⟩)))
structure Lo4 (P:Program) (w:World) (K:PySem.W.Frag) (mg:Str→Option Value) (base:Heap) (C np nr nw tm nt:Addr):Prop where
 Kq:TF P w K mg base 23 "answer_to_word" ["pack","asked"] (Tf K C nr tm nt)
 Lh:TF P w K mg base 23 "answer_to_words" ["pack","asked","words"] (Ui K C nr nw nt)
 Wi:Ir P w K mg base 22 "Pack" C ["self","n"] (cQ (Vb K C) (VH K np))
 Xz:TF P w K mg base 23 "read_number" ["word"] (Wj K nt)
 Zm:Has P w K mg base 23 "show_numbers" ["row"] (Yq K)
 Zr:K1 P w K mg base 23 C "order" ["self"] (Yo K C)
def bW (CD C np nr nw tm nt:Addr) (H:Hp) (a p r:Addr) (n:Nat) (l:List Int) (os:List (List Int)) (ps:List Rf) (ws:List Str) (Q:VK) (E:XK):Prop:=
 (∃w,ws=[w]∧yJ C nr tm nt H p r n l os ps w Q E) ∨
 (∃b,ws=[Str.ofString "pack",b]∧num? b=true∧(1≤numOf b∧numOf b≤60)∧∀p' r' m H',((m:Nat):Int)=numOf b→H p'=none→H r'=none→Keep [a] H H'→Dk CD C H' a p' r' m [M.iota m] []→Q (.str (M.QV (M.iota m))) H') ∨
 (∃b,ws=[Str.ofString "pack",b]∧num? b=true∧(numOf b<1∨60<numOf b)∧∀H',Same H H'→E (.ref np) none H') ∨
 (∃b,ws=[Str.ofString "pack",b]∧num? b=false∧∀H',Same H H'→E (.ref nt) none H') ∨
 (∃w v rs,ws=w :: v :: rs∧(w="pack"→rs≠[])∧JR C nr nw nt H p r n l os ps w (v :: rs) Q E)
def Xm (K:PySem.W.Frag) (CD C np nr nw tm nt:Addr):Sp:=fX λx b H Q E=>∃(a p r:Addr) (n:Nat) (l:List Int) (os:List (List Int)) (ps:List Rf) (z:Str) (ws:List Str),Dk CD C H a p r n (l :: os) ps∧x= .ref a∧b= .str z∧PySem.Txt.split z (Str.ofString " ")=ws∧z.length≤5000∧(ws.length≤900∧cg ws)∧bW CD C np nr nw tm nt H a p r n l os ps ws Q E
theorem Ca (T:Txt K mg) {C:Addr} (U:Qe K mg C) {CD:Addr} (UD:JD K mg CD) {r np nm nr nw tm nf nt:Addr} (e:Td K mg r np nm nr nw tm nf nt) (kb:K.In base) (L:Lo4 P w K mg base C np nr nw tm nt):Tw P w K mg base 24 CD "say" ["self","row"] (Xm K CD C np nr nw tm nt):=by
 refine UD.Hs.Nv (k:=23) J2 lE (λf cdv A outer s H vs Q E hr h=>?_)
 obtain⟨a0,a1,rfl,h⟩:=h
 refine⟨_,Z7 (ZW (i:=2) J2.nd rfl (Or.inl rfl) (Qq (K:=K) PySem.F.plainAttrs_str PySem.F.slot_str_split PySem.F.type_str_split nP (pv 1) (Z_ ZK Z8)))
  (Z7 (Zn (Zu YJ (ZV (Y4 (K:=K)) rfl T.Za PySem.boot_len (Z_ (pv 2) Z8)) Z5 (Zv _))
  (Z6 (ZR (Zc L.Kq hr Zb.Gw (Z_ (Vw (K:=K) (pv 0) rfl) (Z_ (Zq (ZQ (K:=K)) (pv 2) Z5 (λ_ _=>rfl)) Z8)))))
  (Zz))
  (Z7 (Zn (PW.pt (La (Zu YJ (Zq (ZQ (K:=K)) (pv 2) Z5 (λ_ _=>rfl)) ZK (Zv _)) (O9 (Zu YJ (ZV (Y4 (K:=K)) rfl T.Za PySem.boot_len (Z_ (pv 2) Z8)) Z5 (Zv _)))))
  (Z7 (U6 (K:=K) (pv 0) (Fe L.Wi hr Zb.Gw (Z_ (Zc L.Xz hr Zb.Gw (Z_ (Zq (ZQ (K:=K)) (pv 2) Z5 (λ_ _=>rfl)) Z8)) Z8)) rfl)
   (Z6 (ZR (Z4 L.Zm hr (Z_ (Yw (Vw (K:=K) (pv 0) rfl) U.cl L.Zr hr) Z8)))))
  (Zz))
  (Z6 (ZR (Zc L.Lh hr Zb.Gw (Z_ (Vw (K:=K) (pv 0) rfl) (Z_ (Zq (ZQ (K:=K)) (pv 2) Z5 (λ_ _=>rfl)) (Z_ (MJ (O8 (K:=K)) (pv 2) (Ro Z5) u9) Z8)))))))),?_⟩
 obtain⟨a,p,r',n,l,os,ps,z,ws,S,rfl,rfl,ez,lz,⟨lw,wd⟩,h⟩:=h
 obtain⟨dx,ha⟩:=S.d
 walk_at "rd"
 refine⟨by rw[sizeLine_eq];omega,?_⟩
 rw[ez]
 intro q1 hq1
 generalize e1:upd H q1 _=H1
 obtain⟨s1,eq1⟩:=ZG hq1 e1
 clear e1
 have ll:(ws.map V.str).length=ws.length:=List.length_map _
 have S1:=S.same s1
 have ha1:=s1 _ _ ha
 have hW:ZJ K H1 q1 (ws.map V.str):=ZJ.of eq1
 walk_at "rd"
 rcases h with⟨w,rfl,h⟩ | ⟨b,rfl,hb,nbd,q⟩ | ⟨b,rfl,hb,bad,q⟩ | ⟨b,rfl,hb,q⟩ | ⟨w,v,rs,rfl,np',h⟩
 ·walk_at "rd"
  refine⟨a,CD,dx,Ru p,.ref p,rfl,ha1,UD.cl,UD.Nq,rfl,?_⟩
  walk_at "rd"
  refine⟨q1,_,_,_,rfl,rfl,hW,at0,?_⟩
  walk_at "rd"
  exact⟨p,r',n,l,os,ps,w,S1.pk,rfl,rfl,h.same s1⟩
 ·walk_at "rd"
  refine⟨q1,_,_,_,rfl,rfl,hW,at0,?_⟩
  walk_at "rd"
  refine⟨q1,_,_,_,rfl,rfl,hW,at1,?_⟩
  obtain⟨bA,bL'⟩:=wd b (List.mem_cons_of_mem _ List.mem_cons_self)
  walk_at "rd"
  intro H2 s2
  rw[if_pos hb]
  walk_at "rd"
  intro p' dp hp' hdp jW
  obtain⟨m,hm⟩:∃m:Nat,(m:Int)=numOf b:=⟨(numOf b).toNat,by omega⟩
  generalize eM:upd (upd H2 dp (.own p')) p' (.ins C dp [])=HM
  have hMp:HM p'=some (.ins C dp []):=by rw[←eM];exact Z1
  have sM:Same H2 HM:=by
   rw[←eM]
   exact(Same.new hdp _).trans (Same.new (by rw[Zw (Ne.symm jW)];exact hp') _)
  have s0M:=s1.trans (s2.trans sM)
  have ju:=s0M _ _ ha
  refine .inl ⟨_,_,rfl,p',dp,m,hMp,rfl,by rw[hm],by omega,by omega,λc2 r2 H3 hc2 hr2 ncr k3 ep ec er=>⟨rfl,?_⟩⟩
  have nap:a≠p':=λz=>by rw[←z,(s1.trans s2) _ _ ha]at hp';cases hp'
  have nac:a≠c2:=λz=>by rw[←z,ju]at hc2;cases hc2
  have nar:a≠r2:=λz=>by rw[←z,ju]at hr2;cases hr2
  have ha3:=k3 _ _ (by simp[nap]) ju
  walk_at "rd"
  refine⟨a,CD,dx,Ru p,rfl,ha3,UD.cl,UD.Nq,by simp[Ru],?_⟩
  generalize e4:upd H3 a _=H4
  have ha4:H4 a=some (.ins CD dx (Ru p')):=by rw[←e4];exact Z1
  have o4:∀x u,x≠a→H3 x=some u→H4 x=some u:=λx u hx hu=>by rw[←e4,Zw hx];exact hu
  clear e4
  have ep4:=o4 _ _ (Ne.symm nap) ep
  have ec4:=o4 _ _ (Ne.symm nac) ec
  have er4:=o4 _ _ (Ne.symm nar) er
  have P4:=tR (n:=m) ⟨by omega,by omega⟩ hMp hc2 hr2 ncr ep4 ec4 er4
  walk_at "rd"
  refine⟨a,CD,dx,Ru p',.ref p',rfl,ha4,UD.cl,UD.Nq,rfl,?_⟩
  refine⟨p',dp,Yz c2 r2,rfl,ep4,rfl,?_⟩
  have om:M.Ord m (M.iota m):=Ot P4.hi
  refine⟨_,rfl,p',dp,c2,r2,_,ep4,ZJ.of ec4,rfl,by rw[om.len];omega,?_⟩
  intro O H5 s5 hO eO
  obtain⟨o1,o2⟩:=T4 om (by omega)
  refine⟨_,rfl,O,_,ZJ.of eO,rfl,o1,o2,λH6 s6=>?_⟩
  refine q p' r2 m H6 hm ((s1.trans s2).free hp') (s0M.free hr2) (λx u hx hu=>?_) (Dk.same ⟨⟨dx,ha4⟩,P4⟩ (s5.trans s6))
  have nx:x≠a:=by simpa using hx
  have hxM:=s0M _ _ hu
  have nxp:x≠p':=λz=>by rw[z]at hu;rw[(s1.trans s2).free hp']at hu;cases hu
  exact(s5.trans s6) _ _ (o4 _ _ nx (k3 _ _ (by simp[nxp]) hxM))
 ·walk_at "rd"
  refine⟨q1,_,_,_,rfl,rfl,hW,at0,?_⟩
  walk_at "rd"
  refine⟨q1,_,_,_,rfl,rfl,hW,at1,?_⟩
  obtain⟨bA,bL'⟩:=wd b (List.mem_cons_of_mem _ List.mem_cons_self)
  walk_at "rd"
  intro H2 s2
  rw[if_pos hb]
  walk_at "rd"
  intro p' dp hp' hdp jW
  have sM:Same H2 (upd (upd H2 dp (.own p')) p' (.ins C dp [])):=(Same.new hdp _).trans (Same.new (by rw[Zw (Ne.symm jW)];exact hp') _)
  exact .inr ⟨_,_,rfl,.flat rfl,.inr ⟨_,rfl,bad⟩,λH3 s3=>q _ (s1.trans (s2.trans (sM.trans s3)))⟩
 ·walk_at "rd"
  refine⟨q1,_,_,_,rfl,rfl,hW,at0,?_⟩
  walk_at "rd"
  refine⟨q1,_,_,_,rfl,rfl,hW,at1,?_⟩
  obtain⟨bA,bL'⟩:=wd b (List.mem_cons_of_mem _ List.mem_cons_self)
  walk_at "rd"
  intro H2 s2
  rw[if_neg (λy=>absurd (hb.symm.trans y) (by decide))]
  exact q _ (s1.trans s2)
 ·have l2:((w :: v :: rs).length:Nat)=rs.length+2:=rfl
  rw[ll,decide_eq_false (show ¬V.int (((w :: v :: rs).length:Nat):Int)=V.int 1 from λy=>by have:=V.int.inj y;omega)]
  walk_at "rd"
  refine⟨q1,_,_,_,rfl,rfl,hW,at0,?_⟩
  walk_at "rd"
  by_cases wp:w="pack"
  ·refine Y9 wp ?_
   walk_at "rd"
   have lr:rs.length≠0:=λy=>np' wp (List.eq_nil_of_length_eq_zero y)
   rw[ll,decide_eq_false (show ¬V.int (((w :: v :: rs).length:Nat):Int)=V.int 2 from λy=>by have:=V.int.inj y;omega)]
   walk_at "rd"
   refine⟨a,CD,dx,Ru p,.ref p,rfl,ha1,UD.cl,UD.Nq,rfl,?_⟩
   walk_at "rd"
   refine⟨q1,_,_,_,rfl,rfl,hW,at0,?_⟩
   walk_at "rd"
   refine⟨q1,_,rfl,hW,?_⟩
   intro sl hsl
   generalize e2:upd H1 sl _=H2
   obtain⟨s2,es⟩:=ZG hsl e2
   clear e2
   rw[List.map_cons,jX]at es
   walk_at "rd"
   exact⟨p,r',sl,n,l,os,ps,w,v :: rs,S1.pk.same s2,ZJ.of es,rfl,rfl,rfl,⟨by have:(v :: rs).length=rs.length+1:=rfl;omega,λx hx=>wd x (List.mem_cons_of_mem _ hx),by simp⟩,h.same (s1.trans s2)⟩
  ·refine ZP wp ?_
   walk_at "rd"
   refine⟨a,CD,dx,Ru p,.ref p,rfl,ha1,UD.cl,UD.Nq,rfl,?_⟩
   walk_at "rd"
   refine⟨q1,_,_,_,rfl,rfl,hW,at0,?_⟩
   walk_at "rd"
   refine⟨q1,_,rfl,hW,?_⟩
   intro sl hsl
   generalize e2:upd H1 sl _=H2
   obtain⟨s2,es⟩:=ZG hsl e2
   clear e2
   rw[List.map_cons,jX]at es
   walk_at "rd"
   exact⟨p,r',sl,n,l,os,ps,w,v :: rs,S1.pk.same s2,ZJ.of es,rfl,rfl,rfl,⟨by have:(v :: rs).length=rs.length+1:=rfl;omega,λx hx=>wd x (List.mem_cons_of_mem _ hx),by simp⟩,h.same (s1.trans s2)⟩
end
section
variable {P:Program} {w:World} {K:PySem.W.Frag} {mg:Str→Option Value} {base:Heap} {k:Nat}
def U8 (K:PySem.W.Frag) (C CD:Addr):Sp:=QW λx H Q=>∃(a dx:Addr),H a=some (.ins CD dx [])∧x= .ref a∧∀p r H',H p=none→H r=none→Keep [a] H H'→Dk CD C H' a p r 1 [M.iota 1] []→Q .non H'
theorem Kp (T:Txt K mg) {C:Addr} (U:Qe K mg C) {CD:Addr} (UD:JD K mg CD) {np:Addr} (Wi:Ir P w K mg base 22 "Pack" C ["self","n"] (cQ (Vb K C) (VH K np))):Av P w K mg base 24 "Desk" CD ["self"] (U8 K C CD):=by
 refine UD.QK.has (k:=23) KN len1 (λf cdv A outer s H vs Q E hr h=>?_)
 obtain⟨a0,rfl,h⟩:=h
 refine⟨_,Z6 (U6 (K:=K) (pv 0) (Fe Wi hr Qo (Z_ Z5 Z8)) rfl),?_⟩
 obtain⟨a,dx,ha,rfl,q⟩:=h
 walk_at "rd"
 intro p' dp hp' hdp jW
 generalize eM:upd (upd H dp (.own p')) p' (.ins C dp [])=HM
 have hMp:HM p'=some (.ins C dp []):=by rw[←eM];exact Z1
 have sM:Same H HM:=by
  rw[←eM]
  exact(Same.new hdp _).trans (Same.new (by rw[Zw (Ne.symm jW)];exact hp') _)
 have ju:=sM _ _ ha
 refine .inl ⟨_,_,rfl,p',dp,1,hMp,rfl,rfl,by omega,by omega,λc2 r2 H3 hc2 hr2 ncr k3 ep ec er=>⟨rfl,?_⟩⟩
 have nap:a≠p':=λz=>by rw[←z,ha]at hp';cases hp'
 have nac:a≠c2:=λz=>by rw[←z,ju]at hc2;cases hc2
 have nar:a≠r2:=λz=>by rw[←z,ju]at hr2;cases hr2
 have ha3:=k3 _ _ (by simp[nap]) ju
 walk_at "rd"
 refine⟨a,CD,dx,[],rfl,ha3,UD.cl,UD.Nq,by decide,?_⟩
 generalize e4:upd H3 a _=H4
 have ha4:H4 a=some (.ins CD dx (Ru p')):=by rw[←e4];exact Z1
 have o4:∀x u,x≠a→H3 x=some u→H4 x=some u:=λx u hx hu=>by rw[←e4,Zw hx];exact hu
 clear e4
 have P4:=tR (n:=1) ⟨by omega,by omega⟩ hMp hc2 hr2 ncr (o4 _ _ (Ne.symm nap) ep) (o4 _ _ (Ne.symm nac) ec) (o4 _ _ (Ne.symm nar) er)
 refine q p' r2 H4 hp' (sM.free hr2) (λx u hx hu=>?_) ⟨⟨dx,ha4⟩,P4⟩
 have nx:x≠a:=by simpa using hx
 have nxp:x≠p':=λz=>by rw[z,hp']at hu;cases hu
 exact o4 _ _ nx (k3 _ _ (by simp[nxp]) (sM _ _ hu))
def Lbl (K:PySem.W.Frag) (r np nm nr nw tm nf nt c:Addr) (lbl:Str):Prop:=(c=nt∧lbl="text")∨(c=np∧lbl="pack")∨(c=nr∧lbl="riffle")∨(c=nw∧lbl="way")∨(c=tm∧lbl="many")
def JQ (K:PySem.W.Frag) (r np nm nr nw tm nf nt:Addr):Sp:=QW λa H Q=>∃(x c:Addr) (lbl:Str),a= .ref x∧H x=some (IK x c)∧Lbl K r np nm nr nw tm nf nt c lbl∧Q (.str lbl) H
theorem yH (T:Txt K mg) {r np nm nr nw tm nf nt:Addr} (e:Td K mg r np nm nr nw tm nf nt):wV P w K mg base (k+1) "_law_class" ["_law_e"] (JQ K r np nm nr nw tm nf nt):=by
 refine T.Ei.aef WT len1 (λf cdv A outer s H vs Q E hr h=>?_)
 obtain⟨a0,rfl,h⟩:=h
 refine⟨_,Z7 (ZW (i:=1) WT.nd rfl (Or.inl rfl) ZK)
  (Z7 (Zn (YM (ZV (Q9 (K:=K)) rfl T.YZ PyProof.Rows.boot_isinstance (Z_ (pv 0) (Z_ (Yx (v:=.ref nt) rfl e.m7 rfl) Z8))))
  (Z6 (ZW (i:=1) WT.nd rfl (Or.inl rfl) (ZS Zt (pv 1) ZK)))
  (Zz))
  (Z7 (Zn (YM (ZV (Q9 (K:=K)) rfl T.YZ PyProof.Rows.boot_isinstance (Z_ (pv 0) (Z_ (Yx (v:=.ref np) rfl e.m1 rfl) Z8))))
  (Z6 (ZW (i:=1) WT.nd rfl (Or.inl rfl) (ZS Zt (pv 1) ZK)))
  (Zz))
  (Z7 (Zn (YM (ZV (Q9 (K:=K)) rfl T.YZ PyProof.Rows.boot_isinstance (Z_ (pv 0) (Z_ (Yx (v:=.ref nr) rfl e.m3 rfl) Z8))))
  (Z6 (ZW (i:=1) WT.nd rfl (Or.inl rfl) (ZS Zt (pv 1) ZK)))
  (Zz))
  (Z7 (Zn (YM (ZV (Q9 (K:=K)) rfl T.YZ PyProof.Rows.boot_isinstance (Z_ (pv 0) (Z_ (Yx (v:=.ref nw) rfl e.m4 rfl) Z8))))
  (Z6 (ZW (i:=1) WT.nd rfl (Or.inl rfl) (ZS Zt (pv 1) ZK)))
  (Zz))
  (Z7 (Zn (YM (ZV (Q9 (K:=K)) rfl T.YZ PyProof.Rows.boot_isinstance (Z_ (pv 0) (Z_ (Yx (v:=.ref tm) rfl e.m5 rfl) Z8))))
  (Z6 (ZW (i:=1) WT.nd rfl (Or.inl rfl) (ZS Zt (pv 1) ZK)))
  (Zz))
  (Z7 (Zn (PW.pt (QX (YM (ZV (Q9 (K:=K)) rfl T.YZ PyProof.Rows.boot_isinstance (Z_ (pv 0) (Z_ (Yx (v:=.ref nm) rfl e.m2 rfl) Z8)))) (Rp (YM (ZV (Q9 (K:=K)) rfl T.YZ PyProof.Rows.boot_isinstance (Z_ (pv 0) (Z_ (Yx (v:=.ref nf) rfl e.m6 rfl) Z8)))))))
  (Z6 (ZW (i:=1) WT.nd rfl (Or.inl rfl) (ZS Zt (pv 1) ZK)))
  (Zz))
  (Z6 (ZR (pv 1))))))))),?_⟩
 obtain⟨x,c,lbl,rfl,hx,lb,q⟩:=h
 walk_at "rd"
 rcases lb with⟨rfl,rfl⟩ | ⟨rfl,rfl⟩ | ⟨rfl,rfl⟩ | ⟨rfl,rfl⟩ | ⟨rfl,rfl⟩
 ·have cl:=e.c7
  refine⟨x,c,_,_,hx,cl.ty,.inl ⟨_,rfl,rfl⟩,cl.k7,?_⟩
  walk_at "rd"
  refine⟨x,c,_,_,hx,cl.ty,.inl ⟨_,rfl,rfl⟩,cl.k1,?_⟩
  walk_at "rd"
  refine⟨x,c,_,_,hx,cl.ty,.inl ⟨_,rfl,rfl⟩,cl.k3,?_⟩
  walk_at "rd"
  refine⟨x,c,_,_,hx,cl.ty,.inl ⟨_,rfl,rfl⟩,cl.k4,?_⟩
  walk_at "rd"
  refine⟨x,c,_,_,hx,cl.ty,.inl ⟨_,rfl,rfl⟩,cl.k5,?_⟩
  walk_at "rd"
  refine⟨x,c,_,_,hx,cl.ty,.inl ⟨_,rfl,rfl⟩,cl.k2,?_⟩
  walk_at "rd"
  refine⟨x,c,_,_,hx,cl.ty,.inl ⟨_,rfl,rfl⟩,cl.k6,?_⟩
  walk_at "rd"
  rw[show Str.ofString ""++Str.ofString "text"=Str.ofString "text" by decide +kernel]
  exact q
 ·have cl:=e.c1
  refine⟨x,c,_,_,hx,cl.ty,.inl ⟨_,rfl,rfl⟩,cl.k7,?_⟩
  walk_at "rd"
  refine⟨x,c,_,_,hx,cl.ty,.inl ⟨_,rfl,rfl⟩,cl.k1,?_⟩
  walk_at "rd"
  refine⟨x,c,_,_,hx,cl.ty,.inl ⟨_,rfl,rfl⟩,cl.k3,?_⟩
  walk_at "rd"
  refine⟨x,c,_,_,hx,cl.ty,.inl ⟨_,rfl,rfl⟩,cl.k4,?_⟩
  walk_at "rd"
  refine⟨x,c,_,_,hx,cl.ty,.inl ⟨_,rfl,rfl⟩,cl.k5,?_⟩
  walk_at "rd"
  refine⟨x,c,_,_,hx,cl.ty,.inl ⟨_,rfl,rfl⟩,cl.k2,?_⟩
  walk_at "rd"
  refine⟨x,c,_,_,hx,cl.ty,.inl ⟨_,rfl,rfl⟩,cl.k6,?_⟩
  walk_at "rd"
  rw[show Str.ofString ""++Str.ofString "pack"=Str.ofString "pack" by decide +kernel]
  exact q
 ·have cl:=e.c3
  refine⟨x,c,_,_,hx,cl.ty,.inl ⟨_,rfl,rfl⟩,cl.k7,?_⟩
  walk_at "rd"
  refine⟨x,c,_,_,hx,cl.ty,.inl ⟨_,rfl,rfl⟩,cl.k1,?_⟩
  walk_at "rd"
  refine⟨x,c,_,_,hx,cl.ty,.inl ⟨_,rfl,rfl⟩,cl.k3,?_⟩
  walk_at "rd"
  refine⟨x,c,_,_,hx,cl.ty,.inl ⟨_,rfl,rfl⟩,cl.k4,?_⟩
  walk_at "rd"
  refine⟨x,c,_,_,hx,cl.ty,.inl ⟨_,rfl,rfl⟩,cl.k5,?_⟩
  walk_at "rd"
  refine⟨x,c,_,_,hx,cl.ty,.inl ⟨_,rfl,rfl⟩,cl.k2,?_⟩
  walk_at "rd"
  refine⟨x,c,_,_,hx,cl.ty,.inl ⟨_,rfl,rfl⟩,cl.k6,?_⟩
  walk_at "rd"
  rw[show Str.ofString ""++Str.ofString "riffle"=Str.ofString "riffle" by decide +kernel]
  exact q
 ·have cl:=e.c4
  refine⟨x,c,_,_,hx,cl.ty,.inl ⟨_,rfl,rfl⟩,cl.k7,?_⟩
  walk_at "rd"
  refine⟨x,c,_,_,hx,cl.ty,.inl ⟨_,rfl,rfl⟩,cl.k1,?_⟩
  walk_at "rd"
  refine⟨x,c,_,_,hx,cl.ty,.inl ⟨_,rfl,rfl⟩,cl.k3,?_⟩
  walk_at "rd"
  refine⟨x,c,_,_,hx,cl.ty,.inl ⟨_,rfl,rfl⟩,cl.k4,?_⟩
  walk_at "rd"
  refine⟨x,c,_,_,hx,cl.ty,.inl ⟨_,rfl,rfl⟩,cl.k5,?_⟩
  walk_at "rd"
  refine⟨x,c,_,_,hx,cl.ty,.inl ⟨_,rfl,rfl⟩,cl.k2,?_⟩
  walk_at "rd"
  refine⟨x,c,_,_,hx,cl.ty,.inl ⟨_,rfl,rfl⟩,cl.k6,?_⟩
  walk_at "rd"
  rw[show Str.ofString ""++Str.ofString "way"=Str.ofString "way" by decide +kernel]
  exact q
 ·have cl:=e.c5
  refine⟨x,c,_,_,hx,cl.ty,.inl ⟨_,rfl,rfl⟩,cl.k7,?_⟩
  walk_at "rd"
  refine⟨x,c,_,_,hx,cl.ty,.inl ⟨_,rfl,rfl⟩,cl.k1,?_⟩
  walk_at "rd"
  refine⟨x,c,_,_,hx,cl.ty,.inl ⟨_,rfl,rfl⟩,cl.k3,?_⟩
  walk_at "rd"
  refine⟨x,c,_,_,hx,cl.ty,.inl ⟨_,rfl,rfl⟩,cl.k4,?_⟩
  walk_at "rd"
  refine⟨x,c,_,_,hx,cl.ty,.inl ⟨_,rfl,rfl⟩,cl.k5,?_⟩
  walk_at "rd"
  refine⟨x,c,_,_,hx,cl.ty,.inl ⟨_,rfl,rfl⟩,cl.k2,?_⟩
  walk_at "rd"
  refine⟨x,c,_,_,hx,cl.ty,.inl ⟨_,rfl,rfl⟩,cl.k6,?_⟩
  walk_at "rd"
  rw[show Str.ofString ""++Str.ofString "many"=Str.ofString "many" by decide +kernel]
  exact q
theorem yJ.mono {C nr tm nt:Addr} {H:Hp} {p r:Addr} {n:Nat} {l:List Int} {os:List (List Int)} {ps:List Rf} {w:Str} {Q Q':VK} {E E':XK} (h:yJ C nr tm nt H p r n l os ps w Q E) (hQ:∀v H',Q v H'→Q' v H') (hE:∀c d H',E c d H'→E' c d H'):yJ C nr tm nt H p r n l os ps w Q' E':=by
 rcases h with⟨a,q⟩ | ⟨a,b,q⟩ | ⟨a,m,ps',l2,os2,b,c,q⟩ | ⟨a,b,q⟩ | ⟨a,q⟩
 ·exact .inl ⟨a,λt H' ht s'=>hQ _ _ (q t H' ht s')⟩
 ·exact .inr (.inl ⟨a,b,λH' s'=>hE _ _ _ (q H' s')⟩)
 ·exact .inr (.inr (.inl ⟨a,m,ps',l2,os2,b,c,λH' k' P'=>hQ _ _ (q H' k' P')⟩))
 ·exact .inr (.inr (.inr (.inl ⟨a,b,λH' s'=>hE _ _ _ (q H' s')⟩)))
 ·exact .inr (.inr (.inr (.inr ⟨a,λH' s'=>hE _ _ _ (q H' s')⟩)))
theorem JR.mono {C nr nw nt:Addr} {H:Hp} {p r:Addr} {n:Nat} {l:List Int} {os:List (List Int)} {ps:List Rf} {w:Str} {ws:List Str} {Q Q':VK} {E E':XK} (h:JR C nr nw nt H p r n l os ps w ws Q E) (hQ:∀v H',Q v H'→Q' v H') (hE:∀c d H',E c d H'→E' c d H'):JR C nr nw nt H p r n l os ps w ws Q' E':=by
 rcases h with⟨a,b,c,d,e,f,g,h,q⟩ | ⟨a,b,c,d,e,f,g,q⟩ | ⟨a,b,c,d,e,f,g,q⟩ | ⟨a,b,c,d,e,f,g,h,i,q⟩ | ⟨a,q⟩
 ·exact .inl ⟨a,b,c,d,e,f,g,h,λH' k' P'=>hQ _ _ (q H' k' P')⟩
 ·exact .inr (.inl ⟨a,b,c,d,e,f,g,λH' s'=>hE _ _ _ (q H' s')⟩)
 ·exact .inr (.inr (.inl ⟨a,b,c,d,e,f,g,λH' s'=>hE _ _ _ (q H' s')⟩))
 ·exact .inr (.inr (.inr (.inl ⟨a,b,c,d,e,f,g,h,i,λt u H' h1 h2 s'=>hQ _ _ (q t u H' h1 h2 s')⟩)))
 ·exact .inr (.inr (.inr (.inr ⟨a,λH' s'=>hE _ _ _ (q H' s')⟩)))
theorem bW.mono {CD C np nr nw tm nt:Addr} {H:Hp} {a p r:Addr} {n:Nat} {l:List Int} {os:List (List Int)} {ps:List Rf} {ws:List Str} {Q Q':VK} {E E':XK} (h:bW CD C np nr nw tm nt H a p r n l os ps ws Q E) (hQ:∀v H',Q v H'→Q' v H') (hE:∀c d H',E c d H'→E' c d H'):bW CD C np nr nw tm nt H a p r n l os ps ws Q' E':=by
 rcases h with⟨w,e,h⟩ | ⟨b,e,h1,h2,q⟩ | ⟨b,e,h1,h2,q⟩ | ⟨b,e,h1,q⟩ | ⟨w,v,rs,e,h1,h⟩
 ·exact .inl ⟨w,e,h.mono hQ hE⟩
 ·exact .inr (.inl ⟨b,e,h1,h2,λp' r' m H' x1 x2 x3 x4 x5=>hQ _ _ (q p' r' m H' x1 x2 x3 x4 x5)⟩)
 ·exact .inr (.inr (.inl ⟨b,e,h1,h2,λH' s'=>hE _ _ _ (q H' s')⟩))
 ·exact .inr (.inr (.inr (.inl ⟨b,e,h1,λH' s'=>hE _ _ _ (q H' s')⟩)))
 ·exact .inr (.inr (.inr (.inr ⟨w,v,rs,e,h1,h.mono hQ hE⟩)))
structure Uh (z:Str) (ws:List Str):Prop where
 sp:PySem.Txt.split z (Str.ofString " ")=ws
 lz:z.length≤5000
 lw:ws.length≤900
 wd:cg ws
def VB (K:PySem.W.Frag) (CD C r np nm nr nw tm nf nt:Addr):Sp:=oY λx b d H Q=>∃(a p r':Addr) (n:Nat) (l:List Int) (os:List (List Int)) (ps:List Rf) (z lbl:Str) (ws:List Str),Dk CD C H a p r' n (l :: os) ps∧x= .ref a∧b= .str z∧d= .str lbl∧Uh z ws ∧
 bW CD C np nr nw tm nt H a p r' n l os ps ws (λ_ _=>False) (λv _ H'=>∃c,v= .ref c∧Lbl K r np nm nr nw tm nf nt c lbl∧Same H H')∧∀H',Same H H'→Q (.bl true) H'
theorem fC {r np nm nr nw tm nf nt c:Addr} {lbl:Str} (e:Td K mg r np nm nr nw tm nf nt) (h:Lbl K r np nm nr nw tm nf nt c lbl):PySem.W.mroIn K c (.ref r)=some true:=by
 rcases h with⟨rfl,_⟩ | ⟨rfl,_⟩ | ⟨rfl,_⟩ | ⟨rfl,_⟩ | ⟨rfl,_⟩
 ·exact e.c7.sub
 ·exact e.c1.sub
 ·exact e.c3.sub
 ·exact e.c4.sub
 ·exact e.c5.sub
theorem B_ (T:Txt K mg) {CD C:Addr} (UD:JD K mg CD) {r np nm nr nw tm nf nt:Addr} (e:Td K mg r np nm nr nw tm nf nt) (kb:K.In base) (acp:Tz P w K mg base 24 CD "say" ["self","row"] (Xm K CD C np nr nw tm nt)) (BZ:wV P w K mg base 24 "_law_class" ["_law_e"] (JQ K r np nm nr nw tm nf nt)):Has P w K mg base 25 "_law_refused" ["_law_desk","_law_row","_law_due_here"] (VB K CD C r np nm nr nw tm nf nt):=by
 refine T.J3.has (k:=24) LK Gq (λf cdv A outer s H vs Q E hr h=>?_)
 obtain⟨a0,a1,a2,rfl,h⟩:=h
 refine⟨_,Z7 (aj (i:=3) (λpn W=>Z6 (YH (X6 (pv 0) UD.cl acp hr Iz (Z_ (pv 1) Z8))))
  (λpn x=>Z6 (ZR (V3 YJ (rQ BZ (hr.held x) (Z_ (pv 3) Z8)) (pv 2) (Zv _))))
  (Uv (mro:=Qy) (nid:="ValueError.__new__") kb e.m0 e.x0) (by decide +kernel) rfl LK.nd rfl rfl rfl rfl)
  (Z6 (ZR U3)),?_⟩
 obtain⟨a,p,r',n,l,os,ps,z,lbl,ws,S,rfl,rfl,rfl,ro,h,q⟩:=h
 obtain⟨dx,ha⟩:=S.d
 walk_at "rd"
 refine⟨a,dx,Ru p,rfl,ha,rfl,?_⟩
 walk_at "rd"
 refine⟨a,p,r',n,l,os,ps,z,ws,S,rfl,rfl,ro.sp,ro.lz,⟨ro.lw,ro.wd⟩,h.mono (λv H' z=>z.elim) ?_⟩
 rintro v d H4 ⟨c,rfl,lb,s4⟩
 refine⟨c,rfl,fC e lb,λx hx=>?_⟩
 generalize g9:upd H4 x _=H9
 obtain⟨s9,ex⟩:=ZG hx g9
 clear g9
 walk_at "rd"
 refine⟨x,c,lbl,rfl,ex,lb,?_⟩
 walk_at "rd"
 rw[decide_eq_true rfl]
 exact q _ (s4.trans s9)
end
section
variable {P:Program} {w:World} {K:PySem.W.Frag} {mg:Str→Option Value} {base:Heap} {k:Nat}
def yG (w:Str) (ws:List Str):Bool:=
 if w="riffle" then(match ws with |a :: rs=> !mk? a || rs.any (λx=> !num? x) | []=>false)
 else if w="way"∧ws.length=2 then(match ws with | [a,b]=> !mk? a || !num? b |_=>false)
 else if w="carry"∧ws.length=4 then(match ws with | [a,b,c,d]=>ws.any (λx=> !num? x) || (ws.all (λx=>num? x) && (!(decide (1≤numOf a) && decide (numOf a≤12)) || decide (numOf b<1) || decide (numOf a≤numOf c) || decide (numOf a≤numOf d))) |_=>false)
 else if w="add"∧ws.length≤60 then ws.any (λx=> !num? x)
 else if w="far"∧ws.length=2 then(match ws with | [a,b]=>num? a && num? b && (decide (numOf a<1) || decide (60<numOf a) || decide (20<numOf b)) |_=>false)
 else if w="ways"∧ws.length=1 then false
 else true
theorem vJ {ws:List Str} (h:ws.any (λx=> !num? x)=true):∃x∈ws,num? x=false:=by
 obtain⟨x,hx,e⟩:=List.any_eq_true.mp h
 exact⟨x,hx,by simpa using e⟩
theorem yF {n:Nat} {w:Str} {ws:List Str} (h:yG w ws=true):aco n w ws:=by
 unfold yG at h
 split at h
 ·next hw =>
  refine .inl ⟨hw,?_⟩
  match ws,h with
  |a :: rs,h =>
   refine⟨a,rs,rfl,?_⟩
   cases hm:mk? a with
   |false=>exact .inl rfl
   |true =>
    have h:(!mk? a || rs.any (λx=> !num? x))=true:=h
    rw[hm]at h
    exact .inr ⟨rfl,vJ (by simpa using h)⟩
 next h1 =>
 split at h
 ·next hw =>
  refine .inr (.inl ⟨hw.1,?_⟩)
  match ws,h with
  | [a,b],h =>
    refine⟨a,b,rfl,?_⟩
    cases hm:mk? a with
    |false=>exact .inl rfl
    |true =>
     have h:(!mk? a || !num? b)=true:=h
     rw[hm]at h
     exact .inr ⟨rfl,by simpa using h⟩
 next h2 =>
 split at h
 ·next hw =>
  refine .inr (.inr (.inl ⟨hw.1,?_⟩))
  match ws,h with
  | [a,b,c,d],h =>
    refine⟨a,b,c,d,rfl,?_⟩
    have h:([a,b,c,d].any (λx=> !num? x) || ([a,b,c,d].all (λx=>num? x) && (!(decide (1≤numOf a) && decide (numOf a≤12)) || decide (numOf b<1) || decide (numOf a≤numOf c) || decide (numOf a≤numOf d))))=true:=h
    rw[Bool.or_eq_true]at h
    rcases h with h |h
    ·exact .inl (vJ h)
    ·rw[Bool.and_eq_true]at h
     refine .inr ⟨List.all_eq_true.mp h.1,?_⟩
     have h2:=h.2
     simp only[Bool.or_eq_true,Bool.not_eq_true',Bool.and_eq_false_iff,decide_eq_false_iff_not,decide_eq_true_eq]at h2
     unfold tV
     omega
 next h3 =>
 split at h
 ·next hw=>exact .inr (.inr (.inr (.inl ⟨hw.1,hw.2,vJ h⟩)))
 next h4 =>
 split at h
 ·next hw =>
  refine .inr (.inr (.inr (.inr (.inl ⟨hw.1,?_⟩))))
  match ws,h with
  | [a,b],h =>
    have h:(num? a && num? b && (decide (numOf a<1) || decide (60<numOf a) || decide (20<numOf b)))=true:=h
    simp only[Bool.and_eq_true,Bool.or_eq_true,decide_eq_true_eq]at h
    exact⟨a,b,rfl,h.1.1,h.1.2,by omega⟩
 next h5 =>
 split at h
 ·cases h
 next h6 =>
 exact .inr (.inr (.inr (.inr (.inr ⟨h1,λe z=>h6 ⟨e,z⟩,λe z=>h2 ⟨e,z⟩,λe z=>h3 ⟨e,z⟩,λe=>Nat.lt_of_not_le λz=>h4 ⟨e,z⟩,λe z=>h5 ⟨e,z⟩⟩))))
def vI:List Str→Bool
 | []=>false
 | [w]=>decide (w≠"undo") && decide (w≠"order") && decide (w≠"falls") && decide (w≠"runs") && decide (w≠"whole") && decide (w≠"second") && decide (w≠"first") && decide (w≠"rests")
 | [w,b]=>if w="pack" then !num? b else yG w [b]
 |w :: v :: rs=>yG w (v :: rs)
def fB (K:PySem.W.Frag) (r np nm nr nw tm nf nt:Addr) (lbl:Str) (H:Hp):XK:=λv _ H'=>∃c,v= .ref c∧Lbl K r np nm nr nw tm nf nt c lbl∧Same H H'
theorem fu {CD C r np nm nr nw tm nf nt:Addr} {H:Hp} {a p r':Addr} {n:Nat} {l:List Int} {os:List (List Int)} {ps:List Rf} {ws:List Str} (h:vI ws=true):bW CD C np nr nw tm nt H a p r' n l os ps ws (λ_ _=>False) (fB K r np nm nr nw tm nf nt "text" H):=by
 have fin:∀H',Same H H'→fB K r np nm nr nw tm nf nt "text" H (.ref nt) none H':=λH' s=>⟨nt,rfl,.inl ⟨rfl,rfl⟩,s⟩
 match ws,h with
 | [w],h =>
   have h:(decide (w≠"undo") && decide (w≠"order") && decide (w≠"falls") && decide (w≠"runs") && decide (w≠"whole") && decide (w≠"second") && decide (w≠"first") && decide (w≠"rests"))=true:=h
   simp only[Bool.and_eq_true,decide_eq_true_eq]at h
   obtain⟨⟨⟨⟨⟨⟨⟨h1,h2⟩,h3⟩,h4⟩,h5⟩,h6⟩,h7⟩,h8⟩:=h
   exact .inl ⟨w,rfl,.inr (.inr (.inr (.inr ⟨⟨h1,h2,h3,h4,h5,h6,h7,h8⟩,fin⟩)))⟩
 | [w,b],h =>
   have h:(if w="pack" then !num? b else yG w [b])=true:=h
   split at h
   ·next e =>
    subst e
    have h':num? b=false:=by
     cases hn:num? b with
     |false=>rfl
     |true =>
      rename_i hz
      have hz:(!num? b)=true:=hz
      rw[hn]at hz
      cases hz
    exact .inr (.inr (.inr (.inl ⟨b,rfl,h',fin⟩)))
   ·next e=>exact .inr (.inr (.inr (.inr ⟨w,b,[],rfl,λz=>absurd z e,.inr (.inr (.inr (.inr ⟨yF h,fin⟩)))⟩)))
 |w :: v :: x :: rs,h=>exact .inr (.inr (.inr (.inr ⟨w,v,x :: rs,rfl,λ_=>by simp,.inr (.inr (.inr (.inr ⟨yF h,fin⟩)))⟩)))
def acq (w:Str):Bool:=w.cps.toList.all (λc=>decide (c<128)) && decide (w.length≤1000)
def okB (z:Str):Bool:=decide (z.length≤5000) && decide ((PySem.Txt.split z (Str.ofString " ")).length≤900) && (PySem.Txt.split z (Str.ofString " ")).all acq
theorem tQ {z:Str} (h:okB z=true):Uh z (PySem.Txt.split z (Str.ofString " ")):=by
 unfold okB at h
 simp only[Bool.and_eq_true,decide_eq_true_eq]at h
 refine⟨rfl,h.1.1,h.1.2,λw hw=>?_⟩
 have:=List.all_eq_true.mp h.2 w hw
 unfold acq at this
 simp only[Bool.and_eq_true,decide_eq_true_eq,List.all_eq_true]at this
 exact⟨this.1,this.2⟩
abbrev oS (s:String):Str:=Str.ofString s
def Xf:List Str:=[oS "",oS " ",oS "order ",oS " order",oS "Order",oS "orders",oS "order 0",oS "pack",oS "pack 1 2",oS "pack -1",oS "pack 01"]++[oS "pack 1234567890123",oS "riffle",oS "riffle ",oS "riffle pq 0",oS "riffle P 0",oS "riffle p 0 ",oS "riffle p -1"]++[oS "riffle p  0",oS "undo 0",oS "falls 1",oS "runs  ",oS "whole p",oS "ways",oS "ways p t",oS "ways pp ",oS "way p"]++[oS "way p 0 0",oS "way t -1",oS "way 0 p",oS "second 1",oS "first 0",oS "rests -",oS "carry 2 2 0"]++[oS "carry 2 2 0 0 0",oS "carry 0 2 0 0",oS "carry 13 2 0 0",oS "carry 2 0 0 0",oS "carry 2 2 2 0"]++[oS "carry 2 2 0 2",oS "carry 2 2 0 -1",oS "add",oS "add ",oS "add 1 a",oS "add 1"++PySem.Txt.mul (oS " 1") 60,oS "far 2"]++[oS "far 61 0",oS "far 0 1",oS "far 2 21",oS "far 2 1 1",oS "riffle "++PySem.Txt.mul (oS "p") 401++oS " 0"]
def Oi (z:Str):Bool:=okB z && vI (PySem.Txt.split z (Str.ofString " "))
theorem rc0:((Xf.drop 0).take 10).all Oi=true:=by kernel_rfl
theorem rc1:((Xf.drop 10).take 10).all Oi=true:=by kernel_rfl
theorem rc2:((Xf.drop 20).take 10).all Oi=true:=by kernel_rfl
theorem rc3:((Xf.drop 30).take 10).all Oi=true:=by kernel_rfl
theorem rc4:((Xf.drop 40).take 3).all Oi=true:=by kernel_rfl
theorem rc5:((Xf.drop 43).take 2).all Oi=true:=by kernel_rfl
theorem rc6:((Xf.drop 45).take 2).all Oi=true:=by kernel_rfl
theorem rc7:((Xf.drop 47).take 2).all Oi=true:=by kernel_rfl
theorem rc8:((Xf.drop 49).take 1).all Oi=true:=by kernel_rfl
abbrev z50:Str:=Xf.getD 50 (oS "")
abbrev w50:List Str:=[Str.mk (List.replicate 401 112).toArray,oS "0"]
theorem aeA:PySem.Txt.split z50 (Str.ofString " ")=oS "riffle" :: w50:=M.E_ (by decide +kernel) (by decide +kernel) (by decide +kernel)
theorem rc9:((Xf.drop 50).take 1).all Oi=true:=by
 show(Oi z50 && true)=true
 unfold Oi okB
 rw[aeA]
 kernel_rfl
theorem U4 {l:List Str} {i k:Nat} (h:((l.drop i).take k).all Oi=true) (r:(l.drop (i+k)).all Oi=true):(l.drop i).all Oi=true:=by
 rw[←List.take_append_drop k (l.drop i),List.all_append,h,List.drop_drop,r];rfl
theorem aaQ:(Xf.drop 51).all Oi=true:=by kernel_rfl
theorem jV:Xf.all (λz=>okB z && vI (PySem.Txt.split z (Str.ofString " ")))=true:=U4 rc0 (U4 rc1 (U4 rc2 (U4 rc3 (U4 rc4 (U4 rc5 (U4 rc6 (U4 rc7 (U4 rc8 (U4 rc9 aaQ)))))))))
end
section
variable {X:Cx} {e a b:Expr} {es:List Expr} {st:Stmt} {ss:List Stmt} {te ta tb:TE} {t:TA} {u v:TS} {pos:Pos}
@[irreducible] def JE (X:Cx) (e:Expr) (t:TE):Prop:=PE X e t
@[irreducible] def JA (X:Cx) (e:List Expr) (t:TA):Prop:=PA X e t
@[irreducible] def JS (X:Cx) (e:Stmt) (t:TS):Prop:=PS X e t
@[irreducible] def JB (X:Cx) (e:List Stmt) (t:TS):Prop:=QF X e t
theorem je (h:PE X e te):JE X e te:=by unfold JE;exact h
theorem ej (h:JE X e te):PE X e te:=by unfold JE at h;exact h
theorem acr (h:PA X es t):JA X es t:=by unfold JA;exact h
theorem fj (h:JA X es t):PA X es t:=by unfold JA at h;exact h
theorem jSt (h:PS X st u):JS X st u:=by unfold JS;exact h
theorem stJ (h:JS X st u):PS X st u:=by unfold JS at h;exact h
theorem jBl (h:QF X ss u):JB X ss u:=by unfold JB;exact h
theorem blJ (h:JB X ss u):QF X ss u:=by unfold JB at h;exact h
theorem Q5:JA X [] Dz:=acr Z8
theorem Zi (h:JE X e te) (r:JA X es t) (hn:notStar e=true:=by rfl):JA X (e :: es) (pN te t):=acr (aer (ej h) (fj r) hn)
theorem BX (h:JA X es t):JE X (.List es pos) (abr t):=je (Yh (fj h))
theorem Zj {x j}:JE X (.Constant (.str x) j pos) (tC (.str x)):=je ZK
theorem WR {x j}:JE X (.Constant (.int x) j pos) (tC (.int x)):=je Z5
theorem YD {op:Operator} {r:R2} (ho:Qt X (binaryOp op) r) (ha:JE X a ta) (hb:JE X b tb):JE X (.BinOp a op b pos) (bD r ta tb):=je (ZS ho (ej ha) (ej hb))
theorem aaR {r:R2} (hr:aX X r) (ha:JE X a ta) (hb:JE X b tb) (hs:uX b):JE X (.Subscript a b pos) (bD r ta tb):=je (Zq hr (ej ha) (ej hb) hs)
theorem Lg (h:JS X st u) (r:JB X ss v):JB X (st :: ss) (aa8 u v):=jBl (Z7 (stJ h) (blJ r))
theorem vH (h:JS X st u):JB X [st] u:=jBl (Z6 (stJ h))
theorem vG (h:JE X e te):JS X (.Return (some e) pos) (abb te):=jSt (ZR (ej h))
theorem BW {i:Nat} {x:Str} {pos':Pos} (hN:X.N.Nodup) (hi:X.N[i]? =some x) (hx:Loc X.env.scope x) (he:JE X e te) (hs:swapsWith e (some (.Name x pos')) pos.line X.env=pure false:=by rfl)
 (hf:X.fn x=true∨X.env.scope.names.lookup x=some .local:=by first |exact .inl rfl |exact .inr rfl |assumption):JS X (.Assign [.Name x pos'] e pos) (bF te (pY i)):=jSt (ZW hN hi hx (ej he) hs hf)
end
section
variable {P:Program} {w:World} {K:PySem.W.Frag} {mg:Str→Option Value} {base:Heap} {k:Nat}
theorem acs {x:Str} {st:Stmt} {N ps:List Str} {sp:Sp} (F:Def K mg x st ps) (S:ZX N ps (Z9 st)) (len:∀vs H Q E,sp vs H Q E→vs.length=ps.length)
 (hb:∀(f:Addr) (cdv:Value) (A:Around) (outer:List Env) (s:Shared) (H:Hp) (vs:List V) (Q:VK) (E:XK),YC k (A.deeper (PyProof.Rows.envOfC x (Z9 st) s.heap.objs.size f cdv))→sp vs H Q E →
  ∃t,JB (Vp Je P w K mg base N x (Z9 st) f cdv A outer s H E).JN (Z2 st) t∧t {nx:=λ_ H'=>Q .non H',rt:=Q} (start N vs) H):Has P w K mg base (k+1) x ps sp:=
 F.has S len λf cdv A outer s H vs Q E hr h=>by
   obtain⟨t,b,q⟩:=hb f cdv A outer s H vs Q E hr h
   exact⟨t,blJ b,q⟩
end
section
variable {P:Program} {w:World} {K:PySem.W.Frag} {mg:Str→Option Value} {base:Heap} {k:Nat}
def Ko (K:PySem.W.Frag):Sp:=QW λa H Q=>∃c:Int,a= .int c∧∀z H',z∈Xf→Same H H'→Q (.str z) H'
theorem qz (T:Txt K mg):Has P w K mg base (k+1) "_law_none" ["_law_cell"] (Ko K):=by
 refine acs T.zB V4 len1 (λf cdv A outer s H vs Q E hr h=>?_)
 obtain⟨a0,rfl,h⟩:=h
 refine⟨_,Lg (BW (i:=1) V4.nd rfl (Or.inl rfl) (BX (Zi Zj (Zi Zj (Zi Zj (Zi Zj (Zi Zj (Zi Zj (Zi Zj (Zi Zj (Zi Zj (Zi Zj (Zi Zj Q5)))))))))))))
  (Lg (BW (i:=1) V4.nd rfl (Or.inl rfl) (YD TQ (je (pv 1)) (BX (Zi Zj (Zi Zj (Zi Zj (Zi Zj (Zi Zj (Zi Zj (Zi Zj Q5))))))))))
  (Lg (BW (i:=1) V4.nd rfl (Or.inl rfl) (YD TQ (je (pv 1)) (BX (Zi Zj (Zi Zj (Zi Zj (Zi Zj (Zi Zj (Zi Zj (Zi Zj (Zi Zj (Zi Zj Q5))))))))))))
  (Lg (BW (i:=1) V4.nd rfl (Or.inl rfl) (YD TQ (je (pv 1)) (BX (Zi Zj (Zi Zj (Zi Zj (Zi Zj (Zi Zj (Zi Zj (Zi Zj Q5))))))))))
  (Lg (BW (i:=1) V4.nd rfl (Or.inl rfl) (YD TQ (je (pv 1)) (BX (Zi Zj (Zi Zj (Zi Zj (Zi Zj (Zi Zj Q5))))))))
  (Lg (BW (i:=1) V4.nd rfl (Or.inl rfl) (YD TQ (je (pv 1)) (BX (Zi Zj (Zi Zj (Zi Zj (Zi Zj (Zi Zj (Zi (YD Zt Zj (YD Xu Zj WR)) (Zi Zj Q5))))))))))
  (Lg (BW (i:=1) V4.nd rfl (Or.inl rfl) (YD TQ (je (pv 1)) (BX (Zi Zj (Zi Zj (Zi Zj (Zi Zj (Zi (YD Zt (YD Zt Zj (YD Xu Zj WR)) Zj) Q5))))))))
  (vH (vG (aaR (ZQ (K:=K)) (je (pv 1)) (YD Yi (je (pv 0)) WR) (λ_ _=>rfl)))))))))),?_⟩
 obtain⟨c,rfl,q⟩:=h
 have c0:=Int.emod_nonneg c (show(51:Int)≠0 by decide)
 have c1:=Int.emod_lt_of_pos c (show(0:Int)<51 by decide)
 walk_at "rd"
 intro l0 hl0
 generalize e0:upd H l0 _=H0
 obtain⟨s0,el0⟩:=ZG hl0 e0
 clear e0
 walk_at "rd"
 intro d1 hd1
 generalize f1:upd H0 d1 _=G1
 obtain⟨t1,ed1⟩:=ZG hd1 f1
 clear f1
 walk_at "rd"
 refine⟨l0,d1,_,_,rfl,rfl,t1 _ _ el0,ed1,Zx (by simp),?_⟩
 intro l1 hl1
 generalize e1:upd G1 l1 _=H1
 obtain⟨u1,el1⟩:=ZG hl1 e1
 clear e1
 have s1:=s0.trans (t1.trans u1)
 walk_at "rd"
 intro d2 hd2
 generalize f2:upd H1 d2 _=G2
 obtain⟨t2,ed2⟩:=ZG hd2 f2
 clear f2
 walk_at "rd"
 refine⟨l1,d2,_,_,rfl,rfl,t2 _ _ el1,ed2,Zx (by simp),?_⟩
 intro l2 hl2
 generalize e2:upd G2 l2 _=H2
 obtain⟨u2,el2⟩:=ZG hl2 e2
 clear e2
 have s2:=s1.trans (t2.trans u2)
 walk_at "rd"
 intro d3 hd3
 generalize f3:upd H2 d3 _=G3
 obtain⟨t3,ed3⟩:=ZG hd3 f3
 clear f3
 walk_at "rd"
 refine⟨l2,d3,_,_,rfl,rfl,t3 _ _ el2,ed3,Zx (by simp),?_⟩
 intro l3 hl3
 generalize e3:upd G3 l3 _=H3
 obtain⟨u3,el3⟩:=ZG hl3 e3
 clear e3
 have s3:=s2.trans (t3.trans u3)
 walk_at "rd"
 intro d4 hd4
 generalize f4:upd H3 d4 _=G4
 obtain⟨t4,ed4⟩:=ZG hd4 f4
 clear f4
 walk_at "rd"
 refine⟨l3,d4,_,_,rfl,rfl,t4 _ _ el3,ed4,Zx (by simp),?_⟩
 intro l4 hl4
 generalize e4:upd G4 l4 _=H4
 obtain⟨u4,el4⟩:=ZG hl4 e4
 clear e4
 have s4:=s3.trans (t4.trans u4)
 walk_at "rd"
 refine⟨M.Rk (by decide) (by decide) (by decide +kernel),?_⟩
 have lp5:(PySem.Txt.mul (Str.ofString " 1") 60).length=120:=by rw[M.Mw _ (by decide)];decide +kernel
 have la5:(Str.ofString "add 1").length=5:=by decide +kernel
 generalize hz5:PySem.Txt.mul (Str.ofString " 1") 60=z5 at lp5 ⊢
 refine⟨_,_,rfl,rfl,by rw[la5,lp5];exact Zx (by decide),?_⟩
 walk_at "rd"
 intro d5 hd5
 generalize f5:upd H4 d5 _=G5
 obtain⟨t5,ed5⟩:=ZG hd5 f5
 clear f5
 walk_at "rd"
 refine⟨l4,d5,_,_,rfl,rfl,t5 _ _ el4,ed5,Zx (by simp),?_⟩
 intro l5 hl5
 generalize e5:upd G5 l5 _=H5
 obtain⟨u5,el5⟩:=ZG hl5 e5
 clear e5
 have s5:=s4.trans (t5.trans u5)
 walk_at "rd"
 refine⟨M.Rk (by decide) (by decide) (by decide +kernel),?_⟩
 have lp6:(PySem.Txt.mul (Str.ofString "p") 401).length=401:=by rw[M.Mw _ (by decide)];decide +kernel
 have la6:(Str.ofString "riffle ").length=7:=by decide +kernel
 have lb6:(Str.ofString " 0").length=2:=by decide +kernel
 generalize hz6:PySem.Txt.mul (Str.ofString "p") 401=z6 at lp6 ⊢
 refine⟨_,_,rfl,rfl,by rw[la6,lp6];exact Zx (by decide),?_⟩
 refine⟨_,_,rfl,rfl,by rw[PySem.Str.length_append,la6,lp6,lb6];exact Zx (by decide),?_⟩
 walk_at "rd"
 intro d6 hd6
 generalize f6:upd H5 d6 _=G6
 obtain⟨t6,ed6⟩:=ZG hd6 f6
 clear f6
 walk_at "rd"
 refine⟨l5,d6,_,_,rfl,rfl,t6 _ _ el5,ed6,Zx (by simp),?_⟩
 intro l6 hl6
 generalize e6:upd G6 l6 _=H6
 obtain⟨u6,el6⟩:=ZG hl6 e6
 clear e6
 have s6:=s5.trans (t6.trans u6)
 walk_at "rd"
 have aeB:H6 l6=some (.lst (Xf.map V.str)):=by rw[el6,←hz5,←hz6];rfl
 have lr:Xf.length=51:=by decide +kernel
 have hlt:(c % 51).toNat<Xf.length:=by rw[lr];omega
 refine⟨l6,_,_,_,rfl,rfl,ZJ.of aeB,qd (v:=.str Xf[(c % 51).toNat]) c0 (by rw[List.getElem?_map,List.getElem?_eq_getElem hlt];rfl),?_⟩
 exact q _ H6 (List.getElem_mem hlt) s6
end
section
variable {P:Program} {w:World} {K:PySem.W.Frag} {mg:Str→Option Value} {base:Heap} {k:Nat}
theorem bV (f:Nat→Nat) (B:Nat) (hf:∀x,f x≤B) (n:Nat):∀d h,n-h=d→M.sm f n h≤d*B
 | 0,h,e=>by rw[M.uF (by omega)];omega
 |d+1,h,e=>by
  rw[M.uE (by omega),Nat.succ_mul]
  have h1:=bV f B hf n d (h+1) (by omega)
  have h2:=hf h
  omega
theorem bU (bs:List Bool):∀(av:List Bool) (h:Nat),M.wy bs av h≤bs.length ^ av.length
 | [],h=>by show 1≤_;simp
 |ab :: r,h=>by
  rw[M.Jm]
  have h1:=bV (λx=>M.wy bs r (M.lf ab bs x)) (bs.length ^ r.length) (λx=>bU bs r _) bs.length (bs.length-h) h rfl
  have h2:(bs.length-h)*bs.length ^ r.length≤bs.length*bs.length ^ r.length:=Nat.mul_le_mul_right _ (by omega)
  rw[List.length_cons,Nat.pow_succ,Nat.mul_comm]
  omega
def bT (n:Nat) (ws:List Str) (lbl:Str):Prop:=
 (lbl="pack"∧∃b,ws=[Str.ofString "pack",b]∧num? b=true∧(numOf b<1∨60<numOf b)) ∨
 (lbl="riffle"∧∃a rs,ws=Str.ofString "riffle" :: a :: rs∧mk? a=true∧(∀x∈rs,num? x=true)∧jz (mkOf a).length n (iL (rs.map numOf))) ∨
 (lbl="way"∧∃a b,ws=[Str.ofString "way",a,b]∧mk? a=true∧num? b=true∧(((mkOf a).length ^ n:Nat):Int)≤numOf b)
theorem eZ {CD C r np nm nr nw tm nf nt:Addr} {H:Hp} {a p r':Addr} {n:Nat} {l:List Int} {os:List (List Int)} {ps:List Rf} {ws:List Str} {lbl:Str} (n1:1≤n) (h:bT n ws lbl):bW CD C np nr nw tm nt H a p r' n l os ps ws (λ_ _=>False) (fB K r np nm nr nw tm nf nt lbl H):=by
 rcases h with⟨rfl,b,rfl,h1,h2⟩ | ⟨rfl,a,rs,rfl,h1,h2,h3⟩ | ⟨rfl,a,b,rfl,h1,h2,h3⟩
 ·exact .inr (.inr (.inl ⟨b,rfl,h1,h2,λH' s=>⟨np,rfl,.inr (.inl ⟨rfl,rfl⟩),s⟩⟩))
 ·exact .inr (.inr (.inr (.inr ⟨_,a,rs,rfl,λz=>absurd z (by decide +kernel),.inr (.inl ⟨rfl,a,rs,rfl,h1,h2,h3,λH' s=>⟨nr,rfl,.inr (.inr (.inl ⟨rfl,rfl⟩)),s⟩⟩)⟩)))
 ·have hw:=bU (mkOf a) (M.jA n l) 0
  rw[M.Nu l n1]at hw
  exact .inr (.inr (.inr (.inr ⟨_,a,[b],rfl,λz=>absurd z (by decide +kernel),.inr (.inr (.inl ⟨rfl,a,b,rfl,h1,h2,by omega,λH' s=>⟨nw,rfl,.inr (.inr (.inr (.inl ⟨rfl,rfl⟩))),s⟩⟩))⟩)))
theorem Q0 {i:Int} (h0:0≤i) (h1:i<10 ^ 12):num? (M.tx i)=true∧numOf (M.tx i)=i∧M.yh (M.tx i)∧(M.tx i).length≤12∧32∉M.cd (M.tx i):=by
 obtain⟨a1,a2,a3,a4,a5⟩:=M.aar h0 h1
 exact⟨a1,a2,a3,by rw[←M.V2];exact a5,M.h_ h0⟩
theorem Lf {z w:Str} {vs:List Str} (e:M.cd z=M.R (M.cd w) (vs.map M.cd)) (hw:∀x∈w :: vs,(M.yh x∧x.length≤400)∧32∉M.cd x) (hl:vs.length≤70) (lz:z.length≤5000):Uh z (w :: vs):=
 ⟨M.E_ (hw w List.mem_cons_self).2 (λx hx=>(hw x (List.mem_cons_of_mem _ hx)).2) e,lz,by rw[List.length_cons];omega,λx hx=>⟨(hw x hx).1.1,by have:=(hw x hx).1.2;omega⟩⟩
def eY (x:Str):Bool:=x.cps.toList.all (λc=>decide (c<128) && decide (c≠32)) && decide (x.length≤400)
theorem QZ {x:Str} (h:eY x=true):(M.yh x∧x.length≤400)∧32∉M.cd x:=by
 unfold eY at h
 simp only[Bool.and_eq_true,decide_eq_true_eq,List.all_eq_true]at h
 exact⟨⟨λc hc=>(h.1 c hc).1,h.2⟩,λz=>(h.1 32 z).2 rfl⟩
theorem tO {i:Int} (h0:0≤i) (h1:i<10 ^ 12):(M.yh (M.tx i)∧(M.tx i).length≤400)∧32∉M.cd (M.tx i):=by
 obtain⟨_,_,a3,a4,a5⟩:=Q0 h0 h1
 exact⟨⟨a3,by omega⟩,a5⟩
theorem Sg:M.cd (Str.ofString "pack ")=M.cd (Str.ofString "pack")++[32]∧M.cd (Str.ofString "riffle pt")=M.cd (Str.ofString "riffle")++32 :: M.cd (Str.ofString "pt")∧M.cd (Str.ofString " 0")=32 :: M.cd (Str.ofString "0")∧M.cd (Str.ofString " 1")=32 :: M.cd (Str.ofString "1")∧M.cd (Str.ofString "way ")=M.cd (Str.ofString "way")++[32]∧M.cd (Str.ofString "riffle ")=M.cd (Str.ofString "riffle")++[32]∧M.cd (Str.ofString "riffle p")=M.cd (Str.ofString "riffle")++32 :: M.cd (Str.ofString "p"):=by decide +kernel
theorem GK {i:Int} (h0:0≤i) (h1:i<10 ^ 12):Uh (Str.ofString "pack "++M.tx i) [Str.ofString "pack",M.tx i]:=by
 have t:=tO h0 h1
 refine Lf ?_ (λx hx=>?_) (by show 1≤70;decide) ?_
 ·rw[M.XC,Sg.1];simp[M.R]
 ·rcases List.mem_cons.mp hx with rfl |hx
  ·exact QZ (by decide +kernel)
  ·have:x=M.tx i:=by simpa using hx
   rw[this];exact t
 ·rw[PySem.Str.length_append,show(Str.ofString "pack ").length=5 by decide +kernel];omega
theorem jU:mk? (Str.ofString "pt")=true∧(mkOf (Str.ofString "pt")).length=2:=by decide +kernel
theorem tM {k:Nat} {x:Str} (vs:List Str) (hx:eY x=true) (hv:∀y∈vs,(M.yh y∧y.length≤400)∧32∉M.cd y) {z:Str} (e:M.cd z=M.cd (Str.ofString "riffle pt")++(List.replicate k (32 :: M.cd x)).flatten++(vs.map λv=>32 :: M.cd v).flatten) (hk:k+vs.length≤60) (lz:z.length≤5000):Uh z (Str.ofString "riffle" :: Str.ofString "pt" :: (List.replicate k x++vs)):=by
 refine Lf ?_ (λy hy=>?_) (by rw[List.length_cons,List.length_append,List.length_replicate];omega) lz
 ·rw[e,Sg.2.1]
  unfold M.R
  simp[List.map_replicate,Function.comp_def]
 ·rcases List.mem_cons.mp hy with rfl |hy
  ·exact QZ (by decide +kernel)
  rcases List.mem_cons.mp hy with rfl |hy
  ·exact QZ (by decide +kernel)
  rcases List.mem_append.mp hy with hy |hy
  ·rw[List.eq_of_mem_replicate hy];exact QZ hx
  ·exact hv y hy
end
section
variable {X:Cx} {e a b c:Expr} {es:List Expr} {te ta tb:TE} {t:TA} {u v:TS} {pos p:Pos} {sa sb:List Stmt} {tc:TT}
@[irreducible] def JT (X:Cx) (e:Expr) (t:TT):Prop:=PT X e t
theorem jt (h:PT X e tc):JT X e tc:=by unfold JT;exact h
theorem tj (h:JT X e tc):PT X e tc:=by unfold JT at h;exact h
theorem jT:JB X [] dI:=jBl Zz
theorem jR (hc:JT X c tc) (ha:JB X sa u) (hb:JB X sb v):JS X (.If c sa sb pos) (abd tc u v):=jSt (Zn (tj hc) (blJ ha) (blJ hb))
theorem jQ {op:CmpOp} {r:R2} (ho:Qt X (compareOp op) r) (ha:JE X a ta) (hb:JE X b tb) (hm:behindInMarks op b=false):JT X (.Compare a [op] [b] pos) (pR (bD r ta tb)):=jt (Zu ho (ej ha) (ej hb) hm)
theorem qy {x1} (h:JA X es t):JE X (.Tuple es x1 pos) (abq t):=je (TV (fj h))
theorem eX {x:Str} {T:String} {r:List V→Hp→VK→Prop} (hc:Xv X (.type T) r) (hg:Gl X x) (hm:X.mg x=none) (hv:bootBuiltins x=some (.type T)) (ha:JA X (e :: es) t) (hn:x≠"__name__":=by decide) (hdb:(x==("__debug__":Str))=false:=by decide)
 (he:starEach (e :: es) X.env=(false,eval e X.env) :: starEach es X.env:=by rfl) (hpl:(backTo pos (starEach es X.env)).any (·.1)=false:=by rfl):JE X (.Call (.Name x p) (e :: es) [] pos) (tCB r t):=je (Zd hc hg hm hv (fj ha) hn hdb he hpl)
end
section
variable {P:Program} {w:World} {K:PySem.W.Frag} {mg:Str→Option Value} {base:Heap} {k:Nat}
def GJ (K:PySem.W.Frag):Sp:=JL λa b H Q=>∃(n:Nat) (c:Int),a= .int n∧b= .int c∧(1≤n∧n≤12)∧∀z lbl ws t H',Uh z ws→bT n ws lbl→Same H H'→H t=none→H' t=some (.tup [.str z,.str lbl])→Q (.ref t) H'
theorem acu {j m:Int} (h0:0≤j) (h1:j<3) (m0:0≤m) (m1:m<10 ^ 9):∃i:Int,MP [V.str (Str.ofString "0"),V.str (Str.ofString "61"),V.str (Str.ofString (toString (61+m)))] j=some (V.str (M.tx i))∧(0≤i∧i<10 ^ 12)∧(i<1∨60<i):=by
 have:j=0∨j=1∨j=2:=by omega
 rcases this with rfl |rfl |rfl
 ·exact⟨0,by rw[show M.tx 0=Str.ofString "0" by decide +kernel];exact qd (by decide) rfl,by decide,by decide⟩
 ·exact⟨61,by rw[show M.tx 61=Str.ofString "61" by decide +kernel];exact qd (by decide) rfl,by decide,by decide⟩
 ·exact⟨61+m,qd (by decide) rfl,by omega,by omega⟩
theorem eV {j:Int} (h0:0≤j) (h1:j<2):∃x:Str,MP [V.str (Str.ofString "p"),V.str (Str.ofString "t")] j=some (V.str x)∧mk? x=true∧(mkOf x).length=1∧eY x=true∧x.length=1:=by
 have:j=0∨j=1:=by omega
 rcases this with rfl |rfl
 ·exact⟨_,qd (by decide) rfl,by decide +kernel,by decide +kernel,by decide +kernel,by decide +kernel⟩
 ·exact⟨_,qd (by decide) rfl,by decide +kernel,by decide +kernel,by decide +kernel,by decide +kernel⟩
theorem Wm {z:Str} {ws:List Str} (h:okB z=true) (e:PySem.Txt.split z (Str.ofString " ")=ws):Uh z ws:=by rw[←e];exact tQ h
theorem jP (T:Txt K mg):Has P w K mg base (k+1) "_law_due" ["_law_n","_law_cell"] (GJ K):=by
 refine acs T.uh Hl len2 (λf cdv A outer s H vs Q E hr h=>?_)
 obtain⟨a0,a1,rfl,h⟩:=h
 refine⟨_,Lg (BW (i:=2) Hl.nd rfl (Or.inl rfl) (eX Ze rfl T.Sx PyProof.Rows.boot_str (Zi (YD Zo (je (pv 0)) (YD Yi (YD Yb (je (pv 1)) WR) (YD K9 WR WR))) Q5)))
  (Lg (BW (i:=3) Hl.nd rfl (Or.inl rfl) (YD Yi (je (pv 1)) WR))
  (Lg (jR (jQ YJ (je (pv 3)) WR (Zv _))
  (vH (vG (qy (Zi (YD Zt Zj (aaR (ZQ (K:=K)) (BX (Zi Zj (Zi Zj (Zi (eX Ze rfl T.Sx PyProof.Rows.boot_str (Zi (YD Zo WR (YD Yi (YD Yb (je (pv 1)) WR) (YD K9 WR WR))) Q5)) Q5)))) (YD Yi (YD Yb (je (pv 1)) WR) WR) (λ_ _=>rfl))) (Zi Zj Q5)))))
  jT)
  (Lg (jR (jQ YJ (je (pv 3)) WR (Zv _))
  (vH (vG (qy (Zi (YD Zt Zj (YD Xu Zj (YD X7 (YD Zo (je (pv 0)) WR) (YD X_ WR (YD Yi (YD Yb (je (pv 1)) WR) WR))))) (Zi Zj Q5)))))
  jT)
  (Lg (jR (jQ YJ (je (pv 3)) WR (Zv _))
  (vH (vG (qy (Zi (YD Zt (YD Zt (YD Zt Zj (YD Xu Zj (YD X7 (je (pv 0)) WR))) Zj) (eX Ze rfl T.Sx PyProof.Rows.boot_str (Zi (YD Zo WR (YD Yi (YD Yb (je (pv 1)) WR) (YD K9 WR WR))) Q5))) (Zi Zj Q5)))))
  jT)
  (Lg (jR (jQ YJ (je (pv 3)) WR (Zv _))
  (vH (vG (qy (Zi (YD Zt (YD Zt (YD Zt Zj (aaR (ZQ (K:=K)) (BX (Zi Zj (Zi Zj Q5))) (YD Yi (YD Yb (je (pv 1)) WR) WR) (λ_ _=>rfl))) Zj) (eX Ze rfl T.Sx PyProof.Rows.boot_str (Zi (YD Zo WR (YD Yi (YD Yb (je (pv 1)) WR) (YD K9 WR WR))) Q5))) (Zi Zj Q5)))))
  jT)
  (Lg (jR (jQ YJ (je (pv 3)) WR (Zv _))
  (vH (vG (qy (Zi (YD Zt (YD Zt (YD Zt Zj (YD Xu Zj WR)) Zj) (YD Xu Zj WR)) (Zi Zj Q5)))))
  jT)
  (vH (vG (qy (Zi Zj (Zi Zj Q5))))))))))),?_⟩
 obtain⟨n,c,rfl,rfl,⟨n1,n12⟩,q⟩:=h
 have m0:=Int.emod_nonneg (c / 6) (show(10 ^ 9:Int)≠0 by decide)
 have m1:=Int.emod_lt_of_pos (c / 6) (show(0:Int)<10 ^ 9 by decide)
 have j0:=Int.emod_nonneg (c / 6) (show(3:Int)≠0 by decide)
 have j1:=Int.emod_lt_of_pos (c / 6) (show(0:Int)<3 by decide)
 have b0:=Int.emod_nonneg (c / 6) (show(2:Int)≠0 by decide)
 have b1:=Int.emod_lt_of_pos (c / 6) (show(0:Int)<2 by decide)
 obtain⟨m,hm⟩:∃m,m=c / 6 % 10 ^ Int.toNat 9:=⟨_,rfl⟩
 have m0':0≤m:=by rw[hm];exact m0
 have m1':m<10 ^ 9:=by rw[hm];exact m1
 have lg:∀i:Int,0≤i→i<10 ^ 12→i.natAbs.log2<1920:=λi h0 h1=>M.Tv h0 (Int.lt_of_lt_of_le h1 (by decide +kernel))
 walk_at "rd"
 refine⟨by rw[←hm];exact lg _ (by omega) (by omega),?_⟩
 walk_at "rd"
 refine XR (λcc=>?_) (λcc=>?_)
 ·walk_at "rd"
  refine⟨by rw[←hm];exact lg _ (by omega) (by omega),?_⟩
  walk_at "rd"
  intro L hL
  generalize eL0:upd H L _=H1
  obtain⟨s1,eL⟩:=ZG hL eL0
  clear eL0
  obtain⟨i,hi,⟨i0,i1⟩,ib⟩:=acu j0 j1 m0' m1'
  rw[hm]at hi
  walk_at "rd"
  refine⟨L,_,_,_,rfl,rfl,ZJ.of eL,hi,?_⟩
  have li:=(Q0 i0 i1).2.2.2.1
  refine⟨_,_,rfl,rfl,by rw[show(Str.ofString "pack ").length=5 by decide +kernel];exact Zx (by omega),?_⟩
  walk_at "rd"
  intro t ht
  generalize et:upd H1 t _=H9
  obtain⟨s9,eT⟩:=ZG ht et
  clear et
  obtain⟨k1,k2,_⟩:=Q0 i0 i1
  exact q _ _ _ t H9 (GK i0 i1) (.inl ⟨rfl,_,rfl,k1,by rw[k2];exact ib⟩) (s1.trans s9) (s1.free ht) eT
 walk_at "rd"
 refine XR (λcc=>?_) (λcc=>?_)
 ·walk_at "rd"
  obtain⟨kn,hk⟩:∃kn:Nat,(n:Int)+1-2*(c / 6 % 2)=kn:=⟨((n:Int)+1-2*(c / 6 % 2)).toNat,by omega⟩
  have kne:kn≠n:=by omega
  have k13:kn≤13:=by omega
  rw[hk]
  refine⟨M.Rk (by omega) (by omega) (by decide +kernel),?_⟩
  have lm:(PySem.Txt.mul (Str.ofString " 0") (kn:Int)).length=kn*2:=by rw[M.Mw _ (by omega),Int.toNat_natCast,show(Str.ofString " 0").length=2 by decide +kernel]
  have cm:M.cd (PySem.Txt.mul (Str.ofString " 0") (kn:Int))=(List.replicate kn (32 :: M.cd (Str.ofString "0"))).flatten:=by rw[M.Ih _ (by omega),Int.toNat_natCast,Sg.2.2.1]
  generalize PySem.Txt.mul (Str.ofString " 0") (kn:Int)=zk at lm cm ⊢
  have l9:(Str.ofString "riffle pt").length=9:=by decide +kernel
  refine⟨_,_,rfl,rfl,by rw[l9,lm];exact Zx (by omega),?_⟩
  walk_at "rd"
  intro t ht
  generalize et:upd H t _=H9
  obtain⟨s9,eT⟩:=ZG ht et
  clear et
  have ro:Uh (Str.ofString "riffle pt"++zk) _:=tM (k:=kn) (x:=Str.ofString "0") [] (by decide +kernel) (by simp) (by rw[M.XC,cm];simp) (by show kn+0≤60;omega) (by rw[PySem.Str.length_append,l9,lm];omega)
  refine q _ _ _ t H9 ro (.inr (.inl ⟨rfl,_,_,rfl,jU.1,λx hx=>?_,ud ?_⟩)) s9 ht eT
  ·rw[List.append_nil]at hx
   rw[List.eq_of_mem_replicate hx];decide +kernel
  ·rw[List.length_map,List.length_map,List.append_nil,List.length_replicate];omega
 walk_at "rd"
 refine XR (λcc=>?_) (λcc=>?_)
 ·walk_at "rd"
  obtain⟨kn,hk⟩:∃kn:Nat,(n:Int)-1=kn:=⟨n-1,by omega⟩
  rw[hk]
  refine⟨M.Rk (by omega) (by omega) (by decide +kernel),?_⟩
  have lm:(PySem.Txt.mul (Str.ofString " 1") (kn:Int)).length=kn*2:=by rw[M.Mw _ (by omega),Int.toNat_natCast,show(Str.ofString " 1").length=2 by decide +kernel]
  have cm:M.cd (PySem.Txt.mul (Str.ofString " 1") (kn:Int))=(List.replicate kn (32 :: M.cd (Str.ofString "1"))).flatten:=by rw[M.Ih _ (by omega),Int.toNat_natCast,Sg.2.2.2.1]
  generalize PySem.Txt.mul (Str.ofString " 1") (kn:Int)=zk at lm cm ⊢
  have l9:(Str.ofString "riffle pt").length=9:=by decide +kernel
  have l1:(Str.ofString " ").length=1:=by decide +kernel
  refine⟨_,_,rfl,rfl,by rw[l9,lm];exact Zx (by omega),?_⟩
  refine⟨_,_,rfl,rfl,by rw[PySem.Str.length_append,l9,lm,l1];exact Zx (by omega),?_⟩
  walk_at "rd"
  refine⟨by rw[←hm];exact lg _ (by omega) (by omega),?_⟩
  rw[←hm]
  have i0:0≤2+m:=by omega
  have i1:2+m<10 ^ 12:=by omega
  obtain⟨x1,x2,x3,x4,x5⟩:=Q0 i0 i1
  have x4':(Str.ofString (toString (2+m))).length≤12:=x4
  refine⟨_,_,rfl,rfl,by rw[PySem.Str.length_append,PySem.Str.length_append,l9,lm,l1];exact Zx (by omega),?_⟩
  walk_at "rd"
  intro t ht
  generalize et:upd H t _=H9
  obtain⟨s9,eT⟩:=ZG ht et
  clear et
  have ro:Uh (Str.ofString "riffle pt"++zk++Str.ofString " "++M.tx (2+m)) _:=tM (k:=kn) (x:=Str.ofString "1") [M.tx (2+m)] (by decide +kernel) (λy hy=>by
   have:y=M.tx (2+m):=by simpa using hy
   rw[this];exact tO i0 i1) (by rw[M.XC,M.XC,M.XC,cm,M.Ah];simp) (by show kn+1≤60;omega) (by rw[PySem.Str.length_append,PySem.Str.length_append,PySem.Str.length_append,l9,lm,l1];omega)
  refine q _ _ _ t H9 ro (.inr (.inl ⟨rfl,_,_,rfl,jU.1,λx hx=>?_,fY (v:=.int (2+m)) ?_ ?_⟩)) s9 ht eT
  ·rcases List.mem_append.mp hx with hx |hx
   ·rw[List.eq_of_mem_replicate hx];decide +kernel
   ·have:x=M.tx (2+m):=by simpa using hx
    rw[this];exact x1
  ·rw[jU.2]
   show(decide (0≤2+m) && decide (2+m<((2:Nat):Int)))=false
   rw[decide_eq_false (show ¬ 2+m<((2:Nat):Int)by omega),Bool.and_false]
  ·refine List.mem_map.mpr ⟨2+m,List.mem_map.mpr ⟨M.tx (2+m),by simp,x2⟩,rfl⟩
 walk_at "rd"
 refine XR (λcc=>?_) (λcc=>?_)
 ·walk_at "rd"
  intro L hL
  generalize eL0:upd H L _=H1
  obtain⟨s1,eL⟩:=ZG hL eL0
  clear eL0
  obtain⟨x,hx,y1,y2,y3,y4⟩:=eV b0 b1
  walk_at "rd"
  refine⟨L,_,_,_,rfl,rfl,ZJ.of eL,hx,?_⟩
  have l4:(Str.ofString "way ").length=4:=by decide +kernel
  have l1:(Str.ofString " ").length=1:=by decide +kernel
  refine⟨_,_,rfl,rfl,by rw[l4,y4];exact Zx (by omega),?_⟩
  refine⟨_,_,rfl,rfl,by rw[PySem.Str.length_append,l4,y4,l1];exact Zx (by omega),?_⟩
  walk_at "rd"
  refine⟨by rw[←hm];exact lg _ (by omega) (by omega),?_⟩
  rw[←hm]
  have i0:0≤1+m:=by omega
  have i1:1+m<10 ^ 12:=by omega
  obtain⟨x1,x2,x3,x4,x5⟩:=Q0 i0 i1
  have x4':(Str.ofString (toString (1+m))).length≤12:=x4
  refine⟨_,_,rfl,rfl,by rw[PySem.Str.length_append,PySem.Str.length_append,l4,y4,l1];exact Zx (by omega),?_⟩
  walk_at "rd"
  intro t ht
  generalize et:upd H1 t _=H9
  obtain⟨s9,eT⟩:=ZG ht et
  clear et
  have ro:Uh (Str.ofString "way "++x++Str.ofString " "++M.tx (1+m)) [Str.ofString "way",x,M.tx (1+m)]:=Lf (by rw[M.XC,M.XC,M.XC,Sg.2.2.2.2.1,M.Ah];simp[M.R]) (λy hy=>by
   rcases List.mem_cons.mp hy with rfl |hy
   ·exact QZ (by decide +kernel)
   rcases List.mem_cons.mp hy with rfl |hy
   ·exact QZ y3
   ·have:y=M.tx (1+m):=by simpa using hy
    rw[this];exact tO i0 i1) (by show 2≤70;decide) (by rw[PySem.Str.length_append,PySem.Str.length_append,PySem.Str.length_append,l4,y4,l1];omega)
  exact q _ _ _ t H9 ro (.inr (.inr ⟨rfl,_,_,rfl,y1,x1,by rw[x2,y2,Nat.one_pow];show(1:Int)≤1+m;omega⟩)) (s1.trans s9) (s1.free ht) eT
 walk_at "rd"
 refine XR (λcc=>?_) (λcc=>?_)
 ·walk_at "rd"
  refine⟨M.Rk (by decide) (by decide) (by decide +kernel),?_⟩
  have e6:PySem.Txt.mul (Str.ofString "pt") 3=Str.ofString "ptptpt":=by decide +kernel
  rw[e6]
  have l4:(Str.ofString "way ").length=4:=by decide +kernel
  have l1:(Str.ofString " ").length=1:=by decide +kernel
  have l6:(Str.ofString "ptptpt").length=6:=by decide +kernel
  refine⟨_,_,rfl,rfl,by rw[l4,l6];exact Zx (by omega),?_⟩
  refine⟨_,_,rfl,rfl,by rw[PySem.Str.length_append,l4,l6,l1];exact Zx (by omega),?_⟩
  walk_at "rd"
  refine⟨M.Rk (by decide) (by decide) (by decide +kernel),?_⟩
  have e9:PySem.Txt.mul (Str.ofString "9") 12=Str.ofString "999999999999":=by decide +kernel
  rw[e9]
  have l12:(Str.ofString "999999999999").length=12:=by decide +kernel
  refine⟨_,_,rfl,rfl,by rw[PySem.Str.length_append,PySem.Str.length_append,l4,l6,l1,l12];exact Zx (by omega),?_⟩
  walk_at "rd"
  intro t ht
  generalize et:upd H t _=H9
  obtain⟨s9,eT⟩:=ZG ht et
  clear et
  have p6:6 ^ n≤6 ^ 12:=Nat.pow_le_pow_right (by decide) n12
  have n6:(mkOf (Str.ofString "ptptpt")).length=6:=by decide +kernel
  have n9:numOf (Str.ofString "999999999999")=999999999999:=by decide +kernel
  exact q _ _ [Str.ofString "way",Str.ofString "ptptpt",Str.ofString "999999999999"] t H9 (Wm (by decide +kernel) (by decide +kernel)) (.inr (.inr ⟨rfl,_,_,rfl,by decide +kernel,by decide +kernel,by rw[n6,n9];omega⟩)) s9 ht eT
 walk_at "rd"
 intro t ht
 generalize et:upd H t _=H9
 obtain⟨s9,eT⟩:=ZG ht et
 clear et
 refine q _ _ [Str.ofString "riffle",Str.ofString "p"] t H9 (Wm (by decide +kernel) (by decide +kernel)) (.inr (.inl ⟨rfl,Str.ofString "p",[],rfl,by decide +kernel,by simp,ud (by show((0:Nat):Int)≠n;omega)⟩)) s9 ht eT
end
section
variable {P:Program} {w:World} {K:PySem.W.Frag} {mg:Str→Option Value} {base:Heap} {k:Nat}
def seven:List Str:=[Str.ofString "order",Str.ofString "falls",Str.ofString "runs",Str.ofString "whole",Str.ofString "second",Str.ofString "first",Str.ofString "rests"]
theorem jO {n:Nat} {ps:List Rf} (h:(M.jl n ps.reverse).1.length≤400):∀z∈seven,Uh z [z]∧Ask n ps z:=by
 intro z hz
 have c:∀y∈seven,okB y=true∧PySem.Txt.split y (Str.ofString " ")=[y]:=by decide +kernel
 refine⟨Wm (c z hz).1 (c z hz).2,?_⟩
 unfold seven at hz
 simp only[List.mem_cons,List.not_mem_nil,or_false]at hz
 rcases hz with e |e |e |e |e |e |e
 ·exact .inl e
 ·exact .inr (.inl e)
 ·exact .inr (.inr (.inl e))
 ·exact .inr (.inr (.inr (.inl ⟨e,h⟩)))
 ·exact .inr (.inr (.inr (.inr (.inl e))))
 ·exact .inr (.inr (.inr (.inr (.inr (.inl e)))))
 ·exact .inr (.inr (.inr (.inr (.inr (.inr e)))))
def Rt (K:PySem.W.Frag) (C CD:Addr):Sp:=QW λx H Q=>∃(a p r':Addr) (n:Nat) (l:List Int) (os:List (List Int)) (ps:List Rf),Dk CD C H a p r' n (l :: os) ps∧x= .ref a∧(M.jl n ps.reverse).1.length≤400∧∀L ts H',Same H H'→H L=none→H' L=some (.lst (ts.map V.str))→Paired (Ph n l ps) seven ts→Q (.ref L) H'
theorem take_snoc {α:Type} {l:List α} {j:Nat} {x:α} (h:l[j]? =some x):l.take (j+1)=l.take j++[x]:=by
 rw[List.take_add_one,h]
 rfl
theorem qx (T:Txt K mg) {C:Addr} {CD:Addr} (UD:JD K mg CD) {np nr nw tm nt:Addr} (Zf:Tz P w K mg base 24 CD "say" ["self","row"] (Xm K CD C np nr nw tm nt)):Has P w K mg base 25 "_law_seen" ["_law_desk"] (Rt K C CD):=by
 refine T.zA.has (k:=24) qO len1 (λf cdv A outer s H vs Q E hr h=>?_)
 obtain⟨a0,rfl,h⟩:=h
 refine⟨_,Z6 (ZR (YF (vars:=["_law_row"]) (caps:=[0]) (ZD.of (outer:=Z9 Tr) (N:=["_law_desk"]) rfl rfl ⟨by decide +kernel⟩) rfl (YX (K:=K) (Yh (Z_ ZK (Z_ ZK (Z_ ZK (Z_ ZK (Z_ ZK (Z_ ZK (Z_ ZK Z8))))))))) ⟨λ_ _ _ _=>⟨(Zy (i:=0) (show List.Nodup (["_law_row","_law_desk"]:List Str)by decide +kernel) rfl (Or.inl rfl)),YG,(X6 (pv 1) UD.cl Zf hr Qo (Z_ (pv 0) Z8))⟩⟩)),?_⟩
 obtain⟨a,p,r',n,l,os,ps,S,rfl,hj,q⟩:=h
 have sv:=jO hj
 obtain⟨dx,ha⟩:=S.d
 walk_at "rd"
 intro L0 hL0
 generalize e0:upd H L0 _=H0
 obtain⟨s0,eL0⟩:=ZG hL0 e0
 clear e0
 have acv:H0 L0=some (.lst (seven.map V.str)):=eL0
 have l7:(seven.map V.str).length=7:=by decide +kernel
 refine⟨L0,rfl,⟨_,ZJ.of acv⟩,?_⟩
 refine nO (xs:=seven.map V.str) (λacc i vs H'=>Same H0 H'∧∃ts,vs=ts.map V.str∧Paired (Ph n l ps) (seven.take i) ts) (by rw[l7,sizeLine_eq];decide) (λacc ha=>⟨Same.new ha _,[],rfl,.nil⟩) (λacc i vs H' _ _ pv=>ZJ.of (pv.1 _ _ acv)) ?_ ?_
 ·intro acc i v t vs H' N Kt hacc hi hv lv ⟨s1,ts,ev,pr⟩ ea k1
  have hi':i<seven.length:=by rw[List.length_map]at hi;exact hi
  have e0:seven[i]? =some seven[i]:=List.getElem?_eq_getElem hi'
  obtain⟨ro,ak⟩:=sv _ (List.getElem_mem hi')
  have tk:=take_snoc e0
  rw[List.getElem?_map,e0]at hv
  cases hv
  generalize seven[i]=z at ro ak tk
  have s01:=s0.trans s1
  walk_at "rd"
  refine⟨a,dx,Ru p,rfl,s01 _ _ ha,rfl,?_⟩
  walk_at "rd"
  refine⟨a,p,r',n,l,os,ps,z,[z],S.same s01,rfl,rfl,ro.sp,ro.lz,⟨ro.lw,ro.wd⟩,.inl ⟨z,rfl,.inl ⟨ak,λtt H2 tl s2=>?_⟩⟩⟩
  refine k1 _ _ H2 (s2 _ _ ea) ⟨(s1.trans s2).put hacc,ts++[tt],by rw[ev,List.map_append];rfl,?_⟩
  rw[tk]
  exact pr.snoc tl
 ·intro acc vs H' hacc lv ⟨s1,ts,ev,pr⟩ ea
  subst ev
  rw[l7,show seven.take 7=seven from rfl]at pr
  exact q acc ts H' (s0.trans s1) (s0.free hacc) ea pr
theorem Ph.uniq {n:Nat} {l:List Int} {ps:List Rf} {w t t':Str} (h:Ph n l ps w t) (h':Ph n l ps w t'):t=t':=by
 generalize ew:w=w' at h'
 cases h<;>cases h'<;>first |rfl | (exact absurd ew (by decide +kernel)) |skip
 ·rename_i a b c d
  exact absurd (jx.not ‹_› ‹_›) id
 ·exact absurd (jx.not ‹_› ‹_›) id
 ·rename_i j k f1 j' k' f2
  obtain⟨rfl,rfl⟩:=jx.uniq f1 f2
  rfl
theorem Km {n:Nat} {l:List Int} {ps:List Rf}:∀{ws ts ts':List Str},Paired (Ph n l ps) ws ts→Paired (Ph n l ps) ws ts'→ts=ts'
 | [],_,_,.nil,.nil=>rfl
 |_ :: _,_,_,.cons a b,.cons a' b'=>by rw[a.uniq a',Km b b']
theorem GF {bs:List Bool} (h1:1≤bs.length) (h2:bs.length≤400):mk? (Vs bs)=true∧mkOf (Vs bs)=bs:=by
 have e:M.cd (Vs bs)=bs.map λb=>if b=true then 116 else 112:=rfl
 refine⟨?_,?_⟩
 ·unfold mk? M.Ik
  rw[e,List.length_map,decide_eq_true h1,decide_eq_true h2]
  simp only[Bool.true_and,List.all_eq_true]
  intro c hc
  obtain⟨b,_,rfl⟩:=List.mem_map.mp hc
  cases b<;>rfl
 ·unfold mkOf M.mk
  rw[e,List.map_map]
  refine(List.map_congr_left (g:=id) λb _=>?_).trans (List.map_id _)
  cases b<;>rfl
theorem yE {bs:List Bool} (h2:bs.length≤400):(M.yh (Vs bs)∧(Vs bs).length≤400)∧32∉M.cd (Vs bs):=by
 have e:M.cd (Vs bs)=bs.map λb=>if b=true then 116 else 112:=rfl
 refine⟨⟨λc hc=>?_,by rw[T5];exact h2⟩,λz=>?_⟩
 ·rw[e]at hc
  obtain⟨b,_,rfl⟩:=List.mem_map.mp hc
  cases b<;>decide
 ·rw[e]at z
  obtain⟨b,_,hb⟩:=List.mem_map.mp z
  cases b<;>cases hb
theorem eU {ws:List Int} (h:∀x∈ws,0≤x∧x<10 ^ 12):(∀z∈ws.map M.tx,num? z=true)∧(ws.map M.tx).map numOf=ws:=by
 refine⟨λz hz=>?_,?_⟩
 ·obtain⟨x,hx,rfl⟩:=List.mem_map.mp hz
  exact(Q0 (h x hx).1 (h x hx).2).1
 ·rw[List.map_map]
  exact(List.map_congr_left (g:=id) λx hx=>(Q0 (h x hx).1 (h x hx).2).2.1).trans (List.map_id _)
theorem jN {bs:List Bool} {ws:List Int} {z:Str} (h2:bs.length≤400) (hw:∀x∈ws,0≤x∧x<10 ^ 12) (h1:1≤ws.length) (h60:ws.length≤60) (ez:z=Str.ofString "riffle "++Vs bs++Str.ofString " "++M.QV ws):Uh z (Str.ofString "riffle" :: Vs bs :: ws.map M.tx):=by
 subst ez
 have lg:=Kr ws λx hx=>by have:=hw x hx;omega
 refine Lf ?_ (λy hy=>?_) (by rw[List.length_cons,List.length_map];omega) ?_
 ·cases ws with
  |nil=>simp at h1
  |cons i l =>
   rw[M.XC,M.XC,M.XC,Sg.2.2.2.2.2.1,M.Ah,M.Ag]
   unfold M.R
   simp[Function.comp_def]
 ·rcases List.mem_cons.mp hy with rfl |hy
  ·exact QZ (by decide +kernel)
  rcases List.mem_cons.mp hy with rfl |hy
  ·exact yE h2
  ·obtain⟨x,hx,rfl⟩:=List.mem_map.mp hy
   exact tO (hw x hx).1 (hw x hx).2
 ·rw[PySem.Str.length_append,PySem.Str.length_append,PySem.Str.length_append,T5,show(Str.ofString "riffle ").length=7 by decide +kernel,show(Str.ofString " ").length=1 by decide +kernel]
  omega
theorem acw (b:Bool):MP (M.cd (Str.ofString "pt")) (if b=true then 1 else 0)=some (if b=true then 116 else 112):=by cases b<;>decide +kernel
end
section
variable {P:Program} {w:World} {K:PySem.W.Frag} {mg:Str→Option Value} {base:Heap} {k:Nat}
theorem jM {CD C r np nm nr nw tm nf nt:Addr} {H:Hp} {a p r':Addr} {n:Nat} {l:List Int} {os:List (List Int)} {ps:List Rf} {x y:Str} (h:20<n) (hx:num? x=true) (hy:num? y=true):bW CD C np nr nw tm nt H a p r' n l os ps [Str.ofString "far",x,y] (λ_ _=>False) (fB K r np nm nr nw tm nf nt "text" H):=
 .inr (.inr (.inr (.inr ⟨_,x,[y],rfl,λz=>absurd z (by decide +kernel),.inr (.inr (.inr (.inr ⟨.inr (.inr (.inr (.inr (.inl ⟨rfl,x,y,rfl,hx,hy,.inl h⟩)))),λH' s=>⟨nt,rfl,.inl ⟨rfl,rfl⟩,s⟩⟩)))⟩)))
theorem yD (k:Nat):M.cd (PySem.Txt.mul (Str.ofString " 0") (k:Int))=(List.replicate k (32 :: M.cd (Str.ofString "0"))).flatten∧(PySem.Txt.mul (Str.ofString " 0") (k:Int)).length=k*2:=
 ⟨by rw[M.Ih _ (by omega),Int.toNat_natCast,Sg.2.2.1],by rw[M.Mw _ (by omega),Int.toNat_natCast,show(Str.ofString " 0").length=2 by decide +kernel]⟩
theorem yC {bs:List Bool} {k:Nat} {z zk:Str} (h2:bs.length≤400) (h60:k≤60) (ek:M.cd zk=(List.replicate k (32 :: M.cd (Str.ofString "0"))).flatten) (lk:zk.length=k*2) (ez:z=Str.ofString "riffle "++Vs bs++zk):Uh z (Str.ofString "riffle" :: Vs bs :: List.replicate k (Str.ofString "0")):=by
 subst ez
 refine Lf ?_ (λy hy=>?_) (by rw[List.length_cons,List.length_replicate];omega) ?_
 ·rw[M.XC,M.XC,Sg.2.2.2.2.2.1,ek]
  unfold M.R
  simp[List.map_replicate]
 ·rcases List.mem_cons.mp hy with rfl |hy
  ·exact QZ (by decide +kernel)
  rcases List.mem_cons.mp hy with rfl |hy
  ·exact yE h2
  ·rw[List.eq_of_mem_replicate hy];exact QZ (by decide +kernel)
 ·rw[PySem.Str.length_append,PySem.Str.length_append,T5,lk,show(Str.ofString "riffle ").length=7 by decide +kernel]
  omega
theorem qw (k:Nat):(∀x∈List.replicate k (Str.ofString "0"),num? x=true)∧(List.replicate k (Str.ofString "0")).map numOf=List.replicate k 0:=by
 refine⟨λx hx=>?_,?_⟩
 ·rw[List.eq_of_mem_replicate hx];decide +kernel
 ·rw[List.map_replicate,show numOf (Str.ofString "0")=0 by decide +kernel]
theorem yx {h k:Nat} (h1:1≤h):M.Wd h k (List.replicate k 0):=⟨by simp,λx hx=>by rw[List.eq_of_mem_replicate hx];omega⟩
theorem aeC:PySem.Txt.mul (Str.ofString "p") 400=Vs (List.replicate 400 false):=by
 apply M.Wk
 have e:M.cd (Vs (List.replicate 400 false))=(List.replicate 400 false).map (λb=>if b=true then 116 else 112):=rfl
 rw[M.Ih _ (by decide),e,List.map_replicate,M.abZ,show Int.toNat 400=400 from rfl]
 generalize 400=k
 induction k with
 |zero=>rfl
 |succ k ih=>rw[List.replicate_succ,List.flatten_cons,ih,List.replicate_succ];rfl
theorem rpp:Str.ofString "riffle pp"=Str.ofString "riffle "++Vs [false,false]:=by decide +kernel
def GD (K:PySem.W.Frag):Sp:=QW λa H Q=>∃(p:Addr) (ns:List Int),ZJ K H p (iL ns)∧a= .ref p∧ns.length≤63∧∀H',Q (.bl true) H'
theorem Keep.same {M:List Addr} {H0 H H':Hp} (k:Keep M H H') (nw:∀x∈M,H0 x=none) (s:Same H0 H):Same H0 H':=λa o h=>k _ _ (λz=>by rw[nw a z]at h;cases h) (s _ _ h)
structure Ds (CD C:Addr) (H0 H:Hp) (a p r:Addr) (n:Nat) (l:List Int) (os:List (List Int)) (ps:List Rf):Prop where
 sm:Same H0 H
 nw:H0 a=none∧H0 p=none∧H0 r=none
 dk:Dk CD C H a p r n (l :: os) ps
theorem Ds.same {CD C:Addr} {H0 H H':Hp} {a p r:Addr} {n:Nat} {l:List Int} {os:List (List Int)} {ps:List Rf} (S:Ds CD C H0 H a p r n l os ps) (s:Same H H'):Ds CD C H0 H' a p r n l os ps:=⟨S.sm.trans s,S.nw,S.dk.same s⟩
theorem Ds.keep {CD C:Addr} {H0 H H':Hp} {a p r:Addr} {n n':Nat} {l l':List Int} {os os':List (List Int)} {ps ps':List Rf} (S:Ds CD C H0 H a p r n l os ps) (k:Keep [p,r] H H') (P':Pk C H' p r n' (l' :: os') ps'):Ds CD C H0 H' a p r n' l' os' ps':=
 ⟨k.same (λx hx=>by
   rcases List.mem_cons.mp hx with e |hx
   ·rw[e];exact S.nw.2.1
   ·have:x=r:=by simpa using hx
    rw[this];exact S.nw.2.2) S.sm,S.nw,S.dk.keep k P'⟩
theorem Ds.pack {CD C:Addr} {H0 H H':Hp} {a p r p' r':Addr} {n n':Nat} {l l':List Int} {os os':List (List Int)} {ps ps':List Rf} (S:Ds CD C H0 H a p r n l os ps) (k:Keep [a] H H') (hp:H p'=none) (hr:H r'=none) (D':Dk CD C H' a p' r' n' (l' :: os') ps'):Ds CD C H0 H' a p' r' n' l' os' ps':=
 ⟨k.same (λx hx=>by
   have:x=a:=by simpa using hx
   rw[this];exact S.nw.1) S.sm,⟨S.nw.1,S.sm.free hp,S.sm.free hr⟩,D'⟩
theorem yw (l:List Int):PySem.Txt.join (Str.ofString " ") (l.map M.tx)=M.QV l:=rfl
theorem jL (ns:List Int) (lo hi:Option Int):∀v∈K7 (iL ns) lo hi,∃i,v= .int i:=λv hv=>by
 unfold K7 at hv
 have:=List.mem_of_mem_drop (List.mem_of_mem_take hv)
 obtain⟨i,_,rfl⟩:=List.mem_map.mp this
 exact⟨i,rfl⟩
theorem PS.weaken {X:Cx} {st:Stmt} {t t':TS} (h:PS X st t) (i:∀D σ H,t' D σ H→t D σ H):PS X st t':=λpins s σ H D I q=>h pins s σ H D I (i D σ H q)
theorem QF.weaken {X:Cx} {st:List Stmt} {t t':TS} (h:QF X st t) (i:∀D σ H,t' D σ H→t D σ H):QF X st t':=λpins s σ H D I q=>h pins s σ H D I (i D σ H q)
abbrev eN:List Str:=["_law_script","_law_n","_law_desk","_law_many","_law_k","_law_marks_here","_law_word_here","_law_written","_law_seen_here","_law_cell","_law_row","_law_due_here","_law_wide","_law_far_row"]
structure Lw (CD C:Addr) (H0 H:Hp) (a p r LS:Addr) (m:Nat) (l:List Int) (os:List (List Int)) (ps:List Rf) (ts:List Str):Prop where
 S:Ds CD C H0 H a p r m l os ps
 e:H LS=some (.lst (ts.map V.str))
 nl:LS∉[p,r]
 tl:Paired (Ph m l ps) seven ts
 jb:(M.jl m ps.reverse).1.length≤400
 lp:ps.length≤3
 m1:1≤m
 m2:m≤12
theorem Lw.same {CD C:Addr} {H0 H H':Hp} {a p r LS:Addr} {m:Nat} {l:List Int} {os:List (List Int)} {ps:List Rf} {ts:List Str} (y:Lw CD C H0 H a p r LS m l os ps ts) (s:Same H H'):Lw CD C H0 H' a p r LS m l os ps ts:=⟨y.S.same s,s _ _ y.e,y.nl,y.tl,y.jb,y.lp,y.m1,y.m2⟩
def acy (CD C:Addr):TS:=λD σ H=>∃(H0:Hp) (a p r LS:Addr) (m:Nat) (l:List Int) (os:List (List Int)) (ps:List Rf) (ts:List Str) (t0 t3 t4 t5 t6 t7 t9 t10 t11 Eb Ea:Option V),σ=[t0,some (.int m),some (.ref a),t3,t4,t5,t6,t7,some (.ref LS),t9,t10,t11,Eb,Ea]∧Lw CD C H0 H a p r LS m l os ps ts∧∀H',D.rt (.bl true) H'
def acz (K:PySem.W.Frag) (CD C:Addr):TS:=λD σ H=>∃(H0:Hp) (S0:Addr) (ns:List Int) (a p r LS:Addr) (m:Nat) (l:List Int) (os:List (List Int)) (ps:List Rf) (ts:List Str) (t3 t4 t5 t6 t7 t9 t10 t11 Eb Ea:Option V),σ=[some (.ref S0),some (.int m),some (.ref a),t3,t4,t5,t6,t7,some (.ref LS),t9,t10,t11,Eb,Ea]∧ZJ K H S0 (iL ns)∧Lw CD C H0 H a p r LS m l os ps ts∧∀H',D.rt (.bl true) H'
def aaS (K:PySem.W.Frag) (CD C:Addr):TS:=λD σ H=>∃(H0:Hp) (S0:Addr) (ns:List Int) (a p r LS:Addr) (m:Nat) (l:List Int) (os:List (List Int)) (ps:List Rf) (ts:List Str) (t3 t4 t5 t6 t7 t9 t10 t11 Eb Ea:Option V),σ=[some (.ref S0),some (.int m),some (.ref a),t3,t4,t5,t6,t7,some (.ref LS),t9,t10,t11,Eb,Ea]∧ZJ K H S0 (iL ns)∧ns.length≤63∧Lw CD C H0 H a p r LS m l os ps ts∧∀t9 t10 t11 H',Same H H'→D.nx [some (.ref S0),some (.int m),some (.ref a),t3,t4,t5,t6,t7,some (.ref LS),t9,t10,t11,Eb,Ea] H'
def aaT (K:PySem.W.Frag) (CD C:Addr):TS:=λD σ H=>∃(H0:Hp) (S0:Addr) (ns:List Int) (a p r:Addr) (m:Nat) (c:Int) (l:List Int) (os:List (List Int)) (t4 t5 t6 t7 t8 t9 t10 t11 Eb Ea:Option V),σ=[some (.ref S0),some (.int m),some (.ref a),some (.int c),t4,t5,t6,t7,t8,t9,t10,t11,Eb,Ea]∧ZJ K H0 S0 (iL ns)∧Ds CD C H0 H a p r m l os []∧(1≤m∧m≤12∧0≤c∧c<4)∧∀t4 t5 t6 t7 t8 t9 t10 t11 Eb Ea l os ps H',Ds CD C H0 H' a p r m l os ps→ps.length≤3→(∀x∈ps,x.1.length≤4)→D.nx [some (.ref S0),some (.int m),some (.ref a),some (.int c),t4,t5,t6,t7,t8,t9,t10,t11,Eb,Ea] H'
theorem jK (T:Txt K mg) {CD C:Addr} (UD:JD K mg CD) {r np nm nr nw tm nf nt:Addr} {f:Addr} {cdv:Value} {A:Around} {outer:List Env} {s:Shared} {H0:Hp} {E:XK} (hr:YC 26 (A.deeper (PyProof.Rows.envOfC "law" (Z9 Wn) s.heap.objs.size f cdv))) (Zf:Tz P w K mg base 26 CD "say" ["self","row"] (Xm K CD C np nr nw tm nt)) (YS:Has P w K mg base 26 "_law_refused" ["_law_desk","_law_row","_law_due_here"] (VB K CD C r np nm nr nw tm nf nt)) (Vz:Has P w K mg base 26 "_law_seen" ["_law_desk"] (Rt K C CD)):QF (Vp Je P w K mg base eN "law" (Z9 Wn) f cdv A outer s H0 E).JN ((Z2 Wn).drop 12) (acy CD C):=by
 refine QF.weaken (Z7 (ZW (i:=13) VN.nd rfl (Or.inl rfl) (ZS Zt (ZS Zt ZK (ZS Xu ZK Z5)) (ZS Xu ZK (pv 1))))
  (Z7 (YH (X6 (pv 2) UD.cl Zf hr Qo (Z_ (pv 13) Z8)))
  (Z7 (YH (X6 (pv 2) UD.cl Zf hr Qo (Z_ (ZS Zt ZK (ZS Xu ZK (pv 1))) Z8)))
  (Z7 (Zn (Yr (YM (Z4 YS hr (Z_ (pv 2) (Z_ ZK (Z_ ZK Z8))))))
  (Z6 (ZR U3))
  (Zz))
  (Z7 (YH (X6 (pv 2) UD.cl Zf hr Qo (Z_ ZK Z8)))
  (Z7 (YH (X6 (pv 2) UD.cl Zf hr Qo (Z_ ZK Z8)))
  (Z6 (ZR (V3 (abK (K:=K) hr.units) (Z4 Vz hr (Z_ (pv 2) Z8)) (pv 8) (Zv _)))))))))) λD σ H h=>?_
 obtain⟨Hb,a,p2,r2,LS,m,l,os,ps,ts,t0,t3,t4,t5,t6,t7,t9,t10,t11,Eb,Ea,rfl,y,q⟩:=h
 have m2:=y.m2
 have lps:=y.lp
 have S7:=y.S
 have aeD:=y.e
 have nLS:=y.nl
 have tl:=y.tl
 have jb:=y.jb
 walk_at "rd"
 refine⟨M.Rk (by decide) (by decide) (by decide +kernel),?_⟩
 rw[aeC]
 have eH:=T5 (List.replicate 400 false)
 rw[List.length_replicate]at eH
 have lbr:(List.replicate 400 false).length=400:=List.length_replicate
 have l7':(Str.ofString "riffle ").length=7:=by decide +kernel
 generalize List.replicate 400 false=bs at eH lbr ⊢
 refine⟨_,_,rfl,rfl,by rw[l7',eH];exact Zx (by omega),?_⟩
 walk_at "rd"
 refine⟨M.Rk (by omega) (by omega) (by decide +kernel),?_⟩
 obtain⟨cz,lz⟩:=yD m
 generalize PySem.Txt.mul (Str.ofString " 0") (m:Int)=zk at cz lz ⊢
 refine⟨_,_,rfl,rfl,by rw[PySem.Str.length_append,l7',eH,lz];exact Zx (by omega),?_⟩
 obtain⟨dx7,ha7⟩:=S7.dk.d
 walk_at "rd"
 refine⟨a,dx7,Ru p2,rfl,ha7,rfl,?_⟩
 walk_at "rd"
 have ro4:=yC (bs:=bs) (k:=m) (by omega) (by omega) cz lz rfl
 have hm4:=GF (bs:=bs) (by omega) (by omega)
 have zn:=qw m
 refine⟨a,p2,r2,m,l,os,ps,_,_,S7.dk,rfl,rfl,ro4.sp,ro4.lz,⟨ro4.lw,ro4.wd⟩,.inr (.inr (.inr (.inr ⟨_,_,_,rfl,λz=>absurd z (by decide +kernel),.inl ⟨rfl,_,_,rfl,hm4.1,zn.1,by rw[hm4.2,zn.2];exact yx (by omega),by omega,λHI kI PI=>?_⟩⟩)))⟩
 rw[hm4.2,zn.2]at PI
 have S8:=S7.keep kI PI
 have aeE:=kI _ _ nLS aeD
 obtain⟨dx8,ha8⟩:=S8.dk.d
 walk_at "rd"
 refine⟨a,dx8,Ru p2,rfl,ha8,rfl,?_⟩
 walk_at "rd"
 refine⟨M.Rk (by omega) (by omega) (by decide +kernel),?_⟩
 obtain⟨cz2,lz2⟩:=yD m
 generalize PySem.Txt.mul (Str.ofString " 0") (m:Int)=zk2 at cz2 lz2 ⊢
 have l9:(Str.ofString "riffle pp").length=9:=by decide +kernel
 refine⟨_,_,rfl,rfl,by rw[l9,lz2];exact Zx (by omega),?_⟩
 walk_at "rd"
 have ro5:=yC (bs:=[false,false]) (k:=m) (z:=Str.ofString "riffle pp"++zk2) (by decide) (by omega) cz2 lz2 (by rw[rpp])
 have hm5:=GF (bs:=[false,false]) (by decide) (by decide)
 refine⟨a,p2,r2,m,_,_,_,_,_,S8.dk,rfl,rfl,ro5.sp,ro5.lz,⟨ro5.lw,ro5.wd⟩,.inr (.inr (.inr (.inr ⟨_,_,_,rfl,λz=>absurd z (by decide +kernel),.inl ⟨rfl,_,_,rfl,hm5.1,zn.1,by rw[hm5.2,zn.2];exact yx (by decide),by show ps.length+1<90;omega,λHJ kJ PJ=>?_⟩⟩)))⟩
 rw[hm5.2,zn.2]at PJ
 have SJ:=S8.keep kJ PJ
 have aeF:=kJ _ _ nLS aeE
 have gd:=(M.CT S7.dk.pk.hi).2
 have jp:=M.mR (n:=m) ps.reverse λx hx=>gd x (List.mem_reverse.mp hx)
 have big:400<(M.jl m (([false,false],List.replicate m (0:Int)) :: (bs,List.replicate m (0:Int)) :: ps).reverse).1.length:=by
  rw[List.reverse_cons,List.reverse_cons,M.J8,M.J8]
  show 400< _*bs.length*2
  rw[lbr]
  omega
 walk_at "rd"
 refine⟨a,p2,r2,m,_,_,_,Str.ofString "whole",Str.ofString "many",[Str.ofString "whole"],SJ.dk,rfl,rfl,rfl,Wm (by decide +kernel) (by decide +kernel),.inl ⟨_,rfl,.inr (.inr (.inr (.inl ⟨rfl,big,λH' s'=>⟨tm,rfl,.inr (.inr (.inr (.inr ⟨rfl,rfl⟩))),s'⟩⟩)))⟩,λHK sK=>?_⟩
 have SK:=SJ.same sK
 have aeG:=sK _ _ aeF
 obtain⟨dxk,hak⟩:=SK.dk.d
 have ru:Uh (Str.ofString "undo") [Str.ofString "undo"]:=Wm (by decide +kernel) (by decide +kernel)
 walk_at "rd"
 refine⟨a,dxk,Ru p2,rfl,hak,rfl,?_⟩
 walk_at "rd"
 refine⟨a,p2,r2,m,_,_,_,_,_,SK.dk,rfl,rfl,ru.sp,ru.lz,⟨ru.lw,ru.wd⟩,.inl ⟨_,rfl,.inr (.inr (.inl ⟨rfl,_,_,_,_,rfl,rfl,λHL kL PL=>?_⟩))⟩⟩
 have SL:=SK.keep kL PL
 have aeH:=kL _ _ nLS aeG
 obtain⟨dxl,hal⟩:=SL.dk.d
 walk_at "rd"
 refine⟨a,dxl,Ru p2,rfl,hal,rfl,?_⟩
 walk_at "rd"
 refine⟨a,p2,r2,m,_,_,_,_,_,SL.dk,rfl,rfl,ru.sp,ru.lz,⟨ru.lw,ru.wd⟩,.inl ⟨_,rfl,.inr (.inr (.inl ⟨rfl,_,_,_,_,rfl,rfl,λHQ kQ PQ=>?_⟩))⟩⟩
 have SQ:=SL.keep kQ PQ
 have aeI:=kQ _ _ nLS aeH
 walk_at "rd"
 refine⟨a,p2,r2,m,l,os,ps,SQ.dk,rfl,jb,λLT ts2 HR sR hLT eLT tl2=>?_⟩
 have ets:=Km tl tl2
 subst ets
 walk_at "rd"
 refine Ba (ZJ.of eLT) (ZJ.of (sR _ _ aeI)) (by rw[List.all_map];simp[Xx]) ?_
 exact q _
theorem jJ (T:Txt K mg) {CD C:Addr} (UD:JD K mg CD) {r np nm nr nw tm nf nt:Addr} {f:Addr} {cdv:Value} {A:Around} {outer:List Env} {s:Shared} {H0:Hp} {E:XK} (hr:YC 26 (A.deeper (PyProof.Rows.envOfC "law" (Z9 Wn) s.heap.objs.size f cdv))) (YQ:Has P w K mg base 26 "_law_cell_at" ["_law_script","_law_k"] (VJ K)) (Wh:Av P w K mg base 25 "Desk" CD ["self"] (U8 K C CD)) (Zf:Tz P w K mg base 26 CD "say" ["self","row"] (Xm K CD C np nr nw tm nt)) (YS:Has P w K mg base 26 "_law_refused" ["_law_desk","_law_row","_law_due_here"] (VB K CD C r np nm nr nw tm nf nt)) (Vz:Has P w K mg base 26 "_law_seen" ["_law_desk"] (Rt K C CD)):QF (Vp Je P w K mg base eN "law" (Z9 Wn) f cdv A outer s H0 E).JN ((Z2 Wn).drop 7) (acz K CD C):=by
 refine QF.weaken (Z7 (ZW (i:=12) VN.nd rfl (Or.inl rfl) (Fb Wh hr))
  (Z7 (YH (X6 (pv 12) UD.cl Zf hr Qo (Z_ (ZS Zt ZK (Zd Ze rfl T.Sx PyProof.Rows.boot_str (Z_ (ZS Zo Z5 (ZS Yi (ZS Yb (Z4 YQ hr (Z_ (pv 0) (Z_ Z5 Z8))) Z5) Z5)) Z8))) Z8)))
  (Z7 (Zn (PW.pt (QX (Yr (YM (Z4 YS hr (Z_ (pv 12) (Z_ ZK (Z_ ZK Z8)))))) (Rp (Yr (YM (Z4 YS hr (Z_ (pv 12) (Z_ ZK (Z_ ZK Z8)))))))))
  (Z6 (ZR U3))
  (Zz))
  (Z7 (YH (X6 (pv 12) UD.cl Zf hr Qo (Z_ ZK Z8)))
  (Z7 (Zn (Zu Bs (Qq (K:=K) PySem.F.plainAttrs_str PySem.F.slot_str_count PySem.F.type_str_count rM (X6 (pv 12) UD.cl Zf hr Qo (Z_ ZK Z8)) (Z_ ZK Z8)) Z5 (Zv _))
  (Z6 (ZR U3))
  (Zz))
  (jK T UD (r:=r) (nm:=nm) (nf:=nf) (np:=np) (nr:=nr) (nw:=nw) (tm:=tm) (nt:=nt) hr Zf YS Vz)))))) λD σ H h=>?_
 obtain⟨Hb,S0,ns,a,p2,r2,LS,m,l,os,ps,ts,t3,t4,t5,t6,t7,t9,t10,t11,Eb,Ea,rfl,hS,y,q⟩:=h
 have lpk:(Str.ofString "pack ").length=5:=by decide +kernel
 walk_at "rd"
 intro a2 d2 ha2' hd2 aeJ
 generalize eM2:upd (upd H d2 (.own a2)) a2 (.ins CD d2 [])=HN
 have hNa:HN a2=some (.ins CD d2 []):=by rw[←eM2];exact Z1
 have sN:Same H HN:=by
  rw[←eM2]
  exact(Same.new hd2 _).trans (Same.new (by rw[Zw (Ne.symm aeJ)];exact ha2') _)
 clear eM2
 refine⟨_,rfl,a2,d2,hNa,rfl,λp3 r3 HB hp3 hr3 kB DB=>⟨rfl,?_⟩⟩
 have W1:Ds CD C H HB a2 p3 r3 1 (M.iota 1) [] []:=⟨kB.same (λx hx=>by
  have:x=a2:=by simpa using hx
  rw[this];exact ha2') sN,⟨ha2',sN.free hp3,sN.free hr3⟩,DB⟩
 clear kB hNa sN DB hp3 hr3
 obtain⟨dxw,haw⟩:=W1.dk.d
 walk_at "rd"
 refine⟨a2,dxw,Ru p3,rfl,haw,rfl,?_⟩
 walk_at "rd"
 refine⟨S0,ns,0,W1.sm.seq hS,rfl,rfl,by omega,λc8=>?_⟩
 have w0:=Int.emod_nonneg (c8 / 12) (show(40:Int)≠0 by decide)
 have w1:=Int.emod_lt_of_pos (c8 / 12) (show(0:Int)<40 by decide)
 have i0:0≤21+c8 / 12 % 40:=by omega
 have i1:21+c8 / 12 % 40<10 ^ 12:=by omega
 have lgw:=M.Tv i0 (Int.lt_of_lt_of_le i1 (by decide +kernel))
 have hwt:=Q0 i0 i1
 have lw':(Str.ofString (toString (21+c8 / 12 % 40))).length≤12:=hwt.2.2.2.1
 walk_at "rd"
 refine⟨by rw[lpk];exact Zx (by omega),?_⟩
 walk_at "rd"
 have row:=GK i0 i1
 refine⟨a2,p3,r3,1,M.iota 1,[],[],_,[Str.ofString "pack",M.tx (21+c8 / 12 % 40)],W1.dk,rfl,rfl,row.sp,row.lz,⟨row.lw,row.wd⟩,.inr (.inl ⟨_,rfl,hwt.1,by rw[hwt.2.1];omega,λp4 r4 wn HC hwn hp4 hr4 kC DC=>?_⟩)⟩
 have W2:=W1.pack kC hp4 hr4 DC
 have acA:20<wn:=by rw[hwt.2.1]at hwn;omega
 clear kC DC
 walk_at "rd"
 refine⟨a2,p4,r4,wn,_,[],[],Str.ofString "far 2 1",Str.ofString "text",[Str.ofString "far",Str.ofString "2",Str.ofString "1"],W2.dk,rfl,rfl,rfl,Wm (by decide +kernel) (by decide +kernel),jM acA (by decide +kernel) (by decide +kernel),λHD sD=>?_⟩
 have W3:=W2.same sD
 walk_at "rd"
 refine⟨a2,p4,r4,wn,_,[],[],Str.ofString "far 1 0",Str.ofString "text",[Str.ofString "far",Str.ofString "1",Str.ofString "0"],W3.dk,rfl,rfl,rfl,Wm (by decide +kernel) (by decide +kernel),jM acA (by decide +kernel) (by decide +kernel),λHE sE=>?_⟩
 have W4:=W3.same sE
 obtain⟨dx4,ha4⟩:=W4.dk.d
 walk_at "rd"
 refine⟨a2,dx4,Ru p4,rfl,ha4,rfl,?_⟩
 walk_at "rd"
 have r20:Uh (Str.ofString "pack 20") [Str.ofString "pack",Str.ofString "20"]:=Wm (by decide +kernel) (by decide +kernel)
 have n20:numOf (Str.ofString "20")=20:=by decide +kernel
 refine⟨a2,p4,r4,wn,_,[],[],_,_,W4.dk,rfl,rfl,r20.sp,r20.lz,⟨r20.lw,r20.wd⟩,.inr (.inl ⟨_,rfl,by decide +kernel,by rw[n20];omega,λp5 r5 w2 HF hw2 hp5 hr5 kF DF=>?_⟩)⟩
 have W5:=W4.pack kF hp5 hr5 DF
 have am9:w2=20:=by rw[n20]at hw2;omega
 clear kF DF
 obtain⟨dx5,ha5⟩:=W5.dk.d
 walk_at "rd"
 refine⟨a2,dx5,Ru p5,rfl,ha5,rfl,?_⟩
 walk_at "rd"
 have r10:Uh (Str.ofString "far 1 0") [Str.ofString "far",Str.ofString "1",Str.ofString "0"]:=Wm (by decide +kernel) (by decide +kernel)
 refine⟨a2,p5,r5,w2,_,[],[],_,_,W5.dk,rfl,rfl,r10.sp,r10.lz,⟨r10.lw,r10.wd⟩,.inr (.inr (.inr (.inr ⟨_,_,_,rfl,λz=>absurd z (by decide +kernel),.inr (.inr (.inr (.inl ⟨rfl,_,_,rfl,by decide +kernel,by decide +kernel,by omega,by decide +kernel,by decide +kernel,λt u HG t0 u0 sG=>?_⟩)))⟩)))⟩
 have W6:=W5.same sG
 have aeK:PySem.Txt.count (fD t u) (Str.ofString "/")=1:=M.rA (a:=M.tx t) (b:=M.tx u) (λz=>by have:=M.wL t0 47 z;omega) (λz=>by have:=M.wL u0 47 z;omega) (by unfold fD;rw[M.XC,M.XC,M.wK];simp)
 walk_at "rd"
 rw[aeK]
 walk_at "rd"
 exact⟨Hb,a,p2,r2,LS,m,l,os,ps,ts,_,_,_,_,_,_,_,_,_,_,_,rfl,y.same W6.sm,q⟩
theorem qu (T:Txt K mg) {CD C:Addr} (UD:JD K mg CD) {r np nm nr nw tm nf nt:Addr} {f:Addr} {cdv:Value} {A:Around} {outer:List Env} {s:Shared} {H0:Hp} {E:XK} (hr:YC 26 (A.deeper (PyProof.Rows.envOfC "law" (Z9 Wn) s.heap.objs.size f cdv))) (YQ:Has P w K mg base 26 "_law_cell_at" ["_law_script","_law_k"] (VJ K)) (YS:Has P w K mg base 26 "_law_refused" ["_law_desk","_law_row","_law_due_here"] (VB K CD C r np nm nr nw tm nf nt)) (Vz:Has P w K mg base 26 "_law_seen" ["_law_desk"] (Rt K C CD)) (GC:Has P w K mg base 26 "_law_none" ["_law_cell"] (Ko K)) (BR:Has P w K mg base 26 "_law_due" ["_law_n","_law_cell"] (GJ K)):PS (Vp Je P w K mg base eN "law" (Z9 Wn) f cdv A outer s H0 E).JN ((Z2 Wn).getD 6 (.Pass ⟨0,0,0,0⟩)) (aaS K CD C):=by
 refine PS.weaken (Dj rfl (YX (K:=K) (ZS TQ (MJ (O8 (K:=K)) (pv 0) (Ro Z5) (Ro Z5)) (Yh (Z_ (Z4 YQ hr (Z_ (pv 0) (Z_ Z5 Z8))) (Z_ (ZS Zo (ZS X_ Z5 (pv 1)) Z5) Z8))))) (Zy (i:=9) VN.nd rfl (Or.inl rfl))
  (Z7 (Zn (Yr (YM (Z4 YS hr (Z_ (pv 2) (Z_ (Z4 GC hr (Z_ (ZS Yb (pv 9) Z5) Z8)) (Z_ ZK Z8))))))
   (Z6 (ZR U3))
   (Zz))
   (Z7 (DG (Z4 BR hr (Z_ (pv 1) (Z_ (pv 9) Z8))) (Wq (K:=K) (n:=2) rfl (Y6 (Zy (i:=10) VN.nd rfl (Or.inl rfl)) (Y6 (Zy (i:=11) VN.nd rfl (Or.inl rfl)) U7))))
   (Z6 (Zn (PW.pt (QX (Yr (YM (Z4 YS hr (Z_ (pv 2) (Z_ (pv 10) (Z_ (pv 11) Z8)))))) (Rp (Zu (abL (K:=K) hr.units) (Z4 Vz hr (Z_ (pv 2) Z8)) (pv 8) (Zv _)))))
   (Z6 (ZR U3))
   (Zz)))))) λD σ H h=>?_
 obtain⟨Hb,S0,ns,a,p2,r2,LS,m,l,os,ps,ts,t3,t4,t5,t6,t7,t9,t10,t11,Eb,Ea,rfl,hS,h63,y,q⟩:=h
 have m1:=y.m1
 have m2:=y.m2
 have tl:=y.tl
 have jb:=y.jb
 walk_at "rd"
 refine⟨S0,_,rfl,hS,?_⟩
 intro c4 hc4
 generalize e7:upd H c4 _=H7
 obtain⟨s7,ec4⟩:=ZG hc4 e7
 clear e7
 walk_at "rd"
 refine⟨S0,ns,0,s7.seq hS,rfl,rfl,by omega,λc5=>?_⟩
 walk_at "rd"
 intro c6 hc6
 generalize e8:upd H7 c6 _=H8
 obtain⟨s8,ec6⟩:=ZG hc6 e8
 clear e8
 have aeL:=Ka (iL ns) (some 3) (some 13)
 rw[List.length_map]at aeL
 refine⟨c4,c6,_,_,rfl,rfl,s8 _ _ ec4,ec6,Zx (by show _+2≤1000;omega),?_⟩
 intro c7 hc7
 generalize e9:upd H8 c7 _=H9
 obtain⟨s9,ec7⟩:=ZG hc7 e9
 clear e9
 have s69:=s7.trans (s8.trans s9)
 have S9:=y.S.same s69
 have aeM:=s69 _ _ y.e
 have allI:∀v∈K7 (iL ns) (some 3) (some 13)++[V.int c5,V.int (3*(m:Int)+1)],∃i,v= .int i:=λv hv=>by
  rcases List.mem_append.mp hv with hv |hv
  ·exact jL ns _ _ v hv
  ·simp only[List.mem_cons,List.not_mem_nil,or_false]at hv
   rcases hv with rfl |rfl<;>exact⟨_,rfl⟩
 walk_at "rd"
 refine⟨⟨_,ZJ.of ec7⟩,?_⟩
 refine MN (xs:=K7 (iL ns) (some 3) (some 13)++[V.int c5,V.int (3*(m:Int)+1)]) (λi σ' H'=>(∃(t9 t10 t11:Option V),σ'=[some (.ref S0),some (.int m),some (.ref a),t3,t4,t5,t6,t7,some (.ref LS),t9,t10,t11,Eb,Ea]∧Same H9 H')∨False) (.inl ⟨_,_,_,rfl,Same.refl _⟩) ?_ ?_ ?_
 ·intro i σ' H' _ z
  obtain⟨t9,t10,t11,rfl,sm⟩:=z.resolve_right id
  exact ZJ.of (sm _ _ ec7)
 ·intro i x σ' HA hx z
  obtain⟨t9,t10,t11,rfl,sA⟩:=z.resolve_right id
  obtain⟨cx,rfl⟩:=allI x (List.mem_of_getElem? hx)
  have SA:=S9.same sA
  walk_at "rd"
  intro zz HB hz sB
  have SB:=SA.same sB
  have chk:=List.all_eq_true.mp jV zz hz
  rw[Bool.and_eq_true]at chk
  walk_at "rd"
  refine⟨a,p2,r2,m,l,os,ps,zz,Str.ofString "text",_,SB.dk,rfl,rfl,rfl,tQ chk.1,fu chk.2,λHC sC=>?_⟩
  have SC:=SB.same sC
  walk_at "rd"
  intro z2 lbl ws t HD ro du sD ht et
  have SD:=SC.same sD
  refine⟨t,_,rfl,TY.of et,rfl,?_⟩
  walk_at "rd"
  refine⟨a,p2,r2,m,l,os,ps,z2,lbl,ws,SD.dk,rfl,rfl,rfl,ro,eZ (by omega) du,λHE sE=>?_⟩
  have SE:=SD.same sE
  walk_at "rd"
  refine⟨a,p2,r2,m,l,os,ps,SE.dk,rfl,jb,λLT ts2 HF sF hLT eLT tl2=>?_⟩
  have sAF:=sB.trans (sC.trans (sD.trans (sE.trans sF)))
  have ets:=Km tl tl2
  subst ets
  walk_at "rd"
  refine Ba (ZJ.of eLT) (ZJ.of ((sA.trans sAF) _ _ aeM)) (by rw[List.all_map];simp[Xx]) ?_
  walk_at "rd"
  exact .inl ⟨_,_,_,rfl,sA.trans sAF⟩
 ·intro σ' HA z
  obtain⟨t9,t10,t11,rfl,sA⟩:=z.resolve_right id
  exact q _ _ _ _ (s69.trans sA)
theorem qt (T:Txt K mg) {CD C:Addr} (UD:JD K mg CD) {r np nm nr nw tm nf nt:Addr} {f:Addr} {cdv:Value} {A:Around} {outer:List Env} {s:Shared} {H0:Hp} {E:XK} (hr:YC 26 (A.deeper (PyProof.Rows.envOfC "law" (Z9 Wn) s.heap.objs.size f cdv))) (YQ:Has P w K mg base 26 "_law_cell_at" ["_law_script","_law_k"] (VJ K)) (Zf:Tz P w K mg base 26 CD "say" ["self","row"] (Xm K CD C np nr nw tm nt)) (Kl:Has P w K mg base 26 "_law_marks" ["_law_cell","_law_most"] (Nk K)) (Gz:Has P w K mg base 26 "_law_word" ["_law_cell","_law_heaps","_law_n"] (KH K)):PS (Vp Je P w K mg base eN "law" (Z9 Wn) f cdv A outer s H0 E).JN ((Z2 Wn).getD 4 (.Pass ⟨0,0,0,0⟩)) (aaT K CD C):=by
 refine PS.weaken (Dj rfl (Xy rfl T.XJ (Z_ (pv 3) Z8)) (Zy (i:=4) VN.nd rfl (Or.inl rfl))
  (Z7 (ZW (i:=5) VN.nd rfl (Or.inl rfl) (Z4 Kl hr (Z_ (ZS Zo (ZS Yb (Z4 YQ hr (Z_ (pv 0) (Z_ Z5 Z8))) Z5) (pv 4)) (Z_ Z5 Z8))))
   (Z7 (ZW (i:=6) VN.nd rfl (Or.inl rfl) (Z4 Gz hr (Z_ (ZS Zo (Z4 YQ hr (Z_ (pv 0) (Z_ Z5 Z8))) (pv 4)) (Z_ (ZV (Y4 (K:=K)) rfl T.Za PySem.boot_len (Z_ (pv 5) Z8)) (Z_ (pv 1) Z8)))))
   (Z7 (ZW (i:=7) VN.nd rfl (Or.inl rfl) (Qq (K:=K) PySem.F.plainAttrs_str PySem.F.slot_str_join PySem.F.type_str_join (IW (K:=K)) ZK (Z_ (YF (vars:=["_law_mark"]) (caps:=[]) (ZD.of (outer:=Z9 Wn) (N:=["_law_script","_law_n","_law_desk","_law_many","_law_k","_law_marks_here","_law_word_here","_law_written","_law_seen_here","_law_cell","_law_row","_law_due_here","_law_wide","_law_far_row"]) rfl rfl ⟨by decide +kernel⟩) rfl (YX (K:=K) (pv 5)) ⟨λ_ _ _ _=>⟨(Zy (i:=0) (show List.Nodup (["_law_mark"]:List Str)by decide +kernel) rfl (Or.inl rfl)),YG,(Zq aR ZK (Zd sU rfl T.ug PyProof.Rows.boot_int (Z_ (pv 0) Z8)) (λ_ _=>rfl))⟩⟩) Z8)))
   (Z6 (YH (X6 (pv 2) UD.cl Zf hr Qo (Z_ (ZS Zt (ZS Zt (ZS Zt ZK (pv 7)) ZK) (Qq (K:=K) PySem.F.plainAttrs_str PySem.F.slot_str_join PySem.F.type_str_join (IW (K:=K)) ZK (Z_ (YF (vars:=["_law_heap"]) (caps:=[]) (ZD.of (outer:=Z9 Wn) (N:=["_law_script","_law_n","_law_desk","_law_many","_law_k","_law_marks_here","_law_word_here","_law_written","_law_seen_here","_law_cell","_law_row","_law_due_here","_law_wide","_law_far_row"]) rfl rfl ⟨by decide +kernel⟩) rfl (YX (K:=K) (pv 6)) ⟨λ_ _ _ _=>⟨(Zy (i:=0) (show List.Nodup (["_law_heap"]:List Str)by decide +kernel) rfl (Or.inl rfl)),YG,(Zd Ze rfl T.Sx PyProof.Rows.boot_str (Z_ (pv 0) Z8))⟩⟩) Z8))) Z8)))))))) λD σ H h=>?_
 obtain⟨Hb,S0,ns,a,p2,r2,m,c,l,os,t4,t5,t6,t7,t8,t9,t10,t11,Eb,Ea,rfl,hS,S4,mb,q⟩:=h
 obtain⟨m1,m2,m3,m4⟩:=mb
 walk_at "rd"
 refine Ud (λi σ' H'=>(∃(t4 t5 t6 t7 t8 t9 t10 t11 Eb Ea:Option V) (l:List Int) (os:List (List Int)) (ps:List Rf),σ'=[some (.ref S0),some (.int m),some (.ref a),some (.int (c)),t4,t5,t6,t7,t8,t9,t10,t11,Eb,Ea]∧Ds CD C Hb H' a p2 r2 m l os ps∧ps.length=i∧∀x∈ps,x.1.length≤4)∨False) (.inl ⟨_,_,_,_,_,_,_,_,_,_,_,_,_,rfl,S4,rfl,by simp⟩) ?_ ?_
 ·intro i σ' H5 hi z
  obtain⟨t4,t5,t6,t7,t8,t9,t10,t11,Eb,Ea,l,os,ps,rfl,S5,lps,sz⟩:=z.resolve_right id
  walk_at "rd"
  refine⟨S0,ns,1,S5.sm.seq hS,rfl,rfl,by omega,λc2=>?_⟩
  walk_at "rd"
  refine⟨_,4,⟨by omega,by omega⟩,rfl,rfl,λbs b1 b2=>?_⟩
  intro B H6 s6 hB eB
  have S6:=S5.same s6
  walk_at "rd"
  refine⟨S0,ns,2,S6.sm.seq hS,rfl,rfl,by omega,λc3=>?_⟩
  walk_at "rd"
  refine⟨B,_,rfl,.inl (ZJ.of eB),?_⟩
  rw[List.length_map]
  walk_at "rd"
  refine⟨_,_,m,⟨by omega,by omega,by omega⟩,rfl,rfl,rfl,λws lw bw=>?_⟩
  intro W H7 s7 hW eW
  have S7:=S6.same s7
  have eB7:=s7 _ _ eB
  have lb:(bL bs).length=bs.length:=List.length_map _
  have b4:bs.length≤4:=by omega
  walk_at "rd"
  refine⟨⟨_,ZJ.of eB7⟩,?_⟩
  refine Wa (xs:=bL bs) (λi=> .str ⟨#[if bs.getD i false=true then 116 else 112]⟩) (λ_=>true) (Zx (by omega)) (ZJ.of eB7) ?_ ?_
  ·intro j v t acc ys N Kt hj hv hacc k1 _
   have hj':j<bs.length:=by omega
   have e0:bs[j]? =some bs[j]:=List.getElem?_eq_getElem hj'
   have eg:bs.getD j false=bs[j]:=by rw[List.getD,e0];rfl
   rw[List.getElem?_map,e0]at hv
   cases hv
   have k1':=λt'=>k1 t' rfl
   simp only[eg]at k1'
   generalize bs[j]=b at k1'
   have pa:=acw b
   walk_at "rd"
   refine .inr ⟨b,rfl,?_⟩
   refine⟨_,_,_,rfl,rfl,Zx (by decide +kernel),pa,?_⟩
   exact k1' _
  rw[filter_true,lb,range_getD bs false (λb=>V.str ⟨#[if b=true then 116 else 112]⟩)]
  intro L8 hL8
  generalize e8:upd H7 L8 _=H8
  obtain⟨s8,eL8⟩:=ZG hL8 e8
  clear e8
  have S8:=S7.same s8
  have eW8:=s8 _ _ eW
  have em:bs.map (λb=>V.str ⟨#[if b=true then 116 else 112]⟩)=((bs.map (λb=>if b=true then 116 else 112)).map λc=>(⟨#[c]⟩:Str)).map V.str:=by rw[List.map_map,List.map_map];rfl
  rw[em]at eL8
  walk_at "rd"
  refine⟨_,L8,_,rfl,rfl,ZJ.of eL8,M.uM _ (by rw[List.length_map];omega),?_⟩
  rw[yO (M.glue (bs.map (λb=>if b=true then 116 else 112)))]
  obtain⟨dx8,ha8⟩:=S8.dk.d
  walk_at "rd"
  refine⟨a,dx8,Ru p2,rfl,ha8,rfl,?_⟩
  walk_at "rd"
  have l7:(Str.ofString "riffle ").length=7:=by decide +kernel
  have l1:(Str.ofString " ").length=1:=by decide +kernel
  have lmk:=T5 bs
  have wb:∀x∈ws,0≤x∧x<10 ^ 12:=λx hx=>by have:=bw x hx;omega
  have wb2:∀x∈ws,0≤x∧x<10 ^ 20:=λx hx=>by have:=bw x hx;omega
  have lws:(iL ws).length=ws.length:=List.length_map _
  refine⟨by rw[l7,lmk];exact Zx (by omega),?_⟩
  refine⟨_,_,rfl,rfl,by rw[PySem.Str.length_append,l7,lmk,l1];exact Zx (by omega),?_⟩
  walk_at "rd"
  refine⟨⟨_,ZJ.of eW8⟩,?_⟩
  refine Wa (xs:=iL ws) (λi=> .str (M.tx (ws.getD i 0))) (λ_=>true) (Zx (by omega)) (ZJ.of eW8) ?_ ?_
  ·intro j v t acc ys N Kt hj hv hacc k1 _
   have hj':j<ws.length:=by omega
   have e0:ws[j]? =some ws[j]:=List.getElem?_eq_getElem hj'
   have eg:ws.getD j 0=ws[j]:=by rw[List.getD,e0];rfl
   have hb:=wb _ (List.getElem_mem hj')
   rw[List.getElem?_map,e0]at hv
   cases hv
   have k1':=λt'=>k1 t' rfl
   simp only[eg]at k1'
   have lj:=M.Tv hb.1 (Int.lt_of_lt_of_le hb.2 (by decide +kernel))
   walk_at "rd"
   exact k1' _
  rw[filter_true,lws,range_getD ws 0 (λx=>V.str (M.tx x))]
  intro L9 hL9
  generalize e9:upd H8 L9 _=H9
  obtain⟨s9,eL9⟩:=ZG hL9 e9
  clear e9
  have S9:=S8.same s9
  rw[show ws.map (λx=>V.str (M.tx x))=(ws.map M.tx).map V.str by rw[List.map_map];rfl]at eL9
  walk_at "rd"
  refine⟨_,L9,_,rfl,rfl,ZJ.of eL9,M.Ii wb2 (by omega),?_⟩
  rw[yw]
  have lsh:=Kr ws wb2
  refine⟨_,_,rfl,rfl,by rw[PySem.Str.length_append,PySem.Str.length_append,l7,lmk,l1,sizeLine_eq];omega,?_⟩
  walk_at "rd"
  have ro:=jN (bs:=bs) (ws:=ws) (by omega) wb (by omega) (by omega) rfl
  have hmk:=GF (bs:=bs) b1 (by omega)
  have hnx:=eU wb
  have Wd:M.Wd bs.length m ws:=⟨lw,bw⟩
  refine⟨a,p2,r2,m,l,os,ps,_,_,S9.dk,rfl,rfl,ro.sp,ro.lz,⟨ro.lw,ro.wd⟩,.inr (.inr (.inr (.inr ⟨_,_,_,rfl,λz=>absurd z (by decide +kernel),.inl ⟨rfl,_,_,rfl,hmk.1,hnx.1,by rw[hmk.2,hnx.2];exact Wd,by omega,λHA kA PA=>?_⟩⟩)))⟩
  have SA:=S9.keep kA PA
  walk_at "rd"
  refine .inl ⟨_,_,_,_,_,_,_,_,_,_,_,_,_,rfl,SA,by show ps.length+1=_;omega,λx hx=>?_⟩
  rcases List.mem_cons.mp hx with rfl |hx
  ·show(mkOf (Vs bs)).length≤4
   rw[hmk.2];exact b4
  ·exact sz x hx
 ·intro σ' H5 z
  obtain⟨t4,t5,t6,t7,t8,t9,t10,t11,Eb,Ea,l,os,ps,rfl,S5,lps,sz⟩:=z.resolve_right id
  exact q _ _ _ _ _ _ _ _ _ _ _ _ _ _ S5 (by omega) sz
theorem aaU (T:Txt K mg) {C:Addr} (U:Qe K mg C) {CD:Addr} (UD:JD K mg CD) {r np nm nr nw tm nf nt:Addr} (YQ:Has P w K mg base 26 "_law_cell_at" ["_law_script","_law_k"] (VJ K)) (Wh:Av P w K mg base 25 "Desk" CD ["self"] (U8 K C CD)) (Zf:Tz P w K mg base 26 CD "say" ["self","row"] (Xm K CD C np nr nw tm nt)) (YS:Has P w K mg base 26 "_law_refused" ["_law_desk","_law_row","_law_due_here"] (VB K CD C r np nm nr nw tm nf nt)) (Kl:Has P w K mg base 26 "_law_marks" ["_law_cell","_law_most"] (Nk K)) (Gz:Has P w K mg base 26 "_law_word" ["_law_cell","_law_heaps","_law_n"] (KH K)) (Vz:Has P w K mg base 26 "_law_seen" ["_law_desk"] (Rt K C CD)) (GC:Has P w K mg base 26 "_law_none" ["_law_cell"] (Ko K)) (BR:Has P w K mg base 26 "_law_due" ["_law_n","_law_cell"] (GJ K)):Has P w K mg base 27 "law" ["_law_script"] (GD K):=by
 refine T.lQ.has (k:=26) VN len1 (λf cdv A outer s H vs Q E hr h=>?_)
 obtain⟨a0,rfl,h⟩:=h
 refine⟨_,Z7 (ZW (i:=1) VN.nd rfl (Or.inl rfl) (ZS Zo Z5 (ZS Yi (Z4 YQ hr (Z_ (pv 0) (Z_ Z5 Z8))) Z5)))
  (Z7 (ZW (i:=2) VN.nd rfl (Or.inl rfl) (Fb Wh hr))
  (Z7 (Zn (PW.pt (QX (Yr (YM (Z4 YS hr (Z_ (pv 2) (Z_ ZK (Z_ ZK Z8)))))) (Rp (Zu Bs (X6 (pv 2) UD.cl Zf hr Qo (Z_ (ZS Zt ZK (Zd Ze rfl T.Sx PyProof.Rows.boot_str (Z_ (pv 1) Z8))) Z8)) (Qq (K:=K) PySem.F.plainAttrs_str PySem.F.slot_str_join PySem.F.type_str_join (IW (K:=K)) ZK (Z_ (YF (vars:=["_law_k"]) (caps:=[]) (ZD.of (outer:=Z9 Wn) (N:=["_law_script","_law_n","_law_desk","_law_many","_law_k","_law_marks_here","_law_word_here","_law_written","_law_seen_here","_law_cell","_law_row","_law_due_here","_law_wide","_law_far_row"]) rfl rfl ⟨by decide +kernel⟩) rfl (Xy rfl T.XJ (Z_ (pv 1) Z8)) ⟨λ_ _ _ _=>⟨(Zy (i:=0) (show List.Nodup (["_law_k"]:List Str)by decide +kernel) rfl (Or.inl rfl)),YG,(Zd Ze rfl T.Sx PyProof.Rows.boot_str (Z_ (pv 0) Z8))⟩⟩) Z8)) (Zv _)))))
  (Z6 (ZR U3))
  (Zz))
  (Z7 (ZW (i:=3) VN.nd rfl (Or.inl rfl) (ZS Yi (Z4 YQ hr (Z_ (pv 0) (Z_ Z5 Z8))) Z5))
  (Z7 (qt T UD (r:=r) (nm:=nm) (nf:=nf) (np:=np) (nr:=nr) (nw:=nw) (tm:=tm) (nt:=nt) hr YQ Zf Kl Gz)
  (Z7 (ZW (i:=8) VN.nd rfl (Or.inl rfl) (Z4 Vz hr (Z_ (pv 2) Z8)))
  (Z7 (qu T UD (r:=r) (nm:=nm) (nf:=nf) (np:=np) (nr:=nr) (nw:=nw) (tm:=tm) (nt:=nt) hr YQ YS Vz GC BR)
  (jJ T UD (r:=r) (nm:=nm) (nf:=nf) (np:=np) (nr:=nr) (nw:=nw) (tm:=tm) (nt:=nt) hr YQ Wh Zf YS Vz))))))),?_⟩
 obtain⟨S0,ns,hS,rfl,h63,q⟩:=h
 walk_at "rd"
 refine⟨S0,ns,0,hS,rfl,rfl,by omega,λc0=>?_⟩
 have n0:=Int.emod_nonneg c0 (show(12:Int)≠0 by decide)
 have n1:=Int.emod_lt_of_pos c0 (show(0:Int)<12 by decide)
 obtain⟨n,hn⟩:∃n:Nat,1+c0 % 12=(n:Int):=⟨(1+c0 % 12).toNat,by omega⟩
 have hn':(λi j=>V.int (i+j)) 1 (c0 % 12)=V.int n:=congrArg V.int hn
 walk_at "rd"
 rw[hn']
 intro a dx ha hdx aeN
 generalize eM:upd (upd H dx (.own a)) a (.ins CD dx [])=HM
 have ju:HM a=some (.ins CD dx []):=by rw[←eM];exact Z1
 have sM:Same H HM:=by
  rw[←eM]
  exact(Same.new hdx _).trans (Same.new (by rw[Zw (Ne.symm aeN)];exact ha) _)
 clear eM
 refine⟨_,rfl,a,dx,ju,rfl,λp1 r1 H1 hp1 hr1 k1 D1=>⟨rfl,?_⟩⟩
 have S1:Ds CD C H H1 a p1 r1 1 (M.iota 1) [] []:=⟨k1.same (λx hx=>by
  have:x=a:=by simpa using hx
  rw[this];exact ha) sM,⟨ha,sM.free hp1,sM.free hr1⟩,D1⟩
 clear k1 ju sM D1 hp1 hr1
 walk_at "rd"
 refine⟨a,p1,r1,1,M.iota 1,[],[],Str.ofString "undo",Str.ofString "riffle",[Str.ofString "undo"],S1.dk,rfl,rfl,rfl,Wm (by decide +kernel) (by decide +kernel),.inl ⟨_,rfl,.inr (.inl ⟨rfl,rfl,λH' s'=>⟨nr,rfl,.inr (.inr (.inl ⟨rfl,rfl⟩)),s'⟩⟩)⟩,λH2 s2=>?_⟩
 have S2:=S1.same s2
 obtain⟨bY,ha2⟩:=S2.dk.d
 have i12:(n:Int)<10 ^ 12:=by omega
 have lgn:=M.Tv (show(0:Int)≤n by omega) (Int.lt_of_lt_of_le i12 (by decide +kernel))
 have hnt:=Q0 (show(0:Int)≤n by omega) i12
 walk_at "rd"
 refine⟨a,bY,Ru p1,rfl,ha2,rfl,?_⟩
 walk_at "rd"
 have lk:=hnt.2.2.2.1
 have lk':(Str.ofString (toString (n:Int))).length≤12:=lk
 have lpk:(Str.ofString "pack ").length=5:=by decide +kernel
 refine⟨by rw[lpk];exact Zx (by omega),?_⟩
 walk_at "rd"
 have ro:=GK (show(0:Int)≤n by omega) i12
 refine⟨a,p1,r1,1,M.iota 1,[],[],_,[Str.ofString "pack",M.tx n],S2.dk,rfl,rfl,ro.sp,ro.lz,⟨ro.lw,ro.wd⟩,.inr (.inl ⟨_,rfl,hnt.1,by rw[hnt.2.1];omega,λp2 r2 m H3 hm hp2 hr2 k3 D3=>?_⟩)⟩
 have em:m=n:=by rw[hnt.2.1]at hm;omega
 subst em
 have S3:=S2.pack k3 hp2 hr2 D3
 clear k3 D3 S1 S2 hm
 walk_at "rd"
 rw[Int.toNat_natCast]
 refine Vo (λi=> .str (M.tx (0+(i:Int)))) (λ_=>true) (Zx (by omega)) ?_ ?_
 ·intro j t acc ys N Kt hj hacc k1 _
  have lj:=M.Tv (show(0:Int)≤0+(j:Int)by omega) (Int.lt_of_lt_of_le (show 0+(j:Int)<10 ^ 12 by omega) (by decide +kernel))
  walk_at "rd"
  exact k1 _ rfl
 rw[filter_true,show((List.range m).map λi:Nat=>V.str (M.tx (0+(i:Int))))=((M.iota m).map M.tx).map V.str by simp[M.iota]]
 intro L4 hL4
 generalize e4:upd H3 L4 _=H4
 obtain⟨s4,eL4⟩:=ZG hL4 e4
 clear e4
 have S4:=S3.same s4
 have om:=Ot S4.dk.pk.hi
 have osm:=T4 om (by omega)
 walk_at "rd"
 refine⟨_,L4,_,rfl,rfl,ZJ.of eL4,M.Ii osm.2 (by omega),?_⟩
 rw[yw]
 walk_at "rd"
 rw[decide_eq_true rfl]
 walk_at "rd"
 refine⟨S0,ns,1,S4.sm.seq hS,rfl,rfl,by omega,λc1=>?_⟩
 have m0:=Int.emod_nonneg c1 (show(4:Int)≠0 by decide)
 have m1:=Int.emod_lt_of_pos c1 (show(0:Int)<4 by decide)
 walk_at "rd"
 refine⟨H,S0,ns,a,p2,r2,m,_,_,_,_,_,_,_,_,_,_,_,_,_,rfl,hS,S4,⟨by omega,by omega,m0,m1⟩,λt4 t5 t6 t7 t8 t9 t10 t11 Eb Ea l os ps H5 S5 lps sz=>?_⟩
 have jb:(M.jl m ps.reverse).1.length≤400:=by
  have b:=M.lW 4 m ps.reverse λx hx=>sz x (List.mem_reverse.mp hx)
  have b2:4 ^ ps.reverse.length≤4 ^ 3:=Nat.pow_le_pow_right (by omega) (by rw[List.length_reverse];omega)
  omega
 walk_at "rd"
 refine⟨a,p2,r2,m,l,os,ps,S5.dk,rfl,jb,λLS ts H6 s6 hLS eLS tl=>?_⟩
 have S6:=S5.same s6
 have nn:=S5.dk.pk.Cp
 have nLS:LS∉[p2,r2]:=λz=>by
  rcases List.mem_cons.mp z with z |z
  ·rw[z]at hLS;exact nn.1 hLS
  ·have z:LS=r2:=by simpa using z
   rw[z]at hLS;exact nn.2 hLS
 have y:Lw CD C H H6 a p2 r2 LS m l os ps ts:=⟨S6,eLS,nLS,tl,jb,lps,by omega,by omega⟩
 walk_at "rd"
 refine⟨H,S0,ns,a,p2,r2,LS,m,l,os,ps,ts,_,_,_,_,_,_,_,_,_,_,rfl,S6.sm.seq hS,h63,y,λt9 t10 t11 H7 s7=>?_⟩
 walk_at "rd"
 exact⟨H,S0,ns,a,p2,r2,LS,m,l,os,ps,ts,_,_,_,_,_,_,_,_,_,_,rfl,s7.seq (S6.sm.seq hS),y.same s7,q⟩
end
theorem aaV {K:PySem.W.Frag} {h:Heap} {mg:Str→Option Value} (X:K.In h) (G:h.Ns mainGlobals mg)
 {f0:Addr} {od0 an0:Option Addr} {sl0:Array (Option Value)} {oc0 kV0 dc0 pm0 bR ct0:Value} {f1:Addr} {od1 an1:Option Addr} {sl1:Array (Option Value)} {oc1 kV1 dc1 pm1 bQ ct1:Value} {f2:Addr} {od2 an2:Option Addr} {sl2:Array (Option Value)} {oc2 kV2 dc2 pm2 cd2 ct2:Value} {f3:Addr} {od3 an3:Option Addr} {sl3:Array (Option Value)} {oc3 kV3 dc3 pm3 cd3 ct3:Value} {f4:Addr} {od4 an4:Option Addr} {sl4:Array (Option Value)} {oc4 kV4 dc4 pm4 cd4 ct4:Value} {f5:Addr} {od5 an5:Option Addr} {sl5:Array (Option Value)} {oc5 kV5 dc5 pm5 cd5 ct5:Value} {f6:Addr} {od6 an6:Option Addr} {sl6:Array (Option Value)} {oc6 kV6 dc6 pm6 cd6 ct6:Value} {f7:Addr} {od7 an7:Option Addr} {sl7:Array (Option Value)} {oc7 kV7 dc7 pm7 cd7 ct7:Value} {f8:Addr} {od8 an8:Option Addr} {sl8:Array (Option Value)} {oc8 kV8 dc8 pm8 cd8 ct8:Value} {f9:Addr} {od9 an9:Option Addr} {sl9:Array (Option Value)} {oc9 kV9 dc9 pm9 cd9 ct9:Value} {f10:Addr} {aeO aeP:Option Addr} {aeQ:Array (Option Value)} {aeR aeS aeT aeU acB aeV:Value} {f11:Addr} {aeW aeX:Option Addr} {aeY:Array (Option Value)} {aeZ ae0 ae1 ae2 acC ae3:Value} {f12:Addr} {ae4 ae5:Option Addr} {ae6:Array (Option Value)} {ae7 ae8 ae9 afa acD afb:Value} {f13:Addr} {afc afd:Option Addr} {afe:Array (Option Value)} {afg afh afi afj acE afk:Value} {f14:Addr} {afl afm:Option Addr} {afn:Array (Option Value)} {afo afp afq afr acF afs:Value} {f15:Addr} {aft afu:Option Addr} {afv:Array (Option Value)} {afw afx afy afz acG afA:Value} {f16:Addr} {afB afC:Option Addr} {afD:Array (Option Value)} {afE afF afG afH acH afI:Value} {f17:Addr} {afJ afK:Option Addr} {afL:Array (Option Value)} {afM afN afO afP acI afQ:Value} {f18:Addr} {afR afS:Option Addr} {afT:Array (Option Value)} {afU afV afW afX acJ afY:Value} {f19:Addr} {afZ af0:Option Addr} {af2:Array (Option Value)} {af3 af4 af5 af6 acK af7:Value} {f20:Addr} {af8 af9:Option Addr} {aga:Array (Option Value)} {agb agc agd agf acL agg:Value} {f21:Addr} {agh agi:Option Addr} {agj:Array (Option Value)} {agk agl agm agn acM ago:Value} {f22:Addr} {agp agq:Option Addr} {agr:Array (Option Value)} {ags agt agu agv acN agw:Value} {f23:Addr} {agx agy:Option Addr} {agz:Array (Option Value)} {agA agB agC agD acO agE:Value} {f24:Addr} {agF agG:Option Addr} {agH:Array (Option Value)} {agI agJ agK agL acP agM:Value} {f25:Addr} {agN agO:Option Addr} {agP:Array (Option Value)} {agQ agR agS agT acQ agU:Value} {f26:Addr} {agV agW:Option Addr} {agX:Array (Option Value)} {agY agZ ag0 ag1 acR ag2:Value} {f27:Addr} {ag3 ag4:Option Addr} {ag5:Array (Option Value)} {ag6 ag7 ag8 ag9 acS aha:Value} {f28:Addr} {ahb ahc:Option Addr} {ahd:Array (Option Value)} {ahe ahf ahg ahh acT ahi:Value} {f29:Addr} {ahj ahk:Option Addr} {ahl:Array (Option Value)} {ahm ahn aho ahp acU ahq:Value} {f30:Addr} {ahr ahs:Option Addr} {aht:Array (Option Value)} {ahu ahv ahw ahx acV ahy:Value} {f31:Addr} {ahz ahA:Option Addr} {ahB:Array (Option Value)} {ahC ahD ahE ahF acW ahG:Value} {f32:Addr} {ahH ahI:Option Addr} {ahJ:Array (Option Value)} {ahK ahL ahM ahN acX ahO:Value} {f33:Addr} {ahP ahQ:Option Addr} {ahR:Array (Option Value)} {ahS ahT ahU ahV acY ahW:Value} {f34:Addr} {ahX ahY:Option Addr} {ahZ:Array (Option Value)} {ah0 ah1 ah2 ah3 acZ ah4:Value} {f35:Addr} {ah5 ah6:Option Addr} {ah7:Array (Option Value)} {ah8 ah9 aia aib ac0 aic:Value} {f36:Addr} {aie aif:Option Addr} {aii:Array (Option Value)} {aij aik ail ain ac1 aio:Value} {f37:Addr} {aip aiq:Option Addr} {air:Array (Option Value)} {ais ait aiu aiv ac2 aiw:Value} {f38:Addr} {aix aiy:Option Addr} {aiz:Array (Option Value)} {aiA aiB aiC aiD ac3 aiE:Value} {f39:Addr} {aiF aiG:Option Addr} {aiH:Array (Option Value)} {aiI aiJ aiK aiL ac4 aiM:Value} {f40:Addr} {aiN aiO:Option Addr} {aiP:Array (Option Value)} {aiQ aiR aiS aiT ac5 aiU:Value} {f41:Addr} {aiV aiW:Option Addr} {aiX:Array (Option Value)} {aiY aiZ ai0 ai1 ac6 ai2:Value} {f42:Addr} {ai3 ai4:Option Addr} {ai5:Array (Option Value)} {ai6 ai7 ai8 ai9 ac7 aja:Value} {f43:Addr} {ajb ajc:Option Addr} {ajd:Array (Option Value)} {aje ajf ajg ajh ac8 aji:Value} {f44:Addr} {ajj ajk:Option Addr} {ajl:Array (Option Value)} {ajm ajn ajo ajp ac9 ajq:Value} {f45:Addr} {ajr ajs:Option Addr} {ajt:Array (Option Value)} {aju ajv ajw ajx ada ajy:Value} {f46:Addr} {ajz ajA:Option Addr} {ajB:Array (Option Value)} {ajC ajD ajE ajF adb ajG:Value} {f47:Addr} {ajH ajI:Option Addr} {ajJ:Array (Option Value)} {ajK ajL ajM ajN ade ajO:Value} {f48:Addr} {ajP ajQ:Option Addr} {ajR:Array (Option Value)} {ajS ajT ajU ajV adf ajW:Value} {f49:Addr} {ajX ajY:Option Addr} {ajZ:Array (Option Value)} {aj0 aj1 aj2 aj3 adg aj4:Value} {f50:Addr} {aj5 aj6:Option Addr} {aj7:Array (Option Value)} {aj8 aj9 akb akc adh akd:Value} {f51:Addr} {ake akf:Option Addr} {akg:Array (Option Value)} {akh aki akj akk adi akl:Value} {f52:Addr} {akm akn:Option Addr} {ako:Array (Option Value)} {akp akq akr aks adk akt:Value} {f53:Addr} {aku akv:Option Addr} {akx:Array (Option Value)} {aky akz akA akB adl akC:Value} {f54:Addr} {akD akE:Option Addr} {akF:Array (Option Value)} {akG akH akI akJ adn akK:Value} {f55:Addr} {akL akM:Option Addr} {akN:Array (Option Value)} {akO akP akQ akR ado akS:Value} {f56:Addr} {akT akU:Option Addr} {akV:Array (Option Value)} {akW akX akY akZ adp ak0:Value} {f57:Addr} {ak1 ak2:Option Addr} {ak3:Array (Option Value)} {ak4 ak5 ak6 ak7 adq ak8:Value} {f58:Addr} {ak9 ala:Option Addr} {alb:Array (Option Value)} {alc ald ale alf adt alg:Value} {f59:Addr} {alh ali:Option Addr} {alj:Array (Option Value)} {alm aln alo alp adu alq:Value} {f60:Addr} {alr als:Option Addr} {alu:Array (Option Value)} {alv alw alx aly adv alz:Value} {f61:Addr} {alA alB:Option Addr} {alC:Array (Option Value)} {alD alE alF alG adw alH:Value} {f62:Addr} {alI alJ:Option Addr} {alK:Array (Option Value)} {alL alM alN alO adx alP:Value} {f63:Addr} {alQ alR:Option Addr} {alS:Array (Option Value)} {alT alU alV alW ady alX:Value} {f64:Addr} {alY alZ:Option Addr} {al0:Array (Option Value)} {al1 al2 al3 al4 adz al5:Value} {f65:Addr} {al6 al7:Option Addr} {al8:Array (Option Value)} {al9 ama amb amc adA amd:Value} {f66:Addr} {ame amf:Option Addr} {amg:Array (Option Value)} {amh ami amj amk adB aml:Value}
 (a0:PySem.W.nsIn K mainGlobals "choose"=some (some (.ref f0))) (l0:K.lookup f0=some ⟨oc0,od0,.func (PySem.W.fnOf "choose" "choose" (Z0 RM) (Z2 RM) (Z9 RM) .none kV0 dc0 pm0 an0 bR ct0),sl0⟩) (c0:PySem.W.codeIn K bR "choose"=true) (k0:PySem.W.keepIn K (.ref f0)=true)
 (a1:PySem.W.nsIn K mainGlobals "by_falls"=some (some (.ref f1))) (l1:K.lookup f1=some ⟨oc1,od1,.func (PySem.W.fnOf "by_falls" "by_falls" (Z0 Vk) (Z2 Vk) (Z9 Vk) .none kV1 dc1 pm1 an1 bQ ct1),sl1⟩) (c1:PySem.W.codeIn K bQ "by_falls"=true) (k1:PySem.W.keepIn K (.ref f1)=true)
 (a2:PySem.W.nsIn K mainGlobals "with_one_card_more"=some (some (.ref f2))) (l2:K.lookup f2=some ⟨oc2,od2,.func (PySem.W.fnOf "with_one_card_more" "with_one_card_more" (Z0 Zh) (Z2 Zh) (Z9 Zh) .none kV2 dc2 pm2 an2 cd2 ct2),sl2⟩) (c2:PySem.W.codeIn K cd2 "with_one_card_more"=true) (k2:PySem.W.keepIn K (.ref f2)=true)
 (a3:PySem.W.nsIn K mainGlobals "carries"=some (some (.ref f3))) (l3:K.lookup f3=some ⟨oc3,od3,.func (PySem.W.fnOf "carries" "carries" (Z0 Ub) (Z2 Ub) (Z9 Ub) .none kV3 dc3 pm3 an3 cd3 ct3),sl3⟩) (c3:PySem.W.codeIn K cd3 "carries"=true) (k3:PySem.W.keepIn K (.ref f3)=true)
 (a4:PySem.W.nsIn K mainGlobals "carries_from"=some (some (.ref f4))) (l4:K.lookup f4=some ⟨oc4,od4,.func (PySem.W.fnOf "carries_from" "carries_from" (Z0 W0) (Z2 W0) (Z9 W0) .none kV4 dc4 pm4 an4 cd4 ct4),sl4⟩) (c4:PySem.W.codeIn K cd4 "carries_from"=true) (k4:PySem.W.keepIn K (.ref f4)=true)
 (a5:PySem.W.nsIn K mainGlobals "carries_from_to"=some (some (.ref f5))) (l5:K.lookup f5=some ⟨oc5,od5,.func (PySem.W.fnOf "carries_from_to" "carries_from_to" (Z0 XM) (Z2 XM) (Z9 XM) .none kV5 dc5 pm5 an5 cd5 ct5),sl5⟩) (c5:PySem.W.codeIn K cd5 "carries_from_to"=true) (k5:PySem.W.keepIn K (.ref f5)=true)
 (a6:PySem.W.nsIn K mainGlobals "is_whole"=some (some (.ref f6))) (l6:K.lookup f6=some ⟨oc6,od6,.func (PySem.W.fnOf "is_whole" "is_whole" (Z0 Vj) (Z2 Vj) (Z9 Vj) .none kV6 dc6 pm6 an6 cd6 ct6),sl6⟩) (c6:PySem.W.codeIn K cd6 "is_whole"=true) (k6:PySem.W.keepIn K (.ref f6)=true)
 (a7:PySem.W.nsIn K mainGlobals "power"=some (some (.ref f7))) (l7:K.lookup f7=some ⟨oc7,od7,.func (PySem.W.fnOf "power" "power" (Z0 O2) (Z2 O2) (Z9 O2) .none kV7 dc7 pm7 an7 cd7 ct7),sl7⟩) (c7:PySem.W.codeIn K cd7 "power"=true) (k7:PySem.W.keepIn K (.ref f7)=true)
 (a8:PySem.W.nsIn K mainGlobals "added"=some (some (.ref f8))) (l8:K.lookup f8=some ⟨oc8,od8,.func (PySem.W.fnOf "added" "added" (Z0 O1) (Z2 O1) (Z9 O1) .none kV8 dc8 pm8 an8 cd8 ct8),sl8⟩) (c8:PySem.W.codeIn K cd8 "added"=true) (k8:PySem.W.keepIn K (.ref f8)=true)
 (a9:PySem.W.nsIn K mainGlobals "are_numbers"=some (some (.ref f9))) (l9:K.lookup f9=some ⟨oc9,od9,.func (PySem.W.fnOf "are_numbers" "are_numbers" (Z0 Wo) (Z2 Wo) (Z9 Wo) .none kV9 dc9 pm9 an9 cd9 ct9),sl9⟩) (c9:PySem.W.codeIn K cd9 "are_numbers"=true) (k9:PySem.W.keepIn K (.ref f9)=true)
 (a10:PySem.W.nsIn K mainGlobals "is_number"=some (some (.ref f10))) (l10:K.lookup f10=some ⟨aeR,aeO,.func (PySem.W.fnOf "is_number" "is_number" (Z0 UG) (Z2 UG) (Z9 UG) .none aeS aeT aeU aeP acB aeV),aeQ⟩) (c10:PySem.W.codeIn K acB "is_number"=true) (k10:PySem.W.keepIn K (.ref f10)=true)
 (a11:PySem.W.nsIn K mainGlobals "fraction"=some (some (.ref f11))) (l11:K.lookup f11=some ⟨aeZ,aeW,.func (PySem.W.fnOf "fraction" "fraction" (Z0 Vi) (Z2 Vi) (Z9 Vi) .none ae0 ae1 ae2 aeX acC ae3),aeY⟩) (aD:PySem.W.codeIn K acC "fraction"=true) (k11:PySem.W.keepIn K (.ref f11)=true)
 (a12:PySem.W.nsIn K mainGlobals "greatest_common"=some (some (.ref f12))) (l12:K.lookup f12=some ⟨ae7,ae4,.func (PySem.W.fnOf "greatest_common" "greatest_common" (Z0 Yv) (Z2 Yv) (Z9 Yv) .none ae8 ae9 afa ae5 acD afb),ae6⟩) (c12:PySem.W.codeIn K acD "greatest_common"=true) (k12:PySem.W.keepIn K (.ref f12)=true)
 (a13:PySem.W.nsIn K mainGlobals "far"=some (some (.ref f13))) (l13:K.lookup f13=some ⟨afg,afc,.func (PySem.W.fnOf "far" "far" (Z0 Er) (Z2 Er) (Z9 Er) .none afh afi afj afd acE afk),afe⟩) (c13:PySem.W.codeIn K acE "far"=true) (k13:PySem.W.keepIn K (.ref f13)=true)
 (a14:PySem.W.nsIn K mainGlobals "words_to_order"=some (some (.ref f14))) (l14:K.lookup f14=some ⟨afo,afl,.func (PySem.W.fnOf "words_to_order" "words_to_order" (Z0 Yn) (Z2 Yn) (Z9 Yn) .none afp afq afr afm acF afs),afn⟩) (c14:PySem.W.codeIn K acF "words_to_order"=true) (k14:PySem.W.keepIn K (.ref f14)=true)
 (a15:PySem.W.nsIn K mainGlobals "first"=some (some (.ref f15))) (l15:K.lookup f15=some ⟨afw,aft,.func (PySem.W.fnOf "first" "first" (Z0 OJ) (Z2 OJ) (Z9 OJ) .none afx afy afz afu acG afA),afv⟩) (c15:PySem.W.codeIn K acG "first"=true) (k15:PySem.W.keepIn K (.ref f15)=true)
 (a16:PySem.W.nsIn K mainGlobals "places"=some (some (.ref f16))) (l16:K.lookup f16=some ⟨afE,afB,.func (PySem.W.fnOf "places" "places" (Z0 RL) (Z2 RL) (Z9 RL) .none afF afG afH afC acH afI),afD⟩) (c16:PySem.W.codeIn K acH "places"=true) (k16:PySem.W.keepIn K (.ref f16)=true)
 (a17:PySem.W.nsIn K mainGlobals "laid"=some (some (.ref f17))) (l17:K.lookup f17=some ⟨afM,afJ,.func (PySem.W.fnOf "laid" "laid" (Z0 Nr) (Z2 Nr) (Z9 Nr) .none afN afO afP afK acI afQ),afL⟩) (c17:PySem.W.codeIn K acI "laid"=true) (k17:PySem.W.keepIn K (.ref f17)=true)
 (a18:PySem.W.nsIn K mainGlobals "falls"=some (some (.ref f18))) (l18:K.lookup f18=some ⟨afU,afR,.func (PySem.W.fnOf "falls" "falls" (Z0 Ri) (Z2 Ri) (Z9 Ri) .none afV afW afX afS acJ afY),afT⟩) (c18:PySem.W.codeIn K acJ "falls"=true) (k18:PySem.W.keepIn K (.ref f18)=true)
 (a19:PySem.W.nsIn K mainGlobals "runs"=some (some (.ref f19))) (l19:K.lookup f19=some ⟨af3,afZ,.func (PySem.W.fnOf "runs" "runs" (Z0 KY) (Z2 KY) (Z9 KY) .none af4 af5 af6 af0 acK af7),af2⟩) (c19:PySem.W.codeIn K acK "runs"=true) (k19:PySem.W.keepIn K (.ref f19)=true)
 (a20:PySem.W.nsIn K mainGlobals "is_marks"=some (some (.ref f20))) (l20:K.lookup f20=some ⟨agb,af8,.func (PySem.W.fnOf "is_marks" "is_marks" (Z0 Wf) (Z2 Wf) (Z9 Wf) .none agc agd agf af9 acL agg),aga⟩) (c20:PySem.W.codeIn K acL "is_marks"=true) (k20:PySem.W.keepIn K (.ref f20)=true)
 (a21:PySem.W.nsIn K mainGlobals "is_word"=some (some (.ref f21))) (l21:K.lookup f21=some ⟨agk,agh,.func (PySem.W.fnOf "is_word" "is_word" (Z0 Vh) (Z2 Vh) (Z9 Vh) .none agl agm agn agi acM ago),agj⟩) (c21:PySem.W.codeIn K acM "is_word"=true) (k21:PySem.W.keepIn K (.ref f21)=true)
 (a22:PySem.W.nsIn K mainGlobals "is_heap"=some (some (.ref f22))) (l22:K.lookup f22=some ⟨ags,agp,.func (PySem.W.fnOf "is_heap" "is_heap" (Z0 Ua) (Z2 Ua) (Z9 Ua) .none agt agu agv agq acN agw),agr⟩) (c22:PySem.W.codeIn K acN "is_heap"=true) (k22:PySem.W.keepIn K (.ref f22)=true)
 (a23:PySem.W.nsIn K mainGlobals "check_word"=some (some (.ref f23))) (l23:K.lookup f23=some ⟨agA,agx,.func (PySem.W.fnOf "check_word" "check_word" (Z0 WM) (Z2 WM) (Z9 WM) .none agB agC agD agy acO agE),agz⟩) (c23:PySem.W.codeIn K acO "check_word"=true) (k23:PySem.W.keepIn K (.ref f23)=true)
 (a24:PySem.W.nsIn K mainGlobals "sizes"=some (some (.ref f24))) (l24:K.lookup f24=some ⟨agI,agF,.func (PySem.W.fnOf "sizes" "sizes" (Z0 Rh) (Z2 Rh) (Z9 Rh) .none agJ agK agL agG acP agM),agH⟩) (c24:PySem.W.codeIn K acP "sizes"=true) (k24:PySem.W.keepIn K (.ref f24)=true)
 (a25:PySem.W.nsIn K mainGlobals "riffled"=some (some (.ref f25))) (l25:K.lookup f25=some ⟨agQ,agN,.func (PySem.W.fnOf "riffled" "riffled" (Z0 T_) (Z2 T_) (Z9 T_) .none agR agS agT agO acQ agU),agP⟩) (c25:PySem.W.codeIn K acQ "riffled"=true) (k25:PySem.W.keepIn K (.ref f25)=true)
 (a26:PySem.W.nsIn K mainGlobals "undone"=some (some (.ref f26))) (l26:K.lookup f26=some ⟨agY,agV,.func (PySem.W.fnOf "undone" "undone" (Z0 RK) (Z2 RK) (Z9 RK) .none agZ ag0 ag1 agW acR ag2),agX⟩) (c26:PySem.W.codeIn K acR "undone"=true) (k26:PySem.W.keepIn K (.ref f26)=true)
 (a27:PySem.W.nsIn K mainGlobals "places_drawn_from"=some (some (.ref f27))) (l27:K.lookup f27=some ⟨ag6,ag3,.func (PySem.W.fnOf "places_drawn_from" "places_drawn_from" (Z0 YW) (Z2 YW) (Z9 YW) .none ag7 ag8 ag9 ag4 acS aha),ag5⟩) (c27:PySem.W.codeIn K acS "places_drawn_from"=true) (k27:PySem.W.keepIn K (.ref f27)=true)
 (a28:PySem.W.nsIn K mainGlobals "places_of_tops"=some (some (.ref f28))) (l28:K.lookup f28=some ⟨ahe,ahb,.func (PySem.W.fnOf "places_of_tops" "places_of_tops" (Z0 Ym) (Z2 Ym) (Z9 Ym) .none ahf ahg ahh ahc acT ahi),ahd⟩) (c28:PySem.W.codeIn K acT "places_of_tops"=true) (k28:PySem.W.keepIn K (.ref f28)=true)
 (a29:PySem.W.nsIn K mainGlobals "joined_marks"=some (some (.ref f29))) (l29:K.lookup f29=some ⟨ahm,ahj,.func (PySem.W.fnOf "joined_marks" "joined_marks" (Z0 Yg) (Z2 Yg) (Z9 Yg) .none ahn aho ahp ahk acU ahq),ahl⟩) (c29:PySem.W.codeIn K acU "joined_marks"=true) (k29:PySem.W.keepIn K (.ref f29)=true)
 (a30:PySem.W.nsIn K mainGlobals "joined"=some (some (.ref f30))) (l30:K.lookup f30=some ⟨ahu,ahr,.func (PySem.W.fnOf "joined" "joined" (Z0 Tt) (Z2 Tt) (Z9 Tt) .none ahv ahw ahx ahs acV ahy),aht⟩) (c30:PySem.W.codeIn K acV "joined"=true) (k30:PySem.W.keepIn K (.ref f30)=true)
 (a31:PySem.W.nsIn K mainGlobals "seen"=some (some (.ref f31))) (l31:K.lookup f31=some ⟨ahC,ahz,.func (PySem.W.fnOf "seen" "seen" (Z0 KR) (Z2 KR) (Z9 KR) .none ahD ahE ahF ahA acW ahG),ahB⟩) (c31:PySem.W.codeIn K acW "seen"=true) (k31:PySem.W.keepIn K (.ref f31)=true)
 (a32:PySem.W.nsIn K mainGlobals "read_number"=some (some (.ref f32))) (l32:K.lookup f32=some ⟨ahK,ahH,.func (PySem.W.fnOf "read_number" "read_number" (Z0 Xh) (Z2 Xh) (Z9 Xh) .none ahL ahM ahN ahI acX ahO),ahJ⟩) (c32:PySem.W.codeIn K acX "read_number"=true) (k32:PySem.W.keepIn K (.ref f32)=true)
 (a33:PySem.W.nsIn K mainGlobals "read_numbers"=some (some (.ref f33))) (l33:K.lookup f33=some ⟨ahS,ahP,.func (PySem.W.fnOf "read_numbers" "read_numbers" (Z0 Ye) (Z2 Ye) (Z9 Ye) .none ahT ahU ahV ahQ acY ahW),ahR⟩) (c33:PySem.W.codeIn K acY "read_numbers"=true) (k33:PySem.W.keepIn K (.ref f33)=true)
 (a34:PySem.W.nsIn K mainGlobals "read_marks"=some (some (.ref f34))) (l34:K.lookup f34=some ⟨ah0,ahX,.func (PySem.W.fnOf "read_marks" "read_marks" (Z0 Xq) (Z2 Xq) (Z9 Xq) .none ah1 ah2 ah3 ahY acZ ah4),ahZ⟩) (c34:PySem.W.codeIn K acZ "read_marks"=true) (k34:PySem.W.keepIn K (.ref f34)=true)
 (a35:PySem.W.nsIn K mainGlobals "is_written_number"=some (some (.ref f35))) (l35:K.lookup f35=some ⟨ah8,ah5,.func (PySem.W.fnOf "is_written_number" "is_written_number" (Z0 Y_) (Z2 Y_) (Z9 Y_) .none ah9 aia aib ah6 ac0 aic),ah7⟩) (c35:PySem.W.codeIn K ac0 "is_written_number"=true) (k35:PySem.W.keepIn K (.ref f35)=true)
 (a36:PySem.W.nsIn K mainGlobals "is_written_marks"=some (some (.ref f36))) (l36:K.lookup f36=some ⟨aij,aie,.func (PySem.W.fnOf "is_written_marks" "is_written_marks" (Z0 Y7) (Z2 Y7) (Z9 Y7) .none aik ail ain aif ac1 aio),aii⟩) (c36:PySem.W.codeIn K ac1 "is_written_marks"=true) (k36:PySem.W.keepIn K (.ref f36)=true)
 (a37:PySem.W.nsIn K mainGlobals "show_numbers"=some (some (.ref f37))) (l37:K.lookup f37=some ⟨ais,aip,.func (PySem.W.fnOf "show_numbers" "show_numbers" (Z0 Yd) (Z2 Yd) (Z9 Yd) .none ait aiu aiv aiq ac2 aiw),air⟩) (c37:PySem.W.codeIn K ac2 "show_numbers"=true) (k37:PySem.W.keepIn K (.ref f37)=true)
 (a38:PySem.W.nsIn K mainGlobals "show_marks"=some (some (.ref f38))) (l38:K.lookup f38=some ⟨aiA,aix,.func (PySem.W.fnOf "show_marks" "show_marks" (Z0 Xp) (Z2 Xp) (Z9 Xp) .none aiB aiC aiD aiy ac3 aiE),aiz⟩) (c38:PySem.W.codeIn K ac3 "show_marks"=true) (k38:PySem.W.keepIn K (.ref f38)=true)
 (a39:PySem.W.nsIn K mainGlobals "by_second"=some (some (.ref f39))) (l39:K.lookup f39=some ⟨aiI,aiF,.func (PySem.W.fnOf "by_second" "by_second" (Z0 V9) (Z2 V9) (Z9 V9) .none aiJ aiK aiL aiG ac4 aiM),aiH⟩) (c39:PySem.W.codeIn K ac4 "by_second"=true) (k39:PySem.W.keepIn K (.ref f39)=true)
 (a40:PySem.W.nsIn K mainGlobals "by_first"=some (some (.ref f40))) (l40:K.lookup f40=some ⟨aiQ,aiN,.func (PySem.W.fnOf "by_first" "by_first" (Z0 Vg) (Z2 Vg) (Z9 Vg) .none aiR aiS aiT aiO ac5 aiU),aiP⟩) (c40:PySem.W.codeIn K ac5 "by_first"=true) (k40:PySem.W.keepIn K (.ref f40)=true)
 (a41:PySem.W.nsIn K mainGlobals "rests"=some (some (.ref f41))) (l41:K.lookup f41=some ⟨aiY,aiV,.func (PySem.W.fnOf "rests" "rests" (Z0 OD) (Z2 OD) (Z9 OD) .none aiZ ai0 ai1 aiW ac6 ai2),aiX⟩) (c41:PySem.W.codeIn K ac6 "rests"=true) (k41:PySem.W.keepIn K (.ref f41)=true)
 (a42:PySem.W.nsIn K mainGlobals "leave_unlike_rests"=some (some (.ref f42))) (l42:K.lookup f42=some ⟨ai6,ai3,.func (PySem.W.fnOf "leave_unlike_rests" "leave_unlike_rests" (Z0 Zg) (Z2 Zg) (Z9 Zg) .none ai7 ai8 ai9 ai4 ac7 aja),ai5⟩) (c42:PySem.W.codeIn K ac7 "leave_unlike_rests"=true) (k42:PySem.W.keepIn K (.ref f42)=true)
 (a43:PySem.W.nsIn K mainGlobals "how_many"=some (some (.ref f43))) (l43:K.lookup f43=some ⟨aje,ajb,.func (PySem.W.fnOf "how_many" "how_many" (Z0 Vf) (Z2 Vf) (Z9 Vf) .none ajf ajg ajh ajc ac8 aji),ajd⟩) (c43:PySem.W.codeIn K ac8 "how_many"=true) (k43:PySem.W.keepIn K (.ref f43)=true)
 (a44:PySem.W.nsIn K mainGlobals "way"=some (some (.ref f44))) (l44:K.lookup f44=some ⟨ajm,ajj,.func (PySem.W.fnOf "way" "way" (Z0 Ep) (Z2 Ep) (Z9 Ep) .none ajn ajo ajp ajk ac9 ajq),ajl⟩) (c44:PySem.W.codeIn K ac9 "way"=true) (k44:PySem.W.keepIn K (.ref f44)=true)
 (a45:PySem.W.nsIn K mainGlobals "each_above_next"=some (some (.ref f45))) (l45:K.lookup f45=some ⟨aju,ajr,.func (PySem.W.fnOf "each_above_next" "each_above_next" (Z0 Y0) (Z2 Y0) (Z9 Y0) .none ajv ajw ajx ajs ada ajy),ajt⟩) (c45:PySem.W.codeIn K ada "each_above_next"=true) (k45:PySem.W.keepIn K (.ref f45)=true)
 (a46:PySem.W.nsIn K mainGlobals "least_for_next"=some (some (.ref f46))) (l46:K.lookup f46=some ⟨ajC,ajz,.func (PySem.W.fnOf "least_for_next" "least_for_next" (Z0 Yl) (Z2 Yl) (Z9 Yl) .none ajD ajE ajF ajA adb ajG),ajB⟩) (c46:PySem.W.codeIn K adb "least_for_next"=true) (k46:PySem.W.keepIn K (.ref f46)=true)
 (a47:PySem.W.nsIn K mainGlobals "counted"=some (some (.ref f47))) (l47:K.lookup f47=some ⟨ajK,ajH,.func (PySem.W.fnOf "counted" "counted" (Z0 T9) (Z2 T9) (Z9 T9) .none ajL ajM ajN ajI ade ajO),ajJ⟩) (c47:PySem.W.codeIn K ade "counted"=true) (k47:PySem.W.keepIn K (.ref f47)=true)
 (a48:PySem.W.nsIn K mainGlobals "answer_to_word"=some (some (.ref f48))) (l48:K.lookup f48=some ⟨ajS,ajP,.func (PySem.W.fnOf "answer_to_word" "answer_to_word" (Z0 Yk) (Z2 Yk) (Z9 Yk) .none ajT ajU ajV ajQ adf ajW),ajR⟩) (c48:PySem.W.codeIn K adf "answer_to_word"=true) (k48:PySem.W.keepIn K (.ref f48)=true)
 (a49:PySem.W.nsIn K mainGlobals "answer_to_words"=some (some (.ref f49))) (l49:K.lookup f49=some ⟨aj0,ajX,.func (PySem.W.fnOf "answer_to_words" "answer_to_words" (Z0 Yu) (Z2 Yu) (Z9 Yu) .none aj1 aj2 aj3 ajY adg aj4),ajZ⟩) (c49:PySem.W.codeIn K adg "answer_to_words"=true) (k49:PySem.W.keepIn K (.ref f49)=true)
 (a50:PySem.W.nsIn K mainGlobals "answer_to_carry"=some (some (.ref f50))) (l50:K.lookup f50=some ⟨aj8,aj5,.func (PySem.W.fnOf "answer_to_carry" "answer_to_carry" (Z0 Yt) (Z2 Yt) (Z9 Yt) .none aj9 akb akc aj6 adh akd),aj7⟩) (c50:PySem.W.codeIn K adh "answer_to_carry"=true) (k50:PySem.W.keepIn K (.ref f50)=true)
 (a51:PySem.W.nsIn K mainGlobals "answer_to_add"=some (some (.ref f51))) (l51:K.lookup f51=some ⟨akh,ake,.func (PySem.W.fnOf "answer_to_add" "answer_to_add" (Z0 YT) (Z2 YT) (Z9 YT) .none aki akj akk akf adi akl),akg⟩) (c51:PySem.W.codeIn K adi "answer_to_add"=true) (k51:PySem.W.keepIn K (.ref f51)=true)
 (a52:PySem.W.nsIn K mainGlobals "figures_of"=some (some (.ref f52))) (l52:K.lookup f52=some ⟨akp,akm,.func (PySem.W.fnOf "figures_of" "figures_of" (Z0 WD) (Z2 WD) (Z9 WD) .none akq akr aks akn adk akt),ako⟩) (c52:PySem.W.codeIn K adk "figures_of"=true) (k52:PySem.W.keepIn K (.ref f52)=true)
 (a53:PySem.W.nsIn K mainGlobals "answer_to_far"=some (some (.ref f53))) (l53:K.lookup f53=some ⟨aky,aku,.func (PySem.W.fnOf "answer_to_far" "answer_to_far" (Z0 X3) (Z2 X3) (Z9 X3) .none akz akA akB akv adl akC),akx⟩) (c53:PySem.W.codeIn K adl "answer_to_far"=true) (k53:PySem.W.keepIn K (.ref f53)=true)
 (a54:PySem.W.nsIn K mainGlobals "show_whole"=some (some (.ref f54))) (l54:K.lookup f54=some ⟨akG,akD,.func (PySem.W.fnOf "show_whole" "show_whole" (Z0 Wz) (Z2 Wz) (Z9 Wz) .none akH akI akJ akE adn akK),akF⟩) (c54:PySem.W.codeIn K adn "show_whole"=true) (k54:PySem.W.keepIn K (.ref f54)=true)
 (a55:PySem.W.nsIn K mainGlobals "show_cut"=some (some (.ref f55))) (l55:K.lookup f55=some ⟨akO,akL,.func (PySem.W.fnOf "show_cut" "show_cut" (Z0 Vd) (Z2 Vd) (Z9 Vd) .none akP akQ akR akM ado akS),akN⟩) (c55:PySem.W.codeIn K ado "show_cut"=true) (k55:PySem.W.keepIn K (.ref f55)=true)
 (a56:PySem.W.nsIn K mainGlobals "show_rests"=some (some (.ref f56))) (l56:K.lookup f56=some ⟨akW,akT,.func (PySem.W.fnOf "show_rests" "show_rests" (Z0 Wy) (Z2 Wy) (Z9 Wy) .none akX akY akZ akU adp ak0),akV⟩) (c56:PySem.W.codeIn K adp "show_rests"=true) (k56:PySem.W.keepIn K (.ref f56)=true)
 (a57:PySem.W.nsIn K mainGlobals "_law_cell_at"=some (some (.ref f57))) (l57:K.lookup f57=some ⟨ak4,ak1,.func (PySem.W.fnOf "_law_cell_at" "_law_cell_at" (Z0 V8) (Z2 V8) (Z9 V8) .none ak5 ak6 ak7 ak2 adq ak8),ak3⟩) (c57:PySem.W.codeIn K adq "_law_cell_at"=true) (k57:PySem.W.keepIn K (.ref f57)=true)
 (a58:PySem.W.nsIn K mainGlobals "_law_mixed"=some (some (.ref f58))) (l58:K.lookup f58=some ⟨alc,ak9,.func (PySem.W.fnOf "_law_mixed" "_law_mixed" (Z0 T8) (Z2 T8) (Z9 T8) .none ald ale alf ala adt alg),alb⟩) (c58:PySem.W.codeIn K adt "_law_mixed"=true) (k58:PySem.W.keepIn K (.ref f58)=true)
 (a59:PySem.W.nsIn K mainGlobals "_law_marks"=some (some (.ref f59))) (l59:K.lookup f59=some ⟨alm,alh,.func (PySem.W.fnOf "_law_marks" "_law_marks" (Z0 T7) (Z2 T7) (Z9 T7) .none aln alo alp ali adu alq),alj⟩) (c59:PySem.W.codeIn K adu "_law_marks"=true) (k59:PySem.W.keepIn K (.ref f59)=true)
 (a60:PySem.W.nsIn K mainGlobals "_law_word"=some (some (.ref f60))) (l60:K.lookup f60=some ⟨alv,alr,.func (PySem.W.fnOf "_law_word" "_law_word" (Z0 RJ) (Z2 RJ) (Z9 RJ) .none alw alx aly als adv alz),alu⟩) (c60:PySem.W.codeIn K adv "_law_word"=true) (k60:PySem.W.keepIn K (.ref f60)=true)
 (a61:PySem.W.nsIn K mainGlobals "_law_class"=some (some (.ref f61))) (l61:K.lookup f61=some ⟨alD,alA,.func (PySem.W.fnOf "_law_class" "_law_class" (Z0 T6) (Z2 T6) (Z9 T6) .none alE alF alG alB adw alH),alC⟩) (c61:PySem.W.codeIn K adw "_law_class"=true) (k61:PySem.W.keepIn K (.ref f61)=true)
 (a62:PySem.W.nsIn K mainGlobals "_law_refused"=some (some (.ref f62))) (l62:K.lookup f62=some ⟨alL,alI,.func (PySem.W.fnOf "_law_refused" "_law_refused" (Z0 V7) (Z2 V7) (Z9 V7) .none alM alN alO alJ adx alP),alK⟩) (c62:PySem.W.codeIn K adx "_law_refused"=true) (k62:PySem.W.keepIn K (.ref f62)=true)
 (a63:PySem.W.nsIn K mainGlobals "_law_none"=some (some (.ref f63))) (l63:K.lookup f63=some ⟨alT,alQ,.func (PySem.W.fnOf "_law_none" "_law_none" (Z0 RG) (Z2 RG) (Z9 RG) .none alU alV alW alR ady alX),alS⟩) (c63:PySem.W.codeIn K ady "_law_none"=true) (k63:PySem.W.keepIn K (.ref f63)=true)
 (a64:PySem.W.nsIn K mainGlobals "_law_due"=some (some (.ref f64))) (l64:K.lookup f64=some ⟨al1,alY,.func (PySem.W.fnOf "_law_due" "_law_due" (Z0 Oz) (Z2 Oz) (Z9 Oz) .none al2 al3 al4 alZ adz al5),al0⟩) (c64:PySem.W.codeIn K adz "_law_due"=true) (k64:PySem.W.keepIn K (.ref f64)=true)
 (a65:PySem.W.nsIn K mainGlobals "_law_seen"=some (some (.ref f65))) (l65:K.lookup f65=some ⟨al9,al6,.func (PySem.W.fnOf "_law_seen" "_law_seen" (Z0 Tr) (Z2 Tr) (Z9 Tr) .none ama amb amc al7 adA amd),al8⟩) (c65:PySem.W.codeIn K adA "_law_seen"=true) (k65:PySem.W.keepIn K (.ref f65)=true)
 (a66:PySem.W.nsIn K mainGlobals "law"=some (some (.ref f66))) (l66:K.lookup f66=some ⟨amh,ame,.func (PySem.W.fnOf "law" "law" (Z0 Wn) (Z2 Wn) (Z9 Wn) .none ami amj amk amf adB aml),amg⟩) (c66:PySem.W.codeIn K adB "law"=true) (k66:PySem.W.keepIn K (.ref f66)=true)
 (z0:PySem.W.nsIn K mainGlobals "abs"=some none)
 (z1:PySem.W.nsIn K mainGlobals "all"=some none)
 (z2:PySem.W.nsIn K mainGlobals "bool"=some none)
 (z3:PySem.W.nsIn K mainGlobals "enumerate"=some none)
 (z4:PySem.W.nsIn K mainGlobals "int"=some none)
 (z5:PySem.W.nsIn K mainGlobals "isinstance"=some none)
 (z6:PySem.W.nsIn K mainGlobals "len"=some none)
 (z7:PySem.W.nsIn K mainGlobals "list"=some none)
 (z8:PySem.W.nsIn K mainGlobals "max"=some none)
 (z9:PySem.W.nsIn K mainGlobals "min"=some none)
 (cZ:PySem.W.nsIn K mainGlobals "range"=some none)
 (cY:PySem.W.nsIn K mainGlobals "set"=some none)
 (cX:PySem.W.nsIn K mainGlobals "str"=some none)
 (z13:PySem.W.nsIn K mainGlobals "sum"=some none)
 (z14:PySem.W.nsIn K mainGlobals "zip"=some none)
 {y0:Tok} (x0:PySem.W.nsIn K mainGlobals "FIGURES"=some (some (.str "0123456789" y0)))
 {y1:Tok} (x1:PySem.W.nsIn K mainGlobals "MOST_ADDED"=some (some (.int 60 y1)))
 {y2:Tok} (x2:PySem.W.nsIn K mainGlobals "MOST_CARDS"=some (some (.int 60 y2)))
 {y3:Tok} (x3:PySem.W.nsIn K mainGlobals "MOST_CARDS_FAR"=some (some (.int 20 y3)))
 {y4:Tok} (x4:PySem.W.nsIn K mainGlobals "MOST_FIGURES"=some (some (.int 12 y4)))
 {y5:Tok} (x5:PySem.W.nsIn K mainGlobals "MOST_HEAPS"=some (some (.int 400 y5)))
 {y6:Tok} (x6:PySem.W.nsIn K mainGlobals "MOST_HEAPS_FAR"=some (some (.int 60 y6)))
 {y7:Tok} (x7:PySem.W.nsIn K mainGlobals "MOST_IN_TABLE"=some (some (.int 12 y7)))
 {y8:Tok} (x8:PySem.W.nsIn K mainGlobals "MOST_RIFFLES_FAR"=some (some (.int 20 y8)))
 :Txt K mg where
 zK:=ZC (st:=RM) (ps:=["n","k"]) X G a0 l0 c0 k0 λ_ _ _ _ _ _ us hl=>match us,hl with | [_,_],_=>rfl
 HW:=ZC (st:=Vk) (ps:=["n"]) X G a1 l1 c1 k1 λ_ _ _ _ _ _ us hl=>match us,hl with | [_],_=>rfl
 Uz:=ZC (st:=Zh) (ps:=["counts"]) X G a2 l2 c2 k2 λ_ _ _ _ _ _ us hl=>match us,hl with | [_],_=>rfl
 Eo:=ZC (st:=Ub) (ps:=["m","b"]) X G a3 l3 c3 k3 λ_ _ _ _ _ _ us hl=>match us,hl with | [_,_],_=>rfl
 HS:=ZC (st:=W0) (ps:=["m","b","i"]) X G a4 l4 c4 k4 λ_ _ _ _ _ _ us hl=>match us,hl with | [_,_,_],_=>rfl
 Mr:=ZC (st:=XM) (ps:=["m","b","i","j"]) X G a5 l5 c5 k5 λ_ _ _ _ _ _ us hl=>match us,hl with | [_,_,_,_],_=>rfl
 Hz:=ZC (st:=Vj) (ps:=["thing"]) X G a6 l6 c6 k6 λ_ _ _ _ _ _ us hl=>match us,hl with | [_],_=>rfl
 ux:=ZC (st:=O2) (ps:=["base","times"]) X G a7 l7 c7 k7 λ_ _ _ _ _ _ us hl=>match us,hl with | [_,_],_=>rfl
 uw:=ZC (st:=O1) (ps:=["numbers","b"]) X G a8 l8 c8 k8 λ_ _ _ _ _ _ us hl=>match us,hl with | [_,_],_=>rfl
 Gh:=ZC (st:=Wo) (ps:=["numbers","b"]) X G a9 l9 c9 k9 λ_ _ _ _ _ _ us hl=>match us,hl with | [_,_],_=>rfl
 zJ:=ZC (st:=UG) (ps:=["number","b"]) X G a10 l10 c10 k10 λ_ _ _ _ _ _ us hl=>match us,hl with | [_,_],_=>rfl
 Hy:=ZC (st:=Vi) (ps:=["top","bottom"]) X G a11 l11 aD k11 λ_ _ _ _ _ _ us hl=>match us,hl with | [_,_],_=>rfl
 SX:=ZC (st:=Yv) (ps:=["one","other"]) X G a12 l12 c12 k12 λ_ _ _ _ _ _ us hl=>match us,hl with | [_,_],_=>rfl
 cF:=ZC (st:=Er) (ps:=["n","b","k"]) X G a13 l13 c13 k13 λ_ _ _ _ _ _ us hl=>match us,hl with | [_,_,_],_=>rfl
 RD:=ZC (st:=Yn) (ps:=["n","heaps","r"]) X G a14 l14 c14 k14 λ_ _ _ _ _ _ us hl=>match us,hl with | [_,_,_],_=>rfl
 ur:=ZC (st:=OJ) (ps:=["n"]) X G a15 l15 c15 k15 λ_ _ _ _ _ _ us hl=>match us,hl with | [_],_=>rfl
 zH:=ZC (st:=RL) (ps:=["order"]) X G a16 l16 c16 k16 λ_ _ _ _ _ _ us hl=>match us,hl with | [_],_=>rfl
 lV:=ZC (st:=Nr) (ps:=["one","other"]) X G a17 l17 c17 k17 λ_ _ _ _ _ _ us hl=>match us,hl with | [_,_],_=>rfl
 uq:=ZC (st:=Ri) (ps:=["order"]) X G a18 l18 c18 k18 λ_ _ _ _ _ _ us hl=>match us,hl with | [_],_=>rfl
 lU:=ZC (st:=KY) (ps:=["order"]) X G a19 l19 c19 k19 λ_ _ _ _ _ _ us hl=>match us,hl with | [_],_=>rfl
 Hx:=ZC (st:=Wf) (ps:=["marks"]) X G a20 l20 c20 k20 λ_ _ _ _ _ _ us hl=>match us,hl with | [_],_=>rfl
 En:=ZC (st:=Vh) (ps:=["marks","word","n"]) X G a21 l21 c21 k21 λ_ _ _ _ _ _ us hl=>match us,hl with | [_,_,_],_=>rfl
 Em:=ZC (st:=Ua) (ps:=["marks","part"]) X G a22 l22 c22 k22 λ_ _ _ _ _ _ us hl=>match us,hl with | [_,_],_=>rfl
 Rg:=ZC (st:=WM) (ps:=["marks","word","n"]) X G a23 l23 c23 k23 λ_ _ _ _ _ _ us hl=>match us,hl with | [_,_,_],_=>rfl
 uo:=ZC (st:=Rh) (ps:=["marks","word"]) X G a24 l24 c24 k24 λ_ _ _ _ _ _ us hl=>match us,hl with | [_,_],_=>rfl
 KQ:=ZC (st:=T_) (ps:=["order","marks","word"]) X G a25 l25 c25 k25 λ_ _ _ _ _ _ us hl=>match us,hl with | [_,_,_],_=>rfl
 zG:=ZC (st:=RK) (ps:=["order","marks","word"]) X G a26 l26 c26 k26 λ_ _ _ _ _ _ us hl=>match us,hl with | [_,_,_],_=>rfl
 Um:=ZC (st:=YW) (ps:=["marks","word"]) X G a27 l27 c27 k27 λ_ _ _ _ _ _ us hl=>match us,hl with | [_,_],_=>rfl
 RB:=ZC (st:=Ym) (ps:=["marks","counts"]) X G a28 l28 c28 k28 λ_ _ _ _ _ _ us hl=>match us,hl with | [_,_],_=>rfl
 Qj:=ZC (st:=Yg) (ps:=["marks","others"]) X G a29 l29 c29 k29 λ_ _ _ _ _ _ us hl=>match us,hl with | [_,_],_=>rfl
 zF:=ZC (st:=Tt) (ps:=["marks","word","others","more"]) X G a30 l30 c30 k30 λ_ _ _ _ _ _ us hl=>match us,hl with | [_,_,_,_],_=>rfl
 lR:=ZC (st:=KR) (ps:=["marks","others","heap","other"]) X G a31 l31 c31 k31 λ_ _ _ _ _ _ us hl=>match us,hl with | [_,_,_,_],_=>rfl
 N_:=ZC (st:=Xh) (ps:=["word"]) X G a32 l32 c32 k32 λ_ _ _ _ _ _ us hl=>match us,hl with | [_],_=>rfl
 Qi:=ZC (st:=Ye) (ps:=["words"]) X G a33 l33 c33 k33 λ_ _ _ _ _ _ us hl=>match us,hl with | [_],_=>rfl
 Mq:=ZC (st:=Xq) (ps:=["word"]) X G a34 l34 c34 k34 λ_ _ _ _ _ _ us hl=>match us,hl with | [_],_=>rfl
 Ul:=ZC (st:=Y_) (ps:=["word"]) X G a35 l35 c35 k35 λ_ _ _ _ _ _ us hl=>match us,hl with | [_],_=>rfl
 Tq:=ZC (st:=Y7) (ps:=["word"]) X G a36 l36 c36 k36 λ_ _ _ _ _ _ us hl=>match us,hl with | [_],_=>rfl
 Qh:=ZC (st:=Yd) (ps:=["row"]) X G a37 l37 c37 k37 λ_ _ _ _ _ _ us hl=>match us,hl with | [_],_=>rfl
 Mp:=ZC (st:=Xp) (ps:=["marks"]) X G a38 l38 c38 k38 λ_ _ _ _ _ _ us hl=>match us,hl with | [_],_=>rfl
 J5:=ZC (st:=V9) (ps:=["order"]) X G a39 l39 c39 k39 λ_ _ _ _ _ _ us hl=>match us,hl with | [_],_=>rfl
 Hw:=ZC (st:=Vg) (ps:=["order"]) X G a40 l40 c40 k40 λ_ _ _ _ _ _ us hl=>match us,hl with | [_],_=>rfl
 um:=ZC (st:=OD) (ps:=["order"]) X G a41 l41 c41 k41 λ_ _ _ _ _ _ us hl=>match us,hl with | [_],_=>rfl
 Uy:=ZC (st:=Zg) (ps:=["cards"]) X G a42 l42 c42 k42 λ_ _ _ _ _ _ us hl=>match us,hl with | [_],_=>rfl
 Hv:=ZC (st:=Vf) (ps:=["order","marks"]) X G a43 l43 c43 k43 λ_ _ _ _ _ _ us hl=>match us,hl with | [_,_],_=>rfl
 cD:=ZC (st:=Ep) (ps:=["order","marks","number"]) X G a44 l44 c44 k44 λ_ _ _ _ _ _ us hl=>match us,hl with | [_,_,_],_=>rfl
 SN:=ZC (st:=Y0) (ps:=["order"]) X G a45 l45 c45 k45 λ_ _ _ _ _ _ us hl=>match us,hl with | [_],_=>rfl
 Rz:=ZC (st:=Yl) (ps:=["above_next","marks","heap"]) X G a46 l46 c46 k46 λ_ _ _ _ _ _ us hl=>match us,hl with | [_,_,_],_=>rfl
 El:=ZC (st:=T9) (ps:=["above_next","marks"]) X G a47 l47 c47 k47 λ_ _ _ _ _ _ us hl=>match us,hl with | [_,_],_=>rfl
 Ry:=ZC (st:=Yk) (ps:=["pack","asked"]) X G a48 l48 c48 k48 λ_ _ _ _ _ _ us hl=>match us,hl with | [_,_],_=>rfl
 SM:=ZC (st:=Yu) (ps:=["pack","asked","words"]) X G a49 l49 c49 k49 λ_ _ _ _ _ _ us hl=>match us,hl with | [_,_,_],_=>rfl
 Sy:=ZC (st:=Yt) (ps:=["numbers"]) X G a50 l50 c50 k50 λ_ _ _ _ _ _ us hl=>match us,hl with | [_],_=>rfl
 QS:=ZC (st:=YT) (ps:=["words"]) X G a51 l51 c51 k51 λ_ _ _ _ _ _ us hl=>match us,hl with | [_],_=>rfl
 Ml:=ZC (st:=WD) (ps:=["word","columns"]) X G a52 l52 c52 k52 λ_ _ _ _ _ _ us hl=>match us,hl with | [_,_],_=>rfl
 QM:=ZC (st:=X3) (ps:=["n","b","k"]) X G a53 l53 c53 k53 λ_ _ _ _ _ _ us hl=>match us,hl with | [_,_,_],_=>rfl
 Mj:=ZC (st:=Wz) (ps:=["riffle"]) X G a54 l54 c54 k54 λ_ _ _ _ _ _ us hl=>match us,hl with | [_],_=>rfl
 Hu:=ZC (st:=Vd) (ps:=["told"]) X G a55 l55 c55 k55 λ_ _ _ _ _ _ us hl=>match us,hl with | [_],_=>rfl
 Mi:=ZC (st:=Wy) (ps:=["told"]) X G a56 l56 c56 k56 λ_ _ _ _ _ _ us hl=>match us,hl with | [_],_=>rfl
 J4:=ZC (st:=V8) (ps:=["_law_script","_law_k"]) X G a57 l57 c57 k57 λ_ _ _ _ _ _ us hl=>match us,hl with | [_,_],_=>rfl
 Ek:=ZC (st:=T8) (ps:=["_law_cell","_law_k"]) X G a58 l58 c58 k58 λ_ _ _ _ _ _ us hl=>match us,hl with | [_,_],_=>rfl
 Ej:=ZC (st:=T7) (ps:=["_law_cell","_law_most"]) X G a59 l59 c59 k59 λ_ _ _ _ _ _ us hl=>match us,hl with | [_,_],_=>rfl
 zE:=ZC (st:=RJ) (ps:=["_law_cell","_law_heaps","_law_n"]) X G a60 l60 c60 k60 λ_ _ _ _ _ _ us hl=>match us,hl with | [_,_,_],_=>rfl
 Ei:=ZC (st:=T6) (ps:=["_law_e"]) X G a61 l61 c61 k61 λ_ _ _ _ _ _ us hl=>match us,hl with | [_],_=>rfl
 J3:=ZC (st:=V7) (ps:=["_law_desk","_law_row","_law_due_here"]) X G a62 l62 c62 k62 λ_ _ _ _ _ _ us hl=>match us,hl with | [_,_,_],_=>rfl
 zB:=ZC (st:=RG) (ps:=["_law_cell"]) X G a63 l63 c63 k63 λ_ _ _ _ _ _ us hl=>match us,hl with | [_],_=>rfl
 uh:=ZC (st:=Oz) (ps:=["_law_n","_law_cell"]) X G a64 l64 c64 k64 λ_ _ _ _ _ _ us hl=>match us,hl with | [_,_],_=>rfl
 zA:=ZC (st:=Tr) (ps:=["_law_desk"]) X G a65 l65 c65 k65 λ_ _ _ _ _ _ us hl=>match us,hl with | [_],_=>rfl
 lQ:=ZC (st:=Wn) (ps:=["_law_script"]) X G a66 l66 c66 k66 λ_ _ _ _ _ _ us hl=>match us,hl with | [_],_=>rfl
 Ht:=PySem.W.mg_none_of X G z0
 zy:=PySem.W.mg_none_of X G z1
 wg:=PySem.W.mg_none_of X G z2
 V6:=PySem.W.mg_none_of X G z3
 ug:=PySem.W.mg_none_of X G z4
 YZ:=PySem.W.mg_none_of X G z5
 Za:=PySem.W.mg_none_of X G z6
 Qg:=PySem.W.mg_none_of X G z7
 cC:=PySem.W.mg_none_of X G z8
 cB:=PySem.W.mg_none_of X G z9
 XJ:=PySem.W.mg_none_of X G cZ
 cA:=PySem.W.mg_none_of X G cY
 Sx:=PySem.W.mg_none_of X G cX
 lO:=PySem.W.mg_none_of X G z13
 lN:=PySem.W.mg_none_of X G z14
 Eh:=⟨_,PySem.W.mg_of X G x0⟩
 Mh:=⟨_,PySem.W.mg_of X G x1⟩
 Rc:=⟨_,PySem.W.mg_of X G x2⟩
 Rx:=⟨_,PySem.W.mg_of X G x3⟩
 Qf:=⟨_,PySem.W.mg_of X G x4⟩
 VP:=⟨_,PySem.W.mg_of X G x5⟩
 Rw:=⟨_,PySem.W.mg_of X G x6⟩
 QL:=⟨_,PySem.W.mg_of X G x7⟩
 Tp:=⟨_,PySem.W.mg_of X G x8⟩
theorem aaW {K:PySem.W.Frag} {h:Heap} {mg:Str→Option Value} {C:Addr} (X:K.In h) (G:h.Ns mainGlobals mg)
 {f0:Addr} {od0 an0:Option Addr} {sl0:Array (Option Value)} {oc0 kV0 dc0 pm0 bR ct0:Value} {f1:Addr} {od1 an1:Option Addr} {sl1:Array (Option Value)} {oc1 kV1 dc1 pm1 bQ ct1:Value} {f2:Addr} {od2 an2:Option Addr} {sl2:Array (Option Value)} {oc2 kV2 dc2 pm2 cd2 ct2:Value} {f3:Addr} {od3 an3:Option Addr} {sl3:Array (Option Value)} {oc3 kV3 dc3 pm3 cd3 ct3:Value} {f4:Addr} {od4 an4:Option Addr} {sl4:Array (Option Value)} {oc4 kV4 dc4 pm4 cd4 ct4:Value}
 (aC:PySem.W.nsIn K mainGlobals "Pack"=some (some (.ref C)))
 (a0:PySem.W.findIn K (.ref C) "__init__"=some (some (.ref f0))) (i0:PySem.W.isFn K (.ref f0)=true) (l0:K.lookup f0=some ⟨oc0,od0,.func (PySem.W.fnOf "__init__" "Pack.__init__" (Z0 X5) (Z2 X5) (Z9 X5) .none kV0 dc0 pm0 an0 bR ct0),sl0⟩) (c0:PySem.W.codeIn K bR "Pack.__init__"=true) (k0:PySem.W.keepIn K (.ref f0)=true)
 (a1:PySem.W.findIn K (.ref C) "riffle"=some (some (.ref f1))) (i1:PySem.W.isFn K (.ref f1)=true) (l1:K.lookup f1=some ⟨oc1,od1,.func (PySem.W.fnOf "riffle" "Pack.riffle" (Z0 Xi) (Z2 Xi) (Z9 Xi) .none kV1 dc1 pm1 an1 bQ ct1),sl1⟩) (c1:PySem.W.codeIn K bQ "Pack.riffle"=true) (k1:PySem.W.keepIn K (.ref f1)=true)
 (a2:PySem.W.findIn K (.ref C) "undo"=some (some (.ref f2))) (i2:PySem.W.isFn K (.ref f2)=true) (l2:K.lookup f2=some ⟨oc2,od2,.func (PySem.W.fnOf "undo" "Pack.undo" (Z0 V_) (Z2 V_) (Z9 V_) .none kV2 dc2 pm2 an2 cd2 ct2),sl2⟩) (c2:PySem.W.codeIn K cd2 "Pack.undo"=true) (k2:PySem.W.keepIn K (.ref f2)=true)
 (a3:PySem.W.findIn K (.ref C) "order"=some (some (.ref f3))) (i3:PySem.W.isFn K (.ref f3)=true) (l3:K.lookup f3=some ⟨oc3,od3,.func (PySem.W.fnOf "order" "Pack.order" (Z0 WL) (Z2 WL) (Z9 WL) .none kV3 dc3 pm3 an3 cd3 ct3),sl3⟩) (c3:PySem.W.codeIn K cd3 "Pack.order"=true) (k3:PySem.W.keepIn K (.ref f3)=true)
 (a4:PySem.W.findIn K (.ref C) "whole"=some (some (.ref f4))) (i4:PySem.W.isFn K (.ref f4)=true) (l4:K.lookup f4=some ⟨oc4,od4,.func (PySem.W.fnOf "whole" "Pack.whole" (Z0 WK) (Z2 WK) (Z9 WK) .none kV4 dc4 pm4 an4 cd4 ct4),sl4⟩) (c4:PySem.W.codeIn K cd4 "Pack.whole"=true) (k4:PySem.W.keepIn K (.ref f4)=true)
 (pg:PySem.W.plainGet K C Str.empty=true) (hd:PySem.W.hasDictIn K C=true) (po:PySem.W.plainOver K C=true) (sa:PySem.W.findIn K (.ref C) "__setattr__"=some (some (.builtin "object.__setattr__"))) (mk:PySem.W.makesIn K C=true) (kc:PySem.W.keepIn K (.ref C)=true)
 (n0:PySem.W.findIn K (.ref C) "cards"=some none)
 (n1:PySem.W.findIn K (.ref C) "riffles"=some none)
 :Qe K mg C where
 cl:=⟨pg,hd,po,sa⟩
 U5:=n0
 V5:=n1
 Ut:=uQ (st:=X5) (ps:=["self","n"]) X G aC mk kc a0 i0 l0 c0 k0 λ_ _ _ _ _ _ us hl=>match us,hl with | [_,_],_=>rfl
 R6:=Mx (st:=Xi) (ps:=["self","marks","word"]) a1 i1 l1 c1 k1 λ_ _ _ _ _ _ us hl=>match us,hl with | [_,_,_],_=>rfl
 Qd:=Mx (st:=V_) (ps:=["self"]) a2 i2 l2 c2 k2 λ_ _ _ _ _ _ us hl=>match us,hl with | [_],_=>rfl
 Mg:=Mx (st:=WL) (ps:=["self"]) a3 i3 l3 c3 k3 λ_ _ _ _ _ _ us hl=>match us,hl with | [_],_=>rfl
 Rb:=Mx (st:=WK) (ps:=["self"]) a4 i4 l4 c4 k4 λ_ _ _ _ _ _ us hl=>match us,hl with | [_],_=>rfl
theorem eG {K:PySem.W.Frag} {h:Heap} {mg:Str→Option Value} {C:Addr} (X:K.In h) (G:h.Ns mainGlobals mg)
 {f0:Addr} {od0 an0:Option Addr} {sl0:Array (Option Value)} {oc0 kV0 dc0 pm0 bR ct0:Value} {f1:Addr} {od1 an1:Option Addr} {sl1:Array (Option Value)} {oc1 kV1 dc1 pm1 bQ ct1:Value}
 (aC:PySem.W.nsIn K mainGlobals "Desk"=some (some (.ref C)))
 (a0:PySem.W.findIn K (.ref C) "__init__"=some (some (.ref f0))) (i0:PySem.W.isFn K (.ref f0)=true) (l0:K.lookup f0=some ⟨oc0,od0,.func (PySem.W.fnOf "__init__" "Desk.__init__" (Z0 X4) (Z2 X4) (Z9 X4) .none kV0 dc0 pm0 an0 bR ct0),sl0⟩) (c0:PySem.W.codeIn K bR "Desk.__init__"=true) (k0:PySem.W.keepIn K (.ref f0)=true)
 (a1:PySem.W.findIn K (.ref C) "say"=some (some (.ref f1))) (i1:PySem.W.isFn K (.ref f1)=true) (l1:K.lookup f1=some ⟨oc1,od1,.func (PySem.W.fnOf "say" "Desk.say" (Z0 Ve) (Z2 Ve) (Z9 Ve) .none kV1 dc1 pm1 an1 bQ ct1),sl1⟩) (c1:PySem.W.codeIn K bQ "Desk.say"=true) (k1:PySem.W.keepIn K (.ref f1)=true)
 (pg:PySem.W.plainGet K C Str.empty=true) (hd:PySem.W.hasDictIn K C=true) (po:PySem.W.plainOver K C=true) (sa:PySem.W.findIn K (.ref C) "__setattr__"=some (some (.builtin "object.__setattr__"))) (mk:PySem.W.makesIn K C=true) (kc:PySem.W.keepIn K (.ref C)=true)
 (n0:PySem.W.findIn K (.ref C) "pack"=some none)
 :JD K mg C where
 cl:=⟨pg,hd,po,sa⟩
 Nq:=n0
 QK:=uQ (st:=X4) (ps:=["self"]) X G aC mk kc a0 i0 l0 c0 k0 λ_ _ _ _ _ _ us hl=>match us,hl with | [_],_=>rfl
 Hs:=Mx (st:=Ve) (ps:=["self","row"]) a1 i1 l1 c1 k1 λ_ _ _ _ _ _ us hl=>match us,hl with | [_,_],_=>rfl
theorem yu {K:PySem.W.Frag} {c r np nm nr nw tm nf nt:Addr} {a b d w t g x:Bool} (y0:PySem.W.mroIn K c (.ref r)=some true)
 (y1:PySem.W.findIn K (.ref c) "__getattribute__"=some (some (.builtin "BaseException.__getattribute__"))) (y2:PySem.W.findIn K (.ref c) "__getattr__"=some none) (y3:PySem.W.findIn K (.ref c) "__class__"=some (some (.builtin "object.__class__")))
 (y4:PySem.W.mroIn K c (.type "object")=some true) (y5:PySem.W.mroIn K c (.type "BaseException")=some true)
 (q1:PySem.W.kitOne K (.ref c) (.ref np)=some a)
 (q2:PySem.W.kitOne K (.ref c) (.ref nm)=some b)
 (q3:PySem.W.kitOne K (.ref c) (.ref nr)=some d)
 (q4:PySem.W.kitOne K (.ref c) (.ref nw)=some w)
 (q5:PySem.W.kitOne K (.ref c) (.ref tm)=some t)
 (q6:PySem.W.kitOne K (.ref c) (.ref nf)=some g)
 (q7:PySem.W.kitOne K (.ref c) (.ref nt)=some x)
 :Cl K c r np nm nr nw tm nf nt a b d w t g x:=
 ⟨y0,⟨y1,y2,y3,y4,y5,by
  cases q:PySem.W.clsIn K c with
  |none=>rw[PySem.W.mroIn,q]at y4;cases y4
  |some c=>rfl⟩,q1,q2,q3,q4,q5,q6,q7⟩
theorem eF {K:PySem.W.Frag} {h:Heap} {mg:Str→Option Value} (X:K.In h) (G:h.Ns mainGlobals mg) {r np nm nr nw tm nf nt:Addr}
 (b0:PySem.W.nsIn K mainGlobals "RiftError"=some (some (.ref r)))
 (b1:PySem.W.nsIn K mainGlobals "NoPack"=some (some (.ref np)))
 (b2:PySem.W.nsIn K mainGlobals "NoMarks"=some (some (.ref nm)))
 (b3:PySem.W.nsIn K mainGlobals "NoRiffle"=some (some (.ref nr)))
 (b4:PySem.W.nsIn K mainGlobals "NoWay"=some (some (.ref nw)))
 (b5:PySem.W.nsIn K mainGlobals "TooMany"=some (some (.ref tm)))
 (b6:PySem.W.nsIn K mainGlobals "NoFigures"=some (some (.ref nf)))
 (b7:PySem.W.nsIn K mainGlobals "NoText"=some (some (.ref nt)))
 (x0:PySem.W.excIn K r Qy "ValueError.__new__"=true)
 (x1:PySem.W.excIn K np Qy "ValueError.__new__"=true)
 (x2:PySem.W.excIn K nm Qy "ValueError.__new__"=true)
 (x3:PySem.W.excIn K nr Qy "ValueError.__new__"=true)
 (x4:PySem.W.excIn K nw Qy "ValueError.__new__"=true)
 (x5:PySem.W.excIn K tm Qy "ValueError.__new__"=true)
 (x6:PySem.W.excIn K nf Qy "ValueError.__new__"=true)
 (x7:PySem.W.excIn K nt Qy "ValueError.__new__"=true)
 (c1:Cl K np r np nm nr nw tm nf nt true false false false false false false)
 (c3:Cl K nr r np nm nr nw tm nf nt false false true false false false false)
 (c4:Cl K nw r np nm nr nw tm nf nt false false false true false false false)
 (c5:Cl K tm r np nm nr nw tm nf nt false false false false true false false)
 (c7:Cl K nt r np nm nr nw tm nf nt false false false false false false true)
 :Td K mg r np nm nr nw tm nf nt:=
 ⟨PySem.W.mg_of X G b0,PySem.W.mg_of X G b1,PySem.W.mg_of X G b2,PySem.W.mg_of X G b3,PySem.W.mg_of X G b4,PySem.W.mg_of X G b5,PySem.W.mg_of X G b6,PySem.W.mg_of X G b7,x0,x1,x2,x3,x4,x5,x6,x7,c1,c3,c4,c5,c7⟩
theorem aaX {P:Program} {w:World} {K:PySem.W.Frag} {mg:Str→Option Value} {x y:Str} {st:Stmt} {fa:Addr} {k:Nat} {sp:Sp} (D:Def K mg x st [y]) (hfa:mg x=some (.ref fa)) (h:∀base:Heap,K.In base→Has P w K mg base k x [y] sp)
 (b:∀(kV doc pm:Value) (an:Option Addr) (cdv ct u:Value),bindArgs (PySem.W.fnOf x x (Z0 st) (Z2 st) (Z9 st) .none kV doc pm an cdv ct) ⟨[u],[]⟩=pure [(y,u)]):
 ∃fd:FuncData,(∀(s:Shared) (u:Value),BindsTo s fd ⟨[u],[]⟩ [(y,u)])∧∀base:Heap,K.In base→Wr P w K mg base Je k fa fd [y] sp:=by
 obtain⟨f,fd,F,_,m⟩:=D.ex
 rw[hfa]at m
 cases m
 obtain⟨oc,od,kV,doc,pm,an,cdv,ct,osl,rfl,lk,hcd⟩:=F.ex
 refine⟨PySem.W.fnOf x x (Z0 st) (Z2 st) (Z9 st) .none kV doc pm an cdv ct,λs u=> .of_eq (b ..),λbase kb=>?_⟩
 obtain⟨f',fd',G,_,_,m',oc',od',ana,lk'⟩:=(h base kb).ex
 rw[hfa]at m'
 cases m'
 rw[lk]at lk'
 cases lk'
 exact G
section
variable {P:Program} {w:World} {K:PySem.W.Frag} {mg:Str→Option Value} {base:Heap}
theorem d9 (T:Txt K mg) {C:Addr} (U:Qe K mg C) {CD:Addr} (UD:JD K mg CD) {r np nm nr nw tm nf nt:Addr} (e:Td K mg r np nm nr nw tm nf nt) (kb:K.In base):Has P w K mg base 27 "law" ["_law_script"] (GD K):=by
 have yt:=CJ (P:=P) (w:=w) (base:=base) (k:=0) T
 have M6:=zp (P:=P) (w:=w) (base:=base) (k:=0) T
 have tK:=lF (P:=P) (w:=w) (base:=base) (k:=0) T
 have Xw:=Ju (P:=P) (w:=w) (base:=base) (k:=0) T
 have qp:=vX (P:=P) (w:=w) (base:=base) (k:=1) T (M6.mono (by decide))
 have D_:=vW (P:=P) (w:=w) (base:=base) (k:=2) T (qp.mono (by decide))
 have Vy:=FT (P:=P) (w:=w) (base:=base) (k:=3) T (D_.mono (by decide))
 have BP:=gj (P:=P) (w:=w) (base:=base) (k:=0) T
 have Gy:=qL (P:=P) (w:=w) (base:=base) (k:=0) T
 have Kh:=Lz (P:=P) (w:=w) (base:=base) (k:=0) T
 have d8:=lG (P:=P) (w:=w) (base:=base) (k:=4) T (Vy.mono (by decide))
 have Wt:=PN (P:=P) (w:=w) (base:=base) (k:=5) T (Kh.mono (by decide)) (d8.mono (by decide))
 have yr:=qK (P:=P) (w:=w) (base:=base) (k:=6) T (Vy.mono (by decide)) (BP.mono (by decide)) (Gy.mono (by decide)) (Wt.mono (by decide))
 have Xl:=FQ (P:=P) (w:=w) (base:=base) (k:=0) T U
 have tH:=k_ (P:=P) (w:=w) (base:=base) (k:=0) T
 have aaY:=fQ (P:=P) (w:=w) (base:=base) (k:=1) T (tH.mono (by decide)) (Gy.mono (by decide))
 have BL:=FJ (P:=P) (w:=w) (base:=base) (k:=0) T
 have BK:=Fz (P:=P) (w:=w) (base:=base) (k:=1) T (BL.mono (by decide)) (Xw.mono (by decide))
 have Kg:=vV (P:=P) (w:=w) (base:=base) (k:=6) T (Vy.mono (by decide)) (BP.mono (by decide)) (Wt.mono (by decide))
 have jH:=fZ (P:=P) (w:=w) (base:=base) (k:=0) T
 have yq:=qJ (P:=P) (w:=w) (base:=base) (k:=7) T (Vy.mono (by decide)) (Kg.mono (by decide)) (jH.mono (by decide))
 have Pg:=Jy (P:=P) (w:=w) (base:=base) (k:=1) T (jH.mono (by decide))
 have vD:=yN (P:=P) (w:=w) (base:=base) (k:=0) T
 have yp:=Cw (P:=P) (w:=w) (base:=base) (k:=0) T
 have vC:=yZ (P:=P) (w:=w) (base:=base) (k:=0) T
 have BJ:=Fy (P:=P) (w:=w) (base:=base) (k:=1) T (Xw.mono (by decide))
 have Pb:=QC (P:=P) (w:=w) (base:=base) (k:=0) T
 have d7:=lq (P:=P) (w:=w) (base:=base) (k:=1) T (Pb.mono (by decide))
 have Oh:=Pr (P:=P) (w:=w) (base:=base) (k:=0) T
 have Gx:=zc (P:=P) (w:=w) (base:=base) (k:=0) T
 have M5:=Oo (P:=P) (w:=w) (base:=base) (k:=0) T
 have Rr:=Ln (P:=P) (w:=w) (base:=base) (k:=0) T
 have DY:=vO (P:=P) (w:=w) (base:=base) (k:=1) T (Rr.mono (by decide))
 have Sd:=M9 (P:=P) (w:=w) (base:=base) (k:=1) T (Gy.mono (by decide))
 have vB:=yP (P:=P) (w:=w) (base:=base) (k:=2) T (DY.mono (by decide)) (Sd.mono (by decide))
 have jG:=qH (P:=P) (w:=w) (base:=base) (k:=0) T
 have dZ:=kY (P:=P) (w:=w) (base:=base) (k:=0) T
 have Pa:=QB (P:=P) (w:=w) (base:=base) (k:=0) T
 have vA:=yQ (P:=P) (w:=w) (base:=base) (k:=1) T (Pa.mono (by decide))
 have Kf:=Lp (P:=P) (w:=w) (base:=base) (k:=1) T (jG.mono (by decide))
 have Le:=M_ (P:=P) (w:=w) (base:=base) (k:=0) T
 have vq:=yV (P:=P) (w:=w) (base:=base) (k:=1) T (Le.mono (by decide))
 have adC:=aaL (P:=P) (w:=w) (base:=base) (k:=2) T (dZ.mono (by decide)) (vA.mono (by decide)) (Kf.mono (by decide)) (vq.mono (by decide))
 have DX:=vZ (P:=P) (w:=w) (base:=base) (k:=0) T
 have qm:=vY (P:=P) (w:=w) (base:=base) (k:=1) T (DX.mono (by decide))
 have jF:=qN (P:=P) (w:=w) (base:=base) (k:=1) T (DX.mono (by decide))
 have jE:=qz (P:=P) (w:=w) (base:=base) (k:=0) T
 have dY:=jP (P:=P) (w:=w) (base:=base) (k:=0) T
 have yU:=FP (P:=P) (w:=w) (base:=base) (k:=7) T U (yr.mono (by decide)) (Xl.mono (by decide))
 have xU:=FN (P:=P) (w:=w) (base:=base) (k:=7) T U e kb (yr.mono (by decide)) (Xl.mono (by decide))
 have yW:=G_ (P:=P) (w:=w) (base:=base) (k:=8) T U (yq.mono (by decide)) (Pg.mono (by decide))
 have xW:=G7 (P:=P) (w:=w) (base:=base) (k:=8) T U e kb (yq.mono (by decide)) (Pg.mono (by decide))
 have Q8:=Hh (P:=P) (w:=w) (base:=base) (k:=3) T e kb (D_.mono (by decide))
 have Kw:=zf (P:=P) (w:=w) (base:=base) (k:=6) T e kb (Vy.mono (by decide)) (BP.mono (by decide)) (Wt.mono (by decide)) (Q8.mono (by decide))
 have yR:=Jx (P:=P) (w:=w) (base:=base) (k:=7) T U (Gx.mono (by decide)) (Kg.mono (by decide)) (Xl.mono (by decide))
 have xR:=Jw (P:=P) (w:=w) (base:=base) (k:=7) T U e kb (Gx.mono (by decide)) (Kg.mono (by decide)) (Kw.mono (by decide)) (Xl.mono (by decide))
 have yI:=Ly (P:=P) (w:=w) (base:=base) (k:=1) T U (M6.mono (by decide)) (tK.mono (by decide))
 have xI:=Ls (P:=P) (w:=w) (base:=base) (k:=1) T U e kb (M6.mono (by decide)) (tK.mono (by decide))
 have R4:=(Jv (P:=P) (w:=w) (base:=base) (k:=1) T e kb (Oh.mono (by decide))).hx
 have Bx:=(GZ (P:=P) (w:=w) (base:=base) (k:=1) T e kb (M5.mono (by decide))).hx
 have O_:=(Kv (P:=P) (w:=w) (base:=base) (k:=2) T e kb (R4.mono (by decide))).hx
 have aaZ:=(yU.or xU).hx
 have dX:=(yW.or xW).hx
 have jD:=(yR.or xR).hx
 have aa0:=(yI.or xI).hx
 have L1:Lo1 P w K mg base C nr tm:=⟨Xw.mono (by decide),aaZ.mono (by decide),Xl.mono (by decide),tH.mono (by decide),aaY.mono (by decide),BK.mono (by decide),dX.mono (by decide),vD.mono (by decide),yp.mono (by decide),vC.mono (by decide),BJ.mono (by decide),d7.mono (by decide)⟩
 have aa1:=(M7 T U e kb L1).hx
 have ql:Has P w K mg base 1 "carries" ["m","b"] Never:=T.Eo.has (k:=0) v9 vL (λ_ _ _ _ _ _ _ _ _ _ h=>h.elim)
 have dW:Has P w K mg base 1 "added" ["numbers","b"] Never:=T.uw.has (k:=0) lM vL (λ_ _ _ _ _ _ _ _ _ _ h=>h.elim)
 have qj:Has P w K mg base 1 "figures_of" ["word","columns"] Never:=T.Ml.has (k:=0) Gb vL (λ_ _ _ _ _ _ _ _ _ _ h=>h.elim)
 have L2s:Lo2 P w K mg base C nt:=⟨ql.mono (by decide),O_.mono (by decide),dW.mono (by decide),qj.mono (by decide),Xw.mono (by decide),adC.mono (by decide)⟩
 have dU:=(Ol T e kb L2s).hx
 have adD:=(Lk T e kb L2s).hx
 have adE:=(Lj T e kb L2s).hx
 have jZ:=fL (P:=P) (w:=w) (base:=base) (k:=2) T e kb (Sd.mono (by decide)) (DY.mono (by decide)) (Rr.mono (by decide)) (BP.mono (by decide))
 have L3:Lo3 P w K mg base C nr nw nt:=⟨Xw.mono (by decide),jD.mono (by decide),O_.mono (by decide),R4.mono (by decide),Bx.mono (by decide),vB.mono (by decide),Xl.mono (by decide),jZ.mono (by decide),dU.mono (by decide),adD.mono (by decide),adE.mono (by decide)⟩
 have dR:=(Oj T U e kb L3).hx
 have L4:Lo4 P w K mg base C np nr nw tm nt:=⟨aa1.mono (by decide),dR.mono (by decide),aa0.mono (by decide),R4.mono (by decide),Xw.mono (by decide),Xl.mono (by decide)⟩
 have jC:=(Ca T U UD e kb L4).hx
 have aa2:=Kp T U UD L4.Wi
 have BZ:=yH (P:=P) (w:=w) (base:=base) (k:=0) T e
 have qg:=B_ T UD e kb jC (BZ.mono (by decide))
 have dO:=qx T UD jC
 exact aaU T U UD (yt.mono (by decide)) (aa2.mono (by decide)) (jC.mono (by decide)) (qg.mono (by decide)) (qm.mono (by decide)) (jF.mono (by decide)) (dO.mono (by decide)) (jE.mono (by decide)) (dY.mono (by decide))
end
abbrev depth:Nat:=27
section
variable {P:Program} {w:World} {K:PySem.W.Frag} {mg:Str→Option Value} {base:Heap}
theorem vp {H:Hp} {a:Addr} {ns:List Int} (hl:ns.length≤63) (hS:ZJ K H a (ns.map V.int)):GD K [.ref a] H (λv _=>v= .bl true) λ_ _ _=>False:=⟨_,rfl,a,ns,hS,rfl,hl,λ_=>rfl⟩
end
end Ws
def PySem.W.Fast.tw6164673710952158259:Nat:=0
def PySem.W.Fast.tw13992921934583363366:Nat:=0
def PySem.W.Fast.tw11076474700963898628:Nat:=0
def PySem.W.Fast.tw5894039575986069080:Nat:=0
def PySem.W.Fast.tw4953981919665573291:Nat:=0
def PySem.W.Fast.tw18216040709209717169:Nat:=0
def PySem.W.Fast.tw7376952828925982453:Nat:=0
def PySem.W.Fast.tw13553659807763417501:Nat:=0
def PySem.W.Fast.tw2646500677023532232:Nat:=0
def PySem.W.Fast.tw11705897322613876456:Nat:=0
def PySem.W.Fast.tw118927362786411606:Nat:=0
def PySem.W.Fast.tw3150329701996583670:Nat:=0
def PySem.W.Fast.tw13602203792727563576:Nat:=0
def PySem.W.Fast.tw14857760794716249823:Nat:=0
def PySem.W.Fast.tw2161243422311739079:Nat:=0
def PySem.W.Fast.tw6680660330592021935:Nat:=0
def PySem.W.Fast.tw8275204324616331205:Nat:=0
def PySem.W.Fast.tw14257341520458069445:Nat:=0
def PySem.W.Fast.tw11871374511914398290:Nat:=0
def PySem.W.Fast.tw17124039625078852396:Nat:=0
def PySem.W.Fast.tw11040554016948579203:Nat:=0
def PySem.W.Fast.tw5452022740265754256:Nat:=0
def PySem.W.Fast.tw3234505542338282452:Nat:=0
def PySem.W.Fast.tw9304391631114222641:Nat:=0
def PySem.W.Fast.tw3499264431665877035:Nat:=0
def PySem.W.Fast.tw1507316695554380346:Nat:=0
def PySem.W.Fast.tw2450447885066921983:Nat:=0
def PySem.W.Fast.tw6117336031616699319:Nat:=0
def PySem.W.Fast.tw15321606971179724347:Nat:=0
def PySem.W.Fast.tw4958439307760086181:Nat:=0
def PySem.W.Fast.tw6783774440861347631:Nat:=0
def PySem.W.Fast.tw12602974955449848375:Nat:=0
def PySem.W.Fast.tw9960491683760407352:Nat:=0
def PySem.W.Fast.tw15440509160831051557:Nat:=0
def PySem.W.Fast.tw307296345448280177:Nat:=0
def PySem.W.Fast.tw847838953051076603:Nat:=0
def PySem.W.Fast.tw5756453157829962422:Nat:=0
def PySem.W.Fast.tw6975923699137139968:Nat:=0
def PySem.W.Fast.tw13888204646114697499:Nat:=0
def PySem.W.Fast.tw12279378255426918169:Nat:=0
def PySem.W.Fast.tw10106454373646413199:Nat:=0
def PySem.W.Fast.tw11221801522857412232:Nat:=0
def PySem.W.Fast.tw16367728479960992911:Nat:=0
def PySem.W.Fast.tw1548456561231682788:Nat:=0
def PySem.W.Fast.tw6567266363258761423:Nat:=0
def PySem.W.Fast.tw13137902186507108583:Nat:=0
def PySem.W.Fast.tw521867808011527536:Nat:=0
def PySem.W.Fast.tw4433020702188609955:Nat:=0
def PySem.W.Fast.tw3729436747218008765:Nat:=0
def PySem.W.Fast.tw12609991665569447932:Nat:=0
def PySem.W.Fast.tw5493600523852702748:Nat:=0
def PySem.W.Fast.tw3025635746430026146:Nat:=0
def PySem.W.Fast.tw5330206330410966883:Nat:=0
def PySem.W.Fast.tw6861104233332692443:Nat:=0
def PySem.W.Fast.tw9123741077380846998:Nat:=0
def PySem.W.Fast.tw7733856814476124772:Nat:=0
def PySem.W.Fast.tw7309148727638906735:Nat:=0
def PySem.W.Fast.tw11088421702119594124:Nat:=0
def PySem.W.Fast.tw1413148467781128175:Nat:=0
def PySem.W.Fast.tw16209842864521282367:Nat:=0
def PySem.W.Fast.tw11946910465031493625:Nat:=0
def PySem.W.Fast.tw12575872355627582362:Nat:=0
def PySem.W.Fast.tw959810915673826338:Nat:=0
def PySem.W.Fast.tw17147149132625265386:Nat:=0
def PySem.W.Fast.tw9760825898385573542:Nat:=0
def PySem.W.Fast.tw3194608311834226700:Nat:=0
def PySem.W.Fast.tw10744910306973818087:Nat:=0
def PySem.W.Fast.tw11479926226281159941:Nat:=0
def PySem.W.Fast.tw14945648769607377658:Nat:=0
def PySem.W.Fast.tw8572076215930704463:Nat:=0
def PySem.W.Fast.tw9389800087930949014:Nat:=0
def PySem.W.Fast.tw6266910080366895262:Nat:=0
def PySem.W.Fast.tw1871395716370078790:Nat:=0
def PySem.W.Fast.tw13590608594466657844:Nat:=0
def PySem.W.Fast.tw15148393147231897720:Nat:=0
def PySem.W.Fast.tw1121913533565866907:Nat:=0
def PySem.W.Fast.tw13887352256734112313:Nat:=0
def PySem.W.Fast.tw7564488291747283200:Nat:=0
def PySem.W.Fast.tw15003876218108533364:Nat:=0
def PySem.W.Fast.tw11488632851187489929:Nat:=0
def PySem.W.Fast.tw12710911836629803593:Nat:=0
def PySem.W.Fast.tw1406151936430397030:Nat:=0
def PySem.W.Fast.tw17519751797848524967:Nat:=0
def PySem.W.Fast.tw5879396112727548875:Nat:=0
def PySem.W.Fast.tw17545985222286153414:Nat:=0
def PySem.W.Fast.tw9548641430156951838:Nat:=0
def PySem.W.Fast.tw13980797859492307109:Nat:=0
def PySem.W.Fast.tw9526201491881420230:Nat:=0
def PySem.W.Fast.tw10462393411734198711:Nat:=0
def PySem.W.Fast.tw18400361852283501634:Nat:=0
def PySem.W.Fast.tw1778600808055434672:Nat:=0
def PySem.W.Fast.tw14795230901377955273:Nat:=0
def PySem.W.Fast.tw5609326229052333057:Nat:=0
def PySem.W.Fast.tw10359414734232480616:Nat:=0
def PySem.W.Fast.tw13814484659007336810:Nat:=0
def PySem.W.Fast.tw12862150348575031079:Nat:=0
def PySem.W.Fast.tw10400621621171777482:Nat:=0
def PySem.W.Fast.tw6857290724678843969:Nat:=0
def PySem.W.Fast.tw11458560991004300566:Nat:=0
def PySem.W.Fast.tw4592227666549809253:Nat:=0
def PySem.W.Fast.tw1147852737148098427:Nat:=0
def PySem.W.Fast.tw3294266966540891545:Nat:=0
def PySem.W.Fast.tw2846542711744250857:Nat:=0
def PySem.W.Fast.tw12881802361506741026:Nat:=0
def PySem.W.Fast.tw10103886123680900612:Nat:=0
def PySem.W.Fast.tw958877707329270474:Nat:=0
def PySem.W.Fast.tw12329390770321630797:Nat:=0
def PySem.W.Fast.tw16040362923837806163:Nat:=0
def PySem.W.Fast.tw11868071015342329920:Nat:=0
def PySem.W.Fast.tw13436376322440635241:Nat:=0
def PySem.W.Fast.tw3260552118156325730:Nat:=0
def PySem.W.Fast.tw12245310887862208428:Nat:=0
def PySem.W.Fast.tw11744718321803135209:Nat:=0
def PySem.W.Fast.tw10111421616033559841:Nat:=0
def PySem.W.Fast.tw14161033555822889734:Nat:=0
def PySem.W.Fast.tw17151425415936830916:Nat:=0
def PySem.W.Fast.tw14387387141709869749:Nat:=0
def PySem.W.Fast.tw15880031438777122998:Nat:=0
def PySem.W.Fast.tw10440569742653159736:Nat:=0
def PySem.W.Fast.tw12994587451807718363:Nat:=0
def PySem.W.Fast.tw13609125336293051552:Nat:=0
def PySem.W.Fast.tw8056017341620780622:Nat:=0
def PySem.W.Fast.tw13378526583657229284:Nat:=0
def PySem.W.Fast.tw9551923616166997650:Nat:=0
def PySem.W.Fast.tw5471179420727499530:Nat:=0
def PySem.W.Fast.tw15225486670819082068:Nat:=0
def PySem.W.Fast.tw1039453845132422566:Nat:=0
def PySem.W.Fast.tw17582631037692742598:Nat:=0
def PySem.W.Fast.tw8496117756050055994:Nat:=0
def PySem.W.Fast.tw12390054502276706220:Nat:=0
def PySem.W.Fast.tw1125748720257540807:Nat:=0
def PySem.W.Fast.tw3605738776903157241:Nat:=0
def PySem.W.Fast.tw14702565099074454413:Nat:=0
def PySem.W.Fast.tw13101430501471762363:Nat:=0
def PySem.W.Fast.tw17081821353532572680:Nat:=0
def PySem.W.Fast.tw2608332132306156549:Nat:=0
def PySem.W.Fast.tw6966339698390793054:Nat:=0
def PySem.W.Fast.tw3770660969053939708:Nat:=0
def PySem.W.Fast.tw14103765890214969971:Nat:=0
def PySem.W.Fast.tw7192442365118943492:Nat:=0
def PySem.W.Fast.tw10120433703395085320:Nat:=0
def PySem.W.Fast.tw8822964113730698385:Nat:=0
def PySem.W.Fast.tw7337673466243701666:Nat:=0
def PySem.W.Fast.tw18310267725440475113:Nat:=0
def PySem.W.Fast.tw4635437568243867716:Nat:=0
def PySem.W.Fast.tw468584634501757821:Nat:=0
def PySem.W.Fast.tw10158388648962864708:Nat:=0
def PySem.W.Fast.tw16064717426392691887:Nat:=0
def PySem.W.Fast.tw8156464108876608692:Nat:=0
def PySem.W.Fast.tw15770454164111391492:Nat:=0
def PySem.W.Fast.tw5910064497082427035:Nat:=0
def PySem.W.Fast.tw585956658891501718:Nat:=0
def PySem.W.Fast.tw8269796598793259321:Nat:=0
def PySem.W.Fast.tw11852084062572259662:Nat:=0
def PySem.W.Fast.tw18155382564001912405:Nat:=0
def PySem.W.Fast.tw10818413923202876018:Nat:=0
def PySem.W.Fast.tw15521983873700823817:Nat:=0
def PySem.W.Fast.tw11925205148184968698:Nat:=0
def PySem.W.Fast.tw15555185453685103275:Nat:=0
def PySem.W.Fast.tw13351429046303461294:Nat:=0
def PySem.W.Fast.tw13237085167372305329:Nat:=0
def PySem.W.Fast.tw14418415819310642081:Nat:=0
def PySem.W.Fast.tw10229240034414188162:Nat:=0
def PySem.W.Fast.tw1468812246606040674:Nat:=0
def PySem.W.Fast.tw2700372411216958966:Nat:=0
def PySem.W.Fast.tw1883704795877267549:Nat:=0
def PySem.W.Fast.tw7893616789242229455:Nat:=0
def PySem.W.Fast.tw11143341613289476914:Nat:=0
def PySem.W.Fast.tw6365455802976846644:Nat:=0
def PySem.W.Fast.tw10292701407846736304:Nat:=0
def PySem.W.Fast.tw13671190156804517618:Nat:=0
def PySem.W.Fast.tw5253768430502543003:Nat:=0
def PySem.W.Fast.tw14298040364635127906:Nat:=0
def PySem.W.Fast.tw13714336158525380217:Nat:=0
def PySem.W.Fast.tw8470662757755334642:Nat:=0
def PySem.W.Fast.tw17201901962158969069:Nat:=0
def PySem.W.Fast.tw13054747953634430873:Nat:=0
def PySem.W.Fast.tw15951085711008133938:Nat:=0
def PySem.W.Fast.tw2293966453265157966:Nat:=0
def PySem.W.Fast.tw4599488377170251376:Nat:=0
def PySem.W.Fast.tw2706910364315821340:Nat:=0
def PySem.W.Fast.tw11797505572537872573:Nat:=0
def PySem.W.Fast.tw5097434008926096537:Nat:=0
def PySem.W.Fast.tw5433840229548961158:Nat:=0
def PySem.W.Fast.tw177193309731638439:Nat:=0
def PySem.W.Fast.tw6246238505021775154:Nat:=0
def PySem.W.Fast.tw17303788150548149501:Nat:=0
def PySem.W.Fast.tw708624103302883299:Nat:=0
def PySem.W.Fast.tw11776474667090343240:Nat:=0
def PySem.W.Fast.tw138581903313825938:Nat:=0
def PySem.W.Fast.tw4044496912532832167:Nat:=0
def PySem.W.Fast.tw4706118138817393100:Nat:=0
def PySem.W.Fast.tw6134962538792614763:Nat:=0
def PySem.W.Fast.tw13531997285902153296:Nat:=0
def PySem.W.Fast.tw15712303935804662961:Nat:=0
def PySem.W.Fast.tw8148122780896851742:Nat:=0
def PySem.W.Fast.tw12184723303251331963:Nat:=0
def PySem.W.Fast.tw18426747688436170932:Nat:=0
def PySem.W.Fast.tw15714305043053075148:Nat:=0
def PySem.W.Fast.tw1186966403595637816:Nat:=0
def PySem.W.Fast.tw13484407667613204571:Nat:=0
def PySem.W.Fast.tw11745261537488418069:Nat:=0
def PySem.W.Fast.tw10213172174667724389:Nat:=0
def PySem.W.Fast.tw4545128319822142131:Nat:=0
def PySem.W.Fast.tw13430070396486805863:Nat:=0
def PySem.W.Fast.tw12165172706041644787:Nat:=0
def PySem.W.Fast.tw11692084320167021067:Nat:=0
def PySem.W.Fast.tw18215011996253254059:Nat:=0
def PySem.W.Fast.tw9732613114222251389:Nat:=0
def PySem.W.Fast.tw3849451184053899766:Nat:=0
def PySem.W.Fast.tw12123199748057679031:Nat:=0
def PySem.W.Fast.tw3557774382677439978:Nat:=0
def PySem.W.Fast.tw15281572435946366059:Nat:=0
def PySem.W.Fast.tw2174077763882431899:Nat:=0
def PySem.W.Fast.tw699375464811134299:Nat:=0
def PySem.W.Fast.tw14709675520894541411:Nat:=0
def PySem.W.Fast.tw11162745460457596672:Nat:=0
def PySem.W.Fast.tw8430220674516902593:Nat:=0
def PySem.W.Fast.tw1683612483783037426:Nat:=0
def PySem.W.Fast.tw7856581832819205135:Nat:=0
def PySem.W.Fast.tw11572731565335787594:Nat:=0
def PySem.W.Fast.tw8022456158046975709:Nat:=0
def PySem.W.Fast.tw6238359754620999509:Nat:=0
def PySem.W.Fast.tw6897034620314271614:Nat:=0
def PySem.W.Fast.tw12974306205945605283:Nat:=0
def PySem.W.Fast.tw7975153944705931347:Nat:=0
def PySem.W.Fast.tw8936749503379914943:Nat:=0
def PySem.W.Fast.tw394421621826830336:Nat:=0
def PySem.W.Fast.tw14189421940984624056:Nat:=0
def PySem.W.Fast.tw9037210390934841210:Nat:=0
def PySem.W.Fast.tw6210686351006128640:Nat:=0
def PySem.W.Fast.tw3543548929011635390:Nat:=0
def PySem.W.Fast.tw10123235367019048421:Nat:=0
def PySem.W.Fast.tw12295239540537276024:Nat:=0
def PySem.W.Fast.tw6390372363860339451:Nat:=0
def PySem.W.Fast.tw17334349777916931746:Nat:=0
def PySem.W.Fast.tw10536537154942828242:Nat:=0
def PySem.W.Fast.tw3840892512836663730:Nat:=0
def PySem.W.Fast.tw9767659191329202068:Nat:=0
def PySem.W.Fast.tw3572542694369149249:Nat:=0
def PySem.W.Fast.tw9216917694374944344:Nat:=0
def PySem.W.Fast.tw3817017058811623397:Nat:=0
def PySem.W.Fast.tw10425483934372859442:Nat:=0
def PySem.W.Fast.tw14832180616895112756:Nat:=0
def PySem.W.Fast.tw16273478191692414267:Nat:=0
def PySem.W.Fast.tw9888235118120381355:Nat:=0
def PySem.W.Fast.tw11058471262479804927:Nat:=0
def PySem.W.Fast.tw16161728385913308451:Nat:=0
def PySem.W.Fast.tw14233209754140776798:Nat:=0
def PySem.W.Fast.tw9841855832714047152:Nat:=0
def PySem.W.Fast.tw7672368448226171672:Nat:=0
def PySem.W.Fast.tw12983876241350205922:Nat:=0
def PySem.W.Fast.tw7315293080300849193:Nat:=0
def PySem.W.Fast.tw11364884158627531205:Nat:=0
def PySem.W.Fast.tw11406167414050452274:Nat:=0
def PySem.W.Fast.tw18328084218970427235:Nat:=0
def PySem.W.Fast.tw10570372001236067061:Nat:=0
def PySem.W.Fast.tw8580822947118613667:Nat:=0
def PySem.W.Fast.tw616865621909449572:Nat:=0
def PySem.W.Fast.tw2904478205177789984:Nat:=0
def PySem.W.Fast.tw9860965520391084919:Nat:=0
def PySem.W.Fast.tw521063501866422804:Nat:=0
def PySem.W.Fast.tw17542955160600288603:Nat:=0
def PySem.W.Fast.tw9457785519085748747:Nat:=0
def PySem.W.Fast.tw9543961576660415957:Nat:=0
def PySem.W.Fast.tw15274231042704666877:Nat:=0
def PySem.W.Fast.tw18132856941438686607:Nat:=0
def PySem.W.Fast.tw14001672531303090920:Nat:=0
def PySem.W.Fast.tw1699745152893493828:Nat:=0
def PySem.W.Fast.tw3775937847710233862:Nat:=0
def PySem.W.Fast.tw18181162831556849182:Nat:=0
def PySem.W.Fast.tw14702251505370699672:Nat:=0
def PySem.W.Fast.tw4075133314845227743:Nat:=0
def PySem.W.Fast.tw14620129057080412956:Nat:=0
def PySem.W.Fast.tw3040630534568660038:Nat:=0
def PySem.W.Fast.tw1240056044496468026:Nat:=0
def PySem.W.Fast.tw14582456346673795485:Nat:=0
def PySem.W.Fast.tw3933222678891189392:Nat:=0
def PySem.W.Fast.tw16127095848053972598:Nat:=0
def PySem.W.Fast.tw5611386109874627389:Nat:=0
def PySem.W.Fast.tw2605674667009403511:Nat:=0
def PySem.W.Fast.tw2439164682077739794:Nat:=0
def PySem.W.Fast.tw2617840762045915364:Nat:=0
def PySem.W.Fast.tw16390632740351031116:Nat:=0
def PySem.W.Fast.tw12577851257241807618:Nat:=0
def PySem.W.Fast.tw13861827458585530072:Nat:=0
def PySem.W.Fast.tw1469904296278800326:Nat:=0
def PySem.W.Fast.tw12938914562216811853:Nat:=0
def PySem.W.Fast.tw12850590222269383830:Nat:=0
def PySem.W.Fast.tw8712964128727539403:Nat:=0
def PySem.W.Fast.tw5540401995096309437:Nat:=0
def PySem.W.Fast.tw3578716395462224542:Nat:=0
def PySem.W.Fast.tw4595712826264909550:Nat:=0
def PySem.W.Fast.tw5842619718842124710:Nat:=0
def PySem.W.Fast.tw16673403677759088275:Nat:=0
def PySem.W.Fast.tw14631663077244796465:Nat:=0
def PySem.W.Fast.tw16757937185818626330:Nat:=0
def PySem.W.Fast.tw5087207166841503412:Nat:=0
def PySem.W.Fast.tw3944825529308711426:Nat:=0
def PySem.W.Fast.tw16543089931197095848:Nat:=0
def PySem.W.Fast.tw11856490672340283632:Nat:=0
def PySem.W.Fast.tw13908897801621805735:Nat:=0
def PySem.W.Fast.tw17923828277861582026:Nat:=0
def PySem.W.Fast.tw14207008638904893371:Nat:=0
def PySem.W.Fast.tw15326391570594368513:Nat:=0
def PySem.W.Fast.tw4044170630562124180:Nat:=0
def PySem.W.Fast.tw17838461977367467715:Nat:=0
def PySem.W.Fast.tw16243359760921677594:Nat:=0
def PySem.W.Fast.tw11608290743954449521:Nat:=0
def PySem.W.Fast.tw1412360694677718352:Nat:=0
def PySem.W.Fast.tw10445382230483980954:Nat:=0
def PySem.W.Fast.tw12948691792600967488:Nat:=0
def PySem.W.Fast.tw13901655700193581223:Nat:=0
def PySem.W.Fast.tw8108426604867372566:Nat:=0
def PySem.W.Fast.tw2380535718193891686:Nat:=0
def PySem.W.Fast.tw968584414874330864:Nat:=0
def PySem.W.Fast.tw8254238183837237178:Nat:=0
def PySem.W.Fast.tw3200659584873312201:Nat:=0
def PySem.W.Fast.tw8747052463343778090:Nat:=0
def PySem.W.Fast.tw13610443929091034266:Nat:=0
def PySem.W.Fast.tw3785465573698428122:Nat:=0
def PySem.W.Fast.tw5911262269933589101:Nat:=0
def PySem.W.Fast.tw9903125196076641132:Nat:=0
def PySem.W.Fast.tw3578997979298306518:Nat:=0
def PySem.W.Fast.tw17784171438348571429:Nat:=0
def PySem.W.Fast.tw7692534138412001253:Nat:=0
def PySem.W.Fast.tw10874027176479550868:Nat:=0
def PySem.W.Fast.tw2321295986031264588:Nat:=0
def PySem.W.Fast.tw5934757497248978777:Nat:=0
def PySem.W.Fast.tw3887530184299950247:Nat:=0
def PySem.W.Fast.tw9601999851842933068:Nat:=0
def PySem.W.Fast.tw13080294022609668912:Nat:=0
def PySem.W.Fast.tw364198814633626385:Nat:=0
def PySem.W.Fast.tw10599811758768771852:Nat:=0
def PySem.W.Fast.tw11008965640724471944:Nat:=0
def PySem.W.Fast.tw640276229103862567:Nat:=0
def PySem.W.Fast.tw6498287132675394963:Nat:=0
def PySem.W.Fast.tw8081479858351381337:Nat:=0
def PySem.W.Fast.tw7787583209883220793:Nat:=0
def PySem.W.Fast.tw11881427328532613191:Nat:=0
def PySem.W.Fast.tw2153638600124157208:Nat:=0
def PySem.W.Fast.tw12681823373281335993:Nat:=0
def PySem.W.Fast.tw5105850816624728746:Nat:=0
def PySem.W.Fast.tw9830236804029050676:Nat:=0
def PySem.W.Fast.tw3741359657376917453:Nat:=0
def PySem.W.Fast.tw358237173933368582:Nat:=0
def PySem.W.Fast.tw15715064515878109068:Nat:=0
def PySem.W.Fast.tw12084473243015321187:Nat:=0
def PySem.W.Fast.tw3685016598671214895:Nat:=0
def PySem.W.Fast.tw16226971329922924293:Nat:=0
def PySem.W.Fast.tw43626147042309159:Nat:=0
def PySem.W.Fast.tw2682078574138688652:Nat:=0
def PySem.W.Fast.tw7547055276453771925:Nat:=0
def PySem.W.Fast.tw8494853608618124180:Nat:=0
def PySem.W.Fast.tw10476910008210895550:Nat:=0
def PySem.W.Fast.tw2435249860670655167:Nat:=0
def PySem.W.Fast.tw1565697169940955089:Nat:=0
def PySem.W.Fast.tw9348305313467962265:Nat:=0
def PySem.W.Fast.tw13602223347199408807:Nat:=0
def PySem.W.Fast.tw11146737050041143176:Nat:=0
def PySem.W.Fast.tw5226026546934385306:Nat:=0
def PySem.W.Fast.tw17939764145164310338:Nat:=0
def PySem.W.Fast.tw8630193674121756956:Nat:=0
def PySem.W.Fast.tw4427674996607177296:Nat:=0
def PySem.W.Fast.tw3192646738179092354:Nat:=0
def PySem.W.Fast.tw891032082893371766:Nat:=0
def PySem.W.Fast.tw10240510016938120974:Nat:=0
def PySem.W.Fast.tw12614230699246213440:Nat:=0
def PySem.W.Fast.tw17981316111385577231:Nat:=0
def PySem.W.Fast.tw8830113203739291395:Nat:=0
def PySem.W.Fast.tw629811973837179269:Nat:=0
def PySem.W.Fast.tw5070306067246145014:Nat:=0
def PySem.W.Fast.tw3475498524699266763:Nat:=0
def PySem.W.Fast.tw3961047660829787796:Nat:=0
def PySem.W.Fast.tw1520722665199199096:Nat:=0
def PySem.W.Fast.tw8504488261672673652:Nat:=0
def PySem.W.Fast.tw14202030450050593164:Nat:=0
def PySem.W.Fast.tw14559717057458036622:Nat:=0
def PySem.W.Fast.tw4654447298940467315:Nat:=0
def PySem.W.Fast.tw548240101960429892:Nat:=0
def PySem.W.Fast.tw15506322351203300282:Nat:=0
def PySem.W.Fast.tw15974469039727979502:Nat:=0
def PySem.W.Fast.tw1886957175323827289:Nat:=0
def PySem.W.Fast.tw12551156881881269069:Nat:=0
def PySem.W.Fast.tw16330689902868924650:Nat:=0
def PySem.W.Fast.tw9885867198746103949:Nat:=0
def PySem.W.Fast.tw9185320414454987560:Nat:=0
def PySem.W.Fast.tw4712097612963576381:Nat:=0
def PySem.W.Fast.tw9423142220922024363:Nat:=0
def PySem.W.Fast.tw808499943520657300:Nat:=0
def PySem.W.Fast.tw3638738425915998581:Nat:=0
def PySem.W.Fast.tw3120929739478166170:Nat:=0
def PySem.W.Fast.tw5571714477421399181:Nat:=0
def PySem.W.Fast.tw15357484388486434688:Nat:=0
def PySem.W.Fast.tw15911805438984334205:Nat:=0
def PySem.W.Fast.tw8860708164351521306:Nat:=0
def PySem.W.Fast.tw17452203521350427630:Nat:=0
def PySem.W.Fast.tw12554488728614339878:Nat:=0
def PySem.W.Fast.tw1429223669007721052:Nat:=0
def PySem.W.Fast.tw4642684455381091713:Nat:=0
def PySem.W.Fast.tw2629890849977647548:Nat:=0
def PySem.W.Fast.tw9722335933868093762:Nat:=0
def PySem.W.Fast.tw15430322209553235530:Nat:=0
def PySem.W.Fast.tw7432225479722140364:Nat:=0
def PySem.W.Fast.tw16505264500610805811:Nat:=0
def PySem.W.Fast.tw17156760209926535814:Nat:=0
def PySem.W.Fast.tw15859563797152995799:Nat:=0
def PySem.W.Fast.tw16437664477214411649:Nat:=0
def PySem.W.Fast.tw8679454588373836882:Nat:=0
def PySem.W.Fast.tw259348818422531722:Nat:=0
def PySem.W.Fast.tw14933965759519627424:Nat:=0
def PySem.W.Fast.tw11050121480542924268:Nat:=0
def PySem.W.Fast.tw13263486278320944141:Nat:=0
def PySem.W.Fast.tw4003576564592542890:Nat:=0
def PySem.W.Fast.tw15927952435918724630:Nat:=0
def PySem.W.Fast.tw4131309306210008275:Nat:=0
def PySem.W.Fast.tw15608635601166647274:Nat:=0
def PySem.W.Fast.tw7524975357661869501:Nat:=0
def PySem.W.Fast.tw4849474700500913357:Nat:=0
def PySem.W.Fast.tw2843440080534503067:Nat:=0
open PySem PySem.W PyProof.Rows
set_option maxRecDepth 100000 in
set_option maxHeartbeats 0 in
theorem PySem.Challenge.cw_riftcarry_k92_rows_refused_holds : PySem.Challenge.rw_riftcarry_k92_rows_refused.Holds := by
 w_on;o_law;k_head;(case hw=>w_witness2)
 k_fill
 refine L2.o9 (l:=PySem.Challenge.rw_riftcarry_k92_rows_refused) (n:=63) (k:=Ws.depth) (x:="_law_script") (CX:=L2.Je) (sp:=Ws.GD) rfl (by decide) rfl ⟨rfl,by decide,by decide⟩ (λw h Y=>PySem.W.kIn_of Y) ?F ?S ?C
 case F =>
  intro w mg fa h KX G hmg
  have T:Ws.Txt (L2.KOf KX) mg:=by
   dsimp only[L2.KOf]
   refine' Ws.aaV KX G ?a0 ?l0 ?c0 ?k0 ?a1 ?l1 ?c1 ?k1 ?a2 ?l2 ?c2 ?k2 ?a3 ?l3 ?c3 ?k3 ?a4 ?l4 ?c4 ?k4 ?a5 ?l5 ?c5 ?k5 ?a6 ?l6 ?c6 ?k6 ?a7 ?l7 ?c7 ?k7 ?a8 ?l8 ?c8 ?k8 ?a9 ?l9 ?c9 ?k9 ?a10 ?l10 ?c10 ?k10 ?a11 ?l11 ?aD ?k11 ?a12 ?l12 ?c12 ?k12 ?a13 ?l13 ?c13 ?k13 ?a14 ?l14 ?c14 ?k14 ?a15 ?l15 ?c15 ?k15 ?a16 ?l16 ?c16 ?k16 ?a17 ?l17 ?c17 ?k17 ?a18 ?l18 ?c18 ?k18 ?a19 ?l19 ?c19 ?k19 ?a20 ?l20 ?c20 ?k20 ?a21 ?l21 ?c21 ?k21 ?a22 ?l22 ?c22 ?k22 ?a23 ?l23 ?c23 ?k23 ?a24 ?l24 ?c24 ?k24 ?a25 ?l25 ?c25 ?k25 ?a26 ?l26 ?c26 ?k26 ?a27 ?l27 ?c27 ?k27 ?a28 ?l28 ?c28 ?k28 ?a29 ?l29 ?c29 ?k29 ?a30 ?l30 ?c30 ?k30 ?a31 ?l31 ?c31 ?k31 ?a32 ?l32 ?c32 ?k32 ?a33 ?l33 ?c33 ?k33 ?a34 ?l34 ?c34 ?k34 ?a35 ?l35 ?c35 ?k35 ?a36 ?l36 ?c36 ?k36 ?a37 ?l37 ?c37 ?k37 ?a38 ?l38 ?c38 ?k38 ?a39 ?l39 ?c39 ?k39 ?a40 ?l40 ?c40 ?k40 ?a41 ?l41 ?c41 ?k41 ?a42 ?l42 ?c42 ?k42 ?a43 ?l43 ?c43 ?k43 ?a44 ?l44 ?c44 ?k44 ?a45 ?l45 ?c45 ?k45 ?a46 ?l46 ?c46 ?k46 ?a47 ?l47 ?c47 ?k47 ?a48 ?l48 ?c48 ?k48 ?a49 ?l49 ?c49 ?k49 ?a50 ?l50 ?c50 ?k50 ?a51 ?l51 ?c51 ?k51 ?a52 ?l52 ?c52 ?k52 ?a53 ?l53 ?c53 ?k53 ?a54 ?l54 ?c54 ?k54 ?a55 ?l55 ?c55 ?k55 ?a56 ?l56 ?c56 ?k56 ?a57 ?l57 ?c57 ?k57 ?a58 ?l58 ?c58 ?k58 ?a59 ?l59 ?c59 ?k59 ?a60 ?l60 ?c60 ?k60 ?a61 ?l61 ?c61 ?k61 ?a62 ?l62 ?c62 ?k62 ?a63 ?l63 ?c63 ?k63 ?a64 ?l64 ?c64 ?k64 ?a65 ?l65 ?c65 ?k65 ?a66 ?l66 ?c66 ?k66 ?z0 ?z1 ?z2 ?z3 ?z4 ?z5 ?z6 ?z7 ?z8 ?z9 ?cZ ?cY ?cX ?z13 ?z14 ?x0 ?x1 ?x2 ?x3 ?x4 ?x5 ?x6 ?x7 ?x8
   (case a0=>k_is)
   (case l0=>k_is)
   (case c0=>k_is)
   (case k0=>k_is)
   (case a1=>k_is)
   (case l1=>k_is)
   (case c1=>k_is)
   (case k1=>k_is)
   (case a2=>k_is)
   (case l2=>k_is)
   (case c2=>k_is)
   (case k2=>k_is)
   (case a3=>k_is)
   (case l3=>k_is)
   (case c3=>k_is)
   (case k3=>k_is)
   (case a4=>k_is)
   (case l4=>k_is)
   (case c4=>k_is)
   (case k4=>k_is)
   (case a5=>k_is)
   (case l5=>k_is)
   (case c5=>k_is)
   (case k5=>k_is)
   (case a6=>k_is)
   (case l6=>k_is)
   (case c6=>k_is)
   (case k6=>k_is)
   (case a7=>k_is)
   (case l7=>k_is)
   (case c7=>k_is)
   (case k7=>k_is)
   (case a8=>k_is)
   (case l8=>k_is)
   (case c8=>k_is)
   (case k8=>k_is)
   (case a9=>k_is)
   (case l9=>k_is)
   (case c9=>k_is)
   (case k9=>k_is)
   (case a10=>k_is)
   (case l10=>k_is)
   (case c10=>k_is)
   (case k10=>k_is)
   (case a11=>k_is)
   (case l11=>k_is)
   (case aD=>k_is)
   (case k11=>k_is)
   (case a12=>k_is)
   (case l12=>k_is)
   (case c12=>k_is)
   (case k12=>k_is)
   (case a13=>k_is)
   (case l13=>k_is)
   (case c13=>k_is)
   (case k13=>k_is)
   (case a14=>k_is)
   (case l14=>k_is)
   (case c14=>k_is)
   (case k14=>k_is)
   (case a15=>k_is)
   (case l15=>k_is)
   (case c15=>k_is)
   (case k15=>k_is)
   (case a16=>k_is)
   (case l16=>k_is)
   (case c16=>k_is)
   (case k16=>k_is)
   (case a17=>k_is)
   (case l17=>k_is)
   (case c17=>k_is)
   (case k17=>k_is)
   (case a18=>k_is)
   (case l18=>k_is)
   (case c18=>k_is)
   (case k18=>k_is)
   (case a19=>k_is)
   (case l19=>k_is)
   (case c19=>k_is)
   (case k19=>k_is)
   (case a20=>k_is)
   (case l20=>k_is)
   (case c20=>k_is)
   (case k20=>k_is)
   (case a21=>k_is)
   (case l21=>k_is)
   (case c21=>k_is)
   (case k21=>k_is)
   (case a22=>k_is)
   (case l22=>k_is)
   (case c22=>k_is)
   (case k22=>k_is)
   (case a23=>k_is)
   (case l23=>k_is)
   (case c23=>k_is)
   (case k23=>k_is)
   (case a24=>k_is)
   (case l24=>k_is)
   (case c24=>k_is)
   (case k24=>k_is)
   (case a25=>k_is)
   (case l25=>k_is)
   (case c25=>k_is)
   (case k25=>k_is)
   (case a26=>k_is)
   (case l26=>k_is)
   (case c26=>k_is)
   (case k26=>k_is)
   (case a27=>k_is)
   (case l27=>k_is)
   (case c27=>k_is)
   (case k27=>k_is)
   (case a28=>k_is)
   (case l28=>k_is)
   (case c28=>k_is)
   (case k28=>k_is)
   (case a29=>k_is)
   (case l29=>k_is)
   (case c29=>k_is)
   (case k29=>k_is)
   (case a30=>k_is)
   (case l30=>k_is)
   (case c30=>k_is)
   (case k30=>k_is)
   (case a31=>k_is)
   (case l31=>k_is)
   (case c31=>k_is)
   (case k31=>k_is)
   (case a32=>k_is)
   (case l32=>k_is)
   (case c32=>k_is)
   (case k32=>k_is)
   (case a33=>k_is)
   (case l33=>k_is)
   (case c33=>k_is)
   (case k33=>k_is)
   (case a34=>k_is)
   (case l34=>k_is)
   (case c34=>k_is)
   (case k34=>k_is)
   (case a35=>k_is)
   (case l35=>k_is)
   (case c35=>k_is)
   (case k35=>k_is)
   (case a36=>k_is)
   (case l36=>k_is)
   (case c36=>k_is)
   (case k36=>k_is)
   (case a37=>k_is)
   (case l37=>k_is)
   (case c37=>k_is)
   (case k37=>k_is)
   (case a38=>k_is)
   (case l38=>k_is)
   (case c38=>k_is)
   (case k38=>k_is)
   (case a39=>k_is)
   (case l39=>k_is)
   (case c39=>k_is)
   (case k39=>k_is)
   (case a40=>k_is)
   (case l40=>k_is)
   (case c40=>k_is)
   (case k40=>k_is)
   (case a41=>k_is)
   (case l41=>k_is)
   (case c41=>k_is)
   (case k41=>k_is)
   (case a42=>k_is)
   (case l42=>k_is)
   (case c42=>k_is)
   (case k42=>k_is)
   (case a43=>k_is)
   (case l43=>k_is)
   (case c43=>k_is)
   (case k43=>k_is)
   (case a44=>k_is)
   (case l44=>k_is)
   (case c44=>k_is)
   (case k44=>k_is)
   (case a45=>k_is)
   (case l45=>k_is)
   (case c45=>k_is)
   (case k45=>k_is)
   (case a46=>k_is)
   (case l46=>k_is)
   (case c46=>k_is)
   (case k46=>k_is)
   (case a47=>k_is)
   (case l47=>k_is)
   (case c47=>k_is)
   (case k47=>k_is)
   (case a48=>k_is)
   (case l48=>k_is)
   (case c48=>k_is)
   (case k48=>k_is)
   (case a49=>k_is)
   (case l49=>k_is)
   (case c49=>k_is)
   (case k49=>k_is)
   (case a50=>k_is)
   (case l50=>k_is)
   (case c50=>k_is)
   (case k50=>k_is)
   (case a51=>k_is)
   (case l51=>k_is)
   (case c51=>k_is)
   (case k51=>k_is)
   (case a52=>k_is)
   (case l52=>k_is)
   (case c52=>k_is)
   (case k52=>k_is)
   (case a53=>k_is)
   (case l53=>k_is)
   (case c53=>k_is)
   (case k53=>k_is)
   (case a54=>k_is)
   (case l54=>k_is)
   (case c54=>k_is)
   (case k54=>k_is)
   (case a55=>k_is)
   (case l55=>k_is)
   (case c55=>k_is)
   (case k55=>k_is)
   (case a56=>k_is)
   (case l56=>k_is)
   (case c56=>k_is)
   (case k56=>k_is)
   (case a57=>k_is)
   (case l57=>k_is)
   (case c57=>k_is)
   (case k57=>k_is)
   (case a58=>k_is)
   (case l58=>k_is)
   (case c58=>k_is)
   (case k58=>k_is)
   (case a59=>k_is)
   (case l59=>k_is)
   (case c59=>k_is)
   (case k59=>k_is)
   (case a60=>k_is)
   (case l60=>k_is)
   (case c60=>k_is)
   (case k60=>k_is)
   (case a61=>k_is)
   (case l61=>k_is)
   (case c61=>k_is)
   (case k61=>k_is)
   (case a62=>k_is)
   (case l62=>k_is)
   (case c62=>k_is)
   (case k62=>k_is)
   (case a63=>k_is)
   (case l63=>k_is)
   (case c63=>k_is)
   (case k63=>k_is)
   (case a64=>k_is)
   (case l64=>k_is)
   (case c64=>k_is)
   (case k64=>k_is)
   (case a65=>k_is)
   (case l65=>k_is)
   (case c65=>k_is)
   (case k65=>k_is)
   (case a66=>k_is)
   (case l66=>k_is)
   (case c66=>k_is)
   (case k66=>k_is)
   (case z0=>k_is)
   (case z1=>k_is)
   (case z2=>k_is)
   (case z3=>k_is)
   (case z4=>k_is)
   (case z5=>k_is)
   (case z6=>k_is)
   (case z7=>k_is)
   (case z8=>k_is)
   (case z9=>k_is)
   (case cZ=>k_is)
   (case cY=>k_is)
   (case cX=>k_is)
   (case z13=>k_is)
   (case z14=>k_is)
   (case x0=>k_is)
   (case x1=>k_is)
   (case x2=>k_is)
   (case x3=>k_is)
   (case x4=>k_is)
   (case x5=>k_is)
   (case x6=>k_is)
   (case x7=>k_is)
   (case x8=>k_is)
  have ⟨C,U⟩:∃C,Ws.Qe (L2.KOf KX) mg C:=by
   dsimp only[L2.KOf]
   refine' ⟨_,Ws.aaW KX G ?aC ?a0 ?i0 ?l0 ?c0 ?k0 ?a1 ?i1 ?l1 ?c1 ?k1 ?a2 ?i2 ?l2 ?c2 ?k2 ?a3 ?i3 ?l3 ?c3 ?k3 ?a4 ?i4 ?l4 ?c4 ?k4 ?pg ?hd ?po ?sa ?mk ?kc ?n0 ?n1⟩
   (case aC=>k_is)
   (case a0=>k_is)
   (case i0=>k_is)
   (case l0=>k_is)
   (case c0=>k_is)
   (case k0=>k_is)
   (case a1=>k_is)
   (case i1=>k_is)
   (case l1=>k_is)
   (case c1=>k_is)
   (case k1=>k_is)
   (case a2=>k_is)
   (case i2=>k_is)
   (case l2=>k_is)
   (case c2=>k_is)
   (case k2=>k_is)
   (case a3=>k_is)
   (case i3=>k_is)
   (case l3=>k_is)
   (case c3=>k_is)
   (case k3=>k_is)
   (case a4=>k_is)
   (case i4=>k_is)
   (case l4=>k_is)
   (case c4=>k_is)
   (case k4=>k_is)
   (case pg=>k_is)
   (case hd=>k_is)
   (case po=>k_is)
   (case sa=>k_is)
   (case mk=>k_is)
   (case kc=>k_is)
   (case n0=>k_is)
   (case n1=>k_is)
  have ⟨CD,UD⟩:∃C,Ws.JD (L2.KOf KX) mg C:=by
   dsimp only[L2.KOf]
   refine' ⟨_,Ws.eG KX G ?aC ?a0 ?i0 ?l0 ?c0 ?k0 ?a1 ?i1 ?l1 ?c1 ?k1 ?pg ?hd ?po ?sa ?mk ?kc ?n0⟩
   (case aC=>k_is)
   (case a0=>k_is)
   (case i0=>k_is)
   (case l0=>k_is)
   (case c0=>k_is)
   (case k0=>k_is)
   (case a1=>k_is)
   (case i1=>k_is)
   (case l1=>k_is)
   (case c1=>k_is)
   (case k1=>k_is)
   (case pg=>k_is)
   (case hd=>k_is)
   (case po=>k_is)
   (case sa=>k_is)
   (case mk=>k_is)
   (case kc=>k_is)
   (case n0=>k_is)
  have e:∃r np nm nr nw tm nf nt,Ws.Td (L2.KOf KX) mg r np nm nr nw tm nf nt:=by
   dsimp only[L2.KOf]
   refine' ⟨_,_,_,_,_,_,_,_,Ws.eF KX G ?b0 ?b1 ?b2 ?b3 ?b4 ?b5 ?b6 ?b7 ?x0 ?x1 ?x2 ?x3 ?x4 ?x5 ?x6 ?x7 (Ws.yu ?y0a ?y1a ?y2a ?y3a ?y4a ?y5a ?q1a ?q2a ?q3a ?q4a ?q5a ?q6a ?q7a) (Ws.yu ?y0b ?y1b ?y2b ?y3b ?y4b ?y5b ?q1b ?q2b ?q3b ?q4b ?q5b ?q6b ?q7b) (Ws.yu ?y0c ?y1c ?y2c ?y3c ?y4c ?y5c ?q1c ?q2c ?q3c ?q4c ?q5c ?q6c ?q7c) (Ws.yu ?y0d ?y1d ?y2d ?y3d ?y4d ?y5d ?q1d ?q2d ?q3d ?q4d ?q5d ?q6d ?q7d) (Ws.yu ?y0e ?y1e ?y2e ?y3e ?y4e ?y5e ?q1e ?q2e ?q3e ?q4e ?q5e ?q6e ?q7e)⟩
   (case b0=>k_is)
   (case b1=>k_is)
   (case b2=>k_is)
   (case b3=>k_is)
   (case b4=>k_is)
   (case b5=>k_is)
   (case b6=>k_is)
   (case b7=>k_is)
   (case x0=>first |k_exc | (unfold Ws.Qy;k_exc))
   (case x1=>first |k_exc | (unfold Ws.Qy;k_exc))
   (case x2=>first |k_exc | (unfold Ws.Qy;k_exc))
   (case x3=>first |k_exc | (unfold Ws.Qy;k_exc))
   (case x4=>first |k_exc | (unfold Ws.Qy;k_exc))
   (case x5=>first |k_exc | (unfold Ws.Qy;k_exc))
   (case x6=>first |k_exc | (unfold Ws.Qy;k_exc))
   (case x7=>first |k_exc | (unfold Ws.Qy;k_exc))
   (case y0a=>k_is)
   (case y1a=>k_is)
   (case y2a=>k_is)
   (case y3a=>k_is)
   (case y4a=>k_is)
   (case y5a=>k_is)
   (case q1a=>first |k_is |kit_is)
   (case q2a=>first |k_is |kit_is)
   (case q3a=>first |k_is |kit_is)
   (case q4a=>first |k_is |kit_is)
   (case q5a=>first |k_is |kit_is)
   (case q6a=>first |k_is |kit_is)
   (case q7a=>first |k_is |kit_is)
   (case y0b=>k_is)
   (case y1b=>k_is)
   (case y2b=>k_is)
   (case y3b=>k_is)
   (case y4b=>k_is)
   (case y5b=>k_is)
   (case q1b=>first |k_is |kit_is)
   (case q2b=>first |k_is |kit_is)
   (case q3b=>first |k_is |kit_is)
   (case q4b=>first |k_is |kit_is)
   (case q5b=>first |k_is |kit_is)
   (case q6b=>first |k_is |kit_is)
   (case q7b=>first |k_is |kit_is)
   (case y0c=>k_is)
   (case y1c=>k_is)
   (case y2c=>k_is)
   (case y3c=>k_is)
   (case y4c=>k_is)
   (case y5c=>k_is)
   (case q1c=>first |k_is |kit_is)
   (case q2c=>first |k_is |kit_is)
   (case q3c=>first |k_is |kit_is)
   (case q4c=>first |k_is |kit_is)
   (case q5c=>first |k_is |kit_is)
   (case q6c=>first |k_is |kit_is)
   (case q7c=>first |k_is |kit_is)
   (case y0d=>k_is)
   (case y1d=>k_is)
   (case y2d=>k_is)
   (case y3d=>k_is)
   (case y4d=>k_is)
   (case y5d=>k_is)
   (case q1d=>first |k_is |kit_is)
   (case q2d=>first |k_is |kit_is)
   (case q3d=>first |k_is |kit_is)
   (case q4d=>first |k_is |kit_is)
   (case q5d=>first |k_is |kit_is)
   (case q6d=>first |k_is |kit_is)
   (case q7d=>first |k_is |kit_is)
   (case y0e=>k_is)
   (case y1e=>k_is)
   (case y2e=>k_is)
   (case y3e=>k_is)
   (case y4e=>k_is)
   (case y5e=>k_is)
   (case q1e=>first |k_is |kit_is)
   (case q2e=>first |k_is |kit_is)
   (case q3e=>first |k_is |kit_is)
   (case q4e=>first |k_is |kit_is)
   (case q5e=>first |k_is |kit_is)
   (case q6e=>first |k_is |kit_is)
   (case q7e=>first |k_is |kit_is)
  obtain⟨r,np,nm,nr,nw,tm,nf,nt,e⟩:=e
  obtain⟨fd,hb,hF⟩:=Ws.aaX (P:=PySem.Challenge.rw_riftcarry_k92_rows_refused.prog) (w:=w) (sp:=Ws.GD _) T.lQ hmg (λbase kb=>Ws.d9 T U UD e kb) (λ_ _ _ _ _ _ _=>rfl)
  exact⟨fd,hb,λbase kb _=>hF base kb⟩
 case S=>exact λK H a ns hl hO hS=>Ws.vp hl hS
 case C=>exact λ_ _ _ _ z=>z
