import PyProof.Rows.All
import Wide.All
import OpenK.AllK
import Wide.FinOn
import Lean
import PyProof.EqAt
import PyProof.EqKinds
import PyProof.TupleCall
import PySem.Challenge.RW_loopwright_k75_whole_what_keeps_the_sum
set_option Elab.async false
set_option linter.all false
set_option maxRecDepth 100000
namespace L2
open PySem PySem.Spec PyProof.Rows
noncomputable abbrev Key:=Sum Int Str
noncomputable def a8H:Key→Value→Bool
 | .inl k,v=>Value.isInt k v
 | .inr x,v=>Value.isStrOf x v
noncomputable def keyH (w:World):Key→Int
 | .inl k=>hashInt k
 | .inr x=>hashStr w x
theorem a0Y:∀ {k:Key} {v:Value},a8H k v=true→(∃ i t,k=Sum.inl i∧v=Value.int i t)∨(∃ x t,k=Sum.inr x∧v=Value.str x t)
 | .inl i,v,h=>by
   obtain⟨t,e⟩:=Value.isInt_shape (k:=i) (v:=v) h
   exact .inl ⟨i,t,rfl,e⟩
 | .inr x,v,h=>by
   obtain⟨t,e⟩:=Value.isStrOf_shape (x:=x) (v:=v) h
   exact .inr ⟨x,t,rfl,e⟩
theorem a9P (i:Int) (t:Tok):a8H (.inl i) (.int i t)=true:=by simp [a8H,Value.isInt]
theorem a9O (x:Str) (t:Tok):a8H (.inr x) (.str x t)=true:=by simp [a8H,Value.isStrOf]
theorem c0O (a b:Int):decide ((Sum.inl a:Key)=Sum.inl b)=(a == b):=by
 by_cases e:a=b
 ·subst e;simp
 ·have h:¬(Sum.inl a:Key)=Sum.inl b:=fun q=>e (Sum.inl.inj q)
  rw[decide_eq_false h]
  exact (beq_eq_false_iff_ne.mpr e).symm
theorem c0L (a b:Str):decide ((Sum.inr a:Key)=Sum.inr b)=decide (a=b):=by
 by_cases e:a=b
 ·subst e;simp
 ·have h:¬(Sum.inr a:Key)=Sum.inr b:=fun q=>e (Sum.inr.inj q)
  rw[decide_eq_false h,decide_eq_false e]
theorem c0N (a:Int) (b:Str):decide ((Sum.inl a:Key)=Sum.inr b)=false:=decide_eq_false (fun q=>nomatch q)
theorem c0M (a:Str) (b:Int):decide ((Sum.inr a:Key)=Sum.inl b)=false:=decide_eq_false (fun q=>nomatch q)
noncomputable def a0X (prog:Program) (w:World):PySem.KeyKind prog w Key where
 is:=a8H
 hash:=keyH w
 inj:=fun v a b ha hb=>by
  rcases a0Y ha with ⟨i,t,rfl,rfl⟩ | ⟨x,t,rfl,rfl⟩
  ·rcases a0Y hb with ⟨j,u,rfl,e⟩ | ⟨y,u,rfl,e⟩
   ·injection e with e1 _;rw[e1]
   ·exact nomatch e
  ·rcases a0Y hb with ⟨j,u,rfl,e⟩ | ⟨y,u,rfl,e⟩
   ·exact nomatch e
   ·injection e with e1 _;rw[e1]
 byValue:=fun k v h=>by
  rcases a0Y h with ⟨i,t,rfl,rfl⟩ | ⟨x,t,rfl,rfl⟩<;>rfl
 pyHash:=fun hv h=>by
  rcases a0Y hv with ⟨i,t,rfl,rfl⟩ | ⟨x,t,rfl,rfl⟩
  ·exact wpAny_pyHash_int h
  ·exact wpAny_pyHash_str h
 eqBool:=fun hu hv h=>by
  rcases a0Y hu with ⟨i,t,rfl,rfl⟩ | ⟨x,t,rfl,rfl⟩
  ·rcases a0Y hv with ⟨j,u,rfl,rfl⟩ | ⟨y,u,rfl,rfl⟩
   ·rw[c0O] at h;exact wpAny_eqBool_int h
   ·rw[c0N] at h;exact SeqAt.EqAt.int_str i t y u _ _ _ _ h
  ·rcases a0Y hv with ⟨j,u,rfl,rfl⟩ | ⟨y,u,rfl,rfl⟩
   ·rw[c0M] at h;exact SeqAt.EqAt.str_int x t j u _ _ _ _ h
   ·rw[c0L] at h;exact wpAny_eqBool_str h
 «strs»:=fun k x t v h=>by
  rcases a0Y h with ⟨i,u,rfl,e⟩ | ⟨y,u,rfl,e⟩
  ·exact nomatch e
  ·injection e with e1 _
   subst e1
   cases v<;>rfl
theorem b2Y (prog:Program) (w:World) (k:Key) (v:Value):(a0X prog w).is k v=a8H k v:=rfl
theorem b1b (prog:Program) (w:World) (i:Int) (t:Tok):(a0X prog w).is (.inl i) (.int i t)=true:=a9P i t
theorem b1a (prog:Program) (w:World) (x:Str) (t:Tok):(a0X prog w).is (.inr x) (.str x t)=true:=a9O x t
inductive V where
 | non | bl (b:Bool) | int (i:Int) | str (x:Str) | byt (b:Array UInt8) | flt (b:UInt64) | ref (a:Addr) | ty (n:String)
 deriving DecidableEq
noncomputable def RelV:V→Value→Prop
 | .non,u=>u=Value.none
 | .bl b,u=>u=Value.bool b
 | .int i,u=>∃ t,u=Value.int i t
 | .str x,u=>∃ t,u=Value.str x t
 | .byt b,u=>∃ t,u=Value.bytes b t
 | .flt b,u=>∃ t,u=Value.float b t
 | .ref a,u=>u=Value.ref a
 | .ty n,u=>u=Value.type n
noncomputable abbrev Vals:List V→List Value→Prop:=Paired RelV
theorem Vals.length {xs:List V} {us:List Value} (r:Vals xs us):xs.length=us.length:=Paired.length r
theorem Vals.get:∀ {xs:List V} {us:List Value} {i:Nat} {x:V},Vals xs us→xs[i]?=some x→∃ u,us[i]?=some u∧RelV x u
 | _,_,_,_,.nil,e=>by simp at e
 | _,_,0,_,.cons r _,e=>by simp at e;subst e;exact⟨_,rfl,r⟩
 | _,_,i+1,x,.cons _ t,e=>by
   obtain⟨u,h1,h2⟩:=Vals.get (i:=i) (x:=x) t (by simpa using e)
   exact⟨u,by simpa using h1,h2⟩
theorem Vals.set {x:V} {u:Value} (r:RelV x u):∀ {xs:List V} {us:List Value} (i:Nat),Vals xs us→Vals (xs.set i x) (us.set i u)
 | _,_,_,.nil=>.nil
 | _,_,0,.cons _ t=>.cons r t
 | _,_,i+1,.cons q t=>.cons q (Vals.set r i t)
theorem Vals.append:∀ {xs ys:List V} {us ws:List Value},Vals xs us→Vals ys ws→Vals (xs++ys) (us++ws)
 | _,_,_,_,.nil,s=>s
 | _,_,_,_,.cons r t,s=>.cons r (Vals.append t s)
theorem Vals.take:∀ {xs:List V} {us:List Value} (n:Nat),Vals xs us→Vals (xs.take n) (us.take n)
 | _,_,0,_=>.nil
 | _,_,_+1,.nil=>.nil
 | _,_,n+1,.cons r t=>.cons r (Vals.take n t)
theorem Vals.drop:∀ {xs:List V} {us:List Value} (n:Nat),Vals xs us→Vals (xs.drop n) (us.drop n)
 | _,_,0,r=>r
 | _,_,_+1,.nil=>.nil
 | _,_,n+1,.cons _ t=>Vals.drop n t
noncomputable def RelO:Option V→Option Value→Prop
 | some v,some u=>RelV v u
 | none,none=>True
 | _,_=>False
noncomputable def KV {κ:Type}:List (κ × V)→List (κ × Value)→Prop:=Paired fun (p:κ × V) (q:κ × Value)=>p.1=q.1∧RelV p.2 q.2
noncomputable def kV:Key→V
 | .inl i=>.int i
 | .inr x=>.str x
inductive HO where
 /-- a list -/
 | lst (xs:List V)
 /-- a tuple (never changes) -/
 | tup (xs:List V)
 /-- a dict whose keys are ints and texts;one whose keys are tuples of ints and texts (the empty one is both) -/
 | dK (kvs:List (Key × V)) | dT (kvs:List (List Key × V))
 /-- a set of ints: its members,its size -/
 | set (S:Int→Bool) (n:Nat)
 /-- an instance of the class at C,its dict at dx,its attributes -/
 | ins (C dx:Addr) (fs:List (Str × V))
 /-- the dict of the instance at x -/
 | own (x:Addr)
 /-- the dict of an exception -/
 | xd (fs:List (Str × V))
 /-- a bound method,f of x -/
 | met (f x:Addr)
 /-- a range object lo,lo+1,.. below hi -/
 | rng (lo hi:Int)
 /-- a thing that is known to the object (the script;a dict while a loop walks it): read,never written while it is so -/
 | frz (o:Obj) (u:HO)
 /-- a code object's table -/
 | tbl (ps:Array Value)
 /-- any other thing,by what is true of its one object (a def of one's own: SetO a S n:=HO.ext fun h=>..) -/
 | ext (φ:Heap→Prop)
noncomputable abbrev Hp:=Addr→Option HO
noncomputable def a2R (h:Heap) (a:Addr) (items:Array Value):Prop:=∃ o,h.get? a=some o∧o.cls=.type "tuple"∧o.dict=none∧∃ n,o.data=.seq items n
theorem a2R.t {h:Heap} {a:Addr} {items:Array Value} (x:a2R h a items):IsTup h a items:=let ⟨o,e,c,_,n,d⟩:=x;⟨o,e,c,n,d⟩
theorem a2R.lt {h:Heap} {a:Addr} {items:Array Value} (x:a2R h a items):a < h.objs.size:=x.t.lt
theorem a2R.new (h:Heap) (items:Array Value):a2R (h.push { cls:=.type "tuple",data:=.seq items }) h.objs.size items:=⟨_,Heap.get?_push_size _ rfl,rfl,rfl,0,rfl⟩
noncomputable def upd (H:Hp) (a:Addr) (o:HO):Hp:=fun b=>if b=a then some o else H b
theorem a0B {H:Hp} {a:Addr} {o:HO}:upd H a o a=some o:=by unfold upd;rw[if_pos rfl]
theorem a0v {H:Hp} {a b:Addr} {o:HO} (h:b≠a):upd H a o b=H b:=by unfold upd;rw[if_neg h]
theorem b8A {H:Hp} {a b:Addr} {o u:HO} (h:H a=some o) (h':H b=some u) (d:o≠u):a≠b:=by
 intro e;subst e;rw[h] at h';exact d (Option.some.inj h')
theorem a0u {H:Hp} {a b:Addr} {o:HO} (h:H a=some o) (h':H b=none):a≠b:=by
 intro e;subst e;rw[h] at h';cases h'
section
variable (P:Program) (w:World)
noncomputable def a1G (H:Hp) (h:Heap) (a:Addr):HO→Prop
 | .lst xs=>xs.length≤sizeLine∧∃ (its:List Value) (n:Nat),Vals xs its∧h.get? a=some { cls:=.type "list",data:=.seq its.toArray n }
 | .tup xs=>xs.length≤sizeLine∧∃ its:List Value,Vals xs its∧a2R h a its.toArray
 | .dK kvs=>kvs.length≤sizeLine∧(a == sysModules)=false∧∃ vs,KV kvs vs∧h.DictOf (a0X P w) a vs
 | .dT kvs=>kvs.length≤sizeLine∧(a == sysModules)=false∧∃ xs:List (List Key × Addr × Value),
   Paired (fun (p:List Key × V) (q:List Key × Addr × Value)=>p.1=q.1∧H q.2.1=some (.tup (p.1.map kV))∧RelV p.2 q.2.2) kvs xs ∧
   ∃ o es ep,h.get? a=some o∧o.ExactDict∧o.data=.dict es ep∧es.toList=xs.map (entryOfKey (tupleKind (a0X P w)))∧(xs.map (·.1)).Nodup
 | .set S n=>h.SetOf (intKind P w) a S n
 | .ins C dx fs=>H dx=some (.own a)∧fs.length≤1000∧dx≠a∧h.get? a=some (PySem.W.instObj C dx) ∧
   ∃ mA,h.Ns1 dx mA∧(∀ f,RelO (fs.lookup f) (mA f))∧PySem.Within mA (fs.map (·.1))
 | .own _=>∃ o,h.get? a=some o
 | .xd fs=>∃ mA,h.Ns1 a mA∧∀ f,RelO (fs.lookup f) (mA f)
 | .rng lo hi=>∃ t u v,h.get? a=some { cls:=.type "range",data:=.fields #[.int lo t,.int hi u,.int 1 v] }
 | .frz o u=>h.get? a=some o∧a1G H h a u
 | .tbl ps=>h.get? a=some { cls:=.none,data:=.fields ps }
 | .met f x=>h.get? a=some (PySem.W.methodObj (.ref f) (.ref x))
 | .ext φ=>φ h∧(∃ o,h.get? a=some o)∧∀ h1 h2:Heap,φ h1→(∀ o,h1.get? a=some o→h2.get? a=some o)→φ h2
noncomputable def HOk (H:Hp) (h:Heap):Prop:=∀ a o,H a=some o→a1G P w H h a o
end
section
variable {P:Program} {w:World} {H H':Hp} {h h':Heap} {a:Addr} {o:HO}
theorem a1G.lt (x:a1G P w H h a o):a < h.objs.size:=by
 cases o with
 | lst xs=>obtain⟨_,_,_,_,e⟩:=x;exact Heap.lt_size e
 | tup xs=>obtain⟨_,_,_,p⟩:=x;exact p.lt
 | dK kvs=>obtain⟨_,_,_,_,o,_,_,e,_⟩:=x;exact Heap.lt_size e
 | dT kvs=>obtain⟨_,_,_,_,o,_,_,e,_⟩:=x;exact Heap.lt_size e
 | set S n=>obtain⟨o,_,_,_,e,_⟩:=x;exact Heap.lt_size e
 | ins C dx fs=>obtain⟨_,_,_,e,_⟩:=x;exact Heap.lt_size e
 | own y=>obtain⟨_,e⟩:=x;exact Heap.lt_size e
 | xd fs=>obtain⟨_,⟨_,_,_,e,_⟩,_⟩:=x;exact Heap.lt_size e
 | rng lo hi=>obtain⟨_,_,_,e⟩:=x;exact Heap.lt_size e
 | frz ob u=>obtain⟨e,_⟩:=x;exact Heap.lt_size e
 | tbl ps=>exact Heap.lt_size (show h.get? a=some _ from x)
 | met f y=>exact Heap.lt_size (show h.get? a=some _ from x)
 | ext φ=>obtain⟨_,⟨_,e⟩,_⟩:=x;exact Heap.lt_size e
theorem Paired.mapP {α β:Type} {F G:α→β→Prop}:∀ {l₁:List α} {l₂:List β},Paired F l₁ l₂→(∀ a b,F a b→G a b)→Paired G l₁ l₂
 | _,_,.nil,_=>.nil
 | _,_,.cons r t,f=>.cons (f _ _ r) (Paired.mapP t f)
theorem a1G.stay (x:a1G P w H h a o) (k:∀ b u,(b=a∨H b=some (.own a))→h.get? b=some u→h'.get? b=some u)
  (ho:∀ b,H b=some (.own a)→H' b=some (.own a)) (ht:∀ b xs,H b=some (.tup xs)→H' b=some (.tup xs)):a1G P w H' h' a o:=by
 induction o with
 | lst xs=>obtain⟨z,its,n,r,e⟩:=x;exact⟨z,its,n,r,k _ _ (.inl rfl) e⟩
 | tup xs=>obtain⟨z,its,r,ob,e,c⟩:=x;exact⟨z,its,r,ob,k _ _ (.inl rfl) e,c⟩
 | dK kvs=>obtain⟨z,y,vs,r,ob,es,ep,e,c⟩:=x;exact⟨z,y,vs,r,ob,es,ep,k _ _ (.inl rfl) e,c⟩
 | dT kvs =>
   obtain⟨z,y,xs,r,ob,es,ep,e,c⟩:=x
   exact⟨z,y,xs,Paired.mapP r fun p q z=>⟨z.1,ht _ _ z.2.1,z.2.2⟩,ob,es,ep,k _ _ (.inl rfl) e,c⟩
 | set S n=>obtain⟨ob,es,ep,t,e,c⟩:=x;exact⟨ob,es,ep,t,k _ _ (.inl rfl) e,c⟩
 | ins C dx fs =>
   obtain⟨d,z,ne,e,mA,⟨od,es,ep,e2,c⟩,r⟩:=x
   exact⟨ho _ d,z,ne,k _ _ (.inl rfl) e,mA,⟨od,es,ep,k _ _ (.inr d) e2,c⟩,r⟩
 | own y=>obtain⟨ob,e⟩:=x;exact⟨ob,k _ _ (.inl rfl) e⟩
 | xd fs=>obtain⟨mA,⟨od,es,ep,e,c⟩,r⟩:=x;exact⟨mA,⟨od,es,ep,k _ _ (.inl rfl) e,c⟩,r⟩
 | rng lo hi=>obtain⟨t,u,v,e⟩:=x;exact⟨t,u,v,k _ _ (.inl rfl) e⟩
 | frz ob u ih=>obtain⟨e,q⟩:=x;exact⟨k _ _ (.inl rfl) e,ih q⟩
 | tbl ps =>
   have e:h.get? a=some { cls:=.none,data:=.fields ps }:=x
   show h'.get? a=some { cls:=.none,data:=.fields ps }
   exact k a _ (.inl rfl) e
 | met f y =>
   have e:h.get? a=some (PySem.W.methodObj (.ref f) (.ref y)):=x
   show h'.get? a=some (PySem.W.methodObj (.ref f) (.ref y))
   exact k a _ (.inl rfl) e
 | ext φ=>obtain⟨p,⟨o,e⟩,st⟩:=x;exact⟨st _ _ p fun o q=>k _ _ (.inl rfl) q,⟨o,k _ _ (.inl rfl) e⟩,st⟩
theorem HOk.lt (x:HOk P w H h) (e:H a=some o):a < h.objs.size:=(x a o e).lt
theorem HOk.fresh (x:HOk P w H h) (e:h.objs.size≤a):H a=none:=by
 cases q:H a with
 | none=>rfl
 | some u=>exact absurd (Nat.lt_of_lt_of_le (x.lt q) e) (Nat.lt_irrefl _)
theorem HOk.kept (x:HOk P w H h) (k:∀ b u,h.get? b=some u→h'.get? b=some u):HOk P w H h':=fun a o e =>
 (x a o e).stay (fun b u _ q=>k b u q) (fun _ q=>q) fun _ _ q=>q
theorem HOk.laid (x:HOk P w H h) (k:∀ b u,h.get? b=some u→h'.get? b=some u) (hp:h.objs.size≤a) (new:a1G P w (upd H a o) h' a o):HOk P w (upd H a o) h':=fun b u e=>by
 have hn:=x.fresh hp
 by_cases hb:b=a
 ·subst hb;rw[a0B] at e;cases e;exact new
 ·rw[a0v hb] at e
  exact (x b u e).stay (fun c v _ q=>k c v q) (fun c q=>by rw[a0v (a0u q hn)];exact q) fun c xs q=>by rw[a0v (a0u q hn)];exact q
end
noncomputable def Rd (H:Hp) (a:Addr) (u:HO):Prop:=H a=some u∨∃ o,H a=some (.frz o u)
theorem Rd.of {H:Hp} {a:Addr} {u:HO} (h:H a=some u):Rd H a u:=.inl h
theorem Rd.ok {P:Program} {w:World} {H:Hp} {h:Heap} {a:Addr} {u:HO} (r:Rd H a u) (x:HOk P w H h):a1G P w H h a u:=by
 rcases r with r | ⟨o,r⟩
 ·exact x a u r
 ·obtain⟨_,q⟩:=x a _ r
  exact q
noncomputable def Mut:Option HO→Prop
 | some (.lst _)=>True
 | some (.dK _)=>True
 | some (.dT _)=>True
 | some (.set _ _)=>True
 | some (.ins _ _ _)=>True
 | some (.ext _)=>True
 | _=>False
section
variable {P:Program} {w:World} {H:Hp} {h h':Heap} {x e:Addr} {o':HO}
theorem HOk.write (ok:HOk P w H h) (mu:Mut (H x)) (he:e=x∨H e=some (.own x)) (k:∀ b u,b≠e→h.get? b=some u→h'.get? b=some u) (heo:∃ u,h'.get? e=some u)
  (new:a1G P w (upd H x o') h' x o'):HOk P w (upd H x o') h':=fun b u q=>by
 have nown:∀ c y,H c=some (.own y)→c≠x:=fun c y r z=>by subst z;rw[r] at mu;exact mu
 have ntup:∀ c xs,H c=some (.tup xs)→c≠x:=fun c xs r z=>by subst z;rw[r] at mu;exact mu
 by_cases hb:b=x
 ·subst hb;rw[a0B] at q;cases q;exact new
 ·rw[a0v hb] at q
  by_cases hbe:b=e
  ·have q':H b=some (.own x):=by
    rcases he with z | z
    ·exact absurd (hbe.trans z) hb
    ·rw[hbe];exact z
   rw[q] at q';cases q'
   obtain⟨v,hv⟩:=heo
   exact⟨v,by rw[hbe];exact hv⟩
  ·refine (ok b u q).stay (fun c v hc r=>k c v ?_ r) (fun c r=>by rw[a0v (nown c b r)];exact r) fun c xs r=>by rw[a0v (ntup c xs r)];exact r
   rcases hc with rfl | hc
   ·exact hbe
   ·rintro rfl
    rcases he with z | z
    ·exact nown c b hc z
    ·rw[hc] at z;cases z;exact hb rfl
end
structure Un (fs ex:List Addr) (H H':Hp) (h h':Heap):Prop where
 keep:∀ b o,h.get? b=some o→H b=none→b ∉ fs→b ∉ ex→h'.get? b=some o
 slot:∀ b o,h.get? b=some o→H b=none→b∈fs→b ∉ ex→∃ sl,h'.get? b=some { o with slots:=sl }
 free:∀ b o,h.get? b=some o→H b=none→b ∉ ex→H' b=none
 there:∀ b o,h.get? b=some o→b ∉ ex→∃ o',h'.get? b=some o'
 tups:∀ b xs,H b=some (.tup xs)→H' b=some (.tup xs)
 frzs:∀ b o u,H b=some (.frz o u)→H' b=some (.frz o u)
 tbls:∀ b ps,H b=some (.tbl ps)→∃ more,H' b=some (.tbl (ps++more))
section
variable {fs fs' ex ex':List Addr} {H H1 H2:Hp} {h h1 h2 h':Heap} {a x e:Addr} {o:HO}
theorem Un.any (u:Un fs ex H H1 h h1) {b:Addr} {ob:Obj} (q:h.get? b=some ob) (n:H b=none) (hx:b ∉ ex):∃ sl,h1.get? b=some { ob with slots:=sl }:=by
 by_cases hb:b∈fs
 ·exact u.slot b ob q n hb hx
 ·exact⟨ob.slots,u.keep b ob q n hb hx⟩
theorem Un.kept (k:∀ b u,h.get? b=some u→h'.get? b=some u):Un fs ex H H h h' :=
 ⟨fun b ob q _ _ _=>k b ob q,fun b ob q _ _ _=>⟨ob.slots,k b ob q⟩,fun _ _ _ n _=>n,fun b ob q _=>⟨ob,k b ob q⟩,fun _ _ q=>q,fun _ _ _ q=>q,fun _ ps q=>⟨#[],by rw[q];simp⟩⟩
theorem Un.refl:Un fs ex H H h h:=Un.kept fun _ _ q=>q
theorem Un.laid (k:∀ b u,h.get? b=some u→h'.get? b=some u) (hp:h.objs.size≤a) (hn:H a=none):Un fs ex H (upd H a o) h h' where
 keep:=fun b u q _ _ _=>k b u q
 slot:=fun b u q _ _ _=>⟨u.slots,k b u q⟩
 free:=fun b u q n _=>by rw[a0v (Nat.ne_of_lt (Nat.lt_of_lt_of_le (Heap.lt_size q) hp))];exact n
 there:=fun b u q _=>⟨u,k b u q⟩
 tups:=fun b xs q=>by rw[a0v (a0u q hn)];exact q
 frzs:=fun b u xs q=>by rw[a0v (a0u q hn)];exact q
 tbls:=fun b ps q=>⟨#[],by rw[a0v (a0u q hn),q];simp⟩
theorem Un.write (mu:Mut (H x)) (he:e=x∨H e=some (.own x)) (k:∀ b u,b≠e→h.get? b=some u→h'.get? b=some u) (heo:∃ u,h'.get? e=some u):Un fs ex H (upd H x o) h h':=by
 have hx:∀ b,H b=none→b≠x:=fun b n z=>by subst z;rw[n] at mu;exact mu
 have hb:∀ b,H b=none→b≠e:=fun b n z=>by
  subst z
  rcases he with r | r
  ·exact hx b n r
  ·rw[n] at r;cases r
 have hm:∀ b u,H b=some u→¬Mut (some u)→b≠x:=fun b u q nm z=>by subst z;rw[q] at mu;exact nm mu
 refine⟨fun b u q n _ _=>k b u (hb b n) q,fun b u q n _ _=>⟨u.slots,k b u (hb b n) q⟩,fun b u q n _=>by rw[a0v (hx b n)];exact n,fun b u q _=>?_,
  fun b xs q=>by rw[a0v (hm b _ q fun z=>z)];exact q,fun b u xs q=>by rw[a0v (hm b _ q fun z=>z)];exact q,fun b ps q=>⟨#[],by rw[a0v (hm b _ q fun z=>z),q];simp⟩⟩
 by_cases hbe:b=e
 ·subst hbe;exact heo
 ·exact⟨u,k b u hbe q⟩
end
noncomputable def trk (h:Heap) (H:Hp):List Addr:=(List.range h.objs.size).filter fun a=>(H a).isSome
noncomputable def hidT (h:Heap) (H:Hp):Heap:=PySem.W.hideAll h (trk h H)
theorem b4Q (h:Heap) (H:Hp):(hidT h H).objs.size=h.objs.size:=PySem.W.hideAll_size _ _
theorem b6v {h:Heap} {H:Hp} {b:Addr} {o:Obj} (e:h.get? b=some o) (n:H b=none):(hidT h H).get? b=some o :=
 PySem.W.hideAll_get _ e fun hm=>by
  have q:(H b).isSome=true:=(List.mem_filter.mp hm).2
  rw[n] at q;simp at q
theorem b8x {h:Heap} {H:Hp} {b:Addr} {o:Obj} (e:(hidT h H).get? b=some o):h.get? b=some o∧H b=none:=by
 have e':h.get? b=some o:=PySem.W.of_hideAll (trk h H) e
 refine⟨e',?_⟩
 cases q:H b with
 | none=>rfl
 | some x =>
   have hm:b∈trk h H:=List.mem_filter.mpr ⟨List.mem_range.mpr (Heap.lt_size e'),by simp [q]⟩
   have z:(hidT h H).get? b=none:=PySem.W.hideAll_none (trk h H) hm
   rw[z] at e;cases e
structure Mod (K:PySem.W.Frag) (mg:Str→Option Value) (base:Heap):Prop where
 kin:K.In base
 glob:base.Ns mainGlobals mg
 blt:∃ mb,base.Ns builtinsNs mb∧∀ x:Str,x≠"__name__"→mb x=bootBuiltins x
 nolimit:base.NoLimit
structure Cx where
 prog:Program
 w:World
 K:PySem.W.Frag
 mg:Str→Option Value
 base:Heap
 A:Around
 N:List Str
 s₀:Shared
 H₀:Hp
 env:Env
 outer:List Env
 stack:List Env
 ex:List Addr
 fn:Str→Bool
 calm:Bool
 pn:List (Addr × Obj)
 xe:Value→Shared→Prop
noncomputable def frs (l:List Env):List Addr:=l.filterMap (·.frame)
noncomputable abbrev Cx.fs (X:Cx):List Addr:=frs X.outer
noncomputable def Vis (sc:Scope) (x:Str):Prop:=sc.names.lookup x=some .local∨sc.names.lookup x=some .cell∨sc.names.lookup x=some .free
noncomputable def Loc (sc:Scope) (x:Str):Prop:=sc.names.lookup x=some .local∨sc.names.lookup x=some .cell
noncomputable def Look (env:Env) (h:Heap) (m:Str→Option Value) (x:Str) (u:Value):Prop :=
 (env.kindOf x=some .local∧m x=some u)∨((env.kindOf x=some .cell∨env.kindOf x=some .free)∧∃ c,env.cells.lookup x=some c∧h.IsCell c (some u))
structure Cx.Ok (X:Cx):Prop where
 mod:Mod X.K X.mg X.base
 kind:X.env.scope.kind=.function
 glob:X.env.globals=mainGlobals
 blt:X.env.builtins=builtinsNs
 above:X.s₀.heap.objs.size≤X.env.locals
 inj:∀ x y c,X.env.cells.lookup x=some c→X.env.cells.lookup y=some c→x=y
 has:∀ x,(X.env.kindOf x=some .cell∨X.env.kindOf x=some .free)→∃ c,X.env.cells.lookup x=some c
 cab:∀ x c,X.fn x=true→X.env.cells.lookup x=some c→X.s₀.heap.objs.size≤c
 hd:X.calm=true→X.A.handled=none
 frames:X.A.frames=some X.stack
 stk:X.stack=X.outer∨(X.stack=X.env :: X.outer∧X.env.frame=some X.env.locals)
 exf:∀ b∈X.ex,b≠X.env.locals∧∀ x c,X.env.cells.lookup x=some c→c≠b
 bs:∀ b o,X.base.get? b=some o→X.s₀.heap.get? b=some o∧X.H₀ b=none
 bsz:X.base.objs.size≤X.s₀.heap.objs.size
 noex:∀ b o,X.base.get? b=some o→b ∉ X.ex
 exfs:∀ b∈X.ex,b ∉ X.fs
 funs:X.s₀.heap.FunFrames X.base X.outer
 frf:∀ b∈X.fs,X.H₀ b=none
structure Inv (X:Cx) (pins:List (Addr × Obj)) (σ:List (Option V)) (H:Hp) (s:Shared):Prop where
 ok:X.Ok
 os:s.os=X.s₀.os
 bare:AllBare s.gens
 base:Un X.fs X.ex X.H₀ H X.s₀.heap s.heap
 loc:∃ m,s.heap.Ns X.env.locals m∧∀ (i:Nat) (x:Str) (v:V),X.N[i]?=some x→σ[i]?=some (some v)→Vis X.env.scope x→∃ u,RelV v u∧Look X.env s.heap m x u
 cell:∀ x c,X.env.cells.lookup x=some c→∃ v,s.heap.IsCell c v
 free:H X.env.locals=none
 freeC:∀ x c,X.env.cells.lookup x=some c→H c=none
 pin:∀ p∈X.pn++pins,s.heap.get? p.1=some p.2∧H p.1=none∧p.1≠X.env.locals∧p.1 ∉ X.fs∧∀ v,p.2.data≠.cell v
 hok:HOk X.prog X.w H s.heap
 len:σ.length=X.N.length
section
variable {X:Cx} {pins:List (Addr × Obj)} {σ:List (Option V)} {H H':Hp} {s:Shared} {h':Heap}
theorem Cx.Ok.nofr (ok:X.Ok) {b:Addr} {o:Obj} (e:X.base.get? b=some o):b ∉ X.fs:=fun hb=>by
 have:=(ok.funs.mem hb).1
 rw[e] at this;cases this
theorem Inv.bs (I:Inv X pins σ H s):∀ b o,X.base.get? b=some o→s.heap.get? b=some o∧H b=none:=fun b o e =>
 ⟨I.base.keep b o (I.ok.bs b o e).1 (I.ok.bs b o e).2 (I.ok.nofr e) (I.ok.noex b o e),I.base.free b o (I.ok.bs b o e).1 (I.ok.bs b o e).2 (I.ok.noex b o e)⟩
theorem Inv.bk (I:Inv X pins σ H s):∀ b o,X.base.get? b=some o→s.heap.get? b=some o:=fun b o e=>(I.bs b o e).1
theorem Inv.mod (I:Inv X pins σ H s):Mod X.K X.mg X.base:=I.ok.mod
theorem Inv.kIn (I:Inv X pins σ H s):X.K.In s.heap:=I.ok.mod.kin.keeps I.bk
theorem Inv.lt (I:Inv X pins σ H s):X.env.locals < s.heap.objs.size:=let ⟨_,hn,_⟩:=I.loc;hn.lt
theorem Inv.sz (I:Inv X pins σ H s):X.s₀.heap.objs.size≤s.heap.objs.size:=Nat.le_trans I.ok.above (Nat.le_of_lt I.lt)
theorem Inv.nofs (I:Inv X pins σ H s) {a:Addr} (h:s.heap.objs.size≤a):a ∉ X.fs:=fun hb=>by
 obtain⟨_,o,ho,_⟩:=I.ok.funs.mem hb
 exact absurd (Nat.lt_of_lt_of_le (Heap.lt_size ho) (Nat.le_trans I.sz h)) (Nat.lt_irrefl _)
theorem Inv.cne (I:Inv X pins σ H s):∀ x c,X.env.cells.lookup x=some c→c≠X.env.locals:=fun x c e z=>by
 obtain⟨v,o,ho,hd⟩:=I.cell x c e
 obtain⟨m,⟨o',es,ep,ho',hd',_⟩,_⟩:=I.loc
 rw[z,ho'] at ho;cases ho;rw[hd'] at hd;cases hd
theorem Inv.funs (I:Inv X pins σ H s):s.heap.FunFrames X.base X.outer:=by
 have all:∀ (l:List Env),(∀ b∈frs l,b∈X.fs)→X.s₀.heap.FunFrames X.base l→s.heap.FunFrames X.base l:=by
  intro l
  induction l with
  | nil=>intro _ _;trivial
  | cons env r ih =>
    intro hs hl
    obtain⟨hk,⟨L,o,hf,hn,ho,hd⟩,hr⟩:=hl
    have hL:L∈X.fs:=hs L (by unfold frs;rw[List.filterMap_cons,hf];exact List.mem_cons_self)
    obtain⟨sl,e⟩:=I.base.slot L o ho (I.ok.frf L hL) hL fun z=>I.ok.exfs L z hL
    exact⟨hk,⟨L,_,hf,hn,e,hd⟩,ih (fun b hb=>hs b (by unfold frs;rw[List.filterMap_cons,hf];exact List.mem_cons_of_mem _ hb)) hr⟩
 exact all X.outer (fun _ hb=>hb) I.ok.funs
theorem Inv.stack (I:Inv X pins σ H s):s.heap.FunFrames X.base X.stack:=by
 rcases I.ok.stk with e | ⟨e,hf⟩
 ·rw[e];exact I.funs
 ·rw[e]
  obtain⟨m,hn,_⟩:=I.loc
  refine .cons (by rw[I.ok.kind];decide) hf hn ?_ I.funs
  exact Heap.get?_none_of_le (Nat.le_trans I.ok.bsz I.ok.above)
theorem Inv.stkSub (I:Inv X pins σ H s):∀ b∈frs X.stack,b∈X.env.locals :: X.fs:=fun b hb=>by
 rcases I.ok.stk with e | ⟨e,hf⟩
 ·rw[e] at hb;exact List.mem_cons_of_mem _ hb
 ·rw[e] at hb
  unfold frs at hb
  rw[List.filterMap_cons,hf] at hb
  exact hb
theorem Inv.stkFree (I:Inv X pins σ H s):∀ b∈frs X.stack,H b=none:=fun b hb=>by
 rcases List.mem_cons.mp (I.stkSub b hb) with e | hb
 ·rw[e];exact I.free
 ·obtain⟨_,o,ho,_⟩:=I.ok.funs.mem hb
  exact I.base.free b o ho (I.ok.frf b hb) fun z=>I.ok.exfs b z hb
theorem Inv.step {g':Array GenState} {t':Nat} {d':Drawn} {ch:List Addr} (I:Inv X pins σ H s)
  (hch:∀ b∈ch,(b∈X.ex∨X.s₀.heap.objs.size≤b)∧b≠X.env.locals∧(∀ x c,X.env.cells.lookup x=some c→c≠b)∧∀ p∈X.pn++pins,p.1≠b)
  (keep:∀ b o,b≠X.env.locals→b ∉ X.fs→b ∉ ch→s.heap.get? b=some o→H b=none→h'.get? b=some o)
  (slot:∀ b o,b≠X.env.locals→b∈X.fs→b ∉ ch→s.heap.get? b=some o→H b=none→∃ sl,h'.get? b=some { o with slots:=sl }) (free:∀ b o,b ∉ ch→s.heap.get? b=some o→H b=none→H' b=none)
  (there:∀ b o,b ∉ ch→s.heap.get? b=some o→∃ o',h'.get? b=some o')
  (tups:∀ b xs,H b=some (.tup xs)→H' b=some (.tup xs)) (frzs:∀ b o u,H b=some (.frz o u)→H' b=some (.frz o u)) (tbls:∀ b ps,H b=some (.tbl ps)→∃ more,H' b=some (.tbl (ps++more)))
  (ns:∀ m,s.heap.Ns X.env.locals m→h'.Ns X.env.locals m) (hok:HOk X.prog X.w H' h') (hg:AllBare g') :
  Inv X pins σ H' { s with heap:=h',gens:=g',drawn:=d',toks:=t' }:=by
 have neL:∀ b o,X.s₀.heap.get? b=some o→b≠X.env.locals:=fun b o e=>Nat.ne_of_lt (Nat.lt_of_lt_of_le (Heap.lt_size e) I.ok.above)
 have neC:∀ b o,X.s₀.heap.get? b=some o→b ∉ X.ex→b ∉ ch:=fun b o e hx hb=>by
  rcases (hch b hb).1 with z | z
  ·exact hx z
  ·exact absurd (Nat.lt_of_lt_of_le (Heap.lt_size e) z) (Nat.lt_irrefl _)
 have cellK:∀ x c,X.env.cells.lookup x=some c→∀ v,s.heap.IsCell c v→h'.IsCell c v:=fun x c e v ⟨o,ho,hd⟩=>by
  have nch:c ∉ ch:=fun z=>(hch c z).2.2.1 x c e rfl
  by_cases hc:c∈X.fs
  ·obtain⟨sl,q⟩:=slot c o (I.cne x c e) hc nch ho (I.freeC x c e)
   exact⟨_,q,hd⟩
  ·exact⟨o,keep c o (I.cne x c e) hc nch ho (I.freeC x c e),hd⟩
 refine⟨I.ok,I.os,hg,⟨fun b o e n hb hx=>?_,fun b o e n hb hx=>?_,fun b o e n hx=>?_,fun b o e hx=>?_,fun b xs e=>tups b xs (I.base.tups b xs e),fun b o xs e=>frzs b o xs (I.base.frzs b o xs e),fun b ps e=>?_⟩,?_,fun x c e=>?_,?_,fun x c e=>?_,fun p hp=>?_,hok,I.len⟩
 ·exact keep b o (neL b o e) hb (neC b o e hx) (I.base.keep b o e n hb hx) (I.base.free b o e n hx)
 ·obtain⟨sl,e1⟩:=I.base.slot b o e n hb hx
  obtain⟨sl',e2⟩:=slot b _ (neL b o e) hb (neC b o e hx) e1 (I.base.free b o e n hx)
  exact⟨sl',e2⟩
 ·obtain⟨o',e1⟩:=I.base.there b o e hx
  exact free b o' (neC b o e hx) e1 (I.base.free b o e n hx)
 ·obtain⟨o',e1⟩:=I.base.there b o e hx
  exact there b o' (neC b o e hx) e1
 ·obtain⟨m1,e1⟩:=I.base.tbls b ps e
  obtain⟨m2,e2⟩:=tbls b _ e1
  exact⟨m1++m2,by rw[e2,Array.append_assoc]⟩
 ·obtain⟨m,hn,hl⟩:=I.loc
  refine⟨m,ns m hn,fun i x v e1 e2 e3=>?_⟩
  obtain⟨u,r,l⟩:=hl i x v e1 e2 e3
  refine⟨u,r,?_⟩
  rcases l with l | ⟨k,c,e,z⟩
  ·exact .inl l
  ·exact .inr ⟨k,c,e,cellK x c e _ z⟩
 ·obtain⟨v,z⟩:=I.cell x c e
  exact⟨v,cellK x c e v z⟩
 ·obtain⟨m,⟨o,_,_,ho,_⟩,_⟩:=I.loc
  exact free _ o (fun z=>(hch _ z).2.1 rfl) ho I.free
 ·obtain⟨v,o,ho,hd⟩:=I.cell x c e
  exact free c o (fun z=>(hch c z).2.2.1 x c e rfl) ho (I.freeC x c e)
 ·obtain⟨e,n,ne,nf,d⟩:=I.pin p hp
  have nch:p.1 ∉ ch:=fun z=>(hch p.1 z).2.2.2 p hp rfl
  exact⟨keep p.1 p.2 ne nf nch e n,free p.1 p.2 nch e n,ne,nf,d⟩
theorem Inv.un {t':Nat} (I:Inv X pins σ H s) (u:Un X.fs [] H H' s.heap h') (hok:HOk X.prog X.w H' h'):Inv X pins σ H' { s with heap:=h',toks:=t' }:=by
 obtain⟨m,⟨o,es,ep,ho,r⟩,_⟩:=id I.loc
 obtain⟨sl,hL⟩:=u.any ho I.free (by simp)
 exact I.step (g':=s.gens) (d':=s.drawn) (ch:=[]) (fun _ z=>nomatch z) (fun b o _ hb _ e n=>u.keep b o e n hb (by simp)) (fun b o _ hb _ e n=>u.slot b o e n hb (by simp)) (fun b o _ e n=>u.free b o e n (by simp)) (fun b o _ e=>u.there b o e (by simp)) u.tups u.frzs u.tbls (fun m' hm=>by
  obtain⟨o',es',ep',ho',r'⟩:=hm
  rw[ho] at ho';cases ho'
  exact⟨_,es',ep',hL,r'⟩) hok I.bare
theorem Inv.call {g':Array GenState} {t':Nat} {d':Drawn} {ch:List Addr} (I:Inv X pins σ H s) (u:Un (frs X.stack) ch H H' s.heap h') (hok:HOk X.prog X.w H' h') (hg:AllBare g')
  (hch:∀ b∈ch,(b∈X.ex∨X.s₀.heap.objs.size≤b)∧b≠X.env.locals∧(∀ x c,X.env.cells.lookup x=some c→c≠b)∧∀ p∈X.pn++pins,p.1≠b) :
  Inv X pins σ H' { s with heap:=h',gens:=g',drawn:=d',toks:=t' }:=by
 obtain⟨m,⟨o,es,ep,ho,r⟩,_⟩:=id I.loc
 obtain⟨sl,hL⟩:=u.any ho I.free fun z=>(hch _ z).2.1 rfl
 exact I.step (ch:=ch) hch (fun b o hL hb hc e n=>u.keep b o e n (fun z=>(List.mem_cons.mp (I.stkSub b z)).elim hL hb) hc) (fun b o _ _ hc e n=>u.any e n hc) (fun b o hc e n=>u.free b o e n hc) (fun b o hc e=>u.there b o e hc) u.tups u.frzs u.tbls (fun m' hm=>by
  obtain⟨o',es',ep',ho',r'⟩:=hm
  rw[ho] at ho';cases ho'
  exact⟨_,es',ep',hL,r'⟩) hok hg
theorem Inv.turned {t':Nat} {it:Addr} (I:Inv X pins σ H s) (k:∀ b o,b≠it→s.heap.get? b=some o→h'.get? b=some o) (hn:H it=none) (hL:it≠X.env.locals)
  (h1:it∈X.ex∨X.s₀.heap.objs.size≤it) (h2:∀ x c,X.env.cells.lookup x=some c→c≠it) (h3:∀ p∈X.pn++pins,p.1≠it):Inv X pins σ H { s with heap:=h',toks:=t' }:=by
 have nit:∀ b u,H b=some u→b≠it:=fun b u e z=>by rw[z,hn] at e;cases e
 refine I.step (g':=s.gens) (d':=s.drawn) (ch:=[it]) (fun b hb=>?_) (fun b o _ _ hc e _=>k b o (fun z=>hc (by simp [z])) e) (fun b o _ _ hc e _=>⟨o.slots,k b o (fun z=>hc (by simp [z])) e⟩) (fun _ _ _ _ n=>n)
  (fun b o hc e=>⟨o,k b o (fun z=>hc (by simp [z])) e⟩) (fun _ _ e=>e) (fun _ _ _ e=>e) (fun b ps e=>⟨#[],by rw[e];simp⟩) (fun m hm=>?_) (fun b u e=>?_) I.bare
 ·have e:b=it:=by simpa using hb
  subst e
  exact⟨h1,hL,h2,h3⟩
 ·obtain⟨o,es,ep,ho,r⟩:=hm
  exact⟨o,es,ep,k _ o (Ne.symm hL) ho,r⟩
 ·refine (I.hok b u e).stay (fun c v hc q=>k c v ?_ q) (fun _ q=>q) fun _ _ q=>q
  rcases hc with z | z
  ·rw[z];exact nit b u e
  ·exact nit c _ z
theorem Inv.tok (I:Inv X pins σ H s) (t:Nat):Inv X pins σ H { s with toks:=t }:=I.un (h':=s.heap) (t':=t) Un.refl I.hok
theorem Inv.kept {t':Nat} (I:Inv X pins σ H s) (k:∀ b u,s.heap.get? b=some u→h'.get? b=some u):Inv X pins σ H { s with heap:=h',toks:=t' }:=I.un (Un.kept k) (I.hok.kept k)
theorem Inv.laid {a:Addr} {o:HO} {t':Nat} (I:Inv X pins σ H s) (k:∀ b u,s.heap.get? b=some u→h'.get? b=some u) (hp:s.heap.objs.size≤a) (new:a1G X.prog X.w (upd H a o) h' a o) :
  Inv X pins σ (upd H a o) { s with heap:=h',toks:=t' }:=I.un (Un.laid k hp (I.hok.fresh hp)) (I.hok.laid k hp new)
theorem Inv.write {x e:Addr} {o:HO} {t':Nat} (I:Inv X pins σ H s) (mu:Mut (H x)) (he:e=x∨H e=some (.own x)) (k:∀ b u,b≠e→s.heap.get? b=some u→h'.get? b=some u) (heo:∃ u,h'.get? e=some u)
  (new:a1G X.prog X.w (upd H x o) h' x o):Inv X pins σ (upd H x o) { s with heap:=h',toks:=t' }:=I.un (Un.write mu he k heo) (I.hok.write mu he k heo new)
theorem Inv.weak {σ':List (Option V)} (I:Inv X pins σ H s) (hl:σ'.length=σ.length) (w:∀ (i:Nat) v,σ'[i]?=some (some v)→σ[i]?=some (some v)):Inv X pins σ' H s :=
 ⟨I.ok,I.os,I.bare,I.base,let ⟨m,hn,hl'⟩:=I.loc;⟨m,hn,fun i x v e1 e2 e3=>hl' i x v e1 (w i v e2) e3⟩,I.cell,I.free,I.freeC,I.pin,I.hok,hl.trans I.len⟩
theorem Inv.pins_of {pins':List (Addr × Obj)} (I:Inv X pins σ H s) (h:∀ p∈pins',s.heap.get? p.1=some p.2∧H p.1=none∧p.1≠X.env.locals∧p.1 ∉ X.fs∧∀ v,p.2.data≠.cell v):Inv X pins' σ H s :=
 ⟨I.ok,I.os,I.bare,I.base,I.loc,I.cell,I.free,I.freeC,fun p hp=>(List.mem_append.mp hp).elim (fun z=>I.pin p (List.mem_append_left _ z)) (h p),I.hok,I.len⟩
theorem b1Q {N:List Str} (hN:N.Nodup) {i j:Nat} {x:Str} (a:N[i]?=some x) (b:N[j]?=some x):i=j:=by
 obtain⟨h1,e1⟩:=List.getElem?_eq_some_iff.mp a
 obtain⟨h2,e2⟩:=List.getElem?_eq_some_iff.mp b
 exact (List.getElem_inj hN).mp (e1.trans e2.symm)
theorem a9c {M:Model} {A:Around} {E:Value→Shared→Prop} {i:Nat} {x:Str} {v:V} {u:Value} {Q:Unit→Shared→Prop} (I:Inv X pins σ H s) (hN:X.N.Nodup) (hi:X.N[i]?=some x) (hx:Loc X.env.scope x) (r:RelV v u)
  (h:∀ s',Inv X pins (σ.set i (some v)) H s'→(∃ a,Heap.SameBut a s.heap s'.heap∧(a=X.env.locals∨X.env.cells.lookup x=some a))→Q () s') (hf:X.fn x=true∨X.env.scope.names.lookup x=some .local:=by first | exact .inl rfl | exact .inr rfl | assumption):wpAny M A (storeName X.env x u) Q E s:=by
 obtain⟨m,hn,hl⟩:=id I.loc
 have hcls:(X.env.scope.kind == .class || (X.env.scope.kind == .module && X.env.locals != X.env.globals))=false:=by rw[I.ok.kind];rfl
 have hiσ:i < σ.length:=by rw[I.len];exact (List.getElem?_eq_some_iff.mp hi).1
 have cne:=I.cne
 have tracked:∀ {a:Addr} {h':Heap},(∃ o,s.heap.get? a=some o∧H a=none)→Heap.SameBut a s.heap h'→HOk X.prog X.w H h':=fun {a h'} ha hs b ob e=>by
  obtain⟨_,_,hfree⟩:=ha
  refine (I.hok b ob e).stay (fun c w' hc q=>(hs.2 c ?_).trans q) (fun _ q=>q) fun _ _ q=>q
  rintro rfl
  rcases hc with rfl | hc
  ·rw[hfree] at e;cases e
  ·rw[hfree] at hc;cases hc
 rcases hx with hk | hk
 ·refine wpAny_storeName_local hk hn (fun h' hn' hs=>?_) hcls
  obtain⟨oL,_,_,hoL,_⟩:=id hn
  refine h _ ⟨I.ok,I.os,I.bare,⟨fun b o e n hb hx=>?_,fun b o e n hb hx=>?_,I.base.free,fun b o e hx=>?_,I.base.tups,I.base.frzs,I.base.tbls⟩,⟨_,hn',fun j y v' e1 e2 e3=>?_⟩,fun y c e=>?_,I.free,I.freeC,fun p hp=>?_,tracked ⟨oL,hoL,I.free⟩ hs,by simpa using I.len⟩ ⟨_,hs,.inl rfl⟩
  ·exact (hs.2 b (Nat.ne_of_lt (Nat.lt_of_lt_of_le (Heap.lt_size e) I.ok.above))).trans (I.base.keep b o e n hb hx)
  ·obtain⟨sl,e1⟩:=I.base.slot b o e n hb hx
   exact⟨sl,(hs.2 b (Nat.ne_of_lt (Nat.lt_of_lt_of_le (Heap.lt_size e) I.ok.above))).trans e1⟩
  ·obtain⟨o',e1⟩:=I.base.there b o e hx
   exact⟨o',(hs.2 b (Nat.ne_of_lt (Nat.lt_of_lt_of_le (Heap.lt_size e) I.ok.above))).trans e1⟩
  ·by_cases hj:j=i
   ·subst hj
    rw[hi] at e1;cases e1
    rw[List.getElem?_set_self hiσ] at e2
    cases e2
    exact⟨u,r,.inl ⟨hk,by simp⟩⟩
   ·rw[List.getElem?_set_ne (Ne.symm hj)] at e2
    obtain⟨u',r',q⟩:=hl j y v' e1 e2 e3
    refine⟨u',r',?_⟩
    rcases q with ⟨k,e⟩ | ⟨k,c,e,z⟩
    ·refine .inl ⟨k,?_⟩
     have:y≠x:=fun e=>hj (b1Q hN e1 (e▸hi))
     simp [this,e]
    ·exact .inr ⟨k,c,e,z.sameBut hs (cne y c e)⟩
  ·obtain⟨w',z⟩:=I.cell y c e
   exact⟨w',z.sameBut hs (cne y c e)⟩
  ·obtain⟨e,n,ne,nf,d⟩:=I.pin p hp
   exact⟨(hs.2 p.1 ne).trans e,n,ne,nf,d⟩
 ·have hfn:X.fn x=true:=by
   rcases hf with z | z
   ·exact z
   ·rw[z] at hk;cases hk
  obtain⟨c,hc⟩:=I.ok.has x (.inl hk)
  obtain⟨w',z⟩:=I.cell x c hc
  refine wpAny_storeName_cell I.ok.kind hk hc z (fun h' hc' hs=>?_)
  obtain⟨oc,hoc,hocd⟩:=id z
  refine h { s with heap:=h' } ⟨I.ok,I.os,I.bare,⟨fun b o e n hb hx=>?_,fun b o e n hb hx=>?_,I.base.free,fun b o e hx=>?_,I.base.tups,I.base.frzs,I.base.tbls⟩,⟨m,hn.sameBut hs (Ne.symm (cne x c hc)),fun j y v' e1 e2 e3=>?_⟩,fun y c' e=>?_,I.free,I.freeC,fun p hp=>?_,tracked ⟨oc,hoc,I.freeC x c hc⟩ hs,by simpa using I.len⟩ ⟨c,hs,.inr hc⟩
  ·exact (hs.2 b (Nat.ne_of_lt (Nat.lt_of_lt_of_le (Heap.lt_size e) (I.ok.cab x c hfn hc)))).trans (I.base.keep b o e n hb hx)
  ·obtain⟨sl,e1⟩:=I.base.slot b o e n hb hx
   exact⟨sl,(hs.2 b (Nat.ne_of_lt (Nat.lt_of_lt_of_le (Heap.lt_size e) (I.ok.cab x c hfn hc)))).trans e1⟩
  ·obtain⟨o',e1⟩:=I.base.there b o e hx
   exact⟨o',(hs.2 b (Nat.ne_of_lt (Nat.lt_of_lt_of_le (Heap.lt_size e) (I.ok.cab x c hfn hc)))).trans e1⟩
  ·by_cases hj:j=i
   ·subst hj
    rw[hi] at e1;cases e1
    rw[List.getElem?_set_self hiσ] at e2
    cases e2
    exact⟨u,r,.inr ⟨.inl hk,c,hc,hc'⟩⟩
   ·rw[List.getElem?_set_ne (Ne.symm hj)] at e2
    obtain⟨u',r',q⟩:=hl j y v' e1 e2 e3
    refine⟨u',r',?_⟩
    rcases q with q | ⟨k,c',e,z'⟩
    ·exact .inl q
    ·refine .inr ⟨k,c',e,z'.sameBut hs ?_⟩
     rintro rfl
     exact hj (b1Q hN e1 (I.ok.inj _ _ _ e hc▸hi))
  ·by_cases hcc:c'=c
   ·subst hcc;exact⟨_,hc'⟩
   ·obtain⟨w2,z2⟩:=I.cell y c' e
    exact⟨w2,z2.sameBut hs hcc⟩
  ·obtain⟨e,n,ne,nf,d⟩:=I.pin p hp
   refine⟨(hs.2 p.1 ?_).trans e,n,ne,nf,d⟩
   intro q
   rw[q,hoc] at e
   have q':oc=p.2:=Option.some.inj e
   exact d w' (by rw[← q'];exact hocd)
theorem a8c {M:Model} {A:Around} {E:Value→Shared→Prop} {i:Nat} {x:Str} {v:V} {u:Value} {Q:Unit→Shared→Prop} (I:Inv X pins σ H s) (hN:X.N.Nodup) (hi:X.N[i]?=some x) (hx:Loc X.env.scope x) (r:RelV v u)
  (h:∀ s',Inv X pins (σ.set i (some v)) H s'→Q () s') (hf:X.fn x=true∨X.env.scope.names.lookup x=some .local:=by first | exact .inl rfl | exact .inr rfl | assumption):wpAny M A (storeName X.env x u) Q E s :=
 a9c I hN hi hx r (fun s' I' _=>h s' I') hf
theorem Inv.call' {s':Shared} {ch:List Addr} (I:Inv X pins σ H s) (ho:s'.os=s.os) (u:Un (frs X.stack) ch H H' s.heap s'.heap) (hok:HOk X.prog X.w H' s'.heap) (hg:AllBare s'.gens)
  (hch:∀ b∈ch,(b∈X.ex∨X.s₀.heap.objs.size≤b)∧b≠X.env.locals∧(∀ x c,X.env.cells.lookup x=some c→c≠b)∧∀ p∈X.pn++pins,p.1≠b):Inv X pins σ H' s':=by
 obtain⟨h',g',d',t',o'⟩:=s'
 have e:o'=s.os:=ho
 subst e
 exact I.call (g':=g') (t':=t') (d':=d') u hok hg hch
end
noncomputable abbrev XK:=Value→Option Addr→Hp→Prop
noncomputable abbrev St:=List (Option V)
noncomputable abbrev VK:=V→Hp→Prop
noncomputable abbrev TE:=St→Hp→VK→Prop
noncomputable abbrev TT:=St→Hp→(Bool→Hp→Prop)→Prop
noncomputable abbrev TA:=St→Hp→(List V→Hp→Prop)→Prop
structure Ends where
 nx:St→Hp→Prop
 rt:VK
 bk:St→Hp→Prop:=fun _ _=>False
 ct:St→Hp→Prop:=fun _ _=>False
noncomputable abbrev TS:=Ends→St→Hp→Prop
noncomputable def EP (X:Cx) (pins:List (Addr × Obj)) (σ:St) (Q:VK) (u:Value) (s':Shared):Prop:=∃ v H',Inv X pins σ H' s'∧RelV v u∧Q v H'
noncomputable def TP (X:Cx) (pins:List (Addr × Obj)) (σ:St) (Q:Bool→Hp→Prop) (b:Bool) (s':Shared):Prop:=∃ H',Inv X pins σ H' s'∧Q b H'
noncomputable def AP (X:Cx) (pins:List (Addr × Obj)) (σ:St) (Q:List V→Hp→Prop) (us:List Value) (s':Shared):Prop:=∃ vs H',Inv X pins σ H' s'∧Vals vs us∧Q vs H'
noncomputable def SP (X:Cx) (pins:List (Addr × Obj)) (D:Ends) (f:Flow) (s':Shared):Prop :=
 match f with
 | .next=>∃ σ' H',Inv X pins σ' H' s'∧D.nx σ' H'
 | .brk=>∃ σ' H',Inv X pins σ' H' s'∧D.bk σ' H'
 | .cont=>∃ σ' H',Inv X pins σ' H' s'∧D.ct σ' H'
 | .ret u=>∃ v σ' H',Inv X pins σ' H' s'∧RelV v u∧D.rt v H'
noncomputable def PE (X:Cx) (e:Expr) (t:TE):Prop :=
 ∀ (pins:List (Addr × Obj)) (s:Shared) (σ:St) (H:Hp) (Q:VK),Inv X pins σ H s→t σ H Q→wpAny (model X.prog X.w) X.A (eval e X.env) (EP X pins σ Q) X.xe s
noncomputable def PT (X:Cx) (e:Expr) (t:TT):Prop :=
 ∀ (pins:List (Addr × Obj)) (s:Shared) (σ:St) (H:Hp) (Q:Bool→Hp→Prop),Inv X pins σ H s→t σ H Q→wpAny (model X.prog X.w) X.A (isTrue e X.env (eval e X.env)) (TP X pins σ Q) X.xe s
noncomputable def PW (X:Cx) (e:Expr) (t:TT):Prop :=
 ∀ (whole:Sem Value) (pins:List (Addr × Obj)) (s:Shared) (σ:St) (H:Hp) (Q:Bool→Hp→Prop),Inv X pins σ H s→t σ H Q→wpAny (model X.prog X.w) X.A (isTrue e X.env whole) (TP X pins σ Q) X.xe s
theorem PW.pt {X:Cx} {e:Expr} {t:TT} (h:PW X e t):PT X e t:=h _
noncomputable def PA (X:Cx) (es:List Expr) (t:TA):Prop :=
 ∀ (pos:Pos) (pins:List (Addr × Obj)) (s:Shared) (σ:St) (H:Hp) (Q:List V→Hp→Prop),Inv X pins σ H s→t σ H Q→wpAny (model X.prog X.w) X.A (spliced (backTo pos (starEach es X.env))) (AP X pins σ Q) X.xe s
noncomputable def PS (X:Cx) (st:Stmt) (t:TS):Prop :=
 ∀ (pins:List (Addr × Obj)) (s:Shared) (σ:St) (H:Hp) (D:Ends),Inv X pins σ H s→t D σ H→wpAny (model X.prog X.w) X.A (exec st X.env) (SP X pins D) X.xe s
noncomputable def PSs (X:Cx) (st:List Stmt) (t:TS):Prop :=
 ∀ (pins:List (Addr × Obj)) (s:Shared) (σ:St) (H:Hp) (D:Ends),Inv X pins σ H s→t D σ H→wpAny (model X.prog X.w) X.A (execs st X.env) (SP X pins D) X.xe s
theorem thn {α:Type} {t:Sem α} {Q Q':α→Shared→Prop} {M:Model} {A:Around} {E:Value→Shared→Prop} {s:Shared} (h:wpAny M A t Q E s) (hQ:∀ a s,Q a s→Q' a s):wpAny M A t Q' E s:=wpAny_mono h hQ fun _ _ x=>x
section
variable {X:Cx}
noncomputable def tVar (i:Nat):TE:=fun σ H Q=>∃ v,σ[i]?=some (some v)∧Q v H
noncomputable def tC (v:V):TE:=fun _ H Q=>Q v H
theorem c0j {i:Nat} {x:Str} {pos:Pos} (hN:X.N[i]?=some x) (hv:Vis X.env.scope x) (hd:(x == ("__debug__":Str))=false:=by decide) (hcd:(x == ("__classdict__":Str))=false:=by decide):PE X (.Name x pos) (tVar i):=by
 intro pins s σ H Q I h
 obtain⟨v,e,h⟩:=h
 obtain⟨m,hn,hl⟩:=I.loc
 obtain⟨u,r,l⟩:=hl i x v hN e hv
 have fin:EP X pins σ Q u s:=⟨v,H,I,r,h⟩
 rcases l with ⟨hk,hm⟩ | ⟨hk,c,hc,hcell⟩
 ·exact wpAny_Name (wpAny_loadName_local I.ok.kind hk hn hm fin) hd
 ·rcases hk with hk | hk
  ·exact wpAny_Name (wpAny_loadName_cell I.ok.kind hk hc hcell fin) hd
  ·exact wpAny_Name (wpAny_loadName_free I.ok.kind hk hc hcell fin hcd) hd
theorem c0p {i j pos}:PE X (.Constant (.int i) j pos) (tC (.int i)):=fun _ _ _ H _ I h=>wpAny_Constant_int ⟨.int i,H,I.tok _,⟨_,rfl⟩,h⟩
theorem c1W {b j pos}:PE X (.Constant (.bool b) j pos) (tC (.bl b)):=fun _ _ _ H _ I h=>Constant_bool ⟨.bl b,H,I,rfl,h⟩
theorem c0n {j pos}:PE X (.Constant .none j pos) (tC .non):=fun _ _ _ H _ I h=>Constant_none ⟨.non,H,I,rfl,h⟩
theorem c0l {x j pos}:PE X (.Constant (.str x) j pos) (tC (.str x)):=fun _ _ _ H _ I h=>Calls.Constant_str ⟨.str x,H,I.tok _,⟨_,rfl⟩,h⟩
noncomputable def Gl (X:Cx) (x:Str):Prop:=X.env.kindOf x=some .globalImplicit
theorem b4D {E:Value→Shared→Prop} {pins:List (Addr × Obj)} {s:Shared} {σ:St} {H:Hp} {x:Str} {u:Value} {pos:Pos} {Q:Value→Shared→Prop} (I:Inv X pins σ H s) (hg:Gl X x) (hm:X.mg x=some u) (h:Q u s)
  (hd:(x == ("__debug__":Str))=false:=by decide):wpAny (model X.prog X.w) X.A (eval (.Name x pos) X.env) Q E s :=
 Calls.Name_function_global I.ok.kind hg (Calls.loadGlobal_global (by rw[I.ok.glob];exact I.mod.glob.keeps I.bk) hm h) hd
theorem a6h {E:Value→Shared→Prop} {pins:List (Addr × Obj)} {s:Shared} {σ:St} {H:Hp} {x:Str} {u:Value} {pos:Pos} {Q:Value→Shared→Prop} (I:Inv X pins σ H s) (hg:Gl X x) (hm:X.mg x=none) (hv:bootBuiltins x=some u) (h:Q u s)
  (hn:x≠"__name__":=by decide) (hd:(x == ("__debug__":Str))=false:=by decide):wpAny (model X.prog X.w) X.A (eval (.Name x pos) X.env) Q E s:=by
 obtain⟨mb,h1,h2⟩:=I.mod.blt
 exact Calls.Name_function_global I.ok.kind hg (Calls.loadGlobal_builtin (by rw[I.ok.glob];exact I.mod.glob.keeps I.bk) hm (by rw[I.ok.blt];exact h1.keeps I.bk) ((h2 x hn).trans hv) h) hd
theorem a8r {x:Str} {v:V} {u:Value} {pos:Pos} (hg:Gl X x) (hm:X.mg x=some u) (r:RelV v u) (hd:(x == ("__debug__":Str))=false:=by decide):PE X (.Name x pos) (tC v) :=
 fun _ _ _ H _ I h=>b4D I hg hm ⟨v,H,I,r,h⟩ hd
variable {a b:Expr} {ta tb:TE} {pos:Pos}
variable {tA tB':TT} {rest:List Expr}
noncomputable def tAnd (t u:TT):TT:=fun σ H Q=>t σ H fun c H1=>if c=true then u σ H1 Q else Q false H1
noncomputable def tOr (t u:TT):TT:=fun σ H Q=>t σ H fun c H1=>if c=true then Q true H1 else u σ H1 Q
noncomputable def tNot (t:TT):TT:=fun σ H Q=>t σ H fun c H1=>Q (!c) H1
theorem b8b (ha:PT X a tA):PW X (.BoolOp .And [a] pos) tA:=by
 intro wh pins s σ H Q I h
 refine isTrue_and (thn (ha pins s σ H Q I h) fun c s1 e=>?_)
 cases c with
 | true=>exact isTrue_and_nil e
 | false=>exact e
theorem c0a (ha:PT X a tA):PW X (.BoolOp .Or [a] pos) tA:=by
 intro wh pins s σ H Q I h
 refine isTrue_or (thn (ha pins s σ H Q I h) fun c s1 e=>?_)
 cases c with
 | false=>exact isTrue_or_nil e
 | true=>exact e
theorem c0b (ha:PT X a tA) (hb:PW X (.BoolOp .And (b :: rest) pos) tB'):PW X (.BoolOp .And (a :: b :: rest) pos) (tAnd tA tB'):=by
 intro wh pins s σ H Q I h
 refine isTrue_and (thn (ha pins s σ H _ I h) fun c s1 ⟨H1,I1,q1⟩=>?_)
 cases c with
 | true=>exact hb wh pins s1 σ H1 Q I1 q1
 | false=>exact⟨H1,I1,q1⟩
theorem c1P (ha:PT X a tA) (hb:PW X (.BoolOp .Or (b :: rest) pos) tB'):PW X (.BoolOp .Or (a :: b :: rest) pos) (tOr tA tB'):=by
 intro wh pins s σ H Q I h
 refine isTrue_or (thn (ha pins s σ H _ I h) fun c s1 ⟨H1,I1,q1⟩=>?_)
 cases c with
 | true=>exact⟨H1,I1,q1⟩
 | false=>exact hb wh pins s1 σ H1 Q I1 q1
theorem c0c (ha:PT X a tA):PT X (.UnaryOp .Not a pos) (tNot tA):=by
 intro pins s σ H Q I h
 exact isTrue_not (ha pins s σ H (fun c H1=>Q (!c) H1) I h)
noncomputable def c1E (ta tb:TE):TE:=fun σ H Q=>ta σ H fun x H1=>∃ c,x=.bl c∧if c=true then tb σ H1 Q else Q (.bl false) H1
noncomputable def tOrV (ta tb:TE):TE:=fun σ H Q=>ta σ H fun x H1=>∃ c,x=.bl c∧if c=true then Q (.bl true) H1 else tb σ H1 Q
theorem c0m {op} {t:TE} (h:PE X a t):PE X (.BoolOp op [a] pos) t:=fun pins s σ H Q I hw=>BoolOp_one (h pins s σ H Q I hw)
theorem c0q (ha:PE X a ta) (hb:PE X (.BoolOp .And (b :: rest) pos) tb):PE X (.BoolOp .And (a :: b :: rest) pos) (c1E ta tb):=by
 intro pins s σ H Q I h
 refine BoolOp_and (thn (ha pins s σ H _ I h) fun v s1 ⟨x,H1,I1,r1,q1⟩=>?_)
 obtain⟨c,rfl,q1⟩:=q1
 cases r1
 refine wpAny_truthy_bool ?_
 cases c with
 | true=>exact hb pins s1 σ H1 Q I1 q1
 | false=>exact⟨.bl false,H1,I1,rfl,q1⟩
theorem c1S (ha:PE X a ta) (hb:PE X (.BoolOp .Or (b :: rest) pos) tb):PE X (.BoolOp .Or (a :: b :: rest) pos) (tOrV ta tb):=by
 intro pins s σ H Q I h
 refine BoolOp_or (thn (ha pins s σ H _ I h) fun v s1 ⟨x,H1,I1,r1,q1⟩=>?_)
 obtain⟨c,rfl,q1⟩:=q1
 cases r1
 refine wpAny_truthy_bool ?_
 cases c with
 | false=>exact hb pins s1 σ H1 Q I1 q1
 | true=>exact⟨.bl true,H1,I1,rfl,q1⟩
noncomputable def tIf (t:TT) (ta tb:TE):TE:=fun σ H Q=>t σ H fun c H1=>if c=true then ta σ H1 Q else tb σ H1 Q
theorem b5Y {c:Expr} (hc:PT X c tA) (ha:PE X a ta) (hb:PE X b tb):PE X (.IfExp c a b pos) (tIf tA ta tb):=by
 intro pins s σ H Q I h
 refine wpAny_IfExp (thn (hc pins s σ H _ I h) fun d s1 ⟨H1,I1,q1⟩=>?_)
 cases d with
 | true=>exact ha pins s1 σ H1 Q I1 q1
 | false=>exact hb pins s1 σ H1 Q I1 q1
end
noncomputable def SqL (K:PySem.W.Frag) (H:Hp) (a:Addr) (xs:List V):Prop :=
 Rd H a (.lst xs) ∨
  ∃ (o:Obj) (its:Array Value) (n:Nat),K.lookup a=some o∧o.cls=.type "list"∧o.dict=none∧o.data=.seq its n∧its.size≤sizeLine∧Vals xs its.toList
noncomputable def SqT (K:PySem.W.Frag) (H:Hp) (a:Addr) (xs:List V):Prop :=
 Rd H a (.tup xs) ∨
  ∃ (o:Obj) (its:Array Value) (n:Nat),K.lookup a=some o∧o.cls=.type "tuple"∧o.dict=none∧o.data=.seq its n∧its.size≤sizeLine∧Vals xs its.toList
noncomputable def absV:Value→Option V
 | .none=>some .non
 | .bool b=>some (.bl b)
 | .int i _=>some (.int i)
 | .str x _=>some (.str x)
 | .bytes b _=>some (.byt b)
 | .float b _=>some (.flt b)
 | .ref a=>some (.ref a)
 | .type n=>some (.ty n)
 | _=>none
theorem RelV.abs {x:V} {u:Value} (r:RelV x u):absV u=some x:=by
 cases x with
 | non=>cases r;rfl
 | bl _=>cases r;rfl
 | int _=>obtain⟨t,rfl⟩:=r;rfl
 | str _=>obtain⟨t,rfl⟩:=r;rfl
 | byt _=>obtain⟨t,rfl⟩:=r;rfl
 | flt _=>obtain⟨t,rfl⟩:=r;rfl
 | ref _=>cases r;rfl
 | ty _=>cases r;rfl
theorem RelV.inj {x y:V} {u:Value} (r:RelV x u) (q:RelV y u):x=y:=Option.some.inj (r.abs.symm.trans q.abs)
theorem Vals.inj:∀ {xs ys:List V} {us:List Value},Vals xs us→Vals ys us→xs=ys
 | _,_,_,.nil,.nil=>rfl
 | _,_,_,.cons r t,.cons r' t'=>by rw[r.inj r',Vals.inj t t']
section
variable {X:Cx} {pins:List (Addr × Obj)} {σ:St} {H:Hp} {s:Shared} {a:Addr} {xs ys:List V}
theorem SqL.of {K:PySem.W.Frag} (h:H a=some (.lst xs)):SqL K H a xs:=.inl (.inl h)
theorem SqT.of {K:PySem.W.Frag} (h:H a=some (.tup xs)):SqT K H a xs:=.inl (.inl h)
theorem Inv.list (I:Inv X pins σ H s) (h:SqL X.K H a xs):∃ its:List Value,Vals xs its∧PlainL s.heap a its.toArray∧xs.length≤sizeLine:=by
 rcases h with h | ⟨o,its,n,hk,hc,hd,hs,hz,r⟩
 ·obtain⟨z,its,n,r,e⟩:=h.ok I.hok
  exact⟨its,r,⟨_,n,e,rfl,rfl,rfl⟩,z⟩
 ·refine⟨its.toList,r,⟨o,n,I.kIn a o hk,hc,hd,by simpa using hs⟩,?_⟩
  have e:=r.length
  simp only[Array.length_toList] at e
  lia
theorem Inv.tuple (I:Inv X pins σ H s) (h:SqT X.K H a xs):∃ its:List Value,Vals xs its∧IsTup s.heap a its.toArray∧xs.length≤sizeLine:=by
 rcases h with h | ⟨o,its,n,hk,hc,hd,hs,hz,r⟩
 ·obtain⟨z,its,r,p⟩:=h.ok I.hok
  exact⟨its,r,p.t,z⟩
 ·refine⟨its.toList,r,⟨o,I.kIn a o hk,hc,n,by simpa using hs⟩,?_⟩
  have e:=r.length
  simp only[Array.length_toList] at e
  lia
theorem Inv.tuple0 (I:Inv X pins σ H s) (h:SqT X.K H a xs):∃ its:List Value,Vals xs its∧a2R s.heap a its.toArray∧xs.length≤sizeLine:=by
 rcases h with h | ⟨o,its,n,hk,hc,hd,hs,hz,r⟩
 ·obtain⟨z,its,r,p⟩:=h.ok I.hok
  exact⟨its,r,p,z⟩
 ·refine⟨its.toList,r,⟨o,I.kIn a o hk,hc,hd,n,by simpa using hs⟩,?_⟩
  have e:=r.length
  simp only[Array.length_toList] at e
  lia
theorem Inv.list_inj (I:Inv X pins σ H s) (h:SqL X.K H a xs) (h':SqL X.K H a ys):xs=ys:=by
 obtain⟨its,r,⟨o,n,e,_,_,d⟩,_⟩:=I.list h
 obtain⟨its',r',⟨o',n',e',_,_,d'⟩,_⟩:=I.list h'
 rw[e] at e';cases e'
 rw[d] at d'
 injection d' with d1 _
 have:its=its':=by simpa using congrArg Array.toList d1
 subst this
 exact r.inj r'
theorem Inv.tuple_inj (I:Inv X pins σ H s) (h:SqT X.K H a xs) (h':SqT X.K H a ys):xs=ys:=by
 obtain⟨its,r,⟨o,e,_,n,d⟩,_⟩:=I.tuple h
 obtain⟨its',r',⟨o',e',_,n',d'⟩,_⟩:=I.tuple h'
 rw[e] at e';cases e'
 rw[d] at d'
 injection d' with d1 _
 have:its=its':=by simpa using congrArg Array.toList d1
 subst this
 exact r.inj r'
end
noncomputable abbrev Cx.wish (X:Cx) (E:Value→Shared→Prop):Cx:={ X with xe:=E }
noncomputable abbrev Cx.nox (X:Cx):Cx:=X.wish fun _ _=>False
theorem Cx.Ok.wish {X:Cx} (ok:X.Ok) (E:Value→Shared→Prop):(X.wish E).Ok :=
 ⟨ok.mod,ok.kind,ok.glob,ok.blt,ok.above,ok.inj,ok.has,ok.cab,ok.hd,ok.frames,ok.stk,ok.exf,ok.bs,ok.bsz,ok.noex,ok.exfs,ok.funs,ok.frf⟩
theorem Cx.Ok.unwish {X:Cx} {E:Value→Shared→Prop} (ok:(X.wish E).Ok):X.Ok :=
 ⟨ok.mod,ok.kind,ok.glob,ok.blt,ok.above,ok.inj,ok.has,ok.cab,ok.hd,ok.frames,ok.stk,ok.exf,ok.bs,ok.bsz,ok.noex,ok.exfs,ok.funs,ok.frf⟩
section
variable {X:Cx} {pins:List (Addr × Obj)} {σ:St} {H:Hp} {s:Shared} {E:Value→Shared→Prop}
theorem Inv.wish (I:Inv X pins σ H s) (E:Value→Shared→Prop):Inv (X.wish E) pins σ H s:=⟨I.ok.wish E,I.os,I.bare,I.base,I.loc,I.cell,I.free,I.freeC,I.pin,I.hok,I.len⟩
theorem Inv.unwish (I:Inv (X.wish E) pins σ H s):Inv X pins σ H s:=⟨I.ok.unwish,I.os,I.bare,I.base,I.loc,I.cell,I.free,I.freeC,I.pin,I.hok,I.len⟩
theorem SP.unwish {D:Ends} {f:Flow} {s':Shared} (h:SP (X.wish E) pins D f s'):SP X pins D f s':=by
 cases f with
 | next=>obtain⟨σ',H',I,q⟩:=h;exact⟨σ',H',I.unwish,q⟩
 | brk=>obtain⟨σ',H',I,q⟩:=h;exact⟨σ',H',I.unwish,q⟩
 | cont=>obtain⟨σ',H',I,q⟩:=h;exact⟨σ',H',I.unwish,q⟩
 | ret u=>obtain⟨v,σ',H',I,r,q⟩:=h;exact⟨v,σ',H',I.unwish,r,q⟩
theorem PSs.nox {st:List Stmt} {t:TS} (h:PSs X.nox st t):PSs X st t:=fun pins s σ H D I hw =>
 wpAny_mono (h pins s σ H D (I.wish _) hw) (fun _ _ q=>q.unwish) fun _ _ z=>False.elim z
end
section
variable {X:Cx} {st:Stmt} {rest:List Stmt} {t u:TS} {e:Expr} {te:TE} {pos:Pos}
noncomputable def c1z:TS:=fun D σ H=>D.nx σ H
noncomputable def tSeq (t u:TS):TS:=fun D σ H=>t { D with nx:=u D } σ H
theorem b8g:PSs X [] c1z:=fun _ _ σ H _ I h=>wpAny_execs_nil ⟨σ,H,I,h⟩
theorem b5U (h1:PS X st t) (h2:PSs X rest u):PSs X (st :: rest) (tSeq t u):=by
 intro pins s σ H D I h
 refine wpAny_execs_cons (thn (h1 pins s σ H { D with nx:=u D } I h) fun f s1 q=>?_)
 cases f with
 | next =>
   obtain⟨σ',H',I',q⟩:=q
   exact h2 pins s1 σ' H' D I' q
 | ret v=>exact q
 | brk=>exact q
 | cont=>exact q
theorem b8f (h1:PS X st t):PSs X [st] t:=by
 intro pins s σ H D I h
 refine wpAny_execs_cons (thn (h1 pins s σ H D I h) fun f s1 q=>?_)
 cases f with
 | next=>exact wpAny_execs_nil q
 | ret v=>exact q
 | brk=>exact q
 | cont=>exact q
theorem Inv.quiet {pins:List (Addr × Obj)} {σ:St} {H:Hp} {s:Shared} (I:Inv X pins σ H s):interactive X.env=false:=by simp [interactive,I.ok.kind]
noncomputable def c1A (te:TE):TS:=fun D σ H=>te σ H fun _ H1=>D.nx σ H1
theorem b8i (he:PE X e te) (hs:swapsWith e none pos.line X.env=pure false:=by rfl):PS X (.Expr e pos) (c1A te):=by
 intro pins s σ H D I h
 exact wpAny_Expr_any (thn (he pins s σ H _ I h) fun v s1 ⟨x,H1,I1,r1,q1⟩=>⟨σ,H1,I1,q1⟩) I.quiet hs
noncomputable def tRet (te:TE):TS:=fun D σ H=>te σ H D.rt
theorem c0e (he:PE X e te):PS X (.Return (some e) pos) (tRet te):=by
 intro pins s σ H D I h
 exact wpAny_Return_some (thn (he pins s σ H _ I h) fun v s1 ⟨x,H1,I1,r1,q1⟩=>⟨x,σ,H1,I1,r1,q1⟩)
noncomputable def tIfS (c:TT) (t u:TS):TS:=fun D σ H=>c σ H fun b H1=>if b=true then t D σ H1 else u D σ H1
theorem c1Q {c:Expr} {a b:List Stmt} {tc:TT} (hc:PT X c tc) (ha:PSs X a t) (hb:PSs X b u):PS X (.If c a b pos) (tIfS tc t u):=by
 intro pins s σ H D I h
 refine wpAny_If (thn (hc pins s σ H _ I h) fun d s1 ⟨H1,I1,q1⟩=>?_)
 cases d with
 | true=>exact ha pins s1 σ H1 D I1 q1
 | false=>exact hb pins s1 σ H1 D I1 q1
end
noncomputable abbrev TG:=V→St→Hp→(St→Hp→Prop)→Prop
noncomputable abbrev TGs:=List V→St→Hp→(St→Hp→Prop)→Prop
noncomputable def PG (X:Cx) (target:Expr) (t:TG):Prop :=
 ∀ (pins:List (Addr × Obj)) (s:Shared) (σ:St) (H:Hp) (v:V) (u:Value) (Q:St→Hp→Prop),Inv X pins σ H s→RelV v u→t v σ H Q →
   wpAny (model X.prog X.w) X.A (assign target X.env u) (fun _ s'=>∃ σ' H',Inv X pins σ' H' s'∧Q σ' H') X.xe s
noncomputable def PGs (X:Cx) (ts:List Expr) (t:TGs):Prop :=
 ∀ (pins:List (Addr × Obj)) (s:Shared) (σ:St) (H:Hp) (vs:List V) (us:List Value) (Q:St→Hp→Prop),Inv X pins σ H s→Vals vs us→t vs σ H Q →
   wpAny (model X.prog X.w) X.A (assignInOrder ((assignEach ts X.env).map (·.2)) us) (fun _ s'=>∃ σ' H',Inv X pins σ' H' s'∧Q σ' H') X.xe s
noncomputable abbrev TSet:=V→V→V→Hp→(Hp→Prop)→Prop
noncomputable def PSet (X:Cx) (t:TSet):Prop :=
 ∀ (pins:List (Addr × Obj)) (s:Shared) (σ:St) (H:Hp) (o i v:V) (ov iv u:Value) (Q:Hp→Prop),Inv X pins σ H s→RelV o ov→RelV i iv→RelV v u→t o i v H Q →
   wpAny (model X.prog X.w) X.A (setItem ov iv u) (fun _ s'=>∃ H',Inv X pins σ H' s'∧Q H') X.xe s
noncomputable abbrev TIp:=V→V→Hp→VK→Prop
noncomputable def PIp (X:Cx) (op:Operator) (t:TIp):Prop :=
 ∀ (pins:List (Addr × Obj)) (s:Shared) (σ:St) (H:Hp) (x y:V) (v u:Value) (Q:VK),Inv X pins σ H s→RelV x v→RelV y u→t x y H Q →
   wpAny (model X.prog X.w) X.A (inplaceOp op v u) (EP X pins σ Q) X.xe s
section
variable {X:Cx} {pos:Pos}
noncomputable def a9Y (i:Nat):TG:=fun v σ H Q=>Q (σ.set i (some v)) H
theorem a1T {i:Nat} {x:Str} (hN:X.N.Nodup) (hi:X.N[i]?=some x) (hx:Loc X.env.scope x) (hf:X.fn x=true∨X.env.scope.names.lookup x=some .local:=by first | exact .inl rfl | exact .inr rfl | assumption):PG X (.Name x pos) (a9Y i):=by
 intro pins s σ H v u Q I r h
 exact wpAny_assign_Name (a8c I hN hi hx r (fun s' I'=>⟨_,H,I',h⟩) hf)
noncomputable def gNil:TGs:=fun vs σ H Q=>vs=[]∧Q σ H
noncomputable def b6x (t:TG) (u:TGs):TGs:=fun vs σ H Q=>∃ v r,vs=v :: r∧t v σ H fun σ' H'=>u r σ' H' Q
theorem a8q:PGs X [] gNil:=by
 intro pins s σ H vs us Q I r h
 obtain⟨e,h⟩:=h
 subst e
 cases r
 exact assignInOrder_nil ⟨σ,H,I,h⟩
theorem a3S {e:Expr} {es:List Expr} {t:TG} {u:TGs} (h1:PG X e t) (h2:PGs X es u)
  (hs:(assignEach (e :: es) X.env).map (·.2)=assign e X.env :: (assignEach es X.env).map (·.2):=by rfl):PGs X (e :: es) (b6x t u):=by
 intro pins s σ H vs us Q I r h
 obtain⟨v,vr,e1,h⟩:=h
 subst e1
 cases r with
 | cons r rr =>
   rw[hs]
   refine assignInOrder_cons (thn (h1 pins s σ H _ _ _ I r h) fun _ s1 ⟨σ1,H1,I1,q1⟩=>?_)
   exact h2 pins s1 σ1 H1 _ _ Q I1 rr q1
noncomputable def gTup (K:PySem.W.Frag) (n:Nat) (t:TGs):TG:=fun v σ H Q=>∃ a xs,v=.ref a∧SqT K H a xs∧xs.length=n∧t xs σ H Q
theorem b1I {es:List Expr} {k:Nat} {t:TGs} {n:Nat} (hc:X.calm=true) (h:PGs X es t)
  (hn:(assignEach es X.env).length=n:=by rfl) (hst:(assignEach es X.env).findIdx? (·.1)=none:=by rfl):PG X (.Tuple es k pos) (gTup X.K n t):=by
 intro pins s σ H v u Q I r hw
 obtain⟨a,xs,e1,hq,hl,hw⟩:=hw
 subst e1
 cases r
 obtain⟨its,rv,ht,hz⟩:=I.tuple hq
 refine assign_Tuple_tuple (I.ok.hd hc) ht (by simp [hn,← hl,rv.length]) hst fun h' hx=>?_
 have I1:Inv X pins σ H { s with heap:=h' }:=I.kept (t':=s.toks) fun b o e=>hx b o (Nat.ne_of_lt (Heap.lt_size e)) e
 exact h pins _ σ H xs _ Q I1 (by simpa using rv) hw
noncomputable def gSub (to ti:TE) (t:TSet):TG:=fun v σ H Q=>to σ H fun o H1=>ti σ H1 fun i H2=>t o i v H2 fun H3=>Q σ H3
theorem c0i {o i:Expr} {to ti:TE} {t:TSet} (ho:PE X o to) (hi:PE X i ti) (hs:PSet X t)
  (ha:∀ v,assign (.Subscript o i pos) X.env v=(do
   let ov ← holding [v] (eval o X.env)
   let iv ← holding [v,ov] (eval i X.env)
   standAt pos
   holding [v,ov,iv] (setItem ov iv v)
   release [v,ov,iv] []):=by intro _;rfl):PG X (.Subscript o i pos) (gSub to ti t):=by
 intro pins s σ H v u Q I r h
 rw[ha]
 refine wpAny_bind (wpAny_holding (thn (ho pins s σ H _ I h) fun ov s1 ⟨x,H1,I1,r1,q1⟩=>?_))
 refine wpAny_bind (wpAny_holding (thn (hi pins s1 σ H1 _ I1 q1) fun iv s2 ⟨y,H2,I2,r2,q2⟩=>?_))
 refine wpAny_bind (wpAny_standAt (wpAny_bind (wpAny_holding (thn (hs pins s2 σ H2 x y v ov iv u _ I2 r1 r2 r q2) fun _ s3 ⟨H3,I3,q3⟩=>?_))))
 exact wpAny_release ⟨σ,H3,I3,q3⟩
noncomputable def tAsg (te:TE) (g:TG):TS:=fun D σ H=>te σ H fun x H1=>g x σ H1 D.nx
theorem c0h {tg e:Expr} {te:TE} {g:TG} (he:PE X e te) (hg:PG X tg g) (hs:swapsWithSole [tg] e pos.line X.env=pure false:=by rfl) (hw:swappedStores [tg] e X.env=pure none:=by rfl)
  (h1:(assignEach [tg] X.env).map (·.2)=[assign tg X.env]:=by rfl):PS X (.Assign [tg] e pos) (tAsg te g):=by
 intro pins s σ H D I h
 refine wpAny_Assign_stores (thn (he pins s σ H _ I h) fun v s1 ⟨x,H1,I1,r1,q1⟩=>?_) hs hw
 rw[h1]
 exact thn (hg pins s1 σ H1 x v _ I1 r1 q1) fun _ s2 q=>q
theorem c0d {i:Nat} {x:Str} {e:Expr} {te:TE} {pos':Pos} (hN:X.N.Nodup) (hi:X.N[i]?=some x) (hx:Loc X.env.scope x) (he:PE X e te) (hs:swapsWith e (some (.Name x pos')) pos.line X.env=pure false:=by rfl) (hf:X.fn x=true∨X.env.scope.names.lookup x=some .local:=by first | exact .inl rfl | exact .inr rfl | assumption) :
  PS X (.Assign [.Name x pos'] e pos) (tAsg te (a9Y i)):=by
 intro pins s σ H D I h
 refine wpAny_Assign_Name (thn (he pins s σ H _ I h) fun v s1 ⟨y,H1,I1,r1,q1⟩=>?_) hs
 exact a8c I1 hN hi hx r1 (fun s2 I2=>⟨_,H1,I2,q1⟩) hf
noncomputable def tAug (i:Nat) (te:TE) (ti:TIp):TS:=fun D σ H=>∃ x,σ[i]?=some (some x)∧te σ H fun y H1=>ti x y H1 fun z H2=>D.nx (σ.set i (some z)) H2
theorem c0g {i:Nat} {x:Str} {e:Expr} {te:TE} {op:Operator} {ti:TIp} {pos':Pos} (hN:X.N.Nodup) (hi:X.N[i]?=some x) (hx:Loc X.env.scope x) (he:PE X e te) (ho:PIp X op ti) (hf:X.fn x=true∨X.env.scope.names.lookup x=some .local:=by first | exact .inl rfl | exact .inr rfl | assumption) :
  PS X (.AugAssign (.Name x pos') op e pos) (tAug i te ti):=by
 intro pins s σ H D I h
 obtain⟨v,e1,h⟩:=h
 obtain⟨m,hn,hl⟩:=I.loc
 have vis:Vis X.env.scope x:=by rcases hx with k | k;exact .inl k;exact .inr (.inl k)
 obtain⟨u,r,l⟩:=hl i x v hi e1 vis
 refine wpAny_AugAssign_Name ?_
 have go:wpAny (model X.prog X.w) X.A (eval e X.env) (fun w s₂=>wpAny (model X.prog X.w) X.A (inplaceOp op u w) (fun r s₃=>wpAny (model X.prog X.w) X.A (storeName X.env x r) (fun _=>SP X pins D .next) X.xe s₃) X.xe s₂) X.xe s:=by
  refine thn (he pins s σ H _ I h) fun w s1 ⟨y,H1,I1,r1,q1⟩=>?_
  refine thn (ho pins s1 σ H1 v y u w _ I1 r r1 q1) fun z s2 ⟨zv,H2,I2,r2,q2⟩=>?_
  exact a8c I2 hN hi hx r2 (fun s3 I3=>⟨_,H2,I3,q2⟩) hf
 rcases l with ⟨hk,hm⟩ | ⟨hk,c,hc,hcell⟩
 ·exact wpAny_loadName_local I.ok.kind hk hn hm go
 ·rcases hk with hk | hk
  ·exact wpAny_loadName_cell I.ok.kind hk hc hcell go
  ·rcases hx with k | k
   ·have:X.env.scope.names.lookup x=some .free:=hk
    rw[k] at this;cases this
   ·have:X.env.scope.names.lookup x=some .free:=hk
    rw[k] at this;cases this
noncomputable def ipI (f:Int→Int→Int):TIp:=fun x y H Q=>∃ i j,x=.int i∧y=.int j∧Q (.int (f i j)) H
theorem c0S:PIp X .Add (ipI fun i j=>i+j):=by
 intro pins s σ H x y v u Q I r1 r2 h
 obtain⟨i,j,e1,e2,q⟩:=h
 subst e1;subst e2
 obtain⟨t,rfl⟩:=r1
 obtain⟨t',rfl⟩:=r2
 exact iadd_int ⟨.int _,H,I.tok _,⟨_,rfl⟩,q⟩
end
section
variable {X:Cx} {pos:Pos}
end
structure It where
 go:Nat→Hp→Prop
 yld:Nat→Hp→V→Hp→Prop
 stop:Nat→Hp→Prop
noncomputable def FpOk (X:Cx) (pins:List (Addr × Obj)) (H:Hp) (b:Addr):Prop :=
 H b=none∧b≠X.env.locals∧b ∉ X.fs∧(b∈X.ex∨X.s₀.heap.objs.size≤b)∧(∀ x c,X.env.cells.lookup x=some c→c≠b)∧∀ p∈X.pn++pins,p.1≠b
theorem Inv.fpOk {X:Cx} {pins:List (Addr × Obj)} {σ:St} {H H':Hp} {s:Shared} {b:Addr} (I:Inv X pins σ H s) (hb:s.heap.objs.size≤b) (hn:H' b=none):FpOk X pins H' b:=by
 refine⟨hn,Nat.ne_of_gt (Nat.lt_of_lt_of_le I.lt hb),I.nofs hb,.inr (Nat.le_trans I.sz hb),fun x c e z=>?_,fun p hp z=>?_⟩
 ·obtain⟨v,q⟩:=I.cell x c e
  exact absurd (Nat.lt_of_lt_of_le q.lt (by rw[z];exact hb)) (Nat.lt_irrefl _)
 ·exact absurd (Nat.lt_of_lt_of_le (Heap.lt_size (I.pin p hp).1) (by rw[z];exact hb)) (Nat.lt_irrefl _)
structure Turn (P:Program) (w:World) (K:PySem.W.Frag) (tg:Expr) (J:It) (fp:List Addr) (it:Addr) (tn:Nat→Heap→Prop):Prop where
 mem:it∈fp
 obj:∀ i h,tn i h→∀ b∈fp,∃ o,h.get? b=some o∧∀ v,o.data≠.cell v
 keep:∀ i h h',tn i h→(∀ b∈fp,∀ o,h.get? b=some o→h'.get? b=some o)→tn i h'
 item:∀ (X:Cx),X.prog=P→X.w=w→X.K=K→X.calm=true→∀ (i:Nat) (pins:List (Addr × Obj)) (s:Shared) (σ:St) (H:Hp) (E:Value→Shared→Prop),Inv X pins σ H s→(∀ b∈fp,FpOk X pins H b)→tn i s.heap→J.go i H →
  wpAny (model P w) X.A (pyNext (.ref it)) (fun r s1=>∃ u,r=some u ∧
   wpAny (model P w) X.A (letOwnedTupleGo tg (.ref it) u) (fun _ s2=>∃ x H',Inv X pins σ H' s2∧RelV x u∧J.yld i H x H'∧tn (i+1) s2.heap∧∀ b∈fp,H' b=none) E s1) E s
 done:∀ (X:Cx),X.prog=P→X.w=w→X.K=K→X.calm=true→∀ (i:Nat) (pins:List (Addr × Obj)) (s:Shared) (σ:St) (H:Hp) (E:Value→Shared→Prop),Inv X pins σ H s→(∀ b∈fp,FpOk X pins H b)→tn i s.heap→J.stop i H →
  wpAny (model P w) X.A (pyNext (.ref it)) (fun r s1=>r=none∧Inv X pins σ H s1) E s
 self:∀ (A:Around) (i:Nat) (s:Shared) (Q:Value→Shared→Prop) (E:Value→Shared→Prop),tn i s.heap→Q (.ref it) s→wpAny (model P w) A (pyIter (.ref it)) Q E s
noncomputable abbrev TI:=St→Hp→(It→Hp→Prop)→Prop
noncomputable def PIE (X:Cx) (pins:List (Addr × Obj)) (σ:St) (tg:Expr) (R:It→Hp→Prop) (itv:Value) (s2:Shared):Prop :=
 ∃ (it:Addr) (fp:List Addr) (tn:Nat→Heap→Prop) (J:It) (H':Hp),itv=.ref it∧Inv X pins σ H' s2∧Turn X.prog X.w X.K tg J fp it tn∧tn 0 s2.heap∧(∀ b∈fp,FpOk X pins H' b)∧R J H'
noncomputable def PI (X:Cx) (tg iter:Expr) (wi:TI):Prop :=
 ∀ (pins:List (Addr × Obj)) (s:Shared) (σ:St) (H:Hp) (R:It→Hp→Prop),Inv X pins σ H s→wi σ H R →
   wpAny (model X.prog X.w) X.A (eval iter X.env) (fun v s1=>wpAny (model X.prog X.w) X.A (pyIter v) (PIE X pins σ tg R) X.xe s1) X.xe s
theorem b8Q {M:Model} {A:Around} {E:Value→Shared→Prop} {s:Shared} {tg:Expr} {it:Addr} {u:Value} {o:Obj} {n:String} {vs:Array Value} {Q:Unit→Shared→Prop} (ho:s.heap.get? it=some o) (hc:o.cls=.type n) (hd:o.data=.fields vs)
  (hn:["enumerate","zip","dict_itemiterator","dict_reverseitemiterator","odict_iterator","itertools.zip_longest","itertools.pairwise"].contains n=false) (hQ:Q () s):wpAny M A (letOwnedTupleGo tg (.ref it) u) Q E s:=by
 unfold letOwnedTupleGo
 cases tg<;>first
  | exact wpAny_pure hQ
  | (cases u<;>first
    | exact wpAny_pure hQ
    | (refine wpAny_bind (wpAny_load ho ?_)
       rw[hc,hd]
       show wpAny M A (if (["enumerate","zip","dict_itemiterator","dict_reverseitemiterator","odict_iterator","itertools.zip_longest","itertools.pairwise"].contains n && vs[0]? == some (rawInt _))=true then _ else _) Q E s
       rw[if_neg (by intro h;rw[hn,Bool.false_and] at h;cases h)]
       exact wpAny_pure hQ))
noncomputable def Itl (K:PySem.W.Frag) (a:Addr):It :=
 ⟨fun i H=>∃ xs x,SqL K H a xs∧xs[i]?=some x,fun i H x H'=>H'=H∧∀ xs,SqL K H a xs→xs[i]?=some x,fun i H=>∃ xs,SqL K H a xs∧xs.length≤i⟩
noncomputable def Itt (K:PySem.W.Frag) (a:Addr):It :=
 ⟨fun i H=>∃ xs x,SqT K H a xs∧xs[i]?=some x,fun i H x H'=>H'=H∧∀ xs,SqT K H a xs→xs[i]?=some x,fun i H=>∃ xs,SqT K H a xs∧xs.length≤i⟩
noncomputable def Itr (lo:Int) (n:Nat):It:=⟨fun i _=>i < n,fun i H x H'=>H'=H∧x=.int (lo+i),fun i _=>n≤i⟩
theorem b3w {P:Program} {w:World} {K:PySem.W.Frag} {tg:Expr} (a it:Addr):Turn P w K tg (Itl K a) [it] it (fun i h=>h.IsListIter it a i) where
 mem:=by simp
 obj:=fun i h st b hb=>by
  have e:b=it:=by simpa using hb
  subst e
  obtain⟨o,e,c,d⟩:=st
  exact⟨o,e,fun v z=>by rw[d] at z;cases z⟩
 keep:=fun i h h' st k=>st.at fun o e=>k it (by simp) o e
 item:=by
  intro X hP hw hK hc i pins s σ H E I hf st hg
  subst hP hw hK
  obtain⟨xs,x,hq,hx⟩:=hg
  obtain⟨its,rv,p,hz⟩:=I.list hq
  obtain⟨u,hu,ru⟩:=rv.get hx
  obtain⟨f0,f1,f2,f3,f4,f5⟩:=hf it (by simp)
  refine wpAny_pyNext_list_item st p.isList (x:=u) (by simpa using hu) fun h' st' sb=>?_
  have I1:Inv X pins σ H { s with heap:=h' }:=I.turned (t':=s.toks) (fun b o hb e=>(sb.2 b hb).trans e) f0 f1 f3 f4 f5
  obtain⟨o,e,c,d⟩:=id st'
  exact⟨u,rfl,b8Q (s:={ s with heap:=h' }) e c d (by decide) ⟨x,H,I1,ru,⟨rfl,fun ys hy=>by rw[I.list_inj hy hq];exact hx⟩,st',fun b hb=>(hf b hb).1⟩⟩
 done:=by
  intro X hP hw hK hc i pins s σ H E I hf st hg
  subst hP hw hK
  obtain⟨xs,hq,hx⟩:=hg
  obtain⟨its,rv,p,hz⟩:=I.list hq
  obtain⟨f0,f1,f2,f3,f4,f5⟩:=hf it (by simp)
  have hl:=rv.length
  exact wpAny_pyNext_list_end (I.ok.hd hc) st p.isList (by simp;lia) fun h' eb=>⟨rfl,I.turned (t':=s.toks) (fun b o hb e=>eb b o hb e) f0 f1 f3 f4 f5⟩
 self:=fun _ _ _ _ _ st h=>wpAny_pyIter_listiter st h
theorem b2v {P:Program} {w:World} {K:PySem.W.Frag} {tg:Expr} (a it:Addr):Turn P w K tg (Itt K a) [it] it (fun i h=>h.IsTupleIter it a i) where
 mem:=by simp
 obj:=fun i h st b hb=>by
  have e:b=it:=by simpa using hb
  subst e
  obtain⟨o,e,c,d⟩:=st
  exact⟨o,e,fun v z=>by rw[d] at z;cases z⟩
 keep:=fun i h h' st k=>st.at fun o e=>k it (by simp) o e
 item:=by
  intro X hP hw hK hc i pins s σ H E I hf st hg
  subst hP hw hK
  obtain⟨xs,x,hq,hx⟩:=hg
  obtain⟨its,rv,p,hz⟩:=I.tuple hq
  obtain⟨u,hu,ru⟩:=rv.get hx
  obtain⟨f0,f1,f2,f3,f4,f5⟩:=hf it (by simp)
  refine wpAny_pyNext_tuple_item st (show s.heap.IsTuple a its.toArray from p) (x:=u) (by simpa using hu) fun h' st' sb=>?_
  have I1:Inv X pins σ H { s with heap:=h' }:=I.turned (t':=s.toks) (fun b o hb e=>(sb.2 b hb).trans e) f0 f1 f3 f4 f5
  obtain⟨o,e,c,d⟩:=id st'
  exact⟨u,rfl,b8Q (s:={ s with heap:=h' }) e c d (by decide) ⟨x,H,I1,ru,⟨rfl,fun ys hy=>by rw[I.tuple_inj hy hq];exact hx⟩,st',fun b hb=>(hf b hb).1⟩⟩
 done:=by
  intro X hP hw hK hc i pins s σ H E I hf st hg
  subst hP hw hK
  obtain⟨xs,hq,hx⟩:=hg
  obtain⟨its,rv,p,hz⟩:=I.tuple hq
  obtain⟨f0,f1,f2,f3,f4,f5⟩:=hf it (by simp)
  have hl:=rv.length
  exact wpAny_pyNext_tuple_end (I.ok.hd hc) st (show s.heap.IsTuple a its.toArray from p) (by simp;lia) fun h' eb=>⟨rfl,I.turned (t':=s.toks) (fun b o hb e=>eb b o hb e) f0 f1 f3 f4 f5⟩
 self:=fun _ _ _ _ _ st h=>wpAny_pyIter_tupleiter st h
theorem b2w {P:Program} {w:World} {K:PySem.W.Frag} {tg:Expr} (it:Addr) (lo:Int) (n:Nat):Turn P w K tg (Itr lo n) [it] it (fun i h=>IsRangeIter h it (lo+(i:Nat)*1) ((n:Int) - (i:Nat)) 1) where
 mem:=by simp
 obj:=fun i h st b hb=>by
  have e:b=it:=by simpa using hb
  subst e
  exact⟨_,st,fun v z=>by
   have z':Data.fields _=Data.cell v:=z
   cases z'⟩
 keep:=fun i h h' st k=>k it (by simp) _ st
 item:=by
  intro X hP hw hK hc i pins s σ H E I hf st hg
  subst hP hw hK
  obtain⟨f0,f1,f2,f3,f4,f5⟩:=hf it (by simp)
  have W:=Walks.range (prog:=X.prog) (w:=X.w) (I.ok.hd hc) it lo 1 n
  refine W.item i s _ _ hg st fun v h' tk hv st' kk=>?_
  obtain⟨t,rfl⟩:=hv
  have I1:Inv X pins σ H { s with heap:=h',toks:=tk }:=I.turned (fun b o hb e=>kk b o (by simpa using hb) e) f0 f1 f3 f4 f5
  refine⟨_,rfl,b8Q (s:={ s with heap:=h',toks:=tk }) (n:="range_iterator") st' rfl rfl (by decide) ⟨.int (lo+i),H,I1,⟨t,?_⟩,⟨rfl,rfl⟩,st',fun b hb=>(hf b hb).1⟩⟩
  rw[Int.mul_one]
 done:=by
  intro X hP hw hK hc i pins s σ H E I hf st hg
  subst hP hw hK
  obtain⟨f0,f1,f2,f3,f4,f5⟩:=hf it (by simp)
  exact wpAny_pyNext_range_end (I.ok.hd hc) st (by have:n≤i:=hg;lia) fun h' eb=>⟨rfl,I.turned (t':=s.toks) (fun b o hb e=>eb b o hb e) f0 f1 f3 f4 f5⟩
 self:=fun _ _ _ _ _ st h=>wpAny_pyIter_rangeiter st h
section
variable {X:Cx} {tg:Expr}
theorem b5O {pins:List (Addr × Obj)} {σ:St} {H:Hp} {s:Shared} {R:It→Hp→Prop} {E:Value→Shared→Prop} {lo hi:Int} {t u v:Tok} {tk:Nat} (I:Inv X pins σ H s) (h1:-(2 ^ 62)≤lo) (h2:lo < 2 ^ 62) (h3:-(2 ^ 62)≤hi) (h4:hi < 2 ^ 62)
  (q:R (Itr lo (hi - lo).toNat) H):wpAny (model X.prog X.w) X.A (pyIter (.ref s.heap.objs.size)) (PIE X pins σ tg R) E { s with heap:=s.heap.push { cls:=.type "range",data:=.fields #[.int lo t,.int hi u,.int 1 v] },toks:=tk }:=by
 refine wpAny_pyIter_range (IsRange.new ..) (small_one h1 h2 h3 h4) ?_
 have I1:Inv X pins σ H { s with heap:=s.heap.push { cls:=.type "range",data:=.fields #[.int lo t,.int hi u,.int 1 v] },toks:=tk }:=I.kept fun b o e=>Heap.get?_push_of_some _ e
 refine⟨(s.heap.push { cls:=.type "range",data:=.fields #[.int lo t,.int hi u,.int 1 v] }).objs.size,[(s.heap.push { cls:=.type "range",data:=.fields #[.int lo t,.int hi u,.int 1 v] }).objs.size],_,_,H,rfl,
  I1.kept (t':=tk) fun b o e=>Heap.get?_push_of_some _ e,b2w _ lo (hi - lo).toNat,?_,fun b hb=>?_,q⟩
 ·have e1:lo+((0:Nat):Int)*1=lo:=by simp
  have e2:(((hi - lo).toNat:Nat):Int) - ((0:Nat):Int)=Builtin.Range.rangeSize lo hi 1:=by rw[rangeSize_one];split<;>lia
  show IsRangeIter _ _ (lo+((0:Nat):Int)*1) ((((hi - lo).toNat:Nat):Int) - ((0:Nat):Int)) 1
  rw[e1,e2]
  exact Heap.get?_push_size _ rfl
 ·have e:b=(s.heap.push { cls:=.type "range",data:=.fields #[.int lo t,.int hi u,.int 1 v] }).objs.size:=by simpa using hb
  subst e
  exact I1.fpOk (Nat.le_refl _) (I1.hok.fresh (Nat.le_refl _))
noncomputable def c2h (ta:TA):TI:=fun σ H R=>ta σ H fun vs H1=>∃ j:Int,vs=[.int j]∧-(2 ^ 62)≤j∧j < 2 ^ 62∧R (Itr 0 j.toNat) H1
theorem b4j {a:Expr} {ta:TA} {p pos:Pos} (hg:Gl X "range") (hm:X.mg "range"=none) (ha:PA X [a] ta) (hs:starEach [a] X.env=[(false,eval a X.env)]:=by rfl):PI X tg (.Call (.Name "range" p) [a] [] pos) (c2h ta):=by
 intro pins s σ H R I h
 refine Call_ (a6h I hg hm boot_range (PyProof.Rows.callWith_type1 (thn (ha pos pins s σ H _ I h) fun us s1 ⟨vs,H1,I1,r1,q1⟩=>?_) hs rfl))
 obtain⟨j,e,q1,q2,q⟩:=q1
 subst e
 cases r1 with
 | cons r rr =>
   cases rr
   obtain⟨t,rfl⟩:=r
   exact call_range_1 (b5O I1 (by lia) (by lia) q1 q2 (by simpa using q))
noncomputable def tFor (wi:TI) (g:TG) (tb:TS):TS:=fun D σ H=>wi σ H fun J H1=>∃ W:Nat→Nat→St→Hp→Prop,(∃ m,W 0 m σ H1)∧∀ i m σ H,W i m σ H →
 (J.stop i H∧D.nx σ H)∨(J.go i H∧∃ N:St→Hp→Prop,(∀ σ' H',N σ' H'→∃ m',m' < m∧W (i+1) m' σ' H')∧∀ x H',J.yld i H x H'→g x σ H' fun σ2 H2=>tb { D with nx:=N,ct:=N,bk:=D.nx } σ2 H2)
noncomputable def a7E (fp:List Addr) (h:Heap):List (Addr × Obj):=fp.filterMap fun b=>(h.get? b).map fun o=>(b,o)
theorem a4E {fp:List Addr} {h:Heap} {b:Addr} {o:Obj} (hb:b∈fp) (e:h.get? b=some o):(b,o)∈a7E fp h:=List.mem_filterMap.mpr ⟨b,hb,by rw[e];rfl⟩
theorem b4t {fp:List Addr} {h:Heap} {p:Addr × Obj} (hp:p∈a7E fp h):p.1∈fp∧h.get? p.1=some p.2:=by
 obtain⟨b,hb,e⟩:=List.mem_filterMap.mp hp
 cases q:h.get? b with
 | none=>rw[q] at e;cases e
 | some o =>
   rw[q] at e
   have e':(b,o)=p:=Option.some.inj e
   subst e'
   exact⟨hb,q⟩
theorem Inv.pinned {pins:List (Addr × Obj)} {σ:St} {H:Hp} {s:Shared} {fp:List Addr} (I:Inv X pins σ H s) (hf:∀ b∈fp,FpOk X pins H b) (ho:∀ b∈fp,∃ o,s.heap.get? b=some o∧∀ v,o.data≠.cell v):Inv X (pins++a7E fp s.heap) σ H s :=
 I.pins_of fun p hp=>(List.mem_append.mp hp).elim (fun z=>I.pin p (List.mem_append_right _ z)) fun z=>by
  obtain⟨hb,e⟩:=b4t z
  obtain⟨f0,f1,f2,_⟩:=hf p.1 hb
  obtain⟨o,e',d⟩:=ho p.1 hb
  rw[e] at e';cases e'
  exact⟨e,f0,f1,f2,d⟩
theorem Inv.unpinned {pins pl:List (Addr × Obj)} {σ:St} {H:Hp} {s:Shared} (I:Inv X (pins++pl) σ H s):Inv X pins σ H s:=I.pins_of fun p hp=>I.pin p (List.mem_append_right _ (List.mem_append_left _ hp))
theorem c0f {iter:Expr} {body:List Stmt} {wi:TI} {g:TG} {tb:TS} {pos:Pos} (hp:PassesOwn (model X.prog X.w) X.A X.env X.xe) (hc:X.calm=true) (hi:PI X tg iter wi) (hg:PG X tg g) (hb:PSs X body tb)
  (hs:∀ x,foldedSetIterable iter X.env x=pure x:=by intro _;rfl):PS X (.For tg iter body [] pos) (tFor wi g tb):=by
 intro pins s σ H D I h
 refine wpAny_For (thn (hi pins s σ H _ I h) fun v s1 h1=>thn h1 fun itv s2 h2=>?_) hs
 obtain⟨it,fp,tn,J,H2,e,I2,T,st2,f2,W,⟨m0,w0⟩,turn⟩:=h2
 subst e
 -- what stays true of the iterator's objects through the loop
 have stat:∀ {H':Hp},(∀ b∈fp,H' b=none)→∀ b∈fp,FpOk X pins H' b:=fun hn b hb=>⟨hn b hb,(f2 b hb).2⟩
 refine codeAny_forLoop_any (fun n s'=>∃ i σ' H',Inv X pins σ' H' s'∧tn i s'.heap∧(∀ b∈fp,H' b=none)∧W i n σ' H') ?_ m0 ⟨0,σ,H2,I2,st2,fun b hb=>(f2 b hb).1,w0⟩
 rintro n s3 ⟨i,σ3,H3,I3,st3,fr3,w3⟩
 rcases turn i n σ3 H3 w3 with ⟨stop,qn⟩ | ⟨go,N,hN,step⟩
 ·refine wpAny_passesOwn hp (thn (T.done X rfl rfl rfl hc i pins s3 σ3 H3 X.xe I3 (stat fr3) st3 stop) fun r s4 ⟨hr,I4⟩=>?_)
  subst hr
  exact wpAny_execs_nil ⟨σ3,H3,I4,qn⟩
 ·refine wpAny_passesOwn hp (thn (T.item X rfl rfl rfl hc i pins s3 σ3 H3 X.xe I3 (stat fr3) st3 go) fun r s4 ⟨u,hr,h4⟩=>?_)
  subst hr
  refine wpAny_passesOwn hp (thn h4 fun _ s5 ⟨x,H5,I5,r5,y5,st5,fr5⟩=>?_)
  have I5':=I5.pinned (stat fr5) (T.obj _ _ st5)
  refine wpAny_passesOwn hp (thn (hg _ s5 σ3 H5 x u _ I5' r5 (step x H5 y5)) fun _ s6 ⟨σ6,H6,I6,q6⟩=>?_)
  refine wpAny_passesOwn hp (thn (hb _ s6 σ6 H6 _ I6 q6) fun f s7 q7=>?_)
  have again:∀ {σ7:St} {H7:Hp},Inv X (pins++a7E fp s5.heap) σ7 H7 s7→N σ7 H7→∃ m,m < n∧∃ i σ' H',Inv X pins σ' H' s7∧tn i s7.heap∧(∀ b∈fp,H' b=none)∧W i m σ' H':=fun {σ7 H7} I7 n7=>by
   obtain⟨m',hm,w7⟩:=hN σ7 H7 n7
   refine⟨m',hm,i+1,σ7,H7,I7.unpinned,T.keep _ _ _ st5 fun b hb o e=>(I7.pin (b,o) (List.mem_append_right _ (List.mem_append_right _ (a4E hb e)))).1,fun b hb=>?_,w7⟩
   obtain⟨o,e,d⟩:=T.obj _ _ st5 b hb
   exact (I7.pin (b,o) (List.mem_append_right _ (List.mem_append_right _ (a4E hb e)))).2.1
  cases f with
  | next=>obtain⟨σ7,H7,I7,n7⟩:=q7;exact again I7 n7
  | cont=>obtain⟨σ7,H7,I7,n7⟩:=q7;exact again I7 n7
  | brk=>obtain⟨σ7,H7,I7,q7⟩:=q7;exact⟨σ7,H7,I7.unpinned,q7⟩
  | ret v=>obtain⟨x7,σ7,H7,I7,r7,q7⟩:=q7;exact⟨x7,σ7,H7,I7.unpinned,r7,q7⟩
end
noncomputable abbrev R2:=V→V→Hp→VK→Prop
noncomputable def OpR (X:Cx) (f:Value→Value→Sem Value) (r:R2):Prop :=
 ∀ (pins:List (Addr × Obj)) (s:Shared) (σ:St) (H:Hp) (x y:V) (v u:Value) (Q:VK),Inv X pins σ H s→RelV x v→RelV y u→r x y H Q →
   wpAny (model X.prog X.w) X.A (f v u) (EP X pins σ Q) X.xe s
noncomputable def UnR (X:Cx) (f:Value→Sem Value) (r:V→Hp→VK→Prop):Prop :=
 ∀ (pins:List (Addr × Obj)) (s:Shared) (σ:St) (H:Hp) (x:V) (v:Value) (Q:VK),Inv X pins σ H s→RelV x v→r x H Q →
   wpAny (model X.prog X.w) X.A (f v) (EP X pins σ Q) X.xe s
noncomputable def a7k (X:Cx) (f:Value) (r:List V→Hp→VK→Prop):Prop :=
 ∀ (pins:List (Addr × Obj)) (s:Shared) (σ:St) (H:Hp) (xs:List V) (us:List Value) (Q:VK),Inv X pins σ H s→Vals xs us→r xs H Q →
   wpAny (model X.prog X.w) X.A (call f us) (EP X pins σ Q) X.xe s
noncomputable def TruR (X:Cx) (r:V→Hp→(Bool→Hp→Prop)→Prop):Prop :=
 ∀ (pins:List (Addr × Obj)) (s:Shared) (σ:St) (H:Hp) (x:V) (v:Value) (Q:Bool→Hp→Prop),Inv X pins σ H s→RelV x v→r x H Q →
   wpAny (model X.prog X.w) X.A (truthy v) (TP X pins σ Q) X.xe s
noncomputable def tOp (r:R2) (ta tb:TE):TE:=fun σ H Q=>ta σ H fun x H1=>tb σ H1 fun y H2=>r x y H2 Q
noncomputable def tUn (r:V→Hp→VK→Prop) (ta:TE):TE:=fun σ H Q=>ta σ H fun x H1=>r x H1 Q
noncomputable def rI (C:Int→Int→Prop) (g:Int→Int→V):R2:=fun x y H Q=>∃ i j,x=.int i∧y=.int j∧C i j∧Q (g i j) H
noncomputable def rI0 (g:Int→Int→V):R2:=fun x y H Q=>∃ i j,x=.int i∧y=.int j∧Q (g i j) H
noncomputable def rU (g:Int→V):V→Hp→VK→Prop:=fun x H Q=>∃ i,x=.int i∧Q (g i) H
section
variable {X:Cx} {a b c:Expr} {ta tb tc:TE} {pos:Pos}
theorem binT (ha:PE X a ta) (hb:PE X b tb) {pins:List (Addr × Obj)} {s:Shared} {σ:St} {H:Hp} {R:V→V→Hp→Prop} (I:Inv X pins σ H s)
  (h:ta σ H fun x H1=>tb σ H1 fun y H2=>R x y H2) {Q:Value→Shared→Prop} {f:Value→Value→Sem Value}
  (hf:∀ v u s2 x y H2,Inv X pins σ H2 s2→RelV x v→RelV y u→R x y H2→wpAny (model X.prog X.w) X.A (f v u) Q X.xe s2) :
  wpAny (model X.prog X.w) X.A (eval a X.env) (fun v s₁=>wpAny (model X.prog X.w) X.A (eval b X.env) (fun u s₂=>wpAny (model X.prog X.w) X.A (f v u) Q X.xe s₂) X.xe s₁) X.xe s:=by
 refine thn (ha pins s σ H _ I h) fun v s1 ⟨x,H1,I1,r1,q1⟩=>?_
 refine thn (hb pins s1 σ H1 _ I1 q1) fun u s2 ⟨y,H2,I2,r2,q2⟩=>?_
 exact hf v u s2 x y H2 I2 r1 r2 q2
theorem c1T {op:Operator} {r:R2} (ho:OpR X (binaryOp op) r) (ha:PE X a ta) (hb:PE X b tb):PE X (.BinOp a op b pos) (tOp r ta tb):=by
 intro pins s σ H Q I h
 exact wpAny_BinOp (binT ha hb I h fun v u s2 x y H2 I2 rx ry q=>ho pins s2 σ H2 x y v u Q I2 rx ry q)
theorem c1R {op:UnaryOp} {r:V→Hp→VK→Prop} (ho:UnR X (unaryOp op) r) (ha:PE X a ta):PE X (.UnaryOp op a pos) (tUn r ta):=by
 intro pins s σ H Q I h
 exact UnaryOp_ (thn (ha pins s σ H _ I h) fun v s1 ⟨x,H1,I1,r1,q1⟩=>ho pins s1 σ H1 x v Q I1 r1 q1)
theorem opI {f:Value→Value→Sem Value} {C:Int→Int→Prop} {g:Int→Int→Int}
  (rule:∀ (i j:Int) (t u:Tok) (s:Shared) (Q:Value→Shared→Prop) (E:Value→Shared→Prop),C i j→Q (.int (g i j) s.toks) { s with toks:=s.toks+1 }→wpAny (model X.prog X.w) X.A (f (.int i t) (.int j u)) Q E s) :
  OpR X f (rI C fun i j=>.int (g i j)):=by
 intro pins s σ H x y v u Q I rx ry h
 obtain⟨i,j,rfl,rfl,hc,q⟩:=h
 obtain⟨t,rfl⟩:=rx
 obtain⟨t',rfl⟩:=ry
 exact rule i j t t' s _ _ hc ⟨.int (g i j),H,I.tok _,⟨_,rfl⟩,q⟩
theorem opI0 {f:Value→Value→Sem Value} {g:Int→Int→Int}
  (rule:∀ (i j:Int) (t u:Tok) (s:Shared) (Q:Value→Shared→Prop) (E:Value→Shared→Prop),Q (.int (g i j) s.toks) { s with toks:=s.toks+1 }→wpAny (model X.prog X.w) X.A (f (.int i t) (.int j u)) Q E s) :
  OpR X f (rI0 fun i j=>.int (g i j)):=by
 intro pins s σ H x y v u Q I rx ry h
 obtain⟨i,j,rfl,rfl,q⟩:=h
 obtain⟨t,rfl⟩:=rx
 obtain⟨t',rfl⟩:=ry
 exact rule i j t t' s _ _ ⟨.int (g i j),H,I.tok _,⟨_,rfl⟩,q⟩
theorem opB0 {f:Value→Value→Sem Value} {g:Int→Int→Bool}
  (rule:∀ (i j:Int) (t u:Tok) (s:Shared) (Q:Value→Shared→Prop) (E:Value→Shared→Prop),Q (.bool (g i j)) s→wpAny (model X.prog X.w) X.A (f (.int i t) (.int j u)) Q E s) :
  OpR X f (rI0 fun i j=>.bl (g i j)):=by
 intro pins s σ H x y v u Q I rx ry h
 obtain⟨i,j,rfl,rfl,q⟩:=h
 obtain⟨t,rfl⟩:=rx
 obtain⟨t',rfl⟩:=ry
 exact rule i j t t' s _ _ ⟨.bl (g i j),H,I,rfl,q⟩
noncomputable def CPow (i j:Int):Prop:=0≤j∧j≤1000000∧i.natAbs < 2 ^ 64
noncomputable def CMul (i j:Int):Prop:=(-(2 ^ 64) < i∧i < 2 ^ 64)∨(-(2 ^ 64) < j∧j < 2 ^ 64)
theorem CMul.ok {i j:Int} (h:CMul i j):IntMulOk i j:=by
 rcases h with ⟨h1,h2⟩ | ⟨h1,h2⟩
 ·exact .of_left (intBits_le_64 h1 h2)
 ·exact .of_right (intBits_le_64 h1 h2)
theorem c0z:OpR X (binaryOp .Add) (rI0 fun i j=>.int (i+j)):=opI0 fun _ _ _ _ _ _ _ q=>add_int q
theorem c0s:OpR X (binaryOp .Sub) (rI0 fun i j=>.int (i - j)):=opI0 fun _ _ _ _ _ _ _ q=>sub_int q
theorem c0v:OpR X (binaryOp .Mult) (rI CMul fun i j=>.int (i*j)):=opI fun _ _ _ _ _ _ _ hc q=>mul_int q hc.ok
theorem c0w:OpR X (binaryOp .Mod) (rI (fun _ j=>0 < j) fun i j=>.int (i % j)):=opI fun i j _ _ _ _ _ hc q=>by
 have h1:(0:Int) < j:=hc
 exact mod_int' (by lia) (by rw[Int.fmod_eq_emod_of_nonneg i (by lia)];exact q)
theorem c0u:OpR X (binaryOp .Pow) (rI CPow fun i j=>.int (i ^ j.toNat)):=opI fun _ _ _ _ _ _ _ hc q=>pow_int_small hc.1 hc.2.1 hc.2.2 q
theorem unI {f:Value→Sem Value} {g:Int→Int}
  (rule:∀ (i:Int) (t:Tok) (s:Shared) (Q:Value→Shared→Prop) (E:Value→Shared→Prop),Q (.int (g i) s.toks) { s with toks:=s.toks+1 }→wpAny (model X.prog X.w) X.A (f (.int i t)) Q E s) :
  UnR X f (rU fun i=>.int (g i)):=by
 intro pins s σ H x v Q I rx h
 obtain⟨i,rfl,q⟩:=h
 obtain⟨t,rfl⟩:=rx
 exact rule i t s _ _ ⟨.int (g i),H,I.tok _,⟨_,rfl⟩,q⟩
theorem b9n:UnR X (unaryOp .USub) (rU fun i=>.int (-i)):=unI fun _ _ _ _ _ q=>neg_int q
end
section
variable {X:Cx} {a b c:Expr} {ta tb tc:TE} {pos:Pos}
theorem b7l {pins:List (Addr × Obj)} {σ:St} {H:Hp} {s:Shared} {Q:VK} {k k':Bool} (I:Inv X pins σ H s) (q:Q (.bl k) H) (e:k=k'):EP X pins σ Q (.bool k') s:=by
 subst e
 exact⟨.bl k,H,I,rfl,q⟩
theorem c1X:OpR X (compareOp .Lt) (rI0 fun i j=>.bl (decide (i < j))):=opB0 fun _ _ _ _ _ _ _ q=>lt_int q
theorem c1Y:OpR X (compareOp .LtE) (rI0 fun i j=>.bl (decide (i≤j))):=opB0 fun _ _ _ _ _ _ _ q=>le_int q
theorem c1Z:OpR X (compareOp .Gt) (rI0 fun i j=>.bl (decide (j < i))):=opB0 fun _ _ _ _ _ _ _ q=>gt_int q
theorem c2a:OpR X (compareOp .GtE) (rI0 fun i j=>.bl (decide (j≤i))):=opB0 fun _ _ _ _ _ _ _ q=>ge_int q
theorem c0x:OpR X (compareOp .Is) (fun x y H Q=>y=.non∧Q (.bl (decide (x=.non))) H):=by
 intro pins s σ H x y v u Q I rx ry h
 obtain⟨rfl,q⟩:=h
 cases ry
 refine is_none_gen (b7l I q ?_)
 cases x<;>first
  | (cases rx;rfl)
  | (obtain⟨t,rfl⟩:=rx;rfl)
theorem b8u:OpR X (compareOp .IsNot) (fun x y H Q=>y=.non∧Q (.bl (!decide (x=.non))) H):=by
 intro pins s σ H x y v u Q I rx ry h
 obtain⟨rfl,q⟩:=h
 cases ry
 refine isnot_none_gen (b7l I q ?_)
 cases x<;>first
  | (cases rx;rfl)
  | (obtain⟨t,rfl⟩:=rx;rfl)
theorem a0k (b:Expr) {op:CmpOp} (h:op≠.In:=by decide) (h2:op≠.NotIn:=by decide):behindInMarks op b=false:=by
 have e1:(op == CmpOp.In)=false:=by cases op<;>first | rfl | exact absurd rfl h
 have e2:(op == CmpOp.NotIn)=false:=by cases op<;>first | rfl | exact absurd rfl h2
 cases b<;>simp [behindInMarks,e1,e2]
theorem b8p {op:CmpOp} {r:R2} (ho:OpR X (compareOp op) r) (ha:PE X a ta) (hb:PE X b tb) (hm:behindInMarks op b=false):PE X (.Compare a [op] [b] pos) (tOp r ta tb):=by
 intro pins s σ H Q I h
 exact wpAny_Compare1 (binT ha hb I h fun v u s2 x y H2 I2 rx ry q=>ho pins s2 σ H2 x y v u Q I2 rx ry q) hm
noncomputable def b9w (t:TE):TT:=fun σ H Q=>t σ H fun x H'=>∃ k,x=.bl k∧Q k H'
theorem b8e {op:CmpOp} {r:R2} (ho:OpR X (compareOp op) r) (ha:PE X a ta) (hb:PE X b tb) (hm:behindInMarks op b=false):PT X (.Compare a [op] [b] pos) (b9w (tOp r ta tb)):=by
 intro pins s σ H Q I h
 refine wpAny_isTrue_Compare1 (thn (ha pins s σ H _ I h) fun v s1 ⟨x,H1,I1,r1,q1⟩=>thn (hb pins s1 σ H1 _ I1 q1) fun u s2 ⟨y,H2,I2,r2,q2⟩ =>
  thn (ho pins s2 σ H2 x y v u _ I2 r1 r2 q2) fun c s3 ⟨z,H3,I3,r3,k,e,q3⟩=>?_) hm
 subst e
 cases r3
 exact wpAny_truthy_bool ⟨H3,I3,q3⟩
noncomputable def b3D (r r':R2) (ta tb tc:TE):TE:=fun σ H Q=>ta σ H fun x H1=>tb σ H1 fun y H2=>r x y H2 fun z H3=>∃ k,z=.bl k ∧
 (if k=true then tc σ H3 fun w' H4=>r' y w' H4 Q else Q (.bl false) H3)
theorem b6b {op op':CmpOp} {r r':R2} (ho:OpR X (compareOp op) r) (ho':OpR X (compareOp op') r') (ha:PE X a ta) (hb:PE X b tb) (hc:PE X c tc)
  (hm:lastMarks [op,op'] [b,c]=false:=by with_unfolding_all rfl):PE X (.Compare a [op,op'] [b,c] pos) (b3D r r' ta tb tc):=by
 intro pins s σ H Q I h
 refine Compare_chain (thn (ha pins s σ H _ I h) fun v s1 ⟨x,H1,I1,r1,q1⟩=>chain_link (thn (hb pins s1 σ H1 _ I1 q1) fun u s2 ⟨y,H2,I2,r2,q2⟩ =>
  thn (ho pins s2 σ H2 x y v u _ I2 r1 r2 q2) fun d s3 ⟨z,H3,I3,r3,k,e,q3⟩=>?_)) hm
 subst e
 cases r3
 refine wpAny_truthy_bool ?_
 cases k with
 | false=>exact ite_ff ⟨.bl false,H3,I3,rfl,q3⟩
 | true=>exact ite_tt (chain_last (thn (hc pins s3 σ H3 _ I3 q3) fun w' s4 ⟨z',H4,I4,r4,q4⟩=>ho' pins s4 σ H4 y z' u w' Q I4 r2 r4 q4))
theorem b5T {op op':CmpOp} {r r':R2} (ho:OpR X (compareOp op) r) (ho':OpR X (compareOp op') r') (ha:PE X a ta) (hb:PE X b tb) (hc:PE X c tc)
  (hm:lastMarks [op,op'] [b,c]=false:=by with_unfolding_all rfl):PT X (.Compare a [op,op'] [b,c] pos) (b9w (b3D r r' ta tb tc)):=by
 intro pins s σ H Q I h
 refine isTrue_chain (thn (ha pins s σ H _ I h) fun v s1 ⟨x,H1,I1,r1,q1⟩=>test_link (thn (hb pins s1 σ H1 _ I1 q1) fun u s2 ⟨y,H2,I2,r2,q2⟩ =>
  thn (ho pins s2 σ H2 x y v u _ I2 r1 r2 q2) fun d s3 ⟨z,H3,I3,r3,k,e,q3⟩=>?_)) hm
 subst e
 cases r3
 refine wpAny_truthy_bool ?_
 cases k with
 | false =>
   obtain⟨k',e',q'⟩:=q3
   cases e'
   exact ite_ff ⟨H3,I3,q'⟩
 | true =>
   refine ite_tt (test_last (thn (hc pins s3 σ H3 _ I3 q3) fun w' s4 ⟨z',H4,I4,r4,q4⟩=>thn (ho' pins s4 σ H4 y z' u w' _ I4 r2 r4 q4) fun d' s5 ⟨z2,H5,I5,r5,k2,e2,q5⟩=>?_))
   subst e2
   cases r5
   exact wpAny_truthy_bool ⟨H5,I5,q5⟩
noncomputable def TruV (K:PySem.W.Frag) (x:V) (H:Hp) (k:Bool):Prop :=
 match x with
 | .non=>k=false
 | .bl b=>k=b
 | .int i=>k=(i != 0)
 | .str y=>y.length≤sizeLine∧k=((y.length:Int) != 0)
 | .byt y=>y.size≤sizeLine∧k=((y.size:Int) != 0)
 | .ref p=>(∃ xs,SqL K H p xs∧k=!xs.isEmpty)∨(∃ xs,SqT K H p xs∧k=!xs.isEmpty)∨∃ kvs,H p=some (.dK kvs)∧k=!kvs.isEmpty
 | _=>False
theorem b3g {κ:Type} {kvs:List (κ × V)} {vs:List (κ × Value)} (r:KV kvs vs):(!vs.isEmpty)=!kvs.isEmpty:=by
 cases r<;>rfl
theorem a7L {xs:List V} {its:List Value} (r:Vals xs its):(!its.toArray.isEmpty)=!xs.isEmpty:=by
 cases r<;>simp
theorem a6R:(sizeLine:Nat) < 2 ^ 63:=by rw[sizeLine_eq];decide
theorem b9r:TruR X (fun x H Q=>∃ k,TruV X.K x H k∧Q k H):=by
 intro pins s σ H x v Q I rx h
 obtain⟨k,e,q⟩:=h
 have hl:=a6R
 have hs:sizeLine=16777216:=sizeLine_eq
 cases x with
 | non =>
   cases rx
   have e':k=false:=e
   subst e'
   exact truthy_none ⟨H,I,q⟩
 | bl b =>
   cases rx
   have e':k=b:=e
   subst e'
   exact wpAny_truthy_bool ⟨H,I,q⟩
 | int i =>
   obtain⟨t,rfl⟩:=rx
   have e':k=(i != 0):=e
   subst e'
   exact PySem.P.truthy_int ⟨H,I,q⟩
 | str y =>
   obtain⟨t,rfl⟩:=rx
   obtain⟨hy,e'⟩:y.length≤sizeLine∧k=((y.length:Int) != 0):=e
   subst e'
   exact PySem.P.truthy_str (by lia) ⟨H,I.tok _,q⟩
 | byt y =>
   obtain⟨t,rfl⟩:=rx
   obtain⟨hy,e'⟩:y.size≤sizeLine∧k=((y.size:Int) != 0):=e
   subst e'
   exact PySem.W.truthy_bytes (by lia) ⟨H,I.tok _,q⟩
 | ref p =>
   cases rx
   have e':(∃ xs,SqL X.K H p xs∧k=!xs.isEmpty)∨(∃ xs,SqT X.K H p xs∧k=!xs.isEmpty)∨∃ kvs,H p=some (.dK kvs)∧k=!kvs.isEmpty:=e
   rcases e' with ⟨xs,hx,e'⟩ | ⟨xs,hx,e'⟩ | ⟨kvs,hx,e'⟩
   ·subst e'
    obtain⟨its,r,pl,hz⟩:=I.list hx
    have hlen:=r.length
    exact wpAny_truthy_list pl.isList (by simp only[List.size_toArray];lia) ⟨H,I.tok _,by rw[a7L r];exact q⟩
   ·subst e'
    obtain⟨its,r,pl,hz⟩:=I.tuple hx
    have hlen:=r.length
    exact truthy_tuple pl (by simp only[List.size_toArray];lia) ⟨H,I.tok _,by rw[a7L r];exact q⟩
   ·subst e'
    obtain⟨hz,hS,vs,r,m⟩:kvs.length≤sizeLine∧(p == sysModules)=false∧∃ vs,KV kvs vs∧s.heap.DictOf (a0X X.prog X.w) p vs:=I.hok p _ hx
    have hlen:kvs.length=vs.length:=Paired.length r
    exact wpAny_truthy_dict hS m (by lia) ⟨H,I.tok _,by rw[b3g r];exact q⟩
 | _=>exact (show False from e).elim
theorem b5S (ha:PE X a ta) (he:∀ whole,isTrue a X.env whole=(do let v ← whole;standAt a.pos;holding [v] (truthy v))) :
  PT X a (fun σ H Q=>ta σ H fun x H'=>∃ k,TruV X.K x H' k∧Q k H'):=by
 intro pins s σ H Q I h
 exact isTrue_plain (thn (ha pins s σ H _ I h) fun v s1 ⟨x,H1,I1,r1,q1⟩=>b9r pins s1 σ H1 x v Q I1 r1 q1) (he _)
theorem b2N:OpR X (binaryOp .Add) (fun x y H Q=>∃ i j,x=.str i∧y=.str j∧i.length+j.length≤sizeLine∧Q (.str (i++j)) H):=by
 intro pins s σ H x y v u Q I rx ry h
 obtain⟨i,j,rfl,rfl,hz,q⟩:=h
 obtain⟨t,rfl⟩:=rx
 obtain⟨t',rfl⟩:=ry
 exact add_str (fun t' tk=>⟨.str (i++j),H,I.tok _,⟨_,rfl⟩,q⟩) hz
theorem a5Q {x:V} {us:List Value} (r:Vals [x] us):∃ u,us=[u]∧RelV x u:=by
 cases r with
 | cons r1 r2=>cases r2;exact⟨_,rfl,r1⟩
theorem b6H:a7k X (.builtin "abs") (fun xs H Q=>∃ i,xs=[.int i]∧Q (.int (if i < 0 then -i else i)) H):=by
 intro pins s σ H xs us Q I r h
 obtain⟨i,rfl,q⟩:=h
 obtain⟨u,rfl,t,rfl⟩:=a5Q r
 exact call_abs_int fun u tk=>⟨.int (if i < 0 then -i else i),H,I.tok _,⟨_,rfl⟩,q⟩
theorem b0r:a7k X (.type "int") (fun xs H Q=>(∃ i,xs=[.int i]∧Q (.int i) H)∨∃ k,xs=[.bl k]∧Q (.int (if k then 1 else 0)) H):=by
 intro pins s σ H xs us Q I r h
 rcases h with ⟨i,rfl,q⟩ | ⟨k,rfl,q⟩
 ·obtain⟨u,rfl,t,rfl⟩:=a5Q r
  exact call_int_int ⟨.int i,H,I,⟨_,rfl⟩,q⟩
 ·obtain⟨u,rfl,r1⟩:=a5Q r
  cases r1
  exact call_int_bool ⟨.int (if k then 1 else 0),H,I.tok _,⟨_,rfl⟩,q⟩
end
section
variable {prog:Program} {w:World} {A:Around} {E:Value→Shared→Prop} {s:Shared} {K:PySem.W.Frag} {x dx C f:Addr} {mA:Str→Option Value} {name:Str} {v:Value}
end
theorem RelO.some_of {v:V} {o:Option Value} (r:RelO (some v) o):∃ u,o=some u∧RelV v u:=by
 cases o with
 | none=>exact (show False from r).elim
 | some u=>exact⟨u,rfl,r⟩
section
variable {P:Program} {w:World} {H H':Hp} {h h':Heap} {a C dx:Addr} {fs fs':List (Str × V)}
end
section
variable {X:Cx} {pins:List (Addr × Obj)} {σ:St} {H:Hp} {s:Shared} {a C dx:Addr} {fs:List (Str × V)} {f:Str} {v:V} {A:Around} {E:Value→Shared→Prop}
end
section
variable {X:Cx} {o e value:Expr} {f:Str} {pos pos' tpos:Pos} {ta tv:TE}
end
section
variable {X:Cx} {pins:List (Addr × Obj)} {σ:St} {H:Hp} {s:Shared} {A:Around} {E:Value→Shared→Prop} {Q:Value→Shared→Prop} {c:Value} {b:Bool}
end
structure Room (k:Nat) (A:Around):Prop where
 hd:A.handled=none
 dp:A.depth+3*k+5 < recursionLimit
 un:A.units+16*k+200 < cLine
theorem Room.mono {j k:Nat} {A:Around} (r:Room k A) (h:j≤k):Room j A:=⟨r.hd,by have:=r.dp;lia,by have:=r.un;lia⟩
theorem Room.deeper {k:Nat} {A:Around} (r:Room (k+1) A) (env:Env):Room k (A.deeper env) :=
 ⟨r.hd,by have:=r.dp;show A.depth+1+3*k+5 < _;lia,by have:=r.un;show A.units+3+16*k+200 < _;lia⟩
theorem Room.depth {k:Nat} {A:Around} (r:Room k A):A.depth < recursionLimit:=by have:=r.dp;lia
theorem Room.units {k:Nat} {A:Around} (r:Room k A):A.units+64 < cLine:=by have:=r.un;lia
noncomputable def tNil:TA:=fun _ H Q=>Q [] H
noncomputable def c1C (ta:TE) (tr:TA):TA:=fun σ H Q=>ta σ H fun x H1=>tr σ H1 fun xs H2=>Q (x :: xs) H2
section
variable {X:Cx} {e:Expr} {es:List Expr} {te:TE} {t:TA} {pos:Pos}
theorem b6Z:PA X [] tNil:=fun _ _ _ _ H Q I h=>Calls.spliced_nil ⟨[],H,I,.nil,h⟩
theorem b4l (ha:PE X e te) (hr:PA X es t) (hs:starEach (e :: es) X.env=(false,eval e X.env) :: starEach es X.env:=by rfl):PA X (e :: es) (c1C te t):=by
 intro pos pins s σ H Q I h
 rw[hs]
 show wpAny _ _ (spliced ((false,eval e X.env) :: backTo pos (starEach es X.env))) _ _ s
 refine Calls.spliced_cons (thn (ha pins s σ H _ I h) fun u s1 ⟨x,H1,I1,r1,q1⟩=>?_)
 exact thn (hr pos pins s1 σ H1 _ I1 q1) fun us s2 ⟨xs,H2,I2,r2,q2⟩=>⟨x :: xs,H2,I2,.cons r1 r2,q2⟩
noncomputable def tTup (t:TA):TE:=fun σ H Q=>t σ H fun xs H1=>xs.length≤sizeLine∧∀ p,H1 p=none→Q (.ref p) (upd H1 p (.tup xs))
noncomputable def tLst (t:TA):TE:=fun σ H Q=>t σ H fun xs H1=>xs.length≤sizeLine∧∀ p,H1 p=none→Q (.ref p) (upd H1 p (.lst xs))
theorem c0k {x1} (h:PA X es t):PE X (.Tuple es x1 pos) (tTup t):=by
 intro pins s σ H Q I hq
 refine wpAny_Tuple_spliced (thn (h pos pins s σ H _ I hq) fun us s1 ⟨xs,H1,I1,r,z,q⟩=>⟨by rw[← r.length];exact z,?_⟩)
 have hf:H1 s1.heap.objs.size=none:=I1.hok.fresh (Nat.le_refl _)
 refine⟨.ref s1.heap.objs.size,upd H1 s1.heap.objs.size (.tup xs),I1.laid (t':=s1.toks) (fun b u e=>Heap.get?_push_of_some _ e) (Nat.le_refl _) ?_,rfl,q _ hf⟩
 exact⟨z,us,r,⟨_,Heap.get?_push_size _ rfl,rfl,rfl,_,rfl⟩⟩
theorem c0o (h:PA X es t):PE X (.List es pos) (tLst t):=by
 intro pins s σ H Q I hq
 refine wpAny_List_spliced (thn (h pos pins s σ H _ I hq) fun us s1 ⟨xs,H1,I1,r,z,q⟩=>⟨by rw[← r.length];exact z,?_⟩)
 have hf:H1 s1.heap.objs.size=none:=I1.hok.fresh (Nat.le_refl _)
 refine⟨.ref s1.heap.objs.size,upd H1 s1.heap.objs.size (.lst xs),I1.laid (t':=s1.toks) (fun b u e=>Heap.get?_push_of_some _ e) (Nat.le_refl _) ?_,rfl,q _ hf⟩
 exact⟨z,us,0,r,Heap.get?_push_size _ rfl⟩
end
noncomputable abbrev Sp:=List V→Hp→VK→XK→Prop
noncomputable abbrev CXT:=List Env→Hp→Shared→XK→Value→Shared→Prop
structure Env0 (P:Program) (w:World) (K:PySem.W.Frag) (mg:Str→Option Value) (base:Heap) (A:Around) (outer:List Env) (s:Shared) (H:Hp):Prop where
 frames:A.frames=some outer
 mod:Mod K mg base
 bs:∀ b o,base.get? b=some o→s.heap.get? b=some o∧H b=none
 bsz:base.objs.size≤s.heap.objs.size
 funs:s.heap.FunFrames base outer
 frf:∀ b∈frs outer,H b=none
 hok:HOk P w H s.heap
 bare:AllBare s.gens
noncomputable def CE (outer:List Env) (P:Program) (w:World) (H:Hp) (s:Shared) (Q:VK) (u:Value) (s':Shared):Prop :=
 ∃ v H',s'.os=s.os∧AllBare s'.gens∧Un (frs outer) [] H H' s.heap s'.heap∧HOk P w H' s'.heap∧RelV v u∧Q v H'
noncomputable def CR (CX:CXT) (outer:List Env) (P:Program) (w:World) (H:Hp) (s:Shared) (Q:VK) (E:XK) (r:Result) (s':Shared):Prop :=
 match r with
 | .ok (.ret u)=>CE outer P w H s Q u s'
 | .ok _=>False
 | .error e=>CX outer H s E e s'
structure FnOk (P:Program) (w:World) (K:PySem.W.Frag) (mg:Str→Option Value) (base:Heap) (CX:CXT) (k:Nat) (f:Addr) (fd:FuncData) (ps:List Str) (sp:Sp):Prop where
 len:∀ vs H Q E,sp vs H Q E→vs.length=ps.length
 run:∀ (A:Around) (outer:List Env) (s:Shared) (H:Hp) (args:Args) (us:List Value) (vs:List V) (Q:VK) (E:XK),Room k A→Env0 P w K mg base A outer s H→BindsTo s fd args (ps.zip us)→Vals vs us→sp vs H Q E →
  codeAny (model P w) A (.call (.ref f) args) (CR CX outer P w H s Q E) s
theorem FnOk.mono {P:Program} {w:World} {K:PySem.W.Frag} {mg:Str→Option Value} {base:Heap} {CX:CXT} {j k:Nat} {f:Addr} {fd:FuncData} {ps:List Str} {sp:Sp} (F:FnOk P w K mg base CX j f fd ps sp) (h:j≤k) :
  FnOk P w K mg base CX k f fd ps sp:=⟨F.len,fun A outer s H args us vs Q E hr=>F.run A outer s H args us vs Q E (hr.mono h)⟩
section
variable {X:Cx} {pins:List (Addr × Obj)} {σ:St} {H:Hp} {s s':Shared}
theorem Inv.env0 (I:Inv X pins σ H s):Env0 X.prog X.w X.K X.mg X.base X.A X.stack s H :=
 ⟨I.ok.frames,I.ok.mod,I.bs,Nat.le_trans I.ok.bsz I.sz,I.stack,I.stkFree,I.hok,I.bare⟩
theorem Inv.after {Q:VK} {u:Value} (I:Inv X pins σ H s) (h:CE X.stack X.prog X.w H s Q u s'):EP X pins σ Q u s':=by
 obtain⟨v,H',os,bare,un,hok,r,q⟩:=h
 obtain⟨hh,g,d,t,os'⟩:=s'
 obtain rfl:os'=s.os:=os
 exact⟨v,H',I.call (h':=hh) (g':=g) (d':=d) (t':=t) (ch:=[]) un hok bare (fun b z=>absurd z (by simp)),r,q⟩
end
noncomputable def c1D (sp:Sp) (dvs:List V) (E:XK) (t:TA):TE:=fun σ H Q=>t σ H fun vs H1=>sp (vs++dvs) H1 Q E
noncomputable def a0G (K:PySem.W.Frag) (fd:FuncData) (ps:List Str) (ds:List Value):Prop :=
 ∀ (s:Shared) (us:List Value),K.In s.heap→(us++ds).length=ps.length→BindsTo s fd ⟨us,[]⟩ (ps.zip (us++ds))
theorem a0G.all {K:PySem.W.Frag} {fd:FuncData} {ps:List Str} (h:∀ us:List Value,us.length=ps.length→bindArgs fd ⟨us,[]⟩=pure (ps.zip us)):a0G K fd ps []:=fun s us _ hl=>by
 rw[List.append_nil] at hl⊢
 exact .of_eq (h us hl)
noncomputable def b5y (CX:CXT) (X:Cx) (E:XK):Prop:=∀ (pins:List (Addr × Obj)) (σ:St) (H:Hp) (s:Shared) (e:Value) (s':Shared),Inv X pins σ H s→CX X.stack H s E e s'→X.xe e s'
section
variable {X:Cx} {CX:CXT} {k:Nat} {f C:Addr} {fd:FuncData} {ps:List Str} {sp:Sp} {dvs:List V} {ds:List Value} {E:XK} {x m:Str} {p pos apos:Pos} {e o:Expr} {es:List Expr} {ta:TE} {t:TA}
theorem b6W {pins:List (Addr × Obj)} {σ:St} {H:Hp} {s:Shared} {Q:VK} {us:List Value} {vs:List V} (F:FnOk X.prog X.w X.K X.mg X.base CX k f fd ps sp) (hr:Room k X.A) (hb:a0G X.K fd ps ds) (hd:Vals dvs ds) (hx:b5y CX X E)
  (I:Inv X pins σ H s) (r:Vals vs us) (h:sp (vs++dvs) H Q E):wpAny (model X.prog X.w) X.A (call (.ref f) us) (EP X pins σ Q) X.xe s:=by
 have r2:Vals (vs++dvs) (us++ds):=r.append hd
 have hl:(us++ds).length=ps.length:=by rw[← r2.length];exact F.len _ _ _ _ h
 refine wpAny_call (codeAny_mono (F.run X.A X.stack s H ⟨us,[]⟩ (us++ds) (vs++dvs) Q E hr I.env0 (hb s us I.kIn hl) r2 h) fun r s' hq=>?_)
 cases r with
 | error e=>exact hx pins σ H s e s' I hq
 | ok fl =>
   cases fl with
   | ret u=>exact I.after hq
   | next=>exact False.elim hq
   | brk=>exact False.elim hq
   | cont=>exact False.elim hq
theorem b8q (F:FnOk X.prog X.w X.K X.mg X.base CX k f fd ps sp) (hr:Room k X.A) (hg:Gl X x) (hm:X.mg x=some (.ref f)) (hk:PySem.W.keepIn X.K (.ref f)=true) (hb:a0G X.K fd ps ds) (hd:Vals dvs ds) (hx:b5y CX X E)
  (ha:PA X (e :: es) t) (hdb:(x == ("__debug__":Str))=false:=by decide) (he:starEach (e :: es) X.env=(false,eval e X.env) :: starEach es X.env:=by rfl) (hpl:(backTo pos (starEach es X.env)).any (·.1)=false:=by rfl) :
  PE X (.Call (.Name x p) (e :: es) [] pos) (c1D sp dvs E t):=by
 intro pins s σ H Q I h
 refine wpAny_Call_Name_kw (b4D I hg hm ?_ hdb)
 refine PySem.W.callWith_K (h₀:=X.base) I.ok.mod.kin hk (thn (ha pos pins s σ H _ I h) fun us s1 ⟨vs,H1,I1,r,q⟩=>⟨I1.kIn,?_⟩) he hpl
 exact b6W F hr hb hd hx I1 r q
end
section
variable {X:Cx} {CX:CXT} {k:Nat} {f C:Addr} {fd:FuncData} {ps ks:List Str} {sp:Sp} {E:XK} {x m:Str} {p pos apos kpos:Pos} {e o:Expr} {es:List Expr} {kws:List Keyword} {te ta:TE} {t tk:TA} {nm:Option Str}
variable {g:List Value→List Value→List Value} {gV:List V→List V→List V}
end
structure FnScope (N P:List Str) (sc:Scope):Prop where
 kind:sc.kind=.function
 co:sc.isCoroutine=false
 gen:sc.isGenerator=false
 nd:N.Nodup
 pre:N.take P.length=P
 par:∀ x∈P,sc.names.lookup x=some .local∨sc.names.lookup x=some .cell
 nofree:∀ y∈sc.names,y.2≠.free
theorem b0t {kindOf:Str→Option NameKind} {x:Str}:∀ {binds:List (Str × Value)} {m:Str→Option Value},(∀ v,(x,v) ∉ binds)→bindL kindOf binds m x=m x
 | [],_,_=>rfl
 | (n,v) :: r,m,h=>by
   unfold bindL
   rw[b0t fun w hw=>h w (List.mem_cons_of_mem _ hw)]
   split
   ·have:x≠n:=by rintro rfl;exact h v List.mem_cons_self
    simp [this]
   ·rfl
theorem b0v {kindOf:Str→Option NameKind} {x:Str}:∀ {binds:List (Str × Value)} {m:Str→Option Value},(∀ v,(x,v) ∉ binds)→bindC kindOf binds m x=m x
 | [],_,_=>rfl
 | (n,v) :: r,m,h=>by
   unfold bindC
   rw[b0v fun w hw=>h w (List.mem_cons_of_mem _ hw)]
   split
   ·rfl
   ·have:x≠n:=by rintro rfl;exact h v List.mem_cons_self
    simp [this]
theorem b0u {kindOf:Str→Option NameKind} {x:Str} {v:Value}:∀ {P:List Str} {vs:List Value} {i:Nat} {m:Str→Option Value},P.Nodup→P[i]?=some x→vs[i]?=some v→kindOf x=some .local →
  bindL kindOf (P.zip vs) m x=some v
 | [],_,_,_,_,h,_,_=>by simp at h
 | _ :: _,[],_,_,_,_,h,_=>by simp at h
 | p :: P,w :: vs,0,m,nd,h1,h2,hk=>by
   simp at h1 h2;subst h1;subst h2
   show bindL kindOf ((p,w) :: P.zip vs) m p=_
   unfold bindL
   rw[b0t fun v hv=>(List.nodup_cons.mp nd).1 (List.of_mem_zip hv).1,if_pos hk]
   simp
 | p :: P,w :: vs,i+1,m,nd,h1,h2,hk=>by
   show bindL kindOf ((p,w) :: P.zip vs) m x=_
   unfold bindL
   exact b0u (i:=i) (List.nodup_cons.mp nd).2 (by simpa using h1) (by simpa using h2) hk
theorem b0w {kindOf:Str→Option NameKind} {x:Str} {v:Value}:∀ {P:List Str} {vs:List Value} {i:Nat} {m:Str→Option Value},P.Nodup→P[i]?=some x→vs[i]?=some v→kindOf x≠some .local →
  bindC kindOf (P.zip vs) m x=some v
 | [],_,_,_,_,h,_,_=>by simp at h
 | _ :: _,[],_,_,_,_,h,_=>by simp at h
 | p :: P,w :: vs,0,m,nd,h1,h2,hk=>by
   simp at h1 h2;subst h1;subst h2
   show bindC kindOf ((p,w) :: P.zip vs) m p=_
   unfold bindC
   rw[b0v fun v hv=>(List.nodup_cons.mp nd).1 (List.of_mem_zip hv).1,if_neg hk]
   simp
 | p :: P,w :: vs,i+1,m,nd,h1,h2,hk=>by
   show bindC kindOf ((p,w) :: P.zip vs) m x=_
   unfold bindC
   exact b0w (i:=i) (List.nodup_cons.mp nd).2 (by simpa using h1) (by simpa using h2) hk
noncomputable def a6E (N:List Str) (vs:List V):St:=vs.map some++List.replicate (N.length - vs.length) none
noncomputable def cxOf (CX:CXT) (P:Program) (w:World) (K:PySem.W.Frag) (mg:Str→Option Value) (base:Heap) (N:List Str) (qual:Str) (scope:Scope) (f:Addr) (cd:Value) (A:Around) (outer:List Env) (s:Shared) (H:Hp) (E:XK):Cx where
 prog:=P
 w:=w
 K:=K
 mg:=mg
 base:=base
 A:=A.deeper (envOfC qual scope s.heap.objs.size f cd)
 N:=N
 s₀:=s
 H₀:=H
 env:=envOfC qual scope s.heap.objs.size f cd
 outer:=outer
 stack:=envOfC qual scope s.heap.objs.size f cd :: outer
 ex:=[]
 calm:=true
 fn:=fun _=>true
 pn:=[]
 xe:=fun e s'=>wpAny (model P w) (A.deeper (envOfC qual scope s.heap.objs.size f cd)) (leaving (envOfC qual scope s.heap.objs.size f cd) e) (fun _ s''=>CX outer H s E e s'') (fun e' s''=>CX outer H s E e' s'') s'
theorem b2p {sc:Scope} {n:Nat} {x:Str} (h:sc.names.lookup x=some .cell):∃ c,(cellsFrom n sc.names []).lookup x=some c:=by
 have q:=PySem.W.cellsFrom_some sc.names n [] (.inl h)
 exact Option.isSome_iff_exists.mp q
theorem b4M {CX:CXT} {P:Program} {w:World} {K:PySem.W.Frag} {mg:Str→Option Value} {base:Heap} {N ps:List Str} {qual:Str} {scope:Scope} {f:Addr} {cd:Value} {A:Around} {outer:List Env} {s s1:Shared} {H:Hp} {E:XK} {us:List Value} {vs:List V}
  (S:FnScope N ps scope) (hd:A.handled=none) (e0:Env0 P w K mg base A outer s H) (hl:vs.length=ps.length) (r:Vals vs us)
  (x:InCallC s s.heap.objs.size (bindL (envOfC qual scope s.heap.objs.size f cd).kindOf (ps.zip us) fun _=>none) (cellsFrom (s.heap.objs.size+1) scope.names []) (bindC (envOfC qual scope s.heap.objs.size f cd).kindOf (ps.zip us) fun _=>none) s1) :
  Inv (cxOf CX P w K mg base N qual scope f cd A outer s H E) [] (a6E N vs) H s1:=by
 have hpl:ps.length≤N.length:=by have:=congrArg List.length S.pre;rw[List.length_take] at this;lia
 obtain⟨h1,tk,rfl,hk⟩:=x.done
 have noA:∀ b:Addr,b ∉ (cxOf CX P w K mg base N qual scope f cd A outer s H E).ex:=fun b z=>absurd (show b∈([]:List Addr) from z) (by simp)
 refine⟨⟨e0.mod,S.kind,rfl,rfl,Nat.le_refl _,fun y z c h1 h2=>?_,fun y hy=>?_,fun y c _ h=>?_,fun _=>hd,Around.frames_deeper e0.frames,.inr ⟨rfl,rfl⟩,fun b z=>absurd z (noA b),e0.bs,e0.bsz,fun b _ _=>noA b,fun b z=>absurd z (noA b),e0.funs,e0.frf⟩,
  rfl,e0.bare,Un.kept hk,⟨_,x.toInCall.ns,fun i y v h1 h2 h3=>?_⟩,fun y c h=>⟨_,x.cell y c h⟩,e0.hok.fresh (Nat.le_refl _),fun y c h=>?_,fun p hp=>absurd (show p∈([]:List (Addr × Obj)) from hp) (by simp),e0.hok.kept hk,?_⟩
 ·exact name_of_addr x.apart (PySem.mem_of_lookup h1) (PySem.mem_of_lookup h2)
 ·have hy:scope.names.lookup y=some .cell∨scope.names.lookup y=some .free:=hy
  rcases hy with hy | hy
  ·exact b2p hy
  ·exact absurd rfl (S.nofree _ (PySem.mem_of_lookup hy))
 ·exact Nat.le_of_lt (x.above y c (PySem.mem_of_lookup h))
 ·have hi:i < vs.length:=by
   unfold a6E at h2
   by_cases hi:i < vs.length
   ·exact hi
   ·rw[List.getElem?_append_right (by simpa using hi)] at h2
    rw[List.getElem?_replicate] at h2
    split at h2<;>cases h2
  have ha:vs[i]?=some v:=by
   unfold a6E at h2
   rw[List.getElem?_append_left (by simpa using hi),List.getElem?_map] at h2
   cases e:vs[i]? with
   | none=>rw[e] at h2;cases h2
   | some a=>rw[e] at h2;cases h2;rfl
  obtain⟨u,hu,rv⟩:=r.get ha
  have hp:ps[i]?=some y:=by
   rw[← S.pre,List.getElem?_take_of_lt (by lia)];exact h1
  have ndP:ps.Nodup:=by rw[← S.pre];exact S.nd.sublist (List.take_sublist _ _)
  refine⟨u,rv,?_⟩
  rcases S.par y (List.mem_of_getElem? hp) with k | k
  ·exact .inl ⟨k,b0u ndP hp hu k⟩
  ·obtain⟨c,e⟩:=b2p (n:=s.heap.objs.size+1) k
   refine .inr ⟨.inl k,c,e,?_⟩
   have q:=x.cell y c e
   rw[b0w ndP hp hu (by show scope.names.lookup y≠_;rw[k];decide)] at q
   exact q
 ·exact e0.hok.fresh (Nat.le_of_lt (x.above y c (PySem.mem_of_lookup h)))
 ·unfold a6E
  show _=N.length
  rw[List.length_append,List.length_map,List.length_replicate]
  lia
theorem c2k {CX:CXT} {P:Program} {w:World} {K:PySem.W.Frag} {mg:Str→Option Value} {base:Heap} {k:Nat} {f:Addr} {name qual:Str} {params:Arguments} {body:List Stmt} {scope:Scope} {dV kV doc pm cdv ct oc:Value} {an od:Option Addr}
  {osl:Array (Option Value)} {N ps:List Str} {sp:Sp} (lk:K.lookup f=some ⟨oc,od,.func (PySem.W.fnOf name qual params body scope dV kV doc pm an cdv ct),osl⟩) (hcd:PySem.W.codeIn K cdv qual=true) (S:FnScope N ps scope)
  (len:∀ vs H Q E,sp vs H Q E→vs.length=ps.length)
  (hbody:∀ (A:Around) (outer:List Env) (s:Shared) (H:Hp) (vs:List V) (Q:VK) (E:XK),Room k (A.deeper (envOfC qual scope s.heap.objs.size f cdv))→sp vs H Q E →
   ∃ t,PSs (cxOf CX P w K mg base N qual scope f cdv A outer s H E) body t∧t { nx:=fun _ H'=>Q .non H',rt:=Q } (a6E N vs) H) :
  FnOk P w K mg base CX (k+1) f (PySem.W.fnOf name qual params body scope dV kV doc pm an cdv ct) ps sp:=by
 refine⟨len,fun A outer s H args us vs Q E hr e0 hb r hsp=>?_⟩
 have hl:=len _ _ _ _ hsp
 have KX:K.In s.heap:=e0.mod.kin.keeps fun b o e=>(e0.bs b o e).1
 have lim:s.heap.NoLimit:=e0.mod.nolimit.keeps fun b o e=>(e0.bs b o e).1
 have hkind:∀ y∈ps.zip us,scope.names.lookup y.1=some .local∨(scope.names.lookup y.1=some .cell∧((cellsFrom (s.heap.objs.size+1) scope.names []).lookup y.1).isSome=true):=fun ⟨n,v⟩ hy=>by
  rcases S.par n (List.of_mem_zip hy).1 with q | q
  ·exact .inl q
  ·exact .inr ⟨q,PySem.W.cellsFrom_some _ _ _ (.inl q)⟩
 refine codeAny_call_function hr.depth (KX _ _ lk) rfl S.co S.gen rfl (PySem.W.codeRec_of KX hcd) (hb _ _ _ _ ?_)
 refine wpAny_newFunctionEnv_cells S.kind hkind fun env he s1 x=>?_
 subst he
 refine⟨lim.keeps x.toInCall.keep,codeAny_func ?_⟩
 obtain⟨t,ht,hq⟩:=hbody A outer s H vs Q E (hr.deeper _) hsp
 have I:Inv (cxOf CX P w K mg base N qual scope f cdv A outer s H E) [] (a6E N vs) H s1:=b4M S hr.hd e0 hl r x
 refine wpAny_mono (ht [] s1 (a6E N vs) H _ I hq) (fun fl s' hs=>?_) fun e s' hs=>hs
 have fin:∀ {σ':St} {H':Hp} {v:V} {u:Value},Inv (cxOf CX P w K mg base N qual scope f cdv A outer s H E) [] σ' H' s'→RelV v u→Q v H'→CE outer P w H s Q u s' :=
  fun {σ' H' v u} J rv q=>⟨v,H',J.os,J.bare,J.base,J.hok,rv,q⟩
 cases fl with
 | ret u =>
   obtain⟨v,σ',H',J,rv,q⟩:=hs
   exact fin J rv q
 | next =>
   obtain⟨σ',H',J,q⟩:=hs
   exact fin (v:=V.non) (u:=Value.none) J rfl q
 | brk =>
   obtain⟨_,_,_,q⟩:=hs
   exact False.elim q
 | cont =>
   obtain⟨_,_,_,q⟩:=hs
   exact False.elim q
section
variable {X:Cx} {x:Str} {p pos:Pos} {e:Expr} {es:List Expr} {t:TA} {id T:String} {r:List V→Hp→VK→Prop}
noncomputable def tCB (r:List V→Hp→VK→Prop) (t:TA):TE:=fun σ H Q=>t σ H fun vs H1=>r vs H1 Q
theorem b6c (hc:a7k X (.builtin id) r) (hg:Gl X x) (hm:X.mg x=none) (hv:bootBuiltins x=some (.builtin id)) (ha:PA X (e :: es) t) (hn:x≠"__name__":=by decide) (hdb:(x == ("__debug__":Str))=false:=by decide)
  (he:starEach (e :: es) X.env=(false,eval e X.env) :: starEach es X.env:=by rfl) (hpl:(backTo pos (starEach es X.env)).any (·.1)=false:=by rfl):PE X (.Call (.Name x p) (e :: es) [] pos) (tCB r t):=by
 intro pins s σ H Q I h
 refine wpAny_Call_Name_kw (a6h I hg hm hv ?_ hn hdb)
 exact PyProof.Rows.callWith_builtin1 (thn (ha pos pins s σ H _ I h) fun us s1 ⟨vs,H1,I1,r1,q1⟩=>hc pins s1 σ H1 vs us Q I1 r1 q1) he hpl
theorem b4k (hc:a7k X (.type T) r) (hg:Gl X x) (hm:X.mg x=none) (hv:bootBuiltins x=some (.type T)) (ha:PA X (e :: es) t) (hn:x≠"__name__":=by decide) (hdb:(x == ("__debug__":Str))=false:=by decide)
  (he:starEach (e :: es) X.env=(false,eval e X.env) :: starEach es X.env:=by rfl) (hpl:(backTo pos (starEach es X.env)).any (·.1)=false:=by rfl):PE X (.Call (.Name x p) (e :: es) [] pos) (tCB r t):=by
 intro pins s σ H Q I h
 refine wpAny_Call_Name_kw (a6h I hg hm hv ?_ hn hdb)
 exact PyProof.Rows.callWith_type1 (thn (ha pos pins s σ H _ I h) fun us s1 ⟨vs,H1,I1,r1,q1⟩=>hc pins s1 σ H1 vs us Q I1 r1 q1) he hpl
end
end L2
namespace HT
open PySem PyProof.Rows
section
open PySem.SeqAt
open PySem.AutoSeq1 (wpAny_loadPart')
open PySem.MeetsSeq PySem.MeetsSeq2 PySem.MeetsSeq3
end
section
variable {prog:Program} {w:World} {A:Around} {E:Value→Shared→Prop} {s:Shared}
theorem cat_tup {t b:Addr} {vs ws:List Value} {Q:Value→Shared→Prop} (ht:IsTup s.heap t vs.toArray) (hb:IsTup s.heap b ws.toArray) (hv:vs≠[])
  (h1:ws=[]→Q (.ref t) s) (h2:ws≠[]→Q (.ref s.heap.objs.size) { s with heap:=s.heap.push { cls:=.type "tuple",data:=.seq (vs++ws).toArray } })
  (hsz:vs.length+ws.length≤sizeLine):wpAny (model prog w) A (binaryOp .Add (.ref t) (.ref b)) Q E s:=by
 obtain⟨⟨cls,dd,data,sl⟩,ho,hc,n,hd⟩:=id ht
 obtain⟨⟨cls2,dd2,data2,sl2⟩,ho2,hc2,n2,hd2⟩:=id hb
 simp only at hc hd hc2 hd2
 subst hc hd hc2 hd2
 have e:vs.toArray++ws.toArray=(vs++ws).toArray:=by simp
 by_cases hw:ws=[]
 ·exact concat_meets ⟨_,ho,rfl⟩ ⟨_,ho2,rfl⟩ noFill_tuple_add seq_tuple_add PySem.F.slot_tuple_add PySem.F.entry_tuple_add (PySem.F.args_tuple_add_2 _ _)
   (tuple_addW1 t b vs.toArray ws.toArray n n2 dd dd2 sl sl2 (by simpa using hv) (by simp [hw])) ⟨ho,ho2,h1 hw⟩
 ·refine concat_meets ⟨_,ho,rfl⟩ ⟨_,ho2,rfl⟩ noFill_tuple_add seq_tuple_add PySem.F.slot_tuple_add PySem.F.entry_tuple_add (PySem.F.args_tuple_add_2 _ _)
   (tuple_addW2 t b vs.toArray ws.toArray n n2 dd dd2 sl sl2 (by simpa using hv) (by simpa using hw) (by rw[List.size_toArray,List.size_toArray];exact hsz)) ⟨ho,ho2,?_⟩
  rw[e]
  exact h2 hw
noncomputable def sIx (n d:Nat):Option Int→Nat
 | none=>d
 | some v=>if v < 0 then (v+(n:Int)).toNat else min v.toNat n
theorem sIx_none (n d:Nat):sIx n d none=d:=rfl
theorem sIx_nat (n d k:Nat):sIx n d (some (k:Int))=min k n:=by
 show (if (k:Int) < 0 then ((k:Int)+(n:Int)).toNat else min (k:Int).toNat n)=min k n
 rw[if_neg (by lia),Int.toNat_natCast]
theorem b9S (n d:Nat) (hd:d≤n) (o:Option Int):sIx n d o≤n:=by
 cases o with
 | none=>exact hd
 | some v =>
   show (if v < 0 then (v+(n:Int)).toNat else min v.toNat n)≤n
   by_cases hv:v < 0
   ·rw[if_pos hv];lia
   ·rw[if_neg hv];exact Nat.min_le_right _ _
theorem b5l (v:Int) (n d:Nat):(if v < 0 then max (v+(n:Int)) 0 else min v (n:Int))=((sIx n d (some v):Nat):Int):=by
 show (if v < 0 then max (v+(n:Int)) 0 else min v (n:Int))=(((if v < 0 then (v+(n:Int)).toNat else min v.toNat n):Nat):Int)
 by_cases hv:v < 0
 ·simp only[if_pos hv];lia
 ·simp only[if_neg hv];lia
theorem b3s (lo hi:Option Int) (n:Nat):Builtin.Slice.sliceAdjust lo hi 1 (n:Int)=(((sIx n 0 lo:Nat):Int),((sIx n n hi:Nat):Int)):=by
 have h1:¬((1:Int) < 0):=by lia
 unfold Builtin.Slice.sliceAdjust
 simp only[h1,if_false]
 refine Prod.ext ?_ ?_
 ·cases lo with
  | none=>rfl
  | some v=>exact b5l v n 0
 ·cases hi with
  | none=>rfl
  | some v=>exact b5l v n n
theorem b2K (i j:Nat):Builtin.Slice.slicePlaces (i:Int) (j:Int) 1=j - i:=by
 unfold Builtin.Slice.slicePlaces
 have h1:(1:Int) > 0:=by lia
 simp only[h1,if_true,Int.ediv_one]
 split<;>lia
theorem a7C {v:Value} {o:Option Int} {Q:Option Int→Shared→Prop} (p:IsPart v o) (h:Q o s):wpAny (model prog w) A (Builtin.Slice.slicePartIndex v) Q E s:=by
 cases p with
 | none=>exact slicePart_none h
 | int i t=>exact slicePart_int h
theorem a4a {sl:Addr} {vl vu:Value} {lo hi:Option Int} {n:Nat} {Q:Int × Int × Nat→Shared→Prop} (hs:s.heap.IsSliceOf sl vl vu .none) (pl:IsPart vl lo) (pu:IsPart vu hi)
  (h:Q (((sIx n 0 lo:Nat):Int),1,sIx n n hi - sIx n 0 lo) s):wpAny (model prog w) A (Builtin.Slice.sliceApplied (.ref sl) (pure (n:Int))) Q E s:=by
 obtain⟨os,hos,hcs,hds⟩:=id hs
 unfold Builtin.Slice.sliceApplied Builtin.Slice.sliceFields
 refine wpAny_bind (wpAny_bind (wpAny_field hos hds (x:=vl) rfl (wpAny_bind (wpAny_field hos hds (x:=vu) rfl (wpAny_bind (wpAny_field hos hds (x:=.none) rfl (wpAny_pure ?_)))))))
 refine wpAny_bind (slicePart_none ?_)
 show wpAny _ _ (if ((1:Int) == 0)=true then _ else _) _ _ s
 rw[if_neg (by decide)]
 refine wpAny_bind (a7C pl (wpAny_bind (a7C pu (wpAny_bind (wpAny_pure ?_)))))
 show wpAny _ _ (match Builtin.Slice.sliceAdjust lo hi 1 (n:Int) with | (lo,hi)=>pure (lo,(1:Int),Builtin.Slice.slicePlaces lo hi 1)) _ _ s
 rw[b3s lo hi n]
 show wpAny _ _ (pure (((sIx n 0 lo:Nat):Int),(1:Int),Builtin.Slice.slicePlaces ((sIx n 0 lo:Nat):Int) ((sIx n n hi:Nat):Int) 1)) _ _ s
 rw[b2K]
 exact wpAny_pure h
theorem b5W (xs:Array Value) (i k:Nat):((List.range k).filterMap fun (m:Nat)=>xs[((i:Int)+(m:Int)*1).toNat]?).toArray=((xs.toList.drop i).take k).toArray:=by
 have e:(fun (m:Nat)=>xs[((i:Int)+(m:Int)*1).toNat]?)=fun m=>xs[i+m]?:=by
  funext m
  have:((i:Int)+(m:Int)*1).toNat=i+m:=by lia
  rw[this]
 rw[e]
 have:=pick_run xs i k
 rw[List.filterMap_map] at this
 have e2:((fun x=>xs[x]?) ∘ fun x=>i+x)=fun m=>xs[i+m]?:=rfl
 rw[e2] at this
 rw[this]
theorem getItem_tuple_cut {t sl:Addr} {items:Array Value} {vl vu:Value} {lo hi:Option Int} {Q:Value→Shared→Prop} (ht:IsTup s.heap t items) (hs:s.heap.IsSliceOf sl vl vu .none) (pl:IsPart vl lo) (pu:IsPart vu hi)
  (hw:¬(sIx items.size 0 lo=0∧sIx items.size items.size hi=items.size))
  (h:Q (.ref s.heap.objs.size) { s with heap:=s.heap.push { cls:=.type "tuple",data:=.seq ((items.toList.drop (sIx items.size 0 lo)).take (sIx items.size items.size hi - sIx items.size 0 lo)).toArray } })
  (hsz:items.size≤sizeLine):wpAny (model prog w) A (getItem (.ref t) (.ref sl)) Q E s:=by
 have htake:sizeOk (.seq ((items.toList.drop (sIx items.size 0 lo)).take (sIx items.size items.size hi - sIx items.size 0 lo)).toArray):=by
  show ((items.toList.drop (sIx items.size 0 lo)).take (sIx items.size items.size hi - sIx items.size 0 lo)).toArray.size≤sizeLine
  rw[List.size_toArray,List.length_take,List.length_drop,Array.length_toList]
  lia
 have hj:sIx items.size items.size hi≤items.size:=b9S _ _ (Nat.le_refl _) hi
 obtain⟨os,hos,hcs,hds⟩:=id hs
 have hTs:s.TypeIs (.ref sl) "slice":=⟨os,hos,hcs⟩
 unfold getItem
 try with_reducible refine wpAny_holding ?_
 first | refine wpAny_bind (wpAny_pure ?_) | skip
 refine wpAny_bind (wpAny_sequenceKey ht.typeIs (by decide) ?_)
 refine wpAny_bind (wpAny_callSpecial?_slot (name:=Str.ofString "__getitem__") ht.typeIs PyProof.Rows.slot_tuple_getitem
  (wpAny_call_entry PyProof.Rows.slot_tuple_getitem ht.typeIs entry_tuple_getitem ?_ (args_tuple_getitem _ _)))
 show wpAny _ _ (Builtin.Tuple.tupleItemsOf (.ref t) >>= _) _ _ s
 refine wpAny_bind (tupleItemsOf_ ht ?_)
 refine wpAny_bind (wpAny_typeOf hTs ?_)
 rw[if_pos (by decide)]
 refine wpAny_bind (a4a hs pl pu ?_)
 have hno:¬((((sIx items.size 0 lo:Nat):Int) == 0 && (1:Int) == 1 && (sIx items.size items.size hi - sIx items.size 0 lo) == items.size)=true):=by
  intro q
  rw[Bool.and_eq_true,Bool.and_eq_true] at q
  have q1:((sIx items.size 0 lo:Nat):Int)=0:=eq_of_beq q.1.1
  have q2:sIx items.size items.size hi - sIx items.size 0 lo=items.size:=eq_of_beq q.2
  exact hw ⟨by lia,by lia⟩
 show wpAny _ _ (if (((sIx items.size 0 lo:Nat):Int) == 0 && (1:Int) == 1 && (sIx items.size items.size hi - sIx items.size 0 lo) == items.size)=true then _ else _) _ _ s
 rw[if_neg hno,b5W]
 first
  | exact wpAny_bind (m:=Builtin.Tuple.tupleExact _) (wpAny_newObj_type (wpAny_pure ⟨_,rfl,wpAny_pure h⟩) htake)
  | exact wpAny_bind (m:=Builtin.Tuple.tupleExact _) (wpAny_newObj_type (wpAny_bind (wpAny_pure (wpAny_pure ⟨_,rfl,wpAny_pure h⟩))) htake)
  | exact wpAny_bind (wpAny_bind (m:=Builtin.Tuple.tupleExact _) (wpAny_newObj_type (wpAny_pure (wpAny_pure ⟨_,rfl,wpAny_pure h⟩)) htake))
  | exact wpAny_bind (wpAny_bind (m:=Builtin.Tuple.tupleExact _) (wpAny_newObj_type (wpAny_pure ⟨_,rfl,wpAny_pure h⟩) htake))
end
end HT
namespace L2
open PySem PySem.Spec PyProof.Rows
noncomputable abbrev TO:=St→Hp→(Option Int→Hp→Prop)→Prop
noncomputable def PO (X:Cx) (e:Option Expr) (t:TO):Prop :=
 ∀ (pins:List (Addr × Obj)) (s:Shared) (σ:St) (H:Hp) (Q:Option Int→Hp→Prop),Inv X pins σ H s→t σ H Q →
   wpAny (model X.prog X.w) X.A (evalPart e X.env) (fun u s'=>∃ o H',Inv X pins σ H' s'∧IsPart u o∧Q o H') X.xe s
noncomputable def b7E:TO:=fun _ H Q=>Q none H
noncomputable def c1y (t:TE):TO:=fun σ H Q=>t σ H fun x H1=>∃ i,x=.int i∧Q (some i) H1
theorem b3h {ns:List Int}:∀ {us:List Value},Vals (ns.map V.int) us→IntsAre us ns:=by
 induction ns with
 | nil=>intro us r;rw[List.map_nil] at r;cases r;exact .nil
 | cons n ns ih =>
   intro us r
   rw[List.map_cons] at r
   cases r with
   | cons r1 r2 =>
     obtain⟨t,e⟩:=r1
     subst e
     exact .cons n t (ih r2)
section
variable {X:Cx} {e:Expr} {te:TE} {lo hi:Option Expr} {tl th:TO} {pos p2:Pos}
theorem b8k:PO X none b7E:=by
 intro pins s σ H Q I h
 rw[evalPart_none]
 exact wpAny_pure ⟨none,H,I,.none,h⟩
theorem b8j (h:PE X e te):PO X (some e) (c1y te):=by
 intro pins s σ H Q I hw
 rw[evalPart_some]
 refine thn (h pins s σ H _ I hw) fun u s1 ⟨x,H1,I1,r1,q1⟩=>?_
 obtain⟨i,rfl,q⟩:=q1
 obtain⟨t,rfl⟩:=r1
 exact⟨some i,H1,I1,.int i t,q⟩
noncomputable def SlR (X:Cx) (r:V→Option Int→Option Int→Hp→VK→Prop):Prop :=
 ∀ (pins:List (Addr × Obj)) (s:Shared) (σ:St) (H:Hp) (x:V) (v vl vu:Value) (lo hi:Option Int) (sl:Addr) (Q:VK),Inv X pins σ H s→RelV x v→s.heap.IsSliceOf sl vl vu .none→IsPart vl lo→IsPart vu hi→r x lo hi H Q →
   ∃ T id,typeLookup (.type T) "__getitem__"=pure (some (.builtin id))∧s.TypeIs v T∧wpAny (model X.prog X.w) X.A (getItem v (.ref sl)) (EP X pins σ Q) X.xe s
theorem SlR.or {r r':V→Option Int→Option Int→Hp→VK→Prop} (h:SlR X r) (h':SlR X r'):SlR X (fun x lo hi H Q=>r x lo hi H Q∨r' x lo hi H Q):=by
 intro pins s σ H x v vl vu lo hi sl Q I rx hs pl pu q
 rcases q with q | q
 ·exact h pins s σ H x v vl vu lo hi sl Q I rx hs pl pu q
 ·exact h' pins s σ H x v vl vu lo hi sl Q I rx hs pl pu q
noncomputable def tSl (r:V→Option Int→Option Int→Hp→VK→Prop) (te:TE) (tl th:TO):TE:=fun σ H Q=>te σ H fun x H1=>tl σ H1 fun l H2=>th σ H2 fun u H3=>r x l u H3 Q
theorem b5X {r:V→Option Int→Option Int→Hp→VK→Prop} (hr:SlR X r) (he:PE X e te) (hl:PO X lo tl) (hu:PO X hi th):PE X (.Subscript e (.Slice lo hi none p2) pos) (tSl r te tl th):=by
 intro pins s σ H Q I h
 refine Subscript_ (thn (he pins s σ H _ I h) fun v s1 ⟨x,H1,I1,r1,q1⟩=>?_)
 refine wpAny_Slice (thn (hl pins s1 σ H1 _ I1 q1) fun vl s2 ⟨l,H2,I2,pl,q2⟩=>thn (hu pins s2 σ H2 _ I2 q2) fun vu s3 ⟨u,H3,I3,pu,q3⟩=>?_)
 rw[evalPart_none]
 refine wpAny_pure ?_
 have I4:Inv X pins σ H3 { s3 with heap:=s3.heap.push { cls:=.type "slice",data:=.fields #[vl,vu,.none] } }:=I3.kept (t':=s3.toks) fun b ob q=>Heap.get?_push_of_some _ q
 obtain⟨T,id,hT,ht,hg⟩:=hr pins { s3 with heap:=s3.heap.push { cls:=.type "slice",data:=.fields #[vl,vu,.none] } } σ H3 x v vl vu l u s3.heap.objs.size Q I4 r1 (Heap.IsSliceOf.new ..) pl pu q3
 show wpAny (model X.prog X.w) X.A (subscriptTail e (.Slice lo hi none p2) v (.ref s3.heap.objs.size)) (EP X pins σ Q) X.xe { s3 with heap:=s3.heap.push { cls:=.type "slice",data:=.fields #[vl,vu,.none] } }
 exact tail_any (ops:=[.ref s3.heap.objs.size,v]) ht hT hg (by with_unfolding_all rfl)
noncomputable def cutV (xs:List V) (lo hi:Option Int):List V:=(xs.drop (HT.sIx xs.length 0 lo)).take (HT.sIx xs.length xs.length hi - HT.sIx xs.length 0 lo)
theorem a7c (xs:List V) (lo hi:Option Int):(cutV xs lo hi).length≤xs.length:=by
 unfold cutV
 rw[List.length_take,List.length_drop]
 lia
noncomputable def rSlT (K:PySem.W.Frag):V→Option Int→Option Int→Hp→VK→Prop:=fun x lo hi H Q=>∃ a xs,x=.ref a∧SqT K H a xs ∧
 ¬(HT.sIx xs.length 0 lo=0∧HT.sIx xs.length xs.length hi=xs.length)∧∀ p,H p=none→Q (.ref p) (upd H p (.tup (cutV xs lo hi)))
theorem b9L:SlR X (rSlT X.K):=by
 intro pins s σ H x v vl vu lo hi sl Q I rx hs pl pu h
 obtain⟨a,xs,rfl,hx,hw,q⟩:=h
 cases rx
 obtain⟨its,r,ht,hz⟩:=I.tuple hx
 have hlen:its.toArray.size=xs.length:=by rw[List.size_toArray];exact r.length.symm
 refine⟨"tuple",_,PyProof.Rows.slot_tuple_getitem.lookup,ht.typeIs,?_⟩
 refine HT.getItem_tuple_cut ht hs pl pu (by rw[hlen];exact hw) ?_ (by rw[hlen];exact hz)
 rw[hlen]
 refine⟨.ref s.heap.objs.size,_,I.laid (t':=s.toks) (o:=.tup (cutV xs lo hi)) (fun b ob q=>Heap.get?_push_of_some _ q) (Nat.le_refl _) ?_,rfl,q _ (I.hok.fresh (Nat.le_refl _))⟩
 exact⟨Nat.le_trans (a7c xs lo hi) hz,_,(r.drop (HT.sIx xs.length 0 lo)).take (HT.sIx xs.length xs.length hi - HT.sIx xs.length 0 lo),a2R.new _ _⟩
noncomputable def c1O (K:PySem.W.Frag):R2:=fun x y H Q=>∃ a b xs ys,x=.ref a∧y=.ref b∧SqT K H a xs∧SqT K H b ys∧xs≠[]∧xs.length+ys.length≤sizeLine ∧
 (ys=[]→Q (.ref a) H)∧(ys≠[]→∀ p,H p=none→Q (.ref p) (upd H p (.tup (xs++ys))))
theorem Vals.nil_iff {xs:List V} {us:List Value} (r:Vals xs us):us=[]↔xs=[]:=by
 cases r with
 | nil=>simp
 | cons _ _=>simp
theorem b4n:OpR X (binaryOp .Add) (c1O X.K):=by
 intro pins s σ H x y v u Q I rx ry h
 obtain⟨a,b,xs,ys,rfl,rfl,ha,hb,hx,hz,q1,q2⟩:=h
 cases rx
 cases ry
 obtain⟨its,r1,p1,_⟩:=I.tuple ha
 obtain⟨its2,r2,p2,_⟩:=I.tuple hb
 refine HT.cat_tup p1 p2 (fun z=>hx (r1.nil_iff.mp z)) (fun z=>⟨.ref a,H,I,rfl,q1 (r2.nil_iff.mp z)⟩) (fun z=>?_) (by rw[← r1.length,← r2.length];exact hz)
 refine⟨.ref s.heap.objs.size,_,I.laid (t':=s.toks) (o:=.tup (xs++ys)) (fun b ob q=>Heap.get?_push_of_some _ q) (Nat.le_refl _) ?_,rfl,q2 (fun w=>z (r2.nil_iff.mpr w)) _ (I.hok.fresh (Nat.le_refl _))⟩
 exact⟨by rw[List.length_append];exact hz,_,r1.append r2,a2R.new _ _⟩
end
noncomputable def ixN (n:Nat) (i:Int):Option Nat:=if 0≤i then (if i < n then some i.toNat else none) else if -(n:Int)≤i then some (i+n).toNat else none
noncomputable def atI {α:Type} (xs:List α) (i:Int):Option α:=(ixN xs.length i).bind fun j=>xs[j]?
theorem b4J {n:Nat} {i:Int} {j:Nat} (h:ixN n i=some j):seqIndex? i n=some j∧j < n∧-(n:Int)≤i∧i < n:=by
 unfold ixN at h
 by_cases h0:0≤i
 ·rw[if_pos h0] at h
  by_cases h1:i < n
  ·rw[if_pos h1] at h
   have e:i.toNat=j:=Option.some.inj h
   exact⟨by rw[seqIndex_of h0 h1,e],by lia,by lia,h1⟩
  ·rw[if_neg h1] at h;cases h
 ·rw[if_neg h0] at h
  by_cases h1:-(n:Int)≤i
  ·rw[if_pos h1] at h
   have e:(i+n).toNat=j:=Option.some.inj h
   exact⟨by rw[seqIndex_neg (by lia) h1,e],by lia,h1,by lia⟩
  ·rw[if_neg h1] at h;cases h
theorem b1r {α:Type} {xs:List α} {i:Int} {v:α} (h:atI xs i=some v):∃ j,seqIndex? i xs.length=some j∧xs[j]?=some v∧j < xs.length∧-(xs.length:Int)≤i∧i < xs.length:=by
 unfold atI at h
 cases e:ixN xs.length i with
 | none=>rw[e] at h;cases h
 | some j =>
   rw[e] at h
   obtain⟨h1,h2,h3,h4⟩:=b4J e
   exact⟨j,h1,h,h2,h3,h4⟩
theorem a5k {α:Type} {xs:List α} {j:Nat} {v:α} (h:xs[j]?=some v):atI xs (j:Int)=some v:=by
 have hj:j < xs.length:=(List.getElem?_eq_some_iff.mp h).1
 have e:ixN xs.length (j:Int)=some j:=by
  unfold ixN
  rw[if_pos (by lia),if_pos (by lia)];simp
 unfold atI;rw[e];exact h
theorem a8V {α:Type} (xs:List α) (v:α):atI (xs++[v]) (-1)=some v:=by
 have hl:(xs++[v]).length=xs.length+1:=by simp
 have e:ixN (xs++[v]).length (-1)=some xs.length:=by
  unfold ixN
  rw[hl,if_neg (by decide),if_pos (by lia)]
  congr 1
  lia
 unfold atI
 rw[e]
 show (xs++[v])[xs.length]?=some v
 simp
noncomputable def b5x (b:Expr):Prop:=∀ o i,subscripted b false o i=operate [o,i] (getItem o i)
noncomputable def IxR (X:Cx) (r:R2):Prop :=
 ∀ (value slice:Expr) (pins:List (Addr × Obj)) (s:Shared) (σ:St) (H:Hp) (x y:V) (v u:Value) (Q:VK),Inv X pins σ H s→RelV x v→RelV y u→r x y H Q →
   subscripted slice false v u=operate [v,u] (getItem v u)→wpAny (model X.prog X.w) X.A (subscriptTail value slice v u) (EP X pins σ Q) X.xe s
noncomputable def MtR (X:Cx) (id:String) (r:V→List V→Hp→VK→Prop):Prop :=
 ∀ (pins:List (Addr × Obj)) (s:Shared) (σ:St) (H:Hp) (x:V) (xs:List V) (v:Value) (us:List Value) (Q:VK),Inv X pins σ H s→RelV x v→Vals xs us→r x xs H Q →
   wpAny (model X.prog X.w) X.A (call (.builtin id) (v :: us)) (EP X pins σ Q) X.xe s
section
variable {X:Cx} {a b:Expr} {ta tb:TE} {pos:Pos}
theorem c1U {r:R2} (hr:IxR X r) (ha:PE X a ta) (hb:PE X b tb) (hs:b5x b):PE X (.Subscript a b pos) (tOp r ta tb):=by
 intro pins s σ H Q I h
 exact Subscript_ (binT ha hb I h fun v u s2 x y H2 I2 rx ry q=>hr a b pins s2 σ H2 x y v u Q I2 rx ry q (hs _ _))
noncomputable def rIxL (K:PySem.W.Frag):R2:=fun x y H Q=>∃ p xs i v,x=.ref p∧y=.int i∧SqL K H p xs∧atI xs i=some v∧Q v H
noncomputable def rIxT (K:PySem.W.Frag):R2:=fun x y H Q=>∃ p xs i v,x=.ref p∧y=.int i∧SqT K H p xs∧atI xs i=some v∧Q v H
noncomputable def rIxS:R2:=fun x y H Q=>∃ z i c,x=.str z∧y=.int i∧z.length≤sizeLine∧atI z.cps.toList i=some c∧Q (.str ⟨#[c]⟩) H
theorem b4I:IxR X (rIxL X.K):=by
 intro value slice pins s σ H x y v u Q I rx ry h hs
 obtain⟨p,xs,i,z,rfl,rfl,hq,he,q⟩:=h
 cases rx
 obtain⟨t,rfl⟩:=ry
 obtain⟨its,r,pl,hz⟩:=I.list hq
 obtain⟨j,h1,h2,h3,h4,h5⟩:=b1r he
 obtain⟨w,ew,rw'⟩:=r.get h2
 have hl:=r.length
 have hn:=a6R
 have fin:EP X pins σ Q w s:=⟨z,H,I,rw',q⟩
 by_cases h0:0≤i
 ·have hj:i.toNat=j:=by
   rw[seqIndex_of h0 h5] at h1
   exact Option.some.inj h1
  exact item_listR pl.isList h0 (by lia) (by rw[hj];simpa using ew) fin hs
 ·have hj:(i+(its.toArray.size:Int)).toNat=j:=by
   rw[seqIndex_neg (by lia) h4] at h1
   rw[List.size_toArray,← hl]
   exact Option.some.inj h1
  exact subscriptTail_builtinR (x:=w) pl.isList.typeIs slot_list_getitem.lookup
   (wpAny_getItem_list_neg (Q:=fun r s'=>r=w∧EP X pins σ Q r s') pl.isList (by lia) (by rw[List.size_toArray]<;>lia) (by lia) (by rw[hj];simpa using ew) ⟨rfl,fin⟩) hs
theorem c0P:IxR X (rIxT X.K):=by
 intro value slice pins s σ H x y v u Q I rx ry h hs
 obtain⟨p,xs,i,z,rfl,rfl,hq,he,q⟩:=h
 cases rx
 obtain⟨t,rfl⟩:=ry
 obtain⟨its,r,pl,hz⟩:=I.tuple hq
 obtain⟨j,h1,h2,h3,h4,h5⟩:=b1r he
 obtain⟨w,ew,rw'⟩:=r.get h2
 have hl:=r.length
 have hn:=a6R
 have fin:EP X pins σ Q w s:=⟨z,H,I,rw',q⟩
 exact subscriptTail_builtinR (x:=w) pl.typeIs slot_tuple_getitem.lookup
  (getItem_tuple (j:=j) (Q:=fun r s'=>r=w∧EP X pins σ Q r s') pl (by lia) (by lia) (by rw[List.size_toArray,← hl];exact h1) (by simpa using ew) ⟨rfl,fin⟩) hs
theorem c0Q:IxR X rIxS:=by
 intro value slice pins s σ H x y v u Q I rx ry h hs
 obtain⟨z,i,c,rfl,rfl,hz,he,q⟩:=h
 obtain⟨t,rfl⟩:=rx
 obtain⟨t',rfl⟩:=ry
 obtain⟨j,h1,h2,h3,h4,h5⟩:=b1r he
 have hl:z.cps.toList.length=z.length:=by simp [Str.length]
 rw[hl] at h1 h4 h5
 have hn:=a6R
 exact tail_any (typeIs_str s z t) slot_str_getitem.lookup (getItem_str (c:=c) (by
  have e1:decide (i < -(2 ^ 63:Int))=false:=decide_eq_false (by lia)
  have e2:decide (i ≥ 2 ^ 63)=false:=decide_eq_false (by lia)
  rw[e1,e2,Bool.or_false]) (by rw[h1];simpa using h2) ⟨.str ⟨#[c]⟩,H,I.tok _,⟨_,rfl⟩,q⟩) hs
theorem b2Z (its:List Value) (n j:Nat) (u:Value):Obj.mapSeq (·.setIfInBounds j u) { cls:=.type "list",data:=.seq its.toArray n }={ cls:=.type "list",data:=.seq (its.set j u).toArray n }:=by
 simp [Obj.mapSeq]
theorem Inv.lst {pins:List (Addr × Obj)} {σ:St} {H:Hp} {s:Shared} {p:Addr} {xs:List V} (I:Inv X pins σ H s) (h:H p=some (.lst xs)) :
  ∃ (its:List Value) (n:Nat),Vals xs its∧s.heap.get? p=some { cls:=.type "list",data:=.seq its.toArray n }∧xs.length≤sizeLine:=by
 obtain⟨z,its,n,r,e⟩:=I.hok p _ h
 exact⟨its,n,r,e,z⟩
theorem Inv.lstUpd {pins:List (Addr × Obj)} {σ:St} {H:Hp} {s:Shared} {p:Addr} {xs ys:List V} {its its':List Value} {n n':Nat} {f:Obj→Obj} (I:Inv X pins σ H s) (h:H p=some (.lst xs))
  (ho:s.heap.get? p=some { cls:=.type "list",data:=.seq its.toArray n }) (hf:f { cls:=.type "list",data:=.seq its.toArray n }={ cls:=.type "list",data:=.seq its'.toArray n' }) (r:Vals ys its') (hz:ys.length≤sizeLine) (t:Nat) :
  Inv X pins σ (upd H p (.lst ys)) { s with heap:=s.heap.update p f,toks:=t }:=by
 have e:(s.heap.update p f).get? p=some { cls:=.type "list",data:=.seq its'.toArray n' }:=by
  rw[Heap.get?_update_self f ho (by rw[hf]<;>rfl),hf]
 refine I.write (x:=p) (e:=p) (by rw[h];trivial) (.inl rfl) (fun b u hb q=>(Heap.get?_update_other _ _ (Ne.symm hb)).trans q) ⟨_,e⟩ ?_
 exact⟨hz,its',n',r,e⟩
noncomputable def c1M:V→V→V→Hp→(Hp→Prop)→Prop:=fun o i v H Q=>∃ p xs k j,o=.ref p∧i=.int k∧H p=some (.lst xs)∧ixN xs.length k=some j∧Q (upd H p (.lst (xs.set j v)))
theorem b5G:PSet X c1M:=by
 intro pins s σ H o i v ov iv u Q I ro ri rv h
 obtain⟨p,xs,k,j,rfl,rfl,hp,hj,q⟩:=h
 cases ro
 obtain⟨t,rfl⟩:=ri
 obtain⟨its,n,r,ho,hz⟩:=I.lst hp
 obtain⟨h1,h2,h3,h4⟩:=b4J hj
 have hl:=r.length
 have hn:=a6R
 have I':Inv X pins σ (upd H p (.lst (xs.set j v))) { s with heap:=s.heap.update p (Obj.mapSeq (·.setIfInBounds j u)) } :=
  I.lstUpd hp ho (b2Z its n j u) (r.set rv j) (by rw[List.length_set];exact hz) s.toks
 by_cases h0:0≤k
 ·have hk:k.toNat=j:=by
   rw[seqIndex_of h0 h4] at h1
   exact Option.some.inj h1
  exact PySem.W.ki_setAt ho h0 (by lia) (by rw[List.size_toArray,← hl];exact h4) (by rw[hk];exact⟨_,I',q⟩)
 ·have hk:(k+(its.toArray.size:Int)).toNat=j:=by
   rw[seqIndex_neg (by lia) h3] at h1
   rw[List.size_toArray,← hl]
   exact Option.some.inj h1
  exact PySem.W.ki_setBack ho (by lia) (by rw[List.size_toArray,← hl];exact h3) (by lia) (by rw[hk];exact⟨_,I',q⟩)
theorem a9e (lo hi:Option Int) (n:Nat):(sliceBounds lo hi none n).1=((HT.sIx n 0 lo:Nat):Int)∧(sliceBounds lo hi none n).2.1=((HT.sIx n n hi:Nat):Int)∧(sliceBounds lo hi none n).2.2=1:=by
 refine⟨?_,?_,rfl⟩
 ·cases lo with
  | none=>simp [sliceBounds,HT.sIx]
  | some i =>
    simp only[sliceBounds,HT.sIx,Option.getD_none,show (1:Int) > 0 by decide,if_true]
    by_cases h:i < 0
    ·simp only[h,if_true]<;>lia
    ·simp only[h,if_false]<;>lia
 ·cases hi with
  | none=>simp [sliceBounds,HT.sIx]
  | some i =>
    simp only[sliceBounds,HT.sIx,Option.getD_none,show (1:Int) > 0 by decide,if_true]
    by_cases h:i < 0
    ·simp only[h,if_true]<;>lia
    ·simp only[h,if_false]<;>lia
theorem a8f (its:List Value) (lo hi:Option Int):slicePick its.toArray lo hi none=((its.drop (HT.sIx its.length 0 lo)).take (HT.sIx its.length its.length hi - HT.sIx its.length 0 lo)).toArray:=by
 obtain⟨h1,h2,h3⟩:=a9e lo hi its.toArray.size
 unfold slicePick
 rw[h1,h2,h3]
 simp only[sliceRange_one,pick_run,List.size_toArray]<;>rfl
noncomputable def rSlL (K:PySem.W.Frag):V→Option Int→Option Int→Hp→VK→Prop:=fun x lo hi H Q=>∃ a xs,x=.ref a∧SqL K H a xs∧∀ p,H p=none→Q (.ref p) (upd H p (.lst (cutV xs lo hi)))
theorem b7J:SlR X (rSlL X.K):=by
 intro pins s σ H x v vl vu lo hi sl Q I rx hs pl pu h
 obtain⟨a,xs,rfl,hx,q⟩:=h
 cases rx
 obtain⟨its,r,ht,hz⟩:=I.list hx
 have hlen:=r.length
 refine⟨"list",_,slot_list_getitem.lookup,ht.isList.typeIs,?_⟩
 refine wpAny_getItem_list_slice ht.isList hs pl pu .none (by simp) ?_ (by rw[List.size_toArray]<;>lia)
 rw[a8f,← hlen]
 refine⟨.ref s.heap.objs.size,_,I.laid (t':=s.toks) (o:=.lst (cutV xs lo hi)) (fun b ob q=>Heap.get?_push_of_some _ q) (Nat.le_refl _) ?_,rfl,q _ (I.hok.fresh (Nat.le_refl _))⟩
 exact⟨Nat.le_trans (a7c xs lo hi) hz,_,0,(r.drop (HT.sIx xs.length 0 lo)).take (HT.sIx xs.length xs.length hi - HT.sIx xs.length 0 lo),Heap.get?_push_size _ rfl⟩
noncomputable def a7u:V→Bool
 | .non=>true
 | .bl _=>true
 | .int _=>true
 | .str _=>true
 | _=>false
noncomputable def eqV:V→V→Bool
 | .non,.non=>true
 | .bl a,.bl b=>a == b
 | .bl a,.int b=>(if a then 1 else 0) == b
 | .int a,.bl b=>a == (if b then 1 else 0)
 | .int a,.int b=>a == b
 | .str a,.str b=>a == b
 | _,_=>false
theorem c1a {A:Around} {s:Shared} {y x:V} {u v:Value} (ry:RelV y u) (rx:RelV x v) (fy:a7u y=true) (fx:a7u x=true):SeqAt.EqAt A s u v (eqV y x):=by
 cases y with
 | non =>
   cases ry
   cases x with
   | non=>cases rx;exact SeqAt.EqAt.same _
   | bl b=>cases rx;exact SeqAt.EqAt.none_bool b
   | int b=>obtain⟨t,rfl⟩:=rx;exact SeqAt.EqAt.none_int b t
   | str b=>obtain⟨t,rfl⟩:=rx;exact SeqAt.EqAt.none_str b t
   | _=>exact absurd (show false=true from fx) Bool.false_ne_true
 | bl a =>
   cases ry
   cases x with
   | non=>cases rx;exact SeqAt.EqAt.bool_none a
   | bl b=>cases rx;exact SeqAt.EqAt.bool_bool a b
   | int b=>obtain⟨t,rfl⟩:=rx;exact SeqAt.EqAt.bool_int a b t
   | str b=>obtain⟨t,rfl⟩:=rx;exact SeqAt.EqAt.bool_str a b t
   | _=>exact absurd (show false=true from fx) Bool.false_ne_true
 | int a =>
   obtain⟨t',rfl⟩:=ry
   cases x with
   | non=>cases rx;exact SeqAt.EqAt.int_none a t'
   | bl b=>cases rx;exact SeqAt.EqAt.int_bool a t' b
   | int b=>obtain⟨t,rfl⟩:=rx;exact SeqAt.EqAt.int_int a t' b t
   | str b=>obtain⟨t,rfl⟩:=rx;exact SeqAt.EqAt.int_str a t' b t
   | _=>exact absurd (show false=true from fx) Bool.false_ne_true
 | str a =>
   obtain⟨t',rfl⟩:=ry
   cases x with
   | non=>cases rx;exact SeqAt.EqAt.str_none a t'
   | bl b=>cases rx;exact SeqAt.EqAt.str_bool a t' b
   | int b=>obtain⟨t,rfl⟩:=rx;exact SeqAt.EqAt.str_int a t' b t
   | str b=>obtain⟨t,rfl⟩:=rx;exact SeqAt.EqAt.str_str a t' b t
   | _=>exact absurd (show false=true from fx) Bool.false_ne_true
 | _=>exact absurd (show false=true from fy) Bool.false_ne_true
noncomputable def eqU (x:V) (u:Value):Bool:=match u with
 | .none=>eqV .non x
 | .bool b=>eqV (.bl b) x
 | .int i _=>eqV (.int i) x
 | .str z _=>eqV (.str z) x
 | _=>false
theorem b7m {x y:V} {u:Value} (r:RelV y u) (f:a7u y=true):eqU x u=eqV y x:=by
 cases y with
 | non=>cases r;rfl
 | bl b=>cases r;rfl
 | int i=>obtain⟨t,rfl⟩:=r;rfl
 | str z=>obtain⟨t,rfl⟩:=r;rfl
 | _=>exact absurd (show false=true from f) Bool.false_ne_true
theorem a7i {x:V}:∀ {xs:List V} {us:List Value},Vals xs us→xs.all a7u=true→us.any (eqU x)=xs.any fun y=>eqV y x
 | _,_,.nil,_=>rfl
 | y :: xs,u :: us,.cons r t,f=>by
   rw[List.all_cons,Bool.and_eq_true] at f
   rw[List.any_cons,List.any_cons,b7m r f.1,a7i t f.2]
theorem a5J {A:Around} {s:Shared} {x:V} {v:Value} (rx:RelV x v) (fx:a7u x=true):∀ {xs:List V} {us:List Value},Vals xs us→xs.all a7u=true→∀ u∈us,SeqAt.EqAt A s u v (eqU x u)
 | _,_,.nil,_=>fun u hu=>by cases hu
 | y :: xs,u :: us,.cons r t,f=>fun u' hu=>by
   rw[List.all_cons,Bool.and_eq_true] at f
   rcases List.mem_cons.mp hu with rfl | hu
   ·rw[b7m r f.1];exact c1a r rx f.1 fx
   ·exact a5J rx fx t f.2 u' hu
noncomputable def inV (x:V) (xs:List V):Bool:=xs.any fun y=>eqV y x
noncomputable def rIn (K:PySem.W.Frag) (neg:Bool):R2:=fun x y H Q=>∃ p xs,y=.ref p∧(SqL K H p xs∨SqT K H p xs)∧a7u x=true∧xs.all a7u=true∧Q (.bl (if neg then !inV x xs else inV x xs)) H
theorem b4m:OpR X (compareOp .In) (rIn X.K false):=by
 intro pins s σ H x y v u Q I rx ry h
 obtain⟨p,xs,rfl,hq,fx,fs,q⟩:=h
 cases ry
 rcases hq with hq | hq
 ·obtain⟨its,r,pl,hz⟩:=I.list hq
  refine SeqAt.in_listAt (eqU x) pl.isList (fun w hw=>a5J rx fx r fs w (by simpa using hw)) ⟨.bl _,H,I,rfl,?_⟩
  rw[show its.toArray.any (eqU x)=its.any (eqU x) by simp,a7i r fs]
  exact q
 ·obtain⟨its,r,pl,hz⟩:=I.tuple hq
  refine SeqAt.in_tupleAt (eqU x) pl (fun w hw=>a5J rx fx r fs w (by simpa using hw)) ⟨.bl _,H,I,rfl,?_⟩
  rw[show its.toArray.any (eqU x)=its.any (eqU x) by simp,a7i r fs]
  exact q
theorem a9p:OpR X (compareOp .NotIn) (rIn X.K true):=by
 intro pins s σ H x y v u Q I rx ry h
 obtain⟨p,xs,rfl,hq,fx,fs,q⟩:=h
 cases ry
 rcases hq with hq | hq
 ·obtain⟨its,r,pl,hz⟩:=I.list hq
  refine SeqAt.notIn_listAt (eqU x) pl.isList (fun w hw=>a5J rx fx r fs w (by simpa using hw)) ⟨.bl _,H,I,rfl,?_⟩
  rw[show its.toArray.any (eqU x)=its.any (eqU x) by simp,a7i r fs]
  exact q
 ·obtain⟨its,r,pl,hz⟩:=I.tuple hq
  refine SeqAt.notIn_tupleAt (eqU x) pl (fun w hw=>a5J rx fx r fs w (by simpa using hw)) ⟨.bl _,H,I,rfl,?_⟩
  rw[show its.toArray.any (eqU x)=its.any (eqU x) by simp,a7i r fs]
  exact q
theorem a4t:a7k X (.builtin "len") (fun xs H Q=>∃ p ys,xs=[.ref p]∧(SqL X.K H p ys∨SqT X.K H p ys)∧Q (.int ys.length) H):=by
 intro pins s σ H xs us Q I r h
 obtain⟨p,ys,rfl,hq,q⟩:=h
 obtain⟨u,rfl,rx⟩:=a5Q r
 cases rx
 have hn:=a6R
 rcases hq with hq | hq
 ·obtain⟨its,r',pl,hz⟩:=I.list hq
  have hlen:=r'.length
  exact Calls.call_len_list pl.isList (by simp only[List.size_toArray]<;>lia) ⟨.int ys.length,H,I.tok _,⟨s.toks+1,by rw[List.size_toArray,hlen]⟩,q⟩
 ·obtain⟨its,r',pl,hz⟩:=I.tuple hq
  have hlen:=r'.length
  exact len_tuple pl (by simp only[List.size_toArray]<;>lia) ⟨.int ys.length,H,I.tok _,⟨s.toks+1,by rw[List.size_toArray,hlen]⟩,q⟩
theorem b0q:a7k X (.builtin "len") (fun xs H Q=>∃ z,xs=[.str z]∧z.length≤sizeLine∧Q (.int z.length) H):=by
 intro pins s σ H xs us Q I r h
 obtain⟨z,rfl,hz,q⟩:=h
 obtain⟨u,rfl,t,rfl⟩:=a5Q r
 have hn:=a6R
 exact len_str (by lia) ⟨.int z.length,H,I.tok _,⟨_,rfl⟩,q⟩
theorem a4s:a7k X (.type "list") (fun xs H Q=>∃ p ys,xs=[.ref p]∧(SqL X.K H p ys∨SqT X.K H p ys)∧∀ l,H l=none→Q (.ref l) (upd H l (.lst ys))):=by
 intro pins s σ H xs us Q I r h
 obtain⟨p,ys,rfl,hq,q⟩:=h
 obtain⟨u,rfl,rx⟩:=a5Q r
 cases rx
 have fin:∀ (its:List Value),Vals ys its→ys.length≤sizeLine→∀ (h':Heap) (c':Nat),(∀ b o',s.heap.get? b=some o'→h'.get? b=some o') →
   h'.get? s.heap.objs.size=some { cls:=.type "list",dict:=none,data:=.seq its.toArray c',slots:=#[] }→EP X pins σ Q (.ref s.heap.objs.size) { s with heap:=h' }:=fun its r' hz h' c' kp e =>
  ⟨.ref s.heap.objs.size,_,I.laid (t':=s.toks) kp (Nat.le_refl _) (show a1G X.prog X.w _ h' _ (.lst ys) from ⟨hz,its,c',r',e⟩),rfl,q _ (I.hok.fresh (Nat.le_refl _))⟩
 rcases hq with hq | hq
 ·obtain⟨its,r',pl,hz⟩:=I.list hq
  have hlen:=r'.length
  obtain⟨o,ho,hc,n,hd⟩:=pl.isList
  exact call_list_seq p (.inl rfl) ho hc hd (fun h' c' kp e=>fin its r' hz h' c' kp e) (by simp only[List.size_toArray]<;>lia)
 ·obtain⟨its,r',pl,hz⟩:=I.tuple hq
  have hlen:=r'.length
  obtain⟨o,ho,hc,n,hd⟩:=pl
  exact call_list_seq p (.inr rfl) ho hc hd (fun h' c' kp e=>fin its r' hz h' c' kp e) (by simp only[List.size_toArray]<;>lia)
theorem a2D:a7k X (.type "tuple") (fun xs H Q=>∃ p ys,xs=[.ref p]∧((SqL X.K H p ys∧∀ l,H l=none→Q (.ref l) (upd H l (.tup ys)))∨(SqT X.K H p ys∧Q (.ref p) H))):=by
 intro pins s σ H xs us Q I r h
 obtain⟨p,ys,rfl,h⟩:=h
 obtain⟨u,rfl,rx⟩:=a5Q r
 cases rx
 rcases h with ⟨hq,q⟩ | ⟨hq,q⟩
 ·obtain⟨its,r',pl,hz⟩:=I.list hq
  have hlen:=r'.length
  refine call_tuple_list pl.isList (fun h' kp=>?_) (by simp only[List.size_toArray]<;>lia)
  have I1:Inv X pins σ H { s with heap:=h' }:=I.kept (t':=s.toks) kp
  have I2:Inv X pins σ (upd H h'.objs.size (.tup ys)) { s with heap:=h'.push { cls:=.type "tuple",data:=.seq its.toArray } } :=
   I1.laid (t':=s.toks) (fun b o e=>Heap.get?_push_of_some _ e) (Nat.le_refl _) (show a1G X.prog X.w _ _ _ (.tup ys) from ⟨hz,its,r',a2R.new _ _⟩)
  exact⟨.ref h'.objs.size,_,I2,rfl,q _ (I1.hok.fresh (Nat.le_refl _))⟩
 ·obtain⟨its,r',pl,hz⟩:=I.tuple hq
  exact call_tuple_same pl ⟨.ref p,H,I,rfl,q⟩
noncomputable def tyV (K:PySem.W.Frag) (T:String) (x:V) (H:Hp):Prop:=match x with
 | .str _=>T="str"
 | .int _=>T="int"
 | .ref p=>(T="list"∧∃ xs,SqL K H p xs)∨(T="tuple"∧∃ o,K.lookup p=some o∧o.cls=.type "tuple"∧o.dict=none) ∨
   (T="dict"∧((∃ kvs,H p=some (.dK kvs))∨∃ kvs,H p=some (.dT kvs)))∨(T="set"∧∃ S n,H p=some (.set S n))
 | _=>False
theorem b9o {pins:List (Addr × Obj)} {σ:St} {H:Hp} {s:Shared} {T:String} {x:V} {v:Value} (I:Inv X pins σ H s) (r:RelV x v) (ty:tyV X.K T x H) :
  s.TypeIs v T∧∀ a,v=.ref a→∃ ob,s.heap.get? a=some ob∧ob.dict=none:=by
 cases x with
 | str z =>
   obtain⟨t,rfl⟩:=r
   cases (show T="str" from ty)
   exact⟨typeIs_str s z t,fun _ e=>nomatch e⟩
 | int i =>
   obtain⟨t,rfl⟩:=r
   cases (show T="int" from ty)
   exact⟨typeIs_int s i t,fun _ e=>nomatch e⟩
 | ref p =>
   cases r
   rcases ty with ⟨rfl,xs,hq⟩ | ⟨rfl,o,hk,hc,hd⟩ | ⟨rfl,hk⟩ | ⟨rfl,S,n,hk⟩
   ·obtain⟨its,_,pl,_⟩:=I.list hq
    refine⟨pl.isList.typeIs,fun a e=>?_⟩
    cases e
    obtain⟨o,n,e,c,hd,_⟩:=pl
    exact⟨o,e,hd⟩
   ·refine⟨⟨o,I.kIn p o hk,hc⟩,fun a e=>?_⟩
    cases e
    exact⟨o,I.kIn _ o hk,hd⟩
   ·have z:∃ o,s.heap.get? p=some o∧o.ExactDict:=by
     rcases hk with ⟨kvs,hk⟩ | ⟨kvs,hk⟩
     ·obtain⟨_,_,_,_,o,_,_,e,ex,_⟩:=I.hok p _ hk
      exact⟨o,e,ex⟩
     ·obtain⟨_,_,_,_,o,_,_,e,ex,_⟩:=I.hok p _ hk
      exact⟨o,e,ex⟩
    obtain⟨o,e,ex⟩:=z
    refine⟨⟨o,e,ex.1⟩,fun a e2=>?_⟩
    cases e2
    exact⟨o,e,ex.2.1⟩
   ·obtain⟨o,_,_,_,e,ex,_⟩:=I.hok p _ hk
    refine⟨⟨o,e,ex.1⟩,fun a e2=>?_⟩
    cases e2
    exact⟨o,e,ex.2.1⟩
 | _=>exact False.elim ty
noncomputable def tBM (K:PySem.W.Frag) (T:String) (r:V→List V→Hp→VK→Prop) (to:TE) (t:TA):TE:=fun σ H Q=>to σ H fun x H1=>tyV K T x H1∧t σ H1 fun xs H2=>r x xs H2 Q
variable {o e:Expr} {es:List Expr} {to:TE} {t:TA} {name:Str} {apos cpos:Pos} {T id:String} {r:V→List V→Hp→VK→Prop}
theorem c1V (pa:PlainAttrs T) (slot:Slot T name id) (hty:typeOf (.builtin id)=pure (.type "method_descriptor")) (hm:MtR X id r) (ho:PE X o to) (ha:PA X (e :: es) t)
  (hbase:attributeBase o name X.env (eval o X.env)=eval o X.env:=by rfl)
  (hfew:((backTo cpos (starEach (e :: es) X.env)).all (fun x=>!x.1) && (backToKw cpos (keywordEach [] X.env)).all (fun x=>x.1.isSome)
   && decide ((e :: es).length+([]:List Keyword).length+(if ([]:List Keyword).isEmpty then 0 else 1) < 30))=true:=by rfl)
  (hline:(apos.endLine == cpos.line)=true:=by rfl) (hs:starEach (e :: es) X.env=(false,eval e X.env) :: starEach es X.env:=by rfl) (hplain:(backTo cpos (starEach es X.env)).any (·.1)=false:=by rfl) :
  PE X (.Call (.Attribute o name apos) (e :: es) [] cpos) (tBM X.K T r to t):=by
 intro pins s σ H Q I h
 refine wpAny_Call_method_late hbase hfew hline rfl (thn (ho pins s σ H _ I h) fun v s1 ⟨x,H1,I1,r1,ty,q1⟩=>?_)
 obtain⟨h1,h2⟩:=b9o I1 r1 ty
 refine⟨T,id,pa,slot,hty,h1,h2,?_⟩
 have hA:=ha cpos pins s1 σ H1 _ I1 q1
 rw[hs] at hA⊢
 refine Calls.callWith_builtin (by show (false || (backTo cpos (starEach es X.env)).any (·.1))=false;rw[hplain]<;>rfl) (Calls.evalArgs_plain ?_)
 exact thn hA fun us s2 ⟨vs,H2,I2,r2,q2⟩=>hm pins s2 σ H2 x vs v us Q I2 r1 r2 q2
end
noncomputable def MtM (X:Cx) (id:String) (r:V→List V→Hp→VK→Prop):Prop :=
 ∀ (pins:List (Addr × Obj)) (s:Shared) (σ:St) (H:Hp) (x:V) (xs:List V) (v:Value) (us:List Value) (Q:VK),Inv X pins σ H s→RelV x v→Vals xs us→r x xs H Q →
   wpAny (model X.prog X.w) X.A (call (.builtin id) (v :: us)) (EP X pins σ Q) X.xe s
theorem Vals.one:∀ {x:V} {us:List Value},Vals [x] us→∃ u,us=[u]∧RelV x u
 | _,_,.cons r .nil=>⟨_,rfl,r⟩
theorem Vals.two:∀ {x y:V} {us:List Value},Vals [x,y] us→∃ u v,us=[u,v]∧RelV x u∧RelV y v
 | _,_,_,.cons r (.cons q .nil)=>⟨_,_,rfl,r,q⟩
theorem Vals.rep {xs:List V} {us:List Value} (h:Vals xs us):∀ k:Nat,Vals (List.replicate k xs).flatten (List.replicate k us).flatten
 | 0=>.nil
 | k+1=>by
   rw[List.replicate_succ,List.replicate_succ,List.flatten_cons,List.flatten_cons]
   exact Vals.append h (Vals.rep h k)
theorem a6Y (its:List Value):∀ (k:Nat) (acc:List Value),
  List.foldl (fun x1 x2=>x1++x2) acc.toArray (List.replicate k its.toArray)=(acc++(List.replicate k its).flatten).toArray
 | 0,acc=>by simp
 | k+1,acc=>by
   have e:acc.toArray++its.toArray=(acc++its).toArray:=by simp
   have e2:(acc++its)++(List.replicate k its).flatten=acc++(List.replicate (k+1) its).flatten:=by
    rw[List.replicate_succ,List.flatten_cons,List.append_assoc]
   rw[← e2,← a6Y its k (acc++its),← e,List.replicate_succ,List.foldl_cons]
section
variable {X:Cx} {pins:List (Addr × Obj)} {σ:St} {H:Hp} {s:Shared} {l b:Addr} {xs ys zs:List V}
theorem Inv.lset {its its':List Value} {n:Nat} {f:Array Value→Array Value} {t':Nat} (I:Inv X pins σ H s) (hH:H l=some (.lst xs))
  (e:s.heap.get? l=some { cls:=.type "list",data:=.seq its.toArray n }) (hf:f its.toArray=its'.toArray) (hv:Vals ys its') (hz:ys.length≤sizeLine) :
  Inv X pins σ (upd H l (.lst ys)) { s with heap:=s.heap.update l (Obj.mapSeq f),toks:=t' }:=by
 have q:=PySem.IsL.update e f
 rw[hf] at q
 refine I.write (x:=l) (e:=l) (by rw[hH];exact trivial) (.inl rfl) (fun b' u hb hu=>(Heap.get?_update_other s.heap (Obj.mapSeq f) (Ne.symm hb)).trans hu) ⟨_,q⟩ ?_
 exact⟨hz,its',_,hv,q⟩
theorem Inv.lnew {its:List Value} {t':Nat} (I:Inv X pins σ H s) (hv:Vals ys its) (hz:ys.length≤sizeLine) :
  Inv X pins σ (upd H s.heap.objs.size (.lst ys)) { s with heap:=s.heap.push { cls:=.type "list",data:=.seq its.toArray },toks:=t' } :=
 I.laid (fun _ _ q=>Heap.get?_push_of_some _ q) (Nat.le_refl _) ⟨hz,its,0,hv,Heap.get?_push_size _ rfl⟩
theorem Inv.fresh (I:Inv X pins σ H s):H s.heap.objs.size=none:=I.hok.fresh (Nat.le_refl _)
theorem Inv.lstM (I:Inv X pins σ H s) (hH:H l=some (.lst xs)):xs.length≤sizeLine∧∃ (its:List Value) (n:Nat),Vals xs its∧xs.length=its.length∧s.heap.get? l=some { cls:=.type "list",data:=.seq its.toArray n }:=by
 obtain⟨z,its,n,r,e⟩:=I.hok l _ hH
 exact⟨z,its,n,r,r.length,e⟩
theorem a8F {n:Nat} (h:n≤sizeLine):Builtin.List.listTooLong n=false:=by
 unfold Builtin.List.listTooLong
 exact decide_eq_false (by lia)
end
section
variable {X:Cx}
noncomputable def b7W:V→List V→Hp→VK→Prop:=fun x vs H Q=>∃ l xs y,x=.ref l∧vs=[y]∧H l=some (.lst xs)∧xs.length < sizeLine∧Q .non (upd H l (.lst (xs++[y])))
theorem b4z:MtM X "list.append" b7W:=by
 intro pins s σ H x vs v us Q I rx rv h
 obtain⟨l,xs,y,rfl,rfl,hH,hz,q⟩:=h
 cases rx
 obtain⟨u,rfl,ru⟩:=rv.one
 obtain⟨z,its,n,r,hl,e⟩:=I.lstM hH
 refine call_meets F.slot_list_append ⟨_,e,rfl⟩ F.entry_list_append (F.args_list_append_2 _ _) (PySem.list_append l its.toArray n u (by rw[List.size_toArray];lia)) ⟨e,?_⟩
 refine⟨.non,_,I.lset (its':=its++[u]) hH e (by simp) (r.append (.cons ru .nil)) ?_,rfl,q⟩
 rw[List.length_append,List.length_singleton]
 lia
noncomputable def b7V:V→List V→Hp→VK→Prop:=fun x vs H Q=>∃ l b xs zs,x=.ref l∧vs=[.ref b]∧H l=some (.lst xs)∧H b=some (.lst zs)∧xs.length+zs.length≤sizeLine∧Q .non (upd H l (.lst (xs++zs)))
theorem b4y:MtM X "list.extend" b7V:=by
 intro pins s σ H x vs v us Q I rx rv h
 obtain⟨l,b,xs,zs,rfl,rfl,hH,hB,hz,q⟩:=h
 cases rx
 obtain⟨u,rfl,ru⟩:=rv.one
 cases ru
 obtain⟨z,its,n,r,hl,e⟩:=I.lstM hH
 obtain⟨z2,its2,n2,r2,hl2,e2⟩:=I.lstM hB
 have hsz:its.toArray.size+its2.toArray.size≤sizeLine:=by rw[List.size_toArray,List.size_toArray];lia
 have hlong:¬(!its.toArray.isEmpty && Builtin.List.listTooLong (its.toArray.size+its2.toArray.size))=true:=by
  rw[a8F hsz,Bool.and_false]
  exact Bool.false_ne_true
 refine call_meets F.slot_list_extend ⟨_,e,rfl⟩ F.entry_list_extend (F.args_list_extend_2 _ _)
  (AutoSeq1.list_extend_list_list_0 l its.toArray n b its2.toArray n2 hlong (by rw[List.size_toArray];lia) (by lia)) ⟨e,e2,?_⟩
 refine⟨.non,_,I.lset (its':=its++its2) hH e (by simp) (r.append r2) ?_,rfl,q⟩
 rw[List.length_append]
 lia
noncomputable def rCat:R2:=fun x y H Q=>∃ l b xs zs,x=.ref l∧y=.ref b∧H l=some (.lst xs)∧H b=some (.lst zs)∧xs.length+zs.length≤sizeLine∧∀ p,H p=none→Q (.ref p) (upd H p (.lst (xs++zs)))
theorem c0y:OpR X (binaryOp .Add) rCat:=by
 intro pins s σ H x y v u Q I rx ry h
 obtain⟨l,b,xs,zs,rfl,rfl,hH,hB,hz,q⟩:=h
 cases rx
 cases ry
 obtain⟨z,its,n,r,hl,e⟩:=I.lstM hH
 obtain⟨z2,its2,n2,r2,hl2,e2⟩:=I.lstM hB
 refine PySem.P.add_list e e2 ?_ (by rw[List.size_toArray,List.size_toArray];lia)
 have ea:its.toArray++its2.toArray=(its++its2).toArray:=by simp
 rw[ea]
 exact⟨.ref _,_,I.lnew (t':=s.toks) (r.append r2) (by rw[List.length_append];lia),rfl,q _ I.fresh⟩
noncomputable def rRep:R2:=fun x y H Q=>∃ l k xs,x=.ref l∧y=.int k∧H l=some (.lst xs)∧-(2 ^ 63)≤k∧k < 2 ^ 63∧xs.length*k.toNat≤sizeLine ∧
 ∀ p,H p=none→Q (.ref p) (upd H p (.lst (List.replicate k.toNat xs).flatten))
theorem b1d {α:Type} (xs:List α) (k:Nat):(List.replicate k xs).flatten.length=k*xs.length:=by
 induction k with
 | zero=>simp
 | succ k ih=>rw[List.replicate_succ,List.flatten_cons,List.length_append,ih,Nat.succ_mul,Nat.add_comm]
theorem c0t:OpR X (binaryOp .Mult) rRep:=by
 intro pins s σ H x y v u Q I rx ry h
 obtain⟨l,k,xs,rfl,rfl,hH,h1,h2,hz,q⟩:=h
 cases rx
 obtain⟨t,rfl⟩:=ry
 obtain⟨z,its,n,r,hl,e⟩:=I.lstM hH
 have hlen:its.toArray.size*k.toNat≤sizeLine:=by rw[List.size_toArray,← hl];exact hz
 have hcap:¬its.toArray.size*k.toNat > (2 ^ 63 - 1) / 8:=by
  have:(sizeLine:Nat)≤(2 ^ 63 - 1) / 8:=by decide
  lia
 have hfit:¬(!Builtin.List.listFitsIndex k)=true:=by
  rw[fitsIndex_both h1 h2]
  exact Bool.false_ne_true
 have hlong:¬Builtin.List.listTooLong (its.toArray.size*k.toNat)=true:=by
  rw[a8F hlen]
  exact Bool.false_ne_true
 have hnew:List.foldl (fun x1 x2=>x1++x2) #[] (List.replicate (if its.toArray.isEmpty=true then 0 else k.toNat) its.toArray)=(List.replicate k.toNat its).flatten.toArray:=by
  have f0:∀ m:Nat,List.foldl (fun x1 x2=>x1++x2) #[] (List.replicate m its.toArray)=(List.replicate m its).flatten.toArray:=fun m=>by
   have:=a6Y its m []
   rw[List.nil_append] at this
   exact this
  rw[f0]
  cases its with
  | nil=>simp
  | cons a r'=>rw[if_neg (by simp)]
 refine wpAny_binaryOp_repeat_ref (T:="list") (U:="int") (by decide) ⟨_,e,rfl⟩ (fun s'=>typeIs_int s' k t) noFill_list_mul F.fills_int_mul F.slot_int_rmul repeat_list F.slot_int_index.lookup
  (call_meets F.slot_int_rmul (typeIs_int s k t) F.entry_int_rmul (F.args_int_rmul_2 _ _) (int___rmul___int_list k t l its.toArray n)
   ⟨e,rfl,⟨_,e,rfl⟩,call_meets F.slot_list_mul ⟨_,e,rfl⟩ F.entry_list_mul (F.args_list_mul_2 _ _) (AutoListH.list___mul___list_int_3 l its.toArray n k t hfit hcap hlong) ⟨e,?_⟩⟩)
 rw[hnew]
 exact⟨.ref _,_,I.lnew (t':=s.toks) (r.rep k.toNat) (by rw[b1d,Nat.mul_comm];exact hz),rfl,q _ I.fresh⟩
end
section
variable {prog:Program} {w:World} {A:Around} {E:Value→Shared→Prop} {s:Shared}
end
section
variable {X:Cx}
end
end L2
namespace Att
open PySem PySem.W PySem.Calls PyProof.Rows
theorem a6V {P:Params} {h:Heap}:∀ (ns:List Int) (vs:List Value),WellAll P h vs (ns.map WData.int)→IntsAre vs ns:=by
 intro ns
 induction ns with
 | nil =>
   intro vs w
   rw[List.map_nil] at w
   cases w
   exact .nil
 | cons n ns ih =>
   intro vs w
   rw[List.map_cons] at w
   cases w with
   | cons a b =>
     cases a
     exact .cons _ _ (ih _ b)
theorem b3S {l:OpenLaw} {n:Nat} (hn:l.most=some n) {P:Params} {h:Heap} {args:List WData} {vals:List Value}
  (hpre:l.row.toRowW.claim.pre args=true) (hwl:WellAll P h vals args) :
  ∃ a vs ns,vals=[Value.ref a]∧args=[WData.list (ns.map WData.int)]∧h.get? a=some { cls:=.type "list",data:=.seq vs.toArray }∧IntsAre vs ns∧ns.length≤n:=by
 have hsh:WShape.hasAll [] args [.list .int]=true:=(pre_splitW hpre).1
 have hc:l.pre.holds [] { args:=args }=true:=(pre_splitW hpre).2
 obtain⟨d,r,rfl,h1,h2⟩:=hasAllW_cons hsh
 obtain rfl:=hasAllW_nil h2
 obtain⟨xs,rfl,h3⟩:=hasW_list h1
 obtain⟨ns,rfl⟩:=items_int h3
 have hlen:ns.length≤n:=by
  unfold OpenLaw.pre at hc
  have h4:(WTm.not (.lt (.lit (.int (n:Int))) (.len (.arg 0)))).holds [] { args:=[.list (ns.map .int)] }=true:=by
   have h4:=(holds_andW hc).1
   rw[hn] at h4
   exact h4
  have h5:=condW_of h4 (w_not (w_lt w_lit (w_len_list (w_arg rfl))))
  rw[List.length_map] at h5
  refine Nat.le_of_not_lt fun q=>?_
  have q':(n:Int) < ((ns.length:Nat):Int):=by lia
  first
   | (rw[decide_eq_true q'] at h5;exact absurd h5 (by decide))
   | (simp at h5;lia)
 cases hwl with
 | cons w1 w2 =>
   cases w2
   cases w1 with
   | list ho hall=>exact⟨_,_,ns,rfl,rfl,ho,a6V ns _ hall,hlen⟩
theorem b4g (l:OpenLaw) (args:List WData):l.row.toRowW.claim.post args (.bool true) args=true :=
 postW_of (r:=l.row.toRowW) (X:=(true == true))
  (show WShape.has [] (.bool true) .bool=true by first | rfl | decide | simp [WShape.has,WShape.arms,WShape.armsAll])
  (show (WTm.eq .res (.lit (.bool true))).value [] { args:=args,res:=some (.bool true),after:=args }=some (.bool (true == true)) from w_eq_bool (w_res rfl) w_lit) rfl
theorem attach_call {l:OpenLaw} {n:Nat} {q:Program} {loose:List Str} {XP:(Str→Option Value)→Heap→Prop} {YP:World→Heap→Prop} {d:DefRec}
  (hn:l.most=some n) (hdf:d.params.defaults=[])
  (call:∀ (w:World) (s₀ s₁:Shared) (mg mb:Str→Option Value) (fa:Addr) (o:Obj) (pm cd doc:Value) (a:Addr) (vs:List Value) (ns:List Int),
   Ground q loose [] XP w s₀ mg mb s₁.heap→YP w s₁.heap →
   s₁.heap.get? fa=some o→o.data=.func (docDef d.name d.params d.body d.scope pm cd doc)→s₁.heap.CodeRec cd d.name→mg d.name=some (.ref fa) →
   s₁.heap.get? a=some { cls:=.type "list",data:=.seq vs.toArray }→IntsAre vs ns→ns.length≤n→s₁.gens=#[] →
   codeAny (model l.prog w) callerA (.call (.ref fa) ⟨[.ref a],[]⟩) (fun r s'=>r=.ok (.ret (.bool true))∧OldK s₁.heap s'.heap∧s'.os=s₁.os∧AllBare s'.gens) s₁) :
  WalkO q loose XP YP l.row.toRowW d [] (fun f vs=>PySem.call f vs):=by
 intro w s₀ s₁ mg mb G Y fa o pm cd doc dV kV ho hd hcd hD hmg hg args vals as hpre hlay hrd hwl hlo
 obtain rfl:dV=.none:=Dflts.none hD hdf
 obtain rfl:kV=.none:=Dflts.noKw hD
 obtain⟨a,vs,ns,rfl,rfl,hobj,hints,hlen⟩:=b3S hn hpre hwl
 refine enter_call (codeAny_mono (call w s₀ s₁ mg mb fa o pm cd doc a vs ns G Y ho (fd_plain hd) hcd hmg hobj hints hlen hg) fun r s' hq=>?_)
 obtain⟨rfl,h2,h3,h4⟩:=hq
 exact⟨.inl ⟨.bool true,.bool true,[],rfl,fun _=>rfl,.bool true,b4g l _,fun _=>⟨List.Pairwise.nil,fun _ hm=>(nomatch hm)⟩⟩,h2,h3,h4⟩
section
variable {prog:Program} {w:World} {A:Around} {E:Value→Shared→Prop} {s:Shared} {K:Frag}
end
end Att
namespace L2
open PySem PySem.Spec PyProof.Rows
theorem a6z:∀ {vs:List Value} {ns:List Int},IntsAre vs ns→Vals (ns.map V.int) vs
 | _,_,.nil=>.nil
 | _,_,.cons n t h=>.cons ⟨t,rfl⟩ (a6z h)
noncomputable def Only (H:Hp):Prop:=∀ b,H b=none∨∃ o xs,H b=some (.frz o (.lst xs))
theorem b6q {P:Program} {w:World} {K:PySem.W.Frag} {mg mb:Str→Option Value} {CX:CXT} {k:Nat} {fa a:Addr} {fd:FuncData} {x:Str} {sp:Sp} {s₁:Shared} {vs:List Value} {ns:List Int}
  (KX:K.In s₁.heap) (hns:s₁.heap.Ns mainGlobals mg) (hb:s₁.heap.Ns builtinsNs mb) (hbb:∀ x:Str,x≠"__name__"→mb x=bootBuiltins x) (hlim:s₁.heap.NoLimit) (hg:s₁.gens=#[])
  (ha:s₁.heap.get? a=some { cls:=.type "list",data:=.seq vs.toArray }) (hi:IntsAre vs ns) (hl:ns.length≤sizeLine) (hr:Room k callerA)
  (F:∀ base:Heap,K.In base→base.Ns mainGlobals mg→FnOk P w K mg base CX k fa fd [x] sp) (hbind:∀ (s:Shared) (u:Value),BindsTo s fd ⟨[u],[]⟩ [(x,u)])
  (hsp:∀ H:Hp,Only H→SqL K H a (ns.map V.int)→sp [.ref a] H (fun v _=>v=.bl true) fun _ _ _=>False)
  (hCX:∀ H e s',CX [] H s₁ (fun _ _ _=>False) e s'→False) :
  codeAny (model P w) callerA (.call (.ref fa) ⟨[.ref a],[]⟩) (fun r s'=>r=.ok (.ret (.bool true))∧OldK s₁.heap s'.heap∧s'.os=s₁.os∧AllBare s'.gens) s₁:=by
 have rv:=a6z hi
 have lenV:=hi.length
 -- from an abstract heap in which nothing but the script may be tracked
 have core:∀ H:Hp,Only H→SqL K H a (ns.map V.int)→HOk P w H s₁.heap→(∀ b,H b≠none→b=a)→(H a≠none→K.lookup a=none) →
   codeAny (model P w) callerA (.call (.ref fa) ⟨[.ref a],[]⟩) (fun r s'=>r=.ok (.ret (.bool true))∧OldK s₁.heap s'.heap∧s'.os=s₁.os∧AllBare s'.gens) s₁:=by
  intro H hO hS hok hA hK
  have base_of:∀ {b:Addr} {o:Obj},s₁.heap.get? b=some o→H b=none→(hidT s₁.heap H).get? b=some o:=fun e n=>b6v e n
  have noA:∀ {b:Addr} {o:Obj} {es:Array DictEntry} {ep:Nat},s₁.heap.get? b=some o→o.data=.dict es ep→H b=none:=fun {b o es ep} e d=>by
   cases q:H b with
   | none=>rfl
   | some u =>
     have e':b=a:=hA b (by rw[q];simp)
     subst e'
     rw[ha] at e;cases e
     have d':Data.seq vs.toArray _=Data.dict es ep:=d
     cases d'
  have nsK:∀ {b:Addr} {m:Str→Option Value},s₁.heap.Ns b m→(hidT s₁.heap H).Ns b m:=fun {b m} ⟨o,es,ep,e,d,r⟩=>⟨o,es,ep,base_of e (noA e d),d,r⟩
  have hKb:K.In (hidT s₁.heap H):=fun b o e=>base_of (KX b o e) (by
   cases q:H b with
   | none=>rfl
   | some u =>
     have e':b=a:=hA b (by rw[q];simp)
     subst e'
     rw[hK (by rw[q];simp)] at e;cases e)
  have hM:Mod K mg (hidT s₁.heap H):=⟨hKb,nsK hns,⟨mb,nsK hb,hbb⟩,let ⟨mc,h1,h2⟩:=hlim;⟨mc,nsK h1,h2⟩⟩
  have e0:Env0 P w K mg (hidT s₁.heap H) callerA [] s₁ H:=⟨rfl,hM,fun b o e=>b8x e,Nat.le_of_eq (b4Q _ _),trivial,fun b hb=>absurd (show b∈([]:List Addr) from hb) (by simp),hok,.of_eq hg⟩
  refine codeAny_mono ((F _ hKb (nsK hns)).run callerA [] s₁ H ⟨[.ref a],[]⟩ [.ref a] [.ref a] _ _ hr e0 (hbind s₁ (.ref a)) (.cons rfl .nil) (hsp H hO hS)) fun r s' h=>?_
  cases r with
  | error e=>exact (hCX H e s' h).elim
  | ok fl =>
    cases fl with
    | next=>exact False.elim h
    | brk=>exact False.elim h
    | cont=>exact False.elim h
    | ret u =>
      obtain⟨v,H',os,bare,un,hok',r',q⟩:=h
      have q':v=.bl true:=q
      subst q'
      obtain rfl:u=Value.bool true:=r'
      refine⟨rfl,OldK.of_keep fun b o e=>?_,os,bare⟩
      cases q:H b with
      | none=>exact un.keep b o e q (by intro z;exact absurd (show b∈([]:List Addr) from z) (by simp)) (by simp)
      | some u =>
        rcases hO b with z | ⟨ob,xs,z⟩
        ·rw[q] at z;cases z
        ·have z2:=un.frzs b ob _ z
         obtain⟨e1,_⟩:=hok b _ z
         obtain⟨e2,_⟩:=hok' b _ z2
         rw[e] at e1;cases e1
         exact e2
 cases hk:K.lookup a with
 | some o =>
   -- the script is one of the module's own objects
   have e:=KX a o hk
   rw[ha] at e
   cases e
   refine core (fun _=>none) (fun _=>.inl rfl) (.inr ⟨_,vs.toArray,_,hk,rfl,rfl,rfl,by rw[List.size_toArray,lenV];exact hl,by simpa using rv⟩) (fun b u z=>by have z':(none:Option HO)=some u:=z;cases z') (fun b z=>absurd rfl z) fun z=>absurd rfl z
 | none =>
   refine core (fun b=>if b=a then some (.frz { cls:=.type "list",data:=.seq vs.toArray } (.lst (ns.map V.int))) else none) (fun b=>?_) (.inl (.inr ⟨{ cls:=.type "list",data:=.seq vs.toArray },if_pos rfl⟩)) (fun b u z=>?_) (fun b z=>?_) fun _=>hk
   ·by_cases hb:b=a
    ·exact .inr ⟨_,_,if_pos hb⟩
    ·exact .inl (if_neg hb)
   ·by_cases hb:b=a
    ·have z':=(if_pos hb).symm.trans z
     cases z'
     subst hb
     exact⟨ha,by rw[List.length_map];exact hl,vs,_,rv,ha⟩
    ·have z':=(if_neg hb).symm.trans z
     cases z'
   ·by_cases hb:b=a
    ·exact hb
    ·exact absurd (if_neg hb) z
theorem b7z {l:PySem.W.OpenLaw} {n k:Nat} {q:Program} {loose:List Str} {XP:(Str→Option Value)→Heap→Prop} {YP:World→Heap→Prop} {d:DefRec} {K:Params→PySem.W.Frag} {CX:World→CXT} {sp:World→Sp} {x:Str}
  (hn:l.most=some n) (hn2:n≤sizeLine) (hdf:d.params.defaults=[]) (hr:Room k callerA)
  (hY:∀ (w:World) (h:Heap),YP w h→(K w.params).In h)
  (F : ∀ (w:World) (mg:Str→Option Value) (fa:Addr) (h:Heap),(K w.params).In h→h.Ns mainGlobals mg→mg d.name=some (.ref fa) →
   ∃ fd:FuncData,(∀ (s:Shared) (u:Value),BindsTo s fd ⟨[u],[]⟩ [(x,u)]) ∧
     ∀ base:Heap,(K w.params).In base→base.Ns mainGlobals mg→FnOk l.prog w (K w.params) mg base (CX w) k fa fd [x] (sp w))
  (hsp:∀ (w:World) (H:Hp) (a:Addr) (ns:List Int),ns.length≤n→Only H→SqL (K w.params) H a (ns.map V.int)→sp w [.ref a] H (fun v _=>v=.bl true) fun _ _ _=>False)
  (hCX:∀ (w:World) (H:Hp) (s:Shared) (e:Value) (s':Shared),CX w [] H s (fun _ _ _=>False) e s'→False) :
  PySem.W.WalkO q loose XP YP l.row.toRowW d [] (fun f vs=>PySem.call f vs):=by
 refine Att.attach_call hn hdf fun w s₀ s₁ mg mb fa o pm cd doc a vs ns G Y ho hd hcd hmg hobj hints hlen hg=>?_
 have KX:=hY w _ Y
 obtain⟨fd,hb,hF⟩:=F w mg fa _ KX G.T.g hmg
 exact b6q KX G.T.g G.T.b G.T.builtins G.T.nolimit hg hobj hints (Nat.le_trans hlen hn2) hr hF hb (fun H hO hS=>hsp w H a ns hlen hO hS) fun H e s'=>hCX w H s₁ e s'
noncomputable def a6a (s:Stmt):Arguments:=match s with
 | .FunctionDef _ a _ _ _ _ _ _ _ _=>a
 | _=>{ posonlyargs:=[],args:=[],vararg:=none,kwonlyargs:=[],kw_defaults:=[],kwarg:=none,defaults:=[] }
noncomputable def a3X (s:Stmt):List Stmt:=match s with
 | .FunctionDef _ _ b _ _ _ _ _ _ _=>b
 | _=>[]
noncomputable def a0h (s:Stmt):Scope:=match s with
 | .FunctionDef _ _ _ _ _ _ sc _ _ _=>sc
 | _=>{ kind:=.function,names:=[],isGenerator:=false,isCoroutine:=false }
noncomputable abbrev CX0:CXT:=fun _ _ _ _ _ _=>False
noncomputable abbrev E0:XK:=fun _ _ _=>False
theorem c0r {X:Cx}:b5y CX0 X E0:=fun _ _ _ _ _ _ _ h=>h.elim
structure Fun (K:PySem.W.Frag) (x qual:Str) (st:Stmt) (f:Addr) (fd:FuncData):Prop where
 ex:∃ (oc:Value) (od:Option Addr) (kV doc pm:Value) (an:Option Addr) (cdv ct:Value) (osl:Array (Option Value)),
  fd=PySem.W.fnOf x qual (a6a st) (a3X st) (a0h st) .none kV doc pm an cdv ct∧K.lookup f=some ⟨oc,od,.func fd,osl⟩∧PySem.W.codeIn K cdv qual=true
 kp:PySem.W.keepIn K (.ref f)=true
section
variable {P:Program} {w:World} {K:PySem.W.Frag} {mg:Str→Option Value} {base:Heap}
theorem Fun.ok {x qual:Str} {st:Stmt} {f:Addr} {fd:FuncData} {N ps:List Str} {k:Nat} {sp:Sp} (F:Fun K x qual st f fd) (S:FnScope N ps (a0h st)) (len:∀ vs H Q E,sp vs H Q E→vs.length=ps.length)
  (hbody:∀ (cdv:Value) (A:Around) (outer:List Env) (s:Shared) (H:Hp) (vs:List V) (Q:VK) (E:XK),Room k (A.deeper (envOfC qual (a0h st) s.heap.objs.size f cdv))→sp vs H Q E →
   ∃ t,PSs (cxOf CX0 P w K mg base N qual (a0h st) f cdv A outer s H E).nox (a3X st) t∧t { nx:=fun _ H'=>Q .non H',rt:=Q } (a6E N vs) H):FnOk P w K mg base CX0 (k+1) f fd ps sp:=by
 obtain⟨oc,od,kV,doc,pm,an,cdv,ct,osl,rfl,lk,hcd⟩:=F.ex
 refine c2k lk hcd S len fun A outer s H vs Q E hr hsp=>?_
 obtain⟨t,h,q⟩:=hbody cdv A outer s H vs Q E hr hsp
 exact⟨t,h.nox,q⟩
theorem Fun.binds {x qual:Str} {st:Stmt} {f:Addr} {fd:FuncData} {ps:List Str} (F:Fun K x qual st f fd)
  (h:∀ (kV doc pm:Value) (an:Option Addr) (cdv ct:Value) (us:List Value),us.length=ps.length→bindArgs (PySem.W.fnOf x qual (a6a st) (a3X st) (a0h st) .none kV doc pm an cdv ct) ⟨us,[]⟩=pure (ps.zip us)):a0G K fd ps []:=by
 obtain⟨oc,od,kV,doc,pm,an,cdv,ct,osl,rfl,lk,hcd⟩:=F.ex
 exact .all (h kV doc pm an cdv ct)
theorem a0w {x qual:Str} {st:Stmt} {f:Addr} {oc:Value} {od an:Option Addr} {osl:Array (Option Value)} {kV doc pm cdv ct:Value} (l:K.lookup f=some ⟨oc,od,.func (PySem.W.fnOf x qual (a6a st) (a3X st) (a0h st) .none kV doc pm an cdv ct),osl⟩)
  (c:PySem.W.codeIn K cdv qual=true) (k:PySem.W.keepIn K (.ref f)=true):Fun K x qual st f (PySem.W.fnOf x qual (a6a st) (a3X st) (a0h st) .none kV doc pm an cdv ct):=⟨⟨oc,od,kV,doc,pm,an,cdv,ct,osl,rfl,l,c⟩,k⟩
end
section
variable {X:Cx}
end
theorem ite2 {c A B:Prop} [Decidable c] (h1:c→A) (h2:¬c→B):if c then A else B:=by
 by_cases h:c
 ·rw[if_pos h]
  exact h1 h
 ·rw[if_neg h]
  exact h2 h
end L2
set_option maxHeartbeats 0
namespace L2
open PySem PySem.Spec PyProof.Rows
section
variable {κ:Type} [DecidableEq κ]
noncomputable def valV (kvs:List (κ × V)) (k:κ):Option V:=(kvs.find? fun kv=>decide (kv.1=k)).map (·.2)
noncomputable def putK (kvs:List (κ × V)) (k:κ) (v:V):List (κ × V) :=
 if (kvs.any fun kv=>decide (kv.1=k))=true then kvs.map (fun kv=>if kv.1=k then (kv.1,v) else kv) else kvs++[(k,v)]
theorem a7V {p:κ × V} {r:List (κ × V)} {k:κ} (e:p.1=k):valV (p :: r) k=some p.2:=by simp [valV,List.find?_cons,e]
theorem a7W {p:κ × V} {r:List (κ × V)} {k:κ} (e:¬p.1=k):valV (p :: r) k=valV r k:=by simp [valV,List.find?_cons,e]
theorem b1t (k:κ):∀ kvs:List (κ × V),(kvs.any fun kv=>decide (kv.1=k))=(valV kvs k).isSome
 | []=>rfl
 | p :: r=>by
   rw[List.any_cons]
   by_cases e:p.1=k
   ·simp only[a7V e,decide_eq_true e,Bool.true_or,Option.isSome_some]
   ·rw[a7W e,decide_eq_false e,Bool.false_or];exact b1t k r
theorem a5a (kvs:List (κ × V)) (k:κ) (v:V):(putK kvs k v).length≤kvs.length+1:=by
 unfold putK
 split
 ·rw[List.length_map];lia
 ·rw[List.length_append,List.length_cons,List.length_nil];lia
theorem RelO.isSome_eq {o:Option V} {u:Option Value} (r:RelO o u):o.isSome=u.isSome:=by
 cases o with
 | none=>cases u with
   | none=>rfl
   | some _=>exact (show False from r).elim
 | some _=>cases u with
   | none=>exact (show False from r).elim
   | some _=>rfl
theorem RelO.getD {o:Option V} {u:Option Value} {d:V} {d':Value} (r:RelO o u) (rd:RelV d d'):RelV (o.getD d) (u.getD d'):=by
 cases o with
 | none=>cases u with
   | none=>exact rd
   | some _=>exact (show False from r).elim
 | some _=>cases u with
   | none=>exact (show False from r).elim
   | some _=>exact r
theorem KV.val {kvs:List (κ × V)} {vs:List (κ × Value)} (r:KV kvs vs) (k:κ):RelO (valV kvs k) (valueAt vs k):=by
 unfold KV at r
 induction r with
 | nil=>exact True.intro
 | @cons p q ps qs h t ih =>
   obtain⟨h1,h2⟩:=h
   by_cases e:p.1=k
   ·have e':q.1=k:=h1.symm.trans e
    have b:valueAt (q :: qs) k=some q.2:=by simp [valueAt,List.find?_cons,e']
    rw[a7V e,b];exact h2
   ·have e':¬q.1=k:=fun z=>e (h1.trans z)
    have b:valueAt (q :: qs) k=valueAt qs k:=by simp [valueAt,List.find?_cons,e']
    rw[a7W e,b];exact ih
theorem KV.any {kvs:List (κ × V)} {vs:List (κ × Value)} (r:KV kvs vs) (k:κ):(kvs.any fun kv=>decide (kv.1=k))=vs.any fun kv=>decide (kv.1=k):=by
 unfold KV at r
 induction r with
 | nil=>rfl
 | cons h t ih=>rw[List.any_cons,List.any_cons,ih,h.1]
theorem KV.repl {kvs:List (κ × V)} {vs:List (κ × Value)} (r:KV kvs vs) (k:κ) {y:V} {u:Value} (ry:RelV y u) :
  KV (kvs.map fun kv=>if kv.1=k then (kv.1,y) else kv) (vs.map fun kv=>if kv.1=k then (kv.1,u) else kv):=by
 unfold KV at r⊢
 induction r with
 | nil=>exact .nil
 | @cons p q ps qs h t ih =>
   rw[List.map_cons,List.map_cons]
   refine .cons ?_ ih
   obtain⟨h1,h2⟩:=h
   by_cases e:p.1=k
   ·rw[if_pos e,if_pos (h1.symm.trans e)];exact⟨h1,ry⟩
   ·rw[if_neg e,if_neg (fun z=>e (h1.trans z))];exact⟨h1,h2⟩
theorem KV.put {kvs:List (κ × V)} {vs:List (κ × Value)} (r:KV kvs vs) (k:κ) {y:V} {u:Value} (ry:RelV y u):KV (putK kvs k y) (stored vs k u):=by
 unfold putK stored
 rw[r.any k]
 by_cases e:(vs.any fun kv=>decide (kv.1=k))=true
 ·rw[if_pos e,if_pos e];exact r.repl k ry
 ·rw[if_neg e,if_neg e];exact Paired.snoc r ⟨rfl,ry⟩
theorem KV.keys {kvs:List (κ × V)} {vs:List (κ × Value)} (r:KV kvs vs):kvs.map (·.1)=vs.map (·.1):=by
 unfold KV at r
 induction r with
 | nil=>rfl
 | cons h t ih=>rw[List.map_cons,List.map_cons,ih,h.1]
theorem KV.length {kvs:List (κ × V)} {vs:List (κ × Value)} (r:KV kvs vs):kvs.length=vs.length:=Paired.length r
end
theorem b4G {P:Program} {w:World} {k:Key} {u:Value} (r:RelV (kV k) u):(a0X P w).is k u=true:=by
 cases k with
 | inl i=>obtain⟨t,e⟩:=(show ∃ t,u=Value.int i t from r);subst e;exact b1b P w i t
 | inr x=>obtain⟨t,e⟩:=(show ∃ t,u=Value.str x t from r);subst e;exact b1a P w x t
theorem a9Q {P:Program} {w:World}:∀ {ks:List Key} {us:List Value},Vals (ks.map kV) us→ItemsAre (a0X P w) ks us
 | [],_,r=>by rw[List.map_nil] at r;cases r;exact .nil
 | k :: ks,_,r=>by
   rw[List.map_cons] at r
   cases r with
   | cons h t=>exact .cons (b4G h) (a9Q t)
noncomputable abbrev KT (H:Hp):List (List Key × V)→List (List Key × Addr × Value)→Prop:=Paired fun p q=>p.1=q.1∧H q.2.1=some (.tup (p.1.map kV))∧RelV p.2 q.2.2
theorem KT.val {H:Hp} {kvs:List (List Key × V)} {xs:List (List Key × Addr × Value)} (r:KT H kvs xs) (k:List Key):RelO (valV kvs k) ((atKey xs k).map (·.2)):=by
 induction r with
 | nil=>exact True.intro
 | @cons p q ps qs h t ih =>
   obtain⟨h1,_,h2⟩:=h
   by_cases e:p.1=k
   ·have e':q.1=k:=h1.symm.trans e
    have b:atKey (q :: qs) k=some q.2:=by simp [atKey,List.find?_cons,e']
    rw[a7V e,b];exact h2
   ·have e':¬q.1=k:=fun z=>e (h1.trans z)
    have b:atKey (q :: qs) k=atKey qs k:=by simp [atKey,List.find?_cons,e']
    rw[a7W e,b];exact ih
theorem KT.repl {H:Hp} {kvs:List (List Key × V)} {xs:List (List Key × Addr × Value)} (r:KT H kvs xs) (k:List Key) {y:V} {u:Value} (ry:RelV y u) :
  KT H (kvs.map fun kv=>if kv.1=k then (kv.1,y) else kv) (xs.map (putAt k u)):=by
 induction r with
 | nil=>exact .nil
 | @cons p q ps qs h t ih =>
   rw[List.map_cons,List.map_cons]
   refine .cons ?_ ih
   obtain⟨h1,h2,h3⟩:=h
   unfold putAt
   by_cases e:p.1=k
   ·rw[if_pos e,if_pos (h1.symm.trans e)];exact⟨h1,h2,ry⟩
   ·rw[if_neg e,if_neg (fun z=>e (h1.trans z))];exact⟨h1,h2,h3⟩
theorem KT.put {H:Hp} {kvs:List (List Key × V)} {xs:List (List Key × Addr × Value)} (r:KT H kvs xs) (k:List Key) {b:Addr} {y:V} {u:Value} (hb:H b=some (.tup (k.map kV))) (ry:RelV y u) :
  KT H (putK kvs k y) (storedH xs k b u):=by
 have e:(kvs.any fun kv=>decide (kv.1=k))=(atKey xs k).isSome:=by
  rw[b1t,(r.val k).isSome_eq,Option.isSome_map]
 unfold putK storedH
 rw[e]
 by_cases q:(atKey xs k).isSome=true
 ·rw[if_pos q,if_pos q];exact r.repl k ry
 ·rw[if_neg q,if_neg q];exact Paired.snoc r ⟨rfl,hb,ry⟩
theorem KT.keeps {H H':Hp} {kvs:List (List Key × V)} {xs:List (List Key × Addr × Value)} (r:KT H kvs xs) (ht:∀ b ys,H b=some (.tup ys)→H' b=some (.tup ys)):KT H' kvs xs :=
 Paired.mapP r fun _ _ z=>⟨z.1,ht _ _ z.2.1,z.2.2⟩
section
variable {P:Program} {w:World} {H:Hp} {h:Heap} {a:Addr}
theorem b9T {u:HO} (ok:HOk P w H h) (e:Rd H a u):a1G P w H h a u:=e.ok ok
theorem b3n {kvs:List (Key × V)} (ok:HOk P w H h) (e:Rd H a (.dK kvs)):kvs.length≤sizeLine∧(a == sysModules)=false∧∃ vs,KV kvs vs∧h.DictOf (a0X P w) a vs :=
 show a1G P w H h a (.dK kvs) from b9T ok e
theorem c2l {kvs:List (Key × V)} (ok:HOk P w H h) (e:H a=some (.dK kvs)):kvs.length≤sizeLine∧(a == sysModules)=false∧∃ vs,KV kvs vs∧h.DictOf (a0X P w) a vs:=b3n ok (.inl e)
theorem a7K {ks:List Key} (ok:HOk P w H h) (e:H a=some (.tup (ks.map kV))):(tupleKind (a0X P w)).is h ks a:=by
 obtain⟨_,its,r,o,h1,h2,_,n,h3⟩:=(show a1G P w H h a (.tup (ks.map kV)) from ok a _ e)
 exact⟨o,its.toArray,n,h1,h2,h3,by simpa using a9Q r⟩
theorem b3m {kvs:List (List Key × V)} (ok:HOk P w H h) (e:Rd H a (.dT kvs)):kvs.length≤sizeLine∧(a == sysModules)=false ∧
  ∃ xs,KT H kvs xs∧h.DictOfH (tupleKind (a0X P w)) a xs:=by
 obtain⟨z,y,xs,r,o,es,ep,h1,h2,h3,h4,h5⟩:=(show a1G P w H h a (.dT kvs) from b9T ok e)
 refine⟨z,y,xs,r,o,es,ep,h1,h2,h3,h4,fun x hx=>?_,h5⟩
 have all:∀ {l:List (List Key × V)} {m:List (List Key × Addr × Value)},KT H l m→∀ x∈m,(tupleKind (a0X P w)).is h x.1 x.2.1:=by
  intro l m q
  induction q with
  | nil=>intro x hx;exact nomatch hx
  | @cons p q ps qs hq t ih =>
    intro x hx
    rcases List.mem_cons.mp hx with e | hx
    ·subst e
     exact a7K ok (by rw[← hq.1];exact hq.2.1)
    ·exact ih x hx
 exact all r x hx
theorem c1c {kvs:List (List Key × V)} (ok:HOk P w H h) (e:H a=some (.dT kvs)):kvs.length≤sizeLine∧(a == sysModules)=false ∧
  ∃ xs,KT H kvs xs∧h.DictOfH (tupleKind (a0X P w)) a xs:=b3m ok (.inl e)
end
noncomputable def DGet (H:Hp) (a:Addr) (y:V) (r:Option V):Prop :=
 (∃ kvs k,Rd H a (.dK kvs)∧y=kV k∧r=valV kvs k)∨∃ kvs k b,Rd H a (.dT kvs)∧y=.ref b∧H b=some (.tup (k.map kV))∧r=valV kvs k
noncomputable def DPut (H:Hp) (a:Addr) (y v:V) (H':Hp):Prop :=
 (∃ kvs k,H a=some (.dK kvs)∧y=kV k∧kvs.length < sizeLine∧H'=upd H a (.dK (putK kvs k v))) ∨
 ∃ kvs k b,H a=some (.dT kvs)∧y=.ref b∧H b=some (.tup (k.map kV))∧kvs.length < sizeLine∧H'=upd H a (.dT (putK kvs k v))
theorem DGet.k {H:Hp} {a:Addr} {kvs:List (Key × V)} {k:Key} (e:H a=some (.dK kvs)):DGet H a (kV k) (valV kvs k):=.inl ⟨kvs,k,.inl e,rfl,rfl⟩
theorem DGet.t {H:Hp} {a b:Addr} {kvs:List (List Key × V)} {k:List Key} (e:H a=some (.dT kvs)) (eb:H b=some (.tup (k.map kV))):DGet H a (.ref b) (valV kvs k):=.inr ⟨kvs,k,b,.inl e,rfl,eb,rfl⟩
theorem DPut.k {H:Hp} {a:Addr} {kvs:List (Key × V)} {k:Key} {v:V} (e:H a=some (.dK kvs)) (hl:kvs.length < sizeLine):DPut H a (kV k) v (upd H a (.dK (putK kvs k v))):=.inl ⟨kvs,k,e,rfl,hl,rfl⟩
theorem DPut.t {H:Hp} {a b:Addr} {kvs:List (List Key × V)} {k:List Key} {v:V} (e:H a=some (.dT kvs)) (eb:H b=some (.tup (k.map kV))) (hl:kvs.length < sizeLine) :
  DPut H a (.ref b) v (upd H a (.dT (putK kvs k v))):=.inr ⟨kvs,k,b,e,rfl,eb,hl,rfl⟩
section
variable {X:Cx} {pins:List (Addr × Obj)} {σ:St} {H:Hp} {s:Shared} {a:Addr} {y v:V} {u r:Value} {o:Option V} {A:Around} {E:Value→Shared→Prop}
theorem Inv.big (I:Inv X pins σ H s):sysModules < s.heap.objs.size:=by
 have h:mainGlobals < s.heap.objs.size:=(I.mod.glob.keeps I.bk).lt
 exact Nat.lt_trans (by decide) h
theorem b5f {Q:Value→Shared→Prop} (hu:A.units+1 < cLine) (I:Inv X pins σ H s) (g:DGet H a y (some v)) (ry:RelV y u) (h:∀ w' s',Inv X pins σ H s'→RelV v w'→Q w' s') :
  wpAny (model X.prog X.w) A (getItem (.ref a) u) Q E s:=by
 rcases g with ⟨kvs,k,e,ey,l⟩ | ⟨kvs,k,b,e,ey,eb,l⟩
 ·subst ey
  obtain⟨z,hd,vs,rel,dd⟩:=b3n I.hok e
  obtain⟨w',hw,rw'⟩:=RelO.some_of (v:=v) (o:=valueAt vs k) (by rw[l];exact rel.val k)
  exact wpAny_getItem_of (b4G ry) dd.mapOf hw (h w' _ (I.tok _) rw')
 ·subst ey
  cases (show u=Value.ref b from ry)
  obtain⟨z,hd,xs,rel,dd⟩:=b3m I.hok e
  obtain⟨w',hw,rw'⟩:=RelO.some_of (v:=v) (o:=(atKey xs k).map (·.2)) (by rw[l];exact rel.val k)
  obtain⟨p,hp,hp2⟩:=Option.map_eq_some_iff.mp hw
  refine wpAny_getItem_heap (tupleKind_room_in1 hu) (a7K I.hok eb) dd hp ?_
  rw[hp2]
  exact h w' _ (I.tok _) rw'
theorem b8Y {Q:Value→Shared→Prop} (hu:A.units+1 < cLine) (I:Inv X pins σ H s) (g:DGet H a y o) (ry:RelV y u) (h:∀ s',Inv X pins σ H s'→Q (.bool (!o.isSome)) s') :
  wpAny (model X.prog X.w) A (compareOp .NotIn u (.ref a)) Q E s:=by
 rcases g with ⟨kvs,k,e,ey,l⟩ | ⟨kvs,k,b,e,ey,eb,l⟩
 ·subst ey
  obtain⟨z,hd,vs,rel,dd⟩:=b3n I.hok e
  refine wpAny_notIn_of (b4G ry) hd dd.mapOf ?_
  rw[← (rel.val k).isSome_eq,← l]
  exact h _ (I.tok _)
 ·subst ey
  cases (show u=Value.ref b from ry)
  obtain⟨z,hd,xs,rel,dd⟩:=b3m I.hok e
  refine wpAny_notIn_heap (tupleKind_room_in1 hu) (a7K I.hok eb) hd dd ?_
  have q:=(rel.val k).isSome_eq
  rw[Option.isSome_map] at q
  rw[← q,← l]
  exact h _ (I.tok _)
theorem b1i {h':Heap} {t':Nat} {ob:HO} (I:Inv X pins σ H s) (mu:Mut (H a)) (hs:Heap.SameBut a s.heap h') (he:∃ q,h'.get? a=some q) (new:a1G X.prog X.w (upd H a ob) h' a ob) :
  Inv X pins σ (upd H a ob) { s with heap:=h',toks:=t' } :=
 I.write (x:=a) (e:=a) mu (.inl rfl) (fun b q hb z=>(hs.2 b hb).trans z) he new
theorem c1d {P:Program} {w:World} {H':Hp} {h':Heap} {kvs:List (Key × V)} {vs:List (Key × Value)} (z:kvs.length≤sizeLine) (hd:(a == sysModules)=false) (rel:KV kvs vs) (dd:h'.DictOf (a0X P w) a vs) :
  a1G P w H' h' a (.dK kvs):=⟨z,hd,vs,rel,dd⟩
theorem b5e {H':Hp} {Q:Unit→Shared→Prop} (hu:A.units+1 < cLine) (I:Inv X pins σ H s) (g:DPut H a y v H') (ry:RelV y u) (rv:RelV v r) (h:∀ s',Inv X pins σ H' s'→Q () s') :
  wpAny (model X.prog X.w) A (setItem (.ref a) u r) Q E s:=by
 rcases g with ⟨kvs,k,e,ey,l,eH⟩ | ⟨kvs,k,b,e,ey,eb,l,eH⟩
 ·subst ey eH
  obtain⟨z,hd,vs,rel,dd⟩:=c2l I.hok e
  have hz:vs.length≤sizeLine:=by rw[← rel.length];exact z
  have hl:(putK kvs k v).length≤sizeLine:=by have:=a5a kvs k v;lia
  refine wpAny_setItem_pairs (hsz:=hz) (b4G ry) dd fun h' dd' hs=>h _ ?_
  have he:∃ q,h'.get? a=some q:=let ⟨q,_,_,hq,_⟩:=dd';⟨q,hq⟩
  exact b1i I (by rw[e];exact True.intro) hs he (c1d hl hd (rel.put k rv) dd')
 ·subst ey eH
  cases (show u=Value.ref b from ry)
  obtain⟨z,hd,xs,rel,dd⟩:=c1c I.hok e
  have hz:xs.length≤sizeLine:=by rw[← Paired.length rel];exact z
  have hl:(putK kvs k v).length≤sizeLine:=by have:=a5a kvs k v;lia
  refine wpAny_setItem_heap (hsz:=hz) (tupleKind_room_in1 hu) (a7K I.hok eb) dd fun h' dd' hs=>h _ ?_
  obtain⟨q,es,ep,hq,h2,h3,h4,_,h5⟩:=dd'
  refine b1i I (by rw[e];exact True.intro) hs ⟨q,hq⟩ ⟨hl,hd,_,(rel.put k eb rv).keeps fun c ys ec=>?_,q,es,ep,hq,h2,h3,h4,h5⟩
  rw[a0v (b8A ec e (fun z=>nomatch z))]
  exact ec
end
section
variable {X:Cx} {pins:List (Addr × Obj)} {σ:St} {H:Hp} {s:Shared} {a:Addr} {kvs:List (Key × V)} {k:Key} {u:Value} {A:Around} {E:Value→Shared→Prop}
end
noncomputable def NoSl (i:Expr):Prop:=∀ ov iv,subscripted i false ov iv=operate [ov,iv] (getItem ov iv)
theorem b3G {prog:Program} {w:World} {A:Around} {E:Value→Shared→Prop} {s:Shared} {env:Env} {value slice:Expr} {pos:Pos} {T id:String} {Q:Value→Shared→Prop}
  (hl:typeLookup (.type T) "__getitem__"=pure (some (.builtin id))) (hs:NoSl slice)
  (h:wpAny (model prog w) A (eval value env) (fun o s₁=>wpAny (model prog w) A (eval slice env) (fun i s₂=>s₂.TypeIs o T∧wpAny (model prog w) A (getItem o i) Q E s₂) E s₁) E s) :
  wpAny (model prog w) A (eval (.Subscript value slice pos) env) Q E s:=by
 refine Subscript_ (wpAny_mono h (fun o s₁ h₁=>wpAny_mono h₁ (fun i s₂ h₂=>?_) fun _ _ x=>x) fun _ _ x=>x)
 obtain⟨hT,h₂⟩:=h₂
 unfold subscriptTail
 refine wpAny_bind ?_
 rw[getitemInPython_of_ne hT.not_modules]
 refine wpAny_bind (wpAny_specialOf hT hl ?_)
 have fin:wpAny (model prog w) A (subscripted slice false o i) (fun r s₃=>wpAny (model prog w) A (letTemporaryGo value o r >>= fun _=>pure r) Q E s₃) E s₂:=by
  rw[hs o i]
  exact wpAny_operating (wpAny_mono h₂ (fun r s₃ h₃=>wpAny_bind (wpAny_letTemporaryGo (wpAny_pure h₃))) fun _ _ x=>x)
 first
  | exact wpAny_pure (wpAny_bind fin)
  | exact wpAny_bind (wpAny_pure (wpAny_bind fin))
  | exact wpAny_bind fin
theorem b1h {X:Cx} {pins:List (Addr × Obj)} {σ:St} {H:Hp} {s:Shared} {a:Addr} {y:V} {o:Option V} (I:Inv X pins σ H s) (g:DGet H a y o):s.TypeIs (.ref a) "dict":=by
 rcases g with ⟨kvs,k,e,_,_⟩ | ⟨kvs,k,b,e,_,_,_⟩
 ·obtain⟨_,_,vs,_,dd⟩:=b3n I.hok e
  exact dd.typeIs
 ·obtain⟨_,_,xs,_,dd⟩:=b3m I.hok e
  exact dd.typeIs
noncomputable def c1B (td ty:TE):TE:=fun σ H Q=>td σ H fun x H1=>ty σ H1 fun y H2=>∃ a v,x=.ref a∧DGet H2 a y (some v)∧Q v H2
noncomputable def c1K (td ty tv:TE):TS:=fun D σ H=>tv σ H fun v H1=>td σ H1 fun x H2=>ty σ H2 fun y H3=>∃ a H4,x=.ref a∧DPut H3 a y v H4∧D.nx σ H4
section
variable {X:Cx} {o i e value:Expr} {pos pos' tpos:Pos} {td ty tv:TE}
theorem b8n (hu:X.A.units+1 < cLine) (ho:PE X o td) (hi:PE X i ty) (hs:NoSl i):PE X (.Subscript o i pos) (c1B td ty):=by
 intro pins s σ H Q I h
 refine b3G PySem.F.slot_dict_getitem.lookup hs (thn (ho pins s σ H _ I h) fun u s1 ⟨x,H1,I1,rx,q1⟩=>thn (hi pins s1 σ H1 _ I1 q1) fun iv s2 ⟨y,H2,I2,ry,a,v,ex,g,q2⟩=>?_)
 subst ex
 obtain rfl:u=Value.ref a:=rx
 exact⟨b1h I2 g,b5f hu I2 g ry fun w' s3 I3 rw'=>⟨v,H2,I3,rw',q2⟩⟩
theorem b4f (hu:X.A.units+1 < cLine) (ho:PE X o td) (hi:PE X i ty) (hv:PE X value tv) (hs:swapsWith value (some (.Subscript o i pos')) pos.line X.env=pure false) :
  PS X (.Assign [.Subscript o i pos'] value pos) (c1K td ty tv):=by
 intro pins s σ H D I h
 refine wpAny_Assign_Subscript (thn (hv pins s σ H _ I h) fun r s1 ⟨v,H1,I1,rv,q1⟩=>thn (ho pins s1 σ H1 _ I1 q1) fun u s2 ⟨x,H2,I2,rx,q2⟩=>thn (hi pins s2 σ H2 _ I2 q2) fun iv s3 ⟨y,H3,I3,ry,a,H4,ex,g,q3⟩=>?_) hs
 subst ex
 obtain rfl:u=Value.ref a:=rx
 exact b5e hu I3 g ry rv fun s4 I4=>⟨σ,H4,I4,q3⟩
end
theorem b6A {P:Program} {w:World} {H:Hp} (h:Heap) (hb:sysModules < h.objs.size):a1G P w H (h.push { cls:=.type "dict",data:=.dict #[] }) h.objs.size (.dK []) :=
 ⟨Nat.zero_le _,beq_eq_false_iff_ne.mpr (Ne.symm (Nat.ne_of_lt hb)),[],.nil,Heap.DictOf.new h⟩
theorem b2e {P:Program} {w:World} {H:Hp} (h:Heap) (hb:sysModules < h.objs.size):a1G P w H (h.push { cls:=.type "dict",data:=.dict #[] }) h.objs.size (.dT []) :=
 ⟨Nat.zero_le _,beq_eq_false_iff_ne.mpr (Ne.symm (Nat.ne_of_lt hb)),[],.nil,_,#[],0,Heap.get?_push_size _ rfl,⟨rfl,rfl,rfl⟩,rfl,rfl,List.nodup_nil⟩
noncomputable def b9G:TE:=fun _ H Q=>∀ p,H p=none→Q (.ref p) (upd H p (.dK []))
noncomputable def b9F:TE:=fun _ H Q=>∀ p,H p=none→Q (.ref p) (upd H p (.dT []))
section
variable {X:Cx} {pos:Pos}
theorem b6a:PE X (.Dict [] [] pos) b9G:=fun pins s σ H Q I h =>
 wpAny_Dict_empty ⟨.ref s.heap.objs.size,_,I.laid (a:=s.heap.objs.size) (o:=.dK []) (t':=s.toks) (fun _ _ q=>Heap.get?_push_of_some _ q) (Nat.le_refl _) (b6A s.heap I.big),rfl,h _ (I.hok.fresh (Nat.le_refl _))⟩
theorem b5Z:PE X (.Dict [] [] pos) b9F:=fun pins s σ H Q I h =>
 wpAny_Dict_empty ⟨.ref s.heap.objs.size,_,I.laid (a:=s.heap.objs.size) (o:=.dT []) (t':=s.toks) (fun _ _ q=>Heap.get?_push_of_some _ q) (Nat.le_refl _) (b2e s.heap I.big),rfl,h _ (I.hok.fresh (Nat.le_refl _))⟩
end
structure M1 (X:Cx) (o:Expr) (m:Str) (apos:Pos) (e:Expr) (cpos:Pos):Prop where
 base:attributeBase o m X.env (eval o X.env)=eval o X.env
 few:((backTo cpos (starEach [e] X.env)).all (fun x=>!x.1) && (backToKw cpos (keywordEach [] X.env)).all (fun x=>x.1.isSome)
  && decide (([e]:List Expr).length+([]:List Keyword).length+(if ([]:List Keyword).isEmpty then 0 else 1) < 30))=true
 line:(apos.endLine == cpos.line)=true
 trees:backTo cpos (starEach [e] X.env)=[(false,eval e X.env)]
structure M2 (X:Cx) (o:Expr) (m:Str) (apos:Pos) (e f:Expr) (cpos:Pos):Prop where
 base:attributeBase o m X.env (eval o X.env)=eval o X.env
 few:((backTo cpos (starEach [e,f] X.env)).all (fun x=>!x.1) && (backToKw cpos (keywordEach [] X.env)).all (fun x=>x.1.isSome)
  && decide (([e,f]:List Expr).length+([]:List Keyword).length+(if ([]:List Keyword).isEmpty then 0 else 1) < 30))=true
 line:(apos.endLine == cpos.line)=true
 trees:backTo cpos (starEach [e,f] X.env)=[(false,eval e X.env),(false,eval f X.env)]
noncomputable def IsD (H:Hp) (a:Addr):Prop:=(∃ kvs,Rd H a (.dK kvs))∨∃ kvs,Rd H a (.dT kvs)
theorem b7g {X:Cx} {pins:List (Addr × Obj)} {σ:St} {H:Hp} {s:Shared} {a:Addr} (I:Inv X pins σ H s) (d:IsD H a) :
  s.TypeIs (.ref a) "dict"∧(∀ b,Value.ref a=.ref b→∃ ob,s.heap.get? b=some ob∧ob.dict=none)∧(a == sysModules)=false:=by
 rcases d with ⟨kvs,e⟩ | ⟨kvs,e⟩
 ·obtain⟨_,hd,vs,_,dd⟩:=b3n I.hok e
  refine⟨dd.typeIs,fun b q=>?_,hd⟩
  cases q
  obtain⟨ob,_,_,h1,h2,_⟩:=dd
  exact⟨ob,h1,h2.2.1⟩
 ·obtain⟨_,hd,xs,_,dd⟩:=b3m I.hok e
  refine⟨dd.typeIs,fun b q=>?_,hd⟩
  cases q
  obtain⟨ob,_,_,h1,h2,_⟩:=dd
  exact⟨ob,h1,h2.2.1⟩
section
variable {X:Cx} {pins:List (Addr × Obj)} {σ:St} {H:Hp} {s:Shared} {a:Addr} {y d:V} {u r:Value} {o:Option V} {A:Around} {E:Value→Shared→Prop}
theorem c1e {Q:Value→Shared→Prop} (hu:A.units+1 < cLine) (I:Inv X pins σ H s) (g:DGet H a y o) (ry:RelV y u) (rd:RelV d r) (h:∀ w' s',Inv X pins σ H s'→RelV (o.getD d) w'→Q w' s') :
  wpAny (model X.prog X.w) A (call (.builtin "dict.get") [.ref a,u,r]) Q E s:=by
 rcases g with ⟨kvs,k,e,ey,l⟩ | ⟨kvs,k,b,e,ey,eb,l⟩
 ·subst ey
  obtain⟨z,hd,vs,rel,dd⟩:=b3n I.hok e
  refine call_meetsIn PySem.F.slot_dict_get dd.typeIs PySem.F.entry_dict_get (PySem.F.args_dict_get_3 _ _ _) (meets_dict_get_default (a0X X.prog X.w) a (b4G ry) hd r) ⟨_,dd.mapOf,h _ _ (I.tok _) ?_⟩
  rw[l]
  exact (rel.val k).getD rd
 ·subst ey
  cases (show u=Value.ref b from ry)
  obtain⟨z,hd,xs,rel,dd⟩:=b3m I.hok e
  refine call_meetsIn PySem.F.slot_dict_get dd.typeIs PySem.F.entry_dict_get (PySem.F.args_dict_get_3 _ _ _) (meetsH_dict_get_default (tupleKind (a0X X.prog X.w)) a b hd r) ⟨tupleKind_room_in1 hu,k,xs,a7K I.hok eb,dd,h _ _ (I.tok _) ?_⟩
  rw[l]
  exact (rel.val k).getD rd
end
noncomputable def b9H (td ty tx:TE):TE:=fun σ H Q=>td σ H fun x H1=>∃ a,x=.ref a∧IsD H1 a∧ty σ H1 fun y H2=>tx σ H2 fun z H3=>∃ o,DGet H3 a y o∧Q (o.getD z) H3
section
variable {X:Cx} {o e f:Expr} {apos cpos:Pos} {td ty tx:TE}
theorem b1J (hu:X.A.units+1 < cLine) (ho:PE X o td) (he:PE X e ty) (hf:PE X f tx) (m:M2 X o "get" apos e f cpos):PE X (.Call (.Attribute o "get" apos) [e,f] [] cpos) (b9H td ty tx):=by
 intro pins s σ H Q I h
 refine wpAny_Call_method m.base m.few m.line PySem.F.plainAttrs_dict PySem.F.slot_dict_get PySem.F.type_dict_get (thn (ho pins s σ H _ I h) fun u s1 ⟨x,H1,I1,rx,a,ex,d,q1⟩=>?_)
 subst ex
 obtain rfl:u=Value.ref a:=rx
 obtain⟨t1,t2,_⟩:=b7g I1 d
 refine⟨t1,t2,?_⟩
 rw[m.trees]
 refine Calls.callWith_builtin rfl (Calls.evalArgs_plain (Calls.spliced_cons (thn (he pins s1 σ H1 _ I1 q1) fun iv s2 ⟨y,H2,I2,ry,q2⟩ =>
  Calls.spliced_cons (thn (hf pins s2 σ H2 _ I2 q2) fun fv s3 ⟨z,H3,I3,rz,ov,g,q3⟩=>Calls.spliced_nil ?_))))
 exact c1e hu I3 g ry rz fun w' s4 I4 rw'=>⟨_,H3,I4,rw',q3⟩
end
noncomputable def a5g (env:Env):List (Str × NameKind)→List (Str × Addr)→List (Str × Addr)
 | [],acc=>acc
 | (n,k) :: r,acc=>a5g env r (if k == .free then (n,(env.cells.lookup n).getD 0) :: acc else acc)
theorem a3y (env:Env) (n:Str) (k:NameKind) (r:List (Str × NameKind)) (acc:List (Str × Addr)):a5g env ((n,k) :: r) acc=a5g env r (if k == .free then (n,(env.cells.lookup n).getD 0) :: acc else acc):=rfl
theorem a3Y (env:Env) (f:Str × NameKind→List (Str × Addr)→Sem (ForInStep (List (Str × Addr))))
  (hf:∀ n k cs,f (n,k) cs=if (k == .free)=true then (do let a ← cellOf env n;pure (.yield ((n,a) :: cs))) else pure (.yield cs)) :
  ∀ (names:List (Str × NameKind)) (acc:List (Str × Addr)),(∀ y∈names,y.2=.free→∃ c,env.cells.lookup y.1=some c)→forIn names acc f=(pure (a5g env names acc):Sem _)
 | [],acc,_=>by rw[List.forIn_nil];rfl
 | (n,k) :: r,acc,h=>by
   rw[List.forIn_cons,hf]
   have hr:∀ y∈r,y.2=.free→∃ c,env.cells.lookup y.1=some c:=fun y hy=>h y (List.mem_cons_of_mem _ hy)
   by_cases hk:(k == NameKind.free)=true
   ·rw[if_pos hk]
    obtain⟨c,hc⟩:=h (n,k) List.mem_cons_self (by simpa using hk)
    have hc':env.cells.lookup n=some c:=hc
    have e:cellOf env n=pure c:=by unfold cellOf;rw[hc']
    rw[e]
    simp only[pure_bind]
    rw[a3Y env f hf r _ hr]
    rw[a3y,if_pos hk,hc']
    rfl
   ·rw[if_neg hk]
    simp only[pure_bind]
    rw[a3Y env f hf r _ hr]
    rw[a3y,if_neg hk]
theorem a8Q (scope:Scope) (env:Env) (h:∀ y∈scope.names,y.2=.free→∃ c,env.cells.lookup y.1=some c):closureFor scope env=pure (a5g env scope.names []):=by
 unfold closureFor
 dsimp only
 rw[a3Y env _ (fun n k cs=>by cases hk:(k == NameKind.free)<;>simp [hk]<;>rfl) scope.names [] h]
 rfl
theorem a4r (env:Env):∀ (names:List (Str × NameKind)) (acc:List (Str × Addr)) (x:Str) (c:Addr),(a5g env names acc).lookup x=some c →
  (acc.lookup x=some c∨((x,.free)∈names∧c=(env.cells.lookup x).getD 0))
 | [],acc,x,c,h=>.inl h
 | (n,k) :: r,acc,x,c,h=>by
   rw[a3y] at h
   rcases a4r env r _ x c h with q | ⟨q1,q2⟩
   ·split at q
    ·rename_i hk
     have hk':k=.free:=by simpa using hk
     subst hk'
     rw[List.lookup_cons] at q
     split at q
     ·rename_i hx
      have:x=n:=by simpa using hx
      subst this
      cases q
      exact .inr ⟨List.mem_cons_self,rfl⟩
     ·exact .inl q
    ·exact .inl q
   ·exact .inr ⟨List.mem_cons_of_mem _ q1,q2⟩
theorem b0j (env:Env):∀ (names:List (Str × NameKind)) (acc:List (Str × Addr)) (x:Str),(∃ c,acc.lookup x=some c)→∃ c,(a5g env names acc).lookup x=some c
 | [],acc,x,h=>h
 | (n,k) :: r,acc,x,h=>by
   rw[a3y]
   refine b0j env r _ x ?_
   split
   ·rw[List.lookup_cons]
    split
    ·exact⟨_,rfl⟩
    ·exact h
   ·exact h
theorem a7f (env:Env):∀ (names:List (Str × NameKind)) (acc:List (Str × Addr)) (x:Str),(x,NameKind.free)∈names→∃ c,(a5g env names acc).lookup x=some c
 | [],acc,x,h=>by simp at h
 | (n,k) :: r,acc,x,h=>by
   rw[a3y]
   rcases List.mem_cons.mp h with e | h
   ·cases e
    refine b0j env r _ _ ?_
    rw[if_pos (by decide),List.lookup_cons]
    simp
   ·exact a7f env r _ x h
noncomputable def ownB (names:List (Str × NameKind)) (x:Str):Bool:=names.any fun y=>y.1 == x && y.2 == .cell
theorem b1M {names:List (Str × NameKind)} {x:Str}:ownB names x=true↔(x,NameKind.cell)∈names:=by
 unfold ownB
 rw[List.any_eq_true]
 constructor
 ·rintro⟨⟨n,k⟩,h,e⟩
  simp only[Bool.and_eq_true,beq_iff_eq] at e
  obtain⟨rfl,rfl⟩:=e
  exact h
 ·intro h
  exact⟨_,h,by simp⟩
theorem a0W:∀ (names:List (Str × NameKind)) (n:Nat) (acc:List (Str × Addr)),cellsFrom n names acc=cellsFrom n names []++acc
 | [],_,_=>rfl
 | (x,k) :: r,n,acc=>by
   unfold cellsFrom
   split
   ·rw[a0W r (n+1) ((x,n) :: acc),a0W r (n+1) [(x,n)],List.append_assoc];rfl
   ·exact a0W r n acc
theorem a2h:∀ (names:List (Str × NameKind)) (n:Nat) {x:Str} {c:Addr},(x,c)∈cellsFrom n names []→n≤c∧(x,NameKind.cell)∈names
 | [],_,_,_,h=>nomatch h
 | (y,k) :: r,n,x,c,h=>by
   unfold cellsFrom at h
   split at h
   ·rename_i hk
    have hk':k=.cell:=by simpa using hk
    subst hk'
    rw[a0W] at h
    rcases List.mem_append.mp h with h | h
    ·have:=a2h r (n+1) h
     exact⟨by lia,List.mem_cons_of_mem _ this.2⟩
    ·cases List.mem_singleton.mp h
     exact⟨Nat.le_refl _,List.mem_cons_self⟩
   ·have:=a2h r n h
    exact⟨this.1,List.mem_cons_of_mem _ this.2⟩
theorem a2C:∀ (names:List (Str × NameKind)) (n:Nat) {x:Str},(x,NameKind.cell)∈names→((cellsFrom n names []).lookup x).isSome=true
 | [],_,_,h=>nomatch h
 | (y,k) :: r,n,x,h=>by
   unfold cellsFrom
   rcases List.mem_cons.mp h with e | h
   ·cases e
    rw[if_pos (by decide),a0W,List.lookup_append]
    cases hh:(cellsFrom (n+1) r []).lookup y with
    | some c=>rfl
    | none=>simp
   ·have i0:=a2C r n h
    have i1:=a2C r (n+1) h
    split
    ·rw[a0W,List.lookup_append]
     cases hh:(cellsFrom (n+1) r []).lookup x with
     | some c=>rfl
     | none=>rw[hh] at i1;cases i1
    ·exact i0
theorem a2Q:∀ (names:List (Str × NameKind)) (n:Nat),(cellsFrom n names []).Pairwise fun x y=>x.2≠y.2
 | [],_=>List.Pairwise.nil
 | (y,k) :: r,n=>by
   unfold cellsFrom
   split
   ·rw[a0W]
    refine List.pairwise_append.mpr ⟨a2Q r (n+1),List.pairwise_singleton _ _,fun a ha b hb=>?_⟩
    rw[List.mem_singleton.mp hb]
    have:=(a2h r (n+1) (x:=a.1) (c:=a.2) ha).1
    show a.2≠n
    exact Nat.ne_of_gt (Nat.lt_of_succ_le this)
   ·exact a2Q r n
theorem a5P {M:Model} {A:Around} {E:Value→Shared→Prop} {s:Shared} {scope:Scope} {globals:Addr} {closure:List (Str × Addr)} {qual:Str} {func:Option Addr} {code:Value} {around:Env} {builtins:Addr} {Q:Env→Shared→Prop}
  (hQ:∀ h',h'=pushCells (s.heap.push { cls:=.type "dict",data:=.dict #[] }) scope.names→Q (newEnv scope s.heap.objs.size globals (cellsFrom (s.heap.objs.size+1) scope.names []++closure) qual func code (some around) builtins) { s with heap:=h' }) :
  wpAny M A (newFunctionEnv scope globals closure [] qual func code (some around) builtins) Q E s:=by
 simp only[newFunctionEnv,Option.isSome_some,if_true]
 refine wpAny_bind (wpAny_alloc ?_)
 refine wpAny_bind (wpAny_layCells _ (fun name kind cells=>by cases hkc:kind == NameKind.cell<;>simp [hkc]) _ _ _ _ ?_)
 rw[a0W,show ({ s with heap:=s.heap.push { cls:=.type "dict",data:=.dict #[] } }:Shared).heap.objs.size=s.heap.objs.size+1 from Heap.size_push ..]
 refine wpAny_bind ?_
 rw[List.forIn_nil]
 exact wpAny_pure (wpAny_pure (hQ _ rfl))
section
variable {prog:Program} {w:World} {A:Around} {R:Result→Shared→Prop} {s:Shared}
theorem a4P {elt target iter:Expr} {ifs:List Expr} {scope:Scope} {pos:Pos} {it acc:Value} {env:Env} (I:Nat→Shared→Prop)
  (turn:∀ n s,I n s→wpAny (model prog w) A (pyNext it) (fun r s₁=>match r with
   | none=>R (.ok .next) s₁
   | some v=>wpAny (model prog w) A (letOwnedTupleGo target it v) (fun _ s₁'=>wpAny (model prog w) A (assign target env v) (fun _ s₂ =>
     wpAny (model prog w) A (forIn ifs true fun c r=>if r=true then do let ok ← isTrue c env (eval c env);pure (ForInStep.yield ok) else pure (ForInStep.yield r)) (fun ok s₃ =>
      if ok=true then wpAny (model prog w) A (eval elt env) (fun x s₄ =>
       wpAny (model prog w) A (call (.builtin "list.append") [acc,x]) (fun _ s₅=>∃ m,m < n∧I m s₅) (notedBy (model prog w) A env fun e s'=>R (.error e) s') s₄) (notedBy (model prog w) A env fun e s'=>R (.error e) s') s₃
      else ∃ m,m < n∧I m s₃) (notedBy (model prog w) A env fun e s'=>R (.error e) s') s₂) (notedBy (model prog w) A env fun e s'=>R (.error e) s') s₁') (notedBy (model prog w) A env fun e s'=>R (.error e) s') s₁) (notedBy (model prog w) A env fun e s'=>R (.error e) s') s)
  (n:Nat) (h:I n s) :
  codeAny (model prog w) A (.compLoop (.ListComp elt [⟨target,iter,ifs,0⟩] scope pos) 0 it acc env) R s:=by
 refine codeAny_loop rfl I (fun n s hI=>?_) n h
 show wpAny _ A ((compTurn (.ListComp elt [⟨target,iter,ifs,0⟩] scope pos) 0 it acc env).onRaise (fun x=>do noteFrame x env;theTreesLotGoes x)) _ _ s
 refine wpAny_noted ?_
 rw[compTurn_list]
 refine wpAny_bind (wpAny_standAt (wpAny_bind (wpAny_mono (turn n s hI) (fun r s₁ h₁=>?_) fun _ _ h'=>h')))
 cases r with
 | none=>exact wpAny_pure h₁
 | some v =>
   refine wpAny_bind (wpAny_mono h₁ (fun _ s₁' h₁'=>wpAny_bind (wpAny_mono h₁' (fun _ s₂ h₂=>wpAny_bind (wpAny_mono h₂ (fun ok s₃ h₃=>?_) fun _ _ h'=>h')) fun _ _ h'=>h')) fun _ _ h'=>h')
   cases ok with
   | false=>exact wpAny_pure ⟨rfl,h₃⟩
   | true =>
     exact wpAny_bind (wpAny_bind (wpAny_mono h₃ (fun x s₄ h₄=>wpAny_bind (wpAny_mono h₄ (fun _ s₅ h₅=>wpAny_pure (wpAny_pure ⟨rfl,h₅⟩)) fun _ _ h'=>h')) fun _ _ h'=>h'))
end
noncomputable def blk (X:Cx) (N':List Str) (scope:Scope) (C:Addr) (s:Shared) (H:Hp) (fp:List Addr) (pins:List (Addr × Obj)):Cx where
 prog:=X.prog
 w:=X.w
 K:=X.K
 mg:=X.mg
 base:=X.base
 A:=X.A
 N:=N'
 s₀:=s
 H₀:=H
 env:=compEnvC scope (cellsFrom (C+1) scope.names []++a5g X.env scope.names []) C X.env
 outer:=X.stack
 stack:=X.stack
 ex:=fp
 fn:=ownB scope.names
 calm:=X.calm
 pn:=X.pn++pins
 xe:=fun _ _=>False
structure BlkScope (X:Cx) (N':List Str) (ix:List (Option Nat)) (scope:Scope):Prop where
 kind:scope.kind=.function
 locs:∀ y∈scope.names,y.2=.local→scope.names.lookup y.1=some .local
 frees:∀ y∈scope.names,y.2=.free→(X.env.kindOf y.1=some .cell∨X.env.kindOf y.1=some .free)
 look:∀ x k,(relabel scope X.env).names.lookup x=some k→(k=.cell∨k=.free)→(x,NameKind.free)∈scope.names∨(x,NameKind.cell)∈scope.names
 lenI:ix.length=N'.length
 at_:∀ (i j:Nat) (x:Str),ix[i]?=some (some j)→N'[i]?=some x→X.N[j]?=some x∧(x,NameKind.free)∈scope.names∧ownB scope.names x=false∧(relabel scope X.env).names.lookup x=X.env.kindOf x
variable {X:Cx} {pins:List (Addr × Obj)} {σ:St} {H:Hp} {s:Shared} {N':List Str} {ix:List (Option Nat)} {scope:Scope}
noncomputable def pick (ix:List (Option Nat)) (σ:St):St:=ix.map fun o=>match o with | some j=>(σ[j]?).join | none=>none
theorem b1H {i:Nat} {v:V} (e:(pick ix σ)[i]?=some (some v)):∃ j,ix[i]?=some (some j)∧σ[j]?=some (some v):=by
 unfold pick at e
 rw[List.getElem?_map] at e
 cases h:ix[i]? with
 | none=>rw[h] at e;cases e
 | some o =>
   rw[h] at e
   cases o with
   | none =>
     have e':(none:Option V)=some v:=Option.some.inj e
     cases e'
   | some j =>
     have e':(σ[j]?).join=some v:=Option.some.inj e
     refine⟨j,rfl,?_⟩
     cases hj:σ[j]? with
     | none=>rw[hj] at e';cases e'
     | some u=>rw[hj] at e';exact congrArg some e'
theorem a2i (I:Inv X pins σ H s) (S:BlkScope X N' ix scope) (C:Addr) {x:Str} {c:Addr} (e:(cellsFrom (C+1) scope.names []++a5g X.env scope.names []).lookup x=some c) :
  (C < c∧(cellsFrom (C+1) scope.names []).lookup x=some c)∨(ownB scope.names x=false∧X.env.cells.lookup x=some c):=by
 rw[List.lookup_append] at e
 cases h:(cellsFrom (C+1) scope.names []).lookup x with
 | some c' =>
   rw[h] at e
   cases e
   exact .inl ⟨(a2h _ _ (mem_of_lookup h)).1,rfl⟩
 | none =>
   rw[h] at e
   refine .inr ⟨Bool.eq_false_iff.mpr fun z=>?_,?_⟩
   ·have:=a2C scope.names (C+1) (b1M.mp z)
    rw[h] at this;cases this
   ·have e':(a5g X.env scope.names []).lookup x=some c:=e
    rcases a4r X.env scope.names [] x c e' with q | ⟨q,rfl⟩
    ·cases q
    ·obtain⟨c,hc⟩:=I.ok.has x (S.frees _ q rfl)
     rw[hc]<;>rfl
theorem c1f {fp:List Addr} {C:Addr} (I:Inv X pins σ H s) (hf:∀ b∈fp,FpOk X pins H b) (S:BlkScope X N' ix scope) (hC:s.heap.objs.size≤C) (hfo:∀ b∈fp,∃ o,s.heap.get? b=some o) :
  (blk X N' scope C s H fp pins).Ok:=by
 have lt:∀ x c,X.env.cells.lookup x=some c→c < C:=fun x c e=>by
  obtain⟨v,z⟩:=I.cell x c e
  exact Nat.lt_of_lt_of_le z.lt hC
 refine⟨I.ok.mod,?_,I.ok.glob,I.ok.blt,hC,fun x y c h1 h2=>?_,fun x hx=>?_,fun x c hf' e=>?_,I.ok.hd,I.ok.frames,.inl rfl,fun b hb=>?_,I.bs,Nat.le_trans I.ok.bsz I.sz,fun b o e hb=>?_,fun b hb hs=>?_,I.stack,I.stkFree⟩
 ·exact S.kind
 ·rcases a2i I S C h1 with ⟨a1,a2⟩ | ⟨a1,a2⟩<;>rcases a2i I S C h2 with ⟨b1,b2⟩ | ⟨b1,b2⟩
  ·exact name_of_addr (a2Q _ _) (mem_of_lookup a2) (mem_of_lookup b2)
  ·exact absurd (Nat.lt_trans (lt _ _ b2) a1) (Nat.lt_irrefl _)
  ·exact absurd (Nat.lt_trans (lt _ _ a2) b1) (Nat.lt_irrefl _)
  ·exact I.ok.inj x y c a2 b2
 ·have hx':(relabel scope X.env).names.lookup x=some .cell∨(relabel scope X.env).names.lookup x=some .free:=hx
  have key:(x,NameKind.free)∈scope.names∨(x,NameKind.cell)∈scope.names:=by
   rcases hx' with hx' | hx'
   ·exact S.look x _ hx' (.inl rfl)
   ·exact S.look x _ hx' (.inr rfl)
  show ∃ c,(cellsFrom (C+1) scope.names []++a5g X.env scope.names []).lookup x=some c
  rw[List.lookup_append]
  cases h:(cellsFrom (C+1) scope.names []).lookup x with
  | some c=>exact⟨c,rfl⟩
  | none =>
    rcases key with k | k
    ·obtain⟨c,hc⟩:=a7f X.env scope.names [] x k
     exact⟨c,by rw[hc];rfl⟩
    ·have:=a2C scope.names (C+1) k
     rw[h] at this;cases this
 ·rcases a2i I S C e with ⟨a1,a2⟩ | ⟨a1,a2⟩
  ·exact Nat.le_of_lt (Nat.lt_of_le_of_lt hC a1)
  ·have hf2:ownB scope.names x=true:=hf'
   rw[a1] at hf2;cases hf2
 ·obtain⟨f0,f1,f2,f3,f4,f5⟩:=hf b hb
  obtain⟨o,ho⟩:=hfo b hb
  refine⟨Nat.ne_of_lt (Nat.lt_of_lt_of_le (Heap.lt_size ho) hC),fun x c e=>?_⟩
  rcases a2i I S C e with ⟨a1,a2⟩ | ⟨a1,a2⟩
  ·exact Nat.ne_of_gt (Nat.lt_trans (Nat.lt_of_lt_of_le (Heap.lt_size ho) hC) a1)
  ·exact f4 x c a2
 ·obtain⟨f0,f1,f2,f3,f4,f5⟩:=hf b hb
  have:=(I.ok.bs b o e).1
  rcases f3 with z | z
  ·exact I.ok.noex b o e z
  ·exact absurd (Nat.lt_of_lt_of_le (Heap.lt_size this) z) (Nat.lt_irrefl _)
 ·obtain⟨f0,f1,f2,f3,f4,f5⟩:=hf b hb
  rcases List.mem_cons.mp (I.stkSub b hs) with e | e
  ·exact f1 e
  ·exact f2 e
theorem b5r {fp:List Addr} {C:Addr} {h₁:Heap} {tk:Nat} (I:Inv X pins σ H s) (hf:∀ b∈fp,FpOk X pins H b) (S:BlkScope X N' ix scope) (hC:s.heap.objs.size≤C) (hfo:∀ b∈fp,∃ o,s.heap.get? b=some o)
  (hns:h₁.Ns C (fun _=>none)) (hk:∀ b o,s.heap.get? b=some o→h₁.get? b=some o) (hown:∀ x c,(x,c)∈cellsFrom (C+1) scope.names []→h₁.IsCell c none) :
  Inv (blk X N' scope C s H fp pins) [] (pick ix σ) H { s with heap:=h₁,toks:=tk }:=by
 have nC:∀ b o,s.heap.get? b=some o→b≠C:=fun b o e=>Nat.ne_of_lt (Nat.lt_of_lt_of_le (Heap.lt_size e) hC)
 refine⟨c1f I hf S hC hfo,rfl,I.bare,Un.kept hk,⟨_,hns,fun i x v h1 h2 h3=>?_⟩,fun x c e=>?_,I.hok.fresh hC,fun x c e=>?_,fun p hp=>?_,I.hok.kept hk,?_⟩
 ·obtain⟨j,e1,e2⟩:=b1H h2
  obtain⟨a1,a2,a4,a3⟩:=S.at_ i j x e1 h1
  have kd:=S.frees _ a2 rfl
  have vis:Vis X.env.scope x:=by
   rcases kd with k | k
   ·exact .inr (.inl k)
   ·exact .inr (.inr k)
  obtain⟨m,hn,hl⟩:=I.loc
  obtain⟨u,r,l⟩:=hl j x v a1 e2 vis
  refine⟨u,r,.inr ?_⟩
  have kd':X.env.kindOf x=some .cell∨X.env.kindOf x=some .free:=kd
  rcases l with ⟨k,_⟩ | ⟨k,c,ec,z⟩
  ·rcases kd' with q | q<;>(rw[q] at k;cases k)
  ·refine⟨?_,c,?_,z.keeps hk⟩
   ·show (relabel scope X.env).names.lookup x=some .cell∨(relabel scope X.env).names.lookup x=some .free
    rw[a3];exact kd'
   ·obtain⟨c',hc'⟩:=a7f X.env scope.names [] x a2
    show (cellsFrom (C+1) scope.names []++a5g X.env scope.names []).lookup x=some c
    have hn:(cellsFrom (C+1) scope.names []).lookup x=none:=by
     cases h:(cellsFrom (C+1) scope.names []).lookup x with
     | none=>rfl
     | some c2 =>
       have:=b1M.mpr (a2h _ _ (mem_of_lookup h)).2
       rw[a4] at this;cases this
    rw[List.lookup_append,hn]
    show (a5g X.env scope.names []).lookup x=some c
    rcases a4r X.env scope.names [] x c' hc' with q | ⟨q,q2⟩
    ·cases q
    ·rw[hc',q2,ec];rfl
 ·rcases a2i I S C e with ⟨a1,a2⟩ | ⟨a1,a2⟩
  ·exact⟨none,hown x c (mem_of_lookup a2)⟩
  ·obtain⟨v,z⟩:=I.cell x c a2
   exact⟨v,z.keeps hk⟩
 ·rcases a2i I S C e with ⟨a1,a2⟩ | ⟨a1,a2⟩
  ·exact I.hok.fresh (Nat.le_of_lt (Nat.lt_of_le_of_lt hC a1))
  ·exact I.freeC x c a2
 ·have hp':p∈X.pn++pins:=by
   have:p∈(X.pn++pins)++[]:=hp
   simpa using this
  obtain⟨e,n,ne,nf,d⟩:=I.pin p hp'
  refine⟨hk _ _ e,n,nC _ _ e,fun hb=>?_,d⟩
  rcases List.mem_cons.mp (I.stkSub _ hb) with z | z
  ·exact ne z
  ·exact nf z
 ·show (pick ix σ).length=N'.length
  unfold pick
  rw[List.length_map,S.lenI]
theorem b9g {fp:List Addr} {C D:Addr} {h':Heap} {H':Hp} {σ':St} {s':Shared} {ys:List V} {its:List Value} {cap:Nat} (I:Inv X pins σ H s) (hf:∀ b∈fp,FpOk X pins H b) (hC:s.heap.objs.size≤C) (hD:s.heap.objs.size≤D) (hDC:D≠C)
  (J:Inv (blk X N' scope C s H fp pins) [] σ' H' s') (hDn:H' D=none) (ho:s'.heap.get? D=some { cls:=.type "list",data:=.seq its.toArray cap }) (r:Vals ys its) (hz:ys.length≤sizeLine) (sb:Heap.SameBut C s'.heap h') :
  Inv X pins σ (upd H' D (.lst ys)) { s' with heap:=h' }:=by
 have sb':∀ b o,b≠C→s'.heap.get? b=some o→h'.get? b=some o:=sb.extBut
 have nC:∀ b o,s.heap.get? b=some o→b≠C:=fun b o e=>Nat.ne_of_lt (Nat.lt_of_lt_of_le (Heap.lt_size e) hC)
 have nD:∀ b o,s.heap.get? b=some o→b≠D:=fun b o e=>Nat.ne_of_lt (Nat.lt_of_lt_of_le (Heap.lt_size e) hD)
 have hCn:H' C=none:=J.free
 have u:=J.base
 refine I.call' (ch:=fp) (s':={ s' with heap:=h' }) J.os ⟨fun b o e n hb hx=>?_,fun b o e n hb hx=>?_,fun b o e n hx=>?_,fun b o e hx=>?_,fun b xs e=>?_,fun b o v e=>?_,fun b ps e=>?_⟩ (fun b o e=>?_) J.bare (fun b hb=>?_)
 ·exact sb' _ _ (nC b o e) (u.keep b o e n hb hx)
 ·obtain⟨sl,q⟩:=u.slot b o e n hb hx
  exact⟨sl,sb' _ _ (nC b o e) q⟩
 ·rw[a0v (nD b o e)];exact u.free b o e n hx
 ·obtain⟨o',q⟩:=u.there b o e hx
  exact⟨o',sb' _ _ (nC b o e) q⟩
 ·have q:=u.tups b xs e
  rw[a0v (a0u q hDn)];exact q
 ·have q:=u.frzs b o v e
  rw[a0v (a0u q hDn)];exact q
 ·obtain⟨m,q⟩:=u.tbls b ps e
  exact⟨m,by rw[a0v (a0u q hDn)];exact q⟩
 ·by_cases hb:b=D
  ·subst hb
   rw[a0B] at e;cases e
   exact⟨hz,its,cap,r,sb' _ _ hDC ho⟩
  ·rw[a0v hb] at e
   refine (J.hok b o e).stay (fun c v hc q=>sb' c v ?_ q) (fun c q=>by rw[a0v (a0u q hDn)];exact q) fun c xs q=>by rw[a0v (a0u q hDn)];exact q
   rcases hc with rfl | hc
   ·exact a0u e hCn
   ·exact a0u hc hCn
 ·obtain⟨f0,f1,f2,f3,f4,f5⟩:=hf b hb
  exact⟨f3,f1,f4,f5⟩
noncomputable def b5E (wi:TI) (ix:List (Option Nat)) (g:TG) (tt:TT) (te:TE):TE:=fun σ H Q=>wi σ H fun J H1=>∃ W:Nat→Nat→List V→Hp→Prop,(∃ m,W 0 m [] H1)∧∀ i m ys H,W i m ys H →
 (J.stop i H∧ys.length≤sizeLine∧∀ p,H p=none→Q (.ref p) (upd H p (.lst ys))) ∨
 (J.go i H∧ys.length < sizeLine∧∀ x H',J.yld i H x H'→g x (pick ix σ) H' fun σ2 H2=>tt σ2 H2 fun ok H3 =>
  if ok=true then te σ2 H3 fun y H4=>∃ m',m' < m∧W (i+1) m' (ys++[y]) H4 else ∃ m',m' < m∧W (i+1) m' ys H3)
noncomputable def PTs (X:Cx) (ifs:List Expr) (t:TT):Prop :=
 ∀ (pins:List (Addr × Obj)) (s:Shared) (σ:St) (H:Hp) (Q:Bool→Hp→Prop),Inv X pins σ H s→t σ H Q →
   wpAny (model X.prog X.w) X.A (forIn ifs true fun c r=>if r=true then do let ok ← isTrue c X.env (eval c X.env);pure (ForInStep.yield ok) else pure (ForInStep.yield r)) (TP X pins σ Q) X.xe s
noncomputable def tYes:TT:=fun _ H Q=>Q true H
theorem b8d:PTs X [] tYes:=fun _ _ _ H _ I h=>wpAny_tests_nil ⟨H,I,h⟩
theorem b8c {c:Expr} {t:TT} (h:PT X c t):PTs X [c] t:=fun pins s σ H Q I hw=>wpAny_tests_one (h pins s σ H Q I hw)
noncomputable def Agr (ix:List (Option Nat)) (σ σ2:St):Prop:=σ2.length=σ.length∧∀ (k j:Nat),ix[k]?=some (some j)→σ2[k]?=σ[k]?
noncomputable def Own (ix:List (Option Nat)) (g:TG):Prop:=∀ (x:V) (σ0 σ:St) (H:Hp) (Q:St→Hp→Prop),Agr ix σ0 σ→g x σ H Q→g x σ H fun σ2 H2=>Q σ2 H2∧Agr ix σ0 σ2
noncomputable def Owns (ix:List (Option Nat)) (g:TGs):Prop:=∀ (x:List V) (σ0 σ:St) (H:Hp) (Q:St→Hp→Prop),Agr ix σ0 σ→g x σ H Q→g x σ H fun σ2 H2=>Q σ2 H2∧Agr ix σ0 σ2
noncomputable def c1n (g:TG):Prop:=∀ (x:V) (σ:St) (H:Hp) (Q Q':St→Hp→Prop),(∀ σ H,Q σ H→Q' σ H)→g x σ H Q→g x σ H Q'
theorem a8s {ix:List (Option Nat)} {i:Nat} (h:ix[i]?=some none):Own ix (a9Y i):=by
 intro x σ0 σ H Q a q
 refine⟨q,by rw[List.length_set];exact a.1,fun k j hk=>?_⟩
 rw[List.getElem?_set_ne]
 ·exact a.2 k j hk
 ·rintro rfl
  rw[h] at hk;cases hk
theorem a7O {i:Nat}:c1n (a9Y i):=fun x σ H Q Q' h q=>h _ _ q
theorem b6d {ix:List (Option Nat)}:Owns ix gNil:=by
 intro x σ0 σ H Q a q
 exact⟨q.1,q.2,a⟩
theorem a9o {ix:List (Option Nat)} {t:TG} {u:TGs} (m:c1n t) (h1:Own ix t) (h2:Owns ix u):Owns ix (b6x t u):=by
 intro x σ0 σ H Q a q
 obtain⟨v,r,e,q⟩:=q
 exact⟨v,r,e,m _ _ _ _ _ (fun σ1 H1 q1=>h2 _ σ0 _ _ _ q1.2 q1.1) (h1 _ σ0 _ _ _ a q)⟩
theorem b8s {ix:List (Option Nat)} {K:PySem.W.Frag} {n:Nat} {t:TGs} (h:Owns ix t):Own ix (gTup K n t):=by
 intro x σ0 σ H Q a q
 obtain⟨p,xs,e1,e2,e3,q⟩:=q
 exact⟨p,xs,e1,e2,e3,h _ σ0 _ _ _ a q⟩
theorem b0g {elt iter tg:Expr} {ifs:List Expr} {pos posc:Pos} {wi:TI} {g:TG} {tt:TT} {te:TE} (use:Option (Value→Sem Unit)) (QQ:Value→Shared→Prop) (hc:X.calm=true) (hi:PI X tg iter wi) (S:BlkScope X N' ix scope) (ow:Own ix g)
  (hg:∀ C s H fp pins,PG (blk X N' scope C s H fp pins) tg g) (ht:∀ C s H fp pins,PTs (blk X N' scope C s H fp pins) ifs tt) (he:∀ C s H fp pins,PE (blk X N' scope C s H fp pins) elt te)
  (hs:∀ x,foldedSetIterable iter X.env x=pure x) (pins:List (Addr × Obj)) (s:Shared) (σ:St) (H:Hp) (Q:VK) (I:Inv X pins σ H s) (h:b5E wi ix g tt te σ H Q)
  (hpost:∀ (C D:Addr) (H5:Hp) (s4:Shared) (m:Str→Option Value),s4.heap.Ns C m→FpOk X pins H5 C→(∀ h',Heap.SameBut C s4.heap h'→Inv X pins σ H5 { s4 with heap:=h' })→Q (.ref D) H5 →
   compPost (model X.prog X.w) X.A X.xe use QQ (.ref D) C (.ok .next) s4) :
  wpAny (model X.prog X.w) X.A (comprehension (.ListComp elt [⟨tg,iter,ifs,0⟩] scope pos) scope X.env posc (newList []) false (eval iter X.env) use) QQ X.xe s:=by
 refine wpAny_comprehension_free (use:=use) rfl hs (a8Q scope X.env fun y hy hk=>I.ok.has y.1 (S.frees y hy hk)) S.kind S.locs (thn (hi pins s σ H _ I h) fun v s1 h1=>thn h1 fun itv s2 h2=>?_)
 obtain⟨it,fp,tn,J,H2,e,I2,T,st2,f2,W,⟨m0,w0⟩,turn⟩:=h2
 subst e
 have hfo:∀ b∈fp,∃ o,s2.heap.get? b=some o:=fun b hb=>let ⟨o,e,_⟩:=T.obj _ _ st2 b hb;⟨o,e⟩
 refine wpAny_newObj_type (a5P (fun h₁ eh₁=>?_))
 dsimp only at eh₁⊢
 generalize hH2:s2.heap.push { cls:=.type "list",dict:=none,data:=.seq ([]:List Value).toArray }=Hp2 at eh₁⊢
 have hC:Hp2.objs.size=s2.heap.objs.size+1:=by rw[← hH2,Heap.size_push]
 have old1:∀ b o,Hp2.get? b=some o→h₁.get? b=some o:=fun b o e=>by rw[eh₁];exact pushCells_keeps _ _ _ _ (Heap.get?_push_of_some _ e)
 have hns:h₁.Ns Hp2.objs.size (fun _=>none):=by rw[eh₁];exact (Heap.Ns.new Hp2 (.type "dict")).keeps (pushCells_keeps _ _)
 have hown:∀ x c,(x,c)∈cellsFrom (Hp2.objs.size+1) scope.names []→h₁.IsCell c none:=fun x c hm=>by
  have ok:=cellsFrom_ok scope.names (Hp2.push { cls:=.type "dict",data:=.dict #[] }) (Hp2.objs.size+1) [] ⟨fun _ _ hm=>(nomatch hm),List.Pairwise.nil⟩ (by rw[Heap.size_push];exact Nat.le_refl _)
  rw[Heap.size_push] at ok
  rw[eh₁]
  exact (ok.empty x c hm).1
 generalize hCC:Hp2.objs.size=C at hns hown hC⊢
 generalize hDD:s2.heap.objs.size=D at hC
 have hCge:s2.heap.objs.size≤C:=by rw[hDD,hC];exact Nat.le_succ _
 have hDge:s2.heap.objs.size≤D:=Nat.le_of_eq hDD
 have hDC:D≠C:=by rw[hC];exact Nat.ne_of_lt (Nat.lt_succ_self _)
 have hDlt:D < C:=by rw[hC];exact Nat.lt_succ_self _
 have old:∀ b o,s2.heap.get? b=some o→h₁.get? b=some o:=fun b o e=>old1 b o (hH2▸Heap.get?_push_of_some _ e)
 have hacc:h₁.get? D=some { cls:=.type "list",data:=.seq ([]:List Value).toArray 0 }:=old1 _ _ (hH2▸hDD▸Heap.get?_push_size _ rfl)
 have stat:∀ {H':Hp},(∀ b∈fp,H' b=none)→∀ b∈fp,FpOk (blk X N' scope C s2 H2 fp pins) [] H' b:=fun hn b hb=>by
  obtain⟨f0,f1,f2,f3,f4,f5⟩:=f2 b hb
  obtain⟨o,ho⟩:=hfo b hb
  refine⟨hn b hb,Nat.ne_of_lt (Nat.lt_of_lt_of_le (Heap.lt_size ho) hCge),fun z=>?_,.inl hb,fun x c e=>?_,fun p hp=>?_⟩
  ·rcases List.mem_cons.mp (I2.stkSub _ z) with e | e
   ·exact f1 e
   ·exact f2 e
  ·rcases a2i I2 S C e with ⟨a1,a2⟩ | ⟨a1,a2⟩
   ·exact Nat.ne_of_gt (Nat.lt_trans (Nat.lt_of_lt_of_le (Heap.lt_size ho) hCge) a1)
   ·exact f4 x c a2
  ·have:p∈(X.pn++pins)++[]:=hp
   exact f5 p (by simpa using this)
 have hDs:D ∉ (blk X N' scope C s2 H2 fp pins).fs:=fun hb=>by
  rcases List.mem_cons.mp (I2.stkSub _ hb) with e | e
  ·rw[e] at hDge
   exact absurd (Nat.lt_of_lt_of_le I2.lt hDge) (Nat.lt_irrefl _)
  ·exact I2.nofs hDge e
 have loop:∀ s₃:Shared,s₃={ s2 with heap:=h₁ } →
   codeAny (model X.prog X.w) X.A (.compLoop (.ListComp elt [⟨tg,iter,ifs,0⟩] scope pos) 0 (.ref it) (.ref D) (compEnvC scope (cellsFrom (C+1) scope.names []++a5g X.env scope.names []) C X.env))
    (compPost (model X.prog X.w) X.A X.xe use QQ (.ref D) C) s₃:=by
  rintro s₃ rfl
  refine a4P (fun n s'=>∃ i ys its cap H',Inv (blk X N' scope C s2 H2 fp pins) [] (pick ix σ) H' s'∧tn i s'.heap∧(∀ b∈fp,H' b=none)∧H' D=none ∧
    s'.heap.get? D=some { cls:=.type "list",data:=.seq (its:List Value).toArray cap }∧Vals ys its∧W i n ys H') ?_ m0
   ⟨0,[],[],0,H2,b5r I2 f2 S hCge hfo hns old hown,T.keep _ _ _ st2 fun b _ o e=>old b o e,fun b hb=>(f2 b hb).1,I2.hok.fresh hDge,hacc,.nil,w0⟩
  rintro n s3 ⟨i,ys,its,cap,H3,I3,st3,fr3,hD3,ho3,r3,w3⟩
  have I3d:Inv (blk X N' scope C s2 H2 fp pins) [(D,{ cls:=.type "list",data:=.seq its.toArray cap })] (pick ix σ) H3 s3:=I3.pins_of fun p hp=>by
   have e:p=(D,{ cls:=.type "list",data:=.seq its.toArray cap }):=by simpa using hp
   subst e
   exact⟨ho3,hD3,hDC,hDs,fun v z=>nomatch z⟩
  have statD:∀ {H':Hp},(∀ b∈fp,H' b=none)→∀ b∈fp,FpOk (blk X N' scope C s2 H2 fp pins) [(D,({ cls:=.type "list",data:=.seq its.toArray cap }:Obj))] H' b:=fun hn b hb=>by
   obtain⟨f0,f1,f2,f3,f4,f5⟩:=stat hn b hb
   obtain⟨o,ho⟩:=hfo b hb
   refine⟨f0,f1,f2,f3,f4,fun p hp=>?_⟩
   rcases List.mem_append.mp hp with z | z
   ·exact f5 p (List.mem_append_left _ z)
   ·have e:p=(D,({ cls:=.type "list",data:=.seq its.toArray cap }:Obj)):=by simpa using z
    subst e
    exact Nat.ne_of_gt (Nat.lt_of_lt_of_le (Heap.lt_size ho) hDge)
  rcases turn i n ys H3 w3 with ⟨stop,hz,qn⟩ | ⟨go,hz,step⟩
  ·refine wpAny_noRaise (thn (T.done (blk X N' scope C s2 H2 fp pins) rfl rfl rfl hc i _ s3 (pick ix σ) H3 (fun _ _=>False) I3d (statD fr3) st3 stop) fun r s4 ⟨hr,I4⟩=>?_)
   subst hr
   obtain⟨e4,n4,_⟩:=I4.pin (D,_) (List.mem_append_right _ (List.mem_singleton.mpr rfl))
   obtain⟨m,hn,_⟩:=id I4.loc
   have hC4:H3 C=none:=I4.free
   exact hpost C D _ _ m hn (I2.fpOk hCge (by rw[a0v (Ne.symm hDC)];exact hC4)) (fun h' sb=>b9g I2 f2 hCge hDge hDC (Inv.unpinned (pl:=[(D,_)]) (pins:=[]) I4) n4 e4 r3 hz sb) (qn D n4)
  ·refine wpAny_noRaise (thn (T.item (blk X N' scope C s2 H2 fp pins) rfl rfl rfl hc i _ s3 (pick ix σ) H3 (fun _ _=>False) I3d (statD fr3) st3 go) fun r s4 ⟨u,hr,h4⟩=>?_)
   subst hr
   refine wpAny_noRaise (thn h4 fun _ s5 ⟨x,H5,I5,r5,y5,st5,fr5⟩=>?_)
   have I5':=I5.pinned (statD fr5) (T.obj _ _ st5)
   have again:∀ {σ7:St} {H7:Hp} {s7:Shared},Inv (blk X N' scope C s2 H2 fp pins) ([(D,({ cls:=.type "list",data:=.seq its.toArray cap }:Obj))]++a7E fp s5.heap) σ7 H7 s7 →
     H7 D=none∧s7.heap.get? D=some { cls:=.type "list",data:=.seq its.toArray cap }∧tn (i+1) s7.heap∧∀ b∈fp,H7 b=none:=fun {σ7 H7 s7} I7=>by
    obtain⟨e7,n7,_⟩:=I7.pin (D,_) (List.mem_append_right _ (List.mem_append_left _ (List.mem_singleton.mpr rfl)))
    refine⟨n7,e7,T.keep _ _ _ st5 fun b hb o e=>(I7.pin (b,o) (List.mem_append_right _ (List.mem_append_right _ (a4E hb e)))).1,fun b hb=>?_⟩
    obtain⟨o,e,d⟩:=T.obj _ _ st5 b hb
    exact (I7.pin (b,o) (List.mem_append_right _ (List.mem_append_right _ (a4E hb e)))).2.1
   have forget:∀ {σ7:St} {H7:Hp} {s7:Shared},Inv (blk X N' scope C s2 H2 fp pins) ([(D,({ cls:=.type "list",data:=.seq its.toArray cap }:Obj))]++a7E fp s5.heap) σ7 H7 s7 →
     (∀ (k:Nat) v,(pick ix σ)[k]?=some (some v)→σ7[k]?=some (some v))→σ7.length=(pick ix σ).length→Inv (blk X N' scope C s2 H2 fp pins) [] (pick ix σ) H7 s7:=fun {σ7 H7 s7} I7 hk hl =>
    (I7.pins_of (pins':=[]) fun _ z=>nomatch z).weak hl.symm hk
   refine wpAny_noRaise (thn (hg C s2 H2 fp pins _ s5 (pick ix σ) H5 x u _ I5' r5 (ow _ _ _ _ _ ⟨rfl,fun _ _ _=>rfl⟩ (step x H5 y5))) fun _ s6 ⟨σ6,H6,I6,q6,l6,k6⟩=>?_)
   have back:∀ (k:Nat) v,(pick ix σ)[k]?=some (some v)→σ6[k]?=some (some v):=fun k v e=>by
    obtain⟨j,e1,_⟩:=b1H e
    rw[k6 k j e1];exact e
   refine wpAny_noRaise (thn (ht C s2 H2 fp pins _ s6 σ6 H6 _ I6 q6) fun ok s7 ⟨H7,I7,q7⟩=>?_)
   cases ok with
   | false =>
     rw[if_neg Bool.false_ne_true]
     rw[if_neg Bool.false_ne_true] at q7
     obtain⟨m',hm,w7⟩:=q7
     obtain⟨a1,a2,a3,a4⟩:=again I7
     exact⟨m',hm,i+1,ys,its,cap,H7,forget I7 back l6,a3,a4,a1,a2,r3,w7⟩
   | true =>
     rw[if_pos rfl]
     rw[if_pos rfl] at q7
     refine wpAny_noRaise (thn (he C s2 H2 fp pins _ s7 σ6 H7 _ I7 q7) fun z s8 ⟨y,H8,I8,r8,m',hm,w8⟩=>?_)
     obtain⟨a1,a2,a3,a4⟩:=again I8
     have hl:=r3.length
     refine wpAny_noRaise (wpAny_list_append_plain ⟨_,a2⟩ (fun h9 ⟨cap9,p9⟩ sb9=>?_) (by rw[List.size_toArray,← hl];exact Nat.le_of_lt hz))
     have I9:Inv (blk X N' scope C s2 H2 fp pins) [] (pick ix σ) H8 { s8 with heap:=h9 } :=
      (forget I8 back l6).turned (t':=s8.toks) (it:=D) (fun b o hb e=>sb9.extBut b o hb e) a1 hDC (.inr hDge) (fun x c e=>by
       rcases a2i I2 S C e with ⟨a1,a2⟩ | ⟨a1,a2⟩
       ·exact Nat.ne_of_gt (Nat.lt_trans hDlt a1)
       ·obtain⟨v,z⟩:=I2.cell x c a2
        exact Nat.ne_of_lt (Nat.lt_of_lt_of_le z.lt hDge)) (fun p hp=>by
       have hp':p∈(X.pn++pins)++[]:=hp
       exact Nat.ne_of_lt (Nat.lt_of_lt_of_le (Heap.lt_size (I2.pin p (by simpa using hp')).1) hDge))
     refine⟨m',hm,i+1,ys++[y],its++[z],cap9,H8,I9,?_,a4,a1,?_,r3.append (.cons r8 .nil),w8⟩
     ·refine T.keep _ _ _ a3 fun b hb o e=>sb9.extBut b o ?_ e
      obtain⟨o',ho'⟩:=hfo b hb
      exact Nat.ne_of_lt (Nat.lt_of_lt_of_le (Heap.lt_size ho') hDge)
     ·rw[p9];simp
 exact codeAny_compStart_list (loop _ rfl) (T.self _ _ _ _ _ (T.keep _ _ _ st2 fun b _ o e=>old b o e) (loop _ rfl))
theorem b8o {elt iter tg:Expr} {ifs:List Expr} {pos:Pos} {wi:TI} {g:TG} {tt:TT} {te:TE} (hc:X.calm=true) (hi:PI X tg iter wi) (S:BlkScope X N' ix scope) (ow:Own ix g)
  (hg:∀ C s H fp pins,PG (blk X N' scope C s H fp pins) tg g) (ht:∀ C s H fp pins,PTs (blk X N' scope C s H fp pins) ifs tt) (he:∀ C s H fp pins,PE (blk X N' scope C s H fp pins) elt te)
  (hs:∀ x,foldedSetIterable iter X.env x=pure x:=by intro _;rfl) :
  PE X (.ListComp elt [⟨tg,iter,ifs,0⟩] scope pos) (b5E wi ix g tt te):=by
 intro pins s σ H Q I h
 rw[eval_ListComp]
 exact b0g none (EP X pins σ Q) hc hi S ow hg ht he hs pins s σ H Q I h fun C D H5 s4 m hn _ inv q=>⟨m,hn,fun h' sb=>⟨.ref D,H5,inv h' sb,rfl,q⟩⟩
theorem b8h {i:Nat} {x:Str} {elt iter tg:Expr} {ifs:List Expr} {pos pos' spos:Pos} {wi:TI} {g:TG} {tt:TT} {te:TE} (hN:X.N.Nodup) (hi':X.N[i]?=some x) (hx:Loc X.env.scope x) (hc:X.calm=true) (hi:PI X tg iter wi) (S:BlkScope X N' ix scope) (ow:Own ix g)
  (hg:∀ C s H fp pins,PG (blk X N' scope C s H fp pins) tg g) (ht:∀ C s H fp pins,PTs (blk X N' scope C s H fp pins) ifs tt) (he:∀ C s H fp pins,PE (blk X N' scope C s H fp pins) elt te)
  (hsw:swapsWith (.ListComp elt [⟨tg,iter,ifs,0⟩] scope pos) (some (.Name x pos')) spos.line X.env=pure true)
  (hs:∀ x,foldedSetIterable iter X.env x=pure x:=by intro _;rfl) (hf:X.fn x=true∨X.env.scope.names.lookup x=some .local:=by first | exact .inl rfl | exact .inr rfl | assumption) :
  PS X (.Assign [.Name x pos'] (.ListComp elt [⟨tg,iter,ifs,0⟩] scope pos) spos) (tAsg (b5E wi ix g tt te) (a9Y i)):=by
 intro pins s σ H D I h
 rw[exec_Assign_Name_used _ _ _ _ hsw]
 refine wpAny_bind (wpAny_standAt (wpAny_bind ?_))
 show wpAny _ X.A (do let _ ← comprehension (.ListComp elt [⟨tg,iter,ifs,0⟩] scope pos) scope X.env _ (newList []) false (eval iter X.env) (some (assign (.Name x pos') X.env))) _ _ s
 refine wpAny_bind (thn (b0g (some (assign (.Name x pos') X.env)) (fun _ s'=>SP X pins D .next s') hc hi S ow hg ht he hs pins s σ H _ I h ?_) fun _ s' hq=>wpAny_pure (wpAny_pure hq))
 intro C D2 H5 s4 m hn fp inv q
 have I5:Inv X pins σ H5 s4:=inv s4.heap (Heap.SameBut.refl _ _)
 refine wpAny_assign_Name (a9c I5 hN hi' hx (v:=.ref D2) rfl (fun s5 I6 ⟨a,sb,ha⟩=>?_) hf)
 obtain⟨f0,f1,f2,f3,f4,f5⟩:=fp
 have hac:a≠C:=by
  rcases ha with rfl | ha
  ·exact Ne.symm f1
  ·exact f4 x a ha
 refine⟨m,hn.sameBut sb (Ne.symm hac),fun h' sb'=>⟨_,H5,I6.turned (t':=s5.toks) (it:=C) (fun b o hb e=>sb'.extBut b o hb e) f0 f1 f3 f4 f5,q⟩⟩
noncomputable def b5M (scope outer:Scope):Scope :=
 { scope with names:=scope.names.map fun (n,k)=>if (k == .free && outer.kind == .function && outer.names.lookup n == some .cell) then (n,.cell) else (n,k) }
theorem a9l {scope:Scope} {env:Env} {x:Str} {k:NameKind} (h:(relabel scope env).names.lookup x=some k) (hk:k=.cell∨k=.free):(x,NameKind.free)∈scope.names∨(x,NameKind.cell)∈scope.names:=by
 have hm:(x,k)∈(relabel scope env).names:=PySem.mem_of_lookup h
 unfold relabel at hm
 obtain⟨⟨n,k0⟩,h1,h2⟩:=List.mem_map.mp hm
 dsimp only at h2
 split at h2
 ·rename_i hc
  have e1:n=x:=(Prod.mk.inj h2).1
  subst e1
  have:k0=NameKind.free:=by
   simp only[Bool.and_eq_true,beq_iff_eq] at hc
   exact hc.1.1
  rw[this] at h1;exact .inl h1
 ·have e1:=Prod.mk.inj h2
  obtain⟨rfl,rfl⟩:=e1
  rcases hk with rfl | rfl
  ·exact .inr h1
  ·exact .inl h1
noncomputable def blkB (outer:Scope) (N N':List Str) (ix:List (Option Nat)) (scope:Scope):Bool :=
 decide (scope.kind=.function) && decide (outer.kind=.function) && scope.names.all (fun y=>decide (y.2=.local→scope.names.lookup y.1=some .local)) &&
 scope.names.all (fun y=>decide (y.2=.free→(outer.names.lookup y.1=some .cell∨outer.names.lookup y.1=some .free))) && decide (ix.length=N'.length) &&
 (List.range ix.length).all fun i=>match ix[i]?,N'[i]? with
  | some (some j),some x=>decide (N[j]?=some x) && decide ((x,NameKind.free)∈scope.names) && !ownB scope.names x &&
    decide ((b5M scope outer).names.lookup x=outer.names.lookup x)
  | _,_=>true
theorem a1z {X:Cx} {outer scope:Scope} {N N':List Str} {ix:List (Option Nat)} (h:blkB outer N N' ix scope=true) (ho:X.env.scope=outer) (hN:X.N=N):BlkScope X N' ix scope:=by
 unfold blkB at h
 simp only[Bool.and_eq_true,decide_eq_true_eq,List.all_eq_true] at h
 obtain⟨⟨⟨⟨⟨h1,h2⟩,h4⟩,h5⟩,h6⟩,h7⟩:=h
 subst ho hN
 refine⟨h1,h4,h5,fun x k hl hk=>a9l hl hk,h6,fun i j x e1 e2=>?_⟩
 have hi:i < ix.length:=(List.getElem?_eq_some_iff.mp e1).1
 have q:=h7 i (List.mem_range.mpr hi)
 rw[e1,e2] at q
 simp only[Bool.and_eq_true,decide_eq_true_eq,Bool.not_eq_true'] at q
 exact⟨q.1.1.1,q.1.1.2,q.1.2,q.2⟩
theorem PE.imp {X:Cx} {e:Expr} {t t':TE} (h:PE X e t) (f:∀ σ H Q,t' σ H Q→t σ H Q):PE X e t':=fun pins s σ H Q I q=>h pins s σ H Q I (f σ H Q q)
theorem PT.imp {X:Cx} {e:Expr} {t t':TT} (h:PT X e t) (f:∀ σ H Q,t' σ H Q→t σ H Q):PT X e t':=fun pins s σ H Q I q=>h pins s σ H Q I (f σ H Q q)
theorem PA.imp {X:Cx} {e:List Expr} {t t':TA} (h:PA X e t) (f:∀ σ H Q,t' σ H Q→t σ H Q):PA X e t':=fun pos pins s σ H Q I q=>h pos pins s σ H Q I (f σ H Q q)
theorem PS.imp {X:Cx} {e:Stmt} {t t':TS} (h:PS X e t) (f:∀ D σ H,t' D σ H→t D σ H):PS X e t':=fun pins s σ H D I q=>h pins s σ H D I (f D σ H q)
theorem PSs.imp {X:Cx} {e:List Stmt} {t t':TS} (h:PSs X e t) (f:∀ D σ H,t' D σ H→t D σ H):PSs X e t':=fun pins s σ H D I q=>h pins s σ H D I (f D σ H q)
inductive T where
 | non | bl (b:Bool) | int (i:Int) | str (x:Str) | tup (ts:List T) | adr (a:Addr)
 /-- a list that never changes (the script;a module's own) -/
 | rd (ts:List T)
 /-- a tuple of whole numbers that can be a dict's key -/
 | dic (ks:List Int) (ts:List T)
noncomputable def FzL (K:PySem.W.Frag) (H:Hp) (a:Addr) (xs:List V):Prop :=
 (∃ o,H a=some (.frz o (.lst xs))) ∨
  ∃ (o:Obj) (its:Array Value) (n:Nat),K.lookup a=some o∧o.cls=.type "list"∧o.dict=none∧o.data=.seq its n∧its.size≤sizeLine∧Vals xs its.toList
theorem FzL.sq {K:PySem.W.Frag} {H:Hp} {a:Addr} {xs:List V} (h:FzL K H a xs):SqL K H a xs:=by
 rcases h with ⟨o,h⟩ | h
 ·exact .inl (.inr ⟨o,h⟩)
 ·exact .inr h
mutual
noncomputable def Rep (K:PySem.W.Frag) (H:Hp):V→T→Prop
 | v,.non=>v=.non
 | v,.bl b=>v=.bl b
 | v,.int i=>v=.int i
 | v,.str x=>v=.str x
 | v,.adr a=>v=.ref a
 | v,.tup ts=>∃ a xs,v=.ref a∧SqT K H a xs∧Reps K H xs ts
 | v,.rd ts=>∃ a xs,v=.ref a∧FzL K H a xs∧Reps K H xs ts
 | v,.dic ks _=>∃ b,v=.ref b∧H b=some (.tup (ks.map V.int))
noncomputable def Reps (K:PySem.W.Frag) (H:Hp):List V→List T→Prop
 | vs,[]=>vs=[]
 | vs,t :: ts=>∃ v r,vs=v :: r∧Rep K H v t∧Reps K H r ts
end
structure Kp (K:PySem.W.Frag) (H H':Hp):Prop where
 tup:∀ a xs,SqT K H a xs→SqT K H' a xs
 frz:∀ a o u,H a=some (.frz o u)→H' a=some (.frz o u)
 tr:∀ a xs,H a=some (.tup xs)→H' a=some (.tup xs)
theorem Kp.refl {K:PySem.W.Frag} {H:Hp}:Kp K H H:=⟨fun _ _ h=>h,fun _ _ _ h=>h,fun _ _ h=>h⟩
theorem Kp.trans {K:PySem.W.Frag} {H H1 H2:Hp} (a:Kp K H H1) (b:Kp K H1 H2):Kp K H H2:=⟨fun _ _ h=>b.tup _ _ (a.tup _ _ h),fun _ _ _ h=>b.frz _ _ _ (a.frz _ _ _ h),fun _ _ h=>b.tr _ _ (a.tr _ _ h)⟩
structure KpW (K:PySem.W.Frag) (H H':Hp):Prop where
 tup:∀ a xs,SqT K H a xs→SqT K H' a xs
 frz:∀ a o u,H a=some (.frz o u)→H' a=some (.frz o u)
 tr:∀ a xs,H a=some (.tup xs)→H' a=some (.tup xs)
theorem Kp.w {K:PySem.W.Frag} {H H':Hp} (k:Kp K H H'):KpW K H H':=⟨k.tup,k.frz,k.tr⟩
theorem KpW.fz {K:PySem.W.Frag} {H H':Hp} {a:Addr} {xs:List V} (k:KpW K H H') (h:FzL K H a xs):FzL K H' a xs:=by
 rcases h with ⟨o,h⟩ | h
 ·exact .inl ⟨o,k.frz _ _ _ h⟩
 ·exact .inr h
mutual
theorem Rep.kw {K:PySem.W.Frag} {H H':Hp} (k:KpW K H H'):∀ (v:V) (t:T),Rep K H v t→Rep K H' v t
 | v,.non,h=>h
 | v,.bl b,h=>h
 | v,.int i,h=>h
 | v,.str x,h=>h
 | v,.adr a,h=>h
 | v,.tup ts,h=>by
   unfold Rep at h⊢
   obtain⟨a,xs,e,h1,h2⟩:=h
   exact⟨a,xs,e,k.tup _ _ h1,Reps.kw k xs ts h2⟩
 | v,.rd ts,h=>by
   unfold Rep at h⊢
   obtain⟨a,xs,e,h1,h2⟩:=h
   exact⟨a,xs,e,k.fz h1,Reps.kw k xs ts h2⟩
 | v,.dic ks ts,h=>by
   unfold Rep at h⊢
   obtain⟨b,e,h1⟩:=h
   exact⟨b,e,k.tr _ _ h1⟩
theorem Reps.kw {K:PySem.W.Frag} {H H':Hp} (k:KpW K H H'):∀ (vs:List V) (ts:List T),Reps K H vs ts→Reps K H' vs ts
 | vs,[],h=>h
 | vs,t :: ts,h=>by
   unfold Reps at h⊢
   obtain⟨v,r,e,h1,h2⟩:=h
   exact⟨v,r,e,Rep.kw k v t h1,Reps.kw k r ts h2⟩
end
theorem Rep.kp {K:PySem.W.Frag} {H H':Hp} (k:Kp K H H') (v:V) (t:T) (h:Rep K H v t):Rep K H' v t:=Rep.kw k.w v t h
theorem Reps.kp {K:PySem.W.Frag} {H H':Hp} (k:Kp K H H') (vs:List V) (ts:List T) (h:Reps K H vs ts):Reps K H' vs ts:=Reps.kw k.w vs ts h
section
variable {K:PySem.W.Frag} {H:Hp}
theorem Reps.cons {v:V} {t:T} {vs:List V} {ts:List T} (h:Rep K H v t) (r:Reps K H vs ts):Reps K H (v :: vs) (t :: ts):=by
 unfold Reps;exact⟨v,vs,rfl,h,r⟩
theorem Reps.nil:Reps K H [] []:=by unfold Reps;rfl
theorem Reps.length:∀ {vs:List V} {ts:List T},Reps K H vs ts→vs.length=ts.length
 | vs,[],h=>by unfold Reps at h;subst h;rfl
 | vs,t :: ts,h=>by
   unfold Reps at h
   obtain⟨v,r,rfl,_,h2⟩:=h
   rw[List.length_cons,List.length_cons,Reps.length h2]
theorem Reps.get:∀ {vs:List V} {ts:List T} {i:Nat} {t:T},Reps K H vs ts→ts[i]?=some t→∃ v,vs[i]?=some v∧Rep K H v t
 | _,[],_,_,_,e=>by simp at e
 | vs,t :: ts,0,u,h,e=>by
   unfold Reps at h
   obtain⟨v,r,rfl,h1,_⟩:=h
   simp at e;subst e
   exact⟨v,rfl,h1⟩
 | vs,t :: ts,i+1,u,h,e=>by
   unfold Reps at h
   obtain⟨v,r,rfl,_,h2⟩:=h
   obtain⟨w,q1,q2⟩:=Reps.get (i:=i) h2 (by simpa using e)
   exact⟨w,by simpa using q1,q2⟩
theorem Reps.append:∀ {vs:List V} {ts:List T} {ws:List V} {us:List T},Reps K H vs ts→Reps K H ws us→Reps K H (vs++ws) (ts++us)
 | vs,[],_,_,h,g=>by unfold Reps at h;subst h;exact g
 | vs,t :: ts,_,_,h,g=>by
   unfold Reps at h
   obtain⟨v,r,rfl,h1,h2⟩:=h
   exact .cons h1 (Reps.append h2 g)
theorem Reps.take:∀ {vs:List V} {ts:List T} (n:Nat),Reps K H vs ts→Reps K H (vs.take n) (ts.take n)
 | _,_,0,_=>.nil
 | vs,[],n+1,h=>by unfold Reps at h;subst h;exact .nil
 | vs,t :: ts,n+1,h=>by
   unfold Reps at h
   obtain⟨v,r,rfl,h1,h2⟩:=h
   exact .cons h1 (Reps.take n h2)
theorem Reps.drop:∀ {vs:List V} {ts:List T} (n:Nat),Reps K H vs ts→Reps K H (vs.drop n) (ts.drop n)
 | _,_,0,h=>h
 | vs,[],n+1,h=>by unfold Reps at h;subst h;exact .nil
 | vs,t :: ts,n+1,h=>by
   unfold Reps at h
   obtain⟨v,r,rfl,h1,h2⟩:=h
   exact Reps.drop n h2
theorem Reps.set {v:V} {t:T} (g:Rep K H v t):∀ {vs:List V} {ts:List T} (n:Nat),Reps K H vs ts→Reps K H (vs.set n v) (ts.set n t)
 | vs,[],n,h=>by unfold Reps at h;subst h;exact .nil
 | vs,u :: ts,0,h=>by
   unfold Reps at h
   obtain⟨v,r,rfl,h1,h2⟩:=h
   exact .cons g h2
 | vs,u :: ts,n+1,h=>by
   unfold Reps at h
   obtain⟨v,r,rfl,h1,h2⟩:=h
   exact .cons h1 (Reps.set g n h2)
theorem Reps.ints:∀ {vs:List V} {ns:List Int},Reps K H vs (ns.map T.int)→vs=ns.map V.int
 | vs,[],h=>by unfold Reps at h;exact h
 | vs,n :: ns,h=>by
   have h':Reps K H vs (T.int n :: ns.map T.int):=h
   unfold Reps at h'
   obtain⟨v,r,rfl,h1,h2⟩:=h'
   unfold Rep at h1
   subst h1
   rw[List.map_cons,Reps.ints h2]
theorem Reps.of_ints:∀ (ns:List Int),Reps K H (ns.map V.int) (ns.map T.int)
 | []=>.nil
 | n :: ns=>.cons (by unfold Rep;rfl) (Reps.of_ints ns)
end
inductive MO where
 /-- a list that may be written -/
 | lst (ts:List T)
 /-- a dict that may be written: keys whole numbers or texts -/
 | dk (kvs:List (Key × T))
 /-- the same,keys tuples of such -/
 | dt (kvs:List (List Key × T))
 /-- the same,walked: it may not be written any more -/
 | fz (kvs:List (List Key × T))
 /-- a dict with keys whole numbers or texts that may not be written any more (a walk may go over it) -/
 | fk (kvs:List (Key × T))
 /-- an object of an own class,its fields -/
 | ob (C:Addr) (fs:List (Str × T))
noncomputable abbrev MH:=Addr→Option MO
noncomputable def updM (M:MH) (a:Addr) (o:MO):MH:=fun b=>if b=a then some o else M b
theorem a0i {M:MH} {a:Addr} {o:MO}:updM M a o a=some o:=if_pos rfl
theorem a0s {M:MH} {a b:Addr} {o:MO} (h:b≠a):updM M a o b=M b:=if_neg h
noncomputable def Sub (M M':MH):Prop:=∀ a o,M a=some o→M' a=some o
theorem Sub.refl {M:MH}:Sub M M:=fun _ _ h=>h
theorem Sub.trans {M M1 M2:MH} (a:Sub M M1) (b:Sub M1 M2):Sub M M2:=fun _ _ h=>b _ _ (a _ _ h)
theorem Sub.new {M:MH} {p:Addr} {o:MO} (h:M p=none):Sub M (updM M p o):=fun b u q=>by
 rw[a0s]
 ·exact q
 ·rintro rfl
  rw[h] at q;cases q
noncomputable def KRep {κ:Type} (K:PySem.W.Frag) (H:Hp):List (κ × V)→List (κ × T)→Prop
 | [],[]=>True
 | p :: r,q :: u=>p.1=q.1∧Rep K H p.2 q.2∧KRep K H r u
 | _,_=>False
theorem KRep.kp {κ:Type} {K:PySem.W.Frag} {H H':Hp} (k:Kp K H H'):∀ {xs:List (κ × V)} {kvs:List (κ × T)},KRep K H xs kvs→KRep K H' xs kvs
 | [],[],_=>trivial
 | p :: r,q :: u,h=>⟨h.1,Rep.kp k _ _ h.2.1,KRep.kp k h.2.2⟩
 | [],q :: u,h=>h.elim
 | p :: r,[],h=>h.elim
theorem KRep.length {κ:Type} {K:PySem.W.Frag} {H:Hp}:∀ {xs:List (κ × V)} {kvs:List (κ × T)},KRep K H xs kvs→xs.length=kvs.length
 | [],[],_=>rfl
 | p :: r,q :: u,h=>by rw[List.length_cons,List.length_cons,KRep.length h.2.2]
 | [],q :: u,h=>h.elim
 | p :: r,[],h=>h.elim
noncomputable def MOk (K:PySem.W.Frag) (H:Hp) (a:Addr):MO→Prop
 | .lst ts=>∃ xs,H a=some (.lst xs)∧Reps K H xs ts
 | .dk kvs=>∃ xs,H a=some (.dK xs)∧KRep K H xs kvs
 | .dt kvs=>∃ xs,H a=some (.dT xs)∧KRep K H xs kvs
 | .fz kvs=>∃ o xs,H a=some (.frz o (.dT xs))∧KRep K H xs kvs
 | .fk kvs=>∃ xs,Rd H a (.dK xs)∧KRep K H xs kvs
 | .ob C fs=>∃ dx xs,H a=some (.ins C dx xs)∧KRep K H xs fs
noncomputable def HR (K:PySem.W.Frag) (H:Hp) (M:MH):Prop:=∀ a o,M a=some o→MOk K H a o
theorem HR.sub {K:PySem.W.Frag} {H:Hp} {M M':MH} (h:HR K H M') (s:Sub M M'):HR K H M:=fun a o e=>h a o (s a o e)
noncomputable abbrev En:=List (Option T)
noncomputable def RhoR (K:PySem.W.Frag) (σ:St) (H:Hp) (ρ:En):Prop:=σ.length=ρ.length∧∀ (i:Nat) (t:T),ρ[i]?=some (some t)→∃ v,σ[i]?=some (some v)∧Rep K H v t
theorem RhoR.kp {K:PySem.W.Frag} {σ:St} {H H':Hp} {ρ:En} (h:RhoR K σ H ρ) (k:Kp K H H'):RhoR K σ H' ρ:=⟨h.1,fun i t e=>let ⟨v,a,b⟩:=h.2 i t e;⟨v,a,Rep.kp k _ _ b⟩⟩
theorem RhoR.set {K:PySem.W.Frag} {σ:St} {H:Hp} {ρ:En} {v:V} {t:T} (h:RhoR K σ H ρ) (i:Nat) (r:Rep K H v t):RhoR K (σ.set i (some v)) H (ρ.set i (some t)):=by
 refine⟨by rw[List.length_set,List.length_set,h.1],fun j u e=>?_⟩
 by_cases hj:i=j
 ·subst hj
  have hi:i < ρ.length:=by
   have:=(List.getElem?_eq_some_iff.mp e).1
   rwa [List.length_set] at this
  rw[List.getElem?_set_self hi] at e
  cases e
  exact⟨v,List.getElem?_set_self (show i < List.length σ by rw[h.1];exact hi),r⟩
 ·rw[List.getElem?_set_ne hj] at e
  rw[List.getElem?_set_ne hj]
  exact h.2 j u e
noncomputable abbrev VK3:=T→MH→Prop
noncomputable abbrev TE3:=En→MH→VK3→Prop
noncomputable abbrev TT3:=En→MH→(Bool→MH→Prop)→Prop
noncomputable abbrev TA3:=En→MH→(List T→MH→Prop)→Prop
structure Ends3 where
 nx:En→MH→Prop
 rt:VK3
 bk:En→MH→Prop:=fun _ _=>False
 ct:En→MH→Prop:=fun _ _=>False
noncomputable abbrev TS3:=Ends3→En→MH→Prop
noncomputable def EndE (K:PySem.W.Frag) (H:Hp) (Q:VK3) (Q2:VK):Prop:=∀ t v M' H',Kp K H H'→HR K H' M'→Rep K H' v t→Q t M'→Q2 v H'
theorem EndE.kp {K:PySem.W.Frag} {H H':Hp} {Q:VK3} {Q2:VK} (h:EndE K H Q Q2) (k:Kp K H H'):EndE K H' Q Q2:=fun t v M' H1 k1=>h t v M' H1 (k.trans k1)
noncomputable def bE (K:PySem.W.Frag) (ρ:En) (M:MH) (Q:VK3):TE:=fun σ H Q2=>RhoR K σ H ρ∧HR K H M∧EndE K H Q Q2
noncomputable def HE (X:Cx) (e:Expr) (t:TE3):Prop:=∀ ρ M Q,t ρ M Q→PE X e (bE X.K ρ M Q)
noncomputable def EndT (K:PySem.W.Frag) (H:Hp) (Q:Bool→MH→Prop) (Q2:Bool→Hp→Prop):Prop:=∀ b M' H',Kp K H H'→HR K H' M'→Q b M'→Q2 b H'
noncomputable def bT (K:PySem.W.Frag) (ρ:En) (M:MH) (Q:Bool→MH→Prop):TT:=fun σ H Q2=>RhoR K σ H ρ∧HR K H M∧EndT K H Q Q2
noncomputable def HT (X:Cx) (e:Expr) (t:TT3):Prop:=∀ ρ M Q,t ρ M Q→PT X e (bT X.K ρ M Q)
noncomputable def EndA (K:PySem.W.Frag) (H:Hp) (Q:List T→MH→Prop) (Q2:List V→Hp→Prop):Prop:=∀ ts vs M' H',Kp K H H'→HR K H' M'→Reps K H' vs ts→Q ts M'→Q2 vs H'
noncomputable def bA (K:PySem.W.Frag) (ρ:En) (M:MH) (Q:List T→MH→Prop):TA:=fun σ H Q2=>RhoR K σ H ρ∧HR K H M∧EndA K H Q Q2
noncomputable def HA (X:Cx) (es:List Expr) (t:TA3):Prop:=∀ ρ M Q,t ρ M Q→PA X es (bA X.K ρ M Q)
structure EndS (K:PySem.W.Frag) (H:Hp) (D:Ends3) (D2:Ends):Prop where
 nx:∀ ρ' M' σ' H',Kp K H H'→RhoR K σ' H' ρ'→HR K H' M'→D.nx ρ' M'→D2.nx σ' H'
 rt:EndE K H D.rt D2.rt
 bk:∀ ρ' M' σ' H',Kp K H H'→RhoR K σ' H' ρ'→HR K H' M'→D.bk ρ' M'→D2.bk σ' H'
 ct:∀ ρ' M' σ' H',Kp K H H'→RhoR K σ' H' ρ'→HR K H' M'→D.ct ρ' M'→D2.ct σ' H'
theorem EndS.kp {K:PySem.W.Frag} {H H':Hp} {D:Ends3} {D2:Ends} (h:EndS K H D D2) (k:Kp K H H'):EndS K H' D D2 :=
 ⟨fun a b c d k1=>h.nx a b c d (k.trans k1),h.rt.kp k,fun a b c d k1=>h.bk a b c d (k.trans k1),fun a b c d k1=>h.ct a b c d (k.trans k1)⟩
noncomputable def bS (K:PySem.W.Frag) (D:Ends3) (ρ:En) (M:MH):TS:=fun D2 σ H=>RhoR K σ H ρ∧HR K H M∧EndS K H D D2
noncomputable def HS (X:Cx) (st:Stmt) (t:TS3):Prop:=∀ D ρ M,t D ρ M→PS X st (bS X.K D ρ M)
noncomputable def HSs (X:Cx) (st:List Stmt) (t:TS3):Prop:=∀ D ρ M,t D ρ M→PSs X st (bS X.K D ρ M)
noncomputable def dE (K:PySem.W.Frag) (ρ:En) (t:TE3):TE:=fun σ H Q2=>∃ M Q,t ρ M Q∧bE K ρ M Q σ H Q2
noncomputable def dT (K:PySem.W.Frag) (ρ:En) (t:TT3):TT:=fun σ H Q2=>∃ M Q,t ρ M Q∧bT K ρ M Q σ H Q2
noncomputable def dA (K:PySem.W.Frag) (ρ:En) (t:TA3):TA:=fun σ H Q2=>∃ M Q,t ρ M Q∧bA K ρ M Q σ H Q2
noncomputable def dS (K:PySem.W.Frag) (t:TS3):TS:=fun D2 σ H=>∃ D ρ M,t D ρ M∧bS K D ρ M D2 σ H
section
variable {X:Cx} {e:Expr} {es:List Expr} {st:Stmt} {sts:List Stmt} {ρ:En}
theorem HE.d {t:TE3} (h:HE X e t):PE X e (dE X.K ρ t):=fun pins s σ H Q I ⟨M,Q3,q,b⟩=>h ρ M Q3 q pins s σ H Q I b
theorem HT.d {t:TT3} (h:HT X e t):PT X e (dT X.K ρ t):=fun pins s σ H Q I ⟨M,Q3,q,b⟩=>h ρ M Q3 q pins s σ H Q I b
theorem HA.d {t:TA3} (h:HA X es t):PA X es (dA X.K ρ t):=fun pos pins s σ H Q I ⟨M,Q3,q,b⟩=>h ρ M Q3 q pos pins s σ H Q I b
theorem HS.d {t:TS3} (h:HS X st t):PS X st (dS X.K t):=fun pins s σ H D I ⟨D3,ρ,M,q,b⟩=>h D3 ρ M q pins s σ H D I b
theorem HSs.d {t:TS3} (h:HSs X sts t):PSs X sts (dS X.K t):=fun pins s σ H D I ⟨D3,ρ,M,q,b⟩=>h D3 ρ M q pins s σ H D I b
end
mutual
noncomputable def eqT:T→T→Bool
 | .non,.non=>true
 | .bl a,.bl b=>a == b
 | .bl a,.int b=>(if a then 1 else 0) == b
 | .int a,.bl b=>a == (if b then 1 else 0)
 | .int a,.int b=>a == b
 | .str a,.str b=>a == b
 | .tup a,.tup b=>eqTs a b
 | _,_=>false
noncomputable def eqTs:List T→List T→Bool
 | [],[]=>true
 | x :: xs,y :: ys=>eqT x y && eqTs xs ys
 | _,_=>false
end
mutual
noncomputable def a0E:T→Bool
 | .adr _=>false
 | .rd _=>false
 | .dic _ _=>false
 | .tup ts=>a1o ts
 | _=>true
noncomputable def a1o:List T→Bool
 | []=>true
 | t :: ts=>a0E t && a1o ts
end
mutual
noncomputable def depT:T→Nat
 | .tup ts=>a4g ts+1
 | _=>0
noncomputable def a4g:List T→Nat
 | []=>0
 | t :: ts=>max (depT t) (a4g ts)
end
theorem a3v:∀ {ts:List T} {j:Nat} {t:T},a1o ts=true→ts[j]?=some t→a0E t=true
 | [],_,_,_,e=>by simp at e
 | x :: ts,0,t,h,e=>by simp at e;subst e;unfold a1o at h;exact (Bool.and_eq_true _ _▸h).1
 | x :: ts,j+1,t,h,e=>by
   unfold a1o at h
   exact a3v (j:=j) (Bool.and_eq_true _ _▸h).2 (by simpa using e)
theorem a6Z:∀ {ts:List T} {j:Nat} {t:T},ts[j]?=some t→depT t≤a4g ts
 | [],_,_,e=>by simp at e
 | x :: ts,0,t,e=>by simp at e;subst e;unfold a4g;exact Nat.le_max_left _ _
 | x :: ts,j+1,t,e=>by
   have:=a6Z (ts:=ts) (j:=j) (t:=t) (by simpa using e)
   unfold a4g;exact Nat.le_trans this (Nat.le_max_right _ _)
noncomputable def eqJ (xs ys:List T) (j:Nat):Bool:=match xs[j]?,ys[j]? with
 | some x,some y=>eqT x y
 | _,_=>true
theorem a4H:∀ (xs ys:List T),(((List.range (min xs.length ys.length)).all (eqJ xs ys)) && (xs.length == ys.length))=eqTs xs ys
 | [],[]=>by unfold eqTs;rfl
 | [],y :: ys=>by unfold eqTs;simp
 | x :: xs,[]=>by unfold eqTs;simp
 | x :: xs,y :: ys=>by
   unfold eqTs
   rw[← a4H xs ys]
   rw[List.length_cons,List.length_cons,Nat.succ_min_succ,List.range_succ_eq_map,List.all_cons,List.all_map]
   have e1:eqJ (x :: xs) (y :: ys) 0=eqT x y:=rfl
   have e2:(eqJ (x :: xs) (y :: ys)) ∘ Nat.succ=eqJ xs ys:=by
    funext j;simp [eqJ]
   rw[e1,e2,Bool.and_assoc]
   congr 2
   simp
theorem b2c:∀ {xs ys:List T},eqTs xs ys=true→xs.length=ys.length
 | [],[],_=>rfl
 | [],y :: ys,h=>by unfold eqTs at h;cases h
 | x :: xs,[],h=>by unfold eqTs at h;cases h
 | x :: xs,y :: ys,h=>by
   unfold eqTs at h
   rw[Bool.and_eq_true] at h
   rw[List.length_cons,List.length_cons,b2c h.2]
mutual
theorem a0I:∀ (x:T),a0E x=true→eqT x x=true
 | .non,_=>rfl
 | .bl b,_=>by simp [eqT]
 | .int i,_=>by simp [eqT]
 | .str x,_=>by simp [eqT]
 | .adr a,h=>by unfold a0E at h;cases h
 | .rd a,h=>by unfold a0E at h;cases h
 | .dic ks a,h=>by unfold a0E at h;cases h
 | .tup ts,h=>by unfold a0E at h;unfold eqT;exact b0b ts h
theorem b0b:∀ (xs:List T),a1o xs=true→eqTs xs xs=true
 | [],_=>by unfold eqTs;rfl
 | x :: xs,h=>by
   unfold a1o at h
   rw[Bool.and_eq_true] at h
   unfold eqTs
   rw[a0I x h.1,b0b xs h.2]
   rfl
end
section
variable {X:Cx} {pins:List (Addr × Obj)} {σ:St} {H:Hp} {s:Shared}
theorem b7N (I:Inv X pins σ H s):∀ (x y:T) (v:V),a0E x=true→a0E y=true→Rep X.K H v x→Rep X.K H v y→eqT x y=true:=by
 have key:∀ n (x y:T) (v:V),depT x≤n→a0E x=true→a0E y=true→Rep X.K H v x→Rep X.K H v y→eqT x y=true:=by
  intro n
  induction n with
  | zero =>
    intro x y v hd px py rx ry
    cases x with
    | tup ts=>unfold depT at hd;lia
    | adr a=>unfold a0E at px;cases px
    | rd a=>unfold a0E at px;cases px
    | dic ks a=>unfold a0E at px;cases px
    | _=>unfold Rep at rx;subst rx;cases y<;>unfold Rep at ry<;>first | (obtain⟨_,_,e,_⟩:=ry;cases e;done) | (unfold a0E at py;cases py;done) | (cases ry<;>simp [eqT])
  | succ n ih =>
    intro x y v hd px py rx ry
    cases x with
    | adr a=>unfold a0E at px;cases px
    | rd a=>unfold a0E at px;cases px
    | dic ks a=>unfold a0E at px;cases px
    | tup ts =>
      unfold Rep at rx
      obtain⟨a,xs,rfl,h1,h2⟩:=rx
      cases y with
      | adr a=>unfold a0E at py;cases py
      | rd a=>unfold a0E at py;cases py
      | dic ks a=>unfold a0E at py;cases py
      | tup us =>
        unfold Rep at ry
        obtain⟨a',ys,e,g1,g2⟩:=ry
        cases e
        obtain rfl:=I.tuple_inj h1 g1
        unfold a0E at px py
        unfold depT at hd
        unfold eqT
        have hl:=h2.length
        have hl2:=g2.length
        rw[← a4H]
        rw[← hl,← hl2]
        simp only[Nat.min_self,beq_self_eq_true,Bool.and_true,List.all_eq_true,List.mem_range]
        intro j hj
        have e1:ts[j]?=some ts[j]:=List.getElem?_eq_getElem (by lia)
        have e2:us[j]?=some us[j]:=List.getElem?_eq_getElem (by lia)
        obtain⟨v1,q1,r1⟩:=h2.get e1
        obtain⟨v2,q2,r2⟩:=g2.get e2
        rw[q1] at q2;cases q2
        unfold eqJ
        rw[e1,e2]
        have:=a6Z e1
        exact ih _ _ _ (by lia) (a3v px e1) (a3v py e2) r1 r2
      | _=>unfold Rep at ry;cases ry
    | _=>unfold Rep at rx;subst rx;cases y<;>unfold Rep at ry<;>first | (obtain⟨_,_,e,_⟩:=ry;cases e;done) | (unfold a0E at py;cases py;done) | (cases ry<;>simp [eqT])
 exact fun x y v=>key (depT x) x y v (Nat.le_refl _)
open SeqAt in
theorem b4X {A:Around} (x y:T) (v u:V) (a b:Value) (px:a0E x=true) (py:a0E y=true) (rx:Rep X.K H v x) (ry:Rep X.K H u y) (ra:RelV v a) (rb:RelV u b) (nx:∀ ts,x≠.tup ts) (ny:∀ ts,y≠.tup ts) :
  SeqAt.EqAt A s a b (eqT x y)∧SeqAt.RcAt A s a b (eqT x y)∧SeqAt.RcNeAt A s a b (!(eqT x y)):=by
 cases x with
 | tup ts=>exact absurd rfl (nx ts)
 | adr p=>unfold a0E at px;cases px
 | rd p=>unfold a0E at px;cases px
 | dic ks p=>unfold a0E at px;cases px
 | non =>
   unfold Rep at rx;subst rx
   cases ra
   cases y with
   | tup ts=>exact absurd rfl (ny ts)
   | adr p=>unfold a0E at py;cases py
   | rd p=>unfold a0E at py;cases py
   | dic ks p=>unfold a0E at py;cases py
   | non =>
     unfold Rep at ry;subst ry
     cases rb
     have e:eqT .non .non=true:=rfl
     rw[e]
     exact⟨EqAt.same _,RcAt.none_none,RcNeAt.none_none⟩
   | bl c0 =>
     unfold Rep at ry;subst ry
     cases rb
     have e:eqT .non (.bl c0)=false:=rfl
     rw[e]
     exact⟨EqAt.none_bool _,RcAt.none_bool _,RcNeAt.none_bool _⟩
   | int c0 =>
     unfold Rep at ry;subst ry
     obtain⟨t_rb,rfl⟩:=rb
     have e:eqT .non (.int c0)=false:=rfl
     rw[e]
     exact⟨EqAt.none_int _ _,RcAt.none_int _ _,RcNeAt.none_int _ _⟩
   | str c0 =>
     unfold Rep at ry;subst ry
     obtain⟨t_rb,rfl⟩:=rb
     have e:eqT .non (.str c0)=false:=rfl
     rw[e]
     exact⟨EqAt.none_str _ _,RcAt.none_str _ _,RcNeAt.none_str _ _⟩
 | bl b0 =>
   unfold Rep at rx;subst rx
   cases ra
   cases y with
   | tup ts=>exact absurd rfl (ny ts)
   | adr p=>unfold a0E at py;cases py
   | rd p=>unfold a0E at py;cases py
   | dic ks p=>unfold a0E at py;cases py
   | non =>
     unfold Rep at ry;subst ry
     cases rb
     have e:eqT (.bl b0) .non=false:=rfl
     rw[e]
     exact⟨EqAt.bool_none _,RcAt.bool_none _,RcNeAt.bool_none _⟩
   | bl c0 =>
     unfold Rep at ry;subst ry
     cases rb
     have e:eqT (.bl b0) (.bl c0)=(b0 == c0):=rfl
     rw[e]
     exact⟨EqAt.bool_bool _ _,RcAt.bool_bool _ _,RcNeAt.bool_bool _ _⟩
   | int c0 =>
     unfold Rep at ry;subst ry
     obtain⟨t_rb,rfl⟩:=rb
     have e:eqT (.bl b0) (.int c0)=((if b0 then 1 else 0) == c0):=rfl
     rw[e]
     exact⟨EqAt.bool_int _ _ _,RcAt.bool_int _ _ _,RcNeAt.bool_int _ _ _⟩
   | str c0 =>
     unfold Rep at ry;subst ry
     obtain⟨t_rb,rfl⟩:=rb
     have e:eqT (.bl b0) (.str c0)=false:=rfl
     rw[e]
     exact⟨EqAt.bool_str _ _ _,RcAt.bool_str _ _ _,RcNeAt.bool_str _ _ _⟩
 | int b0 =>
   unfold Rep at rx;subst rx
   obtain⟨t_ra,rfl⟩:=ra
   cases y with
   | tup ts=>exact absurd rfl (ny ts)
   | adr p=>unfold a0E at py;cases py
   | rd p=>unfold a0E at py;cases py
   | dic ks p=>unfold a0E at py;cases py
   | non =>
     unfold Rep at ry;subst ry
     cases rb
     have e:eqT (.int b0) .non=false:=rfl
     rw[e]
     exact⟨EqAt.int_none _ _,RcAt.int_none _ _,RcNeAt.int_none _ _⟩
   | bl c0 =>
     unfold Rep at ry;subst ry
     cases rb
     have e:eqT (.int b0) (.bl c0)=(b0 == (if c0 then 1 else 0)):=rfl
     rw[e]
     exact⟨EqAt.int_bool _ _ _,RcAt.int_bool _ _ _,RcNeAt.int_bool _ _ _⟩
   | int c0 =>
     unfold Rep at ry;subst ry
     obtain⟨t_rb,rfl⟩:=rb
     have e:eqT (.int b0) (.int c0)=(b0 == c0):=rfl
     rw[e]
     exact⟨EqAt.int_int _ _ _ _,RcAt.int_int _ _ _ _,RcNeAt.int_int _ _ _ _⟩
   | str c0 =>
     unfold Rep at ry;subst ry
     obtain⟨t_rb,rfl⟩:=rb
     have e:eqT (.int b0) (.str c0)=false:=rfl
     rw[e]
     exact⟨EqAt.int_str _ _ _ _,RcAt.int_str _ _ _ _,RcNeAt.int_str _ _ _ _⟩
 | str b0 =>
   unfold Rep at rx;subst rx
   obtain⟨t_ra,rfl⟩:=ra
   cases y with
   | tup ts=>exact absurd rfl (ny ts)
   | adr p=>unfold a0E at py;cases py
   | rd p=>unfold a0E at py;cases py
   | dic ks p=>unfold a0E at py;cases py
   | non =>
     unfold Rep at ry;subst ry
     cases rb
     have e:eqT (.str b0) .non=false:=rfl
     rw[e]
     exact⟨EqAt.str_none _ _,RcAt.str_none _ _,RcNeAt.str_none _ _⟩
   | bl c0 =>
     unfold Rep at ry;subst ry
     cases rb
     have e:eqT (.str b0) (.bl c0)=false:=rfl
     rw[e]
     exact⟨EqAt.str_bool _ _ _,RcAt.str_bool _ _ _,RcNeAt.str_bool _ _ _⟩
   | int c0 =>
     unfold Rep at ry;subst ry
     obtain⟨t_rb,rfl⟩:=rb
     have e:eqT (.str b0) (.int c0)=false:=rfl
     rw[e]
     exact⟨EqAt.str_int _ _ _ _,RcAt.str_int _ _ _ _,RcNeAt.str_int _ _ _ _⟩
   | str c0 =>
     unfold Rep at ry;subst ry
     obtain⟨t_rb,rfl⟩:=rb
     have e:eqT (.str b0) (.str c0)=(b0 == c0):=rfl
     rw[e]
     exact⟨EqAt.str_str _ _ _ _,RcAt.str_str _ _ _ _,RcNeAt.str_str _ _ _ _⟩
theorem c2m {x:T} (h:∀ ts,x≠.tup ts):depT x=0:=by
 cases x with
 | tup ts=>exact absurd rfl (h ts)
 | _=>rfl
open SeqAt in
/-- a tuple against what is none -/
theorem b3k {A:Around} {p:Addr} {its:Array Value} (ht:s.heap.IsTuple p its) (hu:A.units < cLine) (x:T) (us:List T) (v:V) (a:Value) (px:a0E x=true) (rx:Rep X.K H v x) (ra:RelV v a) (nx:∀ ts,x≠.tup ts) :
  SeqAt.EqAt A s a (.ref p) (eqT x (.tup us))∧SeqAt.RcAt A s a (.ref p) (eqT x (.tup us))∧SeqAt.RcNeAt A s a (.ref p) (!(eqT x (.tup us))):=by
 cases x with
 | tup ts=>exact absurd rfl (nx ts)
 | adr q=>unfold a0E at px;cases px
 | rd q=>unfold a0E at px;cases px
 | dic ks q=>unfold a0E at px;cases px
 | non =>
   unfold Rep at rx;subst rx;cases ra
   have e:eqT .non (.tup us)=false:=rfl
   rw[e];exact⟨.none_tuple ht hu,.none_tuple ht hu,.none_tuple ht hu⟩
 | bl b0 =>
   unfold Rep at rx;subst rx;cases ra
   have e:eqT (.bl b0) (.tup us)=false:=rfl
   rw[e];exact⟨.bool_tuple _ ht hu,.bool_tuple _ ht hu,.bool_tuple _ ht hu⟩
 | int b0 =>
   unfold Rep at rx;subst rx;obtain⟨t,rfl⟩:=ra
   have e:eqT (.int b0) (.tup us)=false:=rfl
   rw[e];exact⟨.int_tuple _ _ ht hu,.int_tuple _ _ ht hu,.int_tuple _ _ ht hu⟩
 | str b0 =>
   unfold Rep at rx;subst rx;obtain⟨t,rfl⟩:=ra
   have e:eqT (.str b0) (.tup us)=false:=rfl
   rw[e];exact⟨.str_tuple _ _ ht hu,.str_tuple _ _ ht hu,.str_tuple _ _ ht hu⟩
open SeqAt in
theorem b3l {A:Around} {p:Addr} {its:Array Value} (ht:s.heap.IsTuple p its) (hu:A.units < cLine) (x:T) (us:List T) (v:V) (a:Value) (px:a0E x=true) (rx:Rep X.K H v x) (ra:RelV v a) (nx:∀ ts,x≠.tup ts) :
  SeqAt.EqAt A s (.ref p) a (eqT (.tup us) x)∧SeqAt.RcAt A s (.ref p) a (eqT (.tup us) x)∧SeqAt.RcNeAt A s (.ref p) a (!(eqT (.tup us) x)):=by
 cases x with
 | tup ts=>exact absurd rfl (nx ts)
 | adr q=>unfold a0E at px;cases px
 | rd q=>unfold a0E at px;cases px
 | dic ks q=>unfold a0E at px;cases px
 | non =>
   unfold Rep at rx;subst rx;cases ra
   have e:eqT (.tup us) .non=false:=rfl
   rw[e];exact⟨.tuple_none ht hu,.tuple_none ht hu,.tuple_none ht hu⟩
 | bl b0 =>
   unfold Rep at rx;subst rx;cases ra
   have e:eqT (.tup us) (.bl b0)=false:=rfl
   rw[e];exact⟨.tuple_bool _ ht hu,.tuple_bool _ ht hu,.tuple_bool _ ht hu⟩
 | int b0 =>
   unfold Rep at rx;subst rx;obtain⟨t,rfl⟩:=ra
   have e:eqT (.tup us) (.int b0)=false:=rfl
   rw[e];exact⟨.tuple_int _ _ ht hu,.tuple_int _ _ ht hu,.tuple_int _ _ ht hu⟩
 | str b0 =>
   unfold Rep at rx;subst rx;obtain⟨t,rfl⟩:=ra
   have e:eqT (.tup us) (.str b0)=false:=rfl
   rw[e];exact⟨.tuple_str _ _ ht hu,.tuple_str _ _ ht hu,.tuple_str _ _ ht hu⟩
theorem b1v (x:T):(∃ ts,x=.tup ts)∨∀ ts,x≠.tup ts:=by
 cases x with
 | tup ts=>exact .inl ⟨ts,rfl⟩
 | _=>exact .inr fun ts e=>by cases e
theorem b1Z {A:Around} {n:Nat} {ts us:List T} {xs ys:List V} {its its2:List Value} (px:a1o ts=true) (py:a1o us=true) (hd:a4g ts≤n) (h2:Reps X.K H xs ts) (g2:Reps X.K H ys us) (r1:Vals xs its) (r2:Vals ys its2)
  (ih:∀ (x y:T) (v u:V) (a b:Value),depT x≤n→a0E x=true→a0E y=true→Rep X.K H v x→Rep X.K H u y→RelV v a→RelV u b→SeqAt.EqAt A s a b (eqT x y)) (j:Nat) (hj1:j < its.toArray.size) (hj2:j < its2.toArray.size) :
  SeqAt.EqAt A s its.toArray[j] its2.toArray[j] (eqJ ts us j):=by
 have l1:=h2.length
 have l2:=g2.length
 have m1:=r1.length
 have m2:=r2.length
 have hj1':j < its.length:=by simpa using hj1
 have hj2':j < its2.length:=by simpa using hj2
 have e1:ts[j]?=some (ts[j]'(by lia)):=List.getElem?_eq_getElem (by lia)
 have e2:us[j]?=some (us[j]'(by lia)):=List.getElem?_eq_getElem (by lia)
 obtain⟨v1,a1,b1⟩:=h2.get e1
 obtain⟨v2,a2,b2⟩:=g2.get e2
 obtain⟨w1,c1,d1⟩:=r1.get a1
 obtain⟨w2,c2,d2⟩:=r2.get a2
 have f1:its.toArray[j]=w1:=by
  have:its[j]?=some (its[j]'hj1'):=List.getElem?_eq_getElem hj1'
  rw[c1] at this
  simpa using (Option.some.inj this).symm
 have f2:its2.toArray[j]=w2:=by
  have:its2[j]?=some (its2[j]'hj2'):=List.getElem?_eq_getElem hj2'
  rw[c2] at this
  simpa using (Option.some.inj this).symm
 have e3:eqJ ts us j=eqT (ts[j]'(by lia)) (us[j]'(by lia)):=by unfold eqJ;rw[e1,e2]
 rw[f1,f2,e3]
 have:=a6Z e1
 exact ih _ _ v1 v2 w1 w2 (by lia) (a3v px e1) (a3v py e2) b1 b2 d1 d2
open SeqAt in
/-- == (by identity first),==,!= of two values,by their trees -/
theorem b4Y (I:Inv X pins σ H s):∀ n (A:Around) (x y:T) (v u:V) (a b:Value),depT x≤n→A.units+n+1 < cLine→a0E x=true→a0E y=true→Rep X.K H v x→Rep X.K H u y→RelV v a→RelV u b →
  SeqAt.EqAt A s a b (eqT x y)∧SeqAt.RcAt A s a b (eqT x y)∧SeqAt.RcNeAt A s a b (!(eqT x y)):=by
 intro n
 induction n with
 | zero =>
   intro A x y v u a b hd hu px py rx ry ra rb
   rcases b1v x with ⟨ts,rfl⟩ | nx
   ·unfold depT at hd;lia
   ·rcases b1v y with ⟨us,rfl⟩ | ny
    ·unfold Rep at ry
     obtain⟨p,ys,rfl,g1,g2⟩:=ry
     obtain⟨its,r',ht,_⟩:=I.tuple g1
     have ht':s.heap.IsTuple p its.toArray:=ht
     cases rb
     exact b3k ht' (by lia) x us v a px rx ra nx
    ·exact b4X x y v u a b px py rx ry ra rb nx ny
 | succ n ih =>
   intro A x y v u a b hd hu px py rx ry ra rb
   have hu':A.units < cLine:=by lia
   rcases b1v x with ⟨ts,rfl⟩ | nx
   ·have rx':=rx
    unfold Rep at rx
    obtain⟨p,xs,rfl,h1,h2⟩:=rx
    cases ra
    obtain⟨its,r1,ht,_⟩:=I.tuple h1
    have ht':s.heap.IsTuple p its.toArray:=ht
    rcases b1v y with ⟨us,rfl⟩ | ny
    ·have ry':=ry
     unfold Rep at ry
     obtain⟨q,ys,rfl,g1,g2⟩:=ry
     cases rb
     obtain⟨its2,r2,ht2,_⟩:=I.tuple g1
     have ht2':s.heap.IsTuple q its2.toArray:=ht2
     have px':=px
     have py':=py
     unfold a0E at px py
     unfold depT at hd
     have he:=b1Z (A:=A.in1) (s:=s) (n:=n) px py (by lia) h2 g2 r1 r2 fun x y v u a b hx px py rx ry ra rb=>(ih A.in1 x y v u a b hx (by show A.units+1+n+1 < cLine;lia) px py rx ry ra rb).1
     have ee:((List.range (min its.toArray.size its2.toArray.size)).all (eqJ ts us) && its.toArray.size == its2.toArray.size)=eqT (.tup ts) (.tup us):=by
      have l1:=h2.length
      have l2:=g2.length
      have m1:=r1.length
      have m2:=r2.length
      unfold eqT
      rw[← a4H,List.size_toArray,List.size_toArray,← m1,← m2,l1,l2]
     have rc:=RcAt.tuples (A:=A) (e:=eqJ ts us) ht' ht2' hu' he
     have rn:=RcNeAt.tuples (A:=A) (e:=eqJ ts us) ht' ht2' hu' he
     rw[ee] at rc rn
     refine⟨?_,rc,rn⟩
     by_cases hpq:p=q
     ·subst hpq
      have e:eqT (.tup ts) (.tup us)=true:=b7N I (.tup ts) (.tup us) (.ref p) px' py' rx' ry'
      rw[e];exact .same _
     ·exact .of_refs hpq rc
    ·exact b3l ht' hu' y ts u b py ry rb ny
   ·exact ih A x y v u a b (by rw[c2m nx];exact Nat.zero_le _) (by lia) px py rx ry ra rb
end
noncomputable abbrev R3:=T→T→MH→VK3→Prop
noncomputable def dR (K:PySem.W.Frag) (r:R3):R2:=fun v u H Q2=>∃ x y M Q,Rep K H v x∧Rep K H u y∧HR K H M∧r x y M Q∧EndE K H Q Q2
noncomputable def dU (K:PySem.W.Frag) (r:T→MH→VK3→Prop):V→Hp→VK→Prop:=fun v H Q2=>∃ x M Q,Rep K H v x∧HR K H M∧r x M Q∧EndE K H Q Q2
noncomputable def dL (K:PySem.W.Frag) (r:List T→MH→VK3→Prop):List V→Hp→VK→Prop:=fun vs H Q2=>∃ xs M Q,Reps K H vs xs∧HR K H M∧r xs M Q∧EndE K H Q Q2
theorem Kp.new {K:PySem.W.Frag} {H:Hp} {p:Addr} {o:HO} (h:H p=none):Kp K H (upd H p o):=by
 refine⟨fun a xs q=>?_,fun a ob u q=>by rw[a0v (a0u q h)];exact q,fun a xs q=>by rw[a0v (a0u q h)];exact q⟩
 rcases q with (q | ⟨ob,q⟩) | q
 ·exact .inl (.inl (by rw[a0v (a0u q h)];exact q))
 ·exact .inl (.inr ⟨ob,by rw[a0v (a0u q h)];exact q⟩)
 ·exact .inr q
theorem Kp.lst {K:PySem.W.Frag} {H:Hp} {p:Addr} {xs ys:List V} (h:H p=some (.lst xs)):Kp K H (upd H p (.lst ys)):=by
 have ne:∀ {a:Addr} {o:HO},H a=some o→o≠.lst xs→a≠p:=fun {a o} q hn e=>by
  subst e
  rw[h] at q;cases q;exact hn rfl
 refine⟨fun a zs q=>?_,fun a ob u q=>by rw[a0v (ne q (by intro z;cases z))];exact q,fun a xs q=>by rw[a0v (ne q (by intro z;cases z))];exact q⟩
 rcases q with (q | ⟨ob,q⟩) | q
 ·exact .inl (.inl (by rw[a0v (ne q (by intro z;cases z))];exact q))
 ·exact .inl (.inr ⟨ob,by rw[a0v (ne q (by intro z;cases z))];exact q⟩)
 ·exact .inr q
theorem Kp.dict {K:PySem.W.Frag} {H:Hp} {p:Addr} {o u:HO} (h:H p=some o) (ho:(∃ kvs,o=.dK kvs)∨∃ kvs,o=.dT kvs):Kp K H (upd H p u):=by
 have ne:∀ {a:Addr} {u:HO},H a=some u→((∃ xs,u=.tup xs)∨∃ b x,u=.frz b x)→a≠p:=fun {a u} q hn e=>by
  subst e
  rw[h] at q;cases q
  rcases ho with ⟨_,rfl⟩ | ⟨_,rfl⟩<;>rcases hn with ⟨_,z⟩ | ⟨_,_,z⟩<;>cases z
 refine⟨fun a zs q=>?_,fun a ob u q=>by rw[a0v (ne q (.inr ⟨_,_,rfl⟩))];exact q,fun a xs q=>by rw[a0v (ne q (.inl ⟨_,rfl⟩))];exact q⟩
 rcases q with (q | ⟨ob,q⟩) | q
 ·exact .inl (.inl (by rw[a0v (ne q (.inl ⟨_,rfl⟩))];exact q))
 ·exact .inl (.inr ⟨ob,by rw[a0v (ne q (.inr ⟨_,_,rfl⟩))];exact q⟩)
 ·exact .inr q
section
variable {K:PySem.W.Frag} {H:Hp} {M:MH}
noncomputable def Wr:HO→Prop
 | .lst _=>True
 | .dK _=>True
 | .dT _=>True
 | .frz _ _=>True
 | .ins _ _ _=>True
 | _=>False
theorem MOk.kp {H':Hp} {a:Addr} {o:MO} (h:MOk K H a o) (k:Kp K H H') (ha:∀ u,Wr u→H a=some u→H' a=some u):MOk K H' a o:=by
 cases o with
 | lst ts=>obtain⟨xs,e,r⟩:=h;exact⟨xs,ha _ trivial e,Reps.kp k _ _ r⟩
 | dk kvs=>obtain⟨xs,e,r⟩:=h;exact⟨xs,ha _ trivial e,r.kp k⟩
 | dt kvs=>obtain⟨xs,e,r⟩:=h;exact⟨xs,ha _ trivial e,r.kp k⟩
 | fz kvs=>obtain⟨ob,xs,e,r⟩:=h;exact⟨ob,xs,k.frz _ _ _ e,r.kp k⟩
 | fk kvs =>
   obtain⟨xs,e,r⟩:=h
   rcases e with e | ⟨ob,e⟩
   ·exact⟨xs,.inl (ha _ trivial e),r.kp k⟩
   ·exact⟨xs,.inr ⟨ob,k.frz _ _ _ e⟩,r.kp k⟩
 | ob C fs=>obtain⟨dx,xs,e,r⟩:=h;exact⟨dx,xs,ha _ trivial e,r.kp k⟩
theorem MOk.some {a:Addr} {o:MO} (h:MOk K H a o):∃ u,H a=Option.some u∧Wr u:=by
 cases o with
 | lst ts=>obtain⟨xs,e,r⟩:=h;exact⟨_,e,trivial⟩
 | dk kvs=>obtain⟨xs,e,r⟩:=h;exact⟨_,e,trivial⟩
 | dt kvs=>obtain⟨xs,e,r⟩:=h;exact⟨_,e,trivial⟩
 | fz kvs=>obtain⟨ob,xs,e,r⟩:=h;exact⟨_,e,trivial⟩
 | fk kvs =>
   obtain⟨xs,e,r⟩:=h
   rcases e with e | ⟨ob,e⟩
   ·exact⟨_,e,trivial⟩
   ·exact⟨_,e,trivial⟩
 | ob C fs=>obtain⟨dx,xs,e,r⟩:=h;exact⟨_,e,trivial⟩
theorem HR.free {p:Addr} (h:HR K H M) (hp:H p=none):M p=none:=by
 cases q:M p with
 | none=>rfl
 | some o =>
   obtain⟨u,e,_⟩:=(h p o q).some
   rw[hp] at e;cases e
theorem HR.keep {p:Addr} {o:HO} (h:HR K H M) (hp:H p=none):HR K (upd H p o) M:=fun a u e =>
 (h a u e).kp (Kp.new hp) fun u _ q=>by rw[a0v (a0u q hp)];exact q
theorem HR.newL {p:Addr} {xs:List V} {ts:List T} (h:HR K H M) (hp:H p=none) (r:Reps K H xs ts):HR K (upd H p (.lst xs)) (updM M p (.lst ts)):=fun a u e=>by
 by_cases ha:a=p
 ·subst ha
  rw[a0i] at e;cases e
  exact⟨xs,a0B,Reps.kp (Kp.new hp) _ _ r⟩
 ·rw[a0s ha] at e
  exact (h.keep hp) a u e
theorem HR.setL {p:Addr} {xs ys:List V} {us:List T} (h:HR K H M) (hp:H p=some (.lst xs)) (r:Reps K H ys us):HR K (upd H p (.lst ys)) (updM M p (.lst us)):=fun a u e=>by
 by_cases ha:a=p
 ·subst ha
  rw[a0i] at e;cases e
  exact⟨ys,a0B,Reps.kp (Kp.lst hp) _ _ r⟩
 ·rw[a0s ha] at e
  exact (h a u e).kp (Kp.lst hp) fun u _ q=>by rw[a0v ha];exact q
theorem HR.newK {p:Addr} {xs:List (Key × V)} {kvs:List (Key × T)} (h:HR K H M) (hp:H p=none) (r:KRep K H xs kvs):HR K (upd H p (.dK xs)) (updM M p (.dk kvs)):=fun a u e=>by
 by_cases ha:a=p
 ·subst ha
  rw[a0i] at e;cases e
  exact⟨xs,a0B,r.kp (Kp.new hp)⟩
 ·rw[a0s ha] at e
  exact (h.keep hp) a u e
theorem HR.newT {p:Addr} {xs:List (List Key × V)} {kvs:List (List Key × T)} (h:HR K H M) (hp:H p=none) (r:KRep K H xs kvs):HR K (upd H p (.dT xs)) (updM M p (.dt kvs)):=fun a u e=>by
 by_cases ha:a=p
 ·subst ha
  rw[a0i] at e;cases e
  exact⟨xs,a0B,r.kp (Kp.new hp)⟩
 ·rw[a0s ha] at e
  exact (h.keep hp) a u e
theorem HR.setK {p:Addr} {o:HO} {xs:List (Key × V)} {kvs:List (Key × T)} (h:HR K H M) (hp:H p=some o) (ho:(∃ kvs,o=.dK kvs)∨∃ kvs,o=.dT kvs) (r:KRep K H xs kvs):HR K (upd H p (.dK xs)) (updM M p (.dk kvs)):=fun a u e=>by
 by_cases ha:a=p
 ·subst ha
  rw[a0i] at e;cases e
  exact⟨xs,a0B,r.kp (Kp.dict hp ho)⟩
 ·rw[a0s ha] at e
  exact (h a u e).kp (Kp.dict hp ho) fun u _ q=>by rw[a0v ha];exact q
theorem HR.setT {p:Addr} {o:HO} {xs:List (List Key × V)} {kvs:List (List Key × T)} (h:HR K H M) (hp:H p=some o) (ho:(∃ kvs,o=.dK kvs)∨∃ kvs,o=.dT kvs) (r:KRep K H xs kvs):HR K (upd H p (.dT xs)) (updM M p (.dt kvs)):=fun a u e=>by
 by_cases ha:a=p
 ·subst ha
  rw[a0i] at e;cases e
  exact⟨xs,a0B,r.kp (Kp.dict hp ho)⟩
 ·rw[a0s ha] at e
  exact (h a u e).kp (Kp.dict hp ho) fun u _ q=>by rw[a0v ha];exact q
end
noncomputable def OpR3 (X:Cx) (f:Value→Value→Sem Value) (r:R3):Prop:=OpR X f (dR X.K r)
noncomputable def UnR3 (X:Cx) (f:Value→Sem Value) (r:T→MH→VK3→Prop):Prop:=UnR X f (dU X.K r)
noncomputable def a4f (X:Cx) (f:Value) (r:List T→MH→VK3→Prop):Prop:=a7k X f (dL X.K r)
noncomputable def IxR3 (X:Cx) (r:R3):Prop:=IxR X (dR X.K r)
noncomputable def tOp3 (r:R3) (ta tb:TE3):TE3:=fun ρ M Q=>ta ρ M fun x M1=>tb ρ M1 fun y M2=>r x y M2 Q
noncomputable def tUn3 (r:T→MH→VK3→Prop) (ta:TE3):TE3:=fun ρ M Q=>ta ρ M fun x M1=>r x M1 Q
noncomputable def b5D (i:Nat):TE3:=fun ρ M Q=>match ρ[i]? with
 | some (some t)=>Q t M
 | _=>False
noncomputable def tK (t:T):TE3:=fun _ M Q=>Q t M
section
variable {X:Cx} {a b c e:Expr} {es:List Expr} {ta tb tc te:TE3} {pos:Pos}
theorem dOp {ρ:En} {M:MH} {Q:VK3} {r:R3} (h:tOp3 r ta tb ρ M Q) {σ:St} {H:Hp} {Q2:VK} (b:bE X.K ρ M Q σ H Q2):tOp (dR X.K r) (dE X.K ρ ta) (dE X.K ρ tb) σ H Q2:=by
 obtain⟨hr,hh,en⟩:=b
 refine⟨M,_,h,hr,hh,fun t v M1 H1 k1 h1 r1 q1=>⟨M1,_,q1,hr.kp k1,h1,fun t2 v2 M2 H2 k2 h2 r2 q2=>⟨t,t2,M2,Q,Rep.kp k2 _ _ r1,r2,h2,q2,en.kp (k1.trans k2)⟩⟩⟩
theorem a0m {op:Operator} {r:R3} (ho:OpR3 X (binaryOp op) r) (ha:HE X a ta) (hb:HE X b tb):HE X (.BinOp a op b pos) (tOp3 r ta tb):=fun ρ M Q h =>
 (c1T ho (ha.d (ρ:=ρ)) (hb.d (ρ:=ρ))).imp fun σ H Q2 b=>dOp h b
theorem h_un {op:UnaryOp} {r:T→MH→VK3→Prop} (ho:UnR3 X (unaryOp op) r) (ha:HE X a ta):HE X (.UnaryOp op a pos) (tUn3 r ta):=fun ρ M Q h =>
 (c1R ho (ha.d (ρ:=ρ))).imp fun σ H Q2 ⟨hr,hh,en⟩=>⟨M,_,h,hr,hh,fun t v M1 H1 k1 h1 r1 q1=>⟨t,M1,Q,r1,h1,q1,en.kp k1⟩⟩
theorem c2i {i:Nat} {x:Str} (hN:X.N[i]?=some x) (hv:Vis X.env.scope x) (hd:(x == ("__debug__":Str))=false:=by decide) (hcd:(x == ("__classdict__":Str))=false:=by decide):HE X (.Name x pos) (b5D i):=fun ρ M Q h =>
 (c0j hN hv hd hcd).imp fun σ H Q2 ⟨hr,hh,en⟩=>by
  unfold b5D at h
  split at h
  ·rename_i t e
   obtain⟨v,e1,r⟩:=hr.2 i t e
   exact⟨v,e1,en t v M H Kp.refl hh r h⟩
  ·exact h.elim
theorem hv (i:Nat) {x:Str} {pos:Pos} (hN:X.N[i]?=some x:=by rfl) (hv:Vis X.env.scope x:=by first | exact Or.inl rfl | exact Or.inr (Or.inl rfl) | exact Or.inr (Or.inr rfl)) (hd:(x == ("__debug__":Str))=false:=by decide)
  (hcd:(x == ("__classdict__":Str))=false:=by decide):HE X (.Name x pos) (b5D i):=c2i hN hv hd hcd
theorem a0K {K:PySem.W.Frag} {H:Hp} {i:Int}:Rep K H (.int i) (.int i):=by unfold Rep;rfl
theorem a1W {K:PySem.W.Frag} {H:Hp} {i:Bool}:Rep K H (.bl i) (.bl i):=by unfold Rep;rfl
theorem a8l {K:PySem.W.Frag} {H:Hp} {i:Str}:Rep K H (.str i) (.str i):=by unfold Rep;rfl
theorem a6I {K:PySem.W.Frag} {H:Hp}:Rep K H .non .non:=by unfold Rep;rfl
theorem a1R {K:PySem.W.Frag} {H:Hp} {a:Addr}:Rep K H (.ref a) (.adr a):=by unfold Rep;rfl
theorem a1v {K:PySem.W.Frag} {H:Hp} {a:Addr} {xs:List V} {ts:List T} (h:SqT K H a xs) (r:Reps K H xs ts):Rep K H (.ref a) (.tup ts):=by unfold Rep;exact⟨a,xs,rfl,h,r⟩
theorem a5Z {v:V} {t:T} (h:PE X e (tC v)) (r:∀ K H,Rep K H v t):HE X e (tK t):=fun ρ M Q q=>h.imp fun σ H Q2 ⟨hr,hh,en⟩=>en t v M H Kp.refl hh (r _ _) q
theorem a0d {i j pos}:HE X (.Constant (.int i) j pos) (tK (.int i)):=a5Z c0p fun _ _=>a0K
theorem h_bl {b j pos}:HE X (.Constant (.bool b) j pos) (tK (.bl b)):=a5Z c1W fun _ _=>a1W
theorem a5X {j pos}:HE X (.Constant .none j pos) (tK .non):=a5Z c0n fun _ _=>a6I
theorem a0P {x j pos}:HE X (.Constant (.str x) j pos) (tK (.str x)):=a5Z c0l fun _ _=>a8l
theorem a5e {x:Str} {i:Int} {tk:Tok} {pos:Pos} (hm:X.mg x=some (.int i tk)) (hg:Gl X x:=by rfl) (hd:(x == ("__debug__":Str))=false:=by decide):HE X (.Name x pos) (tK (.int i)):=a5Z (v:=.int i) (a8r hg hm ⟨tk,rfl⟩ hd) fun _ _=>a0K
theorem a0D {K:PySem.W.Frag} {H:Hp} {v:V} {i:Int} (r:Rep K H v (.int i)):v=.int i:=by unfold Rep at r;exact r
theorem a2k {K:PySem.W.Frag} {H:Hp} {v:V} {i:Str} (r:Rep K H v (.str i)):v=.str i:=by unfold Rep at r;exact r
theorem a3m {K:PySem.W.Frag} {H:Hp} {v:V} {i:Bool} (r:Rep K H v (.bl i)):v=.bl i:=by unfold Rep at r;exact r
theorem a6U {K:PySem.W.Frag} {H:Hp} {v:V} (r:Rep K H v .non):v=.non:=by unfold Rep at r;exact r
theorem a0F {K:PySem.W.Frag} {H:Hp} {v:V} {a:Addr} (r:Rep K H v (.adr a)):v=.ref a:=by unfold Rep at r;exact r
theorem a1d {K:PySem.W.Frag} {H:Hp} {v:V} {ts:List T} (r:Rep K H v (.tup ts)):∃ a xs,v=.ref a∧SqT K H a xs∧Reps K H xs ts:=by unfold Rep at r;exact r
noncomputable def rInt (C:Int→Int→Prop) (g:Int→Int→Int):R3:=fun x y M Q=>match x,y with
 | .int i,.int j=>C i j∧Q (.int (g i j)) M
 | _,_=>False
theorem b0T {f:Value→Value→Sem Value} {C:Int→Int→Prop} {g:Int→Int→Int} (h:OpR X f (rI C fun i j=>.int (g i j))):OpR3 X f (rInt C g):=by
 intro pins s σ H x y v u Q2 I rx ry q
 obtain⟨a,b,M,Q,r1,r2,hh,q,en⟩:=q
 unfold rInt at q
 split at q
 ·obtain rfl:=a0D r1
  obtain rfl:=a0D r2
  exact h pins s σ H _ _ v u Q2 I rx ry ⟨_,_,rfl,rfl,q.1,en _ _ M H Kp.refl hh a0K q.2⟩
 ·exact q.elim
noncomputable def b7Q:R3:=fun x y M Q=>match x,y with
 | .int i,.int j=>Q (.int (i - j)) M
 | _,_=>False
theorem a0M:OpR3 X (binaryOp .Sub) b7Q:=by
 intro pins s σ H x y v u Q2 I rx ry q
 obtain⟨a,b,M,Q,r1,r2,hh,q,en⟩:=q
 unfold b7Q at q
 split at q
 ·obtain rfl:=a0D r1
  obtain rfl:=a0D r2
  exact c0s pins s σ H _ _ v u Q2 I rx ry ⟨_,_,rfl,rfl,en _ _ M H Kp.refl hh a0K q⟩
 ·exact q.elim
noncomputable def b3t (i j:Int):Prop:=0 < j∧j.natAbs.log2 < 9000
theorem b6f:OpR X (binaryOp .FloorDiv) (rI b3t fun i j=>.int (i / j)):=opI fun i j _ _ _ _ _ hc q=>by
 have e:i.fdiv j=i / j:=Int.fdiv_eq_ediv_of_nonneg i (Int.le_of_lt hc.1)
 exact floordiv_int (Int.ne_of_gt hc.1) (by rw[e];exact q) (.inl (PyProof.noPylong_of_log2 hc.2))
noncomputable def b9Z:R3:=rInt b3t fun i j=>i / j
noncomputable def b9X:R3:=rInt (fun _ j=>0 < j) fun i j=>i % j
noncomputable def b9W:R3:=rInt CPow fun i j=>i ^ j.toNat
theorem a4Z:OpR3 X (binaryOp .FloorDiv) b9Z:=b0T b6f
theorem a3o:OpR3 X (binaryOp .Mod) b9X:=b0T c0w
theorem b4o:OpR3 X (binaryOp .Pow) b9W:=b0T c0u
noncomputable def b7R:T→MH→VK3→Prop:=fun x M Q=>match x with
 | .int i=>Q (.int (-i)) M
 | _=>False
theorem a0J:UnR3 X (unaryOp .USub) b7R:=by
 intro pins s σ H x v Q2 I rx q
 obtain⟨a,M,Q,r1,hh,q,en⟩:=q
 unfold b7R at q
 split at q
 ·obtain rfl:=a0D r1
  exact b9n pins s σ H _ v Q2 I rx ⟨_,rfl,en _ _ M H Kp.refl hh a0K q⟩
 ·exact q.elim
theorem b6g:OpR X (binaryOp .Add) (fun x y H Q=>∃ a b ys,x=.ref a∧y=.ref b∧SqT X.K H a []∧SqT X.K H b ys∧Q (.ref b) H):=by
 intro pins s σ H x y v u Q I rx ry h
 obtain⟨a,b,ys,rfl,rfl,hx,hy,q⟩:=h
 cases rx
 cases ry
 obtain⟨its,r,ht,hz⟩:=I.tuple hx
 obtain⟨its2,r2,ht2,hz2⟩:=I.tuple hy
 have e:its=[]:=r.nil_iff.mpr rfl
 subst e
 obtain⟨⟨cls,dd,data,sl⟩,ho,hc,n,hd⟩:=id ht
 obtain⟨⟨cls2,dd2,data2,sl2⟩,ho2,hc2,n2,hd2⟩:=id ht2
 simp only at hc hd hc2 hd2
 subst hc hd hc2 hd2
 exact concat_meets ⟨_,ho,rfl⟩ ⟨_,ho2,rfl⟩ noFill_tuple_add seq_tuple_add PySem.F.slot_tuple_add PySem.F.entry_tuple_add (PySem.F.args_tuple_add_2 _ _)
   (tuple_addW0 a b _ its2.toArray n n2 dd dd2 sl sl2 (by simp)) ⟨ho,ho2,⟨.ref b,H,I,rfl,q⟩⟩
noncomputable def b7Z:R3:=fun x y M Q=>match x,y with
 | .int i,.int j=>Q (.int (i+j)) M
 | .str a,.str b=>a.length+b.length≤sizeLine∧Q (.str (a++b)) M
 | .tup a,.tup b=>a.length+b.length≤sizeLine∧Q (.tup (a++b)) M
 | .adr p,.adr q=>match M p,M q with
   | some (.lst a),some (.lst b)=>a.length+b.length≤sizeLine∧∀ r,M r=none→Q (.adr r) (updM M r (.lst (a++b)))
   | _,_=>False
 | _,_=>False
theorem a0o:OpR3 X (binaryOp .Add) b7Z:=by
 intro pins s σ H x y v u Q2 I rx ry q
 obtain⟨a,b,M,Q,r1,r2,hh,q,en⟩:=q
 unfold b7Z at q
 split at q
 ·obtain rfl:=a0D r1
  obtain rfl:=a0D r2
  exact c0z pins s σ H _ _ v u Q2 I rx ry ⟨_,_,rfl,rfl,en _ _ M H Kp.refl hh a0K q⟩
 ·obtain rfl:=a2k r1
  obtain rfl:=a2k r2
  exact b2N pins s σ H _ _ v u Q2 I rx ry ⟨_,_,rfl,rfl,q.1,en _ _ M H Kp.refl hh a8l q.2⟩
 ·rename_i ts us
  obtain⟨p,xs,rfl,h1,h2⟩:=a1d r1
  obtain⟨p',ys,rfl,g1,g2⟩:=a1d r2
  have l1:=h2.length
  have l2:=g2.length
  by_cases hx:xs=[]
  ·subst hx
   have ht:ts=[]:=List.eq_nil_of_length_eq_zero (by rw[← l1];rfl)
   subst ht
   exact b6g pins s σ H _ _ v u Q2 I rx ry ⟨_,_,ys,rfl,rfl,h1,g1,en _ _ M H Kp.refl hh (a1v g1 g2) q.2⟩
  ·refine b4n pins s σ H _ _ v u Q2 I rx ry ⟨_,_,xs,ys,rfl,rfl,h1,g1,hx,by rw[l1,l2];exact q.1,fun hy=>?_,fun hy r hr=>?_⟩
   ·subst hy
    have ht:us=[]:=List.eq_nil_of_length_eq_zero (by rw[← l2];rfl)
    subst ht
    have q2:=q.2
    rw[List.append_nil] at q2
    exact en _ _ M H Kp.refl hh (a1v h1 h2) q2
   ·refine en _ _ M _ (Kp.new hr) (hh.keep hr) (a1v (SqT.of a0B) ?_) q.2
    exact Reps.kp (Kp.new hr) _ _ (h2.append g2)
 ·rename_i p p'
  obtain rfl:=a0F r1
  obtain rfl:=a0F r2
  split at q
  ·rename_i ts us e1 e2
   obtain⟨xs,h1,h2⟩:=hh _ _ e1
   obtain⟨ys,g1,g2⟩:=hh _ _ e2
   refine c0y pins s σ H _ _ v u Q2 I rx ry ⟨_,_,xs,ys,rfl,rfl,h1,g1,by rw[h2.length,g2.length];exact q.1,fun r hr=>?_⟩
   exact en _ _ _ _ (Kp.new hr) (hh.newL hr (h2.append g2)) a1R (q.2 r (hh.free hr))
  ·exact q.elim
 ·exact q.elim
end
theorem a6o:fillsNumberSlot (.type "tuple") "mul"=pure false :=
 PySem.fillsNumberSlot_seq (id:="tuple.__mul__") (r:=some (.builtin "tuple.__rmul__")) F.slot_tuple_mul.lookup (by decide +kernel) F.slot_tuple_rmul.lookup (by decide +kernel)
theorem a9k:seqRepeat? (.type "tuple")=pure (some (.builtin "tuple.__mul__")):=by
 unfold seqRepeat?
 rw[PySem.seqSlot_of (T:="tuple") (name:="__mul__") (id:="tuple.__mul__") F.slot_tuple_mul.lookup (by decide +kernel),PySem.seqSlot_of (T:="tuple") (name:="__rmul__") (id:="tuple.__rmul__") F.slot_tuple_rmul.lookup (by decide +kernel)]
 rfl
section
variable (l:Addr) (items:Array Value) (n:Nat) (x:Int) (u:Tok) (dd:Option Addr) (sl:Array (Option Value))
theorem a7s:Meets (Builtin.«int.__rmul__» ⟨[.int x u,.ref l],[]⟩) (fun _ R s=>s.heap.get? l=some { cls:=.type "tuple",dict:=dd,data:=.seq items n,slots:=sl }∧R (.ok (.ret Value.notImplemented)) s) :=
 .of_wp fun prog w A R s h=>by obtain⟨hp,g,d,tk,os⟩:=s;obtain⟨hl,h⟩:=h;wp_walk;exact⟨_,rfl,h⟩
theorem b0D (h0:-(2 ^ 63)≤x) (h1:x < 2 ^ 63) (hc:(items.isEmpty || x == 1)=true) :
  Meets (Builtin.«tuple.__mul__» ⟨[.ref l,.int x u],[]⟩) (fun _ R s=>s.heap.get? l=some { cls:=.type "tuple",dict:=dd,data:=.seq items n,slots:=sl }∧R (.ok (.ret (Value.ref l))) s) :=
 .of_wp fun prog w A R s h=>by
  obtain⟨hp,g,d,tk,os⟩:=s;obtain⟨hl,h⟩:=h
  have hb:¬(decide (x < -2 ^ 63) || decide (x ≥ 2 ^ 63))=true:=by simp;lia
  wp_walk
  rw[if_neg hb]
  wp_walk
  first | exact⟨_,rfl,h⟩ | (rw[if_pos hc];wp_walk;exact⟨_,rfl,h⟩)
theorem b0C (h0:-(2 ^ 63)≤x) (h1:x < 2 ^ 63) (hc:¬(items.isEmpty || x == 1)=true) (hn:(decide (x≤0) || items.isEmpty)=true) :
  Meets (Builtin.«tuple.__mul__» ⟨[.ref l,.int x u],[]⟩) (fun _ R s=>s.heap.get? l=some { cls:=.type "tuple",dict:=dd,data:=.seq items n,slots:=sl }∧R (.ok (.ret (Value.ref s.heap.objs.size))) { s with heap:=s.heap.push { cls:=.type "tuple",data:=.seq #[] },toks:=s.toks }) :=
 .of_wp fun prog w A R s h=>by
  obtain⟨hp,g,d,tk,os⟩:=s;obtain⟨hl,h⟩:=h
  have hb:¬(decide (x < -2 ^ 63) || decide (x ≥ 2 ^ 63))=true:=by simp;lia
  wp_walk
  rw[if_neg hb]
  wp_walk
  first | exact⟨_,rfl,h⟩ | (rw[if_neg hc,if_pos hn];wp_walk;exact⟨_,rfl,h⟩)
theorem b0B (h0:-(2 ^ 63)≤x) (h1:x < 2 ^ 63) (hc:¬(items.isEmpty || x == 1)=true) (hn:¬(decide (x≤0) || items.isEmpty)=true) (hm:¬items.size*x > (2 ^ 63 - 1) / 8) (hz:¬Builtin.Tuple.tupleTooMany (items.size*x)=true) (hf:sizeOk (.seq (List.foldl (fun x1 x2=>x1++x2) #[] (List.replicate x.toNat items)))) :
  Meets (Builtin.«tuple.__mul__» ⟨[.ref l,.int x u],[]⟩) (fun _ R s=>s.heap.get? l=some { cls:=.type "tuple",dict:=dd,data:=.seq items n,slots:=sl }∧R (.ok (.ret (Value.ref s.heap.objs.size))) { s with heap:=s.heap.push { cls:=.type "tuple",data:=.seq (List.foldl (fun x1 x2=>x1++x2) #[] (List.replicate x.toNat items)) },toks:=s.toks }) :=
 .of_wp fun prog w A R s h=>by
  obtain⟨hp,g,d,tk,os⟩:=s;obtain⟨hl,h⟩:=h
  have hb:¬(decide (x < -2 ^ 63) || decide (x ≥ 2 ^ 63))=true:=by simp;lia
  wp_walk
  rw[if_neg hb]
  wp_walk
  rw[if_neg hm]
  wp_walk
  first | exact⟨_,rfl,h⟩ | (rw[if_neg (Nat.not_lt.mpr hf)];wp_walk;exact⟨_,rfl,h⟩)
end
section
variable {X:Cx}
noncomputable def c1N (K:PySem.W.Frag):R2:=fun x y H Q=>∃ a k xs,x=.ref a∧y=.int k∧SqT K H a xs∧-(2 ^ 63)≤k∧k < 2 ^ 63∧xs.length*k.toNat≤sizeLine ∧
 ∀ p H',SqT K H' p (List.replicate k.toNat xs).flatten→(H'=H∨H p=none∧H'=upd H p (.tup (List.replicate k.toNat xs).flatten))→Q (.ref p) H'
theorem a7P (its:List Value) (m:Nat):List.foldl (fun x1 x2=>x1++x2) #[] (List.replicate m its.toArray)=(List.replicate m its).flatten.toArray:=by
 have:=a6Y its m []
 rw[List.nil_append] at this
 exact this
theorem b8t:OpR X (binaryOp .Mult) (c1N X.K):=by
 intro pins s σ H x y v u Q I rx ry h
 obtain⟨a,k,xs,rfl,rfl,hx,h1,h2,hz,q⟩:=h
 cases rx
 obtain⟨t,rfl⟩:=ry
 obtain⟨its,r,p,hl⟩:=I.tuple hx
 have hlen:=r.length
 obtain⟨⟨cls,dd,data,sl⟩,ho,hc,n,hd⟩:=id p
 simp only at hc hd
 subst hc hd
 refine wpAny_binaryOp_repeat_ref (T:="tuple") (U:="int") (by decide) ⟨_,ho,rfl⟩ (fun s'=>typeIs_int s' k t) a6o F.fills_int_mul F.slot_int_rmul a9k F.slot_int_index.lookup
  (call_meets F.slot_int_rmul (typeIs_int s k t) F.entry_int_rmul (F.args_int_rmul_2 _ _) (a7s a its.toArray n k t dd sl) ⟨ho,rfl,⟨_,ho,rfl⟩,?_⟩)
 by_cases hc:(its.toArray.isEmpty || k == 1)=true
 ·refine call_meets F.slot_tuple_mul ⟨_,ho,rfl⟩ F.entry_tuple_mul (F.args_tuple_mul_2 _ _) (b0D a its.toArray n k t dd sl h1 h2 hc) ⟨ho,?_⟩
  have e:(List.replicate k.toNat xs).flatten=xs:=by
   simp only[Bool.or_eq_true,beq_iff_eq] at hc
   rcases hc with hc | hc
   ·have:its=[]:=by simpa using hc
    subst this
    cases r
    simp
   ·subst hc
    simp
  exact⟨.ref a,H,I,rfl,q a H (by rw[e];exact hx) (.inl rfl)⟩
 ·by_cases hn:(decide (k≤0) || its.toArray.isEmpty)=true
  ·refine call_meets F.slot_tuple_mul ⟨_,ho,rfl⟩ F.entry_tuple_mul (F.args_tuple_mul_2 _ _) (b0C a its.toArray n k t dd sl h1 h2 hc hn) ⟨ho,?_⟩
   have hk:k.toNat=0:=by
    simp only[Bool.or_eq_true,decide_eq_true_eq] at hn hc
    rcases hn with hn | hn
    ·lia
    ·exact absurd (.inl hn) hc
   have e:(List.replicate k.toNat xs).flatten=[]:=by rw[hk];rfl
   refine⟨.ref s.heap.objs.size,_,I.laid (t':=s.toks) (o:=.tup []) (fun b ob q=>Heap.get?_push_of_some _ q) (Nat.le_refl _) ?_,rfl,q _ _ ?_ (.inr ⟨I.hok.fresh (Nat.le_refl _),by rw[e]⟩)⟩
   ·exact⟨Nat.zero_le _,[],.nil,a2R.new _ _⟩
   ·rw[e];exact SqT.of a0B
  ·have hm:(its.toArray.size:Int)*k≤sizeLine:=by
    have:its.toArray.size=xs.length:=by rw[hlen];simp
    rw[this]
    have hk:(0:Int)≤k:=by
     simp only[Bool.or_eq_true,decide_eq_true_eq] at hn
     lia
    have e2:k=((k.toNat:Nat):Int):=by lia
    rw[e2,← Int.natCast_mul]
    exact_mod_cast hz
   have hz2:((List.replicate k.toNat its).flatten).length≤sizeLine:=by rw[b1d,Nat.mul_comm,← hlen];exact hz
   refine call_meets F.slot_tuple_mul ⟨_,ho,rfl⟩ F.entry_tuple_mul (F.args_tuple_mul_2 _ _) (b0B a its.toArray n k t dd sl h1 h2 hc hn ?_ ?_ ?_) ⟨ho,?_⟩
   ·have:(sizeLine:Int)≤(2 ^ 63 - 1) / 8:=by decide
    lia
   ·unfold Builtin.Tuple.tupleTooMany
    simp only[decide_eq_true_eq]
    lia
   ·rw[a7P]
    show (List.replicate k.toNat its).flatten.toArray.size≤sizeLine
    rw[List.size_toArray]
    exact hz2
   ·rw[a7P]
    refine⟨.ref s.heap.objs.size,_,I.laid (t':=s.toks) (o:=.tup (List.replicate k.toNat xs).flatten) (fun b ob q=>Heap.get?_push_of_some _ q) (Nat.le_refl _) ?_,rfl,q _ _ (SqT.of a0B) (.inr ⟨I.hok.fresh (Nat.le_refl _),rfl⟩)⟩
    exact⟨by rw[b1d,Nat.mul_comm];exact hz,_,r.rep k.toNat,a2R.new _ _⟩
end
theorem Reps.atI {K:PySem.W.Frag} {H:Hp} {vs:List V} {ts:List T} {i:Int} {t:T} (h:Reps K H vs ts) (e:atI ts i=some t):∃ v,L2.atI vs i=some v∧Rep K H v t:=by
 unfold L2.atI at e⊢
 rw[h.length]
 cases q:ixN ts.length i with
 | none=>rw[q] at e;cases e
 | some j=>rw[q] at e;exact h.get e
section
variable {X:Cx} {a b c e:Expr} {es:List Expr} {ta tb tc te:TE3} {pos:Pos}
noncomputable def rIx3:R3:=fun x y M Q=>match x,y with
 | .tup ts,.int i=>(match atI ts i with | some t=>Q t M | none=>False)
 | .rd ts,.int i=>(match atI ts i with | some t=>Q t M | none=>False)
 | .adr p,.int i=>(match M p with | some (.lst ts)=>(match atI ts i with | some t=>Q t M | none=>False) | _=>False)
 | .str z,.int i=>z.length≤sizeLine∧(match atI z.cps.toList i with | some c=>Q (.str ⟨#[c]⟩) M | none=>False)
 | _,_=>False
theorem a7M {K:PySem.W.Frag} {H:Hp} {v:V} {ts:List T} (r:Rep K H v (.rd ts)):∃ a xs,v=.ref a∧FzL K H a xs∧Reps K H xs ts:=by unfold Rep at r;exact r
theorem ix3:IxR3 X rIx3:=by
 intro value slice pins s σ H x y v u Q2 I rx ry q hs
 obtain⟨a,b,M,Q,r1,r2,hh,q,en⟩:=q
 unfold rIx3 at q
 split at q
 ·obtain rfl:=a0D r2
  obtain⟨p,xs,rfl,h1,h2⟩:=a1d r1
  split at q
  ·rename_i t e
   obtain⟨w,ew,rw'⟩:=h2.atI e
   exact c0P value slice pins s σ H _ _ v u Q2 I rx ry ⟨_,_,_,w,rfl,rfl,h1,ew,en _ _ M H Kp.refl hh rw' q⟩ hs
  ·exact q.elim
 ·obtain rfl:=a0D r2
  obtain⟨p,xs,rfl,h1,h2⟩:=a7M r1
  split at q
  ·rename_i t e
   obtain⟨w,ew,rw'⟩:=h2.atI e
   exact b4I value slice pins s σ H _ _ v u Q2 I rx ry ⟨_,_,_,w,rfl,rfl,h1.sq,ew,en _ _ M H Kp.refl hh rw' q⟩ hs
  ·exact q.elim
 ·obtain rfl:=a0D r2
  obtain rfl:=a0F r1
  split at q
  ·rename_i ts e0
   obtain⟨xs,h1,h2⟩:=hh _ _ e0
   split at q
   ·rename_i t e
    obtain⟨w,ew,rw'⟩:=h2.atI e
    exact b4I value slice pins s σ H _ _ v u Q2 I rx ry ⟨_,_,_,w,rfl,rfl,SqL.of h1,ew,en _ _ M H Kp.refl hh rw' q⟩ hs
   ·exact q.elim
  ·exact q.elim
 ·obtain rfl:=a0D r2
  obtain rfl:=a2k r1
  obtain⟨hz,q⟩:=q
  split at q
  ·rename_i c e
   exact c0Q value slice pins s σ H _ _ v u Q2 I rx ry ⟨_,_,c,rfl,rfl,hz,e,en _ _ M H Kp.refl hh a8l q⟩ hs
  ·exact q.elim
 ·exact q.elim
theorem h_ix (ha:HE X a ta) (hb:HE X b tb) (hs:b5x b:=by intro _ _;rfl):HE X (.Subscript a b pos) (tOp3 rIx3 ta tb):=fun ρ M Q h =>
 (c1U ix3 (ha.d (ρ:=ρ)) (hb.d (ρ:=ρ)) hs).imp fun σ H Q2 b=>dOp h b
noncomputable def b7S:R3:=fun x y M Q=>match x,y with
 | .int i,.int j=>CMul i j∧Q (.int (i*j)) M
 | .adr p,.int k=>(match M p with
   | some (.lst ts)=>-(2 ^ 63)≤k∧k < 2 ^ 63∧ts.length*k.toNat≤sizeLine∧∀ r,M r=none→Q (.adr r) (updM M r (.lst (List.replicate k.toNat ts).flatten))
   | _=>False)
 | .tup ts,.int k=>-(2 ^ 63)≤k∧k < 2 ^ 63∧ts.length*k.toNat≤sizeLine∧Q (.tup (List.replicate k.toNat ts).flatten) M
 | _,_=>False
theorem Reps.rep {K:PySem.W.Frag} {H:Hp} {vs:List V} {ts:List T} (h:Reps K H vs ts):∀ k:Nat,Reps K H (List.replicate k vs).flatten (List.replicate k ts).flatten
 | 0=>.nil
 | k+1=>by
   rw[List.replicate_succ,List.replicate_succ,List.flatten_cons,List.flatten_cons]
   exact Reps.append h (Reps.rep h k)
theorem a0Q:OpR3 X (binaryOp .Mult) b7S:=by
 intro pins s σ H x y v u Q2 I rx ry q
 obtain⟨a,b,M,Q,r1,r2,hh,q,en⟩:=q
 unfold b7S at q
 split at q
 ·obtain rfl:=a0D r1
  obtain rfl:=a0D r2
  exact c0v pins s σ H _ _ v u Q2 I rx ry ⟨_,_,rfl,rfl,q.1,en _ _ M H Kp.refl hh a0K q.2⟩
 ·obtain rfl:=a0F r1
  obtain rfl:=a0D r2
  split at q
  ·rename_i ts e0
   obtain⟨xs,h1,h2⟩:=hh _ _ e0
   obtain⟨q1,q2,q3,q4⟩:=q
   refine c0t pins s σ H _ _ v u Q2 I rx ry ⟨_,_,xs,rfl,rfl,h1,q1,q2,by rw[h2.length];exact q3,fun r hr=>?_⟩
   exact en _ _ _ _ (Kp.new hr) (hh.newL hr (h2.rep _)) a1R (q4 r (hh.free hr))
  ·exact q.elim
 ·obtain⟨l,xs,rfl,g1,g2⟩:=a1d r1
  obtain rfl:=a0D r2
  obtain⟨q1,q2,q3,q4⟩:=q
  refine b8t pins s σ H _ _ v u Q2 I rx ry ⟨_,_,xs,rfl,rfl,g1,q1,q2,by rw[g2.length];exact q3,fun r H' h' c=>?_⟩
  rcases c with rfl | ⟨c1,rfl⟩
  ·exact en _ _ _ _ Kp.refl hh (a1v h' (g2.rep _)) q4
  ·exact en _ _ _ _ (Kp.new c1) (hh.keep c1) (a1v h' (Reps.kp (Kp.new c1) _ _ (g2.rep _))) q4
 ·exact q.elim
noncomputable def b0Q (g:Int→Int→Bool):R3:=fun x y M Q=>match x,y with
 | .int i,.int j=>Q (.bl (g i j)) M
 | _,_=>False
theorem a8t {f:Value→Value→Sem Value} {g:Int→Int→Bool} (h:OpR X f (rI0 fun i j=>.bl (g i j))):OpR3 X f (b0Q g):=by
 intro pins s σ H x y v u Q2 I rx ry q
 obtain⟨a,b,M,Q,r1,r2,hh,q,en⟩:=q
 unfold b0Q at q
 split at q
 ·obtain rfl:=a0D r1
  obtain rfl:=a0D r2
  exact h pins s σ H _ _ v u Q2 I rx ry ⟨_,_,rfl,rfl,en _ _ M H Kp.refl hh a1W q⟩
 ·exact q.elim
noncomputable def rLt3:R3:=b0Q fun i j=>decide (i < j)
noncomputable def rLe3:R3:=b0Q fun i j=>decide (i≤j)
noncomputable def rGt3:R3:=b0Q fun i j=>decide (j < i)
noncomputable def rGe3:R3:=b0Q fun i j=>decide (j≤i)
theorem a3l:OpR3 X (compareOp .Lt) rLt3:=a8t c1X
theorem a4S:OpR3 X (compareOp .LtE) rLe3:=a8t c1Y
theorem a3w:OpR3 X (compareOp .Gt) rGt3:=a8t c1Z
theorem b7c:OpR3 X (compareOp .GtE) rGe3:=a8t c2a
noncomputable def rEqv (g:Bool→Bool):R3:=fun x y M Q=>match x,y with
 | .adr p,.adr q=>(match M p,M q with
   | some (.lst a),some (.lst b)=>a1o a=true∧a1o b=true∧a4g a≤30∧Q (.bl (g (eqTs a b))) M
   | _,_=>False)
 | x,y=>a0E x=true∧a0E y=true∧depT x≤30∧Q (.bl (g (eqT x y))) M
noncomputable def rEq3:R3:=rEqv id
noncomputable def rNe3:R3:=rEqv not
theorem a9J {pins:List (Addr × Obj)} {σ:St} {H:Hp} {s:Shared} (I:Inv X pins σ H s) (hu:X.A.units+64 < cLine) {p p':Addr} {xs ys:List V} {ts us:List T} (h1:H p=some (.lst xs)) (h2:Reps X.K H xs ts) (g1:H p'=some (.lst ys)) (g2:Reps X.K H ys us)
  (px:a1o ts=true) (py:a1o us=true) (hd:a4g ts≤30) :
  SeqAt.RcAt X.A s (.ref p) (.ref p') (eqTs ts us)∧SeqAt.RcNeAt X.A s (.ref p) (.ref p') (!(eqTs ts us)):=by
 obtain⟨its,r1,pl,_⟩:=I.list (SqL.of h1)
 obtain⟨its2,r2,pl2,_⟩:=I.list (SqL.of g1)
 have l1:=h2.length
 have l2:=g2.length
 have m1:=r1.length
 have m2:=r2.length
 have hu':X.A.units < cLine:=by lia
 by_cases hl:its.length=its2.length
 ·have he:=b1Z (X:=X) (A:=X.A.in1) (s:=s) (n:=30) px py hd h2 g2 r1 r2 fun x y v u a b hx px py rx ry ra rb=>(b4Y I 30 X.A.in1 x y v u a b hx (by show X.A.units+1+30+1 < cLine;lia) px py rx ry ra rb).1
  have hsz:its.toArray.size=its2.toArray.size:=by simpa using hl
  have rc:=SeqAt.RcAt.lists (A:=X.A) pl.isList pl2.isList hsz hu' he
  have rn:=SeqAt.RcNeAt.lists (A:=X.A) pl.isList pl2.isList hsz hu' he
  have ee:(List.range its.toArray.size).all (eqJ ts us)=eqTs ts us:=by
   rw[← a4H,List.size_toArray,← l1,← l2,m1,m2,← hl]
   simp
  rw[ee] at rc rn
  exact⟨rc,rn⟩
 ·have hne:eqTs ts us=false:=by
   cases q:eqTs ts us with
   | false=>rfl
   | true=>have:=b2c q;lia
  have hsz:(its.toArray.size != its2.toArray.size)=true:=by simpa using hl
  rw[hne]
  exact⟨SeqAt.RcAt.lists_lengths pl.isList pl2.isList hsz hu',SeqAt.RcNeAt.lists_lengths pl.isList pl2.isList hsz hu'⟩
theorem a0y (hu:X.A.units+64 < cLine):OpR3 X (compareOp .Eq) rEq3:=by
 intro pins s σ H x y v u Q2 I rx ry q
 obtain⟨a,b,M,Q,r1,r2,hh,q,en⟩:=q
 unfold rEq3 rEqv at q
 split at q
 ·rename_i p p'
  split at q
  ·rename_i ts us e1 e2
   obtain⟨xs,h1,h2⟩:=hh _ _ e1
   obtain⟨ys,g1,g2⟩:=hh _ _ e2
   obtain rfl:=a0F r1
   obtain rfl:=a0F r2
   cases rx
   cases ry
   exact (a9J I hu h1 h2 g1 g2 q.1 q.2.1 q.2.2.1).1 _ _ _ _ ⟨.bl _,H,I,rfl,en _ _ M H Kp.refl hh a1W q.2.2.2⟩
  ·exact q.elim
 ·obtain⟨q1,q2,q3,q⟩:=q
  exact (b4Y I 30 X.A a b x y v u q3 (by lia) q1 q2 r1 r2 rx ry).2.1 _ _ _ _ ⟨.bl _,H,I,rfl,en _ _ M H Kp.refl hh a1W q⟩
theorem a4m (hu:X.A.units+64 < cLine):OpR3 X (compareOp .NotEq) rNe3:=by
 intro pins s σ H x y v u Q2 I rx ry q
 obtain⟨a,b,M,Q,r1,r2,hh,q,en⟩:=q
 unfold rNe3 rEqv at q
 split at q
 ·rename_i p p'
  split at q
  ·rename_i ts us e1 e2
   obtain⟨xs,h1,h2⟩:=hh _ _ e1
   obtain⟨ys,g1,g2⟩:=hh _ _ e2
   obtain rfl:=a0F r1
   obtain rfl:=a0F r2
   cases rx
   cases ry
   exact (a9J I hu h1 h2 g1 g2 q.1 q.2.1 q.2.2.1).2 _ _ _ _ ⟨.bl _,H,I,rfl,en _ _ M H Kp.refl hh a1W q.2.2.2⟩
  ·exact q.elim
 ·obtain⟨q1,q2,q3,q⟩:=q
  exact (b4Y I 30 X.A a b x y v u q3 (by lia) q1 q2 r1 r2 rx ry).2.2 _ _ _ _ ⟨.bl _,H,I,rfl,en _ _ M H Kp.refl hh a1W q⟩
theorem a4N {op:CmpOp} {r:R3} (ho:OpR3 X (compareOp op) r) (ha:HE X a ta) (hb:HE X b tb) (hm:behindInMarks op b=false):HE X (.Compare a [op] [b] pos) (tOp3 r ta tb):=fun ρ M Q h =>
 (b8p ho (ha.d (ρ:=ρ)) (hb.d (ρ:=ρ)) hm).imp fun σ H Q2 b=>dOp h b
noncomputable def b3B (t:TE3):TT3:=fun ρ M Q=>t ρ M fun x M1=>match x with
 | .bl k=>Q k M1
 | _=>False
theorem b2d {K:PySem.W.Frag} {H:Hp} {Q:Bool→MH→Prop} {Q2:Bool→Hp→Prop} (en:EndT K H Q Q2):EndE K H (fun x M1=>match x with | .bl k=>Q k M1 | _=>False) (fun x H'=>∃ k,x=.bl k∧Q2 k H'):=by
 intro t v M' H' k h r q
 split at q
 ·obtain rfl:=a3m r
  exact⟨_,rfl,en _ M' H' k h q⟩
 ·exact q.elim
theorem a0n {op:CmpOp} {r:R3} (ho:OpR3 X (compareOp op) r) (ha:HE X a ta) (hb:HE X b tb) (hm:behindInMarks op b=false):HT X (.Compare a [op] [b] pos) (b3B (tOp3 r ta tb)):=fun ρ M Q h =>
 (b8e ho (ha.d (ρ:=ρ)) (hb.d (ρ:=ρ)) hm).imp fun σ H Q2 ⟨hr,hh,en⟩=>dOp (ta:=ta) (tb:=tb) (r:=r) h ⟨hr,hh,b2d en⟩
noncomputable def a8a (r r':R3) (ta tb tc:TE3):TE3:=fun ρ M Q=>ta ρ M fun x M1=>tb ρ M1 fun y M2=>r x y M2 fun z M3=>match z with
 | .bl k=>(if k=true then tc ρ M3 fun w M4=>r' y w M4 Q else Q (.bl false) M3)
 | _=>False
theorem b7p {ρ:En} {M:MH} {Q:VK3} {r r':R3} (h:a8a r r' ta tb tc ρ M Q) {σ:St} {H:Hp} {Q2:VK} (b:bE X.K ρ M Q σ H Q2):b3D (dR X.K r) (dR X.K r') (dE X.K ρ ta) (dE X.K ρ tb) (dE X.K ρ tc) σ H Q2:=by
 obtain⟨hr,hh,en⟩:=b
 refine⟨M,_,h,hr,hh,fun t v M1 H1 k1 h1 r1 q1=>⟨M1,_,q1,hr.kp k1,h1,fun t2 v2 M2 H2 k2 h2 r2 q2=>⟨t,t2,M2,_,Rep.kp k2 _ _ r1,r2,h2,q2,fun z v3 M3 H3 k3 h3 r3 q3=>?_⟩⟩⟩
 split at q3
 ·rename_i k
  obtain rfl:=a3m r3
  refine⟨k,rfl,?_⟩
  have kk:=k1.trans (k2.trans k3)
  split
  ·rename_i hk
   rw[if_pos hk] at q3
   exact⟨M3,_,q3,hr.kp kk,h3,fun t4 v4 M4 H4 k4 h4 r4 q4=>⟨t2,t4,M4,Q,Rep.kp (k3.trans k4) _ _ r2,r4,h4,q4,en.kp (kk.trans k4)⟩⟩
  ·rename_i hk
   rw[if_neg hk] at q3
   exact en _ _ M3 H3 kk h3 a1W q3
 ·exact q3.elim
theorem b8P {op op':CmpOp} {r r':R3} (ho:OpR3 X (compareOp op) r) (ho':OpR3 X (compareOp op') r') (ha:HE X a ta) (hb:HE X b tb) (hc:HE X c tc)
  (hm:lastMarks [op,op'] [b,c]=false:=by with_unfolding_all rfl):HE X (.Compare a [op,op'] [b,c] pos) (a8a r r' ta tb tc):=fun ρ M Q h =>
 (b6b ho ho' (ha.d (ρ:=ρ)) (hb.d (ρ:=ρ)) (hc.d (ρ:=ρ)) hm).imp fun σ H Q2 b=>b7p h b
theorem a5L {op op':CmpOp} {r r':R3} (ho:OpR3 X (compareOp op) r) (ho':OpR3 X (compareOp op') r') (ha:HE X a ta) (hb:HE X b tb) (hc:HE X c tc)
  (hm:lastMarks [op,op'] [b,c]=false:=by with_unfolding_all rfl):HT X (.Compare a [op,op'] [b,c] pos) (b3B (a8a r r' ta tb tc)):=fun ρ M Q h =>
 (b5T ho ho' (ha.d (ρ:=ρ)) (hb.d (ρ:=ρ)) (hc.d (ρ:=ρ)) hm).imp fun σ H Q2 ⟨hr,hh,en⟩=>b7p (ta:=ta) (tb:=tb) (tc:=tc) (r:=r) (r':=r') h ⟨hr,hh,b2d en⟩
noncomputable def truT (M:MH):T→Option Bool
 | .non=>some false
 | .bl b=>some b
 | .int i=>some (i != 0)
 | .str y=>if y.length≤sizeLine then some (decide (y.length≠0)) else none
 | .tup ts=>some (!ts.isEmpty)
 | .rd ts=>some (!ts.isEmpty)
 | .dic _ _=>none
 | .adr p=>match M p with
   | some (.lst ts)=>some (!ts.isEmpty)
   | _=>none
noncomputable def b9v (te:TE3):TT3:=fun ρ M Q=>te ρ M fun x M1=>match truT M1 x with
 | some k=>Q k M1
 | none=>False
theorem a8O {K:PySem.W.Frag} {H:Hp} {xs:List V} {ts:List T} (h:Reps K H xs ts):(!xs.isEmpty)=!ts.isEmpty:=by
 have:=h.length
 cases xs<;>cases ts<;>first | rfl | (simp at this)
theorem a4p (ha:HE X a ta) (he:∀ whole,isTrue a X.env whole=(do let v ← whole;standAt a.pos;holding [v] (truthy v)):=by intro _;rfl):HT X a (b9v ta):=fun ρ M Q h =>
 (b5S (ha.d (ρ:=ρ)) he).imp fun σ H Q2 ⟨hr,hh,en⟩=>⟨M,_,h,hr,hh,fun t v M1 H1 k1 h1 r1 q1=>by
  have fin:∀ k,truT M1 t=some k→Q2 k H1:=fun k e=>by
   have q:(match truT M1 t with | some k=>Q k M1 | none=>False):=q1
   rw[e] at q
   exact en k M1 H1 k1 h1 q
  cases t with
  | non=>obtain rfl:=a6U r1;exact⟨false,rfl,fin _ rfl⟩
  | bl b=>obtain rfl:=a3m r1;exact⟨b,rfl,fin _ rfl⟩
  | int i=>obtain rfl:=a0D r1;exact⟨_,rfl,fin _ rfl⟩
  | str y =>
    obtain rfl:=a2k r1
    by_cases hy:y.length≤sizeLine
    ·refine⟨_,⟨hy,rfl⟩,fin _ ?_⟩
     show (if y.length≤sizeLine then some (decide (y.length≠0)) else none)=_
     rw[if_pos hy]
     congr 1
     by_cases h0:y.length=0
     ·rw[h0];rfl
     ·have:((y.length:Int) != 0)=true:=by simpa using h0
      rw[this];simpa using h0
    ·have q:(match truT M1 (.str y) with | some k=>Q k M1 | none=>False):=q1
     have e:truT M1 (.str y)=none:=if_neg hy
     rw[e] at q
     exact q.elim
  | tup ts =>
    obtain⟨p,xs,rfl,g1,g2⟩:=a1d r1
    exact⟨!xs.isEmpty,.inr (.inl ⟨xs,g1,rfl⟩),fin _ (by rw[a8O g2];rfl)⟩
  | rd ts =>
    obtain⟨p,xs,rfl,g1,g2⟩:=a7M r1
    exact⟨!xs.isEmpty,.inl ⟨xs,g1.sq,rfl⟩,fin _ (by rw[a8O g2];rfl)⟩
  | dic ks ts =>
    have q:(match truT M1 (.dic ks ts) with | some k=>Q k M1 | none=>False):=q1
    exact q.elim
  | adr p =>
    obtain rfl:=a0F r1
    cases e0:M1 p with
    | none =>
      have q:(match truT M1 (.adr p) with | some k=>Q k M1 | none=>False):=q1
      have e:truT M1 (.adr p)=none:=by show (match M1 p with | some (.lst ts)=>some (!ts.isEmpty) | _=>none)=none;rw[e0]
      rw[e] at q
      exact q.elim
    | some o =>
      cases o with
      | lst ts =>
        obtain⟨xs,g1,g2⟩:=h1 _ _ e0
        exact⟨!xs.isEmpty,.inl ⟨xs,SqL.of g1,rfl⟩,fin _ (by show (match M1 p with | some (.lst ts)=>some (!ts.isEmpty) | _=>none)=_;rw[e0,a8O g2])⟩
      | dk kvs =>
        have q:(match truT M1 (.adr p) with | some k=>Q k M1 | none=>False):=q1
        have e:truT M1 (.adr p)=none:=by show (match M1 p with | some (.lst ts)=>some (!ts.isEmpty) | _=>none)=none;rw[e0]
        rw[e] at q
        exact q.elim
      | dt kvs =>
        have q:(match truT M1 (.adr p) with | some k=>Q k M1 | none=>False):=q1
        have e:truT M1 (.adr p)=none:=by show (match M1 p with | some (.lst ts)=>some (!ts.isEmpty) | _=>none)=none;rw[e0]
        rw[e] at q
        exact q.elim
      | fz kvs =>
        have q:(match truT M1 (.adr p) with | some k=>Q k M1 | none=>False):=q1
        have e:truT M1 (.adr p)=none:=by show (match M1 p with | some (.lst ts)=>some (!ts.isEmpty) | _=>none)=none;rw[e0]
        rw[e] at q
        exact q.elim
      | fk kvs =>
        have q:(match truT M1 (.adr p) with | some k=>Q k M1 | none=>False):=q1
        have e:truT M1 (.adr p)=none:=by show (match M1 p with | some (.lst ts)=>some (!ts.isEmpty) | _=>none)=none;rw[e0]
        rw[e] at q
        exact q.elim
      | ob C fs =>
        have q:(match truT M1 (.adr p) with | some k=>Q k M1 | none=>False):=q1
        have e:truT M1 (.adr p)=none:=by show (match M1 p with | some (.lst ts)=>some (!ts.isEmpty) | _=>none)=none;rw[e0]
        rw[e] at q
        exact q.elim⟩
end
section
variable {X:Cx} {a b c e:Expr} {es rest:List Expr} {ta tb tc te:TE3} {tA tB:TT3} {t:TA3} {pos:Pos}
noncomputable def HW (X:Cx) (e:Expr) (t:TT3):Prop:=∀ ρ M Q,t ρ M Q→PW X e (bT X.K ρ M Q)
theorem HW.d {t:TT3} {ρ:En} (h:HW X e t):PW X e (dT X.K ρ t):=fun wh pins s σ H Q I ⟨M,Q3,q,b⟩=>h ρ M Q3 q wh pins s σ H Q I b
theorem PW.imp {t t':TT} (h:PW X e t) (f:∀ σ H Q,t' σ H Q→t σ H Q):PW X e t':=fun wh pins s σ H Q I q=>h wh pins s σ H Q I (f σ H Q q)
theorem HW.ht {t:TT3} (h:HW X e t):HT X e t:=fun ρ M Q q=>(h ρ M Q q).pt
noncomputable def b9J (t u:TT3):TT3:=fun ρ M Q=>t ρ M fun c M1=>if c=true then u ρ M1 Q else Q false M1
noncomputable def tOr3 (t u:TT3):TT3:=fun ρ M Q=>t ρ M fun c M1=>if c=true then Q true M1 else u ρ M1 Q
noncomputable def b9z (t:TT3):TT3:=fun ρ M Q=>t ρ M fun c M1=>Q (!c) M1
theorem a6X (ha:HT X a tA):HT X (.UnaryOp .Not a pos) (b9z tA):=fun ρ M Q h =>
 (c0c (ha.d (ρ:=ρ))).imp fun σ H Q2 ⟨hr,hh,en⟩=>⟨M,_,h,hr,hh,fun b M1 H1 k1 h1 q1=>en _ M1 H1 k1 h1 q1⟩
theorem a6d (ha:HT X a tA):HW X (.BoolOp .And [a] pos) tA:=fun ρ M Q h=>(b8b (ha.d (ρ:=ρ))).imp fun σ H Q2 b=>⟨M,Q,h,b⟩
theorem a6y (ha:HT X a tA):HW X (.BoolOp .Or [a] pos) tA:=fun ρ M Q h=>(c0a (ha.d (ρ:=ρ))).imp fun σ H Q2 b=>⟨M,Q,h,b⟩
theorem a7U (ha:HT X a tA) (hb:HW X (.BoolOp .And (b :: rest) pos) tB):HW X (.BoolOp .And (a :: b :: rest) pos) (b9J tA tB):=fun ρ M Q h =>
 (c0b (ha.d (ρ:=ρ)) (hb.d (ρ:=ρ))).imp fun σ H Q2 ⟨hr,hh,en⟩=>⟨M,_,h,hr,hh,fun b M1 H1 k1 h1 q1=>by
  dsimp only at q1⊢
  split
  ·rename_i hb;rw[if_pos hb] at q1
   exact⟨M1,Q,q1,hr.kp k1,h1,fun b' M2 H2 k2=>en b' M2 H2 (k1.trans k2)⟩
  ·rename_i hb;rw[if_neg hb] at q1
   exact en _ M1 H1 k1 h1 q1⟩
theorem w_or (ha:HT X a tA) (hb:HW X (.BoolOp .Or (b :: rest) pos) tB):HW X (.BoolOp .Or (a :: b :: rest) pos) (tOr3 tA tB):=fun ρ M Q h =>
 (c1P (ha.d (ρ:=ρ)) (hb.d (ρ:=ρ))).imp fun σ H Q2 ⟨hr,hh,en⟩=>⟨M,_,h,hr,hh,fun b M1 H1 k1 h1 q1=>by
  dsimp only at q1⊢
  split
  ·rename_i hb;rw[if_pos hb] at q1
   exact en _ M1 H1 k1 h1 q1
  ·rename_i hb;rw[if_neg hb] at q1
   exact⟨M1,Q,q1,hr.kp k1,h1,fun b' M2 H2 k2=>en b' M2 H2 (k1.trans k2)⟩⟩
noncomputable def b6T (ta tb:TE3):TE3:=fun ρ M Q=>ta ρ M fun x M1=>match x with
 | .bl c=>(if c=true then tb ρ M1 Q else Q (.bl false) M1)
 | _=>False
noncomputable def b9y (ta tb:TE3):TE3:=fun ρ M Q=>ta ρ M fun x M1=>match x with
 | .bl c=>(if c=true then Q (.bl true) M1 else tb ρ M1 Q)
 | _=>False
theorem b6w {op} (ha:HE X a ta):HE X (.BoolOp op [a] pos) ta:=fun ρ M Q h=>c0m (ha ρ M Q h)
theorem c0X (ha:HE X a ta) (hb:HE X (.BoolOp .And (b :: rest) pos) tb):HE X (.BoolOp .And (a :: b :: rest) pos) (b6T ta tb):=fun ρ M Q h =>
 (c0q (ha.d (ρ:=ρ)) (hb.d (ρ:=ρ))).imp fun σ H Q2 ⟨hr,hh,en⟩=>⟨M,_,h,hr,hh,fun x v M1 H1 k1 h1 r1 q1=>by
  dsimp only at q1⊢
  split at q1
  ·rename_i c
   obtain rfl:=a3m r1
   refine⟨c,rfl,?_⟩
   split
   ·rename_i hc;rw[if_pos hc] at q1
    exact⟨M1,Q,q1,hr.kp k1,h1,en.kp k1⟩
   ·rename_i hc;rw[if_neg hc] at q1
    exact en _ _ M1 H1 k1 h1 a1W q1
  ·exact q1.elim⟩
theorem h_or (ha:HE X a ta) (hb:HE X (.BoolOp .Or (b :: rest) pos) tb):HE X (.BoolOp .Or (a :: b :: rest) pos) (b9y ta tb):=fun ρ M Q h =>
 (c1S (ha.d (ρ:=ρ)) (hb.d (ρ:=ρ))).imp fun σ H Q2 ⟨hr,hh,en⟩=>⟨M,_,h,hr,hh,fun x v M1 H1 k1 h1 r1 q1=>by
  dsimp only at q1⊢
  split at q1
  ·rename_i c
   obtain rfl:=a3m r1
   refine⟨c,rfl,?_⟩
   split
   ·rename_i hc;rw[if_pos hc] at q1
    exact en _ _ M1 H1 k1 h1 a1W q1
   ·rename_i hc;rw[if_neg hc] at q1
    exact⟨M1,Q,q1,hr.kp k1,h1,en.kp k1⟩
  ·exact q1.elim⟩
noncomputable def tIf3 (t:TT3) (ta tb:TE3):TE3:=fun ρ M Q=>t ρ M fun c M1=>if c=true then ta ρ M1 Q else tb ρ M1 Q
theorem c2j (hc:HT X c tA) (ha:HE X a ta) (hb:HE X b tb):HE X (.IfExp c a b pos) (tIf3 tA ta tb):=fun ρ M Q h =>
 (b5Y (hc.d (ρ:=ρ)) (ha.d (ρ:=ρ)) (hb.d (ρ:=ρ))).imp fun σ H Q2 ⟨hr,hh,en⟩=>⟨M,_,h,hr,hh,fun b M1 H1 k1 h1 q1=>by
  dsimp only at q1⊢
  split
  ·rename_i hb;rw[if_pos hb] at q1
   exact⟨M1,Q,q1,hr.kp k1,h1,en.kp k1⟩
  ·rename_i hb;rw[if_neg hb] at q1
   exact⟨M1,Q,q1,hr.kp k1,h1,en.kp k1⟩⟩
noncomputable def b9A:TA3:=fun _ M Q=>Q [] M
noncomputable def b3C (ta:TE3) (tr:TA3):TA3:=fun ρ M Q=>ta ρ M fun x M1=>tr ρ M1 fun xs M2=>Q (x :: xs) M2
theorem a0e:HA X [] b9A:=fun ρ M Q h=>b6Z.imp fun σ H Q2 ⟨hr,hh,en⟩=>en [] [] M H Kp.refl hh .nil h
theorem a0a (ha:HE X a ta) (hr:HA X es t) (hs:starEach (a :: es) X.env=(false,eval a X.env) :: starEach es X.env:=by rfl):HA X (a :: es) (b3C ta t):=fun ρ M Q h =>
 (b4l (ha.d (ρ:=ρ)) (hr.d (ρ:=ρ)) hs).imp fun σ H Q2 ⟨hr,hh,en⟩=>⟨M,_,h,hr,hh,fun x v M1 H1 k1 h1 r1 q1=>⟨M1,_,q1,hr.kp k1,h1,fun ts vs M2 H2 k2 h2 r2 q2 =>
  en _ _ M2 H2 (k1.trans k2) h2 (.cons (Rep.kp k2 _ _ r1) r2) q2⟩⟩
noncomputable def b9u (t:TA3):TE3:=fun ρ M Q=>t ρ M fun xs M1=>xs.length≤sizeLine∧Q (.tup xs) M1
noncomputable def b9B (t:TA3):TE3:=fun ρ M Q=>t ρ M fun xs M1=>xs.length≤sizeLine∧∀ p,M1 p=none→Q (.adr p) (updM M1 p (.lst xs))
theorem a0R {x1} (h:HA X es t):HE X (.Tuple es x1 pos) (b9u t):=fun ρ M Q q =>
 (c0k (h.d (ρ:=ρ))).imp fun σ H Q2 ⟨hr,hh,en⟩=>⟨M,_,q,hr,hh,fun ts vs M1 H1 k1 h1 r1 q1 =>
  ⟨by rw[r1.length];exact q1.1,fun p hp=>en _ _ M1 _ (k1.trans (Kp.new hp)) (h1.keep hp) (a1v (SqT.of a0B) (Reps.kp (Kp.new hp) _ _ r1)) q1.2⟩⟩
theorem a3q (h:HA X es t):HE X (.List es pos) (b9B t):=fun ρ M Q q =>
 (c0o (h.d (ρ:=ρ))).imp fun σ H Q2 ⟨hr,hh,en⟩=>⟨M,_,q,hr,hh,fun ts vs M1 H1 k1 h1 r1 q1 =>
  ⟨by rw[r1.length];exact q1.1,fun p hp=>en _ _ _ _ (k1.trans (Kp.new hp)) (h1.newL hp r1) a1R (q1.2 p (h1.free hp))⟩⟩
noncomputable abbrev Sp3:=List T→MH→VK3→Prop
noncomputable def dSp (K:PySem.W.Frag) (sp:Sp3):Sp:=fun vs H Q2 _=>∃ ts M Q,Reps K H vs ts∧HR K H M∧sp ts M Q∧EndE K H Q Q2
structure Df (P:Program) (w:World) (K:PySem.W.Frag) (mg:Str→Option Value) (base:Heap) (n:Nat) (x:Str) (ps:List Str) (sp:Sp3):Prop where
 out:∃ f fd,FnOk P w K mg base CX0 n f fd ps (dSp K sp)∧mg x=some (.ref f)∧PySem.W.keepIn K (.ref f)=true∧a0G K fd ps []
theorem Df.mono {P:Program} {w:World} {K:PySem.W.Frag} {mg:Str→Option Value} {base:Heap} {n m:Nat} {x:Str} {ps:List Str} {sp:Sp3} (D:Df P w K mg base n x ps sp) (h:n≤m):Df P w K mg base m x ps sp:=by
 obtain⟨f,fd,F,a,b,c⟩:=D.out
 exact⟨f,fd,F.mono h,a,b,c⟩
noncomputable def b6S (sp:Sp3) (t:TA3):TE3:=fun ρ M Q=>t ρ M fun ts M1=>sp ts M1 Q
theorem a0j {n:Nat} {x:Str} {ps:List Str} {sp:Sp3} {p:Pos} (D:Df X.prog X.w X.K X.mg X.base n x ps sp) (hr:Room n X.A) (ha:HA X (e :: es) t) (hg:Gl X x:=by rfl) (hdb:(x == ("__debug__":Str))=false:=by decide)
  (he:starEach (e :: es) X.env=(false,eval e X.env) :: starEach es X.env:=by rfl) (hpl:(backTo pos (starEach es X.env)).any (·.1)=false:=by rfl) :
  HE X (.Call (.Name x p) (e :: es) [] pos) (b6S sp t):=fun ρ M Q h=>by
 obtain⟨f,fd,F,hm,hk,hb⟩:=D.out
 exact (b8q F hr hg hm hk hb .nil c0r (ha.d (ρ:=ρ)) hdb he hpl).imp fun σ H Q2 ⟨hr,hh,en⟩=>⟨M,_,h,hr,hh,fun ts vs M1 H1 k1 h1 r1 q1 =>
  ⟨ts,M1,Q,by rw[List.append_nil];exact r1,h1,q1,en.kp k1⟩⟩
noncomputable def tCB3 (r:List T→MH→VK3→Prop) (t:TA3):TE3:=fun ρ M Q=>t ρ M fun ts M1=>r ts M1 Q
theorem a0l {x:Str} {id:String} {r:List T→MH→VK3→Prop} {p:Pos} (hc:a4f X (.builtin id) r) (hm:X.mg x=none) (hv:bootBuiltins x=some (.builtin id)) (ha:HA X (e :: es) t) (hg:Gl X x:=by rfl) (hn:x≠"__name__":=by decide) (hdb:(x == ("__debug__":Str))=false:=by decide)
  (he:starEach (e :: es) X.env=(false,eval e X.env) :: starEach es X.env:=by rfl) (hpl:(backTo pos (starEach es X.env)).any (·.1)=false:=by rfl):HE X (.Call (.Name x p) (e :: es) [] pos) (tCB3 r t):=fun ρ M Q h =>
 (b6c hc hg hm hv (ha.d (ρ:=ρ)) hn hdb he hpl).imp fun σ H Q2 ⟨hr,hh,en⟩=>⟨M,_,h,hr,hh,fun ts vs M1 H1 k1 h1 r1 q1=>⟨ts,M1,Q,r1,h1,q1,en.kp k1⟩⟩
theorem a1F {x:Str} {ty:String} {r:List T→MH→VK3→Prop} {p:Pos} (hc:a4f X (.type ty) r) (hm:X.mg x=none) (hv:bootBuiltins x=some (.type ty)) (ha:HA X (e :: es) t) (hg:Gl X x:=by rfl) (hn:x≠"__name__":=by decide) (hdb:(x == ("__debug__":Str))=false:=by decide)
  (he:starEach (e :: es) X.env=(false,eval e X.env) :: starEach es X.env:=by rfl) (hpl:(backTo pos (starEach es X.env)).any (·.1)=false:=by rfl):HE X (.Call (.Name x p) (e :: es) [] pos) (tCB3 r t):=fun ρ M Q h =>
 (b4k hc hg hm hv (ha.d (ρ:=ρ)) hn hdb he hpl).imp fun σ H Q2 ⟨hr,hh,en⟩=>⟨M,_,h,hr,hh,fun ts vs M1 H1 k1 h1 r1 q1=>⟨ts,M1,Q,r1,h1,q1,en.kp k1⟩⟩
end
section
variable {X:Cx}
theorem a2j {K:PySem.W.Frag} {H:Hp} {vs:List V} {x:T} (r:Reps K H vs [x]):∃ v,vs=[v]∧Rep K H v x:=by
 unfold Reps at r
 obtain⟨v,w,rfl,h,r⟩:=r
 unfold Reps at r
 subst r
 exact⟨v,rfl,h⟩
theorem b7M {K:PySem.W.Frag} {H:Hp} {vs:List V} {x y:T} (r:Reps K H vs [x,y]):∃ v w,vs=[v,w]∧Rep K H v x∧Rep K H w y:=by
 unfold Reps at r
 obtain⟨v,r',rfl,h,r⟩:=r
 obtain⟨w,rfl,h'⟩:=a2j r
 exact⟨v,w,rfl,h,h'⟩
noncomputable def b7T:List T→MH→VK3→Prop:=fun xs M Q=>match xs with
 | [.tup ts]=>Q (.int ts.length) M
 | [.rd ts]=>Q (.int ts.length) M
 | [.adr p]=>(match M p with | some (.lst ts)=>Q (.int ts.length) M | _=>False)
 | [.str z]=>z.length≤sizeLine∧Q (.int z.length) M
 | _=>False
theorem a0p:a4f X (.builtin "len") b7T:=by
 intro pins s σ H vs us Q2 I r h
 obtain⟨xs,M,Q,rr,hh,q,en⟩:=h
 unfold b7T at q
 split at q
 ·obtain⟨v,rfl,r1⟩:=a2j rr
  obtain⟨p,ys,rfl,g1,g2⟩:=a1d r1
  exact a4t pins s σ H _ us Q2 I r ⟨p,ys,rfl,.inr g1,by rw[g2.length];exact en _ _ M H Kp.refl hh a0K q⟩
 ·obtain⟨v,rfl,r1⟩:=a2j rr
  obtain⟨p,ys,rfl,g1,g2⟩:=a7M r1
  exact a4t pins s σ H _ us Q2 I r ⟨p,ys,rfl,.inl g1.sq,by rw[g2.length];exact en _ _ M H Kp.refl hh a0K q⟩
 ·obtain⟨v,rfl,r1⟩:=a2j rr
  obtain rfl:=a0F r1
  split at q
  ·rename_i ts e0
   obtain⟨ys,g1,g2⟩:=hh _ _ e0
   exact a4t pins s σ H _ us Q2 I r ⟨_,ys,rfl,.inl (SqL.of g1),by rw[g2.length];exact en _ _ M H Kp.refl hh a0K q⟩
  ·exact q.elim
 ·obtain⟨v,rfl,r1⟩:=a2j rr
  obtain rfl:=a2k r1
  exact b0q pins s σ H _ us Q2 I r ⟨_,rfl,q.1,en _ _ M H Kp.refl hh a0K q.2⟩
 ·exact q.elim
noncomputable def b8a:List T→MH→VK3→Prop:=fun xs M Q=>match xs with
 | [.int i]=>Q (.int i.natAbs) M
 | _=>False
theorem a0t:a4f X (.builtin "abs") b8a:=by
 intro pins s σ H vs us Q2 I r h
 obtain⟨xs,M,Q,rr,hh,q,en⟩:=h
 unfold b8a at q
 split at q
 ·rename_i i
  obtain⟨v,rfl,r1⟩:=a2j rr
  obtain rfl:=a0D r1
  refine b6H pins s σ H _ us Q2 I r ⟨_,rfl,en _ _ M H Kp.refl hh ?_ q⟩
  have e:(if i < 0 then -i else i)=(i.natAbs:Int):=by split<;>lia
  rw[e];exact a0K
 ·exact q.elim
noncomputable def b0P:List T→MH→VK3→Prop:=fun xs M Q=>match xs with
 | [.tup ts]=>Q (.tup ts) M
 | [.rd ts]=>Q (.tup ts) M
 | [.adr p]=>(match M p with | some (.lst ts)=>Q (.tup ts) M | _=>False)
 | _=>False
theorem a1Z:a4f X (.type "tuple") b0P:=by
 intro pins s σ H vs us Q2 I r h
 obtain⟨xs,M,Q,rr,hh,q,en⟩:=h
 unfold b0P at q
 split at q
 ·obtain⟨v,rfl,r1⟩:=a2j rr
  obtain⟨p,ys,rfl,g1,g2⟩:=a1d r1
  exact a2D pins s σ H _ us Q2 I r ⟨p,ys,rfl,.inr ⟨g1,en _ _ M H Kp.refl hh r1 q⟩⟩
 ·obtain⟨v,rfl,r1⟩:=a2j rr
  obtain⟨p,ys,rfl,g1,g2⟩:=a7M r1
  exact a2D pins s σ H _ us Q2 I r ⟨p,ys,rfl,.inl ⟨g1.sq,fun l hl=>en _ _ M _ (Kp.new hl) (hh.keep hl) (a1v (SqT.of a0B) (Reps.kp (Kp.new hl) _ _ g2)) q⟩⟩
 ·obtain⟨v,rfl,r1⟩:=a2j rr
  obtain rfl:=a0F r1
  split at q
  ·rename_i ts e0
   obtain⟨ys,g1,g2⟩:=hh _ _ e0
   exact a2D pins s σ H _ us Q2 I r ⟨_,ys,rfl,.inl ⟨SqL.of g1,fun l hl=>en _ _ M _ (Kp.new hl) (hh.keep hl) (a1v (SqT.of a0B) (Reps.kp (Kp.new hl) _ _ g2)) q⟩⟩
  ·exact q.elim
 ·exact q.elim
noncomputable def b4c:List T→MH→VK3→Prop:=fun xs M Q=>match xs with
 | [.tup ts]=>∀ r,M r=none→Q (.adr r) (updM M r (.lst ts))
 | [.rd ts]=>∀ r,M r=none→Q (.adr r) (updM M r (.lst ts))
 | [.adr p]=>(match M p with | some (.lst ts)=>∀ r,M r=none→Q (.adr r) (updM M r (.lst ts)) | _=>False)
 | _=>False
theorem b3r:a4f X (.type "list") b4c:=by
 intro pins s σ H vs us Q2 I r h
 obtain⟨xs,M,Q,rr,hh,q,en⟩:=h
 unfold b4c at q
 split at q
 ·obtain⟨v,rfl,r1⟩:=a2j rr
  obtain⟨p,ys,rfl,g1,g2⟩:=a1d r1
  exact a4s pins s σ H _ us Q2 I r ⟨p,ys,rfl,.inr g1,fun l hl=>en _ _ _ _ (Kp.new hl) (hh.newL hl g2) a1R (q l (hh.free hl))⟩
 ·obtain⟨v,rfl,r1⟩:=a2j rr
  obtain⟨p,ys,rfl,g1,g2⟩:=a7M r1
  exact a4s pins s σ H _ us Q2 I r ⟨p,ys,rfl,.inl g1.sq,fun l hl=>en _ _ _ _ (Kp.new hl) (hh.newL hl g2) a1R (q l (hh.free hl))⟩
 ·obtain⟨v,rfl,r1⟩:=a2j rr
  obtain rfl:=a0F r1
  split at q
  ·rename_i ts e0
   obtain⟨ys,g1,g2⟩:=hh _ _ e0
   exact a4s pins s σ H _ us Q2 I r ⟨_,ys,rfl,.inl (SqL.of g1),fun l hl=>en _ _ _ _ (Kp.new hl) (hh.newL hl g2) a1R (q l (hh.free hl))⟩
  ·exact q.elim
 ·exact q.elim
noncomputable def b7U:List T→MH→VK3→Prop:=fun xs M Q=>match xs with
 | [.int i]=>Q (.int i) M
 | [.bl k]=>Q (.int (if k=true then 1 else 0)) M
 | [.str x]=>∃ n,PySem.intText? x=some n∧x.length≤640∧Q (.int n) M
 | _=>False
theorem a3A:a4f X (.type "int") b7U:=by
 intro pins s σ H vs us Q2 I r h
 obtain⟨xs,M,Q,rr,hh,q,en⟩:=h
 unfold b7U at q
 split at q
 ·obtain⟨v,rfl,r1⟩:=a2j rr
  obtain rfl:=a0D r1
  exact b0r pins s σ H _ us Q2 I r (.inl ⟨_,rfl,en _ _ M H Kp.refl hh a0K q⟩)
 ·obtain⟨v,rfl,r1⟩:=a2j rr
  obtain rfl:=a3m r1
  exact b0r pins s σ H _ us Q2 I r (.inr ⟨_,rfl,en _ _ M H Kp.refl hh a0K q⟩)
 ·obtain⟨n,hn,hl,q⟩:=q
  obtain⟨v,rfl,r1⟩:=a2j rr
  obtain rfl:=a2k r1
  obtain⟨u,rfl,ru⟩:=a5Q r
  obtain⟨t,rfl⟩:=ru
  exact PySem.W.KIN.call_text hn hl ⟨.int n,H,I.kept fun b o e=>e,⟨_,rfl⟩,en _ _ M H Kp.refl hh a0K q⟩
 ·exact q.elim
theorem a7x (hc:X.calm=true):a7k X (.builtin "all") (fun xs H Q=>∃ (p:Addr) (bs:List Bool),xs=[.ref p]∧SqL X.K H p (bs.map V.bl)∧Q (.bl (bs.all id)) H):=by
 intro pins s σ H xs us Q I r h
 obtain⟨p,bs,rfl,hq,q⟩:=h
 obtain⟨u,rfl,rx⟩:=a5Q r
 cases rx
 obtain⟨its,r',pl,hz⟩:=I.list hq
 have hlen:=r'.length
 refine call_all_walk (wpAny_pyIter_list pl.isList ?_)
 have hp:p < s.heap.objs.size:=by obtain⟨o,n,e,_⟩:=pl;exact Heap.lt_size e
 refine⟨s.heap.objs.size,_,_,_,_,_,fun i=>(bs[i]?).getD true,rfl,Walks.list (A:=X.A.in1) (I.ok.hd hc) s.heap.objs.size p (Nat.ne_of_lt hp) its.toArray,⟨⟨_,Heap.get?_push_size _ rfl,rfl,rfl⟩,pl.isList.push _⟩,?_,fun h' tk hk=>?_⟩
 ·intro i v s' Q' E' hP hQ
  have hP':its[i]?=some v:=by simpa using hP
  have hi:i < bs.length:=by
   have:=(List.getElem?_eq_some_iff.mp hP').1
   rw[List.length_map] at hlen;lia
  obtain⟨w,hw,rw'⟩:=r'.get (i:=i) (x:=.bl bs[i]) (by rw[List.getElem?_map,List.getElem?_eq_getElem hi]<;>rfl)
  rw[hP'] at hw;cases hw
  obtain rfl:v=Value.bool bs[i]:=rw'
  refine wpAny_truthy_bool ?_
  have e:(bs[i]?).getD true=bs[i]:=by rw[List.getElem?_eq_getElem hi]<;>rfl
  dsimp only at hQ;rw[e] at hQ;exact hQ
 ·have e:(List.range its.toArray.size).all (fun i=>(bs[i]?).getD true)=bs.all id:=by
   rw[List.length_map] at hlen
   rw[List.size_toArray,← hlen]
   rw[Bool.eq_iff_iff]
   simp only[List.all_eq_true,List.mem_range,id]
   constructor
   ·intro h b hb
    obtain⟨i,hi,rfl⟩:=List.getElem_of_mem hb
    have:=h i hi
    rw[List.getElem?_eq_getElem hi] at this;exact this
   ·intro h i hi
    rw[List.getElem?_eq_getElem hi];exact h _ (List.getElem_mem hi)
  rw[e]
  have I1:Inv X pins σ H { s with heap:=h',toks:=tk }:=I.kept fun b o eb=>hk b o (by
   intro hm
   have:b=s.heap.objs.size:=by simpa using hm
   rw[this] at eb
   exact absurd (Heap.lt_size eb) (Nat.lt_irrefl _)) (Heap.get?_push_of_some _ eb)
  exact⟨.bl _,H,I1,rfl,q⟩
noncomputable def a8U:List T→Option (List Bool)
 | []=>some []
 | .bl b :: ts=>(a8U ts).map (b :: ·)
 | _ :: _=>none
theorem a7S {K:PySem.W.Frag} {H:Hp}:∀ {vs:List V} {ts:List T} {bs:List Bool},Reps K H vs ts→a8U ts=some bs→vs=bs.map V.bl
 | vs,[],bs,h,e=>by unfold a8U at e;cases e;unfold Reps at h;exact h
 | vs, t :: ts,bs,h,e=>by
   unfold Reps at h
   obtain⟨v,r,rfl,h1,h2⟩:=h
   cases t with
   | bl b =>
     unfold a8U at e
     cases q:a8U ts with
     | none=>rw[q] at e;cases e
     | some cs =>
       rw[q] at e;cases e
       obtain rfl:=a3m h1
       rw[a7S h2 q];rfl
   | _=>unfold a8U at e;cases e
noncomputable def b7X:List T→MH→VK3→Prop:=fun xs M Q=>match xs with
 | [.adr p]=>(match M p with | some (.lst ts)=>(match a8U ts with | some bs=>Q (.bl (bs.all id)) M | none=>False) | _=>False)
 | _=>False
theorem b5q (hc:X.calm=true):a4f X (.builtin "all") b7X:=by
 intro pins s σ H vs us Q2 I r h
 obtain⟨xs,M,Q,rr,hh,q,en⟩:=h
 unfold b7X at q
 split at q
 ·obtain⟨v,rfl,r1⟩:=a2j rr
  obtain rfl:=a0F r1
  split at q
  ·rename_i ts e0
   obtain⟨ys,g1,g2⟩:=hh _ _ e0
   split at q
   ·rename_i bs eb
    obtain rfl:=a7S g2 eb
    exact a7x hc pins s σ H _ us Q2 I r ⟨_,bs,rfl,SqL.of g1,en _ _ M H Kp.refl hh a1W q⟩
   ·exact q.elim
  ·exact q.elim
 ·exact q.elim
end
section
variable {X:Cx} {a b c e:Expr} {st:Stmt} {rest ba bb body:List Stmt} {ta tb te:TE3} {tA:TT3} {t u:TS3} {pos:Pos}
noncomputable def b6P:TS3:=fun D ρ M=>D.nx ρ M
noncomputable def a1e (t u:TS3):TS3:=fun D ρ M=>t { D with nx:=u D } ρ M
theorem EndS.nx' {K:PySem.W.Frag} {H:Hp} {D:Ends3} {D2:Ends} {t:TS3} (h:EndS K H D D2):EndS K H { D with nx:=t D } { D2 with nx:=dS K t D2 } :=
 ⟨fun ρ' M' σ' H' k r hh q=>⟨D,ρ',M',q,r,hh,h.kp k⟩,h.rt,h.bk,h.ct⟩
theorem a0q:HSs X [] b6P:=fun D ρ M h=>b8g.imp fun D2 σ H ⟨hr,hh,en⟩=>en.nx ρ M σ H Kp.refl hr hh h
theorem a0b (h1:HS X st t) (h2:HSs X rest u):HSs X (st :: rest) (a1e t u):=fun D ρ M h =>
 (b5U h1.d h2.d).imp fun D2 σ H ⟨hr,hh,en⟩=>⟨{ D with nx:=u D },ρ,M,h,hr,hh,en.nx'⟩
theorem a0g (h1:HS X st t):HSs X [st] t:=fun D ρ M h=>b8f (h1 D ρ M h)
noncomputable def b9x (te:TE3):TS3:=fun D ρ M=>te ρ M D.rt
theorem a0r (he:HE X e te):HS X (.Return (some e) pos) (b9x te):=fun D ρ M h =>
 (c0e (he.d (ρ:=ρ))).imp fun D2 σ H ⟨hr,hh,en⟩=>⟨M,_,h,hr,hh,en.rt⟩
noncomputable def b9C (c:TT3) (t u:TS3):TS3:=fun D ρ M=>c ρ M fun b M1=>if b=true then t D ρ M1 else u D ρ M1
theorem s_if (hc:HT X c tA) (ha:HSs X ba t) (hb:HSs X bb u):HS X (.If c ba bb pos) (b9C tA t u):=fun D ρ M h =>
 (c1Q (hc.d (ρ:=ρ)) ha.d hb.d).imp fun D2 σ H ⟨hr,hh,en⟩=>⟨M,_,h,hr,hh,fun b M1 H1 k1 h1 q1=>by
  dsimp only at q1⊢
  split
  ·rename_i hb;rw[if_pos hb] at q1
   exact⟨D,ρ,M1,q1,hr.kp k1,h1,en.kp k1⟩
  ·rename_i hb;rw[if_neg hb] at q1
   exact⟨D,ρ,M1,q1,hr.kp k1,h1,en.kp k1⟩⟩
noncomputable def b7F:TS3:=fun _ _ _=>False
theorem a1X:HS X st b7F:=fun _ _ _ h=>h.elim
noncomputable def b6Q (te:TE3):TS3:=fun D ρ M=>te ρ M fun _ M1=>D.nx ρ M1
theorem a4c (he:HE X e te) (hs:swapsWith e none pos.line X.env=pure false:=by rfl):HS X (.Expr e pos) (b6Q te):=fun D ρ M h =>
 (b8i (he.d (ρ:=ρ)) hs).imp fun D2 σ H ⟨hr,hh,en⟩=>⟨M,_,h,hr,hh,fun x v M1 H1 k1 h1 r1 q1=>en.nx ρ M1 σ H1 k1 (hr.kp k1) h1 q1⟩
noncomputable def b7D (i:Nat) (te:TE3):TS3:=fun D ρ M=>te ρ M fun x M1=>D.nx (ρ.set i (some x)) M1
theorem a0C {i:Nat} {x:Str} {pos':Pos} (he:HE X e te) (hN:X.N.Nodup) (hi:X.N[i]?=some x:=by rfl) (hx:Loc X.env.scope x:=by first | exact Or.inl rfl | exact Or.inr rfl) (hs:swapsWith e (some (.Name x pos')) pos.line X.env=pure false:=by rfl)
  (hf:X.fn x=true∨X.env.scope.names.lookup x=some .local:=by first | exact .inl rfl | exact .inr rfl | assumption):HS X (.Assign [.Name x pos'] e pos) (b7D i te):=fun D ρ M h =>
 (c0d hN hi hx (he.d (ρ:=ρ)) hs hf).imp fun D2 σ H ⟨hr,hh,en⟩=>⟨M,_,h,hr,hh,fun t v M1 H1 k1 h1 r1 q1=>en.nx _ M1 _ H1 k1 ((hr.kp k1).set i r1) h1 q1⟩
noncomputable abbrev TG3:=T→En→MH→(En→MH→Prop)→Prop
noncomputable abbrev TGs3:=List T→En→MH→(En→MH→Prop)→Prop
noncomputable def EndG (K:PySem.W.Frag) (H:Hp) (Q:En→MH→Prop) (Q2:St→Hp→Prop):Prop:=∀ ρ' M' σ' H',Kp K H H'→RhoR K σ' H' ρ'→HR K H' M'→Q ρ' M'→Q2 σ' H'
noncomputable def dG (K:PySem.W.Frag) (g:TG3):TG:=fun v σ H Q2=>∃ t ρ M Q,g t ρ M Q∧Rep K H v t∧RhoR K σ H ρ∧HR K H M∧EndG K H Q Q2
noncomputable def dGs (K:PySem.W.Frag) (g:TGs3):TGs:=fun vs σ H Q2=>∃ ts ρ M Q,g ts ρ M Q∧Reps K H vs ts∧RhoR K σ H ρ∧HR K H M∧EndG K H Q Q2
noncomputable def HG (X:Cx) (tg:Expr) (g:TG3):Prop:=PG X tg (dG X.K g)
noncomputable def HGs (X:Cx) (tgs:List Expr) (g:TGs3):Prop:=PGs X tgs (dGs X.K g)
noncomputable def a9X (i:Nat):TG3:=fun t ρ M Q=>Q (ρ.set i (some t)) M
theorem PG.imp {tg:Expr} {g g':TG} (h:PG X tg g) (f:∀ v σ H Q,g' v σ H Q→g v σ H Q):PG X tg g':=fun pins s σ H v u Q I r q=>h pins s σ H v u Q I r (f v σ H Q q)
theorem PGs.imp {tg:List Expr} {g g':TGs} (h:PGs X tg g) (f:∀ v σ H Q,g' v σ H Q→g v σ H Q):PGs X tg g':=fun pins s σ H v u Q I r q=>h pins s σ H v u Q I r (f v σ H Q q)
theorem a1j {i:Nat} {x:Str} (hN:X.N.Nodup) (hi:X.N[i]?=some x:=by rfl) (hx:Loc X.env.scope x:=by first | exact Or.inl rfl | exact Or.inr rfl) (hf:X.fn x=true∨X.env.scope.names.lookup x=some .local:=by first | exact .inl rfl | exact .inr rfl | assumption):HG X (.Name x pos) (a9X i) :=
 (a1T hN hi hx hf).imp fun v σ H Q2 ⟨t,ρ,M,Q,q,r,hr,hh,en⟩=>en _ M _ H Kp.refl (hr.set i r) hh q
noncomputable def b8R:TGs3:=fun ts ρ M Q=>ts=[]∧Q ρ M
noncomputable def a9Z (g:TG3) (gs:TGs3):TGs3:=fun ts ρ M Q=>match ts with
 | t :: r=>g t ρ M fun ρ1 M1=>gs r ρ1 M1 Q
 | []=>False
theorem a5M:HGs X [] b8R:=a8q.imp fun v σ H Q2 ⟨ts,ρ,M,Q,⟨e,q⟩,r,hr,hh,en⟩=>by
 subst e
 unfold Reps at r
 exact⟨r,en ρ M σ H Kp.refl hr hh q⟩
theorem a1i {es:List Expr} {g:TG3} {gs:TGs3} (h1:HG X e g) (h2:HGs X es gs) (hs:(assignEach (e :: es) X.env).map (·.2)=assign e X.env :: (assignEach es X.env).map (·.2):=by rfl):HGs X (e :: es) (a9Z g gs) :=
 (a3S h1 h2 hs).imp fun vs σ H Q2 ⟨ts,ρ,M,Q,q,r,hr,hh,en⟩=>by
  unfold a9Z at q
  split at q
  ·rename_i t r'
   unfold Reps at r
   obtain⟨v,vr,rfl,r1,r2⟩:=r
   exact⟨v,vr,rfl,t,ρ,M,_,q,r1,hr,hh,fun ρ' M' σ' H' k hr' hh' q'=>⟨r',ρ',M',Q,q',Reps.kp k _ _ r2,hr',hh',fun ρ2 M2 σ2 H2 k2=>en ρ2 M2 σ2 H2 (k.trans k2)⟩⟩
  ·exact q.elim
noncomputable def b4S (n:Nat) (gs:TGs3):TG3:=fun t ρ M Q=>match t with
 | .tup ts=>ts.length=n∧gs ts ρ M Q
 | _=>False
theorem a8M {es:List Expr} {k:Nat} {gs:TGs3} {n:Nat} (hc:X.calm=true) (h:HGs X es gs) (hn:(assignEach es X.env).length=n:=by rfl) (hst:(assignEach es X.env).findIdx? (·.1)=none:=by rfl):HG X (.Tuple es k pos) (b4S n gs) :=
 (b1I hc h hn hst).imp fun v σ H Q2 ⟨t,ρ,M,Q,q,r,hr,hh,en⟩=>by
  unfold b4S at q
  split at q
  ·rename_i ts
   obtain⟨a,xs,rfl,g1,g2⟩:=a1d r
   exact⟨a,xs,rfl,g1,by rw[g2.length];exact q.1,ts,ρ,M,Q,q.2,g2,hr,hh,en⟩
  ·exact q.elim
noncomputable def c0Y (to ti:TE3):TG3:=fun v ρ M Q=>to ρ M fun o M1=>ti ρ M1 fun i M2=>match o,i with
 | .adr p,.int k=>(match M2 p with
   | some (.lst ts)=>(match ixN ts.length k with | some j=>Q ρ (updM M2 p (.lst (ts.set j v))) | none=>False)
   | _=>False)
 | _,_=>False
theorem a9W {o i:Expr} {to ti:TE3} (ho:HE X o to) (hi:HE X i ti)
  (ha:∀ v,assign (.Subscript o i pos) X.env v=(do
   let ov ← holding [v] (eval o X.env)
   let iv ← holding [v,ov] (eval i X.env)
   standAt pos
   holding [v,ov,iv] (setItem ov iv v)
   release [v,ov,iv] []):=by intro _;rfl):HG X (.Subscript o i pos) (c0Y to ti):=by
 intro pins s σ H v u Q2 I r h
 obtain⟨t,ρ,M,Q,q,rt,hr,hh,en⟩:=h
 refine c0i (ho.d (ρ:=ρ)) (hi.d (ρ:=ρ)) b5G ha pins s σ H v u Q2 I r ?_
 refine⟨M,_,q,hr,hh,fun ot ov M1 H1 k1 h1 r1 q1=>⟨M1,_,q1,hr.kp k1,h1,fun it iv M2 H2 k2 h2 r2 q2=>?_⟩⟩
 dsimp only at q2
 split at q2
 ·obtain rfl:=a0F r1
  obtain rfl:=a0D r2
  split at q2
  ·rename_i ts e0
   obtain⟨xs,g1,g2⟩:=h2 _ _ e0
   split at q2
   ·rename_i j ej
    have kk:=k1.trans k2
    refine⟨_,xs,_,j,rfl,rfl,g1,by rw[g2.length];exact ej,en _ _ σ _ (kk.trans (Kp.lst g1)) (hr.kp (kk.trans (Kp.lst g1))) (h2.setL g1 (g2.set (Rep.kp kk _ _ rt) j)) q2⟩
   ·exact q2.elim
  ·exact q2.elim
 ·exact q2.elim
noncomputable def b9I (te:TE3) (g:TG3):TS3:=fun D ρ M=>te ρ M fun x M1=>g x ρ M1 D.nx
theorem a6k {tg:Expr} {g:TG3} (he:HE X e te) (hg:HG X tg g) (hs:swapsWithSole [tg] e pos.line X.env=pure false:=by rfl) (hw:swappedStores [tg] e X.env=pure none:=by rfl)
  (h1:(assignEach [tg] X.env).map (·.2)=[assign tg X.env]:=by rfl):HS X (.Assign [tg] e pos) (b9I te g):=fun D ρ M h =>
 (c0h (he.d (ρ:=ρ)) hg hs hw h1).imp fun D2 σ H ⟨hr,hh,en⟩=>⟨M,_,h,hr,hh,fun t v M1 H1 k1 h1 r1 q1=>⟨t,ρ,M1,D.nx,q1,r1,hr.kp k1,h1,fun ρ' M' σ' H' k r hh' q=>en.nx ρ' M' σ' H' (k1.trans k) r hh' q⟩⟩
structure It3 where
 items:List T
 stay:MH→Prop:=fun _=>True
noncomputable abbrev TI3:=En→MH→(It3→MH→Prop)→Prop
structure ItOk (K:PySem.W.Frag) (H:Hp) (J2:It) (J:It3):Prop where
 stop:∀ H' M',Kp K H H'→HR K H' M'→J.stay M'→J2.stop J.items.length H'
 go:∀ (i:Nat) (x:T) H' M',J.items[i]?=some x→Kp K H H'→HR K H' M'→J.stay M'→J2.go i H'∧∀ v H'',J2.yld i H' v H''→Kp K H' H''∧HR K H'' M'∧Rep K H'' v x
noncomputable def HI (X:Cx) (tg iter:Expr) (wi:TI3):Prop:=∀ ρ M R,wi ρ M R→PI X tg iter (fun σ H R2=>RhoR X.K σ H ρ∧HR X.K H M∧∀ J J2 M' H',Kp X.K H H'→HR X.K H' M'→ItOk X.K H' J2 J→R J M'→R2 J2 H')
noncomputable def dI (K:PySem.W.Frag) (ρ:En) (wi:TI3):TI:=fun σ H R2=>∃ M R,wi ρ M R∧RhoR K σ H ρ∧HR K H M∧∀ J J2 M' H',Kp K H H'→HR K H' M'→ItOk K H' J2 J→R J M'→R2 J2 H'
theorem HI.d {tg iter:Expr} {wi:TI3} {ρ:En} (h:HI X tg iter wi):PI X tg iter (dI X.K ρ wi):=fun pins s σ H R I ⟨M,R3,q,b⟩=>h ρ M R3 q pins s σ H R I b
theorem PI.imp {tg iter:Expr} {w w':TI} (h:PI X tg iter w) (f:∀ σ H R,w' σ H R→w σ H R):PI X tg iter w':=fun pins s σ H R I q=>h pins s σ H R I (f σ H R q)
noncomputable def c0T (tl:TE3):TI3:=fun ρ M R=>tl ρ M fun x M1=>match x with
 | .tup ts=>R ⟨ts,fun _=>True⟩ M1
 | .adr p=>(match M1 p with | some (.lst ts)=>R ⟨ts,fun M'=>M' p=some (.lst ts)⟩ M1 | _=>False)
 | _=>False
theorem b6r {K:PySem.W.Frag} {H:Hp} {a:Addr} {xs:List V} {ts:List T} (h:SqT K H a xs) (r:Reps K H xs ts):ItOk K H (Itt K a) ⟨ts,fun _=>True⟩:=by
 refine⟨fun H' M' k hh _=>⟨xs,k.tup _ _ h,by rw[r.length];exact Nat.le_refl _⟩,fun i x H' M' e k hh _=>?_⟩
 obtain⟨v,e1,r1⟩:=r.get e
 refine⟨⟨xs,v,k.tup _ _ h,e1⟩,fun v' H'' y=>?_⟩
 obtain⟨rfl,y⟩:=y
 have:=y xs (k.tup _ _ h)
 rw[e1] at this;cases this
 exact⟨Kp.refl,hh,Rep.kp k _ _ r1⟩
theorem b6s {K:PySem.W.Frag} {H:Hp} {a:Addr} {ts:List T}:ItOk K H (Itl K a) ⟨ts,fun M'=>M' a=some (.lst ts)⟩:=by
 refine⟨fun H' M' k hh st=>?_,fun i x H' M' e k hh st=>?_⟩
 ·obtain⟨xs,g1,g2⟩:=hh _ _ st
  exact⟨xs,SqL.of g1,by rw[g2.length];exact Nat.le_refl _⟩
 ·obtain⟨xs,g1,g2⟩:=hh _ _ st
  obtain⟨v,e1,r1⟩:=g2.get e
  refine⟨⟨xs,v,SqL.of g1,e1⟩,fun v' H'' y=>?_⟩
  obtain⟨rfl,y⟩:=y
  have:=y xs (SqL.of g1)
  rw[e1] at this;cases this
  exact⟨Kp.refl,hh,r1⟩
noncomputable def a1I (lo:Int) (n:Nat):List T:=(List.range n).map fun i=>T.int (lo+(i:Nat))
theorem b3d {K:PySem.W.Frag} {H:Hp} {lo:Int} {n:Nat}:ItOk K H (Itr lo n) ⟨a1I lo n,fun _=>True⟩:=by
 have hl:(a1I lo n).length=n:=by unfold a1I;simp
 refine⟨fun H' M' k hh _=>by show n≤(a1I lo n).length;rw[hl];exact Nat.le_refl _,fun i x H' M' e k hh _=>?_⟩
 have hi:i < n:=by have:=(List.getElem?_eq_some_iff.mp e).1;rwa [hl] at this
 have ex:x=.int (lo+(i:Nat)):=by
  unfold a1I at e
  rw[List.getElem?_map,List.getElem?_range hi] at e
  exact (Option.some.inj e).symm
 subst ex
 refine⟨hi,fun v H'' y=>?_⟩
 obtain⟨rfl,rfl⟩:=y
 exact⟨Kp.refl,hh,a0K⟩
theorem a5K {tg l:Expr} {tl:TE3} (hl:HE X l tl):HI X tg l (c0T tl):=by
 intro ρ M R h pins s σ H R2 I b
 obtain⟨hr,hh,en⟩:=b
 refine thn (hl ρ M _ h pins s σ H (fun v H1=>∃ t M1,Kp X.K H H1∧HR X.K H1 M1∧Rep X.K H1 v t∧(match t with
  | .tup ts=>R ⟨ts,fun _=>True⟩ M1
  | .adr p=>(match M1 p with | some (.lst ts)=>R ⟨ts,fun M'=>M' p=some (.lst ts)⟩ M1 | _=>False)
  | _=>False)) I ⟨hr,hh,fun t v M1 H1 k1 h1 r1 q1=>⟨t,M1,k1,h1,r1,q1⟩⟩) fun v s1 ⟨x,H1,I1,rv,t,M1,k1,h1,r1,q1⟩=>?_
 split at q1
 ·rename_i ts
  obtain⟨a,xs,rfl,g1,g2⟩:=a1d r1
  cases rv
  obtain⟨its,rv,p,hz⟩:=I1.tuple g1
  refine wpAny_pyIter_tuple (show s1.heap.IsTuple a its.toArray from p) ?_
  refine⟨s1.heap.objs.size,[s1.heap.objs.size],_,_,H1,rfl,I1.kept (t':=s1.toks) fun b o e=>Heap.get?_push_of_some _ e,b2v a _,⟨_,Heap.get?_push_size _ rfl,rfl,rfl⟩,fun b hb=>?_,en _ _ M1 H1 k1 h1 (b6r g1 g2) q1⟩
  have e:b=s1.heap.objs.size:=by simpa using hb
  subst e
  exact I1.fpOk (Nat.le_refl _) (I1.hok.fresh (Nat.le_refl _))
 ·rename_i a
  obtain rfl:=a0F r1
  cases rv
  split at q1
  ·rename_i ts e0
   obtain⟨xs,g1,g2⟩:=h1 _ _ e0
   obtain⟨its,rv,p,hz⟩:=I1.list (SqL.of g1)
   refine wpAny_pyIter_list p.isList ?_
   refine⟨s1.heap.objs.size,[s1.heap.objs.size],_,_,H1,rfl,I1.kept (t':=s1.toks) fun b o e=>Heap.get?_push_of_some _ e,b3w a _,⟨_,Heap.get?_push_size _ rfl,rfl,rfl⟩,fun b hb=>?_,en _ _ M1 H1 k1 h1 b6s q1⟩
   have e:b=s1.heap.objs.size:=by simpa using hb
   subst e
   exact I1.fpOk (Nat.le_refl _) (I1.hok.fresh (Nat.le_refl _))
  ·exact q1.elim
 ·exact q1.elim
noncomputable def b4P (t:TA3):TI3:=fun ρ M R=>t ρ M fun xs M1=>match xs with
 | [.int j]=>-(2 ^ 62)≤j∧j < 2 ^ 62∧R ⟨a1I 0 j.toNat,fun _=>True⟩ M1
 | _=>False
noncomputable def b8M (t:TA3):TI3:=fun ρ M R=>t ρ M fun xs M1=>match xs with
 | [.int i,.int j]=>(-(2 ^ 62)≤i∧i < 2 ^ 62∧-(2 ^ 62)≤j∧j < 2 ^ 62)∧R ⟨a1I i (j - i).toNat,fun _=>True⟩ M1
 | _=>False
theorem a6w {tg:Expr} {t:TA3} {p:Pos} (hm:X.mg "range"=none) (ha:HA X [a] t) (hg:Gl X "range":=by rfl) (hs:starEach [a] X.env=[(false,eval a X.env)]:=by rfl):HI X tg (.Call (.Name "range" p) [a] [] pos) (b4P t):=fun ρ M R h =>
 (b4j hg hm (ha.d (ρ:=ρ)) hs).imp fun σ H R2 ⟨hr,hh,en⟩=>⟨M,_,h,hr,hh,fun ts vs M1 H1 k1 h1 r1 q1=>by
  dsimp only at q1
  split at q1
  ·rename_i j
   obtain⟨v,rfl,rv⟩:=a2j r1
   obtain rfl:=a0D rv
   exact⟨j,rfl,q1.1,q1.2.1,en _ _ M1 H1 k1 h1 b3d q1.2.2⟩
  ·exact q1.elim⟩
noncomputable def a6D (wi:TI3) (g:TG3) (tb:TS3):TS3:=fun D ρ M=>wi ρ M fun J M1=>∃ W:Nat→En→MH→Prop,W 0 ρ M1∧(∀ i ρ M,W i ρ M→J.stay M) ∧
 (∀ i x ρ M,J.items[i]?=some x→W i ρ M→g x ρ M fun ρ2 M2=>tb { D with nx:=W (i+1),ct:=W (i+1),bk:=D.nx } ρ2 M2)∧∀ ρ M,W J.items.length ρ M→D.nx ρ M
theorem a6H {tg iter:Expr} {wi:TI3} {g:TG3} {tb:TS3} (hp:PassesOwn (model X.prog X.w) X.A X.env X.xe) (hc:X.calm=true) (hi:HI X tg iter wi) (hg:HG X tg g) (hb:HSs X body tb)
  (hs:∀ x,foldedSetIterable iter X.env x=pure x:=by intro _;rfl):HS X (.For tg iter body [] pos) (a6D wi g tb):=fun D ρ0 M0 h =>
 (c0f hp hc (hi.d (ρ:=ρ0)) hg hb.d hs).imp fun D2 σ0 H0 ⟨hr0,hh0,en⟩=>⟨M0,_,h,hr0,hh0,fun J J2 M1 H1 k1 h1 ok q1=>by
  obtain⟨W,w0,wst,turn,fin⟩:=q1
  refine⟨fun i m σ H=>m=J.items.length - i∧i≤J.items.length∧Kp X.K H1 H∧∃ ρ M,RhoR X.K σ H ρ∧HR X.K H M∧W i ρ M,⟨_,rfl,Nat.zero_le _,Kp.refl,ρ0,M1,hr0.kp k1,h1,w0⟩,?_⟩
  rintro i m σ H ⟨rfl,hi,kk,ρ,M,hr,hh,w⟩
  have st:=wst i ρ M w
  by_cases hlt:i < J.items.length
  ·have e:J.items[i]?=some J.items[i]:=List.getElem?_eq_getElem hlt
   obtain⟨go,yl⟩:=ok.go i _ H M e kk hh st
   refine .inr ⟨go,fun σ' H'=>i+1≤J.items.length∧Kp X.K H1 H'∧∃ ρ M,RhoR X.K σ' H' ρ∧HR X.K H' M∧W (i+1) ρ M,fun σ' H' ⟨a,b,c⟩=>⟨_,by lia,rfl,a,b,c⟩,fun v H' y=>?_⟩
   obtain⟨k2,h2,r2⟩:=yl v H' y
   refine⟨J.items[i],ρ,M,_,turn i _ ρ M e w,r2,hr.kp k2,h2,fun ρ3 M3 σ3 H3 k3 hr3 hh3 q3=>⟨_,ρ3,M3,q3,hr3,hh3,?_⟩⟩
   have kall:=kk.trans (k2.trans k3)
   refine⟨fun ρ4 M4 σ4 H4 k4 hr4 hh4 q4=>⟨hlt,kall.trans k4,ρ4,M4,hr4,hh4,q4⟩,fun t v M4 H4 k4 h4 r4 q4=>en.rt t v M4 H4 (k1.trans (kall.trans k4)) h4 r4 q4,fun ρ4 M4 σ4 H4 k4 hr4 hh4 q4=>en.nx ρ4 M4 σ4 H4 (k1.trans (kall.trans k4)) hr4 hh4 q4,fun ρ4 M4 σ4 H4 k4 hr4 hh4 q4=>⟨hlt,kall.trans k4,ρ4,M4,hr4,hh4,q4⟩⟩
  ·have e:i=J.items.length:=by lia
   subst e
   exact .inl ⟨ok.stop H M kk hh st,en.nx ρ M σ H (k1.trans kk) hr hh (fin ρ M w)⟩⟩
noncomputable def a6C (c:TT3) (tb:TS3):TS3:=fun D ρ M=>∃ W:Nat→En→MH→Prop,(∃ m,W m ρ M)∧∀ m ρ M,W m ρ M →
 c ρ M fun b M1=>if b=true then tb { D with nx:=fun ρ' M'=>∃ m',m' < m∧W m' ρ' M',ct:=fun ρ' M'=>∃ m',m' < m∧W m' ρ' M',bk:=D.nx } ρ M1 else D.nx ρ M1
theorem b3X {c:Expr} {tc:TT3} {tb:TS3} (hp:PassesOwn (model X.prog X.w) X.A X.env X.xe) (hc:HT X c tc) (hb:HSs X body tb):HS X (.While c body [] pos) (a6C tc tb):=by
 intro D ρ0 M0 h pins s σ H D2 I b
 obtain⟨hr0,hh0,en⟩:=b
 obtain⟨W,⟨m0,w0⟩,turn⟩:=h
 refine wpAny_While (codeAny_whileLoop (fun n s'=>∃ σ' H' ρ M,Inv X pins σ' H' s'∧Kp X.K H H'∧RhoR X.K σ' H' ρ∧HR X.K H' M∧W n ρ M) ?_ m0 ⟨σ,H,ρ0,M0,I,Kp.refl,hr0,hh0,w0⟩)
 rintro n s1 ⟨σ1,H1,ρ,M,I1,k1,hr,hh,w1⟩
 refine wpAny_passesOwn hp (thn (hc ρ M _ (turn n ρ M w1) pins s1 σ1 H1 (fun b H2=>∃ M2,Kp X.K H1 H2∧HR X.K H2 M2∧(if b=true then tb { D with nx:=fun ρ' M'=>∃ m',m' < n∧W m' ρ' M',ct:=fun ρ' M'=>∃ m',m' < n∧W m' ρ' M',bk:=D.nx } ρ M2 else D.nx ρ M2)) I1 ⟨hr,hh,fun b M2 H2 k2 h2 q2=>⟨M2,k2,h2,q2⟩⟩) fun b s2 ⟨H2,I2,M2,k2,h2,q2⟩=>?_)
 have kk:=k1.trans k2
 cases b with
 | true =>
   rw[if_pos rfl] at q2
   rw[if_pos rfl]
   refine wpAny_passesOwn hp (thn (hb _ ρ M2 q2 pins s2 σ1 H2 { nx:=fun σ' H'=>∃ ρ' M',Kp X.K H2 H'∧RhoR X.K σ' H' ρ'∧HR X.K H' M'∧∃ m',m' < n∧W m' ρ' M',rt:=D2.rt,bk:=D2.nx,ct:=fun σ' H'=>∃ ρ' M',Kp X.K H2 H'∧RhoR X.K σ' H' ρ'∧HR X.K H' M'∧∃ m',m' < n∧W m' ρ' M' } I2
    ⟨hr.kp k2,h2,⟨fun ρ' M' σ' H' k r hh' q=>⟨ρ',M',k,r,hh',q⟩,en.rt.kp kk,fun ρ' M' σ' H' k r hh' q=>en.nx ρ' M' σ' H' (kk.trans k) r hh' q,fun ρ' M' σ' H' k r hh' q=>⟨ρ',M',k,r,hh',q⟩⟩⟩) fun f s3 q3=>?_)
   cases f with
   | next =>
     obtain⟨σ3,H3,I3,ρ',M',k3,r3,h3,m',hm,w3⟩:=q3
     exact⟨m',hm,σ3,H3,ρ',M',I3,kk.trans k3,r3,h3,w3⟩
   | cont =>
     obtain⟨σ3,H3,I3,ρ',M',k3,r3,h3,m',hm,w3⟩:=q3
     exact⟨m',hm,σ3,H3,ρ',M',I3,kk.trans k3,r3,h3,w3⟩
   | brk=>exact q3
   | ret v=>exact q3
 | false =>
   rw[if_neg Bool.false_ne_true] at q2
   rw[if_neg Bool.false_ne_true]
   exact wpAny_execs_nil ⟨σ1,H2,I2,en.nx ρ M2 σ1 H2 kk (hr.kp k2) h2 q2⟩
noncomputable def a8p (ix:List (Option Nat)) (ρ:En):En:=ix.map fun o=>match o with | some j=>(ρ[j]?).join | none=>none
theorem b5K {K:PySem.W.Frag} {σ:St} {H:Hp} {ρ:En} (ix:List (Option Nat)) (h:RhoR K σ H ρ):RhoR K (pick ix σ) H (a8p ix ρ):=by
 refine⟨by unfold pick a8p;simp,fun i t e=>?_⟩
 unfold a8p at e
 unfold pick
 rw[List.getElem?_map] at e⊢
 cases hx:ix[i]? with
 | none=>rw[hx] at e;cases e
 | some o =>
   rw[hx] at e
   cases o with
   | none =>
     have e':(none:Option T)=some t:=Option.some.inj e
     cases e'
   | some j =>
     have e':(ρ[j]?).join=some t:=Option.some.inj e
     cases hj:ρ[j]? with
     | none=>rw[hj] at e';cases e'
     | some u =>
       rw[hj] at e'
       have e2:u=some t:=e'
       subst e2
       obtain⟨v,a,b⟩:=h.2 j t hj
       exact⟨v,by show some ((σ[j]?).join)=some (some v);rw[a]<;>rfl,b⟩
noncomputable def b1x (wi:TI3) (ix:List (Option Nat)) (g:TG3) (tt:TT3) (te:TE3):TE3:=fun ρ M Q=>wi ρ M fun J M1=>∃ W:Nat→List T→MH→Prop,W 0 [] M1∧(∀ i ys M,W i ys M→J.stay M)∧J.items.length < sizeLine ∧
 (∀ i x ys M,J.items[i]?=some x→W i ys M→g x (a8p ix ρ) M fun ρ2 M2=>tt ρ2 M2 fun ok M3=>if ok=true then te ρ2 M3 fun y M4=>W (i+1) (ys++[y]) M4 else W (i+1) ys M3) ∧
 ∀ ys M,W J.items.length ys M→∀ p,M p=none→Q (.adr p) (updM M p (.lst ys))
noncomputable def HTs (X:Cx) (ifs:List Expr) (t:TT3):Prop:=∀ ρ M Q,t ρ M Q→PTs X ifs (bT X.K ρ M Q)
noncomputable def b9t:TT3:=fun _ M Q=>Q true M
theorem a7A:HTs X [] b9t:=fun ρ M Q h pins s σ H Q2 I ⟨hr,hh,en⟩=>b8d pins s σ H Q2 I (en true M H Kp.refl hh h)
theorem b1w {c:Expr} {t:TT3} (h:HT X c t):HTs X [c] t:=fun ρ M Q q=>b8c (h ρ M Q q)
end
noncomputable def dEx (K:PySem.W.Frag) (t:TE3):TE:=fun σ H Q2=>∃ ρ M Q,t ρ M Q∧bE K ρ M Q σ H Q2
noncomputable def dTx (K:PySem.W.Frag) (t:TT3):TT:=fun σ H Q2=>∃ ρ M Q,t ρ M Q∧bT K ρ M Q σ H Q2
section
variable {X:Cx} {e:Expr}
theorem HE.dx {t:TE3} (h:HE X e t):PE X e (dEx X.K t):=fun pins s σ H Q I ⟨ρ,M,Q3,q,b⟩=>h ρ M Q3 q pins s σ H Q I b
theorem HTs.dx {ifs:List Expr} {t:TT3} (h:HTs X ifs t):PTs X ifs (dTx X.K t):=fun pins s σ H Q I ⟨ρ,M,Q3,q,b⟩=>h ρ M Q3 q pins s σ H Q I b
structure BTg (K:PySem.W.Frag) (ix:List (Option Nat)) (g2:TG) (g3:TG3):Prop where
 own:Own ix g2
 br:∀ (t:T) (v:V) (ρ:En) (M:MH) (σ:St) (H:Hp) (Q3:En→MH→Prop) (Q2:St→Hp→Prop),Rep K H v t→RhoR K σ H ρ→HR K H M→g3 t ρ M Q3→EndG K H Q3 Q2→g2 v σ H Q2
theorem a5j {K:PySem.W.Frag} {ix:List (Option Nat)} {i:Nat} (h:ix[i]?=some none:=by rfl):BTg K ix (a9Y i) (a9X i) :=
 ⟨a8s h,fun t v ρ M σ H Q3 Q2 r hr hh q en=>en _ M _ H Kp.refl (hr.set i r) hh q⟩
theorem b1q {K:PySem.W.Frag} {ix:List (Option Nat)} {i j:Nat} (h:ix[i]?=some none:=by rfl) (h':ix[j]?=some none:=by rfl):BTg K ix (gTup K 2 (b6x (a9Y i) (b6x (a9Y j) gNil))) (b4S 2 (a9Z (a9X i) (a9Z (a9X j) b8R))):=by
 refine⟨b8s (a9o a7O (a8s h) (a9o a7O (a8s h') b6d)),fun t v ρ M σ H Q3 Q2 r hr hh q en=>?_⟩
 unfold b4S at q
 split at q
 ·rename_i ts
  obtain⟨a,xs,rfl,g1,g2⟩:=a1d r
  obtain⟨hl,q⟩:=q
  match ts,hl,g2,q with
  | [x,y],_,g2,q =>
    obtain⟨v1,v2,rfl,r1,r2⟩:=b7M g2
    refine⟨a,_,rfl,g1,rfl,v1,[v2],rfl,v2,[],rfl,rfl,?_⟩
    exact en _ M _ H Kp.refl ((hr.set i r1).set j r2) hh q.2
 ·exact q.elim
variable {elt iter tg:Expr} {ifs:List Expr} {pos:Pos} {scope:Scope} {N':List Str} {ix:List (Option Nat)} {wi:TI3} {g2:TG} {g3:TG3} {tt:TT3} {te:TE3}
theorem b2l {X:Cx} {N':List Str} {ix:List (Option Nat)} {wi:TI3} {g2:TG} {g3:TG3} {tt:TT3} {te:TE3} (bt:BTg X.K ix g2 g3) (ρ0:En) (M0:MH) (Q:VK3) (h:b1x wi ix g3 tt te ρ0 M0 Q) (σ0:St) (H0:Hp) (Q2:VK) (bb:bE X.K ρ0 M0 Q σ0 H0 Q2) :
  b5E (dI X.K ρ0 wi) ix g2 (dTx X.K tt) (dEx X.K te) σ0 H0 Q2:=by
 obtain⟨hr0,hh0,en⟩:=bb
 exact⟨M0,_,h,hr0,hh0,fun J J2 M1 H1 k1 h1 ok q1=>by
  obtain⟨W,w0,wst,hsz,turn,fin⟩:=q1
  refine⟨fun i m ys H=>m=J.items.length - i∧i≤J.items.length∧ys.length≤i∧Kp X.K H1 H∧∃ ts M,Reps X.K H ys ts∧HR X.K H M∧W i ts M,⟨_,rfl,Nat.zero_le _,Nat.zero_le _,Kp.refl,[],M1,.nil,h1,w0⟩,?_⟩
  rintro i m ys H ⟨rfl,hi,hy,kk,ts,M,rts,hh,w⟩
  have st:=wst i ts M w
  by_cases hlt:i < J.items.length
  ·have e:J.items[i]?=some J.items[i]:=List.getElem?_eq_getElem hlt
   obtain⟨go,yl⟩:=ok.go i _ H M e kk hh st
   refine .inr ⟨go,by lia,fun v H' y=>?_⟩
   obtain⟨k2,h2,r2⟩:=yl v H' y
   have kk2:=kk.trans k2
   refine bt.br J.items[i] v _ M _ H' _ _ r2 (b5K ix (hr0.kp (k1.trans kk2))) h2 (turn i _ ts M e w) fun ρ3 M3 σ3 H3 k3 hr3 hh3 q3=>⟨ρ3,M3,_,q3,hr3,hh3,fun b M4 H4 k4 h4 q4=>?_⟩
   have kk4:=kk2.trans (k3.trans k4)
   dsimp only at q4⊢
   cases b with
   | true =>
     rw[if_pos rfl] at q4⊢
     refine⟨ρ3,M4,_,q4,hr3.kp k4,h4,fun t5 v5 M5 H5 k5 h5 r5 q5=>⟨_,Nat.sub_lt_sub_left hlt (Nat.lt_succ_self i),rfl,hlt,?_,kk4.trans k5,ts++[t5],M5,?_,h5,q5⟩⟩
     ·rw[List.length_append,List.length_singleton];lia
     ·exact (Reps.kp (k2.trans (k3.trans (k4.trans k5))) _ _ rts).append (.cons r5 .nil)
   | false =>
     rw[if_neg Bool.false_ne_true] at q4⊢
     exact⟨_,Nat.sub_lt_sub_left hlt (Nat.lt_succ_self i),rfl,hlt,by lia,kk4,ts,M4,Reps.kp (k2.trans (k3.trans k4)) _ _ rts,h4,q4⟩
  ·have e:i=J.items.length:=by lia
   subst e
   refine .inl ⟨ok.stop H M kk hh st,by lia,fun p hp=>?_⟩
   exact en _ _ _ _ (k1.trans (kk.trans (Kp.new hp))) (hh.newL hp rts) a1R (fin ts M w p (hh.free hp))⟩
theorem a6j (hc:X.calm=true) (hi:HI X tg iter wi) (S:BlkScope X N' ix scope) (bt:BTg X.K ix g2 g3) (hg:∀ C s H fp pins,PG (blk X N' scope C s H fp pins) tg g2)
  (ht:∀ C s H fp pins,HTs (blk X N' scope C s H fp pins) ifs tt) (he:∀ C s H fp pins,HE (blk X N' scope C s H fp pins) elt te)
  (hs:∀ x,foldedSetIterable iter X.env x=pure x:=by intro _;rfl) :
  HE X (.ListComp elt [⟨tg,iter,ifs,0⟩] scope pos) (b1x wi ix g3 tt te):=fun ρ0 M0 Q h =>
 (b8o (tt:=dTx X.K tt) (te:=dEx X.K te) hc (hi.d (ρ:=ρ0)) S bt.own hg (fun C s H fp pins=>(ht C s H fp pins).dx) (fun C s H fp pins=>(he C s H fp pins).dx) hs).imp fun σ0 H0 Q2 bb=>b2l (X:=X) (N':=N') bt ρ0 M0 Q h σ0 H0 Q2 bb
theorem b6V {i:Nat} {x:Str} {pos' spos:Pos} (hc:X.calm=true) (hi:HI X tg iter wi) (S:BlkScope X N' ix scope) (bt:BTg X.K ix g2 g3) (hg:∀ C s H fp pins,PG (blk X N' scope C s H fp pins) tg g2)
  (ht:∀ C s H fp pins,HTs (blk X N' scope C s H fp pins) ifs tt) (he:∀ C s H fp pins,HE (blk X N' scope C s H fp pins) elt te) (hN:X.N.Nodup) (hi':X.N[i]?=some x:=by rfl) (hx:Loc X.env.scope x:=by first | exact Or.inl rfl | exact Or.inr rfl)
  (hsw:swapsWith (.ListComp elt [⟨tg,iter,ifs,0⟩] scope pos) (some (.Name x pos')) spos.line X.env=pure true:=by rfl)
  (hs:∀ x,foldedSetIterable iter X.env x=pure x:=by intro _;rfl) (hf:X.fn x=true∨X.env.scope.names.lookup x=some .local:=by first | exact .inl rfl | exact .inr rfl | assumption) :
  HS X (.Assign [.Name x pos'] (.ListComp elt [⟨tg,iter,ifs,0⟩] scope pos) spos) (b7D i (b1x wi ix g3 tt te)):=fun D ρ M h =>
 (b8h (tt:=dTx X.K tt) (te:=dEx X.K te) hN hi' hx hc (hi.d (ρ:=ρ)) S bt.own hg (fun C s H fp pins=>(ht C s H fp pins).dx) (fun C s H fp pins=>(he C s H fp pins).dx) hsw hs hf).imp fun D2 σ H ⟨hr,hh,en⟩ =>
  b2l (X:=X) (N':=N') bt ρ M (fun x M1=>D.nx (ρ.set i (some x)) M1) h σ H _ ⟨hr,hh,fun t v M1 H1 k1 h1 r1 q1=>en.nx _ M1 _ H1 k1 ((hr.kp k1).set i r1) h1 q1⟩
noncomputable def a3Z (N:List Str) (ts:List T):En:=ts.map some++List.replicate (N.length - ts.length) none
theorem b4b {K:PySem.W.Frag} {H:Hp} {N:List Str} {vs:List V} {ts:List T} (r:Reps K H vs ts):RhoR K (a6E N vs) H (a3Z N ts):=by
 have hl:=r.length
 refine⟨by unfold a6E a3Z;simp [hl],fun i t e=>?_⟩
 unfold a3Z at e
 unfold a6E
 by_cases hi:i < ts.length
 ·rw[List.getElem?_append_left (by simpa using hi),List.getElem?_map] at e
  cases q:ts[i]? with
  | none=>rw[q] at e;cases e
  | some u =>
    rw[q] at e
    cases e
    obtain⟨v,a,b⟩:=r.get q
    refine⟨v,?_,b⟩
    rw[List.getElem?_append_left (by simpa [hl] using hi),List.getElem?_map,a]
    rfl
 ·rw[List.getElem?_append_right (by simpa using hi),List.getElem?_replicate] at e
  split at e<;>cases e
noncomputable def rt3 (M:MH) (Q:VK3):VK3:=fun t M'=>∃ M0,Sub M0 M'∧Q t M0
end
section
variable {P:Program} {w:World} {K:PySem.W.Frag} {mg:Str→Option Value} {base:Heap}
theorem Fun.fnk {x qual:Str} {st:Stmt} {f:Addr} {fd:FuncData} {N ps:List Str} {n:Nat} {sp:Sp3} (F:Fun K x qual st f fd) (S:FnScope N ps (a0h st)) (len:∀ ts M Q,sp ts M Q→ts.length=ps.length)
  (hbody:∃ t:TS3,(∀ (cdv:Value) (A:Around) (outer:List Env) (s:Shared) (H:Hp) (E:XK),Room n (A.deeper (envOfC qual (a0h st) s.heap.objs.size f cdv)) →
   HSs (cxOf CX0 P w K mg base N qual (a0h st) f cdv A outer s H E).nox (a3X st) t) ∧
   ∀ ts M Q,sp ts M Q→t { nx:=fun _ M'=>rt3 M Q .non M',rt:=rt3 M Q } (a3Z N ts) M):FnOk P w K mg base CX0 (n+1) f fd ps (dSp K sp):=by
 obtain⟨t,hbody,rd⟩:=hbody
 refine F.ok S (fun vs H Q E ⟨ts,M,Q3,r,_,q,_⟩=>by rw[r.length];exact len _ _ _ q) (fun cdv A outer s H vs Q E hr ⟨ts,M,Q3,r,hh,q,en⟩=>?_)
 refine⟨_,hbody cdv A outer s H E hr _ _ _ (rd ts M Q3 q),b4b r,hh,⟨?_,?_,fun _ _ _ _ _ _ _ z=>z.elim,fun _ _ _ _ _ _ _ z=>z.elim⟩⟩
 ·rintro ρ' M' σ' H' k hr' hh' ⟨M0,hs,q'⟩
  exact en .non .non M0 H' k (hh'.sub hs) a6I q'
 ·rintro t' v' M' H' k hh' r' ⟨M0,hs,q'⟩
  exact en t' v' M0 H' k (hh'.sub hs) r' q'
theorem Fun.dfn {x qual:Str} {st:Stmt} {f:Addr} {fd:FuncData} {N ps:List Str} {n:Nat} {sp:Sp3} (F:Fun K x qual st f fd) (hm:mg x=some (.ref f)) (hb:a0G K fd ps []) (S:FnScope N ps (a0h st)) (len:∀ ts M Q,sp ts M Q→ts.length=ps.length)
  (hbody:∃ t:TS3,(∀ (cdv:Value) (A:Around) (outer:List Env) (s:Shared) (H:Hp) (E:XK),Room n (A.deeper (envOfC qual (a0h st) s.heap.objs.size f cdv)) →
   HSs (cxOf CX0 P w K mg base N qual (a0h st) f cdv A outer s H E).nox (a3X st) t) ∧
   ∀ ts M Q,sp ts M Q→t { nx:=fun _ M'=>rt3 M Q .non M',rt:=rt3 M Q } (a3Z N ts) M):Df P w K mg base (n+1) x ps sp :=
 ⟨f,fd,F.fnk S len hbody,hm,F.kp,hb⟩
end
theorem b6p {l:PySem.W.OpenLaw} {k:Nat} {q:Program} {loose:List Str} {XP:(Str→Option Value)→Heap→Prop} {YP:World→Heap→Prop} {d:DefRec} {K:Params→PySem.W.Frag} {sp:Sp3}
  (hn:l.most=some 63) (hdf:d.params.defaults=[]) (hr:Room k callerA) (hY:∀ (w:World) (h:Heap),YP w h→(K w.params).In h)
  (hs:∀ (ns:List Int) M Q,ns.length≤63→Q (.bl true) M→sp [.rd (ns.map .int)] M Q)
  (F:∀ (w:World) (mg:Str→Option Value) (fa:Addr) (h:Heap),(K w.params).In h→h.Ns mainGlobals mg→mg d.name=some (.ref fa) →
   ∃ fd:FuncData,(∀ (s:Shared) (u:Value),BindsTo s fd ⟨[u],[]⟩ [("script",u)])∧∀ base:Heap,(K w.params).In base→base.Ns mainGlobals mg→FnOk l.prog w (K w.params) mg base CX0 k fa fd ["script"] (dSp (K w.params) sp)) :
  PySem.W.WalkO q loose XP YP l.row.toRowW d [] (fun f vs=>PySem.call f vs):=by
 refine L2.b7z (n:=63) (k:=k) (x:="script") (CX:=fun _=>CX0) (sp:=fun w=>dSp (K w.params) sp) hn (by decide) hdf hr hY F (fun w H a ns hl hO hS=>?_) fun _ _ _ _ _ z=>z
 have fz:FzL (K w.params) H a (ns.map V.int):=by
  rcases hS with (h | ⟨o,h⟩) | h
  ·rcases hO a with z | ⟨ob,xs,z⟩
   ·rw[h] at z;cases z
   ·rw[h] at z;cases z
  ·exact .inl ⟨o,h⟩
  ·exact .inr h
 refine⟨[.rd (ns.map .int)],fun _=>none,fun t _=>t=.bl true,.cons ?_ .nil,(fun _ _ z=>by cases z),hs ns _ (fun t _=>t=.bl true) hl rfl,fun t v M' H' _ _ r e=>?_⟩
 ·unfold Rep
  exact⟨a,_,rfl,fz,Reps.of_ints ns⟩
 ·subst e
  exact a3m r
theorem a4U:∀ {xs:List V} {us:List Value},xs.length=us.length→(∀ (j:Nat) x,xs[j]?=some x→∃ u,us[j]?=some u∧RelV x u)→Vals xs us
 | [],[],_,_=>.nil
 | [],_ :: _,h,_=>by simp at h
 | _ :: _,[],h,_=>by simp at h
 | x :: xs,u :: us,h,g=>by
   refine .cons ?_ (a4U (by simpa using h) fun j y e=>?_)
   ·obtain⟨w,e,r⟩:=g 0 x rfl
    have:u=w:=by simpa using e
    subst this;exact r
   ·obtain⟨w,e',r⟩:=g (j+1) y (by simpa using e)
    exact⟨w,by simpa using e',r⟩
noncomputable def a1S (lo:Int) (n:Nat):List V:=(List.range n).map fun i=>V.int (lo+(i:Nat))
theorem a6K {K:PySem.W.Frag} {H:Hp} (lo:Int) (n:Nat):Reps K H (a1S lo n) (a1I lo n):=by
 have e1:a1S lo n=((List.range n).map fun i=>lo+((i:Nat):Int)).map V.int:=by unfold a1S;rw[List.map_map];rfl
 have e2:a1I lo n=((List.range n).map fun i=>lo+((i:Nat):Int)).map T.int:=by unfold a1I;rw[List.map_map];rfl
 rw[e1,e2];exact Reps.of_ints _
section
variable {X:Cx} {a b e:Expr} {es:List Expr} {ta te:TE3} {t:TA3} {pos:Pos}
noncomputable def b6u (M:MH) (x:T):Prop:=match x with
 | .adr p=>(match M p with | some (.lst _)=>True | _=>False)
 | _=>False
noncomputable abbrev RM3:=T→List T→MH→VK3→Prop
noncomputable def dM (K:PySem.W.Frag) (r:RM3):V→List V→Hp→VK→Prop:=fun v vs H Q2=>∃ x xs M Q,Rep K H v x∧Reps K H vs xs∧HR K H M∧r x xs M Q∧EndE K H Q Q2
noncomputable def MtR3 (X:Cx) (id:String) (r:RM3):Prop:=MtR X id (dM X.K r)
noncomputable def tLM3 (r:RM3) (to:TE3) (t:TA3):TE3:=fun ρ M Q=>to ρ M fun x M1=>b6u M1 x∧t ρ M1 fun xs M2=>r x xs M2 Q
theorem b6t {K:PySem.W.Frag} {H:Hp} {M:MH} {x:T} {v:V} (hh:HR K H M) (r:Rep K H v x) (h:b6u M x):tyV K "list" v H:=by
 unfold b6u at h
 split at h
 ·rename_i p
  split at h
  ·rename_i ts e
   obtain⟨xs,g1,_⟩:=hh _ _ e
   obtain rfl:=a0F r
   exact .inl ⟨rfl,xs,SqL.of g1⟩
  ·exact h.elim
 ·exact h.elim
theorem h_lm {o:Expr} {to:TE3} {name:Str} {apos cpos:Pos} {id:String} {r:RM3} (slot:Slot "list" name id) (hty:typeOf (.builtin id)=pure (.type "method_descriptor")) (hm:MtR3 X id r) (ho:HE X o to) (ha:HA X (e :: es) t)
  (hbase:attributeBase o name X.env (eval o X.env)=eval o X.env:=by rfl)
  (hfew:((backTo cpos (starEach (e :: es) X.env)).all (fun x=>!x.1) && (backToKw cpos (keywordEach [] X.env)).all (fun x=>x.1.isSome)
   && decide ((e :: es).length+([]:List Keyword).length+(if ([]:List Keyword).isEmpty then 0 else 1) < 30))=true:=by rfl)
  (hline:(apos.endLine == cpos.line)=true:=by rfl) (hs:starEach (e :: es) X.env=(false,eval e X.env) :: starEach es X.env:=by rfl) (hplain:(backTo cpos (starEach es X.env)).any (·.1)=false:=by rfl) :
  HE X (.Call (.Attribute o name apos) (e :: es) [] cpos) (tLM3 r to t):=fun ρ M Q h =>
 (c1V PySem.F.plainAttrs_list slot hty hm (ho.d (ρ:=ρ)) (ha.d (ρ:=ρ)) hbase hfew hline hs hplain).imp fun σ H Q2 ⟨hr,hh,en⟩=>⟨M,_,h,hr,hh,fun x v M1 H1 k1 h1 r1 q1=>⟨b6t h1 r1 q1.1,M1,_,q1.2,hr.kp k1,h1,fun ts vs M2 H2 k2 h2 r2 q2 =>
  ⟨x,ts,M2,Q,Rep.kp k2 _ _ r1,r2,h2,q2,en.kp (k1.trans k2)⟩⟩⟩
noncomputable def b5Q:RM3:=fun x xs M Q=>match x,xs with
 | .adr p,[y]=>(match M p with | some (.lst ts)=>ts.length < sizeLine∧Q .non (updM M p (.lst (ts++[y]))) | _=>False)
 | _,_=>False
theorem b2X:MtR3 X "list.append" b5Q:=by
 intro pins s σ H v vs u us Q2 I rv rvs h
 obtain⟨x,xs,M,Q,r1,r2,hh,q,en⟩:=h
 unfold b5Q at q
 split at q
 ·rename_i p y
  split at q
  ·rename_i ts e0
   obtain⟨ys,g1,g2⟩:=hh _ _ e0
   obtain rfl:=a0F r1
   obtain⟨w,rfl,rw'⟩:=a2j r2
   exact b4z pins s σ H _ _ u us Q2 I rv rvs ⟨_,ys,w,rfl,rfl,g1,by rw[g2.length];exact q.1,en _ _ _ _ (Kp.lst g1) (hh.setL g1 (g2.append (.cons rw' .nil))) a6I q.2⟩
  ·exact q.elim
 ·exact q.elim
noncomputable def a8K:List T→Option (List Int)
 | []=>some []
 | .int i :: ts=>(a8K ts).map (i :: ·)
 | _ :: _=>none
theorem a6W:∀ (ns:List Int),a8K (ns.map T.int)=some ns
 | []=>rfl
 | n :: ns=>by show (a8K (ns.map T.int)).map (n :: ·)=_;rw[a6W ns];rfl
theorem a7N:∀ {ts:List T} {ns:List Int},a8K ts=some ns→ts=ns.map T.int
 | [],ns,e=>by unfold a8K at e;cases e;rfl
 | t :: ts,ns,e=>by
   cases t with
   | int i =>
     unfold a8K at e
     cases q:a8K ts with
     | none=>rw[q] at e;cases e
     | some cs=>rw[q] at e;cases e;rw[a7N q];rfl
   | _=>unfold a8K at e;cases e
theorem a5Y {o:Expr} {to:TE3} {apos cpos:Pos} (ho:HE X o to) (ha:HA X (e :: es) t)
  (hbase:attributeBase o "append" X.env (eval o X.env)=eval o X.env:=by rfl)
  (hfew:((backTo cpos (starEach (e :: es) X.env)).all (fun x=>!x.1) && (backToKw cpos (keywordEach [] X.env)).all (fun x=>x.1.isSome)
   && decide ((e :: es).length+([]:List Keyword).length+(if ([]:List Keyword).isEmpty then 0 else 1) < 30))=true:=by rfl)
  (hline:(apos.endLine == cpos.line)=true:=by rfl) (hs:starEach (e :: es) X.env=(false,eval e X.env) :: starEach es X.env:=by rfl) (hplain:(backTo cpos (starEach es X.env)).any (·.1)=false:=by rfl) :
  HE X (.Call (.Attribute o "append" apos) (e :: es) [] cpos) (tLM3 b5Q to t):=h_lm PySem.F.slot_list_append PySem.F.type_list_append b2X ho ha hbase hfew hline hs hplain
end
end L2
namespace LM
noncomputable def LetOK (n l:Int):Prop:=1≤(l.natAbs:Int)∧(l.natAbs:Int) < n
noncomputable def WordOK (n:Int) (w:List Int):Prop:=∀ l∈w,LetOK n l
noncomputable def a5c (n l:Int):Bool:=decide (1≤l.natAbs) && decide ((l.natAbs:Int) < n)
noncomputable def isPl (n:Int) (w:List Int):Bool:=decide (1≤n) && decide (n≤6) && decide (w.length≤16) && w.all (a5c n)
noncomputable def PlOK (n:Int) (w:List Int):Prop:=1≤n∧n≤6∧w.length≤16∧WordOK n w
theorem a2g {n l:Int}:a5c n l=true↔LetOK n l:=by
 unfold a5c LetOK
 simp only[Bool.and_eq_true,decide_eq_true_eq]
 lia
theorem PlOK.is {n:Int} {w:List Int} (h:PlOK n w):isPl n w=true:=by
 obtain⟨h1,h2,h3,h4⟩:=h
 unfold isPl
 simp only[Bool.and_eq_true,decide_eq_true_eq,List.all_eq_true]
 exact⟨⟨⟨h1,h2⟩,h3⟩,fun l hl=>a2g.mpr (h4 l hl)⟩
theorem WordOK.nil {n:Int}:WordOK n []:=fun _ z=>nomatch z
theorem WordOK.append {n:Int} {u v:List Int} (h:WordOK n u) (g:WordOK n v):WordOK n (u++v):=fun l hl=>(List.mem_append.mp hl).elim (h l) (g l)
theorem a1L {α β:Type} (f:α→β) {L:List α} {i:Nat} {x:α} (h:L[i]?=some x):(L.take i).map f++[f x]=(L.take (i+1)).map f:=by
 rw[List.take_add_one,h];simp
theorem a1q {α β:Type} {f:α→β} {L:List α} {i:Nat} {y:β} (h:(L.map f)[i]?=some y):∃ x,L[i]?=some x∧f x=y:=by
 rw[List.getElem?_map] at h
 cases q:L[i]? with
 | none=>rw[q] at h;cases h
 | some x=>rw[q] at h;exact⟨x,rfl,Option.some.inj h⟩
noncomputable def b9V (n:Int):List Int:=(List.range n.toNat).map fun i=>((i:Nat):Int)
noncomputable def a4e (w:List Int):List Int:=w.reverse.map fun l=>-l
noncomputable def a1V (n l:Int):Int:=if l < 0 then -(n+l) else n - l
theorem LetOK.neg {n l:Int} (h:LetOK n l):LetOK n (-l):=by unfold LetOK at *;lia
theorem LetOK.flip {n l:Int} (h:LetOK n l):LetOK n (a1V n l):=by unfold LetOK a1V at *;split<;>lia
theorem WordOK.map {n:Int} {w:List Int} {f:Int→Int} (hf:∀ l,LetOK n l→LetOK n (f l)) (h:WordOK n w):WordOK n (w.map f):=fun l hl=>by
 obtain⟨k,hk,rfl⟩:=List.mem_map.mp hl
 exact hf k (h k hk)
theorem WordOK.reverse {n:Int} {w:List Int} (h:WordOK n w):WordOK n w.reverse:=fun l hl=>h l (List.mem_reverse.mp hl)
theorem WordOK.contr {n:Int} {w:List Int} (h:WordOK n w):WordOK n (a4e w):=h.reverse.map fun _=>LetOK.neg
theorem PlOK.map {n:Int} {w:List Int} {f:Int→Int} (hf:∀ l,LetOK n l→LetOK n (f l)) (h:PlOK n w):PlOK n (w.map f):=⟨h.1,h.2.1,by rw[List.length_map];exact h.2.2.1,h.2.2.2.map hf⟩
theorem b6n {f:Int→Int} {w:List Int} (h:∀ l∈w,f l=l):w.map f=w:=by
 conv=>rhs;rw[← List.map_id w]
 exact List.map_congr_left h
theorem b0Z (w:List Int):(w.map fun l=>-l).map (fun l=>-l)=w:=by
 rw[List.map_map]
 exact b6n fun l _=>Int.neg_neg l
theorem b0f (w:List Int):a4e (a4e w)=w:=by
 unfold a4e
 rw[← List.map_reverse,List.reverse_reverse]
 exact b0Z w
theorem LetOK.ne {n l:Int} (h:LetOK n l):l≠0:=by unfold LetOK at h;lia
theorem b1l (l:Int) (w:List Int):a4e (l :: w)=a4e w++[-l]:=by unfold a4e;rw[List.reverse_cons,List.map_append];rfl
noncomputable def rowL (k:Nat):List Int:=(List.range k).map fun i=>((i:Nat):Int)+1
end LM
namespace L2
open PySem PySem.Spec PyProof.Rows LM
theorem b0F (x:Str) (N:List Str) (t:T) (ts:List T):a3Z (x :: N) (t :: ts)=some t :: a3Z N ts:=by
 unfold a3Z
 simp only[List.map_cons,List.length_cons,Nat.add_sub_add_right,List.cons_append]
theorem b0E (x:Str) (N:List Str):a3Z (x :: N) []=none :: a3Z N []:=by
 unfold a3Z
 simp only[List.map_nil,List.length_cons,List.length_nil,Nat.sub_zero,List.nil_append,List.replicate_succ]
theorem b2B:a3Z [] []=[]:=rfl
theorem b2M (ix:List (Option Nat)) (ρ:En):a8p (none :: ix) ρ=none :: a8p ix ρ:=rfl
theorem b2L (j:Nat) (ix:List (Option Nat)) (ρ:En):a8p (some j :: ix) ρ=(ρ[j]?).join :: a8p ix ρ:=rfl
theorem b4i (ρ:En):a8p [] ρ=[]:=rfl
theorem b4H {α:Type} (a:Option α):(some a).join=a:=rfl
theorem a0f {M:MH} {Q:VK3} {t:T} {M':MH} (h:Q t M'):rt3 M Q t M':=⟨M',Sub.refl,h⟩
theorem c1g {α:Type} (x:α) (xs:List α):atI (x :: xs) 0=some x:=by
 have:=a5k (xs:=x :: xs) (j:=0) (v:=x) rfl
 simpa using this
theorem c2o {α:Type} (x y:α) (xs:List α):atI (x :: y :: xs) 1=some y:=by
 have:=a5k (xs:=x :: y :: xs) (j:=1) (v:=y) rfl
 simpa using this
theorem c2n {α:Type} (x y z:α) (xs:List α):atI (x :: y :: z :: xs) 2=some z:=by
 have:=a5k (xs:=x :: y :: z :: xs) (j:=2) (v:=z) rfl
 simpa using this
theorem c2f (n:Nat):ixN (n+1) 0=some 0:=by
 unfold ixN
 rw[if_pos (by lia),if_pos (by lia)];rfl
theorem a5m {M:MH} {a:Addr} {o u:MO}:updM (updM M a o) a u=updM M a u:=by
 funext b;unfold updM;split<;>rfl
theorem a6x (ns:List Int) (i:Int) (h0:0≤i) (h:i < ns.length):atI (ns.map T.int) i=some (.int (ns.getD i.toNat 0)):=by
 have e:i=((i.toNat:Nat):Int):=by lia
 have hl:i.toNat < ns.length:=by lia
 have:=a5k (xs:=ns.map T.int) (j:=i.toNat) (v:=.int (ns.getD i.toNat 0)) (by
  rw[List.getElem?_map,List.getElem?_eq_getElem hl]
  simp [List.getD,List.getElem?_eq_getElem hl])
 rw[← e] at this
 exact this
theorem b0s (bs:List Bool):a8U (bs.map T.bl)=some bs:=by
 induction bs with
 | nil=>rfl
 | cons b bs ih=>show (a8U (bs.map T.bl)).map (b :: ·)=_;rw[ih];rfl
theorem b0R (ns:List Int):a1o (ns.map T.int)=true:=by
 induction ns with
 | nil=>rfl
 | cons n ns ih=>show (a0E (.int n) && a1o (ns.map T.int))=true;rw[ih];rfl
theorem b3o (ns:List Int):a4g (ns.map T.int)=0:=by
 induction ns with
 | nil=>rfl
 | cons n ns ih=>show max (depT (.int n)) (a4g (ns.map T.int))=0;rw[ih];rfl
theorem b4V (a b:List Int):eqTs (a.map T.int) (b.map T.int)=decide (a=b):=by
 induction a generalizing b with
 | nil=>cases b<;>simp [eqTs]
 | cons x a ih =>
   cases b with
   | nil=>simp [eqTs]
   | cons y b =>
     show (eqT (.int x) (.int y) && eqTs (a.map T.int) (b.map T.int))=_
     rw[ih]
     have:eqT (.int x) (.int y)=(x == y):=rfl
     rw[this]
     by_cases h1:x=y<;>by_cases h2:a=b<;>simp [h1,h2]
theorem b8U (a b:List T):eqT (.tup a) (.tup b)=eqTs a b:=rfl
theorem a3V (a b:Int):eqT (.int a) (.int b)=decide (a=b):=by
 show (a == b)=_
 by_cases h:a=b<;>simp [h]
theorem b4W (x y:T) (a b:List T):eqTs (x :: a) (y :: b)=(eqT x y && eqTs a b):=rfl
theorem b6z:eqTs [] []=true:=rfl
theorem a3R (x:T) (a:List T):a1o (x :: a)=(a0E x && a1o a):=rfl
theorem b2J:a1o []=true:=rfl
theorem a6M (i:Int):a0E (.int i)=true:=rfl
theorem b5R (i:Bool):a0E (.bl i)=true:=rfl
theorem a9m (i:List T):a0E (.tup i)=a1o i:=rfl
theorem a3W (i:Int):depT (.int i)=0:=rfl
theorem b8X (i:Bool):depT (.bl i)=0:=rfl
theorem b2h (i:List T):depT (.tup i)=a4g i+1:=rfl
theorem a4J (x:T) (a:List T):a4g (x :: a)=max (depT x) (a4g a):=rfl
theorem b5d:a4g []=0:=rfl
theorem a6A {M:MH} {p:Addr} {o:MO} (h:M p=some o):updM M p o=M:=by
 funext b;unfold updM;split
 ·rename_i e;rw[e,h]
 ·rfl
theorem Sub.set {M M':MH} {p:Addr} {o u:MO} (h:Sub (updM M p o) M'):Sub (updM M p u) (updM M' p u):=fun a v e=>by
 by_cases ha:a=p
 ·subst ha;rw[a0i] at e⊢;exact e
 ·rw[a0s ha] at e⊢
  exact h a v (by rw[a0s ha];exact e)
theorem Sub.newr {M M':MH} {r:Addr} {o:MO} (h:Sub M M') (hr:M' r=none):Sub M (updM M' r o):=h.trans (Sub.new hr)
theorem a0x {M:MH} {Q:VK3} {t:T} {M0 M':MH} (h:Q t M0) (s:Sub M0 M'):rt3 M Q t M':=⟨M0,s,h⟩
theorem b8E {n:Nat} {k:Int} (h0:0≤k) (h:k < n):ixN n k=some k.toNat:=by
 unfold ixN
 rw[if_pos h0,if_pos h]
theorem a1u (a:Int) (n:Nat):(a1I a n).length=n:=by unfold a1I;simp
theorem Sub.updF {M M':MH} {p:Addr} {o:MO} (h:Sub M M') (hp:M p=none):Sub M (updM M' p o):=fun a v e=>by
 have ha:a≠p:=by rintro rfl;rw[hp] at e;cases e
 rw[a0s ha];exact h a v e
end L2
namespace L2
open PySem PySem.Spec PyProof.Rows
section
variable {prog:Program} {w:World} {A:Around} {E:Value→Shared→Prop} {s:Shared}
end
section
variable {X:Cx}
end
theorem a3Q {n i:Nat} {x:T} (h:(a1I 0 n)[i]?=some x):i < n∧x=.int i:=by
 have hl:=(List.getElem?_eq_some_iff.mp h).1
 rw[a1u] at hl
 unfold a1I at h
 rw[List.getElem?_map,List.getElem?_range hl] at h
 have e:=Option.some.inj h
 refine⟨hl,?_⟩
 rw[← e]
 simp
theorem a0V {n:Nat} (h:n < 10000):n < sizeLine:=Nat.lt_of_le_of_lt (by lia:n≤10000) (by decide)
theorem a0A {n:Nat} (h:n < 10000):n≤sizeLine:=Nat.le_of_lt (a0V h)
end L2
namespace HT
open PySem PySem.Spec PyProof.Rows
section
variable {prog:Program} {w:World} {A:Around} {E:Value→Shared→Prop} {s:Shared}
theorem getItem_tuple_all {t sl:Addr} {items:Array Value} {vl vu:Value} {lo hi:Option Int} {Q:Value→Shared→Prop} (ht:IsTup s.heap t items) (hs:s.heap.IsSliceOf sl vl vu .none) (pl:IsPart vl lo) (pu:IsPart vu hi)
  (hw:sIx items.size 0 lo=0∧sIx items.size items.size hi=items.size) (h:Q (.ref t) s)
  (hsz:items.size≤sizeLine):wpAny (model prog w) A (getItem (.ref t) (.ref sl)) Q E s:=by
 obtain⟨os,hos,hcs,hds⟩:=id hs
 have hTs:s.TypeIs (.ref sl) "slice":=⟨os,hos,hcs⟩
 unfold getItem
 try with_reducible refine wpAny_holding ?_
 first | refine wpAny_bind (wpAny_pure ?_) | skip
 refine wpAny_bind (wpAny_sequenceKey ht.typeIs (by decide) ?_)
 refine wpAny_bind (wpAny_callSpecial?_slot (name:=Str.ofString "__getitem__") ht.typeIs PyProof.Rows.slot_tuple_getitem
  (wpAny_call_entry PyProof.Rows.slot_tuple_getitem ht.typeIs entry_tuple_getitem ?_ (args_tuple_getitem _ _)))
 show wpAny _ _ (Builtin.Tuple.tupleItemsOf (.ref t) >>= _) _ _ s
 refine wpAny_bind (tupleItemsOf_ ht ?_)
 refine wpAny_bind (wpAny_typeOf hTs ?_)
 rw[if_pos (by decide)]
 refine wpAny_bind (a4a hs pl pu ?_)
 have hyes:(((sIx items.size 0 lo:Nat):Int) == 0 && (1:Int) == 1 && (sIx items.size items.size hi - sIx items.size 0 lo) == items.size)=true:=by
  rw[hw.1,hw.2]
  simp
 show wpAny _ _ (if (((sIx items.size 0 lo:Nat):Int) == 0 && (1:Int) == 1 && (sIx items.size items.size hi - sIx items.size 0 lo) == items.size)=true then _ else _) _ _ s
 rw[if_pos hyes]
 refine wpAny_bind (m:=Builtin.Tuple.tupleIsExact (.ref t)) (wpAny_bind (wpAny_typeOf ht.typeIs (wpAny_pure ?_)))
 rw[if_pos (by decide)]
 refine wpAny_bind (wpAny_rule ?_)
 first
  | exact wpAny_pure ⟨_,rfl,wpAny_pure h⟩
  | exact wpAny_bind (wpAny_pure (wpAny_pure ⟨_,rfl,wpAny_pure h⟩))
end
end HT
namespace L2
open PySem PySem.Spec PyProof.Rows
section
variable {X:Cx}
noncomputable def cutT (xs:List T) (lo hi:Option Int):List T:=(xs.drop (HT.sIx xs.length 0 lo)).take (HT.sIx xs.length xs.length hi - HT.sIx xs.length 0 lo)
noncomputable def c1L (K:PySem.W.Frag):V→Option Int→Option Int→Hp→VK→Prop:=fun x lo hi H Q=>∃ a xs,x=.ref a∧SqT K H a xs ∧
 ∀ p H',SqT K H' p (cutV xs lo hi)→(H'=H∨H p=none∧H'=upd H p (.tup (cutV xs lo hi)))→Q (.ref p) H'
theorem b7I:SlR X (c1L X.K):=by
 intro pins s σ H x v vl vu lo hi sl Q I rx hs pl pu h
 obtain⟨a,xs,rfl,hx,q⟩:=h
 by_cases hw:HT.sIx xs.length 0 lo=0∧HT.sIx xs.length xs.length hi=xs.length
 ·cases rx
  obtain⟨its,r,ht,hz⟩:=I.tuple hx
  have hlen:its.toArray.size=xs.length:=by rw[List.size_toArray];exact r.length.symm
  refine⟨"tuple",_,PyProof.Rows.slot_tuple_getitem.lookup,ht.typeIs,?_⟩
  refine HT.getItem_tuple_all ht hs pl pu (by rw[hlen];exact hw) ?_ (by rw[hlen];exact hz)
  have e:cutV xs lo hi=xs:=by
   unfold cutV
   rw[hw.1,hw.2]
   simp
  exact⟨.ref a,H,I,rfl,q a H (by rw[e];exact hx) (.inl rfl)⟩
 ·exact b9L pins s σ H _ v vl vu lo hi sl Q I rx hs pl pu ⟨a,xs,rfl,hx,hw,fun p hp=>q p _ (SqT.of a0B) (.inr ⟨hp,rfl⟩)⟩
theorem Reps.cut {K:PySem.W.Frag} {H:Hp} {xs:List V} {ts:List T} (r:Reps K H xs ts) (lo hi:Option Int):Reps K H (cutV xs lo hi) (cutT ts lo hi):=by
 unfold cutV cutT
 rw[r.length]
 exact (r.drop _).take _
noncomputable abbrev TO3:=En→MH→(Option Int→MH→Prop)→Prop
noncomputable def HPo (X:Cx) (e:Option Expr) (t:TO3):Prop:=∀ ρ M Q,t ρ M Q→PO X e (fun σ H Q2=>RhoR X.K σ H ρ∧HR X.K H M∧∀ o M' H',Kp X.K H H'→HR X.K H' M'→Q o M'→Q2 o H')
noncomputable def dPo (K:PySem.W.Frag) (ρ:En) (t:TO3):TO:=fun σ H Q2=>∃ M Q,t ρ M Q∧RhoR K σ H ρ∧HR K H M∧∀ o M' H',Kp K H H'→HR K H' M'→Q o M'→Q2 o H'
theorem HPo.d {e:Option Expr} {t:TO3} {ρ:En} (h:HPo X e t):PO X e (dPo X.K ρ t):=fun pins s σ H Q I ⟨M,Q3,q,b⟩=>h ρ M Q3 q pins s σ H Q I b
theorem PO.imp {e:Option Expr} {w w':TO} (h:PO X e w) (f:∀ σ H Q,w' σ H Q→w σ H Q):PO X e w':=fun pins s σ H Q I q=>h pins s σ H Q I (f σ H Q q)
noncomputable def tNo3:TO3:=fun ρ M Q=>Q none M
noncomputable def tPt3 (t:TE3):TO3:=fun ρ M Q=>t ρ M fun x M1=>match x with
 | .int i=>Q (some i) M1
 | _=>False
theorem a1p:HPo X none tNo3:=fun ρ M Q h=>b8k.imp fun σ H Q2 ⟨hr,hh,en⟩=>en _ _ _ Kp.refl hh h
theorem a1c {e:Expr} {t:TE3} (he:HE X e t):HPo X (some e) (tPt3 t):=fun ρ M Q h=>(b8j (he.d (ρ:=ρ))).imp fun σ H Q2 ⟨hr,hh,en⟩ =>
 ⟨M,_,h,hr,hh,fun x v M1 H1 k1 h1 r1 q1=>by
  dsimp only at q1
  split at q1
  ·obtain rfl:=a0D r1
   exact⟨_,rfl,en _ _ _ k1 h1 q1⟩
  ·exact q1.elim⟩
noncomputable def rSlS:V→Option Int→Option Int→Hp→VK→Prop:=fun x lo hi H Q=>∃ z,x=.str z∧z.length≤sizeLine∧Q (.str (Txt.slice z lo hi)) H
theorem b9M:SlR X rSlS:=by
 intro pins s σ H x v vl vu lo hi sl Q I rx hs pl pu h
 obtain⟨z,rfl,hz,q⟩:=h
 obtain⟨t,rfl⟩:=rx
 refine⟨"str",_,F.slot_str_getitem.lookup,typeIs_str _ _ _,?_⟩
 have fin:∀ t' k,EP X pins σ Q (.str (Txt.slice z lo hi) t') { s with toks:=k }:=fun t' k=>⟨.str _,H,I.kept fun b o e=>e,⟨_,rfl⟩,q⟩
 have hl:(Txt.slice z lo hi).length≤sizeLine:=Nat.le_trans (Txt.slice_le z _ _) hz
 cases pl with
 | none=>cases pu with
   | none=>exact wpAny_getItem_str_slice (l:=none) (u:=none) (st:=none) hs rfl (post_val_or_str ⟨hl,fin⟩)
   | int j uj=>exact wpAny_getItem_str_slice (l:=none) (u:=some (j,uj)) (st:=none) hs rfl (post_val_or_str ⟨hl,fin⟩)
 | int i ui=>cases pu with
   | none=>exact wpAny_getItem_str_slice (l:=some (i,ui)) (u:=none) (st:=none) hs rfl (post_val_or_str ⟨hl,fin⟩)
   | int j uj=>exact wpAny_getItem_str_slice (l:=some (i,ui)) (u:=some (j,uj)) (st:=none) hs rfl (post_val_or_str ⟨hl,fin⟩)
noncomputable def tSl3 (te:TE3) (tl th:TO3):TE3:=fun ρ M Q=>te ρ M fun x M1=>tl ρ M1 fun l M2=>th ρ M2 fun u M3=>match x with
 | .tup ts=>Q (.tup (cutT ts l u)) M3
 | .adr p=>(match M3 p with
   | some (.lst ts)=>∀ r,M3 r=none→Q (.adr r) (updM M3 r (.lst (cutT ts l u)))
   | _=>False)
 | .str z=>z.length≤sizeLine∧Q (.str (Txt.slice z l u)) M3
 | _=>False
theorem a0N {e:Expr} {lo hi:Option Expr} {te:TE3} {tl th:TO3} {pos p2:Pos} (he:HE X e te) (hl:HPo X lo tl) (hu:HPo X hi th):HE X (.Subscript e (.Slice lo hi none p2) pos) (tSl3 te tl th):=fun ρ M Q h =>
 (b5X ((b7I.or b7J).or b9M) (he.d (ρ:=ρ)) (hl.d (ρ:=ρ)) (hu.d (ρ:=ρ))).imp fun σ H Q2 ⟨hr,hh,en⟩ =>
  ⟨M,_,h,hr,hh,fun x v M1 H1 k1 h1 r1 q1=>⟨M1,_,q1,hr.kp k1,h1,fun l M2 H2 k2 h2 q2=>⟨M2,_,q2,hr.kp (k1.trans k2),h2,fun u M3 H3 k3 h3 q3=>by
   have r3:=Rep.kp (k2.trans k3) _ _ r1
   have k13:=(k1.trans k2).trans k3
   split at q3
   ·rename_i ts
    obtain⟨a,xs,rfl,g1,g2⟩:=a1d r3
    refine .inl (.inl ⟨a,xs,rfl,g1,fun p H' h' c=>?_⟩)
    rcases c with rfl | ⟨c1,rfl⟩
    ·exact en _ _ _ _ k13 h3 (a1v h' (g2.cut l u)) q3
    ·exact en _ _ _ _ (k13.trans (Kp.new c1)) (h3.keep c1) (a1v h' (Reps.kp (Kp.new c1) _ _ (g2.cut l u))) q3
   ·obtain rfl:=a0F r3
    split at q3
    ·rename_i ts e0
     obtain⟨xs,g1,g2⟩:=h3 _ _ e0
     refine .inl (.inr ⟨_,xs,rfl,SqL.of g1,fun p hp=>?_⟩)
     exact en _ _ _ _ (k13.trans (Kp.new hp)) (h3.newL hp (g2.cut l u)) a1R (q3 p (h3.free hp))
    ·exact q3.elim
   ·obtain rfl:=a2k r3
    exact .inr ⟨_,rfl,q3.1,en _ _ _ _ k13 h3 a8l q3.2⟩
   ·exact q3.elim⟩⟩⟩
theorem b8Z (xs:List T) (k:Int) (h0:0≤k) (h1:k≤xs.length):cutT xs none (some k)=xs.take k.toNat:=by
 unfold cutT
 have e:k=((k.toNat:Nat):Int):=by lia
 rw[e,HT.sIx_nat,HT.sIx_none,List.drop_zero,Nat.sub_zero,Nat.min_eq_left (by lia),Int.toNat_natCast]
theorem b5i (xs:List T) (k:Int) (h0:0≤k) (h1:k≤xs.length):cutT xs (some k) none=xs.drop k.toNat:=by
 unfold cutT
 have e:k=((k.toNat:Nat):Int):=by lia
 rw[e,HT.sIx_nat,HT.sIx_none,Nat.min_eq_left (by lia),Int.toNat_natCast]
 exact List.take_of_length_le (by rw[List.length_drop];exact Nat.le_refl _)
end
end L2
namespace HT
open PySem PySem.Spec PyProof.Rows
section
variable {prog:Program} {w:World} {A:Around} {E:Value→Shared→Prop} {s:Shared}
end
end HT
namespace L2
open PySem PySem.Spec PyProof.Rows
section
variable {X:Cx}
end
section
variable {X:Cx}
end
section
variable {X:Cx}
end
section
variable {X:Cx}
end
section
variable {X:Cx} {es:List Expr} {e:Expr} {t:TA3}
end
section
variable {X:Cx} {es:List Expr} {e:Expr} {t:TA3}
noncomputable def b7H:List T→Option (List Str)
 | []=>some []
 | .str i :: ts=>(b7H ts).map (i :: ·)
 | _ :: _=>none
theorem a9b:∀ (ns:List Str),b7H (ns.map T.str)=some ns
 | []=>rfl
 | n :: ns=>by show (b7H (ns.map T.str)).map (n :: ·)=_;rw[a9b ns];rfl
end
section
variable {prog:Program} {w:World} {A:Around} {E:Value→Shared→Prop} {s:Shared}
theorem b1e {R:Result→Shared→Prop} {S r:Addr} {a b c:Int} {t u v:Tok} {n:Nat} (hh:A.handled=none) (hr:IsRange s.heap r a b c t u v) (hsmall:Builtin.Range.small a b c=true)
  (hn:Builtin.Range.rangeSize a b c=n) (hlen:n≤2 ^ 24) (hS:s.heap.get? S=some { cls:=.type "list",data:=.seq #[] 0 })
  (hR:∀ (h':Heap) (tk:Tok) (acc':Array Value) (c':Nat),(∀ b o,b≠S→s.heap.get? b=some o→h'.get? b=some o)→h'.get? S=some { cls:=.type "list",dict:=none,data:=.seq acc' c',slots:=#[] } →
   ItemsOf (fun i v=>∃ t,v=.int (a+i*c) t) acc' n→R (.ok (.ret (.ref S))) { s with heap:=h',toks:=tk }) :
  codeAny (model prog w) A (.builtin "list.__iadd__" ⟨[.ref S,.ref r],[]⟩) R s:=by
 refine codeAny_builtin F.entry_list_iadd ?_
 rw[Around.under_plainId F.plain_list_iadd _]
 show wpAny _ A.in1 (Builtin.List.listExtendWith (.ref S) (.ref r) (.ref S)) _ _ _
 exact wpAny_extend_range hh hr hsmall hn hlen S (.ref S) 0 hS hR
theorem a7v {Q:List Value→Shared→Prop} {r:Addr} {a b c:Int} {t u v:Tok} {n:Nat} (hh:A.handled=none) (hr:IsRange s.heap r a b c t u v) (hsmall:Builtin.Range.small a b c=true)
  (hn:Builtin.Range.rangeSize a b c=n) (hlen:n≤2 ^ 24)
  (hQ:∀ (h':Heap) (tk:Tok) (acc':Array Value),(∀ b o,s.heap.get? b=some o→h'.get? b=some o)→ItemsOf (fun i v=>∃ t,v=.int (a+i*c) t) acc' n→Q acc'.toList { s with heap:=h',toks:=tk }) :
  wpAny (model prog w) A (collect (.ref r)) Q E s:=by
 unfold collect
 refine wpAny_bind (wpAny_runValue (codeAny_builtin F.entry_proto_collect ?_))
 rw[Around.under_plainId F.plain_proto_collect _]
 show wpAny _ A.in1 (newList [] >>= fun l=>again (.builtin "list.__iadd__" ⟨[l,.ref r],[]⟩)) _ _ s
 refine wpAny_bind (wpAny_newObj_type ?_)
 have hS₁:(s.heap.push { cls:=.type "list",data:=.seq ([]:List Value).toArray }).get? s.heap.objs.size=some { cls:=.type "list",data:=.seq #[] }:=Heap.get?_push_size _ rfl
 refine wpAny_pure ⟨plainId_quiet F.plain_list_iadd _,b1e (s:={ s with heap:=s.heap.push { cls:=.type "list",data:=.seq ([]:List Value).toArray } }) hh (Heap.get?_push_of_some _ hr) hsmall hn hlen hS₁ fun h' tk acc' c' hk hS hacc=>?_⟩
 show wpAny _ A (load s.heap.objs.size >>= _) _ _ _
 refine wpAny_bind (wpAny_load hS ?_)
 exact wpAny_pure (hQ h' tk acc' (fun b o e=>hk b o (Nat.ne_of_lt (Heap.lt_size e)) (Heap.get?_push_of_some _ e)) hacc)
theorem a4O {Q₁:Value→Shared→Prop} {r:Addr} {a b c:Int} {t u v:Tok} {n:Nat} (hh:A.handled=none) (hr:IsRange s.heap r a b c t u v) (hsmall:Builtin.Range.small a b c=true)
  (hn:Builtin.Range.rangeSize a b c=n) (hlen:n≤2 ^ 24)
  (h:∀ (h':Heap) (tk:Tok) (acc:Array Value),(∀ b o,s.heap.get? b=some o→h'.get? b=some o)→ItemsOf (fun i v=>∃ t,v=.int (a+i*c) t) acc n→Q₁ (.ref h'.objs.size) { s with heap:=h'.push { cls:=.type "tuple",data:=.seq acc },toks:=tk }) :
  codeAny (model prog w) A (.call (.builtin "tuple.__new__") ⟨[.type "tuple",.ref r],[]⟩) (wants Q₁ E) s:=by
 refine codeAny_of_tree ?_
 show wpAny _ A.in1 (do checkBuiltinCall "tuple.__new__" ⟨[.type "tuple",.ref r],[]⟩;again (.builtin "tuple.__new__" ⟨[.type "tuple",.ref r],[]⟩)) _ _ s
 refine wpAny_bind (wpAny_of_eq (F.newCall_tuple_1 _) (wpAny_pure ⟨plainId_quiet F.plain_tuple_new _,codeAny_builtin F.entry_tuple_new ?_⟩))
 rw[Around.under_plainId F.plain_tuple_new _]
 have hsub:=sub_tuple_self
 have hinit:=init_tuple_lookup
 have hmh:=madeHere_tuple
 have hTI:s.TypeIs (.ref r) "range":=⟨_,hr,rfl⟩
 wp_walk using wpAny_typeOf hTI,a7v (n:=n) (A:=A.in1) hh hr hsmall hn hlen
 intro h' tk acc hk hacc
 show wpAny _ _ (Builtin.Tuple.tupleExact acc.toList.toArray >>= fun v=>ret v) _ _ _
 unfold Builtin.Tuple.tupleExact
 refine wpAny_bind (wpAny_newObj_type ?_ (by show acc.toList.toArray.size≤sizeLine;simp only[Array.toArray_toList];rw[hacc.1,sizeLine_eq];lia))
 refine wpAny_pure ?_
 have e:acc.toList.toArray=acc:=by simp
 rw[e]
 exact h h' tk acc hk hacc
theorem a3z {Q:Value→Shared→Prop} {r:Addr} {a b c:Int} {t u v:Tok} {n:Nat} (hh:A.handled=none) (hr:IsRange s.heap r a b c t u v) (hsmall:Builtin.Range.small a b c=true)
  (hn:Builtin.Range.rangeSize a b c=n) (hlen:n≤2 ^ 24)
  (hQ:∀ (h':Heap) (tk:Tok) (acc:Array Value),(∀ b o,s.heap.get? b=some o→h'.get? b=some o)→ItemsOf (fun i v=>∃ t,v=.int (a+i*c) t) acc n→Q (.ref h'.objs.size) { s with heap:=h'.push { cls:=.type "tuple",data:=.seq acc },toks:=tk }) :
  wpAny (model prog w) A (call (.type "tuple") [.ref r]) Q E s:=by
 refine callType_codes (Q₁:=fun obj s₁=>s₁.TypeIs obj "tuple"∧Q obj s₁) F.called_tuple (F.typeCall_tuple_1 _) F.entry_object_init
  (a4O (A:=A.in1) (Q₁:=fun obj s₁=>s₁.TypeIs obj "tuple"∧Q obj s₁) hh hr hsmall hn hlen fun h' tk acc hm hacc=>⟨⟨_,Heap.get?_push_size _ rfl,rfl⟩,hQ h' tk acc hm hacc⟩) fun obj s₁ h₁=>?_
 exact⟨h₁.1,F.args_object_init_2 obj _,object_init_meets F.called_tuple.init.lookup F.called_tuple.made (by decide) prog w A.in1 _ s₁ ⟨h₁.1,rfl,h₁.2⟩⟩
end
section
open AutoSeq1 (wpAny_loadPart')
open SeqAt (EqAt)
end
section
variable {X:Cx} {a b e:Expr} {es:List Expr} {ta te:TE3} {t:TA3} {pos:Pos}
noncomputable def b6O (t:TA3):TE3:=fun ρ M Q=>t ρ M fun xs M1=>match xs with
 | [.int j]=>(-(2 ^ 62)≤j∧j < 2 ^ 24)∧Q (.tup (a1I 0 j.toNat)) M1
 | _=>False
theorem b1g {t:TA3} {p p' pos':Pos} (hm:X.mg "tuple"=none) (hm':X.mg "range"=none) (ha:HA X [a] t) (hc:X.calm=true:=by rfl) (hg:Gl X "tuple":=by rfl) (hg':Gl X "range":=by rfl) (hs:starEach [a] X.env=[(false,eval a X.env)]:=by rfl)
  (he:starEach [.Call (.Name "range" p') [a] [] pos'] X.env=(false,eval (.Call (.Name "range" p') [a] [] pos') X.env) :: starEach [] X.env:=by rfl) :
  HE X (.Call (.Name "tuple" p) [.Call (.Name "range" p') [a] [] pos'] [] pos) (b6O t):=by
 intro ρ M Q h pins s σ H Q2 I bb
 obtain⟨hr,hh,en⟩:=bb
 refine wpAny_Call_Name_kw (a6h I hg hm boot_tuple ?_ (by decide) (by decide))
 refine PyProof.Rows.callWith_type1 ?_ he rfl
 rw[he]
 refine Calls.spliced_cons ?_
 refine Call_ (a6h I hg' hm' boot_range (PyProof.Rows.callWith_type1 (thn (ha ρ M _ h pos' pins s σ H (fun vs H1=>∃ j M1,vs=[V.int j]∧HR X.K H1 M1∧Kp X.K H H1∧(-(2 ^ 62)≤j∧j < 2 ^ 24)∧Q (.tup (a1I 0 j.toNat)) M1) I
  ⟨hr,hh,fun ts vs M1 H1 k1 h1 r1 q1=>by
   dsimp only at q1
   split at q1
   ·rename_i j
    obtain⟨v,rfl,rv⟩:=a2j r1
    obtain rfl:=a0D rv
    exact⟨j,M1,rfl,h1,k1,q1.1,q1.2⟩
   ·exact q1.elim⟩) fun us s1 ⟨vs,H1,I1,rv,j,M1,e1,h1,k1,hj,q1⟩=>?_) hs rfl))
 subst e1
 obtain⟨u,rfl,t',rfl⟩:=a5Q rv
 refine call_range_1 (Calls.spliced_nil ?_)
 have I2:Inv X pins σ H1 { s1 with heap:=s1.heap.push { cls:=.type "range",data:=.fields #[.int 0 s1.toks,.int j t',.int 1 (s1.toks+1)] },toks:=s1.toks+2 }:=I1.kept fun b o e=>Heap.get?_push_of_some _ e
 have hn:Builtin.Range.rangeSize 0 j 1=((j.toNat:Nat):Int):=by rw[rangeSize_one];split<;>lia
 refine a3z (I1.ok.hd hc) (IsRange.new ..) (small_one (by lia) (by lia) (by lia) (by lia)) hn (by lia) fun h' tk acc' kp ito=>?_
 have hz:j.toNat≤sizeLine:=by rw[sizeLine_eq];lia
 have vr:Vals (a1S 0 j.toNat) acc'.toList:=by
  refine a4U (by unfold a1S;simp [ito.1]) fun i x ex=>?_
  have hi:i < j.toNat:=by have:=(List.getElem?_eq_some_iff.mp ex).1;simpa [a1S] using this
  have hi':i < acc'.size:=by rw[ito.1];exact hi
  have ea:acc'[i]?=some acc'[i]:=Array.getElem?_eq_getElem hi'
  obtain⟨tt,et⟩:=ito.2 i _ ea
  refine⟨acc'[i],by rw[Array.getElem?_toList];exact ea,?_⟩
  unfold a1S at ex
  rw[List.getElem?_map,List.getElem?_range hi] at ex
  have:=Option.some.inj ex
  subst this
  exact⟨tt,by rw[et,Int.mul_one]⟩
 have I2':Inv X pins σ H1 { s1 with heap:=h',toks:=tk }:=I2.kept (h':=h') (t':=tk) kp
 have eacc:acc'.toList.toArray=acc':=by simp
 have I3:Inv X pins σ (upd H1 h'.objs.size (.tup (a1S 0 j.toNat))) { s1 with heap:=h'.push { cls:=.type "tuple",data:=.seq acc' },toks:=tk } :=
  I2'.laid (t':=tk) (fun b o e=>Heap.get?_push_of_some _ e) (Nat.le_refl _) (show a1G X.prog X.w _ _ _ (.tup (a1S 0 j.toNat)) from
   ⟨by unfold a1S;simpa using hz,acc'.toList,vr,by rw[eacc];exact a2R.new _ _⟩)
 have hf:=I2'.hok.fresh (Nat.le_refl _)
 have nw:=Kp.new (K:=X.K) (H:=H1) (o:=.tup (a1S 0 j.toNat)) hf
 exact⟨.ref h'.objs.size,_,I3,rfl,en _ _ _ _ (k1.trans nw) (h1.keep hf) (a1v (SqT.of a0B) (a6K 0 j.toNat)) q1⟩
end
section
open AutoSeq1
theorem a8N (l:Addr) (items:Array Value) (n:Nat) (b:Addr) (items2:Array Value) (n2:Nat) (sl:Array (Option Value)) (hs0:¬(!items.isEmpty && Builtin.List.listTooLong (items.size+items2.size))=true) (hs1:items.size≤sizeLine) (hs2:items.size+items2.size≤sizeLine+1) :
  Meets (Builtin.«list.extend» ⟨[.ref l,.ref b],[]⟩) (fun _ R s=>s.heap.get? l=some { cls:=.type "list",dict:=none,data:=.seq items n,slots:=#[] }∧s.heap.get? b=some { cls:=.type "tuple",dict:=none,data:=.seq items2 n2,slots:=sl }∧R (.ok (.ret Value.none)) { s with heap:=s.heap.update l (Obj.mapSeq fun x=>x++items2),toks:=s.toks }) :=
 .of_wp fun prog w A R s h=>by
  obtain⟨hp,g,d,tk,os⟩:=s;obtain⟨hl,hb,h⟩:=h;have f1:=idx_int;have f2:=AutoSeq1.sub_tuple_tuple;have f3:=AutoSeq1.sub_list_list;have f4:=AutoSeq1.sub_tuple_list;have f5:=AutoSeq1.sub_list_tuple;
  have hz':(items++items2).size≤sizeLine+1:=by rw[Array.size_append];exact hs2
  wp_walk using (wpAny_updateSeq hl rfl (hz:=hs1) (_hz':=hz')),wpAny_loadPart' hl,wpAny_loadPart' hb;exact⟨_,rfl,h⟩
end
section
variable {X:Cx} {a b e f:Expr} {es:List Expr} {ta te:TE3} {t:TA3} {pos:Pos}
noncomputable def b5P:RM3:=fun x xs M Q=>match x,xs with
 | .adr p,[.tup us]=>(match M p with | some (.lst ts)=>ts.length+us.length≤sizeLine∧Q .non (updM M p (.lst (ts++us))) | _=>False)
 | .adr p,[.adr q]=>(match M p,M q with | some (.lst ts),some (.lst us)=>ts.length+us.length≤sizeLine∧Q .non (updM M p (.lst (ts++us))) | _,_=>False)
 | _,_=>False
theorem b2W:MtR3 X "list.extend" b5P:=by
 intro pins s σ H v vs u us Q2 I rv rvs h
 obtain⟨x,xs,M,Q,r1,r2,hh,q,en⟩:=h
 unfold b5P at q
 split at q
 ·rename_i p ys
  split at q
  ·rename_i ts e0
   obtain⟨zs,g1,g2⟩:=hh _ _ e0
   obtain rfl:=a0F r1
   obtain⟨w,rfl,rw'⟩:=a2j r2
   obtain⟨b1,ws,rfl,k1,k2⟩:=a1d rw'
   cases rv
   obtain⟨u2,rfl,ru⟩:=rvs.one
   cases ru
   obtain⟨z,its,n,r,hl,e⟩:=I.lstM g1
   obtain⟨its2,r2',⟨o,eo,ec,ed,n2,edd⟩,hz2⟩:=I.tuple0 k1
   obtain⟨cls,dd,data,sl⟩:=o
   simp only at ec ed edd
   subst ec ed edd
   have l2:=r2'.length
   have l3:=g2.length
   have l4:=k2.length
   have hsz:its.toArray.size+its2.toArray.size≤sizeLine:=by rw[List.size_toArray,List.size_toArray];lia
   have hlong:¬(!its.toArray.isEmpty && Builtin.List.listTooLong (its.toArray.size+its2.toArray.size))=true:=by
    rw[a8F hsz,Bool.and_false]
    exact Bool.false_ne_true
   refine call_meets F.slot_list_extend ⟨_,e,rfl⟩ F.entry_list_extend (F.args_list_extend_2 _ _)
    (a8N p its.toArray n b1 its2.toArray n2 sl hlong (by rw[List.size_toArray];lia) (by lia)) ⟨e,eo,?_⟩
   refine⟨.non,_,I.lset (its':=its++its2) g1 e (by simp) (r.append r2') ?_,rfl,en _ _ _ _ (Kp.lst g1) (hh.setL g1 (g2.append k2)) a6I q.2⟩
   rw[List.length_append]
   lia
  ·exact q.elim
 ·rename_i p b1
  split at q
  ·rename_i ts us' e0 e1
   obtain⟨zs,g1,g2⟩:=hh _ _ e0
   obtain⟨ws,k1,k2⟩:=hh _ _ e1
   obtain rfl:=a0F r1
   obtain⟨w,rfl,rw'⟩:=a2j r2
   obtain rfl:=a0F rw'
   have l3:=g2.length
   have l4:=k2.length
   exact b4y pins s σ H _ _ u us Q2 I rv rvs ⟨_,_,zs,ws,rfl,rfl,g1,k1,by lia,en _ _ _ _ (Kp.lst g1) (hh.setL g1 (g2.append k2)) a6I q.2⟩
  ·exact q.elim
 ·exact q.elim
theorem b3j {o:Expr} {to:TE3} {apos cpos:Pos} (ho:HE X o to) (ha:HA X (e :: es) t)
  (hbase:attributeBase o "extend" X.env (eval o X.env)=eval o X.env:=by rfl)
  (hfew:((backTo cpos (starEach (e :: es) X.env)).all (fun x=>!x.1) && (backToKw cpos (keywordEach [] X.env)).all (fun x=>x.1.isSome)
   && decide ((e :: es).length+([]:List Keyword).length+(if ([]:List Keyword).isEmpty then 0 else 1) < 30))=true:=by rfl)
  (hline:(apos.endLine == cpos.line)=true:=by rfl) (hs:starEach (e :: es) X.env=(false,eval e X.env) :: starEach es X.env:=by rfl) (hplain:(backTo cpos (starEach es X.env)).any (·.1)=false:=by rfl) :
  HE X (.Call (.Attribute o "extend" apos) (e :: es) [] cpos) (tLM3 b5P to t):=h_lm PySem.F.slot_list_extend PySem.F.type_list_extend b2W ho ha hbase hfew hline hs hplain
noncomputable def keyT:Key→T
 | .inl i=>.int i
 | .inr x=>.str x
theorem a6J {K:PySem.W.Frag} {H:Hp} {v:V} {k:Key} (r:Rep K H v (keyT k)):v=kV k:=by
 cases k with
 | inl i=>exact a0D r
 | inr x=>exact a2k r
noncomputable def valT {κ:Type} [DecidableEq κ] (kvs:List (κ × T)) (k:κ):Option T:=(kvs.find? fun kv=>decide (kv.1=k)).map (·.2)
noncomputable def putT {κ:Type} [DecidableEq κ] (kvs:List (κ × T)) (k:κ) (v:T):List (κ × T) :=
 if (kvs.any fun kv=>decide (kv.1=k))=true then kvs.map (fun kv=>if kv.1=k then (kv.1,v) else kv) else kvs++[(k,v)]
theorem KRep.val {κ:Type} [DecidableEq κ] {K:PySem.W.Frag} {H:Hp} (k:κ):∀ {xs:List (κ × V)} {kvs:List (κ × T)},KRep K H xs kvs→(match valT kvs k with | some t=>∃ v,valV xs k=some v∧Rep K H v t | none=>valV xs k=none)
 | [],[],_=>rfl
 | p :: r,q :: u,h=>by
   have ih:=KRep.val k h.2.2
   unfold valT valV at ih⊢
   rw[List.find?_cons,List.find?_cons,h.1]
   by_cases c:q.1=k
   ·simp only[c,decide_true,Option.map_some]
    exact⟨p.2,rfl,h.2.1⟩
   ·simp only[c,decide_false]
    exact ih
 | [],q :: u,h=>h.elim
 | p :: r,[],h=>h.elim
theorem KRep.any {κ:Type} [DecidableEq κ] {K:PySem.W.Frag} {H:Hp} (k:κ):∀ {xs:List (κ × V)} {kvs:List (κ × T)},KRep K H xs kvs→(xs.any fun kv=>decide (kv.1=k))=kvs.any fun kv=>decide (kv.1=k)
 | [],[],_=>rfl
 | p :: r,q :: u,h=>by rw[List.any_cons,List.any_cons,h.1,KRep.any k h.2.2]
 | [],q :: u,h=>h.elim
 | p :: r,[],h=>h.elim
theorem KRep.repl {κ:Type} [DecidableEq κ] {K:PySem.W.Frag} {H:Hp} (k:κ) {v:V} {z:T} (rz:Rep K H v z):∀ {xs:List (κ × V)} {kvs:List (κ × T)},KRep K H xs kvs→KRep K H (xs.map fun kv=>if kv.1=k then (kv.1,v) else kv) (kvs.map fun kv=>if kv.1=k then (kv.1,z) else kv)
 | [],[],_=>trivial
 | p :: r,q :: u,h=>by
   rw[List.map_cons,List.map_cons]
   refine⟨?_,?_,KRep.repl k rz h.2.2⟩
   ·rw[h.1]
    by_cases c:q.1=k
    ·rw[if_pos c,if_pos c]
    ·rw[if_neg c,if_neg c];exact h.1
   ·rw[h.1]
    by_cases c:q.1=k
    ·rw[if_pos c,if_pos c];exact rz
    ·rw[if_neg c,if_neg c];exact h.2.1
 | [],q :: u,h=>h.elim
 | p :: r,[],h=>h.elim
theorem KRep.snoc {κ:Type} {K:PySem.W.Frag} {H:Hp} (k:κ) {v:V} {z:T} (rz:Rep K H v z):∀ {xs:List (κ × V)} {kvs:List (κ × T)},KRep K H xs kvs→KRep K H (xs++[(k,v)]) (kvs++[(k,z)])
 | [],[],_=>⟨rfl,rz,trivial⟩
 | p :: r,q :: u,h=>⟨h.1,h.2.1,KRep.snoc k rz h.2.2⟩
 | [],q :: u,h=>h.elim
 | p :: r,[],h=>h.elim
theorem KRep.put {κ:Type} [DecidableEq κ] {K:PySem.W.Frag} {H:Hp} (k:κ) {v:V} {z:T} (rz:Rep K H v z) {xs:List (κ × V)} {kvs:List (κ × T)} (h:KRep K H xs kvs):KRep K H (putK xs k v) (putT kvs k z):=by
 unfold putK putT
 rw[h.any k]
 split
 ·exact h.repl k rz
 ·exact h.snoc k rz
noncomputable def b7G (tup:Bool):TE3:=fun _ M Q=>∀ p,M p=none→Q (.adr p) (updM M p (if tup then .dt [] else .dk []))
theorem b7k {pos:Pos}:HE X (.Dict [] [] pos) (b7G false):=fun ρ M Q h =>
 (b6a).imp fun σ H Q2 ⟨hr,hh,en⟩=>fun p hp=>en _ _ _ _ (Kp.new hp) (hh.newK hp (kvs:=[]) (xs:=[]) trivial) a1R (h p (hh.free hp))
theorem c0V {pos:Pos}:HE X (.Dict [] [] pos) (b7G true):=fun ρ M Q h =>
 (b5Z).imp fun σ H Q2 ⟨hr,hh,en⟩=>fun p hp=>en _ _ _ _ (Kp.new hp) (hh.newT hp (kvs:=[]) (xs:=[]) trivial) a1R (h p (hh.free hp))
noncomputable def b4L (M:MH) (x:T):Prop:=match x with
 | .adr p=>(match M p with | some (.dk _)=>True | some (.dt _)=>True | _=>False)
 | _=>False
theorem b2b {K:PySem.W.Frag} {H:Hp} {M:MH} {x:T} {v:V} (hh:HR K H M) (r:Rep K H v x) (d:b4L M x):∃ a,v=.ref a∧IsD H a:=by
 cases x with
 | adr p =>
   obtain rfl:=a0F r
   unfold b4L at d
   dsimp only at d
   cases e:M p with
   | none=>rw[e] at d;exact d.elim
   | some o =>
     rw[e] at d
     cases o with
     | lst ts=>exact d.elim
     | dk kvs=>obtain⟨xs,g1,_⟩:=hh _ _ e;exact⟨p,rfl,.inl ⟨xs,.of g1⟩⟩
     | dt kvs=>obtain⟨xs,g1,_⟩:=hh _ _ e;exact⟨p,rfl,.inr ⟨xs,.of g1⟩⟩
     | fz kvs=>exact d.elim
     | fk kvs=>exact d.elim
     | ob C fs=>exact d.elim
 | _=>exact d.elim
noncomputable def b9E (td tk tx:TE3):TE3:=fun ρ M Q=>td ρ M fun x M1=>b4L M1 x∧tk ρ M1 fun k M2=>tx ρ M2 fun z M3=>match x with
 | .adr p=>(match M3 p with
   | some (.dk kvs)=>∃ kk,k=keyT kk∧Q ((valT kvs kk).getD z) M3
   | _=>False)
 | _=>False
theorem b7j {o:Expr} {td tk tx:TE3} {apos cpos:Pos} (hu:X.A.units+64 < cLine) (ho:HE X o td) (he:HE X e tk) (hf:HE X f tx)
  (m1:attributeBase o "get" X.env (eval o X.env)=eval o X.env:=by rfl)
  (m2:((backTo cpos (starEach [e,f] X.env)).all (fun x=>!x.1) && (backToKw cpos (keywordEach [] X.env)).all (fun x=>x.1.isSome)
   && decide (([e,f]:List Expr).length+([]:List Keyword).length+(if ([]:List Keyword).isEmpty then 0 else 1) < 30))=true:=by rfl)
  (m3:(apos.endLine == cpos.line)=true:=by rfl) (m4:backTo cpos (starEach [e,f] X.env)=[(false,eval e X.env),(false,eval f X.env)]:=by rfl) :
  HE X (.Call (.Attribute o "get" apos) [e,f] [] cpos) (b9E td tk tx):=fun ρ M Q h =>
 (b1J (by lia) (ho.d (ρ:=ρ)) (he.d (ρ:=ρ)) (hf.d (ρ:=ρ)) ⟨m1,m2,m3,m4⟩).imp fun σ H Q2 ⟨hr,hh,en⟩=>⟨M,_,h,hr,hh,fun x v M1 H1 k1 h1 r1 q1=>by
  obtain⟨hd,q1⟩:=q1
  obtain⟨a,rfl,isd⟩:=b2b h1 r1 hd
  refine⟨a,rfl,isd,M1,_,q1,hr.kp k1,h1,fun y v2 M2 H2 k2 h2 r2 q2=>⟨M2,_,q2,hr.kp (k1.trans k2),h2,fun z v3 M3 H3 k3 h3 r3 q3=>?_⟩⟩
  cases x with
  | adr p =>
    cases r1
    dsimp only at q3
    split at q3
    ·rename_i kvs e
     obtain⟨kk,rfl,q3⟩:=q3
     obtain rfl:=a6J r2
     obtain⟨xs,g1,g2⟩:=h3 _ _ e
     refine⟨_,DGet.k g1,en _ _ M3 H3 ((k1.trans k2).trans k3) h3 ?_ q3⟩
     have hv:=g2.val kk
     cases ev:valT kvs kk with
     | none=>rw[ev] at hv;rw[hv];exact r3
     | some t =>
       rw[ev] at hv
       obtain⟨u,e1,e2⟩:=hv
       rw[e1];exact e2
    ·exact q3.elim
  | _=>exact hd.elim⟩
noncomputable def tDGK (td tk:TE3):TE3:=fun ρ M Q=>td ρ M fun x M1=>tk ρ M1 fun k M2=>match x with
 | .adr p=>(match M2 p with
   | some (.dk kvs)=>∃ kk t,k=keyT kk∧valT kvs kk=some t∧Q t M2
   | _=>False)
 | _=>False
theorem c0W {o i:Expr} {td tk:TE3} {pos:Pos} (hu:X.A.units+64 < cLine) (ho:HE X o td) (hi:HE X i tk) (hs:NoSl i:=by intro _ _;rfl):HE X (.Subscript o i pos) (tDGK td tk):=fun ρ M Q h =>
 (b8n (by lia) (ho.d (ρ:=ρ)) (hi.d (ρ:=ρ)) hs).imp fun σ H Q2 ⟨hr,hh,en⟩=>⟨M,_,h,hr,hh,fun x v M1 H1 k1 h1 r1 q1=>⟨M1,_,q1,hr.kp k1,h1,fun y v2 M2 H2 k2 h2 r2 q2=>by
  cases x with
  | adr p =>
    cases r1
    dsimp only at q2
    split at q2
    ·rename_i kvs e
     obtain⟨kk,t,rfl,ev,q2⟩:=q2
     obtain rfl:=a6J r2
     obtain⟨xs,g1,g2⟩:=h2 _ _ e
     have hv:=g2.val kk
     rw[ev] at hv
     obtain⟨u,e1,e2⟩:=hv
     exact⟨_,u,rfl,by rw[← e1];exact DGet.k g1,en _ _ M2 H2 (k1.trans k2) h2 e2 q2⟩
    ·exact q2.elim
  | _=>exact q2.elim⟩⟩
noncomputable def sDPK (td tk tv:TE3):TS3:=fun D ρ M=>tv ρ M fun z M1=>td ρ M1 fun x M2=>tk ρ M2 fun k M3=>match x with
 | .adr p=>(match M3 p with
   | some (.dk kvs)=>∃ kk,k=keyT kk∧kvs.length < sizeLine∧D.nx ρ (updM M3 p (.dk (putT kvs kk z)))
   | _=>False)
 | _=>False
theorem b5J {o i value:Expr} {td tk tv:TE3} {pos pos':Pos} (hu:X.A.units+64 < cLine) (hv:HE X value tv) (ho:HE X o td) (hi:HE X i tk) (hs:swapsWith value (some (.Subscript o i pos')) pos.line X.env=pure false:=by rfl) :
  HS X (.Assign [.Subscript o i pos'] value pos) (sDPK td tk tv):=fun D ρ M h =>
 (b4f (by lia) (ho.d (ρ:=ρ)) (hi.d (ρ:=ρ)) (hv.d (ρ:=ρ)) hs).imp fun D2 σ H ⟨hr,hh,en⟩=>⟨M,_,h,hr,hh,fun z v M1 H1 k1 h1 r1 q1=>⟨M1,_,q1,hr.kp k1,h1,fun x v2 M2 H2 k2 h2 r2 q2=>⟨M2,_,q2,hr.kp (k1.trans k2),h2,fun y v3 M3 H3 k3 h3 r3 q3=>by
  cases x with
  | adr p =>
    cases r2
    dsimp only at q3
    split at q3
    ·rename_i kvs e
     obtain⟨kk,rfl,hl,q3⟩:=q3
     obtain rfl:=a6J r3
     obtain⟨xs,g1,g2⟩:=h3 _ _ e
     have kk':=Kp.dict (K:=X.K) (u:=.dK (putK xs kk v)) g1 (.inl ⟨_,rfl⟩)
     have kall:=(k1.trans k2).trans (k3.trans kk')
     refine⟨_,_,rfl,DPut.k g1 (by rw[g2.length];exact hl),en.nx _ _ _ _ kall (hr.kp kall) (h3.setK g1 (.inl ⟨_,rfl⟩) (g2.put kk (Rep.kp (k2.trans k3) _ _ r1))) q3⟩
    ·exact q3.elim
  | _=>exact q3.elim⟩⟩⟩
noncomputable def b2a (x:T):Bool:=match x with
 | .non=>true
 | _=>false
theorem a9U {K:PySem.W.Frag} {H:Hp} {v:V} {x:T} (r:Rep K H v x):decide (v=.non)=b2a x:=by
 cases x with
 | non=>obtain rfl:=a6U r;rfl
 | bl b=>obtain rfl:=a3m r;rfl
 | int i=>obtain rfl:=a0D r;rfl
 | str y=>obtain rfl:=a2k r;rfl
 | adr a=>obtain rfl:=a0F r;rfl
 | tup ts=>obtain⟨p,xs,rfl,_,_⟩:=a1d r;rfl
 | rd ts=>obtain⟨p,xs,rfl,_,_⟩:=a7M r;rfl
 | dic ks ts=>unfold Rep at r;obtain⟨b,rfl,_⟩:=r;rfl
noncomputable def b8H (x:T) (c:Bool):Option Bool:=match x with
 | .bl b=>some (b == c)
 | _=>none
noncomputable def rIs3:R3:=fun x y M Q=>match y with
 | .non=>Q (.bl (b2a x)) M
 | .bl c=>(match b8H x c with | some b=>Q (.bl b) M | none=>False)
 | _=>False
noncomputable def b9Y:R3:=fun x y M Q=>match y with
 | .non=>Q (.bl (!b2a x)) M
 | .bl c=>(match b8H x c with | some b=>Q (.bl (!b)) M | none=>False)
 | _=>False
theorem c0R {M:Model} {A:Around} {E:Value→Shared→Prop} {s:Shared} {Q:Value→Shared→Prop} {b c:Bool} (h:Q (.bool (b == c)) s):wpAny M A (compareOp .Is (.bool b) (.bool c)) Q E s:=by
 cases b<;>cases c<;>exact wpAny_pure h
theorem b4K {M:Model} {A:Around} {E:Value→Shared→Prop} {s:Shared} {Q:Value→Shared→Prop} {b c:Bool} (h:Q (.bool (!(b == c))) s):wpAny M A (compareOp .IsNot (.bool b) (.bool c)) Q E s:=by
 cases b<;>cases c<;>exact wpAny_pure h
theorem b7a:OpR3 X (compareOp .Is) rIs3:=by
 intro pins s σ H x y v u Q2 I rx ry q
 obtain⟨a,b,M,Q,r1,r2,hh,q,en⟩:=q
 cases b with
 | non =>
   obtain rfl:=a6U r2
   refine c0x pins s σ H _ _ v u Q2 I rx ry ⟨rfl,?_⟩
   rw[a9U r1]
   exact en _ _ M H Kp.refl hh a1W q
 | bl c =>
   cases a with
   | bl b =>
     obtain rfl:=a3m r1
     obtain rfl:=a3m r2
     cases rx
     cases ry
     exact c0R ⟨.bl _,H,I,rfl,en _ _ M H Kp.refl hh a1W q⟩
   | _=>exact q.elim
 | _=>exact q.elim
theorem a9r:OpR3 X (compareOp .IsNot) b9Y:=by
 intro pins s σ H x y v u Q2 I rx ry q
 obtain⟨a,b,M,Q,r1,r2,hh,q,en⟩:=q
 cases b with
 | non =>
   obtain rfl:=a6U r2
   refine b8u pins s σ H _ _ v u Q2 I rx ry ⟨rfl,?_⟩
   rw[a9U r1]
   exact en _ _ M H Kp.refl hh a1W q
 | bl c =>
   cases a with
   | bl b =>
     obtain rfl:=a3m r1
     obtain rfl:=a3m r2
     cases rx
     cases ry
     exact b4K ⟨.bl _,H,I,rfl,en _ _ M H Kp.refl hh a1W q⟩
   | _=>exact q.elim
 | _=>exact q.elim
noncomputable def b6N (t:TA3):TE3:=fun ρ M Q=>t ρ M fun xs M1=>match xs with
 | [.int i,.int j]=>(-(2 ^ 62)≤i∧i < 2 ^ 62∧-(2 ^ 62)≤j∧j < 2 ^ 62∧j - i < 2 ^ 24)∧Q (.tup (a1I i (j - i).toNat)) M1
 | _=>False
theorem b1f {t:TA3} {p p' pos':Pos} (hm:X.mg "tuple"=none) (hm':X.mg "range"=none) (ha:HA X [a,b] t) (hc:X.calm=true:=by rfl) (hg:Gl X "tuple":=by rfl) (hg':Gl X "range":=by rfl) (hs:starEach [a,b] X.env=[(false,eval a X.env),(false,eval b X.env)]:=by rfl) (hs2:starEach [b] X.env=[(false,eval b X.env)]:=by rfl)
  (he:starEach [.Call (.Name "range" p') [a,b] [] pos'] X.env=(false,eval (.Call (.Name "range" p') [a,b] [] pos') X.env) :: starEach [] X.env:=by rfl) :
  HE X (.Call (.Name "tuple" p) [.Call (.Name "range" p') [a,b] [] pos'] [] pos) (b6N t):=by
 intro ρ M Q h pins s σ H Q2 I bb
 obtain⟨hr,hh,en⟩:=bb
 refine wpAny_Call_Name_kw (a6h I hg hm boot_tuple ?_ (by decide) (by decide))
 refine PyProof.Rows.callWith_type1 ?_ he rfl
 rw[he]
 refine Calls.spliced_cons ?_
 refine Call_ (a6h I hg' hm' boot_range (PyProof.Rows.callWith_type1 (thn (ha ρ M _ h pos' pins s σ H (fun vs H1=>∃ i j M1,vs=[V.int i,V.int j]∧HR X.K H1 M1∧Kp X.K H H1∧(-(2 ^ 62)≤i∧i < 2 ^ 62∧-(2 ^ 62)≤j∧j < 2 ^ 62∧j - i < 2 ^ 24)∧Q (.tup (a1I i (j - i).toNat)) M1) I
  ⟨hr,hh,fun ts vs M1 H1 k1 h1 r1 q1=>by
   dsimp only at q1
   split at q1
   ·rename_i i j
    obtain⟨v,w',rfl,rv,rw'⟩:=b7M r1
    obtain rfl:=a0D rv
    obtain rfl:=a0D rw'
    exact⟨i,j,M1,rfl,h1,k1,q1.1,q1.2⟩
   ·exact q1.elim⟩) fun us s1 ⟨vs,H1,I1,rv,i,j,M1,e1,h1,k1,hj,q1⟩=>?_) (by rw[hs,hs2]) (by rw[hs2];rfl)))
 subst e1
 obtain⟨u,u2,rfl,⟨t0,rfl⟩,t',rfl⟩:=rv.two
 refine call_range_2 (Calls.spliced_nil ?_)
 have I2:Inv X pins σ H1 { s1 with heap:=s1.heap.push { cls:=.type "range",data:=.fields #[.int i t0,.int j t',.int 1 s1.toks] },toks:=s1.toks+1 }:=I1.kept fun b o e=>Heap.get?_push_of_some _ e
 have hn:Builtin.Range.rangeSize i j 1=(((j - i).toNat:Nat):Int):=by rw[rangeSize_one];split<;>lia
 refine a3z (I1.ok.hd hc) (IsRange.new ..) (small_one (by lia) (by lia) (by lia) (by lia)) hn (by lia) fun h' tk acc' kp ito=>?_
 have hz:(j - i).toNat≤sizeLine:=by rw[sizeLine_eq];lia
 have vr:Vals (a1S i (j - i).toNat) acc'.toList:=by
  refine a4U (by unfold a1S;simp [ito.1]) fun k x ex=>?_
  have hi:k < (j - i).toNat:=by have:=(List.getElem?_eq_some_iff.mp ex).1;simpa [a1S] using this
  have hi':k < acc'.size:=by rw[ito.1];exact hi
  have ea:acc'[k]?=some acc'[k]:=Array.getElem?_eq_getElem hi'
  obtain⟨tt,et⟩:=ito.2 k _ ea
  refine⟨acc'[k],by rw[Array.getElem?_toList];exact ea,?_⟩
  unfold a1S at ex
  rw[List.getElem?_map,List.getElem?_range hi] at ex
  have:=Option.some.inj ex
  subst this
  exact⟨tt,by rw[et,Int.mul_one]⟩
 have I2':Inv X pins σ H1 { s1 with heap:=h',toks:=tk }:=I2.kept (h':=h') (t':=tk) kp
 have eacc:acc'.toList.toArray=acc':=by simp
 have I3:Inv X pins σ (upd H1 h'.objs.size (.tup (a1S i (j - i).toNat))) { s1 with heap:=h'.push { cls:=.type "tuple",data:=.seq acc' },toks:=tk } :=
  I2'.laid (t':=tk) (fun b o e=>Heap.get?_push_of_some _ e) (Nat.le_refl _) (show a1G X.prog X.w _ _ _ (.tup (a1S i (j - i).toNat)) from
   ⟨by unfold a1S;simpa using hz,acc'.toList,vr,by rw[eacc];exact a2R.new _ _⟩)
 have hf:=I2'.hok.fresh (Nat.le_refl _)
 have nw:=Kp.new (K:=X.K) (H:=H1) (o:=.tup (a1S i (j - i).toNat)) hf
 exact⟨.ref h'.objs.size,_,I3,rfl,en _ _ _ _ (k1.trans nw) (h1.keep hf) (a1v (SqT.of a0B) (a6K i (j - i).toNat)) q1⟩
end
end L2
namespace L2
open PySem PySem.Spec PyProof.Rows LM
noncomputable def a4h (st:List Int) (k:Nat):List Int:=(st.set k (st.getD (k+1) 0)).set (k+1) (st.getD k 0)
theorem a8Z (st:List Int) (k:Nat) (h:k+1 < st.length):st.take k++([st.getD (k+1) 0,st.getD k 0]++st.drop (k+2))=a4h st k:=by
 unfold a4h
 induction st generalizing k with
 | nil=>simp at h
 | cons x t ih =>
   cases k with
   | zero =>
     cases t with
     | nil=>simp at h
     | cons y t=>rfl
   | succ k =>
     have:=ih k (by simp at h;lia)
     simp only[List.take_succ_cons,List.cons_append,List.drop_succ_cons,List.set_cons_succ,List.getD_cons_succ] at this⊢
     rw[← this]
noncomputable def isWd (n:Int) (w:List Int) (k:Int):Bool:=decide (1≤n) && decide (n≤6) && decide ((w.length:Int)≤k) && w.all (a5c n)
theorem b8G (n:Int) (w:List Int):isWd n w 16=isPl n w:=by
 unfold isWd isPl
 rw[show decide ((w.length:Int)≤16)=decide (w.length≤16) from decide_eq_decide.mpr (by lia)]
theorem a8X {κ:Type} [DecidableEq κ] (p:κ × T) (r:List (κ × T)) (k:κ):valT (p :: r) k=if p.1=k then some p.2 else valT r k:=by
 unfold valT
 rw[List.find?_cons]
 by_cases c:p.1=k
 ·simp [c]
 ·simp [c]
theorem b8y {M M':MH} {p:Addr} (h:Sub M M') (hp:M' p=none):M p=none:=by
 cases q:M p with
 | none=>rfl
 | some o=>have:=h p o q;rw[hp] at this;cases this
theorem a4K (xs:List T) (k:Int) (h0:0≤k):cutT xs none (some k)=xs.take k.toNat:=by
 unfold cutT
 have e:k=((k.toNat:Nat):Int):=by lia
 rw[e,HT.sIx_nat,HT.sIx_none,List.drop_zero,Nat.sub_zero,Int.toNat_natCast]
 by_cases h:k.toNat≤xs.length
 ·rw[Nat.min_eq_left h]
 ·rw[Nat.min_eq_right (by lia),List.take_of_length_le (Nat.le_refl _),List.take_of_length_le (by lia)]
theorem b5s {α:Type} (xs:List α) (a b:α):atI (xs++[a,b]) (-2)=some a:=by
 have e:(xs++[a,b]).length=xs.length+2:=by simp
 unfold atI
 rw[e]
 have:ixN (xs.length+2) (-2)=some xs.length:=by
  unfold ixN
  simp
  lia
 rw[this]
 simp
theorem WordOK.take {n:Int} {w:List Int} (h:WordOK n w) (k:Nat):WordOK n (w.take k):=fun l hl=>h l (List.mem_of_mem_take hl)
theorem WordOK.drop {n:Int} {w:List Int} (h:WordOK n w) (k:Nat):WordOK n (w.drop k):=fun l hl=>h l (List.mem_of_mem_drop hl)
theorem a1Y (xs:List T) (k:Int) (h0:0≤k):cutT xs (some k) none=xs.drop k.toNat:=by
 unfold cutT
 have e:k=((k.toNat:Nat):Int):=by lia
 rw[e,HT.sIx_nat,HT.sIx_none,Int.toNat_natCast]
 by_cases h:k.toNat≤xs.length
 ·rw[Nat.min_eq_left h,List.take_of_length_le (by rw[List.length_drop];lia)]
 ·rw[Nat.min_eq_right (by lia),Nat.sub_self,List.take_zero,List.drop_of_length_le (by lia)]
theorem b5h (xs:List T) (a b:Int) (h0:0≤a) (h1:a≤b) (h2:a≤xs.length):cutT xs (some a) (some b)=(xs.drop a.toNat).take (b - a).toNat:=by
 unfold cutT
 have e:a=((a.toNat:Nat):Int):=by lia
 have e':b=((b.toNat:Nat):Int):=by lia
 rw[e,e',HT.sIx_nat,HT.sIx_nat,← e,← e',Nat.min_eq_left (show a.toNat≤xs.length by lia)]
 by_cases h:b.toNat≤xs.length
 ·rw[Nat.min_eq_left h,show (b - a).toNat=b.toNat - a.toNat by lia]
 ·rw[Nat.min_eq_right (by lia),List.take_of_length_le (by rw[List.length_drop];exact Nat.le_refl _),List.take_of_length_le (by rw[List.length_drop];lia)]
end L2
namespace LM
noncomputable def twL (n:Int) (i:Nat):List Int:=(List.range i).flatMap fun k=>rowL (n.toNat - 1 - k)
noncomputable def twF (n:Int):List Int:=twL n (n.toNat - 1)
theorem b9q {n:Int} (h1:2≤n) (h2:n≤4):WordOK n (twF n):=by
 have h:n=2∨n=3∨n=4:=by lia
 have q:∀ (m:Int),(twF m).all (a5c m)=true→WordOK m (twF m):=fun m h l hl=>a2g.mp (List.all_eq_true.mp h l hl)
 rcases h with rfl | rfl | rfl<;>exact q _ (by decide +kernel)
theorem a7y {n l:Int} (h:LetOK n l):WordOK n [l]:=fun x hx=>by
 have:x=l:=by simpa using hx
 rw[this];exact h
end LM
namespace L2
open PySem PySem.Spec PyProof.Rows LM
noncomputable def gI (w:List Int) (k:Int):Int:=w.getD k.toNat 0
noncomputable def a0Z (w:List Int) (a:Int):Bool:=decide (0≤a∧a < (w.length:Int) - 1) && decide ((1:Int) < (((((gI w a).natAbs:Int) - ((gI w (a+1)).natAbs:Int)).natAbs:Nat):Int))
noncomputable def a1f (w:List Int) (a:Int):Bool:=decide (0≤a∧a < (w.length:Int) - 1) && decide (gI w a=-(gI w (a+1)))
noncomputable def a0z (w:List Int) (a:Int):Bool:=decide (0≤a∧a < (w.length:Int) - 2) && (decide (((gI w a).natAbs:Int)=((gI w (a+2)).natAbs:Int)) && decide ((((((gI w a).natAbs:Int) - ((gI w (a+1)).natAbs:Int)).natAbs:Nat):Int)=1) && (!decide (gI w a=gI w (a+2)) || decide (0 < gI w a*gI w (a+1))))
noncomputable def sgnL (a l:Int):Int:=if l < 0 then -((a.natAbs:Nat):Int) else ((a.natAbs:Nat):Int)
noncomputable def a2S (w:List Int) (a:Int):List Int:=w.take a.toNat++[sgnL (gI w (a+1)) (gI w (a+2)),sgnL (gI w a) (gI w (a+1)),sgnL (gI w (a+1)) (gI w a)]++w.drop (a+3).toNat
noncomputable def inL (w:List Int) (a l:Int):List Int:=w.take a.toNat++[l,-l]++w.drop a.toNat
theorem a4T {A B:List Int} {x:Int} {a:Int} (h0:0≤a) (h:A.length=a.toNat):gI (A++x :: B) a=x:=by
 unfold gI
 rw[List.getD_eq_getElem?_getD,← h,List.getElem?_append_right (Nat.le_refl _),Nat.sub_self]
 rfl
theorem a5f {A B:List Int} {x y:Int} {a:Int} (h0:0≤a) (h:A.length=a.toNat):gI (A++x :: y :: B) (a+1)=y:=by
 have:A++x :: y :: B=(A++[x])++y :: B:=by simp
 rw[this]
 exact a4T (by lia) (by simp;lia)
theorem b4T {A B:List Int} {x y z:Int} {a:Int} (h0:0≤a) (h:A.length=a.toNat):gI (A++x :: y :: z :: B) (a+2)=z:=by
 have:A++x :: y :: z :: B=(A++[x,y])++z :: B:=by simp
 rw[this]
 exact a4T (by lia) (by simp;lia)
theorem cut2 {w:List Int} {a:Int} (h0:0≤a) (h1:a < (w.length:Int) - 1):∃ A p q B,w=A++p :: q :: B∧A.length=a.toNat:=by
 refine⟨w.take a.toNat,w[a.toNat]'(by lia),w[a.toNat+1]'(by lia),w.drop (a.toNat+2),?_,by rw[List.length_take];lia⟩
 conv=>lhs;rw[← List.take_append_drop a.toNat w,List.drop_eq_getElem_cons (by lia),List.drop_eq_getElem_cons (by lia)]
theorem cut3 {w:List Int} {a:Int} (h0:0≤a) (h1:a < (w.length:Int) - 2):∃ A p q r B,w=A++p :: q :: r :: B∧A.length=a.toNat:=by
 obtain⟨A,p,q,B,e,h⟩:=cut2 (w:=w) (a:=a) h0 (by lia)
 cases B with
 | nil=>rw[e] at h1;simp at h1;lia
 | cons r B=>exact⟨A,p,q,r,B,e,h⟩
theorem a5p {A B:List Int} {a:Int} (h:A.length=a.toNat):(A++B).take a.toNat=A:=by rw[← h];simp
theorem a5N {A B:List Int} {a:Int} (h:A.length=a.toNat):(A++B).drop a.toNat=B:=by rw[← h];simp
theorem b0c {A B:List Int} {x y:Int} {a:Int} (h0:0≤a) (h:A.length=a.toNat):(A++x :: y :: B).drop (a+2).toNat=B:=by
 have:A++x :: y :: B=(A++[x,y])++B:=by simp
 rw[this]
 exact a5N (by simp;lia)
theorem b5b {A B:List Int} {x y z:Int} {a:Int} (h0:0≤a) (h:A.length=a.toNat):(A++x :: y :: z :: B).drop (a+3).toNat=B:=by
 have:A++x :: y :: z :: B=(A++[x,y,z])++B:=by simp
 rw[this]
 exact a5N (by simp;lia)
theorem a4u {A B:List Int} {x y:Int} {k:Nat} (h:A.length=k):a4h (A++x :: y :: B) k=A++y :: x :: B:=by
 rw[← a8Z _ _ (by simp;lia)]
 have e1:=a4T (A:=A) (B:=y :: B) (x:=x) (a:=(k:Int)) (by lia) (by lia)
 have e2:=a5f (A:=A) (B:=B) (x:=x) (y:=y) (a:=(k:Int)) (by lia) (by lia)
 have e3:=b0c (A:=A) (B:=B) (x:=x) (y:=y) (a:=(k:Int)) (by lia) (by lia)
 have e4:=a5p (A:=A) (B:=x :: y :: B) (a:=(k:Int)) (by lia)
 unfold gI at e1 e2
 rw[show ((k:Int)).toNat=k by lia] at e1 e4
 rw[show ((k:Int)+1).toNat=k+1 by lia] at e2
 rw[show ((k:Int)+2).toNat=k+2 by lia] at e3
 rw[e1,e2,e3,e4]
 simp
theorem a4V {A B:List Int} {p q r:Int} {a:Int} (h0:0≤a) (h:A.length=a.toNat):a2S (A++p :: q :: r :: B) a=A++sgnL q r :: sgnL p q :: sgnL q p :: B:=by
 unfold a2S
 rw[a4T h0 h,a5f h0 h,b4T h0 h,a5p h,b5b h0 h]
 simp
theorem a6O {A B:List Int} {p q:Int} {a:Int} (h0:0≤a) (h:A.length=a.toNat):(A++p :: q :: B).take a.toNat++(A++p :: q :: B).drop (a+2).toNat=A++B:=by rw[a5p h,b0c h0 h]
theorem a8L {A B:List Int} {l:Int} {a:Int} (h:A.length=a.toNat):inL (A++B) a l=A++l :: -l :: B:=by
 unfold inL
 rw[a5p h,a5N h]
 simp
theorem a5i {A B:List Int} {p q:Int} {a:Int} (h0:0≤a) (h:A.length=a.toNat):a0Z (A++p :: q :: B) a=true↔1 < (((p.natAbs:Int) - (q.natAbs:Int)).natAbs:Int):=by
 unfold a0Z
 rw[a4T h0 h,a5f h0 h]
 simp only[Bool.and_eq_true,decide_eq_true_eq,List.length_append,List.length_cons]
 constructor
 ·exact fun h=>h.2
 ·exact fun z=>⟨by lia,z⟩
theorem a5h {A B:List Int} {p q:Int} {a:Int} (h0:0≤a) (h:A.length=a.toNat):a1f (A++p :: q :: B) a=true↔p=-q:=by
 unfold a1f
 rw[a4T h0 h,a5f h0 h]
 simp only[Bool.and_eq_true,decide_eq_true_eq,List.length_append,List.length_cons]
 constructor
 ·exact fun h=>h.2
 ·exact fun z=>⟨by lia,z⟩
theorem b8B {p q:Int} (hp:p≠0) (hq:q≠0):0 < p*q↔(0 < p↔0 < q):=by
 rcases Int.lt_or_gt_of_ne hp with h | h<;>rcases Int.lt_or_gt_of_ne hq with g | g
 ·exact⟨fun _=>by lia,fun _=>Int.mul_pos_of_neg_of_neg h g⟩
 ·exact⟨fun z=>absurd z (by have:=Int.mul_neg_of_neg_of_pos h g;lia),fun z=>by lia⟩
 ·exact⟨fun z=>absurd z (by have:=Int.mul_neg_of_pos_of_neg h g;lia),fun z=>by lia⟩
 ·exact⟨fun _=>by lia,fun _=>Int.mul_pos h g⟩
noncomputable def a7j (p q r:Int):Prop:=p.natAbs=r.natAbs∧(p.natAbs+1=q.natAbs∨q.natAbs+1=p.natAbs)∧(p=r→(0 < p↔0 < q))
theorem b8w {a b:Nat}:((((a:Int) - (b:Int)).natAbs:Nat):Int)=1↔(a+1=b∨b+1=a):=by lia
theorem a5O {A B:List Int} {p q r:Int} {a:Int} (h0:0≤a) (h:A.length=a.toNat) (hp:p≠0) (hq:q≠0):a0z (A++p :: q :: r :: B) a=true↔a7j p q r:=by
 unfold a0z a7j
 rw[a4T h0 h,a5f h0 h,b4T h0 h]
 simp only[Bool.and_eq_true,decide_eq_true_eq,List.length_append,List.length_cons,Bool.or_eq_true,Bool.not_eq_true',decide_eq_false_iff_not,b8B hp hq,b8w]
 constructor
 ·rintro⟨_,⟨h1,h2⟩,h3⟩
  exact⟨Int.ofNat.inj h1,h2,fun e=>h3.resolve_left fun z=>z e⟩
 ·rintro⟨h1,h2,h3⟩
  refine⟨⟨h0,?_⟩,⟨congrArg _ h1,h2⟩,?_⟩
  ·clear hp hq h1 h2 h3
   lia
  ·by_cases e:p=r
   ·exact .inr (h3 e)
   ·exact .inl e
theorem a8g (p q:Int):(sgnL p q).natAbs=p.natAbs:=by unfold sgnL;split<;>lia
theorem b4U {x y:Int} (h:x.natAbs=y.natAbs) (g:0 < x↔0 < y) (hy:y≠0):x=y:=by lia
theorem _root_.LM.WordOK.sub {n:Int} {u v:List Int} (h:WordOK n u) (g:∀ x∈v,x∈u):WordOK n v:=fun x hx=>h x (g x hx)
theorem _root_.LM.LetOK.abs {n x y:Int} (h:LetOK n x) (e:y.natAbs=x.natAbs):LetOK n y:=by unfold LetOK at h⊢;rw[e];exact h
theorem b6y {n:Int} {w:List Int} {a:Int} (h:a0Z w a=true) (hw:WordOK n w):a0Z (a4h w a.toNat) a=true∧a4h (a4h w a.toNat) a.toNat=w∧WordOK n (a4h w a.toNat)∧(a4h w a.toNat).length=w.length:=by
 have hb:0≤a∧a < (w.length:Int) - 1:=by
  unfold a0Z at h
  simp only[Bool.and_eq_true,decide_eq_true_eq] at h
  exact h.1
 obtain⟨A,p,q,B,rfl,hA⟩:=cut2 hb.1 hb.2
 rw[a5i hb.1 hA] at h
 rw[a4u hA,a4u hA,a5i hb.1 hA]
 refine⟨by lia,rfl,hw.sub fun x hx=>?_,by simp⟩
 simp only[List.mem_append,List.mem_cons] at hx⊢
 rcases hx with h | h | h | h<;>simp [h]
theorem b6e {n:Int} {w:List Int} {a:Int} (h:a1f w a=true) (hw:WordOK n w):inL (w.take a.toNat++w.drop (a+2).toNat) a (gI w a)=w∧WordOK n (w.take a.toNat++w.drop (a+2).toNat)∧(w.take a.toNat++w.drop (a+2).toNat).length+2=w.length∧0≤a∧a≤((w.take a.toNat++w.drop (a+2).toNat).length:Int)∧LetOK n (gI w a)∧a < w.length:=by
 have hb:0≤a∧a < (w.length:Int) - 1:=by
  unfold a1f at h
  simp only[Bool.and_eq_true,decide_eq_true_eq] at h
  exact h.1
 obtain⟨A,p,q,B,rfl,hA⟩:=cut2 hb.1 hb.2
 rw[a5h hb.1 hA] at h
 rw[a6O hb.1 hA,a8L hA,a4T hb.1 hA]
 refine⟨by rw[h];simp,hw.sub fun x hx=>?_,by simp;lia,hb.1,by simp;lia,hw p (by simp),by simp;lia⟩
 simp only[List.mem_append,List.mem_cons] at hx⊢
 rcases hx with h | h<;>simp [h]
theorem b8J {n:Int} {w:List Int} {a l:Int} (h0:0≤a) (h1:a≤(w.length:Int)) (hw:WordOK n w) (hl:LetOK n l):a1f (inL w a l) a=true∧(inL w a l).take a.toNat++(inL w a l).drop (a+2).toNat=w∧WordOK n (inL w a l)∧(inL w a l).length=w.length+2:=by
 have e:=List.take_append_drop a.toNat w
 have hA:(w.take a.toNat).length=a.toNat:=by rw[List.length_take];lia
 generalize w.take a.toNat=A at e hA
 generalize w.drop a.toNat=B at e
 subst e
 rw[a8L hA,a6O h0 hA,a5h h0 hA]
 refine⟨by lia,rfl,fun x hx=>?_,by simp;lia⟩
 simp only[List.mem_append,List.mem_cons] at hx
 rcases hx with h | h | h | h
 ·exact hw x (by simp [h])
 ·rw[h];exact hl
 ·rw[h];exact hl.abs (by lia)
 ·exact hw x (by simp [h])
noncomputable def Sm (w:List Int):Prop:=w.length≤4000∧∀ x∈w,x.natAbs < 7
theorem a7t {w:List Int} {a:Int} (h0:0≤a) (h1:a < w.length):atI (w.map T.int) a=some (.int (gI w a)):=a6x w a h0 h1
theorem Sm.at {w:List Int} (h:Sm w) {a:Int} (h0:0≤a) (h1:a < w.length):(gI w a).natAbs < 7:=by
 unfold gI
 rw[List.getD_eq_getElem?_getD,List.getElem?_eq_getElem (by lia)]
 exact h.2 _ (List.getElem_mem _)
inductive Stp where
 | far (a:Int)
 | three (a:Int)
 | out (a:Int)
 | inn (a l:Int)
noncomputable def Stp.t:Stp→List T
 | .far a=>[.str "far",.int a]
 | .three a=>[.str "three",.int a]
 | .out a=>[.str "out",.int a]
 | .inn a l=>[.str "in",.int a,.int l]
noncomputable def inB (n:Int) (w:List Int) (a l:Int):Bool:=decide (0≤a∧a≤(w.length:Int)) && a5c n l
noncomputable def outL (w:List Int) (a:Int):List Int:=w.take a.toNat++w.drop (a+2).toNat
noncomputable def aft (n:Int) (w:List Int):Stp→Option (List Int)
 | .far a=>if a0Z w a then some (a4h w a.toNat) else none
 | .three a=>if a0z w a then some (a2S w a) else none
 | .out a=>if a1f w a then some (outL w a) else none
 | .inn a l=>if inB n w a l then some (inL w a l) else none
theorem a5o {w:List Int} {a:Int} (h0:0≤a) (h1:a < (w.length:Int) - 2):(a2S w a).length=w.length:=by
 unfold a2S
 rw[List.length_append,List.length_append,List.length_take,List.length_drop]
 simp only[List.length_cons,List.length_nil]
 lia
theorem b3i {n:Int} {w:List Int} {a l:Int} (h:inB n w a l=true):(inL w a l).length=w.length+2:=by
 unfold inB at h
 simp only[Bool.and_eq_true,decide_eq_true_eq] at h
 unfold inL
 rw[List.length_append,List.length_append,List.length_take,List.length_drop]
 simp only[List.length_cons,List.length_nil]
 lia
theorem Sm.of {n:Int} {ws:List Int} (hl:ws.length≤4000) (h6:n≤6) (hw:WordOK n ws):Sm ws:=⟨hl,fun x hx=>by
 have:=hw x hx
 unfold LetOK at this
 lia⟩
theorem b2A {n:Int} {w:List Int} {a:Int} (h:a0z w a=true) (hw:WordOK n w):WordOK n (a2S w a)∧(a2S w a).length=w.length:=by
 have hb:0≤a∧a < (w.length:Int) - 2:=by
  unfold a0z at h
  simp only[Bool.and_eq_true,decide_eq_true_eq] at h
  exact h.1
 refine⟨?_,a5o hb.1 hb.2⟩
 obtain⟨A,p,q,r,B,rfl,hA⟩:=cut3 hb.1 hb.2
 have lp:=hw p (by simp)
 have lq:=hw q (by simp)
 rw[a4V hb.1 hA]
 intro x hx
 simp only[List.mem_append,List.mem_cons] at hx
 rcases hx with h | h | h | h | h
 ·exact hw x (by simp [h])
 ·rw[h];exact lq.abs (a8g q r)
 ·rw[h];exact lp.abs (a8g p q)
 ·rw[h];exact lq.abs (a8g q p)
 ·exact hw x (by simp [h])
theorem b7v {n:Int} {w r:List Int} {s:Stp} (hw:WordOK n w) (h:aft n w s=some r):WordOK n r∧r.length≤w.length+2:=by
 cases s with
 | far a =>
   replace h:(if a0Z w a=true then some (a4h w a.toNat) else none)=some r:=h
   split at h
   ·rename_i c
    obtain rfl:=Option.some.inj h
    obtain⟨_,_,h3,h4⟩:=b6y c hw
    exact⟨h3,by lia⟩
   ·cases h
 | three a =>
   replace h:(if a0z w a=true then some (a2S w a) else none)=some r:=h
   split at h
   ·rename_i c
    obtain rfl:=Option.some.inj h
    obtain⟨h3,h4⟩:=b2A c hw
    exact⟨h3,by lia⟩
   ·cases h
 | out a =>
   replace h:(if a1f w a=true then some (outL w a) else none)=some r:=h
   split at h
   ·rename_i c
    obtain rfl:=Option.some.inj h
    obtain⟨_,h3,h4,_⟩:=b6e c hw
    exact⟨h3,by unfold outL;lia⟩
   ·cases h
 | inn a l =>
   replace h:(if inB n w a l=true then some (inL w a l) else none)=some r:=h
   split at h
   ·rename_i c
    obtain rfl:=Option.some.inj h
    unfold inB at c
    simp only[Bool.and_eq_true,decide_eq_true_eq,a2g] at c
    obtain⟨_,_,h3,h4⟩:=b8J c.1.1 c.1.2 hw c.2
    exact⟨h3,by lia⟩
   ·cases h
noncomputable def thrB (p q r:Int):Bool:=decide (p.natAbs=r.natAbs) && decide (p.natAbs+1=q.natAbs∨q.natAbs+1=p.natAbs) && decide (p=r→(0 < p↔0 < q))
theorem b5C {p q r:Int}:thrB p q r=true↔a7j p q r:=by
 unfold thrB a7j
 simp only[Bool.and_eq_true,decide_eq_true_eq,and_assoc]
noncomputable def sg (x:Int):Int:=if 0 < x then 1 else -1
theorem b3K {r:Int} (hr:r≠0) (q:Int):sg r*((q.natAbs:Nat):Int)=sgnL q r:=by
 unfold sg sgnL
 by_cases c:0 < r
 ·rw[if_pos c,if_neg (by lia)];lia
 ·rw[if_neg c,if_pos (by lia)];lia
theorem b9P {p q:Int}:sg p=sg q↔(0 < p↔0 < q):=by
 unfold sg
 split<;>split<;>constructor<;>intro h<;>lia
theorem b6U (x:Int):sg x=1∨sg x=-1:=by unfold sg;split<;>simp
noncomputable def Stp.at:Stp→Int
 | .far a=>a
 | .three a=>a
 | .out a=>a
 | .inn a _=>a
noncomputable def optT (o:Option (List Int)):T:=match o with
 | some r=>.tup (r.map .int)
 | none=>.non
theorem b2r {w:List Int} {a:Int} (h:¬(0≤a∧a < (w.length:Int) - 1)):a0Z w a=false:=by
 unfold a0Z;rw[decide_eq_false h];rfl
theorem b2q {w:List Int} {a:Int} (h:¬(0≤a∧a < (w.length:Int) - 1)):a1f w a=false:=by
 unfold a1f;rw[decide_eq_false h];rfl
theorem a7R {w:List Int} {a:Int} (h:¬(0≤a∧a < (w.length:Int) - 2)):a0z w a=false:=by
 unfold a0z;rw[decide_eq_false h];rfl
theorem c2g {n:Int} {w:List Int} {a l:Int} (h:¬(0≤a∧a≤(w.length:Int))):inB n w a l=false:=by
 unfold inB;rw[decide_eq_false h];rfl
theorem a6c {n:Int} {w:List Int} {a:Int}:aft n w (.far a)=if a0Z w a=true then some (a4h w a.toNat) else none:=rfl
theorem a3B {n:Int} {w:List Int} {a:Int}:aft n w (.three a)=if a0z w a=true then some (a2S w a) else none:=rfl
theorem a6b {n:Int} {w:List Int} {a:Int}:aft n w (.out a)=if a1f w a=true then some (outL w a) else none:=rfl
theorem a8W {n:Int} {w:List Int} {a l:Int}:aft n w (.inn a l)=if inB n w a l=true then some (inL w a l) else none:=rfl
theorem b6I {n:Int} {w:List Int} {s:Stp} (h:s.at < 0∨(w.length:Int) < s.at):aft n w s=none:=by
 cases s with
 | far a=>rw[a6c,b2r (by simp only[Stp.at] at h;lia)];rfl
 | three a=>rw[a3B,a7R (by simp only[Stp.at] at h;lia)];rfl
 | out a=>rw[a6b,b2q (by simp only[Stp.at] at h;lia)];rfl
 | inn a l=>rw[a8W,c2g (by simp only[Stp.at] at h;lia)];rfl
theorem cutI {w:List Int} {a:Int} (h0:0≤a) (h1:a≤(w.length:Int)):∃ A R,w=A++R∧A.length=a.toNat:=⟨w.take a.toNat,w.drop a.toNat,(List.take_append_drop _ _).symm,by rw[List.length_take];lia⟩
theorem b2k {A R:List Int} {a:Int} (h0:0≤a) (h:A.length=a.toNat):cutT ((A++R).map T.int) none (some a)=A.map T.int:=by
 rw[a4K _ _ h0,← List.map_take,a5p h]
theorem b6C {A R:List Int} {a:Int} (h0:0≤a) (h:A.length=a.toNat):cutT ((A++R).map T.int) (some a) none=R.map T.int:=by
 rw[a1Y _ _ h0,← List.map_drop,a5N h]
theorem a7b {A R:List Int} {a k:Int} (hk:0≤k) (h0:0≤a) (h:A.length=a.toNat):cutT ((A++R).map T.int) (some (a+k)) none=(R.drop k.toNat).map T.int:=by
 rw[a1Y _ _ (by lia),← List.map_drop,show (a+k).toNat=A.length+k.toNat by lia,List.drop_append]
 simp
theorem b1k {A R:List Int} {a k:Int} (hk:0≤k) (h0:0≤a) (h:A.length=a.toNat):cutT ((A++R).map T.int) (some a) (some (a+k))=(R.take k.toNat).map T.int:=by
 rw[b5h _ _ _ h0 (by lia) (by rw[List.length_map,List.length_append];lia),← List.map_drop,a5N h,← List.map_take,show (a+k - a).toNat=k.toNat by lia]
theorem b0m {A B:List Int} {p q:Int} {a:Int} (h0:0≤a) (h:A.length=a.toNat):a0Z (A++p :: q :: B) a=decide (1 < (((p.natAbs:Int) - (q.natAbs:Int)).natAbs:Int)):=Bool.eq_iff_iff.mpr ((a5i h0 h).trans (by rw[decide_eq_true_eq]))
theorem b0l {A B:List Int} {p q:Int} {a:Int} (h0:0≤a) (h:A.length=a.toNat):a1f (A++p :: q :: B) a=decide (p=-q):=Bool.eq_iff_iff.mpr ((a5h h0 h).trans (by rw[decide_eq_true_eq]))
noncomputable def stT (s:Stp):T:=.tup s.t
noncomputable def chK (c:Int→Bool) (f:Int→Stp) (m:Nat):List Stp:=((List.range m).filter fun (i:Nat)=>c i).map fun (i:Nat)=>f i
theorem b6G (c:Int→Bool) (f:Int→Stp) (m:Nat):chK c f (m+1)=chK c f m++if c m=true then [f m] else []:=by
 unfold chK
 rw[List.range_succ,List.filter_append,List.map_append]
 congr 1
 rw[List.filter_cons]
 split<;>rfl
theorem a8R (c:Int→Bool) (f:Int→Stp) (m:Nat):(chK c f m).length≤m:=by
 unfold chK
 rw[List.length_map]
 exact Nat.le_trans (List.length_filter_le _ _) (by rw[List.length_range];exact Nat.le_refl _)
noncomputable def chP (w:List Int):Nat→List Stp
 | 0=>[]
 | 1=>chK (a0Z w) .far w.length
 | 2=>chK (a0Z w) .far w.length++chK (a0z w) .three w.length
 | _=>chK (a0Z w) .far w.length++chK (a0z w) .three w.length++chK (a1f w) .out w.length
noncomputable def chL (w:List Int):List Stp:=chP w 3
theorem b5m (w:List Int) (i:Nat):(chP w i).length≤3*w.length:=by
 have h1:=a8R (a0Z w) .far w.length
 have h2:=a8R (a0z w) .three w.length
 have h3:=a8R (a1f w) .out w.length
 unfold chP
 split<;>(try rw[List.length_append])<;>(try rw[List.length_append])<;>(try simp only[List.length_nil])<;>lia
noncomputable def a9N (w:List Int):List (Str × (Int→Bool) × (Int→Stp)):=[("far",a0Z w,.far),("three",a0z w,.three),("out",a1f w,.out)]
theorem b4F (w:List Int) (n:Int) {i:Nat} {k:Str} {c:Int→Bool} {f:Int→Stp} (h:(a9N w)[i]?=some (k,c,f)):i < 3∧chP w (i+1)=chP w i++chK c f w.length∧(∀ j:Int,stT (f j)=.tup [.str k,.int j])∧∀ j:Int,(aft n w (f j)).isSome=c j:=by
 have hi:i < 3:=(List.getElem?_eq_some_iff.mp h).1
 rcases (show i=0∨i=1∨i=2 by lia) with rfl | rfl | rfl
 ·obtain⟨rfl,rfl,rfl⟩:("far":Str)=k∧a0Z w=c∧Stp.far=f:=by simpa [a9N] using h
  refine⟨hi,(List.nil_append _).symm,fun j=>rfl,fun j=>?_⟩
  rw[a6c];cases a0Z w j<;>rfl
 ·obtain⟨rfl,rfl,rfl⟩:("three":Str)=k∧a0z w=c∧Stp.three=f:=by simpa [a9N] using h
  refine⟨hi,rfl,fun j=>rfl,fun j=>?_⟩
  rw[a3B];cases a0z w j<;>rfl
 ·obtain⟨rfl,rfl,rfl⟩:("out":Str)=k∧a1f w=c∧Stp.out=f:=by simpa [a9N] using h
  refine⟨hi,rfl,fun j=>rfl,fun j=>?_⟩
  rw[a6b];cases a1f w j<;>rfl
theorem b6E {n:Int} {w:List Int} {s:Stp} (h:s∈chL w):(aft n w s).isSome=true:=by
 have key:∀ {c:Int→Bool} {f:Int→Stp} {m:Nat},(∀ j:Int,(aft n w (f j)).isSome=c j)→s∈chK c f m→(aft n w s).isSome=true:=by
  intro c f m e hs
  unfold chK at hs
  obtain⟨j,hj,rfl⟩:=List.mem_map.mp hs
  rw[e]
  exact (List.mem_filter.mp hj).2
 unfold chL chP at h
 rcases List.mem_append.mp h with h | h
 ·rcases List.mem_append.mp h with h | h
  ·exact key (fun j=>by rw[a6c];cases a0Z w j<;>rfl) h
  ·exact key (fun j=>by rw[a3B];cases a0z w j<;>rfl) h
 ·exact key (fun j=>by rw[a6b];cases a1f w j<;>rfl) h
theorem b3H (s:Stp):a0E (stT s)=true:=by cases s<;>rfl
theorem b5F (s:Stp):depT (stT s)=1:=by cases s<;>rfl
theorem a8d:∀ L:List Stp,a1o (L.map stT)=true
 | []=>rfl
 | s :: L=>by rw[List.map_cons,a3R,b3H,a8d L];rfl
theorem b0G:∀ L:List Stp,a4g (L.map stT)≤30
 | []=>by decide
 | s :: L=>by rw[List.map_cons,a4J,b5F];have:=b0G L;lia
theorem b3I (L:List Stp):eqTs (L.map stT) []=L.isEmpty:=by cases L<;>rfl
theorem b9K {L:List Stp} {c:Int} (h0:0≤c) (h1:c < (L.length:Int)):∃ s∈L,atI (L.map stT) c=some (stT s):=by
 obtain⟨j,rfl⟩:=Int.eq_ofNat_of_zero_le h0
 refine⟨L[j]'(by lia),List.getElem_mem _,a5k (j:=j) ?_⟩
 rw[List.getElem?_map,List.getElem?_eq_getElem (by lia)]
 rfl
theorem b1o {c:Int→Bool} {f:Int→Stp} {m:Nat} {s:Stp} (h:s∈chK c f m):∃ j:Nat,j < m∧c j=true∧s=f j:=by
 unfold chK at h
 obtain⟨j,hj,rfl⟩:=List.mem_map.mp h
 obtain⟨h1,h2⟩:=List.mem_filter.mp hj
 exact⟨j,List.mem_range.mp h1,h2,rfl⟩
theorem b6F {w:List Int} {s:Stp} (h:s∈chL w):(∃ j:Nat,a0Z w j=true∧s=.far j)∨(∃ j:Nat,a0z w j=true∧s=.three j)∨(∃ j:Nat,a1f w j=true∧s=.out j):=by
 unfold chL chP at h
 rcases List.mem_append.mp h with h | h
 ·rcases List.mem_append.mp h with h | h
  ·obtain⟨j,_,h2,h3⟩:=b1o h;exact .inl ⟨j,h2,h3⟩
  ·obtain⟨j,_,h2,h3⟩:=b1o h;exact .inr (.inl ⟨j,h2,h3⟩)
 ·obtain⟨j,_,h2,h3⟩:=b1o h;exact .inr (.inr ⟨j,h2,h3⟩)
theorem b5n {n:Int} {w r:List Int} {s:Stp} (h:s∈chL w) (ha:aft n w s=some r):r.length≤w.length:=by
 rcases b6F h with ⟨j,c,rfl⟩ | ⟨j,c,rfl⟩ | ⟨j,c,rfl⟩
 ·rw[a6c,if_pos c] at ha
  obtain rfl:=Option.some.inj ha
  unfold a4h
  rw[List.length_set,List.length_set]
  exact Nat.le_refl _
 ·rw[a3B,if_pos c] at ha
  obtain rfl:=Option.some.inj ha
  unfold a0z at c
  simp only[Bool.and_eq_true,decide_eq_true_eq] at c
  rw[a5o (by lia) (by lia)]
  exact Nat.le_refl _
 ·rw[a6b,if_pos c] at ha
  obtain rfl:=Option.some.inj ha
  unfold outL
  rw[List.length_append,List.length_take,List.length_drop]
  lia
noncomputable def aftL (n:Int) (w:List Int):List Stp→Option (List Int)
 | []=>some w
 | s :: L=>match aft n w s with
   | some r=>aftL n r L
   | none=>none
theorem b5w (n:Int) (w:List Int) (s:Stp) (L:List Stp):aftL n w (s :: L)=match aft n w s with | some r=>aftL n r L | none=>none:=rfl
theorem Sub.mk1 {A M:MH} {q:Nat} {o:MO} (h:Sub A M) (hq:M q=some o):Sub (updM A q o) M:=by
 intro x v hx
 by_cases e:x=q
 ·rw[e] at hx⊢
  rw[a0i] at hx
  rw[hq,← hx]
 ·rw[a0s e] at hx
  exact h x v hx
inductive Mv where
 | step (s:Stp)
 | round
 | back
 | less
 | flip
 | more (k:Int)
noncomputable def Mv.t:Mv→List T
 | .step s=>[.str "step",.tup s.t]
 | .round=>[.str "round"]
 | .back=>[.str "back"]
 | .less=>[.str "less"]
 | .flip=>[.str "flip"]
 | .more k=>[.str "more",.int k]
noncomputable def mvT (m:Mv):T:=.tup m.t
inductive Why where
 | ok
 | step
 | room
noncomputable def Why.s:Why→Str
 | .ok=>""
 | .step=>"step"
 | .room=>"room"
noncomputable def c2c (n:Int):List Int→Bool
 | []=>false
 | x :: r=>decide ((x.natAbs:Int)=n - 1) && r.all fun l=>decide ((l.natAbs:Int)≠n - 1)
noncomputable def a6S (n:Int) (w:List Int):Bool:=c2c n w.reverse
noncomputable def a2f (n:Int) (w:List Int):Mv→Why
 | .more k=>if n=6∨w.length=16 then .room else if k=1∨k=-1 then .ok else .step
 | .less=>if a6S n w then .ok else .step
 | .round=>if w.isEmpty then .step else .ok
 | .back=>if w.isEmpty then .step else .ok
 | .flip=>.ok
 | .step s=>match aft n w s with
   | none=>.step
   | some r=>if 16 < r.length then .room else .ok
noncomputable def a5b (w:List Int):List Int:=w.drop (w.length - 1)
noncomputable def mvTo (n:Int) (w:List Int):Mv→Int × List Int
 | .more k=>(n+1,w++[k*n])
 | .less=>(n - 1,w.dropLast)
 | .flip=>(n,w.map (a1V n))
 | .round=>(n,w.drop 1++w.take 1)
 | .back=>(n,a5b w++w.dropLast)
 | .step s=>(n,(aft n w s).getD w)
noncomputable def ptT (p:Int × List Int):T:=.tup [.int p.1,.tup (p.2.map .int)]
theorem a1K (A:List Int) (y:Int):a5b (A++[y])=[y]:=by
 unfold a5b
 rw[List.length_append,List.length_singleton,Nat.add_sub_cancel,List.drop_left]
theorem a4W {w:List Int} (h:w≠[]):∃ A y,w=A++[y]:=by
 rcases List.eq_nil_or_concat w with e | ⟨A,y,e⟩
 ·exact absurd e h
 ·exact⟨A,y,by rw[e,List.concat_eq_append]⟩
theorem a4F (n:Int) (A:List Int) (y:Int):a6S n (A++[y])=(decide ((y.natAbs:Int)=n - 1) && A.all fun l=>decide ((l.natAbs:Int)≠n - 1)):=by
 unfold a6S
 rw[List.reverse_append,List.reverse_singleton,List.singleton_append]
 show (decide ((y.natAbs:Int)=n - 1) && (A.reverse.all fun l=>decide ((l.natAbs:Int)≠n - 1)))=_
 rw[List.all_reverse]
theorem a4o {n:Int} {w:List Int}:a6S n w=true↔∃ A y,w=A++[y]∧(y.natAbs:Int)=n - 1∧∀ l∈A,(l.natAbs:Int)≠n - 1:=by
 constructor
 ·intro h
  by_cases e:w=[]
  ·subst e;cases h
  ·obtain⟨A,y,rfl⟩:=a4W e
   rw[a4F] at h
   simp only[Bool.and_eq_true,decide_eq_true_eq,List.all_eq_true] at h
   exact⟨A,y,rfl,h.1,h.2⟩
 ·rintro⟨A,y,rfl,h1,h2⟩
  rw[a4F]
  simp only[Bool.and_eq_true,decide_eq_true_eq,List.all_eq_true]
  exact⟨h1,h2⟩
theorem a9L (n:Int) (w:List Int):a6S n w=(match w.filter fun l=>decide ((l.natAbs:Int)=n - 1) with
  | [x]=>decide (a5b w=[x])
  | _=>false):=by
 by_cases e:w=[]
 ·subst e;rfl
 ·obtain⟨A,y,rfl⟩:=a4W e
  rw[a4F,List.filter_append,a1K]
  have hA:(A.all fun l=>decide ((l.natAbs:Int)≠n - 1))=(A.filter fun l=>decide ((l.natAbs:Int)=n - 1)).isEmpty:=by
   rw[Bool.eq_iff_iff,List.all_eq_true,List.isEmpty_iff,List.filter_eq_nil_iff]
   simp only[decide_eq_true_eq]
  rw[hA]
  by_cases c:(y.natAbs:Int)=n - 1
  ·rw[decide_eq_true c,Bool.true_and]
   have e1:([y].filter fun l=>decide ((l.natAbs:Int)=n - 1))=[y]:=by
    rw[List.filter_cons,decide_eq_true c];rfl
   rw[e1]
   cases h:A.filter fun l=>decide ((l.natAbs:Int)=n - 1) with
   | nil=>simp
   | cons z Z=>cases Z<;>simp
  ·rw [decide_eq_false c,Bool.false_and]
   have e1:([y].filter fun l=>decide ((l.natAbs:Int)=n - 1))=[]:=by
    rw[List.filter_cons,decide_eq_false c];rfl
   rw[e1,List.append_nil]
   cases h:A.filter fun l=>decide ((l.natAbs:Int)=n - 1) with
   | nil=>rfl
   | cons z Z =>
     cases Z with
     | nil =>
       have hz:z∈A.filter fun l=>decide ((l.natAbs:Int)=n - 1):=by rw[h];exact List.mem_singleton.mpr rfl
       have hz2:=of_decide_eq_true (List.mem_filter.mp hz).2
       dsimp only
       rw[decide_eq_false]
       intro z2
       rw[List.singleton_inj] at z2
       rw[z2] at c
       exact c hz2
     | cons _ _=>rfl
theorem b8S (n x:Int) (h:LetOK n x):sg x*(n - (x.natAbs:Int))=a1V n x:=by
 unfold LetOK at h
 unfold sg a1V
 by_cases c:0 < x
 ·rw[if_pos c,if_neg (by lia)];lia
 ·rw[if_neg c,if_pos (by lia)];lia
theorem b8T {n x:Int} (h:LetOK n x):LetOK n (a1V n x):=by
 unfold LetOK at h⊢
 unfold a1V
 split<;>lia
theorem a3x (n:Int) (w:List Int) (s:Stp):a2f n w (.step s)=(match aft n w s with | none=>.step | some r=>if 16 < r.length then .room else .ok):=rfl
theorem a5H (n:Int) (w:List Int) (s:Stp):mvTo n w (.step s)=(n,(aft n w s).getD w):=rfl
theorem a2J (n:Int) (w:List Int):a2f n w .less=if a6S n w then .ok else .step:=rfl
theorem a5I (n:Int) (w:List Int):mvTo n w .less=(n - 1,w.dropLast):=rfl
theorem a2I (n:Int) (w:List Int) (k:Int):a2f n w (.more k)=if n=6∨w.length=16 then .room else if k=1∨k=-1 then .ok else .step:=rfl
theorem a9H (n:Int) (w:List Int) (k:Int):mvTo n w (.more k)=(n+1,w++[k*n]):=rfl
theorem c0F {n:Int} {w:List Int} {m:Mv} (h:PlOK n w) (hw:a2f n w m=.ok):PlOK (mvTo n w m).1 (mvTo n w m).2∧(mvTo n w m).2.length≤w.length+2:=by
 obtain⟨h1,h6,hl,ho⟩:=h
 cases m with
 | step s =>
   rw[a3x] at hw
   rw[a5H]
   cases e:aft n w s with
   | none=>rw[e] at hw;cases hw
   | some r =>
     rw[e] at hw
     dsimp only at hw
     split at hw
     ·cases hw
     ·obtain⟨g1,g2⟩:=b7v ho e
      exact⟨⟨h1,h6,by show r.length≤16;lia,g1⟩,g2⟩
 | round =>
   show PlOK n (w.drop 1++w.take 1)∧(w.drop 1++w.take 1).length≤_
   have e:(w.drop 1++w.take 1).length=w.length:=by rw[List.length_append,List.length_drop,List.length_take];lia
   refine⟨⟨h1,h6,by rw[e];exact hl,fun l hm=>?_⟩,by rw[e];lia⟩
   rcases List.mem_append.mp hm with hm | hm
   ·exact ho l (List.mem_of_mem_drop hm)
   ·exact ho l (List.mem_of_mem_take hm)
 | back =>
   show PlOK n (a5b w++w.dropLast)∧(a5b w++w.dropLast).length≤_
   have e:(a5b w++w.dropLast).length=w.length:=by unfold a5b;rw[List.length_append,List.length_drop,List.length_dropLast];lia
   refine⟨⟨h1,h6,by rw[e];exact hl,fun l hm=>?_⟩,by rw[e];lia⟩
   rcases List.mem_append.mp hm with hm | hm
   ·exact ho l (List.mem_of_mem_drop hm)
   ·exact ho l (List.dropLast_subset _ hm)
 | less =>
   rw[a2J] at hw
   split at hw
   ·rename_i c
    obtain⟨A,y,rfl,hy,hA⟩:=a4o.mp c
    rw[a5I]
    rw[List.dropLast_concat]
    rw[List.length_append,List.length_singleton] at hl⊢
    have hy2:=ho y (by simp)
    unfold LetOK at hy2
    refine⟨⟨by show 1≤n - 1;lia,by show n - 1≤6;lia,by show A.length≤16;lia,fun l hm=>?_⟩,by show A.length≤_;lia⟩
    have:=ho l (List.mem_append_left _ hm)
    have:=hA l hm
    unfold LetOK at *
    show _∧_ < n - 1
    lia
   ·cases hw
 | flip =>
   show PlOK n (w.map (a1V n))∧(w.map (a1V n)).length≤_
   refine⟨⟨h1,h6,by rw[List.length_map];exact hl,fun l hm=>?_⟩,by rw[List.length_map];lia⟩
   obtain⟨x,hx,rfl⟩:=List.mem_map.mp hm
   exact b8T (ho x hx)
 | more k =>
   rw[a2I] at hw
   split at hw
   ·cases hw
   ·rename_i c
    split at hw
    ·rename_i c2
     rw[a9H]
     rw[List.length_append,List.length_singleton]
     refine⟨⟨by show 1≤n+1;lia,by show n+1≤6;lia,by rw[List.length_append,List.length_singleton];lia,fun l hm=>?_⟩,by lia⟩
     rcases List.mem_append.mp hm with hm | hm
     ·have:=ho l hm
      unfold LetOK at *
      show _∧_ < n+1
      lia
     ·rw[List.mem_singleton.mp hm]
      unfold LetOK
      show _∧_ < n+1
      rcases c2 with rfl | rfl<;>lia
    ·cases hw
noncomputable def mvs (n:Int) (w:List Int):List Mv→Option (Int × List Int)
 | []=>some (n,w)
 | m :: L=>match a2f n w m with
   | .ok=>mvs (mvTo n w m).1 (mvTo n w m).2 L
   | _=>none
theorem a3U (n:Int) (w:List Int) (m:Mv) (L:List Mv):mvs n w (m :: L)=match a2f n w m with | .ok=>mvs (mvTo n w m).1 (mvTo n w m).2 L | _=>none:=rfl
theorem a7I (A B:List Mv) (n:Int) (w:List Int):mvs n w (A++B)=match mvs n w A with | some p=>mvs p.1 p.2 B | none=>none:=by
 induction A generalizing n w with
 | nil=>rfl
 | cons m A ih =>
   rw[List.cons_append,a3U,a3U]
   cases a2f n w m with
   | ok=>exact ih _ _
   | step=>rfl
   | room=>rfl
theorem a4L (A:List Int) (y:Int):cutT ((A++[y]).map T.int) none (some (-1))=A.map T.int:=by
 unfold cutT
 rw[List.map_append,List.length_append,List.length_map]
 have e:HT.sIx (A.length+(List.map T.int [y]).length) (A.length+(List.map T.int [y]).length) (some (-1))=A.length:=by
  show (if (-1:Int) < 0 then ((-1:Int)+((A.length+1:Nat):Int)).toNat else min (-1:Int).toNat (A.length+1))=_
  rw[if_pos (by lia)]
  lia
 rw[e,HT.sIx_none,List.drop_zero,Nat.sub_zero,List.take_append_of_le_length (by rw[List.length_map];exact Nat.le_refl _),List.take_of_length_le (by rw[List.length_map];exact Nat.le_refl _)]
theorem a7Q (A:List Int) (y:Int):cutT ((A++[y]).map T.int) (some (-1)) none=[y].map T.int:=by
 unfold cutT
 rw[List.map_append,List.length_append,List.length_map]
 have e:HT.sIx (A.length+(List.map T.int [y]).length) 0 (some (-1))=A.length:=by
  show (if (-1:Int) < 0 then ((-1:Int)+((A.length+1:Nat):Int)).toNat else min (-1:Int).toNat (A.length+1))=_
  rw[if_pos (by lia)]
  lia
 rw[e,HT.sIx_none,List.drop_append_of_le_length (by rw[List.length_map];exact Nat.le_refl _),List.drop_of_length_le (by rw[List.length_map];exact Nat.le_refl _),List.nil_append]
 exact List.take_of_length_le (by show 1≤A.length+1 - A.length;lia)
noncomputable def a5W (n:Int) (ws:List Int):List Nat:=(List.range ws.length).filter fun i=>decide (((ws.getD i 0).natAbs:Int)=n - 1)
theorem a7J (n:Int) (A:List Int) (y:Int):a5W n (A++[y])=a5W n A++if (y.natAbs:Int)=n - 1 then [A.length] else []:=by
 unfold a5W
 rw[List.length_append,List.length_singleton,List.range_succ,List.filter_append]
 congr 1
 ·apply List.filter_congr
  intro i hi
  rw[List.getD_eq_getElem?_getD,List.getD_eq_getElem?_getD,List.getElem?_append_left (List.mem_range.mp hi)]
 ·rw[List.filter_cons,List.getD_eq_getElem?_getD,List.getElem?_append_right (Nat.le_refl _)]
  simp only[Nat.sub_self,List.getElem?_cons_zero,Option.getD_some,List.filter_nil,decide_eq_true_eq]
theorem b4B {n:Int} {w:List Int}:a5W n w=[]↔∀ l∈w,(l.natAbs:Int)≠n - 1:=by
 unfold a5W
 rw[List.filter_eq_nil_iff]
 constructor
 ·intro h l hl
  obtain⟨i,hi,rfl⟩:=List.getElem_of_mem hl
  have:=h i (List.mem_range.mpr hi)
  rw[List.getD_eq_getElem?_getD,List.getElem?_eq_getElem hi] at this
  simpa using this
 ·intro h i hi
  have hi:=List.mem_range.mp hi
  rw[List.getD_eq_getElem?_getD,List.getElem?_eq_getElem hi]
  simpa using h _ (List.getElem_mem hi)
theorem b6o {n:Int} {w:List Int} {i:Nat} (h:i∈a5W n w):i < w.length:=List.mem_range.mp (List.mem_filter.mp h).1
theorem a9K (n:Int) (w:List Int):a6S n w=eqTs ((a5W n w).map fun i=>T.int (i:Nat)) [T.int ((w.length:Int) - 1)]:=by
 by_cases e:w=[]
 ·subst e;rfl
 ·obtain⟨A,y,rfl⟩:=a4W e
  rw[a4F,a7J,List.length_append,List.length_singleton]
  have e0:(((A.length+1:Nat):Int) - 1)=(A.length:Int):=by lia
  rw[e0]
  have hA:(A.all fun l=>decide ((l.natAbs:Int)≠n - 1))=(a5W n A).isEmpty:=by
   rw[Bool.eq_iff_iff,List.all_eq_true,List.isEmpty_iff,b4B]
   simp only[decide_eq_true_eq]
  rw[hA]
  cases h:a5W n A with
  | nil =>
    by_cases c:(y.natAbs:Int)=n - 1
    ·rw[if_pos c,decide_eq_true c]
     show true=(decide ((A.length:Int)=(A.length:Int)) && true)
     rw[decide_eq_true rfl]
     rfl
    ·rw[if_neg c,decide_eq_false c]
     rfl
  | cons z Z =>
    have hz:z < A.length:=b6o (by rw[h];exact List.mem_cons_self)
    rw[List.isEmpty_cons,Bool.and_false]
    show false=(decide ((z:Int)=(A.length:Int)) && _)
    rw[decide_eq_false (by lia),Bool.false_and]
theorem a9F:∀ L:List Nat,a1o (L.map fun i=>T.int (i:Nat))=true
 | []=>rfl
 | _ :: L=>by rw[List.map_cons,a3R,a9F L];rfl
theorem b1R:∀ L:List Nat,a4g (L.map fun i=>T.int (i:Nat))=0
 | []=>rfl
 | _ :: L=>by rw[List.map_cons,a4J,b1R L];rfl
theorem b3b (L:List Nat):a1o (L.map fun i=>T.int (i:Nat))=true:=a9F L
theorem b4C (L:List Nat):a4g (L.map fun i=>T.int (i:Nat))≤30:=by rw[b1R];lia
theorem a0c {a b:TS3} {D:Ends3} {ρ:En} {M:MH} (h:∀ K:En→MH→Prop,K=b D→a { D with nx:=K } ρ M):a1e a b D ρ M:=h _ rfl
theorem a5u {a b c:TS3} {D:Ends3} {ρ:En} {M:MH} (h:∀ K:En→MH→Prop,K=c D→a1e a b { D with nx:=K } ρ M):a1e a (a1e b c) D ρ M:=h _ rfl
theorem a5t {a b c d:TS3} {D:Ends3} {ρ:En} {M:MH} (h:∀ K:En→MH→Prop,K=d D→a1e a (a1e b c) { D with nx:=K } ρ M):a1e a (a1e b (a1e c d)) D ρ M:=h _ rfl
end L2
namespace LM
theorem WordOK.appl {n:Int} {w v:List Int} (h:WordOK n (w++v)):WordOK n w:=fun l hl=>h l (List.mem_append_left _ hl)
theorem WordOK.one {n l:Int} (h:LetOK n l):WordOK n [l]:=fun x hx=>by rw[List.mem_singleton.mp hx];exact h
theorem WordOK.two {n a b:Int} (h:LetOK n a) (g:LetOK n b):WordOK n [a,b]:=fun l hl=>by
 rcases List.mem_cons.mp hl with rfl | hl
 ·exact h
 ·rw[List.mem_singleton.mp hl];exact g
theorem WordOK.three {n a b c:Int} (h:LetOK n a) (g:LetOK n b) (k:LetOK n c):WordOK n [a,b,c]:=fun l hl=>by
 rcases List.mem_cons.mp hl with rfl | hl
 ·exact h
 ·exact WordOK.two g k l hl
end LM
namespace L2
open PySem PySem.Spec PyProof.Rows LM
inductive RelW (n:Int):List Int→List Int→Prop where
 | refl (w:List Int):RelW n w w
 | symm {w v:List Int}:RelW n w v→RelW n v w
 | trans {w v x:List Int}:RelW n w v→RelW n v x→RelW n w x
 | ctx {w v:List Int} (a b:List Int):WordOK n a→WordOK n b→RelW n w v→RelW n (a++w++b) (a++v++b)
 | far {a b:Int}:LetOK n a→LetOK n b→(a.natAbs+1 < b.natAbs∨b.natAbs+1 < a.natAbs)→RelW n [a,b] [b,a]
 | three {p q:Int}:LetOK n p→LetOK n q→p*q > 0→(p - q).natAbs=1→RelW n [p,q,p] [q,p,q]
 | out {l:Int}:LetOK n l→RelW n [l,-l] []
section
variable {n:Int} (h6:n≤6)
include h6
end
theorem RelW.lf {n:Int} {a w v:List Int} (ha:WordOK n a) (h:RelW n w v):RelW n (a++w) (a++v):=by
 have:=RelW.ctx a [] ha .nil h
 rwa [List.append_nil,List.append_nil] at this
theorem RelW.rt {n:Int} {b w v:List Int} (hb:WordOK n b) (h:RelW n w v):RelW n (w++b) (v++b):=RelW.ctx [] b .nil hb h
theorem RelW.bk {n:Int}:∀ {w:List Int},WordOK n w→RelW n (a4e w++w) []
 | [],_=>.refl _
 | l :: w,hw=>by
   have hl:LetOK n l:=hw l List.mem_cons_self
   have hw':WordOK n w:=fun x hx=>hw x (List.mem_cons_of_mem _ hx)
   rw[b1l,List.append_assoc]
   have o:=RelW.out hl.neg
   rw[Int.neg_neg] at o
   have:=RelW.ctx (a4e w) w hw'.contr hw' o
   rw[List.append_nil,List.append_assoc] at this
   exact this.trans (RelW.bk hw')
section
variable {n:Int}
end
section
variable {n:Int}
end
section
variable {n:Int}
end
end L2
namespace L2
open PySem PySem.Spec PyProof.Rows
noncomputable def b9U (hi:Int) (n:Nat):List T:=(List.range n).map fun i=>T.int (hi - (i:Nat))
section
variable {X:Cx} {a b c:Expr} {t:TA3} {pos:Pos}
noncomputable def b8L (t:TA3):TI3:=fun ρ M R=>t ρ M fun xs M1=>match xs with
 | [.int i,.int j,.int s]=>(s=-1∧-(2 ^ 62)≤i∧i < 2 ^ 62∧-(2 ^ 62)≤j∧j < 2 ^ 62)∧R ⟨b9U i (i - j).toNat,fun _=>True⟩ M1
 | _=>False
end
section
variable {X:Cx}
end
theorem Inv.turnNew {X:Cx} {pins:List (Addr × Obj)} {σ:St} {H:Hp} {s:Shared} {h':Heap} {t':Nat} {e it T:Addr} {xs:List V} (I:Inv X pins σ H s) (fe:FpOk X pins H e) (fi:FpOk X pins H it)
  (k:∀ b o,b≠e→b≠it→s.heap.get? b=some o→h'.get? b=some o) (hT:s.heap.objs.size≤T) (new:a1G X.prog X.w (upd H T (.tup xs)) h' T (.tup xs)) :
  Inv X pins σ (upd H T (.tup xs)) { s with heap:=h',toks:=t' }:=by
 have hn:H T=none:=I.hok.fresh hT
 have ne:∀ b u,H b=some u→b≠e∧b≠it:=fun b u q=>⟨fun z=>(by rw[z,fe.1] at q;cases q),fun z=>(by rw[z,fi.1] at q;cases q)⟩
 have nc:∀ {b:Addr},b ∉ [e,it]→b≠e∧b≠it:=fun hc=>⟨fun z=>hc (by simp [z]),fun z=>hc (by simp [z])⟩
 refine I.step (g':=s.gens) (d':=s.drawn) (ch:=[e,it]) (fun b hb=>?_) (fun b o _ _ hc q _=>k b o (nc hc).1 (nc hc).2 q) (fun b o _ _ hc q _=>⟨o.slots,k b o (nc hc).1 (nc hc).2 q⟩)
  (fun b o _ q n=>by rw[a0v (Nat.ne_of_lt (Nat.lt_of_lt_of_le (Heap.lt_size q) hT))];exact n)
  (fun b o hc q=>⟨o,k b o (nc hc).1 (nc hc).2 q⟩) (fun b xs q=>by rw[a0v (a0u q hn)];exact q) (fun b o u q=>by rw[a0v (a0u q hn)];exact q) (fun b ps q=>⟨#[],by rw[a0v (a0u q hn),q];simp⟩) (fun m hm=>?_) (fun b u q=>?_) I.bare
 ·have z:b=e∨b=it:=by simpa using hb
  rcases z with rfl | rfl
  ·exact⟨fe.2.2.2.1,fe.2.1,fe.2.2.2.2.1,fe.2.2.2.2.2⟩
  ·exact⟨fi.2.2.2.1,fi.2.1,fi.2.2.2.2.1,fi.2.2.2.2.2⟩
 ·obtain⟨o,es,ep,ho,r⟩:=hm
  exact⟨o,es,ep,k _ o (Ne.symm fe.2.1) (Ne.symm fi.2.1) ho,r⟩
 ·by_cases hb:b=T
  ·subst hb;rw[a0B] at q;cases q;exact new
  ·rw[a0v hb] at q
   refine (I.hok b u q).stay (fun c v hc z=>?_) (fun c z=>by rw[a0v (a0u z hn)];exact z) fun c xs z=>by rw[a0v (a0u z hn)];exact z
   rcases hc with y | y
   ·rw[y] at z⊢;exact k b v (ne b u q).1 (ne b u q).2 z
   ·exact k c v (ne c _ y).1 (ne c _ y).2 z
theorem a2N {i:TI3} {g:TG3} {b:TS3} {D:Ends3} {ρ:En} {M:MH} (h:∀ B:TS3,B=b→a6D i g B D ρ M):a6D i g b D ρ M:=h _ rfl
section
variable {X:Cx}
noncomputable def enT (ts:List T):List T:=(List.range ts.length).map fun i=>.tup [.int (i:Nat),ts.getD i .non]
theorem a4I (ts:List T):(enT ts).length=ts.length:=by unfold enT;rw[List.length_map,List.length_range]
theorem b4Z {ts:List T} {i:Nat} {x:T} (h:(enT ts)[i]?=some x):∃ t,ts[i]?=some t∧x=.tup [.int i,t]:=by
 have hi:i < ts.length:=by have:=(List.getElem?_eq_some_iff.mp h).1;rwa [a4I] at this
 unfold enT at h
 rw[List.getElem?_map,List.getElem?_range hi] at h
 refine⟨ts[i],List.getElem?_eq_getElem hi,?_⟩
 have e:ts.getD i .non=ts[i]:=by rw[List.getD_eq_getElem?_getD,List.getElem?_eq_getElem hi];rfl
 rw[← e]
 exact (Option.some.inj h).symm
end
section
variable {X:Cx} {pins:List (Addr × Obj)} {σ:St} {H:Hp} {s:Shared}
end
section
variable {X:Cx} {Ha:Hp} {a b c e:Expr} {es:List Expr} {st:Stmt} {rest ba bb body:List Stmt} {ta tb te:TE3} {tA:TT3} {t u:TS3} {pos:Pos}
end
section
variable {X:Cx} {Ha:Hp} {e:Expr} {es:List Expr} {t:TA3} {pos:Pos}
end
section
variable {X:Cx} {Ha:Hp} {e:Expr} {te:TE3} {pos:Pos}
end
section
variable {P:Program} {w:World} {K:PySem.W.Frag} {mg:Str→Option Value} {base:Heap}
end
section
variable {prog:Program} {w:World} {A:Around} {E:Value→Shared→Prop} {s:Shared} {h:Heap} {g:Array GenState} {d:Drawn} {t:Nat} {os:OsState} {a C:Addr} {o:Obj} {K:PySem.W.Frag}
local macro_rules | `(tactic| walk_at "xc") => `(tactic| (repeat any_goals (first | wp_step | assumption)))
end
section
variable {X:Cx} {pos:Pos}
end
section
variable {X:Cx} {pins:List (Addr × Obj)} {σ:St} {H:Hp} {s:Shared}
end
local macro_rules | `(tactic| walk_at "xc") => `(tactic| (repeat any_goals (first | wp_step | assumption)))
section
variable {X:Cx} {pos:Pos}
end
section
variable {X:Cx} {pins:List (Addr × Obj)} {σ σ':St} {H:Hp} {s:Shared}
end
section
variable {X:Cx} {body:List Stmt}
end
section
variable {K:PySem.W.Frag} {mg:Str→Option Value} {P:Addr} {cs:List (Str × Addr)}
end
section
variable {X:Cx}
end
section
variable {X:Cx}
end
noncomputable def b3E (i:Nat) (te:TE3) (f:Int→Int→Int):TS3:=fun D ρ M=>match ρ[i]? with
 | some (some (.int a))=>te ρ M fun y M1=>match y with
   | .int b=>D.nx (ρ.set i (some (.int (f a b)))) M1
   | _=>False
 | _=>False
theorem b9R {X:Cx} {i:Nat} {x:Str} {e:Expr} {te:TE3} {op:Operator} {f:Int→Int→Int} {pos pos':Pos} (ho:PIp X op (ipI f)) (he:HE X e te) (hN:X.N.Nodup) (hi:X.N[i]?=some x:=by rfl) (hx:Loc X.env.scope x:=by first | exact Or.inl rfl | exact Or.inr rfl)
  (hf:X.fn x=true∨X.env.scope.names.lookup x=some .local:=by first | exact .inl rfl | exact .inr rfl | assumption):HS X (.AugAssign (.Name x pos') op e pos) (b3E i te f):=fun D ρ M h =>
 (c0g hN hi hx (he.d (ρ:=ρ)) ho hf).imp fun D2 σ H ⟨hr,hh,en⟩=>by
  unfold b3E at h
  split at h
  ·rename_i a e
   obtain⟨v,ev,rv⟩:=hr.2 i _ e
   obtain rfl:=a0D rv
   refine⟨_,ev,M,_,h,hr,hh,fun t v M1 H1 k1 h1 r1 q1=>?_⟩
   dsimp only at q1
   split at q1
   ·obtain rfl:=a0D r1
    exact⟨a,_,rfl,rfl,en.nx _ M1 _ H1 k1 ((hr.kp k1).set i a0K) h1 q1⟩
   ·exact q1.elim
  ·exact h.elim
structure CanK (K:PySem.W.Frag) (P:Program) (w:World) (d:Addr) (ks:List (Str × Addr)):Prop where
 ok:∃ o,K.lookup d=some o∧o.IsDictOf (strKind P w) (ks.map fun p=>(p.1,Value.ref p.2))
 ns:(d == sysModules)=false
noncomputable def a7w (ks:List (Str × Addr)) (z:Str):Option Addr:=(ks.find? fun p=>p.1=z).map (·.2)
theorem b0n (ks:List (Str × Addr)) (z:Str):valueAt (ks.map fun p=>(p.1,Value.ref p.2)) z=(a7w ks z).map Value.ref:=by
 unfold valueAt a7w
 induction ks with
 | nil=>rfl
 | cons p ks ih =>
   rw[List.map_cons,List.find?_cons,List.find?_cons]
   by_cases c:p.1=z
   ·simp [c]
   ·simp only[c,decide_false]
    exact ih
section
variable {X:Cx} {d:Addr} {ks:List (Str × Addr)}
theorem CanK.dict (C:CanK X.K X.prog X.w d ks) {pins:List (Addr × Obj)} {σ:St} {H:Hp} {s:Shared} (I:Inv X pins σ H s):s.heap.DictOf (strKind X.prog X.w) d (ks.map fun p=>(p.1,Value.ref p.2)):=by
 obtain⟨o,hk,hd⟩:=C.ok
 exact Heap.dictOf_iff.mpr ⟨o,I.kIn d o hk,hd⟩
theorem b8N {x:Str} {a:Addr} {pos:Pos} (hm:X.mg x=some (.ref a)) (hg:Gl X x:=by rfl) (hd:(x == ("__debug__":Str))=false:=by decide):HE X (.Name x pos) (tK (.adr a)):=a5Z (v:=.ref a) (a8r hg hm rfl hd) fun _ _=>a1R
noncomputable def rInD (d:Addr) (ks:List (Str × Addr)) (f:Bool→Bool):R3:=fun x y M Q=>match x,y with
 | .str z,.adr a=>a=d∧Q (.bl (f (a7w ks z).isSome)) M
 | _,_=>False
theorem a9s (C:CanK X.K X.prog X.w d ks):OpR3 X (compareOp .NotIn) (rInD d ks not):=by
 intro pins s σ H x y v u Q2 I rx ry q
 obtain⟨a,b,M,Q,r1,r2,hh,q,en⟩:=q
 unfold rInD at q
 split at q
 ·rename_i z p
  obtain⟨rfl,q⟩:=q
  obtain rfl:=a2k r1
  obtain rfl:=a0F r2
  obtain⟨t,rfl⟩:=rx
  cases ry
  refine wpAny_notIn_of (strKind_is _ _ z t) C.ns (C.dict I).mapOf ⟨.bl _,H,I.tok _,rfl,en _ _ M H Kp.refl hh a1W ?_⟩
  rw[b0n,Option.isSome_map]
  exact q
 ·exact q.elim
end
theorem b0x (o i:Expr) (p:Pos) (args:List Expr) (kws:List Keyword) (pos:Pos) (env:Env):eval (.Call (.Subscript o i p) args kws pos) env=(do
  callWith pos (← eval (.Subscript o i p) env) [] (backTo pos (starEach args env)) (backToKw pos (keywordEach kws env))):=rfl
structure DfA (P:Program) (w:World) (K:PySem.W.Frag) (mg:Str→Option Value) (base:Heap) (n:Nat) (f:Addr) (ps:List Str) (sp:Sp3):Prop where
 out:∃ fd,FnOk P w K mg base CX0 n f fd ps (dSp K sp)∧PySem.W.keepIn K (.ref f)=true∧a0G K fd ps []
theorem Df.fnAt {P:Program} {w:World} {K:PySem.W.Frag} {mg:Str→Option Value} {base:Heap} {n:Nat} {x:Str} {f:Addr} {ps:List Str} {sp:Sp3} (D:Df P w K mg base n x ps sp) (h:mg x=some (.ref f)):DfA P w K mg base n f ps sp:=by
 obtain⟨f',fd,F,hm,hk,hb⟩:=D.out
 rw[h] at hm
 cases hm
 exact⟨fd,F,hk,hb⟩
noncomputable def b1y (ks:List (Str × Addr)) (fs:List (Addr × Sp3)) (ti:TE3) (ta:TA3):TE3:=fun ρ M Q=>ti ρ M fun x M1=>match x with
 | .str z=>∃ f,a7w ks z=some f∧ta ρ M1 fun ts M2=>∃ sp,(f,sp)∈fs∧sp ts M2 Q
 | _=>False
theorem b4R {X:Cx} {d:Addr} {ks:List (Str × Addr)} {fs:List (Addr × Sp3)} {n:Nat} {x:Str} {ps:List Str} {i e:Expr} {es:List Expr} {ti:TE3} {ta:TA3} {p1 p2 pos:Pos} (C:CanK X.K X.prog X.w d ks) (hm:X.mg x=some (.ref d)) (hK:∀ q∈ks,PySem.W.keepIn X.K (.ref q.2)=true) (hF:∀ q∈fs,DfA X.prog X.w X.K X.mg X.base n q.1 ps q.2) (hr:Room n X.A) (hi:HE X i ti) (ha:HA X (e :: es) ta)
  (hs:NoSl i:=by intro _ _;rfl) (hg:Gl X x:=by rfl) (hdb:(x == ("__debug__":Str))=false:=by decide)
  (he:starEach (e :: es) X.env=(false,eval e X.env) :: starEach es X.env:=by rfl) (hpl:(backTo pos (starEach es X.env)).any (·.1)=false:=by rfl) :
  HE X (.Call (.Subscript (.Name x p1) i p2) (e :: es) [] pos) (b1y ks fs ti ta):=by
 intro ρ M Q h pins s σ H Q2 I b
 obtain⟨hr',hh,en⟩:=b
 rw[b0x]
 have hn:PE X (.Name x p1) (tC (.ref d)):=a8r hg hm rfl hdb
 refine wpAny_bind (b3G PySem.F.slot_dict_getitem.lookup hs (thn (hn pins s σ H (fun v H1=>v=.ref d∧H1=H) I ⟨rfl,rfl⟩) fun u s1 ⟨x1,H1,I1,rx,e1,e2⟩=>?_))
 subst e1 e2
 cases rx
 refine thn (hi ρ M _ h pins s1 σ H1 (fun v H2=>∃ t M1,Kp X.K H1 H2∧HR X.K H2 M1∧Rep X.K H2 v t∧(match t with
  | .str z=>∃ f,a7w ks z=some f∧ta ρ M1 fun ts M2=>∃ sp,(f,sp)∈fs∧sp ts M2 Q
  | _=>False)) I1 ⟨hr',hh,fun t v M1 H2 k1 h1 r1 q1=>⟨t,M1,k1,h1,r1,q1⟩⟩) fun iv s2 ⟨y,H2,I2,ry,t,M1,k1,h1,rt,q1⟩=>?_
 split at q1
 ·rename_i z
  obtain⟨f,hc,q1⟩:=q1
  obtain rfl:=a2k rt
  obtain⟨tk,rfl⟩:=ry
  refine⟨(C.dict I2).typeIs,wpAny_getItem_of (strKind_is _ _ z tk) (C.dict I2).mapOf (v:=.ref f) (by rw[b0n,hc];rfl) ?_⟩
  have I3:=I2.tok (s2.toks+1)
  have hk:PySem.W.keepIn X.K (.ref f)=true:=by
   unfold a7w at hc
   obtain⟨q,hq,rfl⟩:=Option.map_eq_some_iff.mp hc
   exact hK q (List.mem_of_find?_eq_some hq)
  refine PySem.W.callWith_K (h₀:=X.base) I3.ok.mod.kin hk (thn (ha ρ M1 _ q1 pos pins _ σ H2 (fun vs H3=>∃ ts M2,Kp X.K H2 H3∧HR X.K H3 M2∧Reps X.K H3 vs ts∧∃ sp,(f,sp)∈fs∧sp ts M2 Q) I3 ⟨hr'.kp k1,h1,fun ts vs M2 H3 k2 h2 r2 q2=>⟨ts,M2,k2,h2,r2,q2⟩⟩) fun us s3 ⟨vs,H3,I4,r,ts,M2,k2,h2,r2,sp,hsp,q2⟩=>⟨I4.kIn,?_⟩) he hpl
  obtain⟨fd,F,_,hb⟩:=(hF (f,sp) hsp).out
  exact b6W F hr hb .nil c0r I4 r ⟨ts,M2,Q,by rw[List.append_nil];exact r2,h2,q2,en.kp (k1.trans k2)⟩
 ·exact q1.elim
section
variable {X:Cx} {d:Addr} {ks:List (Str × Addr)}
end
theorem b1K {P:Program} {w:World}:∀ (L:List (Str × Tok × Addr)),PySem.Pairs (PySem.strKind P w) (L.map fun q=>(⟨PyData.keyHash w.params q.1,.str q.1 q.2.1,.ref q.2.2⟩:DictEntry)) (L.map fun q=>(q.1,Value.ref q.2.2))
 | []=>.nil
 | q :: L=>.cons (by show (q.1 == q.1)=true;exact beq_self_eq_true _) rfl (b1K L)
theorem b9f {K:PySem.W.Frag} {P:Program} {w:World} {d:Addr} {ep:Nat} (L:List (Str × Tok × Addr)) (l:K.lookup d=some ⟨.type "dict",none,.dict (L.map fun q=>(⟨PyData.keyHash w.params q.1,.str q.1 q.2.1,.ref q.2.2⟩:DictEntry)).toArray ep,#[]⟩) (nd:(L.map fun q=>q.1).Nodup) (ns:(d == sysModules)=false):CanK K P w d (L.map fun q=>(q.1,q.2.2)):=by
 refine⟨⟨_,l,_,ep,⟨rfl,rfl,rfl⟩,rfl,fun e he=>?_,?_,?_⟩,ns⟩
 ·rw[List.mem_toArray] at he
  obtain⟨q,_,rfl⟩:=List.mem_map.mp he
  exact⟨q.1,by show (q.1 == q.1)=true;exact beq_self_eq_true _,rfl⟩
 ·rw[List.map_map]
  exact b1K L
 ·rw[List.map_map,List.map_map]
  exact nd
noncomputable def flT:T→Bool
 | .non=>true
 | .bl _=>true
 | .int _=>true
 | .str _=>true
 | _=>false
noncomputable def toV:T→V
 | .bl b=>.bl b
 | .int i=>.int i
 | .str z=>.str z
 | _=>.non
theorem b6X {K:PySem.W.Frag} {H:Hp} {v:V} {t:T} (f:flT t=true) (r:Rep K H v t):v=toV t:=by
 cases t with
 | non=>exact a6U r
 | bl b=>exact a3m r
 | int i=>exact a0D r
 | str z=>exact a2k r
 | _=>cases f
theorem b0L {K:PySem.W.Frag} {H:Hp}:∀ {vs:List V} {ts:List T},ts.all flT=true→Reps K H vs ts→vs=ts.map toV
 | vs,[],_,r=>by unfold Reps at r;exact r
 | vs,t :: ts,f,r=>by
   unfold Reps at r
   obtain⟨v,w,rfl,r1,r2⟩:=r
   rw[List.all_cons,Bool.and_eq_true] at f
   rw[b6X f.1 r1,b0L f.2 r2]
   rfl
theorem a7Y {t:T} (f:flT t=true):a7u (toV t)=true:=by
 cases t<;>first | rfl | cases f
theorem a6B:∀ {ts:List T},ts.all flT=true→(ts.map toV).all a7u=true
 | [],_=>rfl
 | t :: ts,f=>by
   rw[List.all_cons,Bool.and_eq_true] at f
   rw[List.map_cons,List.all_cons,a7Y f.1,a6B f.2]
   rfl
theorem b9s {x y:T} (f:flT x=true) (g:flT y=true):eqV (toV x) (toV y)=eqT x y:=by
 cases x with
 | tup _=>cases f
 | adr _=>cases f
 | rd _=>cases f
 | dic _ _=>cases f
 | _ =>
   cases y with
   | tup _=>cases g
   | adr _=>cases g
   | rd _=>cases g
   | dic _ _=>cases g
   | _=>rfl
noncomputable def inT (x:T) (ts:List T):Bool:=ts.any fun y=>eqT y x
theorem b3x {x:T} (f:flT x=true):∀ {ts:List T},ts.all flT=true→inV (toV x) (ts.map toV)=inT x ts
 | [],_=>rfl
 | t :: ts,g=>by
   rw[List.all_cons,Bool.and_eq_true] at g
   have:=b3x f g.2
   unfold inV inT at this⊢
   rw[List.map_cons,List.any_cons,List.any_cons,b9s g.1 f,this]
noncomputable def rIn3 (neg:Bool):R3:=fun x y M Q=>flT x=true∧match y with
 | .tup ts=>ts.all flT=true∧Q (.bl (if neg then !inT x ts else inT x ts)) M
 | .adr p=>match M p with
   | some (.lst ts)=>ts.all flT=true∧Q (.bl (if neg then !inT x ts else inT x ts)) M
   | _=>False
 | _=>False
section
variable {X:Cx}
theorem b4p {neg:Bool} {f:Value→Value→Sem Value} (ho:OpR X f (rIn X.K neg)):OpR3 X f (rIn3 neg):=by
 intro pins s σ H x y v u Q2 I rx ry q
 obtain⟨a,b,M,Q,r1,r2,hh,q,en⟩:=q
 unfold rIn3 at q
 obtain⟨fa,q⟩:=q
 obtain rfl:=b6X fa r1
 split at q
 ·obtain⟨p,xs,rfl,h1,h2⟩:=a1d r2
  obtain rfl:=b0L q.1 h2
  refine ho pins s σ H _ _ v u Q2 I rx ry ⟨p,_,rfl,.inr h1,a7Y fa,a6B q.1,?_⟩
  rw[b3x fa q.1]
  exact en _ _ M H Kp.refl hh a1W q.2
 ·rename_i p
  split at q
  ·rename_i ts e
   obtain⟨xs,h1,h2⟩:=hh _ _ e
   obtain rfl:=a0F r2
   obtain rfl:=b0L q.1 h2
   refine ho pins s σ H _ _ v u Q2 I rx ry ⟨p,_,rfl,(.inl (.inl (.inl h1))),a7Y fa,a6B q.1,?_⟩
   rw[b3x fa q.1]
   exact en _ _ M H Kp.refl hh a1W q.2
  ·exact q.elim
 ·exact q.elim
theorem b7b:OpR3 X (compareOp .In) (rIn3 false):=b4p b4m
theorem a9q:OpR3 X (compareOp .NotIn) (rIn3 true):=b4p a9p
end
section
variable {X:Cx} {Ha:Hp} {body:List Stmt} {pos:Pos}
end
end L2
namespace L2
open PySem PySem.Spec PyProof.Rows
open AutoSeq1 (wpAny_loadPart')
theorem b1c (t:Addr) (items:Array Value) (n:Nat) (dct:Option Addr) (sl:Array (Option Value)) :
  Meets (Builtin.«enumerate.__new__» ⟨[.type "enumerate",.ref t],[]⟩) (fun _ R s=>s.heap.get? t=some { cls:=.type "tuple",dict:=dct,data:=.seq items n,slots:=sl } ∧
   R (.ok (.ret (.ref (s.heap.push { cls:=.type "tuple_iterator",data:=.fields #[.ref t,.int 0 0] }).objs.size)))
     { s with heap:=(s.heap.push { cls:=.type "tuple_iterator",data:=.fields #[.ref t,.int 0 0] }).push { cls:=.type "enumerate",data:=.fields #[.none,.bool false,.ref s.heap.objs.size,rawInt 0,.none,.none] } }) :=
 .of_wp fun prog w A R s h=>by
  obtain⟨hp,g,d,tk,os⟩:=s;obtain⟨hl,h⟩:=h
  have hsub:=sub_enumerate
  have hL:Heap.IsTuple (Shared.heap ⟨hp,g,d,tk,os⟩) t items:=⟨_,hl,rfl,n,rfl⟩
  wp_walk using wpAny_loadPart' hl
  refine wpAny_stack_any fun st=>wpAny_pure ?_
  split
  ·rename_i c _ _ _ _ _
   cases (c == Value.type "enumerate")
   ·wp_walk using wpAny_loadPart' hl,wpAny_pyIter_tuple hL
    exact⟨_,rfl,h⟩
   ·wp_walk using wpAny_loadPart' hl,wpAny_pyIter_tuple hL
    exact⟨_,rfl,h⟩
  ·wp_walk using wpAny_loadPart' hl,wpAny_pyIter_tuple hL
   exact⟨_,rfl,h⟩
section
variable {prog:Program} {w:World} {A:Around} {E:Value→Shared→Prop} {s:Shared}
theorem b3p {l:Addr} {items:Array Value} {Q:Value→Shared→Prop} (hL:s.heap.IsTuple l items)
  (h:∀ h',IsEnum h' (s.heap.objs.size+1) s.heap.objs.size 0 .none→h'.IsTupleIter s.heap.objs.size l 0→h'.objs.size=s.heap.objs.size+2 →
   (∀ b o,s.heap.get? b=some o→h'.get? b=some o)→Q (.ref (s.heap.objs.size+1)) { s with heap:=h' }) :
  wpAny (model prog w) A (call (.type "enumerate") [.ref l]) Q E s:=by
 obtain⟨⟨c,dct,dt,sl⟩,hl,hc,n,hd⟩:=hL
 replace hc:c=.type "tuple":=hc
 replace hd:dt=.seq items n:=hd
 subst hc hd
 refine callType_new F.called_enumerate (by decide) (F.typeCall_enumerate_1 _) (F.newCall_enumerate_1 _) (fun obj=>F.args_object_init_2 obj _) F.entry_enumerate_new
  (b1c l items n dct sl) ⟨hl,?_⟩
 have hz:(s.heap.push { cls:=.type "tuple_iterator",data:=.fields #[.ref l,.int 0 0] }).objs.size=s.heap.objs.size+1:=Heap.size_push ..
 show _∧_
 rw[hz]
 have he:IsEnum ((s.heap.push { cls:=.type "tuple_iterator",data:=.fields #[.ref l,.int 0 0] }).push
   { cls:=.type "enumerate",data:=.fields #[.none,.bool false,.ref s.heap.objs.size,rawInt 0,.none,.none] }) (s.heap.objs.size+1) s.heap.objs.size 0 .none:=by
  have:=Heap.get?_push_size (s.heap.push { cls:=.type "tuple_iterator",data:=.fields #[.ref l,.int 0 0] })
   (o:={ cls:=.type "enumerate",data:=.fields #[.none,.bool false,.ref s.heap.objs.size,rawInt 0,.none,.none] }) rfl
  rw[hz] at this;exact this
 refine⟨⟨_,he,rfl⟩,h _ he ⟨_,Heap.get?_push_of_some _ (Heap.get?_push_size _ rfl),rfl,rfl⟩ (by rw[Heap.size_push,hz]) fun b o x=>Heap.get?_push_of_some _ (Heap.get?_push_of_some _ x)⟩
theorem a6Q {it l:Addr} {i:Nat} {items} {x:Value} {Q:Value→Shared→Prop} (hit:s.heap.IsTupleIter it l i)
  (hl:s.heap.IsTuple l items) (hx:items[i]?=some x)
  (hQ:∀ h',h'.IsTupleIter it l (i+1)→Heap.SameBut it s.heap h'→Q x { s with heap:=h' }) :
  wpAny (model prog w) A (Builtin.SmallTypes.nextOf (.ref it)) Q E s:=by
 obtain⟨o,ho,hc,hd⟩:=id hit
 obtain⟨ol,hol,_,nl,hdl⟩:=hl
 unfold Builtin.SmallTypes.nextOf
 refine wpAny_bind (wpAny_callSpecial?_slot (name:=Str.ofString "__next__") hit.typeIs F.slot_tuple_iterator_next
  (wpAny_call_entry F.slot_tuple_iterator_next hit.typeIs F.entry_tuple_iterator_next ?_ (F.args_tuple_iterator_next_1 _)))
 show wpAny _ _ (field (.ref it) 0 >>= _) _ _ s
 refine wpAny_bind (wpAny_field ho hd (x:=.ref l) rfl ?_)
 show wpAny _ _ (if (Value.ref l == Value.none)=true then _ else _) _ _ s
 rw[if_neg (show ¬((Value.ref l == Value.none)=true) from Bool.false_ne_true)]
 show wpAny _ _ (field (.ref it) 1 >>= _) _ _ s
 refine wpAny_bind (wpAny_field ho hd (x:=.int i 0) rfl ?_)
 show wpAny _ _ (seqItems? (.ref l) >>= _) _ _ s
 refine wpAny_bind (wpAny_seqItems hol hdl ?_)
 simp only[Int.toNat_natCast,hx]
 refine wpAny_bind (wpAny_setField ho hd (by simp) (wpAny_pure ⟨x,rfl,wpAny_pure (hQ _ ?_ (Heap.SameBut.update ..))⟩))
 exact⟨_,Heap.get?_update_self _ ho (Obj.isFreed_of_fields (Obj.data_mapFields hd _)),(Obj.cls_mapFields ..).trans hc,by
  rw[Obj.data_mapFields hd];simp [rawInt]⟩
theorem a7r {it l:Addr} {i:Nat} {items} {Q:Value→Shared→Prop} (hh:A.handled=none)
  (hit:s.heap.IsTupleIter it l i) (hl:s.heap.IsTuple l items) (hx:items[i]?=none)
  (hE:∀ h' e,Heap.ExtBut it s.heap h'→(∃ o,h'.get? e=some o∧o.cls=.type "StopIteration")→E (.ref e) { s with heap:=h' }) :
  wpAny (model prog w) A (Builtin.SmallTypes.nextOf (.ref it)) Q E s:=by
 obtain⟨o,ho,hc,hd⟩:=id hit
 obtain⟨ol,hol,_,nl,hdl⟩:=hl
 unfold Builtin.SmallTypes.nextOf
 refine wpAny_bind (wpAny_callSpecial?_slot (name:=Str.ofString "__next__") hit.typeIs F.slot_tuple_iterator_next
  (wpAny_call_entry F.slot_tuple_iterator_next hit.typeIs F.entry_tuple_iterator_next ?_ (F.args_tuple_iterator_next_1 _)))
 show wpAny _ _ (field (.ref it) 0 >>= _) _ _ s
 refine wpAny_bind (wpAny_field ho hd (x:=.ref l) rfl ?_)
 show wpAny _ _ (if (Value.ref l == Value.none)=true then _ else _) _ _ s
 rw[if_neg (show ¬((Value.ref l == Value.none)=true) from Bool.false_ne_true)]
 show wpAny _ _ (field (.ref it) 1 >>= _) _ _ s
 refine wpAny_bind (wpAny_field ho hd (x:=.int i 0) rfl ?_)
 show wpAny _ _ (seqItems? (.ref l) >>= _) _ _ s
 refine wpAny_bind (wpAny_seqItems hol hdl ?_)
 simp only[Int.toNat_natCast,hx]
 refine wpAny_bind (wpAny_rule (wpAny_bind (wpAny_setField ho hd (by simp) ?_)))
 show wpAny _ _ (newExc (.type "StopIteration") [] >>= _) _ _ _
 refine wpAny_bind ?_
 simp only[newExc,newTuple]
 refine wpAny_bind (wpAny_newObj_type ?_ (by size_fits))
 refine wpAny_bind (m:=firstArgMember _ _) (wpAny_of_eq (a:=Value.none) (by first | rfl | (simp only[firstArgMember];rfl)) ?_)
 refine wpAny_newObj_type ?_ (by size_fits)
 simp only[raiseNew]
 refine wpAny_bind (wpAny_handled ?_)
 first | rw[show A.in1.handled=none from hh] | rw[hh]
 refine wpAny_bind (wpAny_pure (wpAny_throw ?_))
 exact hE _ _ (((Heap.SameBut.update ..).extBut.push _).push _) ⟨_,Heap.get?_push_size _ rfl,rfl⟩
theorem b0d (hh:A.handled=none) (it l:Addr) (hne:l≠it) (items:Array Value) :
  Draws prog w A it [it,l] items.size (fun i v=>items[i]?=some v) (fun i h=>h.IsTupleIter it l i∧h.IsTuple l items) where
 live:=fun _ _ st=>let ⟨o,ho,_⟩:=st.1;⟨o,ho⟩
 frame:=fun _ _ _ st hk=>⟨st.1.at fun o e=>hk it (by simp) o e,st.2.at fun o e=>hk l (by simp) o e⟩
 item:=fun i s Q E hi st hQ=>by
  refine a6Q st.1 st.2 (x:=items[i]) (by simp [hi]) fun h' hit' hs'=>?_
  exact hQ _ h' s.toks (by simp [hi]) ⟨hit',st.2.extBut hs'.extBut hne⟩ hs'
 done:=fun s Q E st hE=>a7r hh st.1 st.2 (by simp) hE
end
noncomputable def IttE (K:PySem.W.Frag) (a:Addr) (n:Nat):It :=
 ⟨fun i H=>i < n∧∃ xs,SqT K H a xs∧xs.length=n,fun i H x H'=>∃ T y,x=.ref T∧H T=none∧H'=upd H T (.tup [.int i,y])∧∀ xs,SqT K H a xs→xs[i]?=some y,fun i H=>i=n∧∃ xs,SqT K H a xs∧xs.length=n⟩
theorem b2y {P:Program} {w:World} {K:PySem.W.Frag} {es:List Expr} {x1} {tp:Pos} (a e it:Addr) (n:Nat) (hne:e≠it) (hai:a≠it) (hae:a≠e):Turn P w K (.Tuple es x1 tp) (IttE K a n) [e,it] e (fun i h=>(∃ old,IsEnum h e it (i:Int) old)∧Heap.IsTupleIter h it a i) where
 mem:=by simp
 obj:=fun i h st b hb=>by
  obtain⟨⟨old,he⟩,hit⟩:=st
  have z:b=e∨b=it:=by simpa using hb
  rcases z with rfl | rfl
  ·exact⟨_,he,fun v z=>by cases z⟩
  ·obtain⟨o,q,c,d⟩:=hit
   exact⟨o,q,fun v z=>by rw[d] at z;cases z⟩
 keep:=fun i h h' st k=>by
  obtain⟨⟨old,he⟩,hit⟩:=st
  exact⟨⟨old,k e (by simp) _ he⟩,hit.at fun o q=>k it (by simp) o q⟩
 item:=by
  intro X hP hw hK hc i pins s σ H E I hf st hg
  subst hP hw hK
  obtain⟨⟨old,he⟩,hit⟩:=st
  obtain⟨hi,xs,hq,hxn⟩:=hg
  subst hxn
  obtain⟨its,rv,p,hz⟩:=I.tuple hq
  obtain⟨x,hx⟩:∃ x,xs[i]?=some x:=⟨_,List.getElem?_eq_getElem hi⟩
  obtain⟨u,hu,ru⟩:=rv.get hx
  have fe:=hf e (by simp)
  have fi:=hf it (by simp)
  have hpt:s.heap.IsTuple a its.toArray:=p
  have hsz0:i < its.toArray.size:=by have:=rv.length;simp;lia
  refine wpAny_pyNext_enum_itemD (b0d (A:=X.A.in1) (show X.A.in1.handled=none from I.ok.hd hc) it a hai its.toArray) he ⟨hit,hpt⟩ hsz0 hne (by simp [hne,hae.symm]) fun x' h1 tk hx' ho hit1 hT hsz hk=>?_
  obtain rfl:u=x':=by
   have e1:its.toArray[i]?=some u:=by simpa using hu
   exact Option.some.inj (e1.symm.trans hx')
  refine⟨_,rfl,wpAny_letOwnedTupleGo_enum ho fun h2 he2 hs2=>?_⟩
  have neT:s.heap.objs.size≠e:=Nat.ne_of_gt (Heap.lt_size he)
  have k2:∀ b o,b≠e→b≠it→s.heap.get? b=some o→h2.get? b=some o:=fun b o h3 h4 q=>(hs2.2 b h3).trans (hk b o h3 h4 q)
  have hT2:h2.get? s.heap.objs.size=some { cls:=.type "tuple",data:=.seq #[.int i tk,u] }:=(hs2.2 _ neT).trans hT
  have hn:H s.heap.objs.size=none:=I.hok.fresh (Nat.le_refl _)
  have I2:Inv X pins σ (upd H s.heap.objs.size (.tup [.int i,x])) { s with heap:=h2,toks:=tk+1 }:=I.turnNew fe fi k2 (Nat.le_refl _)
   ⟨by simp only[List.length_cons,List.length_nil];rw[sizeLine_eq];decide,[.int i tk,u],.cons ⟨_,rfl⟩ (.cons ru .nil),_,hT2,rfl,rfl,_,rfl⟩
  refine⟨.ref s.heap.objs.size,_,I2,rfl,⟨_,x,rfl,hn,rfl,fun ys hy=>by rw[I.tuple_inj hy hq];exact hx⟩,⟨⟨_,he2⟩,hit1.1.at fun o q=>(hs2.2 it hne.symm).trans q⟩,fun b hb=>?_⟩
  have z:b=e∨b=it:=by simpa using hb
  have hb':b < s.heap.objs.size:=by
   rcases z with rfl | rfl
   ·exact Heap.lt_size he
   ·obtain⟨o,q,_⟩:=hit
    exact Heap.lt_size q
  rw[a0v (Nat.ne_of_lt hb')]
  exact (hf b hb).1
 done:=by
  intro X hP hw hK hc i pins s σ H E I hf st hg
  subst hP hw hK
  obtain⟨⟨old,he⟩,hit⟩:=st
  obtain⟨hi,xs,hq,hxn⟩:=hg
  subst hi
  obtain⟨its,rv,p,hz⟩:=I.tuple hq
  have hl:=rv.length
  obtain⟨f0,f1,f2,f3,f4,f5⟩:=hf it (by simp)
  have hpt:s.heap.IsTuple a its.toArray:=p
  have hn2:i=its.toArray.size:=by simp;lia
  rw[hn2] at hit
  exact wpAny_pyNext_enum_endD (b0d (A:=X.A.in1) (show X.A.in1.handled=none from I.ok.hd hc) it a hai its.toArray) he ⟨hit,hpt⟩ fun h' eb=>⟨rfl,I.turned (t':=s.toks) (fun b o hb e=>eb b o hb e) f0 f1 f3 f4 f5⟩
 self:=fun A i s Q E st h=>by
  obtain⟨⟨old,he⟩,_⟩:=st
  exact wpAny_pyIter_enum he h
section
variable {X:Cx}
theorem b3f {K:PySem.W.Frag} {H:Hp} {a:Addr} {xs:List V} {ts:List T} (h:SqT K H a xs) (r:Reps K H xs ts):ItOk K H (IttE K a ts.length) ⟨enT ts,fun _=>True⟩:=by
 refine⟨fun H' M' k hh _=>⟨by show (enT ts).length=_;rw[a4I],xs,k.tup _ _ h,r.length⟩,fun i x H' M' e k hh _=>?_⟩
 obtain⟨t,ht,rfl⟩:=b4Z e
 obtain⟨v,e1,r1⟩:=r.get ht
 refine⟨⟨(List.getElem?_eq_some_iff.mp ht).1,xs,k.tup _ _ h,r.length⟩,fun v' H'' y=>?_⟩
 obtain⟨p,y,rfl,hn,rfl,hy⟩:=y
 have e2:=hy xs (k.tup _ _ h)
 rw[e1] at e2
 cases e2
 refine⟨Kp.new hn,hh.keep hn,a1v (SqT.of a0B) ?_⟩
 unfold Reps
 refine⟨_,_,rfl,a0K,?_⟩
 unfold Reps
 refine⟨_,_,rfl,Rep.kp (Kp.new hn) _ _ (Rep.kp k _ _ r1),?_⟩
 unfold Reps
 rfl
noncomputable def b7i (tl:TE3):TI3:=fun ρ M R=>tl ρ M fun x M1=>match x with
 | .tup ts=>R ⟨enT ts,fun _=>True⟩ M1
 | _=>False
theorem b8K {es:List Expr} {x1} {tp pos:Pos} {l:Expr} {tl:TE3} {p:Pos} (hm:X.mg "enumerate"=none) (hl:HE X l tl) (hg:Gl X "enumerate":=by rfl) (hs:starEach [l] X.env=[(false,eval l X.env)]:=by rfl):HI X (.Tuple es x1 tp) (.Call (.Name "enumerate" p) [l] [] pos) (b7i tl):=by
 intro ρ M R h pins s σ H R2 I b
 obtain⟨hr,hh,en⟩:=b
 have pa:=b4l (X:=X) (hl.d (ρ:=ρ)) b6Z hs
 refine Call_ (a6h I hg hm PyProof.Rows.boot_enumerate (PyProof.Rows.callWith_type1 (thn (pa pos pins s σ H (fun vs H1=>∃ v t M1,vs=[v]∧Kp X.K H H1∧HR X.K H1 M1∧Rep X.K H1 v t∧(match t with
  | .tup ts=>R ⟨enT ts,fun _=>True⟩ M1
  | _=>False)) I ⟨M,_,h,hr,hh,fun t v M1 H1 k1 h1 r1 q1=>⟨v,t,M1,rfl,k1,h1,r1,q1⟩⟩) fun us s1 ⟨vs,H1,I1,r1,v,t,M1,e,k1,h1,rt,q1⟩=>?_) hs rfl))
 subst e
 cases r1 with
 | cons r rr =>
   cases rr
   split at q1
   ·rename_i ts
    obtain⟨a,xs,rfl,g1,g2⟩:=a1d rt
    cases r
    obtain⟨its,rv,p,hz⟩:=I1.tuple g1
    have hpt:s1.heap.IsTuple a its.toArray:=p
    have ha:a < s1.heap.objs.size:=by obtain⟨o,ho,_⟩:=hpt;exact Heap.lt_size ho
    refine b3p hpt fun h' he hit hsz hk=>?_
    refine wpAny_pyIter_enum (s:={ s1 with heap:=h' }) he ?_
    refine⟨s1.heap.objs.size+1,[s1.heap.objs.size+1,s1.heap.objs.size],_,_,H1,rfl,I1.kept (t':=s1.toks) hk,b2y a _ _ ts.length (Nat.succ_ne_self _) (Nat.ne_of_lt ha) (Nat.ne_of_lt (Nat.lt_succ_of_lt ha)),⟨⟨_,he⟩,hit⟩,fun b hb=>?_,en _ _ M1 H1 k1 h1 (b3f g1 g2) q1⟩
    have z:b=s1.heap.objs.size+1∨b=s1.heap.objs.size:=by simpa using hb
    rcases z with rfl | rfl
    ·exact I1.fpOk (Nat.le_succ _) (I1.hok.fresh (Nat.le_succ _))
    ·exact I1.fpOk (Nat.le_refl _) (I1.hok.fresh (Nat.le_refl _))
   ·exact q1.elim
end
theorem a9d {es rest:List Expr} {x1} {pos:Pos} {env:Env}:starEach (.Tuple es x1 pos :: rest) env=(false,eval (.Tuple es x1 pos) env) :: starEach rest env:=rfl
theorem a2a {X:Cx} {es1 es:List Expr} {x1} {pos:Pos} {ta:TE3} {t:TA3} (ha:HE X (.Tuple es1 x1 pos) ta) (hr:HA X es t):HA X (.Tuple es1 x1 pos :: es) (b3C ta t):=a0a ha hr (hs:=a9d)
end L2
namespace L2
open PySem PySem.Spec PyProof.Rows
section
variable {prog:Program} {w:World} {A:Around} {E:Value→Shared→Prop} {s:Shared}
end
section
variable {X:Cx}
theorem a9V {K:PySem.W.Frag} {H:Hp}:∀ ns:List Int,Reps K H (ns.map V.int) (ns.map .int)
 | []=>by rw[List.map_nil,List.map_nil];unfold Reps;rfl
 | n :: ns=>by
   rw[List.map_cons,List.map_cons]
   unfold Reps
   exact⟨_,_,rfl,a0K,a9V ns⟩
end
theorem c0K {α:Type} {us:List α} {P:List α→Prop} (hl:us.length=1) (h:∀ a:α,P [a]):P us:=by
 obtain⟨a,rfl⟩:=List.length_eq_one_iff.mp hl
 exact h a
theorem c0J {α:Type} {us:List α} {P:List α→Prop} (hl:us.length=2) (h:∀ a b:α,P [a,b]):P us:=by
 obtain⟨a,r,rfl⟩:=List.exists_cons_of_length_eq_add_one hl
 exact c0K (P:=fun r=>P (a :: r)) (Nat.succ.inj hl) (h a)
theorem c0I {α:Type} {us:List α} {P:List α→Prop} (hl:us.length=3) (h:∀ a b c:α,P [a,b,c]):P us:=by
 obtain⟨a,r,rfl⟩:=List.exists_cons_of_length_eq_add_one hl
 exact c0J (P:=fun r=>P (a :: r)) (Nat.succ.inj hl) (h a)
theorem c0H {α:Type} {us:List α} {P:List α→Prop} (hl:us.length=4) (h:∀ a b c d:α,P [a,b,c,d]):P us:=by
 obtain⟨a,r,rfl⟩:=List.exists_cons_of_length_eq_add_one hl
 exact c0I (P:=fun r=>P (a :: r)) (Nat.succ.inj hl) (h a)
theorem c0G {α:Type} {us:List α} {P:List α→Prop} (hl:us.length=5) (h:∀ a b c d e:α,P [a,b,c,d,e]):P us:=by
 obtain⟨a,r,rfl⟩:=List.exists_cons_of_length_eq_add_one hl
 exact c0H (P:=fun r=>P (a :: r)) (Nat.succ.inj hl) (h a)
theorem c2d {α:Type} {us:List α} {P:List α→Prop} (hl:us.length=6) (h:∀ a b c d e f:α,P [a,b,c,d,e,f]):P us:=by
 obtain⟨a,r,rfl⟩:=List.exists_cons_of_length_eq_add_one hl
 exact c0G (P:=fun r=>P (a :: r)) (Nat.succ.inj hl) (h a)
theorem c2e {α:Type} {us:List α} {P:List α→Prop} (hl:us.length=0) (h:P []):P us:=by obtain rfl:=List.eq_nil_of_length_eq_zero hl;exact h
section
variable {X:Cx}
end
section
variable {X:Cx}
theorem a7z:∀ {ns:List Int} {its:List Value},Vals (ns.map V.int) its→IntsAre its ns
 | [],_,h=>by cases h;exact .nil
 | n :: ns,_,h=>by
   cases h with
   | cons r h =>
     obtain⟨t,rfl⟩:=r
     exact .cons _ _ (a7z h)
theorem a8S (hc:X.calm=true):a7k X (.builtin "sum") (fun xs H Q=>∃ (p:Addr) (ns:List Int),xs=[.ref p]∧SqL X.K H p (ns.map V.int)∧Q (.int ns.sum) H):=by
 intro pins s σ H xs us Q I r h
 obtain⟨p,ns,rfl,hq,q⟩:=h
 obtain⟨u,rfl,rx⟩:=a5Q r
 cases rx
 obtain⟨its,r',pl,hz⟩:=I.list hq
 have hi:=a7z r'
 obtain⟨ys,e⟩:=hi.allInts.items
 have hl:=pl.isList
 rw[e] at hl
 refine sum_intListG (I.ok.hd hc) hl fun h' tk t' hk=>?_
 have e2:preSum (numAt ys) ys.size=ns.sum:=by
  rw[preSum_eq,List.take_of_length_le (by simp),← nums_intItems,← e]
  show (numsOf its).sum=_
  rw[hi.numsOf]
 rw[e2]
 have I1:Inv X pins σ H { s with heap:=h',toks:=tk }:=I.kept hk
 exact⟨.int _,H,I1,⟨_,rfl⟩,q⟩
noncomputable def b7P:List T→MH→VK3→Prop:=fun xs M Q=>match xs with
 | [.adr p]=>(match M p with | some (.lst ts)=>(match a8K ts with | some ns=>Q (.int ns.sum) M | none=>False) | _=>False)
 | _=>False
theorem b5p (hc:X.calm=true):a4f X (.builtin "sum") b7P:=by
 intro pins s σ H vs us Q2 I r h
 obtain⟨xs,M,Q,rr,hh,q,en⟩:=h
 unfold b7P at q
 split at q
 ·obtain⟨v,rfl,r1⟩:=a2j rr
  obtain rfl:=a0F r1
  split at q
  ·rename_i ts e0
   obtain⟨ys,g1,g2⟩:=hh _ _ e0
   split at q
   ·rename_i ns eb
    obtain rfl:=a7N eb
    obtain rfl:=Reps.ints g2
    exact a8S hc pins s σ H _ us Q2 I r ⟨_,ns,rfl,SqL.of g1,en _ _ M H Kp.refl hh a0K q⟩
   ·exact q.elim
  ·exact q.elim
 ·exact q.elim
end
end L2
namespace L2
open PySem PySem.Spec PyProof.Rows LM
section
variable {κ:Type} [DecidableEq κ]
end
section
variable {X:Cx}
end
noncomputable def g2 (tab:List (List Int)) (a b:Int):Int:=gI (tab.getD a.toNat []) b
noncomputable def InM (m c:Int):Prop:=0≤c∧c < m
structure TabQ (tab:List (List Int)):Prop where
 l1:1≤tab.length
 rows:∀ r∈tab,r.length=tab.length
 idem:∀ c,InM tab.length c→g2 tab c c=c
 col:∀ c,InM tab.length c→(tab.map fun r=>gI r c).Perm (b9V tab.length)
 third:∀ a b c,InM tab.length a→InM tab.length b→InM tab.length c→g2 tab (g2 tab a b) c=g2 tab (g2 tab a c) (g2 tab b c)
structure TabOK (tab:List (List Int)):Prop extends TabQ tab where
 l7:tab.length≤7
instance {tab:List (List Int)}:Coe (TabOK tab) (TabQ tab):=⟨TabOK.toTabQ⟩
theorem a8m {n p q:Int} (hp:LetOK n p) (hq:LetOK n q) (s:p*q > 0) (d:(p - q).natAbs=1):RelW n [p,q,-p] [-q,p,q]:=by
 have x1:=RelW.ctx (w:=[-q,- -q]) (v:=[]) [] [p,q,-p] .nil (.three hp hq hp.neg) (RelW.out hq.neg)
 have x2:=RelW.ctx (w:=[q,p,q]) (v:=[p,q,p]) [-q] [-p] (.one hq.neg) (.one hp.neg) (RelW.three hp hq s d).symm
 have x3:=RelW.ctx (w:=[p,-p]) (v:=[]) [-q,p,q] [] (.three hq.neg hp hq) .nil (RelW.out hp)
 rw[Int.neg_neg] at x1
 exact x1.symm.trans (x2.trans x3)
theorem a5R {a l:Int} (h:0 < l):sgnL a l=(a.natAbs:Int):=if_neg (by lia)
theorem a5S {a l:Int} (h:l < 0):sgnL a l=-(a.natAbs:Int):=if_pos h
theorem b0N {n p q r:Int} (hp:LetOK n p) (hq:LetOK n q) (hr:LetOK n r) (h:a7j p q r):RelW n [p,q,r] [sgnL q r,sgnL p q,sgnL q p]:=by
 obtain⟨h1,h2,h3⟩:=h
 have ne1:=hp.ne
 have ne2:=hq.ne
 have pos:∀ {x y:Int},0 < x→0 < y→x*y > 0:=fun a b=>Int.mul_pos a b
 have neg:∀ {x y:Int},x < 0→y < 0→x*y > 0:=fun a b=>Int.mul_pos_of_neg_of_neg a b
 rcases (show r=p∨r=-p by lia) with rfl | rfl
 ·have h3:=h3 rfl
  rcases Int.lt_or_le 0 r with z | z
  ·have z2:=h3.mp z
   rw[a5R z,a5R z2,show (q.natAbs:Int)=q by lia,show (r.natAbs:Int)=r by lia]
   exact .three hp hq (pos z z2) (by lia)
  ·have z2:q < 0:=by
    rcases Int.lt_or_le 0 q with y | y
    ·exact absurd (h3.mpr y) (by lia)
    ·lia
   rw[a5S (show r < 0 by lia),a5S z2,show -(q.natAbs:Int)=q by lia,show -(r.natAbs:Int)=r by lia]
   exact .three hp hq (neg (by lia) z2) (by lia)
 ·rcases Int.lt_or_le 0 p with z | z
  ·rw[a5S (show -p < 0 by lia),a5R z]
   rcases Int.lt_or_le 0 q with y | y
   ·rw[a5R y,show (q.natAbs:Int)=q by lia,show (p.natAbs:Int)=p by lia]
    exact a8m hp hq (pos z y) (by lia)
   ·rw[a5S (show q < 0 by lia)]
    have:=(a8m (p:=q) (q:=-p) hq hp.neg (neg (by lia) (by lia)) (by lia)).symm
    rw[Int.neg_neg] at this
    rw[show -(q.natAbs:Int)=q by lia,show -(p.natAbs:Int)=-p by lia,show (q.natAbs:Int)=-q by lia]
    exact this
  ·rw[a5R (show 0 < -p by lia),a5S (show p < 0 by lia)]
   rcases Int.lt_or_le 0 q with y | y
   ·rw[a5R y]
    have:=(a8m (p:=q) (q:=-p) hq hp.neg (pos (by lia) (by lia)) (by lia)).symm
    rw[Int.neg_neg] at this
    rw[show (q.natAbs:Int)=q by lia,show (p.natAbs:Int)=-p by lia]
    exact this
   ·rw[a5S (show q < 0 by lia)]
    rw[show (q.natAbs:Int)=-q by lia,show (p.natAbs:Int)=-p by lia,Int.neg_neg,Int.neg_neg]
    exact a8m hp hq (neg (by lia) (by lia)) (by lia)
theorem b0O {n:Int} {A B w v:List Int} (hA:WordOK n A) (hB:WordOK n B) (h:RelW n w v):RelW n (A++(w++B)) (A++(v++B)):=by
 have:=RelW.ctx A B hA hB h
 rwa [List.append_assoc,List.append_assoc] at this
theorem b5u {n:Int} {w r:List Int} {s:Stp} (hw:WordOK n w) (h:aft n w s=some r):RelW n w r:=by
 cases s with
 | far a =>
   replace h:(if a0Z w a=true then some (a4h w a.toNat) else none)=some r:=h
   split at h
   ·rename_i c
    obtain rfl:=Option.some.inj h
    have c0:=c
    unfold a0Z at c
    simp only[Bool.and_eq_true,decide_eq_true_eq] at c
    obtain⟨A,p,q,B,rfl,hA⟩:=cut2 c.1.1 c.1.2
    have c2:=c.2
    rw[a4T c.1.1 hA,a5f c.1.1 hA] at c2
    rw[a4u hA]
    have hp:=hw p (by simp)
    have hq:=hw q (by simp)
    exact b0O (w:=[p,q]) (v:=[q,p]) hw.appl (fun x hx=>hw x (by simp [hx])) (.far hp hq (by lia))
   ·cases h
 | three a =>
   replace h:(if a0z w a=true then some (a2S w a) else none)=some r:=h
   split at h
   ·rename_i c
    obtain rfl:=Option.some.inj h
    have hb:0≤a∧a < (w.length:Int) - 2:=by
     unfold a0z at c
     simp only[Bool.and_eq_true,decide_eq_true_eq] at c
     exact c.1
    obtain⟨A,p,q,r,B,rfl,hA⟩:=cut3 hb.1 hb.2
    have hp:=hw p (by simp)
    have hq:=hw q (by simp)
    have hr:=hw r (by simp)
    rw[a5O hb.1 hA hp.ne hq.ne] at c
    rw[a4V hb.1 hA]
    exact b0O (w:=[p,q,r]) (v:=[_,_,_]) hw.appl (fun x hx=>hw x (by simp [hx])) (b0N hp hq hr c)
   ·cases h
 | out a =>
   replace h:(if a1f w a=true then some (outL w a) else none)=some r:=h
   split at h
   ·rename_i c
    obtain rfl:=Option.some.inj h
    unfold a1f at c
    simp only[Bool.and_eq_true,decide_eq_true_eq] at c
    obtain⟨A,p,q,B,rfl,hA⟩:=cut2 c.1.1 c.1.2
    have c2:=c.2
    rw[a4T c.1.1 hA,a5f c.1.1 hA] at c2
    have e:outL (A++p :: q :: B) a=A++([]++B):=by
     unfold outL
     rw[← hA,show (a+2).toNat=A.length+2 by lia,List.take_left]
     congr 1
     rw[← List.drop_drop,List.drop_left];rfl
    rw[e]
    obtain rfl:q=-p:=by lia
    exact b0O (w:=[p,-p]) (v:=[]) hw.appl (fun x hx=>hw x (by simp [hx])) (.out (hw p (by simp)))
   ·cases h
 | inn a l =>
   replace h:(if inB n w a l=true then some (inL w a l) else none)=some r:=h
   split at h
   ·rename_i c
    obtain rfl:=Option.some.inj h
    unfold inB at c
    simp only[Bool.and_eq_true,decide_eq_true_eq,a2g] at c
    have:=(RelW.ctx (w:=[l,-l]) (v:=[]) (w.take a.toNat) (w.drop a.toNat) (WordOK.take hw _) (WordOK.drop hw _) (RelW.out c.2)).symm
    rw[List.append_nil,List.take_append_drop] at this
    exact this
   ·cases h
theorem b2s {n:Int}:∀ {L:List Stp} {w r:List Int},WordOK n w→aftL n w L=some r→RelW n w r
 | [],w,r,hw,h=>by obtain rfl:=Option.some.inj h;exact .refl _
 | s :: L,w,r,hw,h=>by
   rw[b5w] at h
   cases e:aft n w s with
   | none=>rw[e] at h;cases h
   | some v=>rw[e] at h;exact (b5u hw e).trans (b2s (b7v hw e).1 h)
section
variable {X:Cx}
end
section
variable {prog:Program} {w:World} {A:Around} {E:Value→Shared→Prop} {s:Shared}
end
section
variable {X:Cx} {pos:Pos}
end
section
variable {X:Cx} {Ha:Hp} {a b:Expr} {ta tb:TE3} {tA:TT3} {pos:Pos}
end
section
variable {X:Cx} {Ha:Hp}
end
section
variable {X:Cx} {pos:Pos}
end
section
variable {X:Cx}
end
section
variable {X:Cx}
end
section
variable {X:Cx} {e:Expr} {te:TE3} {p p2 pos pos2:Pos}
end
section
variable {X:Cx}
end
section
variable {P:Program} {w:World} {A:Around} {E:Value→Shared→Prop} {s:Shared}
end
theorem a9n {α β:Type} {F:α→β→Prop}:∀ {xs:List α} {ys:List β} {i:Nat} {x:α},Paired F xs ys→xs[i]?=some x→∃ y,ys[i]?=some y∧F x y
 | _,_,_,_,.nil,e=>by simp at e
 | _,_,0,_,.cons r _,e=>by simp at e;subst e;exact⟨_,rfl,r⟩
 | _,_,i+1,x,.cons _ t,e=>by
   obtain⟨u,h1,h2⟩:=a9n (i:=i) (x:=x) t (by simpa using e)
   exact⟨u,by simpa using h1,h2⟩
section
variable {X:Cx}
end
section
variable {X:Cx}
end
noncomputable def sgI (l:Int):Int:=if l < 0 then -1 else 1
section
variable {P:Program} {w:World} {A:Around} {E:Value→Shared→Prop} {s:Shared}
theorem a9D:typeLookup (.type "tuple") "keys"=pure none:=by rw[typeLookup_type,builtinLookup_eq_fast];kernel_rfl
set_option maxRecDepth 8000 in
theorem a7h {a:Addr} {xs:Array Value} {k:Nat} {sl:Array (Option Value)} {Q:Option Value→Shared→Prop} (hx:s.heap.get? a=some { cls:=.type "tuple",dict:=none,data:=.seq xs k,slots:=sl }) (hA:A.handled=none)
  (h:∀ h' tk,(∀ b o,s.heap.get? b=some o→h'.get? b=some o)→Q none { s with heap:=h',toks:=tk }):wpAny (model P w) A (getAttr? (.ref a) "keys") Q E s:=by
 obtain⟨hp,g,d,tk,os⟩:=s
 have hT:∀ tk',(⟨hp,g,d,tk',os⟩:Shared).TypeIs (.ref a) "tuple":=fun _=>⟨_,hx,rfl⟩
 have f1:=sub_AttributeError;have f3:=F.slot_tuple_getattribute.lookup;have f4:=F.slot_tuple_getattribute.bind (.ref a);have f5:=am_tuple_getattr_none
 have hname:(["__module__","__name__","__qualname__","__doc__","__annotations__"]:List Str).contains "keys"=false:=by decide +kernel
 unfold getAttr? getAttrBy? getAttrBy
 repeat (any_goals (first | exact hT _ | assumption | ((with_reducible show wpAny _ _ (call (Value.builtin "tuple.__getattribute__") _ _) _ _ _);refine call_meets F.slot_tuple_getattribute (hT _) am_entry_tuple_getattribute (F.args_tuple_getattribute_2 _ _) (meets_getattribute_miss_tuple a xs k sl "keys" _ a9D hname (by rw[sizeLine_eq];decide +kernel)) ⟨hx,hA,fun h' tk' e hx'=>?_⟩) | wp_step))
 obtain⟨t',u',he⟩:=hx'.there
 show wpAny _ _ (getattributeRaised _ _ _ _ _ _ _) _ _ _
 unfold getattributeRaised
 repeat (any_goals (first | wp_step | assumption))
 exact h _ _ hx'.of.keeps
theorem a6N:entryFor table "dict.update.loop"=some Builtin.«dict.update.loop»:=entryFor_of_tree (by kernel_rfl)
theorem a3T:plainId "dict.update.loop"=true:=by decide +kernel
theorem a7F {K:Type} [DecidableEq K] {knd:KeyKind P w K} {I d:Addr} {fp wr:List Addr} {n:Nat} {V:Nat→Value→Prop} {St:Nat→Heap→Prop} (W:Walks P w A.in1 I fp wr n V St) (hdf:d ∉ fp) (res:Value) (ks:List (K × Value)) (hn:ks.length=n) (hz:n≤sizeLine) (h0:Heap)
  (hV:∀ i v,V i v→∃ p k x key,v=.ref p∧ks[i]?=some (k,x)∧knd.is k key=true∧h0.IsTuple p #[key,x]∧p≠d∧p ∉ wr) {R:Result→Shared→Prop} :
  ∀ (m i:Nat) (s:Shared),n - i=m→i≤n→St i s.heap→s.heap.DictOf knd d (merged [] (ks.take i))→(∀ b o,b≠d→b ∉ wr→h0.get? b=some o→s.heap.get? b=some o) →
    (∀ h' tk,h'.DictOf knd d (merged [] ks)→(∀ b o,b≠d→b ∉ wr→h0.get? b=some o→h'.get? b=some o)→R (.ok (.ret res)) { s with heap:=h',toks:=tk }) →
    codeAny (model P w) A (.builtin "dict.update.loop" ⟨[.ref d,.ref I,rawInt i,res],[]⟩) R s
 | 0,i,s,hm,hi,st,hd,hk,hR=>by
   obtain rfl:i=n:=by lia
   refine codeAny_builtin a6N ?_
   rw[Around.under_plainId a3T _]
   show wpAny _ A.in1 (pyNext (.ref I) >>= _) _ _ s
   refine wpAny_bind (W.done s _ _ st fun h' tk hk'=>?_)
   show wpAny _ _ (Builtin.Dict.addKeywords d [] >>= _) _ _ _
   refine wpAny_bind (wpAny_pure (wpAny_pure (hR h' tk ?_ fun b o b1 b2 e=>hk' b o b2 (hk b o b1 b2 e))))
   rw[← hn,List.take_length] at hd
   obtain⟨o,es,ep,g,r⟩:=hd
   exact⟨o,es,ep,hk' d o (fun z=>hdf (W.sub _ z)) g,r⟩
 | m+1,i,s,hm,hi,st,hd,hk,hR=>by
   refine codeAny_builtin a6N ?_
   rw[Around.under_plainId a3T _]
   show wpAny _ A.in1 (pyNext (.ref I) >>= _) _ _ s
   refine wpAny_bind (W.item i s _ _ (by lia) st fun v h' tk hv st' hk'=>?_)
   obtain⟨p,k,x,key,rfl,ek,hkey,hp,np1,np2⟩:=hV i v hv
   have hd':h'.DictOf knd d (merged [] (ks.take i)):=by
    obtain⟨o,es,ep,g,r⟩:=hd
    exact⟨o,es,ep,hk' d o (fun z=>hdf (W.sub _ z)) g,r⟩
   obtain⟨o,ho,hc,nn,hdat⟩:=hp
   have ho':h'.get? p=some o:=hk' p o np2 (hk p o np1 np2 ho)
   show wpAny _ _ (holding [Value.ref p] _ >>= _) _ _ _
   refine wpAny_bind (wpAny_holding (wpAny_bind (wpAny_tryCatch ?_)))
   unfold Builtin.Dict.pairItems
   refine wpAny_bind (wpAny_typeOf (T:="tuple") ⟨o,ho',hc⟩ ?_)
   rw[if_pos (by decide)]
   refine wpAny_bind (wpAny_seqItems ho' hdat (wpAny_pure ?_))
   show wpAny _ _ (holding [key,x] (dictSet d key x)) _ _ _
   have hle:(merged [] (ks.take i)).length≤sizeLine:=by
    have e1:=merged_length_le ([]:List (K × Value)) (ks.take i)
    have e2:(ks.take i).length≤ks.length:=by rw[List.length_take];lia
    simp only[List.length_nil] at e1
    lia
   refine wpAny_holding (wpAny_dictSet_pairs (hsz:=hle) hkey hd' fun h'' hd'' hs''=>?_)
   refine wpAny_pure ⟨plainId_quiet a3T _,?_⟩
   have:=a7F W hdf res ks hn hz h0 hV (R:=R) m (i+1) { s with heap:=h'',toks:=tk+1 } (by lia) (by lia) (W.frame _ _ _ st' fun b hb o e=>?_) ?_ (fun b o b1 b2 e=>?_) hR
   ·exact this
   ·exact (hs''.2 b (fun z=>hdf (z▸hb))).trans e
   ·rw[merged_take_succ [] ks i (k,x) ek];exact hd''
   ·exact (hs''.2 b b1).trans (hk' b o b2 (hk b o b1 b2 e))
end
section
variable {P:Program} {w:World} {A:Around} {E:Value→Shared→Prop} {s:Shared} {K:Type} [DecidableEq K] {knd:KeyKind P w K}
theorem a8P {o:Addr} {vs:List Value} {kk:Nat} {sl:Array (Option Value)} {ks:List (K × Value)} {Q:Value→Shared→Prop} (ho:s.heap.get? o=some { cls:=.type "tuple",dict:=none,data:=.seq vs.toArray kk,slots:=sl }) (hA:A.handled=none)
  (hl:ks.length=vs.length) (hz:vs.length≤sizeLine) (hV:∀ (i:Nat) (v:Value),vs[i]?=some v→∃ p k x key,v=.ref p∧ks[i]?=some (k,x)∧knd.is k key=true∧s.heap.IsTuple p #[key,x])
  (h:∀ h' tk,h'.DictOf knd s.heap.objs.size (merged [] ks)→(∀ b u,s.heap.get? b=some u→h'.get? b=some u)→Q (Value.ref s.heap.objs.size) { s with heap:=h',toks:=tk }) :
  wpAny (model P w) A (call (.type "dict") [.ref o]) Q E s:=by
 refine callType_codes (Q₁:=fun obj s₁=>obj=Value.ref s.heap.objs.size∧s₁={ s with heap:=s.heap.push { cls:=.type "dict",data:=.dict #[] } }) F.kt_called_dict (F.kt_typeCall_dict_1 _) F.entry_dict_init (kt_code_dict_new _ ⟨rfl,rfl⟩) ?_
 rintro obj s₁ ⟨rfl,rfl⟩
 have hnew:(s.heap.push { cls:=.type "dict",data:=.dict #[] }).DictOf knd s.heap.objs.size []:=Heap.DictOf.new s.heap
 have hdo:s.heap.objs.size≠o:=Nat.ne_of_gt (Heap.lt_size ho)
 have ho':=Heap.get?_push_of_some { cls:=.type "dict",data:=.dict #[] } ho
 refine⟨hnew.typeIs,F.args_dict_init_2 _ _,?_⟩
 unfold Builtin.«dict.__init__» Builtin.Dict.selfAndRest;refine wpAny_bind (wpAny_bind (wpAny_notOrdered_dict hnew.typeIs ?_))
 show wpAny _ _ (pure (s.heap.objs.size,[Value.ref o])) _ _ _;refine wpAny_pure ?_
 show wpAny _ _ (Builtin.Dict.updateFrom "dict.__init__" s.heap.objs.size (.ref o) [] .none) _ _ _;unfold Builtin.Dict.updateFrom
 refine wpAny_bind (wpAny_typeOf (T:="tuple") ⟨_,ho',rfl⟩ ?_);rw[if_pos (by decide)]
 refine wpAny_bind (a7h ho' hA fun h1 tk1 k1=>?_);rw[if_pos (by rfl)]
 have ho1:=k1 _ _ ho'
 refine wpAny_bind (wpAny_rule (wpAny_bind (wpAny_pyIter_tuple (items:=vs.toArray) ⟨_,ho1,rfl,kk,rfl⟩ ?_)))
 have hI:h1.objs.size≠o:=Nat.ne_of_gt (Heap.lt_size ho1)
 have hd1:h1.DictOf knd s.heap.objs.size []:=by
  obtain⟨a,es,ep,g,r⟩:=hnew
  exact⟨a,es,ep,k1 _ _ g,r⟩
 have hdI:s.heap.objs.size≠h1.objs.size:=by
  obtain⟨a,es,ep,g,r⟩:=hd1
  exact Nat.ne_of_lt (Heap.lt_size g)
 have W:=Walks.tuple (prog:=P) (w:=w) (A:=A.in1.in1) (by exact hA) h1.objs.size o (Ne.symm hI) vs.toArray
 refine wpAny_pure ⟨plainId_quiet a3T _,a7F (knd:=knd) (A:=A.in1) (h0:=s.heap) (W:=W) (d:=s.heap.objs.size) (by simp only[List.mem_cons,List.not_mem_nil,or_false,not_or];exact⟨hdI,hdo⟩) _ ks (by simpa using hl) (by simpa using hz) ?_ vs.toArray.size 0 _ rfl (Nat.zero_le _) ⟨⟨_,Heap.get?_push_size _ rfl,rfl,rfl⟩,⟨_,Heap.get?_push_of_some _ ho1,rfl,kk,rfl⟩⟩ (hd1.push _) (fun b u _ _ e=>Heap.get?_push_of_some _ (k1 _ _ (Heap.get?_push_of_some _ e))) fun h' tk hd' hk'=>?_⟩
 ·intro i v hv
  obtain⟨p,k,x,key,e1,e2,e3,e4⟩:=hV i v (by simpa using hv)
  obtain⟨ob,g,c⟩:=id e4
  refine⟨p,k,x,key,e1,e2,e3,e4,Nat.ne_of_lt (Heap.lt_size g),fun z=>?_⟩
  have z2:p=h1.objs.size:=by simpa using z
  exact absurd (Heap.lt_size (k1 _ _ (Heap.get?_push_of_some _ g))) (by rw[z2];exact Nat.lt_irrefl _)
 ·refine⟨rfl,h h' tk hd' fun b u e=>hk' b u (Nat.ne_of_lt (Heap.lt_size e)) (fun z=>?_) e⟩
  have z2:b=h1.objs.size:=by simpa using z
  exact absurd (Heap.lt_size (k1 _ _ (Heap.get?_push_of_some _ e))) (by rw[z2];exact Nat.lt_irrefl _)
end
noncomputable def b8r (kv:Key × T):T:=.tup [keyT kv.1,kv.2]
noncomputable def b4d:List T→MH→VK3→Prop:=fun xs M Q=>match xs with
 | [.tup ts]=>∃ ks:List (Key × T),ts=ks.map b8r∧(ks.map Prod.fst).Nodup∧∀ r,M r=none→Q (.adr r) (updM M r (.dk ks))
 | _=>False
section
variable {X:Cx}
theorem b5L {k:Key} {key:Value} (r:RelV (kV k) key):a8H k key=true:=by
 cases k with
 | inl i=>obtain⟨t,rfl⟩:=r;exact a9P i t
 | inr x=>obtain⟨t,rfl⟩:=r;exact a9O x t
theorem b1L {pins:List (Addr × Obj)} {σ:St} {H:Hp} {s:Shared} (I:Inv X pins σ H s):∀ {ks:List (Key × T)} {xs:List V} {its:List Value},Reps X.K H xs (ks.map b8r)→Vals xs its →
  ∃ (vs:List (Key × Value)) (kv:List (Key × V)),vs.length=its.length∧KV kv vs∧KRep X.K H kv ks∧∀ (i:Nat) (v:Value),its[i]?=some v→∃ p k x key,v=.ref p∧vs[i]?=some (k,x)∧a8H k key=true∧s.heap.IsTuple p #[key,x]
 | [],xs,its,r,rv=>by
   rw[List.map_nil] at r
   unfold Reps at r
   subst r
   cases rv
   exact⟨[],[],rfl,.nil,trivial,fun i v e=>by simp at e⟩
 | (k, t) :: ks,xs,its,r,rv=>by
   rw[List.map_cons] at r
   unfold Reps at r
   obtain⟨v,w,rfl,r1,r2⟩:=r
   cases rv with
   | @cons _ u _ us h1 h2 =>
     obtain⟨vs,kv,hl,hk,hr,hat⟩:=b1L I r2 h2
     obtain⟨p,ys,rfl,g1,g2⟩:=a1d r1
     obtain⟨y1,y2,rfl,q1,q2⟩:=b7M g2
     obtain rfl:=a6J q1
     cases h1
     obtain⟨js,jv,jt,jz⟩:=I.tuple g1
     cases jv with
     | @cons _ key _ js2 a1 a2 =>
       cases a2 with
       | @cons _ x _ js3 b1 b2 =>
         cases b2
         refine⟨(k,x) :: vs,(k,y2) :: kv,by rw[List.length_cons,List.length_cons,hl],.cons ⟨rfl,b1⟩ hk,⟨rfl,q2,hr⟩,fun i v e=>?_⟩
         cases i with
         | zero =>
           simp at e
           subst e
           exact⟨p,k,x,key,rfl,rfl,b5L a1,jt⟩
         | succ i =>
           obtain⟨p',k',x',key',e1,e2,e3⟩:=hat i v (by simpa using e)
           exact⟨p',k',x',key',e1,by simpa using e2,e3⟩
theorem a6T {K:PySem.W.Frag} {H:Hp}:∀ {kv:List (Key × V)} {ks:List (Key × T)},KRep K H kv ks→kv.map Prod.fst=ks.map Prod.fst
 | [],[],_=>rfl
 | p :: r,q :: u,h=>by rw[List.map_cons,List.map_cons,h.1,a6T h.2.2]
 | [],q :: u,h=>h.elim
 | p :: r,[],h=>h.elim
theorem b1p (hc:X.calm=true):a4f X (.type "dict") b4d:=by
 intro pins s σ H vs us Q2 I r h
 obtain⟨xs,M,Q,rr,hh,q,en⟩:=h
 unfold b4d at q
 split at q
 ·rename_i ts
  obtain⟨ks,rfl,hnd,q⟩:=q
  obtain⟨v,rfl,r1⟩:=a2j rr
  obtain⟨p,ys,rfl,g1,g2⟩:=a1d r1
  obtain⟨u,rfl,rx⟩:=a5Q r
  cases rx
  obtain⟨its,rv,⟨ob,ho,hcl,hdd,nn,hdat⟩,hz⟩:=I.tuple0 g1
  obtain⟨vs,kv,hl,hk,hr,hat⟩:=b1L I g2 rv
  have hlen:=rv.length
  obtain⟨c1,c2,c3,c4⟩:=ob
  simp only at hcl hdd hdat
  subst hcl hdd hdat
  have hndv:(vs.map (·.1)).Nodup:=by
   have e1:=hk.keys
   have e2:=a6T hr
   rw[← e1]
   exact e2▸hnd
  refine a8P (knd:=a0X X.prog X.w) ho (I.ok.hd hc) hl (by lia) hat fun h' tk hd' hk'=>?_
  rw[merged_nil_of_nodup vs hndv] at hd'
  have hfr:H s.heap.objs.size=none:=I.hok.fresh (Nat.le_refl _)
  have hsys:(s.heap.objs.size == sysModules)=false:=by
   have:=I.big
   simp only[beq_eq_false_iff_ne,ne_eq]
   exact fun z=>absurd this (by rw[z];exact Nat.lt_irrefl _)
  have kvl:kv.length≤sizeLine:=by
   have:=hk.length
   lia
  exact⟨.ref s.heap.objs.size,_,I.laid (t':=tk) hk' (Nat.le_refl _) (show a1G X.prog X.w _ h' _ (.dK kv) from ⟨kvl,hsys,vs,hk,hd'⟩),rfl,en _ _ _ _ (Kp.new hfr) (hh.newK hfr hr) a1R (q _ (hh.free hfr))⟩
 ·exact q.elim
noncomputable def a8n:List T→MH→VK3→Prop:=fun xs M Q=>match xs with
 | [.adr p]=>(match M p with | some (.dk kvs)=>∃ ns:List Int,kvs.map Prod.fst=ns.map Sum.inl∧ns.length < 64∧∀ ms:List Int,ms.Perm ns→ms.Pairwise (·≤·)→∀ r,M r=none→Q (.adr r) (updM M r (.lst (ms.map .int))) | _=>False)
 | _=>False
end
section
variable {P:Program} {w:World} {A:Around} {E:Value→Shared→Prop} {s:Shared}
theorem b1s:∀ {xs:List V} {us:List Value},xs.length=us.length→(∀ (i:Nat) (x:V) (u:Value),xs[i]?=some x→us[i]?=some u→RelV x u)→Vals xs us
 | [],[],_,_=>.nil
 | [],u :: us,h,_=>by cases h
 | x :: xs,[],h,_=>by cases h
 | x :: xs,u :: us,h,f=>.cons (f 0 x u rfl rfl) (b1s (by rw[List.length_cons,List.length_cons] at h;lia) fun i x' u' h1 h2=>f (i+1) x' u' (by simpa using h1) (by simpa using h2))
theorem b0H {d:Addr} {kvs:List (Key × Value)} {ep:Nat} {ns:List Int} {Q:Value→Shared→Prop} (hA:A.handled=none) (hd:s.heap.DictAt (a0X P w) d kvs ep) (lo:(d == sysModules)=false) (hk:kvs.map (·.1)=ns.map Sum.inl) (h64:ns.length < 64)
  (h:∀ (h1 h':Heap) (tk:Nat) (out:Array Value) (ns':List Int),(∀ b u,s.heap.get? b=some u→h1.get? b=some u)→(∀ b u,h1.get? b=some u→h'.get? b=some u)→(∃ e,h'.get? h1.objs.size=some (seqObj "list" out e))→IntsAre out.toList ns'→ns'.Perm ns→ns'.Pairwise (·≤·)→Q (.ref h1.objs.size) { s with heap:=h',toks:=tk }) :
  wpAny (model P w) A (call (.builtin "sorted") [.ref d]) Q E s:=by
 have hl:kvs.length=ns.length:=by
  have:=congrArg List.length hk
  rwa [List.length_map,List.length_map] at this
 refine Calls.call_function_entry kind_sorted plain_sorted entry_sorted (args_sorted1 _) ?_
 unfold Builtin.«sorted»
 refine wpAny_bind (m:=checkCount "sorted" 1 1 _) (wpAny_pure (wpAny_bind (PySem.W.kdu_collect (A:=A.in1) (PySem.W.kdl_dict (knd:=a0X P w) (kvs:=kvs) (ep:=ep) lo) hA hd (by rw[hl,sizeLine_eq];lia) fun h' tk acc hkp hacc=>?_)))
 obtain⟨hsz,hat⟩:=hacc
 have hI:IntsAre acc.toList ns:=b3h (b1s (by rw[List.length_map];exact (hl.symm.trans hsz.symm).trans Array.length_toList.symm) fun i x u h1 h2=>by
  obtain⟨k,y,e1,e2⟩:=hat i u (by rw[← Array.getElem?_toList];exact h2)
  have e3:(kvs.map (·.1))[i]?=some k:=by rw[List.getElem?_map,e1];rfl
  rw[hk,List.getElem?_map] at e3
  rw[List.getElem?_map] at h1
  cases en:ns[i]? with
  | none=>rw[en] at h1;cases h1
  | some n =>
    rw[en] at e3 h1
    obtain rfl:=Option.some.inj h1
    have e4:Sum.inl n=k:=Option.some.inj e3
    subst e4
    rw[b2Y] at e2
    rcases a0Y e2 with ⟨j,t,z1,z2⟩ | ⟨j,t,z1,z2⟩
    ·cases z1;exact⟨t,z2⟩
    ·cases z1)
 refine wpAny_bind (wpAny_newList ?_)
 have hoL:(h'.push (seqObj "list" acc.toList.toArray 0)).get? h'.objs.size=some (seqObj "list" acc.toList.toArray 0):=Heap.get?_push_size _ rfl
 refine wpAny_bind (wpAny_holding (wpAny_call_entry slot_list_sort ⟨_,hoL,rfl⟩ entry_list_sort (list_sort_tree hoL hI (by rw[Array.length_toList,hsz,hl];exact h64) fun out ns' a1 a2 a3=>⟨_,rfl,?_⟩) (args_list_sort _)))
 exact wpAny_pure ⟨_,rfl,h h' _ _ out ns' hkp (fun b u e=>(sortedHeap_old (Nat.ne_of_lt (Heap.lt_size e)) (Nat.lt_of_lt_of_le (Heap.lt_size e) (by show h'.objs.size≤(h'.push (seqObj "list" acc.toList.toArray 0)).objs.size;rw[size_push'];exact Nat.le_succ _))).trans (Heap.get?_push_of_some _ e)) (sortedHeap_at hoL) a1 a2 a3⟩
end
section
variable {X:Cx}
theorem a8T (hc:X.calm=true):a4f X (.builtin "sorted") a8n:=by
 intro pins s σ H vs us Q2 I r h
 obtain⟨xs,M,Q,rr,hh,q,en⟩:=h
 unfold a8n at q
 split at q
 ·obtain⟨v,rfl,r1⟩:=a2j rr
  obtain rfl:=a0F r1
  obtain⟨u,rfl,rx⟩:=a5Q r
  cases rx
  split at q
  ·rename_i kvs e0
   obtain⟨ns,hk,h64,q⟩:=q
   obtain⟨kv,g1,g2⟩:=hh _ _ e0
   obtain⟨kz,lo,vs,r1,dd⟩:=(show a1G X.prog X.w H s.heap _ (.dK kv) from I.hok _ _ g1)
   obtain⟨ep,da⟩:=dd.dictAt
   have e1:vs.map (·.1)=ns.map Sum.inl:=by
    rw[← r1.keys]
    exact (a6T g2).trans hk
   refine b0H (I.ok.hd hc) da lo e1 h64 fun h1 h' tk out ns' hkp hkp2 ⟨e,hg⟩ a1 a2 a3=>?_
   have I1:Inv X pins σ H { s with heap:=h1,toks:=s.toks }:=I.kept hkp
   have hfr:H h1.objs.size=none:=I1.hok.fresh (Nat.le_refl _)
   have hn:ns'.length≤sizeLine:=by rw[a2.length_eq,sizeLine_eq];lia
   exact⟨.ref h1.objs.size,_,I1.laid (t':=tk) hkp2 (Nat.le_refl _) (show a1G X.prog X.w _ h' _ (.lst (ns'.map V.int)) from ⟨by rw[List.length_map];exact hn,out.toList,e,a6z a1,by rw[Array.toArray_toList];exact hg⟩),rfl,en _ _ _ _ (Kp.new hfr) (hh.newL hfr (a9V ns')) a1R (q ns' a2 a3 _ (hh.free hfr))⟩
  ·exact q.elim
 ·exact q.elim
end
noncomputable abbrev Po:=List (Int × Int)
noncomputable def co:Po→Int→Int
 | [],_=>0
 | x :: r,k=>(if x.1=k then x.2 else 0)+co r k
noncomputable def CanP (p:Po):Prop:=p.Pairwise (fun a b=>a.1 < b.1)∧∀ x∈p,x.2≠0
theorem a1U (p q:Po) (k:Int):co (p++q) k=co p k+co q k:=by
 induction p with
 | nil=>show co q k=0+co q k;lia
 | cons x r ih =>
   show (if x.1=k then x.2 else 0)+co (r++q) k=((if x.1=k then x.2 else 0)+co r k)+co q k
   rw[ih];lia
theorem a4q {p:Po} {k:Int} (h:∀ x∈p,x.1≠k):co p k=0:=by
 induction p with
 | nil=>rfl
 | cons x r ih =>
   show (if x.1=k then x.2 else 0)+co r k=0
   rw[if_neg (h x (.head _)),ih fun y hy=>h y (.tail _ hy)];rfl
theorem b0i {p:Po} (h:p.Pairwise (fun a b=>a.1 < b.1)) {x:Int × Int} (hx:x∈p):co p x.1=x.2:=by
 induction p with
 | nil=>cases hx
 | cons y r ih =>
   obtain⟨h1,h2⟩:=List.pairwise_cons.mp h
   show (if y.1=x.1 then y.2 else 0)+co r x.1=x.2
   rcases List.mem_cons.mp hx with e | e
   ·subst e
    rw[if_pos rfl,a4q fun z hz=>Int.ne_of_gt (h1 z hz)];lia
   ·rw[if_neg (Int.ne_of_lt (h1 x e)),ih h2 e];lia
theorem a4M:∀ {p q:Po},CanP p→CanP q→(∀ k,co p k=co q k)→p=q
 | [],[],_,_,_=>rfl
 | [],y :: q,_,hq,h=>by
   have e:=b0i hq.1 (List.mem_cons_self (a:=y) (l:=q))
   rw[← h] at e
   exact absurd e.symm (hq.2 y (.head _))
 | x :: p,[],hp,_,h=>by
   have e:=b0i hp.1 (List.mem_cons_self (a:=x) (l:=p))
   rw[h] at e
   exact absurd e.symm (hp.2 x (.head _))
 | x :: p,y :: q,hp,hq,h=>by
   obtain⟨p1,p2⟩:=List.pairwise_cons.mp hp.1
   obtain⟨q1,q2⟩:=List.pairwise_cons.mp hq.1
   have ex:=b0i hp.1 (List.mem_cons_self (a:=x) (l:=p))
   have ey:=b0i hq.1 (List.mem_cons_self (a:=y) (l:=q))
   have nx:=hp.2 x (.head _)
   have ny:=hq.2 y (.head _)
   have e1:x.1=y.1:=by
    rcases Int.lt_trichotomy x.1 y.1 with z | z | z
    ·rw[h,a4q] at ex
     ·exact absurd ex.symm nx
     ·intro w hw
      rcases List.mem_cons.mp hw with e | e
      ·rw[e];exact Int.ne_of_gt z
      ·exact Int.ne_of_gt (Int.lt_trans z (q1 w e))
    ·exact z
    ·rw[← h,a4q] at ey
     ·exact absurd ey.symm ny
     ·intro w hw
      rcases List.mem_cons.mp hw with e | e
      ·rw[e];exact Int.ne_of_gt z
      ·exact Int.ne_of_gt (Int.lt_trans z (p1 w e))
   have e2:x.2=y.2:=by rw[← ex,← ey,e1,h]
   have exy:x=y:=Prod.ext e1 e2
   subst exy
   refine congrArg (x :: ·) (a4M ⟨p2,fun z hz=>hp.2 z (.tail _ hz)⟩ ⟨q2,fun z hz=>hq.2 z (.tail _ hz)⟩ fun k=>?_)
   have:=h k
   have t:(if x.1=k then x.2 else 0)+co p k=(if x.1=k then x.2 else 0)+co q k:=this
   lia
noncomputable def putP (k c:Int):Po→Po
 | []=>if c=0 then [] else [(k,c)]
 | x :: r=>if k < x.1 then (if c=0 then x :: r else (k,c) :: x :: r) else if k=x.1 then (if x.2+c=0 then r else (k,x.2+c) :: r) else x :: putP k c r
noncomputable def norm:Po→Po
 | []=>[]
 | x :: r=>putP x.1 x.2 (norm r)
noncomputable def N1:Po→Nat
 | []=>0
 | x :: r=>x.2.natAbs+N1 r
theorem b5j (k c:Int):∀ (p:Po) (j:Int),co (putP k c p) j=(if k=j then c else 0)+co p j
 | [],j=>by
   show co (if c=0 then [] else [(k,c)]) j=(if k=j then c else 0)+0
   by_cases h:c=0
   ·rw[if_pos h,h]
    show 0=(if k=j then 0 else 0)+0
    split<;>rfl
   ·rw[if_neg h];rfl
 | x :: r,j=>by
   show co (if k < x.1 then (if c=0 then x :: r else (k,c) :: x :: r) else if k=x.1 then (if x.2+c=0 then r else (k,x.2+c) :: r) else x :: putP k c r) j=(if k=j then c else 0)+((if x.1=j then x.2 else 0)+co r j)
   by_cases h1:k < x.1
   ·rw[if_pos h1]
    by_cases h:c=0
    ·rw[if_pos h,h]
     show (if x.1=j then x.2 else 0)+co r j=_
     split<;>split<;>lia
    ·rw[if_neg h];rfl
   ·rw[if_neg h1]
    by_cases h2:k=x.1
    ·rw[if_pos h2]
     by_cases h:x.2+c=0
     ·rw[if_pos h]
      split<;>split<;>lia
     ·rw[if_neg h]
      show (if k=j then x.2+c else 0)+co r j=_
      split<;>split<;>lia
    ·rw[if_neg h2]
     show (if x.1=j then x.2 else 0)+co (putP k c r) j=_
     rw[b5j k c r j];lia
theorem b4e {k c m:Int} (hk:m < k):∀ {p:Po},(∀ x∈p,m < x.1)→∀ x∈putP k c p,m < x.1
 | [],_,x,hx=>by
   have hx:x∈(if c=0 then [] else [(k,c)]):=hx
   split at hx
   ·cases hx
   ·rw[List.mem_singleton.mp hx];exact hk
 | y :: r,h,x,hx=>by
   have hx:x∈(if k < y.1 then (if c=0 then y :: r else (k,c) :: y :: r) else if k=y.1 then (if y.2+c=0 then r else (k,y.2+c) :: r) else y :: putP k c r):=hx
   split at hx
   ·split at hx
    ·exact h x hx
    ·rcases List.mem_cons.mp hx with e | e
     ·rw[e];exact hk
     ·exact h x e
   ·split at hx
    ·split at hx
     ·exact h x (.tail _ hx)
     ·rcases List.mem_cons.mp hx with e | e
      ·rw[e];exact hk
      ·exact h x (.tail _ e)
    ·rcases List.mem_cons.mp hx with e | e
     ·rw[e];exact h y (.head _)
     ·exact b4e hk (fun z hz=>h z (.tail _ hz)) x e
theorem b0k (k c:Int):∀ {p:Po},CanP p→CanP (putP k c p)
 | [],_=>by
   show CanP (if c=0 then [] else [(k,c)])
   split
   ·exact⟨.nil,fun _ h=>absurd h List.not_mem_nil⟩
   ·rename_i h
    exact⟨List.pairwise_singleton _ _,fun x hx=>by rw[List.mem_singleton.mp hx];exact h⟩
 | y :: r,h=>by
   obtain⟨h1,h2⟩:=List.pairwise_cons.mp h.1
   show CanP (if k < y.1 then (if c=0 then y :: r else (k,c) :: y :: r) else if k=y.1 then (if y.2+c=0 then r else (k,y.2+c) :: r) else y :: putP k c r)
   split
   ·rename_i a
    split
    ·exact h
    ·rename_i b
     refine⟨List.pairwise_cons.mpr ⟨fun z hz=>?_,h.1⟩,fun z hz=>?_⟩
     ·rcases List.mem_cons.mp hz with e | e
      ·rw[e];exact a
      ·exact Int.lt_trans a (h1 z e)
     ·rcases List.mem_cons.mp hz with e | e
      ·rw[e];exact b
      ·exact h.2 z e
   ·split
    ·rename_i a b
     split
     ·exact⟨h2,fun z hz=>h.2 z (.tail _ hz)⟩
     ·rename_i d
      refine⟨List.pairwise_cons.mpr ⟨fun z hz=>by rw[b];exact h1 z hz,h2⟩,fun z hz=>?_⟩
      rcases List.mem_cons.mp hz with e | e
      ·rw[e];exact d
      ·exact h.2 z (.tail _ e)
    ·rename_i a b
     have ih:=b0k k c (p:=r) ⟨h2,fun z hz=>h.2 z (.tail _ hz)⟩
     refine⟨List.pairwise_cons.mpr ⟨fun z hz=>b4e (by lia) h1 z hz,ih.1⟩,fun z hz=>?_⟩
     rcases List.mem_cons.mp hz with e | e
     ·rw[e];exact h.2 y (.head _)
     ·exact ih.2 z e
theorem b5z (k c:Int):∀ p:Po,N1 (putP k c p)≤c.natAbs+N1 p
 | []=>by
   show N1 (if c=0 then [] else [(k,c)])≤c.natAbs+0
   split
   ·exact Nat.zero_le _
   ·exact Nat.le_refl _
 | x :: r=>by
   have ih:=b5z k c r
   show N1 (if k < x.1 then (if c=0 then x :: r else (k,c) :: x :: r) else if k=x.1 then (if x.2+c=0 then r else (k,x.2+c) :: r) else x :: putP k c r)≤c.natAbs+(x.2.natAbs+N1 r)
   split
   ·split
    ·show x.2.natAbs+N1 r≤_;lia
    ·exact Nat.le_refl _
   ·split
    ·split
     ·lia
     ·show (x.2+c).natAbs+N1 r≤_;lia
    ·show x.2.natAbs+N1 (putP k c r)≤_;lia
theorem a2O:∀ (p:Po) (k:Int),co (norm p) k=co p k
 | [],_=>rfl
 | x :: r,k=>by
   show co (putP x.1 x.2 (norm r)) k=(if x.1=k then x.2 else 0)+co r k
   rw[b5j,a2O r]
theorem a1y:∀ p:Po,CanP (norm p)
 | []=>⟨.nil,fun _ h=>absurd h List.not_mem_nil⟩
 | x :: r=>b0k x.1 x.2 (a1y r)
theorem b5A:∀ p:Po,N1 (norm p)≤N1 p
 | []=>Nat.le_refl _
 | x :: r=>Nat.le_trans (b5z x.1 x.2 (norm r)) (Nat.add_le_add_left (b5A r) _)
theorem b5B (p q:Po):N1 (p++q)=N1 p+N1 q:=by
 induction p with
 | nil=>show N1 q=0+N1 q;lia
 | cons x r ih=>show x.2.natAbs+N1 (r++q)=x.2.natAbs+N1 r+N1 q;lia
theorem b1G {k c:Int}:∀ {p:Po},∀ x∈putP k c p,x.1=k∨∃ y∈p,y.1=x.1
 | [],x,hx=>by
   have hx:x∈(if c=0 then [] else [(k,c)]):=hx
   split at hx
   ·cases hx
   ·rw[List.mem_singleton.mp hx];exact .inl rfl
 | y :: r,x,hx=>by
   have hx:x∈(if k < y.1 then (if c=0 then y :: r else (k,c) :: y :: r) else if k=y.1 then (if y.2+c=0 then r else (k,y.2+c) :: r) else y :: putP k c r):=hx
   split at hx
   ·split at hx
    ·exact .inr ⟨x,hx,rfl⟩
    ·rcases List.mem_cons.mp hx with e | e
     ·rw[e];exact .inl rfl
     ·exact .inr ⟨x,e,rfl⟩
   ·split at hx
    ·split at hx
     ·exact .inr ⟨x,.tail _ hx,rfl⟩
     ·rcases List.mem_cons.mp hx with e | e
      ·rw[e];exact .inl rfl
      ·exact .inr ⟨x,.tail _ e,rfl⟩
    ·rcases List.mem_cons.mp hx with e | e
     ·rw[e];exact .inr ⟨y,.head _,rfl⟩
     ·rcases b1G x e with z | ⟨z,hz,ez⟩
      ·exact .inl z
      ·exact .inr ⟨z,.tail _ hz,ez⟩
theorem b1O:∀ {p:Po},∀ x∈norm p,∃ y∈p,y.1=x.1
 | [],x,hx=>by cases hx
 | y :: r,x,hx=>by
   rcases b1G (k:=y.1) (c:=y.2) (p:=norm r) x hx with z | ⟨z,hz,ez⟩
   ·exact⟨y,.head _,z.symm⟩
   ·obtain⟨u,hu,eu⟩:=b1O z hz
    exact⟨u,.tail _ hu,eu.trans ez⟩
noncomputable def addP (p q:Po):Po:=norm (p++q)
noncomputable def rawM (p q:Po):Po:=p.flatMap fun a=>q.map fun b=>(a.1+b.1,a.2*b.2)
noncomputable def a1E (p q:Po):Po:=norm (rawM p q)
theorem b7w (a:Int × Int):∀ q:Po,N1 (q.map fun b=>(a.1+b.1,a.2*b.2))=a.2.natAbs*N1 q
 | []=>rfl
 | b :: q=>by
   show (a.2*b.2).natAbs+N1 (q.map fun b=>(a.1+b.1,a.2*b.2))=a.2.natAbs*(b.2.natAbs+N1 q)
   rw[b7w a q,Int.natAbs_mul,Nat.mul_add]
theorem b7x (q:Po):∀ p:Po,N1 (rawM p q)=N1 p*N1 q
 | []=>(Nat.zero_mul _).symm
 | a :: p=>by
   show N1 ((q.map fun b=>(a.1+b.1,a.2*b.2))++rawM p q)=(a.2.natAbs+N1 p)*N1 q
   rw[b5B,b7w,b7x q p,Nat.add_mul]
theorem b9j (p q:Po):N1 (a1E p q)≤N1 p*N1 q:=Nat.le_trans (b5A _) (Nat.le_of_eq (b7x q p))
theorem c1l {p:Po} {x:Int × Int} (h:x∈p):x.2.natAbs≤N1 p:=by
 induction p with
 | nil=>cases h
 | cons y r ih =>
   show _≤y.2.natAbs+N1 r
   rcases List.mem_cons.mp h with e | e
   ·rw[e];lia
   ·have:=ih e;lia
noncomputable def prT (x:Int × Int):T:=.tup [.int x.1,.int x.2]
noncomputable def poT (p:Po):T:=.tup (p.map prT)
noncomputable def dkI (m:Po):List (Key × T):=m.map fun x=>(.inl x.1,.int x.2)
theorem b6B (m:Po):(dkI m).map b8r=m.map prT:=by unfold dkI;rw[List.map_map];rfl
theorem b2f (m:Po):(dkI m).map Prod.fst=(m.map Prod.fst).map Sum.inl:=by unfold dkI;rw[List.map_map,List.map_map];rfl
theorem b5c (m:Po):(dkI m).length=m.length:=by unfold dkI;rw[List.length_map]
noncomputable def setP (k v:Int):Po→Po
 | []=>[(k,v)]
 | x :: r=>if x.1=k then (k,v) :: r else x :: setP k v r
theorem a6F (k v:Int):∀ m:Po,(setP k v m).map Prod.fst=if k∈m.map Prod.fst then m.map Prod.fst else m.map Prod.fst++[k]
 | []=>rfl
 | x :: r=>by
   show ((if x.1=k then (k,v) :: r else x :: setP k v r).map Prod.fst)=_
   by_cases h:x.1=k
   ·rw[if_pos h,if_pos (by rw[List.map_cons,h];exact .head _),List.map_cons,List.map_cons,h]
   ·rw[if_neg h,List.map_cons,a6F k v r,List.map_cons]
    by_cases g:k∈r.map Prod.fst
    ·rw[if_pos g,if_pos (.tail _ g)]
    ·rw[if_neg g,if_neg (fun z=>(List.mem_cons.mp z).elim (fun e=>h e.symm) g)];rfl
theorem a7H {k v:Int} {m:Po} (h:(m.map Prod.fst).Nodup):((setP k v m).map Prod.fst).Nodup:=by
 rw[a6F]
 split
 ·exact h
 ·rename_i g
  rw[List.nodup_append]
  exact⟨h,List.pairwise_singleton _ _,fun a ha b hb=>by rw[List.mem_singleton.mp hb];exact fun z=>g (z▸ha)⟩
theorem a8o {k v:Int}:∀ {m:Po},(m.map Prod.fst).Nodup→putT (dkI m) (.inl k) (.int v)=dkI (setP k v m)
 | [],_=>rfl
 | x :: r,h=>by
   rw[List.map_cons,List.nodup_cons] at h
   have ih:=a8o (k:=k) (v:=v) h.2
   show putT ((.inl x.1,.int x.2) :: dkI r) (.inl k) (.int v)=dkI (if x.1=k then (k,v) :: r else x :: setP k v r)
   by_cases e:x.1=k
   ·rw[if_pos e]
    unfold putT
    rw[if_pos (by rw[List.any_cons,decide_eq_true (show (Sum.inl x.1:Key)=.inl k by rw[e])];rfl)]
    rw[List.map_cons,if_pos (show (Sum.inl x.1:Key)=.inl k by rw[e])]
    show _=(Sum.inl k,T.int v) :: dkI r
    rw[e]
    congr 1
    unfold dkI
    rw[List.map_map]
    refine List.map_congr_left fun y hy=>?_
    show (if (Sum.inl y.1:Key)=.inl k then ((Sum.inl y.1:Key),T.int v) else (Sum.inl y.1,T.int y.2))=_
    rw[if_neg (fun z=>h.1 (by rw[e,← Sum.inl.inj z];exact List.mem_map.mpr ⟨y,hy,rfl⟩))]
   ·have ne:¬(Sum.inl x.1:Key)=.inl k:=fun z=>e (Sum.inl.inj z)
    rw[if_neg e]
    show _=(Sum.inl x.1,T.int x.2) :: dkI (setP k v r)
    rw[← ih]
    unfold putT
    rw[List.any_cons,decide_eq_false ne,Bool.false_or]
    split
    ·rw[List.map_cons,if_neg ne]
    ·rfl
theorem a7X (k:Int):∀ {m:Po},(m.map Prod.fst).Nodup→(valT (dkI m) (.inl k)).getD (.int 0)=.int (co m k)
 | [],_=>rfl
 | x :: r,h=>by
   rw[List.map_cons,List.nodup_cons] at h
   show (valT ((.inl x.1,.int x.2) :: dkI r) (.inl k)).getD (.int 0)=.int ((if x.1=k then x.2 else 0)+co r k)
   rw[a8X]
   by_cases e:x.1=k
   ·rw[if_pos (show (Sum.inl x.1:Key)=.inl k by rw[e]),if_pos e,a4q (fun y hy z=>h.1 (by rw[e,← z];exact List.mem_map.mpr ⟨y,hy,rfl⟩)),Int.add_zero];rfl
   ·rw[if_neg (fun z=>e (Sum.inl.inj z)),if_neg e,Int.zero_add]
    exact a7X k h.2
theorem a6e {k:Int}:∀ {m:Po},(m.map Prod.fst).Nodup→k∈m.map Prod.fst→valT (dkI m) (.inl k)=some (.int (co m k))
 | [],_,z=>by cases z
 | x :: r,h,z=>by
   rw[List.map_cons,List.nodup_cons] at h
   show valT ((.inl x.1,.int x.2) :: dkI r) (.inl k)=some (.int ((if x.1=k then x.2 else 0)+co r k))
   rw[a8X]
   by_cases e:x.1=k
   ·rw[if_pos (show (Sum.inl x.1:Key)=.inl k by rw[e]),if_pos e,a4q (fun y hy z=>h.1 (by rw[e,← z];exact List.mem_map.mpr ⟨y,hy,rfl⟩)),Int.add_zero]
   ·rw[if_neg (fun z=>e (Sum.inl.inj z)),if_neg e,Int.zero_add]
    rw[List.map_cons] at z
    exact a6e h.2 ((List.mem_cons.mp z).resolve_left fun y=>e y.symm)
theorem b1m (k v:Int):∀ {m:Po},(m.map Prod.fst).Nodup→∀ j,co (setP k v m) j=if j=k then v else co m j
 | [],_,j=>by
   show (if k=j then v else 0)+0=if j=k then v else 0
   by_cases e:j=k
   ·rw[if_pos e,if_pos e.symm];lia
   ·rw[if_neg e,if_neg (fun z=>e z.symm)];rfl
 | x :: r,h,j=>by
   rw[List.map_cons,List.nodup_cons] at h
   show co (if x.1=k then (k,v) :: r else x :: setP k v r) j=if j=k then v else (if x.1=j then x.2 else 0)+co r j
   by_cases e:x.1=k
   ·rw[if_pos e]
    show (if k=j then v else 0)+co r j=_
    by_cases f:j=k
    ·rw[if_pos f,if_pos f.symm,a4q (fun y hy z=>h.1 (by rw[e,← f,← z];exact List.mem_map.mpr ⟨y,hy,rfl⟩))];lia
    ·rw[if_neg f,if_neg (fun z=>f z.symm),if_neg (fun z=>f (z.symm.trans e))]
   ·rw[if_neg e]
    show (if x.1=j then x.2 else 0)+co (setP k v r) j=_
    rw[b1m k v h.2 j]
    by_cases f:j=k
    ·rw[if_pos f,if_pos f,if_neg (fun z=>e (z.trans f))];lia
    ·rw[if_neg f,if_neg f]
theorem b0Y {m:Po} {ms:List Int} (hm:(m.map Prod.fst).Nodup) (hp:ms.Perm (m.map Prod.fst)) (hs:ms.Pairwise (·≤·)):((ms.filter fun k=>decide (co m k≠0)).map fun k=>(k,co m k))=norm m:=by
 have hnd:ms.Nodup:=hp.nodup_iff.mpr hm
 have hst:ms.Pairwise (· < ·):=hs.imp₂ (fun a b h1 h2=>Int.lt_iff_le_and_ne.mpr ⟨h1,h2⟩) hnd
 have hc:CanP ((ms.filter fun k=>decide (co m k≠0)).map fun k=>(k,co m k)):=by
  refine⟨List.pairwise_map.mpr (hst.filter _),fun x hx=>?_⟩
  obtain⟨k,hk,rfl⟩:=List.mem_map.mp hx
  exact of_decide_eq_true (List.mem_filter.mp hk).2
 refine a4M hc (a1y m) fun k=>?_
 rw[a2O]
 by_cases h:k∈ms∧co m k≠0
 ·exact b0i hc.1 (x:=(k,co m k)) (List.mem_map.mpr ⟨k,List.mem_filter.mpr ⟨h.1,decide_eq_true h.2⟩,rfl⟩)
 ·rw[a4q]
  ·by_cases g:k∈ms
   ·exact (Classical.not_not.mp fun z=>h ⟨g,z⟩).symm
   ·exact (a4q fun x hx z=>g (hp.mem_iff.mpr (List.mem_map.mpr ⟨x,hx,z⟩))).symm
  ·intro x hx z
   obtain⟨j,hj,rfl⟩:=List.mem_map.mp hx
   obtain rfl:j=k:=z
   exact h ⟨(List.mem_filter.mp hj).1,of_decide_eq_true (List.mem_filter.mp hj).2⟩
theorem a3t {K:PySem.W.Frag} {H:Hp}:Reps K H [] []:=by unfold Reps;rfl
theorem a1t {K:PySem.W.Frag} {H:Hp} {v:V} {t:T} {vs:List V} {ts:List T} (a:Rep K H v t) (b:Reps K H vs ts):Reps K H (v :: vs) (t :: ts):=by unfold Reps;exact⟨v,vs,rfl,a,b⟩
theorem a3u {K:PySem.W.Frag} {H:Hp} {u:Addr} {xs:List V} {its:Array Value} {n:Nat} {sl:Array (Option Value)} {ts:List T} (l:K.lookup u=some ⟨.type "tuple",none,.seq its n,sl⟩) (hz:its.size≤1000) (v:Vals xs its.toList) (r:Reps K H xs ts):Rep K H (.ref u) (.tup ts) :=
 a1v (.inr ⟨_,its,n,l,rfl,rfl,rfl,by rw[sizeLine_eq];lia,v⟩) r
section
variable {X:Cx}
theorem a5d {x:Str} {a:Addr} {t:T} {pos:Pos} (c:X.mg x=some (.ref a)∧∀ H,Rep X.K H (.ref a) t) (hg:Gl X x:=by rfl) (hd:(x == ("__debug__":Str))=false:=by decide):HE X (.Name x pos) (tK t):=fun ρ M Q q=>(a8r (v:=.ref a) hg c.1 rfl hd).imp fun σ H Q2 ⟨hr,hh,en⟩=>en t _ M H Kp.refl hh (c.2 H) q
end
section
variable {X:Cx} {a b e:Expr} {pos:Pos}
end
section
variable {X:Cx} {Ha:Hp} {e:Expr} {te:TE3} {pos:Pos}
end
section
variable {X:Cx}
end
section
variable {X:Cx}
end
section
variable {X:Cx}
end
section
variable {X:Cx}
end
noncomputable def cv:Po→(Int→Int)→Int→Int
 | [],_,_=>0
 | x :: a,f,c=>x.2*f (c - x.1)+cv a f c
theorem b2m (x:Int × Int) (c:Int):∀ b:Po,co (b.map fun y=>(x.1+y.1,x.2*y.2)) c=x.2*co b (c - x.1)
 | []=>by show (0:Int)=x.2*0;rw[Int.mul_zero]
 | y :: b=>by
   show (if x.1+y.1=c then x.2*y.2 else 0)+co (b.map fun y=>(x.1+y.1,x.2*y.2)) c=x.2*((if y.1=c - x.1 then y.2 else 0)+co b (c - x.1))
   rw[b2m x c b,Int.mul_add]
   by_cases h:x.1+y.1=c
   ·rw[if_pos h,if_pos (by lia)]
   ·rw[if_neg h,if_neg (by lia),Int.mul_zero]
theorem b2n (b:Po) (c:Int):∀ a:Po,co (rawM a b) c=cv a (co b) c
 | []=>rfl
 | x :: a=>by
   show co ((b.map fun y=>(x.1+y.1,x.2*y.2))++rawM a b) c=x.2*co b (c - x.1)+cv a (co b) c
   rw[a1U,b2m,b2n b c a]
theorem b7s (c:Int):∀ a:Po,cv a (co []) c=0
 | []=>rfl
 | x :: a=>by
   show x.2*0+cv a (co []) c=0
   rw[b7s c a];lia
theorem b7r (c:Int):∀ a:Po,cv a (co [(0,1)]) c=co a c
 | []=>rfl
 | x :: a=>by
   show x.2*((if (0:Int)=c - x.1 then 1 else 0)+0)+cv a (co [(0,1)]) c=(if x.1=c then x.2 else 0)+co a c
   rw[b7r c a]
   by_cases h:x.1=c
   ·rw[if_pos h,if_pos (by lia)];lia
   ·rw[if_neg h,if_neg (by lia)];lia
theorem b0e (f:Int→Int) (c:Int):∀ p q:Po,cv (p++q) f c=cv p f c+cv q f c
 | [],q=>by show cv q f c=0+cv q f c;lia
 | x :: p,q=>by
   show x.2*f (c - x.1)+cv (p++q) f c=x.2*f (c - x.1)+cv p f c+cv q f c
   rw[b0e f c p q];lia
theorem b7t (f g:Int→Int) (c:Int):∀ p:Po,cv p (fun c=>f c+g c) c=cv p f c+cv p g c
 | []=>rfl
 | x :: p=>by
   show x.2*(f (c - x.1)+g (c - x.1))+cv p (fun c=>f c+g c) c=(x.2*f (c - x.1)+cv p f c)+(x.2*g (c - x.1)+cv p g c)
   rw[b7t f g c p,Int.mul_add];lia
theorem b2j (x:Int × Int) (f:Int→Int) (c:Int):∀ q:Po,cv (q.map fun y=>(x.1+y.1,x.2*y.2)) f c=x.2*cv q f (c - x.1)
 | []=>by show (0:Int)=x.2*0;rw[Int.mul_zero]
 | y :: q=>by
   show x.2*y.2*f (c - (x.1+y.1))+cv (q.map fun y=>(x.1+y.1,x.2*y.2)) f c=x.2*(y.2*f (c - x.1 - y.1)+cv q f (c - x.1))
   rw[b2j x f c q,Int.mul_add,Int.mul_assoc,show c - (x.1+y.1)=c - x.1 - y.1 by lia]
theorem b7q (q:Po) (f:Int→Int) (c:Int):∀ p:Po,cv (rawM p q) f c=cv p (cv q f) c
 | []=>rfl
 | x :: p=>by
   show cv ((q.map fun y=>(x.1+y.1,x.2*y.2))++rawM p q) f c=x.2*cv q f (c - x.1)+cv p (cv q f) c
   rw[b0e,b2j,b7q q f c p]
theorem b5g (k v:Int) (f:Int→Int) (c:Int):∀ p:Po,cv (putP k v p) f c=v*f (c - k)+cv p f c
 | []=>by
   show cv (if v=0 then [] else [(k,v)]) f c=v*f (c - k)+0
   split
   ·rename_i h;subst h;show (0:Int)=_;rw[Int.zero_mul];rfl
   ·rfl
 | x :: r=>by
   have ih:=b5g k v f c r
   show cv (if k < x.1 then (if v=0 then x :: r else (k,v) :: x :: r) else if k=x.1 then (if x.2+v=0 then r else (k,x.2+v) :: r) else x :: putP k v r) f c=_
   split
   ·split
    ·rename_i h;subst h;rw[Int.zero_mul,Int.zero_add]
    ·rfl
   ·split
    ·rename_i h;subst h
     split
     ·rename_i h
      show cv r f c=v*f (c - x.1)+(x.2*f (c - x.1)+cv r f c)
      rw[← Int.add_assoc,← Int.add_mul,show v+x.2=0 by lia,Int.zero_mul,Int.zero_add]
     ·show (x.2+v)*f (c - x.1)+cv r f c=v*f (c - x.1)+(x.2*f (c - x.1)+cv r f c)
      rw[Int.add_mul];lia
    ·show x.2*f (c - x.1)+cv (putP k v r) f c=v*f (c - k)+(x.2*f (c - x.1)+cv r f c)
     rw[ih];lia
theorem b1j (f:Int→Int) (c:Int):∀ p:Po,cv (norm p) f c=cv p f c
 | []=>rfl
 | x :: p=>by
   show cv (putP x.1 x.2 (norm p)) f c=x.2*f (c - x.1)+cv p f c
   rw[b5g,b1j f c p]
theorem a7d (x:Int × Int) (p:Po) (c:Int):∀ q:Po,co (rawM q (x :: p)) c=co (q.map fun y=>(x.1+y.1,x.2*y.2)) c+co (rawM q p) c
 | []=>rfl
 | y :: q=>by
   show co (((y.1+x.1,y.2*x.2) :: p.map fun b=>(y.1+b.1,y.2*b.2))++rawM q (x :: p)) c=((if x.1+y.1=c then x.2*y.2 else 0)+co (q.map fun y=>(x.1+y.1,x.2*y.2)) c)+co ((p.map fun b=>(y.1+b.1,y.2*b.2))++rawM q p) c
   rw[a1U,a1U,a7d x p c q]
   show ((if y.1+x.1=c then y.2*x.2 else 0)+_)+_=_
   rw[Int.add_comm y.1,Int.mul_comm y.2];lia
theorem a7e (c:Int) (q:Po):∀ p:Po,co (rawM p q) c=co (rawM q p) c
 | []=>by
   have:∀ q:Po,rawM q []=[]:=fun q=>by
    induction q with
    | nil=>rfl
    | cons y q ih=>show []++rawM q []=[];rw[ih];rfl
   rw[this];rfl
 | x :: p=>by
   show co ((q.map fun y=>(x.1+y.1,x.2*y.2))++rawM p q) c=_
   rw[a1U,a7d,a7e c q p]
theorem b5k (p q:Po) (c:Int):co (addP p q) c=co p c+co q c:=by unfold addP;rw[a2O,a1U]
theorem b1n (p q:Po) (c:Int):co (a1E p q) c=cv p (co q) c:=by unfold a1E;rw[a2O,b2n]
noncomputable abbrev Lp:={p:Po // CanP p}
noncomputable def toL (p:Po):Lp:=⟨norm p,a1y p⟩
theorem b3A {p q:Po} (h:∀ c,co p c=co q c):toL p=toL q:=Subtype.ext (a4M (a1y p) (a1y q) fun c=>(a2O p c).trans ((h c).trans (a2O q c).symm))
noncomputable instance:Add Lp:=⟨fun p q=>toL (addP p.1 q.1)⟩
noncomputable instance:Mul Lp:=⟨fun p q=>toL (a1E p.1 q.1)⟩
noncomputable def zL:Lp:=toL []
noncomputable def eL:Lp:=toL [(0,1)]
theorem Lp.ext2 {p q:Lp} (h:∀ c,co p.1 c=co q.1 c):p=q:=Subtype.ext (a4M p.2 q.2 h)
theorem co_L (p:Po) (c:Int):co (toL p).1 c=co p c:=a2O p c
theorem a2l (p q:Lp) (c:Int):co (p+q).1 c=co p.1 c+co q.1 c:=(co_L _ c).trans (b5k _ _ c)
theorem a2P (p q:Lp) (c:Int):co (p*q).1 c=cv p.1 (co q.1) c:=(co_L _ c).trans (b1n _ _ c)
theorem cv_L (p:Po) (f:Int→Int) (c:Int):cv (toL p).1 f c=cv p f c:=b1j f c p
theorem a7Z (p q:Po):toL (addP p q)=toL p+toL q:=Lp.ext2 fun c=>by rw[a2l,co_L,b5k,co_L,co_L]
theorem a3n (p q:Po):toL (a1E p q)=toL p*toL q:=Lp.ext2 fun c=>by
 rw[a2P,co_L,b1n,cv_L]
 have e:co (toL q).1=co q:=funext fun c=>co_L q c
 rw[e]
theorem b0z (p q:Lp):p+q=q+p:=Lp.ext2 fun c=>by rw[a2l,a2l];lia
theorem a7T (p q r:Lp):p+q+r=p+(q+r):=Lp.ext2 fun c=>by rw[a2l,a2l,a2l,a2l];lia
theorem c1i (p:Lp):p+zL=p:=Lp.ext2 fun c=>by
 rw[a2l];show co p.1 c+co (norm []) c=co p.1 c
 rw[a2O];show _+0=_;lia
theorem a1x (p q:Lp):p*q=q*p:=Lp.ext2 fun c=>by rw[a2P,a2P,← b2n,← b2n,a7e]
theorem a5V (p q r:Lp):p*q*r=p*(q*r):=Lp.ext2 fun c=>by
 rw[a2P,a2P]
 have e:co (q*r).1=cv q.1 (co r.1):=funext fun c=>a2P q r c
 rw[e,← b7q]
 show cv (toL (a1E p.1 q.1)).1 (co r.1) c=_
 rw[cv_L];unfold a1E;rw[b1j]
theorem b4x (p:Lp):p*eL=p:=Lp.ext2 fun c=>by
 rw[a2P]
 have e:co eL.1=co [(0,1)]:=funext fun c=>co_L _ c
 rw[e,b7r]
theorem b4w (p:Lp):p*zL=zL:=Lp.ext2 fun c=>by
 rw[a2P]
 have e:co zL.1=co []:=funext fun c=>co_L _ c
 rw[e,b7s];rfl
theorem b8W (p q r:Lp):p*(q+r)=p*q+p*r:=Lp.ext2 fun c=>by
 rw[a2P,a2l,a2P,a2P,← b7t]
 have e:co (q+r).1=fun c=>co q.1 c+co r.1 c:=funext fun c=>a2l q r c
 rw[e]
instance:Std.Associative (α:=Lp) (·*·):=⟨a5V⟩
instance:Std.Commutative (α:=Lp) (·*·):=⟨a1x⟩
instance:Std.Associative (α:=Lp) (·+·):=⟨a7T⟩
instance:Std.Commutative (α:=Lp) (·+·):=⟨b0z⟩
noncomputable def sgU (s:Int):Lp:=toL [(0,s)]
theorem b0h (s c:Int):co [(0,s)] c=if 0=c then s else 0:=by
 show (if (0:Int)=c then s else 0)+0=_
 rw[Int.add_zero]
theorem b3M (a b:Int):sgU a*sgU b=sgU (a*b):=by
 unfold sgU
 rw[← a3n]
 refine b3A fun c=>?_
 rw[b1n,b0h]
 show a*co [(0,b)] (c - 0)+0=_
 rw[Int.sub_zero,b0h]
 by_cases h:(0:Int)=c
 ·rw[if_pos h,if_pos h,Int.add_zero]
 ·rw[if_neg h,if_neg h,Int.mul_zero,Int.add_zero]
section
variable {P:Program} {w:World} {A:Around} {E:Value→Shared→Prop} {s:Shared}
end
section
variable {X:Cx}
end
noncomputable def twT:List (Int × Int × List Stp):=[(2,1,[]),(2,-1,[.inn 0 (-1),.out 2]),(3,1,[.three 0]),(3,-1,[.inn 0 (-2),.three 1,.out 4]),(3,2,[.three 1]),(3,-2,[.inn 0 (-1),.three 2,.out 4]),(4,1,[.three 3,.three 1,.far 0]),(4,-1,[.inn 0 (-3),.far 1,.three 2,.three 4,.out 7]),(4,2,[.far 2,.three 0,.three 4]),(4,-2,[.inn 0 (-2),.three 5,.three 1,.far 3,.out 7]),(4,3,[.far 2,.far 5,.three 3,.three 1,.far 3]),(4,-3,[.inn 0 (-1),.far 4,.three 2,.three 4,.far 6,.far 3,.out 7]),(5,1,[.three 7,.three 5,.far 4,.three 2,.far 1,.far 0]),(5,-1,[.inn 0 (-4),.far 1,.far 2,.three 3,.far 5,.three 6,.three 8,.out 11]),(5,2,[.far 6,.three 4,.three 8,.far 3,.three 1,.far 0]),(5,-2,[.inn 0 (-3),.far 1,.three 2,.far 4,.three 9,.three 5,.far 7,.out 11]),(5,3,[.far 6,.far 9,.three 7,.three 5,.far 3,.far 2,.three 0,.far 7]),(5,-3,[.inn 0 (-2),.far 8,.three 1,.far 3,.far 4,.three 6,.three 8,.far 10,.far 7,.out 11]),(5,4,[.far 3,.far 2,.far 4,.far 9,.far 8,.far 7,.three 5,.three 3,.three 1,.far 5,.far 3,.far 4]),(5,-4,[.inn 0 (-1),.far 5,.far 4,.far 6,.three 2,.three 4,.three 6,.far 8,.far 9,.far 10,.far 5,.far 3,.far 4,.out 11]),(6,1,[.three 12,.three 10,.far 9,.three 7,.far 6,.far 5,.three 3,.far 2,.far 1,.far 0]),(6,-1,[.inn 0 (-5),.far 1,.far 2,.far 3,.three 4,.far 6,.far 7,.three 8,.far 10,.three 11,.three 13,.out 16]),(6,2,[.far 11,.three 9,.far 8,.three 6,.three 13,.far 5,.far 4,.three 2,.far 1,.far 0]),(6,-2,[.inn 0 (-4),.far 1,.far 2,.three 3,.far 5,.far 6,.three 14,.three 7,.far 9,.three 10,.far 12,.out 16]),(6,3,[.far 8,.far 7,.far 11,.far 14,.three 12,.three 10,.three 5,.far 4,.far 3,.three 1,.far 12,.far 0]),(6,-3,[.inn 0 (-3),.far 1,.far 13,.three 2,.far 4,.far 5,.three 6,.three 11,.three 13,.far 15,.far 12,.far 8,.far 9,.out 16]),(6,4,[.far 8,.far 7,.far 9,.far 14,.far 13,.far 12,.three 10,.three 8,.three 6,.far 4,.far 3,.far 2,.three 0,.far 10,.far 8,.far 9]),(6,-4,[.inn 0 (-2),.far 10,.far 9,.far 11,.three 1,.far 3,.far 4,.far 5,.three 7,.three 9,.three 11,.far 13,.far 14,.far 15,.far 10,.far 8,.far 9,.out 16]),(6,5,[.far 4,.far 5,.far 6,.far 14,.far 13,.far 12,.far 11,.far 10,.far 9,.three 7,.far 3,.far 4,.three 5,.far 2,.three 3,.three 1,.far 7,.far 5,.far 6,.far 3,.far 4,.far 5]),(6,-5,[.inn 0 (-1),.far 6,.far 5,.far 4,.far 7,.far 6,.far 8,.three 2,.three 4,.far 3,.three 6,.far 5,.far 4,.three 8,.far 10,.far 11,.far 12,.far 13,.far 14,.far 15,.far 7,.far 6,.far 5,.out 16])]
theorem b9p:∀ x∈twT,aftL x.1 (twF x.1++[x.2.1]) x.2.2=some ([a1V x.1 x.2.1]++twF x.1):=by decide +kernel
theorem b7B:∀ n∈[(2:Int),3,4,5,6],∀ k∈List.range (n - 1).toNat,(twT.any fun x=>decide (x.1=n) && decide (x.2.1=((k:Nat):Int)+1))=true∧(twT.any fun x=>decide (x.1=n) && decide (x.2.1=-(((k:Nat):Int)+1)))=true:=by decide +kernel
theorem b3v {n l:Int} (h1:2≤n) (h2:n≤6) (ht:WordOK n (twF n)) (hl:LetOK n l):RelW n (twF n++[l]) ([a1V n l]++twF n):=by
 have hn:n∈[(2:Int),3,4,5,6]:=by
  rcases (show n=2∨n=3∨n=4∨n=5∨n=6 by lia) with rfl | rfl | rfl | rfl | rfl<;>decide
 obtain⟨a1,a2⟩:=hl
 obtain⟨b1,b2⟩:=b7B n hn (l.natAbs - 1) (List.mem_range.mpr (by lia))
 have key:∃ x∈twT,x.1=n∧x.2.1=l:=by
  by_cases c:0 < l
  ·obtain⟨x,hx,e⟩:=List.any_eq_true.mp b1
   rw[Bool.and_eq_true,decide_eq_true_eq,decide_eq_true_eq] at e
   exact⟨x,hx,e.1,by lia⟩
  ·obtain⟨x,hx,e⟩:=List.any_eq_true.mp b2
   rw[Bool.and_eq_true,decide_eq_true_eq,decide_eq_true_eq] at e
   exact⟨x,hx,e.1,by lia⟩
 obtain⟨x,hx,rfl,rfl⟩:=key
 exact b2s (ht.append (a7y ⟨a1,a2⟩)) (b9p x hx)
theorem b6L {n:Int} (h1:2≤n) (h2:n≤6) (ht:WordOK n (twF n)):∀ {w:List Int},WordOK n w→RelW n (twF n++w) (w.map (a1V n)++twF n)
 | [],_=>by rw[List.append_nil];exact .refl _
 | l :: w,hw=>by
   have hl:=hw l (.head _)
   have hw':WordOK n w:=fun x hx=>hw x (.tail _ hx)
   have a:=(b3v h1 h2 ht hl).rt hw'
   rw[List.append_assoc] at a
   have b:=RelW.lf (a7y hl.flip) (b6L h1 h2 ht hw')
   rw[List.append_assoc] at a
   exact a.trans b
noncomputable def Sml (p:Po):Prop:=∀ x∈p,x.2.natAbs < 2 ^ 64
theorem b2z:toL [(0,0)]=zL:=Lp.ext2 fun c=>by
 rw[co_L]
 show (if (0:Int)=c then (0:Int) else 0)+0=co (toL []).1 c
 rw[co_L]
 split<;>rfl
noncomputable instance:NatCast Lp:=⟨fun n=>sgU n⟩
noncomputable instance {n:Nat}:OfNat Lp n:=⟨sgU n⟩
noncomputable instance:IntCast Lp:=⟨sgU⟩
noncomputable instance:Neg Lp:=⟨fun a=>sgU (-1)*a⟩
noncomputable instance:_root_.Sub Lp:=⟨fun a b=>a+sgU (-1)*b⟩
noncomputable instance:SMul Nat Lp:=⟨fun n a=>sgU n*a⟩
noncomputable instance:SMul Int Lp:=⟨fun n a=>sgU n*a⟩
noncomputable def powL (a:Lp):Nat→Lp
 | 0=>sgU 1
 | n+1=>powL a n*a
noncomputable instance:HPow Lp Nat Lp:=⟨powL⟩
theorem b3N (a b:Int):sgU (a+b)=sgU a+sgU b:=Lp.ext2 fun c=>by
 unfold sgU
 rw[a2l,co_L,co_L,co_L,b0h,b0h,b0h]
 split<;>lia
theorem b2C:sgU 0=zL:=b2z
noncomputable instance:Lean.Grind.CommRing Lp where
 add_zero a:=by show a+sgU ((0:Nat):Int)=a;exact (by rw[show ((0:Nat):Int)=0 from rfl,b2C,c1i])
 add_comm:=b0z
 add_assoc:=a7T
 mul_assoc:=a5V
 mul_one a:=by show a*sgU ((1:Nat):Int)=a;exact b4x a
 one_mul a:=by show sgU ((1:Nat):Int)*a=a;rw[a1x];exact b4x a
 left_distrib:=b8W
 right_distrib a b c:=by rw[a1x,b8W,a1x c,a1x c]
 zero_mul a:=by show sgU ((0:Nat):Int)*a=sgU ((0:Nat):Int);rw[show ((0:Nat):Int)=0 from rfl,b2C,a1x,b4w]
 mul_zero a:=by show a*sgU ((0:Nat):Int)=sgU ((0:Nat):Int);rw[show ((0:Nat):Int)=0 from rfl,b2C,b4w]
 pow_zero a:=rfl
 pow_succ a n:=rfl
 ofNat_succ n:=by
  show sgU ((n+1:Nat):Int)=sgU (n:Int)+sgU ((1:Nat):Int)
  rw[Int.natCast_add,b3N]
 ofNat_eq_natCast n:=rfl
 nsmul_eq_natCast_mul n a:=rfl
 neg_add_cancel a:=by
  show sgU (-1)*a+a=sgU ((0:Nat):Int)
  have e:sgU (-1)*a+a=sgU (-1)*a+sgU 1*a:=by rw[show sgU 1*a=a from by rw[a1x];exact b4x a]
  rw[e,a1x,a1x (sgU 1),← b8W,← b3N,show (-1:Int)+1=0 by decide,b2C,b4w]
  exact b2C.symm
 sub_eq_add_neg a b:=rfl
 neg_zsmul i a:=by
  show sgU (-i)*a=sgU (-1)*(sgU i*a)
  rw[← a5V,b3M,show -1*i=-i by lia]
 zsmul_natCast_eq_nsmul n a:=rfl
 intCast_ofNat n:=rfl
 intCast_neg i:=by
  show sgU (-i)=sgU (-1)*sgU i
  rw[b3M,show -1*i=-i by lia]
 mul_comm:=a1x
theorem b7y:zL=(0:Lp):=b2C.symm
section
variable {R:Type} [Lean.Grind.CommRing R]
end
theorem a4D (k l s t:Int):toL [(k,s)]*toL [(l,t)]=toL [(k+l,s*t)]:=by
 rw[← a3n]
 refine b3A fun c=>?_
 unfold a1E
 rw[a2O]
 rfl
noncomputable def g1 (_:Int):Int:=1
section
variable {P:Program} {w:World} {A:Around} {E:Value→Shared→Prop} {s:Shared}
end
section
variable {X:Cx} {e f:Expr}
end
section
variable {X:Cx} {e:Expr} {te:TE3} {p p2 pos pos2:Pos}
end
section
variable {X:Cx}
end
theorem a8J {K:PySem.W.Frag} {H:Hp} {v:V} {ks:List Int} {ts:List T} (r:Rep K H v (.dic ks ts)):∃ b,v=.ref b∧H b=some (.tup (ks.map V.int)):=by unfold Rep at r;exact r
theorem b0M {K:PySem.W.Frag} {H:Hp} {b:Addr} {ks:List Int} {ts:List T} (h:H b=some (.tup (ks.map V.int))):Rep K H (.ref b) (.dic ks ts):=by unfold Rep;exact⟨b,rfl,h⟩
noncomputable def tKt (t:TE3):TE3:=fun ρ M Q=>t ρ M fun x M1=>match x with
 | .dic ks _=>Q (.tup (ks.map .int)) M1
 | _=>False
noncomputable def kyI (ks:List Int):List Key:=ks.map Sum.inl
theorem a9M (ks:List Int):(kyI ks).map kV=ks.map V.int:=by unfold kyI;rw[List.map_map];rfl
noncomputable def dtI (D:List (List Int × T)):List (List Key × T):=D.map fun d=>(kyI d.1,d.2)
section
variable {X:Cx} {pos:Pos}
theorem a4d {e:Expr} {t:TE3} (h:HE X e t):HE X e (tKt t):=fun ρ M Q q=>(h ρ M _ q).imp fun σ H Q2 ⟨hr,hh,en⟩=>⟨hr,hh,fun x v M1 H1 k1 h1 r1 q1=>by
 cases x with
 | dic ks ts =>
   obtain⟨b,rfl,hb⟩:=a8J r1
   exact en _ _ M1 H1 k1 h1 (a1v (SqT.of hb) (Reps.of_ints ks)) q1
 | _=>exact q1.elim⟩
noncomputable def b7O:List T→MH→VK3→Prop:=fun xs M Q=>match xs with
 | [.adr p]=>(match M p with | some (.lst ts)=>∃ ks:List Int,ts=ks.map .int∧Q (.dic ks []) M | _=>False)
 | _=>False
theorem b3q:a4f X (.type "tuple") b7O:=by
 intro pins s σ H vs us Q2 I r h
 obtain⟨xs,M,Q,rr,hh,q,en⟩:=h
 unfold b7O at q
 split at q
 ·obtain⟨v,rfl,r1⟩:=a2j rr
  obtain rfl:=a0F r1
  split at q
  ·rename_i ts e0
   obtain⟨ks,rfl,q⟩:=q
   obtain⟨ys,g1,g2⟩:=hh _ _ e0
   obtain rfl:=Reps.ints g2
   exact a2D pins s σ H _ us Q2 I r ⟨_,_,rfl,.inl ⟨SqL.of g1,fun l hl=>en _ _ M _ (Kp.new hl) (hh.keep hl) (b0M a0B) q⟩⟩
  ·exact q.elim
 ·exact q.elim
noncomputable def b7Y:R3:=fun x y M Q=>match x,y with
 | .tup ts,.tup us=>∃ as bs:List Int,ts=as.map .int∧us=bs.map .int∧as≠[]∧bs≠[]∧as.length+bs.length≤sizeLine∧Q (.dic (as++bs) []) M
 | _,_=>False
theorem b6h:OpR3 X (binaryOp .Add) b7Y:=by
 intro pins s σ H x y v u Q2 I rx ry q
 obtain⟨a,b,M,Q,r1,r2,hh,q,en⟩:=q
 unfold b7Y at q
 split at q
 ·obtain⟨as,bs,rfl,rfl,ha,hb,hz,q⟩:=q
  obtain⟨p,xs,rfl,h1,h2⟩:=a1d r1
  obtain⟨p',ys,rfl,g1,g2⟩:=a1d r2
  obtain rfl:=Reps.ints h2
  obtain rfl:=Reps.ints g2
  refine b4n pins s σ H _ _ v u Q2 I rx ry ⟨_,_,_,_,rfl,rfl,h1,g1,fun z=>ha (List.map_eq_nil_iff.mp z),by rw[List.length_map,List.length_map];exact hz,fun hy=>absurd (List.map_eq_nil_iff.mp hy) hb,fun hy r hr=>?_⟩
  refine en _ _ M _ (Kp.new hr) (hh.keep hr) (b0M ?_) q
  rw[a0B,List.map_append]
 ·exact q.elim
noncomputable def b9D (td tk tx:TE3):TE3:=fun ρ M Q=>td ρ M fun x M1=>b4L M1 x∧tk ρ M1 fun k M2=>tx ρ M2 fun z M3=>match x,k with
 | .adr p,.dic ks _=>(match M3 p with
   | some (.dt kvs)=>Q ((valT kvs (kyI ks)).getD z) M3
   | _=>False)
 | _,_=>False
theorem c0U {o e f:Expr} {td tk tx:TE3} {apos cpos:Pos} (hu:X.A.units+64 < cLine) (ho:HE X o td) (he:HE X e tk) (hf:HE X f tx)
  (m1:attributeBase o "get" X.env (eval o X.env)=eval o X.env:=by rfl)
  (m2:((backTo cpos (starEach [e,f] X.env)).all (fun x=>!x.1) && (backToKw cpos (keywordEach [] X.env)).all (fun x=>x.1.isSome)
   && decide (([e,f]:List Expr).length+([]:List Keyword).length+(if ([]:List Keyword).isEmpty then 0 else 1) < 30))=true:=by rfl)
  (m3:(apos.endLine == cpos.line)=true:=by rfl) (m4:backTo cpos (starEach [e,f] X.env)=[(false,eval e X.env),(false,eval f X.env)]:=by rfl) :
  HE X (.Call (.Attribute o "get" apos) [e,f] [] cpos) (b9D td tk tx):=fun ρ M Q h =>
 (b1J (by lia) (ho.d (ρ:=ρ)) (he.d (ρ:=ρ)) (hf.d (ρ:=ρ)) ⟨m1,m2,m3,m4⟩).imp fun σ H Q2 ⟨hr,hh,en⟩=>⟨M,_,h,hr,hh,fun x v M1 H1 k1 h1 r1 q1=>by
  obtain⟨hd,q1⟩:=q1
  obtain⟨a,rfl,isd⟩:=b2b h1 r1 hd
  refine⟨a,rfl,isd,M1,_,q1,hr.kp k1,h1,fun y v2 M2 H2 k2 h2 r2 q2=>⟨M2,_,q2,hr.kp (k1.trans k2),h2,fun z v3 M3 H3 k3 h3 r3 q3=>?_⟩⟩
  cases x with
  | adr p =>
    cases r1
    cases y with
    | dic ks ts =>
      dsimp only at q3
      split at q3
      ·rename_i kvs e
       obtain⟨b,rfl,hb⟩:=a8J r2
       obtain⟨xs,g1,g2⟩:=h3 _ _ e
       refine⟨_,DGet.t g1 (b:=b) (k:=kyI ks) (by rw[a9M];exact k3.tr _ _ hb),en _ _ M3 H3 ((k1.trans k2).trans k3) h3 ?_ q3⟩
       have hv:=g2.val (kyI ks)
       cases ev:valT kvs (kyI ks) with
       | none=>rw[ev] at hv;rw[hv];exact r3
       | some t =>
         rw[ev] at hv
         obtain⟨u,e1,e2⟩:=hv
         rw[e1];exact e2
      ·exact q3.elim
    | _=>exact q3.elim
  | _=>exact hd.elim⟩
noncomputable def sDPD (td tk tv:TE3):TS3:=fun D ρ M=>tv ρ M fun z M1=>td ρ M1 fun x M2=>tk ρ M2 fun k M3=>match x,k with
 | .adr p,.dic ks _=>(match M3 p with
   | some (.dt kvs)=>kvs.length < sizeLine∧D.nx ρ (updM M3 p (.dt (putT kvs (kyI ks) z)))
   | _=>False)
 | _,_=>False
theorem c1J {o i value:Expr} {td tk tv:TE3} {pos pos':Pos} (hu:X.A.units+64 < cLine) (hv:HE X value tv) (ho:HE X o td) (hi:HE X i tk) (hs:swapsWith value (some (.Subscript o i pos')) pos.line X.env=pure false:=by rfl) :
  HS X (.Assign [.Subscript o i pos'] value pos) (sDPD td tk tv):=fun D ρ M h =>
 (b4f (by lia) (ho.d (ρ:=ρ)) (hi.d (ρ:=ρ)) (hv.d (ρ:=ρ)) hs).imp fun D2 σ H ⟨hr,hh,en⟩=>⟨M,_,h,hr,hh,fun z v M1 H1 k1 h1 r1 q1=>⟨M1,_,q1,hr.kp k1,h1,fun x v2 M2 H2 k2 h2 r2 q2=>⟨M2,_,q2,hr.kp (k1.trans k2),h2,fun y v3 M3 H3 k3 h3 r3 q3=>by
  cases x with
  | adr p =>
    cases r2
    cases y with
    | dic ks ts =>
      dsimp only at q3
      split at q3
      ·rename_i kvs e
       obtain⟨hl,q3⟩:=q3
       obtain⟨b,rfl,hb⟩:=a8J r3
       obtain⟨xs,g1,g2⟩:=h3 _ _ e
       have kk':=Kp.dict (K:=X.K) (u:=.dT (putK xs (kyI ks) v)) g1 (.inr ⟨_,rfl⟩)
       have kall:=(k1.trans k2).trans (k3.trans kk')
       refine⟨_,_,rfl,DPut.t g1 (b:=b) (k:=kyI ks) (by rw[a9M];exact hb) (by rw[g2.length];exact hl),en.nx _ _ _ _ kall (hr.kp kall) (h3.setT g1 (.inr ⟨_,rfl⟩) (g2.put (kyI ks) (Rep.kp (k2.trans k3) _ _ r1))) q3⟩
      ·exact q3.elim
    | _=>exact q3.elim
  | _=>exact q3.elim⟩⟩⟩
end
noncomputable def b2g (Q:VK3) (p:Addr) (k z:T) (M2:MH):Prop:=match k with
 | .dic ks _=>M2 p=some (.dt [])∧Q (.adr p) (updM M2 p (.dt [(kyI ks,z)]))
 | _=>False
noncomputable def b6R (tk tv:TE3):TE3:=fun ρ M Q=>∀ p,M p=none→tk ρ (updM M p (.dt [])) fun k M1=>tv ρ M1 fun z M2=>b2g Q p k z M2
section
variable {X:Cx} {pos:Pos}
theorem b8O {k v:Expr} {tk tv:TE3} (hu:X.A.units+64 < cLine) (hk:HE X k tk) (hv:HE X v tv):HE X (.Dict [some k] [v] pos) (b6R tk tv):=by
 intro ρ M Q q pins s σ H Q2 I bb
 obtain⟨hr,hh,en⟩:=bb
 have hn:=I.hok.fresh (Nat.le_refl s.heap.objs.size)
 have I1:=I.laid (a:=s.heap.objs.size) (o:=.dT []) (h':=s.heap.push { cls:=.type "dict",data:=.dict #[] }) (t':=s.toks) (fun _ _ q=>Heap.get?_push_of_some _ q) (Nat.le_refl _) (b2e s.heap I.big)
 have k0:=Kp.new (K:=X.K) (o:=.dT []) hn
 have hh1:HR X.K (upd H s.heap.objs.size (.dT [])) (updM M s.heap.objs.size (.dt [])):=hh.newT hn (kvs:=[]) (xs:=[]) trivial
 refine wpAny_Dict_any rfl rfl (by simp) (by simp) (pairTrees_cons_walk (thn (hk ρ _ _ (q _ (hh.free hn)) pins _ σ _ (fun v1 H1=>∃ x M1,Rep X.K H1 v1 x∧HR X.K H1 M1∧Kp X.K (upd H s.heap.objs.size (.dT [])) H1∧tv ρ M1 fun z M2=>b2g Q s.heap.objs.size x z M2) I1 ⟨hr.kp k0,hh1,fun x v1 M1 H1 k1 h1 r1 q1=>⟨x,M1,r1,h1,k1,q1⟩⟩) fun u s1 ⟨xv,H1,I2,rx,x,M1,r1,h1,k1,q1⟩=>?_))
 refine thn (hv ρ M1 _ q1 pins s1 σ H1 (fun v2 H2=>∃ z M2,Rep X.K H2 v2 z∧HR X.K H2 M2∧Kp X.K H1 H2∧b2g Q s.heap.objs.size x z M2) I2 ⟨hr.kp (k0.trans k1),h1,fun z v2 M2 H2 k2 h2 r2 q2=>⟨z,M2,r2,h2,k2,q2⟩⟩) fun w2 s2 ⟨zv,H2,I3,rz,z,M2,r2,h2,k2,q2⟩=>pairTrees_nil_walk ?_
 cases x with
 | dic ks ts =>
   obtain⟨q3,q4⟩:=q2
   obtain⟨b,rfl,hb⟩:=a8J r1
   cases rx
   have hb2:=k2.tr _ _ hb
   obtain⟨zs,e,kr0⟩:=h2 _ _ q3
   obtain rfl:zs=[]:=by cases zs with | nil=>rfl | cons a b=>exact kr0.elim
   obtain⟨z0,hd,xs,rel,dd⟩:=c1c I3.hok e
   have hz:xs.length≤sizeLine:=by rw[← Paired.length rel];exact z0
   unfold storeAll
   rw[List.forIn_cons]
   refine wpAny_bind (wpAny_bind (wpAny_dictSet_heap (hsz:=hz) (show X.A.units < cLine by lia) (a7K (ks:=kyI ks) I3.hok (by rw[a9M];exact hb2)) dd fun h' dd' hs=>wpAny_pure ?_))
   show wpAny _ _ (forIn [] PUnit.unit _) _ _ _
   rw[List.forIn_nil]
   refine wpAny_pure ?_
   obtain⟨qo,es,ep,hq,h2',h3,h4,_,h5⟩:=dd'
   have hne:b≠s.heap.objs.size:=fun z=>by rw[z,e] at hb2;cases hb2
   refine⟨.ref s.heap.objs.size,_,b1i I3 (by rw[e];exact True.intro) hs ⟨qo,hq⟩ (ob:=.dT (putK [] (kyI ks) zv)) ⟨?_,hd,_,(rel.put (kyI ks) (b:=b) (by rw[a9M];exact hb2) rz).keeps fun c ys ec=>?_,qo,es,ep,hq,h2',h3,h4,h5⟩,rfl,en _ _ _ _ ((k0.trans k1).trans (k2.trans (Kp.dict e (.inr ⟨_,rfl⟩)))) (h2.setT e (.inr ⟨_,rfl⟩) ?_) a1R q4⟩
   ·have:=a5a ([]:List (List Key × V)) (kyI ks) zv
    rw[sizeLine_eq]
    simp only[List.length_nil] at this
    lia
   ·rw[a0v (b8A ec e (fun z=>nomatch z))]
    exact ec
   ·exact⟨rfl,r2,trivial⟩
 | _=>exact q2.elim
end
section
variable {P:Program} {w:World} {A:Around} {E:Value→Shared→Prop} {s:Shared}
theorem a9R {d:Addr} {Q:Value→Shared→Prop} (hT:s.TypeIs (.ref d) "dict") (hd:(d == sysModules)=false)
  (hQ:Q (.ref s.heap.objs.size) { s with heap:=s.heap.push { cls:=.type "dict_items",data:=.fields #[.ref d] } }):wpAny (model P w) A (call (.builtin "dict.items") [.ref d]) Q E s:=by
 refine wpAny_call_entry F.slot_dict_items hT F.entry_dict_items ?_ (F.args_dict_items_1 _)
 unfold Builtin.«dict.items»;refine wpAny_bind ?_;unfold Builtin.Dict.noArgs
 refine wpAny_bind (wpAny_notOrdered_dict hT ?_);show wpAny _ _ (pure d) _ _ s;refine wpAny_pure ?_
 show wpAny _ _ (Builtin.Dict.showsAll d >>= _) _ _ s;unfold Builtin.Dict.showsAll;rw[if_neg (fun z=>by rw[hd] at z;cases z)]
 refine wpAny_bind (wpAny_pure ?_);exact wpAny_bind (wpAny_newObj_type (wpAny_pure ⟨_,rfl,hQ⟩))
theorem a8I {vw d:Addr} {o:Obj} {es:Array DictEntry} {ep:Nat} {Q:Value→Shared→Prop} (hv:s.heap.IsItemsView vw d) (ho:s.heap.get? d=some o) (hdat:o.data=.dict es ep)
  (hQ:Q (.ref s.heap.objs.size) { s with heap:=s.heap.push { cls:=.type "dict_itemiterator",data:=.fields #[.none,.bool false,.ref d,.int 0 0,.int es.size 0,.int ep 0,.none,.none] } }):wpAny (model P w) A (pyIter (.ref vw)) Q E s:=by
 obtain⟨ov,hov,hcv,hdv⟩:=id hv
 refine wpAny_pyIter_slot hv.typeIs F.slot_dict_items_iter (wpAny_call_entry F.slot_dict_items_iter hv.typeIs F.entry_dict_items_iter ?_ (F.args_dict_items_iter_1 _))
 unfold Builtin.«dict_items.__iter__»;refine wpAny_bind (wpAny_pure (wpAny_bind ?_));unfold Builtin.Dict_items.dictOf
 refine wpAny_bind (wpAny_field hov hdv (x:=.ref d) rfl (wpAny_pure (wpAny_bind ?_)));unfold Builtin.Dict_items.newIterator
 refine wpAny_bind (wpAny_dictEntries ho hdat (wpAny_bind (wpAny_dictEpoch ho hdat ?_)))
 simp only[show Builtin.Dict_items.ownsTuple "dict_itemiterator"=true by decide,if_true]
 refine wpAny_newObj_type (wpAny_pure ⟨_,rfl,"dict_itemiterator",_,⟨_,Heap.get?_push_size _ rfl,rfl⟩,F.slot_dict_itemiterator_next.lookup,?_⟩) (by simp only[sizeOk,Builtin.Dict_items.ownedTupleFields,List.size_toArray,List.length_append,List.length_cons,List.length_nil,sizeLine_eq];lia)
 simpa [rawInt,Builtin.Dict_items.ownedTupleFields] using hQ
theorem a9T {it d:Addr} {o:Obj} {es:Array DictEntry} {ep i:Nat} {e:DictEntry} {ok ov:Value} {Q:Option Value→Shared→Prop} (hit:IsItemIter s.heap it d i es.size ep ok ov) (hod:s.heap.get? d=some o) (hdd:o.data=.dict es ep) (hx:es[i]?=some e)
  (hQ:∀ h',IsItemIterOut h' it d (i+1) es.size ep e.key e.val s.heap.objs.size→h'.get? s.heap.objs.size=some { cls:=.type "tuple",data:=.seq #[e.key,e.val] }→h'.objs.size=s.heap.objs.size+1→(∀ b o,b≠it→s.heap.get? b=some o→h'.get? b=some o)→Q (some (.ref s.heap.objs.size)) { s with heap:=h' }) :
  wpAny (model P w) A (pyNext (.ref it)) Q E s:=by
 obtain⟨hp,g,dr,tk,os⟩:=s
 have hT:Shared.TypeIs ⟨hp,g,dr,tk,os⟩ (.ref it) "dict_itemiterator":=⟨_,hit,rfl⟩
 unfold pyNext
 refine wpAny_bind (wpAny_attempt (wpAny_callSpecial?_slot (name:=Str.ofString "__next__") hT F.slot_dict_itemiterator_next (wpAny_call_entry F.slot_dict_itemiterator_next hT F.entry_dict_itemiterator_next (wpAny_bind (wpAny_pure (wpAny_bind (wpAny_bind ?_)))) (F.args_dict_itemiterator_next_1 _))))
 first | refine wpAny_bind (wpAny_typeNameOfWhole_itemiter hT (wpAny_pure (wpAny_bind (wpAny_fieldsOf hit rfl ?_)))) | refine wpAny_bind (wpAny_typeNameOf_itemiter hT (wpAny_pure (wpAny_bind (wpAny_fieldsOf hit rfl ?_))))
 simp only[show Builtin.Dict_items.ownsTuple "dict_itemiterator"=true by decide,if_true]
 show wpAny _ _ (if (Value.ref d == Value.none)=true then _ else _) _ _ _;rw[if_neg (fun z=>by cases z)]
 refine wpAny_bind (wpAny_pure (wpAny_bind (wpAny_dictEntries hod hdd ?_)));rw[if_neg (by simp)]
 refine wpAny_bind (wpAny_pure (wpAny_bind (wpAny_dictEpoch hod hdd ?_)));rw[if_neg (by simp)];refine wpAny_pure ?_
 simp only[show ¬((i:Int) < 0) from by lia,if_false,Int.toNat_natCast,hx]
 refine wpAny_bind ?_
 first | refine wpAny_bind (wpAny_typeNameOfWhole_itemiter hT (wpAny_pure (wpAny_bind (wpAny_isOneOf_itemiter hT ?_)))) | refine wpAny_bind (wpAny_typeNameOf_itemiter hT (wpAny_pure (wpAny_bind (wpAny_isOneOf_itemiter hT ?_))))
 show wpAny _ _ (setField (.ref it) 3 (rawInt ((i:Int)+1)) >>= _) _ _ ⟨hp,g,dr,tk,os⟩
 refine wpAny_bind (wpAny_setField_rec hit (by simp) fun h1 e1 s1=>?_)
 replace s1:Heap.SameBut it hp h1:=s1
 replace e1:IsItemIter h1 it d (i+1) es.size ep ok ov:=by
  unfold IsItemIter;rw[show ((i+1:Nat):Int)=(i:Int)+1 by lia];simpa [rawInt] using e1
 have hT1:Shared.TypeIs ⟨h1,g,dr,tk,os⟩ (.ref it) "dict_itemiterator":=⟨_,e1,rfl⟩
 refine wpAny_bind (wpAny_holding (wpAny_bind (wpAny_isOneOf_itemiter hT1 (wpAny_bind (wpAny_isOneOf_itemiter hT1 ?_)))))
 show wpAny _ _ (Builtin.Dict_items.pairFromOwner (.ref it) 6 e.key e.val) _ _ ⟨h1,g,dr,tk,os⟩
 unfold Builtin.Dict_items.pairFromOwner;refine wpAny_bind (wpAny_newTuple ?_)
 have e2:IsItemIter (h1.push { cls:=.type "tuple",data:=.seq #[e.key,e.val] }) it d (i+1) es.size ep ok ov:=Heap.get?_push_of_some _ e1
 generalize hh2:h1.push { cls:=.type "tuple",data:=.seq #[e.key,e.val] }=h2 at e2
 have z1:h1.objs.size=hp.objs.size:=s1.1
 have hil:it < hp.objs.size:=Heap.lt_size hit
 have t2:h2.get? hp.objs.size=some { cls:=.type "tuple",data:=.seq #[e.key,e.val] }:=by rw[← hh2,← z1];exact Heap.get?_push_size _ rfl
 have z2:h2.objs.size=hp.objs.size+1:=by rw[← hh2,Heap.size_push,z1]
 have k2:∀ b o,b≠it→hp.get? b=some o→h2.get? b=some o:=fun b o hb e=>by rw[← hh2];exact Heap.get?_push_of_some _ (s1.extBut b o hb e)
 show wpAny _ _ (Builtin.Dict_items.ownedTupleIsFree (.ref it) >>= _) _ _ ⟨h2,g,dr,tk,os⟩;rw[z1]
 clear hh2 e1 s1 hT1 z1 h1
 refine wpAny_bind ?_;unfold Builtin.Dict_items.ownedTupleIsFree
 refine wpAny_bind (wpAny_field e2 rfl (x:=.none) rfl (wpAny_pure ?_));simp only[if_true]
 refine wpAny_bind (wpAny_field e2 rfl (x:=ok) rfl (wpAny_bind (wpAny_field e2 rfl (x:=ov) rfl (wpAny_bind (wpAny_setField_rec e2 (by simp) fun h3 e3 s3=>?_)))))
 replace s3:Heap.SameBut it h2 h3:=s3
 replace e3:IsItemIter h3 it d (i+1) es.size ep e.key ov:=e3
 refine wpAny_bind (wpAny_setField_rec e3 (by simp) fun h4 e4 s4=>?_)
 replace s4:Heap.SameBut it h3 h4:=s4
 replace e4:IsItemIter h4 it d (i+1) es.size ep e.key e.val:=e4
 refine wpAny_bind (wpAny_setField_rec e4 (by simp) fun h5 e5 s5=>?_)
 replace s5:Heap.SameBut it h4 h5:=s5
 replace e5:IsItemIterOut h5 it d (i+1) es.size ep e.key e.val hp.objs.size:=e5
 refine wpAny_bind (wpAny_setField_rec e5 (by simp) fun h6 e6 s6=>?_)
 replace s6:Heap.SameBut it h5 h6:=s6
 replace e6:IsItemIterOut h6 it d (i+1) es.size ep e.key e.val hp.objs.size:=e6
 refine wpAny_bind (wpAny_letGo (wpAny_pure (wpAny_pure ⟨_,rfl,wpAny_pure (hQ h6 e6 ?_ ?_ ?_)⟩)))
 ·exact s6.extBut _ _ (Nat.ne_of_gt hil) (s5.extBut _ _ (Nat.ne_of_gt hil) (s4.extBut _ _ (Nat.ne_of_gt hil) (s3.extBut _ _ (Nat.ne_of_gt hil) t2)))
 ·show h6.objs.size=hp.objs.size+1
  rw[s6.1,s5.1,s4.1,s3.1,z2]
 ·exact fun b o hb e=>s6.extBut b o hb (s5.extBut b o hb (s4.extBut b o hb (s3.extBut b o hb (k2 b o hb e))))
theorem a9S {it d:Addr} {o:Obj} {es:Array DictEntry} {ep i:Nat} {ok ov:Value} {Q:Option Value→Shared→Prop} (hh:A.handled=none) (hit:IsItemIter s.heap it d i es.size ep ok ov) (hod:s.heap.get? d=some o) (hdd:o.data=.dict es ep) (hx:es.size≤i)
  (hQ:∀ h',Heap.ExtBut it s.heap h'→Q none { s with heap:=h' }):wpAny (model P w) A (pyNext (.ref it)) Q E s:=by
 have hT:s.TypeIs (.ref it) "dict_itemiterator":=⟨_,hit,rfl⟩
 unfold pyNext
 refine wpAny_bind (wpAny_attempt (wpAny_callSpecial?_slot (name:=Str.ofString "__next__") hT F.slot_dict_itemiterator_next (wpAny_call_entry F.slot_dict_itemiterator_next hT F.entry_dict_itemiterator_next (wpAny_bind (wpAny_pure (wpAny_bind (wpAny_bind ?_)))) (F.args_dict_itemiterator_next_1 _))))
 first | refine wpAny_bind (wpAny_typeNameOfWhole_itemiter hT (wpAny_pure (wpAny_bind (wpAny_fieldsOf hit rfl ?_)))) | refine wpAny_bind (wpAny_typeNameOf_itemiter hT (wpAny_pure (wpAny_bind (wpAny_fieldsOf hit rfl ?_))))
 simp only[show Builtin.Dict_items.ownsTuple "dict_itemiterator"=true by decide,if_true]
 show wpAny _ _ (if (Value.ref d == Value.none)=true then _ else _) _ _ _;rw[if_neg (fun z=>by cases z)]
 refine wpAny_bind (wpAny_pure (wpAny_bind (wpAny_dictEntries hod hdd ?_)));rw[if_neg (by simp)]
 refine wpAny_bind (wpAny_pure (wpAny_bind (wpAny_dictEpoch hod hdd ?_)));rw[if_neg (by simp)];refine wpAny_pure ?_
 simp only[show ¬((i:Int) < 0) from by lia,if_false,Int.toNat_natCast,Array.getElem?_eq_none hx]
 refine wpAny_bind ?_
 first | refine wpAny_bind (wpAny_typeNameOfWhole_itemiter hT (wpAny_pure ?_)) | refine wpAny_bind (wpAny_typeNameOf_itemiter hT (wpAny_pure ?_))
 show wpAny _ _ (setField (.ref it) 2 .none >>= _) _ _ s;refine wpAny_bind (wpAny_setField hit rfl (by simp) ?_)
 show wpAny _ _ (newExc (.type "StopIteration") [] >>= _) _ _ _;refine wpAny_bind ?_
 simp only[newExc,newTuple];refine wpAny_bind (wpAny_newObj_type ?_ (by size_fits))
 refine wpAny_bind (m:=firstArgMember _ _) (wpAny_of_eq (a:=Value.none) (by first | rfl | (simp only[firstArgMember];rfl)) (wpAny_newObj_type ?_ (by size_fits)))
 simp only[raiseNew];refine wpAny_bind (wpAny_handled ?_);rw[show A.in1.handled=none from hh]
 refine wpAny_bind (wpAny_pure (wpAny_throw ?_));refine wpAny_bind (wpAny_isInstance (T:="StopIteration") (b:=true) ⟨_,Heap.get?_push_size _ rfl,rfl⟩ isSubtype_stop (wpAny_pure (hQ _ (((Heap.SameBut.update ..).extBut.push _).push _))))
end
theorem a6i {P:Program} {w:World} {H:Hp} {h:Heap} {d:Addr} {o:Obj} {kvs:List (List Key × V)} (ok:HOk P w H h) (e:H d=some (.frz o (.dT kvs))) :
  h.get? d=some o∧o.ExactDict∧∃ es ep,o.data=.dict es ep∧es.size=kvs.length∧∀ (i:Nat) kv,kvs[i]?=some kv→∃ en b,es[i]?=some en∧en.key=.ref b∧H b=some (.tup (kv.1.map kV))∧RelV kv.2 en.val:=by
 obtain⟨g,z,y,xs,r,o',es,ep,h1,h2,h3,h4,h5⟩:=(show h.get? d=some o∧a1G P w H h d (.dT kvs) from ok d _ e)
 rw[g] at h1
 obtain rfl:=Option.some.inj h1
 refine⟨g,h2,es,ep,h3,?_,fun i kv hi=>?_⟩
 ·rw[← Array.length_toList,h4,List.length_map,Paired.length r]
 ·obtain⟨q,e1,e2,e3,e4⟩:=a9n r hi
  exact⟨entryOfKey (tupleKind (a0X P w)) q,q.2.1,by rw[← Array.getElem?_toList,h4,List.getElem?_map,e1];rfl,rfl,e3,e4⟩
noncomputable def Iti (d:Addr) (o:Obj):It :=
 ⟨fun i H=>∃ kvs kv,H d=some (.frz o (.dT kvs))∧kvs[i]?=some kv,fun i H x H'=>∃ T y z,x=.ref T∧H T=none∧H'=upd H T (.tup [.ref y,z])∧∀ kvs kv,H d=some (.frz o (.dT kvs))→kvs[i]?=some kv→H y=some (.tup (kv.1.map kV))∧z=kv.2,fun i H=>∃ kvs,H d=some (.frz o (.dT kvs))∧kvs.length≤i⟩
theorem Inv.turnNew1 {X:Cx} {pins:List (Addr × Obj)} {σ:St} {H:Hp} {s:Shared} {h':Heap} {t':Nat} {it T:Addr} {xs:List V} (I:Inv X pins σ H s) (fi:FpOk X pins H it)
  (k:∀ b o,b≠it→s.heap.get? b=some o→h'.get? b=some o) (hT:s.heap.objs.size≤T) (new:a1G X.prog X.w (upd H T (.tup xs)) h' T (.tup xs)) :
  Inv X pins σ (upd H T (.tup xs)) { s with heap:=h',toks:=t' }:=I.turnNew fi fi (fun b o h1 _ q=>k b o h1 q) hT new
theorem b2x {P:Program} {w:World} {K:PySem.W.Frag} {es':List Expr} {x1} {tp:Pos} (d:Addr) (o:Obj) (it:Addr):Turn P w K (.Tuple es' x1 tp) (Iti d o) [it] it (fun i h=>∃ es ep ok ov,o.data=.dict es ep∧IsItemIter h it d i es.size ep ok ov) where
 mem:=by simp
 obj:=fun i h st b hb=>by
  have e:b=it:=by simpa using hb
  subst e
  obtain⟨_,_,_,_,_,e⟩:=st
  exact⟨_,e,fun v z=>by cases z⟩
 keep:=fun i h h' st k=>let ⟨es,ep,ok,ov,a,st⟩:=st;⟨es,ep,ok,ov,a,k it (by simp) _ st⟩
 item:=by
  intro X hP hw hK hc i pins s σ H E I hf st hg
  subst hP hw hK
  obtain⟨kvs,kv,hq,hx⟩:=hg
  obtain⟨es,ep,ok,ov,hdat,st⟩:=st
  obtain⟨g,_,es',ep',hdat',hsz,hat⟩:=a6i I.hok hq
  rw[hdat] at hdat'
  obtain⟨rfl,rfl⟩:es=es'∧ep=ep':=by injection hdat' with a b;exact⟨a,b⟩
  obtain⟨en,b,h1,h2,h3,h4⟩:=hat i kv hx
  have fi:=hf it (by simp)
  refine a9T st g hdat h1 fun h1' ho hT hsz' hk=>?_
  refine⟨_,rfl,wpAny_letOwnedTupleGo_items ho fun h2' he2 hs2=>?_⟩
  have hil:it < s.heap.objs.size:=Heap.lt_size st
  have neT:s.heap.objs.size≠it:=Nat.ne_of_gt hil
  have k2:∀ b o,b≠it→s.heap.get? b=some o→h2'.get? b=some o:=fun b o h3 q=>(hs2.2 b h3).trans (hk b o h3 q)
  have hT2:h2'.get? s.heap.objs.size=some { cls:=.type "tuple",data:=.seq #[en.key,en.val] }:=(hs2.2 _ neT).trans hT
  have hn:H s.heap.objs.size=none:=I.hok.fresh (Nat.le_refl _)
  have I2:Inv X pins σ (upd H s.heap.objs.size (.tup [.ref b,kv.2])) { s with heap:=h2' }:=I.turnNew1 (t':=s.toks) fi k2 (Nat.le_refl _)
   ⟨by simp only[List.length_cons,List.length_nil];rw[sizeLine_eq];decide,[en.key,en.val],.cons (by rw[h2];exact rfl) (.cons h4 .nil),_,hT2,rfl,rfl,_,rfl⟩
  refine⟨.ref s.heap.objs.size,_,I2,rfl,⟨_,b,kv.2,rfl,hn,rfl,fun kvs2 kv2 q2 x2=>?_⟩,⟨es,ep,_,_,hdat,he2⟩,fun c hc=>?_⟩
  ·rw[hq] at q2
   cases q2
   rw[hx] at x2
   cases x2
   exact⟨h3,rfl⟩
  ·have e:c=it:=by simpa using hc
   subst e
   rw[a0v neT.symm]
   exact fi.1
 done:=by
  intro X hP hw hK hc i pins s σ H E I hf st hg
  subst hP hw hK
  obtain⟨kvs,hq,hx⟩:=hg
  obtain⟨es,ep,ok,ov,hdat,st⟩:=st
  obtain⟨g,_,es',ep',hdat',hsz,hat⟩:=a6i I.hok hq
  rw[hdat] at hdat'
  obtain⟨rfl,rfl⟩:es=es'∧ep=ep':=by injection hdat' with a b;exact⟨a,b⟩
  obtain⟨f0,f1,f2,f3,f4,f5⟩:=hf it (by simp)
  exact a9S (I.ok.hd hc) st g hdat (by lia) fun h' eb=>⟨rfl,I.turned (t':=s.toks) (fun b o hb e=>eb b o hb e) f0 f1 f3 f4 f5⟩
 self:=fun A i s Q E st h=>by
  obtain⟨es,ep,ok,ov,hdat,st⟩:=st
  exact PySem.W.kcp_self st h
noncomputable def prTs (D:List (List Int × T)):List T:=D.map fun d=>.tup [.dic d.1 [],d.2]
theorem a4Y (D:List (List Int × T)):(prTs D).length=D.length:=List.length_map ..
theorem b1Y {κ:Type} {K:PySem.W.Frag} {H:Hp}:∀ {xs:List (κ × V)} {kvs:List (κ × T)} {i:Nat} {kv:κ × T},KRep K H xs kvs→kvs[i]?=some kv→∃ x,xs[i]?=some x∧x.1=kv.1∧Rep K H x.2 kv.2
 | [],[],_,_,_,e=>by simp at e
 | p :: r,q :: u,0,kv,h,e=>by simp at e;subst e;exact⟨p,rfl,h.1,h.2.1⟩
 | p :: r,q :: u,i+1,kv,h,e=>by
   obtain⟨x,a,b⟩:=b1Y (i:=i) h.2.2 (by simpa using e)
   exact⟨x,by simpa using a,b⟩
 | [],q :: u,_,_,h,_=>h.elim
 | p :: r,[],_,_,h,_=>h.elim
theorem b3e {K:PySem.W.Frag} {H:Hp} {d:Addr} {o:Obj} {D:List (List Int × T)} {xs:List (List Key × V)} (g:H d=some (.frz o (.dT xs))) (r:KRep K H xs (dtI D)):ItOk K H (Iti d o) ⟨prTs D,fun _=>True⟩:=by
 have hl:=r.length
 unfold dtI at hl
 rw[List.length_map] at hl
 refine⟨fun H' M' k hh _=>⟨xs,k.frz _ _ _ g,?_⟩,fun i x H' M' e k hh _=>?_⟩
 ·show xs.length≤(prTs D).length
  rw[a4Y,hl];exact Nat.le_refl _
 ·unfold prTs at e
  rw[List.getElem?_map] at e
  obtain⟨dv,e1,rfl⟩:=Option.map_eq_some_iff.mp e
  obtain⟨xv,e2,e3,e4⟩:=b1Y (i:=i) (kv:=(kyI dv.1,dv.2)) r (by unfold dtI;rw[List.getElem?_map,e1];rfl)
  refine⟨⟨xs,xv,k.frz _ _ _ g,e2⟩,fun v H'' y=>?_⟩
  obtain⟨T0,y1,z1,rfl,hn,rfl,hy⟩:=y
  obtain⟨hb,rfl⟩:=hy xs xv (k.frz _ _ _ g) e2
  rw[e3,a9M] at hb
  refine⟨Kp.new hn,hh.keep hn,a1v (SqT.of a0B) ?_⟩
  unfold Reps
  refine⟨_,_,rfl,b0M ((Kp.new (K:=K) hn).tr _ _ hb),?_⟩
  unfold Reps
  refine⟨_,_,rfl,Rep.kp (k.trans (Kp.new hn)) _ _ e4,?_⟩
  unfold Reps
  rfl
noncomputable def b7h (tl:TE3):TI3:=fun ρ M R=>tl ρ M fun x M1=>match x with
 | .adr p=>(match M1 p with | some (.dt kvs)=>∃ D,kvs=dtI D∧R ⟨prTs D,fun _=>True⟩ (updM M1 p (.fz kvs)) | _=>False)
 | _=>False
section
variable {X:Cx}
theorem b4O {es0:List Expr} {x0} {tp:Pos} {l:Expr} {tl:TE3} {apos cpos:Pos} (hl:HE X l tl) (hbase:attributeBase l "items" X.env (eval l X.env)=eval l X.env:=by rfl) (hline:(apos.endLine == cpos.line)=true:=by rfl) :
  HI X (.Tuple es0 x0 tp) (.Call (.Attribute l "items" apos) [] [] cpos) (b7h tl):=by
 intro ρ M R h pins s σ H R2 I b
 obtain⟨hr,hh,en⟩:=b
 refine wpAny_Call_method0_late hbase hline (thn (hl ρ M _ h pins s σ H (fun v H1=>∃ t M1,Kp X.K H H1∧HR X.K H1 M1∧Rep X.K H1 v t∧(match t with
  | .adr p=>(match M1 p with | some (.dt kvs)=>∃ D,kvs=dtI D∧R ⟨prTs D,fun _=>True⟩ (updM M1 p (.fz kvs)) | _=>False)
  | _=>False)) I ⟨hr,hh,fun t v M1 H1 k1 h1 r1 q1=>⟨t,M1,k1,h1,r1,q1⟩⟩) fun v s1 ⟨x,H1,I1,rv,t,M1,k1,h1,r1,q1⟩=>?_)
 split at q1
 ·rename_i a
  obtain rfl:=a0F r1
  cases rv
  split at q1
  ·rename_i kvs e0
   obtain⟨D,rfl,q1⟩:=q1
   obtain⟨xs,g1,g2⟩:=h1 _ _ e0
   obtain⟨hT,hnd,hsm⟩:=b7g I1 (a:=a) (.inr ⟨xs,.inl g1⟩)
   refine⟨"dict","dict.items",PySem.F.plainAttrs_dict,PySem.F.slot_dict_items,PySem.F.type_dict_items,hT,hnd,Calls.callWith_builtin rfl (PySem.evalArgs_none (a9R hT hsm ?_))⟩
   have Iv:Inv X pins σ H1 { s1 with heap:=s1.heap.push { cls:=.type "dict_items",data:=.fields #[.ref a] } }:=I1.kept (t':=s1.toks) fun b o e=>Heap.get?_push_of_some _ e
   have hv:({ s1 with heap:=s1.heap.push { cls:=.type "dict_items",data:=.fields #[.ref a] } }:Shared).heap.IsItemsView s1.heap.objs.size a:=⟨_,Heap.get?_push_size _ rfl,rfl,rfl⟩
   generalize ({ s1 with heap:=s1.heap.push { cls:=.type "dict_items",data:=.fields #[.ref a] } }:Shared)=s2 at Iv hv⊢
   obtain⟨z,y,xs2,r,o,es,ep,h1',h2,h3,h4,h5⟩:=(show a1G X.prog X.w H1 s2.heap a (.dT xs) from Iv.hok a _ g1)
   have kd:=Kp.dict (K:=X.K) (u:=.frz o (.dT xs)) g1 (.inr ⟨_,rfl⟩)
   have I2:Inv X pins σ (upd H1 a (.frz o (.dT xs))) s2:=Iv.write (t':=s2.toks) (by rw[g1];trivial) (.inl rfl) (fun b u _ e=>e) ⟨o,h1'⟩
    ⟨h1',z,y,xs2,Paired.mapP r fun p q w=>⟨w.1,by rw[a0v (b8A w.2.1 g1 (by intro z;cases z))];exact w.2.1,w.2.2⟩,o,es,ep,h1',h2,h3,h4,h5⟩
   have gr:KRep X.K (upd H1 a (.frz o (.dT xs))) xs (dtI D):=g2.kp kd
   refine a8I hv h1' h3 ?_
   refine⟨s2.heap.objs.size,[s2.heap.objs.size],_,_,_,rfl,I2.kept (t':=s2.toks) fun b o e=>Heap.get?_push_of_some _ e,b2x a o _,⟨es,ep,_,_,h3,Heap.get?_push_size _ rfl⟩,fun b hb=>?_,en ⟨prTs D,fun _=>True⟩ _ (updM M1 a (.fz (dtI D))) _ (k1.trans kd) (fun c u ec=>?_) (b3e a0B gr) q1⟩
   ·have e:b=s2.heap.objs.size:=by simpa using hb
    subst e
    exact I2.fpOk (Nat.le_refl _) (I2.hok.fresh (Nat.le_refl _))
   ·by_cases hc:c=a
    ·subst hc
     rw[a0i] at ec;cases ec
     exact⟨o,xs,a0B,gr⟩
    ·rw[a0s hc] at ec
     exact (h1 c u ec).kp kd fun u _ q=>by rw[a0v hc];exact q
  ·exact q1.elim
 ·exact q1.elim
end
noncomputable def rInK (f:Bool→Bool):R3:=fun x y M Q=>match y with
 | .adr p=>(match M p with
   | some (.dk kvs)=>∃ kk,x=keyT kk∧Q (.bl (f (valT kvs kk).isSome)) M
   | _=>False)
 | _=>False
theorem b4E {κ:Type} [DecidableEq κ] {K:PySem.W.Frag} {H:Hp} {xs:List (κ × V)} {kvs:List (κ × T)} (h:KRep K H xs kvs) (k:κ):(valV xs k).isSome=(valT kvs k).isSome:=by
 have:=h.val k
 cases e:valT kvs k with
 | none=>rw[e] at this;rw[this];rfl
 | some t=>rw[e] at this;obtain⟨v,e1,_⟩:=this;rw[e1];rfl
section
variable {X:Cx}
theorem a7G (hu:X.A.units+64 < cLine):OpR3 X (compareOp .NotIn) (rInK not):=by
 intro pins s σ H x y v u Q2 I rx ry q
 obtain⟨a,b,M,Q,r1,r2,hh,q,en⟩:=q
 unfold rInK at q
 split at q
 ·split at q
  ·rename_i kvs e
   obtain⟨kk,rfl,q⟩:=q
   obtain rfl:=a0F r2
   obtain rfl:=a6J r1
   obtain⟨xs,g1,g2⟩:=hh _ _ e
   cases ry
   refine b8Y (by lia) I (DGet.k (k:=kk) g1) rx fun s' I'=>⟨.bl _,H,I',rfl,en _ _ M H Kp.refl hh a1W ?_⟩
   rw[b4E g2 kk];exact q
  ·exact q.elim
 ·exact q.elim
end
noncomputable abbrev Nst:=List Nat
noncomputable def decN:Nat→Nat→Nst
 | 0,_=>[]
 | k+1,c=>c % 16 :: decN k (c / 16)
noncomputable def codN:Nat→List Nat
 | 1=>[1]
 | 2=>[4146,8961]
 | 3=>[2164035,2311425,4522275,4530945,213285]
 | 4=>[839939668,843412993,895512868,1729110868,895644673,1732584193,809857318,1731219748,358622068,1731351553,1164387073,1732575523,272966518,1164378403]
 | 5=>[288317081445,288390481665,289491484965,307107537765,588964382565,289493583105,307180937985,589037782785,287853609255,307141108005,590138786085,280901526405,589501506405,169668200805,307143206145,590140884225,298089784065,589574906625,169741601025,307180929315,588500910375,589535076645,444680323365,279263650695,590138647365,143462189445,589537174785,444682421505,590143103745,160650447105,298089775395,589574897955,32302645545,588500771655,444680184645,141824313735,444684641025,590143095075,23211491625,32302506825,444684632355,23211352905]
 | 6=>[92574005762166,92575465379841,92597359644966,92947667886966,98552599758966,188231509710966,92597393200641,92949127504641,98554059376641,188232969328641,92566875443496,92948204777766,98575953641766,188254863593766,92459920663446,98561190011766,188605171835766,90748644182646,188368953755766,63368220489846,92948238333441,98575987197441,188254897149441,92803669041921,98562649629441,188606631453441,90750103800321,188370413373441,63369680107521,92949127495971,98545469440296,188224379392296,98561726902566,188605708726566,96248618238246,188392307638566,63391574372646,92429436461976,98575953503046,188117424612246,188377544008566,151367805379446,90260896959126,188605169616246,55564264913526,98561760458241,188605742282241,96248651793921,188392341194241,63391607928321,98576020939521,188461172990721,188379003626241,151369264997121,90604645337601,188606629233921,55565724531201,92803669033251,98562649620771,188606631444771,88551080542506,188361823437096,63361090171176,188378080899366,151368342270246,188606248599846,61064238969126,98545469301576,188086940410776,96248618099526,188392307499846,28207202247606,90230412757656,188117422392726,151367803159926,55076517690006,188378114455041,151368375825921,188606282155521,61064272524801,96248685536001,188392374936321,116168317018881,188461170771201,151369262777601,55420266068481,98576020930851,188461172982051,188379003617571,151369264988451,88405622079786,188606627135781,53366701273386,151368882143526,88551080403786,188361823298376,28176718046136,188606248461126,25879866844086,188086938191256,28207200028086,55046033488536,151368915699201,188606315897601,113840981615361,116168314799361,96248685527331,188392374927651,116168317010211,188461168673061,151369260679461,53221242810666,88405621941066,188606626997061,18182329148346,151368882004806,28176715826616,25879864624566,151368949441281,113840979395841,188606315888931,113840981606691,116168312701221,188461168534341,151369260540741,18036870685626,18182326928826,151368949432611,113840977297701,116168312562501,18036868466106,113840977158981]
 | _=>[]
noncomputable def nsts (m:Nat):List Nst:=(codN m).map (decN (2*m))
noncomputable def gN (N:Nst) (k:Nat):Nat:=N.getD k 0
noncomputable def plN (m:Nat):Nst:=(List.range m).map (·+m)++List.range m
noncomputable def mlN (N:Nst) (i:Nat):Bool:=gN N (N.length / 2+i) == N.length / 2+i - 1
noncomputable def hkN (N:Nst) (i:Nat):Nst:=(((N.set (gN N (N.length / 2+i - 1)) (gN N (N.length / 2+i))).set (gN N (N.length / 2+i)) (gN N (N.length / 2+i - 1))).set (N.length / 2+i - 1) (N.length / 2+i)).set (N.length / 2+i) (N.length / 2+i - 1)
noncomputable def stN (i:Nat) (s:Nat × Nst):Nat × Nst:=if mlN s.2 i then (s.1+1,s.2) else (s.1,hkN s.2 i)
noncomputable def insN (seen:List Nat) (k:Nat):List Nat:=if seen.contains k then seen else seen++[k]
noncomputable def wkN (N:Nst):Nat→List Nat→Nat→List Nat
 | 0,seen,_=>seen
 | f+1,seen,a=>if seen.contains a then seen else wkN N f (insN (insN seen a) (gN N a)) ((gN N a+N.length / 2) % N.length)
noncomputable def lpS (N:Nst):Nat→Nat→List Nat→Nat
 | 0,_,_=>0
 | j+1,b,seen=>(if seen.contains b then 0 else 1)+lpS N j (b+1) (wkN N (N.length+1) seen b)
noncomputable def lpN (N:Nst):Nat:=lpS N (N.length / 2) 0 []
noncomputable def mtN (N:Nst) (i:Nat):Bool:=gN N i == i - 1
noncomputable def htN (N:Nst) (i:Nat):Nst:=(((N.set (gN N (i - 1)) (gN N i)).set (gN N i) (gN N (i - 1))).set (i - 1) i).set i (i - 1)
noncomputable def upN (i:Nat) (s:Nat × Nst):Nat × Nst:=if mtN s.2 i then (s.1+1,s.2) else (s.1,htN s.2 i)
noncomputable def sdN (A B:Nst):Nst:=let a:=A.length / 2;let b:=B.length / 2;let g:=fun x=>if x < a then x else x+b;let h:=fun x=>if x < b then x+a else x+2*a
 ((List.range a).map fun k=>g (gN A k))++((List.range b).map fun k=>h (gN B k))++((List.range a).map fun k=>g (gN A (a+k)))++((List.range b).map fun k=>h (gN B (b+k)))
noncomputable def far2 (i j:Nat):Bool:=i+1 < j || j+1 < i
noncomputable def b8z (i j:Nat):Bool:=i+1 == j || j+1 == i
noncomputable def hks (m:Nat):List Nat:=(List.range (m - 1)).map (·+1)
noncomputable def ckA (m:Nat):Bool:=(nsts m).all fun N=>N.length == 2*m && (N.all (· < 2*m)) && (hks m).all fun i=>mlN N i || (mlN (hkN N i) i && (nsts m).contains (hkN N i))
noncomputable def ckB (m:Nat):Bool:=(nsts m).all fun N=>(hks m).all fun i=>(hks m).all fun j=>if far2 i j then stN i (stN j (0,N)) == stN j (stN i (0,N)) else if b8z i j then stN i (stN j (stN i (0,N))) == stN i (0,N) else true
theorem b9e:ckA 1 && ckA 2 && ckA 3 && ckA 4 && ckA 5 && ckA 6=true:=by decide +kernel
theorem b9d:ckB 1 && ckB 2 && ckB 3 && ckB 4 && ckB 5 && ckB 6=true:=by decide +kernel
noncomputable def ckP (m:Nat):Bool:=(nsts m).contains (plN m)
theorem b9b:ckP 1 && ckP 2 && ckP 3 && ckP 4 && ckP 5 && ckP 6=true:=by decide +kernel
noncomputable def frN {α:Type} (n:Nat) (k:Nat→α):α:=match n with
 | 0=>k 0
 | p+1=>k (p+1)
theorem c0Z {α:Type} (n:Nat) (k:Nat→α):frN n k=k n:=by cases n<;>rfl
noncomputable def encN (N:Nst):Nat:=N.foldr (fun x c=>x+16*c) 0
noncomputable def fcN (l:Nat) (N:Nst) (k:Nst→Bool):Bool:=frN (encN N) fun c=>N == decN l c && k (decN l c)
theorem b0a {l:Nat} {N:Nst} {k:Nst→Bool} (h:fcN l N k=true):k N=true:=by
 unfold fcN at h
 rw[c0Z,Bool.and_eq_true,beq_iff_eq] at h
 rw[h.1];exact h.2
noncomputable def ckC (l i j:Nat) (N:Nst):Bool:=fcN l (stN j (0,N)).2 fun A=>fcN l (upN i (0,N)).2 fun B=>upN i ((stN j (0,N)).1,A) == stN j ((upN i (0,N)).1,B)
noncomputable def ckT (l i:Nat) (N:Nst):Bool:=fcN l (stN i (0,N)).2 fun A=>fcN l (upN i (0,N)).2 fun B=>(upN i (0,N)).1+lpN B == (stN i (0,N)).1+lpN A
noncomputable def ckU (m i:Nat) (N:Nst):Bool:=fcN (2*m) (upN i (0,N)).2 fun B=>(nsts m).contains B
noncomputable def alC (m:Nat):Bool:=(nsts m).all fun N=>(hks m).all fun i=>(hks m).all fun j=>ckC (2*m) i j N
noncomputable def alT (m:Nat):Bool:=(nsts m).all fun N=>decide (0 < lpN N) && (hks m).all fun i=>ckT (2*m) i N
noncomputable def alU (m:Nat):Bool:=(nsts m).all fun N=>(hks m).all fun i=>ckU m i N
theorem b9i:alC 1 && alC 2 && alC 3 && alC 4 && alC 5 && alC 6=true:=by decide +kernel
theorem b5t:alT 1 && alT 2 && alT 3 && alT 4 && alT 5 && alT 6=true:=by decide +kernel
theorem b9h:alU 1 && alU 2 && alU 3 && alU 4 && alU 5 && alU 6=true:=by decide +kernel
noncomputable def ckCp (m:Nat):Bool:=(hks m).all fun i=>upN i (0,plN m) == stN i (0,plN m)
theorem b6D:ckCp 1 && ckCp 2 && ckCp 3 && ckCp 4 && ckCp 5 && ckCp 6=true:=by decide +kernel
noncomputable def ckS (a b:Nat):Bool:=(sdN (plN a) (plN b) == plN (a+b)) && (nsts a).all fun A=>(nsts b).all fun B=>(nsts (a+b)).contains (sdN A B) && lpN (sdN A B) == lpN A+lpN B && (stN a (0,sdN A B)).1 == 0 && lpN (stN a (0,sdN A B)).2+1 == lpN A+lpN B &&
 ((hks a).all fun i=>stN i (0,sdN A B) == ((stN i (0,A)).1,sdN (stN i (0,A)).2 B)) && ((hks b).all fun i=>stN (a+i) (0,sdN A B) == ((stN i (0,B)).1,sdN A (stN i (0,B)).2))
theorem b9a:(ckS 1 1 && ckS 1 2 && ckS 1 3 && ckS 2 1 && ckS 2 2 && ckS 2 3 && ckS 3 1 && ckS 3 2 && ckS 3 3)=true:=by decide +kernel
noncomputable abbrev NF:=Nst→Lp
noncomputable def xL (k:Int):Lp:=toL [(k,1)]
noncomputable def dlt:Lp:=toL [(-2,-1),(2,-1)]
noncomputable def uF (i:Nat) (f:NF):NF:=fun N=>if mlN N i then dlt*f N else f (hkN N i)
noncomputable def vF (i:Nat) (f:NF):NF:=fun N=>if mtN N i then dlt*f N else f (htN N i)
noncomputable def tF (l:Int) (f:NF):NF:=fun N=>xL (sgI l)*f N+xL (-(sgI l))*uF l.natAbs f N
noncomputable def sF (l:Int) (f:NF):NF:=fun N=>xL (sgI l)*f N+xL (-(sgI l))*vF l.natAbs f N
noncomputable def phi:List Int→NF→NF
 | [],f=>f
 | l :: w,f=>tF l (phi w f)
noncomputable def trF:NF:=fun N=>powL dlt (lpN N - 1)
noncomputable def stS (n:Nat) (w:List Int):Lp:=phi w trF (plN n)
noncomputable def FU (f:NF) (s:Nat × Nst):Lp:=powL dlt s.1*f s.2
theorem a5E (x:Lp):∀ a b:Nat,powL x (a+b)=powL x a*powL x b
 | a,0=>by show powL x a=powL x a*1;grind
 | a,b+1=>by
   show powL x (a+b)*x=powL x a*(powL x b*x)
   rw[a5E x a b];grind
theorem b5V (x:Lp):powL x 1=x:=by show 1*x=x;grind
theorem a5l (a b:Int):xL (a+b)=xL a*xL b:=by unfold xL;rw[a4D];rfl
theorem xL_0:xL 0=1:=rfl
theorem b7o:dlt=-(xL 2) - xL (-2):=by
 have e:dlt=toL (addP [(-2,-1)] [(2,-1)]):=rfl
 have e1:-(xL 2)=toL [(2,-1)]:=by
  show sgU (-1)*xL 2=_
  unfold sgU xL;rw[a4D];rfl
 have e2:toL [(-2,-1)]=-(xL (-2)):=by
  show _=sgU (-1)*xL (-2)
  unfold sgU xL;rw[a4D];rfl
 rw[e,a7Z,e2,← e1]
 grind
theorem b9l (l:Int):xL (sgI l)*xL (-(sgI l))=1:=by rw[← a5l,show sgI l+-(sgI l)=0 by lia,xL_0]
theorem b7n (l:Int):dlt=-(xL (sgI l)*xL (sgI l)) - xL (-(sgI l))*xL (-(sgI l)):=by
 rw[b7o,← a5l,← a5l]
 unfold sgI
 split
 ·show -(xL 2) - xL (-2)=-(xL (-2)) - xL 2;grind
 ·show -(xL 2) - xL (-2)=-(xL 2) - xL (-2);rfl
theorem FU_u (f:NF) (i:Nat) (s:Nat × Nst):FU (uF i f) s=FU f (stN i s):=by
 unfold FU uF stN
 by_cases h:mlN s.2 i=true
 ·rw[if_pos h,if_pos h]
  show _=powL dlt s.1*dlt*f s.2
  grind
 ·rw[if_neg h,if_neg h]
theorem FU_v (f:NF) (i:Nat) (s:Nat × Nst):FU (vF i f) s=FU f (upN i s):=by
 unfold FU vF upN
 by_cases h:mtN s.2 i=true
 ·rw[if_pos h,if_pos h]
  show _=powL dlt s.1*dlt*f s.2
  grind
 ·rw[if_neg h,if_neg h]
theorem FU_0 (f:NF) (N:Nst):FU f (0,N)=f N:=by show 1*f N=f N;grind
theorem u_st (f:NF) (i:Nat) (N:Nst):uF i f N=FU f (stN i (0,N)):=by rw[← FU_u,FU_0]
theorem v_up (f:NF) (i:Nat) (N:Nst):vF i f N=FU f (upN i (0,N)):=by rw[← FU_v,FU_0]
theorem b2u (i:Nat) (a b:Lp) (f g:NF):uF i (fun N=>a*f N+b*g N)=fun N=>a*uF i f N+b*uF i g N:=funext fun N=>by
 unfold uF
 split<;>grind
theorem c1p (i:Nat) (a b:Lp) (f g:NF):vF i (fun N=>a*f N+b*g N)=fun N=>a*vF i f N+b*vF i g N:=funext fun N=>by
 unfold vF
 split<;>grind
theorem c1w (l:Int) (a b:Lp) (f g:NF):tF l (fun N=>a*f N+b*g N)=fun N=>a*tF l f N+b*tF l g N:=funext fun N=>by
 unfold tF
 rw[b2u];grind
theorem c1v (l:Int) (a:Lp) (f:NF):tF l (fun N=>a*f N)=fun N=>a*tF l f N:=by
 have e:=c1w l a 0 f f
 have e1:(fun N=>a*f N+0*f N)=fun N=>a*f N:=funext fun N=>by grind
 rw[e1] at e
 rw[e];funext N;grind
theorem b0S (a:Lp):∀ (w:List Int) (f:NF),phi w (fun N=>a*f N)=fun N=>a*phi w f N
 | [],f=>rfl
 | l :: w,f=>by
   show tF l (phi w fun N=>a*f N)=fun N=>a*tF l (phi w f) N
   rw[b0S a w f,c1v]
theorem a1J:∀ (w v:List Int) (f:NF),phi (w++v) f=phi w (phi v f)
 | [],v,f=>rfl
 | l :: w,v,f=>congrArg (tF l) (a1J w v f)
noncomputable def Cm (m:Nat):Prop:=1≤m∧m≤6
theorem Cm.cases {P:Nat→Prop} {m:Nat} (h:Cm m) (h1:P 1) (h2:P 2) (h3:P 3) (h4:P 4) (h5:P 5) (h6:P 6):P m:=by
 obtain⟨a,b⟩:=h
 match m with
 | 0=>exact absurd a (by decide)
 | 1=>exact h1
 | 2=>exact h2
 | 3=>exact h3
 | 4=>exact h4
 | 5=>exact h5
 | 6=>exact h6
 | k+7=>exact absurd b (by lia)
theorem Cm.all {c:Nat→Bool} {m:Nat} (h:Cm m) (hc:(c 1 && c 2 && c 3 && c 4 && c 5 && c 6)=true):c m=true:=by
 simp only[Bool.and_eq_true] at hc
 exact h.cases (P:=fun m=>c m=true) hc.1.1.1.1.1 hc.1.1.1.1.2 hc.1.1.1.2 hc.1.1.2 hc.1.2 hc.2
theorem a3p {m i:Nat}:i∈hks m↔1≤i∧i < m:=by
 unfold hks
 rw[List.mem_map]
 constructor
 ·rintro⟨k,hk,rfl⟩
  rw[List.mem_range] at hk
  lia
 ·rintro⟨a,b⟩
  exact⟨i - 1,List.mem_range.mpr (by lia),by lia⟩
section
variable {m:Nat} (hm:Cm m)
include hm
theorem a5F:plN m∈nsts m:=List.contains_iff_mem.mp (hm.all b9b)
theorem a7q {N:Nst} (hN:N∈nsts m):N.length=2*m∧(∀ x∈N,x < 2*m)∧∀ i,1≤i→i < m→mlN N i=false→mlN (hkN N i) i=true∧hkN N i∈nsts m:=by
 have h:=List.all_eq_true.mp (show (nsts m).all _=true from hm.all b9e) N hN
 simp only[Bool.and_eq_true,beq_iff_eq,List.all_eq_true,decide_eq_true_eq,Bool.or_eq_true] at h
 refine⟨h.1.1,h.1.2,fun i a b c=>?_⟩
 rcases h.2 i (a3p.mpr ⟨a,b⟩) with z | z
 ·rw[c] at z;cases z
 ·exact⟨z.1,List.contains_iff_mem.mp z.2⟩
theorem b1z {N:Nst} (hN:N∈nsts m) {i k:Nat} (a:1≤i) (b:i < m):(stN i (k,N)).2∈nsts m:=by
 unfold stN
 by_cases h:mlN N i=true
 ·rw[if_pos h];exact hN
 ·rw[if_neg h];exact ((a7q hm hN).2.2 i a b (by simpa using h)).2
theorem u_u {N:Nst} (hN:N∈nsts m) {i:Nat} (a:1≤i) (b:i < m) (f:NF):uF i (uF i f) N=dlt*uF i f N:=by
 by_cases h:mlN N i=true
 ·have e:∀ g:NF,uF i g N=dlt*g N:=fun g=>if_pos h
  rw[e]
 ·obtain⟨h1,_⟩:=(a7q hm hN).2.2 i a b (by simpa using h)
  have e:∀ g:NF,uF i g N=g (hkN N i):=fun g=>if_neg h
  rw[e,e]
  exact if_pos h1
theorem b7u {N:Nst} (hN:N∈nsts m) {i j:Nat} (a:1≤i) (b:i < m) (c:1≤j) (d:j < m):(if far2 i j then stN i (stN j (0,N)) == stN j (stN i (0,N)) else if b8z i j then stN i (stN j (stN i (0,N))) == stN i (0,N) else true)=true :=
 List.all_eq_true.mp (List.all_eq_true.mp (List.all_eq_true.mp (show (nsts m).all _=true from hm.all b9d) N hN) i (a3p.mpr ⟨a,b⟩)) j (a3p.mpr ⟨c,d⟩)
theorem c1t {N:Nst} (hN:N∈nsts m) {i j:Nat} (a:1≤i) (b:i < m) (c:1≤j) (d:j < m) (h:i+1 < j∨j+1 < i) (f:NF):uF i (uF j f) N=uF j (uF i f) N:=by
 have e:=b7u hm hN a b c d
 rw[if_pos (by unfold far2;simpa using h),beq_iff_eq] at e
 rw[u_st,FU_u,u_st,FU_u,e]
theorem b6K {N:Nst} (hN:N∈nsts m) {i j:Nat} (a:1≤i) (b:i < m) (c:1≤j) (d:j < m) (h:i+1=j∨j+1=i) (f:NF):uF i (uF j (uF i f)) N=uF i f N:=by
 have e:=b7u hm hN a b c d
 rw[if_neg (by unfold far2;simp;lia),if_pos (by unfold b8z;simpa using h),beq_iff_eq] at e
 rw[u_st,FU_u,FU_u,e,u_st]
end
noncomputable def EqF (m:Nat) (f g:NF):Prop:=∀ N∈nsts m,f N=g N
noncomputable def LetN (m:Nat) (l:Int):Prop:=1≤l.natAbs∧l.natAbs < m
section
variable {m:Nat} (hm:Cm m)
include hm
theorem EqF.u {f g:NF} (h:EqF m f g) {i:Nat} (a:1≤i) (b:i < m):EqF m (uF i f) (uF i g):=fun N hN=>by
 unfold uF
 by_cases c:mlN N i=true
 ·rw[if_pos c,if_pos c,h N hN]
 ·rw[if_neg c,if_neg c]
  exact h _ ((a7q hm hN).2.2 i a b (by simpa using c)).2
theorem EqF.t {f g:NF} (h:EqF m f g) {l:Int} (hl:LetN m l):EqF m (tF l f) (tF l g):=fun N hN=>by
 unfold tF
 rw[h N hN,EqF.u hm h hl.1 hl.2 N hN]
theorem EqF.phi:∀ {w:List Int} {f g:NF},(∀ l∈w,LetN m l)→EqF m f g→EqF m (phi w f) (phi w g)
 | [],f,g,_,h=>h
 | l :: w,f,g,hw,h=>EqF.t hm (EqF.phi (fun x hx=>hw x (.tail _ hx)) h) (hw l (.head _))
theorem c1u {l:Int} (hl:LetN m l) (f:NF):EqF m (tF l (tF (-l) f)) f:=fun N hN=>by
 have es:sgI (-l)=-(sgI l):=by obtain⟨a,_⟩:=hl;unfold sgI;split<;>split<;>lia
 have e:tF (-l) f=fun N=>xL (-(sgI l))*f N+xL (sgI l)*uF l.natAbs f N:=by
  unfold tF
  rw[es,Int.neg_neg,Int.natAbs_neg]
 rw[e]
 unfold tF
 rw[b2u]
 dsimp only
 rw[u_u hm hN hl.1 hl.2]
 have h1:=b9l l
 have h2:=b7n l
 generalize xL (sgI l)=a at *
 generalize xL (-(sgI l))=b at *
 generalize uF l.natAbs f N=u at *
 generalize f N=v at *
 rw[h2]
 clear hl es e hN hm
 grind
theorem c1x {p q:Int} (hp:LetN m p) (hq:LetN m q) (h:p.natAbs+1 < q.natAbs∨q.natAbs+1 < p.natAbs) (f:NF):EqF m (tF p (tF q f)) (tF q (tF p f)):=fun N hN=>by
 have e:=c1t hm hN hp.1 hp.2 hq.1 hq.2 h f
 unfold tF
 rw[b2u,b2u]
 dsimp only
 rw[e]
 clear hm hN e hp hq h
 grind
theorem b7C {p q:Int} (hp:LetN m p) (hq:LetN m q) (hs:p*q > 0) (h:(p - q).natAbs=1) (f:NF):EqF m (tF p (tF q (tF p f))) (tF q (tF p (tF q f))):=fun N hN=>by
 have hpq:sgI p=sgI q:=by
  unfold sgI
  rcases Int.lt_trichotomy p 0 with c | c | c
  ·have:q < 0:=by
    by_cases z:q < 0
    ·exact z
    ·have y:p*q≤0:=Int.mul_nonpos_of_nonpos_of_nonneg (by lia) (by lia)
     lia
   rw[if_pos c,if_pos this]
  ·rw[c] at hs;lia
  ·have:0 < q:=by
    by_cases z:0 < q
    ·exact z
    ·have y:p*q≤0:=Int.mul_nonpos_of_nonneg_of_nonpos (by lia) (by lia)
     lia
   rw[if_neg (by lia),if_neg (by lia)]
 have hn:p.natAbs+1=q.natAbs∨q.natAbs+1=p.natAbs:=by
  unfold sgI at hpq
  split at hpq<;>split at hpq<;>lia
 have e1:=b6K hm hN hp.1 hp.2 hq.1 hq.2 hn f
 have e2:=b6K hm hN hq.1 hq.2 hp.1 hp.2 hn.symm f
 have e3:=u_u hm hN hp.1 hp.2 f
 have e4:=u_u hm hN hq.1 hq.2 f
 unfold tF
 rw[hpq]
 simp only[b2u]
 rw[e1,e2,e3,e4]
 have h1:=b9l q
 have h2:=b7n q
 generalize xL (sgI q)=a at *
 generalize xL (-(sgI q))=b at *
 generalize uF p.natAbs f N=u at *
 generalize uF q.natAbs f N=v at *
 generalize uF p.natAbs (uF q.natAbs f) N=y at *
 generalize uF q.natAbs (uF p.natAbs f) N=z at *
 generalize f N=x at *
 rw[h2]
 clear e1 e2 e3 e4 h2 hn hpq hs h hp hq hN hm
 grind
theorem b8m {n:Int} (hn:n=m) {w v:List Int} (h:RelW n w v):∀ f,EqF m (phi w f) (phi v f):=by
 subst hn
 have lt:∀ {l:Int},LetOK m l→LetN m l:=fun {l} h=>by unfold LetOK at h;unfold LetN;lia
 induction h with
 | refl w=>intro f N _;rfl
 | symm _ ih=>intro f N hN;exact (ih f N hN).symm
 | trans _ _ i1 i2=>intro f N hN;exact (i1 f N hN).trans (i2 f N hN)
 | ctx a b ha hb _ ih=>intro f;rw[a1J,a1J,a1J,a1J];exact EqF.phi hm (fun l hl=>lt (ha l hl)) (ih _)
 | far a b h=>exact fun f=>c1x hm (lt a) (lt b) h f
 | three a b c d=>exact fun f=>b7C hm (lt a) (lt b) c d f
 | out a=>exact fun f=>c1u hm (lt a) f
end
noncomputable def ckI (m:Nat):Bool:=(nsts m).all fun N=>(List.range (2*m)).all fun p=>decide (gN N p < 2*m) && (gN N (gN N p) == p) && (gN N p != p)
theorem b9c:ckI 1 && ckI 2 && ckI 3 && ckI 4 && ckI 5 && ckI 6=true:=by decide +kernel
theorem b4u {m:Nat} (hm:Cm m) {N:Nst} (hN:N∈nsts m) {p:Nat} (hp:p < 2*m):gN N p < 2*m∧gN N (gN N p)=p∧gN N p≠p:=by
 have h:=List.all_eq_true.mp (List.all_eq_true.mp (show (nsts m).all _=true from hm.all b9c) N hN) p (List.mem_range.mpr hp)
 simp only[Bool.and_eq_true,beq_iff_eq,decide_eq_true_eq,bne_iff_ne] at h
 exact⟨h.1.1,h.1.2,h.2⟩
noncomputable def EvB (b:Nat) (p:Po):Prop:=∀ x∈p,x.1.natAbs≤b∧(x.1 - b) % 2=0
noncomputable def GdE (b:Nat) (p:Po):Prop:=CanP p∧EvB b p
noncomputable def stpE (b:Nat):List Int:=(List.range (b+1)).map fun (i:Nat)=>2*(i:Int) - b
theorem a8b (b:Nat):(stpE b).length=b+1:=by unfold stpE;rw[List.length_map,List.length_range]
theorem a6v {b:Nat} {x:Int} (h:x.natAbs≤b∧(x - b) % 2=0):x∈stpE b:=List.mem_map.mpr ⟨((x+b) / 2).toNat,List.mem_range.mpr (by lia),by show 2*((((x+b) / 2).toNat:Nat):Int) - b=x;lia⟩
theorem EvB.norm {b:Nat} {p:Po} (h:EvB b p):EvB b (norm p):=fun x hx=>by
 obtain⟨y,hy,e⟩:=b1O x hx
 rw[← e];exact h y hy
theorem EvB.add {b:Nat} {p q:Po} (hp:EvB b p) (hq:EvB b q):EvB b (addP p q):=EvB.norm fun x hx=>(List.mem_append.mp hx).elim (hp x) (hq x)
theorem EvB.sum {a b:Nat} {p q:Po} (hp:EvB a p) (hq:EvB b q) {x y:Int × Int} (hx:x∈p) (hy:y∈q):(x.1+y.1).natAbs≤a+b∧(x.1+y.1 - ((a+b:Nat):Int)) % 2=0:=by
 obtain⟨h1,h2⟩:=hp x hx
 obtain⟨g1,g2⟩:=hq y hy
 exact⟨by lia,by lia⟩
theorem EvB.mul {a b:Nat} {p q:Po} (hp:EvB a p) (hq:EvB b q):EvB (a+b) (a1E p q):=EvB.norm fun x hx=>by
 unfold rawM at hx
 obtain⟨y,hy,hx⟩:=List.mem_flatMap.mp hx
 obtain⟨z,hz,rfl⟩:=List.mem_map.mp hx
 exact hp.sum hq hy hz
theorem GdE.add {b:Nat} {p q:Po} (hp:GdE b p) (hq:GdE b q):GdE b (addP p q):=⟨a1y _,hp.2.add hq.2⟩
theorem GdE.mul {a b:Nat} {p q:Po} (hp:GdE a p) (hq:GdE b q):GdE (a+b) (a1E p q):=⟨a1y _,hp.2.mul hq.2⟩
theorem GdE.up {b:Nat} {p:Po} (h:GdE b p) (k:Nat) {c:Nat} (e:c=b+2*k):GdE c p:=⟨h.1,fun x hx=>by obtain⟨h1,h2⟩:=h.2 x hx;subst e;exact⟨by lia,by lia⟩⟩
theorem GdE.nil (b:Nat):GdE b []:=⟨⟨.nil,fun _ z=>absurd z List.not_mem_nil⟩,fun _ z=>absurd z List.not_mem_nil⟩
theorem GdE.one:GdE 0 [(0,1)]:=⟨⟨by decide,by decide⟩,by unfold EvB;decide⟩
theorem GdE.mono1 {s:Int} (h:s=1∨s=-1):GdE 1 [(s,1)]:=by
 rcases h with rfl | rfl
 ·exact⟨⟨by decide,by decide⟩,by unfold EvB;decide⟩
 ·exact⟨⟨by decide,by decide⟩,by unfold EvB;decide⟩
theorem GdE.len {b:Nat} {p:Po} (h:GdE b p):p.length≤b+1:=by
 have hn:(p.map Prod.fst).Nodup:=List.pairwise_map.mpr (h.1.1.imp fun h z=>Int.ne_of_lt h z)
 have:=List.Nodup.length_le_of_subset hn (l₂:=stpE b) fun k hk=>by
  obtain⟨x,hx,rfl⟩:=List.mem_map.mp hk
  exact a6v (h.2 x hx)
 rwa [List.length_map,a8b] at this
noncomputable def lpP:Po:=[(-2,-1),(2,-1)]
theorem GdE.lp:GdE 2 lpP:=⟨⟨by decide,by decide⟩,by unfold EvB;decide⟩
theorem Sml.lp:Sml lpP:=by unfold Sml;decide
theorem Sml.one1 (s:Int):Sml [(s,1)]:=fun x hx=>by rw[List.mem_singleton.mp hx];show (1:Int).natAbs < 2 ^ 64;decide
noncomputable def dP:Nat→Po
 | 0=>[(0,1)]
 | i+1=>a1E (dP i) lpP
theorem a7a:∀ i,GdE (2*i) (dP i)
 | 0=>GdE.one
 | i+1=>(a7a i).mul GdE.lp
theorem b6M:∀ i,toL (dP i)=powL dlt i
 | 0=>rfl
 | i+1=>by
   show toL (a1E (dP i) lpP)=powL dlt i*dlt
   rw[a3n,b6M i];rfl
theorem c1m:∀ i,N1 (dP i)≤2 ^ i
 | 0=>by decide
 | i+1=>by
   have:=c1m i
   have h2:=b9j (dP i) lpP
   have h3:N1 lpP=2:=rfl
   rw[h3] at h2
   rw[Nat.pow_succ]
   exact Nat.le_trans h2 (Nat.mul_le_mul_right 2 this)
theorem Sml.dP {i:Nat} (h:i≤40):Sml (dP i):=fun x hx=>Nat.lt_of_le_of_lt (Nat.le_trans (c1l hx) (c1m i)) (Nat.pow_lt_pow_right (by decide) (by lia))
noncomputable def lwL (k:Nat):List Po:=[] :: (List.range k).map dP
theorem b1W (k:Nat):lwL (k+1)=lwL k++[dP k]:=by unfold lwL;rw[List.range_succ,List.map_append];rfl
theorem b4A (k:Nat):(lwL k).length=k+1:=by unfold lwL;rw[List.length_cons,List.length_map,List.length_range]
theorem b8D {k i:Nat} (h:i < k):(lwL k)[i+1]?=some (dP i):=by unfold lwL;rw[List.getElem?_cons_succ,List.getElem?_map,List.getElem?_range h];rfl
theorem b3y (x:Lp):toL x.1=x:=Lp.ext2 fun c=>by rw[co_L]
theorem b7A {p:Po} (h:CanP p):(toL p).1=p:=a4M (toL p).2 h fun c=>by rw[co_L]
theorem b8l {p:Po} {x:Lp} (h:CanP p) (e:toL p=x):p=x.1:=by rw[← e,b7A h]
theorem a9I {n:Nat} (hn:Cm n) {N:Nst} (hN:N∈nsts n):0 < lpN N:=by
 have h:=List.all_eq_true.mp (show (nsts n).all _=true from hn.all b5t) N hN
 rw[Bool.and_eq_true,decide_eq_true_eq] at h
 exact h.1
theorem b9k {n:Nat} (hn:Cm n) {s:Nat × Nst} (hN:s.2∈nsts n):FU trF s=powL dlt (s.1+lpN s.2 - 1):=by
 have:=a9I hn hN
 unfold FU trF
 rw[← a5E]
 congr 1
 lia
noncomputable def nI (N:Nst):List Int:=List.map (fun (k:Nat)=>(k:Int)) N
theorem a9G:∀ {a b:Nst},nI a=nI b→a=b
 | [],[],_=>rfl
 | x :: a,y :: b,h=>by
   unfold nI at h
   rw[List.map_cons,List.map_cons] at h
   injection h with h1 h2
   rw[Int.ofNat.inj h1,a9G (a:=a) (b:=b) h2]
 | [],_ :: _,h=>by unfold nI at h;rw[List.map_cons,List.map_nil] at h;cases h
 | _ :: _,[],h=>by unfold nI at h;rw[List.map_cons,List.map_nil] at h;cases h
theorem a8G {a b:List Int} (h:kyI a=kyI b):a=b:=by
 unfold kyI at h
 exact List.map_inj_right (fun x y e=>Sum.inl.inj e) |>.mp h
noncomputable abbrev DN:=List (Nst × Po)
noncomputable def dtN (D:DN):List (List Key × T):=D.map fun d=>(kyI (nI d.1),poT d.2)
theorem b5a (D:DN):dtN D=dtI (D.map fun d=>(nI d.1,poT d.2)):=by unfold dtN dtI;rw[List.map_map];rfl
theorem b8V (D:DN):(dtN D).length=D.length:=List.length_map ..
noncomputable def lkD:DN→Nst→Po
 | [],_=>[]
 | d :: D,N=>if d.1=N then d.2 else lkD D N
noncomputable def setD:DN→Nst→Po→DN
 | [],N,p=>[(N,p)]
 | d :: D,N,p=>if d.1=N then (N,p) :: D else d :: setD D N p
theorem b1u (N:Nst):∀ D:DN,(valT (dtN D) (kyI (nI N))).getD (T.tup [])=poT (lkD D N)
 | []=>rfl
 | d :: D=>by
   have ih:=b1u N D
   show (((((kyI (nI d.1),poT d.2):List Key × T) :: dtN D).find? fun kv=>decide (kv.1=kyI (nI N))).map (·.2)).getD (T.tup [])=poT (if d.1=N then d.2 else lkD D N)
   by_cases e:d.1=N
   ·rw[if_pos e,List.find?_cons,decide_eq_true (show kyI (nI d.1)=kyI (nI N) by rw[e])];rfl
   ·rw[if_neg e,List.find?_cons,decide_eq_false (fun z=>e (a9G (a8G z)))]
    exact ih
theorem a9f (N:Nst) (p:Po):∀ D:DN,(setD D N p).map Prod.fst=if N∈D.map Prod.fst then D.map Prod.fst else D.map Prod.fst++[N]
 | []=>rfl
 | d :: D=>by
   show ((if d.1=N then (N,p) :: D else d :: setD D N p).map Prod.fst)=_
   by_cases h:d.1=N
   ·rw[if_pos h,if_pos (by rw[List.map_cons,h];exact .head _),List.map_cons,List.map_cons,h]
   ·rw[if_neg h,List.map_cons,a9f N p D,List.map_cons]
    by_cases g:N∈D.map Prod.fst
    ·rw[if_pos g,if_pos (.tail _ g)]
    ·rw[if_neg g,if_neg (fun z=>(List.mem_cons.mp z).elim (fun e=>h e.symm) g)];rfl
theorem b1F {N:Nst} {p:Po}:∀ {D:DN},(D.map Prod.fst).Nodup→putT (dtN D) (kyI (nI N)) (poT p)=dtN (setD D N p)
 | [],_=>rfl
 | d :: D,h=>by
   rw[List.map_cons,List.nodup_cons] at h
   have ih:=b1F (N:=N) (p:=p) h.2
   show putT (((kyI (nI d.1),poT d.2):List Key × T) :: dtN D) (kyI (nI N)) (poT p)=dtN (if d.1=N then (N,p) :: D else d :: setD D N p)
   by_cases e:d.1=N
   ·rw[if_pos e]
    unfold putT
    rw[if_pos (by rw[List.any_cons,decide_eq_true (show kyI (nI d.1)=kyI (nI N) by rw[e])];rfl)]
    rw[List.map_cons,if_pos (show kyI (nI d.1)=kyI (nI N) by rw[e])]
    show _=((kyI (nI N),poT p):List Key × T) :: dtN D
    rw[e]
    congr 1
    unfold dtN
    rw[List.map_map]
    refine List.map_congr_left fun y hy=>?_
    show (if kyI (nI y.1)=kyI (nI N) then (kyI (nI y.1),poT p) else (kyI (nI y.1),poT y.2))=_
    rw[if_neg (fun z=>h.1 (by rw[e,← a9G (a8G z)];exact List.mem_map.mpr ⟨y,hy,rfl⟩))]
   ·rw[if_neg e]
    show _=((kyI (nI d.1),poT d.2):List Key × T) :: dtN (setD D N p)
    rw[← ih]
    unfold putT
    have e1:decide (kyI (nI d.1)=kyI (nI N))=false:=decide_eq_false fun z=>e (a9G (a8G z))
    rw[List.any_cons,e1,Bool.false_or]
    split
    ·rw[List.map_cons,if_neg (fun z=>e (a9G (a8G z)))]
    ·rfl
noncomputable def DOK (m b:Nat) (D:DN):Prop:=(D.map Prod.fst).Nodup∧∀ d∈D,d.1∈nsts m∧GdE b d.2
theorem c0B (m:Nat):(nsts m).length≤132:=by
 unfold nsts
 rw[List.length_map]
 unfold codN
 split<;>decide
theorem DOK.len {m b:Nat} {D:DN} (h:DOK m b D):D.length≤132:=by
 have:=List.Nodup.length_le_of_subset h.1 (l₂:=nsts m) fun N hN=>by
  obtain⟨d,hd,rfl⟩:=List.mem_map.mp hN
  exact (h.2 d hd).1
 rw[List.length_map] at this
 exact Nat.le_trans this (c0B m)
theorem b1X {m b:Nat} {D:DN} (h:∀ d∈D,d.1∈nsts m∧GdE b d.2) (N:Nst):GdE b (lkD D N):=by
 induction D with
 | nil=>exact GdE.nil b
 | cons d D ih =>
   show GdE b (if d.1=N then d.2 else lkD D N)
   split
   ·exact (h d (.head _)).2
   ·exact ih fun x hx=>h x (.tail _ hx)
theorem b1C {N:Nst} {p:Po}:∀ {D:DN} {d:Nst × Po},d∈setD D N p→d=(N,p)∨d∈D
 | [],d,h=>.inl (List.mem_singleton.mp h)
 | e :: D,d,h=>by
   have h:d∈(if e.1=N then (N,p) :: D else e :: setD D N p):=h
   split at h
   ·rcases List.mem_cons.mp h with z | z
    ·exact .inl z
    ·exact .inr (.tail _ z)
   ·rcases List.mem_cons.mp h with z | z
    ·exact .inr (by rw[z];exact .head _)
    ·rcases b1C z with y | y
     ·exact .inl y
     ·exact .inr (.tail _ y)
noncomputable def addD (D:DN) (N:Nst) (p:Po):DN:=setD D N (addP (lkD D N) p)
theorem DOK.add {m b:Nat} {D:DN} {N:Nst} {p:Po} (h:DOK m b D) (hN:N∈nsts m) (hp:GdE b p):DOK m b (addD D N p):=by
 refine⟨?_,fun d hd=>?_⟩
 ·unfold addD
  rw[a9f]
  split
  ·exact h.1
  ·rename_i g
   rw[List.nodup_append]
   exact⟨h.1,List.pairwise_singleton _ _,fun a ha b hb=>by rw[List.mem_singleton.mp hb];exact fun z=>g (z▸ha)⟩
 ·rcases b1C hd with z | z
  ·rw[z];exact⟨hN,(b1X h.2 N).add hp⟩
  ·exact h.2 d z
noncomputable def VD (f:NF):DN→Lp
 | []=>0
 | d :: D=>toL d.2*f d.1+VD f D
theorem b0A (f:NF) (N:Nst) (p:Po):∀ D:DN,VD f (addD D N p)=VD f D+toL p*f N
 | []=>by
   show toL (addP [] p)*f N+0=0+toL p*f N
   rw[a7Z]
   have:toL []=0:=b7y
   rw[this];grind
 | d :: D=>by
   have ih:=b0A f N p D
   unfold addD at ih⊢
   show VD f (if d.1=N then (N,addP (if d.1=N then d.2 else lkD D N) p) :: D else d :: setD D N (addP (if d.1=N then d.2 else lkD D N) p))=toL d.2*f d.1+VD f D+toL p*f N
   by_cases e:d.1=N
   ·rw[if_pos e,if_pos e]
    show toL (addP d.2 p)*f N+VD f D=_
    rw[a7Z,e];grind
   ·rw[if_neg e,if_neg e]
    show toL d.2*f d.1+VD f (setD D N (addP (lkD D N) p))=_
    rw[ih];grind
noncomputable def wl1N (l:Int) (E:DN) (d:Nst × Po):DN :=
 let E1:=addD E d.1 (a1E d.2 [(sgI l,1)])
 let q:=a1E d.2 [(-sgI l,1)]
 if mlN d.1 l.natAbs then addD E1 d.1 (a1E q lpP) else addD E1 (hkN d.1 l.natAbs) q
noncomputable def wlN (l:Int) (D:DN):DN:=D.foldl (wl1N l) []
theorem a5n (k:Int):toL [(k,1)]=xL k:=rfl
theorem c1j (f:NF) (l:Int) (E:DN) (d:Nst × Po):VD f (wl1N l E d)=VD f E+toL d.2*tF l f d.1:=by
 unfold wl1N tF uF
 dsimp only
 by_cases h:mlN d.1 l.natAbs=true
 ·rw[if_pos h,if_pos h,b0A,b0A,a3n,a3n,a3n,a5n,a5n,show toL lpP=dlt from rfl];grind
 ·rw[if_neg h,if_neg h,b0A,b0A,a3n,a3n,a5n,a5n];grind
theorem b2t (f:NF) (l:Int):∀ (D E:DN),VD f (D.foldl (wl1N l) E)=VD f E+VD (tF l f) D
 | [],E=>by show VD f E=VD f E+0;grind
 | d :: D,E=>by
   rw[List.foldl_cons,b2t f l D,c1j]
   show _=VD f E+(toL d.2*tF l f d.1+VD (tF l f) D)
   grind
theorem c2p (f:NF) (l:Int) (D:DN):VD f (wlN l D)=VD (tF l f) D:=by
 unfold wlN
 rw[b2t]
 show (0:Lp)+_=_
 grind
theorem DOK.wl1 {m b:Nat} (hm:Cm m) {l:Int} (hl:LetN m l) {E:DN} {d:Nst × Po} (h:DOK m (b+3) E) (hd:d.1∈nsts m∧GdE b d.2):DOK m (b+3) (wl1N l E d):=by
 have hsg:sgI l=1∨sgI l=-1:=by unfold sgI;split<;>simp
 have g1:=(hd.2.mul (GdE.mono1 hsg)).up 1 (c:=b+3) (by lia)
 have g2:=hd.2.mul (GdE.mono1 (s:=-sgI l) (by lia))
 unfold wl1N
 dsimp only
 by_cases c:mlN d.1 l.natAbs=true
 ·rw[if_pos c]
  exact (h.add hd.1 g1).add hd.1 (g2.mul GdE.lp)
 ·rw[if_neg c]
  exact (h.add hd.1 g1).add ((a7q hm hd.1).2.2 _ hl.1 hl.2 (by simpa using c)).2 (g2.up 1 (by lia))
theorem DOK.foldl {m b:Nat} (hm:Cm m) {l:Int} (hl:LetN m l):∀ (D E:DN),DOK m (b+3) E→(∀ d∈D,d.1∈nsts m∧GdE b d.2)→DOK m (b+3) (D.foldl (wl1N l) E)
 | [],E,h,_=>h
 | d :: D,E,h,hD=>DOK.foldl hm hl D _ (h.wl1 hm hl (hD d (.head _))) fun x hx=>hD x (.tail _ hx)
theorem DOK.nil (m b:Nat):DOK m b []:=⟨.nil,fun _ z=>absurd z List.not_mem_nil⟩
theorem DOK.wl {m b:Nat} (hm:Cm m) {l:Int} (hl:LetN m l) {D:DN} (h:DOK m b D):DOK m (b+3) (wlN l D):=DOK.foldl hm hl D [] (DOK.nil m _) h.2
noncomputable def dcW (m:Nat) (w:List Int):DN:=w.foldl (fun D l=>wlN l D) [(plN m,[(0,1)])]
theorem b2i {m:Nat} (hm:Cm m) {w:List Int} (hw:∀ l∈w,LetN m l):DOK m (3*w.length) (dcW m w):=by
 have key:∀ (w:List Int) (b:Nat) (D:DN),(∀ l∈w,LetN m l)→DOK m b D→DOK m (b+3*w.length) (w.foldl (fun D l=>wlN l D) D):=by
  intro w
  induction w with
  | nil=>intro b D _ h;exact h
  | cons l w ih =>
    intro b D hw h
    have:=ih (b+3) (wlN l D) (fun x hx=>hw x (.tail _ hx)) (h.wl hm (hw l (.head _)))
    rw[List.length_cons,show b+3*(w.length+1)=b+3+3*w.length by lia]
    exact this
 have:=key w 0 [(plN m,[(0,1)])] hw ⟨List.pairwise_singleton _ _,fun d hd=>by rw[List.mem_singleton.mp hd];exact⟨a5F hm,GdE.one⟩⟩
 rw[Nat.zero_add] at this
 exact this
theorem c1k (f:NF) (m:Nat) (w:List Int):VD f (dcW m w)=phi w f (plN m):=by
 have key:∀ (w:List Int) (f:NF) (D:DN),VD f (w.foldl (fun D l=>wlN l D) D)=VD (phi w f) D:=by
  intro w
  induction w with
  | nil=>intro f D;rfl
  | cons l w ih=>intro f D;rw[List.foldl_cons,ih,c2p];rfl
 unfold dcW
 rw[key]
 show toL [(0,1)]*_+0=_
 rw[a5n,xL_0];grind
noncomputable def sumD:DN→Po→Po
 | [],a=>a
 | d :: D,a=>sumD D (addP a (a1E d.2 (dP (lpN d.1 - 1))))
theorem b3F:∀ (D:DN) (a:Po),toL (sumD D a)=toL a+VD trF D
 | [],a=>by show toL a=toL a+0;grind
 | d :: D,a=>by
   show toL (sumD D _)=toL a+(toL d.2*trF d.1+VD trF D)
   rw[b3F D,a7Z,a3n,b6M]
   unfold trF
   grind
theorem b7e (N:Nst):∀ (j b:Nat) (s:List Nat),lpS N j b s≤j
 | 0,_,_=>Nat.le_refl _
 | j+1,b,s=>by
   have:=b7e N j (b+1) (wkN N (N.length+1) s b)
   unfold lpS
   split<;>lia
theorem b7f {m:Nat} (hm:Cm m) {N:Nst} (hN:N∈nsts m):lpN N≤m:=by
 have h:=b7e N (N.length / 2) 0 []
 have hl:=(a7q hm hN).1
 unfold lpN
 lia
theorem b3a {n:Int} {ws:List Int} (h:WordOK n ws):∀ l∈ws,LetN n.toNat l:=fun l hl=>by
 obtain⟨a,b⟩:=h l hl
 exact⟨by lia,by lia⟩
section
variable {m:Nat} (hm:Cm m)
include hm
theorem c1r {N:Nst} (hN:N∈nsts m) {i j:Nat} (a:1≤i) (b:i < m) (c:1≤j) (d:j < m):upN i (stN j (0,N))=stN j (upN i (0,N)):=by
 have h:=List.all_eq_true.mp (List.all_eq_true.mp (List.all_eq_true.mp (show (nsts m).all _=true from hm.all b9i) N hN) i (a3p.mpr ⟨a,b⟩)) j (a3p.mpr ⟨c,d⟩)
 unfold ckC at h
 have h2:=b0a (k:=fun B=>upN i ((stN j (0,N)).1,(stN j (0,N)).2) == stN j ((upN i (0,N)).1,B)) (b0a (k:=fun A=>fcN (2*m) (upN i (0,N)).2 fun B=>upN i ((stN j (0,N)).1,A) == stN j ((upN i (0,N)).1,B)) h)
 exact beq_iff_eq.mp h2
theorem b9m {N:Nst} (hN:N∈nsts m) {i:Nat} (a:1≤i) (b:i < m):(upN i (0,N)).2∈nsts m:=by
 have h:=List.all_eq_true.mp (List.all_eq_true.mp (show (nsts m).all _=true from hm.all b9h) N hN) i (a3p.mpr ⟨a,b⟩)
 exact List.contains_iff_mem.mp (b0a (k:=fun B=>(nsts m).contains B) h)
theorem c1q {N:Nst} (hN:N∈nsts m) {i:Nat} (a:1≤i) (b:i < m):(upN i (0,N)).1+lpN (upN i (0,N)).2=(stN i (0,N)).1+lpN (stN i (0,N)).2:=by
 have h:=List.all_eq_true.mp (show (nsts m).all _=true from hm.all b5t) N hN
 rw[Bool.and_eq_true] at h
 have h2:=List.all_eq_true.mp h.2 i (a3p.mpr ⟨a,b⟩)
 unfold ckT at h2
 have h3:=b0a (k:=fun B=>(upN i (0,N)).1+lpN B == (stN i (0,N)).1+lpN (stN i (0,N)).2) (b0a (k:=fun A=>fcN (2*m) (upN i (0,N)).2 fun B=>(upN i (0,N)).1+lpN B == (stN i (0,N)).1+lpN A) h2)
 exact beq_iff_eq.mp h3
theorem c1s {i:Nat} (a:1≤i) (b:i < m):upN i (0,plN m)=stN i (0,plN m) :=
 beq_iff_eq.mp (List.all_eq_true.mp (show (hks m).all _=true from hm.all b6D) i (a3p.mpr ⟨a,b⟩))
theorem v_u {N:Nst} (hN:N∈nsts m) {i j:Nat} (a:1≤i) (b:i < m) (c:1≤j) (d:j < m) (f:NF):vF i (uF j f) N=uF j (vF i f) N:=by
 rw[v_up,FU_u,u_st,FU_v,c1r hm hN a b c d]
theorem s_t {l k:Int} (hl:LetN m l) (hk:LetN m k) (f:NF):EqF m (sF l (tF k f)) (tF k (sF l f)):=fun N hN=>by
 have e:=v_u hm hN hl.1 hl.2 hk.1 hk.2 f
 unfold sF tF
 rw[c1p,b2u]
 dsimp only
 rw[e]
 clear hm hN e hl hk
 grind
theorem b9Q {l:Int} (hl:LetN m l):∀ {w:List Int} (f:NF),(∀ k∈w,LetN m k)→EqF m (sF l (phi w f)) (phi w (sF l f))
 | [],f,_=>fun N _=>rfl
 | k :: w,f,hw=>fun N hN=>(s_t hm hl (hw k (.head _)) (phi w f) N hN).trans (EqF.t hm (b9Q hl f fun x hx=>hw x (.tail _ hx)) (hw k (.head _)) N hN)
theorem s_tr {l:Int} (hl:LetN m l):EqF m (sF l trF) (tF l trF):=fun N hN=>by
 have e:vF l.natAbs trF N=uF l.natAbs trF N:=by
  rw[v_up,u_st,b9k hm (b9m hm hN hl.1 hl.2),b9k hm (b1z hm hN hl.1 hl.2),c1q hm hN hl.1 hl.2]
 unfold sF tF
 rw[e]
theorem rot1 {l:Int} (hl:LetN m l) {w:List Int} (hw:∀ k∈w,LetN m k):stS m (l :: w)=stS m (w++[l]):=by
 have h1:tF l (phi w trF) (plN m)=sF l (phi w trF) (plN m):=by
  unfold tF sF
  rw[u_st,v_up,c1s hm hl.1 hl.2]
 unfold stS
 rw[a1J]
 exact h1.trans ((b9Q hm hl trF hw _ (a5F hm)).trans (EqF.phi hm hw (s_tr hm hl) _ (a5F hm)))
theorem rotW:∀ {u v:List Int},(∀ k∈u,LetN m k)→(∀ k∈v,LetN m k)→stS m (u++v)=stS m (v++u)
 | [],v,_,_=>by rw[List.append_nil];rfl
 | l :: u,v,hu,hv=>by
   have h1:=hu l (.head _)
   have h2:∀ k∈u,LetN m k:=fun k hk=>hu k (.tail _ hk)
   rw[List.cons_append,rot1 hm h1 (fun k hk=>(List.mem_append.mp hk).elim (h2 k) (hv k)),List.append_assoc,rotW h2 (fun k hk=>(List.mem_append.mp hk).elim (hv k) fun z=>by rw[List.mem_singleton.mp z];exact h1),List.append_assoc];rfl
end
noncomputable def Sd (a b:Nat):Prop:=1≤a∧a≤3∧1≤b∧b≤3
theorem Sd.ck {a b:Nat} (h:Sd a b):ckS a b=true:=by
 have h0:=b9a
 simp only[Bool.and_eq_true] at h0
 obtain⟨a1,a2,b1,b2⟩:=h
 have ha:a=1∨a=2∨a=3:=by lia
 have hb:b=1∨b=2∨b=3:=by lia
 rcases ha with rfl | rfl | rfl<;>rcases hb with rfl | rfl | rfl
 ·exact h0.1.1.1.1.1.1.1.1
 ·exact h0.1.1.1.1.1.1.1.2
 ·exact h0.1.1.1.1.1.1.2
 ·exact h0.1.1.1.1.1.2
 ·exact h0.1.1.1.1.2
 ·exact h0.1.1.1.2
 ·exact h0.1.1.2
 ·exact h0.1.2
 ·exact h0.2
section
variable {a b:Nat} (h:Sd a b)
include h
theorem c1H:sdN (plN a) (plN b)=plN (a+b):=by
 have:=h.ck
 unfold ckS at this
 rw[Bool.and_eq_true] at this
 exact beq_iff_eq.mp this.1
theorem b3R {A B:Nst} (hA:A∈nsts a) (hB:B∈nsts b):sdN A B∈nsts (a+b)∧lpN (sdN A B)=lpN A+lpN B∧(stN a (0,sdN A B)).1=0∧lpN (stN a (0,sdN A B)).2+1=lpN A+lpN B ∧
  (∀ i,1≤i→i < a→stN i (0,sdN A B)=((stN i (0,A)).1,sdN (stN i (0,A)).2 B))∧∀ i,1≤i→i < b→stN (a+i) (0,sdN A B)=((stN i (0,B)).1,sdN A (stN i (0,B)).2):=by
 have h0:=h.ck
 unfold ckS at h0
 rw[Bool.and_eq_true] at h0
 have h1:=List.all_eq_true.mp (List.all_eq_true.mp h0.2 A hA) B hB
 simp only[Bool.and_eq_true,beq_iff_eq] at h1
 obtain⟨⟨⟨⟨⟨h1,h2⟩,h3⟩,h4⟩,h5⟩,h6⟩:=h1
 exact⟨List.contains_iff_mem.mp h1,h2,h3,h4,fun i x y=>beq_iff_eq.mp (List.all_eq_true.mp h5 i (a3p.mpr ⟨x,y⟩)),fun i x y=>beq_iff_eq.mp (List.all_eq_true.mp h6 i (a3p.mpr ⟨x,y⟩))⟩
theorem sd_L:∀ (w:List Int) (f:NF),(∀ l∈w,LetN a l)→∀ A∈nsts a,∀ B∈nsts b,phi w f (sdN A B)=phi w (fun A=>f (sdN A B)) A
 | [],f,_,A,_,B,_=>rfl
 | l :: w,f,hw,A,hA,B,hB=>by
   have hl:=hw l (.head _)
   have ih:=sd_L w f fun x hx=>hw x (.tail _ hx)
   obtain⟨_,_,_,_,e,_⟩:=b3R h hA hB
   have hA2:=b1z (m:=a) ⟨h.1,by have:=h.2.1;lia⟩ hA (k:=0) hl.1 hl.2
   show tF l (phi w f) (sdN A B)=tF l (phi w fun A=>f (sdN A B)) A
   unfold tF
   rw[u_st,u_st,e _ hl.1 hl.2,ih A hA B hB]
   unfold FU
   rw[ih _ hA2 B hB]
noncomputable def shI (a:Nat) (l:Int):Int:=l+sgI l*a
theorem sd_R:∀ (w:List Int) (f:NF),(∀ l∈w,LetN b l)→∀ A∈nsts a,∀ B∈nsts b,phi (w.map (shI a)) f (sdN A B)=phi w (fun B=>f (sdN A B)) B
 | [],f,_,A,_,B,_=>rfl
 | l :: w,f,hw,A,hA,B,hB=>by
   have hl:=hw l (.head _)
   have ih:=sd_R w f fun x hx=>hw x (.tail _ hx)
   obtain⟨_,_,_,_,_,e⟩:=b3R h hA hB
   have hB2:=b1z (m:=b) ⟨h.2.2.1,by have:=h.2.2.2;lia⟩ hB (k:=0) hl.1 hl.2
   have es:sgI (shI a l)=sgI l∧(shI a l).natAbs=a+l.natAbs:=by
    obtain⟨x,_⟩:=hl
    unfold shI sgI
    split<;>split<;>lia
   show tF (shI a l) (phi (w.map (shI a)) f) (sdN A B)=tF l (phi w fun B=>f (sdN A B)) B
   unfold tF
   rw[u_st,u_st,es.1,es.2,e _ hl.1 hl.2,ih A hA B hB]
   unfold FU
   rw[ih A hA _ hB2]
theorem c1I:Cm a∧Cm b∧Cm (a+b):=by
 obtain⟨x,y,z,u⟩:=h
 exact⟨⟨x,by lia⟩,⟨z,by lia⟩,⟨by lia,by lia⟩⟩
theorem b9N {v w:List Int} {s:Int} (hs:s=1∨s=-1) (hv:∀ l∈v,LetN a l) (hw:∀ l∈w,LetN b l):stS (a+b) (v++[s*a]++w.map (shI a))=-(xL (3*s))*(stS a v*stS b w):=by
 obtain⟨ca,cb,cc⟩:=c1I h
 have ha:=h.1
 have hb:=h.2.2.1
 have lv:∀ l∈v,LetN (a+b) l:=fun l hl=>by obtain⟨x,y⟩:=hv l hl;exact⟨x,by lia⟩
 have lw:∀ l∈w.map (shI a),LetN (a+b) l:=fun l hl=>by
  obtain⟨k,hk,rfl⟩:=List.mem_map.mp hl
  obtain⟨x,y⟩:=hw k hk
  unfold LetN shI sgI
  split<;>lia
 have ls:∀ l∈[s*(a:Int)],LetN (a+b) l:=fun l hl=>by
  rw[List.mem_singleton.mp hl]
  unfold LetN
  rcases hs with rfl | rfl<;>lia
 have hsg:sgI (s*a)=s∧(s*(a:Int)).natAbs=a:=by
  unfold sgI
  rcases hs with rfl | rfl<;>split<;>lia
 rw[rotW cc (fun l hl=>(List.mem_append.mp hl).elim (lv l) (ls l)) lw]
 unfold stS
 rw[a1J,a1J]
 show phi (w.map (shI a)) (phi v (tF (s*a) trF)) (plN (a+b))=_
 rw[← c1H h,sd_R h w _ hw _ (a5F ca) _ (a5F cb)]
 have e:EqF b (fun B=>phi v (tF (s*a) trF) (sdN (plN a) B)) (fun B=>(-(xL (3*s))*phi v trF (plN a))*trF B):=fun B hB=>by
  dsimp only
  rw[sd_L h v _ hv _ (a5F ca) B hB]
  have e2:EqF a (fun A=>tF (s*a) trF (sdN A B)) (fun A=>(-(xL (3*s))*trF B)*trF A):=fun A hA=>by
   obtain⟨hsd,e,e3,e4,_⟩:=b3R h hA hB
   have p1:=a9I ca hA
   have p2:=a9I cb hB
   dsimp only
   have hst:=b1z cc hsd (k:=0) (i:=a) ha (by lia)
   have eu:uF a trF (sdN A B)=powL dlt (lpN A - 1)*powL dlt (lpN B - 1):=by
    rw[u_st,b9k cc hst,e3,← a5E]
    congr 1
    lia
   unfold tF
   rw[hsg.1,hsg.2,eu]
   unfold trF
   rw[e,show lpN A+lpN B - 1=1+(lpN A - 1)+(lpN B - 1) by lia,a5E,a5E,b5V]
   have h1:xL s*xL (-s)=1:=by rw[← a5l,show s+-s=0 by lia,xL_0]
   have h2:dlt=-(xL s*xL s) - xL (-s)*xL (-s):=by
    rw[b7o,← a5l,← a5l]
    rcases hs with rfl | rfl
    ·rfl
    ·show -(xL 2) - xL (-2)=-(xL (-2)) - xL 2;grind
   have h3:xL (3*s)=xL s*xL s*xL s:=by rw[← a5l,← a5l];congr 1;lia
   rw[h3,h2]
   generalize xL s=x at *
   generalize xL (-s)=y at *
   generalize powL _ (lpN A - 1)=p
   generalize powL _ (lpN B - 1)=q
   clear h2 h3 eu e e3 e4 hst hsd
   grind
  rw[EqF.phi ca hv e2 _ (a5F ca),b0S]
  grind
 rw[EqF.phi cb hw e _ (a5F cb),b0S]
 grind
end
noncomputable def natT (l:List Nat):List T:=(nI l).map .int
theorem b6m (l:List Nat):(natT l).length=l.length:=by unfold natT nI;rw[List.length_map,List.length_map]
theorem b6l (l:List Nat) (i x:Nat):(natT l).set i (.int (x:Nat))=natT (l.set i x):=by unfold natT nI;rw[List.map_set,List.map_set]
section
variable {X:Cx}
end
noncomputable def ddN (acc:List Nat) (x:Nat):List Nat:=if acc.contains x then acc else acc++[x]
noncomputable def dd (l:List Nat):Nat:=(l.foldl ddN []).length
section
variable {X:Cx} {Ha:Hp} {o i e:Expr} {es:List Expr} {tc:TE3} {t:TA3} {p2 pos:Pos}
end
theorem b3Z {n:Int} (h1:1≤n) (h6:n≤6) {w v:List Int} (h:RelW n w v):stS n.toNat w=stS n.toNat v :=
 have hm:Cm n.toNat:=⟨by lia,by lia⟩
 b8m hm (by lia) h trF _ (a5F hm)
theorem b3Y {n:Int} (h1:1≤n) (h6:n≤6) {u v:List Int} (hu:WordOK n u) (hv:WordOK n v):stS n.toNat (u++v)=stS n.toNat (v++u):=rotW ⟨by lia,by lia⟩ (b3a hu) (b3a hv)
theorem b7L {n:Int} {w:List Int} (h1:1≤n) (n4:n≤4) (hw:WordOK n w) (hf:WordOK n (w.map (a1V n))):stS n.toNat (w.map (a1V n))=stS n.toNat w:=by
 by_cases c:2≤n
 ·have ht:=b9q c n4
  have r:=b6L c (by lia) ht hw
  have e1:RelW n (twF n++(w++a4e (twF n))) (w.map (a1V n)):=by
   have a:=r.rt ht.contr
   have b:RelW n (w.map (a1V n)++twF n++a4e (twF n)) (w.map (a1V n)):=by
    rw[List.append_assoc]
    have c:=RelW.bk ht.contr
    rw[b0f] at c
    have d:=RelW.lf hf c
    rwa [List.append_nil] at d
   rw[← List.append_assoc]
   exact a.trans b
  have e2:RelW n (w++a4e (twF n)++twF n) w:=by
   rw[List.append_assoc]
   have d:=RelW.lf hw (RelW.bk ht)
   rwa [List.append_nil] at d
  rw[← b3Z h1 (by lia) e1,b3Y h1 (by lia) ht (hw.append ht.contr),b3Z h1 (by lia) e2]
 ·have:w=[]:=by
   cases w with
   | nil=>rfl
   | cons x w=>have:=hw x (.head _);unfold LetOK at this;lia
  rw[this];rfl
theorem c1F:stS 1 []=1:=by
 show powL dlt (lpN (plN 1) - 1)=1
 rw[show lpN (plN 1)=1 by decide +kernel];rfl
theorem b4a {n:Int} {w:List Int} {k:Int} (h1:1≤n) (n3:n≤3) (hw:WordOK n w) (hk:k=1∨k=-1):stS (n+1).toNat (w++[k*n])=-(xL (3*k))*stS n.toNat w:=by
 have e:=b9N (a:=n.toNat) (b:=1) (w:=[]) ⟨by lia,by lia,by decide,by decide⟩ hk (b3a hw) (fun _ z=>absurd z List.not_mem_nil)
 rw[List.map_nil,List.append_nil,show ((n.toNat:Nat):Int)=n by lia,show n.toNat+1=(n+1).toNat by lia] at e
 rw[e,c1F];grind
theorem b9O {n:Int} {w v:List Int} (h:RelW n w v):(w.map sgI).sum=(v.map sgI).sum:=by
 induction h with
 | refl w=>rfl
 | symm _ ih=>exact ih.symm
 | trans _ _ i1 i2=>exact i1.trans i2
 | ctx a b ha hb _ ih=>simp only[List.map_append,List.sum_append,ih]
 | far a b h=>simp only[List.map_cons,List.map_nil,List.sum_cons,List.sum_nil];lia
 | three a b c d =>
   rename_i p q
   have e:sgI p=sgI q:=by
    unfold sgI
    rcases Int.lt_trichotomy p 0 with x | x | x
    ·have:q < 0:=by
      rcases Int.lt_trichotomy q 0 with y | y | y
      ·exact y
      ·subst y;simp at c
      ·have:=Int.mul_neg_of_neg_of_pos x y;lia
     rw[if_pos x,if_pos this]
    ·subst x;simp at c
    ·have:¬q < 0:=fun y=>by have:=Int.mul_neg_of_pos_of_neg x y;lia
     rw[if_neg (by lia),if_neg this]
   simp only[List.map_cons,List.map_nil,List.sum_cons,List.sum_nil,e]
 | out a =>
   rename_i l
   unfold LetOK at a
   have e:sgI l+sgI (-l)=0:=by unfold sgI;split<;>split<;>lia
   simp only[List.map_cons,List.map_nil,List.sum_cons,List.sum_nil];lia
theorem b3L {n:Int}:∀ {w:List Int},WordOK n w→((w.map (a1V n)).map sgI).sum=(w.map sgI).sum
 | [],_=>rfl
 | l :: w,h=>by
   have h1:=h l (.head _)
   have ih:=b3L (w:=w) fun x hx=>h x (.tail _ hx)
   have e:sgI (a1V n l)=sgI l:=by unfold LetOK at h1;unfold sgI a1V;split<;>split<;>lia
   rw[List.map_cons,List.map_cons,List.sum_cons,ih,e,List.map_cons,List.sum_cons]
theorem c0C (a:Int):-(xL a)=toL [(a,-1)]:=by
 show sgU (-1)*xL a=_
 unfold sgU xL
 rw[a4D,Int.zero_add];rfl
noncomputable def mnL (t:Int):Lp:=toL [(-3*t,if t % 2=0 then 1 else -1)]
theorem b8C (t:Int) {k:Int} (hk:k=1∨k=-1):mnL (t+k)=-(xL (-(3*k)))*mnL t:=by
 rw[c0C]
 unfold mnL
 rw[a4D]
 have e:(if (t+k) % 2=0 then (1:Int) else -1)=-1*(if t % 2=0 then 1 else -1):=by split<;>split<;>lia
 rw[e,show -3*(t+k)=-(3*k)+-3*t by lia]
theorem a8Y (x:Int × Int) (q:Po):toL (x :: q)=toL [x]+toL q:=Lp.ext2 fun c=>by
 rw[a2l,co_L,co_L,co_L];exact a1U [x] q c
noncomputable def shP (c:Int) (p:Po):Po:=p.map fun x=>(x.1+c,0 - x.2)
theorem b3z (c:Int):∀ p:Po,toL (shP c p)=-(xL c)*toL p
 | []=>by
   show toL []=-(xL c)*toL []
   rw[show toL []=0 from b7y];grind
 | x :: p=>by
   have e:toL [(x.1+c,0 - x.2)]=-(xL c)*toL [x]:=by
    rw[c0C,a4D,Int.add_comm,Int.neg_one_mul,Int.zero_sub]
   show toL ((x.1+c,0 - x.2) :: shP c p)=_
   rw[a8Y,a8Y x p,b3z c p,e];grind
theorem b7K {c:Int} {p:Po} (h:CanP p):CanP (shP c p):=by
 unfold shP
 refine⟨List.pairwise_map.mpr (h.1.imp fun z=>by dsimp only;lia),fun x hx=>?_⟩
 obtain⟨y,hy,rfl⟩:=List.mem_map.mp hx
 have:=h.2 y hy
 dsimp only;lia
theorem b3J {c:Int} {x y:Lp} (h:y=-(xL c)*x):y.1=shP c x.1:=(b8l (b7K x.2) (by rw[b3z,b3y,h])).symm
noncomputable def seL (n:Int) (w:List Int):Lp:=stS n.toNat w*mnL (w.map sgI).sum
theorem b6J (k:Int):xL (3*k)*xL (-(3*k))=1:=by rw[← a5l,Int.add_right_neg,xL_0]
theorem b1D {n m:Int} {w v:List Int} {k:Int} (hk:k=1∨k=-1) (h:stS m.toNat v=-(xL (3*k))*stS n.toNat w) (ht:(v.map sgI).sum=(w.map sgI).sum+k):seL m v=seL n w:=by
 unfold seL
 rw[h,ht,b8C _ hk]
 have:=b6J k
 grind
noncomputable def dueP (w:List Int):Mv→Po→Po
 | .more k,p=>shP (3*k) p
 | .less,p=>shP (-(3*sg ((a5b w).headD 0))) p
 | _,p=>p
theorem c1b {n:Int} {w:List Int} {mv:Mv} (ok:PlOK n w) (n4:n≤4) (hw:a2f n w mv=.ok) (m4:(mvTo n w mv).1≤4) :
  (stS (mvTo n w mv).1.toNat (mvTo n w mv).2).1=dueP w mv (stS n.toNat w).1∧seL (mvTo n w mv).1 (mvTo n w mv).2=seL n w:=by
 obtain⟨h1,h6,hl,ho⟩:=id ok
 have same:∀ v:List Int,stS n.toNat v=stS n.toNat w→(v.map sgI).sum=(w.map sgI).sum→(stS n.toNat v).1=(stS n.toNat w).1∧seL n v=seL n w:=fun v a b=>⟨by rw[a],by unfold seL;rw[a,b]⟩
 cases mv with
 | more k =>
   rw[a2I] at hw
   rw[a9H] at m4⊢
   dsimp only at m4⊢
   have hk:k=1∨k=-1:=by
    split at hw
    ·cases hw
    ·split at hw
     ·assumption
     ·cases hw
   have e:=b4a h1 (by lia) ho hk
   refine⟨b3J e,b1D hk e ?_⟩
   have es:sgI (k*n)=k:=by unfold sgI;rcases hk with rfl | rfl<;>split<;>lia
   rw[List.map_append,List.sum_append,List.map_cons,List.map_nil,List.sum_cons,List.sum_nil,es];lia
 | less =>
   rw[a2J] at hw
   have hw2:a6S n w=true:=by
    split at hw
    ·assumption
    ·cases hw
   obtain⟨A,y,rfl,hy,hA⟩:=a4o.mp hw2
   rw[a5I,List.dropLast_concat]
   dsimp only
   have oy:=ho y (List.mem_append.mpr (.inr (.head _)))
   have oA:WordOK (n - 1) A:=fun l hl2=>by
    have a:=ho l (List.mem_append.mpr (.inl hl2))
    have b:=hA l hl2
    unfold LetOK at a⊢
    lia
   unfold LetOK at oy
   have hk:sg y=1∨sg y=-1:=by unfold sg;split<;>simp
   have ey:y=sg y*(n - 1):=by unfold sg;split<;>lia
   have e:=b4a (n:=n - 1) (w:=A) (by lia) (by lia) oA hk
   rw[← ey,show n - 1+1=n by lia] at e
   have e2:stS (n - 1).toNat A=-(xL (3*-(sg y)))*stS n.toNat (A++[y]):=by
    rw[e]
    have:=b6J (sg y)
    rw[show 3*-(sg y)=-(3*sg y) by lia]
    grind
   have hk2:-(sg y)=1∨-(sg y)=-1:=by lia
   refine⟨?_,b1D hk2 e2 ?_⟩
   ·rw[b3J e2]
    show _=shP (-(3*sg ((a5b (A++[y])).headD 0))) _
    rw[a1K,show 3*-(sg y)=-(3*sg y) by lia];rfl
   ·have es:sgI y=sg y:=by unfold sgI sg;split<;>split<;>lia
    rw[List.map_append,List.sum_append,List.map_cons,List.map_nil,List.sum_cons,List.sum_nil,es];lia
 | flip =>
   have hf:WordOK n (w.map (a1V n)):=fun x hx=>by
    obtain⟨z,hz,rfl⟩:=List.mem_map.mp hx
    exact (ho z hz).flip
   exact same _ (b7L h1 n4 ho hf) (b3L ho)
 | round =>
   refine same (w.drop 1++w.take 1) ?_ ?_
   ·rw[b3Y h1 h6 (fun x hx=>ho x (List.mem_of_mem_drop hx)) (fun x hx=>ho x (List.mem_of_mem_take hx)),List.take_append_drop]
   ·rw[List.map_append,List.sum_append,Int.add_comm,← List.sum_append,← List.map_append,List.take_append_drop]
 | back =>
   replace hw:(if w.isEmpty=true then Why.step else Why.ok)=.ok:=hw
   obtain⟨A,y,rfl⟩:=a4W (w:=w) (fun z=>by rw[z] at hw;cases hw)
   refine same (a5b (A++[y])++(A++[y]).dropLast) ?_ ?_
   ·rw[a1K,List.dropLast_concat]
    exact b3Y h1 h6 (fun x hx=>ho x (List.mem_append.mpr (.inr hx))) (fun x hx=>ho x (List.mem_append.mpr (.inl hx)))
   ·rw[a1K,List.dropLast_concat,List.map_append,List.sum_append,Int.add_comm,← List.sum_append,← List.map_append]
 | step s =>
   rw[a3x] at hw
   rw[a5H]
   cases e:aft n w s with
   | none=>rw[e] at hw;cases hw
   | some r =>
     have hr:=b5u ho e
     exact same r (b3Z h1 h6 hr).symm (b9O hr).symm
section
variable {m:Nat} (h1:1≤m) (h5:m≤5)
include h1 h5
end
section
variable {m:Nat} (hm:Cm m)
include hm
end
local macro_rules | `(tactic| walk_at "3") => `(tactic| first | exact Or.inl rfl | exact Or.inr (Or.inl rfl) | exact Or.inr (Or.inr rfl))
local macro_rules | `(tactic| walk_at "2") => `(tactic| first | exact Or.inl rfl | exact Or.inr rfl)
local macro_rules | `(tactic| walk_at "4") => `(tactic| first | exact .inl rfl | exact .inr rfl | assumption)
local macro_rules | `(tactic| walk_at "ln") => `(tactic| (intro ts M Q h; first | (split at h <;> first | rfl | exact h.elim) | (obtain ⟨_, _, _, _, _, rfl, _⟩ := h; rfl) | (obtain ⟨_, _, _, _, rfl, _⟩ := h; rfl) | (obtain ⟨_, _, _, rfl, _⟩ := h; rfl) | (obtain ⟨_, _, rfl, _⟩ := h; rfl) | (obtain ⟨_, rfl, _⟩ := h; rfl)))
local macro_rules | `(tactic| walk_at "lnx") => `(tactic| (intro ts M Q E h; first | (split at h <;> first | rfl | exact h.elim) | (obtain ⟨_, _, _, _, _, rfl, _⟩ := h; rfl) | (obtain ⟨_, _, _, _, rfl, _⟩ := h; rfl) | (obtain ⟨_, _, _, rfl, _⟩ := h; rfl) | (obtain ⟨_, _, rfl, _⟩ := h; rfl) | (obtain ⟨_, rfl, _⟩ := h; rfl)))
local macro_rules | `(tactic| walk_at "b0") => `(tactic| exact fun _ _ _ _ _ _ us hl => c2e (P := fun us => bindArgs _ ⟨us, []⟩ = pure (List.zip _ us)) hl rfl)
local macro_rules | `(tactic| walk_at "b1") => `(tactic| exact fun _ _ _ _ _ _ us hl => c0K (P := fun us => bindArgs _ ⟨us, []⟩ = pure (List.zip _ us)) hl (fun _ => rfl))
local macro_rules | `(tactic| walk_at "b2") => `(tactic| exact fun _ _ _ _ _ _ us hl => c0J (P := fun us => bindArgs _ ⟨us, []⟩ = pure (List.zip _ us)) hl (fun _ _ => rfl))
local macro_rules | `(tactic| walk_at "b3") => `(tactic| exact fun _ _ _ _ _ _ us hl => c0I (P := fun us => bindArgs _ ⟨us, []⟩ = pure (List.zip _ us)) hl (fun _ _ _ => rfl))
local macro_rules | `(tactic| walk_at "b4") => `(tactic| exact fun _ _ _ _ _ _ us hl => c0H (P := fun us => bindArgs _ ⟨us, []⟩ = pure (List.zip _ us)) hl (fun _ _ _ _ => rfl))
local macro_rules | `(tactic| walk_at "b5") => `(tactic| exact fun _ _ _ _ _ _ us hl => c0G (P := fun us => bindArgs _ ⟨us, []⟩ = pure (List.zip _ us)) hl (fun _ _ _ _ _ => rfl))
local macro_rules | `(tactic| walk_at "b6") => `(tactic| exact fun _ _ _ _ _ _ us hl => c2d (P := fun us => bindArgs _ ⟨us, []⟩ = pure (List.zip _ us)) hl (fun _ _ _ _ _ _ => rfl))
local macro_rules | `(tactic| walk_at "sc") => `(tactic| exact ⟨rfl, rfl, rfl, by decide +kernel, rfl, by decide +kernel, by decide +kernel⟩)
local macro_rules | `(tactic| walk_at "rd") => `(tactic| (try simp only [ tKt, b9D, sDPD, b6R, b2g, b7h, b7O, b7Y, rInK, b7P, rIn3, b1y, rInD, b3E, b9x, a8a, tCB3, b3C, b9A, b5D, tK, tOp3, tUn3, a1e, b7D, b6P, b9C, b6Q, b9I, b3B, b9v, b9z, b9J, tOr3, b6T, b9y, tIf3, b1x, b9u, b9B, b6S, tLM3, b6O, b6N, b5P, b9E, b4L, b7G, tDGK, sDPK, rIs3, b9Y, b2a, b8H, b9t,
 a9X,a9Z,b8R,b4S,c0Y,a9b,tSl3,tNo3,tPt3,c0T,b4d,a8n,b7i,b4P,b8M,b8L,b7Z,b7Q,b7S,b9Z,b9X,b9W,rInt,b7R,rIx3,b7T,b8a,b0P,b4c,b7U,b7X,b5Q,rLt3,rLe3,rGt3,rGe3,b0Q,rEq3,rNe3,rEqv,truT,b6u,
 b0F,b0E,b2B,b2M,b2L,b4i,b4H,List.getElem?_cons_zero,List.getElem?_cons_succ,List.set_cons_zero,List.set_cons_succ,List.length_cons,List.length_nil,List.map_nil,List.isEmpty_cons,List.isEmpty_nil,a0i,a5m,c1g,c2o,c2n,c2f,b0s,a6W,
 a6M,b5R,a9m,a3R,b2J,b0R,a3W,b8X,b2h,a4J,b5d,b3o,b8U,a3V,b4W,b6z,b4V,id,Bool.not_true,Bool.not_false,Bool.and_true,Bool.true_and,Bool.or_false,Bool.false_or,
 decide_eq_true_eq,Bool.not_eq_true',decide_eq_false_iff_not,Bool.false_eq_true,↓reduceIte,if_true,if_false,true_and,and_true,and_self,Nat.zero_le,not_true_eq_false,not_false_eq_true,List.length_map,List.length_append,List.length_singleton]))
noncomputable abbrev top (i:Nat):Stmt:=PySem.Challenge.pw_loopwright_k75_whole_what_keeps_the_sum.main.body.getD i (.Pass ⟨0,0,0,0⟩)
noncomputable abbrev a3L:Stmt:=top 8
noncomputable abbrev a4k:Stmt:=top 9
noncomputable abbrev a4B:Stmt:=top 10
noncomputable abbrev a6u:Stmt:=top 11
noncomputable abbrev a3M:Stmt:=top 12
noncomputable abbrev a1D:Stmt:=top 13
noncomputable abbrev a4l:Stmt:=top 14
noncomputable abbrev a2A:Stmt:=top 17
noncomputable abbrev a5D:Stmt:=top 18
noncomputable abbrev a3N:Stmt:=top 19
noncomputable abbrev a5C:Stmt:=top 20
noncomputable abbrev a6s:Stmt:=top 22
noncomputable abbrev a3b:Stmt:=top 23
noncomputable abbrev a5y:Stmt:=top 24
noncomputable abbrev b1E:Stmt:=top 25
noncomputable abbrev a5z:Stmt:=top 26
noncomputable abbrev a5A:Stmt:=top 28
noncomputable abbrev a6G:Stmt:=top 29
noncomputable abbrev a3c:Stmt:=top 30
noncomputable abbrev a3K:Stmt:=top 31
noncomputable abbrev a2M:Stmt:=top 32
noncomputable abbrev a3I:Stmt:=top 33
noncomputable abbrev a3H:Stmt:=top 34
noncomputable abbrev a8j:Stmt:=top 35
noncomputable abbrev a1b:Stmt:=top 39
noncomputable abbrev a8k:Stmt:=top 40
noncomputable abbrev a3e:Stmt:=top 41
noncomputable abbrev a2z:Stmt:=top 44
noncomputable abbrev a3d:Stmt:=top 45
noncomputable abbrev a3f:Stmt:=top 46
noncomputable abbrev a3J:Stmt:=top 47
noncomputable abbrev a6t:Stmt:=top 48
noncomputable abbrev a2y:Stmt:=top 49
noncomputable abbrev a1O:Stmt:=top 50
noncomputable abbrev a4C:Stmt:=top 51
noncomputable abbrev a5B:Stmt:=top 52
noncomputable abbrev a3h:Stmt:=top 54
noncomputable abbrev a3O:Stmt:=top 55
noncomputable abbrev a2B:Stmt:=top 56
noncomputable abbrev a3i:Stmt:=top 57
noncomputable abbrev a3P:Stmt:=top 58
noncomputable abbrev a3g:Stmt:=top 59
noncomputable abbrev a3k:Stmt:=top 60
noncomputable abbrev a3s:Stmt:=top 61
noncomputable abbrev a1P:Stmt:=top 62
noncomputable abbrev a2e:Stmt:=top 64
noncomputable abbrev a1w:Stmt:=top 65
noncomputable abbrev a1Q:Stmt:=top 66
noncomputable abbrev a3j:Stmt:=top 67
noncomputable abbrev a2H:Stmt:=top 68
noncomputable abbrev b0K:Stmt:=top 69
theorem a9h:FnScope ["strands","letter"] ["strands","letter"] (a0h a3L):=by walk_at "sc"
theorem b2G:FnScope ["strands","word","most"] ["strands","word","most"] (a0h a4k):=by walk_at "sc"
theorem b0I:FnScope ["plait"] ["plait"] (a0h a4B):=by walk_at "sc"
theorem b3V:FnScope ["plait"] ["plait"] (a0h a6u):=by walk_at "sc"
theorem a9i:FnScope ["row","at"] ["row","at"] (a0h a3M):=by walk_at "sc"
theorem a5T:FnScope ["strands","letter"] ["strands","letter"] (a0h a1D):=by walk_at "sc"
theorem a7D:FnScope ["plait","strands"] ["plait"] (a0h a4l):=by walk_at "sc"
theorem a7l:FnScope ["strands","word"] ["strands","word"] (a0h a2A):=by walk_at "sc"
theorem b2I:FnScope ["word","at"] ["word","at"] (a0h a5D):=by walk_at "sc"
theorem a2Z:FnScope ["word","at","p","q","r"] ["word","at"] (a0h a3N):=by walk_at "sc"
theorem b2H:FnScope ["word","at"] ["word","at"] (a0h a5C):=by walk_at "sc"
theorem b3T:FnScope ["number","letter"] ["number","letter"] (a0h a6s):=by walk_at "sc"
theorem a2v:FnScope ["word","at","p","q","r"] ["word","at"] (a0h a3b):=by walk_at "sc"
theorem b2D:FnScope ["strands","word","at","letter"] ["strands","word","at","letter"] (a0h a5y):=by walk_at "sc"
theorem b3W:FnScope ["strands","word","step","at"] ["strands","word","step"] (a0h b1E):=by walk_at "sc"
theorem b2E:FnScope ["strands","word","step"] ["strands","word","step"] (a0h a5z):=by walk_at "sc"
theorem b2F:FnScope ["letter"] ["letter"] (a0h a5A):=by walk_at "sc"
theorem b5H:FnScope ["plait"] ["plait"] (a0h a6G):=by walk_at "sc"
theorem a8h:FnScope ["plait"] ["plait"] (a0h a3c):=by walk_at "sc"
theorem a9g:FnScope ["plait"] ["plait"] (a0h a3K):=by walk_at "sc"
theorem a4i:FnScope ["plait","greatest","found"] ["plait"] (a0h a2M):=by walk_at "sc"
theorem a6g:FnScope ["plait","sign","strands"] ["plait","sign"] (a0h a3I):=by walk_at "sc"
theorem a6f:FnScope ["plait","step","word"] ["plait","step"] (a0h a3H):=by walk_at "sc"
theorem b5I:FnScope ["plait","move"] ["plait","move"] (a0h a8j):=by walk_at "sc"
theorem a5v:FnScope ["counts"] ["counts"] (a0h a1b):=by walk_at "sc"
theorem a6r:FnScope ["one","other","counts","power","count"] ["one","other"] (a0h a8k):=by walk_at "sc"
theorem a1g:FnScope ["one","other","counts","power","count","other_power","other_count","both"] ["one","other"] (a0h a3e):=by walk_at "sc"
theorem a4Q:FnScope ["most","worths"] ["most"] (a0h a2z):=by walk_at "sc"
theorem a8i:FnScope ["strands"] ["strands"] (a0h a3d):=by walk_at "sc"
theorem a5w:FnScope ["nest","number","below"] ["nest","number"] (a0h a3f):=by walk_at "sc"
theorem a4j:FnScope ["nest","number","below","joined"] ["nest","number"] (a0h a3J):=by walk_at "sc"
theorem b3U:FnScope ["worths","nest","worth"] ["worths","nest","worth"] (a0h a6t):=by walk_at "sc"
theorem a1l:FnScope ["worths","letter","sign","found","nest","worth","hooked"] ["worths","letter"] (a0h a2y):=by walk_at "sc"
theorem a0H:FnScope ["nest","strands","seen","loops","begin","at"] ["nest"] (a0h a1O):=by walk_at "sc"
theorem a1h:FnScope ["plait","worths","letter","loops","whole","nest","worth"] ["plait"] (a0h a4C):=by walk_at "sc"
theorem a4A:FnScope ["plait","whole","many","count"] ["plait"] (a0h a5B):=by walk_at "sc"
theorem a3F:FnScope ["script","k","cell"] ["script","k"] (a0h a3h):=by walk_at "sc"
theorem a3a:FnScope ["state","many","found","mixed"] ["state","many"] (a0h a3O):=by walk_at "sc"
theorem a4R:FnScope ["state","strands","number"] ["state","strands"] (a0h a2B):=by walk_at "sc"
theorem a2x:FnScope ["state","most","longest","strands","word","k"] ["state","most","longest"] (a0h a3i):=by walk_at "sc"
theorem a9j:FnScope ["letter"] ["letter"] (a0h a3P):=by walk_at "sc"
theorem a2w:FnScope ["part","p","q","r"] ["part"] (a0h a3g):=by walk_at "sc"
theorem a1N:FnScope ["strands","word","step","at","ahead","part","pair"] ["strands","word","step"] (a0h a3k):=by walk_at "sc"
theorem a4X:FnScope ["strands","word","found","kind"] ["strands","word"] (a0h a3s):=by walk_at "sc"
theorem a4b:FnScope ["state","strands","word","longest","some"] ["state","strands","word","longest"] (a0h a1P):=by walk_at "sc"
theorem a3G:FnScope ["plait","move","strands","word"] ["plait","move"] (a0h a2e):=by walk_at "sc"
theorem a1n:FnScope ["plait","move","strands","word","last","there"] ["plait","move"] (a0h a1w):=by walk_at "sc"
theorem a0L:FnScope ["state","plait","longest","strands","word","some","move","step"] ["state","plait","longest"] (a0h a1Q):=by walk_at "sc"
theorem a1s:FnScope ["state","plait","many","most","longest","found","k","move","room"] ["state","plait","many","most","longest"] (a0h a3j):=by walk_at "sc"
theorem b0J:FnScope ["sums","plait","move"] ["sums","plait","move"] (a0h a2H):=by walk_at "sc"
theorem a5x:FnScope ["script","state","plait","ahead","moves","sums","move"] ["script"] (a0h b0K):=by walk_at "sc"
structure CanN (P:Program) (w:World) (K:PySem.W.Frag) (mg:Str→Option Value) (dC fC1 fC2 fC3:Addr):Prop where
 can:CanK K P w dC [("far",fC1),("three",fC2),("out",fC3)]
 mc:mg "CAN"=some (.ref dC)
 m1:mg "can_far"=some (.ref fC1)
 m2:mg "can_three"=some (.ref fC2)
 m3:mg "can_out"=some (.ref fC3)
 kp:∀ q∈([("far",fC1),("three",fC2),("out",fC3)]:List (Str × Addr)),PySem.W.keepIn K (.ref q.2)=true
structure Zs (K:PySem.W.Frag) (mg:Str→Option Value):Prop where
 b_abs:mg "abs"=none
 b_all:mg "all"=none
 b_dict:mg "dict"=none
 b_enumerate:mg "enumerate"=none
 b_int:mg "int"=none
 b_len:mg "len"=none
 b_list:mg "list"=none
 b_range:mg "range"=none
 b_sorted:mg "sorted"=none
 b_sum:mg "sum"=none
 b_tuple:mg "tuple"=none
 c_LOOP:∃ u:Addr,mg "LOOP"=some (.ref u)∧∀ H,Rep K H (.ref u) (.tup [.tup [.int (-2),.int (-1)],.tup [.int (2),.int (-1)]])
 c_MOST_LETTERS:∃ tk,mg "MOST_LETTERS"=some (.int 16 tk)
 c_MOST_LETTERS_IN_STEPS:∃ tk,mg "MOST_LETTERS_IN_STEPS"=some (.int 4000 tk)
 c_MOST_STRANDS:∃ tk,mg "MOST_STRANDS"=some (.int 6 tk)
 c_NOUGHT:∃ u:Addr,mg "NOUGHT"=some (.ref u)∧∀ H,Rep K H (.ref u) (.tup [])
 c_ONE:∃ u:Addr,mg "ONE"=some (.ref u)∧∀ H,Rep K H (.ref u) (.tup [.tup [.int (0),.int (1)]])
noncomputable def a1m:Sp3:=fun ts M Q=>match ts with
 | [.int n,.int l]=>Q (.bl (a5c n l)) M
 | _=>False
theorem a9y {P w K base f fd} {mg:Str→Option Value} {n:Nat}  (F:Fun K "is_letter" "is_letter" a3L f fd) (hm:mg "is_letter"=some (.ref f)) (hb:a0G K fd ["strands","letter"] []) (Z:Zs K mg) :Df P w K mg base (n+1) "is_letter" ["strands","letter"] a1m:=by
 refine F.dfn hm hb a9h (by unfold a1m;walk_at "ln") ⟨_,fun cdv A outer s H E hr=>(@a0g _ _ _ (@a0r _ _ _ _ (@b8P _ _ _ _ _ _ _ _ _ _ _ _ a4S a3l a0d (@a0l _ _ _ _ _ _ _ _ _ a0t Z.b_abs PyProof.Rows.boot_abs (@a0a _ _ _ _ _ (@hv _ 1 _ _ (by rfl) (by walk_at "3") (by decide) (by decide)) a0e (by rfl)) (by rfl) (by decide) (by decide) (by rfl) (by rfl)) (@hv _ 0 _ _ (by rfl) (by walk_at "3") (by decide) (by decide)) (by with_unfolding_all rfl)))),fun ts M Q h=>?_⟩
 unfold a1m a5c at h
 split at h
 ·rename_i n l
  walk_at "rd"
  refine ite2 (fun c=>a0f ?_) (fun c=>a0f ?_)
  ·simpa [show 1≤l.natAbs by lia] using h
  ·simpa [show ¬1≤l.natAbs by lia] using h
 ·exact h.elim
noncomputable def a3r:Sp3:=fun ts M Q=>match ts with
 | [.int n,.tup w,.int k]=>∃ ws:List Int,w=ws.map .int∧ws.length < 10000∧Q (.bl (isWd n ws k)) M
 | _=>False
theorem b2S {P w K base f fd} {mg:Str→Option Value} {n:Nat}  (F:Fun K "is_word" "is_word" a4k f fd) (hm:mg "is_word"=some (.ref f)) (hb:a0G K fd ["strands","word","most"] []) (Z:Zs K mg) (D_is_letter:Df P w K mg base n "is_letter" ["strands","letter"] a1m):Df P w K mg base (n+1) "is_word" ["strands","word","most"] a3r:=by
 obtain⟨tk_MOST_STRANDS,c_MOST_STRANDS⟩:=Z.c_MOST_STRANDS
 refine F.dfn hm hb b2G (by unfold a3r;walk_at "ln") ⟨_,fun cdv A outer s H E hr=>(@a0b _ _ _ _ _ (@s_if _ _ _ _ _ _ _ _ (@HW.ht _ _ _ (@w_or _ _ _ _ _ _ _ (@a6X _ _ _ _ (@a5L _ _ _ _ _ _ _ _ _ _ _ _ a4S a4S a0d (@hv _ 0 _ _ (by rfl) (by walk_at "3") (by decide) (by decide)) (@a5e _ _ _ _ _ c_MOST_STRANDS (by rfl) (by decide)) (by with_unfolding_all rfl))) (@a6y _ _ _ _ (@a0n _ _ _ _ _ _ _ _ a3w (@a0l _ _ _ _ _ _ _ _ _ a0p Z.b_len PySem.boot_len (@a0a _ _ _ _ _ (@hv _ 1 _ _ (by rfl) (by walk_at "3") (by decide) (by decide)) a0e (by rfl)) (by rfl) (by decide) (by decide) (by rfl) (by rfl)) (@hv _ 2 _ _ (by rfl) (by walk_at "3") (by decide) (by decide)) (@a0k _ _ (by decide) (by decide)))))) (@a0g _ _ _ (@a0r _ _ _ _ h_bl)) a0q) (@a0g _ _ _ (@a0r _ _ _ _ (@a0l _ _ _ _ _ _ _ _ _ (@b5q _ rfl) Z.b_all PyProof.Rows.boot_all (@a0a _ _ _ _ _ (@a6j _ _ _ _ _ _ _ _ _ _ _ _ _ _ rfl (@a5K _ _ _ _ (@hv _ 1 _ _ (by rfl) (by walk_at "3") (by decide) (by decide))) (@a1z _ (a0h a4k) _ (["strands","word","most"]) (["letter","strands"]) ([none,some 0]) (by decide +kernel) rfl rfl) a5j (fun _ _ _ _ _=>@a1T _ _ 0 _ (show List.Nodup (["letter","strands"]:List Str) by decide +kernel) rfl (Or.inl rfl) (Or.inr rfl)) (fun _ _ _ _ _=>a7A) (fun _ _ _ _ _=>(@a0j _ _ _ _ _ _ _ _ _ _ D_is_letter hr (@a0a _ _ _ _ _ (@hv _ 1 _ _ (by rfl) (by walk_at "3") (by decide) (by decide)) (@a0a _ _ _ _ _ (@hv _ 0 _ _ (by rfl) (by walk_at "3") (by decide) (by decide)) a0e (by rfl)) (by rfl)) (by rfl) (by decide) (by rfl) (by rfl))) (by intro _;rfl)) a0e (by rfl)) (by rfl) (by decide) (by decide) (by rfl) (by rfl))))),fun ts M Q h=>?_⟩
 unfold a3r at h
 split at h
 ·rename_i n w k
  obtain⟨ws,rfl,hl,h⟩:=h
  unfold isWd at h
  walk_at "rd"
  refine ite2 (fun c1=>ite2 (fun c2=>?_) fun c2=>ite2 (fun c3=>?_) fun c3=>?_) fun c1=>?_
  ·rw[decide_eq_false c2,Bool.and_false,Bool.false_and] at h
   exact a0f h
  ·rw[decide_eq_false (show ¬(ws.length:Int)≤k by lia),Bool.and_false,Bool.false_and] at h
   exact a0f h
  ·rw[decide_eq_true c1,decide_eq_true (show n≤6 by lia),decide_eq_true (show (ws.length:Int)≤k by lia)] at h
   refine⟨fun i ys M'=>ys=((ws.take i).map (a5c n)).map T.bl∧M'=M,⟨rfl,rfl⟩,fun _ _ _ _=>trivial,Nat.lt_of_le_of_lt (by lia:ws.length≤10000) (by decide),?_,?_⟩
   ·rintro i x ys M' hx ⟨rfl,rfl⟩
    obtain⟨l,hl',rfl⟩:=a1q hx
    unfold a1m
    refine⟨?_,rfl⟩
    rw[← a1L (a5c n) hl',List.map_append];rfl
   ·rintro ys M' ⟨rfl,rfl⟩ p hp
    rw[List.take_length,b0s]
    refine a0x (M0:=M') ?_ (Sub.new hp)
    rw[List.all_map]
    exact h
  ·rw[decide_eq_false c1,Bool.false_and,Bool.false_and,Bool.false_and] at h
   exact a0f h
 ·exact h.elim
noncomputable def a3C:Sp3:=fun ts M Q=>match ts with
 | [.tup [.int n,.tup w]]=>∃ ws:List Int,w=ws.map .int∧ws.length < 10000∧Q (.bl (isPl n ws)) M
 | _=>False
theorem b0U {P w K base f fd} {mg:Str→Option Value} {n:Nat}  (F:Fun K "is_plait" "is_plait" a4B f fd) (hm:mg "is_plait"=some (.ref f)) (hb:a0G K fd ["plait"] []) (Z:Zs K mg) (D_is_word:Df P w K mg base n "is_word" ["strands","word","most"] a3r):Df P w K mg base (n+1) "is_plait" ["plait"] a3C:=by
 obtain⟨tk_MOST_LETTERS,c_MOST_LETTERS⟩:=Z.c_MOST_LETTERS
 refine F.dfn hm hb b0I (by unfold a3C;walk_at "ln") ⟨_,fun cdv A outer s H E hr=>(@a0g _ _ _ (@a0r _ _ _ _ (@a0j _ _ _ _ _ _ _ _ _ _ D_is_word hr (@a0a _ _ _ _ _ (@h_ix _ _ _ _ _ _ (@hv _ 0 _ _ (by rfl) (by walk_at "3") (by decide) (by decide)) a0d (by intro _ _;rfl)) (@a0a _ _ _ _ _ (@h_ix _ _ _ _ _ _ (@hv _ 0 _ _ (by rfl) (by walk_at "3") (by decide) (by decide)) a0d (by intro _ _;rfl)) (@a0a _ _ _ _ _ (@a5e _ _ _ _ _ c_MOST_LETTERS (by rfl) (by decide)) a0e (by rfl)) (by rfl)) (by rfl)) (by rfl) (by decide) (by rfl) (by rfl)))),fun ts M Q h=>?_⟩
 unfold a3C at h
 split at h
 ·rename_i n w
  obtain⟨ws,rfl,hl,h⟩:=h
  walk_at "rd"
  refine⟨ws,rfl,hl,?_⟩
  rw[b8G]
  exact a0f h
 ·exact h.elim
noncomputable def a2K:Sp3:=fun ts M Q=>match ts with
 | [.tup [.int n,.tup w]]=>∃ ws:List Int,w=ws.map .int∧PlOK n ws∧Q (.int ws.length) M
 | _=>False
theorem b4s {P w K base f fd} {mg:Str→Option Value} {n:Nat}  (F:Fun K "looked" "looked" a6u f fd) (hm:mg "looked"=some (.ref f)) (hb:a0G K fd ["plait"] []) (Z:Zs K mg) (D_is_plait:Df P w K mg base n "is_plait" ["plait"] a3C):Df P w K mg base (n+1) "looked" ["plait"] a2K:=by
 refine F.dfn hm hb b3V (by unfold a2K;walk_at "ln") ⟨_,fun cdv A outer s H E hr=>(@a0b _ _ _ _ _ (@s_if _ _ _ _ _ _ _ _ (@a6X _ _ _ _ (@a4p _ _ _ (@a0j _ _ _ _ _ _ _ _ _ _ D_is_plait hr (@a0a _ _ _ _ _ (@hv _ 0 _ _ (by rfl) (by walk_at "3") (by decide) (by decide)) a0e (by rfl)) (by rfl) (by decide) (by rfl) (by rfl)) (by intro _;rfl))) (@a0g _ _ _ a1X) a0q) (@a0g _ _ _ (@a0r _ _ _ _ (@a0l _ _ _ _ _ _ _ _ _ a0p Z.b_len PySem.boot_len (@a0a _ _ _ _ _ (@h_ix _ _ _ _ _ _ (@hv _ 0 _ _ (by rfl) (by walk_at "3") (by decide) (by decide)) a0d (by intro _ _;rfl)) a0e (by rfl)) (by rfl) (by decide) (by decide) (by rfl) (by rfl))))),fun ts M Q h=>?_⟩
 unfold a2K at h
 split at h
 ·rename_i n w
  obtain⟨ws,rfl,ok,h⟩:=h
  walk_at "rd"
  refine⟨ws,rfl,by have:=ok.2.2.1;lia,?_⟩
  rw[ok.is]
  walk_at "rd"
  exact a0f (M:=M) h
 ·exact h.elim
noncomputable def a2Y:Sp3:=fun ts M Q=>match ts with
 | [.tup w,.int k]=>∃ ws:List Int,w=ws.map .int∧0≤k∧k+1 < ws.length∧ws.length < 10000∧Q (.tup ((a4h ws k.toNat).map .int)) M
 | _=>False
theorem a9z {P w K base f fd} {mg:Str→Option Value} {n:Nat}  (F:Fun K "exchanged" "exchanged" a3M f fd) (hm:mg "exchanged"=some (.ref f)) (hb:a0G K fd ["row","at"] []) (Z:Zs K mg) :Df P w K mg base (n+1) "exchanged" ["row","at"] a2Y:=by
 refine F.dfn hm hb a9i (by unfold a2Y;walk_at "ln") ⟨_,fun cdv A outer s H E hr=>(@a0g _ _ _ (@a0r _ _ _ _ (@a0m _ _ _ _ _ _ _ _ a0o (@a0m _ _ _ _ _ _ _ _ a0o (@a0N _ _ _ _ _ _ _ _ _ (@hv _ 0 _ _ (by rfl) (by walk_at "3") (by decide) (by decide)) a1p (@a1c _ _ _ (@hv _ 1 _ _ (by rfl) (by walk_at "3") (by decide) (by decide)))) (@a0R _ _ _ _ _ (@a0a _ _ _ _ _ (@h_ix _ _ _ _ _ _ (@hv _ 0 _ _ (by rfl) (by walk_at "3") (by decide) (by decide)) (@a0m _ _ _ _ _ _ _ _ a0o (@hv _ 1 _ _ (by rfl) (by walk_at "3") (by decide) (by decide)) a0d) (by intro _ _;rfl)) (@a0a _ _ _ _ _ (@h_ix _ _ _ _ _ _ (@hv _ 0 _ _ (by rfl) (by walk_at "3") (by decide) (by decide)) (@hv _ 1 _ _ (by rfl) (by walk_at "3") (by decide) (by decide)) (by intro _ _;rfl)) a0e (by rfl)) (by rfl)))) (@a0N _ _ _ _ _ _ _ _ _ (@hv _ 0 _ _ (by rfl) (by walk_at "3") (by decide) (by decide)) (@a1c _ _ _ (@a0m _ _ _ _ _ _ _ _ a0o (@hv _ 1 _ _ (by rfl) (by walk_at "3") (by decide) (by decide)) a0d)) a1p)))),fun ts M Q h=>?_⟩
 unfold a2Y at h
 split at h
 ·rename_i w k
  obtain⟨ws,rfl,k0,k1,hl,h⟩:=h
  obtain⟨i,rfl⟩:=Int.eq_ofNat_of_zero_le k0
  walk_at "rd"
  have a1:atI (ws.map T.int) ((i:Int)+1)=some (.int (ws.getD (i+1) 0)):=by
   have:=a6x ws ((i:Int)+1) (by lia) (by lia)
   rwa [show ((i:Int)+1).toNat=i+1 by lia] at this
  have a2:atI (ws.map T.int) (i:Int)=some (.int (ws.getD i 0)):=by
   have:=a6x ws (i:Int) (by lia) (by lia)
   rwa [Int.toNat_natCast] at this
  have c1:cutT (ws.map T.int) none (some (i:Int))=(ws.take i).map T.int:=by
   rw[b8Z _ _ (by lia) (by rw[List.length_map];lia),Int.toNat_natCast,List.map_take]
  have c2:cutT (ws.map T.int) (some ((i:Int)+2)) none=(ws.drop (i+2)).map T.int:=by
   have k1':i+1 < ws.length:=by lia
   rw[b5i _ _ (by lia) (by rw[List.length_map];lia),show ((i:Int)+2).toNat=i+2 by lia,List.map_drop]
  have l1:(ws.take i).length=i:=by rw[List.length_take];lia
  have l2:(ws.drop (i+2)).length=ws.length - (i+2):=List.length_drop ..
  simp only[a1,a2,c1,c2]
  walk_at "rd"
  refine⟨by decide,a0A (by lia),a0A (by lia),?_⟩
  have e:List.map T.int (List.take i ws)++[T.int (ws.getD (i+1) 0),T.int (ws.getD i 0)]++List.map T.int (List.drop (i+2) ws)=List.map T.int (a4h ws i):=by
   rw[← a8Z ws i (by lia)]
   simp
  rw[e]
  exact a0f h
 ·exact h.elim
noncomputable def a1a:Sp3:=fun ts M Q=>match ts with
 | [.int n,.int l]=>n.natAbs < 1000000∧l.natAbs < 1000000∧Q (.int (a1V n l)) M
 | _=>False
theorem a5U {P w K base f fd} {mg:Str→Option Value} {n:Nat}  (F:Fun K "flipped_letter" "flipped_letter" a1D f fd) (hm:mg "flipped_letter"=some (.ref f)) (hb:a0G K fd ["strands","letter"] []) (Z:Zs K mg) :Df P w K mg base (n+1) "flipped_letter" ["strands","letter"] a1a:=by
 refine F.dfn hm hb a5T (by unfold a1a;walk_at "ln") ⟨_,fun cdv A outer s H E hr=>(@a0b _ _ _ _ _ (@s_if _ _ _ _ _ _ _ _ (@a0n _ _ _ _ _ _ _ _ a3l (@hv _ 1 _ _ (by rfl) (by walk_at "3") (by decide) (by decide)) a0d (@a0k _ _ (by decide) (by decide))) (@a0g _ _ _ (@a0r _ _ _ _ (@h_un _ _ _ _ _ _ a0J (@a0m _ _ _ _ _ _ _ _ a0o (@hv _ 0 _ _ (by rfl) (by walk_at "3") (by decide) (by decide)) (@hv _ 1 _ _ (by rfl) (by walk_at "3") (by decide) (by decide)))))) a0q) (@a0g _ _ _ (@a0r _ _ _ _ (@a0m _ _ _ _ _ _ _ _ a0M (@hv _ 0 _ _ (by rfl) (by walk_at "3") (by decide) (by decide)) (@hv _ 1 _ _ (by rfl) (by walk_at "3") (by decide) (by decide)))))),fun ts M Q h=>?_⟩
 unfold a1a at h
 split at h
 ·rename_i n l
  obtain⟨h1,h2,h⟩:=h
  unfold a1V at h
  walk_at "rd"
  refine ite2 (fun c1=>?_) (fun c1=>?_)
  ·rw[if_pos c1] at h
   exact a0f h
  ·rw[if_neg c1] at h
   exact a0f h
 ·exact h.elim
noncomputable def a4y:Sp3:=fun ts M Q=>match ts with
 | [.tup [.int n,.tup w]]=>∃ ws:List Int,w=ws.map .int∧PlOK n ws∧Q (.tup [.int n,.tup ((ws.map (a1V n)).map .int)]) M
 | _=>False
theorem b2T {P w K base f fd} {mg:Str→Option Value} {n:Nat}  (F:Fun K "flipped" "flipped" a4l f fd) (hm:mg "flipped"=some (.ref f)) (hb:a0G K fd ["plait"] []) (Z:Zs K mg) (D_looked:Df P w K mg base n "looked" ["plait"] a2K) (D_flipped_letter:Df P w K mg base n "flipped_letter" ["strands","letter"] a1a):Df P w K mg base (n+1) "flipped" ["plait"] a4y:=by
 refine F.dfn hm hb a7D (by unfold a4y;walk_at "ln") ⟨_,fun cdv A outer s H E hr=>(@a0b _ _ _ _ _ (@a4c _ _ _ _ (@a0j _ _ _ _ _ _ _ _ _ _ D_looked hr (@a0a _ _ _ _ _ (@hv _ 0 _ _ (by rfl) (by walk_at "3") (by decide) (by decide)) a0e (by rfl)) (by rfl) (by decide) (by rfl) (by rfl)) (by rfl)) (@a0b _ _ _ _ _ (@a0C _ _ _ _ 1 _ _ (@h_ix _ _ _ _ _ _ (@hv _ 0 _ _ (by rfl) (by walk_at "3") (by decide) (by decide)) a0d (by intro _ _;rfl)) a7D.nd (by rfl) (by walk_at "2") (by rfl) (by walk_at "4")) (@a0g _ _ _ (@a0r _ _ _ _ (@a0R _ _ _ _ _ (@a0a _ _ _ _ _ (@hv _ 1 _ _ (by rfl) (by walk_at "3") (by decide) (by decide)) (@a0a _ _ _ _ _ (@a1F _ _ _ _ _ _ _ _ _ a1Z Z.b_tuple PyProof.Rows.boot_tuple (@a0a _ _ _ _ _ (@a6j _ _ _ _ _ _ _ _ _ _ _ _ _ _ rfl (@a5K _ _ _ _ (@h_ix _ _ _ _ _ _ (@hv _ 0 _ _ (by rfl) (by walk_at "3") (by decide) (by decide)) a0d (by intro _ _;rfl))) (@a1z _ (a0h a4l) _ (["plait","strands"]) (["letter","strands"]) ([none,some 1]) (by decide +kernel) rfl rfl) a5j (fun _ _ _ _ _=>@a1T _ _ 0 _ (show List.Nodup (["letter","strands"]:List Str) by decide +kernel) rfl (Or.inl rfl) (Or.inr rfl)) (fun _ _ _ _ _=>a7A) (fun _ _ _ _ _=>(@a0j _ _ _ _ _ _ _ _ _ _ D_flipped_letter hr (@a0a _ _ _ _ _ (@hv _ 1 _ _ (by rfl) (by walk_at "3") (by decide) (by decide)) (@a0a _ _ _ _ _ (@hv _ 0 _ _ (by rfl) (by walk_at "3") (by decide) (by decide)) a0e (by rfl)) (by rfl)) (by rfl) (by decide) (by rfl) (by rfl))) (by intro _;rfl)) a0e (by rfl)) (by rfl) (by decide) (by decide) (by rfl) (by rfl)) a0e (by rfl)) (by rfl))))))),fun ts M Q h=>?_⟩
 unfold a4y at h
 split at h
 ·rename_i n w
  obtain⟨ws,rfl,ok,h⟩:=h
  have hl:ws.length < 10000:=by have:=ok.2.2.1;lia
  walk_at "rd"
  refine⟨ws,rfl,ok,?_⟩
  walk_at "rd"
  refine⟨fun i ys M'=>ys=((ws.take i).map (a1V n)).map T.int∧M'=M,⟨rfl,rfl⟩,fun _ _ _ _=>trivial,?_,?_,?_⟩
  ·exact Nat.lt_of_le_of_lt (by lia:ws.length≤10000) (by decide)
  ·rintro i x ys M' hx ⟨rfl,rfl⟩
   obtain⟨l,hl',rfl⟩:=a1q hx
   obtain⟨l1,l2⟩:=ok.2.2.2 l (List.mem_of_getElem? hl')
   have:=ok.1
   have:=ok.2.1
   unfold a1a
   refine⟨by lia,by lia,?_,rfl⟩
   rw[← a1L (a1V n) hl',List.map_append];rfl
  ·rintro ys M' ⟨rfl,rfl⟩ p hp
   rw[List.take_length]
   exact⟨by decide,a0x (M0:=M') h (Sub.new hp)⟩
 ·exact h.elim
theorem b8F {n k:Int} {w:List Int} (h1:1≤n) (h6:n≤6) (hl:(w.length:Int)≤k) (hw:WordOK n w):isWd n w k=true:=by
 unfold isWd
 rw[decide_eq_true h1,decide_eq_true h6,decide_eq_true hl,List.all_eq_true.mpr fun x hx=>?_]
 ·rfl
 ·have:=hw x hx
  unfold LetOK at this
  unfold a5c
  simp only[decide_eq_true_eq,Bool.and_eq_true]
  lia
noncomputable def a2d:Sp3:=fun ts M Q=>match ts with
 | [.int n,.tup w]=>∃ ws:List Int,w=ws.map .int∧ws.length≤4000∧1≤n∧n≤6∧WordOK n ws∧Q .non M
 | _=>False
theorem a7o {P w K base f fd} {mg:Str→Option Value} {n:Nat}  (F:Fun K "looked_word" "looked_word" a2A f fd) (hm:mg "looked_word"=some (.ref f)) (hb:a0G K fd ["strands","word"] []) (Z:Zs K mg) (D_is_word:Df P w K mg base n "is_word" ["strands","word","most"] a3r):Df P w K mg base (n+1) "looked_word" ["strands","word"] a2d:=by
 obtain⟨tk_MOST_LETTERS_IN_STEPS,c_MOST_LETTERS_IN_STEPS⟩:=Z.c_MOST_LETTERS_IN_STEPS
 refine F.dfn hm hb a7l (by unfold a2d;walk_at "ln") ⟨_,fun cdv A outer s H E hr=>(@a0g _ _ _ (@s_if _ _ _ _ _ _ _ _ (@a6X _ _ _ _ (@a4p _ _ _ (@a0j _ _ _ _ _ _ _ _ _ _ D_is_word hr (@a0a _ _ _ _ _ (@hv _ 0 _ _ (by rfl) (by walk_at "3") (by decide) (by decide)) (@a0a _ _ _ _ _ (@hv _ 1 _ _ (by rfl) (by walk_at "3") (by decide) (by decide)) (@a0a _ _ _ _ _ (@a5e _ _ _ _ _ c_MOST_LETTERS_IN_STEPS (by rfl) (by decide)) a0e (by rfl)) (by rfl)) (by rfl)) (by rfl) (by decide) (by rfl) (by rfl)) (by intro _;rfl))) (@a0g _ _ _ a1X) a0q)),fun ts M Q h=>?_⟩
 unfold a2d at h
 split at h
 ·rename_i n w
  obtain⟨ws,rfl,hl,h1,h6,hw,h⟩:=h
  walk_at "rd"
  refine⟨ws,rfl,by lia,?_⟩
  rw[b8F h1 h6 (by lia) hw]
  walk_at "rd"
  exact a0f (M:=M) h
 ·exact h.elim
noncomputable def a2G:Sp3:=fun ts M Q=>match ts with
 | [.tup w,.int a]=>∃ ws:List Int,w=ws.map .int∧Sm ws∧Q (.bl (a0Z ws a)) M
 | _=>False
theorem b2V {P w K base f fd} {mg:Str→Option Value} {n:Nat}  (F:Fun K "can_far" "can_far" a5D f fd) (hm:mg "can_far"=some (.ref f)) (hb:a0G K fd ["word","at"] []) (Z:Zs K mg) :Df P w K mg base (n+1) "can_far" ["word","at"] a2G:=by
 refine F.dfn hm hb b2I (by unfold a2G;walk_at "ln") ⟨_,fun cdv A outer s H E hr=>(@a0b _ _ _ _ _ (@s_if _ _ _ _ _ _ _ _ (@a6X _ _ _ _ (@a5L _ _ _ _ _ _ _ _ _ _ _ _ a4S a3l a0d (@hv _ 1 _ _ (by rfl) (by walk_at "3") (by decide) (by decide)) (@a0m _ _ _ _ _ _ _ _ a0M (@a0l _ _ _ _ _ _ _ _ _ a0p Z.b_len PySem.boot_len (@a0a _ _ _ _ _ (@hv _ 0 _ _ (by rfl) (by walk_at "3") (by decide) (by decide)) a0e (by rfl)) (by rfl) (by decide) (by decide) (by rfl) (by rfl)) a0d) (by with_unfolding_all rfl))) (@a0g _ _ _ (@a0r _ _ _ _ h_bl)) a0q) (@a0g _ _ _ (@a0r _ _ _ _ (@a4N _ _ _ _ _ _ _ _ a3w (@a0l _ _ _ _ _ _ _ _ _ a0t Z.b_abs PyProof.Rows.boot_abs (@a0a _ _ _ _ _ (@a0m _ _ _ _ _ _ _ _ a0M (@a0l _ _ _ _ _ _ _ _ _ a0t Z.b_abs PyProof.Rows.boot_abs (@a0a _ _ _ _ _ (@h_ix _ _ _ _ _ _ (@hv _ 0 _ _ (by rfl) (by walk_at "3") (by decide) (by decide)) (@hv _ 1 _ _ (by rfl) (by walk_at "3") (by decide) (by decide)) (by intro _ _;rfl)) a0e (by rfl)) (by rfl) (by decide) (by decide) (by rfl) (by rfl)) (@a0l _ _ _ _ _ _ _ _ _ a0t Z.b_abs PyProof.Rows.boot_abs (@a0a _ _ _ _ _ (@h_ix _ _ _ _ _ _ (@hv _ 0 _ _ (by rfl) (by walk_at "3") (by decide) (by decide)) (@a0m _ _ _ _ _ _ _ _ a0o (@hv _ 1 _ _ (by rfl) (by walk_at "3") (by decide) (by decide)) a0d) (by intro _ _;rfl)) a0e (by rfl)) (by rfl) (by decide) (by decide) (by rfl) (by rfl))) a0e (by rfl)) (by rfl) (by decide) (by decide) (by rfl) (by rfl)) a0d (@a0k _ _ (by decide) (by decide)))))),fun ts M Q h=>?_⟩
 unfold a2G at h
 split at h
 ·rename_i w a
  obtain⟨ws,rfl,sm,h⟩:=h
  unfold a0Z at h
  walk_at "rd"
  by_cases c:0≤a∧a < (ws.length:Int) - 1
  ·rw[decide_eq_true c,Bool.true_and] at h
   rw[if_pos c.1,if_neg (by lia)]
   simp only[a7t (w:=ws) (a:=a) c.1 (by lia),a7t (w:=ws) (a:=a+1) (by lia) (by lia)]
   exact a0f h
  ·rw[decide_eq_false c,Bool.false_and] at h
   exact ite2 (fun c1=>ite2 (fun c2=>a0f h) (fun c2=>absurd ⟨c1,by lia⟩ c)) (fun c1=>a0f h)
 ·exact h.elim
noncomputable def a1H:Sp3:=fun ts M Q=>match ts with
 | [.tup w,.int a]=>∃ ws:List Int,w=ws.map .int∧Sm ws∧Q (.bl (a0z ws a)) M
 | _=>False
theorem a9A {P w K base f fd} {mg:Str→Option Value} {n:Nat}  (F:Fun K "can_three" "can_three" a3N f fd) (hm:mg "can_three"=some (.ref f)) (hb:a0G K fd ["word","at"] []) (Z:Zs K mg) :Df P w K mg base (n+1) "can_three" ["word","at"] a1H:=by
 refine F.dfn hm hb a2Z (by unfold a1H;walk_at "ln") ⟨_,fun cdv A outer s H E hr=>(@a0b _ _ _ _ _ (@s_if _ _ _ _ _ _ _ _ (@a6X _ _ _ _ (@a5L _ _ _ _ _ _ _ _ _ _ _ _ a4S a3l a0d (@hv _ 1 _ _ (by rfl) (by walk_at "3") (by decide) (by decide)) (@a0m _ _ _ _ _ _ _ _ a0M (@a0l _ _ _ _ _ _ _ _ _ a0p Z.b_len PySem.boot_len (@a0a _ _ _ _ _ (@hv _ 0 _ _ (by rfl) (by walk_at "3") (by decide) (by decide)) a0e (by rfl)) (by rfl) (by decide) (by decide) (by rfl) (by rfl)) a0d) (by with_unfolding_all rfl))) (@a0g _ _ _ (@a0r _ _ _ _ h_bl)) a0q) (@a0b _ _ _ _ _ (@a0C _ _ _ _ 2 _ _ (@h_ix _ _ _ _ _ _ (@hv _ 0 _ _ (by rfl) (by walk_at "3") (by decide) (by decide)) (@hv _ 1 _ _ (by rfl) (by walk_at "3") (by decide) (by decide)) (by intro _ _;rfl)) a2Z.nd (by rfl) (by walk_at "2") (by rfl) (by walk_at "4")) (@a0b _ _ _ _ _ (@a0C _ _ _ _ 3 _ _ (@h_ix _ _ _ _ _ _ (@hv _ 0 _ _ (by rfl) (by walk_at "3") (by decide) (by decide)) (@a0m _ _ _ _ _ _ _ _ a0o (@hv _ 1 _ _ (by rfl) (by walk_at "3") (by decide) (by decide)) a0d) (by intro _ _;rfl)) a2Z.nd (by rfl) (by walk_at "2") (by rfl) (by walk_at "4")) (@a0b _ _ _ _ _ (@a0C _ _ _ _ 4 _ _ (@h_ix _ _ _ _ _ _ (@hv _ 0 _ _ (by rfl) (by walk_at "3") (by decide) (by decide)) (@a0m _ _ _ _ _ _ _ _ a0o (@hv _ 1 _ _ (by rfl) (by walk_at "3") (by decide) (by decide)) a0d) (by intro _ _;rfl)) a2Z.nd (by rfl) (by walk_at "2") (by rfl) (by walk_at "4")) (@a0b _ _ _ _ _ (@s_if _ _ _ _ _ _ _ _ (@HW.ht _ _ _ (@w_or _ _ _ _ _ _ _ (@a0n _ _ _ _ _ _ _ _ (@a4m _ hr.units) (@a0l _ _ _ _ _ _ _ _ _ a0t Z.b_abs PyProof.Rows.boot_abs (@a0a _ _ _ _ _ (@hv _ 2 _ _ (by rfl) (by walk_at "3") (by decide) (by decide)) a0e (by rfl)) (by rfl) (by decide) (by decide) (by rfl) (by rfl)) (@a0l _ _ _ _ _ _ _ _ _ a0t Z.b_abs PyProof.Rows.boot_abs (@a0a _ _ _ _ _ (@hv _ 4 _ _ (by rfl) (by walk_at "3") (by decide) (by decide)) a0e (by rfl)) (by rfl) (by decide) (by decide) (by rfl) (by rfl)) (@a0k _ _ (by decide) (by decide))) (@a6y _ _ _ _ (@a0n _ _ _ _ _ _ _ _ (@a4m _ hr.units) (@a0l _ _ _ _ _ _ _ _ _ a0t Z.b_abs PyProof.Rows.boot_abs (@a0a _ _ _ _ _ (@a0m _ _ _ _ _ _ _ _ a0M (@a0l _ _ _ _ _ _ _ _ _ a0t Z.b_abs PyProof.Rows.boot_abs (@a0a _ _ _ _ _ (@hv _ 2 _ _ (by rfl) (by walk_at "3") (by decide) (by decide)) a0e (by rfl)) (by rfl) (by decide) (by decide) (by rfl) (by rfl)) (@a0l _ _ _ _ _ _ _ _ _ a0t Z.b_abs PyProof.Rows.boot_abs (@a0a _ _ _ _ _ (@hv _ 3 _ _ (by rfl) (by walk_at "3") (by decide) (by decide)) a0e (by rfl)) (by rfl) (by decide) (by decide) (by rfl) (by rfl))) a0e (by rfl)) (by rfl) (by decide) (by decide) (by rfl) (by rfl)) a0d (@a0k _ _ (by decide) (by decide)))))) (@a0g _ _ _ (@a0r _ _ _ _ h_bl)) a0q) (@a0g _ _ _ (@a0r _ _ _ _ (@h_or _ _ _ _ _ _ _ (@a4N _ _ _ _ _ _ _ _ (@a4m _ hr.units) (@hv _ 2 _ _ (by rfl) (by walk_at "3") (by decide) (by decide)) (@hv _ 4 _ _ (by rfl) (by walk_at "3") (by decide) (by decide)) (@a0k _ _ (by decide) (by decide))) (@b6w _ _ _ _ _ (@a4N _ _ _ _ _ _ _ _ a3w (@a0m _ _ _ _ _ _ _ _ a0Q (@hv _ 2 _ _ (by rfl) (by walk_at "3") (by decide) (by decide)) (@hv _ 3 _ _ (by rfl) (by walk_at "3") (by decide) (by decide))) a0d (@a0k _ _ (by decide) (by decide)))))))))))),fun ts M Q h=>?_⟩
 unfold a1H at h
 split at h
 ·rename_i w a
  obtain⟨ws,rfl,sm,h⟩:=h
  unfold a0z at h
  walk_at "rd"
  by_cases c:0≤a∧a < (ws.length:Int) - 2
  ·rw [decide_eq_true c,Bool.true_and] at h
   rw[if_pos c.1,if_neg (by lia)]
   simp only[a7t (w:=ws) (a:=a) c.1 (by lia),a7t (w:=ws) (a:=a+1) (by lia) (by lia),a7t (w:=ws) (a:=a+2) (by lia) (by lia)]
   have sp:=sm.at (a:=a) c.1 (by lia)
   refine ite2 (fun c1=>?_) (fun c1=>ite2 (fun c2=>?_) (fun c2=>⟨rfl,rfl,by rw[a3W];lia,?_⟩))
   ·rw[decide_eq_false c1,Bool.false_and,Bool.false_and] at h
    exact a0f h
   ·rw[decide_eq_false c2,Bool.and_false,Bool.false_and] at h
    exact a0f h
   ·rw[decide_eq_true (Decidable.not_not.mp c1),decide_eq_true (Decidable.not_not.mp c2),Bool.true_and,Bool.true_and] at h
    refine ite2 (fun c3=>?_) (fun c3=>⟨.inl ⟨by lia,by lia⟩,?_⟩)
    ·rw[show decide (gI ws a=gI ws (a+2))=false from c3] at h
     exact a0f h
    ·have c4:decide (gI ws a=gI ws (a+2))=true:=by
      cases e:decide (gI ws a=gI ws (a+2)) with
      | true=>rfl
      | false=>exact absurd e c3
     rw[c4,Bool.not_true,Bool.false_or] at h
     exact a0f h
  ·rw[decide_eq_false c,Bool.false_and] at h
   exact ite2 (fun c1=>ite2 (fun c2=>a0f h) (fun c2=>absurd ⟨c1,by lia⟩ c)) (fun c1=>a0f h)
 ·exact h.elim
noncomputable def a2F:Sp3:=fun ts M Q=>match ts with
 | [.tup w,.int a]=>∃ ws:List Int,w=ws.map .int∧Sm ws∧Q (.bl (a1f ws a)) M
 | _=>False
theorem b2U {P w K base f fd} {mg:Str→Option Value} {n:Nat}  (F:Fun K "can_out" "can_out" a5C f fd) (hm:mg "can_out"=some (.ref f)) (hb:a0G K fd ["word","at"] []) (Z:Zs K mg) :Df P w K mg base (n+1) "can_out" ["word","at"] a2F:=by
 refine F.dfn hm hb b2H (by unfold a2F;walk_at "ln") ⟨_,fun cdv A outer s H E hr=>(@a0b _ _ _ _ _ (@s_if _ _ _ _ _ _ _ _ (@a6X _ _ _ _ (@a5L _ _ _ _ _ _ _ _ _ _ _ _ a4S a3l a0d (@hv _ 1 _ _ (by rfl) (by walk_at "3") (by decide) (by decide)) (@a0m _ _ _ _ _ _ _ _ a0M (@a0l _ _ _ _ _ _ _ _ _ a0p Z.b_len PySem.boot_len (@a0a _ _ _ _ _ (@hv _ 0 _ _ (by rfl) (by walk_at "3") (by decide) (by decide)) a0e (by rfl)) (by rfl) (by decide) (by decide) (by rfl) (by rfl)) a0d) (by with_unfolding_all rfl))) (@a0g _ _ _ (@a0r _ _ _ _ h_bl)) a0q) (@a0g _ _ _ (@a0r _ _ _ _ (@a4N _ _ _ _ _ _ _ _ (@a0y _ hr.units) (@h_ix _ _ _ _ _ _ (@hv _ 0 _ _ (by rfl) (by walk_at "3") (by decide) (by decide)) (@hv _ 1 _ _ (by rfl) (by walk_at "3") (by decide) (by decide)) (by intro _ _;rfl)) (@h_un _ _ _ _ _ _ a0J (@h_ix _ _ _ _ _ _ (@hv _ 0 _ _ (by rfl) (by walk_at "3") (by decide) (by decide)) (@a0m _ _ _ _ _ _ _ _ a0o (@hv _ 1 _ _ (by rfl) (by walk_at "3") (by decide) (by decide)) a0d) (by intro _ _;rfl))) (@a0k _ _ (by decide) (by decide)))))),fun ts M Q h=>?_⟩
 unfold a2F at h
 split at h
 ·rename_i w a
  obtain⟨ws,rfl,sm,h⟩:=h
  unfold a1f at h
  walk_at "rd"
  by_cases c:0≤a∧a < (ws.length:Int) - 1
  ·rw[decide_eq_true c,Bool.true_and] at h
   rw[if_pos c.1,if_neg (by lia)]
   simp only[a7t (w:=ws) (a:=a) c.1 (by lia),a7t (w:=ws) (a:=a+1) (by lia) (by lia)]
   exact⟨rfl,by rw[a3W];lia,a0f h⟩
  ·rw[decide_eq_false c,Bool.false_and] at h
   exact ite2 (fun c1=>ite2 (fun c2=>a0f h) (fun c2=>absurd ⟨c1,by lia⟩ c)) (fun c1=>a0f h)
 ·exact h.elim
noncomputable def a5r:Sp3:=fun ts M Q=>match ts with
 | [.int a,.int l]=>Q (.int (sgnL a l)) M
 | _=>False
theorem b4q {P w K base f fd} {mg:Str→Option Value} {n:Nat}  (F:Fun K "signed" "signed" a6s f fd) (hm:mg "signed"=some (.ref f)) (hb:a0G K fd ["number","letter"] []) (Z:Zs K mg) :Df P w K mg base (n+1) "signed" ["number","letter"] a5r:=by
 refine F.dfn hm hb b3T (by unfold a5r;walk_at "ln") ⟨_,fun cdv A outer s H E hr=>(@a0b _ _ _ _ _ (@s_if _ _ _ _ _ _ _ _ (@a0n _ _ _ _ _ _ _ _ a3l (@hv _ 1 _ _ (by rfl) (by walk_at "3") (by decide) (by decide)) a0d (@a0k _ _ (by decide) (by decide))) (@a0g _ _ _ (@a0r _ _ _ _ (@h_un _ _ _ _ _ _ a0J (@a0l _ _ _ _ _ _ _ _ _ a0t Z.b_abs PyProof.Rows.boot_abs (@a0a _ _ _ _ _ (@hv _ 0 _ _ (by rfl) (by walk_at "3") (by decide) (by decide)) a0e (by rfl)) (by rfl) (by decide) (by decide) (by rfl) (by rfl))))) a0q) (@a0g _ _ _ (@a0r _ _ _ _ (@a0l _ _ _ _ _ _ _ _ _ a0t Z.b_abs PyProof.Rows.boot_abs (@a0a _ _ _ _ _ (@hv _ 0 _ _ (by rfl) (by walk_at "3") (by decide) (by decide)) a0e (by rfl)) (by rfl) (by decide) (by decide) (by rfl) (by rfl))))),fun ts M Q h=>?_⟩
 unfold a5r at h
 split at h
 ·rename_i a l
  unfold sgnL at h
  walk_at "rd"
  refine ite2 (fun c=>?_) (fun c=>?_)
  ·rw[if_pos c] at h;exact a0f h
  ·rw[if_neg c] at h;exact a0f h
 ·exact h.elim
noncomputable def a2m:Sp3:=fun ts M Q=>match ts with
 | [.tup w,.int a]=>∃ ws:List Int,w=ws.map .int∧Sm ws∧0≤a∧a < (ws.length:Int) - 2∧Q (.tup ((a2S ws a).map .int)) M
 | _=>False
theorem a8u {P w K base f fd} {mg:Str→Option Value} {n:Nat}  (F:Fun K "with_three" "with_three" a3b f fd) (hm:mg "with_three"=some (.ref f)) (hb:a0G K fd ["word","at"] []) (Z:Zs K mg) (D_signed:Df P w K mg base n "signed" ["number","letter"] a5r):Df P w K mg base (n+1) "with_three" ["word","at"] a2m:=by
 refine F.dfn hm hb a2v (by unfold a2m;walk_at "ln") ⟨_,fun cdv A outer s H E hr=>(@a0b _ _ _ _ _ (@a0C _ _ _ _ 2 _ _ (@h_ix _ _ _ _ _ _ (@hv _ 0 _ _ (by rfl) (by walk_at "3") (by decide) (by decide)) (@hv _ 1 _ _ (by rfl) (by walk_at "3") (by decide) (by decide)) (by intro _ _;rfl)) a2v.nd (by rfl) (by walk_at "2") (by rfl) (by walk_at "4")) (@a0b _ _ _ _ _ (@a0C _ _ _ _ 3 _ _ (@h_ix _ _ _ _ _ _ (@hv _ 0 _ _ (by rfl) (by walk_at "3") (by decide) (by decide)) (@a0m _ _ _ _ _ _ _ _ a0o (@hv _ 1 _ _ (by rfl) (by walk_at "3") (by decide) (by decide)) a0d) (by intro _ _;rfl)) a2v.nd (by rfl) (by walk_at "2") (by rfl) (by walk_at "4")) (@a0b _ _ _ _ _ (@a0C _ _ _ _ 4 _ _ (@h_ix _ _ _ _ _ _ (@hv _ 0 _ _ (by rfl) (by walk_at "3") (by decide) (by decide)) (@a0m _ _ _ _ _ _ _ _ a0o (@hv _ 1 _ _ (by rfl) (by walk_at "3") (by decide) (by decide)) a0d) (by intro _ _;rfl)) a2v.nd (by rfl) (by walk_at "2") (by rfl) (by walk_at "4")) (@a0g _ _ _ (@a0r _ _ _ _ (@a0m _ _ _ _ _ _ _ _ a0o (@a0m _ _ _ _ _ _ _ _ a0o (@a0N _ _ _ _ _ _ _ _ _ (@hv _ 0 _ _ (by rfl) (by walk_at "3") (by decide) (by decide)) a1p (@a1c _ _ _ (@hv _ 1 _ _ (by rfl) (by walk_at "3") (by decide) (by decide)))) (@a0R _ _ _ _ _ (@a0a _ _ _ _ _ (@a0j _ _ _ _ _ _ _ _ _ _ D_signed hr (@a0a _ _ _ _ _ (@hv _ 3 _ _ (by rfl) (by walk_at "3") (by decide) (by decide)) (@a0a _ _ _ _ _ (@hv _ 4 _ _ (by rfl) (by walk_at "3") (by decide) (by decide)) a0e (by rfl)) (by rfl)) (by rfl) (by decide) (by rfl) (by rfl)) (@a0a _ _ _ _ _ (@a0j _ _ _ _ _ _ _ _ _ _ D_signed hr (@a0a _ _ _ _ _ (@hv _ 2 _ _ (by rfl) (by walk_at "3") (by decide) (by decide)) (@a0a _ _ _ _ _ (@hv _ 3 _ _ (by rfl) (by walk_at "3") (by decide) (by decide)) a0e (by rfl)) (by rfl)) (by rfl) (by decide) (by rfl) (by rfl)) (@a0a _ _ _ _ _ (@a0j _ _ _ _ _ _ _ _ _ _ D_signed hr (@a0a _ _ _ _ _ (@hv _ 3 _ _ (by rfl) (by walk_at "3") (by decide) (by decide)) (@a0a _ _ _ _ _ (@hv _ 2 _ _ (by rfl) (by walk_at "3") (by decide) (by decide)) a0e (by rfl)) (by rfl)) (by rfl) (by decide) (by rfl) (by rfl)) a0e (by rfl)) (by rfl)) (by rfl)))) (@a0N _ _ _ _ _ _ _ _ _ (@hv _ 0 _ _ (by rfl) (by walk_at "3") (by decide) (by decide)) (@a1c _ _ _ (@a0m _ _ _ _ _ _ _ _ a0o (@hv _ 1 _ _ (by rfl) (by walk_at "3") (by decide) (by decide)) a0d)) a1p))))))),fun ts M Q h=>?_⟩
 unfold a2m at h
 split at h
 ·rename_i w a
  obtain⟨ws,rfl,sm,h0,h1,h⟩:=h
  walk_at "rd"
  simp only[a7t (w:=ws) (a:=a) h0 (by lia),a7t (w:=ws) (a:=a+1) (by lia) (by lia),a7t (w:=ws) (a:=a+2) (by lia) (by lia)]
  simp only[a4K _ _ h0,a1Y _ _ (show 0≤a+3 by lia),← List.map_take,← List.map_drop,List.length_map]
  have hl:=sm.1
  refine⟨by decide,a0A (by rw[List.length_take];lia),a0A (by rw[List.length_take,List.length_drop];lia),?_⟩
  unfold a2S at h
  rw[List.map_append,List.map_append] at h
  exact a0f h
 ·exact h.elim
noncomputable def a4v:Sp3:=fun ts M Q=>match ts with
 | [.int n,.tup w,.int a,.int l]=>∃ ws:List Int,w=ws.map .int∧Sm ws∧0≤a∧a≤(ws.length:Int)∧LetOK n l∧ws.length+2≤4000∧Q (.tup ((inL ws a l).map .int)) M
 | _=>False
theorem b2O {P w K base f fd} {mg:Str→Option Value} {n:Nat}  (F:Fun K "with_in" "with_in" a5y f fd) (hm:mg "with_in"=some (.ref f)) (hb:a0G K fd ["strands","word","at","letter"] []) (Z:Zs K mg) (D_is_letter:Df P w K mg base n "is_letter" ["strands","letter"] a1m):Df P w K mg base (n+1) "with_in" ["strands","word","at","letter"] a4v:=by
 obtain⟨tk_MOST_LETTERS_IN_STEPS,c_MOST_LETTERS_IN_STEPS⟩:=Z.c_MOST_LETTERS_IN_STEPS
 refine F.dfn hm hb b2D (by unfold a4v;walk_at "ln") ⟨_,fun cdv A outer s H E hr=>(@a0b _ _ _ _ _ (@s_if _ _ _ _ _ _ _ _ (@HW.ht _ _ _ (@w_or _ _ _ _ _ _ _ (@a6X _ _ _ _ (@a5L _ _ _ _ _ _ _ _ _ _ _ _ a4S a4S a0d (@hv _ 2 _ _ (by rfl) (by walk_at "3") (by decide) (by decide)) (@a0l _ _ _ _ _ _ _ _ _ a0p Z.b_len PySem.boot_len (@a0a _ _ _ _ _ (@hv _ 1 _ _ (by rfl) (by walk_at "3") (by decide) (by decide)) a0e (by rfl)) (by rfl) (by decide) (by decide) (by rfl) (by rfl)) (by with_unfolding_all rfl))) (@a6y _ _ _ _ (@a6X _ _ _ _ (@a4p _ _ _ (@a0j _ _ _ _ _ _ _ _ _ _ D_is_letter hr (@a0a _ _ _ _ _ (@hv _ 0 _ _ (by rfl) (by walk_at "3") (by decide) (by decide)) (@a0a _ _ _ _ _ (@hv _ 3 _ _ (by rfl) (by walk_at "3") (by decide) (by decide)) a0e (by rfl)) (by rfl)) (by rfl) (by decide) (by rfl) (by rfl)) (by intro _;rfl)))))) (@a0g _ _ _ a1X) a0q) (@a0b _ _ _ _ _ (@s_if _ _ _ _ _ _ _ _ (@a0n _ _ _ _ _ _ _ _ a3w (@a0m _ _ _ _ _ _ _ _ a0o (@a0l _ _ _ _ _ _ _ _ _ a0p Z.b_len PySem.boot_len (@a0a _ _ _ _ _ (@hv _ 1 _ _ (by rfl) (by walk_at "3") (by decide) (by decide)) a0e (by rfl)) (by rfl) (by decide) (by decide) (by rfl) (by rfl)) a0d) (@a5e _ _ _ _ _ c_MOST_LETTERS_IN_STEPS (by rfl) (by decide)) (@a0k _ _ (by decide) (by decide))) (@a0g _ _ _ a1X) a0q) (@a0g _ _ _ (@a0r _ _ _ _ (@a0m _ _ _ _ _ _ _ _ a0o (@a0m _ _ _ _ _ _ _ _ a0o (@a0N _ _ _ _ _ _ _ _ _ (@hv _ 1 _ _ (by rfl) (by walk_at "3") (by decide) (by decide)) a1p (@a1c _ _ _ (@hv _ 2 _ _ (by rfl) (by walk_at "3") (by decide) (by decide)))) (@a0R _ _ _ _ _ (@a0a _ _ _ _ _ (@hv _ 3 _ _ (by rfl) (by walk_at "3") (by decide) (by decide)) (@a0a _ _ _ _ _ (@h_un _ _ _ _ _ _ a0J (@hv _ 3 _ _ (by rfl) (by walk_at "3") (by decide) (by decide))) a0e (by rfl)) (by rfl)))) (@a0N _ _ _ _ _ _ _ _ _ (@hv _ 1 _ _ (by rfl) (by walk_at "3") (by decide) (by decide)) (@a1c _ _ _ (@hv _ 2 _ _ (by rfl) (by walk_at "3") (by decide) (by decide))) a1p)))))),fun ts M Q h=>?_⟩
 unfold a4v at h
 split at h
 ·rename_i n w a l
  obtain⟨ws,rfl,sm,h0,h1,hl,h2,h⟩:=h
  have hlen:=sm.1
  have e:a5c n l=true:=by
   unfold LetOK at hl
   unfold a5c
   simp only[decide_eq_true_eq,Bool.and_eq_true]
   lia
  refine a0c fun K1 hK1=>?_
  walk_at "rd"
  rw[if_pos h0,if_neg (by lia)]
  unfold a1m
  dsimp only
  rw[e]
  suffices hK:K1 [some (.int n),some (.tup (ws.map .int)),some (.int a),some (.int l)] M by exact hK
  rw[hK1]
  refine a0c fun K2 hK2=>?_
  walk_at "rd"
  rw[if_neg (by lia),hK2]
  walk_at "rd"
  simp only[a4K _ _ h0,a1Y _ _ h0,← List.map_take,← List.map_drop,List.length_map]
  unfold inL at h
  rw[List.map_append,List.map_append] at h
  exact⟨by decide,a0A (by rw[List.length_take];lia),a0A (by rw[List.length_take,List.length_drop];lia),a0f h⟩
 ·exact h.elim
theorem b0p (a b c:Addr):a7w [("far",a),("three",b),("out",c)] "far"=some a:=by rfl
theorem a7g (a b c:Addr):a7w [("far",a),("three",b),("out",c)] "three"=some b:=by rfl
theorem b0o (a b c:Addr):a7w [("far",a),("three",b),("out",c)] "out"=some c:=by rfl
noncomputable def a8e:Sp3:=fun ts M Q=>match ts with
 | [.int n,.tup w,.tup [.str z,.int a]]=>∃ ws:List Int,w=ws.map .int∧Sm ws∧((z="far"∧a0Z ws a=true∧Q (.tup ((a4h ws a.toNat).map .int)) M)∨(z="three"∧a0z ws a=true∧Q (.tup ((a2S ws a).map .int)) M)∨(z="out"∧a1f ws a=true∧Q (.tup ((ws.take a.toNat++ws.drop (a+2).toNat).map .int)) M))
 | [.int n,.tup w,.tup [.str z,.int a,.int l]]=>z="in"∧∃ ws:List Int,w=ws.map .int∧Sm ws∧0≤a∧a≤(ws.length:Int)∧LetOK n l∧ws.length+2≤4000∧Q (.tup ((inL ws a l).map .int)) M
 | _=>False
theorem b8v {P w K base f fd} {mg:Str→Option Value} {n:Nat}  (F:Fun K "done" "done" b1E f fd) (hm:mg "done"=some (.ref f)) (hb:a0G K fd ["strands","word","step"] []) (Z:Zs K mg) {dC fC1 fC2 fC3:Addr} (CN:CanN P w K mg dC fC1 fC2 fC3) (D_with_in:Df P w K mg base n "with_in" ["strands","word","at","letter"] a4v) (D_can_far:Df P w K mg base n "can_far" ["word","at"] a2G) (D_can_three:Df P w K mg base n "can_three" ["word","at"] a1H) (D_can_out:Df P w K mg base n "can_out" ["word","at"] a2F) (D_exchanged:Df P w K mg base n "exchanged" ["row","at"] a2Y) (D_with_three:Df P w K mg base n "with_three" ["word","at"] a2m):Df P w K mg base (n+1) "done" ["strands","word","step"] a8e:=by
 refine F.dfn hm hb b3W (by unfold a8e;walk_at "ln") ⟨_,fun cdv A outer s H E hr=>(@a0b _ _ _ _ _ (@s_if _ _ _ _ _ _ _ _ (@HW.ht _ _ _ (@a7U _ _ _ _ _ _ _ (@a0n _ _ _ _ _ _ _ _ (@a0y _ hr.units) (@a0l _ _ _ _ _ _ _ _ _ a0p Z.b_len PySem.boot_len (@a0a _ _ _ _ _ (@hv _ 2 _ _ (by rfl) (by walk_at "3") (by decide) (by decide)) a0e (by rfl)) (by rfl) (by decide) (by decide) (by rfl) (by rfl)) a0d (@a0k _ _ (by decide) (by decide))) (@a6d _ _ _ _ (@a0n _ _ _ _ _ _ _ _ (@a0y _ hr.units) (@h_ix _ _ _ _ _ _ (@hv _ 2 _ _ (by rfl) (by walk_at "3") (by decide) (by decide)) a0d (by intro _ _;rfl)) a0P (@a0k _ _ (by decide) (by decide)))))) (@a0g _ _ _ (@a0r _ _ _ _ (@a0j _ _ _ _ _ _ _ _ _ _ D_with_in hr (@a0a _ _ _ _ _ (@hv _ 0 _ _ (by rfl) (by walk_at "3") (by decide) (by decide)) (@a0a _ _ _ _ _ (@hv _ 1 _ _ (by rfl) (by walk_at "3") (by decide) (by decide)) (@a0a _ _ _ _ _ (@h_ix _ _ _ _ _ _ (@hv _ 2 _ _ (by rfl) (by walk_at "3") (by decide) (by decide)) a0d (by intro _ _;rfl)) (@a0a _ _ _ _ _ (@h_ix _ _ _ _ _ _ (@hv _ 2 _ _ (by rfl) (by walk_at "3") (by decide) (by decide)) a0d (by intro _ _;rfl)) a0e (by rfl)) (by rfl)) (by rfl)) (by rfl)) (by rfl) (by decide) (by rfl) (by rfl)))) a0q) (@a0b _ _ _ _ _ (@s_if _ _ _ _ _ _ _ _ (@HW.ht _ _ _ (@w_or _ _ _ _ _ _ _ (@a0n _ _ _ _ _ _ _ _ (@a4m _ hr.units) (@a0l _ _ _ _ _ _ _ _ _ a0p Z.b_len PySem.boot_len (@a0a _ _ _ _ _ (@hv _ 2 _ _ (by rfl) (by walk_at "3") (by decide) (by decide)) a0e (by rfl)) (by rfl) (by decide) (by decide) (by rfl) (by rfl)) a0d (@a0k _ _ (by decide) (by decide))) (@a6y _ _ _ _ (@a0n _ _ _ _ _ _ _ _ (@a9s _ _ _ CN.can) (@h_ix _ _ _ _ _ _ (@hv _ 2 _ _ (by rfl) (by walk_at "3") (by decide) (by decide)) a0d (by intro _ _;rfl)) (@b8N _ _ _ _ CN.mc (by rfl) (by decide)) rfl)))) (@a0g _ _ _ a1X) a0q) (@a0b _ _ _ _ _ (@a0C _ _ _ _ 3 _ _ (@h_ix _ _ _ _ _ _ (@hv _ 2 _ _ (by rfl) (by walk_at "3") (by decide) (by decide)) a0d (by intro _ _;rfl)) b3W.nd (by rfl) (by walk_at "2") (by rfl) (by walk_at "4")) (@a0b _ _ _ _ _ (@s_if _ _ _ _ _ _ _ _ (@a6X _ _ _ _ (@a4p _ _ _ (@b4R _ _ _ ([(fC1,a2G),(fC2,a1H),(fC3,a2F)]) _ _ _ _ _ _ _ _ _ _ _ CN.can CN.mc CN.kp (by intro q hq;simp only[List.mem_cons,List.not_mem_nil,or_false] at hq;rcases hq with rfl | rfl | rfl<;>first | exact D_can_far.fnAt CN.m1 | exact D_can_three.fnAt CN.m2 | exact D_can_out.fnAt CN.m3) hr (@h_ix _ _ _ _ _ _ (@hv _ 2 _ _ (by rfl) (by walk_at "3") (by decide) (by decide)) a0d (by intro _ _;rfl)) (@a0a _ _ _ _ _ (@hv _ 1 _ _ (by rfl) (by walk_at "3") (by decide) (by decide)) (@a0a _ _ _ _ _ (@hv _ 3 _ _ (by rfl) (by walk_at "3") (by decide) (by decide)) a0e (by rfl)) (by rfl)) (by intro _ _;rfl) (by rfl) (by decide) (by rfl) (by rfl)) (by intro _;rfl))) (@a0g _ _ _ a1X) a0q) (@a0b _ _ _ _ _ (@s_if _ _ _ _ _ _ _ _ (@a0n _ _ _ _ _ _ _ _ (@a0y _ hr.units) (@h_ix _ _ _ _ _ _ (@hv _ 2 _ _ (by rfl) (by walk_at "3") (by decide) (by decide)) a0d (by intro _ _;rfl)) a0P (@a0k _ _ (by decide) (by decide))) (@a0g _ _ _ (@a0r _ _ _ _ (@a0j _ _ _ _ _ _ _ _ _ _ D_exchanged hr (@a0a _ _ _ _ _ (@hv _ 1 _ _ (by rfl) (by walk_at "3") (by decide) (by decide)) (@a0a _ _ _ _ _ (@hv _ 3 _ _ (by rfl) (by walk_at "3") (by decide) (by decide)) a0e (by rfl)) (by rfl)) (by rfl) (by decide) (by rfl) (by rfl)))) a0q) (@a0b _ _ _ _ _ (@s_if _ _ _ _ _ _ _ _ (@a0n _ _ _ _ _ _ _ _ (@a0y _ hr.units) (@h_ix _ _ _ _ _ _ (@hv _ 2 _ _ (by rfl) (by walk_at "3") (by decide) (by decide)) a0d (by intro _ _;rfl)) a0P (@a0k _ _ (by decide) (by decide))) (@a0g _ _ _ (@a0r _ _ _ _ (@a0j _ _ _ _ _ _ _ _ _ _ D_with_three hr (@a0a _ _ _ _ _ (@hv _ 1 _ _ (by rfl) (by walk_at "3") (by decide) (by decide)) (@a0a _ _ _ _ _ (@hv _ 3 _ _ (by rfl) (by walk_at "3") (by decide) (by decide)) a0e (by rfl)) (by rfl)) (by rfl) (by decide) (by rfl) (by rfl)))) a0q) (@a0g _ _ _ (@a0r _ _ _ _ (@a0m _ _ _ _ _ _ _ _ a0o (@a0N _ _ _ _ _ _ _ _ _ (@hv _ 1 _ _ (by rfl) (by walk_at "3") (by decide) (by decide)) a1p (@a1c _ _ _ (@hv _ 3 _ _ (by rfl) (by walk_at "3") (by decide) (by decide)))) (@a0N _ _ _ _ _ _ _ _ _ (@hv _ 1 _ _ (by rfl) (by walk_at "3") (by decide) (by decide)) (@a1c _ _ _ (@a0m _ _ _ _ _ _ _ _ a0o (@hv _ 3 _ _ (by rfl) (by walk_at "3") (by decide) (by decide)) a0d)) a1p)))))))))),fun ts M Q h=>?_⟩
 unfold a8e at h
 split at h
 ·rename_i n w z a
  obtain⟨ws,rfl,sm,h⟩:=h
  refine a0c fun K1 hK1=>?_
  walk_at "rd"
  rw[if_neg (by decide),hK1]
  refine a0c fun K2 hK2=>?_
  have key:∃ f,a7w [("far",fC1),("three",fC2),("out",fC3)] z=some f:=by
   rcases h with ⟨rfl,_⟩ | ⟨rfl,_⟩ | ⟨rfl,_⟩
   ·exact⟨_,b0p _ _ _⟩
   ·exact⟨_,a7g _ _ _⟩
   ·exact⟨_,b0o _ _ _⟩
  obtain⟨f0,hf0⟩:=key
  walk_at "rd"
  rw[if_neg (by decide),hf0,if_neg (by simp),hK2]
  refine a5u fun K3 hK3=>?_
  rcases h with ⟨rfl,hc,h⟩ | ⟨rfl,hc,h⟩ | ⟨rfl,hc,h⟩
  ·walk_at "rd"
   refine⟨_,b0p _ _ _,a2G,.head _,ws,rfl,sm,?_⟩
   rw[hc]
   suffices hK:K3 [some (.int n),some (.tup (ws.map .int)),some (.tup [.str "far",.int a]),some (.int a)] M by exact hK
   rw[hK3]
   refine a0c fun K4 hK4=>?_
   walk_at "rd"
   have hb:0≤a∧a < (ws.length:Int) - 1:=by
    unfold a0Z at hc
    exact of_decide_eq_true (Bool.and_eq_true_iff.mp hc).1
   have hlen:=sm.1
   refine⟨rfl,rfl,Nat.zero_le _,?_⟩
   rw[if_pos (a0I _ rfl)]
   exact⟨ws,rfl,hb.1,by lia,by lia,a0f h⟩
  ·walk_at "rd"
   refine⟨_,a7g _ _ _,a1H,.tail _ (.head _),ws,rfl,sm,?_⟩
   rw[hc]
   suffices hK:K3 [some (.int n),some (.tup (ws.map .int)),some (.tup [.str "three",.int a]),some (.int a)] M by exact hK
   rw[hK3]
   refine a0c fun K4 hK4=>?_
   walk_at "rd"
   have hb:0≤a∧a < (ws.length:Int) - 2:=by
    unfold a0z at hc
    exact of_decide_eq_true (Bool.and_eq_true_iff.mp hc).1
   refine⟨rfl,rfl,Nat.zero_le _,?_⟩
   rw[if_neg (by decide +kernel),hK4]
   refine a0c fun K5 hK5=>?_
   walk_at "rd"
   refine⟨rfl,rfl,Nat.zero_le _,?_⟩
   rw[if_pos (a0I _ rfl)]
   exact⟨ws,rfl,sm,hb.1,by lia,a0f h⟩
  ·walk_at "rd"
   refine⟨_,b0o _ _ _,a2F,.tail _ (.tail _ (.head _)),ws,rfl,sm,?_⟩
   rw[hc]
   suffices hK:K3 [some (.int n),some (.tup (ws.map .int)),some (.tup [.str "out",.int a]),some (.int a)] M by exact hK
   rw[hK3]
   refine a0c fun K4 hK4=>?_
   walk_at "rd"
   have hb:0≤a∧a < (ws.length:Int) - 1:=by
    unfold a1f at hc
    exact of_decide_eq_true (Bool.and_eq_true_iff.mp hc).1
   have hlen:=sm.1
   refine⟨rfl,rfl,Nat.zero_le _,?_⟩
   rw[if_neg (by decide +kernel),hK4]
   refine a0c fun K5 hK5=>?_
   walk_at "rd"
   refine⟨rfl,rfl,Nat.zero_le _,?_⟩
   rw[if_neg (by decide +kernel),hK5]
   walk_at "rd"
   simp only[a4K _ _ hb.1,a1Y _ _ (show 0≤a+2 by lia),← List.map_take,← List.map_drop,List.length_map]
   rw[List.map_append] at h
   exact⟨a0A (by rw[List.length_take,List.length_drop];lia),a0f h⟩
 ·rename_i n w z a l
  obtain⟨rfl,ws,rfl,sm,h0,h1,hl,h2,h⟩:=h
  refine a0c fun K1 hK1=>?_
  walk_at "rd"
  rw[if_pos (by decide)]
  refine⟨rfl,rfl,Nat.zero_le _,?_⟩
  rw[if_pos (a0I _ rfl)]
  exact⟨ws,rfl,sm,h0,h1,hl,h2,a0f h⟩
 ·exact h.elim
noncomputable def c1o (n:Int) (ws:List Int) (st:List T) (r:List Int):Prop :=
 (∃ a,st=[.str "far",.int a]∧a0Z ws a=true∧r=a4h ws a.toNat)∨(∃ a,st=[.str "three",.int a]∧a0z ws a=true∧r=a2S ws a) ∨
 (∃ a,st=[.str "out",.int a]∧a1f ws a=true∧r=ws.take a.toNat++ws.drop (a+2).toNat)∨(∃ a l,st=[.str "in",.int a,.int l]∧0≤a∧a≤(ws.length:Int)∧LetOK n l∧ws.length+2≤4000∧r=inL ws a l)
noncomputable def a4w:Sp3:=fun ts M Q=>match ts with
 | [.int n,.tup w,.tup st]=>∃ ws r:List Int,w=ws.map .int∧ws.length≤4000∧1≤n∧n≤6∧WordOK n ws∧c1o n ws st r∧Q (.tup (r.map .int)) M
 | _=>False
theorem b2P {P w K base f fd} {mg:Str→Option Value} {n:Nat}  (F:Fun K "stepped" "stepped" a5z f fd) (hm:mg "stepped"=some (.ref f)) (hb:a0G K fd ["strands","word","step"] []) (Z:Zs K mg) (D_looked_word:Df P w K mg base n "looked_word" ["strands","word"] a2d) (D_done:Df P w K mg base n "done" ["strands","word","step"] a8e):Df P w K mg base (n+1) "stepped" ["strands","word","step"] a4w:=by
 refine F.dfn hm hb b2E (by unfold a4w;walk_at "ln") ⟨_,fun cdv A outer s H E hr=>(@a0b _ _ _ _ _ (@a4c _ _ _ _ (@a0j _ _ _ _ _ _ _ _ _ _ D_looked_word hr (@a0a _ _ _ _ _ (@hv _ 0 _ _ (by rfl) (by walk_at "3") (by decide) (by decide)) (@a0a _ _ _ _ _ (@hv _ 1 _ _ (by rfl) (by walk_at "3") (by decide) (by decide)) a0e (by rfl)) (by rfl)) (by rfl) (by decide) (by rfl) (by rfl)) (by rfl)) (@a0g _ _ _ (@a0r _ _ _ _ (@a0j _ _ _ _ _ _ _ _ _ _ D_done hr (@a0a _ _ _ _ _ (@hv _ 0 _ _ (by rfl) (by walk_at "3") (by decide) (by decide)) (@a0a _ _ _ _ _ (@hv _ 1 _ _ (by rfl) (by walk_at "3") (by decide) (by decide)) (@a0a _ _ _ _ _ (@hv _ 2 _ _ (by rfl) (by walk_at "3") (by decide) (by decide)) a0e (by rfl)) (by rfl)) (by rfl)) (by rfl) (by decide) (by rfl) (by rfl))))),fun ts M Q h=>?_⟩
 unfold a4w at h
 split at h
 ·rename_i n w st
  obtain⟨ws,r,rfl,hl,h1,h6,hw,hd,h⟩:=h
  have sm:Sm ws:=.of hl h6 hw
  walk_at "rd"
  refine⟨ws,rfl,hl,h1,h6,hw,?_⟩
  rcases hd with ⟨a,rfl,hc,rfl⟩ | ⟨a,rfl,hc,rfl⟩ | ⟨a,rfl,hc,rfl⟩ | ⟨a,l,rfl,h0,h2,hl,h3,rfl⟩
  ·exact⟨ws,rfl,sm,.inl ⟨rfl,hc,a0f h⟩⟩
  ·exact⟨ws,rfl,sm,.inr (.inl ⟨rfl,hc,a0f h⟩)⟩
  ·exact⟨ws,rfl,sm,.inr (.inr ⟨rfl,hc,a0f h⟩)⟩
  ·exact⟨rfl,ws,rfl,sm,h0,h2,hl,h3,a0f h⟩
 ·exact h.elim
noncomputable def a2E:Sp3:=fun ts M Q=>match ts with
 | [.int l]=>Q (.int (sgI l)) M
 | _=>False
theorem b2Q {P w K base f fd} {mg:Str→Option Value} {n:Nat}  (F:Fun K "sign_of" "sign_of" a5A f fd) (hm:mg "sign_of"=some (.ref f)) (hb:a0G K fd ["letter"] []) (Z:Zs K mg) :Df P w K mg base (n+1) "sign_of" ["letter"] a2E:=by
 refine F.dfn hm hb b2F (by unfold a2E;walk_at "ln") ⟨_,fun cdv A outer s H E hr=>(@a0b _ _ _ _ _ (@s_if _ _ _ _ _ _ _ _ (@a0n _ _ _ _ _ _ _ _ a3l (@hv _ 0 _ _ (by rfl) (by walk_at "3") (by decide) (by decide)) a0d (@a0k _ _ (by decide) (by decide))) (@a0g _ _ _ (@a0r _ _ _ _ (@h_un _ _ _ _ _ _ a0J a0d))) a0q) (@a0g _ _ _ (@a0r _ _ _ _ a0d))),fun ts M Q h=>?_⟩
 unfold a2E at h
 split at h
 ·rename_i l
  unfold sgI at h
  walk_at "rd"
  refine ite2 (fun c=>?_) (fun c=>?_)
  ·rw[if_pos c] at h;exact a0f h
  ·rw[if_neg c] at h;exact a0f h
 ·exact h.elim
noncomputable def a6p:Sp3:=fun ts M Q=>match ts with
 | [.tup [.int n,.tup w]]=>∃ ws:List Int,w=ws.map .int∧PlOK n ws∧∀ M',Sub M M'→Q (.int ((ws.map sgI).sum)) M'
 | _=>False
theorem b6i {P w K base f fd} {mg:Str→Option Value} {n:Nat}  (F:Fun K "turns" "turns" a6G f fd) (hm:mg "turns"=some (.ref f)) (hb:a0G K fd ["plait"] []) (Z:Zs K mg) (D_looked:Df P w K mg base n "looked" ["plait"] a2K) (D_sign_of:Df P w K mg base n "sign_of" ["letter"] a2E):Df P w K mg base (n+1) "turns" ["plait"] a6p:=by
 refine F.dfn hm hb b5H (by unfold a6p;walk_at "ln") ⟨_,fun cdv A outer s H E hr=>(@a0b _ _ _ _ _ (@a4c _ _ _ _ (@a0j _ _ _ _ _ _ _ _ _ _ D_looked hr (@a0a _ _ _ _ _ (@hv _ 0 _ _ (by rfl) (by walk_at "3") (by decide) (by decide)) a0e (by rfl)) (by rfl) (by decide) (by rfl) (by rfl)) (by rfl)) (@a0g _ _ _ (@a0r _ _ _ _ (@a0l _ _ _ _ _ _ _ _ _ (@b5p _ rfl) Z.b_sum PyProof.Rows.boot_sum (@a0a _ _ _ _ _ (@a6j _ _ _ _ _ _ _ _ _ _ _ _ _ _ rfl (@a5K _ _ _ _ (@h_ix _ _ _ _ _ _ (@hv _ 0 _ _ (by rfl) (by walk_at "3") (by decide) (by decide)) a0d (by intro _ _;rfl))) (@a1z _ (a0h a6G) _ ["plait"] ["letter"] [none] (by decide +kernel) rfl rfl) a5j (fun _ _ _ _ _=>@a1T _ _ 0 _ (show List.Nodup (["letter"]:List Str) by decide +kernel) rfl (Or.inl rfl) (Or.inr rfl)) (fun _ _ _ _ _=>a7A) (fun _ _ _ _ _=>(@a0j _ _ _ _ _ _ _ _ _ _ D_sign_of hr (@a0a _ _ _ _ _ (@hv _ 0 _ _ (by rfl) (by walk_at "3") (by decide) (by decide)) a0e (by rfl)) (by rfl) (by decide) (by rfl) (by rfl))) (by intro _;rfl)) a0e (by rfl)) (by rfl) (by decide) (by decide) (by rfl) (by rfl))))),fun ts M Q h=>?_⟩
 unfold a6p at h
 split at h
 ·rename_i n w
  obtain⟨ws,rfl,ok,h⟩:=h
  walk_at "rd"
  refine⟨ws,rfl,ok,?_⟩
  dsimp only
  refine⟨fun i ys M'=>ys=((ws.take i).map sgI).map T.int∧M'=M,⟨rfl,rfl⟩,fun _ _ _ _=>trivial,a0V (by have:=ok.2.2.1;lia),?_,?_⟩
  ·rintro i x ys M' hx ⟨rfl,rfl⟩
   obtain⟨l,hx2,rfl⟩:=a1q hx
   refine⟨?_,rfl⟩
   rw[← a1L sgI hx2,List.map_append];rfl
  ·rintro ys M' ⟨rfl,rfl⟩ p hp
   rw[List.take_length,a6W]
   exact a0f (h _ (Sub.new hp))
 ·exact h.elim
noncomputable def a2n:Sp3:=fun ts M Q=>match ts with
 | [.tup [.int n,.tup w]]=>∃ ws:List Int,w=ws.map .int∧ws.length≤16∧a2f n ws .round=.ok∧Q (ptT (mvTo n ws .round)) M
 | _=>False
theorem a8v {P w K base f fd} {mg:Str→Option Value} {n:Nat}  (F:Fun K "with_round" "with_round" a3c f fd) (hm:mg "with_round"=some (.ref f)) (hb:a0G K fd ["plait"] []) (Z:Zs K mg) :Df P w K mg base (n+1) "with_round" ["plait"] a2n:=by
 refine F.dfn hm hb a8h (by unfold a2n;walk_at "ln") ⟨_,fun cdv A outer s H E hr=>(@a0b _ _ _ _ _ (@s_if _ _ _ _ _ _ _ _ (@a6X _ _ _ _ (@a4p _ _ _ (@h_ix _ _ _ _ _ _ (@hv _ 0 _ _ (by rfl) (by walk_at "3") (by decide) (by decide)) a0d (by intro _ _;rfl)) (by intro _;rfl))) (@a0g _ _ _ a1X) a0q) (@a0g _ _ _ (@a0r _ _ _ _ (@a0R _ _ _ _ _ (@a0a _ _ _ _ _ (@h_ix _ _ _ _ _ _ (@hv _ 0 _ _ (by rfl) (by walk_at "3") (by decide) (by decide)) a0d (by intro _ _;rfl)) (@a0a _ _ _ _ _ (@a0m _ _ _ _ _ _ _ _ a0o (@a0N _ _ _ _ _ _ _ _ _ (@h_ix _ _ _ _ _ _ (@hv _ 0 _ _ (by rfl) (by walk_at "3") (by decide) (by decide)) a0d (by intro _ _;rfl)) (@a1c _ _ _ a0d) a1p) (@a0N _ _ _ _ _ _ _ _ _ (@h_ix _ _ _ _ _ _ (@hv _ 0 _ _ (by rfl) (by walk_at "3") (by decide) (by decide)) a0d (by intro _ _;rfl)) a1p (@a1c _ _ _ a0d))) a0e (by rfl)) (by rfl)))))),fun ts M Q h=>?_⟩
 unfold a2n at h
 split at h
 ·rename_i n w
  obtain⟨ws,rfl,hl,hw,h⟩:=h
  walk_at "rd"
  have e:(List.map T.int ws).isEmpty=ws.isEmpty:=by cases ws<;>rfl
  rw[e]
  replace hw:(if ws.isEmpty=true then Why.step else Why.ok)=.ok:=hw
  replace h:Q (ptT (n,ws.drop 1++ws.take 1)) M:=h
  cases c:ws.isEmpty with
  | true=>rw[c] at hw;cases hw
  | false =>
    rw[a4K _ _ (by decide),a1Y _ _ (by decide),← List.map_take,← List.map_drop,← List.map_append]
    show _∧_∧_
    exact⟨a0A (by rw[List.length_map,List.length_map,List.length_drop,List.length_take];lia),by decide,a0f h⟩
 ·exact h.elim
noncomputable def a2X:Sp3:=fun ts M Q=>match ts with
 | [.tup [.int n,.tup w]]=>∃ ws:List Int,w=ws.map .int∧ws.length≤16∧a2f n ws .back=.ok∧Q (ptT (mvTo n ws .back)) M
 | _=>False
theorem a9x {P w K base f fd} {mg:Str→Option Value} {n:Nat}  (F:Fun K "with_back" "with_back" a3K f fd) (hm:mg "with_back"=some (.ref f)) (hb:a0G K fd ["plait"] []) (Z:Zs K mg) :Df P w K mg base (n+1) "with_back" ["plait"] a2X:=by
 refine F.dfn hm hb a9g (by unfold a2X;walk_at "ln") ⟨_,fun cdv A outer s H E hr=>(@a0b _ _ _ _ _ (@s_if _ _ _ _ _ _ _ _ (@a6X _ _ _ _ (@a4p _ _ _ (@h_ix _ _ _ _ _ _ (@hv _ 0 _ _ (by rfl) (by walk_at "3") (by decide) (by decide)) a0d (by intro _ _;rfl)) (by intro _;rfl))) (@a0g _ _ _ a1X) a0q) (@a0g _ _ _ (@a0r _ _ _ _ (@a0R _ _ _ _ _ (@a0a _ _ _ _ _ (@h_ix _ _ _ _ _ _ (@hv _ 0 _ _ (by rfl) (by walk_at "3") (by decide) (by decide)) a0d (by intro _ _;rfl)) (@a0a _ _ _ _ _ (@a0m _ _ _ _ _ _ _ _ a0o (@a0N _ _ _ _ _ _ _ _ _ (@h_ix _ _ _ _ _ _ (@hv _ 0 _ _ (by rfl) (by walk_at "3") (by decide) (by decide)) a0d (by intro _ _;rfl)) (@a1c _ _ _ (@h_un _ _ _ _ _ _ a0J a0d)) a1p) (@a0N _ _ _ _ _ _ _ _ _ (@h_ix _ _ _ _ _ _ (@hv _ 0 _ _ (by rfl) (by walk_at "3") (by decide) (by decide)) a0d (by intro _ _;rfl)) a1p (@a1c _ _ _ (@h_un _ _ _ _ _ _ a0J a0d)))) a0e (by rfl)) (by rfl)))))),fun ts M Q h=>?_⟩
 unfold a2X at h
 split at h
 ·rename_i n w
  obtain⟨ws,rfl,hl,hw,h⟩:=h
  walk_at "rd"
  have e:(List.map T.int ws).isEmpty=ws.isEmpty:=by cases ws<;>rfl
  rw[e]
  replace hw:(if ws.isEmpty=true then Why.step else Why.ok)=.ok:=hw
  replace h:Q (ptT (n,a5b ws++ws.dropLast)) M:=h
  cases c:ws.isEmpty with
  | true=>rw[c] at hw;cases hw
  | false =>
    obtain⟨A,y,rfl⟩:=a4W (w:=ws) (fun z=>by rw[z] at c;cases c)
    rw[a1K,List.dropLast_concat] at h
    rw[a7Q,a4L]
    rw[List.length_append,List.length_singleton] at hl
    show _∧_∧_
    exact⟨a0A (by rw[List.length_map,List.length_map,List.length_singleton];lia),by decide,by rw[← List.map_append];exact a0f h⟩
 ·exact h.elim
noncomputable def a2V:Sp3:=fun ts M Q=>match ts with
 | [.tup [.int n,.tup w]]=>∃ ws:List Int,w=ws.map .int∧ws.length≤16∧a2f n ws .less=.ok∧Q (ptT (mvTo n ws .less)) M
 | _=>False
theorem a9v {P w K base f fd} {mg:Str→Option Value} {n:Nat}  (F:Fun K "with_less" "with_less" a2M f fd) (hm:mg "with_less"=some (.ref f)) (hb:a0G K fd ["plait"] []) (Z:Zs K mg) :Df P w K mg base (n+1) "with_less" ["plait"] a2V:=by
 refine F.dfn hm hb a4i (by unfold a2V;walk_at "ln") ⟨_,fun cdv A outer s H E hr=>(@a0b _ _ _ _ _ (@a0C _ _ _ _ 1 _ _ (@a0m _ _ _ _ _ _ _ _ a0M (@h_ix _ _ _ _ _ _ (@hv _ 0 _ _ (by rfl) (by walk_at "3") (by decide) (by decide)) a0d (by intro _ _;rfl)) a0d) a4i.nd (by rfl) (by walk_at "2") (by rfl) (by walk_at "4")) (@a0b _ _ _ _ _ (@b6V _ _ _ _ _ _ _ _ _ _ _ _ _ _ 2 _ _ _ rfl (@b8K _ _ _ _ _ _ _ _ Z.b_enumerate (@h_ix _ _ _ _ _ _ (@hv _ 0 _ _ (by rfl) (by walk_at "3") (by decide) (by decide)) a0d (by intro _ _;rfl)) (by rfl) (by rfl)) (@a1z _ (a0h a2M) _ (["plait","greatest","found"]) (["at","letter","greatest"]) ([none,none,some 1]) (by decide +kernel) rfl rfl) b1q (fun _ _ _ _ _=>b1I rfl (@a3S _ _ _ _ _ (@a1T _ _ 0 _ (show List.Nodup (["at","letter","greatest"]:List Str) by decide +kernel) rfl (Or.inl rfl) (Or.inr rfl)) (@a3S _ _ _ _ _ (@a1T _ _ 1 _ (show List.Nodup (["at","letter","greatest"]:List Str) by decide +kernel) rfl (Or.inl rfl) (Or.inr rfl)) a8q (by rfl)) (by rfl))) (fun _ _ _ _ _=>b1w (@a0n _ _ _ _ _ _ _ _ (@a0y _ hr.units) (@a0l _ _ _ _ _ _ _ _ _ a0t Z.b_abs PyProof.Rows.boot_abs (@a0a _ _ _ _ _ (@hv _ 1 _ _ (by rfl) (by walk_at "3") (by decide) (by decide)) a0e (by rfl)) (by rfl) (by decide) (by decide) (by rfl) (by rfl)) (@hv _ 2 _ _ (by rfl) (by walk_at "3") (by decide) (by decide)) (@a0k _ _ (by decide) (by decide)))) (fun _ _ _ _ _=>(@hv _ 0 _ _ (by rfl) (by walk_at "3") (by decide) (by decide))) a4i.nd (by rfl) (by walk_at "2") (by rfl) (by intro _;rfl) (by walk_at "4")) (@a0b _ _ _ _ _ (@s_if _ _ _ _ _ _ _ _ (@a0n _ _ _ _ _ _ _ _ (@a4m _ hr.units) (@hv _ 2 _ _ (by rfl) (by walk_at "3") (by decide) (by decide)) (@a3q _ _ _ _ (@a0a _ _ _ _ _ (@a0m _ _ _ _ _ _ _ _ a0M (@a0l _ _ _ _ _ _ _ _ _ a0p Z.b_len PySem.boot_len (@a0a _ _ _ _ _ (@h_ix _ _ _ _ _ _ (@hv _ 0 _ _ (by rfl) (by walk_at "3") (by decide) (by decide)) a0d (by intro _ _;rfl)) a0e (by rfl)) (by rfl) (by decide) (by decide) (by rfl) (by rfl)) a0d) a0e (by rfl))) (@a0k _ _ (by decide) (by decide))) (@a0g _ _ _ a1X) a0q) (@a0g _ _ _ (@a0r _ _ _ _ (@a0R _ _ _ _ _ (@a0a _ _ _ _ _ (@hv _ 1 _ _ (by rfl) (by walk_at "3") (by decide) (by decide)) (@a0a _ _ _ _ _ (@a0N _ _ _ _ _ _ _ _ _ (@h_ix _ _ _ _ _ _ (@hv _ 0 _ _ (by rfl) (by walk_at "3") (by decide) (by decide)) a0d (by intro _ _;rfl)) a1p (@a1c _ _ _ (@h_un _ _ _ _ _ _ a0J a0d))) a0e (by rfl)) (by rfl)))))))),fun ts M Q h=>?_⟩
 unfold a2V at h
 split at h
 ·rename_i n w
  obtain⟨ws,rfl,hl,hw,h⟩:=h
  walk_at "rd"
  refine⟨fun i ys M'=>ys=(a5W n (ws.take i)).map (fun i=>T.int (i:Nat))∧M'=M,⟨rfl,rfl⟩,fun _ _ _ _=>trivial,?_,?_,?_⟩
  ·rw[a4I,List.length_map];exact a0V (by lia)
  ·rintro i x ys M' hx ⟨rfl,rfl⟩
   obtain⟨t,ht,rfl⟩:=b4Z hx
   obtain⟨l,hl',rfl⟩:=a1q ht
   have hi:=(List.getElem?_eq_some_iff.mp hl').1
   refine⟨rfl,rfl,?_⟩
   have e:a5W n (ws.take (i+1))=a5W n (ws.take i)++if (l.natAbs:Int)=n - 1 then [i] else []:=by
    rw[List.take_add_one,hl',Option.toList_some,a7J,List.length_take,Nat.min_eq_left (Nat.le_of_lt hi)]
   refine ite2 (fun c=>⟨?_,rfl⟩) (fun c=>⟨?_,rfl⟩)
   ·rw[e,if_pos c,List.map_append];rfl
   ·rw[e,if_neg c,List.append_nil]
  ·rintro ys M' ⟨rfl,rfl⟩ p hp
   rw[a4I,List.length_map,List.take_length]
   refine⟨by decide,fun p1 hp1=>?_⟩
   have n1:p≠p1:=fun z=>by rw[← z,a0i] at hp1;cases hp1
   have hS:Sub M' (updM (updM M' p (MO.lst (List.map (fun i=>T.int (i:Nat)) (a5W n ws)))) p1 (MO.lst [T.int ((ws.length:Int) - 1)])):=(Sub.new hp).newr hp1
   rw[a0s n1,a0i]
   dsimp only
   rw[← a9K]
   refine⟨b3b _,rfl,b4C _,?_⟩
   rw[a2J] at hw
   cases c:a6S n ws with
   | false=>rw[c] at hw;cases hw
   | true =>
     obtain⟨A,y,rfl,_,_⟩:=a4o.mp c
     rw[a5I,List.dropLast_concat] at h
     rw[a4L]
     show _∧_
     exact⟨by decide,a0x h hS⟩
 ·exact h.elim
noncomputable def a2U:Sp3:=fun ts M Q=>match ts with
 | [.tup [.int n,.tup w],.int k]=>∃ ws:List Int,w=ws.map .int∧ws.length≤16∧1≤n∧n≤6∧a2f n ws (.more k)=.ok∧Q (ptT (mvTo n ws (.more k))) M
 | _=>False
theorem a9u {P w K base f fd} {mg:Str→Option Value} {n:Nat}  (F:Fun K "with_more" "with_more" a3I f fd) (hm:mg "with_more"=some (.ref f)) (hb:a0G K fd ["plait","sign"] []) (Z:Zs K mg) :Df P w K mg base (n+1) "with_more" ["plait","sign"] a2U:=by
 obtain⟨tk_MOST_STRANDS,c_MOST_STRANDS⟩:=Z.c_MOST_STRANDS
 obtain⟨tk_MOST_LETTERS,c_MOST_LETTERS⟩:=Z.c_MOST_LETTERS
 refine F.dfn hm hb a6g (by unfold a2U;walk_at "ln") ⟨_,fun cdv A outer s H E hr=>(@a0b _ _ _ _ _ (@a0C _ _ _ _ 2 _ _ (@h_ix _ _ _ _ _ _ (@hv _ 0 _ _ (by rfl) (by walk_at "3") (by decide) (by decide)) a0d (by intro _ _;rfl)) a6g.nd (by rfl) (by walk_at "2") (by rfl) (by walk_at "4")) (@a0b _ _ _ _ _ (@s_if _ _ _ _ _ _ _ _ (@HW.ht _ _ _ (@w_or _ _ _ _ _ _ _ (@a0n _ _ _ _ _ _ _ _ (@a0y _ hr.units) (@hv _ 2 _ _ (by rfl) (by walk_at "3") (by decide) (by decide)) (@a5e _ _ _ _ _ c_MOST_STRANDS (by rfl) (by decide)) (@a0k _ _ (by decide) (by decide))) (@a6y _ _ _ _ (@a0n _ _ _ _ _ _ _ _ (@a0y _ hr.units) (@a0l _ _ _ _ _ _ _ _ _ a0p Z.b_len PySem.boot_len (@a0a _ _ _ _ _ (@h_ix _ _ _ _ _ _ (@hv _ 0 _ _ (by rfl) (by walk_at "3") (by decide) (by decide)) a0d (by intro _ _;rfl)) a0e (by rfl)) (by rfl) (by decide) (by decide) (by rfl) (by rfl)) (@a5e _ _ _ _ _ c_MOST_LETTERS (by rfl) (by decide)) (@a0k _ _ (by decide) (by decide)))))) (@a0g _ _ _ a1X) a0q) (@a0b _ _ _ _ _ (@s_if _ _ _ _ _ _ _ _ (@a0n _ _ _ _ _ _ _ _ a9q (@hv _ 1 _ _ (by rfl) (by walk_at "3") (by decide) (by decide)) (@a0R _ _ _ _ _ (@a0a _ _ _ _ _ a0d (@a0a _ _ _ _ _ (@h_un _ _ _ _ _ _ a0J a0d) a0e (by rfl)) (by rfl))) rfl) (@a0g _ _ _ a1X) a0q) (@a0g _ _ _ (@a0r _ _ _ _ (@a0R _ _ _ _ _ (@a0a _ _ _ _ _ (@a0m _ _ _ _ _ _ _ _ a0o (@hv _ 2 _ _ (by rfl) (by walk_at "3") (by decide) (by decide)) a0d) (@a0a _ _ _ _ _ (@a0m _ _ _ _ _ _ _ _ a0o (@h_ix _ _ _ _ _ _ (@hv _ 0 _ _ (by rfl) (by walk_at "3") (by decide) (by decide)) a0d (by intro _ _;rfl)) (@a0R _ _ _ _ _ (@a0a _ _ _ _ _ (@a0m _ _ _ _ _ _ _ _ a0Q (@hv _ 1 _ _ (by rfl) (by walk_at "3") (by decide) (by decide)) (@hv _ 2 _ _ (by rfl) (by walk_at "3") (by decide) (by decide))) a0e (by rfl)))) a0e (by rfl)) (by rfl)))))))),fun ts M Q h=>?_⟩
 unfold a2U at h
 split at h
 ·rename_i n w k
  obtain⟨ws,rfl,hl,h1,h6,hw,h⟩:=h
  walk_at "rd"
  rw[a2I] at hw
  have hk:¬(n=6∨ws.length=16)∧(k=1∨k=-1):=by
   split at hw
   ·cases hw
   ·split at hw
    ·exact⟨by assumption,by assumption⟩
    ·cases hw
  refine ite2 (fun c=>absurd (.inl c) hk.1) (fun c=>ite2 (fun c2=>absurd (.inr (by lia)) hk.1) (fun c2=>?_))
  refine⟨by decide,rfl,rfl,?_⟩
  have e:inT (T.int k) [T.int 1,T.int (-1)]=true:=by
   rcases hk.2 with rfl | rfl<;>rfl
  rw[e,if_neg (by decide)]
  refine⟨.inl ⟨by lia,by lia⟩,by decide,a0A (by lia),by decide,?_⟩
  have e5:List.map T.int ws++[T.int (k*n)]=(ws++[k*n]).map T.int:=by rw[List.map_append];rfl
  rw[e5]
  exact a0f h
 ·exact h.elim
theorem b5v {n:Int} {ws r:List Int} {s:Stp} (e:aft n ws s=some r) (hl:ws.length+2≤4000):c1o n ws s.t r:=by
 cases s with
 | far a =>
   rw[a6c] at e
   split at e
   ·rename_i c
    exact .inl ⟨a,rfl,c,(Option.some.inj e).symm⟩
   ·cases e
 | three a =>
   rw[a3B] at e
   split at e
   ·rename_i c
    exact .inr (.inl ⟨a,rfl,c,(Option.some.inj e).symm⟩)
   ·cases e
 | out a =>
   rw[a6b] at e
   split at e
   ·rename_i c
    exact .inr (.inr (.inl ⟨a,rfl,c,(Option.some.inj e).symm⟩))
   ·cases e
 | inn a l =>
   rw[a8W] at e
   split at e
   ·rename_i c
    unfold inB at c
    simp only[Bool.and_eq_true,decide_eq_true_eq,a2g] at c
    exact .inr (.inr (.inr ⟨a,l,rfl,c.1.1,c.1.2,c.2,hl,(Option.some.inj e).symm⟩))
   ·cases e
noncomputable def a2T:Sp3:=fun ts M Q=>match ts with
 | [.tup [.int n,.tup w],.tup st]=>∃ (ws:List Int) (s:Stp),w=ws.map .int∧st=s.t∧PlOK n ws∧a2f n ws (.step s)=.ok∧Q (ptT (mvTo n ws (.step s))) M
 | _=>False
theorem a9t {P w K base f fd} {mg:Str→Option Value} {n:Nat}  (F:Fun K "with_step" "with_step" a3H f fd) (hm:mg "with_step"=some (.ref f)) (hb:a0G K fd ["plait","step"] []) (Z:Zs K mg) (D_stepped:Df P w K mg base n "stepped" ["strands","word","step"] a4w):Df P w K mg base (n+1) "with_step" ["plait","step"] a2T:=by
 obtain⟨tk_MOST_LETTERS,c_MOST_LETTERS⟩:=Z.c_MOST_LETTERS
 refine F.dfn hm hb a6f (by unfold a2T;walk_at "ln") ⟨_,fun cdv A outer s H E hr=>(@a0b _ _ _ _ _ (@a0C _ _ _ _ 2 _ _ (@a0j _ _ _ _ _ _ _ _ _ _ D_stepped hr (@a0a _ _ _ _ _ (@h_ix _ _ _ _ _ _ (@hv _ 0 _ _ (by rfl) (by walk_at "3") (by decide) (by decide)) a0d (by intro _ _;rfl)) (@a0a _ _ _ _ _ (@h_ix _ _ _ _ _ _ (@hv _ 0 _ _ (by rfl) (by walk_at "3") (by decide) (by decide)) a0d (by intro _ _;rfl)) (@a0a _ _ _ _ _ (@hv _ 1 _ _ (by rfl) (by walk_at "3") (by decide) (by decide)) a0e (by rfl)) (by rfl)) (by rfl)) (by rfl) (by decide) (by rfl) (by rfl)) a6f.nd (by rfl) (by walk_at "2") (by rfl) (by walk_at "4")) (@a0b _ _ _ _ _ (@s_if _ _ _ _ _ _ _ _ (@a0n _ _ _ _ _ _ _ _ a3w (@a0l _ _ _ _ _ _ _ _ _ a0p Z.b_len PySem.boot_len (@a0a _ _ _ _ _ (@hv _ 2 _ _ (by rfl) (by walk_at "3") (by decide) (by decide)) a0e (by rfl)) (by rfl) (by decide) (by decide) (by rfl) (by rfl)) (@a5e _ _ _ _ _ c_MOST_LETTERS (by rfl) (by decide)) (@a0k _ _ (by decide) (by decide))) (@a0g _ _ _ a1X) a0q) (@a0g _ _ _ (@a0r _ _ _ _ (@a0R _ _ _ _ _ (@a0a _ _ _ _ _ (@h_ix _ _ _ _ _ _ (@hv _ 0 _ _ (by rfl) (by walk_at "3") (by decide) (by decide)) a0d (by intro _ _;rfl)) (@a0a _ _ _ _ _ (@hv _ 2 _ _ (by rfl) (by walk_at "3") (by decide) (by decide)) a0e (by rfl)) (by rfl))))))),fun ts M Q h=>?_⟩
 unfold a2T at h
 split at h
 ·rename_i n w st
  obtain⟨ws,s,rfl,rfl,ok,hw,h⟩:=h
  walk_at "rd"
  rw[a3x] at hw
  rw[a5H] at h
  obtain⟨h1,h6,hl,ho⟩:=ok
  cases e:aft n ws s with
  | none=>rw[e] at hw;cases hw
  | some r =>
  rw[e] at h hw
  refine⟨ws,r,rfl,by lia,h1,h6,ho,b5v e (by lia),?_⟩
  dsimp only at hw⊢
  rw[List.length_map]
  refine ite2 (fun c=>?_) (fun c=>⟨by decide,a0f h⟩)
  rw[if_pos (by lia)] at hw
  cases hw
 ·exact h.elim
noncomputable def a6q:Sp3:=fun ts M Q=>match ts with
 | [.tup [.int n,.tup w],.tup mt]=>∃ (ws:List Int) (m:Mv),w=ws.map .int∧mt=m.t∧PlOK n ws∧a2f n ws m=.ok∧Q (ptT (mvTo n ws m)) M
 | _=>False
theorem b6j {P w K base f fd} {mg:Str→Option Value} {n:Nat}  (F:Fun K "moved" "moved" a8j f fd) (hm:mg "moved"=some (.ref f)) (hb:a0G K fd ["plait","move"] []) (Z:Zs K mg) (D_looked:Df P w K mg base n "looked" ["plait"] a2K) (D_with_more:Df P w K mg base n "with_more" ["plait","sign"] a2U) (D_with_step:Df P w K mg base n "with_step" ["plait","step"] a2T) (D_with_round:Df P w K mg base n "with_round" ["plait"] a2n) (D_with_back:Df P w K mg base n "with_back" ["plait"] a2X) (D_with_less:Df P w K mg base n "with_less" ["plait"] a2V) (D_flipped:Df P w K mg base n "flipped" ["plait"] a4y):Df P w K mg base (n+1) "moved" ["plait","move"] a6q:=by
 refine F.dfn hm hb b5I (by unfold a6q;walk_at "ln") ⟨_,fun cdv A outer s H E hr=>(@a0b _ _ _ _ _ (@a4c _ _ _ _ (@a0j _ _ _ _ _ _ _ _ _ _ D_looked hr (@a0a _ _ _ _ _ (@hv _ 0 _ _ (by rfl) (by walk_at "3") (by decide) (by decide)) a0e (by rfl)) (by rfl) (by decide) (by rfl) (by rfl)) (by rfl)) (@a0b _ _ _ _ _ (@s_if _ _ _ _ _ _ _ _ (@HW.ht _ _ _ (@a7U _ _ _ _ _ _ _ (@a0n _ _ _ _ _ _ _ _ (@a0y _ hr.units) (@a0l _ _ _ _ _ _ _ _ _ a0p Z.b_len PySem.boot_len (@a0a _ _ _ _ _ (@hv _ 1 _ _ (by rfl) (by walk_at "3") (by decide) (by decide)) a0e (by rfl)) (by rfl) (by decide) (by decide) (by rfl) (by rfl)) a0d (@a0k _ _ (by decide) (by decide))) (@a6d _ _ _ _ (@a0n _ _ _ _ _ _ _ _ (@a0y _ hr.units) (@h_ix _ _ _ _ _ _ (@hv _ 1 _ _ (by rfl) (by walk_at "3") (by decide) (by decide)) a0d (by intro _ _;rfl)) a0P (@a0k _ _ (by decide) (by decide)))))) (@a0g _ _ _ (@a0r _ _ _ _ (@a0j _ _ _ _ _ _ _ _ _ _ D_with_more hr (@a0a _ _ _ _ _ (@hv _ 0 _ _ (by rfl) (by walk_at "3") (by decide) (by decide)) (@a0a _ _ _ _ _ (@h_ix _ _ _ _ _ _ (@hv _ 1 _ _ (by rfl) (by walk_at "3") (by decide) (by decide)) a0d (by intro _ _;rfl)) a0e (by rfl)) (by rfl)) (by rfl) (by decide) (by rfl) (by rfl)))) a0q) (@a0b _ _ _ _ _ (@s_if _ _ _ _ _ _ _ _ (@HW.ht _ _ _ (@a7U _ _ _ _ _ _ _ (@a0n _ _ _ _ _ _ _ _ (@a0y _ hr.units) (@a0l _ _ _ _ _ _ _ _ _ a0p Z.b_len PySem.boot_len (@a0a _ _ _ _ _ (@hv _ 1 _ _ (by rfl) (by walk_at "3") (by decide) (by decide)) a0e (by rfl)) (by rfl) (by decide) (by decide) (by rfl) (by rfl)) a0d (@a0k _ _ (by decide) (by decide))) (@a6d _ _ _ _ (@a0n _ _ _ _ _ _ _ _ (@a0y _ hr.units) (@h_ix _ _ _ _ _ _ (@hv _ 1 _ _ (by rfl) (by walk_at "3") (by decide) (by decide)) a0d (by intro _ _;rfl)) a0P (@a0k _ _ (by decide) (by decide)))))) (@a0g _ _ _ (@a0r _ _ _ _ (@a0j _ _ _ _ _ _ _ _ _ _ D_with_step hr (@a0a _ _ _ _ _ (@hv _ 0 _ _ (by rfl) (by walk_at "3") (by decide) (by decide)) (@a0a _ _ _ _ _ (@h_ix _ _ _ _ _ _ (@hv _ 1 _ _ (by rfl) (by walk_at "3") (by decide) (by decide)) a0d (by intro _ _;rfl)) a0e (by rfl)) (by rfl)) (by rfl) (by decide) (by rfl) (by rfl)))) a0q) (@a0b _ _ _ _ _ (@s_if _ _ _ _ _ _ _ _ (@a0n _ _ _ _ _ _ _ _ (@a0y _ hr.units) (@hv _ 1 _ _ (by rfl) (by walk_at "3") (by decide) (by decide)) (@a0R _ _ _ _ _ (@a0a _ _ _ _ _ a0P a0e (by rfl))) (@a0k _ _ (by decide) (by decide))) (@a0g _ _ _ (@a0r _ _ _ _ (@a0j _ _ _ _ _ _ _ _ _ _ D_with_round hr (@a0a _ _ _ _ _ (@hv _ 0 _ _ (by rfl) (by walk_at "3") (by decide) (by decide)) a0e (by rfl)) (by rfl) (by decide) (by rfl) (by rfl)))) a0q) (@a0b _ _ _ _ _ (@s_if _ _ _ _ _ _ _ _ (@a0n _ _ _ _ _ _ _ _ (@a0y _ hr.units) (@hv _ 1 _ _ (by rfl) (by walk_at "3") (by decide) (by decide)) (@a0R _ _ _ _ _ (@a0a _ _ _ _ _ a0P a0e (by rfl))) (@a0k _ _ (by decide) (by decide))) (@a0g _ _ _ (@a0r _ _ _ _ (@a0j _ _ _ _ _ _ _ _ _ _ D_with_back hr (@a0a _ _ _ _ _ (@hv _ 0 _ _ (by rfl) (by walk_at "3") (by decide) (by decide)) a0e (by rfl)) (by rfl) (by decide) (by rfl) (by rfl)))) a0q) (@a0b _ _ _ _ _ (@s_if _ _ _ _ _ _ _ _ (@a0n _ _ _ _ _ _ _ _ (@a0y _ hr.units) (@hv _ 1 _ _ (by rfl) (by walk_at "3") (by decide) (by decide)) (@a0R _ _ _ _ _ (@a0a _ _ _ _ _ a0P a0e (by rfl))) (@a0k _ _ (by decide) (by decide))) (@a0g _ _ _ (@a0r _ _ _ _ (@a0j _ _ _ _ _ _ _ _ _ _ D_with_less hr (@a0a _ _ _ _ _ (@hv _ 0 _ _ (by rfl) (by walk_at "3") (by decide) (by decide)) a0e (by rfl)) (by rfl) (by decide) (by rfl) (by rfl)))) a0q) (@a0b _ _ _ _ _ (@s_if _ _ _ _ _ _ _ _ (@a0n _ _ _ _ _ _ _ _ (@a0y _ hr.units) (@hv _ 1 _ _ (by rfl) (by walk_at "3") (by decide) (by decide)) (@a0R _ _ _ _ _ (@a0a _ _ _ _ _ a0P a0e (by rfl))) (@a0k _ _ (by decide) (by decide))) (@a0g _ _ _ (@a0r _ _ _ _ (@a0j _ _ _ _ _ _ _ _ _ _ D_flipped hr (@a0a _ _ _ _ _ (@hv _ 0 _ _ (by rfl) (by walk_at "3") (by decide) (by decide)) a0e (by rfl)) (by rfl) (by decide) (by rfl) (by rfl)))) a0q) (@a0g _ _ _ a1X)))))))),fun ts M Q h=>?_⟩
 unfold a6q at h
 split at h
 ·rename_i n w mt
  obtain⟨ws,m,rfl,rfl,ok,hw,h⟩:=h
  refine a0c fun K1 hK1=>?_
  walk_at "rd"
  refine⟨ws,rfl,ok,?_⟩
  rw[hK1]
  clear hK1
  cases m with
  | step s =>
    show a1e _ _ _ [some (.tup [.int n,.tup (ws.map .int)]),some (.tup [.str "step",.tup s.t])] M
    refine a0c fun K2 hK2=>?_
    walk_at "rd"
    rw[if_pos (by decide)]
    refine⟨rfl,rfl,by decide,?_⟩
    rw[if_neg (by decide +kernel),hK2]
    clear hK2
    refine a0c fun K3 hK3=>?_
    walk_at "rd"
    rw[if_pos (by decide)]
    refine⟨rfl,rfl,by decide,?_⟩
    rw[if_pos (a0I _ rfl)]
    exact⟨ws,s,rfl,rfl,ok,hw,a0f h⟩
  | round =>
    show a1e _ _ _ [some (.tup [.int n,.tup (ws.map .int)]),some (.tup [.str "round"])] M
    refine a0c fun K2 hK2=>?_
    walk_at "rd"
    rw[if_neg (by decide),hK2]
    clear hK2
    refine a0c fun K3 hK3=>?_
    walk_at "rd"
    rw[if_neg (by decide),hK3]
    clear hK3
    refine a0c fun K4 hK4=>?_
    walk_at "rd"
    refine⟨by decide,rfl,rfl,by decide,?_⟩
    rw[if_pos (by decide +kernel)]
    exact⟨ws,rfl,ok.2.2.1,hw,a0f h⟩
  | back =>
    show a1e _ _ _ [some (.tup [.int n,.tup (ws.map .int)]),some (.tup [.str "back"])] M
    refine a0c fun K2 hK2=>?_
    walk_at "rd"
    rw[if_neg (by decide),hK2]
    clear hK2
    refine a0c fun K3 hK3=>?_
    walk_at "rd"
    rw[if_neg (by decide),hK3]
    clear hK3
    refine a0c fun K4 hK4=>?_
    walk_at "rd"
    refine⟨by decide,rfl,rfl,by decide,?_⟩
    rw[if_neg (by decide +kernel),hK4]
    clear hK4
    refine a0c fun K5 hK5=>?_
    walk_at "rd"
    refine⟨by decide,rfl,rfl,by decide,?_⟩
    rw[if_pos (by decide +kernel)]
    exact⟨ws,rfl,ok.2.2.1,hw,a0f h⟩
  | less =>
    show a1e _ _ _ [some (.tup [.int n,.tup (ws.map .int)]),some (.tup [.str "less"])] M
    refine a0c fun K2 hK2=>?_
    walk_at "rd"
    rw[if_neg (by decide),hK2]
    clear hK2
    refine a0c fun K3 hK3=>?_
    walk_at "rd"
    rw[if_neg (by decide),hK3]
    clear hK3
    refine a0c fun K4 hK4=>?_
    walk_at "rd"
    refine⟨by decide,rfl,rfl,by decide,?_⟩
    rw[if_neg (by decide +kernel),hK4]
    clear hK4
    refine a0c fun K5 hK5=>?_
    walk_at "rd"
    refine⟨by decide,rfl,rfl,by decide,?_⟩
    rw[if_neg (by decide +kernel),hK5]
    clear hK5
    refine a0c fun K6 hK6=>?_
    walk_at "rd"
    refine⟨by decide,rfl,rfl,by decide,?_⟩
    rw[if_pos (by decide +kernel)]
    exact⟨ws,rfl,ok.2.2.1,hw,a0f h⟩
  | flip =>
    show a1e _ _ _ [some (.tup [.int n,.tup (ws.map .int)]),some (.tup [.str "flip"])] M
    refine a0c fun K2 hK2=>?_
    walk_at "rd"
    rw[if_neg (by decide),hK2]
    clear hK2
    refine a0c fun K3 hK3=>?_
    walk_at "rd"
    rw[if_neg (by decide),hK3]
    clear hK3
    refine a0c fun K4 hK4=>?_
    walk_at "rd"
    refine⟨by decide,rfl,rfl,by decide,?_⟩
    rw[if_neg (by decide +kernel),hK4]
    clear hK4
    refine a0c fun K5 hK5=>?_
    walk_at "rd"
    refine⟨by decide,rfl,rfl,by decide,?_⟩
    rw[if_neg (by decide +kernel),hK5]
    clear hK5
    refine a0c fun K6 hK6=>?_
    walk_at "rd"
    refine⟨by decide,rfl,rfl,by decide,?_⟩
    rw[if_neg (by decide +kernel),hK6]
    clear hK6
    refine a0c fun K7 hK7=>?_
    walk_at "rd"
    refine⟨by decide,rfl,rfl,by decide,?_⟩
    rw[if_pos (by decide +kernel)]
    exact⟨ws,rfl,ok,a0f h⟩
  | more k =>
    show a1e _ _ _ [some (.tup [.int n,.tup (ws.map .int)]),some (.tup [.str "more",.int k])] M
    refine a0c fun K2 hK2=>?_
    walk_at "rd"
    rw[if_pos (by decide)]
    refine⟨rfl,rfl,by decide,?_⟩
    rw[if_pos (a0I _ rfl)]
    exact⟨ws,rfl,ok.2.2.1,ok.1,ok.2.1,hw,a0f h⟩
 ·exact h.elim
noncomputable def a0S:Sp3:=fun ts M Q=>match ts with
 | [.adr d]=>∃ m:Po,M d=some (.dk (dkI m))∧(m.map Prod.fst).Nodup∧m.length < 64∧Q (poT (norm m)) M
 | _=>False
theorem a5G {P w K base f fd} {mg:Str→Option Value} {n:Nat}  (F:Fun K "without_noughts" "without_noughts" a1b f fd) (hm:mg "without_noughts"=some (.ref f)) (hb:a0G K fd ["counts"] []) (Z:Zs K mg) :Df P w K mg base (n+1) "without_noughts" ["counts"] a0S:=by
 refine F.dfn hm hb a5v (by unfold a0S;walk_at "ln") ⟨_,fun cdv A outer s H E hr=>(@a0g _ _ _ (@a0r _ _ _ _ (@a1F _ _ _ _ _ _ _ _ _ a1Z Z.b_tuple PyProof.Rows.boot_tuple (@a0a _ _ _ _ _ (@a6j _ _ _ _ _ _ _ _ _ _ _ _ _ _ rfl (@a5K _ _ _ _ (@a0l _ _ _ _ _ _ _ _ _ (@a8T _ rfl) Z.b_sorted PyProof.Rows.boot_sorted (@a0a _ _ _ _ _ (@hv _ 0 _ _ (by rfl) (by walk_at "3") (by decide) (by decide)) a0e (by rfl)) (by rfl) (by decide) (by decide) (by rfl) (by rfl))) (@a1z _ (a0h a1b) _ ["counts"] (["power","counts"]) ([none,some 0]) (by decide +kernel) rfl rfl) a5j (fun _ _ _ _ _=>@a1T _ _ 0 _ (show List.Nodup (["power","counts"]:List Str) by decide +kernel) rfl (Or.inl rfl) (Or.inr rfl)) (fun _ _ _ _ _=>b1w (@a0n _ _ _ _ _ _ _ _ (@a4m _ hr.units) (@c0W _ _ _ _ _ _ hr.units (@hv _ 1 _ _ (by rfl) (by walk_at "3") (by decide) (by decide)) (@hv _ 0 _ _ (by rfl) (by walk_at "3") (by decide) (by decide)) (by intro _ _;rfl)) a0d (@a0k _ _ (by decide) (by decide)))) (fun _ _ _ _ _=>(@a0R _ _ _ _ _ (@a0a _ _ _ _ _ (@hv _ 0 _ _ (by rfl) (by walk_at "3") (by decide) (by decide)) (@a0a _ _ _ _ _ (@c0W _ _ _ _ _ _ hr.units (@hv _ 1 _ _ (by rfl) (by walk_at "3") (by decide) (by decide)) (@hv _ 0 _ _ (by rfl) (by walk_at "3") (by decide) (by decide)) (by intro _ _;rfl)) a0e (by rfl)) (by rfl)))) (by intro _;rfl)) a0e (by rfl)) (by rfl) (by decide) (by decide) (by rfl) (by rfl)))),fun ts M Q h=>?_⟩
 unfold a0S at h
 split at h
 ·rename_i d
  obtain⟨m,hd,hnd,h64,h⟩:=h
  walk_at "rd"
  rw[hd]
  dsimp only
  refine⟨m.map Prod.fst,b2f m,by rw[List.length_map];exact h64,fun ms hp hs r hr=>?_⟩
  have hS:=Sub.new hr (o:=MO.lst (ms.map T.int))
  have hM1:(updM M r (MO.lst (ms.map T.int))) r=some (.lst (ms.map T.int)):=a0i
  have hd1:=hS _ _ hd
  generalize updM M r (MO.lst (ms.map T.int))=M1 at hS hM1 hd1⊢
  have hml:ms.length < 64:=by rw[hp.length_eq,List.length_map];exact h64
  refine⟨fun i ys M'=>ys=((((ms.take i).filter fun k=>decide (co m k≠0)).map fun k=>(k,co m k)).map prT)∧M'=M1,⟨rfl,rfl⟩,?_,a0V (by lia),?_,?_⟩
  ·rintro i ys M' ⟨_,rfl⟩
   exact hM1
  ·rintro i x ys M' hx ⟨rfl,rfl⟩
   obtain⟨k,hx2,rfl⟩:=a1q hx
   have hk:k∈m.map Prod.fst:=hp.mem_iff.mp (List.mem_of_getElem? hx2)
   have hv:=a6e hnd hk
   rw[hd1]
   dsimp only
   refine⟨.inl k,_,rfl,hv,rfl,by rw[a3W];decide,?_⟩
   have ht:ms.take (i+1)=ms.take i++[k]:=by rw[List.take_add_one,hx2];rfl
   rw[a3V,ht,List.filter_append]
   by_cases c:co m k=0
   ·rw[decide_eq_true c,if_neg (by decide)]
    refine⟨?_,rfl⟩
    rw[List.filter_cons,if_neg (by simpa using c),List.filter_nil,List.append_nil]
   ·rw[decide_eq_false c,if_pos rfl]
    refine⟨.inl k,_,rfl,hv,by decide,?_,rfl⟩
    rw[List.filter_cons,if_pos (by simpa using c),List.filter_nil,List.map_append,List.map_append];rfl
  ·rintro ys M' ⟨rfl,rfl⟩ q hq
   rw[List.take_length,b0Y hnd hp hs]
   exact a0x h (hS.newr hq)
 ·exact h.elim
theorem a4G {m:Po} {L:List Int} (hn:(m.map Prod.fst).Nodup) (hs:∀ x∈m,x.1∈L):m.length≤L.length:=by
 have h1:(m.map Prod.fst).length≤L.length:=List.Nodup.length_le_of_subset hn fun k hk=>by
  obtain⟨x,hx,rfl⟩:=List.mem_map.mp hk
  exact hs x hx
 rwa [List.length_map] at h1
theorem b1B {k v:Int} {m:Po} {L:List Int} (hk:k∈L) (hs:∀ x∈m,x.1∈L):∀ x∈setP k v m,x.1∈L:=fun x hx=>by
 have h1:x.1∈(setP k v m).map Prod.fst:=List.mem_map.mpr ⟨x,hx,rfl⟩
 rw[a6F] at h1
 split at h1
 ·obtain⟨y,hy,e⟩:=List.mem_map.mp h1
  rw[← e];exact hs y hy
 ·rcases List.mem_append.mp h1 with z | z
  ·obtain⟨y,hy,e⟩:=List.mem_map.mp z
   rw[← e];exact hs y hy
  ·rw[List.mem_singleton.mp z];exact hk
theorem b1P {p q:Po} (h:∀ k,co p k=co q k):norm p=norm q:=a4M (a1y p) (a1y q) fun k=>by rw[a2O,a2O,h]
noncomputable def a4z:Sp3:=fun ts M Q=>match ts with
 | [.tup a,.tup b]=>∃ (p q:Po) (L:List Int),a=p.map prT∧b=q.map prT∧CanP p∧L.length < 64∧(∀ x∈p,x.1∈L)∧(∀ x∈q,x.1∈L)∧q.length≤5000∧Q (poT (addP p q)) M
 | _=>False
theorem b6k {P w K base f fd} {mg:Str→Option Value} {n:Nat}  (F:Fun K "added" "added" a8k f fd) (hm:mg "added"=some (.ref f)) (hb:a0G K fd ["one","other"] []) (Z:Zs K mg) (D_without_noughts:Df P w K mg base n "without_noughts" ["counts"] a0S):Df P w K mg base (n+1) "added" ["one","other"] a4z:=by
 refine F.dfn hm hb a6r (by unfold a4z;walk_at "ln") ⟨_,fun cdv A outer s H E hr=>(@a0b _ _ _ _ _ (@a0C _ _ _ _ 2 _ _ (@a1F _ _ _ _ _ _ _ _ _ (@b1p _ rfl) Z.b_dict PyProof.Rows.boot_dict (@a0a _ _ _ _ _ (@hv _ 0 _ _ (by rfl) (by walk_at "3") (by decide) (by decide)) a0e (by rfl)) (by rfl) (by decide) (by decide) (by rfl) (by rfl)) a6r.nd (by rfl) (by walk_at "2") (by rfl) (by walk_at "4")) (@a0b _ _ _ _ _ (@a6H _ _ _ _ _ _ _ _ PassesOwn.never rfl (@a5K _ _ _ _ (@hv _ 1 _ _ (by rfl) (by walk_at "3") (by decide) (by decide))) (@a8M _ _ _ _ _ 2 rfl (@a1i _ _ _ _ _ (@a1j _ _ 3 _ a6r.nd (by rfl) (by walk_at "2") (by walk_at "4")) (@a1i _ _ _ _ _ (@a1j _ _ 4 _ a6r.nd (by rfl) (by walk_at "2") (by walk_at "4")) a5M (by rfl)) (by rfl)) (by rfl) (by rfl)) (@a0g _ _ _ (@b5J _ _ _ _ _ _ _ _ _ hr.units (@a0m _ _ _ _ _ _ _ _ a0o (@b7j _ _ _ _ _ _ _ _ _ hr.units (@hv _ 2 _ _ (by rfl) (by walk_at "3") (by decide) (by decide)) (@hv _ 3 _ _ (by rfl) (by walk_at "3") (by decide) (by decide)) a0d (by rfl) (by rfl) (by rfl) (by rfl)) (@hv _ 4 _ _ (by rfl) (by walk_at "3") (by decide) (by decide))) (@hv _ 2 _ _ (by rfl) (by walk_at "3") (by decide) (by decide)) (@hv _ 3 _ _ (by rfl) (by walk_at "3") (by decide) (by decide)) (by rfl))) (by intro _;rfl)) (@a0g _ _ _ (@a0r _ _ _ _ (@a0j _ _ _ _ _ _ _ _ _ _ D_without_noughts hr (@a0a _ _ _ _ _ (@hv _ 2 _ _ (by rfl) (by walk_at "3") (by decide) (by decide)) a0e (by rfl)) (by rfl) (by decide) (by rfl) (by rfl)))))),fun ts M Q h=>?_⟩
 unfold a4z at h
 split at h
 ·rename_i a b
  obtain⟨p,q,L,rfl,rfl,hp,hL,hpL,hqL,hql,h⟩:=h
  have hnd0:(p.map Prod.fst).Nodup:=List.pairwise_map.mpr (hp.1.imp fun h z=>Int.ne_of_lt h z)
  refine a0c fun K1 hK1=>?_
  walk_at "rd"
  refine⟨dkI p,(b6B p).symm,by rw[b2f];exact List.pairwise_map.mpr (hnd0.imp fun h z=>h (Sum.inl.inj z)),fun d hd=>?_⟩
  have hMd:(updM M d (MO.dk (dkI p))) d=some (.dk (dkI p)):=a0i
  have hS:=Sub.new hd (o:=MO.dk (dkI p))
  generalize updM M d (MO.dk (dkI p))=M1 at hMd hS⊢
  rw[hK1];clear hK1
  refine a0c fun K2 hK2=>?_
  refine a2N fun B hB=>?_
  unfold a6D
  walk_at "rd"
  refine⟨fun i ρ M'=>(∃ (x3 x4:Option T),ρ=[some (T.tup (p.map prT)),some (T.tup (q.map prT)),some (T.adr d),x3,x4])∧(∃ m:Po,M' d=some (.dk (dkI m))∧(m.map Prod.fst).Nodup∧(∀ x∈m,x.1∈L)∧∀ k,co m k=co (p++q.take i) k)∧Sub M M',⟨⟨_,_,rfl⟩,⟨p,hMd,hnd0,hpL,fun k=>by rw[List.take_zero,List.append_nil]⟩,hS⟩,fun _ _ _ _=>trivial,?_,?_⟩
  ·rintro i x ρ M' hx ⟨⟨x3,x4,rfl⟩,⟨m,hm,hnd,hmL,hco⟩,hS1⟩
   obtain⟨⟨y1,y2⟩,hx2,rfl⟩:∃ y,q[i]?=some y∧prT y=x:=by
    rw[List.getElem?_map] at hx
    exact Option.map_eq_some_iff.mp hx
   have hyL:=hqL _ (List.mem_of_getElem? hx2)
   unfold prT
   dsimp only
   rw[hB];clear hB
   walk_at "rd"
   rw[hm]
   refine⟨trivial,?_⟩
   dsimp only
   refine⟨.inl y1,rfl,?_⟩
   rw[a7X y1 hnd]
   dsimp only
   have hml:=a4G hnd hmL
   refine⟨.inl y1,rfl,a0V (by rw[b5c];lia),⟨_,_,rfl⟩,⟨setP y1 (co m y1+y2) m,by rw[a8o hnd],a7H hnd,b1B hyL hmL,fun k=>?_⟩,hS1.updF hd⟩
   have ht:q.take (i+1)=q.take i++[(y1,y2)]:=by rw[List.take_add_one,hx2];rfl
   rw[b1m y1 _ hnd,ht,← List.append_assoc,a1U,← hco]
   show _=co m k+((if y1=k then y2 else 0)+0)
   by_cases e:k=y1
   ·rw[if_pos e,if_pos e.symm,e];lia
   ·rw[if_neg e,if_neg (fun z=>e z.symm)];lia
  ·rintro ρ M' ⟨⟨x3,x4,rfl⟩,⟨m,hm,hnd,hmL,hco⟩,hS1⟩
   try rw[List.length_map] at hco
   rw[List.take_length] at hco
   rw[hK2];clear hK2
   walk_at "rd"
   refine⟨m,hm,hnd,Nat.lt_of_le_of_lt (a4G hnd hmL) hL,?_⟩
   rw[b1P hco]
   exact a0x h hS1
 ·exact h.elim
noncomputable def a0T:Sp3:=fun ts M Q=>match ts with
 | [.tup a,.tup b]=>∃ (p q:Po) (L:List Int),a=p.map prT∧b=q.map prT∧L.length < 64∧(∀ x∈p,∀ y∈q,x.1+y.1∈L)∧(Sml p∨Sml q)∧p.length≤5000∧q.length≤5000∧Q (poT (a1E p q)) M
 | _=>False
theorem b5N {p q:Po} {i:Nat} {x:Int × Int} (h:p[i]?=some x) (k:Int):co (rawM (p.take (i+1)) q) k=co (rawM (p.take i) q) k+co (q.map fun b=>(x.1+b.1,x.2*b.2)) k:=by
 rw[List.take_add_one,h]
 unfold rawM
 rw[List.flatMap_append,a1U]
 show _+co ([x].flatMap fun a=>q.map fun b=>(a.1+b.1,a.2*b.2)) k=_
 rw[List.flatMap_cons,List.flatMap_nil,List.append_nil]
theorem a8x {P w K base f fd} {mg:Str→Option Value} {n:Nat}  (F:Fun K "multiplied" "multiplied" a3e f fd) (hm:mg "multiplied"=some (.ref f)) (hb:a0G K fd ["one","other"] []) (Z:Zs K mg) (D_without_noughts:Df P w K mg base n "without_noughts" ["counts"] a0S):Df P w K mg base (n+1) "multiplied" ["one","other"] a0T:=by
 refine F.dfn hm hb a1g (by unfold a0T;walk_at "ln") ⟨_,fun cdv A outer s H E hr=>(@a0b _ _ _ _ _ (@a0C _ _ _ _ 2 _ _ b7k a1g.nd (by rfl) (by walk_at "2") (by rfl) (by walk_at "4")) (@a0b _ _ _ _ _ (@a6H _ _ _ _ _ _ _ _ PassesOwn.never rfl (@a5K _ _ _ _ (@hv _ 0 _ _ (by rfl) (by walk_at "3") (by decide) (by decide))) (@a8M _ _ _ _ _ 2 rfl (@a1i _ _ _ _ _ (@a1j _ _ 3 _ a1g.nd (by rfl) (by walk_at "2") (by walk_at "4")) (@a1i _ _ _ _ _ (@a1j _ _ 4 _ a1g.nd (by rfl) (by walk_at "2") (by walk_at "4")) a5M (by rfl)) (by rfl)) (by rfl) (by rfl)) (@a0g _ _ _ (@a6H _ _ _ _ _ _ _ _ PassesOwn.never rfl (@a5K _ _ _ _ (@hv _ 1 _ _ (by rfl) (by walk_at "3") (by decide) (by decide))) (@a8M _ _ _ _ _ 2 rfl (@a1i _ _ _ _ _ (@a1j _ _ 5 _ a1g.nd (by rfl) (by walk_at "2") (by walk_at "4")) (@a1i _ _ _ _ _ (@a1j _ _ 6 _ a1g.nd (by rfl) (by walk_at "2") (by walk_at "4")) a5M (by rfl)) (by rfl)) (by rfl) (by rfl)) (@a0b _ _ _ _ _ (@a0C _ _ _ _ 7 _ _ (@a0m _ _ _ _ _ _ _ _ a0o (@hv _ 3 _ _ (by rfl) (by walk_at "3") (by decide) (by decide)) (@hv _ 5 _ _ (by rfl) (by walk_at "3") (by decide) (by decide))) a1g.nd (by rfl) (by walk_at "2") (by rfl) (by walk_at "4")) (@a0g _ _ _ (@b5J _ _ _ _ _ _ _ _ _ hr.units (@a0m _ _ _ _ _ _ _ _ a0o (@b7j _ _ _ _ _ _ _ _ _ hr.units (@hv _ 2 _ _ (by rfl) (by walk_at "3") (by decide) (by decide)) (@hv _ 7 _ _ (by rfl) (by walk_at "3") (by decide) (by decide)) a0d (by rfl) (by rfl) (by rfl) (by rfl)) (@a0m _ _ _ _ _ _ _ _ a0Q (@hv _ 4 _ _ (by rfl) (by walk_at "3") (by decide) (by decide)) (@hv _ 6 _ _ (by rfl) (by walk_at "3") (by decide) (by decide)))) (@hv _ 2 _ _ (by rfl) (by walk_at "3") (by decide) (by decide)) (@hv _ 7 _ _ (by rfl) (by walk_at "3") (by decide) (by decide)) (by rfl)))) (by intro _;rfl))) (by intro _;rfl)) (@a0g _ _ _ (@a0r _ _ _ _ (@a0j _ _ _ _ _ _ _ _ _ _ D_without_noughts hr (@a0a _ _ _ _ _ (@hv _ 2 _ _ (by rfl) (by walk_at "3") (by decide) (by decide)) a0e (by rfl)) (by rfl) (by decide) (by rfl) (by rfl)))))),fun ts M Q h=>?_⟩
 unfold a0T at h
 split at h
 ·rename_i a b
  obtain⟨p,q,L,rfl,rfl,hL,hpq,hsz,hpl,hql,h⟩:=h
  refine a0c fun K1 hK1=>?_
  walk_at "rd"
  intro d hd
  have hMd:(updM M d (MO.dk [])) d=some (.dk (dkI [])):=a0i
  have hS:=Sub.new hd (o:=MO.dk [])
  generalize updM M d (MO.dk [])=M1 at hMd hS⊢
  rw[hK1];clear hK1
  refine a0c fun K2 hK2=>?_
  refine a2N fun B hB=>?_
  unfold a6D
  walk_at "rd"
  refine⟨fun i ρ M'=>(∃ (x3 x4 x5 x6 x7:Option T),ρ=[some (T.tup (p.map prT)),some (T.tup (q.map prT)),some (T.adr d),x3,x4,x5,x6,x7])∧(∃ m:Po,M' d=some (.dk (dkI m))∧(m.map Prod.fst).Nodup∧(∀ x∈m,x.1∈L)∧∀ k,co m k=co (rawM (p.take i) q) k)∧Sub M M',⟨⟨_,_,_,_,_,rfl⟩,⟨[],hMd,.nil,fun _ z=>absurd z List.not_mem_nil,fun k=>rfl⟩,hS⟩,fun _ _ _ _=>trivial,?_,?_⟩
  ·rintro i x ρ M' hx ⟨⟨x3,x4,x5,x6,x7,rfl⟩,⟨m,hm,hnd,hmL,hco⟩,hS1⟩
   obtain⟨⟨y1,y2⟩,hx2,rfl⟩:∃ y,p[i]?=some y∧prT y=x:=by
    rw[List.getElem?_map] at hx
    exact Option.map_eq_some_iff.mp hx
   have hyp:=List.mem_of_getElem? hx2
   rw[show prT (y1,y2)=T.tup [T.int y1,T.int y2] from rfl]
   dsimp only
   refine⟨rfl,rfl,?_⟩
   rw[hB];clear hB
   refine a2N fun B2 hB2=>?_
   unfold a6D
   walk_at "rd"
   refine⟨fun j ρ M2=>(∃ (x5 x6 x7:Option T),ρ=[some (T.tup (p.map prT)),some (T.tup (q.map prT)),some (T.adr d),some (T.int y1),some (T.int y2),x5,x6,x7])∧(∃ m2:Po,M2 d=some (.dk (dkI m2))∧(m2.map Prod.fst).Nodup∧(∀ x∈m2,x.1∈L)∧∀ k,co m2 k=co m k+co ((q.take j).map fun b=>(y1+b.1,y2*b.2)) k)∧Sub M M2,⟨⟨_,_,_,rfl⟩,⟨m,hm,hnd,hmL,fun k=>by show _=co m k+0;rw[Int.add_zero]⟩,hS1⟩,fun _ _ _ _=>trivial,?_,?_⟩
   ·rintro j z ρ M2 hz ⟨⟨x5,x6,x7,rfl⟩,⟨m2,hm2,hnd2,hmL2,hco2⟩,hS2⟩
    obtain⟨⟨z1,z2⟩,hz2,rfl⟩:∃ y,q[j]?=some y∧prT y=z:=by
     rw[List.getElem?_map] at hz
     exact Option.map_eq_some_iff.mp hz
    have hzL:=hpq _ hyp _ (List.mem_of_getElem? hz2)
    have hy2:CMul y2 z2:=by
     rcases hsz with s | s
     ·have:=s _ hyp
      exact .inl ⟨by lia,by lia⟩
     ·have:=s _ (List.mem_of_getElem? hz2)
      exact .inr ⟨by lia,by lia⟩
    dsimp only at hzL
    rw[show prT (z1,z2)=T.tup [T.int z1,T.int z2] from rfl]
    dsimp only
    refine⟨rfl,rfl,?_⟩
    rw[hB2];clear hB2
    refine a0c fun K5 hK5=>?_
    walk_at "rd"
    rw[hK5];clear hK5
    walk_at "rd"
    rw[hm2]
    refine⟨trivial,?_⟩
    dsimp only
    refine⟨.inl (y1+z1),rfl,hy2,?_⟩
    rw[a7X (y1+z1) hnd2]
    dsimp only
    have hml:=a4G hnd2 hmL2
    refine⟨.inl (y1+z1),rfl,a0V (by rw[b5c];lia),⟨_,_,_,rfl⟩,⟨setP (y1+z1) (co m2 (y1+z1)+y2*z2) m2,by rw[a8o hnd2],a7H hnd2,b1B hzL hmL2,fun k=>?_⟩,hS2.updF hd⟩
    have ht:q.take (j+1)=q.take j++[(z1,z2)]:=by rw[List.take_add_one,hz2];rfl
    rw[b1m (y1+z1) _ hnd2,ht,List.map_append,a1U,← Int.add_assoc,← hco2]
    show _=co m2 k+((if y1+z1=k then y2*z2 else 0)+0)
    by_cases e:k=y1+z1
    ·rw[if_pos e,if_pos e.symm,e];lia
    ·rw[if_neg e,if_neg (fun z=>e z.symm)];lia
   ·rintro ρ M2 ⟨⟨x5,x6,x7,rfl⟩,⟨m2,hm2,hnd2,hmL2,hco2⟩,hS2⟩
    refine⟨⟨_,_,_,_,_,rfl⟩,⟨m2,hm2,hnd2,hmL2,fun k=>?_⟩,hS2⟩
    try rw[List.length_map] at hco2
    rw[List.take_length] at hco2
    rw[hco2 k,hco k,b5N hx2]
  ·rintro ρ M' ⟨⟨x3,x4,x5,x6,x7,rfl⟩,⟨m,hm,hnd,hmL,hco⟩,hS1⟩
   try rw[List.length_map] at hco
   rw[List.take_length] at hco
   rw[hK2];clear hK2
   walk_at "rd"
   refine⟨m,hm,hnd,Nat.lt_of_le_of_lt (a4G hnd hmL) hL,?_⟩
   have e:=b1P hco
   rw[e]
   exact a0x h hS1
 ·exact h.elim
theorem a4n {a b:Nat} {p q:Po} {M:MH} {Q:VK3} (hp:GdE a p) (hq:GdE b q) (hab:a+b≤62) (hB:Sml p∨Sml q) (h:Q (poT (a1E p q)) M):a0T [poT p,poT q] M Q :=
 ⟨p,q,stpE (a+b),rfl,rfl,by rw[a8b];lia,fun x hx y hy=>a6v (hp.2.sum hq.2 hx hy),hB,by have:=hp.len;lia,by have:=hq.len;lia,h⟩
theorem b0y {a:Nat} {p q:Po} {M:MH} {Q:VK3} (hp:GdE a p) (hq:GdE a q) (ha:a≤62) (h:Q (poT (addP p q)) M):a4z [poT p,poT q] M Q :=
 ⟨p,q,stpE a,rfl,rfl,hp.1,by rw[a8b];lia,fun x hx=>a6v (hp.2 x hx),fun x hx=>a6v (hq.2 x hx),by have:=hq.len;lia,h⟩
theorem b3u {c:TT3} {b:TS3} {D:Ends3} {ρ:En} {M:MH} (h:∀ B:TS3,B=b→a6C c B D ρ M):a6C c b D ρ M:=h _ rfl
noncomputable def a2c:Sp3:=fun ts M Q=>match ts with
 | [.int m]=>∃ k:Nat,m=k∧1≤k∧k≤22∧∀ (r:Addr) (M':MH),M r=none→Sub M M'→M' r=some (.lst ((lwL k).map poT))→Q (.adr r) M'
 | _=>False
theorem a7n {P w K base f fd} {mg:Str→Option Value} {n:Nat}  (F:Fun K "loop_worths" "loop_worths" a2z f fd) (hm:mg "loop_worths"=some (.ref f)) (hb:a0G K fd ["most"] []) (Z:Zs K mg) (D_multiplied:Df P w K mg base n "multiplied" ["one","other"] a0T):Df P w K mg base (n+1) "loop_worths" ["most"] a2c:=by
 obtain⟨tk_NOUGHT,c_NOUGHT⟩:=Z.c_NOUGHT
 obtain⟨tk_ONE,c_ONE⟩:=Z.c_ONE
 obtain⟨tk_LOOP,c_LOOP⟩:=Z.c_LOOP
 refine F.dfn hm hb a4Q (by unfold a2c;walk_at "ln") ⟨_,fun cdv A outer s H E hr=>(@a0b _ _ _ _ _ (@a0C _ _ _ _ 1 _ _ (@a3q _ _ _ _ (@a0a _ _ _ _ _ (@a5d _ _ _ _ _ c_NOUGHT (by rfl) (by decide)) (@a0a _ _ _ _ _ (@a5d _ _ _ _ _ c_ONE (by rfl) (by decide)) a0e (by rfl)) (by rfl))) a4Q.nd (by rfl) (by walk_at "2") (by rfl) (by walk_at "4")) (@a0b _ _ _ _ _ (@b3X _ _ _ _ _ _ PassesOwn.never (@a0n _ _ _ _ _ _ _ _ a4S (@a0l _ _ _ _ _ _ _ _ _ a0p Z.b_len PySem.boot_len (@a0a _ _ _ _ _ (@hv _ 1 _ _ (by rfl) (by walk_at "3") (by decide) (by decide)) a0e (by rfl)) (by rfl) (by decide) (by decide) (by rfl) (by rfl)) (@hv _ 0 _ _ (by rfl) (by walk_at "3") (by decide) (by decide)) (@a0k _ _ (by decide) (by decide))) (@a0g _ _ _ (@a4c _ _ _ _ (@a5Y _ _ _ _ _ _ _ _ (@hv _ 1 _ _ (by rfl) (by walk_at "3") (by decide) (by decide)) (@a0a _ _ _ _ _ (@a0j _ _ _ _ _ _ _ _ _ _ D_multiplied hr (@a0a _ _ _ _ _ (@h_ix _ _ _ _ _ _ (@hv _ 1 _ _ (by rfl) (by walk_at "3") (by decide) (by decide)) (@h_un _ _ _ _ _ _ a0J a0d) (by intro _ _;rfl)) (@a0a _ _ _ _ _ (@a5d _ _ _ _ _ c_LOOP (by rfl) (by decide)) a0e (by rfl)) (by rfl)) (by rfl) (by decide) (by rfl) (by rfl)) a0e (by rfl)) (by rfl) (by rfl) (by rfl) (by rfl) (by rfl)) (by rfl)))) (@a0g _ _ _ (@a0r _ _ _ _ (@hv _ 1 _ _ (by rfl) (by walk_at "3") (by decide) (by decide)))))),fun ts M Q h=>?_⟩
 unfold a2c at h
 split at h
 ·rename_i m
  obtain⟨k,rfl,k1,k22,h⟩:=h
  refine a0c fun K1 hK1=>?_
  walk_at "rd"
  refine⟨by decide,fun p hp=>?_⟩
  have hMp:(updM M p (MO.lst [T.tup [],T.tup [T.tup [T.int 0,T.int 1]]])) p=some (.lst ((lwL 1).map poT)):=a0i
  have hS:=Sub.new hp (o:=MO.lst [T.tup [],T.tup [T.tup [T.int 0,T.int 1]]])
  generalize updM M p (MO.lst [T.tup [],T.tup [T.tup [T.int 0,T.int 1]]])=M1 at hMp hS⊢
  rw[hK1];clear hK1
  refine a0c fun K2 hK2=>?_
  refine b3u fun B hB=>?_
  unfold a6C
  refine⟨fun i ρ M'=>∃ j:Nat,1≤j∧j≤k∧i+j=k∧ρ=[some (T.int k),some (T.adr p)]∧M' p=some (.lst ((lwL j).map poT))∧Sub M M',⟨k - 1,1,by lia,k1,by lia,rfl,hMp,hS⟩,?_⟩
  rintro i ρ M' ⟨j,j1,jk,ij,rfl,hMj,hS1⟩
  walk_at "rd"
  rw[hMj]
  dsimp only
  rw[List.length_map,b4A]
  refine ite2 (fun c=>?_) (fun c=>?_)
  ·have hj:j < k:=by lia
   rw[hB];clear hB
   walk_at "rd"
   rw[hMj]
   dsimp only
   obtain⟨t,ht⟩:∃ t,j=t+1:=⟨j - 1,by lia⟩
   have e0:atI ((lwL j).map poT) (-1)=some (poT (dP t)):=by
    rw[ht,b1W,List.map_append]
    exact a8V _ _
   rw[e0]
   dsimp only
   have hg:=a7a t
   refine⟨trivial,a4n (q:=lpP) hg GdE.lp (by lia) (.inr Sml.lp) ?_⟩
   rw[hMj]
   dsimp only
   have e1:(lwL j).map poT++[poT (a1E (dP t) lpP)]=(lwL (j+1)).map poT:=by rw[b1W,List.map_append,ht];rfl
   rw[e1]
   exact⟨a0V (by rw[List.length_map,b4A];lia),k - (j+1),by lia,j+1,by lia,by lia,by lia,rfl,hS1.updF hp⟩
  ·rw[hK2]
   walk_at "rd"
   have e:j=k:=by lia
   subst e
   exact a0f (h p M' hp hS1 hMj)
 ·exact h.elim
theorem a6L (a:Int) (m:Nat):a1I a m=((List.range m).map fun (k:Nat)=>a+k).map T.int:=by
 unfold a1I
 rw[List.map_map];rfl
noncomputable def a2o:Sp3:=fun ts M Q=>match ts with
 | [.int n]=>∃ m:Nat,n=m∧1≤m∧m≤6∧Q (.dic (nI (plN m)) []) M
 | _=>False
theorem a8w {P w K base f fd} {mg:Str→Option Value} {n:Nat}  (F:Fun K "plain_nest" "plain_nest" a3d f fd) (hm:mg "plain_nest"=some (.ref f)) (hb:a0G K fd ["strands"] []) (Z:Zs K mg) :Df P w K mg base (n+1) "plain_nest" ["strands"] a2o:=by
 refine F.dfn hm hb a8i (by unfold a2o;walk_at "ln") ⟨_,fun cdv A outer s H E hr=>(@a0g _ _ _ (@a0r _ _ _ _ (@a0m _ _ _ _ _ _ _ _ b6h (@b1f _ _ _ _ _ _ _ _ Z.b_tuple Z.b_range (@a0a _ _ _ _ _ (@hv _ 0 _ _ (by rfl) (by walk_at "3") (by decide) (by decide)) (@a0a _ _ _ _ _ (@a0m _ _ _ _ _ _ _ _ a0Q a0d (@hv _ 0 _ _ (by rfl) (by walk_at "3") (by decide) (by decide))) a0e (by rfl)) (by rfl)) (by rfl) (by rfl) (by rfl) (by rfl) (by rfl) (by rfl)) (@b1g _ _ _ _ _ _ _ Z.b_tuple Z.b_range (@a0a _ _ _ _ _ (@hv _ 0 _ _ (by rfl) (by walk_at "3") (by decide) (by decide)) a0e (by rfl)) (by rfl) (by rfl) (by rfl) (by rfl) (by rfl))))),fun ts M Q h=>?_⟩
 unfold a2o at h
 split at h
 ·rename_i n
  obtain⟨m,rfl,m1,m6,h⟩:=h
  walk_at "rd"
  rw[show (2*(m:Int) - (m:Int)).toNat=m by lia,show ((m:Nat):Int).toNat=m by lia]
  refine⟨.inl ⟨by lia,by lia⟩,by lia,by lia,_,_,a6L _ m,a6L 0 m,?_,?_,?_,?_⟩
  ·intro z
   have:=congrArg List.length z
   rw[List.length_map,List.length_range,List.length_nil] at this
   lia
  ·intro z
   have:=congrArg List.length z
   rw[List.length_map,List.length_range,List.length_nil] at this
   lia
  ·rw[List.length_map,List.length_map,List.length_range]
   exact a0A (by lia)
  ·have e:((List.range m).map fun (k:Nat)=>(m:Int)+k)++((List.range m).map fun (k:Nat)=>(0:Int)+k)=nI (plN m):=by
    unfold nI plN
    rw[List.map_append,List.map_map]
    congr 1
    ·refine List.map_congr_left fun k _=>?_
     show (m:Int)+k=((k+m:Nat):Int)
     lia
    ·refine List.map_congr_left fun k _=>?_
     lia
   rw[e]
   exact a0f h
 ·exact h.elim
theorem b1S (N:Nst):(nI N).length=N.length:=List.length_map ..
theorem b4v {N:Nst} {k:Nat} (h:k < N.length):atI ((nI N).map T.int) (k:Int)=some (.int (gN N k:Nat)):=by
 refine a5k ?_
 unfold nI gN
 rw[List.getElem?_map,List.getElem?_map,List.getElem?_eq_getElem h,List.getD_eq_getElem?_getD,List.getElem?_eq_getElem h];rfl
noncomputable def a2p:Sp3:=fun ts M Q=>match ts with
 | [.dic ks _,.int l]=>∃ (m i:Nat) (N:Nst),ks=nI N∧l=i∧Cm m∧N∈nsts m∧1≤i∧i < m∧Q (.bl (mlN N i)) M
 | _=>False
theorem a8y {P w K base f fd} {mg:Str→Option Value} {n:Nat}  (F:Fun K "makes_loop" "makes_loop" a3f f fd) (hm:mg "makes_loop"=some (.ref f)) (hb:a0G K fd ["nest","number"] []) (Z:Zs K mg) :Df P w K mg base (n+1) "makes_loop" ["nest","number"] a2p:=by
 refine F.dfn hm hb a5w (by unfold a2p;walk_at "ln") ⟨_,fun cdv A outer s H E hr=>(@a0b _ _ _ _ _ (@a0C _ _ _ _ 2 _ _ (@a0m _ _ _ _ _ _ _ _ a0o (@a0m _ _ _ _ _ _ _ _ a4Z (@a0l _ _ _ _ _ _ _ _ _ a0p Z.b_len PySem.boot_len (@a0a _ _ _ _ _ (a4d (@hv _ 0 _ _ (by rfl) (by walk_at "3") (by decide) (by decide))) a0e (by rfl)) (by rfl) (by decide) (by decide) (by rfl) (by rfl)) a0d) (@hv _ 1 _ _ (by rfl) (by walk_at "3") (by decide) (by decide))) a5w.nd (by rfl) (by walk_at "2") (by rfl) (by walk_at "4")) (@a0g _ _ _ (@a0r _ _ _ _ (@a4N _ _ _ _ _ _ _ _ (@a0y _ hr.units) (@h_ix _ _ _ _ _ _ (a4d (@hv _ 0 _ _ (by rfl) (by walk_at "3") (by decide) (by decide))) (@hv _ 2 _ _ (by rfl) (by walk_at "3") (by decide) (by decide)) (by intro _ _;rfl)) (@a0m _ _ _ _ _ _ _ _ a0M (@hv _ 2 _ _ (by rfl) (by walk_at "3") (by decide) (by decide)) a0d) (@a0k _ _ (by decide) (by decide)))))),fun ts M Q h=>?_⟩
 unfold a2p at h
 split at h
 ·rename_i ks e l
  obtain⟨m,i,N,rfl,rfl,hm,hN,i1,im,h⟩:=h
  refine a0c fun K1 hK1=>?_
  walk_at "rd"
  have hl:=(a7q hm hN).1
  have hm6:=hm.2
  have em:((nI N).length:Int) / 2+(i:Int)=((m+i:Nat):Int):=by rw[b1S,hl];lia
  refine⟨by unfold b3t;decide,?_⟩
  rw[em,hK1];clear hK1
  walk_at "rd"
  rw[b4v (by lia:m+i < N.length)]
  dsimp only
  refine⟨by first | rw[a6M] | (rw[a3W];decide),by first | rw[a6M] | (rw[a3W];decide),?_⟩
  rw[a3V]
  have e:decide (((gN N (m+i):Nat):Int)=((m+i:Nat):Int) - 1)=mlN N i:=by
   unfold mlN
   rw[show N.length / 2=m by lia]
   by_cases c:gN N (m+i)=m+i - 1
   ·rw[decide_eq_true (by lia),beq_iff_eq.mpr c]
   ·rw[decide_eq_false (by lia)]
    exact (beq_eq_false_iff_ne.mpr c).symm
  rw[e]
  exact a0f h
 ·exact h.elim
noncomputable def a2W:Sp3:=fun ts M Q=>match ts with
 | [.dic ks _,.int l]=>∃ (m i:Nat) (N:Nst),ks=nI N∧l=i∧Cm m∧N∈nsts m∧1≤i∧i < m∧∀ M',Sub M M'→Q (.dic (nI (hkN N i)) []) M'
 | _=>False
theorem a9w {P w K base f fd} {mg:Str→Option Value} {n:Nat}  (F:Fun K "with_hook" "with_hook" a3J f fd) (hm:mg "with_hook"=some (.ref f)) (hb:a0G K fd ["nest","number"] []) (Z:Zs K mg) :Df P w K mg base (n+1) "with_hook" ["nest","number"] a2W:=by
 refine F.dfn hm hb a4j (by unfold a2W;walk_at "ln") ⟨_,fun cdv A outer s H E hr=>(@a0b _ _ _ _ _ (@a0C _ _ _ _ 2 _ _ (@a0m _ _ _ _ _ _ _ _ a0o (@a0m _ _ _ _ _ _ _ _ a4Z (@a0l _ _ _ _ _ _ _ _ _ a0p Z.b_len PySem.boot_len (@a0a _ _ _ _ _ (a4d (@hv _ 0 _ _ (by rfl) (by walk_at "3") (by decide) (by decide))) a0e (by rfl)) (by rfl) (by decide) (by decide) (by rfl) (by rfl)) a0d) (@hv _ 1 _ _ (by rfl) (by walk_at "3") (by decide) (by decide))) a4j.nd (by rfl) (by walk_at "2") (by rfl) (by walk_at "4")) (@a0b _ _ _ _ _ (@a0C _ _ _ _ 3 _ _ (@a1F _ _ _ _ _ _ _ _ _ b3r Z.b_list PyProof.Rows.boot_list (@a0a _ _ _ _ _ (a4d (@hv _ 0 _ _ (by rfl) (by walk_at "3") (by decide) (by decide))) a0e (by rfl)) (by rfl) (by decide) (by decide) (by rfl) (by rfl)) a4j.nd (by rfl) (by walk_at "2") (by rfl) (by walk_at "4")) (@a0b _ _ _ _ _ (@a6k _ _ _ _ _ _ (@h_ix _ _ _ _ _ _ (a4d (@hv _ 0 _ _ (by rfl) (by walk_at "3") (by decide) (by decide))) (@hv _ 2 _ _ (by rfl) (by walk_at "3") (by decide) (by decide)) (by intro _ _;rfl)) (@a9W _ _ _ _ _ _ (@hv _ 3 _ _ (by rfl) (by walk_at "3") (by decide) (by decide)) (@h_ix _ _ _ _ _ _ (a4d (@hv _ 0 _ _ (by rfl) (by walk_at "3") (by decide) (by decide))) (@a0m _ _ _ _ _ _ _ _ a0M (@hv _ 2 _ _ (by rfl) (by walk_at "3") (by decide) (by decide)) a0d) (by intro _ _;rfl)) (by intro _;rfl)) (by rfl) (by rfl) (by rfl)) (@a0b _ _ _ _ _ (@a6k _ _ _ _ _ _ (@h_ix _ _ _ _ _ _ (a4d (@hv _ 0 _ _ (by rfl) (by walk_at "3") (by decide) (by decide))) (@a0m _ _ _ _ _ _ _ _ a0M (@hv _ 2 _ _ (by rfl) (by walk_at "3") (by decide) (by decide)) a0d) (by intro _ _;rfl)) (@a9W _ _ _ _ _ _ (@hv _ 3 _ _ (by rfl) (by walk_at "3") (by decide) (by decide)) (@h_ix _ _ _ _ _ _ (a4d (@hv _ 0 _ _ (by rfl) (by walk_at "3") (by decide) (by decide))) (@hv _ 2 _ _ (by rfl) (by walk_at "3") (by decide) (by decide)) (by intro _ _;rfl)) (by intro _;rfl)) (by rfl) (by rfl) (by rfl)) (@a0b _ _ _ _ _ (@a6k _ _ _ _ _ _ (@hv _ 2 _ _ (by rfl) (by walk_at "3") (by decide) (by decide)) (@a9W _ _ _ _ _ _ (@hv _ 3 _ _ (by rfl) (by walk_at "3") (by decide) (by decide)) (@a0m _ _ _ _ _ _ _ _ a0M (@hv _ 2 _ _ (by rfl) (by walk_at "3") (by decide) (by decide)) a0d) (by intro _;rfl)) (by rfl) (by rfl) (by rfl)) (@a0b _ _ _ _ _ (@a6k _ _ _ _ _ _ (@a0m _ _ _ _ _ _ _ _ a0M (@hv _ 2 _ _ (by rfl) (by walk_at "3") (by decide) (by decide)) a0d) (@a9W _ _ _ _ _ _ (@hv _ 3 _ _ (by rfl) (by walk_at "3") (by decide) (by decide)) (@hv _ 2 _ _ (by rfl) (by walk_at "3") (by decide) (by decide)) (by intro _;rfl)) (by rfl) (by rfl) (by rfl)) (@a0g _ _ _ (@a0r _ _ _ _ (@a1F _ _ _ _ _ _ _ _ _ b3q Z.b_tuple PyProof.Rows.boot_tuple (@a0a _ _ _ _ _ (@hv _ 3 _ _ (by rfl) (by walk_at "3") (by decide) (by decide)) a0e (by rfl)) (by rfl) (by decide) (by decide) (by rfl) (by rfl)))))))))),fun ts M Q h=>?_⟩
 unfold a2W at h
 split at h
 ·rename_i ks e l
  obtain⟨m,i,N,rfl,rfl,hm,hN,i1,im,h⟩:=h
  refine a0c fun K1 hK1=>?_
  walk_at "rd"
  have hl:=(a7q hm hN).1
  have hlt:=(a7q hm hN).2.1
  have hm6:=hm.2
  have em:((nI N).length:Int) / 2+(i:Int)=((m+i:Nat):Int):=by rw[b1S,hl];lia
  refine⟨by unfold b3t;decide,?_⟩
  rw[em,hK1];clear hK1
  refine a0c fun K2 hK2=>?_
  walk_at "rd"
  intro p hp
  have hnat:(nI N).map T.int=natT N:=rfl
  have la:gN N (m+i - 1) < 2*m:=(b4u hm hN (by lia)).1
  have lc:gN N (m+i) < 2*m:=(b4u hm hN (by lia)).1
  have ga:atI ((nI N).map T.int) (((m+i:Nat):Int) - 1)=some (.int (gN N (m+i - 1):Nat)):=by
   rw[show ((m+i:Nat):Int) - 1=((m+i - 1:Nat):Int) by lia]
   exact b4v (by lia)
  have gc:atI ((nI N).map T.int) ((m+i:Nat):Int)=some (.int (gN N (m+i):Nat)):=b4v (by lia)
  have hMp:(updM M p (MO.lst ((nI N).map T.int))) p=some (.lst (natT N)):=a0i
  have hS:=Sub.new hp (o:=MO.lst ((nI N).map T.int))
  generalize updM M p (MO.lst ((nI N).map T.int))=M1 at hMp hS⊢
  rw[hK2];clear hK2
  refine a0c fun K3 hK3=>?_
  walk_at "rd"
  rw[gc]
  dsimp only
  rw[ga]
  dsimp only
  have stp:∀ (M2:MH) (L:Nst) (j x:Nat) (K:En→MH→Prop),Sub M M2→M2 p=some (.lst (natT L))→j < L.length→(∀ M3,Sub M M3→M3 p=some (.lst (natT (L.set j x)))→K [some (T.dic (nI N) e),some (T.int (i:Nat)),some (T.int ((m+i:Nat):Int)),some (T.adr p)] M3) →
    (match M2 p with
     | some (MO.lst ts)=>(match ixN ts.length ((j:Nat):Int) with
       | some j=>K [some (T.dic (nI N) e),some (T.int (i:Nat)),some (T.int ((m+i:Nat):Int)),some (T.adr p)] (updM M2 p (MO.lst (ts.set j (T.int (x:Nat)))))
       | none=>False)
     | x=>False):=fun M2 L j x K hS2 h2 hj k=>by
   rw[h2]
   dsimp only
   rw[b8E (by lia) (by rw[b6m];lia)]
   dsimp only
   rw[show ((j:Nat):Int).toNat=j by lia,b6l]
   exact k _ (hS2.updF hp) a0i
  refine stp M1 N _ _ K3 hS hMp (by lia) fun M2 hS2 h2=>?_
  rw[hK3];clear hK3 hS hMp
  refine a0c fun K4 hK4=>?_
  walk_at "rd"
  rw[ga]
  dsimp only
  rw[gc]
  dsimp only
  refine stp M2 _ _ _ K4 hS2 h2 (by rw[List.length_set];lia) fun M3 hS3 h3=>?_
  rw[hK4];clear hK4 hS2 h2
  refine a0c fun K5 hK5=>?_
  walk_at "rd"
  rw[show ((m+i:Nat):Int) - 1=((m+i - 1:Nat):Int) by lia]
  refine stp M3 _ _ _ K5 hS3 h3 (by rw[List.length_set,List.length_set];lia) fun M4 hS4 h4=>?_
  rw[hK5];clear hK5 hS3 h3
  refine a0c fun K6 hK6=>?_
  walk_at "rd"
  rw[show ((m+i:Nat):Int) - 1=((m+i - 1:Nat):Int) by lia]
  refine stp M4 _ _ _ K6 hS4 h4 (by rw[List.length_set,List.length_set,List.length_set];lia) fun M5 hS5 h5=>?_
  rw[hK6];clear hK6 hS4 h4
  walk_at "rd"
  rw[h5]
  refine⟨nI (hkN N i),?_,a0f (h M5 hS5)⟩
  unfold hkN
  rw[show N.length / 2=m by lia];rfl
 ·exact h.elim
noncomputable def a5s:Sp3:=fun ts M Q=>match ts with
 | [.adr d,.dic ks _,.tup p]=>∃ (m c:Nat) (D:DN) (N:Nst) (q:Po),M d=some (.dt (dtN D))∧ks=nI N∧p=q.map prT∧N∈nsts m∧DOK m c D∧GdE c q∧c≤62∧Q .non (updM M d (.dt (dtN (addD D N q))))
 | _=>False
theorem b4r {P w K base f fd} {mg:Str→Option Value} {n:Nat}  (F:Fun K "put_in" "put_in" a6t f fd) (hm:mg "put_in"=some (.ref f)) (hb:a0G K fd ["worths","nest","worth"] []) (Z:Zs K mg) (D_added:Df P w K mg base n "added" ["one","other"] a4z):Df P w K mg base (n+1) "put_in" ["worths","nest","worth"] a5s:=by
 obtain⟨tk_NOUGHT,c_NOUGHT⟩:=Z.c_NOUGHT
 refine F.dfn hm hb b3U (by unfold a5s;walk_at "ln") ⟨_,fun cdv A outer s H E hr=>(@a0g _ _ _ (c1J hr.units (@a0j _ _ _ _ _ _ _ _ _ _ D_added hr (@a0a _ _ _ _ _ (c0U hr.units (@hv _ 0 _ _ (by rfl) (by walk_at "3") (by decide) (by decide)) (@hv _ 1 _ _ (by rfl) (by walk_at "3") (by decide) (by decide)) (@a5d _ _ _ _ _ c_NOUGHT (by rfl) (by decide))) (@a0a _ _ _ _ _ (@hv _ 2 _ _ (by rfl) (by walk_at "3") (by decide) (by decide)) a0e (by rfl)) (by rfl)) (by rfl) (by decide) (by rfl) (by rfl)) (@hv _ 0 _ _ (by rfl) (by walk_at "3") (by decide) (by decide)) (@hv _ 1 _ _ (by rfl) (by walk_at "3") (by decide) (by decide)))),fun ts M Q h=>?_⟩
 unfold a5s at h
 split at h
 ·rename_i d ks e p
  obtain⟨m,c,D,N,q,hd,rfl,rfl,hN,hD,hq,hc,h⟩:=h
  walk_at "rd"
  rw[hd]
  refine⟨trivial,?_⟩
  dsimp only
  rw[b1u]
  refine b0y (b1X hD.2 N) hq hc ?_
  rw[hd]
  dsimp only
  refine⟨a0V (by rw[b8V];have:=hD.len;lia),?_⟩
  rw[b1F hD.1]
  exact a0f h
 ·exact h.elim
noncomputable def a2b:Sp3:=fun ts M Q=>match ts with
 | [.adr d,.int l]=>∃ (m b:Nat) (D:DN),M d=some (.dt (dtN D))∧Cm m∧LetN m l∧DOK m b D∧b≤50∧∀ (r:Addr) (M':MH),M r=none→(∀ a o,a≠d→M a=some o→M' a=some o)→M' r=some (.dt (dtN (wlN l D)))→Q (.adr r) M'
 | _=>False
theorem a7m {P w K base f fd} {mg:Str→Option Value} {n:Nat}  (F:Fun K "with_letter" "with_letter" a2y f fd) (hm:mg "with_letter"=some (.ref f)) (hb:a0G K fd ["worths","letter"] []) (Z:Zs K mg) (D_sign_of:Df P w K mg base n "sign_of" ["letter"] a2E) (D_put_in:Df P w K mg base n "put_in" ["worths","nest","worth"] a5s) (D_multiplied:Df P w K mg base n "multiplied" ["one","other"] a0T) (D_makes_loop:Df P w K mg base n "makes_loop" ["nest","number"] a2p) (D_with_hook:Df P w K mg base n "with_hook" ["nest","number"] a2W):Df P w K mg base (n+1) "with_letter" ["worths","letter"] a2b:=by
 obtain⟨tk_LOOP,c_LOOP⟩:=Z.c_LOOP
 refine F.dfn hm hb a1l (by unfold a2b;walk_at "ln") ⟨_,fun cdv A outer s H E hr=>(@a0b _ _ _ _ _ (@a0C _ _ _ _ 2 _ _ (@a0j _ _ _ _ _ _ _ _ _ _ D_sign_of hr (@a0a _ _ _ _ _ (@hv _ 1 _ _ (by rfl) (by walk_at "3") (by decide) (by decide)) a0e (by rfl)) (by rfl) (by decide) (by rfl) (by rfl)) a1l.nd (by rfl) (by walk_at "2") (by rfl) (by walk_at "4")) (@a0b _ _ _ _ _ (@a0C _ _ _ _ 3 _ _ c0V a1l.nd (by rfl) (by walk_at "2") (by rfl) (by walk_at "4")) (@a0b _ _ _ _ _ (@a6H _ _ _ _ _ _ _ _ PassesOwn.never rfl (b4O (@hv _ 0 _ _ (by rfl) (by walk_at "3") (by decide) (by decide))) (@a8M _ _ _ _ _ 2 rfl (@a1i _ _ _ _ _ (@a1j _ _ 4 _ a1l.nd (by rfl) (by walk_at "2") (by walk_at "4")) (@a1i _ _ _ _ _ (@a1j _ _ 5 _ a1l.nd (by rfl) (by walk_at "2") (by walk_at "4")) a5M (by rfl)) (by rfl)) (by rfl) (by rfl)) (@a0b _ _ _ _ _ (@a4c _ _ _ _ (@a0j _ _ _ _ _ _ _ _ _ _ D_put_in hr (@a0a _ _ _ _ _ (@hv _ 3 _ _ (by rfl) (by walk_at "3") (by decide) (by decide)) (@a0a _ _ _ _ _ (@hv _ 4 _ _ (by rfl) (by walk_at "3") (by decide) (by decide)) (@a0a _ _ _ _ _ (@a0j _ _ _ _ _ _ _ _ _ _ D_multiplied hr (@a0a _ _ _ _ _ (@hv _ 5 _ _ (by rfl) (by walk_at "3") (by decide) (by decide)) (@a2a _ _ _ _ _ _ _ (@a0R _ _ _ _ _ (@a2a _ _ _ _ _ _ _ (@a0R _ _ _ _ _ (@a0a _ _ _ _ _ (@hv _ 2 _ _ (by rfl) (by walk_at "3") (by decide) (by decide)) (@a0a _ _ _ _ _ a0d a0e (by rfl)) (by rfl))) a0e)) a0e) (by rfl)) (by rfl) (by decide) (by rfl) (by rfl)) a0e (by rfl)) (by rfl)) (by rfl)) (by rfl) (by decide) (by rfl) (by rfl)) (by rfl)) (@a0b _ _ _ _ _ (@a0C _ _ _ _ 6 _ _ (@a0j _ _ _ _ _ _ _ _ _ _ D_multiplied hr (@a0a _ _ _ _ _ (@hv _ 5 _ _ (by rfl) (by walk_at "3") (by decide) (by decide)) (@a2a _ _ _ _ _ _ _ (@a0R _ _ _ _ _ (@a2a _ _ _ _ _ _ _ (@a0R _ _ _ _ _ (@a0a _ _ _ _ _ (@h_un _ _ _ _ _ _ a0J (@hv _ 2 _ _ (by rfl) (by walk_at "3") (by decide) (by decide))) (@a0a _ _ _ _ _ a0d a0e (by rfl)) (by rfl))) a0e)) a0e) (by rfl)) (by rfl) (by decide) (by rfl) (by rfl)) a1l.nd (by rfl) (by walk_at "2") (by rfl) (by walk_at "4")) (@a0g _ _ _ (@s_if _ _ _ _ _ _ _ _ (@a4p _ _ _ (@a0j _ _ _ _ _ _ _ _ _ _ D_makes_loop hr (@a0a _ _ _ _ _ (@hv _ 4 _ _ (by rfl) (by walk_at "3") (by decide) (by decide)) (@a0a _ _ _ _ _ (@a0l _ _ _ _ _ _ _ _ _ a0t Z.b_abs PyProof.Rows.boot_abs (@a0a _ _ _ _ _ (@hv _ 1 _ _ (by rfl) (by walk_at "3") (by decide) (by decide)) a0e (by rfl)) (by rfl) (by decide) (by decide) (by rfl) (by rfl)) a0e (by rfl)) (by rfl)) (by rfl) (by decide) (by rfl) (by rfl)) (by intro _;rfl)) (@a0g _ _ _ (@a4c _ _ _ _ (@a0j _ _ _ _ _ _ _ _ _ _ D_put_in hr (@a0a _ _ _ _ _ (@hv _ 3 _ _ (by rfl) (by walk_at "3") (by decide) (by decide)) (@a0a _ _ _ _ _ (@hv _ 4 _ _ (by rfl) (by walk_at "3") (by decide) (by decide)) (@a0a _ _ _ _ _ (@a0j _ _ _ _ _ _ _ _ _ _ D_multiplied hr (@a0a _ _ _ _ _ (@hv _ 6 _ _ (by rfl) (by walk_at "3") (by decide) (by decide)) (@a0a _ _ _ _ _ (@a5d _ _ _ _ _ c_LOOP (by rfl) (by decide)) a0e (by rfl)) (by rfl)) (by rfl) (by decide) (by rfl) (by rfl)) a0e (by rfl)) (by rfl)) (by rfl)) (by rfl) (by decide) (by rfl) (by rfl)) (by rfl))) (@a0g _ _ _ (@a4c _ _ _ _ (@a0j _ _ _ _ _ _ _ _ _ _ D_put_in hr (@a0a _ _ _ _ _ (@hv _ 3 _ _ (by rfl) (by walk_at "3") (by decide) (by decide)) (@a0a _ _ _ _ _ (@a0j _ _ _ _ _ _ _ _ _ _ D_with_hook hr (@a0a _ _ _ _ _ (@hv _ 4 _ _ (by rfl) (by walk_at "3") (by decide) (by decide)) (@a0a _ _ _ _ _ (@a0l _ _ _ _ _ _ _ _ _ a0t Z.b_abs PyProof.Rows.boot_abs (@a0a _ _ _ _ _ (@hv _ 1 _ _ (by rfl) (by walk_at "3") (by decide) (by decide)) a0e (by rfl)) (by rfl) (by decide) (by decide) (by rfl) (by rfl)) a0e (by rfl)) (by rfl)) (by rfl) (by decide) (by rfl) (by rfl)) (@a0a _ _ _ _ _ (@hv _ 6 _ _ (by rfl) (by walk_at "3") (by decide) (by decide)) a0e (by rfl)) (by rfl)) (by rfl)) (by rfl) (by decide) (by rfl) (by rfl)) (by rfl))))))) (by intro _;rfl)) (@a0g _ _ _ (@a0r _ _ _ _ (@hv _ 3 _ _ (by rfl) (by walk_at "3") (by decide) (by decide))))))),fun ts M Q h=>?_⟩
 unfold a2b at h
 split at h
 ·rename_i d l
  obtain⟨m,b,D,hd,hm,hl,hD,hb,h⟩:=h
  refine a0c fun K1 hK1=>?_
  walk_at "rd"
  unfold a2E
  dsimp only
  rw[hK1];clear hK1
  refine a0c fun K2 hK2=>?_
  walk_at "rd"
  intro p hp
  have hdp:d≠p:=fun z=>by rw[z,hp] at hd;cases hd
  have hMp:(updM M p (MO.dt [])) p=some (.dt (dtN [])):=a0i
  have hS:=Sub.new hp (o:=MO.dt [])
  have hd1:=hS _ _ hd
  generalize updM M p (MO.dt [])=M1 at hMp hS hd1⊢
  rw[hK2];clear hK2
  refine a0c fun K3 hK3=>?_
  refine a2N fun B hB=>?_
  unfold a6D
  walk_at "rd"
  rw[hd1]
  dsimp only
  refine⟨_,b5a D,?_⟩
  have hkeep:∀ a o,a≠d→M a=some o→(updM M1 d (MO.fz (dtN D))) a=some o:=fun a o ha ho=>by rw[a0s ha];exact hS _ _ ho
  have hMp2:(updM M1 d (MO.fz (dtN D))) p=some (.dt (dtN [])):=by rw[a0s hdp.symm];exact hMp
  generalize updM M1 d (MO.fz (dtN D))=M2 at hkeep hMp2⊢
  clear hMp hS hd1
  refine⟨fun i ρ M'=>(∃ (x4 x5 x6:Option T),ρ=[some (T.adr d),some (T.int l),some (T.int (sgI l)),some (T.adr p),x4,x5,x6])∧M' p=some (.dt (dtN ((D.take i).foldl (wl1N l) [])))∧(∀ a o,a≠d→M a=some o→M' a=some o),⟨⟨_,_,_,rfl⟩,hMp2,hkeep⟩,fun _ _ _ _=>trivial,?_,?_⟩
  ·rintro i x ρ M' hx ⟨⟨x4,x5,x6,rfl⟩,hMp,hk⟩
   obtain⟨⟨N,q⟩,hdi,rfl⟩:∃ y,D[i]?=some y∧x=T.tup [T.dic (nI y.1) [],poT y.2]:=by
    unfold prTs at hx
    rw[List.map_map,List.getElem?_map] at hx
    obtain⟨y,h1,h2⟩:=Option.map_eq_some_iff.mp hx
    exact⟨y,h1,h2.symm⟩
   obtain⟨hN,hq⟩:=hD.2 _ (List.mem_of_getElem? hdi)
   dsimp only at hN hq
   have hsg:sgI l=1∨sgI l=-1:=by unfold sgI;split<;>simp
   have hE:DOK m (b+3) ((D.take i).foldl (wl1N l) []):=DOK.foldl hm hl _ _ (DOK.nil m _) fun y hy=>hD.2 y (List.mem_of_mem_take hy)
   have hE2:(D.take (i+1)).foldl (wl1N l) []=wl1N l ((D.take i).foldl (wl1N l) []) (N,q):=by
    rw[List.take_add_one,hdi,List.foldl_append];rfl
   generalize (D.take i).foldl (wl1N l) []=E at hMp hE hE2
   have g1:=(hq.mul (GdE.mono1 hsg)).up 1 (c:=b+3) (by lia)
   have g2:=hq.mul (GdE.mono1 (s:=-sgI l) (by lia))
   dsimp only
   refine⟨rfl,rfl,?_⟩
   rw[hB];clear hB
   refine a0c fun K4 hK4=>?_
   walk_at "rd"
   refine⟨by decide,by decide,a4n (q:=[(sgI l,1)]) hq (GdE.mono1 hsg) (by lia) (.inr (Sml.one1 _)) ?_⟩
   refine⟨m,b+3,E,N,_,hMp,rfl,rfl,hN,hE,g1,by lia,?_⟩
   have hMp3:(updM M' p (.dt (dtN (addD E N (a1E q [(sgI l,1)]))))) p=some (.dt (dtN (addD E N (a1E q [(sgI l,1)])))):=a0i
   have hk3:∀ a o,a≠d→M a=some o→(updM M' p (.dt (dtN (addD E N (a1E q [(sgI l,1)]))))) a=some o:=fun a o ha ho=>by
    rw[a0s (fun z=>by rw[z,hp] at ho;cases ho)];exact hk a o ha ho
   have hE3:=hE.add hN g1
   have ew:wl1N l E (N,q)=(if mlN N l.natAbs then addD (addD E N (a1E q [(sgI l,1)])) N (a1E (a1E q [(-sgI l,1)]) lpP) else addD (addD E N (a1E q [(sgI l,1)])) (hkN N l.natAbs) (a1E q [(-sgI l,1)])):=rfl
   rw[ew] at hE2
   clear ew
   generalize addD E N (a1E q [(sgI l,1)])=E2 at hMp3 hk3 hE3 hE2⊢
   generalize updM M' p (.dt (dtN E2))=M3 at hMp3 hk3⊢
   clear hMp hk hE
   show K4 _ _
   rw[hK4];clear hK4
   refine a0c fun K5 hK5=>?_
   walk_at "rd"
   refine⟨by decide,by decide,a4n (q:=[(-sgI l,1)]) hq (GdE.mono1 (by lia)) (by lia) (.inr (Sml.one1 _)) ?_⟩
   show K5 _ _
   rw[hK5];clear hK5
   walk_at "rd"
   refine⟨m,l.natAbs,N,rfl,rfl,hm,hN,hl.1,hl.2,?_⟩
   dsimp only
   have fin:∀ (E3:DN) (M4:MH),(D.take (i+1)).foldl (wl1N l) []=E3→(∀ a o,a≠d→M a=some o→M4 a=some o)→(∃ x4 x5 x6,([some (T.adr d),some (T.int l),some (T.int (sgI l)),some (T.adr p),some (T.dic (nI N) []),some (poT q),some (poT (a1E q [(-sgI l,1)]))]:En)=[some (T.adr d),some (T.int l),some (T.int (sgI l)),some (T.adr p),x4,x5,x6])∧(updM M4 p (.dt (dtN E3))) p=some (MO.dt (dtN (List.foldl (wl1N l) [] (List.take (i+1) D))))∧∀ (a:Addr) (o:MO),a≠d→M a=some o→(updM M4 p (.dt (dtN E3))) a=some o:=fun E3 M4 e hk4=>by
    refine⟨⟨_,_,_,rfl⟩,by rw[e];exact a0i,fun a o ha ho=>?_⟩
    rw[a0s (fun z=>by rw[z,hp] at ho;cases ho)];exact hk4 a o ha ho
   by_cases c:mlN N l.natAbs=true
   ·rw[if_pos c] at hE2⊢
    refine a4n (q:=lpP) g2 GdE.lp (by lia) (.inr Sml.lp) ?_
    exact⟨m,b+3,E2,N,_,hMp3,rfl,rfl,hN,hE3,g2.mul GdE.lp,by lia,fin _ _ hE2 hk3⟩
   ·rw[if_neg c] at hE2⊢
    refine⟨m,l.natAbs,N,rfl,rfl,hm,hN,hl.1,hl.2,fun M4 hS4=>?_⟩
    have hN2:=((a7q hm hN).2.2 _ hl.1 hl.2 (by simpa using c)).2
    exact⟨m,b+3,E2,_,_,hS4 _ _ hMp3,rfl,rfl,hN2,hE3,g2.up 1 (by lia),by lia,fin _ _ hE2 fun a o ha ho=>hS4 _ _ (hk3 a o ha ho)⟩
  ·rintro ρ M' ⟨⟨x4,x5,x6,rfl⟩,hMp,hk⟩
   rw[hK3]
   walk_at "rd"
   rw[a4Y,List.length_map,List.take_length] at hMp
   exact a0f (h p M' hp hk hMp)
 ·exact h.elim
noncomputable def seK (S:List Nat):List (Key × T):=List.map (fun (k:Nat)=>((.inl (k:Int):Key),T.bl true)) S
theorem b3P (S:List Nat):(seK S).length=S.length:=List.length_map ..
theorem b3Q (k:Nat):∀ S:List Nat,(valT (seK S) (.inl (k:Int))).isSome=S.contains k
 | []=>rfl
 | x :: S=>by
   have ih:=b3Q k S
   show (((((.inl (x:Int):Key),T.bl true) :: seK S).find? fun kv=>decide (kv.1=.inl (k:Int))).map (·.2)).isSome=_
   rw[List.contains_cons]
   by_cases c:x=k
   ·subst c
    rw[List.find?_cons,decide_eq_true rfl,beq_self_eq_true];rfl
   ·rw[List.find?_cons,decide_eq_false (show ¬(Sum.inl (x:Int):Key)=.inl (k:Int) from fun z=>c (Int.ofNat.inj (Sum.inl.inj z))),beq_eq_false_iff_ne.mpr (fun z=>c z.symm),Bool.false_or]
    exact ih
theorem b3O (k:Nat) (S:List Nat):putT (seK S) (.inl (k:Int)) (.bl true)=seK (insN S k):=by
 have e:((seK S).any fun kv=>decide (kv.1=.inl (k:Int)))=S.contains k:=by
  induction S with
  | nil=>rfl
  | cons x S ih =>
    show (decide ((Sum.inl (x:Int):Key)=.inl (k:Int)) || (seK S).any fun kv=>decide (kv.1=.inl (k:Int)))=_
    rw[List.contains_cons,ih]
    congr 1
    by_cases c:x=k
    ·rw[c,decide_eq_true rfl,beq_self_eq_true]
    ·rw[decide_eq_false (show ¬(Sum.inl (x:Int):Key)=.inl (k:Int) from fun z=>c (Int.ofNat.inj (Sum.inl.inj z))),beq_eq_false_iff_ne.mpr (fun z=>c z.symm)]
 unfold putT insN
 rw[e]
 by_cases c:S.contains k=true
 ·rw[if_pos c,if_pos c]
  unfold seK
  rw[List.map_map]
  refine List.map_congr_left fun x _=>?_
  show (if (Sum.inl (x:Int):Key)=.inl (k:Int) then _ else _)=_
  split<;>rfl
 ·rw[if_neg c,if_neg c]
  unfold seK
  rw[List.map_append];rfl
theorem b4N {S:List Nat} {k b:Nat} (h:S.Nodup∧∀ x∈S,x < b) (hk:k < b):(insN S k).Nodup∧∀ x∈insN S k,x < b:=by
 unfold insN
 by_cases c:S.contains k=true
 ·rw[if_pos c];exact h
 ·rw[if_neg c]
  have hn:k ∉ S:=fun z=>c (List.contains_iff_mem.mpr z)
  refine⟨List.nodup_append.mpr ⟨h.1,List.pairwise_singleton _ _,fun a ha x hx=>by rw[List.mem_singleton.mp hx];exact fun z=>hn (z▸ha)⟩,fun x hx=>?_⟩
  rcases List.mem_append.mp hx with z | z
  ·exact h.2 x z
  ·rw[List.mem_singleton.mp z];exact hk
theorem b8I (S:List Nat) (k:Nat):S.length≤(insN S k).length:=by
 unfold insN
 split
 ·exact Nat.le_refl _
 ·rw[List.length_append];exact Nat.le_add_right _ _
theorem c0D {S:List Nat} {b:Nat} (h:S.Nodup∧∀ x∈S,x < b):S.length≤b:=by
 have:=List.Nodup.length_le_of_subset h.1 (l₂:=List.range b) fun x hx=>List.mem_range.mpr (h.2 x hx)
 rwa [List.length_range] at this
noncomputable def a1A:Sp3:=fun ts M Q=>match ts with
 | [.dic ks _]=>∃ (m:Nat) (N:Nst),ks=nI N∧Cm m∧N∈nsts m∧∀ M',Sub M M'→Q (.int (lpN N:Nat)) M'
 | _=>False
theorem a6l {P w K base f fd} {mg:Str→Option Value} {n:Nat}  (F:Fun K "loops_of_nest" "loops_of_nest" a1O f fd) (hm:mg "loops_of_nest"=some (.ref f)) (hb:a0G K fd ["nest"] []) (Z:Zs K mg) :Df P w K mg base (n+1) "loops_of_nest" ["nest"] a1A:=by
 refine F.dfn hm hb a0H (by unfold a1A;walk_at "ln") ⟨_,fun cdv A outer s H E hr=>(@a0b _ _ _ _ _ (@a0C _ _ _ _ 1 _ _ (@a0m _ _ _ _ _ _ _ _ a4Z (@a0l _ _ _ _ _ _ _ _ _ a0p Z.b_len PySem.boot_len (@a0a _ _ _ _ _ (a4d (@hv _ 0 _ _ (by rfl) (by walk_at "3") (by decide) (by decide))) a0e (by rfl)) (by rfl) (by decide) (by decide) (by rfl) (by rfl)) a0d) a0H.nd (by rfl) (by walk_at "2") (by rfl) (by walk_at "4")) (@a0b _ _ _ _ _ (@a0C _ _ _ _ 2 _ _ b7k a0H.nd (by rfl) (by walk_at "2") (by rfl) (by walk_at "4")) (@a0b _ _ _ _ _ (@a0C _ _ _ _ 3 _ _ a0d a0H.nd (by rfl) (by walk_at "2") (by rfl) (by walk_at "4")) (@a0b _ _ _ _ _ (@a6H _ _ _ _ _ _ _ _ PassesOwn.never rfl (@a6w _ _ _ _ _ _ Z.b_range (@a0a _ _ _ _ _ (@hv _ 1 _ _ (by rfl) (by walk_at "3") (by decide) (by decide)) a0e (by rfl)) (by rfl) (by rfl)) (@a1j _ _ 4 _ a0H.nd (by rfl) (by walk_at "2") (by walk_at "4")) (@a0b _ _ _ _ _ (@s_if _ _ _ _ _ _ _ _ (@a0n _ _ _ _ _ _ _ _ (a7G hr.units) (@hv _ 4 _ _ (by rfl) (by walk_at "3") (by decide) (by decide)) (@hv _ 2 _ _ (by rfl) (by walk_at "3") (by decide) (by decide)) rfl) (@a0g _ _ _ (@b9R _ 3 _ _ _ _ _ _ _ c0S a0d a0H.nd (by rfl) (by walk_at "2") (by walk_at "4"))) a0q) (@a0b _ _ _ _ _ (@a0C _ _ _ _ 5 _ _ (@hv _ 4 _ _ (by rfl) (by walk_at "3") (by decide) (by decide)) a0H.nd (by rfl) (by walk_at "2") (by rfl) (by walk_at "4")) (@a0g _ _ _ (@b3X _ _ _ _ _ _ PassesOwn.never (@a0n _ _ _ _ _ _ _ _ (a7G hr.units) (@hv _ 5 _ _ (by rfl) (by walk_at "3") (by decide) (by decide)) (@hv _ 2 _ _ (by rfl) (by walk_at "3") (by decide) (by decide)) rfl) (@a0b _ _ _ _ _ (@b5J _ _ _ _ _ _ _ _ _ hr.units h_bl (@hv _ 2 _ _ (by rfl) (by walk_at "3") (by decide) (by decide)) (@hv _ 5 _ _ (by rfl) (by walk_at "3") (by decide) (by decide)) (by rfl)) (@a0b _ _ _ _ _ (@b5J _ _ _ _ _ _ _ _ _ hr.units h_bl (@hv _ 2 _ _ (by rfl) (by walk_at "3") (by decide) (by decide)) (@h_ix _ _ _ _ _ _ (a4d (@hv _ 0 _ _ (by rfl) (by walk_at "3") (by decide) (by decide))) (@hv _ 5 _ _ (by rfl) (by walk_at "3") (by decide) (by decide)) (by intro _ _;rfl)) (by rfl)) (@a0g _ _ _ (@a0C _ _ _ _ 5 _ _ (@a0m _ _ _ _ _ _ _ _ a3o (@a0m _ _ _ _ _ _ _ _ a0o (@h_ix _ _ _ _ _ _ (a4d (@hv _ 0 _ _ (by rfl) (by walk_at "3") (by decide) (by decide))) (@hv _ 5 _ _ (by rfl) (by walk_at "3") (by decide) (by decide)) (by intro _ _;rfl)) (@hv _ 1 _ _ (by rfl) (by walk_at "3") (by decide) (by decide))) (@a0l _ _ _ _ _ _ _ _ _ a0p Z.b_len PySem.boot_len (@a0a _ _ _ _ _ (a4d (@hv _ 0 _ _ (by rfl) (by walk_at "3") (by decide) (by decide))) a0e (by rfl)) (by rfl) (by decide) (by decide) (by rfl) (by rfl))) a0H.nd (by rfl) (by walk_at "2") (by rfl) (by walk_at "4"))))))))) (by intro _;rfl)) (@a0g _ _ _ (@a0r _ _ _ _ (@hv _ 3 _ _ (by rfl) (by walk_at "3") (by decide) (by decide)))))))),fun ts M Q h=>?_⟩
 unfold a1A at h
 split at h
 ·rename_i ks e
  obtain⟨m,N,rfl,hm,hN,h⟩:=h
  have hl:=(a7q hm hN).1
  have hm6:=hm.2
  refine a0c fun K1 hK1=>?_
  walk_at "rd"
  refine⟨by unfold b3t;decide,?_⟩
  rw[b1S,hl,show ((2*m:Nat):Int) / 2=(m:Int) by lia,hK1];clear hK1
  refine a0c fun K2 hK2=>?_
  walk_at "rd"
  intro p hp
  have hMp:(updM M p (MO.dk [])) p=some (.dk []):=a0i
  have hS:=Sub.new hp (o:=MO.dk [])
  generalize updM M p (MO.dk [])=M1 at hMp hS⊢
  rw[hK2];clear hK2
  refine a0c fun K3 hK3=>?_
  walk_at "rd"
  rw[hK3];clear hK3
  refine a0c fun K4 hK4=>?_
  refine a2N fun B hB=>?_
  unfold a6D
  walk_at "rd"
  refine⟨by lia,by lia,fun i ρ M'=>(∃ (S:List Nat) (c:Nat) (x4 x5:Option T),ρ=[some (T.dic (nI N) e),some (T.int (m:Nat)),some (T.adr p),some (T.int (c:Nat)),x4,x5]∧M' p=some (.dk (seK S))∧(S.Nodup∧∀ x∈S,x < 2*m)∧c+lpS N (m - i) i S=lpN N)∧Sub M M',⟨⟨[],0,_,_,rfl,hMp,⟨.nil,fun _ z=>absurd z List.not_mem_nil⟩,?_⟩,hS⟩,fun _ _ _ _=>trivial,?_,?_⟩
  ·unfold lpN
   rw[hl,Nat.zero_add,show 2*m / 2=m by lia];rfl
  ·rintro i x ρ M' hx ⟨⟨S,c,x4,x5,rfl,hMp,hSd,hc⟩,hS⟩
   obtain⟨hi,rfl⟩:=a3Q hx
   have him:i < m:=by lia
   rw[show m - i=(m - (i+1))+1 by lia] at hc
   have hc:c+((if S.contains i then 0 else 1)+lpS N (m - (i+1)) (i+1) (wkN N (N.length+1) S i))=lpN N:=hc
   rw[hB];clear hB
   refine a0c fun K5 hK5=>?_
   walk_at "rd"
   rw[hMp]
   dsimp only
   refine⟨.inl (i:Int),rfl,?_⟩
   rw[b3Q]
   have cont:∀ (c2:Nat),c2+lpS N (m - (i+1)) (i+1) (wkN N (N.length+1) S i)=lpN N→K5 [some (T.dic (nI N) e),some (T.int (m:Nat)),some (T.adr p),some (T.int (c2:Nat)),some (T.int (i:Nat)),x5] M':=fun c2 hc2=>by
    rw[hK5];clear hK5
    refine a0c fun K6 hK6=>?_
    walk_at "rd"
    rw[hK6];clear hK6
    refine b3u fun C hC=>?_
    unfold a6C
    refine⟨fun ms ρ M2=>∃ (f:Nat) (S':List Nat) (a:Nat),ρ=[some (T.dic (nI N) e),some (T.int (m:Nat)),some (T.adr p),some (T.int (c2:Nat)),some (T.int (i:Nat)),some (T.int (a:Nat))]∧M2 p=some (.dk (seK S'))∧(S'.Nodup∧∀ x∈S',x < 2*m)∧a < 2*m∧wkN N f S' a=wkN N (N.length+1) S i∧2*m+1≤f+S'.length∧ms=2*m - S'.length∧Sub M M2,⟨_,N.length+1,S,i,rfl,hMp,hSd,by lia,rfl,by lia,rfl,hS⟩,?_⟩
    rintro ms ρ M2 ⟨f,S',a,rfl,hM2,hd',ha,hw,hf,rfl,hS2⟩
    have hle:=c0D hd'
    obtain⟨g,rfl⟩:∃ g,f=g+1:=⟨f - 1,by lia⟩
    have hw2:(if S'.contains a then S' else wkN N g (insN (insN S' a) (gN N a)) ((gN N a+N.length / 2) % N.length))=wkN N (N.length+1) S i:=hw
    walk_at "rd"
    rw[hM2]
    dsimp only
    refine⟨.inl (a:Int),rfl,?_⟩
    rw[b3Q]
    have hca:S'.contains a=true↔a∈S':=List.contains_iff_mem
    refine ite2 (fun c1=>?_) (fun c1=>?_)
    ·rw[if_neg (by rw[c1];decide)] at hw2
     have hna:a ∉ S':=fun z=>by rw[hca.mpr z] at c1;cases c1
     have hga:=(b4u hm hN ha).1
     have hl1:(insN S' a).length=S'.length+1:=by
      unfold insN
      rw[if_neg (by rw[c1];decide),List.length_append];rfl
     have hd1:=b4N hd' ha
     have hd2:=b4N hd1 hga
     have hl2:=b8I (insN S' a) (gN N a)
     have hle2:=c0D hd2
     rw[hC];clear hC
     refine a0c fun K7 hK7=>?_
     walk_at "rd"
     rw[hM2]
     dsimp only
     refine⟨.inl (a:Int),rfl,a0V (by rw[b3P];lia),?_⟩
     rw[b3O]
     have hM3:(updM M2 p (.dk (seK (insN S' a)))) p=some (.dk (seK (insN S' a))):=a0i
     have hS3:=hS2.updF hp (o:=.dk (seK (insN S' a)))
     generalize updM M2 p (.dk (seK (insN S' a)))=M3 at hM3 hS3⊢
     rw[hK7];clear hK7
     refine a0c fun K8 hK8=>?_
     walk_at "rd"
     rw[b4v (by lia:a < N.length)]
     dsimp only
     rw[hM3]
     dsimp only
     refine⟨.inl (gN N a:Nat),rfl,a0V (by rw[b3P];lia),?_⟩
     rw[b3O]
     have hM4:(updM M3 p (.dk (seK (insN (insN S' a) (gN N a))))) p=some (.dk (seK (insN (insN S' a) (gN N a)))):=a0i
     have hS4:=hS3.updF hp (o:=.dk (seK (insN (insN S' a) (gN N a))))
     generalize updM M3 p (.dk (seK (insN (insN S' a) (gN N a))))=M4 at hM4 hS4⊢
     rw[hK8];clear hK8
     walk_at "rd"
     rw[b4v (by lia:a < N.length)]
     dsimp only
     rw[b1S,hl]
     have em:(((gN N a:Nat):Int)+(m:Nat)) % ((2*m:Nat):Int)=(((gN N a+N.length / 2) % N.length:Nat):Int):=by rw[hl,show 2*m / 2=m by lia];lia
     rw[em]
     rw[hl] at hw2
     refine⟨by lia,_,?_,g,_,_,rfl,hM4,hd2,?_,by rw[hl];exact hw2,by lia,rfl,hS4⟩
     ·lia
     ·rw[hl];exact Nat.mod_lt _ (by lia)
    ·have c2':S'.contains a=true:=by simpa using c1
     rw[if_pos c2'] at hw2
     rw[← hw2] at hc2
     exact⟨⟨S',c2,_,_,rfl,rfl,hd',hc2⟩,hS2⟩
   refine ite2 (fun c1=>?_) (fun c1=>?_)
   ·rw[if_neg (by rw[c1];decide)] at hc
    exact cont (c+1) (by lia)
   ·rw[if_pos (by simpa using c1)] at hc
    exact cont c (by lia)
  ·rintro ρ M' ⟨⟨S,c,x4,x5,rfl,hMp,hSd,hc⟩,hS⟩
   rw[a1u,show ((m:Nat):Int).toNat=m by lia,Nat.sub_self] at hc
   rw[hK4]
   walk_at "rd"
   rw[show c=lpN N from hc]
   exact a0f (h M' hS)
 ·exact h.elim
theorem a9a (d:Nst × Po):∀ (D:DN) (a:Po),sumD (D++[d]) a=addP (sumD D a) (a1E d.2 (dP (lpN d.1 - 1)))
 | [],a=>rfl
 | x :: D,a=>a9a d D _
theorem a5q {m b:Nat} (hm:Cm m) (hb:(b:Int) % 1=0):∀ (D:DN) (a:Po),GdE (b+2*m) a→(∀ d∈D,d.1∈nsts m∧GdE b d.2)→GdE (b+2*m) (sumD D a)
 | [],a,h,_=>h
 | d :: D,a,h,hD=>by
   obtain⟨h1,h2⟩:=hD d (.head _)
   have l1:=a9I hm h1
   have l2:=b7f hm h1
   exact a5q hm hb D _ (h.add ((h2.mul (a7a (lpN d.1 - 1))).up (m - (lpN d.1 - 1)) (by lia))) fun x hx=>hD x (.tail _ hx)
theorem a9E {m:Nat} (hm:Cm m) {w:List Int} (hw:∀ l∈w,LetN m l):sumD (dcW m w) []=(stS m w).1:=by
 refine b8l (a5q (b:=3*w.length) hm (by lia) _ _ (GdE.nil _) (b2i hm hw).2).1 ?_
 rw[b3F,c1k,show toL []=0 from b7y]
 unfold stS
 grind
theorem b1A {m:Nat} (hm:Cm m) {w:List Int} (hw:∀ l∈w,LetN m l):GdE (3*w.length+2*m) (stS m w).1:=by
 rw[← a9E hm hw]
 exact a5q (b:=3*w.length) hm (by lia) _ _ (GdE.nil _) (b2i hm hw).2
noncomputable def a2L:Sp3:=fun ts M Q=>match ts with
 | [.tup [.int n,.tup w]]=>∃ ws:List Int,w=ws.map .int∧PlOK n ws∧∀ M',Sub M M'→Q (poT (stS n.toNat ws).1) M'
 | _=>False
theorem b0V {P w K base f fd} {mg:Str→Option Value} {n:Nat}  (F:Fun K "by_nests" "by_nests" a4C f fd) (hm:mg "by_nests"=some (.ref f)) (hb:a0G K fd ["plait"] []) (Z:Zs K mg) (D_looked:Df P w K mg base n "looked" ["plait"] a2K) (D_plain_nest:Df P w K mg base n "plain_nest" ["strands"] a2o) (D_with_letter:Df P w K mg base n "with_letter" ["worths","letter"] a2b) (D_loop_worths:Df P w K mg base n "loop_worths" ["most"] a2c) (D_added:Df P w K mg base n "added" ["one","other"] a4z) (D_multiplied:Df P w K mg base n "multiplied" ["one","other"] a0T) (D_loops_of_nest:Df P w K mg base n "loops_of_nest" ["nest"] a1A):Df P w K mg base (n+1) "by_nests" ["plait"] a2L:=by
 obtain⟨tk_ONE,c_ONE⟩:=Z.c_ONE
 obtain⟨tk_NOUGHT,c_NOUGHT⟩:=Z.c_NOUGHT
 refine F.dfn hm hb a1h (by unfold a2L;walk_at "ln") ⟨_,fun cdv A outer s H E hr=>(@a0b _ _ _ _ _ (@a4c _ _ _ _ (@a0j _ _ _ _ _ _ _ _ _ _ D_looked hr (@a0a _ _ _ _ _ (@hv _ 0 _ _ (by rfl) (by walk_at "3") (by decide) (by decide)) a0e (by rfl)) (by rfl) (by decide) (by rfl) (by rfl)) (by rfl)) (@a0b _ _ _ _ _ (@a0C _ _ _ _ 1 _ _ (b8O hr.units (@a0j _ _ _ _ _ _ _ _ _ _ D_plain_nest hr (@a0a _ _ _ _ _ (@h_ix _ _ _ _ _ _ (@hv _ 0 _ _ (by rfl) (by walk_at "3") (by decide) (by decide)) a0d (by intro _ _;rfl)) a0e (by rfl)) (by rfl) (by decide) (by rfl) (by rfl)) (@a5d _ _ _ _ _ c_ONE (by rfl) (by decide))) a1h.nd (by rfl) (by walk_at "2") (by rfl) (by walk_at "4")) (@a0b _ _ _ _ _ (@a6H _ _ _ _ _ _ _ _ PassesOwn.never rfl (@a5K _ _ _ _ (@h_ix _ _ _ _ _ _ (@hv _ 0 _ _ (by rfl) (by walk_at "3") (by decide) (by decide)) a0d (by intro _ _;rfl))) (@a1j _ _ 2 _ a1h.nd (by rfl) (by walk_at "2") (by walk_at "4")) (@a0g _ _ _ (@a0C _ _ _ _ 1 _ _ (@a0j _ _ _ _ _ _ _ _ _ _ D_with_letter hr (@a0a _ _ _ _ _ (@hv _ 1 _ _ (by rfl) (by walk_at "3") (by decide) (by decide)) (@a0a _ _ _ _ _ (@hv _ 2 _ _ (by rfl) (by walk_at "3") (by decide) (by decide)) a0e (by rfl)) (by rfl)) (by rfl) (by decide) (by rfl) (by rfl)) a1h.nd (by rfl) (by walk_at "2") (by rfl) (by walk_at "4"))) (by intro _;rfl)) (@a0b _ _ _ _ _ (@a0C _ _ _ _ 3 _ _ (@a0j _ _ _ _ _ _ _ _ _ _ D_loop_worths hr (@a0a _ _ _ _ _ (@h_ix _ _ _ _ _ _ (@hv _ 0 _ _ (by rfl) (by walk_at "3") (by decide) (by decide)) a0d (by intro _ _;rfl)) a0e (by rfl)) (by rfl) (by decide) (by rfl) (by rfl)) a1h.nd (by rfl) (by walk_at "2") (by rfl) (by walk_at "4")) (@a0b _ _ _ _ _ (@a0C _ _ _ _ 4 _ _ (@a5d _ _ _ _ _ c_NOUGHT (by rfl) (by decide)) a1h.nd (by rfl) (by walk_at "2") (by rfl) (by walk_at "4")) (@a0b _ _ _ _ _ (@a6H _ _ _ _ _ _ _ _ PassesOwn.never rfl (b4O (@hv _ 1 _ _ (by rfl) (by walk_at "3") (by decide) (by decide))) (@a8M _ _ _ _ _ 2 rfl (@a1i _ _ _ _ _ (@a1j _ _ 5 _ a1h.nd (by rfl) (by walk_at "2") (by walk_at "4")) (@a1i _ _ _ _ _ (@a1j _ _ 6 _ a1h.nd (by rfl) (by walk_at "2") (by walk_at "4")) a5M (by rfl)) (by rfl)) (by rfl) (by rfl)) (@a0g _ _ _ (@a0C _ _ _ _ 4 _ _ (@a0j _ _ _ _ _ _ _ _ _ _ D_added hr (@a0a _ _ _ _ _ (@hv _ 4 _ _ (by rfl) (by walk_at "3") (by decide) (by decide)) (@a0a _ _ _ _ _ (@a0j _ _ _ _ _ _ _ _ _ _ D_multiplied hr (@a0a _ _ _ _ _ (@hv _ 6 _ _ (by rfl) (by walk_at "3") (by decide) (by decide)) (@a0a _ _ _ _ _ (@h_ix _ _ _ _ _ _ (@hv _ 3 _ _ (by rfl) (by walk_at "3") (by decide) (by decide)) (@a0j _ _ _ _ _ _ _ _ _ _ D_loops_of_nest hr (@a0a _ _ _ _ _ (@hv _ 5 _ _ (by rfl) (by walk_at "3") (by decide) (by decide)) a0e (by rfl)) (by rfl) (by decide) (by rfl) (by rfl)) (by intro _ _;rfl)) a0e (by rfl)) (by rfl)) (by rfl) (by decide) (by rfl) (by rfl)) a0e (by rfl)) (by rfl)) (by rfl) (by decide) (by rfl) (by rfl)) a1h.nd (by rfl) (by walk_at "2") (by rfl) (by walk_at "4"))) (by intro _;rfl)) (@a0g _ _ _ (@a0r _ _ _ _ (@hv _ 4 _ _ (by rfl) (by walk_at "3") (by decide) (by decide)))))))))),fun ts M Q h=>?_⟩
 unfold a2L at h
 split at h
 ·rename_i n w
  obtain⟨ws,rfl,ok,h⟩:=h
  obtain⟨n1,n6,hl,hw⟩:=id ok
  have hm:Cm n.toNat:=⟨by lia,by lia⟩
  have hlet:=b3a hw
  refine a0c fun K1 hK1=>?_
  walk_at "rd"
  refine⟨ws,rfl,ok,?_⟩
  show K1 _ _
  rw[hK1];clear hK1
  refine a0c fun K2 hK2=>?_
  walk_at "rd"
  intro p hp
  refine⟨n.toNat,by lia,hm.1,hm.2,?_⟩
  dsimp only
  refine⟨a0i,?_⟩
  have hMp:(updM (updM M p (MO.dt [])) p (MO.dt [(kyI (nI (plN n.toNat)),T.tup [T.tup [T.int 0,T.int 1]])])) p=some (.dt (dtN (dcW n.toNat []))):=a0i
  have hS:Sub M (updM (updM M p (MO.dt [])) p (MO.dt [(kyI (nI (plN n.toNat)),T.tup [T.tup [T.int 0,T.int 1]])])):=(Sub.new hp).updF hp
  generalize updM (updM M p (MO.dt [])) p (MO.dt [(kyI (nI (plN n.toNat)),T.tup [T.tup [T.int 0,T.int 1]])])=M1 at hMp hS⊢
  rw[hK2];clear hK2
  refine a0c fun K3 hK3=>?_
  refine a2N fun B hB=>?_
  unfold a6D
  walk_at "rd"
  refine⟨fun i ρ M'=>(∃ (q:Addr) (x2 x3 x4 x5 x6:Option T),ρ=[some (T.tup [T.int n,T.tup (List.map T.int ws)]),some (T.adr q),x2,x3,x4,x5,x6]∧M q=none∧M' q=some (.dt (dtN (dcW n.toNat (ws.take i)))))∧Sub M M',⟨⟨p,_,_,_,_,_,rfl,hp,hMp⟩,hS⟩,fun _ _ _ _=>trivial,?_,?_⟩
  ·rintro i x ρ M' hx ⟨⟨q,x2,x3,x4,x5,x6,rfl,hq,hMq⟩,hS⟩
   obtain⟨l,hl1,rfl⟩:=a1q hx
   have hlm:=hlet l (List.mem_of_getElem? hl1)
   have hD:=b2i hm (w:=ws.take i) fun y hy=>hlet y (List.mem_of_mem_take hy)
   have hi:=(List.getElem?_eq_some_iff.mp hl1).1
   have et:dcW n.toNat (ws.take (i+1))=wlN l (dcW n.toNat (ws.take i)):=by
    unfold dcW
    rw[List.take_add_one,hl1,List.foldl_append];rfl
   rw[hB];clear hB
   walk_at "rd"
   refine⟨n.toNat,_,_,hMq,hm,hlm,hD,by rw[List.length_take];lia,fun r M2 hr hk hMr=>?_⟩
   exact⟨⟨r,_,_,_,_,_,rfl,b8y hS hr,by rw[et];exact hMr⟩,fun a o ho=>hk a o (fun z=>by rw[z,hq] at ho;cases ho) (hS a o ho)⟩
  ·rintro ρ M' ⟨⟨q,x2,x3,x4,x5,x6,rfl,hq,hMq⟩,hS⟩
   try rw[List.length_map] at hMq
   rw[List.take_length] at hMq
   have hD:=b2i hm (w:=ws) hlet
   have hns:=a9E hm hlet
   generalize dcW n.toNat ws=D at hMq hD hns
   rw[hK3];clear hK3
   refine a0c fun K4 hK4=>?_
   walk_at "rd"
   refine⟨n.toNat,by lia,hm.1,by lia,fun r M2 hr hS2 hMr=>?_⟩
   show K4 _ _
   have hMq2:=hS2 _ _ hMq
   have hS3:=hS.trans hS2
   have hqr:q≠r:=fun z=>by rw[z,hr] at hMq;cases hMq
   rw[hK4];clear hK4
   refine a0c fun K5 hK5=>?_
   walk_at "rd"
   rw[hK5];clear hK5
   refine a0c fun K6 hK6=>?_
   refine a2N fun B2 hB2=>?_
   unfold a6D
   walk_at "rd"
   rw[hMq2]
   dsimp only
   refine⟨_,b5a D,?_⟩
   have hMr2:(updM M2 q (MO.fz (dtN D))) r=some (.lst ((lwL n.toNat).map poT)):=by rw[a0s hqr.symm];exact hMr
   have hS4:=hS3.updF hq (o:=MO.fz (dtN D))
   generalize updM M2 q (MO.fz (dtN D))=M3 at hMr2 hS4⊢
   refine⟨fun i ρ M'=>(∃ (x2 x5 x6:Option T),ρ=[some (T.tup [T.int n,T.tup (List.map T.int ws)]),some (T.adr q),x2,some (T.adr r),some (poT (sumD (D.take i) [])),x5,x6])∧M' r=some (.lst ((lwL n.toNat).map poT))∧Sub M M',⟨⟨_,_,_,rfl⟩,hMr2,hS4⟩,fun _ _ _ _=>trivial,?_,?_⟩
   ·rintro i x ρ M' hx ⟨⟨x2,x5,x6,rfl⟩,hMr,hS⟩
    obtain⟨⟨N,u⟩,hdi,rfl⟩:∃ y,D[i]?=some y∧x=T.tup [T.dic (nI y.1) [],poT y.2]:=by
     unfold prTs at hx
     rw[List.map_map,List.getElem?_map] at hx
     obtain⟨y,h1,h2⟩:=Option.map_eq_some_iff.mp hx
     exact⟨y,h1,h2.symm⟩
    obtain⟨hN,hu⟩:=hD.2 _ (List.mem_of_getElem? hdi)
    dsimp only at hN hu
    have l1:=a9I hm hN
    have l2:=b7f hm hN
    dsimp only
    refine⟨rfl,rfl,?_⟩
    rw[hB2];clear hB2
    walk_at "rd"
    refine⟨n.toNat,N,rfl,hm,hN,fun M4 hS5=>?_⟩
    dsimp only
    rw[hS5 _ _ hMr]
    dsimp only
    have e0:atI ((lwL n.toNat).map poT) ((lpN N:Nat):Int)=some (poT (dP (lpN N - 1))):=by
     refine a5k ?_
     rw[List.getElem?_map,show lpN N=lpN N - 1+1 by lia,b8D (by lia)];rfl
    rw[e0]
    dsimp only
    have g3:=a5q (b:=3*ws.length) hm (by lia) (D.take i) [] (GdE.nil _) fun y hy=>hD.2 y (List.mem_of_mem_take hy)
    have g2:=hu.mul (a7a (lpN N - 1))
    refine a4n hu (a7a (lpN N - 1)) (by lia) (.inr (Sml.dP (by lia))) ?_
    refine b0y g3 (g2.up (n.toNat - (lpN N - 1)) (by lia)) (by lia) ?_
    have et:D.take (i+1)=D.take i++[(N,u)]:=by rw[List.take_add_one,hdi];rfl
    rw[et,a9a]
    exact⟨⟨_,_,_,rfl⟩,hS5 _ _ hMr,hS.trans hS5⟩
   ·rintro ρ M' ⟨⟨x2,x5,x6,rfl⟩,hMr,hS⟩
    rw[hK6]
    walk_at "rd"
    rw[a4Y,List.length_map,List.take_length,hns]
    exact a0f (h M' hS)
 ·exact h.elim
theorem c1G (n:Int) (w:List Int):a1E (stS n.toNat w).1 [(-3*(w.map sgI).sum,if (w.map sgI).sum % 2=0 then 1 else -1)]=(seL n w).1:=b8l (a1y _) (by rw[a3n,b3y];rfl)
noncomputable def a4x:Sp3:=fun ts M Q=>match ts with
 | [.tup [.int n,.tup w]]=>∃ ws:List Int,w=ws.map .int∧PlOK n ws∧∀ M',Sub M M'→Q (poT (seL n ws).1) M'
 | _=>False
theorem b2R {P w K base f fd} {mg:Str→Option Value} {n:Nat}  (F:Fun K "settled" "settled" a5B f fd) (hm:mg "settled"=some (.ref f)) (hb:a0G K fd ["plait"] []) (Z:Zs K mg) (D_by_nests:Df P w K mg base n "by_nests" ["plait"] a2L) (D_turns:Df P w K mg base n "turns" ["plait"] a6p) (D_multiplied:Df P w K mg base n "multiplied" ["one","other"] a0T):Df P w K mg base (n+1) "settled" ["plait"] a4x:=by
 refine F.dfn hm hb a4A (by unfold a4x;walk_at "ln") ⟨_,fun cdv A outer s H E hr=>(@a0b _ _ _ _ _ (@a0C _ _ _ _ 1 _ _ (@a0j _ _ _ _ _ _ _ _ _ _ D_by_nests hr (@a0a _ _ _ _ _ (@hv _ 0 _ _ (by rfl) (by walk_at "3") (by decide) (by decide)) a0e (by rfl)) (by rfl) (by decide) (by rfl) (by rfl)) a4A.nd (by rfl) (by walk_at "2") (by rfl) (by walk_at "4")) (@a0b _ _ _ _ _ (@a0C _ _ _ _ 2 _ _ (@a0j _ _ _ _ _ _ _ _ _ _ D_turns hr (@a0a _ _ _ _ _ (@hv _ 0 _ _ (by rfl) (by walk_at "3") (by decide) (by decide)) a0e (by rfl)) (by rfl) (by decide) (by rfl) (by rfl)) a4A.nd (by rfl) (by walk_at "2") (by rfl) (by walk_at "4")) (@a0b _ _ _ _ _ (@a0C _ _ _ _ 3 _ _ (@c2j _ _ _ _ _ _ _ _ (@a0n _ _ _ _ _ _ _ _ (@a0y _ hr.units) (@a0m _ _ _ _ _ _ _ _ a3o (@hv _ 2 _ _ (by rfl) (by walk_at "3") (by decide) (by decide)) a0d) a0d (@a0k _ _ (by decide) (by decide))) a0d (@h_un _ _ _ _ _ _ a0J a0d)) a4A.nd (by rfl) (by walk_at "2") (by rfl) (by walk_at "4")) (@a0g _ _ _ (@a0r _ _ _ _ (@a0j _ _ _ _ _ _ _ _ _ _ D_multiplied hr (@a0a _ _ _ _ _ (@hv _ 1 _ _ (by rfl) (by walk_at "3") (by decide) (by decide)) (@a2a _ _ _ _ _ _ _ (@a0R _ _ _ _ _ (@a2a _ _ _ _ _ _ _ (@a0R _ _ _ _ _ (@a0a _ _ _ _ _ (@a0m _ _ _ _ _ _ _ _ a0Q (@h_un _ _ _ _ _ _ a0J a0d) (@hv _ 2 _ _ (by rfl) (by walk_at "3") (by decide) (by decide))) (@a0a _ _ _ _ _ (@hv _ 3 _ _ (by rfl) (by walk_at "3") (by decide) (by decide)) a0e (by rfl)) (by rfl))) a0e)) a0e) (by rfl)) (by rfl) (by decide) (by rfl) (by rfl))))))),fun ts M Q h=>?_⟩
 unfold a4x at h
 split at h
 ·rename_i n w
  obtain⟨ws,rfl,ok,h⟩:=h
  refine a0c fun K1 hK1=>?_
  walk_at "rd"
  refine⟨ws,rfl,ok,fun M1 hS1=>?_⟩
  obtain⟨n1,n6,hl,hw⟩:=id ok
  have hm:Cm n.toNat:=⟨by lia,by lia⟩
  have hg:=b1A hm (b3a hw)
  show K1 _ _
  rw[hK1];clear hK1
  refine a0c fun K2 hK2=>?_
  walk_at "rd"
  refine⟨ws,rfl,ok,fun M2 hS2=>?_⟩
  show K2 _ _
  rw[hK2];clear hK2
  refine a0c fun K3 hK3=>?_
  walk_at "rd"
  refine⟨by decide,?_⟩
  have hsm:((ws.map sgI).sum).natAbs≤16:=by
   have key:∀ w:List Int,((w.map sgI).sum).natAbs≤w.length:=by
    intro w
    induction w with
    | nil=>exact Nat.le_refl _
    | cons l w ih =>
      rw[List.map_cons,List.sum_cons,List.length_cons]
      have:sgI l=1∨sgI l=-1:=by unfold sgI;split<;>simp
      lia
   have:=key ws
   lia
  have fin:∀ c:Int,(c=1∨c=-1)→c=(if (ws.map sgI).sum % 2=0 then 1 else -1)→K3 [some (T.tup [T.int n,T.tup (List.map T.int ws)]),some (poT (stS n.toNat ws).val),some (T.int (List.map sgI ws).sum),some (T.int c)] M2:=fun c hc ec=>by
   rw[hK3];clear hK3
   walk_at "rd"
   refine⟨.inl ⟨by decide,by decide⟩,by decide,by decide,?_⟩
   refine⟨(stS n.toNat ws).1,[(-3*(ws.map sgI).sum,c)],(stS n.toNat ws).1.map fun x=>x.1+-3*(ws.map sgI).sum,rfl,rfl,?_,fun x hx y hy=>?_,.inr fun x hx=>?_,?_,by show 1≤5000;decide,?_⟩
   ·rw[List.length_map];have:=hg.len;lia
   ·rw[List.mem_singleton.mp hy]
    exact List.mem_map.mpr ⟨x,hx,rfl⟩
   ·rw[List.mem_singleton.mp hx]
    rcases hc with rfl | rfl
    ·show (1:Int).natAbs < 2 ^ 64;decide
    ·show (-1:Int).natAbs < 2 ^ 64;decide
   ·have:=hg.len;lia
   ·rw[ec,c1G]
    exact a0f (h M2 (hS1.trans hS2))
  refine ite2 (fun c=>fin 1 (.inl rfl) (by rw[if_pos c])) (fun c=>fin (-1) (.inr rfl) (by rw[if_neg c]))
 ·exact h.elim
noncomputable def a2r:Sp3:=fun ts M Q=>match ts with
 | [.rd s,.int k]=>∃ ns:List Int,s=ns.map .int∧0≤k∧k < 100∧∀ p c f,M p=none→Q (.adr p) (updM M p (.lst [.int c,.int f]))
 | _=>False
theorem a8A {P w K base f fd} {mg:Str→Option Value} {n:Nat}  (F:Fun K "_law_state" "_law_state" a3h f fd) (hm:mg "_law_state"=some (.ref f)) (hb:a0G K fd ["script","k"] []) (Z:Zs K mg) :Df P w K mg base (n+1) "_law_state" ["script","k"] a2r:=by
 refine F.dfn hm hb a3F (by unfold a2r;walk_at "ln") ⟨_,fun cdv A outer s H E hr=>(@a0b _ _ _ _ _ (@a0C _ _ _ _ 2 _ _ a0d a3F.nd (by rfl) (by walk_at "2") (by rfl) (by walk_at "4")) (@a0b _ _ _ _ _ (@s_if _ _ _ _ _ _ _ _ (@a0n _ _ _ _ _ _ _ _ a3l (@hv _ 1 _ _ (by rfl) (by walk_at "3") (by decide) (by decide)) (@a0l _ _ _ _ _ _ _ _ _ a0p Z.b_len PySem.boot_len (@a0a _ _ _ _ _ (@hv _ 0 _ _ (by rfl) (by walk_at "3") (by decide) (by decide)) a0e (by rfl)) (by rfl) (by decide) (by decide) (by rfl) (by rfl)) (@a0k _ _ (by decide) (by decide))) (@a0g _ _ _ (@a0C _ _ _ _ 2 _ _ (@h_ix _ _ _ _ _ _ (@hv _ 0 _ _ (by rfl) (by walk_at "3") (by decide) (by decide)) (@hv _ 1 _ _ (by rfl) (by walk_at "3") (by decide) (by decide)) (by intro _ _;rfl)) a3F.nd (by rfl) (by walk_at "2") (by rfl) (by walk_at "4"))) a0q) (@a0b _ _ _ _ _ (@s_if _ _ _ _ _ _ _ _ (@a0n _ _ _ _ _ _ _ _ b7c (@hv _ 2 _ _ (by rfl) (by walk_at "3") (by decide) (by decide)) (@a0m _ _ _ _ _ _ _ _ b4o a0d a0d) (@a0k _ _ (by decide) (by decide))) (@a0g _ _ _ (@a0r _ _ _ _ (@a3q _ _ _ _ (@a0a _ _ _ _ _ (@a0m _ _ _ _ _ _ _ _ a0M (@hv _ 2 _ _ (by rfl) (by walk_at "3") (by decide) (by decide)) (@a0m _ _ _ _ _ _ _ _ b4o a0d a0d)) (@a0a _ _ _ _ _ a0d a0e (by rfl)) (by rfl))))) a0q) (@a0g _ _ _ (@a0r _ _ _ _ (@a3q _ _ _ _ (@a0a _ _ _ _ _ (@a0m _ _ _ _ _ _ _ _ a3o (@a0m _ _ _ _ _ _ _ _ a0o (@hv _ 2 _ _ (by rfl) (by walk_at "3") (by decide) (by decide)) (@a0m _ _ _ _ _ _ _ _ a0Q a0d (@hv _ 1 _ _ (by rfl) (by walk_at "3") (by decide) (by decide)))) a0d) (@a0a _ _ _ _ _ a0d a0e (by rfl)) (by rfl)))))))),fun ts M Q h=>?_⟩
 unfold a2r at h
 split at h
 ·rename_i s k
  obtain⟨ns,rfl,h0,h1,h⟩:=h
  walk_at "rd"
  refine ite2 (fun c=>?_) (fun c=>?_)
  ·rw[a6x ns k h0 c]
   refine⟨⟨by decide,by decide,by decide⟩,ite2 (fun _=>⟨⟨by decide,by decide,by decide⟩,by decide,fun p hp=>a0f (h _ _ _ hp)⟩) (fun _=>⟨.inl ⟨by decide,by decide⟩,by decide,by decide,fun p hp=>a0f (h _ _ _ hp)⟩)⟩
  ·refine⟨⟨by decide,by decide,by decide⟩,ite2 (fun _=>⟨⟨by decide,by decide,by decide⟩,by decide,fun p hp=>a0f (h _ _ _ hp)⟩) (fun _=>⟨.inl ⟨by decide,by decide⟩,by decide,by decide,fun p hp=>a0f (h _ _ _ hp)⟩)⟩
 ·exact h.elim
theorem b5o {x m:Int} (h0:0 < m) (h1:m < 2 ^ 100):b3t x m:=by
 refine⟨h0,?_⟩
 have:m.natAbs.log2 < 100:=(Nat.log2_lt (by lia)).mpr (by lia)
 lia
theorem b2o {x y k:Int} (hk:0 < k) (hk':k≤2 ^ 64):CMul (x % k) y:=by
 have h1:=Int.emod_nonneg x (Int.ne_of_gt hk)
 have h2:=Int.emod_lt_of_pos x hk
 exact .inl ⟨by lia,by lia⟩
noncomputable def a0U:Sp3:=fun ts M Q=>match ts with
 | [.adr p,.int m]=>∃ s f,M p=some (.lst [.int s,.int f])∧0 < m∧m < 2 ^ 60∧∀ c s' f',0≤c→c < m→Q (.int c) (updM M p (.lst [.int s',.int f']))
 | _=>False
theorem a9B {P w K base f fd} {mg:Str→Option Value} {n:Nat}  (F:Fun K "_law_take" "_law_take" a3O f fd) (hm:mg "_law_take"=some (.ref f)) (hb:a0G K fd ["state","many"] []) (Z:Zs K mg) :Df P w K mg base (n+1) "_law_take" ["state","many"] a0U:=by
 refine F.dfn hm hb a3a (by unfold a0U;walk_at "ln") ⟨_,fun cdv A outer s H E hr=>(@a0b _ _ _ _ _ (@s_if _ _ _ _ _ _ _ _ (@HW.ht _ _ _ (@a7U _ _ _ _ _ _ _ (@a0n _ _ _ _ _ _ _ _ (@a0y _ hr.units) (@h_ix _ _ _ _ _ _ (@hv _ 0 _ _ (by rfl) (by walk_at "3") (by decide) (by decide)) a0d (by intro _ _;rfl)) a0d (@a0k _ _ (by decide) (by decide))) (@a6d _ _ _ _ (@a0n _ _ _ _ _ _ _ _ a3w (@h_ix _ _ _ _ _ _ (@hv _ 0 _ _ (by rfl) (by walk_at "3") (by decide) (by decide)) a0d (by intro _ _;rfl)) a0d (@a0k _ _ (by decide) (by decide)))))) (@a0b _ _ _ _ _ (@a0C _ _ _ _ 2 _ _ (@a0m _ _ _ _ _ _ _ _ a3o (@h_ix _ _ _ _ _ _ (@hv _ 0 _ _ (by rfl) (by walk_at "3") (by decide) (by decide)) a0d (by intro _ _;rfl)) (@hv _ 1 _ _ (by rfl) (by walk_at "3") (by decide) (by decide))) a3a.nd (by rfl) (by walk_at "2") (by rfl) (by walk_at "4")) (@a0b _ _ _ _ _ (@a6k _ _ _ _ _ _ (@a0m _ _ _ _ _ _ _ _ a4Z (@h_ix _ _ _ _ _ _ (@hv _ 0 _ _ (by rfl) (by walk_at "3") (by decide) (by decide)) a0d (by intro _ _;rfl)) (@hv _ 1 _ _ (by rfl) (by walk_at "3") (by decide) (by decide))) (@a9W _ _ _ _ _ _ (@hv _ 0 _ _ (by rfl) (by walk_at "3") (by decide) (by decide)) a0d (by intro _;rfl)) (by rfl) (by rfl) (by rfl)) (@a0g _ _ _ (@a0r _ _ _ _ (@hv _ 2 _ _ (by rfl) (by walk_at "3") (by decide) (by decide)))))) a0q) (@a0b _ _ _ _ _ (@a6k _ _ _ _ _ _ a0d (@a9W _ _ _ _ _ _ (@hv _ 0 _ _ (by rfl) (by walk_at "3") (by decide) (by decide)) a0d (by intro _;rfl)) (by rfl) (by rfl) (by rfl)) (@a0b _ _ _ _ _ (@a6k _ _ _ _ _ _ (@a0m _ _ _ _ _ _ _ _ a3o (@a0m _ _ _ _ _ _ _ _ a0o (@a0m _ _ _ _ _ _ _ _ a0Q (@h_ix _ _ _ _ _ _ (@hv _ 0 _ _ (by rfl) (by walk_at "3") (by decide) (by decide)) a0d (by intro _ _;rfl)) a0d) a0d) a0d) (@a9W _ _ _ _ _ _ (@hv _ 0 _ _ (by rfl) (by walk_at "3") (by decide) (by decide)) a0d (by intro _;rfl)) (by rfl) (by rfl) (by rfl)) (@a0b _ _ _ _ _ (@a0C _ _ _ _ 3 _ _ (@a0m _ _ _ _ _ _ _ _ a3o (@a0m _ _ _ _ _ _ _ _ a0o (@a0m _ _ _ _ _ _ _ _ a0Q (@h_ix _ _ _ _ _ _ (@hv _ 0 _ _ (by rfl) (by walk_at "3") (by decide) (by decide)) a0d (by intro _ _;rfl)) (@h_ix _ _ _ _ _ _ (@hv _ 0 _ _ (by rfl) (by walk_at "3") (by decide) (by decide)) a0d (by intro _ _;rfl))) (@a0m _ _ _ _ _ _ _ _ a0Q a0d (@h_ix _ _ _ _ _ _ (@hv _ 0 _ _ (by rfl) (by walk_at "3") (by decide) (by decide)) a0d (by intro _ _;rfl)))) a0d) a3a.nd (by rfl) (by walk_at "2") (by rfl) (by walk_at "4")) (@a0b _ _ _ _ _ (@a0C _ _ _ _ 3 _ _ (@a0m _ _ _ _ _ _ _ _ a3o (@a0m _ _ _ _ _ _ _ _ a0o (@a0m _ _ _ _ _ _ _ _ a0Q (@hv _ 3 _ _ (by rfl) (by walk_at "3") (by decide) (by decide)) (@hv _ 3 _ _ (by rfl) (by walk_at "3") (by decide) (by decide))) (@a0m _ _ _ _ _ _ _ _ a0Q a0d (@hv _ 3 _ _ (by rfl) (by walk_at "3") (by decide) (by decide)))) a0d) a3a.nd (by rfl) (by walk_at "2") (by rfl) (by walk_at "4")) (@a0g _ _ _ (@a0r _ _ _ _ (@a0m _ _ _ _ _ _ _ _ a3o (@a0m _ _ _ _ _ _ _ _ a4Z (@hv _ 3 _ _ (by rfl) (by walk_at "3") (by decide) (by decide)) a0d) (@hv _ 1 _ _ (by rfl) (by walk_at "3") (by decide) (by decide)))))))))),fun ts M Q h=>?_⟩
 unfold a0U at h
 split at h
 ·rename_i p m
  obtain⟨s,f,hM,h0,h1,h⟩:=h
  refine a0c fun K1 hK1=>?_
  have hk:K1 [some (.adr p),some (.int m),none,none] M:=by
   rw[hK1]
   clear hK1
   walk_at "rd"
   simp only[hM]
   walk_at "rd"
   have i1:ixN (0+1+1) 1=some 1:=by decide
   simp only[i1]
   exact⟨.inr ⟨by decide,by decide⟩,by decide,b2o (by decide) (by decide),.inl ⟨by decide,by decide⟩,by decide,b2o (by decide) (by decide),.inl ⟨by decide,by decide⟩,by decide,b5o (by decide) (by decide),h0,
    a0f (h _ _ _ (Int.emod_nonneg _ (Int.ne_of_gt h0)) (Int.emod_lt_of_pos _ h0))⟩
  walk_at "rd"
  simp only[hM]
  walk_at "rd"
  have i0:ixN 2 0=some 0:=by decide
  exact ite2 (fun c=>ite2 (fun c2=>⟨h0,b5o h0 (by lia),a0f (h _ _ _ (Int.emod_nonneg _ (Int.ne_of_gt h0)) (Int.emod_lt_of_pos _ h0))⟩) (fun c2=>hk)) (fun c=>hk)
 ·exact h.elim
noncomputable def a1k:Sp3:=fun ts M Q=>match ts with
 | [.adr p,.int n]=>∃ s f,M p=some (.lst [.int s,.int f])∧2≤n∧n≤6∧∀ l s' f',LetOK n l→Q (.int l) (updM M p (.lst [.int s',.int f']))
 | _=>False
theorem a7p {P w K base f fd} {mg:Str→Option Value} {n:Nat}  (F:Fun K "_law_letter" "_law_letter" a2B f fd) (hm:mg "_law_letter"=some (.ref f)) (hb:a0G K fd ["state","strands"] []) (Z:Zs K mg) (D__law_take:Df P w K mg base n "_law_take" ["state","many"] a0U):Df P w K mg base (n+1) "_law_letter" ["state","strands"] a1k:=by
 refine F.dfn hm hb a4R (by unfold a1k;walk_at "ln") ⟨_,fun cdv A outer s H E hr=>(@a0b _ _ _ _ _ (@a0C _ _ _ _ 2 _ _ (@a0j _ _ _ _ _ _ _ _ _ _ D__law_take hr (@a0a _ _ _ _ _ (@hv _ 0 _ _ (by rfl) (by walk_at "3") (by decide) (by decide)) (@a0a _ _ _ _ _ (@a0m _ _ _ _ _ _ _ _ a0Q a0d (@a0m _ _ _ _ _ _ _ _ a0M (@hv _ 1 _ _ (by rfl) (by walk_at "3") (by decide) (by decide)) a0d)) a0e (by rfl)) (by rfl)) (by rfl) (by decide) (by rfl) (by rfl)) a4R.nd (by rfl) (by walk_at "2") (by rfl) (by walk_at "4")) (@a0g _ _ _ (@a0r _ _ _ _ (@a0m _ _ _ _ _ _ _ _ a0Q (@h_ix _ _ _ _ _ _ (@a3q _ _ _ _ (@a0a _ _ _ _ _ a0d (@a0a _ _ _ _ _ (@h_un _ _ _ _ _ _ a0J a0d) a0e (by rfl)) (by rfl))) (@a0m _ _ _ _ _ _ _ _ a3o (@hv _ 2 _ _ (by rfl) (by walk_at "3") (by decide) (by decide)) a0d) (by intro _ _;rfl)) (@a0m _ _ _ _ _ _ _ _ a0o a0d (@a0m _ _ _ _ _ _ _ _ a4Z (@hv _ 2 _ _ (by rfl) (by walk_at "3") (by decide) (by decide)) a0d)))))),fun ts M Q h=>?_⟩
 unfold a1k at h
 split at h
 ·rename_i p n
  obtain⟨s,f,hM,h0,h1,h⟩:=h
  walk_at "rd"
  refine⟨.inl ⟨by lia,by lia⟩,s,f,hM,by lia,by lia,fun c s1 f1 c0 c1=>?_⟩
  walk_at "rd"
  refine⟨by decide,fun p1 hp1=>?_⟩
  have n1:p≠p1:=fun z=>by rw[← z,a0i] at hp1;cases hp1
  have e1:∃ b:Int,(b=1∨b=-1)∧atI [T.int 1,T.int (-1)] (c % 2)=some (.int b):=by
   rcases (show c % 2=0∨c % 2=1 by lia) with e | e
   ·rw[e];exact⟨1,.inl rfl,rfl⟩
   ·rw[e];exact⟨-1,.inr rfl,rfl⟩
  obtain⟨b,hb,e1⟩:=e1
  simp only[e1]
  have hl:LetOK n (b*(1+c / 2)):=by
   unfold LetOK
   rcases hb with rfl | rfl
   ·lia
   ·lia
  exact⟨by decide,⟨by decide,by decide⟩,.inl ⟨by lia,by lia⟩,a0x (h _ _ _ hl) (Sub.new hp1)⟩
 ·exact h.elim
noncomputable def a2s:Sp3:=fun ts M Q=>match ts with
 | [.adr p,.int most,.int longest]=>∃ s f,M p=some (.lst [.int s,.int f])∧1≤most∧most≤6∧0≤longest∧longest≤100∧∀ (n:Int) (w:List Int) s' f',1≤n→n≤most→(w.length:Int)≤longest→WordOK n w→Q (.tup [.int n,.tup (w.map .int)]) (updM M p (.lst [.int s',.int f']))
 | _=>False
theorem a8B {P w K base f fd} {mg:Str→Option Value} {n:Nat}  (F:Fun K "_law_plait" "_law_plait" a3i f fd) (hm:mg "_law_plait"=some (.ref f)) (hb:a0G K fd ["state","most","longest"] []) (Z:Zs K mg) (D__law_take:Df P w K mg base n "_law_take" ["state","many"] a0U) (D__law_letter:Df P w K mg base n "_law_letter" ["state","strands"] a1k):Df P w K mg base (n+1) "_law_plait" ["state","most","longest"] a2s:=by
 refine F.dfn hm hb a2x (by unfold a2s;walk_at "ln") ⟨_,fun cdv A outer s H E hr=>(@a0b _ _ _ _ _ (@a0C _ _ _ _ 3 _ _ (@a0m _ _ _ _ _ _ _ _ a0o a0d (@a0m _ _ _ _ _ _ _ _ a4Z (@a0m _ _ _ _ _ _ _ _ a3o (@a0m _ _ _ _ _ _ _ _ a0o (@a0j _ _ _ _ _ _ _ _ _ _ D__law_take hr (@a0a _ _ _ _ _ (@hv _ 0 _ _ (by rfl) (by walk_at "3") (by decide) (by decide)) (@a0a _ _ _ _ _ (@a0m _ _ _ _ _ _ _ _ a0Q a0d (@hv _ 1 _ _ (by rfl) (by walk_at "3") (by decide) (by decide))) a0e (by rfl)) (by rfl)) (by rfl) (by decide) (by rfl) (by rfl)) a0d) (@a0m _ _ _ _ _ _ _ _ a0Q a0d (@hv _ 1 _ _ (by rfl) (by walk_at "3") (by decide) (by decide)))) a0d)) a2x.nd (by rfl) (by walk_at "2") (by rfl) (by walk_at "4")) (@a0b _ _ _ _ _ (@a0C _ _ _ _ 4 _ _ (@a3q _ _ _ _ a0e) a2x.nd (by rfl) (by walk_at "2") (by rfl) (by walk_at "4")) (@a0b _ _ _ _ _ (@a6H _ _ _ _ _ _ _ _ PassesOwn.never rfl (@a6w _ _ _ _ _ _ Z.b_range (@a0a _ _ _ _ _ (@a0m _ _ _ _ _ _ _ _ a0Q (@a0j _ _ _ _ _ _ _ _ _ _ D__law_take hr (@a0a _ _ _ _ _ (@hv _ 0 _ _ (by rfl) (by walk_at "3") (by decide) (by decide)) (@a0a _ _ _ _ _ (@a0m _ _ _ _ _ _ _ _ a0o (@hv _ 2 _ _ (by rfl) (by walk_at "3") (by decide) (by decide)) a0d) a0e (by rfl)) (by rfl)) (by rfl) (by decide) (by rfl) (by rfl)) (@a1F _ _ _ _ _ _ _ _ _ a3A Z.b_int PyProof.Rows.boot_int (@a0a _ _ _ _ _ (@a4N _ _ _ _ _ _ _ _ a3w (@hv _ 3 _ _ (by rfl) (by walk_at "3") (by decide) (by decide)) a0d (@a0k _ _ (by decide) (by decide))) a0e (by rfl)) (by rfl) (by decide) (by decide) (by rfl) (by rfl))) a0e (by rfl)) (by rfl) (by rfl)) (@a1j _ _ 5 _ a2x.nd (by rfl) (by walk_at "2") (by walk_at "4")) (@a0b _ _ _ _ _ (@a4c _ _ _ _ (@a5Y _ _ _ _ _ _ _ _ (@hv _ 4 _ _ (by rfl) (by walk_at "3") (by decide) (by decide)) (@a0a _ _ _ _ _ (@a0j _ _ _ _ _ _ _ _ _ _ D__law_letter hr (@a0a _ _ _ _ _ (@hv _ 0 _ _ (by rfl) (by walk_at "3") (by decide) (by decide)) (@a0a _ _ _ _ _ (@hv _ 3 _ _ (by rfl) (by walk_at "3") (by decide) (by decide)) a0e (by rfl)) (by rfl)) (by rfl) (by decide) (by rfl) (by rfl)) a0e (by rfl)) (by rfl) (by rfl) (by rfl) (by rfl) (by rfl)) (by rfl)) (@a0g _ _ _ (@s_if _ _ _ _ _ _ _ _ (@HW.ht _ _ _ (@a7U _ _ _ _ _ _ _ (@a0n _ _ _ _ _ _ _ _ (@a0y _ hr.units) (@a0j _ _ _ _ _ _ _ _ _ _ D__law_take hr (@a0a _ _ _ _ _ (@hv _ 0 _ _ (by rfl) (by walk_at "3") (by decide) (by decide)) (@a0a _ _ _ _ _ a0d a0e (by rfl)) (by rfl)) (by rfl) (by decide) (by rfl) (by rfl)) a0d (@a0k _ _ (by decide) (by decide))) (@a6d _ _ _ _ (@a0n _ _ _ _ _ _ _ _ a3w (@a0l _ _ _ _ _ _ _ _ _ a0p Z.b_len PySem.boot_len (@a0a _ _ _ _ _ (@hv _ 4 _ _ (by rfl) (by walk_at "3") (by decide) (by decide)) a0e (by rfl)) (by rfl) (by decide) (by decide) (by rfl) (by rfl)) a0d (@a0k _ _ (by decide) (by decide)))))) (@a0g _ _ _ (@a6k _ _ _ _ _ _ (@h_ix _ _ _ _ _ _ (@a3q _ _ _ _ (@a0a _ _ _ _ _ (@h_ix _ _ _ _ _ _ (@hv _ 4 _ _ (by rfl) (by walk_at "3") (by decide) (by decide)) (@h_un _ _ _ _ _ _ a0J a0d) (by intro _ _;rfl)) (@a0a _ _ _ _ _ (@a0m _ _ _ _ _ _ _ _ a0M a0d (@h_ix _ _ _ _ _ _ (@hv _ 4 _ _ (by rfl) (by walk_at "3") (by decide) (by decide)) (@h_un _ _ _ _ _ _ a0J a0d) (by intro _ _;rfl))) a0e (by rfl)) (by rfl))) (@a0j _ _ _ _ _ _ _ _ _ _ D__law_take hr (@a0a _ _ _ _ _ (@hv _ 0 _ _ (by rfl) (by walk_at "3") (by decide) (by decide)) (@a0a _ _ _ _ _ a0d a0e (by rfl)) (by rfl)) (by rfl) (by decide) (by rfl) (by rfl)) (by intro _ _;rfl)) (@a9W _ _ _ _ _ _ (@hv _ 4 _ _ (by rfl) (by walk_at "3") (by decide) (by decide)) (@h_un _ _ _ _ _ _ a0J a0d) (by intro _;rfl)) (by rfl) (by rfl) (by rfl))) a0q))) (by intro _;rfl)) (@a0g _ _ _ (@a0r _ _ _ _ (@a0R _ _ _ _ _ (@a0a _ _ _ _ _ (@hv _ 3 _ _ (by rfl) (by walk_at "3") (by decide) (by decide)) (@a0a _ _ _ _ _ (@a1F _ _ _ _ _ _ _ _ _ a1Z Z.b_tuple PyProof.Rows.boot_tuple (@a0a _ _ _ _ _ (@hv _ 4 _ _ (by rfl) (by walk_at "3") (by decide) (by decide)) a0e (by rfl)) (by rfl) (by decide) (by decide) (by rfl) (by rfl)) a0e (by rfl)) (by rfl)))))))),fun ts M Q h=>?_⟩
 unfold a2s at h
 split at h
 ·rename_i p most longest
  obtain⟨s,f,hM,hm1,hm2,hl0,hl1,h⟩:=h
  refine a5u fun K2 hK2=>?_
  walk_at "rd"
  refine⟨.inl ⟨by decide,by decide⟩,s,f,hM,by lia,by lia,fun c s1 f1 c0 c1=>?_⟩
  refine⟨.inl ⟨by decide,by decide⟩,by lia,⟨by decide,by decide⟩,fun r hr=>?_⟩
  have hn:1≤1+(c+1) % (12*most) / 12∧1+(c+1) % (12*most) / 12≤most:=by
   have e1:=Int.emod_nonneg (c+1) (show 12*most≠0 by lia)
   have e2:=Int.emod_lt_of_pos (c+1) (show 0 < 12*most by lia)
   lia
  generalize 1+(c+1) % (12*most) / 12=n at hn⊢
  have nr:p≠r:=fun z=>by rw[← z,a0i] at hr;cases hr
  have hrn:∀ x,updM M p x r=none:=fun x=>by
   rw[a0s nr.symm] at hr⊢;exact hr
  rw[hK2]
  refine a0c fun K3 hK3=>?_
  refine a2N fun B hB=>?_
  walk_at "rd"
  refine⟨s1,f1,by rw[a0s nr,a0i],by lia,by lia,fun c2 s2 f2 c20 c21=>?_⟩
  have hb:∃ k:Int,(if 1 < n then (1:Int) else 0)=k∧((k=0)∨(k=1∧2≤n)):=by
   by_cases c:1 < n
   ·exact⟨1,if_pos c,.inr ⟨rfl,by lia⟩⟩
   ·exact⟨0,if_neg c,.inl rfl⟩
  obtain⟨k,ek,hb⟩:=hb
  have hS0:Sub (updM M p (.lst [.int s2,.int f2])) (updM (updM (updM M p (MO.lst [T.int s1,T.int f1])) r (MO.lst [])) p (MO.lst [T.int s2,T.int f2])):=(Sub.new hr).set
  have hr0:updM (updM (updM M p (MO.lst [T.int s1,T.int f1])) r (MO.lst [])) p (MO.lst [T.int s2,T.int f2]) r=some (.lst []):=by rw[a0s nr.symm,a0i]
  generalize updM (updM (updM M p (MO.lst [T.int s1,T.int f1])) r (MO.lst [])) p (MO.lst [T.int s2,T.int f2])=M0 at hS0 hr0⊢
  walk_at "rd"
  rw[ek]
  have hck:0≤c2*k∧c2*k≤longest∧(0 < c2*k→2≤n):=by
   rcases hb with rfl | ⟨rfl,h2⟩
   ·rw[Int.mul_zero];lia
   ·rw[Int.mul_one];lia
  have hcm:CMul c2 k:=.inl ⟨by lia,by lia⟩
  generalize c2*k=cnt at hck⊢
  refine⟨hcm,by lia,by lia,fun i ρ M'=>∃ a w s' f',ρ=[some (T.adr p),some (T.int most),some (T.int longest),some (T.int n),some (T.adr r),a]∧M' r=some (.lst (List.map T.int w))∧Sub (updM M p (.lst [.int s',.int f'])) M'∧w.length=i∧WordOK n w,⟨none,[],s2,f2,rfl,hr0,hS0,rfl,WordOK.nil⟩,fun _ _ _ _=>trivial,?_,?_⟩
  ·rintro i x ρ M' hx ⟨a,w,s',f',rfl,hw,hS,hwl,hok⟩
   obtain⟨hi,rfl⟩:=a3Q hx
   have hp':M' p=some (.lst [.int s',.int f']):=hS _ _ a0i
   rw[hB]
   refine a0c fun K4 hK4=>?_
   walk_at "rd"
   rw[hw]
   refine⟨trivial,s',f',hp',by lia,by lia,fun l s3 f3 hl=>?_⟩
   simp only[a0s nr.symm,hw]
   have e1:List.map T.int w++[T.int l]=(w++[l]).map T.int:=by rw[List.map_append];rfl
   rw[e1]
   have hS1:Sub (updM M p (.lst [.int s3,.int f3])) (updM (updM M' p (.lst [.int s3,.int f3])) r (.lst ((w++[l]).map T.int))):=hS.set.updF (hrn _)
   have hw1:updM (updM M' p (.lst [.int s3,.int f3])) r (.lst ((w++[l]).map T.int)) r=some (.lst ((w++[l]).map T.int)):=a0i
   generalize updM (updM M' p (.lst [.int s3,.int f3])) r (.lst ((w++[l]).map T.int))=M1 at hS1 hw1⊢
   have hp1:M1 p=some (.lst [.int s3,.int f3]):=hS1 _ _ a0i
   refine⟨by rw[List.length_map];exact a0V (by lia),?_⟩
   have hok1:WordOK n (w++[l]):=hok.append fun x hx=>by rw[List.mem_singleton.mp hx];exact hl
   rw[hK4]
   walk_at "rd"
   refine⟨s3,f3,hp1,by decide,by decide,fun c4 s4 f4 c40 c41=>?_⟩
   have hr2:updM M1 p (.lst [.int s4,.int f4]) r=some (.lst ((w++[l]).map T.int)):=by rw[a0s nr.symm,hw1]
   have hS2:Sub (updM M p (.lst [.int s4,.int f4])) (updM M1 p (.lst [.int s4,.int f4])):=hS1.set
   generalize updM M1 p (.lst [.int s4,.int f4])=M2 at hr2 hS2⊢
   have hp2:M2 p=some (.lst [.int s4,.int f4]):=hS2 _ _ a0i
   have hlen:(w++[l]).length=i+1:=by rw[List.length_append,hwl];rfl
   refine⟨rfl,by rw[a3W];lia,ite2 (fun hc=>?_) (fun hc=>⟨_,_,s4,f4,rfl,hr2,hS2,hlen,hok1⟩)⟩
   simp only[hr2]
   refine ite2 (fun hc2=>?_) (fun hc2=>⟨_,_,s4,f4,rfl,rfl,hS2,hlen,hok1⟩)
   rw[List.length_map,hlen] at hc2
   obtain⟨w0,y,rfl⟩:∃ w0 y,w=w0++[y]:=by
    rcases List.eq_nil_or_concat w with e | ⟨w0,y,e⟩
    ·rw[e] at hwl;simp at hwl;lia
    ·exact⟨w0,y,by rw[e,List.concat_eq_append]⟩
   have e2:List.map T.int (w0++[y]++[l])=List.map T.int w0++[T.int y,T.int l]:=by simp
   have a2:atI (List.map T.int (w0++[y]++[l])) (-2)=some (T.int y):=by rw[e2];exact b5s _ _ _
   have hy:LetOK n y:=hok y (by simp)
   simp only[a2]
   refine⟨by decide,fun p3 hp3=>?_⟩
   have q1:p≠p3:=fun z=>by rw[← z,hp2] at hp3;cases hp3
   have q2:r≠p3:=fun z=>by rw[← z,hr2] at hp3;cases hp3
   refine⟨s4,f4,by rw[a0s q1,hp2],by decide,by decide,fun c5 s5 f5 c50 c51=>?_⟩
   have e5:∃ b:Int,LetOK n b∧atI [T.int y,T.int (0 - y)] c5=some (.int b):=by
    rcases (show c5=0∨c5=1 by lia) with rfl | rfl
    ·exact⟨y,hy,rfl⟩
    ·exact⟨0 - y,by unfold LetOK at hy⊢;lia,rfl⟩
   obtain⟨b,hbL,e5⟩:=e5
   simp only[a0s q1.symm,a0i,e5,a0s nr.symm,a0s q2,hr2]
   have ix:ixN (List.map T.int (w0++[y]++[l])).length (-1)=some (w0.length+1):=by
    unfold ixN
    rw[List.length_map]
    simp only[List.length_append,List.length_singleton]
    rw[if_neg (by decide),if_pos (by lia)]
    congr 1
    lia
   rw[ix]
   have e6:(List.map T.int (w0++[y]++[l])).set (w0.length+1) (T.int b)=List.map T.int (w0++[y]++[b]):=by
    rw[← List.map_set]
    congr 1
    rw[List.set_append_right _ _ (by simp)]
    simp
   dsimp only
   rw[e6]
   refine⟨_,w0++[y]++[b],s5,f5,rfl,rfl,?_,by rw[List.length_append,hwl];rfl,hok.append fun x hx=>by rw[List.mem_singleton.mp hx];exact hbL⟩
   exact ((hS2.newr hp3).set).updF (hrn _)
  ·rintro ρ M' ⟨a,w,s',f',rfl,hw,hS,hwl,hok⟩
   rw[a1u] at hwl
   rw[hK3]
   walk_at "rd"
   simp only[hw]
   exact⟨by decide,a0x (h n w s' f' hn.1 hn.2 (by lia) hok) hS⟩
 ·exact h.elim
noncomputable def a0O:Sp3:=fun ts M Q=>match ts with
 | [.int l]=>Q (.int (sg l)) M
 | _=>False
theorem a9C {P w K base f fd} {mg:Str→Option Value} {n:Nat}  (F:Fun K "_law_sign" "_law_sign" a3P f fd) (hm:mg "_law_sign"=some (.ref f)) (hb:a0G K fd ["letter"] []) (Z:Zs K mg) :Df P w K mg base (n+1) "_law_sign" ["letter"] a0O:=by
 refine F.dfn hm hb a9j (by unfold a0O;walk_at "ln") ⟨_,fun cdv A outer s H E hr=>(@a0g _ _ _ (@a0r _ _ _ _ (@h_ix _ _ _ _ _ _ (@a3q _ _ _ _ (@a0a _ _ _ _ _ (@h_un _ _ _ _ _ _ a0J a0d) (@a0a _ _ _ _ _ a0d a0e (by rfl)) (by rfl))) (@a1F _ _ _ _ _ _ _ _ _ a3A Z.b_int PyProof.Rows.boot_int (@a0a _ _ _ _ _ (@a4N _ _ _ _ _ _ _ _ a3w (@hv _ 0 _ _ (by rfl) (by walk_at "3") (by decide) (by decide)) a0d (@a0k _ _ (by decide) (by decide))) a0e (by rfl)) (by rfl) (by decide) (by decide) (by rfl) (by rfl)) (by intro _ _;rfl)))),fun ts M Q h=>?_⟩
 unfold a0O at h
 split at h
 ·rename_i l
  walk_at "rd"
  refine⟨by decide,fun p hp=>?_⟩
  have e:atI [T.int (-1),T.int 1] (if 0 < l then 1 else 0)=some (.int (sg l)):=by
   unfold sg
   by_cases c:0 < l
   ·rw[if_pos c,if_pos c];rfl
   ·rw[if_neg c,if_neg c];rfl
  simp only[e]
  exact a0x h (Sub.new hp)
 ·exact h.elim
noncomputable def a2q:Sp3:=fun ts M Q=>match ts with
 | [.tup w]=>∃ p q r:Int,w=[.int p,.int q,.int r]∧p≠0∧q≠0∧r≠0∧p.natAbs < 7∧q.natAbs < 7∧r.natAbs < 7∧Q (if thrB p q r then .tup [.int (sgnL q r),.int (sgnL p q),.int (sgnL q p)] else .non) M
 | _=>False
theorem a8z {P w K base f fd} {mg:Str→Option Value} {n:Nat}  (F:Fun K "_law_three" "_law_three" a3g f fd) (hm:mg "_law_three"=some (.ref f)) (hb:a0G K fd ["part"] []) (Z:Zs K mg) (D__law_sign:Df P w K mg base n "_law_sign" ["letter"] a0O):Df P w K mg base (n+1) "_law_three" ["part"] a2q:=by
 refine F.dfn hm hb a2w (by unfold a2q;walk_at "ln") ⟨_,fun cdv A outer s H E hr=>(@a0b _ _ _ _ _ (@a6k _ _ _ _ _ _ (@hv _ 0 _ _ (by rfl) (by walk_at "3") (by decide) (by decide)) (@a8M _ _ _ _ _ 3 rfl (@a1i _ _ _ _ _ (@a1j _ _ 1 _ a2w.nd (by rfl) (by walk_at "2") (by walk_at "4")) (@a1i _ _ _ _ _ (@a1j _ _ 2 _ a2w.nd (by rfl) (by walk_at "2") (by walk_at "4")) (@a1i _ _ _ _ _ (@a1j _ _ 3 _ a2w.nd (by rfl) (by walk_at "2") (by walk_at "4")) a5M (by rfl)) (by rfl)) (by rfl)) (by rfl) (by rfl)) (by rfl) (by rfl) (by rfl)) (@a0b _ _ _ _ _ (@s_if _ _ _ _ _ _ _ _ (@HW.ht _ _ _ (@w_or _ _ _ _ _ _ _ (@a0n _ _ _ _ _ _ _ _ (@a4m _ hr.units) (@a0l _ _ _ _ _ _ _ _ _ a0t Z.b_abs PyProof.Rows.boot_abs (@a0a _ _ _ _ _ (@hv _ 1 _ _ (by rfl) (by walk_at "3") (by decide) (by decide)) a0e (by rfl)) (by rfl) (by decide) (by decide) (by rfl) (by rfl)) (@a0l _ _ _ _ _ _ _ _ _ a0t Z.b_abs PyProof.Rows.boot_abs (@a0a _ _ _ _ _ (@hv _ 3 _ _ (by rfl) (by walk_at "3") (by decide) (by decide)) a0e (by rfl)) (by rfl) (by decide) (by decide) (by rfl) (by rfl)) (@a0k _ _ (by decide) (by decide))) (@a6y _ _ _ _ (@a0n _ _ _ _ _ _ _ _ a9q (@a0m _ _ _ _ _ _ _ _ a0M (@a0l _ _ _ _ _ _ _ _ _ a0t Z.b_abs PyProof.Rows.boot_abs (@a0a _ _ _ _ _ (@hv _ 1 _ _ (by rfl) (by walk_at "3") (by decide) (by decide)) a0e (by rfl)) (by rfl) (by decide) (by decide) (by rfl) (by rfl)) (@a0l _ _ _ _ _ _ _ _ _ a0t Z.b_abs PyProof.Rows.boot_abs (@a0a _ _ _ _ _ (@hv _ 2 _ _ (by rfl) (by walk_at "3") (by decide) (by decide)) a0e (by rfl)) (by rfl) (by decide) (by decide) (by rfl) (by rfl))) (@a3q _ _ _ _ (@a0a _ _ _ _ _ a0d (@a0a _ _ _ _ _ (@h_un _ _ _ _ _ _ a0J a0d) a0e (by rfl)) (by rfl))) rfl)))) (@a0g _ _ _ (@a0r _ _ _ _ a5X)) a0q) (@a0b _ _ _ _ _ (@s_if _ _ _ _ _ _ _ _ (@HW.ht _ _ _ (@a7U _ _ _ _ _ _ _ (@a0n _ _ _ _ _ _ _ _ (@a0y _ hr.units) (@a0j _ _ _ _ _ _ _ _ _ _ D__law_sign hr (@a0a _ _ _ _ _ (@hv _ 1 _ _ (by rfl) (by walk_at "3") (by decide) (by decide)) a0e (by rfl)) (by rfl) (by decide) (by rfl) (by rfl)) (@a0j _ _ _ _ _ _ _ _ _ _ D__law_sign hr (@a0a _ _ _ _ _ (@hv _ 3 _ _ (by rfl) (by walk_at "3") (by decide) (by decide)) a0e (by rfl)) (by rfl) (by decide) (by rfl) (by rfl)) (@a0k _ _ (by decide) (by decide))) (@a6d _ _ _ _ (@a0n _ _ _ _ _ _ _ _ (@a4m _ hr.units) (@a0j _ _ _ _ _ _ _ _ _ _ D__law_sign hr (@a0a _ _ _ _ _ (@hv _ 1 _ _ (by rfl) (by walk_at "3") (by decide) (by decide)) a0e (by rfl)) (by rfl) (by decide) (by rfl) (by rfl)) (@a0j _ _ _ _ _ _ _ _ _ _ D__law_sign hr (@a0a _ _ _ _ _ (@hv _ 2 _ _ (by rfl) (by walk_at "3") (by decide) (by decide)) a0e (by rfl)) (by rfl) (by decide) (by rfl) (by rfl)) (@a0k _ _ (by decide) (by decide)))))) (@a0g _ _ _ (@a0r _ _ _ _ a5X)) a0q) (@a0g _ _ _ (@a0r _ _ _ _ (@a0R _ _ _ _ _ (@a0a _ _ _ _ _ (@a0m _ _ _ _ _ _ _ _ a0Q (@a0j _ _ _ _ _ _ _ _ _ _ D__law_sign hr (@a0a _ _ _ _ _ (@hv _ 3 _ _ (by rfl) (by walk_at "3") (by decide) (by decide)) a0e (by rfl)) (by rfl) (by decide) (by rfl) (by rfl)) (@a0l _ _ _ _ _ _ _ _ _ a0t Z.b_abs PyProof.Rows.boot_abs (@a0a _ _ _ _ _ (@hv _ 2 _ _ (by rfl) (by walk_at "3") (by decide) (by decide)) a0e (by rfl)) (by rfl) (by decide) (by decide) (by rfl) (by rfl))) (@a0a _ _ _ _ _ (@a0m _ _ _ _ _ _ _ _ a0Q (@a0j _ _ _ _ _ _ _ _ _ _ D__law_sign hr (@a0a _ _ _ _ _ (@hv _ 2 _ _ (by rfl) (by walk_at "3") (by decide) (by decide)) a0e (by rfl)) (by rfl) (by decide) (by rfl) (by rfl)) (@a0l _ _ _ _ _ _ _ _ _ a0t Z.b_abs PyProof.Rows.boot_abs (@a0a _ _ _ _ _ (@hv _ 1 _ _ (by rfl) (by walk_at "3") (by decide) (by decide)) a0e (by rfl)) (by rfl) (by decide) (by decide) (by rfl) (by rfl))) (@a0a _ _ _ _ _ (@a0m _ _ _ _ _ _ _ _ a0Q (@a0j _ _ _ _ _ _ _ _ _ _ D__law_sign hr (@a0a _ _ _ _ _ (@hv _ 1 _ _ (by rfl) (by walk_at "3") (by decide) (by decide)) a0e (by rfl)) (by rfl) (by decide) (by rfl) (by rfl)) (@a0l _ _ _ _ _ _ _ _ _ a0t Z.b_abs PyProof.Rows.boot_abs (@a0a _ _ _ _ _ (@hv _ 2 _ _ (by rfl) (by walk_at "3") (by decide) (by decide)) a0e (by rfl)) (by rfl) (by decide) (by decide) (by rfl) (by rfl))) a0e (by rfl)) (by rfl)) (by rfl)))))))),fun ts M Q h=>?_⟩
 unfold a2q at h
 split at h
 ·rename_i w
  obtain⟨p,q,r,rfl,hp,hq,hr,lp,lq,lr,h⟩:=h
  refine a5u fun K1 hK1=>?_
  walk_at "rd"
  unfold thrB at h
  refine ite2 (fun c1=>?_) (fun c1=>⟨by decide,fun p1 hp1=>⟨rfl,rfl,?_⟩⟩)
  ·rw[decide_eq_false (by lia)] at h
   exact a0f h
  rw[decide_eq_true (show p.natAbs=r.natAbs by lia),Bool.true_and] at h
  have hS:Sub M (updM M p1 (.lst [.int 1,.int (-1)])):=Sub.new hp1
  generalize updM M p1 (.lst [.int 1,.int (-1)])=M1 at hS⊢
  have e2:inT (T.int (↑p.natAbs - ↑q.natAbs)) [T.int 1,T.int (-1)]=decide (p.natAbs+1=q.natAbs∨q.natAbs+1=p.natAbs):=by
   unfold inT
   simp only[List.any_cons,List.any_nil,a3V,Bool.or_false,← Bool.decide_or]
   exact decide_eq_decide.mpr (by lia)
  rw[e2]
  refine ite2 (fun c2=>?_) (fun c2=>?_)
  ·rw[c2] at h
   exact a0x h hS
  have c2':=(Bool.not_eq_false _).mp c2
  rw[c2',Bool.true_and] at h
  suffices hK:K1 [some (.tup [.int p,.int q,.int r]),some (.int p),some (.int q),some (.int r)] M1 by exact hK
  rw[hK1]
  refine a0c fun K2 hK2=>?_
  walk_at "rd"
  unfold a0O
  dsimp only
  rw[a3V,a3V]
  have hk:K2 [some (.tup [.int p,.int q,.int r]),some (.int p),some (.int q),some (.int r)] M1↔rt3 M Q (.tup [.int (sgnL q r),.int (sgnL p q),.int (sgnL q p)]) M1∨K2 [some (.tup [.int p,.int q,.int r]),some (.int p),some (.int q),some (.int r)] M1:=⟨.inr,fun z=>z.elim (fun z=>?_) id⟩
  ·refine⟨rfl,rfl,Nat.zero_le _,ite2 (fun c3=>⟨rfl,rfl,Nat.zero_le _,ite2 (fun c4=>?_) (fun c4=>?_)⟩) (fun c3=>?_)⟩
   ·have e3:sg p=sg r:=of_decide_eq_true c3
    have e4:¬sg p=sg q:=of_decide_eq_false c4
    rw[b9P] at e3 e4
    rw[decide_eq_false (fun z=>e4 (z (b4U (by lia) e3 hr)))] at h
    exact a0x h hS
   ·have e3:sg p=sg r:=of_decide_eq_true c3
    have e4:sg p=sg q:=by simpa using c4
    rw[b9P] at e3 e4
    rw[decide_eq_true (fun _=>e4)] at h
    exact hk.mpr (.inl (a0x h hS))
   ·have e3:¬sg p=sg r:=by simpa using c3
    rw[decide_eq_true (fun z=>absurd (by rw[z]) e3)] at h
    exact hk.mpr (.inl (a0x h hS))
  ·rw[hK2]
   walk_at "rd"
   unfold a0O
   dsimp only
   have cm:∀ x y:Int,y.natAbs < 7→CMul (sg x) ((y.natAbs:Nat):Int):=fun x y hy=>by
    have:=b6U x
    exact .inl ⟨by lia,by lia⟩
   refine⟨cm _ _ lq,cm _ _ lp,cm _ _ lq,by decide,?_⟩
   rw[b3K hr,b3K hq,b3K hp]
   exact z
 ·exact h.elim
noncomputable def a1r:Sp3:=fun ts M Q=>match ts with
 | [.int n,.tup w,.tup st]=>∃ (ws:List Int) (s:Stp),w=ws.map .int∧st=s.t∧ws.length≤1000∧n≤6∧WordOK n ws∧Q (optT (aft n ws s)) M
 | _=>False
theorem a8E {P w K base f fd} {mg:Str→Option Value} {n:Nat}  (F:Fun K "_law_after" "_law_after" a3k f fd) (hm:mg "_law_after"=some (.ref f)) (hb:a0G K fd ["strands","word","step"] []) (Z:Zs K mg) (D__law_three:Df P w K mg base n "_law_three" ["part"] a2q):Df P w K mg base (n+1) "_law_after" ["strands","word","step"] a1r:=by
 refine F.dfn hm hb a1N (by unfold a1r;walk_at "ln") ⟨_,fun cdv A outer s H E hr=>(@a0b _ _ _ _ _ (@a0C _ _ _ _ 3 _ _ (@h_ix _ _ _ _ _ _ (@hv _ 2 _ _ (by rfl) (by walk_at "3") (by decide) (by decide)) a0d (by intro _ _;rfl)) a1N.nd (by rfl) (by walk_at "2") (by rfl) (by walk_at "4")) (@a0b _ _ _ _ _ (@s_if _ _ _ _ _ _ _ _ (@HW.ht _ _ _ (@w_or _ _ _ _ _ _ _ (@a0n _ _ _ _ _ _ _ _ a3l (@hv _ 3 _ _ (by rfl) (by walk_at "3") (by decide) (by decide)) a0d (@a0k _ _ (by decide) (by decide))) (@a6y _ _ _ _ (@a0n _ _ _ _ _ _ _ _ a3w (@hv _ 3 _ _ (by rfl) (by walk_at "3") (by decide) (by decide)) (@a0l _ _ _ _ _ _ _ _ _ a0p Z.b_len PySem.boot_len (@a0a _ _ _ _ _ (@hv _ 1 _ _ (by rfl) (by walk_at "3") (by decide) (by decide)) a0e (by rfl)) (by rfl) (by decide) (by decide) (by rfl) (by rfl)) (@a0k _ _ (by decide) (by decide)))))) (@a0g _ _ _ (@a0r _ _ _ _ a5X)) a0q) (@a0b _ _ _ _ _ (@a0C _ _ _ _ 4 _ _ (@a0N _ _ _ _ _ _ _ _ _ (@hv _ 1 _ _ (by rfl) (by walk_at "3") (by decide) (by decide)) a1p (@a1c _ _ _ (@hv _ 3 _ _ (by rfl) (by walk_at "3") (by decide) (by decide)))) a1N.nd (by rfl) (by walk_at "2") (by rfl) (by walk_at "4")) (@a0b _ _ _ _ _ (@s_if _ _ _ _ _ _ _ _ (@a0n _ _ _ _ _ _ _ _ (@a0y _ hr.units) (@h_ix _ _ _ _ _ _ (@hv _ 2 _ _ (by rfl) (by walk_at "3") (by decide) (by decide)) a0d (by intro _ _;rfl)) a0P (@a0k _ _ (by decide) (by decide))) (@a0b _ _ _ _ _ (@s_if _ _ _ _ _ _ _ _ (@HW.ht _ _ _ (@w_or _ _ _ _ _ _ _ (@a0n _ _ _ _ _ _ _ _ (@a0y _ hr.units) (@h_ix _ _ _ _ _ _ (@hv _ 2 _ _ (by rfl) (by walk_at "3") (by decide) (by decide)) a0d (by intro _ _;rfl)) a0d (@a0k _ _ (by decide) (by decide))) (@a6y _ _ _ _ (@a0n _ _ _ _ _ _ _ _ b7c (@a0l _ _ _ _ _ _ _ _ _ a0t Z.b_abs PyProof.Rows.boot_abs (@a0a _ _ _ _ _ (@h_ix _ _ _ _ _ _ (@hv _ 2 _ _ (by rfl) (by walk_at "3") (by decide) (by decide)) a0d (by intro _ _;rfl)) a0e (by rfl)) (by rfl) (by decide) (by decide) (by rfl) (by rfl)) (@hv _ 0 _ _ (by rfl) (by walk_at "3") (by decide) (by decide)) (@a0k _ _ (by decide) (by decide)))))) (@a0g _ _ _ (@a0r _ _ _ _ a5X)) a0q) (@a0g _ _ _ (@a0r _ _ _ _ (@a0m _ _ _ _ _ _ _ _ a0o (@a0m _ _ _ _ _ _ _ _ a0o (@hv _ 4 _ _ (by rfl) (by walk_at "3") (by decide) (by decide)) (@a0R _ _ _ _ _ (@a0a _ _ _ _ _ (@h_ix _ _ _ _ _ _ (@hv _ 2 _ _ (by rfl) (by walk_at "3") (by decide) (by decide)) a0d (by intro _ _;rfl)) (@a0a _ _ _ _ _ (@a0m _ _ _ _ _ _ _ _ a0M a0d (@h_ix _ _ _ _ _ _ (@hv _ 2 _ _ (by rfl) (by walk_at "3") (by decide) (by decide)) a0d (by intro _ _;rfl))) a0e (by rfl)) (by rfl)))) (@a0N _ _ _ _ _ _ _ _ _ (@hv _ 1 _ _ (by rfl) (by walk_at "3") (by decide) (by decide)) (@a1c _ _ _ (@hv _ 3 _ _ (by rfl) (by walk_at "3") (by decide) (by decide))) a1p))))) a0q) (@a0b _ _ _ _ _ (@s_if _ _ _ _ _ _ _ _ (@a0n _ _ _ _ _ _ _ _ (@a0y _ hr.units) (@h_ix _ _ _ _ _ _ (@hv _ 2 _ _ (by rfl) (by walk_at "3") (by decide) (by decide)) a0d (by intro _ _;rfl)) a0P (@a0k _ _ (by decide) (by decide))) (@a0b _ _ _ _ _ (@a0C _ _ _ _ 5 _ _ (@a0N _ _ _ _ _ _ _ _ _ (@hv _ 1 _ _ (by rfl) (by walk_at "3") (by decide) (by decide)) (@a1c _ _ _ (@hv _ 3 _ _ (by rfl) (by walk_at "3") (by decide) (by decide))) (@a1c _ _ _ (@a0m _ _ _ _ _ _ _ _ a0o (@hv _ 3 _ _ (by rfl) (by walk_at "3") (by decide) (by decide)) a0d))) a1N.nd (by rfl) (by walk_at "2") (by rfl) (by walk_at "4")) (@a0b _ _ _ _ _ (@s_if _ _ _ _ _ _ _ _ (@HW.ht _ _ _ (@w_or _ _ _ _ _ _ _ (@a0n _ _ _ _ _ _ _ _ a3l (@a0l _ _ _ _ _ _ _ _ _ a0p Z.b_len PySem.boot_len (@a0a _ _ _ _ _ (@hv _ 5 _ _ (by rfl) (by walk_at "3") (by decide) (by decide)) a0e (by rfl)) (by rfl) (by decide) (by decide) (by rfl) (by rfl)) a0d (@a0k _ _ (by decide) (by decide))) (@a6y _ _ _ _ (@a0n _ _ _ _ _ _ _ _ b7a (@a0j _ _ _ _ _ _ _ _ _ _ D__law_three hr (@a0a _ _ _ _ _ (@hv _ 5 _ _ (by rfl) (by walk_at "3") (by decide) (by decide)) a0e (by rfl)) (by rfl) (by decide) (by rfl) (by rfl)) a5X (@a0k _ _ (by decide) (by decide)))))) (@a0g _ _ _ (@a0r _ _ _ _ a5X)) a0q) (@a0g _ _ _ (@a0r _ _ _ _ (@a0m _ _ _ _ _ _ _ _ a0o (@a0m _ _ _ _ _ _ _ _ a0o (@hv _ 4 _ _ (by rfl) (by walk_at "3") (by decide) (by decide)) (@a0j _ _ _ _ _ _ _ _ _ _ D__law_three hr (@a0a _ _ _ _ _ (@hv _ 5 _ _ (by rfl) (by walk_at "3") (by decide) (by decide)) a0e (by rfl)) (by rfl) (by decide) (by rfl) (by rfl))) (@a0N _ _ _ _ _ _ _ _ _ (@hv _ 1 _ _ (by rfl) (by walk_at "3") (by decide) (by decide)) (@a1c _ _ _ (@a0m _ _ _ _ _ _ _ _ a0o (@hv _ 3 _ _ (by rfl) (by walk_at "3") (by decide) (by decide)) a0d)) a1p)))))) a0q) (@a0b _ _ _ _ _ (@a0C _ _ _ _ 6 _ _ (@a0N _ _ _ _ _ _ _ _ _ (@hv _ 1 _ _ (by rfl) (by walk_at "3") (by decide) (by decide)) (@a1c _ _ _ (@hv _ 3 _ _ (by rfl) (by walk_at "3") (by decide) (by decide))) (@a1c _ _ _ (@a0m _ _ _ _ _ _ _ _ a0o (@hv _ 3 _ _ (by rfl) (by walk_at "3") (by decide) (by decide)) a0d))) a1N.nd (by rfl) (by walk_at "2") (by rfl) (by walk_at "4")) (@a0b _ _ _ _ _ (@s_if _ _ _ _ _ _ _ _ (@a0n _ _ _ _ _ _ _ _ a3l (@a0l _ _ _ _ _ _ _ _ _ a0p Z.b_len PySem.boot_len (@a0a _ _ _ _ _ (@hv _ 6 _ _ (by rfl) (by walk_at "3") (by decide) (by decide)) a0e (by rfl)) (by rfl) (by decide) (by decide) (by rfl) (by rfl)) a0d (@a0k _ _ (by decide) (by decide))) (@a0g _ _ _ (@a0r _ _ _ _ a5X)) a0q) (@a0b _ _ _ _ _ (@s_if _ _ _ _ _ _ _ _ (@a0n _ _ _ _ _ _ _ _ (@a0y _ hr.units) (@h_ix _ _ _ _ _ _ (@hv _ 2 _ _ (by rfl) (by walk_at "3") (by decide) (by decide)) a0d (by intro _ _;rfl)) a0P (@a0k _ _ (by decide) (by decide))) (@a0b _ _ _ _ _ (@s_if _ _ _ _ _ _ _ _ (@a0n _ _ _ _ _ _ _ _ a3l (@a0l _ _ _ _ _ _ _ _ _ a0t Z.b_abs PyProof.Rows.boot_abs (@a0a _ _ _ _ _ (@a0m _ _ _ _ _ _ _ _ a0M (@a0l _ _ _ _ _ _ _ _ _ a0t Z.b_abs PyProof.Rows.boot_abs (@a0a _ _ _ _ _ (@h_ix _ _ _ _ _ _ (@hv _ 6 _ _ (by rfl) (by walk_at "3") (by decide) (by decide)) a0d (by intro _ _;rfl)) a0e (by rfl)) (by rfl) (by decide) (by decide) (by rfl) (by rfl)) (@a0l _ _ _ _ _ _ _ _ _ a0t Z.b_abs PyProof.Rows.boot_abs (@a0a _ _ _ _ _ (@h_ix _ _ _ _ _ _ (@hv _ 6 _ _ (by rfl) (by walk_at "3") (by decide) (by decide)) a0d (by intro _ _;rfl)) a0e (by rfl)) (by rfl) (by decide) (by decide) (by rfl) (by rfl))) a0e (by rfl)) (by rfl) (by decide) (by decide) (by rfl) (by rfl)) a0d (@a0k _ _ (by decide) (by decide))) (@a0g _ _ _ (@a0r _ _ _ _ a5X)) a0q) (@a0g _ _ _ (@a0r _ _ _ _ (@a0m _ _ _ _ _ _ _ _ a0o (@a0m _ _ _ _ _ _ _ _ a0o (@hv _ 4 _ _ (by rfl) (by walk_at "3") (by decide) (by decide)) (@a0R _ _ _ _ _ (@a0a _ _ _ _ _ (@h_ix _ _ _ _ _ _ (@hv _ 6 _ _ (by rfl) (by walk_at "3") (by decide) (by decide)) a0d (by intro _ _;rfl)) (@a0a _ _ _ _ _ (@h_ix _ _ _ _ _ _ (@hv _ 6 _ _ (by rfl) (by walk_at "3") (by decide) (by decide)) a0d (by intro _ _;rfl)) a0e (by rfl)) (by rfl)))) (@a0N _ _ _ _ _ _ _ _ _ (@hv _ 1 _ _ (by rfl) (by walk_at "3") (by decide) (by decide)) (@a1c _ _ _ (@a0m _ _ _ _ _ _ _ _ a0o (@hv _ 3 _ _ (by rfl) (by walk_at "3") (by decide) (by decide)) a0d)) a1p))))) a0q) (@a0b _ _ _ _ _ (@s_if _ _ _ _ _ _ _ _ (@a0n _ _ _ _ _ _ _ _ (@a4m _ hr.units) (@a0m _ _ _ _ _ _ _ _ a0o (@h_ix _ _ _ _ _ _ (@hv _ 6 _ _ (by rfl) (by walk_at "3") (by decide) (by decide)) a0d (by intro _ _;rfl)) (@h_ix _ _ _ _ _ _ (@hv _ 6 _ _ (by rfl) (by walk_at "3") (by decide) (by decide)) a0d (by intro _ _;rfl))) a0d (@a0k _ _ (by decide) (by decide))) (@a0g _ _ _ (@a0r _ _ _ _ a5X)) a0q) (@a0g _ _ _ (@a0r _ _ _ _ (@a0m _ _ _ _ _ _ _ _ a0o (@hv _ 4 _ _ (by rfl) (by walk_at "3") (by decide) (by decide)) (@a0N _ _ _ _ _ _ _ _ _ (@hv _ 1 _ _ (by rfl) (by walk_at "3") (by decide) (by decide)) (@a1c _ _ _ (@a0m _ _ _ _ _ _ _ _ a0o (@hv _ 3 _ _ (by rfl) (by walk_at "3") (by decide) (by decide)) a0d)) a1p))))))))))))),fun ts M Q h=>?_⟩
 unfold a1r at h
 split at h
 ·rename_i n w st
  obtain⟨ws,s,rfl,rfl,hl,h6,hw,h⟩:=h
  have bad:(s.at < 0∨(ws.length:Int) < s.at)→rt3 M Q .non M:=fun z=>by
   rw[b6I z] at h
   exact a0f h
  cases s with
  | inn a l =>
    show a1e _ _ _ [some (.int n),some (.tup (ws.map .int)),some (.tup [.str "in",.int a,.int l]),none,none,none,none] M
    refine a5t fun K1 hK1=>?_
    walk_at "rd"
    refine ite2 (fun c1=>bad (.inl c1)) (fun c1=>ite2 (fun c2=>bad (.inr c2)) (fun c2=>?_))
    clear bad
    obtain⟨A,R,rfl,hA⟩:=cutI (a:=a) (w:=ws) (by lia) (by lia)
    rw[b2k (by lia) hA]
    rw[hK1]
    refine a0c fun K2 hK2=>?_
    walk_at "rd"
    refine⟨rfl,rfl,Nat.zero_le _,?_⟩
    rw[if_pos (a0I _ rfl)]
    rw[a8W] at h
    have hb:inB n (A++R) a l=a5c n l:=by
     unfold inB
     rw[decide_eq_true (by lia)]
     rfl
    rw[hb] at h
    have bad:¬LetOK n l→rt3 M Q .non M:=fun z=>by
     rw[show a5c n l=false from Bool.eq_false_iff.mpr fun y=>z (a2g.mp y)] at h
     exact a0f h
    refine ite2 (fun c3=>bad (fun z=>z.ne c3)) (fun c3=>ite2 (fun c4=>bad (fun z=>by unfold LetOK at z;lia)) (fun c4=>?_))
    rw[a2g.mpr (by unfold LetOK;lia),if_pos rfl,a8L hA] at h
    rw[b6C (by lia) hA]
    rw[List.length_append] at hl
    refine⟨by decide,a0A (by lia),a0A (by rw[List.length_map];lia),?_⟩
    refine a0f ?_
    unfold optT at h
    simpa using h
  | three a =>
    show a1e _ _ _ [some (.int n),some (.tup (ws.map .int)),some (.tup [.str "three",.int a]),none,none,none,none] M
    refine a5t fun K1 hK1=>?_
    walk_at "rd"
    refine ite2 (fun c1=>bad (.inl c1)) (fun c1=>ite2 (fun c2=>bad (.inr c2)) (fun c2=>?_))
    clear bad
    obtain⟨A,R,rfl,hA⟩:=cutI (a:=a) (w:=ws) (by lia) (by lia)
    rw[b2k (by lia) hA]
    rw[hK1]
    refine a0c fun K2 hK2=>?_
    walk_at "rd"
    refine⟨rfl,rfl,Nat.zero_le _,?_⟩
    rw[if_neg (by decide +kernel),hK2]
    refine a0c fun K3 hK3=>?_
    walk_at "rd"
    refine⟨rfl,rfl,Nat.zero_le _,?_⟩
    rw[if_pos (a0I _ rfl)]
    rw[a3B] at h
    rw[b1k (by decide) (by lia) hA,a7b (by decide) (by lia) hA]
    rw[List.length_append] at hl c2
    have bad:R.length < 3→rt3 M Q .non M:=fun z=>by
     rw[a7R (by rw[List.length_append];lia)] at h
     exact a0f h
    cases R with
    | nil=>rw[if_pos (by simp)];exact bad (by simp)
    | cons p R =>
    cases R with
    | nil=>rw[if_pos (by simp)];exact bad (by simp)
    | cons q R =>
    cases R with
    | nil=>rw[if_pos (by simp)];exact bad (by simp)
    | cons r R =>
    clear bad
    have lp:=hw p (by simp)
    have lq:=hw q (by simp)
    have lr:=hw r (by simp)
    have e:a0z (A++p :: q :: r :: R) a=thrB p q r:=Bool.eq_iff_iff.mpr ((a5O (by lia) hA lp.ne lq.ne).trans b5C.symm)
    rw[e,a4V (by lia) hA] at h
    have s3:∀ x:Int,LetOK n x→x.natAbs < 7:=fun x hx=>by unfold LetOK at hx;lia
    rw[if_neg (by simp)]
    refine⟨p,q,r,rfl,lp.ne,lq.ne,lr.ne,s3 _ lp,s3 _ lq,s3 _ lr,?_⟩
    cases c:thrB p q r with
    | false =>
      rw[c] at h
      rw[if_pos (by simp)]
      exact a0f h
    | true =>
      rw[c] at h
      rw[if_neg (by simp)]
      refine⟨p,q,r,rfl,lp.ne,lq.ne,lr.ne,s3 _ lp,s3 _ lq,s3 _ lr,?_⟩
      rw[c,if_pos rfl]
      rw[show List.drop (Int.toNat 3) (p :: q :: r :: R)=R from rfl]
      rw[List.length_cons,List.length_cons,List.length_cons] at hl
      refine⟨a0A (by simp only[List.length_map,List.length_cons,List.length_nil];lia),a0A (by simp only[List.length_map,List.length_cons,List.length_nil];lia),a0f ?_⟩
      rw[if_pos rfl] at h
      unfold optT at h
      simpa using h
  | out a =>
    show a1e _ _ _ [some (.int n),some (.tup (ws.map .int)),some (.tup [.str "out",.int a]),none,none,none,none] M
    refine a5t fun K1 hK1=>?_
    walk_at "rd"
    refine ite2 (fun c1=>bad (.inl c1)) (fun c1=>ite2 (fun c2=>bad (.inr c2)) (fun c2=>?_))
    clear bad
    obtain⟨A,R,rfl,hA⟩:=cutI (a:=a) (w:=ws) (by lia) (by lia)
    rw[b2k (by lia) hA]
    rw[hK1]
    refine a0c fun K2 hK2=>?_
    walk_at "rd"
    refine⟨rfl,rfl,Nat.zero_le _,?_⟩
    rw[if_neg (by decide +kernel),hK2]
    refine a0c fun K3 hK3=>?_
    walk_at "rd"
    refine⟨rfl,rfl,Nat.zero_le _,?_⟩
    rw[if_neg (by decide +kernel),hK3]
    refine a5u fun K4 hK4=>?_
    walk_at "rd"
    rw[b1k (by decide) (by lia) hA]
    rw[List.length_append] at hl c2
    rw[a6b] at h
    have bad:R.length < 2→rt3 M Q .non M:=fun z=>by
     rw[b2q (by rw[List.length_append];lia)] at h
     exact a0f h
    cases R with
    | nil=>rw[if_pos (by simp)];exact bad (by simp)
    | cons p R =>
    cases R with
    | nil=>rw[if_pos (by simp)];exact bad (by simp)
    | cons q R =>
    clear bad
    have lp:=hw p (by simp)
    have lq:=hw q (by simp)
    rw[if_neg (by simp),hK4,show List.map T.int (List.take (Int.toNat 2) (p :: q :: R))=[T.int p,T.int q] from rfl]
    walk_at "rd"
    refine⟨rfl,rfl,Nat.zero_le _,?_⟩
    rw[if_neg (by decide +kernel)]
    rw[b0l (by lia) hA] at h
    rw[List.length_cons,List.length_cons] at hl
    refine ite2 (fun c3=>?_) (fun c3=>?_)
    ·rw[decide_eq_false (by lia)] at h
     exact a0f h
    ·rw[decide_eq_true (by lia),if_pos rfl] at h
     rw[a7b (by decide) (by lia) hA,show List.drop (Int.toNat 2) (p :: q :: R)=R from rfl]
     unfold outL at h
     rw[a6O (by lia) hA] at h
     refine⟨a0A (by rw[List.length_map];lia),a0f ?_⟩
     unfold optT at h
     simpa using h
  | far a =>
    show a1e _ _ _ [some (.int n),some (.tup (ws.map .int)),some (.tup [.str "far",.int a]),none,none,none,none] M
    refine a5t fun K1 hK1=>?_
    walk_at "rd"
    refine ite2 (fun c1=>bad (.inl c1)) (fun c1=>ite2 (fun c2=>bad (.inr c2)) (fun c2=>?_))
    clear bad
    obtain⟨A,R,rfl,hA⟩:=cutI (a:=a) (w:=ws) (by lia) (by lia)
    rw[b2k (by lia) hA]
    rw[hK1]
    refine a0c fun K2 hK2=>?_
    walk_at "rd"
    refine⟨rfl,rfl,Nat.zero_le _,?_⟩
    rw[if_neg (by decide +kernel),hK2]
    refine a0c fun K3 hK3=>?_
    walk_at "rd"
    refine⟨rfl,rfl,Nat.zero_le _,?_⟩
    rw[if_neg (by decide +kernel),hK3]
    refine a5u fun K4 hK4=>?_
    walk_at "rd"
    rw[b1k (by decide) (by lia) hA]
    rw[List.length_append] at hl c2
    rw[a6c] at h
    have bad:R.length < 2→rt3 M Q .non M:=fun z=>by
     rw[b2r (by rw[List.length_append];lia)] at h
     exact a0f h
    cases R with
    | nil=>rw[if_pos (by simp)];exact bad (by simp)
    | cons p R =>
    cases R with
    | nil=>rw[if_pos (by simp)];exact bad (by simp)
    | cons q R =>
    clear bad
    have lp:=hw p (by simp)
    have lq:=hw q (by simp)
    rw[if_neg (by simp),hK4,show List.map T.int (List.take (Int.toNat 2) (p :: q :: R))=[T.int p,T.int q] from rfl]
    refine a0c fun K5 hK5=>?_
    walk_at "rd"
    refine⟨rfl,rfl,Nat.zero_le _,?_⟩
    rw[if_pos (a0I _ rfl)]
    rw[b0m (by lia) hA] at h
    rw[List.length_cons,List.length_cons] at hl
    refine ite2 (fun c3=>?_) (fun c3=>?_)
    ·rw[decide_eq_false (by lia)] at h
     exact a0f h
    ·rw[decide_eq_true (by lia),if_pos rfl,a4u hA] at h
     rw[a7b (by decide) (by lia) hA,show List.drop (Int.toNat 2) (p :: q :: R)=R from rfl]
     refine⟨by decide,a0A (by lia),a0A (by rw[List.length_map];lia),a0f ?_⟩
     unfold optT at h
     simpa using h
 ·exact h.elim
noncomputable def a3E:Sp3:=fun ts M Q=>match ts with
 | [.int n,.tup w]=>∃ ws:List Int,w=ws.map .int∧ws.length≤1000∧WordOK n ws∧n≤6∧∀ p,M p=none→Q (.adr p) (updM M p (.lst ((chL ws).map stT)))
 | _=>False
theorem b0X {P w K base f fd} {mg:Str→Option Value} {n:Nat}  (F:Fun K "_law_can" "_law_can" a3s f fd) (hm:mg "_law_can"=some (.ref f)) (hb:a0G K fd ["strands","word"] []) (Z:Zs K mg) (D__law_after:Df P w K mg base n "_law_after" ["strands","word","step"] a1r):Df P w K mg base (n+1) "_law_can" ["strands","word"] a3E:=by
 refine F.dfn hm hb a4X (by unfold a3E;walk_at "ln") ⟨_,fun cdv A outer s H E hr=>(@a0b _ _ _ _ _ (@a0C _ _ _ _ 2 _ _ (@a3q _ _ _ _ a0e) a4X.nd (by rfl) (by walk_at "2") (by rfl) (by walk_at "4")) (@a0b _ _ _ _ _ (@a6H _ _ _ _ _ _ _ _ PassesOwn.never rfl (@a5K _ _ _ _ (@a3q _ _ _ _ (@a0a _ _ _ _ _ a0P (@a0a _ _ _ _ _ a0P (@a0a _ _ _ _ _ a0P a0e (by rfl)) (by rfl)) (by rfl)))) (@a1j _ _ 3 _ a4X.nd (by rfl) (by walk_at "2") (by walk_at "4")) (@a0g _ _ _ (@a4c _ _ _ _ (@b3j _ _ _ _ _ _ _ _ (@hv _ 2 _ _ (by rfl) (by walk_at "3") (by decide) (by decide)) (@a0a _ _ _ _ _ (@a6j _ _ _ _ _ _ _ _ _ _ _ _ _ _ rfl (@a6w _ _ _ _ _ _ Z.b_range (@a0a _ _ _ _ _ (@a0l _ _ _ _ _ _ _ _ _ a0p Z.b_len PySem.boot_len (@a0a _ _ _ _ _ (@hv _ 1 _ _ (by rfl) (by walk_at "3") (by decide) (by decide)) a0e (by rfl)) (by rfl) (by decide) (by decide) (by rfl) (by rfl)) a0e (by rfl)) (by rfl) (by rfl)) (@a1z _ (a0h a3s) _ (["strands","word","found","kind"]) (["at","kind","strands","word"]) ([none,some 3,some 0,some 1]) (by decide +kernel) rfl rfl) a5j (fun _ _ _ _ _=>@a1T _ _ 0 _ (show List.Nodup (["at","kind","strands","word"]:List Str) by decide +kernel) rfl (Or.inl rfl) (Or.inr rfl)) (fun _ _ _ _ _=>b1w (@a0n _ _ _ _ _ _ _ _ a9r (@a0j _ _ _ _ _ _ _ _ _ _ D__law_after hr (@a0a _ _ _ _ _ (@hv _ 2 _ _ (by rfl) (by walk_at "3") (by decide) (by decide)) (@a0a _ _ _ _ _ (@hv _ 3 _ _ (by rfl) (by walk_at "3") (by decide) (by decide)) (@a2a _ _ _ _ _ _ _ (@a0R _ _ _ _ _ (@a0a _ _ _ _ _ (@hv _ 1 _ _ (by rfl) (by walk_at "3") (by decide) (by decide)) (@a0a _ _ _ _ _ (@hv _ 0 _ _ (by rfl) (by walk_at "3") (by decide) (by decide)) a0e (by rfl)) (by rfl))) a0e) (by rfl)) (by rfl)) (by rfl) (by decide) (by rfl) (by rfl)) a5X (@a0k _ _ (by decide) (by decide)))) (fun _ _ _ _ _=>(@a0R _ _ _ _ _ (@a0a _ _ _ _ _ (@hv _ 1 _ _ (by rfl) (by walk_at "3") (by decide) (by decide)) (@a0a _ _ _ _ _ (@hv _ 0 _ _ (by rfl) (by walk_at "3") (by decide) (by decide)) a0e (by rfl)) (by rfl)))) (by intro _;rfl)) a0e (by rfl)) (by rfl) (by rfl) (by rfl) (by rfl) (by rfl)) (by rfl))) (by intro _;rfl)) (@a0g _ _ _ (@a0r _ _ _ _ (@hv _ 2 _ _ (by rfl) (by walk_at "3") (by decide) (by decide)))))),fun ts M Q h=>?_⟩
 unfold a3E at h
 split at h
 ·rename_i n w
  obtain⟨ws,rfl,hl,hw,hn6,h⟩:=h
  refine a0c fun K1 hK1=>?_
  walk_at "rd"
  intro p hp
  rw[hK1]
  refine a0c fun K2 hK2=>?_
  refine a2N fun B hB=>?_
  walk_at "rd"
  refine⟨by decide,fun p2 hp2=>?_⟩
  have n2:p≠p2:=fun z=>by rw[← z,a0i] at hp2;cases hp2
  simp only[a0i]
  refine⟨fun i ρ M'=>∃ a,ρ=[some (T.int n),some (T.tup (List.map T.int ws)),some (T.adr p),a]∧Sub M M'∧M' p=some (.lst ((chP ws i).map stT))∧M' p2=some (.lst [.str "far",.str "three",.str "out"]),⟨none,rfl,(Sub.new hp).newr hp2,by rw[a0s n2,a0i];rfl,a0i⟩,fun i ρ M' z=>?_,?_,?_⟩
  ·obtain⟨a,e,hS,h1,h2⟩:=z
   exact h2
  ·rintro i x ρ M' hx ⟨a,rfl,hS,hM',hM2⟩
   have hk:∃ (z:Str) (c:Int→Bool) (f:Int→Stp),x=.str z∧(a9N ws)[i]?=some (z,c,f):=by
    have hi3:i < 3:=by have:=(List.getElem?_eq_some_iff.mp hx).1;simpa using this
    rcases (show i=0∨i=1∨i=2 by lia) with rfl | rfl | rfl
    ·exact⟨_,a0Z ws,.far,by simpa using hx.symm,rfl⟩
    ·exact⟨_,a0z ws,.three,by simpa using hx.symm,rfl⟩
    ·exact⟨_,a1f ws,.out,by simpa using hx.symm,rfl⟩
   obtain⟨z,c,f,rfl,hkd⟩:=hk
   obtain⟨hi3,hch,hst,haf⟩:=b4F ws n hkd
   have hcl:=b5m ws i
   rw[hB]
   walk_at "rd"
   rw[hM']
   refine⟨trivial,by lia,by lia,fun j ys M2=>Sub M' M2∧ys=(chK c f j).map stT,⟨Sub.refl,rfl⟩,fun _ _ _ _=>trivial,by rw[a1u];exact a0V (by lia),?_,?_⟩
   ·rintro j x1 ys M2 hx1 ⟨hS2,rfl⟩
    obtain⟨hj,rfl⟩:=a3Q hx1
    refine⟨by decide,ws,f j,rfl,?_⟩
    have hst':(f (j:Nat)).t=[T.str z,T.int (j:Nat)]:=by have:=hst (j:Nat);unfold stT at this;exact T.tup.inj this
    refine⟨hst'.symm,hl,hn6,hw,?_⟩
    have hc:=haf (j:Nat)
    dsimp only
    rw[b6G]
    cases ha:aft n ws (f (j:Nat)) with
    | none =>
      rw[ha] at hc
      rw[if_neg (by simp [optT]),if_neg (by rw[← hc];decide),List.append_nil]
      exact⟨hS2,rfl⟩
    | some r =>
      rw[ha] at hc
      rw[if_pos (by simp [optT]),if_pos (by rw[← hc];rfl),List.map_append,List.map_singleton,hst]
      exact⟨by decide,hS2,rfl⟩
   ·rintro ys M2 ⟨hS2,rfl⟩ p1 hp1
    have n1:p≠p1:=fun z=>by rw[← z,hS2 _ _ hM'] at hp1;cases hp1
    have n3:p2≠p1:=fun z=>by rw[← z,hS2 _ _ hM2] at hp1;cases hp1
    rw[a1u,show ((ws.length:Nat):Int).toNat=ws.length by lia]
    have hcl2:=a8R c f ws.length
    rw[a0s n1,hS2 _ _ hM']
    refine⟨Nat.le_trans (by simp only[List.length_map];lia:_≤20000) (by rw[sizeLine_eq];decide),_,rfl,((hS.trans hS2).newr hp1).updF hp,?_,?_⟩
    ·rw[hch,List.map_append]
    ·rw[a0s n2.symm,a0s n3];exact hS2 _ _ hM2
  ·rintro ρ M' ⟨a,rfl,hS,hM',hM2⟩
   rw[hK2]
   walk_at "rd"
   refine a0x (h p hp) fun q v hq=>?_
   by_cases e:q=p
   ·subst e;rw[a0i] at hq;cases hq;exact hM'
   ·rw[a0s e] at hq;exact hS _ _ hq
 ·exact h.elim
noncomputable def a1B:Sp3:=fun ts M Q=>match ts with
 | [.adr p,.int n,.tup w,.int m]=>∃ (ws:List Int) (s f:Int),M p=some (.lst [.int s,.int f])∧w=ws.map .int∧1≤n∧n≤6∧ws.length≤100∧WordOK n ws∧(∀ s' f',Q .non (updM M p (.lst [.int s',.int f'])))∧∀ (st:Stp) (r:List Int) s' f',aft n ws st=some r→((r.length:Int)≤ws.length∨(r.length:Int)≤m)→Q (.tup st.t) (updM M p (.lst [.int s',.int f']))
 | _=>False
theorem a6m {P w K base f fd} {mg:Str→Option Value} {n:Nat}  (F:Fun K "_law_any_step" "_law_any_step" a1P f fd) (hm:mg "_law_any_step"=some (.ref f)) (hb:a0G K fd ["state","strands","word","longest"] []) (Z:Zs K mg) (D__law_can:Df P w K mg base n "_law_can" ["strands","word"] a3E) (D__law_take:Df P w K mg base n "_law_take" ["state","many"] a0U) (D__law_letter:Df P w K mg base n "_law_letter" ["state","strands"] a1k):Df P w K mg base (n+1) "_law_any_step" ["state","strands","word","longest"] a1B:=by
 refine F.dfn hm hb a4b (by unfold a1B;walk_at "ln") ⟨_,fun cdv A outer s H E hr=>(@a0b _ _ _ _ _ (@a0C _ _ _ _ 4 _ _ (@a0j _ _ _ _ _ _ _ _ _ _ D__law_can hr (@a0a _ _ _ _ _ (@hv _ 1 _ _ (by rfl) (by walk_at "3") (by decide) (by decide)) (@a0a _ _ _ _ _ (@hv _ 2 _ _ (by rfl) (by walk_at "3") (by decide) (by decide)) a0e (by rfl)) (by rfl)) (by rfl) (by decide) (by rfl) (by rfl)) a4b.nd (by rfl) (by walk_at "2") (by rfl) (by walk_at "4")) (@a0b _ _ _ _ _ (@s_if _ _ _ _ _ _ _ _ (@HW.ht _ _ _ (@a7U _ _ _ _ _ _ _ (@a0n _ _ _ _ _ _ _ _ a3w (@hv _ 1 _ _ (by rfl) (by walk_at "3") (by decide) (by decide)) a0d (@a0k _ _ (by decide) (by decide))) (@a7U _ _ _ _ _ _ _ (@a0n _ _ _ _ _ _ _ _ a4S (@a0m _ _ _ _ _ _ _ _ a0o (@a0l _ _ _ _ _ _ _ _ _ a0p Z.b_len PySem.boot_len (@a0a _ _ _ _ _ (@hv _ 2 _ _ (by rfl) (by walk_at "3") (by decide) (by decide)) a0e (by rfl)) (by rfl) (by decide) (by decide) (by rfl) (by rfl)) a0d) (@hv _ 3 _ _ (by rfl) (by walk_at "3") (by decide) (by decide)) (@a0k _ _ (by decide) (by decide))) (@a6d _ _ _ _ (@HW.ht _ _ _ (@w_or _ _ _ _ _ _ _ (@a0n _ _ _ _ _ _ _ _ (@a0y _ hr.units) (@hv _ 4 _ _ (by rfl) (by walk_at "3") (by decide) (by decide)) (@a3q _ _ _ _ a0e) (@a0k _ _ (by decide) (by decide))) (@a6y _ _ _ _ (@a0n _ _ _ _ _ _ _ _ (@a0y _ hr.units) (@a0j _ _ _ _ _ _ _ _ _ _ D__law_take hr (@a0a _ _ _ _ _ (@hv _ 0 _ _ (by rfl) (by walk_at "3") (by decide) (by decide)) (@a0a _ _ _ _ _ a0d a0e (by rfl)) (by rfl)) (by rfl) (by decide) (by rfl) (by rfl)) a0d (@a0k _ _ (by decide) (by decide)))))))))) (@a0g _ _ _ (@a0r _ _ _ _ (@a0R _ _ _ _ _ (@a0a _ _ _ _ _ a0P (@a0a _ _ _ _ _ (@a0j _ _ _ _ _ _ _ _ _ _ D__law_take hr (@a0a _ _ _ _ _ (@hv _ 0 _ _ (by rfl) (by walk_at "3") (by decide) (by decide)) (@a0a _ _ _ _ _ (@a0m _ _ _ _ _ _ _ _ a0o (@a0l _ _ _ _ _ _ _ _ _ a0p Z.b_len PySem.boot_len (@a0a _ _ _ _ _ (@hv _ 2 _ _ (by rfl) (by walk_at "3") (by decide) (by decide)) a0e (by rfl)) (by rfl) (by decide) (by decide) (by rfl) (by rfl)) a0d) a0e (by rfl)) (by rfl)) (by rfl) (by decide) (by rfl) (by rfl)) (@a0a _ _ _ _ _ (@a0j _ _ _ _ _ _ _ _ _ _ D__law_letter hr (@a0a _ _ _ _ _ (@hv _ 0 _ _ (by rfl) (by walk_at "3") (by decide) (by decide)) (@a0a _ _ _ _ _ (@hv _ 1 _ _ (by rfl) (by walk_at "3") (by decide) (by decide)) a0e (by rfl)) (by rfl)) (by rfl) (by decide) (by rfl) (by rfl)) a0e (by rfl)) (by rfl)) (by rfl))))) a0q) (@a0b _ _ _ _ _ (@s_if _ _ _ _ _ _ _ _ (@a0n _ _ _ _ _ _ _ _ (@a0y _ hr.units) (@hv _ 4 _ _ (by rfl) (by walk_at "3") (by decide) (by decide)) (@a3q _ _ _ _ a0e) (@a0k _ _ (by decide) (by decide))) (@a0g _ _ _ (@a0r _ _ _ _ a5X)) a0q) (@a0g _ _ _ (@a0r _ _ _ _ (@h_ix _ _ _ _ _ _ (@hv _ 4 _ _ (by rfl) (by walk_at "3") (by decide) (by decide)) (@a0j _ _ _ _ _ _ _ _ _ _ D__law_take hr (@a0a _ _ _ _ _ (@hv _ 0 _ _ (by rfl) (by walk_at "3") (by decide) (by decide)) (@a0a _ _ _ _ _ (@a0l _ _ _ _ _ _ _ _ _ a0p Z.b_len PySem.boot_len (@a0a _ _ _ _ _ (@hv _ 4 _ _ (by rfl) (by walk_at "3") (by decide) (by decide)) a0e (by rfl)) (by rfl) (by decide) (by decide) (by rfl) (by rfl)) a0e (by rfl)) (by rfl)) (by rfl) (by decide) (by rfl) (by rfl)) (by intro _ _;rfl))))))),fun ts M Q h=>?_⟩
 unfold a1B at h
 split at h
 ·rename_i p n w m
  obtain⟨ws,s,f,hM,rfl,h1,h6,hl,hw,h0,h⟩:=h
  refine a0c fun K1 hK1=>?_
  walk_at "rd"
  refine⟨ws,rfl,by lia,hw,h6,fun q hq=>?_⟩
  rw[hK1]
  refine a0c fun K2 hK2=>?_
  walk_at "rd"
  have n2:p≠q:=fun z=>by rw[← z,hM] at hq;cases hq
  have hin:∀ M2 s2 f2,2≤n→(ws.length:Int)+2≤m→Sub (updM M p (.lst [.int s2,.int f2])) M2→a0U [T.adr p,T.int ((ws.length:Int)+1)] M2 fun x M1=>a1k [T.adr p,T.int n] M1 fun x_1 M1=>0+1+1+1≤sizeLine∧rt3 M Q (T.tup [T.str "in",x,x_1]) M1:=by
   intro M2 s2 f2 c1 c2 hS
   refine⟨s2,f2,hS _ _ a0i,by lia,by lia,fun c s3 f3 c30 c31=>⟨s3,f3,a0i,by lia,by lia,fun l s4 f4 hlt=>⟨by decide,?_⟩⟩⟩
   have hi:inB n ws c l=true:=by
    unfold inB
    rw[decide_eq_true (by lia),a2g.mpr hlt];rfl
   refine a0x (h (.inn c l) (inL ws c l) s4 f4 (by rw[a8W,hi,if_pos rfl]) (.inr (by rw[b3i hi];lia))) ?_
   rw[a5m]
   exact hS.set
  have hk:∀ M2 s2 f2,M2 q=some (.lst ((chL ws).map stT))→Sub (updM M p (.lst [.int s2,.int f2])) M2→K2 [some (.adr p),some (.int n),some (.tup (ws.map .int)),some (.int m),some (.adr q)] M2:=by
   intro M2 s2 f2 hq2 hS
   rw[hK2]
   clear hK2 hK1
   walk_at "rd"
   intro p1 hp1
   have n1:q≠p1:=fun z=>by rw[← z,hq2] at hp1;cases hp1
   simp only[a0s n1,hq2,a0i]
   have hS1:=hS.newr hp1 (o:=MO.lst [])
   have hq3:updM M2 p1 (MO.lst []) q=some (.lst ((chL ws).map stT)):=by rw[a0s n1,hq2]
   generalize updM M2 p1 (MO.lst [])=M3 at hS1 hq3⊢
   refine⟨a8d _,rfl,b0G _,?_⟩
   rw[b3I]
   refine ite2 (fun c=>a0x (h0 s2 f2) hS1) (fun c=>?_)
   have hne:0 < (chL ws).length:=by
    cases e:chL ws with
    | nil=>rw[e] at c;exact absurd rfl c
    | cons _ _=>exact Nat.succ_pos _
   have hb:=b5m ws 3
   have hb2:(chL ws).length≤300:=by unfold chL;lia
   refine⟨s2,f2,hS1 _ _ a0i,by rw[List.length_map];lia,by rw[List.length_map];lia,fun y s3 f3 y0 y1=>?_⟩
   rw[List.length_map] at y1
   obtain⟨st,hst,e⟩:=b9K y0 y1
   simp only[a0s n2.symm,hq3,e]
   have hsm:=b6E (n:=n) hst
   cases ha:aft n ws st with
   | none=>rw[ha] at hsm;cases hsm
   | some r =>
   refine a0x (h st r s3 f3 ha (.inl ?_)) hS1.set
   have:=b5n hst ha
   lia
  have hR:Sub (updM M p (.lst [.int s,.int f])) (updM M q (MO.lst (List.map stT (chL ws)))):=by rw[a6A hM];exact Sub.new hq
  have hq2:updM M q (MO.lst (List.map stT (chL ws))) q=some (MO.lst (List.map stT (chL ws))):=a0i
  generalize updM M q (MO.lst (List.map stT (chL ws)))=M1 at hR hq2⊢
  refine ite2 (fun c1=>ite2 (fun c2 p1 hp1=>?_) (fun c2=>hk _ s f hq2 hR)) (fun c1=>hk _ s f hq2 hR)
  have n1:q≠p1:=fun z=>by rw[← z,hq2] at hp1;cases hp1
  rw[a0s n1,hq2]
  refine⟨a8d _,rfl,b0G _,?_⟩
  rw[b3I]
  have hS1:=hR.newr hp1 (o:=MO.lst [])
  have hq3:updM M1 p1 (MO.lst []) q=some (.lst ((chL ws).map stT)):=by rw[a0s n1,hq2]
  generalize updM M1 p1 (MO.lst [])=M3 at hS1 hq3⊢
  refine ite2 (fun c=>hin _ s f (by lia) c2 hS1) (fun c=>?_)
  refine⟨s,f,hS1 _ _ a0i,by decide,by decide,fun x s2 f2 x0 x1=>⟨rfl,Nat.zero_le _,?_⟩⟩
  have hS2:=hS1.set (u:=MO.lst [.int s2,.int f2])
  refine ite2 (fun c=>hin _ s2 f2 (by lia) c2 hS2) (fun c=>hk _ s2 f2 (by rw[a0s n2.symm,hq3]) hS2)
 ·exact h.elim
noncomputable def a2u:Sp3:=fun ts M Q=>match ts with
 | [.tup [.int n,.tup w],.tup mt]=>∃ (ws:List Int) (m:Mv),w=ws.map .int∧mt=m.t∧PlOK n ws∧a2f n ws m=.ok∧Q (ptT (mvTo n ws m)) M
 | _=>False
theorem a8D {P w K base f fd} {mg:Str→Option Value} {n:Nat}  (F:Fun K "_law_moved" "_law_moved" a2e f fd) (hm:mg "_law_moved"=some (.ref f)) (hb:a0G K fd ["plait","move"] []) (Z:Zs K mg) (D__law_sign:Df P w K mg base n "_law_sign" ["letter"] a0O) (D__law_after:Df P w K mg base n "_law_after" ["strands","word","step"] a1r):Df P w K mg base (n+1) "_law_moved" ["plait","move"] a2u:=by
 refine F.dfn hm hb a3G (by unfold a2u;walk_at "ln") ⟨_,fun cdv A outer s H E hr=>(@a0b _ _ _ _ _ (@a6k _ _ _ _ _ _ (@hv _ 0 _ _ (by rfl) (by walk_at "3") (by decide) (by decide)) (@a8M _ _ _ _ _ 2 rfl (@a1i _ _ _ _ _ (@a1j _ _ 2 _ a3G.nd (by rfl) (by walk_at "2") (by walk_at "4")) (@a1i _ _ _ _ _ (@a1j _ _ 3 _ a3G.nd (by rfl) (by walk_at "2") (by walk_at "4")) a5M (by rfl)) (by rfl)) (by rfl) (by rfl)) (by rfl) (by rfl) (by rfl)) (@a0b _ _ _ _ _ (@s_if _ _ _ _ _ _ _ _ (@a0n _ _ _ _ _ _ _ _ (@a0y _ hr.units) (@h_ix _ _ _ _ _ _ (@hv _ 1 _ _ (by rfl) (by walk_at "3") (by decide) (by decide)) a0d (by intro _ _;rfl)) a0P (@a0k _ _ (by decide) (by decide))) (@a0g _ _ _ (@a0r _ _ _ _ (@a0R _ _ _ _ _ (@a0a _ _ _ _ _ (@a0m _ _ _ _ _ _ _ _ a0o (@hv _ 2 _ _ (by rfl) (by walk_at "3") (by decide) (by decide)) a0d) (@a0a _ _ _ _ _ (@a0m _ _ _ _ _ _ _ _ a0o (@hv _ 3 _ _ (by rfl) (by walk_at "3") (by decide) (by decide)) (@a0R _ _ _ _ _ (@a0a _ _ _ _ _ (@a0m _ _ _ _ _ _ _ _ a0Q (@h_ix _ _ _ _ _ _ (@hv _ 1 _ _ (by rfl) (by walk_at "3") (by decide) (by decide)) a0d (by intro _ _;rfl)) (@hv _ 2 _ _ (by rfl) (by walk_at "3") (by decide) (by decide))) a0e (by rfl)))) a0e (by rfl)) (by rfl))))) a0q) (@a0b _ _ _ _ _ (@s_if _ _ _ _ _ _ _ _ (@a0n _ _ _ _ _ _ _ _ (@a0y _ hr.units) (@h_ix _ _ _ _ _ _ (@hv _ 1 _ _ (by rfl) (by walk_at "3") (by decide) (by decide)) a0d (by intro _ _;rfl)) a0P (@a0k _ _ (by decide) (by decide))) (@a0g _ _ _ (@a0r _ _ _ _ (@a0R _ _ _ _ _ (@a0a _ _ _ _ _ (@a0m _ _ _ _ _ _ _ _ a0M (@hv _ 2 _ _ (by rfl) (by walk_at "3") (by decide) (by decide)) a0d) (@a0a _ _ _ _ _ (@a0N _ _ _ _ _ _ _ _ _ (@hv _ 3 _ _ (by rfl) (by walk_at "3") (by decide) (by decide)) a1p (@a1c _ _ _ (@h_un _ _ _ _ _ _ a0J a0d))) a0e (by rfl)) (by rfl))))) a0q) (@a0b _ _ _ _ _ (@s_if _ _ _ _ _ _ _ _ (@a0n _ _ _ _ _ _ _ _ (@a0y _ hr.units) (@h_ix _ _ _ _ _ _ (@hv _ 1 _ _ (by rfl) (by walk_at "3") (by decide) (by decide)) a0d (by intro _ _;rfl)) a0P (@a0k _ _ (by decide) (by decide))) (@a0g _ _ _ (@a0r _ _ _ _ (@a0R _ _ _ _ _ (@a0a _ _ _ _ _ (@hv _ 2 _ _ (by rfl) (by walk_at "3") (by decide) (by decide)) (@a0a _ _ _ _ _ (@a1F _ _ _ _ _ _ _ _ _ a1Z Z.b_tuple PyProof.Rows.boot_tuple (@a0a _ _ _ _ _ (@a6j _ _ _ _ _ _ _ _ _ _ _ _ _ _ rfl (@a5K _ _ _ _ (@hv _ 3 _ _ (by rfl) (by walk_at "3") (by decide) (by decide))) (@a1z _ (a0h a2e) _ (["plait","move","strands","word"]) (["letter","strands"]) ([none,some 2]) (by decide +kernel) rfl rfl) a5j (fun _ _ _ _ _=>@a1T _ _ 0 _ (show List.Nodup (["letter","strands"]:List Str) by decide +kernel) rfl (Or.inl rfl) (Or.inr rfl)) (fun _ _ _ _ _=>a7A) (fun _ _ _ _ _=>(@a0m _ _ _ _ _ _ _ _ a0Q (@a0j _ _ _ _ _ _ _ _ _ _ D__law_sign hr (@a0a _ _ _ _ _ (@hv _ 0 _ _ (by rfl) (by walk_at "3") (by decide) (by decide)) a0e (by rfl)) (by rfl) (by decide) (by rfl) (by rfl)) (@a0m _ _ _ _ _ _ _ _ a0M (@hv _ 1 _ _ (by rfl) (by walk_at "3") (by decide) (by decide)) (@a0l _ _ _ _ _ _ _ _ _ a0t Z.b_abs PyProof.Rows.boot_abs (@a0a _ _ _ _ _ (@hv _ 0 _ _ (by rfl) (by walk_at "3") (by decide) (by decide)) a0e (by rfl)) (by rfl) (by decide) (by decide) (by rfl) (by rfl))))) (by intro _;rfl)) a0e (by rfl)) (by rfl) (by decide) (by decide) (by rfl) (by rfl)) a0e (by rfl)) (by rfl))))) a0q) (@a0b _ _ _ _ _ (@s_if _ _ _ _ _ _ _ _ (@a0n _ _ _ _ _ _ _ _ (@a0y _ hr.units) (@h_ix _ _ _ _ _ _ (@hv _ 1 _ _ (by rfl) (by walk_at "3") (by decide) (by decide)) a0d (by intro _ _;rfl)) a0P (@a0k _ _ (by decide) (by decide))) (@a0g _ _ _ (@a0r _ _ _ _ (@a0R _ _ _ _ _ (@a0a _ _ _ _ _ (@hv _ 2 _ _ (by rfl) (by walk_at "3") (by decide) (by decide)) (@a0a _ _ _ _ _ (@a0m _ _ _ _ _ _ _ _ a0o (@a0N _ _ _ _ _ _ _ _ _ (@hv _ 3 _ _ (by rfl) (by walk_at "3") (by decide) (by decide)) (@a1c _ _ _ a0d) a1p) (@a0N _ _ _ _ _ _ _ _ _ (@hv _ 3 _ _ (by rfl) (by walk_at "3") (by decide) (by decide)) a1p (@a1c _ _ _ a0d))) a0e (by rfl)) (by rfl))))) a0q) (@a0b _ _ _ _ _ (@s_if _ _ _ _ _ _ _ _ (@a0n _ _ _ _ _ _ _ _ (@a0y _ hr.units) (@h_ix _ _ _ _ _ _ (@hv _ 1 _ _ (by rfl) (by walk_at "3") (by decide) (by decide)) a0d (by intro _ _;rfl)) a0P (@a0k _ _ (by decide) (by decide))) (@a0g _ _ _ (@a0r _ _ _ _ (@a0R _ _ _ _ _ (@a0a _ _ _ _ _ (@hv _ 2 _ _ (by rfl) (by walk_at "3") (by decide) (by decide)) (@a0a _ _ _ _ _ (@a0m _ _ _ _ _ _ _ _ a0o (@a0N _ _ _ _ _ _ _ _ _ (@hv _ 3 _ _ (by rfl) (by walk_at "3") (by decide) (by decide)) (@a1c _ _ _ (@h_un _ _ _ _ _ _ a0J a0d)) a1p) (@a0N _ _ _ _ _ _ _ _ _ (@hv _ 3 _ _ (by rfl) (by walk_at "3") (by decide) (by decide)) a1p (@a1c _ _ _ (@h_un _ _ _ _ _ _ a0J a0d)))) a0e (by rfl)) (by rfl))))) a0q) (@a0g _ _ _ (@a0r _ _ _ _ (@a0R _ _ _ _ _ (@a0a _ _ _ _ _ (@hv _ 2 _ _ (by rfl) (by walk_at "3") (by decide) (by decide)) (@a0a _ _ _ _ _ (@a0j _ _ _ _ _ _ _ _ _ _ D__law_after hr (@a0a _ _ _ _ _ (@hv _ 2 _ _ (by rfl) (by walk_at "3") (by decide) (by decide)) (@a0a _ _ _ _ _ (@hv _ 3 _ _ (by rfl) (by walk_at "3") (by decide) (by decide)) (@a0a _ _ _ _ _ (@h_ix _ _ _ _ _ _ (@hv _ 1 _ _ (by rfl) (by walk_at "3") (by decide) (by decide)) a0d (by intro _ _;rfl)) a0e (by rfl)) (by rfl)) (by rfl)) (by rfl) (by decide) (by rfl) (by rfl)) a0e (by rfl)) (by rfl))))))))))),fun ts M Q h=>?_⟩
 unfold a2u at h
 split at h
 ·rename_i n w mt
  obtain⟨ws,m,rfl,rfl,ok,hw,h⟩:=h
  obtain⟨h1,h6,hl,ho⟩:=ok
  refine a0c fun K1 hK1=>?_
  walk_at "rd"
  rw[hK1]
  clear hK1
  cases m with
  | more k =>
    show a1e _ _ _ [some (.tup [.int n,.tup (ws.map .int)]),some (.tup [.str "more",.int k]),some (.int n),some (.tup (ws.map .int))] M
    refine a0c fun K2 hK2=>?_
    walk_at "rd"
    refine⟨rfl,rfl,by decide,?_⟩
    rw[if_pos (a0I _ rfl)]
    rw[a2I] at hw
    have hk:k=1∨k=-1:=by
     split at hw
     ·cases hw
     ·split at hw
      ·assumption
      ·cases hw
    have e5:List.map T.int ws++[T.int (k*n)]=(ws++[k*n]).map T.int:=by rw[List.map_append];rfl
    rw[e5]
    exact⟨.inl ⟨by lia,by lia⟩,by decide,a0A (by lia),by decide,a0f h⟩
  | less =>
    show a1e _ _ _ [some (.tup [.int n,.tup (ws.map .int)]),some (.tup [.str "less"]),some (.int n),some (.tup (ws.map .int))] M
    refine a0c fun K2 hK2=>?_
    walk_at "rd"
    refine⟨rfl,rfl,by decide,?_⟩
    rw[if_neg (by decide +kernel),hK2]
    clear hK2
    refine a0c fun K3 hK3=>?_
    walk_at "rd"
    refine⟨rfl,rfl,by decide,?_⟩
    rw[if_pos (a0I _ rfl)]
    rw[a2J] at hw
    have hw2:a6S n ws=true:=by
     split at hw
     ·assumption
     ·cases hw
    obtain⟨A,y,rfl,_,_⟩:=a4o.mp hw2
    rw[a5I,List.dropLast_concat] at h
    rw[a4L]
    exact⟨by decide,a0f h⟩
  | flip =>
    show a1e _ _ _ [some (.tup [.int n,.tup (ws.map .int)]),some (.tup [.str "flip"]),some (.int n),some (.tup (ws.map .int))] M
    refine a0c fun K2 hK2=>?_
    walk_at "rd"
    refine⟨rfl,rfl,by decide,?_⟩
    rw[if_neg (by decide +kernel),hK2]
    clear hK2
    refine a0c fun K3 hK3=>?_
    walk_at "rd"
    refine⟨rfl,rfl,by decide,?_⟩
    rw[if_neg (by decide +kernel),hK3]
    clear hK3
    refine a0c fun K4 hK4=>?_
    walk_at "rd"
    refine⟨rfl,rfl,by decide,?_⟩
    rw[if_pos (a0I _ rfl)]
    refine⟨fun i ys M'=>ys=((ws.take i).map (a1V n)).map T.int∧M'=M,⟨rfl,rfl⟩,fun _ _ _ _=>trivial,a0V (by lia),?_,?_⟩
    ·rintro i x ys M' hx ⟨rfl,rfl⟩
     obtain⟨l,hl',rfl⟩:=a1q hx
     have lo:=ho l (List.mem_of_getElem? hl')
     unfold a0O
     dsimp only
     have e:=b8S n l lo
     rw[e]
     unfold LetOK at lo
     have s1:=b6U l
     refine⟨.inl ⟨by lia,by lia⟩,?_,rfl⟩
     rw[← a1L (a1V n) hl',List.map_append];rfl
    ·rintro ys M' ⟨rfl,rfl⟩ p hp
     rw[List.take_length]
     exact⟨by decide,a0x (M0:=M') h (Sub.new hp)⟩
  | round =>
    show a1e _ _ _ [some (.tup [.int n,.tup (ws.map .int)]),some (.tup [.str "round"]),some (.int n),some (.tup (ws.map .int))] M
    refine a0c fun K2 hK2=>?_
    walk_at "rd"
    refine⟨rfl,rfl,by decide,?_⟩
    rw[if_neg (by decide +kernel),hK2]
    clear hK2
    refine a0c fun K3 hK3=>?_
    walk_at "rd"
    refine⟨rfl,rfl,by decide,?_⟩
    rw[if_neg (by decide +kernel),hK3]
    clear hK3
    refine a0c fun K4 hK4=>?_
    walk_at "rd"
    refine⟨rfl,rfl,by decide,?_⟩
    rw[if_neg (by decide +kernel),hK4]
    clear hK4
    refine a0c fun K5 hK5=>?_
    walk_at "rd"
    refine⟨rfl,rfl,by decide,?_⟩
    rw[if_pos (a0I _ rfl)]
    rw[a4K _ _ (by decide),a1Y _ _ (by decide),← List.map_take,← List.map_drop,← List.map_append]
    show _∧_∧_
    exact⟨a0A (by rw[List.length_map,List.length_map,List.length_drop,List.length_take];lia),by decide,a0f h⟩
  | back =>
    show a1e _ _ _ [some (.tup [.int n,.tup (ws.map .int)]),some (.tup [.str "back"]),some (.int n),some (.tup (ws.map .int))] M
    refine a0c fun K2 hK2=>?_
    walk_at "rd"
    refine⟨rfl,rfl,by decide,?_⟩
    rw[if_neg (by decide +kernel),hK2]
    clear hK2
    refine a0c fun K3 hK3=>?_
    walk_at "rd"
    refine⟨rfl,rfl,by decide,?_⟩
    rw[if_neg (by decide +kernel),hK3]
    clear hK3
    refine a0c fun K4 hK4=>?_
    walk_at "rd"
    refine⟨rfl,rfl,by decide,?_⟩
    rw[if_neg (by decide +kernel),hK4]
    clear hK4
    refine a0c fun K5 hK5=>?_
    walk_at "rd"
    refine⟨rfl,rfl,by decide,?_⟩
    rw[if_neg (by decide +kernel),hK5]
    clear hK5
    refine a0c fun K6 hK6=>?_
    walk_at "rd"
    refine⟨rfl,rfl,by decide,?_⟩
    rw[if_pos (a0I _ rfl)]
    replace hw:(if ws.isEmpty=true then Why.step else Why.ok)=.ok:=hw
    obtain⟨A,y,rfl⟩:=a4W (w:=ws) (fun z=>by rw[z] at hw;cases hw)
    replace h:Q (ptT (n,a5b (A++[y])++(A++[y]).dropLast)) M:=h
    rw[a1K,List.dropLast_concat] at h
    rw[a7Q,a4L]
    rw[List.length_append,List.length_singleton] at hl
    show _∧_∧_
    exact⟨a0A (by rw[List.length_map,List.length_map,List.length_singleton];lia),by decide,by rw[← List.map_append];exact a0f h⟩
  | step s =>
    show a1e _ _ _ [some (.tup [.int n,.tup (ws.map .int)]),some (.tup [.str "step",.tup s.t]),some (.int n),some (.tup (ws.map .int))] M
    refine a0c fun K2 hK2=>?_
    walk_at "rd"
    refine⟨rfl,rfl,by decide,?_⟩
    rw[if_neg (by decide +kernel),hK2]
    clear hK2
    refine a0c fun K3 hK3=>?_
    walk_at "rd"
    refine⟨rfl,rfl,by decide,?_⟩
    rw[if_neg (by decide +kernel),hK3]
    clear hK3
    refine a0c fun K4 hK4=>?_
    walk_at "rd"
    refine⟨rfl,rfl,by decide,?_⟩
    rw[if_neg (by decide +kernel),hK4]
    clear hK4
    refine a0c fun K5 hK5=>?_
    walk_at "rd"
    refine⟨rfl,rfl,by decide,?_⟩
    rw[if_neg (by decide +kernel),hK5]
    clear hK5
    refine a0c fun K6 hK6=>?_
    walk_at "rd"
    refine⟨rfl,rfl,by decide,?_⟩
    rw[if_neg (by decide +kernel),hK6]
    clear hK6
    walk_at "rd"
    rw[a3x] at hw
    rw[a5H] at h
    cases e:aft n ws s with
    | none=>rw[e] at hw;cases hw
    | some r =>
      rw[e] at h
      refine⟨ws,s,rfl,rfl,by lia,h6,ho,?_⟩
      rw[e]
      exact⟨by decide,a0f h⟩
 ·exact h.elim
noncomputable def a1M:Sp3:=fun ts M Q=>match ts with
 | [.tup [.int n,.tup w],.tup mt]=>∃ (ws:List Int) (m:Mv),w=ws.map .int∧mt=m.t∧PlOK n ws∧Q (.str (a2f n ws m).s) M
 | _=>False
theorem a6P {P w K base f fd} {mg:Str→Option Value} {n:Nat}  (F:Fun K "_law_why_not" "_law_why_not" a1w f fd) (hm:mg "_law_why_not"=some (.ref f)) (hb:a0G K fd ["plait","move"] []) (Z:Zs K mg) (D__law_after:Df P w K mg base n "_law_after" ["strands","word","step"] a1r):Df P w K mg base (n+1) "_law_why_not" ["plait","move"] a1M:=by
 refine F.dfn hm hb a1n (by unfold a1M;walk_at "ln") ⟨_,fun cdv A outer s H E hr=>(@a0b _ _ _ _ _ (@a6k _ _ _ _ _ _ (@hv _ 0 _ _ (by rfl) (by walk_at "3") (by decide) (by decide)) (@a8M _ _ _ _ _ 2 rfl (@a1i _ _ _ _ _ (@a1j _ _ 2 _ a1n.nd (by rfl) (by walk_at "2") (by walk_at "4")) (@a1i _ _ _ _ _ (@a1j _ _ 3 _ a1n.nd (by rfl) (by walk_at "2") (by walk_at "4")) a5M (by rfl)) (by rfl)) (by rfl) (by rfl)) (by rfl) (by rfl) (by rfl)) (@a0b _ _ _ _ _ (@s_if _ _ _ _ _ _ _ _ (@a0n _ _ _ _ _ _ _ _ (@a0y _ hr.units) (@h_ix _ _ _ _ _ _ (@hv _ 1 _ _ (by rfl) (by walk_at "3") (by decide) (by decide)) a0d (by intro _ _;rfl)) a0P (@a0k _ _ (by decide) (by decide))) (@a0b _ _ _ _ _ (@s_if _ _ _ _ _ _ _ _ (@HW.ht _ _ _ (@w_or _ _ _ _ _ _ _ (@a0n _ _ _ _ _ _ _ _ (@a0y _ hr.units) (@hv _ 2 _ _ (by rfl) (by walk_at "3") (by decide) (by decide)) a0d (@a0k _ _ (by decide) (by decide))) (@a6y _ _ _ _ (@a0n _ _ _ _ _ _ _ _ (@a0y _ hr.units) (@a0l _ _ _ _ _ _ _ _ _ a0p Z.b_len PySem.boot_len (@a0a _ _ _ _ _ (@hv _ 3 _ _ (by rfl) (by walk_at "3") (by decide) (by decide)) a0e (by rfl)) (by rfl) (by decide) (by decide) (by rfl) (by rfl)) a0d (@a0k _ _ (by decide) (by decide)))))) (@a0g _ _ _ (@a0r _ _ _ _ a0P)) a0q) (@a0g _ _ _ (@a0r _ _ _ _ (@h_ix _ _ _ _ _ _ (@a3q _ _ _ _ (@a0a _ _ _ _ _ a0P (@a0a _ _ _ _ _ a0P a0e (by rfl)) (by rfl))) (@a1F _ _ _ _ _ _ _ _ _ a3A Z.b_int PyProof.Rows.boot_int (@a0a _ _ _ _ _ (@a4N _ _ _ _ _ _ _ _ b7b (@h_ix _ _ _ _ _ _ (@hv _ 1 _ _ (by rfl) (by walk_at "3") (by decide) (by decide)) a0d (by intro _ _;rfl)) (@a3q _ _ _ _ (@a0a _ _ _ _ _ a0d (@a0a _ _ _ _ _ (@h_un _ _ _ _ _ _ a0J a0d) a0e (by rfl)) (by rfl))) rfl) a0e (by rfl)) (by rfl) (by decide) (by decide) (by rfl) (by rfl)) (by intro _ _;rfl))))) a0q) (@a0b _ _ _ _ _ (@s_if _ _ _ _ _ _ _ _ (@a0n _ _ _ _ _ _ _ _ (@a0y _ hr.units) (@h_ix _ _ _ _ _ _ (@hv _ 1 _ _ (by rfl) (by walk_at "3") (by decide) (by decide)) a0d (by intro _ _;rfl)) a0P (@a0k _ _ (by decide) (by decide))) (@a0b _ _ _ _ _ (@b6V _ _ _ _ _ _ _ _ _ _ _ _ _ _ 4 _ _ _ rfl (@a5K _ _ _ _ (@hv _ 3 _ _ (by rfl) (by walk_at "3") (by decide) (by decide))) (@a1z _ (a0h a1w) _ (["plait","move","strands","word","last","there"]) (["letter","strands"]) ([none,some 2]) (by decide +kernel) rfl rfl) a5j (fun _ _ _ _ _=>@a1T _ _ 0 _ (show List.Nodup (["letter","strands"]:List Str) by decide +kernel) rfl (Or.inl rfl) (Or.inr rfl)) (fun _ _ _ _ _=>b1w (@a0n _ _ _ _ _ _ _ _ (@a0y _ hr.units) (@a0l _ _ _ _ _ _ _ _ _ a0t Z.b_abs PyProof.Rows.boot_abs (@a0a _ _ _ _ _ (@hv _ 0 _ _ (by rfl) (by walk_at "3") (by decide) (by decide)) a0e (by rfl)) (by rfl) (by decide) (by decide) (by rfl) (by rfl)) (@a0m _ _ _ _ _ _ _ _ a0M (@hv _ 1 _ _ (by rfl) (by walk_at "3") (by decide) (by decide)) a0d) (@a0k _ _ (by decide) (by decide)))) (fun _ _ _ _ _=>(@hv _ 0 _ _ (by rfl) (by walk_at "3") (by decide) (by decide))) a1n.nd (by rfl) (by walk_at "2") (by rfl) (by intro _;rfl) (by walk_at "4")) (@a0g _ _ _ (@a0r _ _ _ _ (@h_ix _ _ _ _ _ _ (@a3q _ _ _ _ (@a0a _ _ _ _ _ a0P (@a0a _ _ _ _ _ a0P a0e (by rfl)) (by rfl))) (@a1F _ _ _ _ _ _ _ _ _ a3A Z.b_int PyProof.Rows.boot_int (@a0a _ _ _ _ _ (@c0X _ _ _ _ _ _ _ (@a4N _ _ _ _ _ _ _ _ (@a0y _ hr.units) (@a0l _ _ _ _ _ _ _ _ _ a0p Z.b_len PySem.boot_len (@a0a _ _ _ _ _ (@hv _ 4 _ _ (by rfl) (by walk_at "3") (by decide) (by decide)) a0e (by rfl)) (by rfl) (by decide) (by decide) (by rfl) (by rfl)) a0d (@a0k _ _ (by decide) (by decide))) (@b6w _ _ _ _ _ (@a4N _ _ _ _ _ _ _ _ (@a0y _ hr.units) (@h_ix _ _ _ _ _ _ (@hv _ 4 _ _ (by rfl) (by walk_at "3") (by decide) (by decide)) a0d (by intro _ _;rfl)) (@h_ix _ _ _ _ _ _ (@hv _ 3 _ _ (by rfl) (by walk_at "3") (by decide) (by decide)) (@h_un _ _ _ _ _ _ a0J a0d) (by intro _ _;rfl)) (@a0k _ _ (by decide) (by decide))))) a0e (by rfl)) (by rfl) (by decide) (by decide) (by rfl) (by rfl)) (by intro _ _;rfl))))) a0q) (@a0b _ _ _ _ _ (@s_if _ _ _ _ _ _ _ _ (@a0n _ _ _ _ _ _ _ _ b7b (@h_ix _ _ _ _ _ _ (@hv _ 1 _ _ (by rfl) (by walk_at "3") (by decide) (by decide)) a0d (by intro _ _;rfl)) (@a3q _ _ _ _ (@a0a _ _ _ _ _ a0P (@a0a _ _ _ _ _ a0P a0e (by rfl)) (by rfl))) rfl) (@a0g _ _ _ (@a0r _ _ _ _ (@h_ix _ _ _ _ _ _ (@a3q _ _ _ _ (@a0a _ _ _ _ _ a0P (@a0a _ _ _ _ _ a0P a0e (by rfl)) (by rfl))) (@a1F _ _ _ _ _ _ _ _ _ a3A Z.b_int PyProof.Rows.boot_int (@a0a _ _ _ _ _ (@a4N _ _ _ _ _ _ _ _ a3w (@a0l _ _ _ _ _ _ _ _ _ a0p Z.b_len PySem.boot_len (@a0a _ _ _ _ _ (@hv _ 3 _ _ (by rfl) (by walk_at "3") (by decide) (by decide)) a0e (by rfl)) (by rfl) (by decide) (by decide) (by rfl) (by rfl)) a0d (@a0k _ _ (by decide) (by decide))) a0e (by rfl)) (by rfl) (by decide) (by decide) (by rfl) (by rfl)) (by intro _ _;rfl)))) a0q) (@a0b _ _ _ _ _ (@s_if _ _ _ _ _ _ _ _ (@a0n _ _ _ _ _ _ _ _ (@a0y _ hr.units) (@h_ix _ _ _ _ _ _ (@hv _ 1 _ _ (by rfl) (by walk_at "3") (by decide) (by decide)) a0d (by intro _ _;rfl)) a0P (@a0k _ _ (by decide) (by decide))) (@a0g _ _ _ (@a0r _ _ _ _ a0P)) a0q) (@a0b _ _ _ _ _ (@a0C _ _ _ _ 5 _ _ (@a0j _ _ _ _ _ _ _ _ _ _ D__law_after hr (@a0a _ _ _ _ _ (@hv _ 2 _ _ (by rfl) (by walk_at "3") (by decide) (by decide)) (@a0a _ _ _ _ _ (@hv _ 3 _ _ (by rfl) (by walk_at "3") (by decide) (by decide)) (@a0a _ _ _ _ _ (@h_ix _ _ _ _ _ _ (@hv _ 1 _ _ (by rfl) (by walk_at "3") (by decide) (by decide)) a0d (by intro _ _;rfl)) a0e (by rfl)) (by rfl)) (by rfl)) (by rfl) (by decide) (by rfl) (by rfl)) a1n.nd (by rfl) (by walk_at "2") (by rfl) (by walk_at "4")) (@a0b _ _ _ _ _ (@s_if _ _ _ _ _ _ _ _ (@a0n _ _ _ _ _ _ _ _ b7a (@hv _ 5 _ _ (by rfl) (by walk_at "3") (by decide) (by decide)) a5X (@a0k _ _ (by decide) (by decide))) (@a0g _ _ _ (@a0r _ _ _ _ a0P)) a0q) (@a0g _ _ _ (@a0r _ _ _ _ (@h_ix _ _ _ _ _ _ (@a3q _ _ _ _ (@a0a _ _ _ _ _ a0P (@a0a _ _ _ _ _ a0P a0e (by rfl)) (by rfl))) (@a1F _ _ _ _ _ _ _ _ _ a3A Z.b_int PyProof.Rows.boot_int (@a0a _ _ _ _ _ (@a4N _ _ _ _ _ _ _ _ a3w (@a0l _ _ _ _ _ _ _ _ _ a0p Z.b_len PySem.boot_len (@a0a _ _ _ _ _ (@hv _ 5 _ _ (by rfl) (by walk_at "3") (by decide) (by decide)) a0e (by rfl)) (by rfl) (by decide) (by decide) (by rfl) (by rfl)) a0d (@a0k _ _ (by decide) (by decide))) a0e (by rfl)) (by rfl) (by decide) (by decide) (by rfl) (by rfl)) (by intro _ _;rfl))))))))))),fun ts M Q h=>?_⟩
 unfold a1M at h
 split at h
 ·rename_i n w mt
  obtain⟨ws,m,rfl,rfl,ok,h⟩:=h
  obtain⟨h1,h6,hl,ho⟩:=ok
  refine a0c fun K1 hK1=>?_
  walk_at "rd"
  rw[hK1]
  clear hK1
  cases m with
  | more k =>
    show a1e _ _ _ [some (.tup [.int n,.tup (ws.map .int)]),some (.tup [.str "more",.int k]),some (.int n),some (.tup (ws.map .int)),none,none] M
    refine a0c fun K2 hK2=>?_
    walk_at "rd"
    refine⟨rfl,rfl,by decide,?_⟩
    rw[if_pos (a0I _ rfl)]
    rw[a2I] at h
    refine ite2 (fun c=>?_) (fun c=>ite2 (fun c2=>?_) (fun c2=>?_))
    ·rw[if_pos (.inl c)] at h;exact a0f h
    ·rw[if_pos (.inr (by lia))] at h;exact a0f h
    ·rw[if_neg (by lia)] at h
     refine⟨by decide,fun p hp=>⟨by decide,fun p1 hp1=>⟨rfl,rfl,?_⟩⟩⟩
     have n1:p≠p1:=fun z=>by rw[← z,a0i] at hp1;cases hp1
     have hS:Sub M (updM (updM M p (MO.lst [T.str "step",T.str ""])) p1 (MO.lst [T.int 1,T.int (-1)])):=(Sub.new hp).newr hp1
     have e:inT (T.int k) [T.int 1,T.int (-1)]=decide (k=1∨k=-1):=by
      unfold inT
      rw[List.any_cons,List.any_cons,List.any_nil,Bool.or_false,a3V,a3V,Bool.eq_iff_iff,Bool.or_eq_true,decide_eq_true_eq,decide_eq_true_eq,decide_eq_true_eq]
      constructor<;>(rintro (rfl | rfl)<;>simp)
     rw[a0s n1,a0i,e]
     by_cases c4:k=1∨k=-1
     ·rw[if_pos c4] at h
      rw[decide_eq_true c4]
      exact a0x h hS
     ·rw[if_neg c4] at h
      rw[decide_eq_false c4]
      exact a0x h hS
  | less =>
    show a1e _ _ _ [some (.tup [.int n,.tup (ws.map .int)]),some (.tup [.str "less"]),some (.int n),some (.tup (ws.map .int)),none,none] M
    refine a0c fun K2 hK2=>?_
    walk_at "rd"
    refine⟨rfl,rfl,by decide,?_⟩
    rw[if_neg (by decide +kernel),hK2]
    clear hK2
    refine a0c fun K3 hK3=>?_
    walk_at "rd"
    refine⟨rfl,rfl,by decide,?_⟩
    rw[if_pos (a0I _ rfl)]
    rw[a2J,a9L] at h
    refine⟨fun i ys M'=>ys=((ws.take i).filter fun l=>decide ((l.natAbs:Int)=n - 1)).map .int∧M'=M,⟨rfl,rfl⟩,fun _ _ _ _=>trivial,a0V (by lia),?_,?_⟩
    ·rintro i x ys M' hx ⟨rfl,rfl⟩
     obtain⟨l,hl',rfl⟩:=a1q hx
     dsimp only
     have e:(ws.take (i+1)).filter (fun l=>decide ((l.natAbs:Int)=n - 1))=(ws.take i).filter (fun l=>decide ((l.natAbs:Int)=n - 1))++if (l.natAbs:Int)=n - 1 then [l] else []:=by
      rw[List.take_add_one,hl',Option.toList_some,List.filter_append,List.filter_cons,List.filter_nil]
      simp only[decide_eq_true_eq]
     refine ite2 (fun c=>⟨?_,rfl⟩) (fun c=>⟨?_,rfl⟩)
     ·rw[e,if_pos c,List.map_append];rfl
     ·rw[e,if_neg c,List.append_nil]
    ·rintro ys M' ⟨rfl,rfl⟩ p hp
     rw[List.take_length]
     refine⟨by decide,fun p1 hp1=>?_⟩
     have n1:p≠p1:=fun z=>by rw[← z,a0i] at hp1;cases hp1
     have hS:Sub M' (updM (updM M' p (MO.lst ((ws.filter fun l=>decide ((l.natAbs:Int)=n - 1)).map .int))) p1 (MO.lst [T.str "step",T.str ""])):=(Sub.new hp).newr hp1
     rw[a0s n1,a0i]
     cases hF:ws.filter fun l=>decide ((l.natAbs:Int)=n - 1) with
     | nil =>
       rw[hF] at h hS
       dsimp only
       rw[if_neg (by decide)]
       exact a0x h hS
     | cons x X =>
       have hx:x∈ws:=(List.mem_filter.mp (by rw[hF];exact List.mem_cons_self)).1
       obtain⟨A,y,e⟩:=a4W (w:=ws) (fun z=>by rw[z] at hx;cases hx)
       cases X with
       | nil =>
         rw[hF] at h hS
         have e2:atI (List.map T.int ws) (-1)=some (.int y):=by rw[e,List.map_append];exact a8V _ _
         have e3:a5b ws=[y]:=by rw[e,a1K]
         have h2:Q (.str (if decide ([y]=[x])=true then Why.ok else Why.step).s) M':=by rw[← e3];exact h
         rw[show List.map T.int [x]=[T.int x] from rfl] at hS⊢
         dsimp only
         rw[if_pos (show ((([T.int x]:List T).length:Nat):Int)=1 from rfl),c1g,e2]
         dsimp only
         refine⟨rfl,rfl,Nat.zero_le _,?_⟩
         rw[a3V]
         by_cases c:x=y
         ·rw[decide_eq_true (by rw[c])] at h2
          rw[decide_eq_true c]
          exact a0x h2 hS
         ·rw[decide_eq_false (fun z=>c (List.cons.inj z).1.symm)] at h2
          rw[decide_eq_false c]
          exact a0x h2 hS
       | cons x2 X2 =>
         rw[hF] at h hS
         dsimp only
         rw[if_neg (by rw[List.length_map,List.length_cons,List.length_cons];lia)]
         exact a0x h hS
  | round =>
    show a1e _ _ _ [some (.tup [.int n,.tup (ws.map .int)]),some (.tup [.str "round"]),some (.int n),some (.tup (ws.map .int)),none,none] M
    refine a0c fun K2 hK2=>?_
    walk_at "rd"
    refine⟨rfl,rfl,by decide,?_⟩
    rw[if_neg (by decide +kernel),hK2]
    clear hK2
    refine a0c fun K3 hK3=>?_
    walk_at "rd"
    refine⟨rfl,rfl,by decide,?_⟩
    rw[if_neg (by decide +kernel),hK3]
    clear hK3
    refine a0c fun K4 hK4=>?_
    walk_at "rd"
    refine⟨by decide,fun p hp=>⟨rfl,rfl,?_⟩⟩
    rw[if_pos (by decide +kernel)]
    refine⟨by decide,fun p1 hp1=>?_⟩
    have hS:Sub M (updM (updM M p (MO.lst [T.str "round",T.str "back"])) p1 (MO.lst [T.str "step",T.str ""])):=(Sub.new hp).newr hp1
    replace h:Q (.str (if ws.isEmpty=true then Why.step else Why.ok).s) M:=h
    cases ws with
    | nil=>rw[if_neg (by decide)];exact a0x h hS
    | cons x B=>rw[if_pos (by rw[List.length_cons];lia)];exact a0x h hS
  | back =>
    show a1e _ _ _ [some (.tup [.int n,.tup (ws.map .int)]),some (.tup [.str "back"]),some (.int n),some (.tup (ws.map .int)),none,none] M
    refine a0c fun K2 hK2=>?_
    walk_at "rd"
    refine⟨rfl,rfl,by decide,?_⟩
    rw[if_neg (by decide +kernel),hK2]
    clear hK2
    refine a0c fun K3 hK3=>?_
    walk_at "rd"
    refine⟨rfl,rfl,by decide,?_⟩
    rw[if_neg (by decide +kernel),hK3]
    clear hK3
    refine a0c fun K4 hK4=>?_
    walk_at "rd"
    refine⟨by decide,fun p hp=>⟨rfl,rfl,?_⟩⟩
    rw[if_pos (by decide +kernel)]
    refine⟨by decide,fun p1 hp1=>?_⟩
    have hS:Sub M (updM (updM M p (MO.lst [T.str "round",T.str "back"])) p1 (MO.lst [T.str "step",T.str ""])):=(Sub.new hp).newr hp1
    replace h:Q (.str (if ws.isEmpty=true then Why.step else Why.ok).s) M:=h
    cases ws with
    | nil=>rw[if_neg (by decide)];exact a0x h hS
    | cons x B=>rw[if_pos (by rw[List.length_cons];lia)];exact a0x h hS
  | flip =>
    show a1e _ _ _ [some (.tup [.int n,.tup (ws.map .int)]),some (.tup [.str "flip"]),some (.int n),some (.tup (ws.map .int)),none,none] M
    refine a0c fun K2 hK2=>?_
    walk_at "rd"
    refine⟨rfl,rfl,by decide,?_⟩
    rw[if_neg (by decide +kernel),hK2]
    clear hK2
    refine a0c fun K3 hK3=>?_
    walk_at "rd"
    refine⟨rfl,rfl,by decide,?_⟩
    rw[if_neg (by decide +kernel),hK3]
    clear hK3
    refine a0c fun K4 hK4=>?_
    walk_at "rd"
    refine⟨by decide,fun p hp=>⟨rfl,rfl,?_⟩⟩
    rw[if_neg (by decide +kernel),hK4]
    clear hK4
    refine a0c fun K5 hK5=>?_
    walk_at "rd"
    refine⟨rfl,rfl,by decide,?_⟩
    rw[if_pos (a0I _ rfl)]
    exact a0x h (Sub.new hp)
  | step s =>
    show a1e _ _ _ [some (.tup [.int n,.tup (ws.map .int)]),some (.tup [.str "step",.tup s.t]),some (.int n),some (.tup (ws.map .int)),none,none] M
    refine a0c fun K2 hK2=>?_
    walk_at "rd"
    refine⟨rfl,rfl,by decide,?_⟩
    rw[if_neg (by decide +kernel),hK2]
    clear hK2
    refine a0c fun K3 hK3=>?_
    walk_at "rd"
    refine⟨rfl,rfl,by decide,?_⟩
    rw[if_neg (by decide +kernel),hK3]
    clear hK3
    refine a0c fun K4 hK4=>?_
    walk_at "rd"
    refine⟨by decide,fun p hp=>⟨rfl,rfl,?_⟩⟩
    rw[if_neg (by decide +kernel),hK4]
    clear hK4
    have hS:=Sub.new hp (o:=MO.lst [T.str "round",T.str "back"])
    generalize updM M p (MO.lst [T.str "round",T.str "back"])=M1 at hS⊢
    refine a0c fun K5 hK5=>?_
    walk_at "rd"
    refine⟨rfl,rfl,by decide,?_⟩
    rw[if_neg (by decide +kernel),hK5]
    clear hK5
    walk_at "rd"
    rw[a3x] at h
    refine⟨ws,s,rfl,rfl,by lia,h6,ho,?_⟩
    cases e:aft n ws s with
    | none =>
      rw[e] at h
      unfold optT
      dsimp only
      refine ite2 (fun _=>a0x h hS) (fun c=>absurd rfl c)
    | some r =>
      rw[e] at h
      unfold optT
      dsimp only at h⊢
      refine ite2 (fun c=>Bool.noConfusion (show false=true from c)) (fun _=>⟨by decide,fun p1 hp1=>?_⟩)
      rw[List.length_map]
      by_cases c:16 < r.length
      ·rw[if_pos c] at h
       rw[if_pos (by lia)]
       exact a0x h (hS.newr hp1)
      ·rw[if_neg c] at h
       rw[if_neg (by lia)]
       exact a0x h (hS.newr hp1)
 ·exact h.elim
noncomputable def a1C:Sp3:=fun ts M Q=>match ts with
 | [.adr p,.tup [.int n,.tup w],.int m]=>∃ (ws:List Int) (s f:Int),M p=some (.lst [.int s,.int f])∧w=ws.map .int∧1≤n∧n≤6∧ws.length≤100∧WordOK n ws∧∀ (mv:Mv) s' f',Q (mvT mv) (updM M p (.lst [.int s',.int f']))
 | _=>False
theorem a6n {P w K base f fd} {mg:Str→Option Value} {n:Nat}  (F:Fun K "_law_any_move" "_law_any_move" a1Q f fd) (hm:mg "_law_any_move"=some (.ref f)) (hb:a0G K fd ["state","plait","longest"] []) (Z:Zs K mg) (D__law_take:Df P w K mg base n "_law_take" ["state","many"] a0U) (D__law_any_step:Df P w K mg base n "_law_any_step" ["state","strands","word","longest"] a1B):Df P w K mg base (n+1) "_law_any_move" ["state","plait","longest"] a1C:=by
 refine F.dfn hm hb a0L (by unfold a1C;walk_at "ln") ⟨_,fun cdv A outer s H E hr=>(@a0b _ _ _ _ _ (@a6k _ _ _ _ _ _ (@hv _ 1 _ _ (by rfl) (by walk_at "3") (by decide) (by decide)) (@a8M _ _ _ _ _ 2 rfl (@a1i _ _ _ _ _ (@a1j _ _ 3 _ a0L.nd (by rfl) (by walk_at "2") (by walk_at "4")) (@a1i _ _ _ _ _ (@a1j _ _ 4 _ a0L.nd (by rfl) (by walk_at "2") (by walk_at "4")) a5M (by rfl)) (by rfl)) (by rfl) (by rfl)) (by rfl) (by rfl) (by rfl)) (@a0b _ _ _ _ _ (@a0C _ _ _ _ 5 _ _ (@a3q _ _ _ _ (@a2a _ _ _ _ _ _ _ (@a0R _ _ _ _ _ (@a0a _ _ _ _ _ a0P a0e (by rfl))) (@a2a _ _ _ _ _ _ _ (@a0R _ _ _ _ _ (@a0a _ _ _ _ _ a0P a0e (by rfl))) (@a2a _ _ _ _ _ _ _ (@a0R _ _ _ _ _ (@a0a _ _ _ _ _ a0P a0e (by rfl))) (@a2a _ _ _ _ _ _ _ (@a0R _ _ _ _ _ (@a0a _ _ _ _ _ a0P a0e (by rfl))) (@a2a _ _ _ _ _ _ _ (@a0R _ _ _ _ _ (@a0a _ _ _ _ _ a0P (@a0a _ _ _ _ _ a0d a0e (by rfl)) (by rfl))) (@a2a _ _ _ _ _ _ _ (@a0R _ _ _ _ _ (@a0a _ _ _ _ _ a0P (@a0a _ _ _ _ _ (@h_un _ _ _ _ _ _ a0J a0d) a0e (by rfl)) (by rfl))) a0e))))))) a0L.nd rfl (by first | exact Or.inl rfl | exact Or.inr rfl) rfl (by first | exact .inl rfl | exact .inr rfl | assumption)) (@a0b _ _ _ _ _ (@a0C _ _ _ _ 6 _ _ (@h_ix _ _ _ _ _ _ (@hv _ 5 _ _ (by rfl) (by walk_at "3") (by decide) (by decide)) (@a0j _ _ _ _ _ _ _ _ _ _ D__law_take hr (@a0a _ _ _ _ _ (@hv _ 0 _ _ (by rfl) (by walk_at "3") (by decide) (by decide)) (@a0a _ _ _ _ _ a0d a0e (by rfl)) (by rfl)) (by rfl) (by decide) (by rfl) (by rfl)) (by intro _ _;rfl)) a0L.nd (by rfl) (by walk_at "2") (by rfl) (by walk_at "4")) (@a0b _ _ _ _ _ (@s_if _ _ _ _ _ _ _ _ (@a0n _ _ _ _ _ _ _ _ (@a0y _ hr.units) (@a0j _ _ _ _ _ _ _ _ _ _ D__law_take hr (@a0a _ _ _ _ _ (@hv _ 0 _ _ (by rfl) (by walk_at "3") (by decide) (by decide)) (@a0a _ _ _ _ _ a0d a0e (by rfl)) (by rfl)) (by rfl) (by decide) (by rfl) (by rfl)) a0d (@a0k _ _ (by decide) (by decide))) (@a0b _ _ _ _ _ (@a0C _ _ _ _ 7 _ _ (@a0j _ _ _ _ _ _ _ _ _ _ D__law_any_step hr (@a0a _ _ _ _ _ (@hv _ 0 _ _ (by rfl) (by walk_at "3") (by decide) (by decide)) (@a0a _ _ _ _ _ (@hv _ 3 _ _ (by rfl) (by walk_at "3") (by decide) (by decide)) (@a0a _ _ _ _ _ (@hv _ 4 _ _ (by rfl) (by walk_at "3") (by decide) (by decide)) (@a0a _ _ _ _ _ (@hv _ 2 _ _ (by rfl) (by walk_at "3") (by decide) (by decide)) a0e (by rfl)) (by rfl)) (by rfl)) (by rfl)) (by rfl) (by decide) (by rfl) (by rfl)) a0L.nd (by rfl) (by walk_at "2") (by rfl) (by walk_at "4")) (@a0g _ _ _ (@s_if _ _ _ _ _ _ _ _ (@a0n _ _ _ _ _ _ _ _ a9r (@hv _ 7 _ _ (by rfl) (by walk_at "3") (by decide) (by decide)) a5X (@a0k _ _ (by decide) (by decide))) (@a0g _ _ _ (@a0C _ _ _ _ 6 _ _ (@a0R _ _ _ _ _ (@a0a _ _ _ _ _ a0P (@a0a _ _ _ _ _ (@hv _ 7 _ _ (by rfl) (by walk_at "3") (by decide) (by decide)) a0e (by rfl)) (by rfl))) a0L.nd (by rfl) (by walk_at "2") (by rfl) (by walk_at "4"))) a0q))) a0q) (@a0g _ _ _ (@a0r _ _ _ _ (@hv _ 6 _ _ (by rfl) (by walk_at "3") (by decide) (by decide)))))))),fun ts M Q h=>?_⟩
 unfold a1C at h
 split at h
 ·rename_i p n w m
  obtain⟨ws,s,f,hM,rfl,h1,h6,hl,hw,h⟩:=h
  refine a5t fun K3 hK3=>?_
  walk_at "rd"
  refine⟨by decide,by decide,by decide,by decide,by decide,by decide,by decide,fun p1 hp1=>?_⟩
  have n1:p≠p1:=fun z=>by rw[← z,hM] at hp1;cases hp1
  refine⟨s,f,by rw[a0s n1,hM],by decide,by decide,fun c s2 f2 c0 c1=>?_⟩
  obtain⟨mv,e⟩:∃ mv:Mv,atI [T.tup [T.str "flip"],T.tup [T.str "round"],T.tup [T.str "back"],T.tup [T.str "less"],T.tup [T.str "more",T.int 1],T.tup [T.str "more",T.int (-1)]] c=some (mvT mv):=by
   rcases (show c=0∨c=1∨c=2∨c=3∨c=4∨c=5 by lia) with rfl | rfl | rfl | rfl | rfl | rfl
   ·exact⟨.flip,rfl⟩
   ·exact⟨.round,rfl⟩
   ·exact⟨.back,rfl⟩
   ·exact⟨.less,rfl⟩
   ·exact⟨.more 1,rfl⟩
   ·exact⟨.more (-1),rfl⟩
  dsimp only
  rw[a0s n1.symm,a0i]
  dsimp only
  rw[e]
  dsimp only
  have hS:Sub (updM M p (.lst [.int s2,.int f2])) (updM (updM M p1 (MO.lst [T.tup [T.str "flip"],T.tup [T.str "round"],T.tup [T.str "back"],T.tup [T.str "less"],T.tup [T.str "more",T.int 1],T.tup [T.str "more",T.int (-1)]])) p (MO.lst [T.int s2,T.int f2])):=by
   have h0:Sub (updM M p (.lst [.int s,.int f])) (updM M p1 (MO.lst [T.tup [T.str "flip"],T.tup [T.str "round"],T.tup [T.str "back"],T.tup [T.str "less"],T.tup [T.str "more",T.int 1],T.tup [T.str "more",T.int (-1)]])):=by rw[a6A hM];exact Sub.new hp1
   exact h0.set
  generalize updM (updM M p1 (MO.lst [T.tup [T.str "flip"],T.tup [T.str "round"],T.tup [T.str "back"],T.tup [T.str "less"],T.tup [T.str "more",T.int 1],T.tup [T.str "more",T.int (-1)]])) p (MO.lst [T.int s2,T.int f2])=M2 at hS⊢
  rw[hK3]
  clear hK3
  refine a0c fun K4 hK4=>?_
  have hk:∀ (mv:Mv) (a:Option T) M4 s4 f4,Sub (updM M p (.lst [.int s4,.int f4])) M4→K4 [some (.adr p),some (.tup [.int n,.tup (ws.map .int)]),some (.int m),some (.int n),some (.tup (ws.map .int)),some (.adr p1),some (mvT mv),a] M4:=by
   intro mv a M4 s4 f4 hS4
   rw[hK4]
   clear hK4
   walk_at "rd"
   exact a0x (h mv s4 f4) hS4
  walk_at "rd"
  refine⟨s2,f2,hS _ _ a0i,by decide,by decide,fun d s3 f3 d0 d1=>⟨rfl,Nat.zero_le _,ite2 (fun hd=>?_) (fun hd=>hk mv _ _ s3 f3 hS.set)⟩⟩
  refine⟨ws,s3,f3,a0i,rfl,h1,h6,hl,hw,fun s5 f5=>?_,fun st r s5 f5 hst hr=>?_⟩
  ·simp only[a5m]
   refine ite2 (fun c=>Bool.noConfusion (show true=false from c)) (fun c=>hk mv _ _ s5 f5 hS.set)
  ·simp only[a5m]
   refine ite2 (fun c=>⟨by decide,hk (.step st) _ _ s5 f5 hS.set⟩) (fun c=>absurd trivial c)
 ·exact h.elim
noncomputable def okB (B:Int) (p:Int × List Int):List Mv→Prop
 | []=>p.1≤B
 | m :: L=>p.1≤B∧okB B (mvTo p.1 p.2 m) L
theorem b1N {B:Int} {m:Mv}:∀ {A:List Mv} {n:Int} {w:List Int} {p:Int × List Int},mvs n w A=some p→okB B (n,w) A→(mvTo p.1 p.2 m).1≤B→okB B (n,w) (A++[m])
 | [],n,w,p,h,a,b=>by obtain rfl:=Option.some.inj h;exact⟨a,b⟩
 | x :: A,n,w,p,h,a,b=>by
   rw[a3U] at h
   cases e:a2f n w x with
   | ok=>rw[e] at h;exact⟨a.1,b1N (A:=A) h a.2 b⟩
   | step=>rw[e] at h;cases h
   | room=>rw[e] at h;cases h
noncomputable def a2t:Sp3:=fun ts M Q=>match ts with
 | [.adr p,.tup [.int n,.tup w],.int k,.int mo,.int lo]=>∃ (ws:List Int) (s f:Int),M p=some (.lst [.int s,.int f])∧w=ws.map .int∧PlOK n ws∧0≤k∧k≤30∧∀ (L:List Mv) (r:Int × List Int) s' f',mvs n ws L=some r→okB (max n mo) (n,ws) L→(L.length:Int)≤k→r.1≤max n mo→∀ q,M q=none→Q (.tup [.adr q,ptT r]) (updM (updM M p (.lst [.int s',.int f'])) q (.lst (L.map mvT)))
 | _=>False
theorem b1V (mv:Mv):∃ z r,mvT mv=.tup (.str z :: r)∧(eqT (.str z) (.str "more")=true∨∀ n w,(mvTo n w mv).1≤n):=by
 cases mv with
 | more k=>exact⟨_,_,rfl,.inl (by decide +kernel)⟩
 | step s=>exact⟨_,_,rfl,.inr fun n w=>Int.le_refl _⟩
 | round=>exact⟨_,_,rfl,.inr fun n w=>Int.le_refl _⟩
 | back=>exact⟨_,_,rfl,.inr fun n w=>Int.le_refl _⟩
 | flip=>exact⟨_,_,rfl,.inr fun n w=>Int.le_refl _⟩
 | less=>exact⟨_,_,rfl,.inr fun n w=>show n - 1≤n by lia⟩
theorem c2b (n:Int) (w:List Int) (mv:Mv):(mvTo n w mv).1≤n+1:=by
 cases mv with
 | more k=>exact Int.le_refl _
 | less=>exact (show n - 1≤n+1 by lia)
 | _=>exact (show n≤n+1 by lia)
theorem b1U:∀ {L:List Mv} {n:Int} {w:List Int} {p:Int × List Int},PlOK n w→mvs n w L=some p→PlOK p.1 p.2
 | [],n,w,p,ok,h=>by obtain rfl:=Option.some.inj h;exact ok
 | m :: L,n,w,p,ok,h=>by
   rw[a3U] at h
   cases e:a2f n w m with
   | ok=>rw[e] at h;exact b1U (c0F ok e).1 h
   | step=>rw[e] at h;cases h
   | room=>rw[e] at h;cases h
theorem b1T {A:List Mv} {m:Mv} {n:Int} {w:List Int} {p:Int × List Int} (h:mvs n w A=some p) (hm:a2f p.1 p.2 m=.ok):mvs n w (A++[m])=some (mvTo p.1 p.2 m):=by
 rw[a7I,h]
 show mvs p.1 p.2 [m]=_
 rw[a3U,hm]
 rfl
theorem a8C {P w K base f fd} {mg:Str→Option Value} {n:Nat}  (F:Fun K "_law_moves" "_law_moves" a3j f fd) (hm:mg "_law_moves"=some (.ref f)) (hb:a0G K fd ["state","plait","many","most","longest"] []) (Z:Zs K mg) (D__law_any_move:Df P w K mg base n "_law_any_move" ["state","plait","longest"] a1C) (D__law_why_not:Df P w K mg base n "_law_why_not" ["plait","move"] a1M) (D__law_moved:Df P w K mg base n "_law_moved" ["plait","move"] a2u):Df P w K mg base (n+1) "_law_moves" ["state","plait","many","most","longest"] a2t:=by
 refine F.dfn hm hb a1s (by unfold a2t;walk_at "ln") ⟨_,fun cdv A outer s H E hr=>(@a0b _ _ _ _ _ (@a0C _ _ _ _ 5 _ _ (@a3q _ _ _ _ a0e) a1s.nd (by rfl) (by walk_at "2") (by rfl) (by walk_at "4")) (@a0b _ _ _ _ _ (@a6H _ _ _ _ _ _ _ _ PassesOwn.never rfl (@a6w _ _ _ _ _ _ Z.b_range (@a0a _ _ _ _ _ (@hv _ 2 _ _ (by rfl) (by walk_at "3") (by decide) (by decide)) a0e (by rfl)) (by rfl) (by rfl)) (@a1j _ _ 6 _ a1s.nd (by rfl) (by walk_at "2") (by walk_at "4")) (@a0b _ _ _ _ _ (@a0C _ _ _ _ 7 _ _ (@a0j _ _ _ _ _ _ _ _ _ _ D__law_any_move hr (@a0a _ _ _ _ _ (@hv _ 0 _ _ (by rfl) (by walk_at "3") (by decide) (by decide)) (@a0a _ _ _ _ _ (@hv _ 1 _ _ (by rfl) (by walk_at "3") (by decide) (by decide)) (@a0a _ _ _ _ _ (@hv _ 4 _ _ (by rfl) (by walk_at "3") (by decide) (by decide)) a0e (by rfl)) (by rfl)) (by rfl)) (by rfl) (by decide) (by rfl) (by rfl)) a1s.nd (by rfl) (by walk_at "2") (by rfl) (by walk_at "4")) (@a0b _ _ _ _ _ (@a0C _ _ _ _ 8 _ _ (@h_or _ _ _ _ _ _ _ (@a4N _ _ _ _ _ _ _ _ (@a4m _ hr.units) (@h_ix _ _ _ _ _ _ (@hv _ 7 _ _ (by rfl) (by walk_at "3") (by decide) (by decide)) a0d (by intro _ _;rfl)) a0P (@a0k _ _ (by decide) (by decide))) (@b6w _ _ _ _ _ (@c0X _ _ _ _ _ _ _ (@a4N _ _ _ _ _ _ _ _ a3l (@h_ix _ _ _ _ _ _ (@hv _ 1 _ _ (by rfl) (by walk_at "3") (by decide) (by decide)) a0d (by intro _ _;rfl)) (@hv _ 3 _ _ (by rfl) (by walk_at "3") (by decide) (by decide)) (@a0k _ _ (by decide) (by decide))) (@b6w _ _ _ _ _ (@a4N _ _ _ _ _ _ _ _ a3l (@a0l _ _ _ _ _ _ _ _ _ a0p Z.b_len PySem.boot_len (@a0a _ _ _ _ _ (@h_ix _ _ _ _ _ _ (@hv _ 1 _ _ (by rfl) (by walk_at "3") (by decide) (by decide)) a0d (by intro _ _;rfl)) a0e (by rfl)) (by rfl) (by decide) (by decide) (by rfl) (by rfl)) (@hv _ 4 _ _ (by rfl) (by walk_at "3") (by decide) (by decide)) (@a0k _ _ (by decide) (by decide))))))) a1s.nd (by rfl) (by walk_at "2") (by rfl) (by walk_at "4")) (@a0g _ _ _ (@s_if _ _ _ _ _ _ _ _ (@HW.ht _ _ _ (@a7U _ _ _ _ _ _ _ (@a4p _ _ _ (@hv _ 8 _ _ (by rfl) (by walk_at "3") (by decide) (by decide)) (by intro _;rfl)) (@a6d _ _ _ _ (@a0n _ _ _ _ _ _ _ _ (@a0y _ hr.units) (@a0j _ _ _ _ _ _ _ _ _ _ D__law_why_not hr (@a0a _ _ _ _ _ (@hv _ 1 _ _ (by rfl) (by walk_at "3") (by decide) (by decide)) (@a0a _ _ _ _ _ (@hv _ 7 _ _ (by rfl) (by walk_at "3") (by decide) (by decide)) a0e (by rfl)) (by rfl)) (by rfl) (by decide) (by rfl) (by rfl)) a0P (@a0k _ _ (by decide) (by decide)))))) (@a0b _ _ _ _ _ (@a4c _ _ _ _ (@a5Y _ _ _ _ _ _ _ _ (@hv _ 5 _ _ (by rfl) (by walk_at "3") (by decide) (by decide)) (@a0a _ _ _ _ _ (@hv _ 7 _ _ (by rfl) (by walk_at "3") (by decide) (by decide)) a0e (by rfl)) (by rfl) (by rfl) (by rfl) (by rfl) (by rfl)) (by rfl)) (@a0g _ _ _ (@a0C _ _ _ _ 1 _ _ (@a0j _ _ _ _ _ _ _ _ _ _ D__law_moved hr (@a0a _ _ _ _ _ (@hv _ 1 _ _ (by rfl) (by walk_at "3") (by decide) (by decide)) (@a0a _ _ _ _ _ (@hv _ 7 _ _ (by rfl) (by walk_at "3") (by decide) (by decide)) a0e (by rfl)) (by rfl)) (by rfl) (by decide) (by rfl) (by rfl)) a1s.nd (by rfl) (by walk_at "2") (by rfl) (by walk_at "4")))) a0q)))) (by intro _;rfl)) (@a0g _ _ _ (@a0r _ _ _ _ (@a0R _ _ _ _ _ (@a0a _ _ _ _ _ (@hv _ 5 _ _ (by rfl) (by walk_at "3") (by decide) (by decide)) (@a0a _ _ _ _ _ (@hv _ 1 _ _ (by rfl) (by walk_at "3") (by decide) (by decide)) a0e (by rfl)) (by rfl))))))),fun ts M Q h=>?_⟩
 unfold a2t at h
 split at h
 ·rename_i p n w k mo lo
  obtain⟨ws,s,f,hM,rfl,ok,hk0,hk,h⟩:=h
  refine a0c fun K1 hK1=>?_
  walk_at "rd"
  intro q hq
  have n2:p≠q:=fun z=>by rw[← z,hM] at hq;cases hq
  rw[hK1]
  refine a0c fun K2 hK2=>?_
  refine a2N fun B hB=>?_
  walk_at "rd"
  refine⟨by lia,by lia,fun i ρ M'=>∃ (L:List Mv) (r:Int × List Int) (s' f':Int) (a b c:Option T),mvs n ws L=some r∧okB (max n mo) (n,ws) L∧L.length≤i∧r.1≤max n mo∧ρ=[some (T.adr p),some (ptT r),some (T.int k),some (T.int mo),some (T.int lo),some (T.adr q),a,b,c]∧M' q=some (.lst (L.map mvT))∧Sub (updM M p (.lst [.int s',.int f'])) M',?_,fun _ _ _ _=>trivial,?_,?_⟩
  ·refine⟨[],(n,ws),s,f,none,none,none,rfl,show n≤max n mo by lia,Nat.zero_le _,by lia,rfl,a0i,?_⟩
   rw[a6A hM]
   exact Sub.new hq
  ·rintro i x ρ M' hx ⟨L,⟨n1,w1⟩,s',f',a,b,c,hL,hB0,hLi,hmo,rfl,hq',hS⟩
   obtain⟨hi,rfl⟩:=a3Q hx
   have okr:=b1U ok hL
   obtain⟨o1,o2,o3,o4⟩:=id okr
   dsimp only at hmo o1 o2 o3 o4
   rw[hB]
   clear hB
   show a1e _ _ _ [_,some (.tup [.int n1,.tup (w1.map .int)]),_,_,_,_,_,_,_] M'
   refine a0c fun K3 hK3=>?_
   walk_at "rd"
   refine⟨w1,s',f',hS _ _ a0i,rfl,o1,o2,by lia,o4,fun mv s2 f2=>?_⟩
   obtain⟨z,rr,e,hz⟩:=b1V mv
   rw[hK3]
   clear hK3
   refine a0c fun K4 hK4=>?_
   rw[e]
   walk_at "rd"
   rw[← e]
   have hSS:=hS.set (u:=.lst [.int s2,.int f2])
   have hq2:updM M' p (.lst [.int s2,.int f2]) q=some (.lst (L.map mvT)):=by rw[a0s n2.symm,hq']
   generalize updM M' p (MO.lst [T.int s2,T.int f2])=M2 at hSS hq2⊢
   have hk4:∀ b:Bool,(b=true→(mvTo n1 w1 mv).1≤max n mo)→K4 [some (.adr p),some (.tup [.int n1,.tup (w1.map .int)]),some (.int k),some (.int mo),some (.int lo),some (.adr q),some (.int i),some (mvT mv),some (.bl b)] M2:=by
    intro b hb
    rw[hK4]
    clear hK4
    walk_at "rd"
    have stay:∀ bb:Option T,∃ (L:List Mv) (r:Int × List Int) (s' f':Int) (a b c:Option T),mvs n ws L=some r∧okB (max n mo) (n,ws) L∧L.length≤i+1∧r.1≤max n mo∧[some (.adr p),some (.tup [.int n1,.tup (w1.map .int)]),some (.int k),some (.int mo),some (.int lo),some (.adr q),some (.int i),some (mvT mv),bb]=[some (T.adr p),some (ptT r),some (T.int k),some (T.int mo),some (T.int lo),some (T.adr q),a,b,c]∧M2 q=some (.lst (L.map mvT))∧Sub (updM M p (.lst [.int s',.int f'])) M2:=fun bb=>⟨L,(n1,w1),s2,f2,_,_,_,hL,hB0,by lia,hmo,rfl,hq2,hSS⟩
    refine ite2 (fun cb=>?_) (fun _=>stay _)
    have hb':=hb cb
    refine⟨w1,mv,rfl,rfl,okr,rfl,rfl,Nat.zero_le _,ite2 (fun cw=>?_) (fun _=>stay _)⟩
    have hw:a2f n1 w1 mv=.ok:=by
     cases e:a2f n1 w1 mv with
     | ok=>rfl
     | step=>rw[e] at cw;exact absurd cw (by decide +kernel)
     | room=>rw[e] at cw;exact absurd cw (by decide +kernel)
    rw[hq2]
    refine⟨trivial,a0V (by rw[List.length_map];lia),w1,mv,rfl,rfl,okr,hw,?_⟩
    refine⟨L++[mv],mvTo n1 w1 mv,s2,f2,_,_,_,b1T hL hw,b1N hL hB0 hb',by rw[List.length_append,List.length_singleton];lia,hb',rfl,?_,?_⟩
    ·rw[a0i,List.map_append];rfl
    ·exact hSS.updF (by rw[a0s n2.symm];exact hq)
   refine⟨rfl,rfl,Nat.zero_le _,ite2 (fun c1=>hk4 true fun _=>?_) (fun c1=>ite2 (fun c2=>hk4 _ fun _=>?_) (fun c2=>hk4 _ fun z=>Bool.noConfusion z))⟩
   ·rcases hz with hz | hz
    ·rw[hz] at c1;cases c1
    ·have:=hz n1 w1;lia
   ·have:=c2b n1 w1 mv;lia
  ·rintro ρ M' ⟨L,r,s',f',a,b,c,hL,hB0,hLi,hmo,rfl,hq',hS⟩
   rw[hK2]
   walk_at "rd"
   rw[a1u] at hLi
   exact⟨by decide,a0x (h L r s' f' hL hB0 (by lia) hmo q hq) (hS.mk1 hq')⟩
 ·exact h.elim
noncomputable def a3D:Sp3:=fun ts M Q=>match ts with
 | [.tup s,.tup [.int n,.tup w],.tup mt]=>∃ (p:Po) (ws:List Int) (m:Mv),s=p.map prT∧p.length < 9000∧w=ws.map .int∧mt=m.t∧PlOK n ws∧a2f n ws m=.ok∧∀ M',Sub M M'→Q (poT (dueP ws m p)) M'
 | _=>False
theorem b0W {P w K base f fd} {mg:Str→Option Value} {n:Nat}  (F:Fun K "_law_due" "_law_due" a2H f fd) (hm:mg "_law_due"=some (.ref f)) (hb:a0G K fd ["sums","plait","move"] []) (Z:Zs K mg) (D__law_sign:Df P w K mg base n "_law_sign" ["letter"] a0O):Df P w K mg base (n+1) "_law_due" ["sums","plait","move"] a3D:=by
 refine F.dfn hm hb b0J (by unfold a3D;walk_at "ln") ⟨_,fun cdv A outer s H E hr=>(@a0b _ _ _ _ _ (@s_if _ _ _ _ _ _ _ _ (@a0n _ _ _ _ _ _ _ _ (@a0y _ hr.units) (@h_ix _ _ _ _ _ _ (@hv _ 2 _ _ (by rfl) (by walk_at "3") (by decide) (by decide)) a0d (by intro _ _;rfl)) a0P (@a0k _ _ (by decide) (by decide))) (@a0g _ _ _ (@a0r _ _ _ _ (@a1F _ _ _ _ _ _ _ _ _ a1Z Z.b_tuple PyProof.Rows.boot_tuple (@a0a _ _ _ _ _ (@a6j _ _ _ _ _ _ _ _ _ _ _ _ _ _ rfl (@a5K _ _ _ _ (@hv _ 0 _ _ (by rfl) (by walk_at "3") (by decide) (by decide))) (@a1z _ (a0h a2H) _ (["sums","plait","move"]) (["power","count","move"]) ([none,none,some 2]) (by decide +kernel) rfl rfl) b1q (fun _ _ _ _ _=>b1I rfl (@a3S _ _ _ _ _ (@a1T _ _ 0 _ (show List.Nodup (["power","count","move"]:List Str) by decide +kernel) rfl (Or.inl rfl) (Or.inr rfl)) (@a3S _ _ _ _ _ (@a1T _ _ 1 _ (show List.Nodup (["power","count","move"]:List Str) by decide +kernel) rfl (Or.inl rfl) (Or.inr rfl)) a8q (by rfl)) (by rfl))) (fun _ _ _ _ _=>a7A) (fun _ _ _ _ _=>(@a0R _ _ _ _ _ (@a0a _ _ _ _ _ (@a0m _ _ _ _ _ _ _ _ a0o (@hv _ 0 _ _ (by rfl) (by walk_at "3") (by decide) (by decide)) (@a0m _ _ _ _ _ _ _ _ a0Q a0d (@h_ix _ _ _ _ _ _ (@hv _ 2 _ _ (by rfl) (by walk_at "3") (by decide) (by decide)) a0d (by intro _ _;rfl)))) (@a0a _ _ _ _ _ (@a0m _ _ _ _ _ _ _ _ a0M a0d (@hv _ 1 _ _ (by rfl) (by walk_at "3") (by decide) (by decide))) a0e (by rfl)) (by rfl)))) (by intro _;rfl)) a0e (by rfl)) (by rfl) (by decide) (by decide) (by rfl) (by rfl)))) a0q) (@a0b _ _ _ _ _ (@s_if _ _ _ _ _ _ _ _ (@a0n _ _ _ _ _ _ _ _ (@a0y _ hr.units) (@h_ix _ _ _ _ _ _ (@hv _ 2 _ _ (by rfl) (by walk_at "3") (by decide) (by decide)) a0d (by intro _ _;rfl)) a0P (@a0k _ _ (by decide) (by decide))) (@a0g _ _ _ (@a0r _ _ _ _ (@a1F _ _ _ _ _ _ _ _ _ a1Z Z.b_tuple PyProof.Rows.boot_tuple (@a0a _ _ _ _ _ (@a6j _ _ _ _ _ _ _ _ _ _ _ _ _ _ rfl (@a5K _ _ _ _ (@hv _ 0 _ _ (by rfl) (by walk_at "3") (by decide) (by decide))) (@a1z _ (a0h a2H) _ (["sums","plait","move"]) (["power","count","plait"]) ([none,none,some 1]) (by decide +kernel) rfl rfl) b1q (fun _ _ _ _ _=>b1I rfl (@a3S _ _ _ _ _ (@a1T _ _ 0 _ (show List.Nodup (["power","count","plait"]:List Str) by decide +kernel) rfl (Or.inl rfl) (Or.inr rfl)) (@a3S _ _ _ _ _ (@a1T _ _ 1 _ (show List.Nodup (["power","count","plait"]:List Str) by decide +kernel) rfl (Or.inl rfl) (Or.inr rfl)) a8q (by rfl)) (by rfl))) (fun _ _ _ _ _=>a7A) (fun _ _ _ _ _=>(@a0R _ _ _ _ _ (@a0a _ _ _ _ _ (@a0m _ _ _ _ _ _ _ _ a0M (@hv _ 0 _ _ (by rfl) (by walk_at "3") (by decide) (by decide)) (@a0m _ _ _ _ _ _ _ _ a0Q a0d (@a0j _ _ _ _ _ _ _ _ _ _ D__law_sign hr (@a0a _ _ _ _ _ (@h_ix _ _ _ _ _ _ (@h_ix _ _ _ _ _ _ (@hv _ 2 _ _ (by rfl) (by walk_at "3") (by decide) (by decide)) a0d (by intro _ _;rfl)) (@h_un _ _ _ _ _ _ a0J a0d) (by intro _ _;rfl)) a0e (by rfl)) (by rfl) (by decide) (by rfl) (by rfl)))) (@a0a _ _ _ _ _ (@a0m _ _ _ _ _ _ _ _ a0M a0d (@hv _ 1 _ _ (by rfl) (by walk_at "3") (by decide) (by decide))) a0e (by rfl)) (by rfl)))) (by intro _;rfl)) a0e (by rfl)) (by rfl) (by decide) (by decide) (by rfl) (by rfl)))) a0q) (@a0g _ _ _ (@a0r _ _ _ _ (@hv _ 0 _ _ (by rfl) (by walk_at "3") (by decide) (by decide)))))),fun ts M Q h=>?_⟩
 unfold a3D at h
 split at h
 ·rename_i s n w mt
  obtain⟨p,ws,m,rfl,hpl,rfl,rfl,ok,hw,h⟩:=h
  have fin:∀ (c:Int) (i:Nat) (x:Int × Int),p[i]?=some x→(shP c (p.take i)).map prT++[T.tup [T.int (x.1+c),T.int (0 - x.2)]]=(shP c (p.take (i+1))).map prT:=fun c i x hx=>by
   unfold shP
   rw[← a1L (fun x:Int × Int=>(x.1+c,0 - x.2)) hx,List.map_append];rfl
  cases m with
  | more k =>
    show a1e _ _ _ [some (.tup (p.map prT)),some (.tup [.int n,.tup (ws.map .int)]),some (.tup [.str "more",.int k])] M
    refine a0c fun K2 hK2=>?_
    walk_at "rd"
    refine⟨rfl,rfl,by decide,?_⟩
    rw[if_pos (a0I _ rfl)]
    have hk:CMul 3 k:=by
     rw[a2I] at hw
     have hk:k=1∨k=-1:=by
      split at hw
      ·cases hw
      ·split at hw
       ·assumption
       ·cases hw
     exact .inl ⟨by decide,by lia⟩
    refine⟨fun i ys M'=>ys=(shP (3*k) (p.take i)).map prT∧M'=M,⟨rfl,rfl⟩,fun _ _ _ _=>trivial,a0V (by lia),?_,?_⟩
    ·rintro i x ys M' hx ⟨rfl,rfl⟩
     rw[List.getElem?_map] at hx
     obtain⟨y,hy,rfl⟩:=Option.map_eq_some_iff.mp hx
     refine⟨rfl,rfl,hk,by decide,?_,rfl⟩
     exact fin _ i y hy
    ·rintro ys M' ⟨rfl,rfl⟩
     rw[List.take_length]
     exact fun q hq=>a0f (h _ (Sub.new hq))
  | less =>
    show a1e _ _ _ [some (.tup (p.map prT)),some (.tup [.int n,.tup (ws.map .int)]),some (.tup [.str "less"])] M
    refine a0c fun K2 hK2=>?_
    walk_at "rd"
    refine⟨rfl,rfl,by decide,?_⟩
    rw[if_neg (by decide +kernel),hK2]
    clear hK2
    refine a0c fun K3 hK3=>?_
    walk_at "rd"
    refine⟨rfl,rfl,by decide,?_⟩
    rw[if_pos (a0I _ rfl)]
    rw[a2J] at hw
    have hw2:a6S n ws=true:=by
     split at hw
     ·assumption
     ·cases hw
    obtain⟨A,y,rfl,_,_⟩:=a4o.mp hw2
    have e0:atI (List.map T.int (A++[y])) (-1)=some (.int y):=by
     rw[List.map_append];exact a8V _ _
    have hsy:dueP (A++[y]) .less p=shP (-(3*sg y)) p:=by
     show shP (-(3*sg ((a5b (A++[y])).headD 0))) p=_
     rw[a1K];rfl
    rw[hsy] at h
    refine⟨fun i ys M'=>ys=(shP (-(3*sg y)) (p.take i)).map prT∧M'=M,⟨rfl,rfl⟩,fun _ _ _ _=>trivial,a0V (by lia),?_,?_⟩
    ·rintro i x ys M' hx ⟨rfl,rfl⟩
     rw[List.getElem?_map] at hx
     obtain⟨z,hz,rfl⟩:=Option.map_eq_some_iff.mp hx
     refine⟨rfl,rfl,?_⟩
     rw[e0]
     unfold a0O
     dsimp only
     refine⟨.inl ⟨by decide,by decide⟩,by decide,?_,rfl⟩
     have:=fin (-(3*sg y)) i z hz
     rw[← Int.sub_eq_add_neg] at this
     exact this
    ·rintro ys M' ⟨rfl,rfl⟩
     rw[List.take_length]
     exact fun q hq=>a0f (h _ (Sub.new hq))
  | flip =>
    show a1e _ _ _ [some (.tup (p.map prT)),some (.tup [.int n,.tup (ws.map .int)]),some (.tup [.str "flip"])] M
    refine a0c fun K2 hK2=>?_
    walk_at "rd"
    refine⟨rfl,rfl,by decide,?_⟩
    rw[if_neg (by decide +kernel),hK2]
    clear hK2
    refine a0c fun K3 hK3=>?_
    walk_at "rd"
    refine⟨rfl,rfl,by decide,?_⟩
    rw[if_neg (by decide +kernel),hK3]
    clear hK3
    walk_at "rd"
    exact a0f (h M Sub.refl)
  | round =>
    show a1e _ _ _ [some (.tup (p.map prT)),some (.tup [.int n,.tup (ws.map .int)]),some (.tup [.str "round"])] M
    refine a0c fun K2 hK2=>?_
    walk_at "rd"
    refine⟨rfl,rfl,by decide,?_⟩
    rw[if_neg (by decide +kernel),hK2]
    clear hK2
    refine a0c fun K3 hK3=>?_
    walk_at "rd"
    refine⟨rfl,rfl,by decide,?_⟩
    rw[if_neg (by decide +kernel),hK3]
    clear hK3
    walk_at "rd"
    exact a0f (h M Sub.refl)
  | back =>
    show a1e _ _ _ [some (.tup (p.map prT)),some (.tup [.int n,.tup (ws.map .int)]),some (.tup [.str "back"])] M
    refine a0c fun K2 hK2=>?_
    walk_at "rd"
    refine⟨rfl,rfl,by decide,?_⟩
    rw[if_neg (by decide +kernel),hK2]
    clear hK2
    refine a0c fun K3 hK3=>?_
    walk_at "rd"
    refine⟨rfl,rfl,by decide,?_⟩
    rw[if_neg (by decide +kernel),hK3]
    clear hK3
    walk_at "rd"
    exact a0f (h M Sub.refl)
  | step st =>
    show a1e _ _ _ [some (.tup (p.map prT)),some (.tup [.int n,.tup (ws.map .int)]),some (.tup [.str "step",.tup st.t])] M
    refine a0c fun K2 hK2=>?_
    walk_at "rd"
    refine⟨rfl,rfl,by decide,?_⟩
    rw[if_neg (by decide +kernel),hK2]
    clear hK2
    refine a0c fun K3 hK3=>?_
    walk_at "rd"
    refine⟨rfl,rfl,by decide,?_⟩
    rw[if_neg (by decide +kernel),hK3]
    clear hK3
    walk_at "rd"
    exact a0f (h M Sub.refl)
 ·exact h.elim
theorem b4h (p:Po):a0E (poT p)=true:=by
 unfold poT;rw[a9m]
 have:∀ p:Po,a1o (p.map prT)=true:=by
  intro p
  induction p with
  | nil=>rfl
  | cons x p ih=>rw[List.map_cons,a3R,ih,show prT x=T.tup [T.int x.1,T.int x.2] from rfl];rfl
 exact this p
theorem b6Y (p:Po):depT (poT p)≤30:=by
 have:∀ p:Po,a4g (p.map prT)≤1:=by
  intro p
  induction p with
  | nil=>decide
  | cons x p ih =>
    rw[List.map_cons,a4J]
    have e:depT (prT x)=1:=rfl
    rw[e]
    exact Nat.max_le.mpr ⟨Nat.le_refl 1,ih⟩
 unfold poT;rw[b2h];have:=this p;lia
theorem b7d {B:Int} {m:Mv}:∀ {A:List Mv} {n:Int} {w:List Int} {p:Int × List Int} {R:List Mv},okB B (n,w) (A++m :: R)→mvs n w A=some p→p.1≤B∧(mvTo p.1 p.2 m).1≤B
 | [],n,w,p,R,a,h=>by
   obtain rfl:=Option.some.inj h
   refine⟨a.1,?_⟩
   have:=a.2
   cases R with
   | nil=>exact this
   | cons x R=>exact this.1
 | x :: A,n,w,p,R,a,h=>by
   rw[a3U] at h
   cases e:a2f n w x with
   | ok=>rw[e] at h;exact b7d (A:=A) a.2 h
   | step=>rw[e] at h;cases h
   | room=>rw[e] at h;cases h
theorem c0E {L:List Mv} {n:Int} {w:List Int} {r:Int × List Int} {i:Nat} {m:Mv} (h:mvs n w L=some r) (hm:L[i]?=some m) {p:Int × List Int} (hp:mvs n w (L.take i)=some p):a2f p.1 p.2 m=.ok∧mvs n w (L.take (i+1))=some (mvTo p.1 p.2 m):=by
 have e:L=L.take i++m :: L.drop (i+1):=by
  obtain⟨hi,e2⟩:=List.getElem?_eq_some_iff.mp hm
  rw[← e2,List.getElem_cons_drop,List.take_append_drop]
 have h2:=h
 rw[e,a7I,hp] at h2
 have hk:a2f p.1 p.2 m=.ok:=by
  replace h2:mvs p.1 p.2 (m :: L.drop (i+1))=some r:=h2
  rw[a3U] at h2
  cases e:a2f p.1 p.2 m with
  | ok=>rfl
  | step=>rw[e] at h2;cases h2
  | room=>rw[e] at h2;cases h2
 refine⟨hk,?_⟩
 rw[List.take_add_one,hm]
 exact b1T hp hk
noncomputable def a7B:Sp3:=fun ts M Q=>match ts with
 | [.rd s]=>∃ ns:List Int,s=ns.map .int∧Q (.bl true) M
 | _=>False
theorem b3c (ns:List Int) (M:MH) (Q:VK3) (_:ns.length≤63) (h:Q (.bl true) M):a7B [.rd (ns.map .int)] M Q:=⟨ns,rfl,h⟩
theorem c0A {P w K base f fd} {mg:Str→Option Value} {n:Nat}  (F:Fun K "law" "law" b0K f fd) (Z:Zs K mg) (D__law_state:Df P w K mg base n "_law_state" ["script","k"] a2r) (D__law_plait:Df P w K mg base n "_law_plait" ["state","most","longest"] a2s) (D_settled:Df P w K mg base n "settled" ["plait"] a4x) (D__law_moves:Df P w K mg base n "_law_moves" ["state","plait","many","most","longest"] a2t) (D__law_take:Df P w K mg base n "_law_take" ["state","many"] a0U) (D_by_nests:Df P w K mg base n "by_nests" ["plait"] a2L) (D__law_due:Df P w K mg base n "_law_due" ["sums","plait","move"] a3D) (D_moved:Df P w K mg base n "moved" ["plait","move"] a6q):FnOk P w K mg base CX0 (n+1) f fd ["script"] (dSp K a7B):=by
 refine F.fnk a5x (by unfold a7B;walk_at "ln") ⟨_,fun cdv A outer s H E hr=>(@a0b _ _ _ _ _ (@a0C _ _ _ _ 1 _ _ (@a0j _ _ _ _ _ _ _ _ _ _ D__law_state hr (@a0a _ _ _ _ _ (@hv _ 0 _ _ (by rfl) (by walk_at "3") (by decide) (by decide)) (@a0a _ _ _ _ _ a0d a0e (by rfl)) (by rfl)) (by rfl) (by decide) (by rfl) (by rfl)) a5x.nd (by rfl) (by walk_at "2") (by rfl) (by walk_at "4")) (@a0b _ _ _ _ _ (@a0C _ _ _ _ 2 _ _ (@a0j _ _ _ _ _ _ _ _ _ _ D__law_plait hr (@a0a _ _ _ _ _ (@hv _ 1 _ _ (by rfl) (by walk_at "3") (by decide) (by decide)) (@a0a _ _ _ _ _ a0d (@a0a _ _ _ _ _ a0d a0e (by rfl)) (by rfl)) (by rfl)) (by rfl) (by decide) (by rfl) (by rfl)) a5x.nd (by rfl) (by walk_at "2") (by rfl) (by walk_at "4")) (@a0b _ _ _ _ _ (@a0C _ _ _ _ 3 _ _ (@a0j _ _ _ _ _ _ _ _ _ _ D_settled hr (@a0a _ _ _ _ _ (@hv _ 2 _ _ (by rfl) (by walk_at "3") (by decide) (by decide)) a0e (by rfl)) (by rfl) (by decide) (by rfl) (by rfl)) a5x.nd (by rfl) (by walk_at "2") (by rfl) (by walk_at "4")) (@a0b _ _ _ _ _ (@a0C _ _ _ _ 4 _ _ (@h_ix _ _ _ _ _ _ (@a0j _ _ _ _ _ _ _ _ _ _ D__law_moves hr (@a0a _ _ _ _ _ (@hv _ 1 _ _ (by rfl) (by walk_at "3") (by decide) (by decide)) (@a0a _ _ _ _ _ (@hv _ 2 _ _ (by rfl) (by walk_at "3") (by decide) (by decide)) (@a0a _ _ _ _ _ (@a0j _ _ _ _ _ _ _ _ _ _ D__law_take hr (@a0a _ _ _ _ _ (@hv _ 1 _ _ (by rfl) (by walk_at "3") (by decide) (by decide)) (@a0a _ _ _ _ _ a0d a0e (by rfl)) (by rfl)) (by rfl) (by decide) (by rfl) (by rfl)) (@a0a _ _ _ _ _ a0d (@a0a _ _ _ _ _ a0d a0e (by rfl)) (by rfl)) (by rfl)) (by rfl)) (by rfl)) (by rfl) (by decide) (by rfl) (by rfl)) a0d (by intro _ _;rfl)) a5x.nd (by rfl) (by walk_at "2") (by rfl) (by walk_at "4")) (@a0b _ _ _ _ _ (@a0C _ _ _ _ 5 _ _ (@a0j _ _ _ _ _ _ _ _ _ _ D_by_nests hr (@a0a _ _ _ _ _ (@hv _ 2 _ _ (by rfl) (by walk_at "3") (by decide) (by decide)) a0e (by rfl)) (by rfl) (by decide) (by rfl) (by rfl)) a5x.nd (by rfl) (by walk_at "2") (by rfl) (by walk_at "4")) (@a0b _ _ _ _ _ (@a6H _ _ _ _ _ _ _ _ PassesOwn.never rfl (@a5K _ _ _ _ (@hv _ 4 _ _ (by rfl) (by walk_at "3") (by decide) (by decide))) (@a1j _ _ 6 _ a5x.nd (by rfl) (by walk_at "2") (by walk_at "4")) (@a0b _ _ _ _ _ (@a0C _ _ _ _ 5 _ _ (@a0j _ _ _ _ _ _ _ _ _ _ D__law_due hr (@a0a _ _ _ _ _ (@hv _ 5 _ _ (by rfl) (by walk_at "3") (by decide) (by decide)) (@a0a _ _ _ _ _ (@hv _ 2 _ _ (by rfl) (by walk_at "3") (by decide) (by decide)) (@a0a _ _ _ _ _ (@hv _ 6 _ _ (by rfl) (by walk_at "3") (by decide) (by decide)) a0e (by rfl)) (by rfl)) (by rfl)) (by rfl) (by decide) (by rfl) (by rfl)) a5x.nd (by rfl) (by walk_at "2") (by rfl) (by walk_at "4")) (@a0b _ _ _ _ _ (@a0C _ _ _ _ 2 _ _ (@a0j _ _ _ _ _ _ _ _ _ _ D_moved hr (@a0a _ _ _ _ _ (@hv _ 2 _ _ (by rfl) (by walk_at "3") (by decide) (by decide)) (@a0a _ _ _ _ _ (@hv _ 6 _ _ (by rfl) (by walk_at "3") (by decide) (by decide)) a0e (by rfl)) (by rfl)) (by rfl) (by decide) (by rfl) (by rfl)) a5x.nd (by rfl) (by walk_at "2") (by rfl) (by walk_at "4")) (@a0g _ _ _ (@s_if _ _ _ _ _ _ _ _ (@a0n _ _ _ _ _ _ _ _ (@a4m _ hr.units) (@a0j _ _ _ _ _ _ _ _ _ _ D_by_nests hr (@a0a _ _ _ _ _ (@hv _ 2 _ _ (by rfl) (by walk_at "3") (by decide) (by decide)) a0e (by rfl)) (by rfl) (by decide) (by rfl) (by rfl)) (@hv _ 5 _ _ (by rfl) (by walk_at "3") (by decide) (by decide)) (@a0k _ _ (by decide) (by decide))) (@a0g _ _ _ (@a0r _ _ _ _ h_bl)) a0q)))) (by intro _;rfl)) (@a0g _ _ _ (@a0r _ _ _ _ (@a4N _ _ _ _ _ _ _ _ (@a0y _ hr.units) (@a0j _ _ _ _ _ _ _ _ _ _ D_settled hr (@a0a _ _ _ _ _ (@hv _ 2 _ _ (by rfl) (by walk_at "3") (by decide) (by decide)) a0e (by rfl)) (by rfl) (by decide) (by rfl) (by rfl)) (@hv _ 3 _ _ (by rfl) (by walk_at "3") (by decide) (by decide)) (@a0k _ _ (by decide) (by decide))))))))))),fun ts M Q h=>?_⟩
 unfold a7B at h
 split at h
 ·rename_i s
  obtain⟨ns,rfl,h⟩:=h
  refine a0c fun K1 hK1=>?_
  walk_at "rd"
  refine⟨ns,rfl,by decide,by decide,fun p k f hp=>?_⟩
  have hS:=Sub.new hp (o:=.lst [.int k,.int f])
  have hMp:(updM M p (.lst [.int k,.int f])) p=some (.lst [.int k,.int f]):=a0i
  generalize updM M p (.lst [.int k,.int f])=M0 at hS hMp⊢
  rw[hK1];clear hK1
  refine a0c fun K2 hK2=>?_
  walk_at "rd"
  refine⟨k,f,hMp,by decide,by decide,by decide,by decide,fun n w s1 f1 hn1 hn6 hwl hw=>?_⟩
  have hS1:=hS.updF hp (o:=.lst [.int s1,.int f1])
  have hMp1:(updM M0 p (.lst [.int s1,.int f1])) p=some (.lst [.int s1,.int f1]):=a0i
  generalize updM M0 p (.lst [.int s1,.int f1])=M1 at hS1 hMp1⊢
  clear hS hMp
  rw[hK2];clear hK2
  have ok:PlOK n w:=⟨hn1,by lia,by lia,hw⟩
  refine a0c fun K3 hK3=>?_
  walk_at "rd"
  refine⟨w,rfl,ok,fun M2 hS2=>?_⟩
  have hS3:=hS1.trans hS2
  have hMp2:=hS2 _ _ hMp1
  clear hS1 hS2 hMp1
  rw[hK3];clear hK3
  refine a0c fun K4 hK4=>?_
  walk_at "rd"
  refine⟨s1,f1,hMp2,by decide,by decide,fun c s4 f4 hc0 hc1=>?_⟩
  dsimp only
  have hS4:=hS3.updF hp (o:=.lst [.int s4,.int f4])
  have hMp4:(updM M2 p (.lst [.int s4,.int f4])) p=some (.lst [.int s4,.int f4]):=a0i
  generalize updM M2 p (.lst [.int s4,.int f4])=M4 at hS4 hMp4⊢
  clear hS3 hMp2
  refine⟨w,s4,f4,hMp4,rfl,ok,hc0,by lia,fun L r s5 f5 hL hB hLk hr q hq=>?_⟩
  have hqp:q≠p:=fun z=>by rw[z,hMp4] at hq;cases hq
  dsimp only
  have e0:atI [T.adr q,ptT r] 0=some (.adr q):=rfl
  rw[e0]
  dsimp only
  have hq5:(updM M4 p (.lst [.int s5,.int f5])) q=none:=by rw[a0s hqp];exact hq
  have hS5:=(hS4.updF hp (o:=.lst [.int s5,.int f5])).newr hq5 (o:=.lst (L.map mvT))
  have hMq:(updM (updM M4 p (.lst [.int s5,.int f5])) q (.lst (L.map mvT))) q=some (.lst (L.map mvT)):=a0i
  generalize updM (updM M4 p (.lst [.int s5,.int f5])) q (.lst (L.map mvT))=M5 at hS5 hMq⊢
  clear hS4 hMp4 hq hqp hq5
  rw[show max n 4=4 by lia] at hB hr
  rw[hK4];clear hK4
  refine a0c fun K5 hK5=>?_
  walk_at "rd"
  refine⟨w,rfl,ok,fun M6 hS6=>?_⟩
  have hS7:=hS5.trans hS6
  have hMq2:=hS6 _ _ hMq
  clear hS5 hS6 hMq
  rw[hK5];clear hK5
  refine a0c fun K6 hK6=>?_
  refine a2N fun B hB2=>?_
  unfold a6D
  walk_at "rd"
  rw[hMq2]
  dsimp only
  refine⟨fun i ρ M'=>(∃ (n':Int) (w':List Int) (x:Option T),mvs n w (L.take i)=some (n',w')∧seL n' w'=seL n w∧ρ=[some (T.rd (List.map T.int ns)),some (T.adr p),some (T.tup [T.int n',T.tup (List.map T.int w')]),some (poT (seL n w).1),some (T.adr q),some (poT (stS n'.toNat w').1),x])∧M' q=some (.lst (L.map mvT))∧Sub M M',⟨⟨n,w,none,rfl,rfl,rfl⟩,hMq2,hS7⟩,fun _ _ _ z=>z.2.1,?_,?_⟩
  ·rintro i x ρ M' hx ⟨⟨n',w',x',hmv,hse,rfl⟩,hMq',hS'⟩
   rw[List.getElem?_map] at hx
   obtain⟨mv,hm,rfl⟩:=Option.map_eq_some_iff.mp hx
   have ok':=b1U ok hmv
   dsimp only at ok'
   obtain⟨hwhy,hnx⟩:=c0E hL hm hmv
   have e:L=L.take i++mv :: L.drop (i+1):=by
    obtain⟨hi,e2⟩:=List.getElem?_eq_some_iff.mp hm
    rw[← e2,List.getElem_cons_drop,List.take_append_drop]
   have hb:okB 4 (n,w) (L.take i++mv :: L.drop (i+1)):=by rw[← e];exact hB
   obtain⟨b1,b2⟩:=b7d hb hmv
   clear hb e
   dsimp only at b1 b2 hwhy
   obtain⟨d1,d2⟩:=c1b ok' b1 hwhy b2
   have okm:=(c0F ok' hwhy).1
   have hg:=b1A ⟨by have:=ok'.1;lia,by lia⟩ (b3a ok'.2.2.2)
   have hln:(stS n'.toNat w').1.length < 9000:=by
    have:=hg.len
    have:=ok'.2.2.1
    lia
   rw[hB2];clear hB2
   refine a0c fun K7 hK7=>?_
   obtain⟨z,rr,ez,_⟩:=b1V mv
   have emt:mvT mv=.tup mv.t:=rfl
   rw[emt]
   walk_at "rd"
   refine⟨_,w',mv,rfl,hln,rfl,rfl,ok',hwhy,fun M8 hS8=>?_⟩
   rw[hK7];clear hK7
   refine a0c fun K8 hK8=>?_
   walk_at "rd"
   refine⟨w',mv,rfl,rfl,ok',hwhy,?_⟩
   rw[← d1,hK8];clear hK8
   generalize hN:mvTo n' w' mv=N at d1 d2 okm b2 hnx
   obtain⟨n2,w2⟩:=N
   dsimp only at d1 d2 okm b2⊢
   unfold ptT
   dsimp only
   walk_at "rd"
   refine⟨w2,rfl,okm,fun M10 hS10=>?_⟩
   have pP:=b4h (stS n2.toNat w2).1
   have e1:eqT (poT (stS n2.toNat w2).1) (poT (stS n2.toNat w2).1)=true:=a0I _ pP
   show _∧_∧_∧_
   refine⟨pP,pP,b6Y _,?_⟩
   rw[e1,if_neg (by decide)]
   exact⟨⟨n2,w2,_,hnx,d2.trans hse,rfl⟩,hS10 _ _ (hS8 _ _ hMq'),(hS'.trans hS8).trans hS10⟩
  ·rintro ρ M' ⟨⟨n',w',x',hmv,hse,rfl⟩,hMq',hS'⟩
   rw[List.length_map,List.take_length] at hmv
   have ok':=b1U ok hmv
   dsimp only at ok'
   rw[hK6]
   walk_at "rd"
   refine⟨w',rfl,ok',fun M9 hS9=>?_⟩
   rw[hse]
   have pP:=b4h (seL n w).1
   have e1:eqT (poT (seL n w).1) (poT (seL n w).1)=true:=a0I _ pP
   show _∧_∧_∧_
   refine⟨pP,pP,b6Y _,?_⟩
   rw[e1]
   exact a0x h (hS'.trans hS9)
 ·exact h.elim
theorem Df.u {P w K mg base n m x ps sp} (D:Df P w K mg base n x ps sp) (h:n≤m:=by decide):Df P w K mg base m x ps sp:=D.mono h
noncomputable abbrev RwA (K:PySem.W.Frag) (x:Str) (f:Addr):Prop:=PySem.W.nsIn K mainGlobals x=some (some (.ref f))
noncomputable abbrev RwL (K:PySem.W.Frag) (x:Str) (s:Stmt) (f:Addr) (oc:Value) (od:Option Addr) (kV dc pm:Value) (an:Option Addr) (cd ct:Value) (sl:Array (Option Value)):Prop:=K.lookup f=some ⟨oc,od,.func (PySem.W.fnOf x x (a6a s) (a3X s) (a0h s) .none kV dc pm an cd ct),sl⟩
noncomputable abbrev RwC (K:PySem.W.Frag) (cd:Value) (x:Str):Prop:=PySem.W.codeIn K cd x=true
noncomputable abbrev RwK (K:PySem.W.Frag) (f:Addr):Prop:=PySem.W.keepIn K (.ref f)=true
theorem c1h {l:PySem.W.OpenLaw} {w:World} {K:PySem.W.Frag} {h:Heap} {mg:Str→Option Value} {fa f1 f2 f3 f4 f5 f6 f7 f8 f9 f10 f11 f12 f13 f14 f15 f16 f17 f18 f19 f20 f21 f22 f23 f24 f25 f26 f27 f28 f29 f30 f31 f32 f33 f34 f35 f36 f37 f38 f39 f40 f41 f42 f43 f44 f45 f46 f47 f48 f49 f50 f51:Addr} (X:K.In h) (G:h.Ns mainGlobals mg) (hfa:mg "law"=some (.ref fa))
  {od1 od2 od3 od4 od5 od6 od7 od8 od9 od10 od11 od12 od13 od14 od15 od16 od17 od18 od19 od20 od21 od22 od23 od24 od25 od26 od27 od28 od29 od30 od31 od32 od33 od34 od35 od36 od37 od38 od39 od40 od41 od42 od43 od44 od45 od46 od47 od48 od49 od50 od51 an1 an2 an3 an4 an5 an6 an7 an8 an9 an10 an11 an12 an13 an14 an15 an16 an17 an18 an19 an20 an21 an22 an23 an24 an25 an26 an27 an28 an29 an30 an31 an32 an33 an34 an35 an36 an37 an38 an39 an40 an41 an42 an43 an44 an45 an46 an47 an48 an49 an50 an51:Option Addr} {sl1 sl2 sl3 sl4 sl5 sl6 sl7 sl8 sl9 sl10 sl11 sl12 sl13 sl14 sl15 sl16 sl17 sl18 sl19 sl20 sl21 sl22 sl23 sl24 sl25 sl26 sl27 sl28 sl29 sl30 sl31 sl32 sl33 sl34 sl35 sl36 sl37 sl38 sl39 sl40 sl41 sl42 sl43 sl44 sl45 sl46 sl47 sl48 sl49 sl50 sl51:Array (Option Value)} {oc1 oc2 oc3 oc4 oc5 oc6 oc7 oc8 oc9 oc10 oc11 oc12 oc13 oc14 oc15 oc16 oc17 oc18 oc19 oc20 oc21 oc22 oc23 oc24 oc25 oc26 oc27 oc28 oc29 oc30 oc31 oc32 oc33 oc34 oc35 oc36 oc37 oc38 oc39 oc40 oc41 oc42 oc43 oc44 oc45 oc46 oc47 oc48 oc49 oc50 oc51 kV1 kV2 kV3 kV4 kV5 kV6 kV7 kV8 kV9 kV10 kV11 kV12 kV13 kV14 kV15 kV16 kV17 kV18 kV19 kV20 kV21 kV22 kV23 kV24 kV25 kV26 kV27 kV28 kV29 kV30 kV31 kV32 kV33 kV34 kV35 kV36 kV37 kV38 kV39 kV40 kV41 kV42 kV43 kV44 kV45 kV46 kV47 kV48 kV49 kV50 kV51 dc1 dc2 dc3 dc4 dc5 dc6 dc7 dc8 dc9 dc10 dc11 dc12 dc13 dc14 dc15 dc16 dc17 dc18 dc19 dc20 dc21 dc22 dc23 dc24 dc25 dc26 dc27 dc28 dc29 dc30 dc31 dc32 dc33 dc34 dc35 dc36 dc37 dc38 dc39 dc40 dc41 dc42 dc43 dc44 dc45 dc46 dc47 dc48 dc49 dc50 dc51 pm1 pm2 pm3 pm4 pm5 pm6 pm7 pm8 pm9 pm10 pm11 pm12 pm13 pm14 pm15 pm16 pm17 pm18 pm19 pm20 pm21 pm22 pm23 pm24 pm25 pm26 pm27 pm28 pm29 pm30 pm31 pm32 pm33 pm34 pm35 pm36 pm37 pm38 pm39 pm40 pm41 pm42 pm43 pm44 pm45 pm46 pm47 pm48 pm49 pm50 pm51 cd1 cd2 cd3 cd4 cd5 cd6 cd7 cd8 cd9 cd10 cd11 cd12 cd13 cd14 cd15 cd16 cd17 cd18 cd19 cd20 cd21 cd22 cd23 cd24 cd25 cd26 cd27 cd28 cd29 cd30 cd31 cd32 cd33 cd34 cd35 cd36 cd37 cd38 cd39 cd40 cd41 cd42 cd43 cd44 cd45 cd46 cd47 cd48 cd49 cd50 cd51 ct1 ct2 ct3 ct4 ct5 ct6 ct7 ct8 ct9 ct10 ct11 ct12 ct13 ct14 ct15 ct16 ct17 ct18 ct19 ct20 ct21 ct22 ct23 ct24 ct25 ct26 ct27 ct28 ct29 ct30 ct31 ct32 ct33 ct34 ct35 ct36 ct37 ct38 ct39 ct40 ct41 ct42 ct43 ct44 ct45 ct46 ct47 ct48 ct49 ct50 ct51:Value}
  (a1:RwA K "is_letter" f1) (l1:RwL K "is_letter" a3L f1 oc1 od1 kV1 dc1 pm1 an1 cd1 ct1 sl1) (c1:RwC K cd1 "is_letter") (k1:RwK K f1)
  (a2:RwA K "is_word" f2) (l2:RwL K "is_word" a4k f2 oc2 od2 kV2 dc2 pm2 an2 cd2 ct2 sl2) (c2:RwC K cd2 "is_word") (k2:RwK K f2)
  (a3:RwA K "is_plait" f3) (l3:RwL K "is_plait" a4B f3 oc3 od3 kV3 dc3 pm3 an3 cd3 ct3 sl3) (c3:RwC K cd3 "is_plait") (k3:RwK K f3)
  (a4:RwA K "looked" f4) (l4:RwL K "looked" a6u f4 oc4 od4 kV4 dc4 pm4 an4 cd4 ct4 sl4) (c4:RwC K cd4 "looked") (k4:RwK K f4)
  (a5:RwA K "exchanged" f5) (l5:RwL K "exchanged" a3M f5 oc5 od5 kV5 dc5 pm5 an5 cd5 ct5 sl5) (c5:RwC K cd5 "exchanged") (k5:RwK K f5)
  (a6:RwA K "flipped_letter" f6) (l6:RwL K "flipped_letter" a1D f6 oc6 od6 kV6 dc6 pm6 an6 cd6 ct6 sl6) (c6:RwC K cd6 "flipped_letter") (k6:RwK K f6)
  (a7:RwA K "flipped" f7) (l7:RwL K "flipped" a4l f7 oc7 od7 kV7 dc7 pm7 an7 cd7 ct7 sl7) (c7:RwC K cd7 "flipped") (k7:RwK K f7)
  (a8:RwA K "looked_word" f8) (l8:RwL K "looked_word" a2A f8 oc8 od8 kV8 dc8 pm8 an8 cd8 ct8 sl8) (c8:RwC K cd8 "looked_word") (k8:RwK K f8)
  (a9:RwA K "can_far" f9) (l9:RwL K "can_far" a5D f9 oc9 od9 kV9 dc9 pm9 an9 cd9 ct9 sl9) (c9:RwC K cd9 "can_far") (k9:RwK K f9)
  (a10:RwA K "can_three" f10) (l10:RwL K "can_three" a3N f10 oc10 od10 kV10 dc10 pm10 an10 cd10 ct10 sl10) (c10:RwC K cd10 "can_three") (k10:RwK K f10)
  (a11:RwA K "can_out" f11) (l11:RwL K "can_out" a5C f11 oc11 od11 kV11 dc11 pm11 an11 cd11 ct11 sl11) (c11:RwC K cd11 "can_out") (k11:RwK K f11)
  (a12:RwA K "signed" f12) (l12:RwL K "signed" a6s f12 oc12 od12 kV12 dc12 pm12 an12 cd12 ct12 sl12) (c12:RwC K cd12 "signed") (k12:RwK K f12)
  (a13:RwA K "with_three" f13) (l13:RwL K "with_three" a3b f13 oc13 od13 kV13 dc13 pm13 an13 cd13 ct13 sl13) (c13:RwC K cd13 "with_three") (k13:RwK K f13)
  (a14:RwA K "with_in" f14) (l14:RwL K "with_in" a5y f14 oc14 od14 kV14 dc14 pm14 an14 cd14 ct14 sl14) (c14:RwC K cd14 "with_in") (k14:RwK K f14)
  (a15:RwA K "done" f15) (l15:RwL K "done" b1E f15 oc15 od15 kV15 dc15 pm15 an15 cd15 ct15 sl15) (c15:RwC K cd15 "done") (k15:RwK K f15)
  (a16:RwA K "stepped" f16) (l16:RwL K "stepped" a5z f16 oc16 od16 kV16 dc16 pm16 an16 cd16 ct16 sl16) (c16:RwC K cd16 "stepped") (k16:RwK K f16)
  (a17:RwA K "sign_of" f17) (l17:RwL K "sign_of" a5A f17 oc17 od17 kV17 dc17 pm17 an17 cd17 ct17 sl17) (c17:RwC K cd17 "sign_of") (k17:RwK K f17)
  (a18:RwA K "turns" f18) (l18:RwL K "turns" a6G f18 oc18 od18 kV18 dc18 pm18 an18 cd18 ct18 sl18) (c18:RwC K cd18 "turns") (k18:RwK K f18)
  (a19:RwA K "with_round" f19) (l19:RwL K "with_round" a3c f19 oc19 od19 kV19 dc19 pm19 an19 cd19 ct19 sl19) (c19:RwC K cd19 "with_round") (k19:RwK K f19)
  (a20:RwA K "with_back" f20) (l20:RwL K "with_back" a3K f20 oc20 od20 kV20 dc20 pm20 an20 cd20 ct20 sl20) (c20:RwC K cd20 "with_back") (k20:RwK K f20)
  (a21:RwA K "with_less" f21) (l21:RwL K "with_less" a2M f21 oc21 od21 kV21 dc21 pm21 an21 cd21 ct21 sl21) (c21:RwC K cd21 "with_less") (k21:RwK K f21)
  (a22:RwA K "with_more" f22) (l22:RwL K "with_more" a3I f22 oc22 od22 kV22 dc22 pm22 an22 cd22 ct22 sl22) (c22:RwC K cd22 "with_more") (k22:RwK K f22)
  (a23:RwA K "with_step" f23) (l23:RwL K "with_step" a3H f23 oc23 od23 kV23 dc23 pm23 an23 cd23 ct23 sl23) (c23:RwC K cd23 "with_step") (k23:RwK K f23)
  (a24:RwA K "moved" f24) (l24:RwL K "moved" a8j f24 oc24 od24 kV24 dc24 pm24 an24 cd24 ct24 sl24) (c24:RwC K cd24 "moved") (k24:RwK K f24)
  (a25:RwA K "without_noughts" f25) (l25:RwL K "without_noughts" a1b f25 oc25 od25 kV25 dc25 pm25 an25 cd25 ct25 sl25) (c25:RwC K cd25 "without_noughts") (k25:RwK K f25)
  (a26:RwA K "added" f26) (l26:RwL K "added" a8k f26 oc26 od26 kV26 dc26 pm26 an26 cd26 ct26 sl26) (c26:RwC K cd26 "added") (k26:RwK K f26)
  (a27:RwA K "multiplied" f27) (l27:RwL K "multiplied" a3e f27 oc27 od27 kV27 dc27 pm27 an27 cd27 ct27 sl27) (c27:RwC K cd27 "multiplied") (k27:RwK K f27)
  (a28:RwA K "loop_worths" f28) (l28:RwL K "loop_worths" a2z f28 oc28 od28 kV28 dc28 pm28 an28 cd28 ct28 sl28) (c28:RwC K cd28 "loop_worths") (k28:RwK K f28)
  (a29:RwA K "plain_nest" f29) (l29:RwL K "plain_nest" a3d f29 oc29 od29 kV29 dc29 pm29 an29 cd29 ct29 sl29) (c29:RwC K cd29 "plain_nest") (k29:RwK K f29)
  (a30:RwA K "makes_loop" f30) (l30:RwL K "makes_loop" a3f f30 oc30 od30 kV30 dc30 pm30 an30 cd30 ct30 sl30) (c30:RwC K cd30 "makes_loop") (k30:RwK K f30)
  (a31:RwA K "with_hook" f31) (l31:RwL K "with_hook" a3J f31 oc31 od31 kV31 dc31 pm31 an31 cd31 ct31 sl31) (c31:RwC K cd31 "with_hook") (k31:RwK K f31)
  (a32:RwA K "put_in" f32) (l32:RwL K "put_in" a6t f32 oc32 od32 kV32 dc32 pm32 an32 cd32 ct32 sl32) (c32:RwC K cd32 "put_in") (k32:RwK K f32)
  (a33:RwA K "with_letter" f33) (l33:RwL K "with_letter" a2y f33 oc33 od33 kV33 dc33 pm33 an33 cd33 ct33 sl33) (c33:RwC K cd33 "with_letter") (k33:RwK K f33)
  (a34:RwA K "loops_of_nest" f34) (l34:RwL K "loops_of_nest" a1O f34 oc34 od34 kV34 dc34 pm34 an34 cd34 ct34 sl34) (c34:RwC K cd34 "loops_of_nest") (k34:RwK K f34)
  (a35:RwA K "by_nests" f35) (l35:RwL K "by_nests" a4C f35 oc35 od35 kV35 dc35 pm35 an35 cd35 ct35 sl35) (c35:RwC K cd35 "by_nests") (k35:RwK K f35)
  (a36:RwA K "settled" f36) (l36:RwL K "settled" a5B f36 oc36 od36 kV36 dc36 pm36 an36 cd36 ct36 sl36) (c36:RwC K cd36 "settled") (k36:RwK K f36)
  (a37:RwA K "_law_state" f37) (l37:RwL K "_law_state" a3h f37 oc37 od37 kV37 dc37 pm37 an37 cd37 ct37 sl37) (c37:RwC K cd37 "_law_state") (k37:RwK K f37)
  (a38:RwA K "_law_take" f38) (l38:RwL K "_law_take" a3O f38 oc38 od38 kV38 dc38 pm38 an38 cd38 ct38 sl38) (c38:RwC K cd38 "_law_take") (k38:RwK K f38)
  (a39:RwA K "_law_letter" f39) (l39:RwL K "_law_letter" a2B f39 oc39 od39 kV39 dc39 pm39 an39 cd39 ct39 sl39) (c39:RwC K cd39 "_law_letter") (k39:RwK K f39)
  (a40:RwA K "_law_plait" f40) (l40:RwL K "_law_plait" a3i f40 oc40 od40 kV40 dc40 pm40 an40 cd40 ct40 sl40) (c40:RwC K cd40 "_law_plait") (k40:RwK K f40)
  (a41:RwA K "_law_sign" f41) (l41:RwL K "_law_sign" a3P f41 oc41 od41 kV41 dc41 pm41 an41 cd41 ct41 sl41) (c41:RwC K cd41 "_law_sign") (k41:RwK K f41)
  (a42:RwA K "_law_three" f42) (l42:RwL K "_law_three" a3g f42 oc42 od42 kV42 dc42 pm42 an42 cd42 ct42 sl42) (c42:RwC K cd42 "_law_three") (k42:RwK K f42)
  (a43:RwA K "_law_after" f43) (l43:RwL K "_law_after" a3k f43 oc43 od43 kV43 dc43 pm43 an43 cd43 ct43 sl43) (c43:RwC K cd43 "_law_after") (k43:RwK K f43)
  (a44:RwA K "_law_can" f44) (l44:RwL K "_law_can" a3s f44 oc44 od44 kV44 dc44 pm44 an44 cd44 ct44 sl44) (c44:RwC K cd44 "_law_can") (k44:RwK K f44)
  (a45:RwA K "_law_any_step" f45) (l45:RwL K "_law_any_step" a1P f45 oc45 od45 kV45 dc45 pm45 an45 cd45 ct45 sl45) (c45:RwC K cd45 "_law_any_step") (k45:RwK K f45)
  (a46:RwA K "_law_moved" f46) (l46:RwL K "_law_moved" a2e f46 oc46 od46 kV46 dc46 pm46 an46 cd46 ct46 sl46) (c46:RwC K cd46 "_law_moved") (k46:RwK K f46)
  (a47:RwA K "_law_why_not" f47) (l47:RwL K "_law_why_not" a1w f47 oc47 od47 kV47 dc47 pm47 an47 cd47 ct47 sl47) (c47:RwC K cd47 "_law_why_not") (k47:RwK K f47)
  (a48:RwA K "_law_any_move" f48) (l48:RwL K "_law_any_move" a1Q f48 oc48 od48 kV48 dc48 pm48 an48 cd48 ct48 sl48) (c48:RwC K cd48 "_law_any_move") (k48:RwK K f48)
  (a49:RwA K "_law_moves" f49) (l49:RwL K "_law_moves" a3j f49 oc49 od49 kV49 dc49 pm49 an49 cd49 ct49 sl49) (c49:RwC K cd49 "_law_moves") (k49:RwK K f49)
  (a50:RwA K "_law_due" f50) (l50:RwL K "_law_due" a2H f50 oc50 od50 kV50 dc50 pm50 an50 cd50 ct50 sl50) (c50:RwC K cd50 "_law_due") (k50:RwK K f50)
  (a51:RwA K "law" f51) (l51:RwL K "law" b0K f51 oc51 od51 kV51 dc51 pm51 an51 cd51 ct51 sl51) (c51:RwC K cd51 "law") (k51:RwK K f51)
  (z_abs:PySem.W.nsIn K mainGlobals "abs"=some none)
  (z_all:PySem.W.nsIn K mainGlobals "all"=some none)
  (z_dict:PySem.W.nsIn K mainGlobals "dict"=some none)
  (z_enumerate:PySem.W.nsIn K mainGlobals "enumerate"=some none)
  (z_int:PySem.W.nsIn K mainGlobals "int"=some none)
  (z_len:PySem.W.nsIn K mainGlobals "len"=some none)
  (z_list:PySem.W.nsIn K mainGlobals "list"=some none)
  (z_range:PySem.W.nsIn K mainGlobals "range"=some none)
  (z_sorted:PySem.W.nsIn K mainGlobals "sorted"=some none)
  (z_sum:PySem.W.nsIn K mainGlobals "sum"=some none)
  (z_tuple:PySem.W.nsIn K mainGlobals "tuple"=some none)
  {u_LOOP:Addr} (g_LOOP:PySem.W.nsIn K mainGlobals "LOOP"=some (some (.ref u_LOOP)))
  {n_LOOP:Nat} {s_LOOP:Array (Option Value)} {u_LOOP_0:Addr} {u_LOOP_1:Addr} (l_LOOP:K.lookup u_LOOP=some ⟨.type "tuple",none,.seq #[.ref u_LOOP_0,.ref u_LOOP_1] n_LOOP,s_LOOP⟩)
  {n_LOOP_0:Nat} {s_LOOP_0:Array (Option Value)} {t_LOOP_0_0:Tok} {t_LOOP_0_1:Tok} (l_LOOP_0:K.lookup u_LOOP_0=some ⟨.type "tuple",none,.seq #[.int (-2) t_LOOP_0_0,.int (-1) t_LOOP_0_1] n_LOOP_0,s_LOOP_0⟩)
  {n_LOOP_1:Nat} {s_LOOP_1:Array (Option Value)} {t_LOOP_1_0:Tok} {t_LOOP_1_1:Tok} (l_LOOP_1:K.lookup u_LOOP_1=some ⟨.type "tuple",none,.seq #[.int (2) t_LOOP_1_0,.int (-1) t_LOOP_1_1] n_LOOP_1,s_LOOP_1⟩)
  {tk_MOST_LETTERS:Tok} (g_MOST_LETTERS:PySem.W.nsIn K mainGlobals "MOST_LETTERS"=some (some (.int 16 tk_MOST_LETTERS)))
  {tk_MOST_LETTERS_IN_STEPS:Tok} (g_MOST_LETTERS_IN_STEPS:PySem.W.nsIn K mainGlobals "MOST_LETTERS_IN_STEPS"=some (some (.int 4000 tk_MOST_LETTERS_IN_STEPS)))
  {tk_MOST_STRANDS:Tok} (g_MOST_STRANDS:PySem.W.nsIn K mainGlobals "MOST_STRANDS"=some (some (.int 6 tk_MOST_STRANDS)))
  {u_NOUGHT:Addr} (g_NOUGHT:PySem.W.nsIn K mainGlobals "NOUGHT"=some (some (.ref u_NOUGHT)))
  {n_NOUGHT:Nat} {s_NOUGHT:Array (Option Value)} (l_NOUGHT:K.lookup u_NOUGHT=some ⟨.type "tuple",none,.seq #[] n_NOUGHT,s_NOUGHT⟩)
  {u_ONE:Addr} (g_ONE:PySem.W.nsIn K mainGlobals "ONE"=some (some (.ref u_ONE)))
  {n_ONE:Nat} {s_ONE:Array (Option Value)} {u_ONE_0:Addr} (l_ONE:K.lookup u_ONE=some ⟨.type "tuple",none,.seq #[.ref u_ONE_0] n_ONE,s_ONE⟩)
  {n_ONE_0:Nat} {s_ONE_0:Array (Option Value)} {t_ONE_0_0:Tok} {t_ONE_0_1:Tok} (l_ONE_0:K.lookup u_ONE_0=some ⟨.type "tuple",none,.seq #[.int (0) t_ONE_0_0,.int (1) t_ONE_0_1] n_ONE_0,s_ONE_0⟩)
  {dC:Addr} {e_can:Nat} {t_can1 t_can2 t_can3:Tok} (n_can:PySem.W.nsIn K mainGlobals "CAN"=some (some (.ref dC))) (l_can:K.lookup dC=some ⟨.type "dict",none,.dict #[⟨PyData.keyHash w.params "far",.str "far" t_can1,.ref f9⟩,⟨PyData.keyHash w.params "three",.str "three" t_can2,.ref f10⟩,⟨PyData.keyHash w.params "out",.str "out" t_can3,.ref f11⟩] e_can,#[]⟩) (s_can:(dC == sysModules)=false)
  : ∃ fd:FuncData,(∀ (s:Shared) (v:Value),BindsTo s fd ⟨[v],[]⟩ [("script",v)])∧∀ base:Heap,K.In base→base.Ns mainGlobals mg→FnOk l.prog w K mg base CX0 8 fa fd ["script"] (dSp K a7B):=by
 have e:=hfa.symm.trans (PySem.W.mg_of X G a51)
 cases e
 have mo:∀ {x:Str} {f:Addr},RwA K x f→mg x=some (.ref f):=fun a=>PySem.W.mg_of X G a
 have Z:Zs K mg:=⟨PySem.W.mg_none_of X G z_abs,PySem.W.mg_none_of X G z_all,PySem.W.mg_none_of X G z_dict,PySem.W.mg_none_of X G z_enumerate,PySem.W.mg_none_of X G z_int,PySem.W.mg_none_of X G z_len,PySem.W.mg_none_of X G z_list,PySem.W.mg_none_of X G z_range,PySem.W.mg_none_of X G z_sorted,PySem.W.mg_none_of X G z_sum,PySem.W.mg_none_of X G z_tuple,⟨u_LOOP,PySem.W.mg_of X G g_LOOP,fun H=>(a3u (xs:=[.ref u_LOOP_0,.ref u_LOOP_1]) l_LOOP (by show 2≤1000;decide) (.cons rfl (.cons rfl .nil)) (a1t (a3u (xs:=[.int (-2),.int (-1)]) l_LOOP_0 (by show 2≤1000;decide) (.cons ⟨_,rfl⟩ (.cons ⟨_,rfl⟩ .nil)) (a1t a0K (a1t a0K a3t))) (a1t (a3u (xs:=[.int (2),.int (-1)]) l_LOOP_1 (by show 2≤1000;decide) (.cons ⟨_,rfl⟩ (.cons ⟨_,rfl⟩ .nil)) (a1t a0K (a1t a0K a3t))) a3t)))⟩,⟨tk_MOST_LETTERS,PySem.W.mg_of X G g_MOST_LETTERS⟩,⟨tk_MOST_LETTERS_IN_STEPS,PySem.W.mg_of X G g_MOST_LETTERS_IN_STEPS⟩,⟨tk_MOST_STRANDS,PySem.W.mg_of X G g_MOST_STRANDS⟩,⟨u_NOUGHT,PySem.W.mg_of X G g_NOUGHT,fun H=>(a3u (xs:=[]) l_NOUGHT (by show 0≤1000;decide) .nil a3t)⟩,⟨u_ONE,PySem.W.mg_of X G g_ONE,fun H=>(a3u (xs:=[.ref u_ONE_0]) l_ONE (by show 1≤1000;decide) (.cons rfl .nil) (a1t (a3u (xs:=[.int (0),.int (1)]) l_ONE_0 (by show 2≤1000;decide) (.cons ⟨_,rfl⟩ (.cons ⟨_,rfl⟩ .nil)) (a1t a0K (a1t a0K a3t))) a3t))⟩⟩
 have F1:=a0w (st:=a3L) l1 c1 k1
 have b1:=F1.binds (ps:=["strands","letter"]) (by walk_at "b2")
 have F2:=a0w (st:=a4k) l2 c2 k2
 have b2:=F2.binds (ps:=["strands","word","most"]) (by walk_at "b3")
 have F3:=a0w (st:=a4B) l3 c3 k3
 have b3:=F3.binds (ps:=["plait"]) (by walk_at "b1")
 have F4:=a0w (st:=a6u) l4 c4 k4
 have b4:=F4.binds (ps:=["plait"]) (by walk_at "b1")
 have F5:=a0w (st:=a3M) l5 c5 k5
 have b5:=F5.binds (ps:=["row","at"]) (by walk_at "b2")
 have F6:=a0w (st:=a1D) l6 c6 k6
 have b6:=F6.binds (ps:=["strands","letter"]) (by walk_at "b2")
 have F7:=a0w (st:=a4l) l7 c7 k7
 have b7:=F7.binds (ps:=["plait"]) (by walk_at "b1")
 have F8:=a0w (st:=a2A) l8 c8 k8
 have b8:=F8.binds (ps:=["strands","word"]) (by walk_at "b2")
 have F9:=a0w (st:=a5D) l9 c9 k9
 have b9:=F9.binds (ps:=["word","at"]) (by walk_at "b2")
 have F10:=a0w (st:=a3N) l10 c10 k10
 have b10:=F10.binds (ps:=["word","at"]) (by walk_at "b2")
 have F11:=a0w (st:=a5C) l11 c11 k11
 have b11:=F11.binds (ps:=["word","at"]) (by walk_at "b2")
 have F12:=a0w (st:=a6s) l12 c12 k12
 have b12:=F12.binds (ps:=["number","letter"]) (by walk_at "b2")
 have F13:=a0w (st:=a3b) l13 c13 k13
 have b13:=F13.binds (ps:=["word","at"]) (by walk_at "b2")
 have F14:=a0w (st:=a5y) l14 c14 k14
 have b14:=F14.binds (ps:=["strands","word","at","letter"]) (by walk_at "b4")
 have F15:=a0w (st:=b1E) l15 c15 k15
 have b15:=F15.binds (ps:=["strands","word","step"]) (by walk_at "b3")
 have F16:=a0w (st:=a5z) l16 c16 k16
 have b16:=F16.binds (ps:=["strands","word","step"]) (by walk_at "b3")
 have F17:=a0w (st:=a5A) l17 c17 k17
 have b17:=F17.binds (ps:=["letter"]) (by walk_at "b1")
 have F18:=a0w (st:=a6G) l18 c18 k18
 have b18:=F18.binds (ps:=["plait"]) (by walk_at "b1")
 have F19:=a0w (st:=a3c) l19 c19 k19
 have b19:=F19.binds (ps:=["plait"]) (by walk_at "b1")
 have F20:=a0w (st:=a3K) l20 c20 k20
 have b20:=F20.binds (ps:=["plait"]) (by walk_at "b1")
 have F21:=a0w (st:=a2M) l21 c21 k21
 have b21:=F21.binds (ps:=["plait"]) (by walk_at "b1")
 have F22:=a0w (st:=a3I) l22 c22 k22
 have b22:=F22.binds (ps:=["plait","sign"]) (by walk_at "b2")
 have F23:=a0w (st:=a3H) l23 c23 k23
 have b23:=F23.binds (ps:=["plait","step"]) (by walk_at "b2")
 have F24:=a0w (st:=a8j) l24 c24 k24
 have b24:=F24.binds (ps:=["plait","move"]) (by walk_at "b2")
 have F25:=a0w (st:=a1b) l25 c25 k25
 have b25:=F25.binds (ps:=["counts"]) (by walk_at "b1")
 have F26:=a0w (st:=a8k) l26 c26 k26
 have b26:=F26.binds (ps:=["one","other"]) (by walk_at "b2")
 have F27:=a0w (st:=a3e) l27 c27 k27
 have b27:=F27.binds (ps:=["one","other"]) (by walk_at "b2")
 have F28:=a0w (st:=a2z) l28 c28 k28
 have b28:=F28.binds (ps:=["most"]) (by walk_at "b1")
 have F29:=a0w (st:=a3d) l29 c29 k29
 have b29:=F29.binds (ps:=["strands"]) (by walk_at "b1")
 have F30:=a0w (st:=a3f) l30 c30 k30
 have b30:=F30.binds (ps:=["nest","number"]) (by walk_at "b2")
 have F31:=a0w (st:=a3J) l31 c31 k31
 have b31:=F31.binds (ps:=["nest","number"]) (by walk_at "b2")
 have F32:=a0w (st:=a6t) l32 c32 k32
 have b32:=F32.binds (ps:=["worths","nest","worth"]) (by walk_at "b3")
 have F33:=a0w (st:=a2y) l33 c33 k33
 have b33:=F33.binds (ps:=["worths","letter"]) (by walk_at "b2")
 have F34:=a0w (st:=a1O) l34 c34 k34
 have b34:=F34.binds (ps:=["nest"]) (by walk_at "b1")
 have F35:=a0w (st:=a4C) l35 c35 k35
 have b35:=F35.binds (ps:=["plait"]) (by walk_at "b1")
 have F36:=a0w (st:=a5B) l36 c36 k36
 have b36:=F36.binds (ps:=["plait"]) (by walk_at "b1")
 have F37:=a0w (st:=a3h) l37 c37 k37
 have b37:=F37.binds (ps:=["script","k"]) (by walk_at "b2")
 have F38:=a0w (st:=a3O) l38 c38 k38
 have b38:=F38.binds (ps:=["state","many"]) (by walk_at "b2")
 have F39:=a0w (st:=a2B) l39 c39 k39
 have b39:=F39.binds (ps:=["state","strands"]) (by walk_at "b2")
 have F40:=a0w (st:=a3i) l40 c40 k40
 have b40:=F40.binds (ps:=["state","most","longest"]) (by walk_at "b3")
 have F41:=a0w (st:=a3P) l41 c41 k41
 have b41:=F41.binds (ps:=["letter"]) (by walk_at "b1")
 have F42:=a0w (st:=a3g) l42 c42 k42
 have b42:=F42.binds (ps:=["part"]) (by walk_at "b1")
 have F43:=a0w (st:=a3k) l43 c43 k43
 have b43:=F43.binds (ps:=["strands","word","step"]) (by walk_at "b3")
 have F44:=a0w (st:=a3s) l44 c44 k44
 have b44:=F44.binds (ps:=["strands","word"]) (by walk_at "b2")
 have F45:=a0w (st:=a1P) l45 c45 k45
 have b45:=F45.binds (ps:=["state","strands","word","longest"]) (by walk_at "b4")
 have F46:=a0w (st:=a2e) l46 c46 k46
 have b46:=F46.binds (ps:=["plait","move"]) (by walk_at "b2")
 have F47:=a0w (st:=a1w) l47 c47 k47
 have b47:=F47.binds (ps:=["plait","move"]) (by walk_at "b2")
 have F48:=a0w (st:=a1Q) l48 c48 k48
 have b48:=F48.binds (ps:=["state","plait","longest"]) (by walk_at "b3")
 have F49:=a0w (st:=a3j) l49 c49 k49
 have b49:=F49.binds (ps:=["state","plait","many","most","longest"]) (by walk_at "b5")
 have F50:=a0w (st:=a2H) l50 c50 k50
 have b50:=F50.binds (ps:=["sums","plait","move"]) (by walk_at "b3")
 have F51:=a0w (st:=b0K) l51 c51 k51
 refine⟨PySem.W.fnOf "law" "law" (a6a b0K) (a3X b0K) (a0h b0K) .none kV51 dc51 pm51 an51 cd51 ct51,fun s v=>.of_eq rfl,fun base _ _=>?_⟩
 have CN:CanN l.prog w K mg dC f9 f10 f11:=⟨b9f [("far",t_can1,f9),("three",t_can2,f10),("out",t_can3,f11)] l_can (by show (["far","three","out"]:List Str).Nodup;decide) s_can,PySem.W.mg_of X G n_can,PySem.W.mg_of X G a9,PySem.W.mg_of X G a10,PySem.W.mg_of X G a11,fun q hq=>by
  simp only[List.mem_cons,List.not_mem_nil,or_false] at hq
  rcases hq with rfl | rfl | rfl
  ·exact k9
  ·exact k10
  ·exact k11
  ⟩
 have D1:=a9y (P:=l.prog) (w:=w) (base:=base) (n:=0) F1 (mo a1) b1 Z 
 have D2:=b2S (P:=l.prog) (w:=w) (base:=base) (n:=1) F2 (mo a2) b2 Z D1.u
 have D3:=b0U (P:=l.prog) (w:=w) (base:=base) (n:=2) F3 (mo a3) b3 Z D2.u
 have D4:=b4s (P:=l.prog) (w:=w) (base:=base) (n:=3) F4 (mo a4) b4 Z D3.u
 have D5:=a9z (P:=l.prog) (w:=w) (base:=base) (n:=0) F5 (mo a5) b5 Z 
 have D6:=a5U (P:=l.prog) (w:=w) (base:=base) (n:=0) F6 (mo a6) b6 Z 
 have D7:=b2T (P:=l.prog) (w:=w) (base:=base) (n:=4) F7 (mo a7) b7 Z D4.u D6.u
 have D8:=a7o (P:=l.prog) (w:=w) (base:=base) (n:=2) F8 (mo a8) b8 Z D2.u
 have D9:=b2V (P:=l.prog) (w:=w) (base:=base) (n:=0) F9 (mo a9) b9 Z 
 have D10:=a9A (P:=l.prog) (w:=w) (base:=base) (n:=0) F10 (mo a10) b10 Z 
 have D11:=b2U (P:=l.prog) (w:=w) (base:=base) (n:=0) F11 (mo a11) b11 Z 
 have D12:=b4q (P:=l.prog) (w:=w) (base:=base) (n:=0) F12 (mo a12) b12 Z 
 have D13:=a8u (P:=l.prog) (w:=w) (base:=base) (n:=1) F13 (mo a13) b13 Z D12.u
 have D14:=b2O (P:=l.prog) (w:=w) (base:=base) (n:=1) F14 (mo a14) b14 Z D1.u
 have D15:=b8v (P:=l.prog) (w:=w) (base:=base) (n:=2) F15 (mo a15) b15 Z CN D14.u D9.u D10.u D11.u D5.u D13.u
 have D16:=b2P (P:=l.prog) (w:=w) (base:=base) (n:=3) F16 (mo a16) b16 Z D8.u D15.u
 have D17:=b2Q (P:=l.prog) (w:=w) (base:=base) (n:=0) F17 (mo a17) b17 Z 
 have D18:=b6i (P:=l.prog) (w:=w) (base:=base) (n:=4) F18 (mo a18) b18 Z D4.u D17.u
 have D19:=a8v (P:=l.prog) (w:=w) (base:=base) (n:=0) F19 (mo a19) b19 Z 
 have D20:=a9x (P:=l.prog) (w:=w) (base:=base) (n:=0) F20 (mo a20) b20 Z 
 have D21:=a9v (P:=l.prog) (w:=w) (base:=base) (n:=0) F21 (mo a21) b21 Z 
 have D22:=a9u (P:=l.prog) (w:=w) (base:=base) (n:=0) F22 (mo a22) b22 Z 
 have D23:=a9t (P:=l.prog) (w:=w) (base:=base) (n:=4) F23 (mo a23) b23 Z D16.u
 have D24:=b6j (P:=l.prog) (w:=w) (base:=base) (n:=5) F24 (mo a24) b24 Z D4.u D22.u D23.u D19.u D20.u D21.u D7.u
 have D25:=a5G (P:=l.prog) (w:=w) (base:=base) (n:=0) F25 (mo a25) b25 Z 
 have D26:=b6k (P:=l.prog) (w:=w) (base:=base) (n:=1) F26 (mo a26) b26 Z D25.u
 have D27:=a8x (P:=l.prog) (w:=w) (base:=base) (n:=1) F27 (mo a27) b27 Z D25.u
 have D28:=a7n (P:=l.prog) (w:=w) (base:=base) (n:=2) F28 (mo a28) b28 Z D27.u
 have D29:=a8w (P:=l.prog) (w:=w) (base:=base) (n:=0) F29 (mo a29) b29 Z 
 have D30:=a8y (P:=l.prog) (w:=w) (base:=base) (n:=0) F30 (mo a30) b30 Z 
 have D31:=a9w (P:=l.prog) (w:=w) (base:=base) (n:=0) F31 (mo a31) b31 Z 
 have D32:=b4r (P:=l.prog) (w:=w) (base:=base) (n:=2) F32 (mo a32) b32 Z D26.u
 have D33:=a7m (P:=l.prog) (w:=w) (base:=base) (n:=3) F33 (mo a33) b33 Z D17.u D32.u D27.u D30.u D31.u
 have D34:=a6l (P:=l.prog) (w:=w) (base:=base) (n:=0) F34 (mo a34) b34 Z 
 have D35:=b0V (P:=l.prog) (w:=w) (base:=base) (n:=4) F35 (mo a35) b35 Z D4.u D29.u D33.u D28.u D26.u D27.u D34.u
 have D36:=b2R (P:=l.prog) (w:=w) (base:=base) (n:=5) F36 (mo a36) b36 Z D35.u D18.u D27.u
 have D37:=a8A (P:=l.prog) (w:=w) (base:=base) (n:=0) F37 (mo a37) b37 Z 
 have D38:=a9B (P:=l.prog) (w:=w) (base:=base) (n:=0) F38 (mo a38) b38 Z 
 have D39:=a7p (P:=l.prog) (w:=w) (base:=base) (n:=1) F39 (mo a39) b39 Z D38.u
 have D40:=a8B (P:=l.prog) (w:=w) (base:=base) (n:=2) F40 (mo a40) b40 Z D38.u D39.u
 have D41:=a9C (P:=l.prog) (w:=w) (base:=base) (n:=0) F41 (mo a41) b41 Z 
 have D42:=a8z (P:=l.prog) (w:=w) (base:=base) (n:=1) F42 (mo a42) b42 Z D41.u
 have D43:=a8E (P:=l.prog) (w:=w) (base:=base) (n:=2) F43 (mo a43) b43 Z D42.u
 have D44:=b0X (P:=l.prog) (w:=w) (base:=base) (n:=3) F44 (mo a44) b44 Z D43.u
 have D45:=a6m (P:=l.prog) (w:=w) (base:=base) (n:=4) F45 (mo a45) b45 Z D44.u D38.u D39.u
 have D46:=a8D (P:=l.prog) (w:=w) (base:=base) (n:=3) F46 (mo a46) b46 Z D41.u D43.u
 have D47:=a6P (P:=l.prog) (w:=w) (base:=base) (n:=3) F47 (mo a47) b47 Z D43.u
 have D48:=a6n (P:=l.prog) (w:=w) (base:=base) (n:=5) F48 (mo a48) b48 Z D38.u D45.u
 have D49:=a8C (P:=l.prog) (w:=w) (base:=base) (n:=6) F49 (mo a49) b49 Z D48.u D47.u D46.u
 have D50:=b0W (P:=l.prog) (w:=w) (base:=base) (n:=1) F50 (mo a50) b50 Z D41.u
 exact c0A (n:=7) F51 Z D37.u D40.u D36.u D49.u D38.u D35.u D50.u D24.u
end L2
namespace PySem.W.Fast
theorem tw14766682542793684743:True:=⟨⟩
theorem tw7504718688849013429:True:=⟨⟩
theorem tw10404921337965540222:True:=⟨⟩
theorem tw13097222383262998607:True:=⟨⟩
theorem tw7503958461500465853:True:=⟨⟩
theorem tw7973930013242171520:True:=⟨⟩
theorem tw7870429374354837971:True:=⟨⟩
theorem tw14701899469979106399:True:=⟨⟩
theorem tw16182001724463492249:True:=⟨⟩
theorem tw12764770985332302987:True:=⟨⟩
theorem tw16426018869275423692:True:=⟨⟩
theorem tw1575616262442665779:True:=⟨⟩
theorem tw8151437646038997637:True:=⟨⟩
theorem tw645575933620726574:True:=⟨⟩
theorem tw1589167939737560958:True:=⟨⟩
theorem tw15405822376026293452:True:=⟨⟩
theorem tw16015584300608232558:True:=⟨⟩
theorem tw3749401399470677232:True:=⟨⟩
theorem tw5720268372023970448:True:=⟨⟩
theorem tw9656075359527907575:True:=⟨⟩
theorem tw1901927816023267682:True:=⟨⟩
theorem tw56185958791624981:True:=⟨⟩
theorem tw10365008229132859077:True:=⟨⟩
theorem tw12421404042065594527:True:=⟨⟩
theorem tw3044538784610014421:True:=⟨⟩
theorem tw9607334476632322648:True:=⟨⟩
theorem tw15046422308652623502:True:=⟨⟩
theorem tw10877104727954051773:True:=⟨⟩
theorem tw5136429573987299125:True:=⟨⟩
theorem tw11668403749939607709:True:=⟨⟩
theorem tw15318932592078730975:True:=⟨⟩
theorem tw8267972683064740944:True:=⟨⟩
theorem tw3309709469365376376:True:=⟨⟩
theorem tw16505071349403593530:True:=⟨⟩
theorem tw6940942687612410135:True:=⟨⟩
theorem tw13516662277745351007:True:=⟨⟩
theorem tw12216537757068371622:True:=⟨⟩
theorem tw387093743449877558:True:=⟨⟩
theorem tw7919250328596288340:True:=⟨⟩
theorem tw15801857680419359166:True:=⟨⟩
theorem tw11870155463741580269:True:=⟨⟩
theorem tw3093638354662458891:True:=⟨⟩
theorem tw9578919345553845009:True:=⟨⟩
theorem tw6815725599217547061:True:=⟨⟩
theorem tw12884266232910407858:True:=⟨⟩
theorem tw13349201245690056888:True:=⟨⟩
theorem tw1188580535392035052:True:=⟨⟩
theorem tw9112588458873585494:True:=⟨⟩
theorem tw634263255673377662:True:=⟨⟩
theorem tw9973233895642654829:True:=⟨⟩
theorem tw382707115505384999:True:=⟨⟩
theorem tw5423479034255762553:True:=⟨⟩
theorem tw12614083133599932474:True:=⟨⟩
theorem tw1307027172077808515:True:=⟨⟩
theorem tw1057714027596212775:True:=⟨⟩
theorem tw3728790045683287875:True:=⟨⟩
theorem tw13683554713393696981:True:=⟨⟩
theorem tw3921807575676949785:True:=⟨⟩
theorem tw2388481205849236025:True:=⟨⟩
theorem tw8708083947203816784:True:=⟨⟩
theorem tw16528680858339084704:True:=⟨⟩
theorem tw6498269127066196396:True:=⟨⟩
theorem tw13173703970804613921:True:=⟨⟩
theorem tw7201896335003311395:True:=⟨⟩
theorem tw6694390369484265256:True:=⟨⟩
theorem tw17458912704719921779:True:=⟨⟩
theorem tw10939401742766224078:True:=⟨⟩
theorem tw1562288206596316972:True:=⟨⟩
theorem tw1094403351268740607:True:=⟨⟩
theorem tw2380330329594940629:True:=⟨⟩
theorem tw16775992353886003949:True:=⟨⟩
theorem tw609634004366595:True:=⟨⟩
theorem tw10045583724922786190:True:=⟨⟩
theorem tw14564063406469338701:True:=⟨⟩
theorem tw12879731468672724340:True:=⟨⟩
theorem tw18062608043624467338:True:=⟨⟩
theorem tw8218156021685842870:True:=⟨⟩
theorem tw16373643271100238634:True:=⟨⟩
theorem tw9960489410230273822:True:=⟨⟩
theorem tw8873897848329425470:True:=⟨⟩
theorem tw14375813872247243742:True:=⟨⟩
theorem tw13729760258573499101:True:=⟨⟩
theorem tw1052970196465049391:True:=⟨⟩
theorem tw11504144227420105684:True:=⟨⟩
theorem tw1362595936966197967:True:=⟨⟩
theorem tw18287341451305212945:True:=⟨⟩
theorem tw2222601421694208661:True:=⟨⟩
theorem tw14217132566191848032:True:=⟨⟩
theorem tw503159284506089844:True:=⟨⟩
theorem tw1544086849256948448:True:=⟨⟩
theorem tw17981854936009615720:True:=⟨⟩
theorem tw300414137551889196:True:=⟨⟩
theorem tw7975847570969157112:True:=⟨⟩
theorem tw699653573116499726:True:=⟨⟩
theorem tw12107947307736483431:True:=⟨⟩
theorem tw16798677300088654129:True:=⟨⟩
theorem tw6548788458066139710:True:=⟨⟩
theorem tw9812069209889169851:True:=⟨⟩
theorem tw14362457625307615936:True:=⟨⟩
theorem tw11858372192613718894:True:=⟨⟩
theorem tw4105512900174641350:True:=⟨⟩
theorem tw18256737666832131374:True:=⟨⟩
theorem tw12168599359271605034:True:=⟨⟩
theorem tw5476760981179553603:True:=⟨⟩
theorem tw14346930046498982176:True:=⟨⟩
theorem tw16845354150834994412:True:=⟨⟩
theorem tw2765923582313853889:True:=⟨⟩
theorem tw15190302828551403470:True:=⟨⟩
theorem tw7191662277964375434:True:=⟨⟩
theorem tw15818233118487691520:True:=⟨⟩
theorem tw5045604007135750979:True:=⟨⟩
theorem tw14373051969259354033:True:=⟨⟩
theorem tw6060987182933489094:True:=⟨⟩
theorem tw9745837638049789523:True:=⟨⟩
theorem tw16615323618597754404:True:=⟨⟩
theorem tw7516185997715793726:True:=⟨⟩
theorem tw55650964970987030:True:=⟨⟩
theorem tw6178790751179666878:True:=⟨⟩
theorem tw11523801556305389676:True:=⟨⟩
theorem tw13031965973241870524:True:=⟨⟩
theorem tw1199962654207061712:True:=⟨⟩
theorem tw4698377761338228643:True:=⟨⟩
theorem tw15636733746714770448:True:=⟨⟩
theorem tw7269775618350147474:True:=⟨⟩
theorem tw5657455343990411480:True:=⟨⟩
theorem tw7221605257460400991:True:=⟨⟩
theorem tw4398148166815897371:True:=⟨⟩
theorem tw2109774025593851848:True:=⟨⟩
theorem tw17243875104289510123:True:=⟨⟩
theorem tw3172510541548977965:True:=⟨⟩
theorem tw1611460751228912023:True:=⟨⟩
theorem tw10602392867840533691:True:=⟨⟩
theorem tw5136423318983167345:True:=⟨⟩
theorem tw10606253567063483119:True:=⟨⟩
theorem tw12828377909976612670:True:=⟨⟩
theorem tw13539850773389141911:True:=⟨⟩
theorem tw15520592299156795038:True:=⟨⟩
theorem tw9114164202451537791:True:=⟨⟩
theorem tw12402704095205592848:True:=⟨⟩
theorem tw12923385463019360579:True:=⟨⟩
theorem tw1129757811735417190:True:=⟨⟩
theorem tw7709184491356051633:True:=⟨⟩
theorem tw5012324724976210928:True:=⟨⟩
theorem tw5405401838173489371:True:=⟨⟩
theorem tw4993346615393940571:True:=⟨⟩
theorem tw15833911567154777898:True:=⟨⟩
theorem tw11497154052270659911:True:=⟨⟩
theorem tw5745794246103027614:True:=⟨⟩
theorem tw13086842229279121616:True:=⟨⟩
theorem tw3458030301390068276:True:=⟨⟩
theorem tw3483406627896108849:True:=⟨⟩
theorem tw13451430775877393647:True:=⟨⟩
theorem tw651131646337410041:True:=⟨⟩
theorem tw17139066459402303760:True:=⟨⟩
theorem tw16023507987199264796:True:=⟨⟩
theorem tw12039033403259869932:True:=⟨⟩
theorem tw5505261032002374839:True:=⟨⟩
theorem tw15693341027451255510:True:=⟨⟩
theorem tw17052674074180389078:True:=⟨⟩
theorem tw12967953706017487172:True:=⟨⟩
theorem tw5962077636324649447:True:=⟨⟩
theorem tw12369813517398165578:True:=⟨⟩
theorem tw17828131922510497199:True:=⟨⟩
theorem tw10872284792400808683:True:=⟨⟩
theorem tw10697825484304669039:True:=⟨⟩
theorem tw2811046350679415657:True:=⟨⟩
theorem tw6368232771498917546:True:=⟨⟩
theorem tw4251790895027704476:True:=⟨⟩
theorem tw17127004245645036948:True:=⟨⟩
theorem tw8200838933222147735:True:=⟨⟩
theorem tw3579952376679816800:True:=⟨⟩
theorem tw10395717607345237306:True:=⟨⟩
theorem tw17725547392212349330:True:=⟨⟩
theorem tw16351381674856195646:True:=⟨⟩
theorem tw7859555263189774040:True:=⟨⟩
theorem tw17561638406985146517:True:=⟨⟩
theorem tw9386585968158537923:True:=⟨⟩
theorem tw4913162632716614709:True:=⟨⟩
theorem tw9107105260713776493:True:=⟨⟩
theorem tw5437337947756924775:True:=⟨⟩
theorem tw3108539999102800975:True:=⟨⟩
theorem tw13500068000753917717:True:=⟨⟩
theorem tw9091507764546100022:True:=⟨⟩
theorem tw16884860254104701313:True:=⟨⟩
theorem tw2784730109163346978:True:=⟨⟩
theorem tw4212998089089334454:True:=⟨⟩
theorem tw7331034558774470941:True:=⟨⟩
theorem tw15967078496346031385:True:=⟨⟩
theorem tw49546378730030035:True:=⟨⟩
theorem tw753220634718881738:True:=⟨⟩
theorem tw12565079857499296972:True:=⟨⟩
theorem tw15906092349133792567:True:=⟨⟩
theorem tw4341451606068504413:True:=⟨⟩
theorem tw8115241687421885545:True:=⟨⟩
theorem tw10927210567048307577:True:=⟨⟩
theorem tw11592216880654169276:True:=⟨⟩
theorem tw8219251091659138685:True:=⟨⟩
theorem tw16413891929617492539:True:=⟨⟩
theorem tw2518986753654236651:True:=⟨⟩
theorem tw14855894149120991411:True:=⟨⟩
theorem tw12850706948925139673:True:=⟨⟩
theorem tw3922322263142587304:True:=⟨⟩
theorem tw5006690561536992973:True:=⟨⟩
theorem tw9928123934407727670:True:=⟨⟩
theorem tw17513470982011636047:True:=⟨⟩
theorem tw528474919774814600:True:=⟨⟩
theorem tw6791877711590411926:True:=⟨⟩
theorem tw9875547944278817648:True:=⟨⟩
theorem tw3299305970959795890:True:=⟨⟩
theorem tw8894338603512848257:True:=⟨⟩
theorem tw913498541823874605:True:=⟨⟩
theorem tw8410159372379010321:True:=⟨⟩
theorem tw10793085047435263359:True:=⟨⟩
theorem tw4968882846492914169:True:=⟨⟩
theorem tw14957635418304733051:True:=⟨⟩
theorem tw11597272970453895031:True:=⟨⟩
theorem tw11911437226816902764:True:=⟨⟩
theorem tw5613139484837315946:True:=⟨⟩
theorem tw5495875422252499763:True:=⟨⟩
theorem tw10333851261739796035:True:=⟨⟩
theorem tw14526780492718930768:True:=⟨⟩
theorem tw18377464766842497046:True:=⟨⟩
theorem tw9451864900325282984:True:=⟨⟩
theorem tw6342077535291000734:True:=⟨⟩
theorem tw3952630826243061671:True:=⟨⟩
theorem tw13914706887319933950:True:=⟨⟩
theorem tw15827850596979664049:True:=⟨⟩
theorem tw5852508491763640783:True:=⟨⟩
theorem tw17746113549822747174:True:=⟨⟩
theorem tw9742156555291108355:True:=⟨⟩
theorem tw8360521178998763103:True:=⟨⟩
theorem tw3439589444961904677:True:=⟨⟩
theorem tw1681790728011760504:True:=⟨⟩
theorem tw41708265857276679:True:=⟨⟩
theorem tw17130384254213348637:True:=⟨⟩
theorem tw12230254675957834958:True:=⟨⟩
theorem tw16857013510466559690:True:=⟨⟩
theorem tw2509198399358403557:True:=⟨⟩
theorem tw3603532622891753860:True:=⟨⟩
theorem tw13317460115982637987:True:=⟨⟩
theorem tw16423349496441290907:True:=⟨⟩
theorem tw9252774175492743208:True:=⟨⟩
theorem tw6099744959143293317:True:=⟨⟩
theorem tw12754940710172782604:True:=⟨⟩
theorem tw9826288417056812403:True:=⟨⟩
theorem tw7844347546979659398:True:=⟨⟩
theorem tw6257541135596258274:True:=⟨⟩
theorem tw16987467233586586659:True:=⟨⟩
theorem tw1728308860020921747:True:=⟨⟩
theorem tw14789901294346964016:True:=⟨⟩
theorem tw1144025975397930948:True:=⟨⟩
theorem tw12258595988262637795:True:=⟨⟩
theorem tw5476106462708546306:True:=⟨⟩
theorem tw12022855871126565373:True:=⟨⟩
theorem tw17371369103844131746:True:=⟨⟩
theorem tw4283311022508777543:True:=⟨⟩
theorem tw321067439957717937:True:=⟨⟩
theorem tw5330846738671365964:True:=⟨⟩
theorem tw16636009772394018106:True:=⟨⟩
theorem tw13405732251708622250:True:=⟨⟩
theorem tw9531845061327351067:True:=⟨⟩
theorem tw8461812493682388597:True:=⟨⟩
theorem tw15523867511753155424:True:=⟨⟩
theorem tw9246824631078793397:True:=⟨⟩
theorem tw3206650243625147974:True:=⟨⟩
theorem tw3726221263436463207:True:=⟨⟩
theorem tw791710756447692988:True:=⟨⟩
theorem tw2416399256428537912:True:=⟨⟩
theorem tw9765192637536101838:True:=⟨⟩
theorem tw13449115982762406494:True:=⟨⟩
theorem tw17341572191495672650:True:=⟨⟩
theorem tw17857766440451417428:True:=⟨⟩
theorem tw15240429534098724772:True:=⟨⟩
theorem tw5165941448360282721:True:=⟨⟩
theorem tw363535906730814013:True:=⟨⟩
theorem tw4587005173692752585:True:=⟨⟩
theorem tw1565784593154109715:True:=⟨⟩
theorem tw6972066387005756552:True:=⟨⟩
theorem tw15057167054820310684:True:=⟨⟩
theorem tw11462301603426230505:True:=⟨⟩
theorem tw12521250988446746945:True:=⟨⟩
theorem tw11099658495381999824:True:=⟨⟩
theorem tw7450507899750223385:True:=⟨⟩
theorem tw4127337353953477269:True:=⟨⟩
theorem tw12605883910543095884:True:=⟨⟩
theorem tw17986948899282987749:True:=⟨⟩
theorem tw14827182723288773651:True:=⟨⟩
theorem tw16646659835862105928:True:=⟨⟩
theorem tw7522103784312464804:True:=⟨⟩
theorem tw12596650098492729510:True:=⟨⟩
theorem tw10722262089637341709:True:=⟨⟩
theorem tw11188935094309135259:True:=⟨⟩
theorem tw12347768760863692816:True:=⟨⟩
theorem tw15682584682861714192:True:=⟨⟩
theorem tw12297653027071194558:True:=⟨⟩
theorem tw10758425164530589714:True:=⟨⟩
theorem tw4694045369193630229:True:=⟨⟩
theorem tw18035699259309484334:True:=⟨⟩
theorem tw17488548487464821308:True:=⟨⟩
theorem tw10061889586162681931:True:=⟨⟩
theorem tw5657534829067670691:True:=⟨⟩
theorem tw4456575048318664442:True:=⟨⟩
theorem tw17102695577189106343:True:=⟨⟩
theorem tw1297965057053799326:True:=⟨⟩
theorem tw41664973806365025:True:=⟨⟩
theorem tw16933213627940430066:True:=⟨⟩
theorem tw10979552671923393334:True:=⟨⟩
theorem tw17463236808419055054:True:=⟨⟩
theorem tw17041626642511796479:True:=⟨⟩
theorem tw5261955764302286389:True:=⟨⟩
theorem tw18232203633016284317:True:=⟨⟩
theorem tw2254184202803417591:True:=⟨⟩
theorem tw27834959777945231:True:=⟨⟩
theorem tw11887767964202068853:True:=⟨⟩
theorem tw13922991604141641476:True:=⟨⟩
theorem tw18371350240841838814:True:=⟨⟩
theorem tw6880247070996982869:True:=⟨⟩
theorem tw3924899561303745276:True:=⟨⟩
theorem tw16246293819581679576:True:=⟨⟩
theorem tw4968534827995383672:True:=⟨⟩
theorem tw17270072343457892171:True:=⟨⟩
theorem tw4649630854308293629:True:=⟨⟩
theorem tw13708280312832086566:True:=⟨⟩
theorem tw11679741262413840568:True:=⟨⟩
theorem tw14747144899203016125:True:=⟨⟩
theorem tw8912319640751507469:True:=⟨⟩
theorem tw8817511895417776722:True:=⟨⟩
theorem tw1223538408410177431:True:=⟨⟩
theorem tw10977724063302789094:True:=⟨⟩
theorem tw14096864406303655297:True:=⟨⟩
theorem tw11223558040166612227:True:=⟨⟩
theorem tw2862082582466918977:True:=⟨⟩
theorem tw16131186974967447978:True:=⟨⟩
theorem tw15649024009192665399:True:=⟨⟩
theorem tw3921222340524374584:True:=⟨⟩
theorem tw8692418075781426496:True:=⟨⟩
theorem tw7348222325609979147:True:=⟨⟩
theorem tw15840168914354763547:True:=⟨⟩
theorem tw9610262029227500051:True:=⟨⟩
theorem tw6926750648288353611:True:=⟨⟩
theorem tw7715470842127489201:True:=⟨⟩
theorem tw4479905727487515691:True:=⟨⟩
theorem tw8719965605574942175:True:=⟨⟩
theorem tw2262426405063998782:True:=⟨⟩
theorem tw5463526220204933089:True:=⟨⟩
theorem tw7028736972950511236:True:=⟨⟩
theorem tw17441377800587302826:True:=⟨⟩
theorem tw3441564470047468603:True:=⟨⟩
theorem tw5679941721708373441:True:=⟨⟩
theorem tw3949386180340871857:True:=⟨⟩
theorem tw14007024432717808154:True:=⟨⟩
theorem tw17158449191064834113:True:=⟨⟩
theorem tw17664440515212739370:True:=⟨⟩
theorem tw11039220333895277017:True:=⟨⟩
theorem tw9372301312793665600:True:=⟨⟩
theorem tw13448095181635872102:True:=⟨⟩
theorem tw248547998555542163:True:=⟨⟩
theorem tw18135504148897839548:True:=⟨⟩
theorem tw16411084048683622800:True:=⟨⟩
theorem tw12324755979229232967:True:=⟨⟩
theorem tw13418586236065651723:True:=⟨⟩
theorem tw649141966916995507:True:=⟨⟩
theorem tw12074418901742113216:True:=⟨⟩
theorem tw14256233414723614691:True:=⟨⟩
theorem tw5930434444616055994:True:=⟨⟩
theorem tw11625287791919734400:True:=⟨⟩
theorem tw7598656023338570722:True:=⟨⟩
theorem tw265607470711618447:True:=⟨⟩
theorem tw5560272265582310958:True:=⟨⟩
theorem tw1250031065331259486:True:=⟨⟩
theorem tw9921973018599893461:True:=⟨⟩
theorem tw4860300577098248656:True:=⟨⟩
theorem tw9049393482407688275:True:=⟨⟩
theorem tw7892080859115782991:True:=⟨⟩
theorem tw16296274439277400644:True:=⟨⟩
theorem tw10516690082622536874:True:=⟨⟩
theorem tw15609782972180646247:True:=⟨⟩
theorem tw4060979575523285843:True:=⟨⟩
theorem tw15186385159888469297:True:=⟨⟩
theorem tw6958341822774510985:True:=⟨⟩
theorem tw4279700314118665813:True:=⟨⟩
theorem tw4226707678397263606:True:=⟨⟩
theorem tw15224340044816932039:True:=⟨⟩
theorem tw7290284400269891879:True:=⟨⟩
theorem tw10774592905553327911:True:=⟨⟩
theorem tw11151568382675085546:True:=⟨⟩
theorem tw17281510723912497066:True:=⟨⟩
theorem tw14057458593355494288:True:=⟨⟩
theorem tw11154464899975368914:True:=⟨⟩
theorem tw16783138239200996691:True:=⟨⟩
theorem tw10124364681574824632:True:=⟨⟩
theorem tw6649052113533080805:True:=⟨⟩
theorem tw16378595614751821090:True:=⟨⟩
theorem tw8729690685678382014:True:=⟨⟩
theorem tw2071451653222749028:True:=⟨⟩
theorem tw9432973017923531167:True:=⟨⟩
theorem tw6298324083453228452:True:=⟨⟩
theorem tw4222761029247714338:True:=⟨⟩
theorem tw9628591521876460951:True:=⟨⟩
theorem tw2145907976038709705:True:=⟨⟩
theorem tw5395662709560349296:True:=⟨⟩
theorem tw8763276483818663183:True:=⟨⟩
theorem tw13721483953008152798:True:=⟨⟩
theorem tw8954046480909905172:True:=⟨⟩
theorem tw633822115293709336:True:=⟨⟩
theorem tw6683438666517321462:True:=⟨⟩
theorem tw9653227384661373227:True:=⟨⟩
theorem tw4645018007426104505:True:=⟨⟩
theorem tw6546087803599071254:True:=⟨⟩
theorem tw3059238354171792831:True:=⟨⟩
theorem tw6731973849274798809:True:=⟨⟩
theorem tw7523258820026452319:True:=⟨⟩
theorem tw15624718659017906812:True:=⟨⟩
theorem tw6182351767957646679:True:=⟨⟩
theorem tw12963193947958426252:True:=⟨⟩
theorem tw1811311470536965551:True:=⟨⟩
theorem tw11764866018876621579:True:=⟨⟩
theorem tw2828039927160461585:True:=⟨⟩
theorem tw16203136007716651266:True:=⟨⟩
theorem tw6157111649891302389:True:=⟨⟩
theorem tw786541783511274407:True:=⟨⟩
theorem tw8181968808042649773:True:=⟨⟩
theorem tw13190124884285479839:True:=⟨⟩
theorem tw8519927007359445694:True:=⟨⟩
theorem tw18147365164943433962:True:=⟨⟩
theorem tw9198184248965518966:True:=⟨⟩
theorem tw16746395297476984245:True:=⟨⟩
theorem tw15884093183002920903:True:=⟨⟩
theorem tw15739976169024317898:True:=⟨⟩
theorem tw8510195582874027614:True:=⟨⟩
theorem tw3939011145622447359:True:=⟨⟩
theorem tw9408337786359005146:True:=⟨⟩
theorem tw6494145456696867242:True:=⟨⟩
theorem tw5152851916882569542:True:=⟨⟩
theorem tw8907613046375845278:True:=⟨⟩
theorem tw9419370082794515996:True:=⟨⟩
theorem tw2347700072422912902:True:=⟨⟩
theorem tw15527849615388118459:True:=⟨⟩
theorem tw1709386273173897610:True:=⟨⟩
theorem tw11479274324358914640:True:=⟨⟩
theorem tw5076102055591018995:True:=⟨⟩
theorem tw8534762402987713196:True:=⟨⟩
theorem tw9697359802937661929:True:=⟨⟩
theorem tw2929245904739767682:True:=⟨⟩
theorem tw12715877422644083479:True:=⟨⟩
theorem tw11437285289282356613:True:=⟨⟩
theorem tw9418697973332531547:True:=⟨⟩
theorem tw14271470826311870579:True:=⟨⟩
theorem tw2634505913094582791:True:=⟨⟩
theorem tw1953823328850780695:True:=⟨⟩
theorem tw8253613356849263973:True:=⟨⟩
theorem tw16293939690552257601:True:=⟨⟩
end PySem.W.Fast
open PySem PySem.W PyProof.Rows
set_option maxRecDepth 100000 in
set_option maxHeartbeats 0 in
theorem PySem.Challenge.cw_loopwright_k75_whole_what_keeps_the_sum_holds : PySem.Challenge.rw_loopwright_k75_whole_what_keeps_the_sum.Holds := by
 w_on;o_law;k_head;(case hw=>w_witness2)
 k_fill
 refine L2.b6p (l:=PySem.Challenge.rw_loopwright_k75_whole_what_keeps_the_sum) (k:=8) (sp:=L2.a7B) rfl rfl ⟨rfl,by decide,by decide⟩ (fun w h Y=>PySem.W.kIn_of Y) L2.b3c ?F
 case F =>
  intro w mg fa h KX G hmg
  refine' L2.c1h KX G hmg ?a1 ?l1 ?c1 ?k1 ?a2 ?l2 ?c2 ?k2 ?a3 ?l3 ?c3 ?k3 ?a4 ?l4 ?c4 ?k4 ?a5 ?l5 ?c5 ?k5 ?a6 ?l6 ?c6 ?k6 ?a7 ?l7 ?c7 ?k7 ?a8 ?l8 ?c8 ?k8 ?a9 ?l9 ?c9 ?k9 ?a10 ?l10 ?c10 ?k10 ?a11 ?l11 ?c11 ?k11 ?a12 ?l12 ?c12 ?k12 ?a13 ?l13 ?c13 ?k13 ?a14 ?l14 ?c14 ?k14 ?a15 ?l15 ?c15 ?k15 ?a16 ?l16 ?c16 ?k16 ?a17 ?l17 ?c17 ?k17 ?a18 ?l18 ?c18 ?k18 ?a19 ?l19 ?c19 ?k19 ?a20 ?l20 ?c20 ?k20 ?a21 ?l21 ?c21 ?k21 ?a22 ?l22 ?c22 ?k22 ?a23 ?l23 ?c23 ?k23 ?a24 ?l24 ?c24 ?k24 ?a25 ?l25 ?c25 ?k25 ?a26 ?l26 ?c26 ?k26 ?a27 ?l27 ?c27 ?k27 ?a28 ?l28 ?c28 ?k28 ?a29 ?l29 ?c29 ?k29 ?a30 ?l30 ?c30 ?k30 ?a31 ?l31 ?c31 ?k31 ?a32 ?l32 ?c32 ?k32 ?a33 ?l33 ?c33 ?k33 ?a34 ?l34 ?c34 ?k34 ?a35 ?l35 ?c35 ?k35 ?a36 ?l36 ?c36 ?k36 ?a37 ?l37 ?c37 ?k37 ?a38 ?l38 ?c38 ?k38 ?a39 ?l39 ?c39 ?k39 ?a40 ?l40 ?c40 ?k40 ?a41 ?l41 ?c41 ?k41 ?a42 ?l42 ?c42 ?k42 ?a43 ?l43 ?c43 ?k43 ?a44 ?l44 ?c44 ?k44 ?a45 ?l45 ?c45 ?k45 ?a46 ?l46 ?c46 ?k46 ?a47 ?l47 ?c47 ?k47 ?a48 ?l48 ?c48 ?k48 ?a49 ?l49 ?c49 ?k49 ?a50 ?l50 ?c50 ?k50 ?a51 ?l51 ?c51 ?k51 ?z_abs ?z_all ?z_dict ?z_enumerate ?z_int ?z_len ?z_list ?z_range ?z_sorted ?z_sum ?z_tuple ?g_LOOP ?l_LOOP ?l_LOOP_0 ?l_LOOP_1 ?g_MOST_LETTERS ?g_MOST_LETTERS_IN_STEPS ?g_MOST_STRANDS ?g_NOUGHT ?l_NOUGHT ?g_ONE ?l_ONE ?l_ONE_0 ?n_can ?l_can ?s_can
  (case a1|l1|c1|k1|a2|l2|c2|k2|a3|l3|c3|k3|a4|l4|c4|k4|a5|l5|c5|k5|a6|l6|c6|k6|a7|l7|c7|k7|a8|l8|c8|k8|a9|l9|c9|k9|a10|l10|c10|k10|a11|l11|c11|k11|a12|l12|c12|k12|a13|l13|c13|k13|a14|l14|c14|k14|a15|l15|c15|k15|a16|l16|c16|k16|a17|l17|c17|k17|a18|l18|c18|k18|a19|l19|c19|k19|a20|l20|c20|k20|a21|l21|c21|k21|a22|l22|c22|k22|a23|l23|c23|k23|a24|l24|c24|k24|a25|l25|c25|k25|a26|l26|c26|k26|a27|l27|c27|k27|a28|l28|c28|k28|a29|l29|c29|k29|a30|l30|c30|k30|a31|l31|c31|k31|a32|l32|c32|k32|a33|l33|c33|k33|a34|l34|c34|k34|a35|l35|c35|k35|a36|l36|c36|k36|a37|l37|c37|k37|a38|l38|c38|k38|a39|l39|c39|k39|a40|l40|c40|k40|a41|l41|c41|k41|a42|l42|c42|k42|a43|l43|c43|k43|a44|l44|c44|k44|a45|l45|c45|k45|a46|l46|c46|k46|a47|l47|c47|k47|a48|l48|c48|k48|a49|l49|c49|k49|a50|l50|c50|k50|a51|l51|c51|k51|z_abs|z_all|z_dict|z_enumerate|z_int|z_len|z_list|z_range|z_sorted|z_sum|z_tuple|g_LOOP|l_LOOP|l_LOOP_0|l_LOOP_1|g_MOST_LETTERS|g_MOST_LETTERS_IN_STEPS|g_MOST_STRANDS|g_NOUGHT|l_NOUGHT|g_ONE|l_ONE|l_ONE_0|n_can|l_can=>change _=_;k_is)
  (case s_can=>kernel_rfl)
