import PyProof.Rows.All
import Wide.All
import OpenK.AllK
import Wide.FinOn
import Lean
import PyProof.EqAt
import PyProof.EqKinds
import PyProof.TupleCall
import PySem.Challenge.RW_loopwright_k93_whole_colours_and_weights
set_option Elab.async false
set_option linter.all false
set_option maxRecDepth 100000
namespace L2
open PySem PySem.Spec PyProof.Rows
noncomputable abbrev Key:=Sum Int Str
noncomputable def a7F:Key→Value→Bool
 | .inl k,v=>Value.isInt k v
 | .inr x,v=>Value.isStrOf x v
noncomputable def keyH (w:World):Key→Int
 | .inl k=>hashInt k
 | .inr x=>hashStr w x
theorem a1g:∀ {k:Key} {v:Value},a7F k v=true→(∃ i t,k=Sum.inl i∧v=Value.int i t)∨(∃ x t,k=Sum.inr x∧v=Value.str x t)
 | .inl i,v,h=>by
   obtain⟨t,e⟩:=Value.isInt_shape (k:=i) (v:=v) h
   exact .inl ⟨i,t,rfl,e⟩
 | .inr x,v,h=>by
   obtain⟨t,e⟩:=Value.isStrOf_shape (x:=x) (v:=v) h
   exact .inr ⟨x,t,rfl,e⟩
theorem a8D (i:Int) (t:Tok):a7F (.inl i) (.int i t)=true:=by simp [a7F,Value.isInt]
theorem a8C (x:Str) (t:Tok):a7F (.inr x) (.str x t)=true:=by simp [a7F,Value.isStrOf]
theorem b9c (a b:Int):decide ((Sum.inl a:Key)=Sum.inl b)=(a == b):=by
 by_cases e:a=b
 ·subst e;simp
 ·have h:¬(Sum.inl a:Key)=Sum.inl b:=fun q=>e (Sum.inl.inj q)
  rw[decide_eq_false h]
  exact (beq_eq_false_iff_ne.mpr e).symm
theorem b8Z (a b:Str):decide ((Sum.inr a:Key)=Sum.inr b)=decide (a=b):=by
 by_cases e:a=b
 ·subst e;simp
 ·have h:¬(Sum.inr a:Key)=Sum.inr b:=fun q=>e (Sum.inr.inj q)
  rw[decide_eq_false h,decide_eq_false e]
theorem b9b (a:Int) (b:Str):decide ((Sum.inl a:Key)=Sum.inr b)=false:=decide_eq_false (fun q=>nomatch q)
theorem b9a (a:Str) (b:Int):decide ((Sum.inr a:Key)=Sum.inl b)=false:=decide_eq_false (fun q=>nomatch q)
noncomputable def a1i (prog:Program) (w:World):PySem.KeyKind prog w Key where
 is:=a7F
 hash:=keyH w
 inj:=fun v a b ha hb=>by
  rcases a1g ha with ⟨i,t,rfl,rfl⟩ | ⟨x,t,rfl,rfl⟩
  ·rcases a1g hb with ⟨j,u,rfl,e⟩ | ⟨y,u,rfl,e⟩
   ·injection e with e1 _;rw[e1]
   ·exact nomatch e
  ·rcases a1g hb with ⟨j,u,rfl,e⟩ | ⟨y,u,rfl,e⟩
   ·exact nomatch e
   ·injection e with e1 _;rw[e1]
 byValue:=fun k v h=>by
  rcases a1g h with ⟨i,t,rfl,rfl⟩ | ⟨x,t,rfl,rfl⟩<;>rfl
 pyHash:=fun hv h=>by
  rcases a1g hv with ⟨i,t,rfl,rfl⟩ | ⟨x,t,rfl,rfl⟩
  ·exact wpAny_pyHash_int h
  ·exact wpAny_pyHash_str h
 eqBool:=fun hu hv h=>by
  rcases a1g hu with ⟨i,t,rfl,rfl⟩ | ⟨x,t,rfl,rfl⟩
  ·rcases a1g hv with ⟨j,u,rfl,rfl⟩ | ⟨y,u,rfl,rfl⟩
   ·rw[b9c] at h;exact wpAny_eqBool_int h
   ·rw[b9b] at h;exact SeqAt.EqAt.int_str i t y u _ _ _ _ h
  ·rcases a1g hv with ⟨j,u,rfl,rfl⟩ | ⟨y,u,rfl,rfl⟩
   ·rw[b9a] at h;exact SeqAt.EqAt.str_int x t j u _ _ _ _ h
   ·rw[b8Z] at h;exact wpAny_eqBool_str h
 «strs»:=fun k x t v h=>by
  rcases a1g h with ⟨i,u,rfl,e⟩ | ⟨y,u,rfl,e⟩
  ·exact nomatch e
  ·injection e with e1 _
   subst e1
   cases v<;>rfl
theorem b1F (prog:Program) (w:World) (k:Key) (v:Value):(a1i prog w).is k v=a7F k v:=rfl
theorem a9J (prog:Program) (w:World) (i:Int) (t:Tok):(a1i prog w).is (.inl i) (.int i t)=true:=a8D i t
theorem a9I (prog:Program) (w:World) (x:Str) (t:Tok):(a1i prog w).is (.inr x) (.str x t)=true:=a8C x t
inductive V where
 | non | bl (b:Bool) | int (i:Int) | str (x:Str) | byt (b:Array UInt8) | flt (b:UInt64) | ref (a:Addr) | ty (n:String)
 deriving DecidableEq
noncomputable def RelV:V→Value→Prop
 | .non,u=>u=Value.none
 | .bl b,u=>u=Value.bool b
 | .int i,u=>∃ t,u=Value.int i t
 | .str x,u=>∃ t,u=Value.str x t
 | .byt b,u=>∃ t,u=Value.bytes b t
 | .flt b,u=>∃ t,u=Value.float b t
 | .ref a,u=>u=Value.ref a
 | .ty n,u=>u=Value.type n
noncomputable abbrev Vals:List V→List Value→Prop:=Paired RelV
theorem Vals.length {xs:List V} {us:List Value} (r:Vals xs us):xs.length=us.length:=Paired.length r
theorem Vals.get:∀ {xs:List V} {us:List Value} {i:Nat} {x:V},Vals xs us→xs[i]?=some x→∃ u,us[i]?=some u∧RelV x u
 | _,_,_,_,.nil,e=>by simp at e
 | _,_,0,_,.cons r _,e=>by simp at e;subst e;exact⟨_,rfl,r⟩
 | _,_,i+1,x,.cons _ t,e=>by
   obtain⟨u,h1,h2⟩:=Vals.get (i:=i) (x:=x) t (by simpa using e)
   exact⟨u,by simpa using h1,h2⟩
theorem Vals.set {x:V} {u:Value} (r:RelV x u):∀ {xs:List V} {us:List Value} (i:Nat),Vals xs us→Vals (xs.set i x) (us.set i u)
 | _,_,_,.nil=>.nil
 | _,_,0,.cons _ t=>.cons r t
 | _,_,i+1,.cons q t=>.cons q (Vals.set r i t)
theorem Vals.append:∀ {xs ys:List V} {us ws:List Value},Vals xs us→Vals ys ws→Vals (xs++ys) (us++ws)
 | _,_,_,_,.nil,s=>s
 | _,_,_,_,.cons r t,s=>.cons r (Vals.append t s)
theorem Vals.take:∀ {xs:List V} {us:List Value} (n:Nat),Vals xs us→Vals (xs.take n) (us.take n)
 | _,_,0,_=>.nil
 | _,_,_+1,.nil=>.nil
 | _,_,n+1,.cons r t=>.cons r (Vals.take n t)
theorem Vals.drop:∀ {xs:List V} {us:List Value} (n:Nat),Vals xs us→Vals (xs.drop n) (us.drop n)
 | _,_,0,r=>r
 | _,_,_+1,.nil=>.nil
 | _,_,n+1,.cons _ t=>Vals.drop n t
noncomputable def RelO:Option V→Option Value→Prop
 | some v,some u=>RelV v u
 | none,none=>True
 | _,_=>False
noncomputable def KV {κ:Type}:List (κ × V)→List (κ × Value)→Prop:=Paired fun (p:κ × V) (q:κ × Value)=>p.1=q.1∧RelV p.2 q.2
noncomputable def kV:Key→V
 | .inl i=>.int i
 | .inr x=>.str x
inductive HO where
 /-- a list -/
 | lst (xs:List V)
 /-- a tuple (never changes) -/
 | tup (xs:List V)
 /-- a dict whose keys are ints and texts;one whose keys are tuples of ints and texts (the empty one is both) -/
 | dK (kvs:List (Key × V)) | dT (kvs:List (List Key × V))
 /-- a set of ints: its members,its size -/
 | set (S:Int→Bool) (n:Nat)
 /-- an instance of the class at C,its dict at dx,its attributes -/
 | ins (C dx:Addr) (fs:List (Str × V))
 /-- the dict of the instance at x -/
 | own (x:Addr)
 /-- the dict of an exception -/
 | xd (fs:List (Str × V))
 /-- a bound method,f of x -/
 | met (f x:Addr)
 /-- a range object lo,lo+1,.. below hi -/
 | rng (lo hi:Int)
 /-- a thing that is known to the object (the script;a dict while a loop walks it): read,never written while it is so -/
 | frz (o:Obj) (u:HO)
 /-- a code object's table -/
 | tbl (ps:Array Value)
 /-- any other thing,by what is true of its one object (a def of one's own: SetO a S n:=HO.ext fun h=>..) -/
 | ext (φ:Heap→Prop)
noncomputable abbrev Hp:=Addr→Option HO
noncomputable def a3j (h:Heap) (a:Addr) (items:Array Value):Prop:=∃ o,h.get? a=some o∧o.cls=.type "tuple"∧o.dict=none∧∃ n,o.data=.seq items n
theorem a3j.t {h:Heap} {a:Addr} {items:Array Value} (x:a3j h a items):IsTup h a items:=let ⟨o,e,c,_,n,d⟩:=x;⟨o,e,c,n,d⟩
theorem a3j.lt {h:Heap} {a:Addr} {items:Array Value} (x:a3j h a items):a < h.objs.size:=x.t.lt
theorem a3j.new (h:Heap) (items:Array Value):a3j (h.push { cls:=.type "tuple",data:=.seq items }) h.objs.size items:=⟨_,Heap.get?_push_size _ rfl,rfl,rfl,0,rfl⟩
noncomputable def upd (H:Hp) (a:Addr) (o:HO):Hp:=fun b=>if b=a then some o else H b
theorem a0U {H:Hp} {a:Addr} {o:HO}:upd H a o a=some o:=by unfold upd;rw[if_pos rfl]
theorem a0m {H:Hp} {a b:Addr} {o:HO} (h:b≠a):upd H a o b=H b:=by unfold upd;rw[if_neg h]
theorem c0y {H:Hp} {a b:Addr} {o u:HO} (h:H a=some o) (h':H b=some u) (d:o≠u):a≠b:=by
 intro e;subst e;rw[h] at h';exact d (Option.some.inj h')
theorem a0j {H:Hp} {a b:Addr} {o:HO} (h:H a=some o) (h':H b=none):a≠b:=by
 intro e;subst e;rw[h] at h';cases h'
section
variable (P:Program) (w:World)
noncomputable def a1N (H:Hp) (h:Heap) (a:Addr):HO→Prop
 | .lst xs=>xs.length≤sizeLine∧∃ (its:List Value) (n:Nat),Vals xs its∧h.get? a=some { cls:=.type "list",data:=.seq its.toArray n }
 | .tup xs=>xs.length≤sizeLine∧∃ its:List Value,Vals xs its∧a3j h a its.toArray
 | .dK kvs=>kvs.length≤sizeLine∧(a == sysModules)=false∧∃ vs,KV kvs vs∧h.DictOf (a1i P w) a vs
 | .dT kvs=>kvs.length≤sizeLine∧(a == sysModules)=false∧∃ xs:List (List Key × Addr × Value),
   Paired (fun (p:List Key × V) (q:List Key × Addr × Value)=>p.1=q.1∧H q.2.1=some (.tup (p.1.map kV))∧RelV p.2 q.2.2) kvs xs ∧
   ∃ o es ep,h.get? a=some o∧o.ExactDict∧o.data=.dict es ep∧es.toList=xs.map (entryOfKey (tupleKind (a1i P w)))∧(xs.map (·.1)).Nodup
 | .set S n=>h.SetOf (intKind P w) a S n
 | .ins C dx fs=>H dx=some (.own a)∧fs.length≤1000∧dx≠a∧h.get? a=some (PySem.W.instObj C dx) ∧
   ∃ mA,h.Ns1 dx mA∧(∀ f,RelO (fs.lookup f) (mA f))∧PySem.Within mA (fs.map (·.1))
 | .own _=>∃ o,h.get? a=some o
 | .xd fs=>∃ mA,h.Ns1 a mA∧∀ f,RelO (fs.lookup f) (mA f)
 | .rng lo hi=>∃ t u v,h.get? a=some { cls:=.type "range",data:=.fields #[.int lo t,.int hi u,.int 1 v] }
 | .frz o u=>h.get? a=some o∧a1N H h a u
 | .tbl ps=>h.get? a=some { cls:=.none,data:=.fields ps }
 | .met f x=>h.get? a=some (PySem.W.methodObj (.ref f) (.ref x))
 | .ext φ=>φ h∧(∃ o,h.get? a=some o)∧∀ h1 h2:Heap,φ h1→(∀ o,h1.get? a=some o→h2.get? a=some o)→φ h2
noncomputable def HOk (H:Hp) (h:Heap):Prop:=∀ a o,H a=some o→a1N P w H h a o
end
section
variable {P:Program} {w:World} {H H':Hp} {h h':Heap} {a:Addr} {o:HO}
theorem a1N.lt (x:a1N P w H h a o):a < h.objs.size:=by
 cases o with
 | lst xs=>obtain⟨_,_,_,_,e⟩:=x;exact Heap.lt_size e
 | tup xs=>obtain⟨_,_,_,p⟩:=x;exact p.lt
 | dK kvs=>obtain⟨_,_,_,_,o,_,_,e,_⟩:=x;exact Heap.lt_size e
 | dT kvs=>obtain⟨_,_,_,_,o,_,_,e,_⟩:=x;exact Heap.lt_size e
 | set S n=>obtain⟨o,_,_,_,e,_⟩:=x;exact Heap.lt_size e
 | ins C dx fs=>obtain⟨_,_,_,e,_⟩:=x;exact Heap.lt_size e
 | own y=>obtain⟨_,e⟩:=x;exact Heap.lt_size e
 | xd fs=>obtain⟨_,⟨_,_,_,e,_⟩,_⟩:=x;exact Heap.lt_size e
 | rng lo hi=>obtain⟨_,_,_,e⟩:=x;exact Heap.lt_size e
 | frz ob u=>obtain⟨e,_⟩:=x;exact Heap.lt_size e
 | tbl ps=>exact Heap.lt_size (show h.get? a=some _ from x)
 | met f y=>exact Heap.lt_size (show h.get? a=some _ from x)
 | ext φ=>obtain⟨_,⟨_,e⟩,_⟩:=x;exact Heap.lt_size e
theorem Paired.mapP {α β:Type} {F G:α→β→Prop}:∀ {l₁:List α} {l₂:List β},Paired F l₁ l₂→(∀ a b,F a b→G a b)→Paired G l₁ l₂
 | _,_,.nil,_=>.nil
 | _,_,.cons r t,f=>.cons (f _ _ r) (Paired.mapP t f)
theorem a1N.stay (x:a1N P w H h a o) (k:∀ b u,(b=a∨H b=some (.own a))→h.get? b=some u→h'.get? b=some u)
  (ho:∀ b,H b=some (.own a)→H' b=some (.own a)) (ht:∀ b xs,H b=some (.tup xs)→H' b=some (.tup xs)):a1N P w H' h' a o:=by
 induction o with
 | lst xs=>obtain⟨z,its,n,r,e⟩:=x;exact⟨z,its,n,r,k _ _ (.inl rfl) e⟩
 | tup xs=>obtain⟨z,its,r,ob,e,c⟩:=x;exact⟨z,its,r,ob,k _ _ (.inl rfl) e,c⟩
 | dK kvs=>obtain⟨z,y,vs,r,ob,es,ep,e,c⟩:=x;exact⟨z,y,vs,r,ob,es,ep,k _ _ (.inl rfl) e,c⟩
 | dT kvs =>
   obtain⟨z,y,xs,r,ob,es,ep,e,c⟩:=x
   exact⟨z,y,xs,Paired.mapP r fun p q z=>⟨z.1,ht _ _ z.2.1,z.2.2⟩,ob,es,ep,k _ _ (.inl rfl) e,c⟩
 | set S n=>obtain⟨ob,es,ep,t,e,c⟩:=x;exact⟨ob,es,ep,t,k _ _ (.inl rfl) e,c⟩
 | ins C dx fs =>
   obtain⟨d,z,ne,e,mA,⟨od,es,ep,e2,c⟩,r⟩:=x
   exact⟨ho _ d,z,ne,k _ _ (.inl rfl) e,mA,⟨od,es,ep,k _ _ (.inr d) e2,c⟩,r⟩
 | own y=>obtain⟨ob,e⟩:=x;exact⟨ob,k _ _ (.inl rfl) e⟩
 | xd fs=>obtain⟨mA,⟨od,es,ep,e,c⟩,r⟩:=x;exact⟨mA,⟨od,es,ep,k _ _ (.inl rfl) e,c⟩,r⟩
 | rng lo hi=>obtain⟨t,u,v,e⟩:=x;exact⟨t,u,v,k _ _ (.inl rfl) e⟩
 | frz ob u ih=>obtain⟨e,q⟩:=x;exact⟨k _ _ (.inl rfl) e,ih q⟩
 | tbl ps =>
   have e:h.get? a=some { cls:=.none,data:=.fields ps }:=x
   show h'.get? a=some { cls:=.none,data:=.fields ps }
   exact k a _ (.inl rfl) e
 | met f y =>
   have e:h.get? a=some (PySem.W.methodObj (.ref f) (.ref y)):=x
   show h'.get? a=some (PySem.W.methodObj (.ref f) (.ref y))
   exact k a _ (.inl rfl) e
 | ext φ=>obtain⟨p,⟨o,e⟩,st⟩:=x;exact⟨st _ _ p fun o q=>k _ _ (.inl rfl) q,⟨o,k _ _ (.inl rfl) e⟩,st⟩
theorem HOk.lt (x:HOk P w H h) (e:H a=some o):a < h.objs.size:=(x a o e).lt
theorem HOk.fresh (x:HOk P w H h) (e:h.objs.size≤a):H a=none:=by
 cases q:H a with
 | none=>rfl
 | some u=>exact absurd (Nat.lt_of_lt_of_le (x.lt q) e) (Nat.lt_irrefl _)
theorem HOk.kept (x:HOk P w H h) (k:∀ b u,h.get? b=some u→h'.get? b=some u):HOk P w H h':=fun a o e =>
 (x a o e).stay (fun b u _ q=>k b u q) (fun _ q=>q) fun _ _ q=>q
theorem HOk.laid (x:HOk P w H h) (k:∀ b u,h.get? b=some u→h'.get? b=some u) (hp:h.objs.size≤a) (new:a1N P w (upd H a o) h' a o):HOk P w (upd H a o) h':=fun b u e=>by
 have hn:=x.fresh hp
 by_cases hb:b=a
 ·subst hb;rw[a0U] at e;cases e;exact new
 ·rw[a0m hb] at e
  exact (x b u e).stay (fun c v _ q=>k c v q) (fun c q=>by rw[a0m (a0j q hn)];exact q) fun c xs q=>by rw[a0m (a0j q hn)];exact q
end
noncomputable def Rd (H:Hp) (a:Addr) (u:HO):Prop:=H a=some u∨∃ o,H a=some (.frz o u)
theorem Rd.of {H:Hp} {a:Addr} {u:HO} (h:H a=some u):Rd H a u:=.inl h
theorem Rd.ok {P:Program} {w:World} {H:Hp} {h:Heap} {a:Addr} {u:HO} (r:Rd H a u) (x:HOk P w H h):a1N P w H h a u:=by
 rcases r with r | ⟨o,r⟩
 ·exact x a u r
 ·obtain⟨_,q⟩:=x a _ r
  exact q
noncomputable def Mut:Option HO→Prop
 | some (.lst _)=>True
 | some (.dK _)=>True
 | some (.dT _)=>True
 | some (.set _ _)=>True
 | some (.ins _ _ _)=>True
 | some (.ext _)=>True
 | _=>False
section
variable {P:Program} {w:World} {H:Hp} {h h':Heap} {x e:Addr} {o':HO}
theorem HOk.write (ok:HOk P w H h) (mu:Mut (H x)) (he:e=x∨H e=some (.own x)) (k:∀ b u,b≠e→h.get? b=some u→h'.get? b=some u) (heo:∃ u,h'.get? e=some u)
  (new:a1N P w (upd H x o') h' x o'):HOk P w (upd H x o') h':=fun b u q=>by
 have nown:∀ c y,H c=some (.own y)→c≠x:=fun c y r z=>by subst z;rw[r] at mu;exact mu
 have ntup:∀ c xs,H c=some (.tup xs)→c≠x:=fun c xs r z=>by subst z;rw[r] at mu;exact mu
 by_cases hb:b=x
 ·subst hb;rw[a0U] at q;cases q;exact new
 ·rw[a0m hb] at q
  by_cases hbe:b=e
  ·have q':H b=some (.own x):=by
    rcases he with z | z
    ·exact absurd (hbe.trans z) hb
    ·rw[hbe];exact z
   rw[q] at q';cases q'
   obtain⟨v,hv⟩:=heo
   exact⟨v,by rw[hbe];exact hv⟩
  ·refine (ok b u q).stay (fun c v hc r=>k c v ?_ r) (fun c r=>by rw[a0m (nown c b r)];exact r) fun c xs r=>by rw[a0m (ntup c xs r)];exact r
   rcases hc with rfl | hc
   ·exact hbe
   ·rintro rfl
    rcases he with z | z
    ·exact nown c b hc z
    ·rw[hc] at z;cases z;exact hb rfl
end
structure Un (fs ex:List Addr) (H H':Hp) (h h':Heap):Prop where
 keep:∀ b o,h.get? b=some o→H b=none→b ∉ fs→b ∉ ex→h'.get? b=some o
 slot:∀ b o,h.get? b=some o→H b=none→b∈fs→b ∉ ex→∃ sl,h'.get? b=some { o with slots:=sl }
 free:∀ b o,h.get? b=some o→H b=none→b ∉ ex→H' b=none
 there:∀ b o,h.get? b=some o→b ∉ ex→∃ o',h'.get? b=some o'
 tups:∀ b xs,H b=some (.tup xs)→H' b=some (.tup xs)
 frzs:∀ b o u,H b=some (.frz o u)→H' b=some (.frz o u)
 tbls:∀ b ps,H b=some (.tbl ps)→∃ more,H' b=some (.tbl (ps++more))
section
variable {fs fs' ex ex':List Addr} {H H1 H2:Hp} {h h1 h2 h':Heap} {a x e:Addr} {o:HO}
theorem Un.any (u:Un fs ex H H1 h h1) {b:Addr} {ob:Obj} (q:h.get? b=some ob) (n:H b=none) (hx:b ∉ ex):∃ sl,h1.get? b=some { ob with slots:=sl }:=by
 by_cases hb:b∈fs
 ·exact u.slot b ob q n hb hx
 ·exact⟨ob.slots,u.keep b ob q n hb hx⟩
theorem Un.kept (k:∀ b u,h.get? b=some u→h'.get? b=some u):Un fs ex H H h h' :=
 ⟨fun b ob q _ _ _=>k b ob q,fun b ob q _ _ _=>⟨ob.slots,k b ob q⟩,fun _ _ _ n _=>n,fun b ob q _=>⟨ob,k b ob q⟩,fun _ _ q=>q,fun _ _ _ q=>q,fun _ ps q=>⟨#[],by rw[q];simp⟩⟩
theorem Un.refl:Un fs ex H H h h:=Un.kept fun _ _ q=>q
theorem Un.laid (k:∀ b u,h.get? b=some u→h'.get? b=some u) (hp:h.objs.size≤a) (hn:H a=none):Un fs ex H (upd H a o) h h' where
 keep:=fun b u q _ _ _=>k b u q
 slot:=fun b u q _ _ _=>⟨u.slots,k b u q⟩
 free:=fun b u q n _=>by rw[a0m (Nat.ne_of_lt (Nat.lt_of_lt_of_le (Heap.lt_size q) hp))];exact n
 there:=fun b u q _=>⟨u,k b u q⟩
 tups:=fun b xs q=>by rw[a0m (a0j q hn)];exact q
 frzs:=fun b u xs q=>by rw[a0m (a0j q hn)];exact q
 tbls:=fun b ps q=>⟨#[],by rw[a0m (a0j q hn),q];simp⟩
theorem Un.write (mu:Mut (H x)) (he:e=x∨H e=some (.own x)) (k:∀ b u,b≠e→h.get? b=some u→h'.get? b=some u) (heo:∃ u,h'.get? e=some u):Un fs ex H (upd H x o) h h':=by
 have hx:∀ b,H b=none→b≠x:=fun b n z=>by subst z;rw[n] at mu;exact mu
 have hb:∀ b,H b=none→b≠e:=fun b n z=>by
  subst z
  rcases he with r | r
  ·exact hx b n r
  ·rw[n] at r;cases r
 have hm:∀ b u,H b=some u→¬Mut (some u)→b≠x:=fun b u q nm z=>by subst z;rw[q] at mu;exact nm mu
 refine⟨fun b u q n _ _=>k b u (hb b n) q,fun b u q n _ _=>⟨u.slots,k b u (hb b n) q⟩,fun b u q n _=>by rw[a0m (hx b n)];exact n,fun b u q _=>?_,
  fun b xs q=>by rw[a0m (hm b _ q fun z=>z)];exact q,fun b u xs q=>by rw[a0m (hm b _ q fun z=>z)];exact q,fun b ps q=>⟨#[],by rw[a0m (hm b _ q fun z=>z),q];simp⟩⟩
 by_cases hbe:b=e
 ·subst hbe;exact heo
 ·exact⟨u,k b u hbe q⟩
end
noncomputable def trk (h:Heap) (H:Hp):List Addr:=(List.range h.objs.size).filter fun a=>(H a).isSome
noncomputable def hidT (h:Heap) (H:Hp):Heap:=PySem.W.hideAll h (trk h H)
theorem b2U (h:Heap) (H:Hp):(hidT h H).objs.size=h.objs.size:=PySem.W.hideAll_size _ _
theorem b4Q {h:Heap} {H:Hp} {b:Addr} {o:Obj} (e:h.get? b=some o) (n:H b=none):(hidT h H).get? b=some o :=
 PySem.W.hideAll_get _ e fun hm=>by
  have q:(H b).isSome=true:=(List.mem_filter.mp hm).2
  rw[n] at q;simp at q
theorem b6P {h:Heap} {H:Hp} {b:Addr} {o:Obj} (e:(hidT h H).get? b=some o):h.get? b=some o∧H b=none:=by
 have e':h.get? b=some o:=PySem.W.of_hideAll (trk h H) e
 refine⟨e',?_⟩
 cases q:H b with
 | none=>rfl
 | some x =>
   have hm:b∈trk h H:=List.mem_filter.mpr ⟨List.mem_range.mpr (Heap.lt_size e'),by simp [q]⟩
   have z:(hidT h H).get? b=none:=PySem.W.hideAll_none (trk h H) hm
   rw[z] at e;cases e
structure Mod (K:PySem.W.Frag) (mg:Str→Option Value) (base:Heap):Prop where
 kin:K.In base
 glob:base.Ns mainGlobals mg
 blt:∃ mb,base.Ns builtinsNs mb∧∀ x:Str,x≠"__name__"→mb x=bootBuiltins x
 nolimit:base.NoLimit
structure Cx where
 prog:Program
 w:World
 K:PySem.W.Frag
 mg:Str→Option Value
 base:Heap
 A:Around
 N:List Str
 s₀:Shared
 H₀:Hp
 env:Env
 outer:List Env
 stack:List Env
 ex:List Addr
 fn:Str→Bool
 calm:Bool
 pn:List (Addr × Obj)
 xe:Value→Shared→Prop
noncomputable def frs (l:List Env):List Addr:=l.filterMap (·.frame)
noncomputable abbrev Cx.fs (X:Cx):List Addr:=frs X.outer
noncomputable def Vis (sc:Scope) (x:Str):Prop:=sc.names.lookup x=some .local∨sc.names.lookup x=some .cell∨sc.names.lookup x=some .free
noncomputable def Loc (sc:Scope) (x:Str):Prop:=sc.names.lookup x=some .local∨sc.names.lookup x=some .cell
noncomputable def Look (env:Env) (h:Heap) (m:Str→Option Value) (x:Str) (u:Value):Prop :=
 (env.kindOf x=some .local∧m x=some u)∨((env.kindOf x=some .cell∨env.kindOf x=some .free)∧∃ c,env.cells.lookup x=some c∧h.IsCell c (some u))
structure Cx.Ok (X:Cx):Prop where
 mod:Mod X.K X.mg X.base
 kind:X.env.scope.kind=.function
 glob:X.env.globals=mainGlobals
 blt:X.env.builtins=builtinsNs
 above:X.s₀.heap.objs.size≤X.env.locals
 inj:∀ x y c,X.env.cells.lookup x=some c→X.env.cells.lookup y=some c→x=y
 has:∀ x,(X.env.kindOf x=some .cell∨X.env.kindOf x=some .free)→∃ c,X.env.cells.lookup x=some c
 cab:∀ x c,X.fn x=true→X.env.cells.lookup x=some c→X.s₀.heap.objs.size≤c
 hd:X.calm=true→X.A.handled=none
 frames:X.A.frames=some X.stack
 stk:X.stack=X.outer∨(X.stack=X.env :: X.outer∧X.env.frame=some X.env.locals)
 exf:∀ b∈X.ex,b≠X.env.locals∧∀ x c,X.env.cells.lookup x=some c→c≠b
 bs:∀ b o,X.base.get? b=some o→X.s₀.heap.get? b=some o∧X.H₀ b=none
 bsz:X.base.objs.size≤X.s₀.heap.objs.size
 noex:∀ b o,X.base.get? b=some o→b ∉ X.ex
 exfs:∀ b∈X.ex,b ∉ X.fs
 funs:X.s₀.heap.FunFrames X.base X.outer
 frf:∀ b∈X.fs,X.H₀ b=none
structure Inv (X:Cx) (pins:List (Addr × Obj)) (σ:List (Option V)) (H:Hp) (s:Shared):Prop where
 ok:X.Ok
 os:s.os=X.s₀.os
 bare:AllBare s.gens
 base:Un X.fs X.ex X.H₀ H X.s₀.heap s.heap
 loc:∃ m,s.heap.Ns X.env.locals m∧∀ (i:Nat) (x:Str) (v:V),X.N[i]?=some x→σ[i]?=some (some v)→Vis X.env.scope x→∃ u,RelV v u∧Look X.env s.heap m x u
 cell:∀ x c,X.env.cells.lookup x=some c→∃ v,s.heap.IsCell c v
 free:H X.env.locals=none
 freeC:∀ x c,X.env.cells.lookup x=some c→H c=none
 pin:∀ p∈X.pn++pins,s.heap.get? p.1=some p.2∧H p.1=none∧p.1≠X.env.locals∧p.1 ∉ X.fs∧∀ v,p.2.data≠.cell v
 hok:HOk X.prog X.w H s.heap
 len:σ.length=X.N.length
section
variable {X:Cx} {pins:List (Addr × Obj)} {σ:List (Option V)} {H H':Hp} {s:Shared} {h':Heap}
theorem Cx.Ok.nofr (ok:X.Ok) {b:Addr} {o:Obj} (e:X.base.get? b=some o):b ∉ X.fs:=fun hb=>by
 have:=(ok.funs.mem hb).1
 rw[e] at this;cases this
theorem Inv.bs (I:Inv X pins σ H s):∀ b o,X.base.get? b=some o→s.heap.get? b=some o∧H b=none:=fun b o e =>
 ⟨I.base.keep b o (I.ok.bs b o e).1 (I.ok.bs b o e).2 (I.ok.nofr e) (I.ok.noex b o e),I.base.free b o (I.ok.bs b o e).1 (I.ok.bs b o e).2 (I.ok.noex b o e)⟩
theorem Inv.bk (I:Inv X pins σ H s):∀ b o,X.base.get? b=some o→s.heap.get? b=some o:=fun b o e=>(I.bs b o e).1
theorem Inv.mod (I:Inv X pins σ H s):Mod X.K X.mg X.base:=I.ok.mod
theorem Inv.kIn (I:Inv X pins σ H s):X.K.In s.heap:=I.ok.mod.kin.keeps I.bk
theorem Inv.lt (I:Inv X pins σ H s):X.env.locals < s.heap.objs.size:=let ⟨_,hn,_⟩:=I.loc;hn.lt
theorem Inv.sz (I:Inv X pins σ H s):X.s₀.heap.objs.size≤s.heap.objs.size:=Nat.le_trans I.ok.above (Nat.le_of_lt I.lt)
theorem Inv.nofs (I:Inv X pins σ H s) {a:Addr} (h:s.heap.objs.size≤a):a ∉ X.fs:=fun hb=>by
 obtain⟨_,o,ho,_⟩:=I.ok.funs.mem hb
 exact absurd (Nat.lt_of_lt_of_le (Heap.lt_size ho) (Nat.le_trans I.sz h)) (Nat.lt_irrefl _)
theorem Inv.cne (I:Inv X pins σ H s):∀ x c,X.env.cells.lookup x=some c→c≠X.env.locals:=fun x c e z=>by
 obtain⟨v,o,ho,hd⟩:=I.cell x c e
 obtain⟨m,⟨o',es,ep,ho',hd',_⟩,_⟩:=I.loc
 rw[z,ho'] at ho;cases ho;rw[hd'] at hd;cases hd
theorem Inv.funs (I:Inv X pins σ H s):s.heap.FunFrames X.base X.outer:=by
 have all:∀ (l:List Env),(∀ b∈frs l,b∈X.fs)→X.s₀.heap.FunFrames X.base l→s.heap.FunFrames X.base l:=by
  intro l
  induction l with
  | nil=>intro _ _;trivial
  | cons env r ih =>
    intro hs hl
    obtain⟨hk,⟨L,o,hf,hn,ho,hd⟩,hr⟩:=hl
    have hL:L∈X.fs:=hs L (by unfold frs;rw[List.filterMap_cons,hf];exact List.mem_cons_self)
    obtain⟨sl,e⟩:=I.base.slot L o ho (I.ok.frf L hL) hL fun z=>I.ok.exfs L z hL
    exact⟨hk,⟨L,_,hf,hn,e,hd⟩,ih (fun b hb=>hs b (by unfold frs;rw[List.filterMap_cons,hf];exact List.mem_cons_of_mem _ hb)) hr⟩
 exact all X.outer (fun _ hb=>hb) I.ok.funs
theorem Inv.stack (I:Inv X pins σ H s):s.heap.FunFrames X.base X.stack:=by
 rcases I.ok.stk with e | ⟨e,hf⟩
 ·rw[e];exact I.funs
 ·rw[e]
  obtain⟨m,hn,_⟩:=I.loc
  refine .cons (by rw[I.ok.kind];decide) hf hn ?_ I.funs
  exact Heap.get?_none_of_le (Nat.le_trans I.ok.bsz I.ok.above)
theorem Inv.stkSub (I:Inv X pins σ H s):∀ b∈frs X.stack,b∈X.env.locals :: X.fs:=fun b hb=>by
 rcases I.ok.stk with e | ⟨e,hf⟩
 ·rw[e] at hb;exact List.mem_cons_of_mem _ hb
 ·rw[e] at hb
  unfold frs at hb
  rw[List.filterMap_cons,hf] at hb
  exact hb
theorem Inv.stkFree (I:Inv X pins σ H s):∀ b∈frs X.stack,H b=none:=fun b hb=>by
 rcases List.mem_cons.mp (I.stkSub b hb) with e | hb
 ·rw[e];exact I.free
 ·obtain⟨_,o,ho,_⟩:=I.ok.funs.mem hb
  exact I.base.free b o ho (I.ok.frf b hb) fun z=>I.ok.exfs b z hb
theorem Inv.step {g':Array GenState} {t':Nat} {d':Drawn} {ch:List Addr} (I:Inv X pins σ H s)
  (hch:∀ b∈ch,(b∈X.ex∨X.s₀.heap.objs.size≤b)∧b≠X.env.locals∧(∀ x c,X.env.cells.lookup x=some c→c≠b)∧∀ p∈X.pn++pins,p.1≠b)
  (keep:∀ b o,b≠X.env.locals→b ∉ X.fs→b ∉ ch→s.heap.get? b=some o→H b=none→h'.get? b=some o)
  (slot:∀ b o,b≠X.env.locals→b∈X.fs→b ∉ ch→s.heap.get? b=some o→H b=none→∃ sl,h'.get? b=some { o with slots:=sl }) (free:∀ b o,b ∉ ch→s.heap.get? b=some o→H b=none→H' b=none)
  (there:∀ b o,b ∉ ch→s.heap.get? b=some o→∃ o',h'.get? b=some o')
  (tups:∀ b xs,H b=some (.tup xs)→H' b=some (.tup xs)) (frzs:∀ b o u,H b=some (.frz o u)→H' b=some (.frz o u)) (tbls:∀ b ps,H b=some (.tbl ps)→∃ more,H' b=some (.tbl (ps++more)))
  (ns:∀ m,s.heap.Ns X.env.locals m→h'.Ns X.env.locals m) (hok:HOk X.prog X.w H' h') (hg:AllBare g') :
  Inv X pins σ H' { s with heap:=h',gens:=g',drawn:=d',toks:=t' }:=by
 have neL:∀ b o,X.s₀.heap.get? b=some o→b≠X.env.locals:=fun b o e=>Nat.ne_of_lt (Nat.lt_of_lt_of_le (Heap.lt_size e) I.ok.above)
 have neC:∀ b o,X.s₀.heap.get? b=some o→b ∉ X.ex→b ∉ ch:=fun b o e hx hb=>by
  rcases (hch b hb).1 with z | z
  ·exact hx z
  ·exact absurd (Nat.lt_of_lt_of_le (Heap.lt_size e) z) (Nat.lt_irrefl _)
 have cellK:∀ x c,X.env.cells.lookup x=some c→∀ v,s.heap.IsCell c v→h'.IsCell c v:=fun x c e v ⟨o,ho,hd⟩=>by
  have nch:c ∉ ch:=fun z=>(hch c z).2.2.1 x c e rfl
  by_cases hc:c∈X.fs
  ·obtain⟨sl,q⟩:=slot c o (I.cne x c e) hc nch ho (I.freeC x c e)
   exact⟨_,q,hd⟩
  ·exact⟨o,keep c o (I.cne x c e) hc nch ho (I.freeC x c e),hd⟩
 refine⟨I.ok,I.os,hg,⟨fun b o e n hb hx=>?_,fun b o e n hb hx=>?_,fun b o e n hx=>?_,fun b o e hx=>?_,fun b xs e=>tups b xs (I.base.tups b xs e),fun b o xs e=>frzs b o xs (I.base.frzs b o xs e),fun b ps e=>?_⟩,?_,fun x c e=>?_,?_,fun x c e=>?_,fun p hp=>?_,hok,I.len⟩
 ·exact keep b o (neL b o e) hb (neC b o e hx) (I.base.keep b o e n hb hx) (I.base.free b o e n hx)
 ·obtain⟨sl,e1⟩:=I.base.slot b o e n hb hx
  obtain⟨sl',e2⟩:=slot b _ (neL b o e) hb (neC b o e hx) e1 (I.base.free b o e n hx)
  exact⟨sl',e2⟩
 ·obtain⟨o',e1⟩:=I.base.there b o e hx
  exact free b o' (neC b o e hx) e1 (I.base.free b o e n hx)
 ·obtain⟨o',e1⟩:=I.base.there b o e hx
  exact there b o' (neC b o e hx) e1
 ·obtain⟨m1,e1⟩:=I.base.tbls b ps e
  obtain⟨m2,e2⟩:=tbls b _ e1
  exact⟨m1++m2,by rw[e2,Array.append_assoc]⟩
 ·obtain⟨m,hn,hl⟩:=I.loc
  refine⟨m,ns m hn,fun i x v e1 e2 e3=>?_⟩
  obtain⟨u,r,l⟩:=hl i x v e1 e2 e3
  refine⟨u,r,?_⟩
  rcases l with l | ⟨k,c,e,z⟩
  ·exact .inl l
  ·exact .inr ⟨k,c,e,cellK x c e _ z⟩
 ·obtain⟨v,z⟩:=I.cell x c e
  exact⟨v,cellK x c e v z⟩
 ·obtain⟨m,⟨o,_,_,ho,_⟩,_⟩:=I.loc
  exact free _ o (fun z=>(hch _ z).2.1 rfl) ho I.free
 ·obtain⟨v,o,ho,hd⟩:=I.cell x c e
  exact free c o (fun z=>(hch c z).2.2.1 x c e rfl) ho (I.freeC x c e)
 ·obtain⟨e,n,ne,nf,d⟩:=I.pin p hp
  have nch:p.1 ∉ ch:=fun z=>(hch p.1 z).2.2.2 p hp rfl
  exact⟨keep p.1 p.2 ne nf nch e n,free p.1 p.2 nch e n,ne,nf,d⟩
theorem Inv.un {t':Nat} (I:Inv X pins σ H s) (u:Un X.fs [] H H' s.heap h') (hok:HOk X.prog X.w H' h'):Inv X pins σ H' { s with heap:=h',toks:=t' }:=by
 obtain⟨m,⟨o,es,ep,ho,r⟩,_⟩:=id I.loc
 obtain⟨sl,hL⟩:=u.any ho I.free (by simp)
 exact I.step (g':=s.gens) (d':=s.drawn) (ch:=[]) (fun _ z=>nomatch z) (fun b o _ hb _ e n=>u.keep b o e n hb (by simp)) (fun b o _ hb _ e n=>u.slot b o e n hb (by simp)) (fun b o _ e n=>u.free b o e n (by simp)) (fun b o _ e=>u.there b o e (by simp)) u.tups u.frzs u.tbls (fun m' hm=>by
  obtain⟨o',es',ep',ho',r'⟩:=hm
  rw[ho] at ho';cases ho'
  exact⟨_,es',ep',hL,r'⟩) hok I.bare
theorem Inv.call {g':Array GenState} {t':Nat} {d':Drawn} {ch:List Addr} (I:Inv X pins σ H s) (u:Un (frs X.stack) ch H H' s.heap h') (hok:HOk X.prog X.w H' h') (hg:AllBare g')
  (hch:∀ b∈ch,(b∈X.ex∨X.s₀.heap.objs.size≤b)∧b≠X.env.locals∧(∀ x c,X.env.cells.lookup x=some c→c≠b)∧∀ p∈X.pn++pins,p.1≠b) :
  Inv X pins σ H' { s with heap:=h',gens:=g',drawn:=d',toks:=t' }:=by
 obtain⟨m,⟨o,es,ep,ho,r⟩,_⟩:=id I.loc
 obtain⟨sl,hL⟩:=u.any ho I.free fun z=>(hch _ z).2.1 rfl
 exact I.step (ch:=ch) hch (fun b o hL hb hc e n=>u.keep b o e n (fun z=>(List.mem_cons.mp (I.stkSub b z)).elim hL hb) hc) (fun b o _ _ hc e n=>u.any e n hc) (fun b o hc e n=>u.free b o e n hc) (fun b o hc e=>u.there b o e hc) u.tups u.frzs u.tbls (fun m' hm=>by
  obtain⟨o',es',ep',ho',r'⟩:=hm
  rw[ho] at ho';cases ho'
  exact⟨_,es',ep',hL,r'⟩) hok hg
theorem Inv.turned {t':Nat} {it:Addr} (I:Inv X pins σ H s) (k:∀ b o,b≠it→s.heap.get? b=some o→h'.get? b=some o) (hn:H it=none) (hL:it≠X.env.locals)
  (h1:it∈X.ex∨X.s₀.heap.objs.size≤it) (h2:∀ x c,X.env.cells.lookup x=some c→c≠it) (h3:∀ p∈X.pn++pins,p.1≠it):Inv X pins σ H { s with heap:=h',toks:=t' }:=by
 have nit:∀ b u,H b=some u→b≠it:=fun b u e z=>by rw[z,hn] at e;cases e
 refine I.step (g':=s.gens) (d':=s.drawn) (ch:=[it]) (fun b hb=>?_) (fun b o _ _ hc e _=>k b o (fun z=>hc (by simp [z])) e) (fun b o _ _ hc e _=>⟨o.slots,k b o (fun z=>hc (by simp [z])) e⟩) (fun _ _ _ _ n=>n)
  (fun b o hc e=>⟨o,k b o (fun z=>hc (by simp [z])) e⟩) (fun _ _ e=>e) (fun _ _ _ e=>e) (fun b ps e=>⟨#[],by rw[e];simp⟩) (fun m hm=>?_) (fun b u e=>?_) I.bare
 ·have e:b=it:=by simpa using hb
  subst e
  exact⟨h1,hL,h2,h3⟩
 ·obtain⟨o,es,ep,ho,r⟩:=hm
  exact⟨o,es,ep,k _ o (Ne.symm hL) ho,r⟩
 ·refine (I.hok b u e).stay (fun c v hc q=>k c v ?_ q) (fun _ q=>q) fun _ _ q=>q
  rcases hc with z | z
  ·rw[z];exact nit b u e
  ·exact nit c _ z
theorem Inv.tok (I:Inv X pins σ H s) (t:Nat):Inv X pins σ H { s with toks:=t }:=I.un (h':=s.heap) (t':=t) Un.refl I.hok
theorem Inv.kept {t':Nat} (I:Inv X pins σ H s) (k:∀ b u,s.heap.get? b=some u→h'.get? b=some u):Inv X pins σ H { s with heap:=h',toks:=t' }:=I.un (Un.kept k) (I.hok.kept k)
theorem Inv.laid {a:Addr} {o:HO} {t':Nat} (I:Inv X pins σ H s) (k:∀ b u,s.heap.get? b=some u→h'.get? b=some u) (hp:s.heap.objs.size≤a) (new:a1N X.prog X.w (upd H a o) h' a o) :
  Inv X pins σ (upd H a o) { s with heap:=h',toks:=t' }:=I.un (Un.laid k hp (I.hok.fresh hp)) (I.hok.laid k hp new)
theorem Inv.write {x e:Addr} {o:HO} {t':Nat} (I:Inv X pins σ H s) (mu:Mut (H x)) (he:e=x∨H e=some (.own x)) (k:∀ b u,b≠e→s.heap.get? b=some u→h'.get? b=some u) (heo:∃ u,h'.get? e=some u)
  (new:a1N X.prog X.w (upd H x o) h' x o):Inv X pins σ (upd H x o) { s with heap:=h',toks:=t' }:=I.un (Un.write mu he k heo) (I.hok.write mu he k heo new)
theorem Inv.weak {σ':List (Option V)} (I:Inv X pins σ H s) (hl:σ'.length=σ.length) (w:∀ (i:Nat) v,σ'[i]?=some (some v)→σ[i]?=some (some v)):Inv X pins σ' H s :=
 ⟨I.ok,I.os,I.bare,I.base,let ⟨m,hn,hl'⟩:=I.loc;⟨m,hn,fun i x v e1 e2 e3=>hl' i x v e1 (w i v e2) e3⟩,I.cell,I.free,I.freeC,I.pin,I.hok,hl.trans I.len⟩
theorem Inv.pins_of {pins':List (Addr × Obj)} (I:Inv X pins σ H s) (h:∀ p∈pins',s.heap.get? p.1=some p.2∧H p.1=none∧p.1≠X.env.locals∧p.1 ∉ X.fs∧∀ v,p.2.data≠.cell v):Inv X pins' σ H s :=
 ⟨I.ok,I.os,I.bare,I.base,I.loc,I.cell,I.free,I.freeC,fun p hp=>(List.mem_append.mp hp).elim (fun z=>I.pin p (List.mem_append_left _ z)) (h p),I.hok,I.len⟩
theorem b0E {N:List Str} (hN:N.Nodup) {i j:Nat} {x:Str} (a:N[i]?=some x) (b:N[j]?=some x):i=j:=by
 obtain⟨h1,e1⟩:=List.getElem?_eq_some_iff.mp a
 obtain⟨h2,e2⟩:=List.getElem?_eq_some_iff.mp b
 exact (List.getElem_inj hN).mp (e1.trans e2.symm)
theorem a8e {M:Model} {A:Around} {E:Value→Shared→Prop} {i:Nat} {x:Str} {v:V} {u:Value} {Q:Unit→Shared→Prop} (I:Inv X pins σ H s) (hN:X.N.Nodup) (hi:X.N[i]?=some x) (hx:Loc X.env.scope x) (r:RelV v u)
  (h:∀ s',Inv X pins (σ.set i (some v)) H s'→(∃ a,Heap.SameBut a s.heap s'.heap∧(a=X.env.locals∨X.env.cells.lookup x=some a))→Q () s') (hf:X.fn x=true∨X.env.scope.names.lookup x=some .local:=by first | exact .inl rfl | exact .inr rfl | assumption):wpAny M A (storeName X.env x u) Q E s:=by
 obtain⟨m,hn,hl⟩:=id I.loc
 have hcls:(X.env.scope.kind == .class || (X.env.scope.kind == .module && X.env.locals != X.env.globals))=false:=by rw[I.ok.kind];rfl
 have hiσ:i < σ.length:=by rw[I.len];exact (List.getElem?_eq_some_iff.mp hi).1
 have cne:=I.cne
 have tracked:∀ {a:Addr} {h':Heap},(∃ o,s.heap.get? a=some o∧H a=none)→Heap.SameBut a s.heap h'→HOk X.prog X.w H h':=fun {a h'} ha hs b ob e=>by
  obtain⟨_,_,hfree⟩:=ha
  refine (I.hok b ob e).stay (fun c w' hc q=>(hs.2 c ?_).trans q) (fun _ q=>q) fun _ _ q=>q
  rintro rfl
  rcases hc with rfl | hc
  ·rw[hfree] at e;cases e
  ·rw[hfree] at hc;cases hc
 rcases hx with hk | hk
 ·refine wpAny_storeName_local hk hn (fun h' hn' hs=>?_) hcls
  obtain⟨oL,_,_,hoL,_⟩:=id hn
  refine h _ ⟨I.ok,I.os,I.bare,⟨fun b o e n hb hx=>?_,fun b o e n hb hx=>?_,I.base.free,fun b o e hx=>?_,I.base.tups,I.base.frzs,I.base.tbls⟩,⟨_,hn',fun j y v' e1 e2 e3=>?_⟩,fun y c e=>?_,I.free,I.freeC,fun p hp=>?_,tracked ⟨oL,hoL,I.free⟩ hs,by simpa using I.len⟩ ⟨_,hs,.inl rfl⟩
  ·exact (hs.2 b (Nat.ne_of_lt (Nat.lt_of_lt_of_le (Heap.lt_size e) I.ok.above))).trans (I.base.keep b o e n hb hx)
  ·obtain⟨sl,e1⟩:=I.base.slot b o e n hb hx
   exact⟨sl,(hs.2 b (Nat.ne_of_lt (Nat.lt_of_lt_of_le (Heap.lt_size e) I.ok.above))).trans e1⟩
  ·obtain⟨o',e1⟩:=I.base.there b o e hx
   exact⟨o',(hs.2 b (Nat.ne_of_lt (Nat.lt_of_lt_of_le (Heap.lt_size e) I.ok.above))).trans e1⟩
  ·by_cases hj:j=i
   ·subst hj
    rw[hi] at e1;cases e1
    rw[List.getElem?_set_self hiσ] at e2
    cases e2
    exact⟨u,r,.inl ⟨hk,by simp⟩⟩
   ·rw[List.getElem?_set_ne (Ne.symm hj)] at e2
    obtain⟨u',r',q⟩:=hl j y v' e1 e2 e3
    refine⟨u',r',?_⟩
    rcases q with ⟨k,e⟩ | ⟨k,c,e,z⟩
    ·refine .inl ⟨k,?_⟩
     have:y≠x:=fun e=>hj (b0E hN e1 (e▸hi))
     simp [this,e]
    ·exact .inr ⟨k,c,e,z.sameBut hs (cne y c e)⟩
  ·obtain⟨w',z⟩:=I.cell y c e
   exact⟨w',z.sameBut hs (cne y c e)⟩
  ·obtain⟨e,n,ne,nf,d⟩:=I.pin p hp
   exact⟨(hs.2 p.1 ne).trans e,n,ne,nf,d⟩
 ·have hfn:X.fn x=true:=by
   rcases hf with z | z
   ·exact z
   ·rw[z] at hk;cases hk
  obtain⟨c,hc⟩:=I.ok.has x (.inl hk)
  obtain⟨w',z⟩:=I.cell x c hc
  refine wpAny_storeName_cell I.ok.kind hk hc z (fun h' hc' hs=>?_)
  obtain⟨oc,hoc,hocd⟩:=id z
  refine h { s with heap:=h' } ⟨I.ok,I.os,I.bare,⟨fun b o e n hb hx=>?_,fun b o e n hb hx=>?_,I.base.free,fun b o e hx=>?_,I.base.tups,I.base.frzs,I.base.tbls⟩,⟨m,hn.sameBut hs (Ne.symm (cne x c hc)),fun j y v' e1 e2 e3=>?_⟩,fun y c' e=>?_,I.free,I.freeC,fun p hp=>?_,tracked ⟨oc,hoc,I.freeC x c hc⟩ hs,by simpa using I.len⟩ ⟨c,hs,.inr hc⟩
  ·exact (hs.2 b (Nat.ne_of_lt (Nat.lt_of_lt_of_le (Heap.lt_size e) (I.ok.cab x c hfn hc)))).trans (I.base.keep b o e n hb hx)
  ·obtain⟨sl,e1⟩:=I.base.slot b o e n hb hx
   exact⟨sl,(hs.2 b (Nat.ne_of_lt (Nat.lt_of_lt_of_le (Heap.lt_size e) (I.ok.cab x c hfn hc)))).trans e1⟩
  ·obtain⟨o',e1⟩:=I.base.there b o e hx
   exact⟨o',(hs.2 b (Nat.ne_of_lt (Nat.lt_of_lt_of_le (Heap.lt_size e) (I.ok.cab x c hfn hc)))).trans e1⟩
  ·by_cases hj:j=i
   ·subst hj
    rw[hi] at e1;cases e1
    rw[List.getElem?_set_self hiσ] at e2
    cases e2
    exact⟨u,r,.inr ⟨.inl hk,c,hc,hc'⟩⟩
   ·rw[List.getElem?_set_ne (Ne.symm hj)] at e2
    obtain⟨u',r',q⟩:=hl j y v' e1 e2 e3
    refine⟨u',r',?_⟩
    rcases q with q | ⟨k,c',e,z'⟩
    ·exact .inl q
    ·refine .inr ⟨k,c',e,z'.sameBut hs ?_⟩
     rintro rfl
     exact hj (b0E hN e1 (I.ok.inj _ _ _ e hc▸hi))
  ·by_cases hcc:c'=c
   ·subst hcc;exact⟨_,hc'⟩
   ·obtain⟨w2,z2⟩:=I.cell y c' e
    exact⟨w2,z2.sameBut hs hcc⟩
  ·obtain⟨e,n,ne,nf,d⟩:=I.pin p hp
   refine⟨(hs.2 p.1 ?_).trans e,n,ne,nf,d⟩
   intro q
   rw[q,hoc] at e
   have q':oc=p.2:=Option.some.inj e
   exact d w' (by rw[← q'];exact hocd)
theorem a7c {M:Model} {A:Around} {E:Value→Shared→Prop} {i:Nat} {x:Str} {v:V} {u:Value} {Q:Unit→Shared→Prop} (I:Inv X pins σ H s) (hN:X.N.Nodup) (hi:X.N[i]?=some x) (hx:Loc X.env.scope x) (r:RelV v u)
  (h:∀ s',Inv X pins (σ.set i (some v)) H s'→Q () s') (hf:X.fn x=true∨X.env.scope.names.lookup x=some .local:=by first | exact .inl rfl | exact .inr rfl | assumption):wpAny M A (storeName X.env x u) Q E s :=
 a8e I hN hi hx r (fun s' I' _=>h s' I') hf
theorem Inv.call' {s':Shared} {ch:List Addr} (I:Inv X pins σ H s) (ho:s'.os=s.os) (u:Un (frs X.stack) ch H H' s.heap s'.heap) (hok:HOk X.prog X.w H' s'.heap) (hg:AllBare s'.gens)
  (hch:∀ b∈ch,(b∈X.ex∨X.s₀.heap.objs.size≤b)∧b≠X.env.locals∧(∀ x c,X.env.cells.lookup x=some c→c≠b)∧∀ p∈X.pn++pins,p.1≠b):Inv X pins σ H' s':=by
 obtain⟨h',g',d',t',o'⟩:=s'
 have e:o'=s.os:=ho
 subst e
 exact I.call (g':=g') (t':=t') (d':=d') u hok hg hch
end
noncomputable abbrev XK:=Value→Option Addr→Hp→Prop
noncomputable abbrev St:=List (Option V)
noncomputable abbrev VK:=V→Hp→Prop
noncomputable abbrev TE:=St→Hp→VK→Prop
noncomputable abbrev TT:=St→Hp→(Bool→Hp→Prop)→Prop
noncomputable abbrev TA:=St→Hp→(List V→Hp→Prop)→Prop
structure Ends where
 nx:St→Hp→Prop
 rt:VK
 bk:St→Hp→Prop:=fun _ _=>False
 ct:St→Hp→Prop:=fun _ _=>False
noncomputable abbrev TS:=Ends→St→Hp→Prop
noncomputable def EP (X:Cx) (pins:List (Addr × Obj)) (σ:St) (Q:VK) (u:Value) (s':Shared):Prop:=∃ v H',Inv X pins σ H' s'∧RelV v u∧Q v H'
noncomputable def TP (X:Cx) (pins:List (Addr × Obj)) (σ:St) (Q:Bool→Hp→Prop) (b:Bool) (s':Shared):Prop:=∃ H',Inv X pins σ H' s'∧Q b H'
noncomputable def AP (X:Cx) (pins:List (Addr × Obj)) (σ:St) (Q:List V→Hp→Prop) (us:List Value) (s':Shared):Prop:=∃ vs H',Inv X pins σ H' s'∧Vals vs us∧Q vs H'
noncomputable def SP (X:Cx) (pins:List (Addr × Obj)) (D:Ends) (f:Flow) (s':Shared):Prop :=
 match f with
 | .next=>∃ σ' H',Inv X pins σ' H' s'∧D.nx σ' H'
 | .brk=>∃ σ' H',Inv X pins σ' H' s'∧D.bk σ' H'
 | .cont=>∃ σ' H',Inv X pins σ' H' s'∧D.ct σ' H'
 | .ret u=>∃ v σ' H',Inv X pins σ' H' s'∧RelV v u∧D.rt v H'
noncomputable def PE (X:Cx) (e:Expr) (t:TE):Prop :=
 ∀ (pins:List (Addr × Obj)) (s:Shared) (σ:St) (H:Hp) (Q:VK),Inv X pins σ H s→t σ H Q→wpAny (model X.prog X.w) X.A (eval e X.env) (EP X pins σ Q) X.xe s
noncomputable def PT (X:Cx) (e:Expr) (t:TT):Prop :=
 ∀ (pins:List (Addr × Obj)) (s:Shared) (σ:St) (H:Hp) (Q:Bool→Hp→Prop),Inv X pins σ H s→t σ H Q→wpAny (model X.prog X.w) X.A (isTrue e X.env (eval e X.env)) (TP X pins σ Q) X.xe s
noncomputable def PW (X:Cx) (e:Expr) (t:TT):Prop :=
 ∀ (whole:Sem Value) (pins:List (Addr × Obj)) (s:Shared) (σ:St) (H:Hp) (Q:Bool→Hp→Prop),Inv X pins σ H s→t σ H Q→wpAny (model X.prog X.w) X.A (isTrue e X.env whole) (TP X pins σ Q) X.xe s
theorem PW.pt {X:Cx} {e:Expr} {t:TT} (h:PW X e t):PT X e t:=h _
noncomputable def PA (X:Cx) (es:List Expr) (t:TA):Prop :=
 ∀ (pos:Pos) (pins:List (Addr × Obj)) (s:Shared) (σ:St) (H:Hp) (Q:List V→Hp→Prop),Inv X pins σ H s→t σ H Q→wpAny (model X.prog X.w) X.A (spliced (backTo pos (starEach es X.env))) (AP X pins σ Q) X.xe s
noncomputable def PS (X:Cx) (st:Stmt) (t:TS):Prop :=
 ∀ (pins:List (Addr × Obj)) (s:Shared) (σ:St) (H:Hp) (D:Ends),Inv X pins σ H s→t D σ H→wpAny (model X.prog X.w) X.A (exec st X.env) (SP X pins D) X.xe s
noncomputable def PSs (X:Cx) (st:List Stmt) (t:TS):Prop :=
 ∀ (pins:List (Addr × Obj)) (s:Shared) (σ:St) (H:Hp) (D:Ends),Inv X pins σ H s→t D σ H→wpAny (model X.prog X.w) X.A (execs st X.env) (SP X pins D) X.xe s
theorem thn {α:Type} {t:Sem α} {Q Q':α→Shared→Prop} {M:Model} {A:Around} {E:Value→Shared→Prop} {s:Shared} (h:wpAny M A t Q E s) (hQ:∀ a s,Q a s→Q' a s):wpAny M A t Q' E s:=wpAny_mono h hQ fun _ _ x=>x
section
variable {X:Cx}
noncomputable def tVar (i:Nat):TE:=fun σ H Q=>∃ v,σ[i]?=some (some v)∧Q v H
noncomputable def tC (v:V):TE:=fun _ H Q=>Q v H
theorem b8G {i:Nat} {x:Str} {pos:Pos} (hN:X.N[i]?=some x) (hv:Vis X.env.scope x) (hd:(x == ("__debug__":Str))=false:=by decide) (hcd:(x == ("__classdict__":Str))=false:=by decide):PE X (.Name x pos) (tVar i):=by
 intro pins s σ H Q I h
 obtain⟨v,e,h⟩:=h
 obtain⟨m,hn,hl⟩:=I.loc
 obtain⟨u,r,l⟩:=hl i x v hN e hv
 have fin:EP X pins σ Q u s:=⟨v,H,I,r,h⟩
 rcases l with ⟨hk,hm⟩ | ⟨hk,c,hc,hcell⟩
 ·exact wpAny_Name (wpAny_loadName_local I.ok.kind hk hn hm fin) hd
 ·rcases hk with hk | hk
  ·exact wpAny_Name (wpAny_loadName_cell I.ok.kind hk hc hcell fin) hd
  ·exact wpAny_Name (wpAny_loadName_free I.ok.kind hk hc hcell fin hcd) hd
theorem b8L {i j pos}:PE X (.Constant (.int i) j pos) (tC (.int i)):=fun _ _ _ H _ I h=>wpAny_Constant_int ⟨.int i,H,I.tok _,⟨_,rfl⟩,h⟩
theorem c0s {b j pos}:PE X (.Constant (.bool b) j pos) (tC (.bl b)):=fun _ _ _ H _ I h=>Constant_bool ⟨.bl b,H,I,rfl,h⟩
noncomputable def Gl (X:Cx) (x:Str):Prop:=X.env.kindOf x=some .globalImplicit
theorem b2H {E:Value→Shared→Prop} {pins:List (Addr × Obj)} {s:Shared} {σ:St} {H:Hp} {x:Str} {u:Value} {pos:Pos} {Q:Value→Shared→Prop} (I:Inv X pins σ H s) (hg:Gl X x) (hm:X.mg x=some u) (h:Q u s)
  (hd:(x == ("__debug__":Str))=false:=by decide):wpAny (model X.prog X.w) X.A (eval (.Name x pos) X.env) Q E s :=
 Calls.Name_function_global I.ok.kind hg (Calls.loadGlobal_global (by rw[I.ok.glob];exact I.mod.glob.keeps I.bk) hm h) hd
theorem a3y {E:Value→Shared→Prop} {pins:List (Addr × Obj)} {s:Shared} {σ:St} {H:Hp} {x:Str} {u:Value} {pos:Pos} {Q:Value→Shared→Prop} (I:Inv X pins σ H s) (hg:Gl X x) (hm:X.mg x=none) (hv:bootBuiltins x=some u) (h:Q u s)
  (hn:x≠"__name__":=by decide) (hd:(x == ("__debug__":Str))=false:=by decide):wpAny (model X.prog X.w) X.A (eval (.Name x pos) X.env) Q E s:=by
 obtain⟨mb,h1,h2⟩:=I.mod.blt
 exact Calls.Name_function_global I.ok.kind hg (Calls.loadGlobal_builtin (by rw[I.ok.glob];exact I.mod.glob.keeps I.bk) hm (by rw[I.ok.blt];exact h1.keeps I.bk) ((h2 x hn).trans hv) h) hd
theorem b2w {x:Str} {v:V} {u:Value} {pos:Pos} (hg:Gl X x) (hm:X.mg x=some u) (r:RelV v u) (hd:(x == ("__debug__":Str))=false:=by decide):PE X (.Name x pos) (tC v) :=
 fun _ _ _ H _ I h=>b2H I hg hm ⟨v,H,I,r,h⟩ hd
theorem b6K {x:Str} {v:V} {u:Value} {pos:Pos} (hg:Gl X x) (hm:X.mg x=none) (hv:bootBuiltins x=some u) (r:RelV v u) (hn:x≠"__name__":=by decide) (hd:(x == ("__debug__":Str))=false:=by decide):PE X (.Name x pos) (tC v) :=
 fun _ _ _ H _ I h=>a3y I hg hm hv ⟨v,H,I,r,h⟩ hn hd
variable {a b:Expr} {ta tb:TE} {pos:Pos}
variable {tA tB':TT} {rest:List Expr}
noncomputable def tAnd (t u:TT):TT:=fun σ H Q=>t σ H fun c H1=>if c=true then u σ H1 Q else Q false H1
noncomputable def tOr (t u:TT):TT:=fun σ H Q=>t σ H fun c H1=>if c=true then Q true H1 else u σ H1 Q
noncomputable def tNot (t:TT):TT:=fun σ H Q=>t σ H fun c H1=>Q (!c) H1
theorem b6t (ha:PT X a tA):PW X (.BoolOp .And [a] pos) tA:=by
 intro wh pins s σ H Q I h
 refine isTrue_and (thn (ha pins s σ H Q I h) fun c s1 e=>?_)
 cases c with
 | true=>exact isTrue_and_nil e
 | false=>exact e
theorem b8w (ha:PT X a tA):PW X (.BoolOp .Or [a] pos) tA:=by
 intro wh pins s σ H Q I h
 refine isTrue_or (thn (ha pins s σ H Q I h) fun c s1 e=>?_)
 cases c with
 | false=>exact isTrue_or_nil e
 | true=>exact e
theorem b8x (ha:PT X a tA) (hb:PW X (.BoolOp .And (b :: rest) pos) tB'):PW X (.BoolOp .And (a :: b :: rest) pos) (tAnd tA tB'):=by
 intro wh pins s σ H Q I h
 refine isTrue_and (thn (ha pins s σ H _ I h) fun c s1 ⟨H1,I1,q1⟩=>?_)
 cases c with
 | true=>exact hb wh pins s1 σ H1 Q I1 q1
 | false=>exact⟨H1,I1,q1⟩
theorem c0m (ha:PT X a tA) (hb:PW X (.BoolOp .Or (b :: rest) pos) tB'):PW X (.BoolOp .Or (a :: b :: rest) pos) (tOr tA tB'):=by
 intro wh pins s σ H Q I h
 refine isTrue_or (thn (ha pins s σ H _ I h) fun c s1 ⟨H1,I1,q1⟩=>?_)
 cases c with
 | true=>exact⟨H1,I1,q1⟩
 | false=>exact hb wh pins s1 σ H1 Q I1 q1
theorem b8y (ha:PT X a tA):PT X (.UnaryOp .Not a pos) (tNot tA):=by
 intro pins s σ H Q I h
 exact isTrue_not (ha pins s σ H (fun c H1=>Q (!c) H1) I h)
noncomputable def c0e (ta tb:TE):TE:=fun σ H Q=>ta σ H fun x H1=>∃ c,x=.bl c∧if c=true then tb σ H1 Q else Q (.bl false) H1
noncomputable def b9X (ta:TE):TE:=fun σ H Q=>ta σ H fun x H1=>∃ c,x=.bl c∧Q (.bl (!c)) H1
theorem b8I {op} {t:TE} (h:PE X a t):PE X (.BoolOp op [a] pos) t:=fun pins s σ H Q I hw=>BoolOp_one (h pins s σ H Q I hw)
theorem b8M (ha:PE X a ta) (hb:PE X (.BoolOp .And (b :: rest) pos) tb):PE X (.BoolOp .And (a :: b :: rest) pos) (c0e ta tb):=by
 intro pins s σ H Q I h
 refine BoolOp_and (thn (ha pins s σ H _ I h) fun v s1 ⟨x,H1,I1,r1,q1⟩=>?_)
 obtain⟨c,rfl,q1⟩:=q1
 cases r1
 refine wpAny_truthy_bool ?_
 cases c with
 | true=>exact hb pins s1 σ H1 Q I1 q1
 | false=>exact⟨.bl false,H1,I1,rfl,q1⟩
theorem b8J (ha:PE X a ta):PE X (.UnaryOp .Not a pos) (b9X ta):=by
 intro pins s σ H Q I h
 refine UnaryOp_ (thn (ha pins s σ H _ I h) fun v s1 ⟨x,H1,I1,r1,q1⟩=>?_)
 obtain⟨c,rfl,q1⟩:=q1
 cases r1
 exact not_of (wpAny_truthy_bool ⟨.bl (!c),H1,I1,rfl,q1⟩)
noncomputable def tIf (t:TT) (ta tb:TE):TE:=fun σ H Q=>t σ H fun c H1=>if c=true then ta σ H1 Q else tb σ H1 Q
theorem b4s {c:Expr} (hc:PT X c tA) (ha:PE X a ta) (hb:PE X b tb):PE X (.IfExp c a b pos) (tIf tA ta tb):=by
 intro pins s σ H Q I h
 refine wpAny_IfExp (thn (hc pins s σ H _ I h) fun d s1 ⟨H1,I1,q1⟩=>?_)
 cases d with
 | true=>exact ha pins s1 σ H1 Q I1 q1
 | false=>exact hb pins s1 σ H1 Q I1 q1
end
noncomputable def SqL (K:PySem.W.Frag) (H:Hp) (a:Addr) (xs:List V):Prop :=
 Rd H a (.lst xs) ∨
  ∃ (o:Obj) (its:Array Value) (n:Nat),K.lookup a=some o∧o.cls=.type "list"∧o.dict=none∧o.data=.seq its n∧its.size≤sizeLine∧Vals xs its.toList
noncomputable def SqT (K:PySem.W.Frag) (H:Hp) (a:Addr) (xs:List V):Prop :=
 Rd H a (.tup xs) ∨
  ∃ (o:Obj) (its:Array Value) (n:Nat),K.lookup a=some o∧o.cls=.type "tuple"∧o.dict=none∧o.data=.seq its n∧its.size≤sizeLine∧Vals xs its.toList
noncomputable def absV:Value→Option V
 | .none=>some .non
 | .bool b=>some (.bl b)
 | .int i _=>some (.int i)
 | .str x _=>some (.str x)
 | .bytes b _=>some (.byt b)
 | .float b _=>some (.flt b)
 | .ref a=>some (.ref a)
 | .type n=>some (.ty n)
 | _=>none
theorem RelV.abs {x:V} {u:Value} (r:RelV x u):absV u=some x:=by
 cases x with
 | non=>cases r;rfl
 | bl _=>cases r;rfl
 | int _=>obtain⟨t,rfl⟩:=r;rfl
 | str _=>obtain⟨t,rfl⟩:=r;rfl
 | byt _=>obtain⟨t,rfl⟩:=r;rfl
 | flt _=>obtain⟨t,rfl⟩:=r;rfl
 | ref _=>cases r;rfl
 | ty _=>cases r;rfl
theorem RelV.inj {x y:V} {u:Value} (r:RelV x u) (q:RelV y u):x=y:=Option.some.inj (r.abs.symm.trans q.abs)
theorem Vals.inj:∀ {xs ys:List V} {us:List Value},Vals xs us→Vals ys us→xs=ys
 | _,_,_,.nil,.nil=>rfl
 | _,_,_,.cons r t,.cons r' t'=>by rw[r.inj r',Vals.inj t t']
section
variable {X:Cx} {pins:List (Addr × Obj)} {σ:St} {H:Hp} {s:Shared} {a:Addr} {xs ys:List V}
theorem SqL.of {K:PySem.W.Frag} (h:H a=some (.lst xs)):SqL K H a xs:=.inl (.inl h)
theorem SqT.of {K:PySem.W.Frag} (h:H a=some (.tup xs)):SqT K H a xs:=.inl (.inl h)
theorem Inv.list (I:Inv X pins σ H s) (h:SqL X.K H a xs):∃ its:List Value,Vals xs its∧PlainL s.heap a its.toArray∧xs.length≤sizeLine:=by
 rcases h with h | ⟨o,its,n,hk,hc,hd,hs,hz,r⟩
 ·obtain⟨z,its,n,r,e⟩:=h.ok I.hok
  exact⟨its,r,⟨_,n,e,rfl,rfl,rfl⟩,z⟩
 ·refine⟨its.toList,r,⟨o,n,I.kIn a o hk,hc,hd,by simpa using hs⟩,?_⟩
  have e:=r.length
  simp only[Array.length_toList] at e
  lia
theorem Inv.tuple (I:Inv X pins σ H s) (h:SqT X.K H a xs):∃ its:List Value,Vals xs its∧IsTup s.heap a its.toArray∧xs.length≤sizeLine:=by
 rcases h with h | ⟨o,its,n,hk,hc,hd,hs,hz,r⟩
 ·obtain⟨z,its,r,p⟩:=h.ok I.hok
  exact⟨its,r,p.t,z⟩
 ·refine⟨its.toList,r,⟨o,I.kIn a o hk,hc,n,by simpa using hs⟩,?_⟩
  have e:=r.length
  simp only[Array.length_toList] at e
  lia
theorem Inv.tuple0 (I:Inv X pins σ H s) (h:SqT X.K H a xs):∃ its:List Value,Vals xs its∧a3j s.heap a its.toArray∧xs.length≤sizeLine:=by
 rcases h with h | ⟨o,its,n,hk,hc,hd,hs,hz,r⟩
 ·obtain⟨z,its,r,p⟩:=h.ok I.hok
  exact⟨its,r,p,z⟩
 ·refine⟨its.toList,r,⟨o,I.kIn a o hk,hc,hd,n,by simpa using hs⟩,?_⟩
  have e:=r.length
  simp only[Array.length_toList] at e
  lia
theorem Inv.list_inj (I:Inv X pins σ H s) (h:SqL X.K H a xs) (h':SqL X.K H a ys):xs=ys:=by
 obtain⟨its,r,⟨o,n,e,_,_,d⟩,_⟩:=I.list h
 obtain⟨its',r',⟨o',n',e',_,_,d'⟩,_⟩:=I.list h'
 rw[e] at e';cases e'
 rw[d] at d'
 injection d' with d1 _
 have:its=its':=by simpa using congrArg Array.toList d1
 subst this
 exact r.inj r'
theorem Inv.tuple_inj (I:Inv X pins σ H s) (h:SqT X.K H a xs) (h':SqT X.K H a ys):xs=ys:=by
 obtain⟨its,r,⟨o,e,_,n,d⟩,_⟩:=I.tuple h
 obtain⟨its',r',⟨o',e',_,n',d'⟩,_⟩:=I.tuple h'
 rw[e] at e';cases e'
 rw[d] at d'
 injection d' with d1 _
 have:its=its':=by simpa using congrArg Array.toList d1
 subst this
 exact r.inj r'
end
noncomputable abbrev Cx.wish (X:Cx) (E:Value→Shared→Prop):Cx:={ X with xe:=E }
noncomputable abbrev Cx.nox (X:Cx):Cx:=X.wish fun _ _=>False
theorem Cx.Ok.wish {X:Cx} (ok:X.Ok) (E:Value→Shared→Prop):(X.wish E).Ok :=
 ⟨ok.mod,ok.kind,ok.glob,ok.blt,ok.above,ok.inj,ok.has,ok.cab,ok.hd,ok.frames,ok.stk,ok.exf,ok.bs,ok.bsz,ok.noex,ok.exfs,ok.funs,ok.frf⟩
theorem Cx.Ok.unwish {X:Cx} {E:Value→Shared→Prop} (ok:(X.wish E).Ok):X.Ok :=
 ⟨ok.mod,ok.kind,ok.glob,ok.blt,ok.above,ok.inj,ok.has,ok.cab,ok.hd,ok.frames,ok.stk,ok.exf,ok.bs,ok.bsz,ok.noex,ok.exfs,ok.funs,ok.frf⟩
section
variable {X:Cx} {pins:List (Addr × Obj)} {σ:St} {H:Hp} {s:Shared} {E:Value→Shared→Prop}
theorem Inv.wish (I:Inv X pins σ H s) (E:Value→Shared→Prop):Inv (X.wish E) pins σ H s:=⟨I.ok.wish E,I.os,I.bare,I.base,I.loc,I.cell,I.free,I.freeC,I.pin,I.hok,I.len⟩
theorem Inv.unwish (I:Inv (X.wish E) pins σ H s):Inv X pins σ H s:=⟨I.ok.unwish,I.os,I.bare,I.base,I.loc,I.cell,I.free,I.freeC,I.pin,I.hok,I.len⟩
theorem SP.unwish {D:Ends} {f:Flow} {s':Shared} (h:SP (X.wish E) pins D f s'):SP X pins D f s':=by
 cases f with
 | next=>obtain⟨σ',H',I,q⟩:=h;exact⟨σ',H',I.unwish,q⟩
 | brk=>obtain⟨σ',H',I,q⟩:=h;exact⟨σ',H',I.unwish,q⟩
 | cont=>obtain⟨σ',H',I,q⟩:=h;exact⟨σ',H',I.unwish,q⟩
 | ret u=>obtain⟨v,σ',H',I,r,q⟩:=h;exact⟨v,σ',H',I.unwish,r,q⟩
theorem PSs.nox {st:List Stmt} {t:TS} (h:PSs X.nox st t):PSs X st t:=fun pins s σ H D I hw =>
 wpAny_mono (h pins s σ H D (I.wish _) hw) (fun _ _ q=>q.unwish) fun _ _ z=>False.elim z
end
section
variable {X:Cx} {st:Stmt} {rest:List Stmt} {t u:TS} {e:Expr} {te:TE} {pos:Pos}
noncomputable def b9Y:TS:=fun D σ H=>D.nx σ H
noncomputable def tSeq (t u:TS):TS:=fun D σ H=>t { D with nx:=u D } σ H
theorem b6y:PSs X [] b9Y:=fun _ _ σ H _ I h=>wpAny_execs_nil ⟨σ,H,I,h⟩
theorem b4p (h1:PS X st t) (h2:PSs X rest u):PSs X (st :: rest) (tSeq t u):=by
 intro pins s σ H D I h
 refine wpAny_execs_cons (thn (h1 pins s σ H { D with nx:=u D } I h) fun f s1 q=>?_)
 cases f with
 | next =>
   obtain⟨σ',H',I',q⟩:=q
   exact h2 pins s1 σ' H' D I' q
 | ret v=>exact q
 | brk=>exact q
 | cont=>exact q
theorem b6x (h1:PS X st t):PSs X [st] t:=by
 intro pins s σ H D I h
 refine wpAny_execs_cons (thn (h1 pins s σ H D I h) fun f s1 q=>?_)
 cases f with
 | next=>exact wpAny_execs_nil q
 | ret v=>exact q
 | brk=>exact q
 | cont=>exact q
theorem Inv.quiet {pins:List (Addr × Obj)} {σ:St} {H:Hp} {s:Shared} (I:Inv X pins σ H s):interactive X.env=false:=by simp [interactive,I.ok.kind]
noncomputable def b9Z (te:TE):TS:=fun D σ H=>te σ H fun _ H1=>D.nx σ H1
theorem b6A (he:PE X e te) (hs:swapsWith e none pos.line X.env=pure false:=by rfl):PS X (.Expr e pos) (b9Z te):=by
 intro pins s σ H D I h
 exact wpAny_Expr_any (thn (he pins s σ H _ I h) fun v s1 ⟨x,H1,I1,r1,q1⟩=>⟨σ,H1,I1,q1⟩) I.quiet hs
noncomputable def tRet (te:TE):TS:=fun D σ H=>te σ H D.rt
theorem b8A (he:PE X e te):PS X (.Return (some e) pos) (tRet te):=by
 intro pins s σ H D I h
 exact wpAny_Return_some (thn (he pins s σ H _ I h) fun v s1 ⟨x,H1,I1,r1,q1⟩=>⟨x,σ,H1,I1,r1,q1⟩)
noncomputable def tIfS (c:TT) (t u:TS):TS:=fun D σ H=>c σ H fun b H1=>if b=true then t D σ H1 else u D σ H1
theorem c0n {c:Expr} {a b:List Stmt} {tc:TT} (hc:PT X c tc) (ha:PSs X a t) (hb:PSs X b u):PS X (.If c a b pos) (tIfS tc t u):=by
 intro pins s σ H D I h
 refine wpAny_If (thn (hc pins s σ H _ I h) fun d s1 ⟨H1,I1,q1⟩=>?_)
 cases d with
 | true=>exact ha pins s1 σ H1 D I1 q1
 | false=>exact hb pins s1 σ H1 D I1 q1
end
noncomputable abbrev TG:=V→St→Hp→(St→Hp→Prop)→Prop
noncomputable abbrev TGs:=List V→St→Hp→(St→Hp→Prop)→Prop
noncomputable def PG (X:Cx) (target:Expr) (t:TG):Prop :=
 ∀ (pins:List (Addr × Obj)) (s:Shared) (σ:St) (H:Hp) (v:V) (u:Value) (Q:St→Hp→Prop),Inv X pins σ H s→RelV v u→t v σ H Q →
   wpAny (model X.prog X.w) X.A (assign target X.env u) (fun _ s'=>∃ σ' H',Inv X pins σ' H' s'∧Q σ' H') X.xe s
noncomputable def PGs (X:Cx) (ts:List Expr) (t:TGs):Prop :=
 ∀ (pins:List (Addr × Obj)) (s:Shared) (σ:St) (H:Hp) (vs:List V) (us:List Value) (Q:St→Hp→Prop),Inv X pins σ H s→Vals vs us→t vs σ H Q →
   wpAny (model X.prog X.w) X.A (assignInOrder ((assignEach ts X.env).map (·.2)) us) (fun _ s'=>∃ σ' H',Inv X pins σ' H' s'∧Q σ' H') X.xe s
noncomputable abbrev TSet:=V→V→V→Hp→(Hp→Prop)→Prop
noncomputable def PSet (X:Cx) (t:TSet):Prop :=
 ∀ (pins:List (Addr × Obj)) (s:Shared) (σ:St) (H:Hp) (o i v:V) (ov iv u:Value) (Q:Hp→Prop),Inv X pins σ H s→RelV o ov→RelV i iv→RelV v u→t o i v H Q →
   wpAny (model X.prog X.w) X.A (setItem ov iv u) (fun _ s'=>∃ H',Inv X pins σ H' s'∧Q H') X.xe s
noncomputable abbrev TIp:=V→V→Hp→VK→Prop
noncomputable def PIp (X:Cx) (op:Operator) (t:TIp):Prop :=
 ∀ (pins:List (Addr × Obj)) (s:Shared) (σ:St) (H:Hp) (x y:V) (v u:Value) (Q:VK),Inv X pins σ H s→RelV x v→RelV y u→t x y H Q →
   wpAny (model X.prog X.w) X.A (inplaceOp op v u) (EP X pins σ Q) X.xe s
section
variable {X:Cx} {pos:Pos}
noncomputable def a8N (i:Nat):TG:=fun v σ H Q=>Q (σ.set i (some v)) H
theorem a0z {i:Nat} {x:Str} (hN:X.N.Nodup) (hi:X.N[i]?=some x) (hx:Loc X.env.scope x) (hf:X.fn x=true∨X.env.scope.names.lookup x=some .local:=by first | exact .inl rfl | exact .inr rfl | assumption):PG X (.Name x pos) (a8N i):=by
 intro pins s σ H v u Q I r h
 exact wpAny_assign_Name (a7c I hN hi hx r (fun s' I'=>⟨_,H,I',h⟩) hf)
noncomputable def gNil:TGs:=fun vs σ H Q=>vs=[]∧Q σ H
noncomputable def b4U (t:TG) (u:TGs):TGs:=fun vs σ H Q=>∃ v r,vs=v :: r∧t v σ H fun σ' H'=>u r σ' H' Q
theorem a4k:PGs X [] gNil:=by
 intro pins s σ H vs us Q I r h
 obtain⟨e,h⟩:=h
 subst e
 cases r
 exact assignInOrder_nil ⟨σ,H,I,h⟩
theorem a1J {e:Expr} {es:List Expr} {t:TG} {u:TGs} (h1:PG X e t) (h2:PGs X es u)
  (hs:(assignEach (e :: es) X.env).map (·.2)=assign e X.env :: (assignEach es X.env).map (·.2):=by rfl):PGs X (e :: es) (b4U t u):=by
 intro pins s σ H vs us Q I r h
 obtain⟨v,vr,e1,h⟩:=h
 subst e1
 cases r with
 | cons r rr =>
   rw[hs]
   refine assignInOrder_cons (thn (h1 pins s σ H _ _ _ I r h) fun _ s1 ⟨σ1,H1,I1,q1⟩=>?_)
   exact h2 pins s1 σ1 H1 _ _ Q I1 rr q1
noncomputable def gTup (K:PySem.W.Frag) (n:Nat) (t:TGs):TG:=fun v σ H Q=>∃ a xs,v=.ref a∧SqT K H a xs∧xs.length=n∧t xs σ H Q
theorem a5F {es:List Expr} {k:Nat} {t:TGs} {n:Nat} (hc:X.calm=true) (h:PGs X es t)
  (hn:(assignEach es X.env).length=n:=by rfl) (hst:(assignEach es X.env).findIdx? (·.1)=none:=by rfl):PG X (.Tuple es k pos) (gTup X.K n t):=by
 intro pins s σ H v u Q I r hw
 obtain⟨a,xs,e1,hq,hl,hw⟩:=hw
 subst e1
 cases r
 obtain⟨its,rv,ht,hz⟩:=I.tuple hq
 refine assign_Tuple_tuple (I.ok.hd hc) ht (by simp [hn,← hl,rv.length]) hst fun h' hx=>?_
 have I1:Inv X pins σ H { s with heap:=h' }:=I.kept (t':=s.toks) fun b o e=>hx b o (Nat.ne_of_lt (Heap.lt_size e)) e
 exact h pins _ σ H xs _ Q I1 (by simpa using rv) hw
noncomputable def gSub (to ti:TE) (t:TSet):TG:=fun v σ H Q=>to σ H fun o H1=>ti σ H1 fun i H2=>t o i v H2 fun H3=>Q σ H3
theorem b8F {o i:Expr} {to ti:TE} {t:TSet} (ho:PE X o to) (hi:PE X i ti) (hs:PSet X t)
  (ha:∀ v,assign (.Subscript o i pos) X.env v=(do
   let ov ← holding [v] (eval o X.env)
   let iv ← holding [v,ov] (eval i X.env)
   standAt pos
   holding [v,ov,iv] (setItem ov iv v)
   release [v,ov,iv] []):=by intro _;rfl):PG X (.Subscript o i pos) (gSub to ti t):=by
 intro pins s σ H v u Q I r h
 rw[ha]
 refine wpAny_bind (wpAny_holding (thn (ho pins s σ H _ I h) fun ov s1 ⟨x,H1,I1,r1,q1⟩=>?_))
 refine wpAny_bind (wpAny_holding (thn (hi pins s1 σ H1 _ I1 q1) fun iv s2 ⟨y,H2,I2,r2,q2⟩=>?_))
 refine wpAny_bind (wpAny_standAt (wpAny_bind (wpAny_holding (thn (hs pins s2 σ H2 x y v ov iv u _ I2 r1 r2 r q2) fun _ s3 ⟨H3,I3,q3⟩=>?_))))
 exact wpAny_release ⟨σ,H3,I3,q3⟩
noncomputable def tAsg (te:TE) (g:TG):TS:=fun D σ H=>te σ H fun x H1=>g x σ H1 D.nx
theorem b8D {tg e:Expr} {te:TE} {g:TG} (he:PE X e te) (hg:PG X tg g) (hs:swapsWithSole [tg] e pos.line X.env=pure false:=by rfl) (hw:swappedStores [tg] e X.env=pure none:=by rfl)
  (h1:(assignEach [tg] X.env).map (·.2)=[assign tg X.env]:=by rfl):PS X (.Assign [tg] e pos) (tAsg te g):=by
 intro pins s σ H D I h
 refine wpAny_Assign_stores (thn (he pins s σ H _ I h) fun v s1 ⟨x,H1,I1,r1,q1⟩=>?_) hs hw
 rw[h1]
 exact thn (hg pins s1 σ H1 x v _ I1 r1 q1) fun _ s2 q=>q
theorem b8z {i:Nat} {x:Str} {e:Expr} {te:TE} {pos':Pos} (hN:X.N.Nodup) (hi:X.N[i]?=some x) (hx:Loc X.env.scope x) (he:PE X e te) (hs:swapsWith e (some (.Name x pos')) pos.line X.env=pure false:=by rfl) (hf:X.fn x=true∨X.env.scope.names.lookup x=some .local:=by first | exact .inl rfl | exact .inr rfl | assumption) :
  PS X (.Assign [.Name x pos'] e pos) (tAsg te (a8N i)):=by
 intro pins s σ H D I h
 refine wpAny_Assign_Name (thn (he pins s σ H _ I h) fun v s1 ⟨y,H1,I1,r1,q1⟩=>?_) hs
 exact a7c I1 hN hi hx r1 (fun s2 I2=>⟨_,H1,I2,q1⟩) hf
noncomputable def tAug (i:Nat) (te:TE) (ti:TIp):TS:=fun D σ H=>∃ x,σ[i]?=some (some x)∧te σ H fun y H1=>ti x y H1 fun z H2=>D.nx (σ.set i (some z)) H2
theorem b8C {i:Nat} {x:Str} {e:Expr} {te:TE} {op:Operator} {ti:TIp} {pos':Pos} (hN:X.N.Nodup) (hi:X.N[i]?=some x) (hx:Loc X.env.scope x) (he:PE X e te) (ho:PIp X op ti) (hf:X.fn x=true∨X.env.scope.names.lookup x=some .local:=by first | exact .inl rfl | exact .inr rfl | assumption) :
  PS X (.AugAssign (.Name x pos') op e pos) (tAug i te ti):=by
 intro pins s σ H D I h
 obtain⟨v,e1,h⟩:=h
 obtain⟨m,hn,hl⟩:=I.loc
 have vis:Vis X.env.scope x:=by rcases hx with k | k;exact .inl k;exact .inr (.inl k)
 obtain⟨u,r,l⟩:=hl i x v hi e1 vis
 refine wpAny_AugAssign_Name ?_
 have go:wpAny (model X.prog X.w) X.A (eval e X.env) (fun w s₂=>wpAny (model X.prog X.w) X.A (inplaceOp op u w) (fun r s₃=>wpAny (model X.prog X.w) X.A (storeName X.env x r) (fun _=>SP X pins D .next) X.xe s₃) X.xe s₂) X.xe s:=by
  refine thn (he pins s σ H _ I h) fun w s1 ⟨y,H1,I1,r1,q1⟩=>?_
  refine thn (ho pins s1 σ H1 v y u w _ I1 r r1 q1) fun z s2 ⟨zv,H2,I2,r2,q2⟩=>?_
  exact a7c I2 hN hi hx r2 (fun s3 I3=>⟨_,H2,I3,q2⟩) hf
 rcases l with ⟨hk,hm⟩ | ⟨hk,c,hc,hcell⟩
 ·exact wpAny_loadName_local I.ok.kind hk hn hm go
 ·rcases hk with hk | hk
  ·exact wpAny_loadName_cell I.ok.kind hk hc hcell go
  ·rcases hx with k | k
   ·have:X.env.scope.names.lookup x=some .free:=hk
    rw[k] at this;cases this
   ·have:X.env.scope.names.lookup x=some .free:=hk
    rw[k] at this;cases this
noncomputable def c0d (to ti te:TE) (tget:V→V→Hp→VK→Prop) (tip:TIp) (tset:TSet):TS:=fun D σ H=>to σ H fun o H1=>ti σ H1 fun i H2=>tget o i H2 fun x H3=>te σ H3 fun y H4=>tip x y H4 fun z H5=>tset o i z H5 fun H6=>D.nx σ H6
noncomputable def PGet (X:Cx) (t:V→V→Hp→VK→Prop):Prop :=
 ∀ (pins:List (Addr × Obj)) (s:Shared) (σ:St) (H:Hp) (o i:V) (ov iv:Value) (Q:VK),Inv X pins σ H s→RelV o ov→RelV i iv→t o i H Q →
   wpAny (model X.prog X.w) X.A (getItem ov iv) (EP X pins σ Q) X.xe s
theorem b6C {o i e:Expr} {to ti te:TE} {tget:V→V→Hp→VK→Prop} {tip:TIp} {tset:TSet} {op:Operator} {tpos:Pos} (ho:PE X o to) (hi:PE X i ti) (hg:PGet X tget) (he:PE X e te) (hp:PIp X op tip) (hs:PSet X tset)
  (ha:∀ ov iv new,augStore i ov iv new=(do holding [new,ov,iv] (setItem ov iv new);release [new,ov,iv] [];pure .next):=by intros;rfl):PS X (.AugAssign (.Subscript o i tpos) op e pos) (c0d to ti te tget tip tset):=by
 intro pins s σ H D I h
 refine wpAny_AugAssign_SubscriptAny (thn (ho pins s σ H _ I h) fun ov s1 ⟨x1,H1,I1,r1,q1⟩=>?_) ha
 refine thn (hi pins s1 σ H1 _ I1 q1) fun iv s2 ⟨x2,H2,I2,r2,q2⟩=>?_
 refine thn (hg pins s2 σ H2 x1 x2 ov iv _ I2 r1 r2 q2) fun old s3 ⟨x3,H3,I3,r3,q3⟩=>?_
 refine thn (he pins s3 σ H3 _ I3 q3) fun v s4 ⟨x4,H4,I4,r4,q4⟩=>?_
 refine thn (hp pins s4 σ H4 x3 x4 old v _ I4 r3 r4 q4) fun new s5 ⟨x5,H5,I5,r5,q5⟩=>?_
 exact thn (hs pins s5 σ H5 x1 x2 x5 ov iv new _ I5 r1 r2 r5 q5) fun _ s6 ⟨H6,I6,q6⟩=>⟨σ,H6,I6,q6⟩
noncomputable def ipI (f:Int→Int→Int):TIp:=fun x y H Q=>∃ i j,x=.int i∧y=.int j∧Q (.int (f i j)) H
theorem b9h:PIp X .Add (ipI fun i j=>i+j):=by
 intro pins s σ H x y v u Q I r1 r2 h
 obtain⟨i,j,e1,e2,q⟩:=h
 subst e1;subst e2
 obtain⟨t,rfl⟩:=r1
 obtain⟨t',rfl⟩:=r2
 exact iadd_int ⟨.int _,H,I.tok _,⟨_,rfl⟩,q⟩
theorem b9g:PIp X .Sub (ipI fun i j=>i - j):=by
 intro pins s σ H x y v u Q I r1 r2 h
 obtain⟨i,j,e1,e2,q⟩:=h
 subst e1;subst e2
 obtain⟨t,rfl⟩:=r1
 obtain⟨t',rfl⟩:=r2
 exact isub_int ⟨.int _,H,I.tok _,⟨_,rfl⟩,q⟩
end
section
variable {X:Cx} {pos:Pos}
end
structure It where
 go:Nat→Hp→Prop
 yld:Nat→Hp→V→Hp→Prop
 stop:Nat→Hp→Prop
noncomputable def FpOk (X:Cx) (pins:List (Addr × Obj)) (H:Hp) (b:Addr):Prop :=
 H b=none∧b≠X.env.locals∧b ∉ X.fs∧(b∈X.ex∨X.s₀.heap.objs.size≤b)∧(∀ x c,X.env.cells.lookup x=some c→c≠b)∧∀ p∈X.pn++pins,p.1≠b
theorem Inv.fpOk {X:Cx} {pins:List (Addr × Obj)} {σ:St} {H H':Hp} {s:Shared} {b:Addr} (I:Inv X pins σ H s) (hb:s.heap.objs.size≤b) (hn:H' b=none):FpOk X pins H' b:=by
 refine⟨hn,Nat.ne_of_gt (Nat.lt_of_lt_of_le I.lt hb),I.nofs hb,.inr (Nat.le_trans I.sz hb),fun x c e z=>?_,fun p hp z=>?_⟩
 ·obtain⟨v,q⟩:=I.cell x c e
  exact absurd (Nat.lt_of_lt_of_le q.lt (by rw[z];exact hb)) (Nat.lt_irrefl _)
 ·exact absurd (Nat.lt_of_lt_of_le (Heap.lt_size (I.pin p hp).1) (by rw[z];exact hb)) (Nat.lt_irrefl _)
structure Turn (P:Program) (w:World) (K:PySem.W.Frag) (tg:Expr) (J:It) (fp:List Addr) (it:Addr) (tn:Nat→Heap→Prop):Prop where
 mem:it∈fp
 obj:∀ i h,tn i h→∀ b∈fp,∃ o,h.get? b=some o∧∀ v,o.data≠.cell v
 keep:∀ i h h',tn i h→(∀ b∈fp,∀ o,h.get? b=some o→h'.get? b=some o)→tn i h'
 item:∀ (X:Cx),X.prog=P→X.w=w→X.K=K→X.calm=true→∀ (i:Nat) (pins:List (Addr × Obj)) (s:Shared) (σ:St) (H:Hp) (E:Value→Shared→Prop),Inv X pins σ H s→(∀ b∈fp,FpOk X pins H b)→tn i s.heap→J.go i H →
  wpAny (model P w) X.A (pyNext (.ref it)) (fun r s1=>∃ u,r=some u ∧
   wpAny (model P w) X.A (letOwnedTupleGo tg (.ref it) u) (fun _ s2=>∃ x H',Inv X pins σ H' s2∧RelV x u∧J.yld i H x H'∧tn (i+1) s2.heap∧∀ b∈fp,H' b=none) E s1) E s
 done:∀ (X:Cx),X.prog=P→X.w=w→X.K=K→X.calm=true→∀ (i:Nat) (pins:List (Addr × Obj)) (s:Shared) (σ:St) (H:Hp) (E:Value→Shared→Prop),Inv X pins σ H s→(∀ b∈fp,FpOk X pins H b)→tn i s.heap→J.stop i H →
  wpAny (model P w) X.A (pyNext (.ref it)) (fun r s1=>r=none∧Inv X pins σ H s1) E s
 self:∀ (A:Around) (i:Nat) (s:Shared) (Q:Value→Shared→Prop) (E:Value→Shared→Prop),tn i s.heap→Q (.ref it) s→wpAny (model P w) A (pyIter (.ref it)) Q E s
noncomputable abbrev TI:=St→Hp→(It→Hp→Prop)→Prop
noncomputable def PIE (X:Cx) (pins:List (Addr × Obj)) (σ:St) (tg:Expr) (R:It→Hp→Prop) (itv:Value) (s2:Shared):Prop :=
 ∃ (it:Addr) (fp:List Addr) (tn:Nat→Heap→Prop) (J:It) (H':Hp),itv=.ref it∧Inv X pins σ H' s2∧Turn X.prog X.w X.K tg J fp it tn∧tn 0 s2.heap∧(∀ b∈fp,FpOk X pins H' b)∧R J H'
noncomputable def PI (X:Cx) (tg iter:Expr) (wi:TI):Prop :=
 ∀ (pins:List (Addr × Obj)) (s:Shared) (σ:St) (H:Hp) (R:It→Hp→Prop),Inv X pins σ H s→wi σ H R →
   wpAny (model X.prog X.w) X.A (eval iter X.env) (fun v s1=>wpAny (model X.prog X.w) X.A (pyIter v) (PIE X pins σ tg R) X.xe s1) X.xe s
theorem b7f {M:Model} {A:Around} {E:Value→Shared→Prop} {s:Shared} {tg:Expr} {it:Addr} {u:Value} {o:Obj} {n:String} {vs:Array Value} {Q:Unit→Shared→Prop} (ho:s.heap.get? it=some o) (hc:o.cls=.type n) (hd:o.data=.fields vs)
  (hn:["enumerate","zip","dict_itemiterator","dict_reverseitemiterator","odict_iterator","itertools.zip_longest","itertools.pairwise"].contains n=false) (hQ:Q () s):wpAny M A (letOwnedTupleGo tg (.ref it) u) Q E s:=by
 unfold letOwnedTupleGo
 cases tg<;>first
  | exact wpAny_pure hQ
  | (cases u<;>first
    | exact wpAny_pure hQ
    | (refine wpAny_bind (wpAny_load ho ?_)
       rw[hc,hd]
       show wpAny M A (if (["enumerate","zip","dict_itemiterator","dict_reverseitemiterator","odict_iterator","itertools.zip_longest","itertools.pairwise"].contains n && vs[0]? == some (rawInt _))=true then _ else _) Q E s
       rw[if_neg (by intro h;rw[hn,Bool.false_and] at h;cases h)]
       exact wpAny_pure hQ))
noncomputable def Itl (K:PySem.W.Frag) (a:Addr):It :=
 ⟨fun i H=>∃ xs x,SqL K H a xs∧xs[i]?=some x,fun i H x H'=>H'=H∧∀ xs,SqL K H a xs→xs[i]?=some x,fun i H=>∃ xs,SqL K H a xs∧xs.length≤i⟩
noncomputable def Itt (K:PySem.W.Frag) (a:Addr):It :=
 ⟨fun i H=>∃ xs x,SqT K H a xs∧xs[i]?=some x,fun i H x H'=>H'=H∧∀ xs,SqT K H a xs→xs[i]?=some x,fun i H=>∃ xs,SqT K H a xs∧xs.length≤i⟩
noncomputable def Itr (lo:Int) (n:Nat):It:=⟨fun i _=>i < n,fun i H x H'=>H'=H∧x=.int (lo+i),fun i _=>n≤i⟩
theorem b1V {P:Program} {w:World} {K:PySem.W.Frag} {tg:Expr} (a it:Addr):Turn P w K tg (Itl K a) [it] it (fun i h=>h.IsListIter it a i) where
 mem:=by simp
 obj:=fun i h st b hb=>by
  have e:b=it:=by simpa using hb
  subst e
  obtain⟨o,e,c,d⟩:=st
  exact⟨o,e,fun v z=>by rw[d] at z;cases z⟩
 keep:=fun i h h' st k=>st.at fun o e=>k it (by simp) o e
 item:=by
  intro X hP hw hK hc i pins s σ H E I hf st hg
  subst hP hw hK
  obtain⟨xs,x,hq,hx⟩:=hg
  obtain⟨its,rv,p,hz⟩:=I.list hq
  obtain⟨u,hu,ru⟩:=rv.get hx
  obtain⟨f0,f1,f2,f3,f4,f5⟩:=hf it (by simp)
  refine wpAny_pyNext_list_item st p.isList (x:=u) (by simpa using hu) fun h' st' sb=>?_
  have I1:Inv X pins σ H { s with heap:=h' }:=I.turned (t':=s.toks) (fun b o hb e=>(sb.2 b hb).trans e) f0 f1 f3 f4 f5
  obtain⟨o,e,c,d⟩:=id st'
  exact⟨u,rfl,b7f (s:={ s with heap:=h' }) e c d (by decide) ⟨x,H,I1,ru,⟨rfl,fun ys hy=>by rw[I.list_inj hy hq];exact hx⟩,st',fun b hb=>(hf b hb).1⟩⟩
 done:=by
  intro X hP hw hK hc i pins s σ H E I hf st hg
  subst hP hw hK
  obtain⟨xs,hq,hx⟩:=hg
  obtain⟨its,rv,p,hz⟩:=I.list hq
  obtain⟨f0,f1,f2,f3,f4,f5⟩:=hf it (by simp)
  have hl:=rv.length
  exact wpAny_pyNext_list_end (I.ok.hd hc) st p.isList (by simp;lia) fun h' eb=>⟨rfl,I.turned (t':=s.toks) (fun b o hb e=>eb b o hb e) f0 f1 f3 f4 f5⟩
 self:=fun _ _ _ _ _ st h=>wpAny_pyIter_listiter st h
theorem b1m {P:Program} {w:World} {K:PySem.W.Frag} {tg:Expr} (a it:Addr):Turn P w K tg (Itt K a) [it] it (fun i h=>h.IsTupleIter it a i) where
 mem:=by simp
 obj:=fun i h st b hb=>by
  have e:b=it:=by simpa using hb
  subst e
  obtain⟨o,e,c,d⟩:=st
  exact⟨o,e,fun v z=>by rw[d] at z;cases z⟩
 keep:=fun i h h' st k=>st.at fun o e=>k it (by simp) o e
 item:=by
  intro X hP hw hK hc i pins s σ H E I hf st hg
  subst hP hw hK
  obtain⟨xs,x,hq,hx⟩:=hg
  obtain⟨its,rv,p,hz⟩:=I.tuple hq
  obtain⟨u,hu,ru⟩:=rv.get hx
  obtain⟨f0,f1,f2,f3,f4,f5⟩:=hf it (by simp)
  refine wpAny_pyNext_tuple_item st (show s.heap.IsTuple a its.toArray from p) (x:=u) (by simpa using hu) fun h' st' sb=>?_
  have I1:Inv X pins σ H { s with heap:=h' }:=I.turned (t':=s.toks) (fun b o hb e=>(sb.2 b hb).trans e) f0 f1 f3 f4 f5
  obtain⟨o,e,c,d⟩:=id st'
  exact⟨u,rfl,b7f (s:={ s with heap:=h' }) e c d (by decide) ⟨x,H,I1,ru,⟨rfl,fun ys hy=>by rw[I.tuple_inj hy hq];exact hx⟩,st',fun b hb=>(hf b hb).1⟩⟩
 done:=by
  intro X hP hw hK hc i pins s σ H E I hf st hg
  subst hP hw hK
  obtain⟨xs,hq,hx⟩:=hg
  obtain⟨its,rv,p,hz⟩:=I.tuple hq
  obtain⟨f0,f1,f2,f3,f4,f5⟩:=hf it (by simp)
  have hl:=rv.length
  exact wpAny_pyNext_tuple_end (I.ok.hd hc) st (show s.heap.IsTuple a its.toArray from p) (by simp;lia) fun h' eb=>⟨rfl,I.turned (t':=s.toks) (fun b o hb e=>eb b o hb e) f0 f1 f3 f4 f5⟩
 self:=fun _ _ _ _ _ st h=>wpAny_pyIter_tupleiter st h
theorem b1n {P:Program} {w:World} {K:PySem.W.Frag} {tg:Expr} (it:Addr) (lo:Int) (n:Nat):Turn P w K tg (Itr lo n) [it] it (fun i h=>IsRangeIter h it (lo+(i:Nat)*1) ((n:Int) - (i:Nat)) 1) where
 mem:=by simp
 obj:=fun i h st b hb=>by
  have e:b=it:=by simpa using hb
  subst e
  exact⟨_,st,fun v z=>by
   have z':Data.fields _=Data.cell v:=z
   cases z'⟩
 keep:=fun i h h' st k=>k it (by simp) _ st
 item:=by
  intro X hP hw hK hc i pins s σ H E I hf st hg
  subst hP hw hK
  obtain⟨f0,f1,f2,f3,f4,f5⟩:=hf it (by simp)
  have W:=Walks.range (prog:=X.prog) (w:=X.w) (I.ok.hd hc) it lo 1 n
  refine W.item i s _ _ hg st fun v h' tk hv st' kk=>?_
  obtain⟨t,rfl⟩:=hv
  have I1:Inv X pins σ H { s with heap:=h',toks:=tk }:=I.turned (fun b o hb e=>kk b o (by simpa using hb) e) f0 f1 f3 f4 f5
  refine⟨_,rfl,b7f (s:={ s with heap:=h',toks:=tk }) (n:="range_iterator") st' rfl rfl (by decide) ⟨.int (lo+i),H,I1,⟨t,?_⟩,⟨rfl,rfl⟩,st',fun b hb=>(hf b hb).1⟩⟩
  rw[Int.mul_one]
 done:=by
  intro X hP hw hK hc i pins s σ H E I hf st hg
  subst hP hw hK
  obtain⟨f0,f1,f2,f3,f4,f5⟩:=hf it (by simp)
  exact wpAny_pyNext_range_end (I.ok.hd hc) st (by have:n≤i:=hg;lia) fun h' eb=>⟨rfl,I.turned (t':=s.toks) (fun b o hb e=>eb b o hb e) f0 f1 f3 f4 f5⟩
 self:=fun _ _ _ _ _ st h=>wpAny_pyIter_rangeiter st h
section
variable {X:Cx} {tg:Expr}
theorem b0u {pins:List (Addr × Obj)} {σ:St} {H:Hp} {s:Shared} {R:It→Hp→Prop} {E:Value→Shared→Prop} {lo hi:Int} {t u v:Tok} {tk:Nat} (I:Inv X pins σ H s) (h1:-(2 ^ 62)≤lo) (h2:lo < 2 ^ 62) (h3:-(2 ^ 62)≤hi) (h4:hi < 2 ^ 62)
  (q:R (Itr lo (hi - lo).toNat) H):wpAny (model X.prog X.w) X.A (pyIter (.ref s.heap.objs.size)) (PIE X pins σ tg R) E { s with heap:=s.heap.push { cls:=.type "range",data:=.fields #[.int lo t,.int hi u,.int 1 v] },toks:=tk }:=by
 refine wpAny_pyIter_range (IsRange.new ..) (small_one h1 h2 h3 h4) ?_
 have I1:Inv X pins σ H { s with heap:=s.heap.push { cls:=.type "range",data:=.fields #[.int lo t,.int hi u,.int 1 v] },toks:=tk }:=I.kept fun b o e=>Heap.get?_push_of_some _ e
 refine⟨(s.heap.push { cls:=.type "range",data:=.fields #[.int lo t,.int hi u,.int 1 v] }).objs.size,[(s.heap.push { cls:=.type "range",data:=.fields #[.int lo t,.int hi u,.int 1 v] }).objs.size],_,_,H,rfl,
  I1.kept (t':=tk) fun b o e=>Heap.get?_push_of_some _ e,b1n _ lo (hi - lo).toNat,?_,fun b hb=>?_,q⟩
 ·have e1:lo+((0:Nat):Int)*1=lo:=by simp
  have e2:(((hi - lo).toNat:Nat):Int) - ((0:Nat):Int)=Builtin.Range.rangeSize lo hi 1:=by rw[rangeSize_one];split<;>lia
  show IsRangeIter _ _ (lo+((0:Nat):Int)*1) ((((hi - lo).toNat:Nat):Int) - ((0:Nat):Int)) 1
  rw[e1,e2]
  exact Heap.get?_push_size _ rfl
 ·have e:b=(s.heap.push { cls:=.type "range",data:=.fields #[.int lo t,.int hi u,.int 1 v] }).objs.size:=by simpa using hb
  subst e
  exact I1.fpOk (Nat.le_refl _) (I1.hok.fresh (Nat.le_refl _))
noncomputable def c0B (ta:TA):TI:=fun σ H R=>ta σ H fun vs H1=>∃ j:Int,vs=[.int j]∧-(2 ^ 62)≤j∧j < 2 ^ 62∧R (Itr 0 j.toNat) H1
noncomputable def c0A (ta:TA):TI:=fun σ H R=>ta σ H fun vs H1=>∃ i j:Int,vs=[.int i,.int j]∧(-(2 ^ 62)≤i∧i < 2 ^ 62∧-(2 ^ 62)≤j∧j < 2 ^ 62)∧R (Itr i (j - i).toNat) H1
theorem b2v {a:Expr} {ta:TA} {p pos:Pos} (hg:Gl X "range") (hm:X.mg "range"=none) (ha:PA X [a] ta) (hs:starEach [a] X.env=[(false,eval a X.env)]:=by rfl):PI X tg (.Call (.Name "range" p) [a] [] pos) (c0B ta):=by
 intro pins s σ H R I h
 refine Call_ (a3y I hg hm boot_range (PyProof.Rows.callWith_type1 (thn (ha pos pins s σ H _ I h) fun us s1 ⟨vs,H1,I1,r1,q1⟩=>?_) hs rfl))
 obtain⟨j,e,q1,q2,q⟩:=q1
 subst e
 cases r1 with
 | cons r rr =>
   cases rr
   obtain⟨t,rfl⟩:=r
   exact call_range_1 (b0u I1 (by lia) (by lia) q1 q2 (by simpa using q))
theorem b2u {a b:Expr} {ta:TA} {p pos:Pos} (hg:Gl X "range") (hm:X.mg "range"=none) (ha:PA X [a,b] ta) (hs:starEach [a,b] X.env=[(false,eval a X.env),(false,eval b X.env)]:=by rfl) (hs2:starEach [b] X.env=[(false,eval b X.env)]:=by rfl) :
  PI X tg (.Call (.Name "range" p) [a,b] [] pos) (c0A ta):=by
 intro pins s σ H R I h
 refine Call_ (a3y I hg hm boot_range (PyProof.Rows.callWith_type1 (thn (ha pos pins s σ H _ I h) fun us s1 ⟨vs,H1,I1,r1,q1⟩=>?_) (by rw[hs,hs2]) (by rw[hs2];rfl)))
 obtain⟨i,j,e,⟨q1,q2,q3,q4⟩,q⟩:=q1
 subst e
 cases r1 with
 | cons r rr =>
   cases rr with
   | cons r' rr =>
     cases rr
     obtain⟨t,rfl⟩:=r
     obtain⟨t',rfl⟩:=r'
     exact call_range_2 (b0u I1 q1 q2 q3 q4 q)
noncomputable def tFor (wi:TI) (g:TG) (tb:TS):TS:=fun D σ H=>wi σ H fun J H1=>∃ W:Nat→Nat→St→Hp→Prop,(∃ m,W 0 m σ H1)∧∀ i m σ H,W i m σ H →
 (J.stop i H∧D.nx σ H)∨(J.go i H∧∃ N:St→Hp→Prop,(∀ σ' H',N σ' H'→∃ m',m' < m∧W (i+1) m' σ' H')∧∀ x H',J.yld i H x H'→g x σ H' fun σ2 H2=>tb { D with nx:=N,ct:=N,bk:=D.nx } σ2 H2)
noncomputable def a6y (fp:List Addr) (h:Heap):List (Addr × Obj):=fp.filterMap fun b=>(h.get? b).map fun o=>(b,o)
theorem a3X {fp:List Addr} {h:Heap} {b:Addr} {o:Obj} (hb:b∈fp) (e:h.get? b=some o):(b,o)∈a6y fp h:=List.mem_filterMap.mpr ⟨b,hb,by rw[e];rfl⟩
theorem b2D {fp:List Addr} {h:Heap} {p:Addr × Obj} (hp:p∈a6y fp h):p.1∈fp∧h.get? p.1=some p.2:=by
 obtain⟨b,hb,e⟩:=List.mem_filterMap.mp hp
 cases q:h.get? b with
 | none=>rw[q] at e;cases e
 | some o =>
   rw[q] at e
   have e':(b,o)=p:=Option.some.inj e
   subst e'
   exact⟨hb,q⟩
theorem Inv.pinned {pins:List (Addr × Obj)} {σ:St} {H:Hp} {s:Shared} {fp:List Addr} (I:Inv X pins σ H s) (hf:∀ b∈fp,FpOk X pins H b) (ho:∀ b∈fp,∃ o,s.heap.get? b=some o∧∀ v,o.data≠.cell v):Inv X (pins++a6y fp s.heap) σ H s :=
 I.pins_of fun p hp=>(List.mem_append.mp hp).elim (fun z=>I.pin p (List.mem_append_right _ z)) fun z=>by
  obtain⟨hb,e⟩:=b2D z
  obtain⟨f0,f1,f2,_⟩:=hf p.1 hb
  obtain⟨o,e',d⟩:=ho p.1 hb
  rw[e] at e';cases e'
  exact⟨e,f0,f1,f2,d⟩
theorem Inv.unpinned {pins pl:List (Addr × Obj)} {σ:St} {H:Hp} {s:Shared} (I:Inv X (pins++pl) σ H s):Inv X pins σ H s:=I.pins_of fun p hp=>I.pin p (List.mem_append_right _ (List.mem_append_left _ hp))
theorem b8B {iter:Expr} {body:List Stmt} {wi:TI} {g:TG} {tb:TS} {pos:Pos} (hp:PassesOwn (model X.prog X.w) X.A X.env X.xe) (hc:X.calm=true) (hi:PI X tg iter wi) (hg:PG X tg g) (hb:PSs X body tb)
  (hs:∀ x,foldedSetIterable iter X.env x=pure x:=by intro _;rfl):PS X (.For tg iter body [] pos) (tFor wi g tb):=by
 intro pins s σ H D I h
 refine wpAny_For (thn (hi pins s σ H _ I h) fun v s1 h1=>thn h1 fun itv s2 h2=>?_) hs
 obtain⟨it,fp,tn,J,H2,e,I2,T,st2,f2,W,⟨m0,w0⟩,turn⟩:=h2
 subst e
 -- what stays true of the iterator's objects through the loop
 have stat:∀ {H':Hp},(∀ b∈fp,H' b=none)→∀ b∈fp,FpOk X pins H' b:=fun hn b hb=>⟨hn b hb,(f2 b hb).2⟩
 refine codeAny_forLoop_any (fun n s'=>∃ i σ' H',Inv X pins σ' H' s'∧tn i s'.heap∧(∀ b∈fp,H' b=none)∧W i n σ' H') ?_ m0 ⟨0,σ,H2,I2,st2,fun b hb=>(f2 b hb).1,w0⟩
 rintro n s3 ⟨i,σ3,H3,I3,st3,fr3,w3⟩
 rcases turn i n σ3 H3 w3 with ⟨stop,qn⟩ | ⟨go,N,hN,step⟩
 ·refine wpAny_passesOwn hp (thn (T.done X rfl rfl rfl hc i pins s3 σ3 H3 X.xe I3 (stat fr3) st3 stop) fun r s4 ⟨hr,I4⟩=>?_)
  subst hr
  exact wpAny_execs_nil ⟨σ3,H3,I4,qn⟩
 ·refine wpAny_passesOwn hp (thn (T.item X rfl rfl rfl hc i pins s3 σ3 H3 X.xe I3 (stat fr3) st3 go) fun r s4 ⟨u,hr,h4⟩=>?_)
  subst hr
  refine wpAny_passesOwn hp (thn h4 fun _ s5 ⟨x,H5,I5,r5,y5,st5,fr5⟩=>?_)
  have I5':=I5.pinned (stat fr5) (T.obj _ _ st5)
  refine wpAny_passesOwn hp (thn (hg _ s5 σ3 H5 x u _ I5' r5 (step x H5 y5)) fun _ s6 ⟨σ6,H6,I6,q6⟩=>?_)
  refine wpAny_passesOwn hp (thn (hb _ s6 σ6 H6 _ I6 q6) fun f s7 q7=>?_)
  have again:∀ {σ7:St} {H7:Hp},Inv X (pins++a6y fp s5.heap) σ7 H7 s7→N σ7 H7→∃ m,m < n∧∃ i σ' H',Inv X pins σ' H' s7∧tn i s7.heap∧(∀ b∈fp,H' b=none)∧W i m σ' H':=fun {σ7 H7} I7 n7=>by
   obtain⟨m',hm,w7⟩:=hN σ7 H7 n7
   refine⟨m',hm,i+1,σ7,H7,I7.unpinned,T.keep _ _ _ st5 fun b hb o e=>(I7.pin (b,o) (List.mem_append_right _ (List.mem_append_right _ (a3X hb e)))).1,fun b hb=>?_,w7⟩
   obtain⟨o,e,d⟩:=T.obj _ _ st5 b hb
   exact (I7.pin (b,o) (List.mem_append_right _ (List.mem_append_right _ (a3X hb e)))).2.1
  cases f with
  | next=>obtain⟨σ7,H7,I7,n7⟩:=q7;exact again I7 n7
  | cont=>obtain⟨σ7,H7,I7,n7⟩:=q7;exact again I7 n7
  | brk=>obtain⟨σ7,H7,I7,q7⟩:=q7;exact⟨σ7,H7,I7.unpinned,q7⟩
  | ret v=>obtain⟨x7,σ7,H7,I7,r7,q7⟩:=q7;exact⟨x7,σ7,H7,I7.unpinned,r7,q7⟩
end
noncomputable abbrev R2:=V→V→Hp→VK→Prop
noncomputable def OpR (X:Cx) (f:Value→Value→Sem Value) (r:R2):Prop :=
 ∀ (pins:List (Addr × Obj)) (s:Shared) (σ:St) (H:Hp) (x y:V) (v u:Value) (Q:VK),Inv X pins σ H s→RelV x v→RelV y u→r x y H Q →
   wpAny (model X.prog X.w) X.A (f v u) (EP X pins σ Q) X.xe s
noncomputable def UnR (X:Cx) (f:Value→Sem Value) (r:V→Hp→VK→Prop):Prop :=
 ∀ (pins:List (Addr × Obj)) (s:Shared) (σ:St) (H:Hp) (x:V) (v:Value) (Q:VK),Inv X pins σ H s→RelV x v→r x H Q →
   wpAny (model X.prog X.w) X.A (f v) (EP X pins σ Q) X.xe s
noncomputable def a6q (X:Cx) (f:Value) (r:List V→Hp→VK→Prop):Prop :=
 ∀ (pins:List (Addr × Obj)) (s:Shared) (σ:St) (H:Hp) (xs:List V) (us:List Value) (Q:VK),Inv X pins σ H s→Vals xs us→r xs H Q →
   wpAny (model X.prog X.w) X.A (call f us) (EP X pins σ Q) X.xe s
noncomputable def TruR (X:Cx) (r:V→Hp→(Bool→Hp→Prop)→Prop):Prop :=
 ∀ (pins:List (Addr × Obj)) (s:Shared) (σ:St) (H:Hp) (x:V) (v:Value) (Q:Bool→Hp→Prop),Inv X pins σ H s→RelV x v→r x H Q →
   wpAny (model X.prog X.w) X.A (truthy v) (TP X pins σ Q) X.xe s
noncomputable def tOp (r:R2) (ta tb:TE):TE:=fun σ H Q=>ta σ H fun x H1=>tb σ H1 fun y H2=>r x y H2 Q
noncomputable def tUn (r:V→Hp→VK→Prop) (ta:TE):TE:=fun σ H Q=>ta σ H fun x H1=>r x H1 Q
noncomputable def rI (C:Int→Int→Prop) (g:Int→Int→V):R2:=fun x y H Q=>∃ i j,x=.int i∧y=.int j∧C i j∧Q (g i j) H
noncomputable def rI0 (g:Int→Int→V):R2:=fun x y H Q=>∃ i j,x=.int i∧y=.int j∧Q (g i j) H
noncomputable def rU (g:Int→V):V→Hp→VK→Prop:=fun x H Q=>∃ i,x=.int i∧Q (g i) H
section
variable {X:Cx} {a b c:Expr} {ta tb tc:TE} {pos:Pos}
theorem binT (ha:PE X a ta) (hb:PE X b tb) {pins:List (Addr × Obj)} {s:Shared} {σ:St} {H:Hp} {R:V→V→Hp→Prop} (I:Inv X pins σ H s)
  (h:ta σ H fun x H1=>tb σ H1 fun y H2=>R x y H2) {Q:Value→Shared→Prop} {f:Value→Value→Sem Value}
  (hf:∀ v u s2 x y H2,Inv X pins σ H2 s2→RelV x v→RelV y u→R x y H2→wpAny (model X.prog X.w) X.A (f v u) Q X.xe s2) :
  wpAny (model X.prog X.w) X.A (eval a X.env) (fun v s₁=>wpAny (model X.prog X.w) X.A (eval b X.env) (fun u s₂=>wpAny (model X.prog X.w) X.A (f v u) Q X.xe s₂) X.xe s₁) X.xe s:=by
 refine thn (ha pins s σ H _ I h) fun v s1 ⟨x,H1,I1,r1,q1⟩=>?_
 refine thn (hb pins s1 σ H1 _ I1 q1) fun u s2 ⟨y,H2,I2,r2,q2⟩=>?_
 exact hf v u s2 x y H2 I2 r1 r2 q2
theorem c0p {op:Operator} {r:R2} (ho:OpR X (binaryOp op) r) (ha:PE X a ta) (hb:PE X b tb):PE X (.BinOp a op b pos) (tOp r ta tb):=by
 intro pins s σ H Q I h
 exact wpAny_BinOp (binT ha hb I h fun v u s2 x y H2 I2 rx ry q=>ho pins s2 σ H2 x y v u Q I2 rx ry q)
theorem c0o {op:UnaryOp} {r:V→Hp→VK→Prop} (ho:UnR X (unaryOp op) r) (ha:PE X a ta):PE X (.UnaryOp op a pos) (tUn r ta):=by
 intro pins s σ H Q I h
 exact UnaryOp_ (thn (ha pins s σ H _ I h) fun v s1 ⟨x,H1,I1,r1,q1⟩=>ho pins s1 σ H1 x v Q I1 r1 q1)
theorem opI {f:Value→Value→Sem Value} {C:Int→Int→Prop} {g:Int→Int→Int}
  (rule:∀ (i j:Int) (t u:Tok) (s:Shared) (Q:Value→Shared→Prop) (E:Value→Shared→Prop),C i j→Q (.int (g i j) s.toks) { s with toks:=s.toks+1 }→wpAny (model X.prog X.w) X.A (f (.int i t) (.int j u)) Q E s) :
  OpR X f (rI C fun i j=>.int (g i j)):=by
 intro pins s σ H x y v u Q I rx ry h
 obtain⟨i,j,rfl,rfl,hc,q⟩:=h
 obtain⟨t,rfl⟩:=rx
 obtain⟨t',rfl⟩:=ry
 exact rule i j t t' s _ _ hc ⟨.int (g i j),H,I.tok _,⟨_,rfl⟩,q⟩
theorem opI0 {f:Value→Value→Sem Value} {g:Int→Int→Int}
  (rule:∀ (i j:Int) (t u:Tok) (s:Shared) (Q:Value→Shared→Prop) (E:Value→Shared→Prop),Q (.int (g i j) s.toks) { s with toks:=s.toks+1 }→wpAny (model X.prog X.w) X.A (f (.int i t) (.int j u)) Q E s) :
  OpR X f (rI0 fun i j=>.int (g i j)):=by
 intro pins s σ H x y v u Q I rx ry h
 obtain⟨i,j,rfl,rfl,q⟩:=h
 obtain⟨t,rfl⟩:=rx
 obtain⟨t',rfl⟩:=ry
 exact rule i j t t' s _ _ ⟨.int (g i j),H,I.tok _,⟨_,rfl⟩,q⟩
theorem opB0 {f:Value→Value→Sem Value} {g:Int→Int→Bool}
  (rule:∀ (i j:Int) (t u:Tok) (s:Shared) (Q:Value→Shared→Prop) (E:Value→Shared→Prop),Q (.bool (g i j)) s→wpAny (model X.prog X.w) X.A (f (.int i t) (.int j u)) Q E s) :
  OpR X f (rI0 fun i j=>.bl (g i j)):=by
 intro pins s σ H x y v u Q I rx ry h
 obtain⟨i,j,rfl,rfl,q⟩:=h
 obtain⟨t,rfl⟩:=rx
 obtain⟨t',rfl⟩:=ry
 exact rule i j t t' s _ _ ⟨.bl (g i j),H,I,rfl,q⟩
noncomputable def CPow (i j:Int):Prop:=0≤j∧j≤1000000∧i.natAbs < 2 ^ 64
noncomputable def CMul (i j:Int):Prop:=(-(2 ^ 64) < i∧i < 2 ^ 64)∨(-(2 ^ 64) < j∧j < 2 ^ 64)
theorem CMul.ok {i j:Int} (h:CMul i j):IntMulOk i j:=by
 rcases h with ⟨h1,h2⟩ | ⟨h1,h2⟩
 ·exact .of_left (intBits_le_64 h1 h2)
 ·exact .of_right (intBits_le_64 h1 h2)
theorem b8T:OpR X (binaryOp .Add) (rI0 fun i j=>.int (i+j)):=opI0 fun _ _ _ _ _ _ _ q=>add_int q
theorem b8N:OpR X (binaryOp .Sub) (rI0 fun i j=>.int (i - j)):=opI0 fun _ _ _ _ _ _ _ q=>sub_int q
theorem b8Q:OpR X (binaryOp .Mult) (rI CMul fun i j=>.int (i*j)):=opI fun _ _ _ _ _ _ _ hc q=>mul_int q hc.ok
theorem b8R:OpR X (binaryOp .Mod) (rI (fun _ j=>0 < j) fun i j=>.int (i % j)):=opI fun i j _ _ _ _ _ hc q=>by
 have h1:(0:Int) < j:=hc
 exact mod_int' (by lia) (by rw[Int.fmod_eq_emod_of_nonneg i (by lia)];exact q)
theorem b8P:OpR X (binaryOp .Pow) (rI CPow fun i j=>.int (i ^ j.toNat)):=opI fun _ _ _ _ _ _ _ hc q=>pow_int_small hc.1 hc.2.1 hc.2.2 q
theorem unI {f:Value→Sem Value} {g:Int→Int}
  (rule:∀ (i:Int) (t:Tok) (s:Shared) (Q:Value→Shared→Prop) (E:Value→Shared→Prop),Q (.int (g i) s.toks) { s with toks:=s.toks+1 }→wpAny (model X.prog X.w) X.A (f (.int i t)) Q E s) :
  UnR X f (rU fun i=>.int (g i)):=by
 intro pins s σ H x v Q I rx h
 obtain⟨i,rfl,q⟩:=h
 obtain⟨t,rfl⟩:=rx
 exact rule i t s _ _ ⟨.int (g i),H,I.tok _,⟨_,rfl⟩,q⟩
theorem b7N:UnR X (unaryOp .USub) (rU fun i=>.int (-i)):=unI fun _ _ _ _ _ q=>neg_int q
end
section
variable {X:Cx} {a b c:Expr} {ta tb tc:TE} {pos:Pos}
theorem c0u:OpR X (compareOp .Lt) (rI0 fun i j=>.bl (decide (i < j))):=opB0 fun _ _ _ _ _ _ _ q=>lt_int q
theorem c0v:OpR X (compareOp .LtE) (rI0 fun i j=>.bl (decide (i≤j))):=opB0 fun _ _ _ _ _ _ _ q=>le_int q
theorem c0w:OpR X (compareOp .Gt) (rI0 fun i j=>.bl (decide (j < i))):=opB0 fun _ _ _ _ _ _ _ q=>gt_int q
theorem c0x:OpR X (compareOp .GtE) (rI0 fun i j=>.bl (decide (j≤i))):=opB0 fun _ _ _ _ _ _ _ q=>ge_int q
theorem a1k (b:Expr) {op:CmpOp} (h:op≠.In:=by decide) (h2:op≠.NotIn:=by decide):behindInMarks op b=false:=by
 have e1:(op == CmpOp.In)=false:=by cases op<;>first | rfl | exact absurd rfl h
 have e2:(op == CmpOp.NotIn)=false:=by cases op<;>first | rfl | exact absurd rfl h2
 cases b<;>simp [behindInMarks,e1,e2]
theorem b6I {op:CmpOp} {r:R2} (ho:OpR X (compareOp op) r) (ha:PE X a ta) (hb:PE X b tb) (hm:behindInMarks op b=false):PE X (.Compare a [op] [b] pos) (tOp r ta tb):=by
 intro pins s σ H Q I h
 exact wpAny_Compare1 (binT ha hb I h fun v u s2 x y H2 I2 rx ry q=>ho pins s2 σ H2 x y v u Q I2 rx ry q) hm
noncomputable def b7U (t:TE):TT:=fun σ H Q=>t σ H fun x H'=>∃ k,x=.bl k∧Q k H'
theorem b6w {op:CmpOp} {r:R2} (ho:OpR X (compareOp op) r) (ha:PE X a ta) (hb:PE X b tb) (hm:behindInMarks op b=false):PT X (.Compare a [op] [b] pos) (b7U (tOp r ta tb)):=by
 intro pins s σ H Q I h
 refine wpAny_isTrue_Compare1 (thn (ha pins s σ H _ I h) fun v s1 ⟨x,H1,I1,r1,q1⟩=>thn (hb pins s1 σ H1 _ I1 q1) fun u s2 ⟨y,H2,I2,r2,q2⟩ =>
  thn (ho pins s2 σ H2 x y v u _ I2 r1 r2 q2) fun c s3 ⟨z,H3,I3,r3,k,e,q3⟩=>?_) hm
 subst e
 cases r3
 exact wpAny_truthy_bool ⟨H3,I3,q3⟩
noncomputable def b2a (r r':R2) (ta tb tc:TE):TE:=fun σ H Q=>ta σ H fun x H1=>tb σ H1 fun y H2=>r x y H2 fun z H3=>∃ k,z=.bl k ∧
 (if k=true then tc σ H3 fun w' H4=>r' y w' H4 Q else Q (.bl false) H3)
theorem b4v {op op':CmpOp} {r r':R2} (ho:OpR X (compareOp op) r) (ho':OpR X (compareOp op') r') (ha:PE X a ta) (hb:PE X b tb) (hc:PE X c tc)
  (hm:lastMarks [op,op'] [b,c]=false:=by with_unfolding_all rfl):PE X (.Compare a [op,op'] [b,c] pos) (b2a r r' ta tb tc):=by
 intro pins s σ H Q I h
 refine Compare_chain (thn (ha pins s σ H _ I h) fun v s1 ⟨x,H1,I1,r1,q1⟩=>chain_link (thn (hb pins s1 σ H1 _ I1 q1) fun u s2 ⟨y,H2,I2,r2,q2⟩ =>
  thn (ho pins s2 σ H2 x y v u _ I2 r1 r2 q2) fun d s3 ⟨z,H3,I3,r3,k,e,q3⟩=>?_)) hm
 subst e
 cases r3
 refine wpAny_truthy_bool ?_
 cases k with
 | false=>exact ite_ff ⟨.bl false,H3,I3,rfl,q3⟩
 | true=>exact ite_tt (chain_last (thn (hc pins s3 σ H3 _ I3 q3) fun w' s4 ⟨z',H4,I4,r4,q4⟩=>ho' pins s4 σ H4 y z' u w' Q I4 r2 r4 q4))
theorem b4o {op op':CmpOp} {r r':R2} (ho:OpR X (compareOp op) r) (ho':OpR X (compareOp op') r') (ha:PE X a ta) (hb:PE X b tb) (hc:PE X c tc)
  (hm:lastMarks [op,op'] [b,c]=false:=by with_unfolding_all rfl):PT X (.Compare a [op,op'] [b,c] pos) (b7U (b2a r r' ta tb tc)):=by
 intro pins s σ H Q I h
 refine isTrue_chain (thn (ha pins s σ H _ I h) fun v s1 ⟨x,H1,I1,r1,q1⟩=>test_link (thn (hb pins s1 σ H1 _ I1 q1) fun u s2 ⟨y,H2,I2,r2,q2⟩ =>
  thn (ho pins s2 σ H2 x y v u _ I2 r1 r2 q2) fun d s3 ⟨z,H3,I3,r3,k,e,q3⟩=>?_)) hm
 subst e
 cases r3
 refine wpAny_truthy_bool ?_
 cases k with
 | false =>
   obtain⟨k',e',q'⟩:=q3
   cases e'
   exact ite_ff ⟨H3,I3,q'⟩
 | true =>
   refine ite_tt (test_last (thn (hc pins s3 σ H3 _ I3 q3) fun w' s4 ⟨z',H4,I4,r4,q4⟩=>thn (ho' pins s4 σ H4 y z' u w' _ I4 r2 r4 q4) fun d' s5 ⟨z2,H5,I5,r5,k2,e2,q5⟩=>?_))
   subst e2
   cases r5
   exact wpAny_truthy_bool ⟨H5,I5,q5⟩
noncomputable def TruV (K:PySem.W.Frag) (x:V) (H:Hp) (k:Bool):Prop :=
 match x with
 | .non=>k=false
 | .bl b=>k=b
 | .int i=>k=(i != 0)
 | .str y=>y.length≤sizeLine∧k=((y.length:Int) != 0)
 | .byt y=>y.size≤sizeLine∧k=((y.size:Int) != 0)
 | .ref p=>(∃ xs,SqL K H p xs∧k=!xs.isEmpty)∨(∃ xs,SqT K H p xs∧k=!xs.isEmpty)∨∃ kvs,H p=some (.dK kvs)∧k=!kvs.isEmpty
 | _=>False
theorem b1J {κ:Type} {kvs:List (κ × V)} {vs:List (κ × Value)} (r:KV kvs vs):(!vs.isEmpty)=!kvs.isEmpty:=by
 cases r<;>rfl
theorem a6H {xs:List V} {its:List Value} (r:Vals xs its):(!its.toArray.isEmpty)=!xs.isEmpty:=by
 cases r<;>simp
theorem a5h:(sizeLine:Nat) < 2 ^ 63:=by rw[sizeLine_eq];decide
theorem b7Q:TruR X (fun x H Q=>∃ k,TruV X.K x H k∧Q k H):=by
 intro pins s σ H x v Q I rx h
 obtain⟨k,e,q⟩:=h
 have hl:=a5h
 have hs:sizeLine=16777216:=sizeLine_eq
 cases x with
 | non =>
   cases rx
   have e':k=false:=e
   subst e'
   exact truthy_none ⟨H,I,q⟩
 | bl b =>
   cases rx
   have e':k=b:=e
   subst e'
   exact wpAny_truthy_bool ⟨H,I,q⟩
 | int i =>
   obtain⟨t,rfl⟩:=rx
   have e':k=(i != 0):=e
   subst e'
   exact PySem.P.truthy_int ⟨H,I,q⟩
 | str y =>
   obtain⟨t,rfl⟩:=rx
   obtain⟨hy,e'⟩:y.length≤sizeLine∧k=((y.length:Int) != 0):=e
   subst e'
   exact PySem.P.truthy_str (by lia) ⟨H,I.tok _,q⟩
 | byt y =>
   obtain⟨t,rfl⟩:=rx
   obtain⟨hy,e'⟩:y.size≤sizeLine∧k=((y.size:Int) != 0):=e
   subst e'
   exact PySem.W.truthy_bytes (by lia) ⟨H,I.tok _,q⟩
 | ref p =>
   cases rx
   have e':(∃ xs,SqL X.K H p xs∧k=!xs.isEmpty)∨(∃ xs,SqT X.K H p xs∧k=!xs.isEmpty)∨∃ kvs,H p=some (.dK kvs)∧k=!kvs.isEmpty:=e
   rcases e' with ⟨xs,hx,e'⟩ | ⟨xs,hx,e'⟩ | ⟨kvs,hx,e'⟩
   ·subst e'
    obtain⟨its,r,pl,hz⟩:=I.list hx
    have hlen:=r.length
    exact wpAny_truthy_list pl.isList (by simp only[List.size_toArray];lia) ⟨H,I.tok _,by rw[a6H r];exact q⟩
   ·subst e'
    obtain⟨its,r,pl,hz⟩:=I.tuple hx
    have hlen:=r.length
    exact truthy_tuple pl (by simp only[List.size_toArray];lia) ⟨H,I.tok _,by rw[a6H r];exact q⟩
   ·subst e'
    obtain⟨hz,hS,vs,r,m⟩:kvs.length≤sizeLine∧(p == sysModules)=false∧∃ vs,KV kvs vs∧s.heap.DictOf (a1i X.prog X.w) p vs:=I.hok p _ hx
    have hlen:kvs.length=vs.length:=Paired.length r
    exact wpAny_truthy_dict hS m (by lia) ⟨H,I.tok _,by rw[b1J r];exact q⟩
 | _=>exact (show False from e).elim
theorem b4n (ha:PE X a ta) (he:∀ whole,isTrue a X.env whole=(do let v ← whole;standAt a.pos;holding [v] (truthy v))) :
  PT X a (fun σ H Q=>ta σ H fun x H'=>∃ k,TruV X.K x H' k∧Q k H'):=by
 intro pins s σ H Q I h
 exact isTrue_plain (thn (ha pins s σ H _ I h) fun v s1 ⟨x,H1,I1,r1,q1⟩=>b7Q pins s1 σ H1 x v Q I1 r1 q1) (he _)
theorem b1A:OpR X (binaryOp .Add) (fun x y H Q=>∃ i j,x=.str i∧y=.str j∧i.length+j.length≤sizeLine∧Q (.str (i++j)) H):=by
 intro pins s σ H x y v u Q I rx ry h
 obtain⟨i,j,rfl,rfl,hz,q⟩:=h
 obtain⟨t,rfl⟩:=rx
 obtain⟨t',rfl⟩:=ry
 exact add_str (fun t' tk=>⟨.str (i++j),H,I.tok _,⟨_,rfl⟩,q⟩) hz
theorem a5i {x:V} {us:List Value} (r:Vals [x] us):∃ u,us=[u]∧RelV x u:=by
 cases r with
 | cons r1 r2=>cases r2;exact⟨_,rfl,r1⟩
theorem b9V {x y:V} {us:List Value} (r:Vals [x,y] us):∃ u w',us=[u,w']∧RelV x u∧RelV y w':=by
 cases r with
 | cons r1 r2 =>
   cases r2 with
   | cons r3 r4=>cases r4;exact⟨_,_,rfl,r1,r3⟩
theorem b5j:a6q X (.builtin "abs") (fun xs H Q=>∃ i,xs=[.int i]∧Q (.int (if i < 0 then -i else i)) H):=by
 intro pins s σ H xs us Q I r h
 obtain⟨i,rfl,q⟩:=h
 obtain⟨u,rfl,t,rfl⟩:=a5i r
 exact call_abs_int fun u tk=>⟨.int (if i < 0 then -i else i),H,I.tok _,⟨_,rfl⟩,q⟩
theorem a9a:a6q X (.type "int") (fun xs H Q=>(∃ i,xs=[.int i]∧Q (.int i) H)∨∃ k,xs=[.bl k]∧Q (.int (if k then 1 else 0)) H):=by
 intro pins s σ H xs us Q I r h
 rcases h with ⟨i,rfl,q⟩ | ⟨k,rfl,q⟩
 ·obtain⟨u,rfl,t,rfl⟩:=a5i r
  exact call_int_int ⟨.int i,H,I,⟨_,rfl⟩,q⟩
 ·obtain⟨u,rfl,r1⟩:=a5i r
  cases r1
  exact call_int_bool ⟨.int (if k then 1 else 0),H,I.tok _,⟨_,rfl⟩,q⟩
end
structure ObjM (h:Heap) (x dx C:Addr) (mA:Str→Option Value):Prop where
 obj:h.get? x=some (PySem.W.instObj C dx)
 ns:h.Ns1 dx mA
 ne:dx≠x
theorem b2G {h:Heap} {dx:Addr} {mA:Str→Option Value} (n:h.Ns1 dx mA):∃ od,h.get? dx=some od∧∀ name,PySem.W.lookIn name od=some (mA name):=by
 obtain⟨o,es,ep,ho,hd,hk,_,hm⟩:=n
 refine⟨o,ho,fun name=>?_⟩
 have e:=hm name
 unfold nsFind findBy at e
 rw[← Array.find?_toList] at e
 unfold PySem.W.lookIn
 rw[hd]
 dsimp only
 split
 ·rename_i y q
  rw[q] at e
  exact congrArg some e
 ·rename_i q
  rw[q] at e
  have a:es.toList.any (·.refKey)=false:=by
   rw[List.any_eq_false]
   intro y hy
   obtain⟨z,t,hkey⟩:=hk y (Array.mem_toList_iff.mp hy)
   simp [DictEntry.refKey,hkey]
  have a':¬es.toList.any (·.refKey)=true:=by rw[a];exact Bool.false_ne_true
  rw[if_neg a']
  exact congrArg some e
theorem ObjM.look {h:Heap} {x dx C:Addr} {mA:Str→Option Value} (I:ObjM h x dx C mA):∃ od,PySem.W.InstAt h x (PySem.W.instObj C dx) C (some od)∧∀ name,PySem.W.lookIn name od=some (mA name) :=
 let ⟨od,ho,hl⟩:=b2G I.ns
 ⟨od,⟨I.obj,rfl,rfl,ho⟩,hl⟩
section
variable {prog:Program} {w:World} {A:Around} {E:Value→Shared→Prop} {s:Shared} {K:PySem.W.Frag} {x dx C f:Addr} {mA:Str→Option Value} {name:Str} {v:Value}
end
theorem RelO.some_of {v:V} {o:Option Value} (r:RelO (some v) o):∃ u,o=some u∧RelV v u:=by
 cases o with
 | none=>exact (show False from r).elim
 | some u=>exact⟨u,rfl,r⟩
section
variable {P:Program} {w:World} {H H':Hp} {h h':Heap} {a C dx:Addr} {fs fs':List (Str × V)}
theorem b7b (hok:HOk P w H h) (e:H a=some (.ins C dx fs)):∃ mA,ObjM h a dx C mA∧(∀ f,RelO (fs.lookup f) (mA f))∧PySem.Within mA (fs.map (·.1))∧fs.length≤1000∧H dx=some (.own a):=by
 obtain⟨d,z,ne,ob,mA,n,r,q⟩:=(show a1N P w H h a (.ins C dx fs) from hok a _ e)
 exact⟨mA,⟨ob,n,ne⟩,r,q,z,d⟩
end
structure Cls (K:PySem.W.Frag) (C:Addr):Prop where
 pg:PySem.W.plainGet K C Str.empty=true
 hd:PySem.W.hasDictIn K C=true
 po:PySem.W.plainOver K C=true
 sa:PySem.W.findIn K (.ref C) "__setattr__"=some (some (.builtin "object.__setattr__"))
theorem Cls.get {K:PySem.W.Frag} {C:Addr} (c:Cls K C) (f:Str):PySem.W.plainGet K C f=true:=c.pg
section
variable {X:Cx} {pins:List (Addr × Obj)} {σ:St} {H:Hp} {s:Shared} {a C dx:Addr} {fs:List (Str × V)} {f:Str} {v:V} {A:Around} {E:Value→Shared→Prop}
end
section
variable {X:Cx} {o e value:Expr} {f:Str} {pos pos' tpos:Pos} {ta tv:TE}
end
section
variable {X:Cx} {pins:List (Addr × Obj)} {σ:St} {H:Hp} {s:Shared} {A:Around} {E:Value→Shared→Prop} {Q:Value→Shared→Prop} {c:Value} {b:Bool}
inductive TyOf (K:PySem.W.Frag) (H:Hp):V→Value→Prop where
 | non:TyOf K H .non (.type "NoneType")
 | bl (x:Bool):TyOf K H (.bl x) (.type "bool")
 | int (i:Int):TyOf K H (.int i) (.type "int")
 | str (x:Str):TyOf K H (.str x) (.type "str")
 | flt (x:UInt64):TyOf K H (.flt x) (.type "float")
 | lst {a:Addr} {xs:List V} (e:H a=some (.lst xs)):TyOf K H (.ref a) (.type "list")
 | frz {a:Addr} {o:Obj} {xs:List V} (e:H a=some (.frz o (.lst xs))):TyOf K H (.ref a) (.type "list")
 | tup {a:Addr} {xs:List V} (e:H a=some (.tup xs)):TyOf K H (.ref a) (.type "tuple")
 | dK {a:Addr} {kvs:List (Key × V)} (e:H a=some (.dK kvs)):TyOf K H (.ref a) (.type "dict")
 | dT {a:Addr} {kvs:List (List Key × V)} (e:H a=some (.dT kvs)):TyOf K H (.ref a) (.type "dict")
 | ins {a C dx:Addr} {fs:List (Str × V)} (e:H a=some (.ins C dx fs)) (cl:Cls K C) (ha:PySem.W.findIn K (.ref C) "__class__"=some (some (.builtin "object.__class__")))
   (hn:PySem.W.specialIn K (.builtin "object.__class__") "__get__"=some (some (.builtin "getset_descriptor.__get__"))) (htk:PySem.W.takesIn K (.builtin "object.__class__")=some true)
   (hm:PySem.W.mroIn K C (.type "object")=some true):TyOf K H (.ref a) (.ref C)
theorem a2O {x:V} {u t:Value} (I:Inv X pins σ H s) (rx:RelV x u) (ty:TyOf X.K H x t) (e:PySem.W.kitOne X.K t c=some b) (h:∀ tk,Q (.bool b) { s with toks:=tk }) :
  wpAny (model X.prog X.w) A (call (.builtin "isinstance") [u,c]) Q E s:=by
 cases ty with
 | non=>cases (show u=Value.none from rx);exact PySem.W.kia_one PySem.W.kitx_none I.kIn True.intro e (fun z=>nomatch z) h
 | bl y=>cases (show u=Value.bool y from rx);exact PySem.W.kia_one PySem.W.kitx_bool I.kIn True.intro e (fun z=>nomatch z) h
 | int i=>obtain⟨t,q⟩:=(show ∃ t,u=Value.int i t from rx);cases q;exact PySem.W.kia_one PySem.W.kitx_int I.kIn True.intro e (fun z=>nomatch z) h
 | str y=>obtain⟨t,q⟩:=(show ∃ t,u=Value.str y t from rx);cases q;exact PySem.W.kia_one PySem.W.kitx_str I.kIn True.intro e (fun z=>nomatch z) h
 | flt y=>obtain⟨t,q⟩:=(show ∃ t,u=Value.float y t from rx);cases q;exact PySem.W.kia_one PySem.W.kitx_float I.kIn True.intro e (fun z=>nomatch z) h
 | @lst a xs ea =>
   cases (show u=Value.ref a from rx)
   obtain⟨_,_,n,_,h1⟩:=(show a1N X.prog X.w H s.heap a (.lst xs) from I.hok a _ ea)
   exact PySem.W.kia_one PySem.W.kitx_list I.kIn ⟨_,h1,rfl⟩ e (fun z=>nomatch z) h
 | @frz a ob xs ea =>
   cases (show u=Value.ref a from rx)
   obtain⟨_,_,_,n,_,h1⟩:=(show a1N X.prog X.w H s.heap a (.frz ob (.lst xs)) from I.hok a _ ea)
   exact PySem.W.kia_one PySem.W.kitx_list I.kIn ⟨_,h1,rfl⟩ e (fun z=>nomatch z) h
 | @tup a xs ea =>
   cases (show u=Value.ref a from rx)
   obtain⟨_,_,_,p⟩:=(show a1N X.prog X.w H s.heap a (.tup xs) from I.hok a _ ea)
   obtain⟨o,h1,h2,_⟩:=p
   exact PySem.W.kia_one PySem.W.kitx_tuple I.kIn ⟨o,h1,h2⟩ e (fun z=>nomatch z) h
 | @dK a kvs ea =>
   cases (show u=Value.ref a from rx)
   obtain⟨_,_,vs,_,p⟩:=(show a1N X.prog X.w H s.heap a (.dK kvs) from I.hok a _ ea)
   obtain⟨o,es,ep,h1,h2,_⟩:=p
   exact PySem.W.kia_one PySem.W.kitx_dict I.kIn ⟨o,h1,h2.1⟩ e (fun z=>nomatch z) h
 | @dT a kvs ea =>
   cases (show u=Value.ref a from rx)
   obtain⟨_,_,xs,_,o,es,ep,h1,h2,_⟩:=(show a1N X.prog X.w H s.heap a (.dT kvs) from I.hok a _ ea)
   exact PySem.W.kia_one PySem.W.kitx_dict I.kIn ⟨o,h1,h2.1⟩ e (fun z=>nomatch z) h
 | @ins a C dx fs ea cl ha hn htk hm =>
   cases (show u=Value.ref a from rx)
   obtain⟨mA,O,_⟩:=b7b I.hok ea
   obtain⟨od,J,_⟩:=O.look
   exact PySem.W.kia_one (PySem.W.kitx_own (cl.get _) cl.hd ha hn htk hm) I.kIn J e (fun z=>nomatch z) h
end
structure Room (k:Nat) (A:Around):Prop where
 hd:A.handled=none
 dp:A.depth+3*k+5 < recursionLimit
 un:A.units+16*k+200 < cLine
theorem Room.mono {j k:Nat} {A:Around} (r:Room k A) (h:j≤k):Room j A:=⟨r.hd,by have:=r.dp;lia,by have:=r.un;lia⟩
theorem Room.deeper {k:Nat} {A:Around} (r:Room (k+1) A) (env:Env):Room k (A.deeper env) :=
 ⟨r.hd,by have:=r.dp;show A.depth+1+3*k+5 < _;lia,by have:=r.un;show A.units+3+16*k+200 < _;lia⟩
theorem Room.depth {k:Nat} {A:Around} (r:Room k A):A.depth < recursionLimit:=by have:=r.dp;lia
theorem Room.units {k:Nat} {A:Around} (r:Room k A):A.units+64 < cLine:=by have:=r.un;lia
noncomputable def tNil:TA:=fun _ H Q=>Q [] H
noncomputable def c0b (ta:TE) (tr:TA):TA:=fun σ H Q=>ta σ H fun x H1=>tr σ H1 fun xs H2=>Q (x :: xs) H2
section
variable {X:Cx} {e:Expr} {es:List Expr} {te:TE} {t:TA} {pos:Pos}
theorem b2y:PA X [] tNil:=fun _ _ _ _ H Q I h=>Calls.spliced_nil ⟨[],H,I,.nil,h⟩
theorem a7o (ha:PE X e te) (hr:PA X es t) (hs:starEach (e :: es) X.env=(false,eval e X.env) :: starEach es X.env:=by rfl):PA X (e :: es) (c0b te t):=by
 intro pos pins s σ H Q I h
 rw[hs]
 show wpAny _ _ (spliced ((false,eval e X.env) :: backTo pos (starEach es X.env))) _ _ s
 refine Calls.spliced_cons (thn (ha pins s σ H _ I h) fun u s1 ⟨x,H1,I1,r1,q1⟩=>?_)
 exact thn (hr pos pins s1 σ H1 _ I1 q1) fun us s2 ⟨xs,H2,I2,r2,q2⟩=>⟨x :: xs,H2,I2,.cons r1 r2,q2⟩
noncomputable def tTup (t:TA):TE:=fun σ H Q=>t σ H fun xs H1=>xs.length≤sizeLine∧∀ p,H1 p=none→Q (.ref p) (upd H1 p (.tup xs))
noncomputable def tLst (t:TA):TE:=fun σ H Q=>t σ H fun xs H1=>xs.length≤sizeLine∧∀ p,H1 p=none→Q (.ref p) (upd H1 p (.lst xs))
theorem b8H {x1} (h:PA X es t):PE X (.Tuple es x1 pos) (tTup t):=by
 intro pins s σ H Q I hq
 refine wpAny_Tuple_spliced (thn (h pos pins s σ H _ I hq) fun us s1 ⟨xs,H1,I1,r,z,q⟩=>⟨by rw[← r.length];exact z,?_⟩)
 have hf:H1 s1.heap.objs.size=none:=I1.hok.fresh (Nat.le_refl _)
 refine⟨.ref s1.heap.objs.size,upd H1 s1.heap.objs.size (.tup xs),I1.laid (t':=s1.toks) (fun b u e=>Heap.get?_push_of_some _ e) (Nat.le_refl _) ?_,rfl,q _ hf⟩
 exact⟨z,us,r,⟨_,Heap.get?_push_size _ rfl,rfl,rfl,_,rfl⟩⟩
theorem b8K (h:PA X es t):PE X (.List es pos) (tLst t):=by
 intro pins s σ H Q I hq
 refine wpAny_List_spliced (thn (h pos pins s σ H _ I hq) fun us s1 ⟨xs,H1,I1,r,z,q⟩=>⟨by rw[← r.length];exact z,?_⟩)
 have hf:H1 s1.heap.objs.size=none:=I1.hok.fresh (Nat.le_refl _)
 refine⟨.ref s1.heap.objs.size,upd H1 s1.heap.objs.size (.lst xs),I1.laid (t':=s1.toks) (fun b u e=>Heap.get?_push_of_some _ e) (Nat.le_refl _) ?_,rfl,q _ hf⟩
 exact⟨z,us,0,r,Heap.get?_push_size _ rfl⟩
end
noncomputable abbrev Sp:=List V→Hp→VK→XK→Prop
noncomputable abbrev CXT:=List Env→Hp→Shared→XK→Value→Shared→Prop
structure Env0 (P:Program) (w:World) (K:PySem.W.Frag) (mg:Str→Option Value) (base:Heap) (A:Around) (outer:List Env) (s:Shared) (H:Hp):Prop where
 frames:A.frames=some outer
 mod:Mod K mg base
 bs:∀ b o,base.get? b=some o→s.heap.get? b=some o∧H b=none
 bsz:base.objs.size≤s.heap.objs.size
 funs:s.heap.FunFrames base outer
 frf:∀ b∈frs outer,H b=none
 hok:HOk P w H s.heap
 bare:AllBare s.gens
noncomputable def CE (outer:List Env) (P:Program) (w:World) (H:Hp) (s:Shared) (Q:VK) (u:Value) (s':Shared):Prop :=
 ∃ v H',s'.os=s.os∧AllBare s'.gens∧Un (frs outer) [] H H' s.heap s'.heap∧HOk P w H' s'.heap∧RelV v u∧Q v H'
noncomputable def CR (CX:CXT) (outer:List Env) (P:Program) (w:World) (H:Hp) (s:Shared) (Q:VK) (E:XK) (r:Result) (s':Shared):Prop :=
 match r with
 | .ok (.ret u)=>CE outer P w H s Q u s'
 | .ok _=>False
 | .error e=>CX outer H s E e s'
structure FnOk (P:Program) (w:World) (K:PySem.W.Frag) (mg:Str→Option Value) (base:Heap) (CX:CXT) (k:Nat) (f:Addr) (fd:FuncData) (ps:List Str) (sp:Sp):Prop where
 len:∀ vs H Q E,sp vs H Q E→vs.length=ps.length
 run:∀ (A:Around) (outer:List Env) (s:Shared) (H:Hp) (args:Args) (us:List Value) (vs:List V) (Q:VK) (E:XK),Room k A→Env0 P w K mg base A outer s H→BindsTo s fd args (ps.zip us)→Vals vs us→sp vs H Q E →
  codeAny (model P w) A (.call (.ref f) args) (CR CX outer P w H s Q E) s
theorem FnOk.mono {P:Program} {w:World} {K:PySem.W.Frag} {mg:Str→Option Value} {base:Heap} {CX:CXT} {j k:Nat} {f:Addr} {fd:FuncData} {ps:List Str} {sp:Sp} (F:FnOk P w K mg base CX j f fd ps sp) (h:j≤k) :
  FnOk P w K mg base CX k f fd ps sp:=⟨F.len,fun A outer s H args us vs Q E hr=>F.run A outer s H args us vs Q E (hr.mono h)⟩
section
variable {X:Cx} {pins:List (Addr × Obj)} {σ:St} {H:Hp} {s s':Shared}
theorem Inv.env0 (I:Inv X pins σ H s):Env0 X.prog X.w X.K X.mg X.base X.A X.stack s H :=
 ⟨I.ok.frames,I.ok.mod,I.bs,Nat.le_trans I.ok.bsz I.sz,I.stack,I.stkFree,I.hok,I.bare⟩
theorem Inv.after {Q:VK} {u:Value} (I:Inv X pins σ H s) (h:CE X.stack X.prog X.w H s Q u s'):EP X pins σ Q u s':=by
 obtain⟨v,H',os,bare,un,hok,r,q⟩:=h
 obtain⟨hh,g,d,t,os'⟩:=s'
 obtain rfl:os'=s.os:=os
 exact⟨v,H',I.call (h':=hh) (g':=g) (d':=d) (t':=t) (ch:=[]) un hok bare (fun b z=>absurd z (by simp)),r,q⟩
end
noncomputable def c0c (sp:Sp) (dvs:List V) (E:XK) (t:TA):TE:=fun σ H Q=>t σ H fun vs H1=>sp (vs++dvs) H1 Q E
noncomputable def a1x (K:PySem.W.Frag) (fd:FuncData) (ps:List Str) (ds:List Value):Prop :=
 ∀ (s:Shared) (us:List Value),K.In s.heap→(us++ds).length=ps.length→BindsTo s fd ⟨us,[]⟩ (ps.zip (us++ds))
theorem a1x.all {K:PySem.W.Frag} {fd:FuncData} {ps:List Str} (h:∀ us:List Value,us.length=ps.length→bindArgs fd ⟨us,[]⟩=pure (ps.zip us)):a1x K fd ps []:=fun s us _ hl=>by
 rw[List.append_nil] at hl⊢
 exact .of_eq (h us hl)
noncomputable def b3R (CX:CXT) (X:Cx) (E:XK):Prop:=∀ (pins:List (Addr × Obj)) (σ:St) (H:Hp) (s:Shared) (e:Value) (s':Shared),Inv X pins σ H s→CX X.stack H s E e s'→X.xe e s'
section
variable {X:Cx} {CX:CXT} {k:Nat} {f C:Addr} {fd:FuncData} {ps:List Str} {sp:Sp} {dvs:List V} {ds:List Value} {E:XK} {x m:Str} {p pos apos:Pos} {e o:Expr} {es:List Expr} {ta:TE} {t:TA}
theorem b8q {pins:List (Addr × Obj)} {σ:St} {H:Hp} {s:Shared} {Q:VK} {us:List Value} {vs:List V} (F:FnOk X.prog X.w X.K X.mg X.base CX k f fd ps sp) (hr:Room k X.A) (hb:a1x X.K fd ps ds) (hd:Vals dvs ds) (hx:b3R CX X E)
  (I:Inv X pins σ H s) (r:Vals vs us) (h:sp (vs++dvs) H Q E):wpAny (model X.prog X.w) X.A (call (.ref f) us) (EP X pins σ Q) X.xe s:=by
 have r2:Vals (vs++dvs) (us++ds):=r.append hd
 have hl:(us++ds).length=ps.length:=by rw[← r2.length];exact F.len _ _ _ _ h
 refine wpAny_call (codeAny_mono (F.run X.A X.stack s H ⟨us,[]⟩ (us++ds) (vs++dvs) Q E hr I.env0 (hb s us I.kIn hl) r2 h) fun r s' hq=>?_)
 cases r with
 | error e=>exact hx pins σ H s e s' I hq
 | ok fl =>
   cases fl with
   | ret u=>exact I.after hq
   | next=>exact False.elim hq
   | brk=>exact False.elim hq
   | cont=>exact False.elim hq
theorem b6J (F:FnOk X.prog X.w X.K X.mg X.base CX k f fd ps sp) (hr:Room k X.A) (hg:Gl X x) (hm:X.mg x=some (.ref f)) (hk:PySem.W.keepIn X.K (.ref f)=true) (hb:a1x X.K fd ps ds) (hd:Vals dvs ds) (hx:b3R CX X E)
  (ha:PA X (e :: es) t) (hdb:(x == ("__debug__":Str))=false:=by decide) (he:starEach (e :: es) X.env=(false,eval e X.env) :: starEach es X.env:=by rfl) (hpl:(backTo pos (starEach es X.env)).any (·.1)=false:=by rfl) :
  PE X (.Call (.Name x p) (e :: es) [] pos) (c0c sp dvs E t):=by
 intro pins s σ H Q I h
 refine wpAny_Call_Name_kw (b2H I hg hm ?_ hdb)
 refine PySem.W.callWith_K (h₀:=X.base) I.ok.mod.kin hk (thn (ha pos pins s σ H _ I h) fun us s1 ⟨vs,H1,I1,r,q⟩=>⟨I1.kIn,?_⟩) he hpl
 exact b8q F hr hb hd hx I1 r q
end
section
variable {X:Cx} {CX:CXT} {k:Nat} {f C:Addr} {fd:FuncData} {ps ks:List Str} {sp:Sp} {E:XK} {x m:Str} {p pos apos kpos:Pos} {e o:Expr} {es:List Expr} {kws:List Keyword} {te ta:TE} {t tk:TA} {nm:Option Str}
variable {g:List Value→List Value→List Value} {gV:List V→List V→List V}
end
structure FnScope (N P:List Str) (sc:Scope):Prop where
 kind:sc.kind=.function
 co:sc.isCoroutine=false
 gen:sc.isGenerator=false
 nd:N.Nodup
 pre:N.take P.length=P
 par:∀ x∈P,sc.names.lookup x=some .local∨sc.names.lookup x=some .cell
 nofree:∀ y∈sc.names,y.2≠.free
theorem a9c {kindOf:Str→Option NameKind} {x:Str}:∀ {binds:List (Str × Value)} {m:Str→Option Value},(∀ v,(x,v) ∉ binds)→bindL kindOf binds m x=m x
 | [],_,_=>rfl
 | (n,v) :: r,m,h=>by
   unfold bindL
   rw[a9c fun w hw=>h w (List.mem_cons_of_mem _ hw)]
   split
   ·have:x≠n:=by rintro rfl;exact h v List.mem_cons_self
    simp [this]
   ·rfl
theorem a9e {kindOf:Str→Option NameKind} {x:Str}:∀ {binds:List (Str × Value)} {m:Str→Option Value},(∀ v,(x,v) ∉ binds)→bindC kindOf binds m x=m x
 | [],_,_=>rfl
 | (n,v) :: r,m,h=>by
   unfold bindC
   rw[a9e fun w hw=>h w (List.mem_cons_of_mem _ hw)]
   split
   ·rfl
   ·have:x≠n:=by rintro rfl;exact h v List.mem_cons_self
    simp [this]
theorem a9d {kindOf:Str→Option NameKind} {x:Str} {v:Value}:∀ {P:List Str} {vs:List Value} {i:Nat} {m:Str→Option Value},P.Nodup→P[i]?=some x→vs[i]?=some v→kindOf x=some .local →
  bindL kindOf (P.zip vs) m x=some v
 | [],_,_,_,_,h,_,_=>by simp at h
 | _ :: _,[],_,_,_,_,h,_=>by simp at h
 | p :: P,w :: vs,0,m,nd,h1,h2,hk=>by
   simp at h1 h2;subst h1;subst h2
   show bindL kindOf ((p,w) :: P.zip vs) m p=_
   unfold bindL
   rw[a9c fun v hv=>(List.nodup_cons.mp nd).1 (List.of_mem_zip hv).1,if_pos hk]
   simp
 | p :: P,w :: vs,i+1,m,nd,h1,h2,hk=>by
   show bindL kindOf ((p,w) :: P.zip vs) m x=_
   unfold bindL
   exact a9d (i:=i) (List.nodup_cons.mp nd).2 (by simpa using h1) (by simpa using h2) hk
theorem a9f {kindOf:Str→Option NameKind} {x:Str} {v:Value}:∀ {P:List Str} {vs:List Value} {i:Nat} {m:Str→Option Value},P.Nodup→P[i]?=some x→vs[i]?=some v→kindOf x≠some .local →
  bindC kindOf (P.zip vs) m x=some v
 | [],_,_,_,_,h,_,_=>by simp at h
 | _ :: _,[],_,_,_,_,h,_=>by simp at h
 | p :: P,w :: vs,0,m,nd,h1,h2,hk=>by
   simp at h1 h2;subst h1;subst h2
   show bindC kindOf ((p,w) :: P.zip vs) m p=_
   unfold bindC
   rw[a9e fun v hv=>(List.nodup_cons.mp nd).1 (List.of_mem_zip hv).1,if_neg hk]
   simp
 | p :: P,w :: vs,i+1,m,nd,h1,h2,hk=>by
   show bindC kindOf ((p,w) :: P.zip vs) m x=_
   unfold bindC
   exact a9f (i:=i) (List.nodup_cons.mp nd).2 (by simpa using h1) (by simpa using h2) hk
noncomputable def a5x (N:List Str) (vs:List V):St:=vs.map some++List.replicate (N.length - vs.length) none
noncomputable def cxOf (CX:CXT) (P:Program) (w:World) (K:PySem.W.Frag) (mg:Str→Option Value) (base:Heap) (N:List Str) (qual:Str) (scope:Scope) (f:Addr) (cd:Value) (A:Around) (outer:List Env) (s:Shared) (H:Hp) (E:XK):Cx where
 prog:=P
 w:=w
 K:=K
 mg:=mg
 base:=base
 A:=A.deeper (envOfC qual scope s.heap.objs.size f cd)
 N:=N
 s₀:=s
 H₀:=H
 env:=envOfC qual scope s.heap.objs.size f cd
 outer:=outer
 stack:=envOfC qual scope s.heap.objs.size f cd :: outer
 ex:=[]
 calm:=true
 fn:=fun _=>true
 pn:=[]
 xe:=fun e s'=>wpAny (model P w) (A.deeper (envOfC qual scope s.heap.objs.size f cd)) (leaving (envOfC qual scope s.heap.objs.size f cd) e) (fun _ s''=>CX outer H s E e s'') (fun e' s''=>CX outer H s E e' s'') s'
theorem b1f {sc:Scope} {n:Nat} {x:Str} (h:sc.names.lookup x=some .cell):∃ c,(cellsFrom n sc.names []).lookup x=some c:=by
 have q:=PySem.W.cellsFrom_some sc.names n [] (.inl h)
 exact Option.isSome_iff_exists.mp q
theorem b2N {CX:CXT} {P:Program} {w:World} {K:PySem.W.Frag} {mg:Str→Option Value} {base:Heap} {N ps:List Str} {qual:Str} {scope:Scope} {f:Addr} {cd:Value} {A:Around} {outer:List Env} {s s1:Shared} {H:Hp} {E:XK} {us:List Value} {vs:List V}
  (S:FnScope N ps scope) (hd:A.handled=none) (e0:Env0 P w K mg base A outer s H) (hl:vs.length=ps.length) (r:Vals vs us)
  (x:InCallC s s.heap.objs.size (bindL (envOfC qual scope s.heap.objs.size f cd).kindOf (ps.zip us) fun _=>none) (cellsFrom (s.heap.objs.size+1) scope.names []) (bindC (envOfC qual scope s.heap.objs.size f cd).kindOf (ps.zip us) fun _=>none) s1) :
  Inv (cxOf CX P w K mg base N qual scope f cd A outer s H E) [] (a5x N vs) H s1:=by
 have hpl:ps.length≤N.length:=by have:=congrArg List.length S.pre;rw[List.length_take] at this;lia
 obtain⟨h1,tk,rfl,hk⟩:=x.done
 have noA:∀ b:Addr,b ∉ (cxOf CX P w K mg base N qual scope f cd A outer s H E).ex:=fun b z=>absurd (show b∈([]:List Addr) from z) (by simp)
 refine⟨⟨e0.mod,S.kind,rfl,rfl,Nat.le_refl _,fun y z c h1 h2=>?_,fun y hy=>?_,fun y c _ h=>?_,fun _=>hd,Around.frames_deeper e0.frames,.inr ⟨rfl,rfl⟩,fun b z=>absurd z (noA b),e0.bs,e0.bsz,fun b _ _=>noA b,fun b z=>absurd z (noA b),e0.funs,e0.frf⟩,
  rfl,e0.bare,Un.kept hk,⟨_,x.toInCall.ns,fun i y v h1 h2 h3=>?_⟩,fun y c h=>⟨_,x.cell y c h⟩,e0.hok.fresh (Nat.le_refl _),fun y c h=>?_,fun p hp=>absurd (show p∈([]:List (Addr × Obj)) from hp) (by simp),e0.hok.kept hk,?_⟩
 ·exact name_of_addr x.apart (PySem.mem_of_lookup h1) (PySem.mem_of_lookup h2)
 ·have hy:scope.names.lookup y=some .cell∨scope.names.lookup y=some .free:=hy
  rcases hy with hy | hy
  ·exact b1f hy
  ·exact absurd rfl (S.nofree _ (PySem.mem_of_lookup hy))
 ·exact Nat.le_of_lt (x.above y c (PySem.mem_of_lookup h))
 ·have hi:i < vs.length:=by
   unfold a5x at h2
   by_cases hi:i < vs.length
   ·exact hi
   ·rw[List.getElem?_append_right (by simpa using hi)] at h2
    rw[List.getElem?_replicate] at h2
    split at h2<;>cases h2
  have ha:vs[i]?=some v:=by
   unfold a5x at h2
   rw[List.getElem?_append_left (by simpa using hi),List.getElem?_map] at h2
   cases e:vs[i]? with
   | none=>rw[e] at h2;cases h2
   | some a=>rw[e] at h2;cases h2;rfl
  obtain⟨u,hu,rv⟩:=r.get ha
  have hp:ps[i]?=some y:=by
   rw[← S.pre,List.getElem?_take_of_lt (by lia)];exact h1
  have ndP:ps.Nodup:=by rw[← S.pre];exact S.nd.sublist (List.take_sublist _ _)
  refine⟨u,rv,?_⟩
  rcases S.par y (List.mem_of_getElem? hp) with k | k
  ·exact .inl ⟨k,a9d ndP hp hu k⟩
  ·obtain⟨c,e⟩:=b1f (n:=s.heap.objs.size+1) k
   refine .inr ⟨.inl k,c,e,?_⟩
   have q:=x.cell y c e
   rw[a9f ndP hp hu (by show scope.names.lookup y≠_;rw[k];decide)] at q
   exact q
 ·exact e0.hok.fresh (Nat.le_of_lt (x.above y c (PySem.mem_of_lookup h)))
 ·unfold a5x
  show _=N.length
  rw[List.length_append,List.length_map,List.length_replicate]
  lia
theorem c0H {CX:CXT} {P:Program} {w:World} {K:PySem.W.Frag} {mg:Str→Option Value} {base:Heap} {k:Nat} {f:Addr} {name qual:Str} {params:Arguments} {body:List Stmt} {scope:Scope} {dV kV doc pm cdv ct oc:Value} {an od:Option Addr}
  {osl:Array (Option Value)} {N ps:List Str} {sp:Sp} (lk:K.lookup f=some ⟨oc,od,.func (PySem.W.fnOf name qual params body scope dV kV doc pm an cdv ct),osl⟩) (hcd:PySem.W.codeIn K cdv qual=true) (S:FnScope N ps scope)
  (len:∀ vs H Q E,sp vs H Q E→vs.length=ps.length)
  (hbody:∀ (A:Around) (outer:List Env) (s:Shared) (H:Hp) (vs:List V) (Q:VK) (E:XK),Room k (A.deeper (envOfC qual scope s.heap.objs.size f cdv))→sp vs H Q E →
   ∃ t,PSs (cxOf CX P w K mg base N qual scope f cdv A outer s H E) body t∧t { nx:=fun _ H'=>Q .non H',rt:=Q } (a5x N vs) H) :
  FnOk P w K mg base CX (k+1) f (PySem.W.fnOf name qual params body scope dV kV doc pm an cdv ct) ps sp:=by
 refine⟨len,fun A outer s H args us vs Q E hr e0 hb r hsp=>?_⟩
 have hl:=len _ _ _ _ hsp
 have KX:K.In s.heap:=e0.mod.kin.keeps fun b o e=>(e0.bs b o e).1
 have lim:s.heap.NoLimit:=e0.mod.nolimit.keeps fun b o e=>(e0.bs b o e).1
 have hkind:∀ y∈ps.zip us,scope.names.lookup y.1=some .local∨(scope.names.lookup y.1=some .cell∧((cellsFrom (s.heap.objs.size+1) scope.names []).lookup y.1).isSome=true):=fun ⟨n,v⟩ hy=>by
  rcases S.par n (List.of_mem_zip hy).1 with q | q
  ·exact .inl q
  ·exact .inr ⟨q,PySem.W.cellsFrom_some _ _ _ (.inl q)⟩
 refine codeAny_call_function hr.depth (KX _ _ lk) rfl S.co S.gen rfl (PySem.W.codeRec_of KX hcd) (hb _ _ _ _ ?_)
 refine wpAny_newFunctionEnv_cells S.kind hkind fun env he s1 x=>?_
 subst he
 refine⟨lim.keeps x.toInCall.keep,codeAny_func ?_⟩
 obtain⟨t,ht,hq⟩:=hbody A outer s H vs Q E (hr.deeper _) hsp
 have I:Inv (cxOf CX P w K mg base N qual scope f cdv A outer s H E) [] (a5x N vs) H s1:=b2N S hr.hd e0 hl r x
 refine wpAny_mono (ht [] s1 (a5x N vs) H _ I hq) (fun fl s' hs=>?_) fun e s' hs=>hs
 have fin:∀ {σ':St} {H':Hp} {v:V} {u:Value},Inv (cxOf CX P w K mg base N qual scope f cdv A outer s H E) [] σ' H' s'→RelV v u→Q v H'→CE outer P w H s Q u s' :=
  fun {σ' H' v u} J rv q=>⟨v,H',J.os,J.bare,J.base,J.hok,rv,q⟩
 cases fl with
 | ret u =>
   obtain⟨v,σ',H',J,rv,q⟩:=hs
   exact fin J rv q
 | next =>
   obtain⟨σ',H',J,q⟩:=hs
   exact fin (v:=V.non) (u:=Value.none) J rfl q
 | brk =>
   obtain⟨_,_,_,q⟩:=hs
   exact False.elim q
 | cont =>
   obtain⟨_,_,_,q⟩:=hs
   exact False.elim q
section
variable {X:Cx} {x:Str} {p pos:Pos} {e:Expr} {es:List Expr} {t:TA} {id T:String} {r:List V→Hp→VK→Prop}
noncomputable def tCB (r:List V→Hp→VK→Prop) (t:TA):TE:=fun σ H Q=>t σ H fun vs H1=>r vs H1 Q
theorem b4w (hc:a6q X (.builtin id) r) (hg:Gl X x) (hm:X.mg x=none) (hv:bootBuiltins x=some (.builtin id)) (ha:PA X (e :: es) t) (hn:x≠"__name__":=by decide) (hdb:(x == ("__debug__":Str))=false:=by decide)
  (he:starEach (e :: es) X.env=(false,eval e X.env) :: starEach es X.env:=by rfl) (hpl:(backTo pos (starEach es X.env)).any (·.1)=false:=by rfl):PE X (.Call (.Name x p) (e :: es) [] pos) (tCB r t):=by
 intro pins s σ H Q I h
 refine wpAny_Call_Name_kw (a3y I hg hm hv ?_ hn hdb)
 exact PyProof.Rows.callWith_builtin1 (thn (ha pos pins s σ H _ I h) fun us s1 ⟨vs,H1,I1,r1,q1⟩=>hc pins s1 σ H1 vs us Q I1 r1 q1) he hpl
theorem b2x (hc:a6q X (.type T) r) (hg:Gl X x) (hm:X.mg x=none) (hv:bootBuiltins x=some (.type T)) (ha:PA X (e :: es) t) (hn:x≠"__name__":=by decide) (hdb:(x == ("__debug__":Str))=false:=by decide)
  (he:starEach (e :: es) X.env=(false,eval e X.env) :: starEach es X.env:=by rfl) (hpl:(backTo pos (starEach es X.env)).any (·.1)=false:=by rfl):PE X (.Call (.Name x p) (e :: es) [] pos) (tCB r t):=by
 intro pins s σ H Q I h
 refine wpAny_Call_Name_kw (a3y I hg hm hv ?_ hn hdb)
 exact PyProof.Rows.callWith_type1 (thn (ha pos pins s σ H _ I h) fun us s1 ⟨vs,H1,I1,r1,q1⟩=>hc pins s1 σ H1 vs us Q I1 r1 q1) he hpl
end
end L2
namespace HT
open PySem PyProof.Rows
section
open PySem.SeqAt
open PySem.AutoSeq1 (wpAny_loadPart')
open PySem.MeetsSeq PySem.MeetsSeq2 PySem.MeetsSeq3
end
section
variable {prog:Program} {w:World} {A:Around} {E:Value→Shared→Prop} {s:Shared}
theorem cat_tup {t b:Addr} {vs ws:List Value} {Q:Value→Shared→Prop} (ht:IsTup s.heap t vs.toArray) (hb:IsTup s.heap b ws.toArray) (hv:vs≠[])
  (h1:ws=[]→Q (.ref t) s) (h2:ws≠[]→Q (.ref s.heap.objs.size) { s with heap:=s.heap.push { cls:=.type "tuple",data:=.seq (vs++ws).toArray } })
  (hsz:vs.length+ws.length≤sizeLine):wpAny (model prog w) A (binaryOp .Add (.ref t) (.ref b)) Q E s:=by
 obtain⟨⟨cls,dd,data,sl⟩,ho,hc,n,hd⟩:=id ht
 obtain⟨⟨cls2,dd2,data2,sl2⟩,ho2,hc2,n2,hd2⟩:=id hb
 simp only at hc hd hc2 hd2
 subst hc hd hc2 hd2
 have e:vs.toArray++ws.toArray=(vs++ws).toArray:=by simp
 by_cases hw:ws=[]
 ·exact concat_meets ⟨_,ho,rfl⟩ ⟨_,ho2,rfl⟩ noFill_tuple_add seq_tuple_add PySem.F.slot_tuple_add PySem.F.entry_tuple_add (PySem.F.args_tuple_add_2 _ _)
   (tuple_addW1 t b vs.toArray ws.toArray n n2 dd dd2 sl sl2 (by simpa using hv) (by simp [hw])) ⟨ho,ho2,h1 hw⟩
 ·refine concat_meets ⟨_,ho,rfl⟩ ⟨_,ho2,rfl⟩ noFill_tuple_add seq_tuple_add PySem.F.slot_tuple_add PySem.F.entry_tuple_add (PySem.F.args_tuple_add_2 _ _)
   (tuple_addW2 t b vs.toArray ws.toArray n n2 dd dd2 sl sl2 (by simpa using hv) (by simpa using hw) (by rw[List.size_toArray,List.size_toArray];exact hsz)) ⟨ho,ho2,?_⟩
  rw[e]
  exact h2 hw
noncomputable def sIx (n d:Nat):Option Int→Nat
 | none=>d
 | some v=>if v < 0 then (v+(n:Int)).toNat else min v.toNat n
theorem sIx_none (n d:Nat):sIx n d none=d:=rfl
theorem sIx_nat (n d k:Nat):sIx n d (some (k:Int))=min k n:=by
 show (if (k:Int) < 0 then ((k:Int)+(n:Int)).toNat else min (k:Int).toNat n)=min k n
 rw[if_neg (by lia),Int.toNat_natCast]
theorem b8o (n d:Nat) (hd:d≤n) (o:Option Int):sIx n d o≤n:=by
 cases o with
 | none=>exact hd
 | some v =>
   show (if v < 0 then (v+(n:Int)).toNat else min v.toNat n)≤n
   by_cases hv:v < 0
   ·rw[if_pos hv];lia
   ·rw[if_neg hv];exact Nat.min_le_right _ _
theorem b3B (v:Int) (n d:Nat):(if v < 0 then max (v+(n:Int)) 0 else min v (n:Int))=((sIx n d (some v):Nat):Int):=by
 show (if v < 0 then max (v+(n:Int)) 0 else min v (n:Int))=(((if v < 0 then (v+(n:Int)).toNat else min v.toNat n):Nat):Int)
 by_cases hv:v < 0
 ·simp only[if_pos hv];lia
 ·simp only[if_neg hv];lia
theorem b1P (lo hi:Option Int) (n:Nat):Builtin.Slice.sliceAdjust lo hi 1 (n:Int)=(((sIx n 0 lo:Nat):Int),((sIx n n hi:Nat):Int)):=by
 have h1:¬((1:Int) < 0):=by lia
 unfold Builtin.Slice.sliceAdjust
 simp only[h1,if_false]
 refine Prod.ext ?_ ?_
 ·cases lo with
  | none=>rfl
  | some v=>exact b3B v n 0
 ·cases hi with
  | none=>rfl
  | some v=>exact b3B v n n
theorem b1x (i j:Nat):Builtin.Slice.slicePlaces (i:Int) (j:Int) 1=j - i:=by
 unfold Builtin.Slice.slicePlaces
 have h1:(1:Int) > 0:=by lia
 simp only[h1,if_true,Int.ediv_one]
 split<;>lia
theorem a6u {v:Value} {o:Option Int} {Q:Option Int→Shared→Prop} (p:IsPart v o) (h:Q o s):wpAny (model prog w) A (Builtin.Slice.slicePartIndex v) Q E s:=by
 cases p with
 | none=>exact slicePart_none h
 | int i t=>exact slicePart_int h
theorem a3x {sl:Addr} {vl vu:Value} {lo hi:Option Int} {n:Nat} {Q:Int × Int × Nat→Shared→Prop} (hs:s.heap.IsSliceOf sl vl vu .none) (pl:IsPart vl lo) (pu:IsPart vu hi)
  (h:Q (((sIx n 0 lo:Nat):Int),1,sIx n n hi - sIx n 0 lo) s):wpAny (model prog w) A (Builtin.Slice.sliceApplied (.ref sl) (pure (n:Int))) Q E s:=by
 obtain⟨os,hos,hcs,hds⟩:=id hs
 unfold Builtin.Slice.sliceApplied Builtin.Slice.sliceFields
 refine wpAny_bind (wpAny_bind (wpAny_field hos hds (x:=vl) rfl (wpAny_bind (wpAny_field hos hds (x:=vu) rfl (wpAny_bind (wpAny_field hos hds (x:=.none) rfl (wpAny_pure ?_)))))))
 refine wpAny_bind (slicePart_none ?_)
 show wpAny _ _ (if ((1:Int) == 0)=true then _ else _) _ _ s
 rw[if_neg (by decide)]
 refine wpAny_bind (a6u pl (wpAny_bind (a6u pu (wpAny_bind (wpAny_pure ?_)))))
 show wpAny _ _ (match Builtin.Slice.sliceAdjust lo hi 1 (n:Int) with | (lo,hi)=>pure (lo,(1:Int),Builtin.Slice.slicePlaces lo hi 1)) _ _ s
 rw[b1P lo hi n]
 show wpAny _ _ (pure (((sIx n 0 lo:Nat):Int),(1:Int),Builtin.Slice.slicePlaces ((sIx n 0 lo:Nat):Int) ((sIx n n hi:Nat):Int) 1)) _ _ s
 rw[b1x]
 exact wpAny_pure h
theorem b4q (xs:Array Value) (i k:Nat):((List.range k).filterMap fun (m:Nat)=>xs[((i:Int)+(m:Int)*1).toNat]?).toArray=((xs.toList.drop i).take k).toArray:=by
 have e:(fun (m:Nat)=>xs[((i:Int)+(m:Int)*1).toNat]?)=fun m=>xs[i+m]?:=by
  funext m
  have:((i:Int)+(m:Int)*1).toNat=i+m:=by lia
  rw[this]
 rw[e]
 have:=pick_run xs i k
 rw[List.filterMap_map] at this
 have e2:((fun x=>xs[x]?) ∘ fun x=>i+x)=fun m=>xs[i+m]?:=rfl
 rw[e2] at this
 rw[this]
theorem getItem_tuple_cut {t sl:Addr} {items:Array Value} {vl vu:Value} {lo hi:Option Int} {Q:Value→Shared→Prop} (ht:IsTup s.heap t items) (hs:s.heap.IsSliceOf sl vl vu .none) (pl:IsPart vl lo) (pu:IsPart vu hi)
  (hw:¬(sIx items.size 0 lo=0∧sIx items.size items.size hi=items.size))
  (h:Q (.ref s.heap.objs.size) { s with heap:=s.heap.push { cls:=.type "tuple",data:=.seq ((items.toList.drop (sIx items.size 0 lo)).take (sIx items.size items.size hi - sIx items.size 0 lo)).toArray } })
  (hsz:items.size≤sizeLine):wpAny (model prog w) A (getItem (.ref t) (.ref sl)) Q E s:=by
 have htake:sizeOk (.seq ((items.toList.drop (sIx items.size 0 lo)).take (sIx items.size items.size hi - sIx items.size 0 lo)).toArray):=by
  show ((items.toList.drop (sIx items.size 0 lo)).take (sIx items.size items.size hi - sIx items.size 0 lo)).toArray.size≤sizeLine
  rw[List.size_toArray,List.length_take,List.length_drop,Array.length_toList]
  lia
 have hj:sIx items.size items.size hi≤items.size:=b8o _ _ (Nat.le_refl _) hi
 obtain⟨os,hos,hcs,hds⟩:=id hs
 have hTs:s.TypeIs (.ref sl) "slice":=⟨os,hos,hcs⟩
 unfold getItem
 try with_reducible refine wpAny_holding ?_
 first | refine wpAny_bind (wpAny_pure ?_) | skip
 refine wpAny_bind (wpAny_sequenceKey ht.typeIs (by decide) ?_)
 refine wpAny_bind (wpAny_callSpecial?_slot (name:=Str.ofString "__getitem__") ht.typeIs PyProof.Rows.slot_tuple_getitem
  (wpAny_call_entry PyProof.Rows.slot_tuple_getitem ht.typeIs entry_tuple_getitem ?_ (args_tuple_getitem _ _)))
 show wpAny _ _ (Builtin.Tuple.tupleItemsOf (.ref t) >>= _) _ _ s
 refine wpAny_bind (tupleItemsOf_ ht ?_)
 refine wpAny_bind (wpAny_typeOf hTs ?_)
 rw[if_pos (by decide)]
 refine wpAny_bind (a3x hs pl pu ?_)
 have hno:¬((((sIx items.size 0 lo:Nat):Int) == 0 && (1:Int) == 1 && (sIx items.size items.size hi - sIx items.size 0 lo) == items.size)=true):=by
  intro q
  rw[Bool.and_eq_true,Bool.and_eq_true] at q
  have q1:((sIx items.size 0 lo:Nat):Int)=0:=eq_of_beq q.1.1
  have q2:sIx items.size items.size hi - sIx items.size 0 lo=items.size:=eq_of_beq q.2
  exact hw ⟨by lia,by lia⟩
 show wpAny _ _ (if (((sIx items.size 0 lo:Nat):Int) == 0 && (1:Int) == 1 && (sIx items.size items.size hi - sIx items.size 0 lo) == items.size)=true then _ else _) _ _ s
 rw[if_neg hno,b4q]
 first
  | exact wpAny_bind (m:=Builtin.Tuple.tupleExact _) (wpAny_newObj_type (wpAny_pure ⟨_,rfl,wpAny_pure h⟩) htake)
  | exact wpAny_bind (m:=Builtin.Tuple.tupleExact _) (wpAny_newObj_type (wpAny_bind (wpAny_pure (wpAny_pure ⟨_,rfl,wpAny_pure h⟩))) htake)
  | exact wpAny_bind (wpAny_bind (m:=Builtin.Tuple.tupleExact _) (wpAny_newObj_type (wpAny_pure (wpAny_pure ⟨_,rfl,wpAny_pure h⟩)) htake))
  | exact wpAny_bind (wpAny_bind (m:=Builtin.Tuple.tupleExact _) (wpAny_newObj_type (wpAny_pure ⟨_,rfl,wpAny_pure h⟩) htake))
end
end HT
namespace L2
open PySem PySem.Spec PyProof.Rows
noncomputable abbrev TO:=St→Hp→(Option Int→Hp→Prop)→Prop
noncomputable def PO (X:Cx) (e:Option Expr) (t:TO):Prop :=
 ∀ (pins:List (Addr × Obj)) (s:Shared) (σ:St) (H:Hp) (Q:Option Int→Hp→Prop),Inv X pins σ H s→t σ H Q →
   wpAny (model X.prog X.w) X.A (evalPart e X.env) (fun u s'=>∃ o H',Inv X pins σ H' s'∧IsPart u o∧Q o H') X.xe s
noncomputable def b5X:TO:=fun _ H Q=>Q none H
noncomputable def b9W (t:TE):TO:=fun σ H Q=>t σ H fun x H1=>∃ i,x=.int i∧Q (some i) H1
theorem b1K {ns:List Int}:∀ {us:List Value},Vals (ns.map V.int) us→IntsAre us ns:=by
 induction ns with
 | nil=>intro us r;rw[List.map_nil] at r;cases r;exact .nil
 | cons n ns ih =>
   intro us r
   rw[List.map_cons] at r
   cases r with
   | cons r1 r2 =>
     obtain⟨t,e⟩:=r1
     subst e
     exact .cons n t (ih r2)
section
variable {X:Cx} {e:Expr} {te:TE} {lo hi:Option Expr} {tl th:TO} {pos p2:Pos}
theorem b6F:PO X none b5X:=by
 intro pins s σ H Q I h
 rw[evalPart_none]
 exact wpAny_pure ⟨none,H,I,.none,h⟩
theorem b6E (h:PE X e te):PO X (some e) (b9W te):=by
 intro pins s σ H Q I hw
 rw[evalPart_some]
 refine thn (h pins s σ H _ I hw) fun u s1 ⟨x,H1,I1,r1,q1⟩=>?_
 obtain⟨i,rfl,q⟩:=q1
 obtain⟨t,rfl⟩:=r1
 exact⟨some i,H1,I1,.int i t,q⟩
noncomputable def SlR (X:Cx) (r:V→Option Int→Option Int→Hp→VK→Prop):Prop :=
 ∀ (pins:List (Addr × Obj)) (s:Shared) (σ:St) (H:Hp) (x:V) (v vl vu:Value) (lo hi:Option Int) (sl:Addr) (Q:VK),Inv X pins σ H s→RelV x v→s.heap.IsSliceOf sl vl vu .none→IsPart vl lo→IsPart vu hi→r x lo hi H Q →
   ∃ T id,typeLookup (.type T) "__getitem__"=pure (some (.builtin id))∧s.TypeIs v T∧wpAny (model X.prog X.w) X.A (getItem v (.ref sl)) (EP X pins σ Q) X.xe s
theorem SlR.or {r r':V→Option Int→Option Int→Hp→VK→Prop} (h:SlR X r) (h':SlR X r'):SlR X (fun x lo hi H Q=>r x lo hi H Q∨r' x lo hi H Q):=by
 intro pins s σ H x v vl vu lo hi sl Q I rx hs pl pu q
 rcases q with q | q
 ·exact h pins s σ H x v vl vu lo hi sl Q I rx hs pl pu q
 ·exact h' pins s σ H x v vl vu lo hi sl Q I rx hs pl pu q
noncomputable def tSl (r:V→Option Int→Option Int→Hp→VK→Prop) (te:TE) (tl th:TO):TE:=fun σ H Q=>te σ H fun x H1=>tl σ H1 fun l H2=>th σ H2 fun u H3=>r x l u H3 Q
theorem b4r {r:V→Option Int→Option Int→Hp→VK→Prop} (hr:SlR X r) (he:PE X e te) (hl:PO X lo tl) (hu:PO X hi th):PE X (.Subscript e (.Slice lo hi none p2) pos) (tSl r te tl th):=by
 intro pins s σ H Q I h
 refine Subscript_ (thn (he pins s σ H _ I h) fun v s1 ⟨x,H1,I1,r1,q1⟩=>?_)
 refine wpAny_Slice (thn (hl pins s1 σ H1 _ I1 q1) fun vl s2 ⟨l,H2,I2,pl,q2⟩=>thn (hu pins s2 σ H2 _ I2 q2) fun vu s3 ⟨u,H3,I3,pu,q3⟩=>?_)
 rw[evalPart_none]
 refine wpAny_pure ?_
 have I4:Inv X pins σ H3 { s3 with heap:=s3.heap.push { cls:=.type "slice",data:=.fields #[vl,vu,.none] } }:=I3.kept (t':=s3.toks) fun b ob q=>Heap.get?_push_of_some _ q
 obtain⟨T,id,hT,ht,hg⟩:=hr pins { s3 with heap:=s3.heap.push { cls:=.type "slice",data:=.fields #[vl,vu,.none] } } σ H3 x v vl vu l u s3.heap.objs.size Q I4 r1 (Heap.IsSliceOf.new ..) pl pu q3
 show wpAny (model X.prog X.w) X.A (subscriptTail e (.Slice lo hi none p2) v (.ref s3.heap.objs.size)) (EP X pins σ Q) X.xe { s3 with heap:=s3.heap.push { cls:=.type "slice",data:=.fields #[vl,vu,.none] } }
 exact tail_any (ops:=[.ref s3.heap.objs.size,v]) ht hT hg (by with_unfolding_all rfl)
noncomputable def cutV (xs:List V) (lo hi:Option Int):List V:=(xs.drop (HT.sIx xs.length 0 lo)).take (HT.sIx xs.length xs.length hi - HT.sIx xs.length 0 lo)
theorem a5Z (xs:List V) (lo hi:Option Int):(cutV xs lo hi).length≤xs.length:=by
 unfold cutV
 rw[List.length_take,List.length_drop]
 lia
noncomputable def rSlT (K:PySem.W.Frag):V→Option Int→Option Int→Hp→VK→Prop:=fun x lo hi H Q=>∃ a xs,x=.ref a∧SqT K H a xs ∧
 ¬(HT.sIx xs.length 0 lo=0∧HT.sIx xs.length xs.length hi=xs.length)∧∀ p,H p=none→Q (.ref p) (upd H p (.tup (cutV xs lo hi)))
theorem b8i:SlR X (rSlT X.K):=by
 intro pins s σ H x v vl vu lo hi sl Q I rx hs pl pu h
 obtain⟨a,xs,rfl,hx,hw,q⟩:=h
 cases rx
 obtain⟨its,r,ht,hz⟩:=I.tuple hx
 have hlen:its.toArray.size=xs.length:=by rw[List.size_toArray];exact r.length.symm
 refine⟨"tuple",_,PyProof.Rows.slot_tuple_getitem.lookup,ht.typeIs,?_⟩
 refine HT.getItem_tuple_cut ht hs pl pu (by rw[hlen];exact hw) ?_ (by rw[hlen];exact hz)
 rw[hlen]
 refine⟨.ref s.heap.objs.size,_,I.laid (t':=s.toks) (o:=.tup (cutV xs lo hi)) (fun b ob q=>Heap.get?_push_of_some _ q) (Nat.le_refl _) ?_,rfl,q _ (I.hok.fresh (Nat.le_refl _))⟩
 exact⟨Nat.le_trans (a5Z xs lo hi) hz,_,(r.drop (HT.sIx xs.length 0 lo)).take (HT.sIx xs.length xs.length hi - HT.sIx xs.length 0 lo),a3j.new _ _⟩
noncomputable def c0l (K:PySem.W.Frag):R2:=fun x y H Q=>∃ a b xs ys,x=.ref a∧y=.ref b∧SqT K H a xs∧SqT K H b ys∧xs≠[]∧xs.length+ys.length≤sizeLine ∧
 (ys=[]→Q (.ref a) H)∧(ys≠[]→∀ p,H p=none→Q (.ref p) (upd H p (.tup (xs++ys))))
theorem Vals.nil_iff {xs:List V} {us:List Value} (r:Vals xs us):us=[]↔xs=[]:=by
 cases r with
 | nil=>simp
 | cons _ _=>simp
theorem b6O:OpR X (binaryOp .Add) (c0l X.K):=by
 intro pins s σ H x y v u Q I rx ry h
 obtain⟨a,b,xs,ys,rfl,rfl,ha,hb,hx,hz,q1,q2⟩:=h
 cases rx
 cases ry
 obtain⟨its,r1,p1,_⟩:=I.tuple ha
 obtain⟨its2,r2,p2,_⟩:=I.tuple hb
 refine HT.cat_tup p1 p2 (fun z=>hx (r1.nil_iff.mp z)) (fun z=>⟨.ref a,H,I,rfl,q1 (r2.nil_iff.mp z)⟩) (fun z=>?_) (by rw[← r1.length,← r2.length];exact hz)
 refine⟨.ref s.heap.objs.size,_,I.laid (t':=s.toks) (o:=.tup (xs++ys)) (fun b ob q=>Heap.get?_push_of_some _ q) (Nat.le_refl _) ?_,rfl,q2 (fun w=>z (r2.nil_iff.mpr w)) _ (I.hok.fresh (Nat.le_refl _))⟩
 exact⟨by rw[List.length_append];exact hz,_,r1.append r2,a3j.new _ _⟩
end
noncomputable def ixN (n:Nat) (i:Int):Option Nat:=if 0≤i then (if i < n then some i.toNat else none) else if -(n:Int)≤i then some (i+n).toNat else none
noncomputable def atI {α:Type} (xs:List α) (i:Int):Option α:=(ixN xs.length i).bind fun j=>xs[j]?
theorem b2K {n:Nat} {i:Int} {j:Nat} (h:ixN n i=some j):seqIndex? i n=some j∧j < n∧-(n:Int)≤i∧i < n:=by
 unfold ixN at h
 by_cases h0:0≤i
 ·rw[if_pos h0] at h
  by_cases h1:i < n
  ·rw[if_pos h1] at h
   have e:i.toNat=j:=Option.some.inj h
   exact⟨by rw[seqIndex_of h0 h1,e],by lia,by lia,h1⟩
  ·rw[if_neg h1] at h;cases h
 ·rw[if_neg h0] at h
  by_cases h1:-(n:Int)≤i
  ·rw[if_pos h1] at h
   have e:(i+n).toNat=j:=Option.some.inj h
   exact⟨by rw[seqIndex_neg (by lia) h1,e],by lia,h1,by lia⟩
  ·rw[if_neg h1] at h;cases h
theorem b0e {α:Type} {xs:List α} {i:Int} {v:α} (h:atI xs i=some v):∃ j,seqIndex? i xs.length=some j∧xs[j]?=some v∧j < xs.length∧-(xs.length:Int)≤i∧i < xs.length:=by
 unfold atI at h
 cases e:ixN xs.length i with
 | none=>rw[e] at h;cases h
 | some j =>
   rw[e] at h
   obtain⟨h1,h2,h3,h4⟩:=b2K e
   exact⟨j,h1,h,h2,h3,h4⟩
theorem a0N {α:Type} {xs:List α} {j:Nat} {v:α} (h:xs[j]?=some v):atI xs (j:Int)=some v:=by
 have hj:j < xs.length:=(List.getElem?_eq_some_iff.mp h).1
 have e:ixN xs.length (j:Int)=some j:=by
  unfold ixN
  rw[if_pos (by lia),if_pos (by lia)];simp
 unfold atI;rw[e];exact h
noncomputable def b3Q (b:Expr):Prop:=∀ o i,subscripted b false o i=operate [o,i] (getItem o i)
noncomputable def IxR (X:Cx) (r:R2):Prop :=
 ∀ (value slice:Expr) (pins:List (Addr × Obj)) (s:Shared) (σ:St) (H:Hp) (x y:V) (v u:Value) (Q:VK),Inv X pins σ H s→RelV x v→RelV y u→r x y H Q →
   subscripted slice false v u=operate [v,u] (getItem v u)→wpAny (model X.prog X.w) X.A (subscriptTail value slice v u) (EP X pins σ Q) X.xe s
noncomputable def MtR (X:Cx) (id:String) (r:V→List V→Hp→VK→Prop):Prop :=
 ∀ (pins:List (Addr × Obj)) (s:Shared) (σ:St) (H:Hp) (x:V) (xs:List V) (v:Value) (us:List Value) (Q:VK),Inv X pins σ H s→RelV x v→Vals xs us→r x xs H Q →
   wpAny (model X.prog X.w) X.A (call (.builtin id) (v :: us)) (EP X pins σ Q) X.xe s
section
variable {X:Cx} {a b:Expr} {ta tb:TE} {pos:Pos}
theorem c0q {r:R2} (hr:IxR X r) (ha:PE X a ta) (hb:PE X b tb) (hs:b3Q b):PE X (.Subscript a b pos) (tOp r ta tb):=by
 intro pins s σ H Q I h
 exact Subscript_ (binT ha hb I h fun v u s2 x y H2 I2 rx ry q=>hr a b pins s2 σ H2 x y v u Q I2 rx ry q (hs _ _))
noncomputable def rIxL (K:PySem.W.Frag):R2:=fun x y H Q=>∃ p xs i v,x=.ref p∧y=.int i∧SqL K H p xs∧atI xs i=some v∧Q v H
noncomputable def rIxT (K:PySem.W.Frag):R2:=fun x y H Q=>∃ p xs i v,x=.ref p∧y=.int i∧SqT K H p xs∧atI xs i=some v∧Q v H
noncomputable def rIxS:R2:=fun x y H Q=>∃ z i c,x=.str z∧y=.int i∧z.length≤sizeLine∧atI z.cps.toList i=some c∧Q (.str ⟨#[c]⟩) H
theorem b2J:IxR X (rIxL X.K):=by
 intro value slice pins s σ H x y v u Q I rx ry h hs
 obtain⟨p,xs,i,z,rfl,rfl,hq,he,q⟩:=h
 cases rx
 obtain⟨t,rfl⟩:=ry
 obtain⟨its,r,pl,hz⟩:=I.list hq
 obtain⟨j,h1,h2,h3,h4,h5⟩:=b0e he
 obtain⟨w,ew,rw'⟩:=r.get h2
 have hl:=r.length
 have hn:=a5h
 have fin:EP X pins σ Q w s:=⟨z,H,I,rw',q⟩
 by_cases h0:0≤i
 ·have hj:i.toNat=j:=by
   rw[seqIndex_of h0 h5] at h1
   exact Option.some.inj h1
  exact item_listR pl.isList h0 (by lia) (by rw[hj];simpa using ew) fin hs
 ·have hj:(i+(its.toArray.size:Int)).toNat=j:=by
   rw[seqIndex_neg (by lia) h4] at h1
   rw[List.size_toArray,← hl]
   exact Option.some.inj h1
  exact subscriptTail_builtinR (x:=w) pl.isList.typeIs slot_list_getitem.lookup
   (wpAny_getItem_list_neg (Q:=fun r s'=>r=w∧EP X pins σ Q r s') pl.isList (by lia) (by rw[List.size_toArray]<;>lia) (by lia) (by rw[hj];simpa using ew) ⟨rfl,fin⟩) hs
theorem b9d:IxR X (rIxT X.K):=by
 intro value slice pins s σ H x y v u Q I rx ry h hs
 obtain⟨p,xs,i,z,rfl,rfl,hq,he,q⟩:=h
 cases rx
 obtain⟨t,rfl⟩:=ry
 obtain⟨its,r,pl,hz⟩:=I.tuple hq
 obtain⟨j,h1,h2,h3,h4,h5⟩:=b0e he
 obtain⟨w,ew,rw'⟩:=r.get h2
 have hl:=r.length
 have hn:=a5h
 have fin:EP X pins σ Q w s:=⟨z,H,I,rw',q⟩
 exact subscriptTail_builtinR (x:=w) pl.typeIs slot_tuple_getitem.lookup
  (getItem_tuple (j:=j) (Q:=fun r s'=>r=w∧EP X pins σ Q r s') pl (by lia) (by lia) (by rw[List.size_toArray,← hl];exact h1) (by simpa using ew) ⟨rfl,fin⟩) hs
theorem b9e:IxR X rIxS:=by
 intro value slice pins s σ H x y v u Q I rx ry h hs
 obtain⟨z,i,c,rfl,rfl,hz,he,q⟩:=h
 obtain⟨t,rfl⟩:=rx
 obtain⟨t',rfl⟩:=ry
 obtain⟨j,h1,h2,h3,h4,h5⟩:=b0e he
 have hl:z.cps.toList.length=z.length:=by simp [Str.length]
 rw[hl] at h1 h4 h5
 have hn:=a5h
 exact tail_any (typeIs_str s z t) slot_str_getitem.lookup (getItem_str (c:=c) (by
  have e1:decide (i < -(2 ^ 63:Int))=false:=decide_eq_false (by lia)
  have e2:decide (i ≥ 2 ^ 63)=false:=decide_eq_false (by lia)
  rw[e1,e2,Bool.or_false]) (by rw[h1];simpa using h2) ⟨.str ⟨#[c]⟩,H,I.tok _,⟨_,rfl⟩,q⟩) hs
theorem b1G (its:List Value) (n j:Nat) (u:Value):Obj.mapSeq (·.setIfInBounds j u) { cls:=.type "list",data:=.seq its.toArray n }={ cls:=.type "list",data:=.seq (its.set j u).toArray n }:=by
 simp [Obj.mapSeq]
theorem Inv.lst {pins:List (Addr × Obj)} {σ:St} {H:Hp} {s:Shared} {p:Addr} {xs:List V} (I:Inv X pins σ H s) (h:H p=some (.lst xs)) :
  ∃ (its:List Value) (n:Nat),Vals xs its∧s.heap.get? p=some { cls:=.type "list",data:=.seq its.toArray n }∧xs.length≤sizeLine:=by
 obtain⟨z,its,n,r,e⟩:=I.hok p _ h
 exact⟨its,n,r,e,z⟩
theorem Inv.lstUpd {pins:List (Addr × Obj)} {σ:St} {H:Hp} {s:Shared} {p:Addr} {xs ys:List V} {its its':List Value} {n n':Nat} {f:Obj→Obj} (I:Inv X pins σ H s) (h:H p=some (.lst xs))
  (ho:s.heap.get? p=some { cls:=.type "list",data:=.seq its.toArray n }) (hf:f { cls:=.type "list",data:=.seq its.toArray n }={ cls:=.type "list",data:=.seq its'.toArray n' }) (r:Vals ys its') (hz:ys.length≤sizeLine) (t:Nat) :
  Inv X pins σ (upd H p (.lst ys)) { s with heap:=s.heap.update p f,toks:=t }:=by
 have e:(s.heap.update p f).get? p=some { cls:=.type "list",data:=.seq its'.toArray n' }:=by
  rw[Heap.get?_update_self f ho (by rw[hf]<;>rfl),hf]
 refine I.write (x:=p) (e:=p) (by rw[h];trivial) (.inl rfl) (fun b u hb q=>(Heap.get?_update_other _ _ (Ne.symm hb)).trans q) ⟨_,e⟩ ?_
 exact⟨hz,its',n',r,e⟩
noncomputable def c0i:V→V→V→Hp→(Hp→Prop)→Prop:=fun o i v H Q=>∃ p xs k j,o=.ref p∧i=.int k∧H p=some (.lst xs)∧ixN xs.length k=some j∧Q (upd H p (.lst (xs.set j v)))
theorem b0q:PSet X c0i:=by
 intro pins s σ H o i v ov iv u Q I ro ri rv h
 obtain⟨p,xs,k,j,rfl,rfl,hp,hj,q⟩:=h
 cases ro
 obtain⟨t,rfl⟩:=ri
 obtain⟨its,n,r,ho,hz⟩:=I.lst hp
 obtain⟨h1,h2,h3,h4⟩:=b2K hj
 have hl:=r.length
 have hn:=a5h
 have I':Inv X pins σ (upd H p (.lst (xs.set j v))) { s with heap:=s.heap.update p (Obj.mapSeq (·.setIfInBounds j u)) } :=
  I.lstUpd hp ho (b1G its n j u) (r.set rv j) (by rw[List.length_set];exact hz) s.toks
 by_cases h0:0≤k
 ·have hk:k.toNat=j:=by
   rw[seqIndex_of h0 h4] at h1
   exact Option.some.inj h1
  exact PySem.W.ki_setAt ho h0 (by lia) (by rw[List.size_toArray,← hl];exact h4) (by rw[hk];exact⟨_,I',q⟩)
 ·have hk:(k+(its.toArray.size:Int)).toNat=j:=by
   rw[seqIndex_neg (by lia) h3] at h1
   rw[List.size_toArray,← hl]
   exact Option.some.inj h1
  exact PySem.W.ki_setBack ho (by lia) (by rw[List.size_toArray,← hl];exact h3) (by lia) (by rw[hk];exact⟨_,I',q⟩)
theorem a8i (lo hi:Option Int) (n:Nat):(sliceBounds lo hi none n).1=((HT.sIx n 0 lo:Nat):Int)∧(sliceBounds lo hi none n).2.1=((HT.sIx n n hi:Nat):Int)∧(sliceBounds lo hi none n).2.2=1:=by
 refine⟨?_,?_,rfl⟩
 ·cases lo with
  | none=>simp [sliceBounds,HT.sIx]
  | some i =>
    simp only[sliceBounds,HT.sIx,Option.getD_none,show (1:Int) > 0 by decide,if_true]
    by_cases h:i < 0
    ·simp only[h,if_true]<;>lia
    ·simp only[h,if_false]<;>lia
 ·cases hi with
  | none=>simp [sliceBounds,HT.sIx]
  | some i =>
    simp only[sliceBounds,HT.sIx,Option.getD_none,show (1:Int) > 0 by decide,if_true]
    by_cases h:i < 0
    ·simp only[h,if_true]<;>lia
    ·simp only[h,if_false]<;>lia
theorem a7e (its:List Value) (lo hi:Option Int):slicePick its.toArray lo hi none=((its.drop (HT.sIx its.length 0 lo)).take (HT.sIx its.length its.length hi - HT.sIx its.length 0 lo)).toArray:=by
 obtain⟨h1,h2,h3⟩:=a8i lo hi its.toArray.size
 unfold slicePick
 rw[h1,h2,h3]
 simp only[sliceRange_one,pick_run,List.size_toArray]<;>rfl
noncomputable def rSlL (K:PySem.W.Frag):V→Option Int→Option Int→Hp→VK→Prop:=fun x lo hi H Q=>∃ a xs,x=.ref a∧SqL K H a xs∧∀ p,H p=none→Q (.ref p) (upd H p (.lst (cutV xs lo hi)))
theorem b6c:SlR X (rSlL X.K):=by
 intro pins s σ H x v vl vu lo hi sl Q I rx hs pl pu h
 obtain⟨a,xs,rfl,hx,q⟩:=h
 cases rx
 obtain⟨its,r,ht,hz⟩:=I.list hx
 have hlen:=r.length
 refine⟨"list",_,slot_list_getitem.lookup,ht.isList.typeIs,?_⟩
 refine wpAny_getItem_list_slice ht.isList hs pl pu .none (by simp) ?_ (by rw[List.size_toArray]<;>lia)
 rw[a7e,← hlen]
 refine⟨.ref s.heap.objs.size,_,I.laid (t':=s.toks) (o:=.lst (cutV xs lo hi)) (fun b ob q=>Heap.get?_push_of_some _ q) (Nat.le_refl _) ?_,rfl,q _ (I.hok.fresh (Nat.le_refl _))⟩
 exact⟨Nat.le_trans (a5Z xs lo hi) hz,_,0,(r.drop (HT.sIx xs.length 0 lo)).take (HT.sIx xs.length xs.length hi - HT.sIx xs.length 0 lo),Heap.get?_push_size _ rfl⟩
theorem a3M:a6q X (.builtin "len") (fun xs H Q=>∃ p ys,xs=[.ref p]∧(SqL X.K H p ys∨SqT X.K H p ys)∧Q (.int ys.length) H):=by
 intro pins s σ H xs us Q I r h
 obtain⟨p,ys,rfl,hq,q⟩:=h
 obtain⟨u,rfl,rx⟩:=a5i r
 cases rx
 have hn:=a5h
 rcases hq with hq | hq
 ·obtain⟨its,r',pl,hz⟩:=I.list hq
  have hlen:=r'.length
  exact Calls.call_len_list pl.isList (by simp only[List.size_toArray]<;>lia) ⟨.int ys.length,H,I.tok _,⟨s.toks+1,by rw[List.size_toArray,hlen]⟩,q⟩
 ·obtain⟨its,r',pl,hz⟩:=I.tuple hq
  have hlen:=r'.length
  exact len_tuple pl (by simp only[List.size_toArray]<;>lia) ⟨.int ys.length,H,I.tok _,⟨s.toks+1,by rw[List.size_toArray,hlen]⟩,q⟩
theorem a8Z:a6q X (.builtin "len") (fun xs H Q=>∃ z,xs=[.str z]∧z.length≤sizeLine∧Q (.int z.length) H):=by
 intro pins s σ H xs us Q I r h
 obtain⟨z,rfl,hz,q⟩:=h
 obtain⟨u,rfl,t,rfl⟩:=a5i r
 have hn:=a5h
 exact len_str (by lia) ⟨.int z.length,H,I.tok _,⟨_,rfl⟩,q⟩
theorem a3u:a6q X (.type "tuple") (fun xs H Q=>∃ p ys,xs=[.ref p]∧((SqL X.K H p ys∧∀ l,H l=none→Q (.ref l) (upd H l (.tup ys)))∨(SqT X.K H p ys∧Q (.ref p) H))):=by
 intro pins s σ H xs us Q I r h
 obtain⟨p,ys,rfl,h⟩:=h
 obtain⟨u,rfl,rx⟩:=a5i r
 cases rx
 rcases h with ⟨hq,q⟩ | ⟨hq,q⟩
 ·obtain⟨its,r',pl,hz⟩:=I.list hq
  have hlen:=r'.length
  refine call_tuple_list pl.isList (fun h' kp=>?_) (by simp only[List.size_toArray]<;>lia)
  have I1:Inv X pins σ H { s with heap:=h' }:=I.kept (t':=s.toks) kp
  have I2:Inv X pins σ (upd H h'.objs.size (.tup ys)) { s with heap:=h'.push { cls:=.type "tuple",data:=.seq its.toArray } } :=
   I1.laid (t':=s.toks) (fun b o e=>Heap.get?_push_of_some _ e) (Nat.le_refl _) (show a1N X.prog X.w _ _ _ (.tup ys) from ⟨hz,its,r',a3j.new _ _⟩)
  exact⟨.ref h'.objs.size,_,I2,rfl,q _ (I1.hok.fresh (Nat.le_refl _))⟩
 ·obtain⟨its,r',pl,hz⟩:=I.tuple hq
  exact call_tuple_same pl ⟨.ref p,H,I,rfl,q⟩
noncomputable def tyV (K:PySem.W.Frag) (T:String) (x:V) (H:Hp):Prop:=match x with
 | .str _=>T="str"
 | .int _=>T="int"
 | .ref p=>(T="list"∧∃ xs,SqL K H p xs)∨(T="tuple"∧∃ o,K.lookup p=some o∧o.cls=.type "tuple"∧o.dict=none) ∨
   (T="dict"∧((∃ kvs,H p=some (.dK kvs))∨∃ kvs,H p=some (.dT kvs)))∨(T="set"∧∃ S n,H p=some (.set S n))
 | _=>False
theorem b7O {pins:List (Addr × Obj)} {σ:St} {H:Hp} {s:Shared} {T:String} {x:V} {v:Value} (I:Inv X pins σ H s) (r:RelV x v) (ty:tyV X.K T x H) :
  s.TypeIs v T∧∀ a,v=.ref a→∃ ob,s.heap.get? a=some ob∧ob.dict=none:=by
 cases x with
 | str z =>
   obtain⟨t,rfl⟩:=r
   cases (show T="str" from ty)
   exact⟨typeIs_str s z t,fun _ e=>nomatch e⟩
 | int i =>
   obtain⟨t,rfl⟩:=r
   cases (show T="int" from ty)
   exact⟨typeIs_int s i t,fun _ e=>nomatch e⟩
 | ref p =>
   cases r
   rcases ty with ⟨rfl,xs,hq⟩ | ⟨rfl,o,hk,hc,hd⟩ | ⟨rfl,hk⟩ | ⟨rfl,S,n,hk⟩
   ·obtain⟨its,_,pl,_⟩:=I.list hq
    refine⟨pl.isList.typeIs,fun a e=>?_⟩
    cases e
    obtain⟨o,n,e,c,hd,_⟩:=pl
    exact⟨o,e,hd⟩
   ·refine⟨⟨o,I.kIn p o hk,hc⟩,fun a e=>?_⟩
    cases e
    exact⟨o,I.kIn _ o hk,hd⟩
   ·have z:∃ o,s.heap.get? p=some o∧o.ExactDict:=by
     rcases hk with ⟨kvs,hk⟩ | ⟨kvs,hk⟩
     ·obtain⟨_,_,_,_,o,_,_,e,ex,_⟩:=I.hok p _ hk
      exact⟨o,e,ex⟩
     ·obtain⟨_,_,_,_,o,_,_,e,ex,_⟩:=I.hok p _ hk
      exact⟨o,e,ex⟩
    obtain⟨o,e,ex⟩:=z
    refine⟨⟨o,e,ex.1⟩,fun a e2=>?_⟩
    cases e2
    exact⟨o,e,ex.2.1⟩
   ·obtain⟨o,_,_,_,e,ex,_⟩:=I.hok p _ hk
    refine⟨⟨o,e,ex.1⟩,fun a e2=>?_⟩
    cases e2
    exact⟨o,e,ex.2.1⟩
 | _=>exact False.elim ty
noncomputable def tBM (K:PySem.W.Frag) (T:String) (r:V→List V→Hp→VK→Prop) (to:TE) (t:TA):TE:=fun σ H Q=>to σ H fun x H1=>tyV K T x H1∧t σ H1 fun xs H2=>r x xs H2 Q
variable {o e:Expr} {es:List Expr} {to:TE} {t:TA} {name:Str} {apos cpos:Pos} {T id:String} {r:V→List V→Hp→VK→Prop}
theorem c0r (pa:PlainAttrs T) (slot:Slot T name id) (hty:typeOf (.builtin id)=pure (.type "method_descriptor")) (hm:MtR X id r) (ho:PE X o to) (ha:PA X (e :: es) t)
  (hbase:attributeBase o name X.env (eval o X.env)=eval o X.env:=by rfl)
  (hfew:((backTo cpos (starEach (e :: es) X.env)).all (fun x=>!x.1) && (backToKw cpos (keywordEach [] X.env)).all (fun x=>x.1.isSome)
   && decide ((e :: es).length+([]:List Keyword).length+(if ([]:List Keyword).isEmpty then 0 else 1) < 30))=true:=by rfl)
  (hline:(apos.endLine == cpos.line)=true:=by rfl) (hs:starEach (e :: es) X.env=(false,eval e X.env) :: starEach es X.env:=by rfl) (hplain:(backTo cpos (starEach es X.env)).any (·.1)=false:=by rfl) :
  PE X (.Call (.Attribute o name apos) (e :: es) [] cpos) (tBM X.K T r to t):=by
 intro pins s σ H Q I h
 refine wpAny_Call_method_late hbase hfew hline rfl (thn (ho pins s σ H _ I h) fun v s1 ⟨x,H1,I1,r1,ty,q1⟩=>?_)
 obtain⟨h1,h2⟩:=b7O I1 r1 ty
 refine⟨T,id,pa,slot,hty,h1,h2,?_⟩
 have hA:=ha cpos pins s1 σ H1 _ I1 q1
 rw[hs] at hA⊢
 refine Calls.callWith_builtin (by show (false || (backTo cpos (starEach es X.env)).any (·.1))=false;rw[hplain]<;>rfl) (Calls.evalArgs_plain ?_)
 exact thn hA fun us s2 ⟨vs,H2,I2,r2,q2⟩=>hm pins s2 σ H2 x vs v us Q I2 r1 r2 q2
end
noncomputable def MtM (X:Cx) (id:String) (r:V→List V→Hp→VK→Prop):Prop :=
 ∀ (pins:List (Addr × Obj)) (s:Shared) (σ:St) (H:Hp) (x:V) (xs:List V) (v:Value) (us:List Value) (Q:VK),Inv X pins σ H s→RelV x v→Vals xs us→r x xs H Q →
   wpAny (model X.prog X.w) X.A (call (.builtin id) (v :: us)) (EP X pins σ Q) X.xe s
theorem Vals.one:∀ {x:V} {us:List Value},Vals [x] us→∃ u,us=[u]∧RelV x u
 | _,_,.cons r .nil=>⟨_,rfl,r⟩
theorem Vals.two:∀ {x y:V} {us:List Value},Vals [x,y] us→∃ u v,us=[u,v]∧RelV x u∧RelV y v
 | _,_,_,.cons r (.cons q .nil)=>⟨_,_,rfl,r,q⟩
theorem Vals.rep {xs:List V} {us:List Value} (h:Vals xs us):∀ k:Nat,Vals (List.replicate k xs).flatten (List.replicate k us).flatten
 | 0=>.nil
 | k+1=>by
   rw[List.replicate_succ,List.replicate_succ,List.flatten_cons,List.flatten_cons]
   exact Vals.append h (Vals.rep h k)
theorem a5W (its:List Value):∀ (k:Nat) (acc:List Value),
  List.foldl (fun x1 x2=>x1++x2) acc.toArray (List.replicate k its.toArray)=(acc++(List.replicate k its).flatten).toArray
 | 0,acc=>by simp
 | k+1,acc=>by
   have e:acc.toArray++its.toArray=(acc++its).toArray:=by simp
   have e2:(acc++its)++(List.replicate k its).flatten=acc++(List.replicate (k+1) its).flatten:=by
    rw[List.replicate_succ,List.flatten_cons,List.append_assoc]
   rw[← e2,← a5W its k (acc++its),← e,List.replicate_succ,List.foldl_cons]
section
variable {X:Cx} {pins:List (Addr × Obj)} {σ:St} {H:Hp} {s:Shared} {l b:Addr} {xs ys zs:List V}
theorem Inv.lset {its its':List Value} {n:Nat} {f:Array Value→Array Value} {t':Nat} (I:Inv X pins σ H s) (hH:H l=some (.lst xs))
  (e:s.heap.get? l=some { cls:=.type "list",data:=.seq its.toArray n }) (hf:f its.toArray=its'.toArray) (hv:Vals ys its') (hz:ys.length≤sizeLine) :
  Inv X pins σ (upd H l (.lst ys)) { s with heap:=s.heap.update l (Obj.mapSeq f),toks:=t' }:=by
 have q:=PySem.IsL.update e f
 rw[hf] at q
 refine I.write (x:=l) (e:=l) (by rw[hH];exact trivial) (.inl rfl) (fun b' u hb hu=>(Heap.get?_update_other s.heap (Obj.mapSeq f) (Ne.symm hb)).trans hu) ⟨_,q⟩ ?_
 exact⟨hz,its',_,hv,q⟩
theorem Inv.lnew {its:List Value} {t':Nat} (I:Inv X pins σ H s) (hv:Vals ys its) (hz:ys.length≤sizeLine) :
  Inv X pins σ (upd H s.heap.objs.size (.lst ys)) { s with heap:=s.heap.push { cls:=.type "list",data:=.seq its.toArray },toks:=t' } :=
 I.laid (fun _ _ q=>Heap.get?_push_of_some _ q) (Nat.le_refl _) ⟨hz,its,0,hv,Heap.get?_push_size _ rfl⟩
theorem Inv.fresh (I:Inv X pins σ H s):H s.heap.objs.size=none:=I.hok.fresh (Nat.le_refl _)
theorem Inv.lstM (I:Inv X pins σ H s) (hH:H l=some (.lst xs)):xs.length≤sizeLine∧∃ (its:List Value) (n:Nat),Vals xs its∧xs.length=its.length∧s.heap.get? l=some { cls:=.type "list",data:=.seq its.toArray n }:=by
 obtain⟨z,its,n,r,e⟩:=I.hok l _ hH
 exact⟨z,its,n,r,r.length,e⟩
theorem b4C {n:Nat} (h:n≤sizeLine):Builtin.List.listTooLong n=false:=by
 unfold Builtin.List.listTooLong
 exact decide_eq_false (by lia)
end
section
variable {X:Cx}
noncomputable def b6p:V→List V→Hp→VK→Prop:=fun x vs H Q=>∃ l xs y,x=.ref l∧vs=[y]∧H l=some (.lst xs)∧xs.length < sizeLine∧Q .non (upd H l (.lst (xs++[y])))
theorem b2E:MtM X "list.append" b6p:=by
 intro pins s σ H x vs v us Q I rx rv h
 obtain⟨l,xs,y,rfl,rfl,hH,hz,q⟩:=h
 cases rx
 obtain⟨u,rfl,ru⟩:=rv.one
 obtain⟨z,its,n,r,hl,e⟩:=I.lstM hH
 refine call_meets F.slot_list_append ⟨_,e,rfl⟩ F.entry_list_append (F.args_list_append_2 _ _) (PySem.list_append l its.toArray n u (by rw[List.size_toArray];lia)) ⟨e,?_⟩
 refine⟨.non,_,I.lset (its':=its++[u]) hH e (by simp) (r.append (.cons ru .nil)) ?_,rfl,q⟩
 rw[List.length_append,List.length_singleton]
 lia
noncomputable def rCat:R2:=fun x y H Q=>∃ l b xs zs,x=.ref l∧y=.ref b∧H l=some (.lst xs)∧H b=some (.lst zs)∧xs.length+zs.length≤sizeLine∧∀ p,H p=none→Q (.ref p) (upd H p (.lst (xs++zs)))
theorem b8S:OpR X (binaryOp .Add) rCat:=by
 intro pins s σ H x y v u Q I rx ry h
 obtain⟨l,b,xs,zs,rfl,rfl,hH,hB,hz,q⟩:=h
 cases rx
 cases ry
 obtain⟨z,its,n,r,hl,e⟩:=I.lstM hH
 obtain⟨z2,its2,n2,r2,hl2,e2⟩:=I.lstM hB
 refine PySem.P.add_list e e2 ?_ (by rw[List.size_toArray,List.size_toArray];lia)
 have ea:its.toArray++its2.toArray=(its++its2).toArray:=by simp
 rw[ea]
 exact⟨.ref _,_,I.lnew (t':=s.toks) (r.append r2) (by rw[List.length_append];lia),rfl,q _ I.fresh⟩
noncomputable def rRep:R2:=fun x y H Q=>∃ l k xs,x=.ref l∧y=.int k∧H l=some (.lst xs)∧-(2 ^ 63)≤k∧k < 2 ^ 63∧xs.length*k.toNat≤sizeLine ∧
 ∀ p,H p=none→Q (.ref p) (upd H p (.lst (List.replicate k.toNat xs).flatten))
theorem a9L {α:Type} (xs:List α) (k:Nat):(List.replicate k xs).flatten.length=k*xs.length:=by
 induction k with
 | zero=>simp
 | succ k ih=>rw[List.replicate_succ,List.flatten_cons,List.length_append,ih,Nat.succ_mul,Nat.add_comm]
theorem b8O:OpR X (binaryOp .Mult) rRep:=by
 intro pins s σ H x y v u Q I rx ry h
 obtain⟨l,k,xs,rfl,rfl,hH,h1,h2,hz,q⟩:=h
 cases rx
 obtain⟨t,rfl⟩:=ry
 obtain⟨z,its,n,r,hl,e⟩:=I.lstM hH
 have hlen:its.toArray.size*k.toNat≤sizeLine:=by rw[List.size_toArray,← hl];exact hz
 have hcap:¬its.toArray.size*k.toNat > (2 ^ 63 - 1) / 8:=by
  have:(sizeLine:Nat)≤(2 ^ 63 - 1) / 8:=by decide
  lia
 have hfit:¬(!Builtin.List.listFitsIndex k)=true:=by
  rw[fitsIndex_both h1 h2]
  exact Bool.false_ne_true
 have hlong:¬Builtin.List.listTooLong (its.toArray.size*k.toNat)=true:=by
  rw[b4C hlen]
  exact Bool.false_ne_true
 have hnew:List.foldl (fun x1 x2=>x1++x2) #[] (List.replicate (if its.toArray.isEmpty=true then 0 else k.toNat) its.toArray)=(List.replicate k.toNat its).flatten.toArray:=by
  have f0:∀ m:Nat,List.foldl (fun x1 x2=>x1++x2) #[] (List.replicate m its.toArray)=(List.replicate m its).flatten.toArray:=fun m=>by
   have:=a5W its m []
   rw[List.nil_append] at this
   exact this
  rw[f0]
  cases its with
  | nil=>simp
  | cons a r'=>rw[if_neg (by simp)]
 refine wpAny_binaryOp_repeat_ref (T:="list") (U:="int") (by decide) ⟨_,e,rfl⟩ (fun s'=>typeIs_int s' k t) noFill_list_mul F.fills_int_mul F.slot_int_rmul repeat_list F.slot_int_index.lookup
  (call_meets F.slot_int_rmul (typeIs_int s k t) F.entry_int_rmul (F.args_int_rmul_2 _ _) (int___rmul___int_list k t l its.toArray n)
   ⟨e,rfl,⟨_,e,rfl⟩,call_meets F.slot_list_mul ⟨_,e,rfl⟩ F.entry_list_mul (F.args_list_mul_2 _ _) (AutoListH.list___mul___list_int_3 l its.toArray n k t hfit hcap hlong) ⟨e,?_⟩⟩)
 rw[hnew]
 exact⟨.ref _,_,I.lnew (t':=s.toks) (r.rep k.toNat) (by rw[a9L,Nat.mul_comm];exact hz),rfl,q _ I.fresh⟩
end
section
variable {prog:Program} {w:World} {A:Around} {E:Value→Shared→Prop} {s:Shared}
end
section
variable {X:Cx}
end
end L2
namespace Att
open PySem PySem.W PySem.Calls PyProof.Rows
theorem a5T {P:Params} {h:Heap}:∀ (ns:List Int) (vs:List Value),WellAll P h vs (ns.map WData.int)→IntsAre vs ns:=by
 intro ns
 induction ns with
 | nil =>
   intro vs w
   rw[List.map_nil] at w
   cases w
   exact .nil
 | cons n ns ih =>
   intro vs w
   rw[List.map_cons] at w
   cases w with
   | cons a b =>
     cases a
     exact .cons _ _ (ih _ b)
theorem b2f {l:OpenLaw} {n:Nat} (hn:l.most=some n) {P:Params} {h:Heap} {args:List WData} {vals:List Value}
  (hpre:l.row.toRowW.claim.pre args=true) (hwl:WellAll P h vals args) :
  ∃ a vs ns,vals=[Value.ref a]∧args=[WData.list (ns.map WData.int)]∧h.get? a=some { cls:=.type "list",data:=.seq vs.toArray }∧IntsAre vs ns∧ns.length≤n:=by
 have hsh:WShape.hasAll [] args [.list .int]=true:=(pre_splitW hpre).1
 have hc:l.pre.holds [] { args:=args }=true:=(pre_splitW hpre).2
 obtain⟨d,r,rfl,h1,h2⟩:=hasAllW_cons hsh
 obtain rfl:=hasAllW_nil h2
 obtain⟨xs,rfl,h3⟩:=hasW_list h1
 obtain⟨ns,rfl⟩:=items_int h3
 have hlen:ns.length≤n:=by
  unfold OpenLaw.pre at hc
  have h4:(WTm.not (.lt (.lit (.int (n:Int))) (.len (.arg 0)))).holds [] { args:=[.list (ns.map .int)] }=true:=by
   have h4:=(holds_andW hc).1
   rw[hn] at h4
   exact h4
  have h5:=condW_of h4 (w_not (w_lt w_lit (w_len_list (w_arg rfl))))
  rw[List.length_map] at h5
  refine Nat.le_of_not_lt fun q=>?_
  have q':(n:Int) < ((ns.length:Nat):Int):=by lia
  first
   | (rw[decide_eq_true q'] at h5;exact absurd h5 (by decide))
   | (simp at h5;lia)
 cases hwl with
 | cons w1 w2 =>
   cases w2
   cases w1 with
   | list ho hall=>exact⟨_,_,ns,rfl,rfl,ho,a5T ns _ hall,hlen⟩
theorem b2s (l:OpenLaw) (args:List WData):l.row.toRowW.claim.post args (.bool true) args=true :=
 postW_of (r:=l.row.toRowW) (X:=(true == true))
  (show WShape.has [] (.bool true) .bool=true by first | rfl | decide | simp [WShape.has,WShape.arms,WShape.armsAll])
  (show (WTm.eq .res (.lit (.bool true))).value [] { args:=args,res:=some (.bool true),after:=args }=some (.bool (true == true)) from w_eq_bool (w_res rfl) w_lit) rfl
theorem attach_call {l:OpenLaw} {n:Nat} {q:Program} {loose:List Str} {XP:(Str→Option Value)→Heap→Prop} {YP:World→Heap→Prop} {d:DefRec}
  (hn:l.most=some n) (hdf:d.params.defaults=[])
  (call:∀ (w:World) (s₀ s₁:Shared) (mg mb:Str→Option Value) (fa:Addr) (o:Obj) (pm cd doc:Value) (a:Addr) (vs:List Value) (ns:List Int),
   Ground q loose [] XP w s₀ mg mb s₁.heap→YP w s₁.heap →
   s₁.heap.get? fa=some o→o.data=.func (docDef d.name d.params d.body d.scope pm cd doc)→s₁.heap.CodeRec cd d.name→mg d.name=some (.ref fa) →
   s₁.heap.get? a=some { cls:=.type "list",data:=.seq vs.toArray }→IntsAre vs ns→ns.length≤n→s₁.gens=#[] →
   codeAny (model l.prog w) callerA (.call (.ref fa) ⟨[.ref a],[]⟩) (fun r s'=>r=.ok (.ret (.bool true))∧OldK s₁.heap s'.heap∧s'.os=s₁.os∧AllBare s'.gens) s₁) :
  WalkO q loose XP YP l.row.toRowW d [] (fun f vs=>PySem.call f vs):=by
 intro w s₀ s₁ mg mb G Y fa o pm cd doc dV kV ho hd hcd hD hmg hg args vals as hpre hlay hrd hwl hlo
 obtain rfl:dV=.none:=Dflts.none hD hdf
 obtain rfl:kV=.none:=Dflts.noKw hD
 obtain⟨a,vs,ns,rfl,rfl,hobj,hints,hlen⟩:=b2f hn hpre hwl
 refine enter_call (codeAny_mono (call w s₀ s₁ mg mb fa o pm cd doc a vs ns G Y ho (fd_plain hd) hcd hmg hobj hints hlen hg) fun r s' hq=>?_)
 obtain⟨rfl,h2,h3,h4⟩:=hq
 exact⟨.inl ⟨.bool true,.bool true,[],rfl,fun _=>rfl,.bool true,b2s l _,fun _=>⟨List.Pairwise.nil,fun _ hm=>(nomatch hm)⟩⟩,h2,h3,h4⟩
section
variable {prog:Program} {w:World} {A:Around} {E:Value→Shared→Prop} {s:Shared} {K:Frag}
end
end Att
namespace L2
open PySem PySem.Spec PyProof.Rows
theorem a5w:∀ {vs:List Value} {ns:List Int},IntsAre vs ns→Vals (ns.map V.int) vs
 | _,_,.nil=>.nil
 | _,_,.cons n t h=>.cons ⟨t,rfl⟩ (a5w h)
noncomputable def Only (H:Hp):Prop:=∀ b,H b=none∨∃ o xs,H b=some (.frz o (.lst xs))
theorem b4G {P:Program} {w:World} {K:PySem.W.Frag} {mg mb:Str→Option Value} {CX:CXT} {k:Nat} {fa a:Addr} {fd:FuncData} {x:Str} {sp:Sp} {s₁:Shared} {vs:List Value} {ns:List Int}
  (KX:K.In s₁.heap) (hns:s₁.heap.Ns mainGlobals mg) (hb:s₁.heap.Ns builtinsNs mb) (hbb:∀ x:Str,x≠"__name__"→mb x=bootBuiltins x) (hlim:s₁.heap.NoLimit) (hg:s₁.gens=#[])
  (ha:s₁.heap.get? a=some { cls:=.type "list",data:=.seq vs.toArray }) (hi:IntsAre vs ns) (hl:ns.length≤sizeLine) (hr:Room k callerA)
  (F:∀ base:Heap,K.In base→base.Ns mainGlobals mg→FnOk P w K mg base CX k fa fd [x] sp) (hbind:∀ (s:Shared) (u:Value),BindsTo s fd ⟨[u],[]⟩ [(x,u)])
  (hsp:∀ H:Hp,Only H→SqL K H a (ns.map V.int)→sp [.ref a] H (fun v _=>v=.bl true) fun _ _ _=>False)
  (hCX:∀ H e s',CX [] H s₁ (fun _ _ _=>False) e s'→False) :
  codeAny (model P w) callerA (.call (.ref fa) ⟨[.ref a],[]⟩) (fun r s'=>r=.ok (.ret (.bool true))∧OldK s₁.heap s'.heap∧s'.os=s₁.os∧AllBare s'.gens) s₁:=by
 have rv:=a5w hi
 have lenV:=hi.length
 -- from an abstract heap in which nothing but the script may be tracked
 have core:∀ H:Hp,Only H→SqL K H a (ns.map V.int)→HOk P w H s₁.heap→(∀ b,H b≠none→b=a)→(H a≠none→K.lookup a=none) →
   codeAny (model P w) callerA (.call (.ref fa) ⟨[.ref a],[]⟩) (fun r s'=>r=.ok (.ret (.bool true))∧OldK s₁.heap s'.heap∧s'.os=s₁.os∧AllBare s'.gens) s₁:=by
  intro H hO hS hok hA hK
  have base_of:∀ {b:Addr} {o:Obj},s₁.heap.get? b=some o→H b=none→(hidT s₁.heap H).get? b=some o:=fun e n=>b4Q e n
  have noA:∀ {b:Addr} {o:Obj} {es:Array DictEntry} {ep:Nat},s₁.heap.get? b=some o→o.data=.dict es ep→H b=none:=fun {b o es ep} e d=>by
   cases q:H b with
   | none=>rfl
   | some u =>
     have e':b=a:=hA b (by rw[q];simp)
     subst e'
     rw[ha] at e;cases e
     have d':Data.seq vs.toArray _=Data.dict es ep:=d
     cases d'
  have nsK:∀ {b:Addr} {m:Str→Option Value},s₁.heap.Ns b m→(hidT s₁.heap H).Ns b m:=fun {b m} ⟨o,es,ep,e,d,r⟩=>⟨o,es,ep,base_of e (noA e d),d,r⟩
  have hKb:K.In (hidT s₁.heap H):=fun b o e=>base_of (KX b o e) (by
   cases q:H b with
   | none=>rfl
   | some u =>
     have e':b=a:=hA b (by rw[q];simp)
     subst e'
     rw[hK (by rw[q];simp)] at e;cases e)
  have hM:Mod K mg (hidT s₁.heap H):=⟨hKb,nsK hns,⟨mb,nsK hb,hbb⟩,let ⟨mc,h1,h2⟩:=hlim;⟨mc,nsK h1,h2⟩⟩
  have e0:Env0 P w K mg (hidT s₁.heap H) callerA [] s₁ H:=⟨rfl,hM,fun b o e=>b6P e,Nat.le_of_eq (b2U _ _),trivial,fun b hb=>absurd (show b∈([]:List Addr) from hb) (by simp),hok,.of_eq hg⟩
  refine codeAny_mono ((F _ hKb (nsK hns)).run callerA [] s₁ H ⟨[.ref a],[]⟩ [.ref a] [.ref a] _ _ hr e0 (hbind s₁ (.ref a)) (.cons rfl .nil) (hsp H hO hS)) fun r s' h=>?_
  cases r with
  | error e=>exact (hCX H e s' h).elim
  | ok fl =>
    cases fl with
    | next=>exact False.elim h
    | brk=>exact False.elim h
    | cont=>exact False.elim h
    | ret u =>
      obtain⟨v,H',os,bare,un,hok',r',q⟩:=h
      have q':v=.bl true:=q
      subst q'
      obtain rfl:u=Value.bool true:=r'
      refine⟨rfl,OldK.of_keep fun b o e=>?_,os,bare⟩
      cases q:H b with
      | none=>exact un.keep b o e q (by intro z;exact absurd (show b∈([]:List Addr) from z) (by simp)) (by simp)
      | some u =>
        rcases hO b with z | ⟨ob,xs,z⟩
        ·rw[q] at z;cases z
        ·have z2:=un.frzs b ob _ z
         obtain⟨e1,_⟩:=hok b _ z
         obtain⟨e2,_⟩:=hok' b _ z2
         rw[e] at e1;cases e1
         exact e2
 cases hk:K.lookup a with
 | some o =>
   -- the script is one of the module's own objects
   have e:=KX a o hk
   rw[ha] at e
   cases e
   refine core (fun _=>none) (fun _=>.inl rfl) (.inr ⟨_,vs.toArray,_,hk,rfl,rfl,rfl,by rw[List.size_toArray,lenV];exact hl,by simpa using rv⟩) (fun b u z=>by have z':(none:Option HO)=some u:=z;cases z') (fun b z=>absurd rfl z) fun z=>absurd rfl z
 | none =>
   refine core (fun b=>if b=a then some (.frz { cls:=.type "list",data:=.seq vs.toArray } (.lst (ns.map V.int))) else none) (fun b=>?_) (.inl (.inr ⟨{ cls:=.type "list",data:=.seq vs.toArray },if_pos rfl⟩)) (fun b u z=>?_) (fun b z=>?_) fun _=>hk
   ·by_cases hb:b=a
    ·exact .inr ⟨_,_,if_pos hb⟩
    ·exact .inl (if_neg hb)
   ·by_cases hb:b=a
    ·have z':=(if_pos hb).symm.trans z
     cases z'
     subst hb
     exact⟨ha,by rw[List.length_map];exact hl,vs,_,rv,ha⟩
    ·have z':=(if_neg hb).symm.trans z
     cases z'
   ·by_cases hb:b=a
    ·exact hb
    ·exact absurd (if_neg hb) z
theorem b5R {l:PySem.W.OpenLaw} {n k:Nat} {q:Program} {loose:List Str} {XP:(Str→Option Value)→Heap→Prop} {YP:World→Heap→Prop} {d:DefRec} {K:Params→PySem.W.Frag} {CX:World→CXT} {sp:World→Sp} {x:Str}
  (hn:l.most=some n) (hn2:n≤sizeLine) (hdf:d.params.defaults=[]) (hr:Room k callerA)
  (hY:∀ (w:World) (h:Heap),YP w h→(K w.params).In h)
  (F : ∀ (w:World) (mg:Str→Option Value) (fa:Addr) (h:Heap),(K w.params).In h→h.Ns mainGlobals mg→mg d.name=some (.ref fa) →
   ∃ fd:FuncData,(∀ (s:Shared) (u:Value),BindsTo s fd ⟨[u],[]⟩ [(x,u)]) ∧
     ∀ base:Heap,(K w.params).In base→base.Ns mainGlobals mg→FnOk l.prog w (K w.params) mg base (CX w) k fa fd [x] (sp w))
  (hsp:∀ (w:World) (H:Hp) (a:Addr) (ns:List Int),ns.length≤n→Only H→SqL (K w.params) H a (ns.map V.int)→sp w [.ref a] H (fun v _=>v=.bl true) fun _ _ _=>False)
  (hCX:∀ (w:World) (H:Hp) (s:Shared) (e:Value) (s':Shared),CX w [] H s (fun _ _ _=>False) e s'→False) :
  PySem.W.WalkO q loose XP YP l.row.toRowW d [] (fun f vs=>PySem.call f vs):=by
 refine Att.attach_call hn hdf fun w s₀ s₁ mg mb fa o pm cd doc a vs ns G Y ho hd hcd hmg hobj hints hlen hg=>?_
 have KX:=hY w _ Y
 obtain⟨fd,hb,hF⟩:=F w mg fa _ KX G.T.g hmg
 exact b4G KX G.T.g G.T.b G.T.builtins G.T.nolimit hg hobj hints (Nat.le_trans hlen hn2) hr hF hb (fun H hO hS=>hsp w H a ns hlen hO hS) fun H e s'=>hCX w H s₁ e s'
noncomputable def a0x (s:Stmt):Arguments:=match s with
 | .FunctionDef _ a _ _ _ _ _ _ _ _=>a
 | _=>{ posonlyargs:=[],args:=[],vararg:=none,kwonlyargs:=[],kw_defaults:=[],kwarg:=none,defaults:=[] }
noncomputable def a0r (s:Stmt):List Stmt:=match s with
 | .FunctionDef _ _ b _ _ _ _ _ _ _=>b
 | _=>[]
noncomputable def a0a (s:Stmt):Scope:=match s with
 | .FunctionDef _ _ _ _ _ _ sc _ _ _=>sc
 | _=>{ kind:=.function,names:=[],isGenerator:=false,isCoroutine:=false }
noncomputable abbrev CX0:CXT:=fun _ _ _ _ _ _=>False
noncomputable abbrev E0:XK:=fun _ _ _=>False
theorem c0t {X:Cx}:b3R CX0 X E0:=fun _ _ _ _ _ _ _ h=>h.elim
structure Fun (K:PySem.W.Frag) (x qual:Str) (st:Stmt) (f:Addr) (fd:FuncData):Prop where
 ex:∃ (oc:Value) (od:Option Addr) (kV doc pm:Value) (an:Option Addr) (cdv ct:Value) (osl:Array (Option Value)),
  fd=PySem.W.fnOf x qual (a0x st) (a0r st) (a0a st) .none kV doc pm an cdv ct∧K.lookup f=some ⟨oc,od,.func fd,osl⟩∧PySem.W.codeIn K cdv qual=true
 kp:PySem.W.keepIn K (.ref f)=true
section
variable {P:Program} {w:World} {K:PySem.W.Frag} {mg:Str→Option Value} {base:Heap}
theorem Fun.ok {x qual:Str} {st:Stmt} {f:Addr} {fd:FuncData} {N ps:List Str} {k:Nat} {sp:Sp} (F:Fun K x qual st f fd) (S:FnScope N ps (a0a st)) (len:∀ vs H Q E,sp vs H Q E→vs.length=ps.length)
  (hbody:∀ (cdv:Value) (A:Around) (outer:List Env) (s:Shared) (H:Hp) (vs:List V) (Q:VK) (E:XK),Room k (A.deeper (envOfC qual (a0a st) s.heap.objs.size f cdv))→sp vs H Q E →
   ∃ t,PSs (cxOf CX0 P w K mg base N qual (a0a st) f cdv A outer s H E).nox (a0r st) t∧t { nx:=fun _ H'=>Q .non H',rt:=Q } (a5x N vs) H):FnOk P w K mg base CX0 (k+1) f fd ps sp:=by
 obtain⟨oc,od,kV,doc,pm,an,cdv,ct,osl,rfl,lk,hcd⟩:=F.ex
 refine c0H lk hcd S len fun A outer s H vs Q E hr hsp=>?_
 obtain⟨t,h,q⟩:=hbody cdv A outer s H vs Q E hr hsp
 exact⟨t,h.nox,q⟩
theorem Fun.binds {x qual:Str} {st:Stmt} {f:Addr} {fd:FuncData} {ps:List Str} (F:Fun K x qual st f fd)
  (h:∀ (kV doc pm:Value) (an:Option Addr) (cdv ct:Value) (us:List Value),us.length=ps.length→bindArgs (PySem.W.fnOf x qual (a0x st) (a0r st) (a0a st) .none kV doc pm an cdv ct) ⟨us,[]⟩=pure (ps.zip us)):a1x K fd ps []:=by
 obtain⟨oc,od,kV,doc,pm,an,cdv,ct,osl,rfl,lk,hcd⟩:=F.ex
 exact .all (h kV doc pm an cdv ct)
theorem a1c {x qual:Str} {st:Stmt} {f:Addr} {oc:Value} {od an:Option Addr} {osl:Array (Option Value)} {kV doc pm cdv ct:Value} (l:K.lookup f=some ⟨oc,od,.func (PySem.W.fnOf x qual (a0x st) (a0r st) (a0a st) .none kV doc pm an cdv ct),osl⟩)
  (c:PySem.W.codeIn K cdv qual=true) (k:PySem.W.keepIn K (.ref f)=true):Fun K x qual st f (PySem.W.fnOf x qual (a0x st) (a0r st) (a0a st) .none kV doc pm an cdv ct):=⟨⟨oc,od,kV,doc,pm,an,cdv,ct,osl,rfl,l,c⟩,k⟩
end
section
variable {X:Cx}
end
theorem ite2 {c A B:Prop} [Decidable c] (h1:c→A) (h2:¬c→B):if c then A else B:=by
 by_cases h:c
 ·rw[if_pos h]
  exact h1 h
 ·rw[if_neg h]
  exact h2 h
end L2
set_option maxHeartbeats 0
namespace L2
open PySem PySem.Spec PyProof.Rows
section
variable {κ:Type} [DecidableEq κ]
noncomputable def valV (kvs:List (κ × V)) (k:κ):Option V:=(kvs.find? fun kv=>decide (kv.1=k)).map (·.2)
noncomputable def putK (kvs:List (κ × V)) (k:κ) (v:V):List (κ × V) :=
 if (kvs.any fun kv=>decide (kv.1=k))=true then kvs.map (fun kv=>if kv.1=k then (kv.1,v) else kv) else kvs++[(k,v)]
theorem a6W {p:κ × V} {r:List (κ × V)} {k:κ} (e:p.1=k):valV (p :: r) k=some p.2:=by simp [valV,List.find?_cons,e]
theorem a6X {p:κ × V} {r:List (κ × V)} {k:κ} (e:¬p.1=k):valV (p :: r) k=valV r k:=by simp [valV,List.find?_cons,e]
theorem b0i (k:κ):∀ kvs:List (κ × V),(kvs.any fun kv=>decide (kv.1=k))=(valV kvs k).isSome
 | []=>rfl
 | p :: r=>by
   rw[List.any_cons]
   by_cases e:p.1=k
   ·simp only[a6W e,decide_eq_true e,Bool.true_or,Option.isSome_some]
   ·rw[a6X e,decide_eq_false e,Bool.false_or];exact b0i k r
theorem a5O (kvs:List (κ × V)) (k:κ) (v:V):(putK kvs k v).length≤kvs.length+1:=by
 unfold putK
 split
 ·rw[List.length_map];lia
 ·rw[List.length_append,List.length_cons,List.length_nil];lia
theorem RelO.isSome_eq {o:Option V} {u:Option Value} (r:RelO o u):o.isSome=u.isSome:=by
 cases o with
 | none=>cases u with
   | none=>rfl
   | some _=>exact (show False from r).elim
 | some _=>cases u with
   | none=>exact (show False from r).elim
   | some _=>rfl
theorem RelO.getD {o:Option V} {u:Option Value} {d:V} {d':Value} (r:RelO o u) (rd:RelV d d'):RelV (o.getD d) (u.getD d'):=by
 cases o with
 | none=>cases u with
   | none=>exact rd
   | some _=>exact (show False from r).elim
 | some _=>cases u with
   | none=>exact (show False from r).elim
   | some _=>exact r
theorem KV.val {kvs:List (κ × V)} {vs:List (κ × Value)} (r:KV kvs vs) (k:κ):RelO (valV kvs k) (valueAt vs k):=by
 unfold KV at r
 induction r with
 | nil=>exact True.intro
 | @cons p q ps qs h t ih =>
   obtain⟨h1,h2⟩:=h
   by_cases e:p.1=k
   ·have e':q.1=k:=h1.symm.trans e
    have b:valueAt (q :: qs) k=some q.2:=by simp [valueAt,List.find?_cons,e']
    rw[a6W e,b];exact h2
   ·have e':¬q.1=k:=fun z=>e (h1.trans z)
    have b:valueAt (q :: qs) k=valueAt qs k:=by simp [valueAt,List.find?_cons,e']
    rw[a6X e,b];exact ih
theorem KV.any {kvs:List (κ × V)} {vs:List (κ × Value)} (r:KV kvs vs) (k:κ):(kvs.any fun kv=>decide (kv.1=k))=vs.any fun kv=>decide (kv.1=k):=by
 unfold KV at r
 induction r with
 | nil=>rfl
 | cons h t ih=>rw[List.any_cons,List.any_cons,ih,h.1]
theorem KV.repl {kvs:List (κ × V)} {vs:List (κ × Value)} (r:KV kvs vs) (k:κ) {y:V} {u:Value} (ry:RelV y u) :
  KV (kvs.map fun kv=>if kv.1=k then (kv.1,y) else kv) (vs.map fun kv=>if kv.1=k then (kv.1,u) else kv):=by
 unfold KV at r⊢
 induction r with
 | nil=>exact .nil
 | @cons p q ps qs h t ih =>
   rw[List.map_cons,List.map_cons]
   refine .cons ?_ ih
   obtain⟨h1,h2⟩:=h
   by_cases e:p.1=k
   ·rw[if_pos e,if_pos (h1.symm.trans e)];exact⟨h1,ry⟩
   ·rw[if_neg e,if_neg (fun z=>e (h1.trans z))];exact⟨h1,h2⟩
theorem KV.put {kvs:List (κ × V)} {vs:List (κ × Value)} (r:KV kvs vs) (k:κ) {y:V} {u:Value} (ry:RelV y u):KV (putK kvs k y) (stored vs k u):=by
 unfold putK stored
 rw[r.any k]
 by_cases e:(vs.any fun kv=>decide (kv.1=k))=true
 ·rw[if_pos e,if_pos e];exact r.repl k ry
 ·rw[if_neg e,if_neg e];exact Paired.snoc r ⟨rfl,ry⟩
theorem KV.keys {kvs:List (κ × V)} {vs:List (κ × Value)} (r:KV kvs vs):kvs.map (·.1)=vs.map (·.1):=by
 unfold KV at r
 induction r with
 | nil=>rfl
 | cons h t ih=>rw[List.map_cons,List.map_cons,ih,h.1]
theorem KV.length {kvs:List (κ × V)} {vs:List (κ × Value)} (r:KV kvs vs):kvs.length=vs.length:=Paired.length r
end
theorem b4H {P:Program} {w:World} {k:Key} {u:Value} (r:RelV (kV k) u):(a1i P w).is k u=true:=by
 cases k with
 | inl i=>obtain⟨t,e⟩:=(show ∃ t,u=Value.int i t from r);subst e;exact a9J P w i t
 | inr x=>obtain⟨t,e⟩:=(show ∃ t,u=Value.str x t from r);subst e;exact a9I P w x t
theorem a8E {P:Program} {w:World}:∀ {ks:List Key} {us:List Value},Vals (ks.map kV) us→ItemsAre (a1i P w) ks us
 | [],_,r=>by rw[List.map_nil] at r;cases r;exact .nil
 | k :: ks,_,r=>by
   rw[List.map_cons] at r
   cases r with
   | cons h t=>exact .cons (b4H h) (a8E t)
noncomputable abbrev KT (H:Hp):List (List Key × V)→List (List Key × Addr × Value)→Prop:=Paired fun p q=>p.1=q.1∧H q.2.1=some (.tup (p.1.map kV))∧RelV p.2 q.2.2
theorem KT.val {H:Hp} {kvs:List (List Key × V)} {xs:List (List Key × Addr × Value)} (r:KT H kvs xs) (k:List Key):RelO (valV kvs k) ((atKey xs k).map (·.2)):=by
 induction r with
 | nil=>exact True.intro
 | @cons p q ps qs h t ih =>
   obtain⟨h1,_,h2⟩:=h
   by_cases e:p.1=k
   ·have e':q.1=k:=h1.symm.trans e
    have b:atKey (q :: qs) k=some q.2:=by simp [atKey,List.find?_cons,e']
    rw[a6W e,b];exact h2
   ·have e':¬q.1=k:=fun z=>e (h1.trans z)
    have b:atKey (q :: qs) k=atKey qs k:=by simp [atKey,List.find?_cons,e']
    rw[a6X e,b];exact ih
theorem KT.repl {H:Hp} {kvs:List (List Key × V)} {xs:List (List Key × Addr × Value)} (r:KT H kvs xs) (k:List Key) {y:V} {u:Value} (ry:RelV y u) :
  KT H (kvs.map fun kv=>if kv.1=k then (kv.1,y) else kv) (xs.map (putAt k u)):=by
 induction r with
 | nil=>exact .nil
 | @cons p q ps qs h t ih =>
   rw[List.map_cons,List.map_cons]
   refine .cons ?_ ih
   obtain⟨h1,h2,h3⟩:=h
   unfold putAt
   by_cases e:p.1=k
   ·rw[if_pos e,if_pos (h1.symm.trans e)];exact⟨h1,h2,ry⟩
   ·rw[if_neg e,if_neg (fun z=>e (h1.trans z))];exact⟨h1,h2,h3⟩
theorem KT.put {H:Hp} {kvs:List (List Key × V)} {xs:List (List Key × Addr × Value)} (r:KT H kvs xs) (k:List Key) {b:Addr} {y:V} {u:Value} (hb:H b=some (.tup (k.map kV))) (ry:RelV y u) :
  KT H (putK kvs k y) (storedH xs k b u):=by
 have e:(kvs.any fun kv=>decide (kv.1=k))=(atKey xs k).isSome:=by
  rw[b0i,(r.val k).isSome_eq,Option.isSome_map]
 unfold putK storedH
 rw[e]
 by_cases q:(atKey xs k).isSome=true
 ·rw[if_pos q,if_pos q];exact r.repl k ry
 ·rw[if_neg q,if_neg q];exact Paired.snoc r ⟨rfl,hb,ry⟩
theorem KT.keeps {H H':Hp} {kvs:List (List Key × V)} {xs:List (List Key × Addr × Value)} (r:KT H kvs xs) (ht:∀ b ys,H b=some (.tup ys)→H' b=some (.tup ys)):KT H' kvs xs :=
 Paired.mapP r fun _ _ z=>⟨z.1,ht _ _ z.2.1,z.2.2⟩
section
variable {P:Program} {w:World} {H:Hp} {h:Heap} {a:Addr}
theorem b8r {u:HO} (ok:HOk P w H h) (e:Rd H a u):a1N P w H h a u:=e.ok ok
theorem b3q {kvs:List (Key × V)} (ok:HOk P w H h) (e:Rd H a (.dK kvs)):kvs.length≤sizeLine∧(a == sysModules)=false∧∃ vs,KV kvs vs∧h.DictOf (a1i P w) a vs :=
 show a1N P w H h a (.dK kvs) from b8r ok e
theorem c0L {kvs:List (Key × V)} (ok:HOk P w H h) (e:H a=some (.dK kvs)):kvs.length≤sizeLine∧(a == sysModules)=false∧∃ vs,KV kvs vs∧h.DictOf (a1i P w) a vs:=b3q ok (.inl e)
theorem b0H {ks:List Key} (ok:HOk P w H h) (e:H a=some (.tup (ks.map kV))):(tupleKind (a1i P w)).is h ks a:=by
 obtain⟨_,its,r,o,h1,h2,_,n,h3⟩:=(show a1N P w H h a (.tup (ks.map kV)) from ok a _ e)
 exact⟨o,its.toArray,n,h1,h2,h3,by simpa using a8E r⟩
theorem b3n {kvs:List (List Key × V)} (ok:HOk P w H h) (e:Rd H a (.dT kvs)):kvs.length≤sizeLine∧(a == sysModules)=false ∧
  ∃ xs,KT H kvs xs∧h.DictOfH (tupleKind (a1i P w)) a xs:=by
 obtain⟨z,y,xs,r,o,es,ep,h1,h2,h3,h4,h5⟩:=(show a1N P w H h a (.dT kvs) from b8r ok e)
 refine⟨z,y,xs,r,o,es,ep,h1,h2,h3,h4,fun x hx=>?_,h5⟩
 have all:∀ {l:List (List Key × V)} {m:List (List Key × Addr × Value)},KT H l m→∀ x∈m,(tupleKind (a1i P w)).is h x.1 x.2.1:=by
  intro l m q
  induction q with
  | nil=>intro x hx;exact nomatch hx
  | @cons p q ps qs hq t ih =>
    intro x hx
    rcases List.mem_cons.mp hx with e | hx
    ·subst e
     exact b0H ok (by rw[← hq.1];exact hq.2.1)
    ·exact ih x hx
 exact all r x hx
theorem c0K {kvs:List (List Key × V)} (ok:HOk P w H h) (e:H a=some (.dT kvs)):kvs.length≤sizeLine∧(a == sysModules)=false ∧
  ∃ xs,KT H kvs xs∧h.DictOfH (tupleKind (a1i P w)) a xs:=b3n ok (.inl e)
end
noncomputable def DGet (H:Hp) (a:Addr) (y:V) (r:Option V):Prop :=
 (∃ kvs k,Rd H a (.dK kvs)∧y=kV k∧r=valV kvs k)∨∃ kvs k b,Rd H a (.dT kvs)∧y=.ref b∧H b=some (.tup (k.map kV))∧r=valV kvs k
noncomputable def DPut (H:Hp) (a:Addr) (y v:V) (H':Hp):Prop :=
 (∃ kvs k,H a=some (.dK kvs)∧y=kV k∧kvs.length < sizeLine∧H'=upd H a (.dK (putK kvs k v))) ∨
 ∃ kvs k b,H a=some (.dT kvs)∧y=.ref b∧H b=some (.tup (k.map kV))∧kvs.length < sizeLine∧H'=upd H a (.dT (putK kvs k v))
theorem DGet.k {H:Hp} {a:Addr} {kvs:List (Key × V)} {k:Key} (e:H a=some (.dK kvs)):DGet H a (kV k) (valV kvs k):=.inl ⟨kvs,k,.inl e,rfl,rfl⟩
theorem DPut.k {H:Hp} {a:Addr} {kvs:List (Key × V)} {k:Key} {v:V} (e:H a=some (.dK kvs)) (hl:kvs.length < sizeLine):DPut H a (kV k) v (upd H a (.dK (putK kvs k v))):=.inl ⟨kvs,k,e,rfl,hl,rfl⟩
section
variable {X:Cx} {pins:List (Addr × Obj)} {σ:St} {H:Hp} {s:Shared} {a:Addr} {y v:V} {u r:Value} {o:Option V} {A:Around} {E:Value→Shared→Prop}
theorem Inv.big (I:Inv X pins σ H s):sysModules < s.heap.objs.size:=by
 have h:mainGlobals < s.heap.objs.size:=(I.mod.glob.keeps I.bk).lt
 exact Nat.lt_trans (by decide) h
theorem b3w {Q:Value→Shared→Prop} (hu:A.units+1 < cLine) (I:Inv X pins σ H s) (g:DGet H a y (some v)) (ry:RelV y u) (h:∀ w' s',Inv X pins σ H s'→RelV v w'→Q w' s') :
  wpAny (model X.prog X.w) A (getItem (.ref a) u) Q E s:=by
 rcases g with ⟨kvs,k,e,ey,l⟩ | ⟨kvs,k,b,e,ey,eb,l⟩
 ·subst ey
  obtain⟨z,hd,vs,rel,dd⟩:=b3q I.hok e
  obtain⟨w',hw,rw'⟩:=RelO.some_of (v:=v) (o:=valueAt vs k) (by rw[l];exact rel.val k)
  exact wpAny_getItem_of (b4H ry) dd.mapOf hw (h w' _ (I.tok _) rw')
 ·subst ey
  cases (show u=Value.ref b from ry)
  obtain⟨z,hd,xs,rel,dd⟩:=b3n I.hok e
  obtain⟨w',hw,rw'⟩:=RelO.some_of (v:=v) (o:=(atKey xs k).map (·.2)) (by rw[l];exact rel.val k)
  obtain⟨p,hp,hp2⟩:=Option.map_eq_some_iff.mp hw
  refine wpAny_getItem_heap (tupleKind_room_in1 hu) (b0H I.hok eb) dd hp ?_
  rw[hp2]
  exact h w' _ (I.tok _) rw'
theorem b3u {h':Heap} {t':Nat} {ob:HO} (I:Inv X pins σ H s) (mu:Mut (H a)) (hs:Heap.SameBut a s.heap h') (he:∃ q,h'.get? a=some q) (new:a1N X.prog X.w (upd H a ob) h' a ob) :
  Inv X pins σ (upd H a ob) { s with heap:=h',toks:=t' } :=
 I.write (x:=a) (e:=a) mu (.inl rfl) (fun b q hb z=>(hs.2 b hb).trans z) he new
theorem b9v {P:Program} {w:World} {H':Hp} {h':Heap} {kvs:List (Key × V)} {vs:List (Key × Value)} (z:kvs.length≤sizeLine) (hd:(a == sysModules)=false) (rel:KV kvs vs) (dd:h'.DictOf (a1i P w) a vs) :
  a1N P w H' h' a (.dK kvs):=⟨z,hd,vs,rel,dd⟩
theorem b3v {H':Hp} {Q:Unit→Shared→Prop} (hu:A.units+1 < cLine) (I:Inv X pins σ H s) (g:DPut H a y v H') (ry:RelV y u) (rv:RelV v r) (h:∀ s',Inv X pins σ H' s'→Q () s') :
  wpAny (model X.prog X.w) A (setItem (.ref a) u r) Q E s:=by
 rcases g with ⟨kvs,k,e,ey,l,eH⟩ | ⟨kvs,k,b,e,ey,eb,l,eH⟩
 ·subst ey eH
  obtain⟨z,hd,vs,rel,dd⟩:=c0L I.hok e
  have hz:vs.length≤sizeLine:=by rw[← rel.length];exact z
  have hl:(putK kvs k v).length≤sizeLine:=by have:=a5O kvs k v;lia
  refine wpAny_setItem_pairs (hsz:=hz) (b4H ry) dd fun h' dd' hs=>h _ ?_
  have he:∃ q,h'.get? a=some q:=let ⟨q,_,_,hq,_⟩:=dd';⟨q,hq⟩
  exact b3u I (by rw[e];exact True.intro) hs he (b9v hl hd (rel.put k rv) dd')
 ·subst ey eH
  cases (show u=Value.ref b from ry)
  obtain⟨z,hd,xs,rel,dd⟩:=c0K I.hok e
  have hz:xs.length≤sizeLine:=by rw[← Paired.length rel];exact z
  have hl:(putK kvs k v).length≤sizeLine:=by have:=a5O kvs k v;lia
  refine wpAny_setItem_heap (hsz:=hz) (tupleKind_room_in1 hu) (b0H I.hok eb) dd fun h' dd' hs=>h _ ?_
  obtain⟨q,es,ep,hq,h2,h3,h4,_,h5⟩:=dd'
  refine b3u I (by rw[e];exact True.intro) hs ⟨q,hq⟩ ⟨hl,hd,_,(rel.put k eb rv).keeps fun c ys ec=>?_,q,es,ep,hq,h2,h3,h4,h5⟩
  rw[a0m (c0y ec e (fun z=>nomatch z))]
  exact ec
end
section
variable {X:Cx} {pins:List (Addr × Obj)} {σ:St} {H:Hp} {s:Shared} {a:Addr} {kvs:List (Key × V)} {k:Key} {u:Value} {A:Around} {E:Value→Shared→Prop}
end
noncomputable def NoSl (i:Expr):Prop:=∀ ov iv,subscripted i false ov iv=operate [ov,iv] (getItem ov iv)
theorem b5Z {prog:Program} {w:World} {A:Around} {E:Value→Shared→Prop} {s:Shared} {env:Env} {value slice:Expr} {pos:Pos} {T id:String} {Q:Value→Shared→Prop}
  (hl:typeLookup (.type T) "__getitem__"=pure (some (.builtin id))) (hs:NoSl slice)
  (h:wpAny (model prog w) A (eval value env) (fun o s₁=>wpAny (model prog w) A (eval slice env) (fun i s₂=>s₂.TypeIs o T∧wpAny (model prog w) A (getItem o i) Q E s₂) E s₁) E s) :
  wpAny (model prog w) A (eval (.Subscript value slice pos) env) Q E s:=by
 refine Subscript_ (wpAny_mono h (fun o s₁ h₁=>wpAny_mono h₁ (fun i s₂ h₂=>?_) fun _ _ x=>x) fun _ _ x=>x)
 obtain⟨hT,h₂⟩:=h₂
 unfold subscriptTail
 refine wpAny_bind ?_
 rw[getitemInPython_of_ne hT.not_modules]
 refine wpAny_bind (wpAny_specialOf hT hl ?_)
 have fin:wpAny (model prog w) A (subscripted slice false o i) (fun r s₃=>wpAny (model prog w) A (letTemporaryGo value o r >>= fun _=>pure r) Q E s₃) E s₂:=by
  rw[hs o i]
  exact wpAny_operating (wpAny_mono h₂ (fun r s₃ h₃=>wpAny_bind (wpAny_letTemporaryGo (wpAny_pure h₃))) fun _ _ x=>x)
 first
  | exact wpAny_pure (wpAny_bind fin)
  | exact wpAny_bind (wpAny_pure (wpAny_bind fin))
  | exact wpAny_bind fin
theorem a9V {X:Cx} {pins:List (Addr × Obj)} {σ:St} {H:Hp} {s:Shared} {a:Addr} {y:V} {o:Option V} (I:Inv X pins σ H s) (g:DGet H a y o):s.TypeIs (.ref a) "dict":=by
 rcases g with ⟨kvs,k,e,_,_⟩ | ⟨kvs,k,b,e,_,_,_⟩
 ·obtain⟨_,_,vs,_,dd⟩:=b3q I.hok e
  exact dd.typeIs
 ·obtain⟨_,_,xs,_,dd⟩:=b3n I.hok e
  exact dd.typeIs
noncomputable def c0a (td ty:TE):TE:=fun σ H Q=>td σ H fun x H1=>ty σ H1 fun y H2=>∃ a v,x=.ref a∧DGet H2 a y (some v)∧Q v H2
noncomputable def c0g (td ty tv:TE):TS:=fun D σ H=>tv σ H fun v H1=>td σ H1 fun x H2=>ty σ H2 fun y H3=>∃ a H4,x=.ref a∧DPut H3 a y v H4∧D.nx σ H4
section
variable {X:Cx} {o i e value:Expr} {pos pos' tpos:Pos} {td ty tv:TE}
theorem b6G (hu:X.A.units+1 < cLine) (ho:PE X o td) (hi:PE X i ty) (hs:NoSl i):PE X (.Subscript o i pos) (c0a td ty):=by
 intro pins s σ H Q I h
 refine b5Z PySem.F.slot_dict_getitem.lookup hs (thn (ho pins s σ H _ I h) fun u s1 ⟨x,H1,I1,rx,q1⟩=>thn (hi pins s1 σ H1 _ I1 q1) fun iv s2 ⟨y,H2,I2,ry,a,v,ex,g,q2⟩=>?_)
 subst ex
 obtain rfl:u=Value.ref a:=rx
 exact⟨a9V I2 g,b3w hu I2 g ry fun w' s3 I3 rw'=>⟨v,H2,I3,rw',q2⟩⟩
theorem b6B (hu:X.A.units+1 < cLine) (ho:PE X o td) (hi:PE X i ty) (hv:PE X value tv) (hs:swapsWith value (some (.Subscript o i pos')) pos.line X.env=pure false) :
  PS X (.Assign [.Subscript o i pos'] value pos) (c0g td ty tv):=by
 intro pins s σ H D I h
 refine wpAny_Assign_Subscript (thn (hv pins s σ H _ I h) fun r s1 ⟨v,H1,I1,rv,q1⟩=>thn (ho pins s1 σ H1 _ I1 q1) fun u s2 ⟨x,H2,I2,rx,q2⟩=>thn (hi pins s2 σ H2 _ I2 q2) fun iv s3 ⟨y,H3,I3,ry,a,H4,ex,g,q3⟩=>?_) hs
 subst ex
 obtain rfl:u=Value.ref a:=rx
 exact b3v hu I3 g ry rv fun s4 I4=>⟨σ,H4,I4,q3⟩
end
theorem b5e {P:Program} {w:World} {H:Hp} (h:Heap) (hb:sysModules < h.objs.size):a1N P w H (h.push { cls:=.type "dict",data:=.dict #[] }) h.objs.size (.dK []) :=
 ⟨Nat.zero_le _,beq_eq_false_iff_ne.mpr (Ne.symm (Nat.ne_of_lt hb)),[],.nil,Heap.DictOf.new h⟩
noncomputable def b8c:TE:=fun _ H Q=>∀ p,H p=none→Q (.ref p) (upd H p (.dK []))
section
variable {X:Cx} {pos:Pos}
theorem b4t:PE X (.Dict [] [] pos) b8c:=fun pins s σ H Q I h =>
 wpAny_Dict_empty ⟨.ref s.heap.objs.size,_,I.laid (a:=s.heap.objs.size) (o:=.dK []) (t':=s.toks) (fun _ _ q=>Heap.get?_push_of_some _ q) (Nat.le_refl _) (b5e s.heap I.big),rfl,h _ (I.hok.fresh (Nat.le_refl _))⟩
end
structure M1 (X:Cx) (o:Expr) (m:Str) (apos:Pos) (e:Expr) (cpos:Pos):Prop where
 base:attributeBase o m X.env (eval o X.env)=eval o X.env
 few:((backTo cpos (starEach [e] X.env)).all (fun x=>!x.1) && (backToKw cpos (keywordEach [] X.env)).all (fun x=>x.1.isSome)
  && decide (([e]:List Expr).length+([]:List Keyword).length+(if ([]:List Keyword).isEmpty then 0 else 1) < 30))=true
 line:(apos.endLine == cpos.line)=true
 trees:backTo cpos (starEach [e] X.env)=[(false,eval e X.env)]
structure M2 (X:Cx) (o:Expr) (m:Str) (apos:Pos) (e f:Expr) (cpos:Pos):Prop where
 base:attributeBase o m X.env (eval o X.env)=eval o X.env
 few:((backTo cpos (starEach [e,f] X.env)).all (fun x=>!x.1) && (backToKw cpos (keywordEach [] X.env)).all (fun x=>x.1.isSome)
  && decide (([e,f]:List Expr).length+([]:List Keyword).length+(if ([]:List Keyword).isEmpty then 0 else 1) < 30))=true
 line:(apos.endLine == cpos.line)=true
 trees:backTo cpos (starEach [e,f] X.env)=[(false,eval e X.env),(false,eval f X.env)]
noncomputable def IsD (H:Hp) (a:Addr):Prop:=(∃ kvs,Rd H a (.dK kvs))∨∃ kvs,Rd H a (.dT kvs)
theorem b9f {X:Cx} {pins:List (Addr × Obj)} {σ:St} {H:Hp} {s:Shared} {a:Addr} (I:Inv X pins σ H s) (d:IsD H a) :
  s.TypeIs (.ref a) "dict"∧(∀ b,Value.ref a=.ref b→∃ ob,s.heap.get? b=some ob∧ob.dict=none)∧(a == sysModules)=false:=by
 rcases d with ⟨kvs,e⟩ | ⟨kvs,e⟩
 ·obtain⟨_,hd,vs,_,dd⟩:=b3q I.hok e
  refine⟨dd.typeIs,fun b q=>?_,hd⟩
  cases q
  obtain⟨ob,_,_,h1,h2,_⟩:=dd
  exact⟨ob,h1,h2.2.1⟩
 ·obtain⟨_,hd,xs,_,dd⟩:=b3n I.hok e
  refine⟨dd.typeIs,fun b q=>?_,hd⟩
  cases q
  obtain⟨ob,_,_,h1,h2,_⟩:=dd
  exact⟨ob,h1,h2.2.1⟩
section
variable {X:Cx} {pins:List (Addr × Obj)} {σ:St} {H:Hp} {s:Shared} {a:Addr} {y d:V} {u r:Value} {o:Option V} {A:Around} {E:Value→Shared→Prop}
theorem b9x {Q:Value→Shared→Prop} (hu:A.units+1 < cLine) (I:Inv X pins σ H s) (g:DGet H a y o) (ry:RelV y u) (rd:RelV d r) (h:∀ w' s',Inv X pins σ H s'→RelV (o.getD d) w'→Q w' s') :
  wpAny (model X.prog X.w) A (call (.builtin "dict.get") [.ref a,u,r]) Q E s:=by
 rcases g with ⟨kvs,k,e,ey,l⟩ | ⟨kvs,k,b,e,ey,eb,l⟩
 ·subst ey
  obtain⟨z,hd,vs,rel,dd⟩:=b3q I.hok e
  refine call_meetsIn PySem.F.slot_dict_get dd.typeIs PySem.F.entry_dict_get (PySem.F.args_dict_get_3 _ _ _) (meets_dict_get_default (a1i X.prog X.w) a (b4H ry) hd r) ⟨_,dd.mapOf,h _ _ (I.tok _) ?_⟩
  rw[l]
  exact (rel.val k).getD rd
 ·subst ey
  cases (show u=Value.ref b from ry)
  obtain⟨z,hd,xs,rel,dd⟩:=b3n I.hok e
  refine call_meetsIn PySem.F.slot_dict_get dd.typeIs PySem.F.entry_dict_get (PySem.F.args_dict_get_3 _ _ _) (meetsH_dict_get_default (tupleKind (a1i X.prog X.w)) a b hd r) ⟨tupleKind_room_in1 hu,k,xs,b0H I.hok eb,dd,h _ _ (I.tok _) ?_⟩
  rw[l]
  exact (rel.val k).getD rd
end
noncomputable def b8d (td ty tx:TE):TE:=fun σ H Q=>td σ H fun x H1=>∃ a,x=.ref a∧IsD H1 a∧ty σ H1 fun y H2=>tx σ H2 fun z H3=>∃ o,DGet H3 a y o∧Q (o.getD z) H3
section
variable {X:Cx} {o e f:Expr} {apos cpos:Pos} {td ty tx:TE}
theorem b4u (hu:X.A.units+1 < cLine) (ho:PE X o td) (he:PE X e ty) (hf:PE X f tx) (m:M2 X o "get" apos e f cpos):PE X (.Call (.Attribute o "get" apos) [e,f] [] cpos) (b8d td ty tx):=by
 intro pins s σ H Q I h
 refine wpAny_Call_method m.base m.few m.line PySem.F.plainAttrs_dict PySem.F.slot_dict_get PySem.F.type_dict_get (thn (ho pins s σ H _ I h) fun u s1 ⟨x,H1,I1,rx,a,ex,d,q1⟩=>?_)
 subst ex
 obtain rfl:u=Value.ref a:=rx
 obtain⟨t1,t2,_⟩:=b9f I1 d
 refine⟨t1,t2,?_⟩
 rw[m.trees]
 refine Calls.callWith_builtin rfl (Calls.evalArgs_plain (Calls.spliced_cons (thn (he pins s1 σ H1 _ I1 q1) fun iv s2 ⟨y,H2,I2,ry,q2⟩ =>
  Calls.spliced_cons (thn (hf pins s2 σ H2 _ I2 q2) fun fv s3 ⟨z,H3,I3,rz,ov,g,q3⟩=>Calls.spliced_nil ?_))))
 exact b9x hu I3 g ry rz fun w' s4 I4 rw'=>⟨_,H3,I4,rw',q3⟩
end
noncomputable def a4o (env:Env):List (Str × NameKind)→List (Str × Addr)→List (Str × Addr)
 | [],acc=>acc
 | (n,k) :: r,acc=>a4o env r (if k == .free then (n,(env.cells.lookup n).getD 0) :: acc else acc)
theorem a3i (env:Env) (n:Str) (k:NameKind) (r:List (Str × NameKind)) (acc:List (Str × Addr)):a4o env ((n,k) :: r) acc=a4o env r (if k == .free then (n,(env.cells.lookup n).getD 0) :: acc else acc):=rfl
theorem a3t (env:Env) (f:Str × NameKind→List (Str × Addr)→Sem (ForInStep (List (Str × Addr))))
  (hf:∀ n k cs,f (n,k) cs=if (k == .free)=true then (do let a ← cellOf env n;pure (.yield ((n,a) :: cs))) else pure (.yield cs)) :
  ∀ (names:List (Str × NameKind)) (acc:List (Str × Addr)),(∀ y∈names,y.2=.free→∃ c,env.cells.lookup y.1=some c)→forIn names acc f=(pure (a4o env names acc):Sem _)
 | [],acc,_=>by rw[List.forIn_nil];rfl
 | (n,k) :: r,acc,h=>by
   rw[List.forIn_cons,hf]
   have hr:∀ y∈r,y.2=.free→∃ c,env.cells.lookup y.1=some c:=fun y hy=>h y (List.mem_cons_of_mem _ hy)
   by_cases hk:(k == NameKind.free)=true
   ·rw[if_pos hk]
    obtain⟨c,hc⟩:=h (n,k) List.mem_cons_self (by simpa using hk)
    have hc':env.cells.lookup n=some c:=hc
    have e:cellOf env n=pure c:=by unfold cellOf;rw[hc']
    rw[e]
    simp only[pure_bind]
    rw[a3t env f hf r _ hr]
    rw[a3i,if_pos hk,hc']
    rfl
   ·rw[if_neg hk]
    simp only[pure_bind]
    rw[a3t env f hf r _ hr]
    rw[a3i,if_neg hk]
theorem a7Q (scope:Scope) (env:Env) (h:∀ y∈scope.names,y.2=.free→∃ c,env.cells.lookup y.1=some c):closureFor scope env=pure (a4o env scope.names []):=by
 unfold closureFor
 dsimp only
 rw[a3t env _ (fun n k cs=>by cases hk:(k == NameKind.free)<;>simp [hk]<;>rfl) scope.names [] h]
 rfl
theorem a3L (env:Env):∀ (names:List (Str × NameKind)) (acc:List (Str × Addr)) (x:Str) (c:Addr),(a4o env names acc).lookup x=some c →
  (acc.lookup x=some c∨((x,.free)∈names∧c=(env.cells.lookup x).getD 0))
 | [],acc,x,c,h=>.inl h
 | (n,k) :: r,acc,x,c,h=>by
   rw[a3i] at h
   rcases a3L env r _ x c h with q | ⟨q1,q2⟩
   ·split at q
    ·rename_i hk
     have hk':k=.free:=by simpa using hk
     subst hk'
     rw[List.lookup_cons] at q
     split at q
     ·rename_i hx
      have:x=n:=by simpa using hx
      subst this
      cases q
      exact .inr ⟨List.mem_cons_self,rfl⟩
     ·exact .inl q
    ·exact .inl q
   ·exact .inr ⟨List.mem_cons_of_mem _ q1,q2⟩
theorem a8X (env:Env):∀ (names:List (Str × NameKind)) (acc:List (Str × Addr)) (x:Str),(∃ c,acc.lookup x=some c)→∃ c,(a4o env names acc).lookup x=some c
 | [],acc,x,h=>h
 | (n,k) :: r,acc,x,h=>by
   rw[a3i]
   refine a8X env r _ x ?_
   split
   ·rw[List.lookup_cons]
    split
    ·exact⟨_,rfl⟩
    ·exact h
   ·exact h
theorem a6e (env:Env):∀ (names:List (Str × NameKind)) (acc:List (Str × Addr)) (x:Str),(x,NameKind.free)∈names→∃ c,(a4o env names acc).lookup x=some c
 | [],acc,x,h=>by simp at h
 | (n,k) :: r,acc,x,h=>by
   rw[a3i]
   rcases List.mem_cons.mp h with e | h
   ·cases e
    refine a8X env r _ _ ?_
    rw[if_pos (by decide),List.lookup_cons]
    simp
   ·exact a6e env r _ x h
noncomputable def ownB (names:List (Str × NameKind)) (x:Str):Bool:=names.any fun y=>y.1 == x && y.2 == .cell
theorem b0B {names:List (Str × NameKind)} {x:Str}:ownB names x=true↔(x,NameKind.cell)∈names:=by
 unfold ownB
 rw[List.any_eq_true]
 constructor
 ·rintro⟨⟨n,k⟩,h,e⟩
  simp only[Bool.and_eq_true,beq_iff_eq] at e
  obtain⟨rfl,rfl⟩:=e
  exact h
 ·intro h
  exact⟨_,h,by simp⟩
theorem a1d:∀ (names:List (Str × NameKind)) (n:Nat) (acc:List (Str × Addr)),cellsFrom n names acc=cellsFrom n names []++acc
 | [],_,_=>rfl
 | (x,k) :: r,n,acc=>by
   unfold cellsFrom
   split
   ·rw[a1d r (n+1) ((x,n) :: acc),a1d r (n+1) [(x,n)],List.append_assoc];rfl
   ·exact a1d r n acc
theorem a2v:∀ (names:List (Str × NameKind)) (n:Nat) {x:Str} {c:Addr},(x,c)∈cellsFrom n names []→n≤c∧(x,NameKind.cell)∈names
 | [],_,_,_,h=>nomatch h
 | (y,k) :: r,n,x,c,h=>by
   unfold cellsFrom at h
   split at h
   ·rename_i hk
    have hk':k=.cell:=by simpa using hk
    subst hk'
    rw[a1d] at h
    rcases List.mem_append.mp h with h | h
    ·have:=a2v r (n+1) h
     exact⟨by lia,List.mem_cons_of_mem _ this.2⟩
    ·cases List.mem_singleton.mp h
     exact⟨Nat.le_refl _,List.mem_cons_self⟩
   ·have:=a2v r n h
    exact⟨this.1,List.mem_cons_of_mem _ this.2⟩
theorem a2H:∀ (names:List (Str × NameKind)) (n:Nat) {x:Str},(x,NameKind.cell)∈names→((cellsFrom n names []).lookup x).isSome=true
 | [],_,_,h=>nomatch h
 | (y,k) :: r,n,x,h=>by
   unfold cellsFrom
   rcases List.mem_cons.mp h with e | h
   ·cases e
    rw[if_pos (by decide),a1d,List.lookup_append]
    cases hh:(cellsFrom (n+1) r []).lookup y with
    | some c=>rfl
    | none=>simp
   ·have i0:=a2H r n h
    have i1:=a2H r (n+1) h
    split
    ·rw[a1d,List.lookup_append]
     cases hh:(cellsFrom (n+1) r []).lookup x with
     | some c=>rfl
     | none=>rw[hh] at i1;cases i1
    ·exact i0
theorem a2R:∀ (names:List (Str × NameKind)) (n:Nat),(cellsFrom n names []).Pairwise fun x y=>x.2≠y.2
 | [],_=>List.Pairwise.nil
 | (y,k) :: r,n=>by
   unfold cellsFrom
   split
   ·rw[a1d]
    refine List.pairwise_append.mpr ⟨a2R r (n+1),List.pairwise_singleton _ _,fun a ha b hb=>?_⟩
    rw[List.mem_singleton.mp hb]
    have:=(a2v r (n+1) (x:=a.1) (c:=a.2) ha).1
    show a.2≠n
    exact Nat.ne_of_gt (Nat.lt_of_succ_le this)
   ·exact a2R r n
theorem a4I {M:Model} {A:Around} {E:Value→Shared→Prop} {s:Shared} {scope:Scope} {globals:Addr} {closure:List (Str × Addr)} {qual:Str} {func:Option Addr} {code:Value} {around:Env} {builtins:Addr} {Q:Env→Shared→Prop}
  (hQ:∀ h',h'=pushCells (s.heap.push { cls:=.type "dict",data:=.dict #[] }) scope.names→Q (newEnv scope s.heap.objs.size globals (cellsFrom (s.heap.objs.size+1) scope.names []++closure) qual func code (some around) builtins) { s with heap:=h' }) :
  wpAny M A (newFunctionEnv scope globals closure [] qual func code (some around) builtins) Q E s:=by
 simp only[newFunctionEnv,Option.isSome_some,if_true]
 refine wpAny_bind (wpAny_alloc ?_)
 refine wpAny_bind (wpAny_layCells _ (fun name kind cells=>by cases hkc:kind == NameKind.cell<;>simp [hkc]) _ _ _ _ ?_)
 rw[a1d,show ({ s with heap:=s.heap.push { cls:=.type "dict",data:=.dict #[] } }:Shared).heap.objs.size=s.heap.objs.size+1 from Heap.size_push ..]
 refine wpAny_bind ?_
 rw[List.forIn_nil]
 exact wpAny_pure (wpAny_pure (hQ _ rfl))
section
variable {prog:Program} {w:World} {A:Around} {R:Result→Shared→Prop} {s:Shared}
theorem a4e {elt target iter:Expr} {ifs:List Expr} {scope:Scope} {pos:Pos} {it acc:Value} {env:Env} (I:Nat→Shared→Prop)
  (turn:∀ n s,I n s→wpAny (model prog w) A (pyNext it) (fun r s₁=>match r with
   | none=>R (.ok .next) s₁
   | some v=>wpAny (model prog w) A (letOwnedTupleGo target it v) (fun _ s₁'=>wpAny (model prog w) A (assign target env v) (fun _ s₂ =>
     wpAny (model prog w) A (forIn ifs true fun c r=>if r=true then do let ok ← isTrue c env (eval c env);pure (ForInStep.yield ok) else pure (ForInStep.yield r)) (fun ok s₃ =>
      if ok=true then wpAny (model prog w) A (eval elt env) (fun x s₄ =>
       wpAny (model prog w) A (call (.builtin "list.append") [acc,x]) (fun _ s₅=>∃ m,m < n∧I m s₅) (notedBy (model prog w) A env fun e s'=>R (.error e) s') s₄) (notedBy (model prog w) A env fun e s'=>R (.error e) s') s₃
      else ∃ m,m < n∧I m s₃) (notedBy (model prog w) A env fun e s'=>R (.error e) s') s₂) (notedBy (model prog w) A env fun e s'=>R (.error e) s') s₁') (notedBy (model prog w) A env fun e s'=>R (.error e) s') s₁) (notedBy (model prog w) A env fun e s'=>R (.error e) s') s)
  (n:Nat) (h:I n s) :
  codeAny (model prog w) A (.compLoop (.ListComp elt [⟨target,iter,ifs,0⟩] scope pos) 0 it acc env) R s:=by
 refine codeAny_loop rfl I (fun n s hI=>?_) n h
 show wpAny _ A ((compTurn (.ListComp elt [⟨target,iter,ifs,0⟩] scope pos) 0 it acc env).onRaise (fun x=>do noteFrame x env;theTreesLotGoes x)) _ _ s
 refine wpAny_noted ?_
 rw[compTurn_list]
 refine wpAny_bind (wpAny_standAt (wpAny_bind (wpAny_mono (turn n s hI) (fun r s₁ h₁=>?_) fun _ _ h'=>h')))
 cases r with
 | none=>exact wpAny_pure h₁
 | some v =>
   refine wpAny_bind (wpAny_mono h₁ (fun _ s₁' h₁'=>wpAny_bind (wpAny_mono h₁' (fun _ s₂ h₂=>wpAny_bind (wpAny_mono h₂ (fun ok s₃ h₃=>?_) fun _ _ h'=>h')) fun _ _ h'=>h')) fun _ _ h'=>h')
   cases ok with
   | false=>exact wpAny_pure ⟨rfl,h₃⟩
   | true =>
     exact wpAny_bind (wpAny_bind (wpAny_mono h₃ (fun x s₄ h₄=>wpAny_bind (wpAny_mono h₄ (fun _ s₅ h₅=>wpAny_pure (wpAny_pure ⟨rfl,h₅⟩)) fun _ _ h'=>h')) fun _ _ h'=>h'))
end
noncomputable def blk (X:Cx) (N':List Str) (scope:Scope) (C:Addr) (s:Shared) (H:Hp) (fp:List Addr) (pins:List (Addr × Obj)):Cx where
 prog:=X.prog
 w:=X.w
 K:=X.K
 mg:=X.mg
 base:=X.base
 A:=X.A
 N:=N'
 s₀:=s
 H₀:=H
 env:=compEnvC scope (cellsFrom (C+1) scope.names []++a4o X.env scope.names []) C X.env
 outer:=X.stack
 stack:=X.stack
 ex:=fp
 fn:=ownB scope.names
 calm:=X.calm
 pn:=X.pn++pins
 xe:=fun _ _=>False
structure BlkScope (X:Cx) (N':List Str) (ix:List (Option Nat)) (scope:Scope):Prop where
 kind:scope.kind=.function
 locs:∀ y∈scope.names,y.2=.local→scope.names.lookup y.1=some .local
 frees:∀ y∈scope.names,y.2=.free→(X.env.kindOf y.1=some .cell∨X.env.kindOf y.1=some .free)
 look:∀ x k,(relabel scope X.env).names.lookup x=some k→(k=.cell∨k=.free)→(x,NameKind.free)∈scope.names∨(x,NameKind.cell)∈scope.names
 lenI:ix.length=N'.length
 at_:∀ (i j:Nat) (x:Str),ix[i]?=some (some j)→N'[i]?=some x→X.N[j]?=some x∧(x,NameKind.free)∈scope.names∧ownB scope.names x=false∧(relabel scope X.env).names.lookup x=X.env.kindOf x
variable {X:Cx} {pins:List (Addr × Obj)} {σ:St} {H:Hp} {s:Shared} {N':List Str} {ix:List (Option Nat)} {scope:Scope}
noncomputable def pick (ix:List (Option Nat)) (σ:St):St:=ix.map fun o=>match o with | some j=>(σ[j]?).join | none=>none
theorem b0z {i:Nat} {v:V} (e:(pick ix σ)[i]?=some (some v)):∃ j,ix[i]?=some (some j)∧σ[j]?=some (some v):=by
 unfold pick at e
 rw[List.getElem?_map] at e
 cases h:ix[i]? with
 | none=>rw[h] at e;cases e
 | some o =>
   rw[h] at e
   cases o with
   | none =>
     have e':(none:Option V)=some v:=Option.some.inj e
     cases e'
   | some j =>
     have e':(σ[j]?).join=some v:=Option.some.inj e
     refine⟨j,rfl,?_⟩
     cases hj:σ[j]? with
     | none=>rw[hj] at e';cases e'
     | some u=>rw[hj] at e';exact congrArg some e'
theorem a2w (I:Inv X pins σ H s) (S:BlkScope X N' ix scope) (C:Addr) {x:Str} {c:Addr} (e:(cellsFrom (C+1) scope.names []++a4o X.env scope.names []).lookup x=some c) :
  (C < c∧(cellsFrom (C+1) scope.names []).lookup x=some c)∨(ownB scope.names x=false∧X.env.cells.lookup x=some c):=by
 rw[List.lookup_append] at e
 cases h:(cellsFrom (C+1) scope.names []).lookup x with
 | some c' =>
   rw[h] at e
   cases e
   exact .inl ⟨(a2v _ _ (mem_of_lookup h)).1,rfl⟩
 | none =>
   rw[h] at e
   refine .inr ⟨Bool.eq_false_iff.mpr fun z=>?_,?_⟩
   ·have:=a2H scope.names (C+1) (b0B.mp z)
    rw[h] at this;cases this
   ·have e':(a4o X.env scope.names []).lookup x=some c:=e
    rcases a3L X.env scope.names [] x c e' with q | ⟨q,rfl⟩
    ·cases q
    ·obtain⟨c,hc⟩:=I.ok.has x (S.frees _ q rfl)
     rw[hc]<;>rfl
theorem b9F {fp:List Addr} {C:Addr} (I:Inv X pins σ H s) (hf:∀ b∈fp,FpOk X pins H b) (S:BlkScope X N' ix scope) (hC:s.heap.objs.size≤C) (hfo:∀ b∈fp,∃ o,s.heap.get? b=some o) :
  (blk X N' scope C s H fp pins).Ok:=by
 have lt:∀ x c,X.env.cells.lookup x=some c→c < C:=fun x c e=>by
  obtain⟨v,z⟩:=I.cell x c e
  exact Nat.lt_of_lt_of_le z.lt hC
 refine⟨I.ok.mod,?_,I.ok.glob,I.ok.blt,hC,fun x y c h1 h2=>?_,fun x hx=>?_,fun x c hf' e=>?_,I.ok.hd,I.ok.frames,.inl rfl,fun b hb=>?_,I.bs,Nat.le_trans I.ok.bsz I.sz,fun b o e hb=>?_,fun b hb hs=>?_,I.stack,I.stkFree⟩
 ·exact S.kind
 ·rcases a2w I S C h1 with ⟨a1,a2⟩ | ⟨a1,a2⟩<;>rcases a2w I S C h2 with ⟨b1,b2⟩ | ⟨b1,b2⟩
  ·exact name_of_addr (a2R _ _) (mem_of_lookup a2) (mem_of_lookup b2)
  ·exact absurd (Nat.lt_trans (lt _ _ b2) a1) (Nat.lt_irrefl _)
  ·exact absurd (Nat.lt_trans (lt _ _ a2) b1) (Nat.lt_irrefl _)
  ·exact I.ok.inj x y c a2 b2
 ·have hx':(relabel scope X.env).names.lookup x=some .cell∨(relabel scope X.env).names.lookup x=some .free:=hx
  have key:(x,NameKind.free)∈scope.names∨(x,NameKind.cell)∈scope.names:=by
   rcases hx' with hx' | hx'
   ·exact S.look x _ hx' (.inl rfl)
   ·exact S.look x _ hx' (.inr rfl)
  show ∃ c,(cellsFrom (C+1) scope.names []++a4o X.env scope.names []).lookup x=some c
  rw[List.lookup_append]
  cases h:(cellsFrom (C+1) scope.names []).lookup x with
  | some c=>exact⟨c,rfl⟩
  | none =>
    rcases key with k | k
    ·obtain⟨c,hc⟩:=a6e X.env scope.names [] x k
     exact⟨c,by rw[hc];rfl⟩
    ·have:=a2H scope.names (C+1) k
     rw[h] at this;cases this
 ·rcases a2w I S C e with ⟨a1,a2⟩ | ⟨a1,a2⟩
  ·exact Nat.le_of_lt (Nat.lt_of_le_of_lt hC a1)
  ·have hf2:ownB scope.names x=true:=hf'
   rw[a1] at hf2;cases hf2
 ·obtain⟨f0,f1,f2,f3,f4,f5⟩:=hf b hb
  obtain⟨o,ho⟩:=hfo b hb
  refine⟨Nat.ne_of_lt (Nat.lt_of_lt_of_le (Heap.lt_size ho) hC),fun x c e=>?_⟩
  rcases a2w I S C e with ⟨a1,a2⟩ | ⟨a1,a2⟩
  ·exact Nat.ne_of_gt (Nat.lt_trans (Nat.lt_of_lt_of_le (Heap.lt_size ho) hC) a1)
  ·exact f4 x c a2
 ·obtain⟨f0,f1,f2,f3,f4,f5⟩:=hf b hb
  have:=(I.ok.bs b o e).1
  rcases f3 with z | z
  ·exact I.ok.noex b o e z
  ·exact absurd (Nat.lt_of_lt_of_le (Heap.lt_size this) z) (Nat.lt_irrefl _)
 ·obtain⟨f0,f1,f2,f3,f4,f5⟩:=hf b hb
  rcases List.mem_cons.mp (I.stkSub b hs) with e | e
  ·exact f1 e
  ·exact f2 e
theorem b3H {fp:List Addr} {C:Addr} {h₁:Heap} {tk:Nat} (I:Inv X pins σ H s) (hf:∀ b∈fp,FpOk X pins H b) (S:BlkScope X N' ix scope) (hC:s.heap.objs.size≤C) (hfo:∀ b∈fp,∃ o,s.heap.get? b=some o)
  (hns:h₁.Ns C (fun _=>none)) (hk:∀ b o,s.heap.get? b=some o→h₁.get? b=some o) (hown:∀ x c,(x,c)∈cellsFrom (C+1) scope.names []→h₁.IsCell c none) :
  Inv (blk X N' scope C s H fp pins) [] (pick ix σ) H { s with heap:=h₁,toks:=tk }:=by
 have nC:∀ b o,s.heap.get? b=some o→b≠C:=fun b o e=>Nat.ne_of_lt (Nat.lt_of_lt_of_le (Heap.lt_size e) hC)
 refine⟨b9F I hf S hC hfo,rfl,I.bare,Un.kept hk,⟨_,hns,fun i x v h1 h2 h3=>?_⟩,fun x c e=>?_,I.hok.fresh hC,fun x c e=>?_,fun p hp=>?_,I.hok.kept hk,?_⟩
 ·obtain⟨j,e1,e2⟩:=b0z h2
  obtain⟨a1,a2,a4,a3⟩:=S.at_ i j x e1 h1
  have kd:=S.frees _ a2 rfl
  have vis:Vis X.env.scope x:=by
   rcases kd with k | k
   ·exact .inr (.inl k)
   ·exact .inr (.inr k)
  obtain⟨m,hn,hl⟩:=I.loc
  obtain⟨u,r,l⟩:=hl j x v a1 e2 vis
  refine⟨u,r,.inr ?_⟩
  have kd':X.env.kindOf x=some .cell∨X.env.kindOf x=some .free:=kd
  rcases l with ⟨k,_⟩ | ⟨k,c,ec,z⟩
  ·rcases kd' with q | q<;>(rw[q] at k;cases k)
  ·refine⟨?_,c,?_,z.keeps hk⟩
   ·show (relabel scope X.env).names.lookup x=some .cell∨(relabel scope X.env).names.lookup x=some .free
    rw[a3];exact kd'
   ·obtain⟨c',hc'⟩:=a6e X.env scope.names [] x a2
    show (cellsFrom (C+1) scope.names []++a4o X.env scope.names []).lookup x=some c
    have hn:(cellsFrom (C+1) scope.names []).lookup x=none:=by
     cases h:(cellsFrom (C+1) scope.names []).lookup x with
     | none=>rfl
     | some c2 =>
       have:=b0B.mpr (a2v _ _ (mem_of_lookup h)).2
       rw[a4] at this;cases this
    rw[List.lookup_append,hn]
    show (a4o X.env scope.names []).lookup x=some c
    rcases a3L X.env scope.names [] x c' hc' with q | ⟨q,q2⟩
    ·cases q
    ·rw[hc',q2,ec];rfl
 ·rcases a2w I S C e with ⟨a1,a2⟩ | ⟨a1,a2⟩
  ·exact⟨none,hown x c (mem_of_lookup a2)⟩
  ·obtain⟨v,z⟩:=I.cell x c a2
   exact⟨v,z.keeps hk⟩
 ·rcases a2w I S C e with ⟨a1,a2⟩ | ⟨a1,a2⟩
  ·exact I.hok.fresh (Nat.le_of_lt (Nat.lt_of_le_of_lt hC a1))
  ·exact I.freeC x c a2
 ·have hp':p∈X.pn++pins:=by
   have:p∈(X.pn++pins)++[]:=hp
   simpa using this
  obtain⟨e,n,ne,nf,d⟩:=I.pin p hp'
  refine⟨hk _ _ e,n,nC _ _ e,fun hb=>?_,d⟩
  rcases List.mem_cons.mp (I.stkSub _ hb) with z | z
  ·exact ne z
  ·exact nf z
 ·show (pick ix σ).length=N'.length
  unfold pick
  rw[List.length_map,S.lenI]
theorem b7u {fp:List Addr} {C D:Addr} {h':Heap} {H':Hp} {σ':St} {s':Shared} {ys:List V} {its:List Value} {cap:Nat} (I:Inv X pins σ H s) (hf:∀ b∈fp,FpOk X pins H b) (hC:s.heap.objs.size≤C) (hD:s.heap.objs.size≤D) (hDC:D≠C)
  (J:Inv (blk X N' scope C s H fp pins) [] σ' H' s') (hDn:H' D=none) (ho:s'.heap.get? D=some { cls:=.type "list",data:=.seq its.toArray cap }) (r:Vals ys its) (hz:ys.length≤sizeLine) (sb:Heap.SameBut C s'.heap h') :
  Inv X pins σ (upd H' D (.lst ys)) { s' with heap:=h' }:=by
 have sb':∀ b o,b≠C→s'.heap.get? b=some o→h'.get? b=some o:=sb.extBut
 have nC:∀ b o,s.heap.get? b=some o→b≠C:=fun b o e=>Nat.ne_of_lt (Nat.lt_of_lt_of_le (Heap.lt_size e) hC)
 have nD:∀ b o,s.heap.get? b=some o→b≠D:=fun b o e=>Nat.ne_of_lt (Nat.lt_of_lt_of_le (Heap.lt_size e) hD)
 have hCn:H' C=none:=J.free
 have u:=J.base
 refine I.call' (ch:=fp) (s':={ s' with heap:=h' }) J.os ⟨fun b o e n hb hx=>?_,fun b o e n hb hx=>?_,fun b o e n hx=>?_,fun b o e hx=>?_,fun b xs e=>?_,fun b o v e=>?_,fun b ps e=>?_⟩ (fun b o e=>?_) J.bare (fun b hb=>?_)
 ·exact sb' _ _ (nC b o e) (u.keep b o e n hb hx)
 ·obtain⟨sl,q⟩:=u.slot b o e n hb hx
  exact⟨sl,sb' _ _ (nC b o e) q⟩
 ·rw[a0m (nD b o e)];exact u.free b o e n hx
 ·obtain⟨o',q⟩:=u.there b o e hx
  exact⟨o',sb' _ _ (nC b o e) q⟩
 ·have q:=u.tups b xs e
  rw[a0m (a0j q hDn)];exact q
 ·have q:=u.frzs b o v e
  rw[a0m (a0j q hDn)];exact q
 ·obtain⟨m,q⟩:=u.tbls b ps e
  exact⟨m,by rw[a0m (a0j q hDn)];exact q⟩
 ·by_cases hb:b=D
  ·subst hb
   rw[a0U] at e;cases e
   exact⟨hz,its,cap,r,sb' _ _ hDC ho⟩
  ·rw[a0m hb] at e
   refine (J.hok b o e).stay (fun c v hc q=>sb' c v ?_ q) (fun c q=>by rw[a0m (a0j q hDn)];exact q) fun c xs q=>by rw[a0m (a0j q hDn)];exact q
   rcases hc with rfl | hc
   ·exact a0j e hCn
   ·exact a0j hc hCn
 ·obtain⟨f0,f1,f2,f3,f4,f5⟩:=hf b hb
  exact⟨f3,f1,f4,f5⟩
noncomputable def b3Y (wi:TI) (ix:List (Option Nat)) (g:TG) (tt:TT) (te:TE):TE:=fun σ H Q=>wi σ H fun J H1=>∃ W:Nat→Nat→List V→Hp→Prop,(∃ m,W 0 m [] H1)∧∀ i m ys H,W i m ys H →
 (J.stop i H∧ys.length≤sizeLine∧∀ p,H p=none→Q (.ref p) (upd H p (.lst ys))) ∨
 (J.go i H∧ys.length < sizeLine∧∀ x H',J.yld i H x H'→g x (pick ix σ) H' fun σ2 H2=>tt σ2 H2 fun ok H3 =>
  if ok=true then te σ2 H3 fun y H4=>∃ m',m' < m∧W (i+1) m' (ys++[y]) H4 else ∃ m',m' < m∧W (i+1) m' ys H3)
noncomputable def PTs (X:Cx) (ifs:List Expr) (t:TT):Prop :=
 ∀ (pins:List (Addr × Obj)) (s:Shared) (σ:St) (H:Hp) (Q:Bool→Hp→Prop),Inv X pins σ H s→t σ H Q →
   wpAny (model X.prog X.w) X.A (forIn ifs true fun c r=>if r=true then do let ok ← isTrue c X.env (eval c X.env);pure (ForInStep.yield ok) else pure (ForInStep.yield r)) (TP X pins σ Q) X.xe s
noncomputable def tYes:TT:=fun _ H Q=>Q true H
theorem b6v:PTs X [] tYes:=fun _ _ _ H _ I h=>wpAny_tests_nil ⟨H,I,h⟩
theorem b6u {c:Expr} {t:TT} (h:PT X c t):PTs X [c] t:=fun pins s σ H Q I hw=>wpAny_tests_one (h pins s σ H Q I hw)
noncomputable def Agr (ix:List (Option Nat)) (σ σ2:St):Prop:=σ2.length=σ.length∧∀ (k j:Nat),ix[k]?=some (some j)→σ2[k]?=σ[k]?
noncomputable def Own (ix:List (Option Nat)) (g:TG):Prop:=∀ (x:V) (σ0 σ:St) (H:Hp) (Q:St→Hp→Prop),Agr ix σ0 σ→g x σ H Q→g x σ H fun σ2 H2=>Q σ2 H2∧Agr ix σ0 σ2
noncomputable def Owns (ix:List (Option Nat)) (g:TGs):Prop:=∀ (x:List V) (σ0 σ:St) (H:Hp) (Q:St→Hp→Prop),Agr ix σ0 σ→g x σ H Q→g x σ H fun σ2 H2=>Q σ2 H2∧Agr ix σ0 σ2
noncomputable def b9M (g:TG):Prop:=∀ (x:V) (σ:St) (H:Hp) (Q Q':St→Hp→Prop),(∀ σ H,Q σ H→Q' σ H)→g x σ H Q→g x σ H Q'
theorem a7p {ix:List (Option Nat)} {i:Nat} (h:ix[i]?=some none):Own ix (a8N i):=by
 intro x σ0 σ H Q a q
 refine⟨q,by rw[List.length_set];exact a.1,fun k j hk=>?_⟩
 rw[List.getElem?_set_ne]
 ·exact a.2 k j hk
 ·rintro rfl
  rw[h] at hk;cases hk
theorem a6K {i:Nat}:b9M (a8N i):=fun x σ H Q Q' h q=>h _ _ q
theorem b4x {ix:List (Option Nat)}:Owns ix gNil:=by
 intro x σ0 σ H Q a q
 exact⟨q.1,q.2,a⟩
theorem a8p {ix:List (Option Nat)} {t:TG} {u:TGs} (m:b9M t) (h1:Own ix t) (h2:Owns ix u):Owns ix (b4U t u):=by
 intro x σ0 σ H Q a q
 obtain⟨v,r,e,q⟩:=q
 exact⟨v,r,e,m _ _ _ _ _ (fun σ1 H1 q1=>h2 _ σ0 _ _ _ q1.2 q1.1) (h1 _ σ0 _ _ _ a q)⟩
theorem b6M {ix:List (Option Nat)} {K:PySem.W.Frag} {n:Nat} {t:TGs} (h:Owns ix t):Own ix (gTup K n t):=by
 intro x σ0 σ H Q a q
 obtain⟨p,xs,e1,e2,e3,q⟩:=q
 exact⟨p,xs,e1,e2,e3,h _ σ0 _ _ _ a q⟩
theorem a8V {elt iter tg:Expr} {ifs:List Expr} {pos posc:Pos} {wi:TI} {g:TG} {tt:TT} {te:TE} (use:Option (Value→Sem Unit)) (QQ:Value→Shared→Prop) (hc:X.calm=true) (hi:PI X tg iter wi) (S:BlkScope X N' ix scope) (ow:Own ix g)
  (hg:∀ C s H fp pins,PG (blk X N' scope C s H fp pins) tg g) (ht:∀ C s H fp pins,PTs (blk X N' scope C s H fp pins) ifs tt) (he:∀ C s H fp pins,PE (blk X N' scope C s H fp pins) elt te)
  (hs:∀ x,foldedSetIterable iter X.env x=pure x) (pins:List (Addr × Obj)) (s:Shared) (σ:St) (H:Hp) (Q:VK) (I:Inv X pins σ H s) (h:b3Y wi ix g tt te σ H Q)
  (hpost:∀ (C D:Addr) (H5:Hp) (s4:Shared) (m:Str→Option Value),s4.heap.Ns C m→FpOk X pins H5 C→(∀ h',Heap.SameBut C s4.heap h'→Inv X pins σ H5 { s4 with heap:=h' })→Q (.ref D) H5 →
   compPost (model X.prog X.w) X.A X.xe use QQ (.ref D) C (.ok .next) s4) :
  wpAny (model X.prog X.w) X.A (comprehension (.ListComp elt [⟨tg,iter,ifs,0⟩] scope pos) scope X.env posc (newList []) false (eval iter X.env) use) QQ X.xe s:=by
 refine wpAny_comprehension_free (use:=use) rfl hs (a7Q scope X.env fun y hy hk=>I.ok.has y.1 (S.frees y hy hk)) S.kind S.locs (thn (hi pins s σ H _ I h) fun v s1 h1=>thn h1 fun itv s2 h2=>?_)
 obtain⟨it,fp,tn,J,H2,e,I2,T,st2,f2,W,⟨m0,w0⟩,turn⟩:=h2
 subst e
 have hfo:∀ b∈fp,∃ o,s2.heap.get? b=some o:=fun b hb=>let ⟨o,e,_⟩:=T.obj _ _ st2 b hb;⟨o,e⟩
 refine wpAny_newObj_type (a4I (fun h₁ eh₁=>?_))
 dsimp only at eh₁⊢
 generalize hH2:s2.heap.push { cls:=.type "list",dict:=none,data:=.seq ([]:List Value).toArray }=Hp2 at eh₁⊢
 have hC:Hp2.objs.size=s2.heap.objs.size+1:=by rw[← hH2,Heap.size_push]
 have old1:∀ b o,Hp2.get? b=some o→h₁.get? b=some o:=fun b o e=>by rw[eh₁];exact pushCells_keeps _ _ _ _ (Heap.get?_push_of_some _ e)
 have hns:h₁.Ns Hp2.objs.size (fun _=>none):=by rw[eh₁];exact (Heap.Ns.new Hp2 (.type "dict")).keeps (pushCells_keeps _ _)
 have hown:∀ x c,(x,c)∈cellsFrom (Hp2.objs.size+1) scope.names []→h₁.IsCell c none:=fun x c hm=>by
  have ok:=cellsFrom_ok scope.names (Hp2.push { cls:=.type "dict",data:=.dict #[] }) (Hp2.objs.size+1) [] ⟨fun _ _ hm=>(nomatch hm),List.Pairwise.nil⟩ (by rw[Heap.size_push];exact Nat.le_refl _)
  rw[Heap.size_push] at ok
  rw[eh₁]
  exact (ok.empty x c hm).1
 generalize hCC:Hp2.objs.size=C at hns hown hC⊢
 generalize hDD:s2.heap.objs.size=D at hC
 have hCge:s2.heap.objs.size≤C:=by rw[hDD,hC];exact Nat.le_succ _
 have hDge:s2.heap.objs.size≤D:=Nat.le_of_eq hDD
 have hDC:D≠C:=by rw[hC];exact Nat.ne_of_lt (Nat.lt_succ_self _)
 have hDlt:D < C:=by rw[hC];exact Nat.lt_succ_self _
 have old:∀ b o,s2.heap.get? b=some o→h₁.get? b=some o:=fun b o e=>old1 b o (hH2▸Heap.get?_push_of_some _ e)
 have hacc:h₁.get? D=some { cls:=.type "list",data:=.seq ([]:List Value).toArray 0 }:=old1 _ _ (hH2▸hDD▸Heap.get?_push_size _ rfl)
 have stat:∀ {H':Hp},(∀ b∈fp,H' b=none)→∀ b∈fp,FpOk (blk X N' scope C s2 H2 fp pins) [] H' b:=fun hn b hb=>by
  obtain⟨f0,f1,f2,f3,f4,f5⟩:=f2 b hb
  obtain⟨o,ho⟩:=hfo b hb
  refine⟨hn b hb,Nat.ne_of_lt (Nat.lt_of_lt_of_le (Heap.lt_size ho) hCge),fun z=>?_,.inl hb,fun x c e=>?_,fun p hp=>?_⟩
  ·rcases List.mem_cons.mp (I2.stkSub _ z) with e | e
   ·exact f1 e
   ·exact f2 e
  ·rcases a2w I2 S C e with ⟨a1,a2⟩ | ⟨a1,a2⟩
   ·exact Nat.ne_of_gt (Nat.lt_trans (Nat.lt_of_lt_of_le (Heap.lt_size ho) hCge) a1)
   ·exact f4 x c a2
  ·have:p∈(X.pn++pins)++[]:=hp
   exact f5 p (by simpa using this)
 have hDs:D ∉ (blk X N' scope C s2 H2 fp pins).fs:=fun hb=>by
  rcases List.mem_cons.mp (I2.stkSub _ hb) with e | e
  ·rw[e] at hDge
   exact absurd (Nat.lt_of_lt_of_le I2.lt hDge) (Nat.lt_irrefl _)
  ·exact I2.nofs hDge e
 have loop:∀ s₃:Shared,s₃={ s2 with heap:=h₁ } →
   codeAny (model X.prog X.w) X.A (.compLoop (.ListComp elt [⟨tg,iter,ifs,0⟩] scope pos) 0 (.ref it) (.ref D) (compEnvC scope (cellsFrom (C+1) scope.names []++a4o X.env scope.names []) C X.env))
    (compPost (model X.prog X.w) X.A X.xe use QQ (.ref D) C) s₃:=by
  rintro s₃ rfl
  refine a4e (fun n s'=>∃ i ys its cap H',Inv (blk X N' scope C s2 H2 fp pins) [] (pick ix σ) H' s'∧tn i s'.heap∧(∀ b∈fp,H' b=none)∧H' D=none ∧
    s'.heap.get? D=some { cls:=.type "list",data:=.seq (its:List Value).toArray cap }∧Vals ys its∧W i n ys H') ?_ m0
   ⟨0,[],[],0,H2,b3H I2 f2 S hCge hfo hns old hown,T.keep _ _ _ st2 fun b _ o e=>old b o e,fun b hb=>(f2 b hb).1,I2.hok.fresh hDge,hacc,.nil,w0⟩
  rintro n s3 ⟨i,ys,its,cap,H3,I3,st3,fr3,hD3,ho3,r3,w3⟩
  have I3d:Inv (blk X N' scope C s2 H2 fp pins) [(D,{ cls:=.type "list",data:=.seq its.toArray cap })] (pick ix σ) H3 s3:=I3.pins_of fun p hp=>by
   have e:p=(D,{ cls:=.type "list",data:=.seq its.toArray cap }):=by simpa using hp
   subst e
   exact⟨ho3,hD3,hDC,hDs,fun v z=>nomatch z⟩
  have statD:∀ {H':Hp},(∀ b∈fp,H' b=none)→∀ b∈fp,FpOk (blk X N' scope C s2 H2 fp pins) [(D,({ cls:=.type "list",data:=.seq its.toArray cap }:Obj))] H' b:=fun hn b hb=>by
   obtain⟨f0,f1,f2,f3,f4,f5⟩:=stat hn b hb
   obtain⟨o,ho⟩:=hfo b hb
   refine⟨f0,f1,f2,f3,f4,fun p hp=>?_⟩
   rcases List.mem_append.mp hp with z | z
   ·exact f5 p (List.mem_append_left _ z)
   ·have e:p=(D,({ cls:=.type "list",data:=.seq its.toArray cap }:Obj)):=by simpa using z
    subst e
    exact Nat.ne_of_gt (Nat.lt_of_lt_of_le (Heap.lt_size ho) hDge)
  rcases turn i n ys H3 w3 with ⟨stop,hz,qn⟩ | ⟨go,hz,step⟩
  ·refine wpAny_noRaise (thn (T.done (blk X N' scope C s2 H2 fp pins) rfl rfl rfl hc i _ s3 (pick ix σ) H3 (fun _ _=>False) I3d (statD fr3) st3 stop) fun r s4 ⟨hr,I4⟩=>?_)
   subst hr
   obtain⟨e4,n4,_⟩:=I4.pin (D,_) (List.mem_append_right _ (List.mem_singleton.mpr rfl))
   obtain⟨m,hn,_⟩:=id I4.loc
   have hC4:H3 C=none:=I4.free
   exact hpost C D _ _ m hn (I2.fpOk hCge (by rw[a0m (Ne.symm hDC)];exact hC4)) (fun h' sb=>b7u I2 f2 hCge hDge hDC (Inv.unpinned (pl:=[(D,_)]) (pins:=[]) I4) n4 e4 r3 hz sb) (qn D n4)
  ·refine wpAny_noRaise (thn (T.item (blk X N' scope C s2 H2 fp pins) rfl rfl rfl hc i _ s3 (pick ix σ) H3 (fun _ _=>False) I3d (statD fr3) st3 go) fun r s4 ⟨u,hr,h4⟩=>?_)
   subst hr
   refine wpAny_noRaise (thn h4 fun _ s5 ⟨x,H5,I5,r5,y5,st5,fr5⟩=>?_)
   have I5':=I5.pinned (statD fr5) (T.obj _ _ st5)
   have again:∀ {σ7:St} {H7:Hp} {s7:Shared},Inv (blk X N' scope C s2 H2 fp pins) ([(D,({ cls:=.type "list",data:=.seq its.toArray cap }:Obj))]++a6y fp s5.heap) σ7 H7 s7 →
     H7 D=none∧s7.heap.get? D=some { cls:=.type "list",data:=.seq its.toArray cap }∧tn (i+1) s7.heap∧∀ b∈fp,H7 b=none:=fun {σ7 H7 s7} I7=>by
    obtain⟨e7,n7,_⟩:=I7.pin (D,_) (List.mem_append_right _ (List.mem_append_left _ (List.mem_singleton.mpr rfl)))
    refine⟨n7,e7,T.keep _ _ _ st5 fun b hb o e=>(I7.pin (b,o) (List.mem_append_right _ (List.mem_append_right _ (a3X hb e)))).1,fun b hb=>?_⟩
    obtain⟨o,e,d⟩:=T.obj _ _ st5 b hb
    exact (I7.pin (b,o) (List.mem_append_right _ (List.mem_append_right _ (a3X hb e)))).2.1
   have forget:∀ {σ7:St} {H7:Hp} {s7:Shared},Inv (blk X N' scope C s2 H2 fp pins) ([(D,({ cls:=.type "list",data:=.seq its.toArray cap }:Obj))]++a6y fp s5.heap) σ7 H7 s7 →
     (∀ (k:Nat) v,(pick ix σ)[k]?=some (some v)→σ7[k]?=some (some v))→σ7.length=(pick ix σ).length→Inv (blk X N' scope C s2 H2 fp pins) [] (pick ix σ) H7 s7:=fun {σ7 H7 s7} I7 hk hl =>
    (I7.pins_of (pins':=[]) fun _ z=>nomatch z).weak hl.symm hk
   refine wpAny_noRaise (thn (hg C s2 H2 fp pins _ s5 (pick ix σ) H5 x u _ I5' r5 (ow _ _ _ _ _ ⟨rfl,fun _ _ _=>rfl⟩ (step x H5 y5))) fun _ s6 ⟨σ6,H6,I6,q6,l6,k6⟩=>?_)
   have back:∀ (k:Nat) v,(pick ix σ)[k]?=some (some v)→σ6[k]?=some (some v):=fun k v e=>by
    obtain⟨j,e1,_⟩:=b0z e
    rw[k6 k j e1];exact e
   refine wpAny_noRaise (thn (ht C s2 H2 fp pins _ s6 σ6 H6 _ I6 q6) fun ok s7 ⟨H7,I7,q7⟩=>?_)
   cases ok with
   | false =>
     rw[if_neg Bool.false_ne_true]
     rw[if_neg Bool.false_ne_true] at q7
     obtain⟨m',hm,w7⟩:=q7
     obtain⟨a1,a2,a3,a4⟩:=again I7
     exact⟨m',hm,i+1,ys,its,cap,H7,forget I7 back l6,a3,a4,a1,a2,r3,w7⟩
   | true =>
     rw[if_pos rfl]
     rw[if_pos rfl] at q7
     refine wpAny_noRaise (thn (he C s2 H2 fp pins _ s7 σ6 H7 _ I7 q7) fun z s8 ⟨y,H8,I8,r8,m',hm,w8⟩=>?_)
     obtain⟨a1,a2,a3,a4⟩:=again I8
     have hl:=r3.length
     refine wpAny_noRaise (wpAny_list_append_plain ⟨_,a2⟩ (fun h9 ⟨cap9,p9⟩ sb9=>?_) (by rw[List.size_toArray,← hl];exact Nat.le_of_lt hz))
     have I9:Inv (blk X N' scope C s2 H2 fp pins) [] (pick ix σ) H8 { s8 with heap:=h9 } :=
      (forget I8 back l6).turned (t':=s8.toks) (it:=D) (fun b o hb e=>sb9.extBut b o hb e) a1 hDC (.inr hDge) (fun x c e=>by
       rcases a2w I2 S C e with ⟨a1,a2⟩ | ⟨a1,a2⟩
       ·exact Nat.ne_of_gt (Nat.lt_trans hDlt a1)
       ·obtain⟨v,z⟩:=I2.cell x c a2
        exact Nat.ne_of_lt (Nat.lt_of_lt_of_le z.lt hDge)) (fun p hp=>by
       have hp':p∈(X.pn++pins)++[]:=hp
       exact Nat.ne_of_lt (Nat.lt_of_lt_of_le (Heap.lt_size (I2.pin p (by simpa using hp')).1) hDge))
     refine⟨m',hm,i+1,ys++[y],its++[z],cap9,H8,I9,?_,a4,a1,?_,r3.append (.cons r8 .nil),w8⟩
     ·refine T.keep _ _ _ a3 fun b hb o e=>sb9.extBut b o ?_ e
      obtain⟨o',ho'⟩:=hfo b hb
      exact Nat.ne_of_lt (Nat.lt_of_lt_of_le (Heap.lt_size ho') hDge)
     ·rw[p9];simp
 exact codeAny_compStart_list (loop _ rfl) (T.self _ _ _ _ _ (T.keep _ _ _ st2 fun b _ o e=>old b o e) (loop _ rfl))
theorem b6H {elt iter tg:Expr} {ifs:List Expr} {pos:Pos} {wi:TI} {g:TG} {tt:TT} {te:TE} (hc:X.calm=true) (hi:PI X tg iter wi) (S:BlkScope X N' ix scope) (ow:Own ix g)
  (hg:∀ C s H fp pins,PG (blk X N' scope C s H fp pins) tg g) (ht:∀ C s H fp pins,PTs (blk X N' scope C s H fp pins) ifs tt) (he:∀ C s H fp pins,PE (blk X N' scope C s H fp pins) elt te)
  (hs:∀ x,foldedSetIterable iter X.env x=pure x:=by intro _;rfl) :
  PE X (.ListComp elt [⟨tg,iter,ifs,0⟩] scope pos) (b3Y wi ix g tt te):=by
 intro pins s σ H Q I h
 rw[eval_ListComp]
 exact a8V none (EP X pins σ Q) hc hi S ow hg ht he hs pins s σ H Q I h fun C D H5 s4 m hn _ inv q=>⟨m,hn,fun h' sb=>⟨.ref D,H5,inv h' sb,rfl,q⟩⟩
theorem b6z {i:Nat} {x:Str} {elt iter tg:Expr} {ifs:List Expr} {pos pos' spos:Pos} {wi:TI} {g:TG} {tt:TT} {te:TE} (hN:X.N.Nodup) (hi':X.N[i]?=some x) (hx:Loc X.env.scope x) (hc:X.calm=true) (hi:PI X tg iter wi) (S:BlkScope X N' ix scope) (ow:Own ix g)
  (hg:∀ C s H fp pins,PG (blk X N' scope C s H fp pins) tg g) (ht:∀ C s H fp pins,PTs (blk X N' scope C s H fp pins) ifs tt) (he:∀ C s H fp pins,PE (blk X N' scope C s H fp pins) elt te)
  (hsw:swapsWith (.ListComp elt [⟨tg,iter,ifs,0⟩] scope pos) (some (.Name x pos')) spos.line X.env=pure true)
  (hs:∀ x,foldedSetIterable iter X.env x=pure x:=by intro _;rfl) (hf:X.fn x=true∨X.env.scope.names.lookup x=some .local:=by first | exact .inl rfl | exact .inr rfl | assumption) :
  PS X (.Assign [.Name x pos'] (.ListComp elt [⟨tg,iter,ifs,0⟩] scope pos) spos) (tAsg (b3Y wi ix g tt te) (a8N i)):=by
 intro pins s σ H D I h
 rw[exec_Assign_Name_used _ _ _ _ hsw]
 refine wpAny_bind (wpAny_standAt (wpAny_bind ?_))
 show wpAny _ X.A (do let _ ← comprehension (.ListComp elt [⟨tg,iter,ifs,0⟩] scope pos) scope X.env _ (newList []) false (eval iter X.env) (some (assign (.Name x pos') X.env))) _ _ s
 refine wpAny_bind (thn (a8V (some (assign (.Name x pos') X.env)) (fun _ s'=>SP X pins D .next s') hc hi S ow hg ht he hs pins s σ H _ I h ?_) fun _ s' hq=>wpAny_pure (wpAny_pure hq))
 intro C D2 H5 s4 m hn fp inv q
 have I5:Inv X pins σ H5 s4:=inv s4.heap (Heap.SameBut.refl _ _)
 refine wpAny_assign_Name (a8e I5 hN hi' hx (v:=.ref D2) rfl (fun s5 I6 ⟨a,sb,ha⟩=>?_) hf)
 obtain⟨f0,f1,f2,f3,f4,f5⟩:=fp
 have hac:a≠C:=by
  rcases ha with rfl | ha
  ·exact Ne.symm f1
  ·exact f4 x a ha
 refine⟨m,hn.sameBut sb (Ne.symm hac),fun h' sb'=>⟨_,H5,I6.turned (t':=s5.toks) (it:=C) (fun b o hb e=>sb'.extBut b o hb e) f0 f1 f3 f4 f5,q⟩⟩
noncomputable def a7k (scope outer:Scope):Scope :=
 { scope with names:=scope.names.map fun (n,k)=>if (k == .free && outer.kind == .function && outer.names.lookup n == some .cell) then (n,.cell) else (n,k) }
theorem a8m {scope:Scope} {env:Env} {x:Str} {k:NameKind} (h:(relabel scope env).names.lookup x=some k) (hk:k=.cell∨k=.free):(x,NameKind.free)∈scope.names∨(x,NameKind.cell)∈scope.names:=by
 have hm:(x,k)∈(relabel scope env).names:=PySem.mem_of_lookup h
 unfold relabel at hm
 obtain⟨⟨n,k0⟩,h1,h2⟩:=List.mem_map.mp hm
 dsimp only at h2
 split at h2
 ·rename_i hc
  have e1:n=x:=(Prod.mk.inj h2).1
  subst e1
  have:k0=NameKind.free:=by
   simp only[Bool.and_eq_true,beq_iff_eq] at hc
   exact hc.1.1
  rw[this] at h1;exact .inl h1
 ·have e1:=Prod.mk.inj h2
  obtain⟨rfl,rfl⟩:=e1
  rcases hk with rfl | rfl
  ·exact .inr h1
  ·exact .inl h1
noncomputable def blkB (outer:Scope) (N N':List Str) (ix:List (Option Nat)) (scope:Scope):Bool :=
 decide (scope.kind=.function) && decide (outer.kind=.function) && scope.names.all (fun y=>decide (y.2=.local→scope.names.lookup y.1=some .local)) &&
 scope.names.all (fun y=>decide (y.2=.free→(outer.names.lookup y.1=some .cell∨outer.names.lookup y.1=some .free))) && decide (ix.length=N'.length) &&
 (List.range ix.length).all fun i=>match ix[i]?,N'[i]? with
  | some (some j),some x=>decide (N[j]?=some x) && decide ((x,NameKind.free)∈scope.names) && !ownB scope.names x &&
    decide ((a7k scope outer).names.lookup x=outer.names.lookup x)
  | _,_=>true
theorem a0w {X:Cx} {outer scope:Scope} {N N':List Str} {ix:List (Option Nat)} (h:blkB outer N N' ix scope=true) (ho:X.env.scope=outer) (hN:X.N=N):BlkScope X N' ix scope:=by
 unfold blkB at h
 simp only[Bool.and_eq_true,decide_eq_true_eq,List.all_eq_true] at h
 obtain⟨⟨⟨⟨⟨h1,h2⟩,h4⟩,h5⟩,h6⟩,h7⟩:=h
 subst ho hN
 refine⟨h1,h4,h5,fun x k hl hk=>a8m hl hk,h6,fun i j x e1 e2=>?_⟩
 have hi:i < ix.length:=(List.getElem?_eq_some_iff.mp e1).1
 have q:=h7 i (List.mem_range.mpr hi)
 rw[e1,e2] at q
 simp only[Bool.and_eq_true,decide_eq_true_eq,Bool.not_eq_true'] at q
 exact⟨q.1.1.1,q.1.1.2,q.1.2,q.2⟩
theorem a5f {X:Cx} {outer scope0 scope:Scope} {N N' N0:List Str} {ix:List (Option Nat)} {C:Addr} {s:Shared} {H:Hp} {fp:List Addr} {pins:List (Addr × Obj)} (h:blkB (a7k scope0 outer) N N' ix scope=true) (ho:X.env.scope=outer) (hN:N0=N):BlkScope (blk X N0 scope0 C s H fp pins) N' ix scope :=
 a0w (outer:=a7k scope0 outer) h (by rw[← ho];rfl) hN
theorem PE.imp {X:Cx} {e:Expr} {t t':TE} (h:PE X e t) (f:∀ σ H Q,t' σ H Q→t σ H Q):PE X e t':=fun pins s σ H Q I q=>h pins s σ H Q I (f σ H Q q)
theorem PT.imp {X:Cx} {e:Expr} {t t':TT} (h:PT X e t) (f:∀ σ H Q,t' σ H Q→t σ H Q):PT X e t':=fun pins s σ H Q I q=>h pins s σ H Q I (f σ H Q q)
theorem PA.imp {X:Cx} {e:List Expr} {t t':TA} (h:PA X e t) (f:∀ σ H Q,t' σ H Q→t σ H Q):PA X e t':=fun pos pins s σ H Q I q=>h pos pins s σ H Q I (f σ H Q q)
theorem PS.imp {X:Cx} {e:Stmt} {t t':TS} (h:PS X e t) (f:∀ D σ H,t' D σ H→t D σ H):PS X e t':=fun pins s σ H D I q=>h pins s σ H D I (f D σ H q)
theorem PSs.imp {X:Cx} {e:List Stmt} {t t':TS} (h:PSs X e t) (f:∀ D σ H,t' D σ H→t D σ H):PSs X e t':=fun pins s σ H D I q=>h pins s σ H D I (f D σ H q)
inductive T where
 | non | bl (b:Bool) | int (i:Int) | str (x:Str) | tup (ts:List T) | adr (a:Addr)
 /-- a list that never changes (the script;a module's own) -/
 | rd (ts:List T)
 /-- a dict with int keys that never changes behind its display -/
 | dic (ks:List Int) (ts:List T)
noncomputable def FzL (K:PySem.W.Frag) (H:Hp) (a:Addr) (xs:List V):Prop :=
 (∃ o,H a=some (.frz o (.lst xs))) ∨
  ∃ (o:Obj) (its:Array Value) (n:Nat),K.lookup a=some o∧o.cls=.type "list"∧o.dict=none∧o.data=.seq its n∧its.size≤sizeLine∧Vals xs its.toList
theorem FzL.sq {K:PySem.W.Frag} {H:Hp} {a:Addr} {xs:List V} (h:FzL K H a xs):SqL K H a xs:=by
 rcases h with ⟨o,h⟩ | h
 ·exact .inl (.inr ⟨o,h⟩)
 ·exact .inr h
mutual
noncomputable def Rep (K:PySem.W.Frag) (H:Hp):V→T→Prop
 | v,.non=>v=.non
 | v,.bl b=>v=.bl b
 | v,.int i=>v=.int i
 | v,.str x=>v=.str x
 | v,.adr a=>v=.ref a
 | v,.tup ts=>∃ a xs,v=.ref a∧SqT K H a xs∧Reps K H xs ts
 | v,.rd ts=>∃ a xs,v=.ref a∧FzL K H a xs∧Reps K H xs ts
 | v,.dic _ _=>False
noncomputable def Reps (K:PySem.W.Frag) (H:Hp):List V→List T→Prop
 | vs,[]=>vs=[]
 | vs,t :: ts=>∃ v r,vs=v :: r∧Rep K H v t∧Reps K H r ts
end
structure Kp (K:PySem.W.Frag) (H H':Hp):Prop where
 tup:∀ a xs,SqT K H a xs→SqT K H' a xs
 frz:∀ a o u,H a=some (.frz o u)→H' a=some (.frz o u)
theorem Kp.refl {K:PySem.W.Frag} {H:Hp}:Kp K H H:=⟨fun _ _ h=>h,fun _ _ _ h=>h⟩
theorem Kp.trans {K:PySem.W.Frag} {H H1 H2:Hp} (a:Kp K H H1) (b:Kp K H1 H2):Kp K H H2:=⟨fun _ _ h=>b.tup _ _ (a.tup _ _ h),fun _ _ _ h=>b.frz _ _ _ (a.frz _ _ _ h)⟩
structure KpW (K:PySem.W.Frag) (H H':Hp):Prop where
 tup:∀ a xs,SqT K H a xs→SqT K H' a xs
 frz:∀ a o u,H a=some (.frz o u)→H' a=some (.frz o u)
theorem Kp.w {K:PySem.W.Frag} {H H':Hp} (k:Kp K H H'):KpW K H H':=⟨k.tup,k.frz⟩
theorem KpW.fz {K:PySem.W.Frag} {H H':Hp} {a:Addr} {xs:List V} (k:KpW K H H') (h:FzL K H a xs):FzL K H' a xs:=by
 rcases h with ⟨o,h⟩ | h
 ·exact .inl ⟨o,k.frz _ _ _ h⟩
 ·exact .inr h
mutual
theorem Rep.kw {K:PySem.W.Frag} {H H':Hp} (k:KpW K H H'):∀ (v:V) (t:T),Rep K H v t→Rep K H' v t
 | v,.non,h=>h
 | v,.bl b,h=>h
 | v,.int i,h=>h
 | v,.str x,h=>h
 | v,.adr a,h=>h
 | v,.tup ts,h=>by
   unfold Rep at h⊢
   obtain⟨a,xs,e,h1,h2⟩:=h
   exact⟨a,xs,e,k.tup _ _ h1,Reps.kw k xs ts h2⟩
 | v,.rd ts,h=>by
   unfold Rep at h⊢
   obtain⟨a,xs,e,h1,h2⟩:=h
   exact⟨a,xs,e,k.fz h1,Reps.kw k xs ts h2⟩
 | v,.dic ks ts,h=>by
   unfold Rep at h;exact h.elim
theorem Reps.kw {K:PySem.W.Frag} {H H':Hp} (k:KpW K H H'):∀ (vs:List V) (ts:List T),Reps K H vs ts→Reps K H' vs ts
 | vs,[],h=>h
 | vs,t :: ts,h=>by
   unfold Reps at h⊢
   obtain⟨v,r,e,h1,h2⟩:=h
   exact⟨v,r,e,Rep.kw k v t h1,Reps.kw k r ts h2⟩
end
theorem Rep.kp {K:PySem.W.Frag} {H H':Hp} (k:Kp K H H') (v:V) (t:T) (h:Rep K H v t):Rep K H' v t:=Rep.kw k.w v t h
theorem Reps.kp {K:PySem.W.Frag} {H H':Hp} (k:Kp K H H') (vs:List V) (ts:List T) (h:Reps K H vs ts):Reps K H' vs ts:=Reps.kw k.w vs ts h
section
variable {K:PySem.W.Frag} {H:Hp}
theorem Reps.cons {v:V} {t:T} {vs:List V} {ts:List T} (h:Rep K H v t) (r:Reps K H vs ts):Reps K H (v :: vs) (t :: ts):=by
 unfold Reps;exact⟨v,vs,rfl,h,r⟩
theorem Reps.nil:Reps K H [] []:=by unfold Reps;rfl
theorem Reps.length:∀ {vs:List V} {ts:List T},Reps K H vs ts→vs.length=ts.length
 | vs,[],h=>by unfold Reps at h;subst h;rfl
 | vs,t :: ts,h=>by
   unfold Reps at h
   obtain⟨v,r,rfl,_,h2⟩:=h
   rw[List.length_cons,List.length_cons,Reps.length h2]
theorem Reps.get:∀ {vs:List V} {ts:List T} {i:Nat} {t:T},Reps K H vs ts→ts[i]?=some t→∃ v,vs[i]?=some v∧Rep K H v t
 | _,[],_,_,_,e=>by simp at e
 | vs,t :: ts,0,u,h,e=>by
   unfold Reps at h
   obtain⟨v,r,rfl,h1,_⟩:=h
   simp at e;subst e
   exact⟨v,rfl,h1⟩
 | vs,t :: ts,i+1,u,h,e=>by
   unfold Reps at h
   obtain⟨v,r,rfl,_,h2⟩:=h
   obtain⟨w,q1,q2⟩:=Reps.get (i:=i) h2 (by simpa using e)
   exact⟨w,by simpa using q1,q2⟩
theorem Reps.append:∀ {vs:List V} {ts:List T} {ws:List V} {us:List T},Reps K H vs ts→Reps K H ws us→Reps K H (vs++ws) (ts++us)
 | vs,[],_,_,h,g=>by unfold Reps at h;subst h;exact g
 | vs,t :: ts,_,_,h,g=>by
   unfold Reps at h
   obtain⟨v,r,rfl,h1,h2⟩:=h
   exact .cons h1 (Reps.append h2 g)
theorem Reps.take:∀ {vs:List V} {ts:List T} (n:Nat),Reps K H vs ts→Reps K H (vs.take n) (ts.take n)
 | _,_,0,_=>.nil
 | vs,[],n+1,h=>by unfold Reps at h;subst h;exact .nil
 | vs,t :: ts,n+1,h=>by
   unfold Reps at h
   obtain⟨v,r,rfl,h1,h2⟩:=h
   exact .cons h1 (Reps.take n h2)
theorem Reps.drop:∀ {vs:List V} {ts:List T} (n:Nat),Reps K H vs ts→Reps K H (vs.drop n) (ts.drop n)
 | _,_,0,h=>h
 | vs,[],n+1,h=>by unfold Reps at h;subst h;exact .nil
 | vs,t :: ts,n+1,h=>by
   unfold Reps at h
   obtain⟨v,r,rfl,h1,h2⟩:=h
   exact Reps.drop n h2
theorem Reps.set {v:V} {t:T} (g:Rep K H v t):∀ {vs:List V} {ts:List T} (n:Nat),Reps K H vs ts→Reps K H (vs.set n v) (ts.set n t)
 | vs,[],n,h=>by unfold Reps at h;subst h;exact .nil
 | vs,u :: ts,0,h=>by
   unfold Reps at h
   obtain⟨v,r,rfl,h1,h2⟩:=h
   exact .cons g h2
 | vs,u :: ts,n+1,h=>by
   unfold Reps at h
   obtain⟨v,r,rfl,h1,h2⟩:=h
   exact .cons h1 (Reps.set g n h2)
theorem Reps.ints:∀ {vs:List V} {ns:List Int},Reps K H vs (ns.map T.int)→vs=ns.map V.int
 | vs,[],h=>by unfold Reps at h;exact h
 | vs,n :: ns,h=>by
   have h':Reps K H vs (T.int n :: ns.map T.int):=h
   unfold Reps at h'
   obtain⟨v,r,rfl,h1,h2⟩:=h'
   unfold Rep at h1
   subst h1
   rw[List.map_cons,Reps.ints h2]
theorem Reps.of_ints:∀ (ns:List Int),Reps K H (ns.map V.int) (ns.map T.int)
 | []=>.nil
 | n :: ns=>.cons (by unfold Rep;rfl) (Reps.of_ints ns)
end
inductive MO where
 /-- a list that may be written -/
 | lst (ts:List T)
 /-- a dict that may be written: keys whole numbers or texts -/
 | dk (kvs:List (Key × T))
 /-- the same,keys tuples of such -/
 | dt (kvs:List (List Key × T))
 /-- the same,walked: it may not be written any more -/
 | fz (kvs:List (List Key × T))
 /-- a dict with keys whole numbers or texts that may not be written any more (a walk may go over it) -/
 | fk (kvs:List (Key × T))
noncomputable abbrev MH:=Addr→Option MO
noncomputable def updM (M:MH) (a:Addr) (o:MO):MH:=fun b=>if b=a then some o else M b
theorem a0c {M:MH} {a:Addr} {o:MO}:updM M a o a=some o:=if_pos rfl
theorem a0n {M:MH} {a b:Addr} {o:MO} (h:b≠a):updM M a o b=M b:=if_neg h
noncomputable def Sub (M M':MH):Prop:=∀ a o,M a=some o→M' a=some o
theorem Sub.refl {M:MH}:Sub M M:=fun _ _ h=>h
theorem Sub.trans {M M1 M2:MH} (a:Sub M M1) (b:Sub M1 M2):Sub M M2:=fun _ _ h=>b _ _ (a _ _ h)
theorem Sub.new {M:MH} {p:Addr} {o:MO} (h:M p=none):Sub M (updM M p o):=fun b u q=>by
 rw[a0n]
 ·exact q
 ·rintro rfl
  rw[h] at q;cases q
noncomputable def KRep {κ:Type} (K:PySem.W.Frag) (H:Hp):List (κ × V)→List (κ × T)→Prop
 | [],[]=>True
 | p :: r,q :: u=>p.1=q.1∧Rep K H p.2 q.2∧KRep K H r u
 | _,_=>False
theorem KRep.kp {κ:Type} {K:PySem.W.Frag} {H H':Hp} (k:Kp K H H'):∀ {xs:List (κ × V)} {kvs:List (κ × T)},KRep K H xs kvs→KRep K H' xs kvs
 | [],[],_=>trivial
 | p :: r,q :: u,h=>⟨h.1,Rep.kp k _ _ h.2.1,KRep.kp k h.2.2⟩
 | [],q :: u,h=>h.elim
 | p :: r,[],h=>h.elim
theorem KRep.length {κ:Type} {K:PySem.W.Frag} {H:Hp}:∀ {xs:List (κ × V)} {kvs:List (κ × T)},KRep K H xs kvs→xs.length=kvs.length
 | [],[],_=>rfl
 | p :: r,q :: u,h=>by rw[List.length_cons,List.length_cons,KRep.length h.2.2]
 | [],q :: u,h=>h.elim
 | p :: r,[],h=>h.elim
noncomputable def MOk (K:PySem.W.Frag) (H:Hp) (a:Addr):MO→Prop
 | .lst ts=>∃ xs,H a=some (.lst xs)∧Reps K H xs ts
 | .dk kvs=>∃ xs,H a=some (.dK xs)∧KRep K H xs kvs
 | .dt kvs=>∃ xs,H a=some (.dT xs)∧KRep K H xs kvs
 | .fz kvs=>∃ o xs,H a=some (.frz o (.dT xs))∧KRep K H xs kvs
 | .fk kvs=>∃ xs,Rd H a (.dK xs)∧KRep K H xs kvs
noncomputable def HR (K:PySem.W.Frag) (H:Hp) (M:MH):Prop:=∀ a o,M a=some o→MOk K H a o
theorem HR.sub {K:PySem.W.Frag} {H:Hp} {M M':MH} (h:HR K H M') (s:Sub M M'):HR K H M:=fun a o e=>h a o (s a o e)
noncomputable abbrev En:=List (Option T)
noncomputable def RhoR (K:PySem.W.Frag) (σ:St) (H:Hp) (ρ:En):Prop:=σ.length=ρ.length∧∀ (i:Nat) (t:T),ρ[i]?=some (some t)→∃ v,σ[i]?=some (some v)∧Rep K H v t
theorem RhoR.kp {K:PySem.W.Frag} {σ:St} {H H':Hp} {ρ:En} (h:RhoR K σ H ρ) (k:Kp K H H'):RhoR K σ H' ρ:=⟨h.1,fun i t e=>let ⟨v,a,b⟩:=h.2 i t e;⟨v,a,Rep.kp k _ _ b⟩⟩
theorem RhoR.set {K:PySem.W.Frag} {σ:St} {H:Hp} {ρ:En} {v:V} {t:T} (h:RhoR K σ H ρ) (i:Nat) (r:Rep K H v t):RhoR K (σ.set i (some v)) H (ρ.set i (some t)):=by
 refine⟨by rw[List.length_set,List.length_set,h.1],fun j u e=>?_⟩
 by_cases hj:i=j
 ·subst hj
  have hi:i < ρ.length:=by
   have:=(List.getElem?_eq_some_iff.mp e).1
   rwa [List.length_set] at this
  rw[List.getElem?_set_self hi] at e
  cases e
  exact⟨v,List.getElem?_set_self (show i < List.length σ by rw[h.1];exact hi),r⟩
 ·rw[List.getElem?_set_ne hj] at e
  rw[List.getElem?_set_ne hj]
  exact h.2 j u e
noncomputable abbrev VK3:=T→MH→Prop
noncomputable abbrev TE3:=En→MH→VK3→Prop
noncomputable abbrev TT3:=En→MH→(Bool→MH→Prop)→Prop
noncomputable abbrev TA3:=En→MH→(List T→MH→Prop)→Prop
structure Ends3 where
 nx:En→MH→Prop
 rt:VK3
 bk:En→MH→Prop:=fun _ _=>False
 ct:En→MH→Prop:=fun _ _=>False
noncomputable abbrev TS3:=Ends3→En→MH→Prop
noncomputable def EndE (K:PySem.W.Frag) (H:Hp) (Q:VK3) (Q2:VK):Prop:=∀ t v M' H',Kp K H H'→HR K H' M'→Rep K H' v t→Q t M'→Q2 v H'
theorem EndE.kp {K:PySem.W.Frag} {H H':Hp} {Q:VK3} {Q2:VK} (h:EndE K H Q Q2) (k:Kp K H H'):EndE K H' Q Q2:=fun t v M' H1 k1=>h t v M' H1 (k.trans k1)
noncomputable def bE (K:PySem.W.Frag) (ρ:En) (M:MH) (Q:VK3):TE:=fun σ H Q2=>RhoR K σ H ρ∧HR K H M∧EndE K H Q Q2
noncomputable def HE (X:Cx) (e:Expr) (t:TE3):Prop:=∀ ρ M Q,t ρ M Q→PE X e (bE X.K ρ M Q)
noncomputable def EndT (K:PySem.W.Frag) (H:Hp) (Q:Bool→MH→Prop) (Q2:Bool→Hp→Prop):Prop:=∀ b M' H',Kp K H H'→HR K H' M'→Q b M'→Q2 b H'
noncomputable def bT (K:PySem.W.Frag) (ρ:En) (M:MH) (Q:Bool→MH→Prop):TT:=fun σ H Q2=>RhoR K σ H ρ∧HR K H M∧EndT K H Q Q2
noncomputable def HT (X:Cx) (e:Expr) (t:TT3):Prop:=∀ ρ M Q,t ρ M Q→PT X e (bT X.K ρ M Q)
noncomputable def EndA (K:PySem.W.Frag) (H:Hp) (Q:List T→MH→Prop) (Q2:List V→Hp→Prop):Prop:=∀ ts vs M' H',Kp K H H'→HR K H' M'→Reps K H' vs ts→Q ts M'→Q2 vs H'
noncomputable def bA (K:PySem.W.Frag) (ρ:En) (M:MH) (Q:List T→MH→Prop):TA:=fun σ H Q2=>RhoR K σ H ρ∧HR K H M∧EndA K H Q Q2
noncomputable def HA (X:Cx) (es:List Expr) (t:TA3):Prop:=∀ ρ M Q,t ρ M Q→PA X es (bA X.K ρ M Q)
structure EndS (K:PySem.W.Frag) (H:Hp) (D:Ends3) (D2:Ends):Prop where
 nx:∀ ρ' M' σ' H',Kp K H H'→RhoR K σ' H' ρ'→HR K H' M'→D.nx ρ' M'→D2.nx σ' H'
 rt:EndE K H D.rt D2.rt
 bk:∀ ρ' M' σ' H',Kp K H H'→RhoR K σ' H' ρ'→HR K H' M'→D.bk ρ' M'→D2.bk σ' H'
 ct:∀ ρ' M' σ' H',Kp K H H'→RhoR K σ' H' ρ'→HR K H' M'→D.ct ρ' M'→D2.ct σ' H'
theorem EndS.kp {K:PySem.W.Frag} {H H':Hp} {D:Ends3} {D2:Ends} (h:EndS K H D D2) (k:Kp K H H'):EndS K H' D D2 :=
 ⟨fun a b c d k1=>h.nx a b c d (k.trans k1),h.rt.kp k,fun a b c d k1=>h.bk a b c d (k.trans k1),fun a b c d k1=>h.ct a b c d (k.trans k1)⟩
noncomputable def bS (K:PySem.W.Frag) (D:Ends3) (ρ:En) (M:MH):TS:=fun D2 σ H=>RhoR K σ H ρ∧HR K H M∧EndS K H D D2
noncomputable def HS (X:Cx) (st:Stmt) (t:TS3):Prop:=∀ D ρ M,t D ρ M→PS X st (bS X.K D ρ M)
noncomputable def HSs (X:Cx) (st:List Stmt) (t:TS3):Prop:=∀ D ρ M,t D ρ M→PSs X st (bS X.K D ρ M)
noncomputable def dE (K:PySem.W.Frag) (ρ:En) (t:TE3):TE:=fun σ H Q2=>∃ M Q,t ρ M Q∧bE K ρ M Q σ H Q2
noncomputable def dT (K:PySem.W.Frag) (ρ:En) (t:TT3):TT:=fun σ H Q2=>∃ M Q,t ρ M Q∧bT K ρ M Q σ H Q2
noncomputable def dA (K:PySem.W.Frag) (ρ:En) (t:TA3):TA:=fun σ H Q2=>∃ M Q,t ρ M Q∧bA K ρ M Q σ H Q2
noncomputable def dS (K:PySem.W.Frag) (t:TS3):TS:=fun D2 σ H=>∃ D ρ M,t D ρ M∧bS K D ρ M D2 σ H
section
variable {X:Cx} {e:Expr} {es:List Expr} {st:Stmt} {sts:List Stmt} {ρ:En}
theorem HE.d {t:TE3} (h:HE X e t):PE X e (dE X.K ρ t):=fun pins s σ H Q I ⟨M,Q3,q,b⟩=>h ρ M Q3 q pins s σ H Q I b
theorem HT.d {t:TT3} (h:HT X e t):PT X e (dT X.K ρ t):=fun pins s σ H Q I ⟨M,Q3,q,b⟩=>h ρ M Q3 q pins s σ H Q I b
theorem HA.d {t:TA3} (h:HA X es t):PA X es (dA X.K ρ t):=fun pos pins s σ H Q I ⟨M,Q3,q,b⟩=>h ρ M Q3 q pos pins s σ H Q I b
theorem HS.d {t:TS3} (h:HS X st t):PS X st (dS X.K t):=fun pins s σ H D I ⟨D3,ρ,M,q,b⟩=>h D3 ρ M q pins s σ H D I b
theorem HSs.d {t:TS3} (h:HSs X sts t):PSs X sts (dS X.K t):=fun pins s σ H D I ⟨D3,ρ,M,q,b⟩=>h D3 ρ M q pins s σ H D I b
end
mutual
noncomputable def eqT:T→T→Bool
 | .non,.non=>true
 | .bl a,.bl b=>a == b
 | .bl a,.int b=>(if a then 1 else 0) == b
 | .int a,.bl b=>a == (if b then 1 else 0)
 | .int a,.int b=>a == b
 | .str a,.str b=>a == b
 | .tup a,.tup b=>eqTs a b
 | _,_=>false
noncomputable def eqTs:List T→List T→Bool
 | [],[]=>true
 | x :: xs,y :: ys=>eqT x y && eqTs xs ys
 | _,_=>false
end
mutual
noncomputable def a0B:T→Bool
 | .adr _=>false
 | .rd _=>false
 | .dic _ _=>false
 | .tup ts=>a2c ts
 | _=>true
noncomputable def a2c:List T→Bool
 | []=>true
 | t :: ts=>a0B t && a2c ts
end
mutual
noncomputable def depT:T→Nat
 | .tup ts=>a4G ts+1
 | _=>0
noncomputable def a4G:List T→Nat
 | []=>0
 | t :: ts=>max (depT t) (a4G ts)
end
theorem a3g:∀ {ts:List T} {j:Nat} {t:T},a2c ts=true→ts[j]?=some t→a0B t=true
 | [],_,_,_,e=>by simp at e
 | x :: ts,0,t,h,e=>by simp at e;subst e;unfold a2c at h;exact (Bool.and_eq_true _ _▸h).1
 | x :: ts,j+1,t,h,e=>by
   unfold a2c at h
   exact a3g (j:=j) (Bool.and_eq_true _ _▸h).2 (by simpa using e)
theorem a5Y:∀ {ts:List T} {j:Nat} {t:T},ts[j]?=some t→depT t≤a4G ts
 | [],_,_,e=>by simp at e
 | x :: ts,0,t,e=>by simp at e;subst e;unfold a4G;exact Nat.le_max_left _ _
 | x :: ts,j+1,t,e=>by
   have:=a5Y (ts:=ts) (j:=j) (t:=t) (by simpa using e)
   unfold a4G;exact Nat.le_trans this (Nat.le_max_right _ _)
noncomputable def eqJ (xs ys:List T) (j:Nat):Bool:=match xs[j]?,ys[j]? with
 | some x,some y=>eqT x y
 | _,_=>true
theorem a4a:∀ (xs ys:List T),(((List.range (min xs.length ys.length)).all (eqJ xs ys)) && (xs.length == ys.length))=eqTs xs ys
 | [],[]=>by unfold eqTs;rfl
 | [],y :: ys=>by unfold eqTs;simp
 | x :: xs,[]=>by unfold eqTs;simp
 | x :: xs,y :: ys=>by
   unfold eqTs
   rw[← a4a xs ys]
   rw[List.length_cons,List.length_cons,Nat.succ_min_succ,List.range_succ_eq_map,List.all_cons,List.all_map]
   have e1:eqJ (x :: xs) (y :: ys) 0=eqT x y:=rfl
   have e2:(eqJ (x :: xs) (y :: ys)) ∘ Nat.succ=eqJ xs ys:=by
    funext j;simp [eqJ]
   rw[e1,e2,Bool.and_assoc]
   congr 2
   simp
theorem b0Q:∀ {xs ys:List T},eqTs xs ys=true→xs.length=ys.length
 | [],[],_=>rfl
 | [],y :: ys,h=>by unfold eqTs at h;cases h
 | x :: xs,[],h=>by unfold eqTs at h;cases h
 | x :: xs,y :: ys,h=>by
   unfold eqTs at h
   rw[Bool.and_eq_true] at h
   rw[List.length_cons,List.length_cons,b0Q h.2]
mutual
theorem b0R:∀ (x:T),a0B x=true→eqT x x=true
 | .non,_=>rfl
 | .bl b,_=>by simp [eqT]
 | .int i,_=>by simp [eqT]
 | .str x,_=>by simp [eqT]
 | .adr a,h=>by unfold a0B at h;cases h
 | .rd a,h=>by unfold a0B at h;cases h
 | .dic ks a,h=>by unfold a0B at h;cases h
 | .tup ts,h=>by unfold a0B at h;unfold eqT;exact a8R ts h
theorem a8R:∀ (xs:List T),a2c xs=true→eqTs xs xs=true
 | [],_=>by unfold eqTs;rfl
 | x :: xs,h=>by
   unfold a2c at h
   rw[Bool.and_eq_true] at h
   unfold eqTs
   rw[b0R x h.1,a8R xs h.2]
   rfl
end
section
variable {X:Cx} {pins:List (Addr × Obj)} {σ:St} {H:Hp} {s:Shared}
theorem b6h (I:Inv X pins σ H s):∀ (x y:T) (v:V),a0B x=true→a0B y=true→Rep X.K H v x→Rep X.K H v y→eqT x y=true:=by
 have key:∀ n (x y:T) (v:V),depT x≤n→a0B x=true→a0B y=true→Rep X.K H v x→Rep X.K H v y→eqT x y=true:=by
  intro n
  induction n with
  | zero =>
    intro x y v hd px py rx ry
    cases x with
    | tup ts=>unfold depT at hd;lia
    | adr a=>unfold a0B at px;cases px
    | rd a=>unfold a0B at px;cases px
    | dic ks a=>unfold a0B at px;cases px
    | _=>unfold Rep at rx;subst rx;cases y<;>unfold Rep at ry<;>first | (obtain⟨_,_,e,_⟩:=ry;cases e;done) | (unfold a0B at py;cases py;done) | (cases ry<;>simp [eqT])
  | succ n ih =>
    intro x y v hd px py rx ry
    cases x with
    | adr a=>unfold a0B at px;cases px
    | rd a=>unfold a0B at px;cases px
    | dic ks a=>unfold a0B at px;cases px
    | tup ts =>
      unfold Rep at rx
      obtain⟨a,xs,rfl,h1,h2⟩:=rx
      cases y with
      | adr a=>unfold a0B at py;cases py
      | rd a=>unfold a0B at py;cases py
      | dic ks a=>unfold a0B at py;cases py
      | tup us =>
        unfold Rep at ry
        obtain⟨a',ys,e,g1,g2⟩:=ry
        cases e
        obtain rfl:=I.tuple_inj h1 g1
        unfold a0B at px py
        unfold depT at hd
        unfold eqT
        have hl:=h2.length
        have hl2:=g2.length
        rw[← a4a]
        rw[← hl,← hl2]
        simp only[Nat.min_self,beq_self_eq_true,Bool.and_true,List.all_eq_true,List.mem_range]
        intro j hj
        have e1:ts[j]?=some ts[j]:=List.getElem?_eq_getElem (by lia)
        have e2:us[j]?=some us[j]:=List.getElem?_eq_getElem (by lia)
        obtain⟨v1,q1,r1⟩:=h2.get e1
        obtain⟨v2,q2,r2⟩:=g2.get e2
        rw[q1] at q2;cases q2
        unfold eqJ
        rw[e1,e2]
        have:=a5Y e1
        exact ih _ _ _ (by lia) (a3g px e1) (a3g py e2) r1 r2
      | _=>unfold Rep at ry;cases ry
    | _=>unfold Rep at rx;subst rx;cases y<;>unfold Rep at ry<;>first | (obtain⟨_,_,e,_⟩:=ry;cases e;done) | (unfold a0B at py;cases py;done) | (cases ry<;>simp [eqT])
 exact fun x y v=>key (depT x) x y v (Nat.le_refl _)
open SeqAt in
theorem b3k {A:Around} (x y:T) (v u:V) (a b:Value) (px:a0B x=true) (py:a0B y=true) (rx:Rep X.K H v x) (ry:Rep X.K H u y) (ra:RelV v a) (rb:RelV u b) (nx:∀ ts,x≠.tup ts) (ny:∀ ts,y≠.tup ts) :
  SeqAt.EqAt A s a b (eqT x y)∧SeqAt.RcAt A s a b (eqT x y)∧SeqAt.RcNeAt A s a b (!(eqT x y)):=by
 cases x with
 | tup ts=>exact absurd rfl (nx ts)
 | adr p=>unfold a0B at px;cases px
 | rd p=>unfold a0B at px;cases px
 | dic ks p=>unfold a0B at px;cases px
 | non =>
   unfold Rep at rx;subst rx
   cases ra
   cases y with
   | tup ts=>exact absurd rfl (ny ts)
   | adr p=>unfold a0B at py;cases py
   | rd p=>unfold a0B at py;cases py
   | dic ks p=>unfold a0B at py;cases py
   | non =>
     unfold Rep at ry;subst ry
     cases rb
     have e:eqT .non .non=true:=rfl
     rw[e]
     exact⟨EqAt.same _,RcAt.none_none,RcNeAt.none_none⟩
   | bl c0 =>
     unfold Rep at ry;subst ry
     cases rb
     have e:eqT .non (.bl c0)=false:=rfl
     rw[e]
     exact⟨EqAt.none_bool _,RcAt.none_bool _,RcNeAt.none_bool _⟩
   | int c0 =>
     unfold Rep at ry;subst ry
     obtain⟨t_rb,rfl⟩:=rb
     have e:eqT .non (.int c0)=false:=rfl
     rw[e]
     exact⟨EqAt.none_int _ _,RcAt.none_int _ _,RcNeAt.none_int _ _⟩
   | str c0 =>
     unfold Rep at ry;subst ry
     obtain⟨t_rb,rfl⟩:=rb
     have e:eqT .non (.str c0)=false:=rfl
     rw[e]
     exact⟨EqAt.none_str _ _,RcAt.none_str _ _,RcNeAt.none_str _ _⟩
 | bl b0 =>
   unfold Rep at rx;subst rx
   cases ra
   cases y with
   | tup ts=>exact absurd rfl (ny ts)
   | adr p=>unfold a0B at py;cases py
   | rd p=>unfold a0B at py;cases py
   | dic ks p=>unfold a0B at py;cases py
   | non =>
     unfold Rep at ry;subst ry
     cases rb
     have e:eqT (.bl b0) .non=false:=rfl
     rw[e]
     exact⟨EqAt.bool_none _,RcAt.bool_none _,RcNeAt.bool_none _⟩
   | bl c0 =>
     unfold Rep at ry;subst ry
     cases rb
     have e:eqT (.bl b0) (.bl c0)=(b0 == c0):=rfl
     rw[e]
     exact⟨EqAt.bool_bool _ _,RcAt.bool_bool _ _,RcNeAt.bool_bool _ _⟩
   | int c0 =>
     unfold Rep at ry;subst ry
     obtain⟨t_rb,rfl⟩:=rb
     have e:eqT (.bl b0) (.int c0)=((if b0 then 1 else 0) == c0):=rfl
     rw[e]
     exact⟨EqAt.bool_int _ _ _,RcAt.bool_int _ _ _,RcNeAt.bool_int _ _ _⟩
   | str c0 =>
     unfold Rep at ry;subst ry
     obtain⟨t_rb,rfl⟩:=rb
     have e:eqT (.bl b0) (.str c0)=false:=rfl
     rw[e]
     exact⟨EqAt.bool_str _ _ _,RcAt.bool_str _ _ _,RcNeAt.bool_str _ _ _⟩
 | int b0 =>
   unfold Rep at rx;subst rx
   obtain⟨t_ra,rfl⟩:=ra
   cases y with
   | tup ts=>exact absurd rfl (ny ts)
   | adr p=>unfold a0B at py;cases py
   | rd p=>unfold a0B at py;cases py
   | dic ks p=>unfold a0B at py;cases py
   | non =>
     unfold Rep at ry;subst ry
     cases rb
     have e:eqT (.int b0) .non=false:=rfl
     rw[e]
     exact⟨EqAt.int_none _ _,RcAt.int_none _ _,RcNeAt.int_none _ _⟩
   | bl c0 =>
     unfold Rep at ry;subst ry
     cases rb
     have e:eqT (.int b0) (.bl c0)=(b0 == (if c0 then 1 else 0)):=rfl
     rw[e]
     exact⟨EqAt.int_bool _ _ _,RcAt.int_bool _ _ _,RcNeAt.int_bool _ _ _⟩
   | int c0 =>
     unfold Rep at ry;subst ry
     obtain⟨t_rb,rfl⟩:=rb
     have e:eqT (.int b0) (.int c0)=(b0 == c0):=rfl
     rw[e]
     exact⟨EqAt.int_int _ _ _ _,RcAt.int_int _ _ _ _,RcNeAt.int_int _ _ _ _⟩
   | str c0 =>
     unfold Rep at ry;subst ry
     obtain⟨t_rb,rfl⟩:=rb
     have e:eqT (.int b0) (.str c0)=false:=rfl
     rw[e]
     exact⟨EqAt.int_str _ _ _ _,RcAt.int_str _ _ _ _,RcNeAt.int_str _ _ _ _⟩
 | str b0 =>
   unfold Rep at rx;subst rx
   obtain⟨t_ra,rfl⟩:=ra
   cases y with
   | tup ts=>exact absurd rfl (ny ts)
   | adr p=>unfold a0B at py;cases py
   | rd p=>unfold a0B at py;cases py
   | dic ks p=>unfold a0B at py;cases py
   | non =>
     unfold Rep at ry;subst ry
     cases rb
     have e:eqT (.str b0) .non=false:=rfl
     rw[e]
     exact⟨EqAt.str_none _ _,RcAt.str_none _ _,RcNeAt.str_none _ _⟩
   | bl c0 =>
     unfold Rep at ry;subst ry
     cases rb
     have e:eqT (.str b0) (.bl c0)=false:=rfl
     rw[e]
     exact⟨EqAt.str_bool _ _ _,RcAt.str_bool _ _ _,RcNeAt.str_bool _ _ _⟩
   | int c0 =>
     unfold Rep at ry;subst ry
     obtain⟨t_rb,rfl⟩:=rb
     have e:eqT (.str b0) (.int c0)=false:=rfl
     rw[e]
     exact⟨EqAt.str_int _ _ _ _,RcAt.str_int _ _ _ _,RcNeAt.str_int _ _ _ _⟩
   | str c0 =>
     unfold Rep at ry;subst ry
     obtain⟨t_rb,rfl⟩:=rb
     have e:eqT (.str b0) (.str c0)=(b0 == c0):=rfl
     rw[e]
     exact⟨EqAt.str_str _ _ _ _,RcAt.str_str _ _ _ _,RcNeAt.str_str _ _ _ _⟩
theorem c0M {x:T} (h:∀ ts,x≠.tup ts):depT x=0:=by
 cases x with
 | tup ts=>exact absurd rfl (h ts)
 | _=>rfl
open SeqAt in
/-- a tuple against what is none -/
theorem b1L {A:Around} {p:Addr} {its:Array Value} (ht:s.heap.IsTuple p its) (hu:A.units < cLine) (x:T) (us:List T) (v:V) (a:Value) (px:a0B x=true) (rx:Rep X.K H v x) (ra:RelV v a) (nx:∀ ts,x≠.tup ts) :
  SeqAt.EqAt A s a (.ref p) (eqT x (.tup us))∧SeqAt.RcAt A s a (.ref p) (eqT x (.tup us))∧SeqAt.RcNeAt A s a (.ref p) (!(eqT x (.tup us))):=by
 cases x with
 | tup ts=>exact absurd rfl (nx ts)
 | adr q=>unfold a0B at px;cases px
 | rd q=>unfold a0B at px;cases px
 | dic ks q=>unfold a0B at px;cases px
 | non =>
   unfold Rep at rx;subst rx;cases ra
   have e:eqT .non (.tup us)=false:=rfl
   rw[e];exact⟨.none_tuple ht hu,.none_tuple ht hu,.none_tuple ht hu⟩
 | bl b0 =>
   unfold Rep at rx;subst rx;cases ra
   have e:eqT (.bl b0) (.tup us)=false:=rfl
   rw[e];exact⟨.bool_tuple _ ht hu,.bool_tuple _ ht hu,.bool_tuple _ ht hu⟩
 | int b0 =>
   unfold Rep at rx;subst rx;obtain⟨t,rfl⟩:=ra
   have e:eqT (.int b0) (.tup us)=false:=rfl
   rw[e];exact⟨.int_tuple _ _ ht hu,.int_tuple _ _ ht hu,.int_tuple _ _ ht hu⟩
 | str b0 =>
   unfold Rep at rx;subst rx;obtain⟨t,rfl⟩:=ra
   have e:eqT (.str b0) (.tup us)=false:=rfl
   rw[e];exact⟨.str_tuple _ _ ht hu,.str_tuple _ _ ht hu,.str_tuple _ _ ht hu⟩
open SeqAt in
theorem b1M {A:Around} {p:Addr} {its:Array Value} (ht:s.heap.IsTuple p its) (hu:A.units < cLine) (x:T) (us:List T) (v:V) (a:Value) (px:a0B x=true) (rx:Rep X.K H v x) (ra:RelV v a) (nx:∀ ts,x≠.tup ts) :
  SeqAt.EqAt A s (.ref p) a (eqT (.tup us) x)∧SeqAt.RcAt A s (.ref p) a (eqT (.tup us) x)∧SeqAt.RcNeAt A s (.ref p) a (!(eqT (.tup us) x)):=by
 cases x with
 | tup ts=>exact absurd rfl (nx ts)
 | adr q=>unfold a0B at px;cases px
 | rd q=>unfold a0B at px;cases px
 | dic ks q=>unfold a0B at px;cases px
 | non =>
   unfold Rep at rx;subst rx;cases ra
   have e:eqT (.tup us) .non=false:=rfl
   rw[e];exact⟨.tuple_none ht hu,.tuple_none ht hu,.tuple_none ht hu⟩
 | bl b0 =>
   unfold Rep at rx;subst rx;cases ra
   have e:eqT (.tup us) (.bl b0)=false:=rfl
   rw[e];exact⟨.tuple_bool _ ht hu,.tuple_bool _ ht hu,.tuple_bool _ ht hu⟩
 | int b0 =>
   unfold Rep at rx;subst rx;obtain⟨t,rfl⟩:=ra
   have e:eqT (.tup us) (.int b0)=false:=rfl
   rw[e];exact⟨.tuple_int _ _ ht hu,.tuple_int _ _ ht hu,.tuple_int _ _ ht hu⟩
 | str b0 =>
   unfold Rep at rx;subst rx;obtain⟨t,rfl⟩:=ra
   have e:eqT (.tup us) (.str b0)=false:=rfl
   rw[e];exact⟨.tuple_str _ _ ht hu,.tuple_str _ _ ht hu,.tuple_str _ _ ht hu⟩
theorem b0j (x:T):(∃ ts,x=.tup ts)∨∀ ts,x≠.tup ts:=by
 cases x with
 | tup ts=>exact .inl ⟨ts,rfl⟩
 | _=>exact .inr fun ts e=>by cases e
theorem b0I {A:Around} {n:Nat} {ts us:List T} {xs ys:List V} {its its2:List Value} (px:a2c ts=true) (py:a2c us=true) (hd:a4G ts≤n) (h2:Reps X.K H xs ts) (g2:Reps X.K H ys us) (r1:Vals xs its) (r2:Vals ys its2)
  (ih:∀ (x y:T) (v u:V) (a b:Value),depT x≤n→a0B x=true→a0B y=true→Rep X.K H v x→Rep X.K H u y→RelV v a→RelV u b→SeqAt.EqAt A s a b (eqT x y)) (j:Nat) (hj1:j < its.toArray.size) (hj2:j < its2.toArray.size) :
  SeqAt.EqAt A s its.toArray[j] its2.toArray[j] (eqJ ts us j):=by
 have l1:=h2.length
 have l2:=g2.length
 have m1:=r1.length
 have m2:=r2.length
 have hj1':j < its.length:=by simpa using hj1
 have hj2':j < its2.length:=by simpa using hj2
 have e1:ts[j]?=some (ts[j]'(by lia)):=List.getElem?_eq_getElem (by lia)
 have e2:us[j]?=some (us[j]'(by lia)):=List.getElem?_eq_getElem (by lia)
 obtain⟨v1,a1,b1⟩:=h2.get e1
 obtain⟨v2,a2,b2⟩:=g2.get e2
 obtain⟨w1,c1,d1⟩:=r1.get a1
 obtain⟨w2,c2,d2⟩:=r2.get a2
 have f1:its.toArray[j]=w1:=by
  have:its[j]?=some (its[j]'hj1'):=List.getElem?_eq_getElem hj1'
  rw[c1] at this
  simpa using (Option.some.inj this).symm
 have f2:its2.toArray[j]=w2:=by
  have:its2[j]?=some (its2[j]'hj2'):=List.getElem?_eq_getElem hj2'
  rw[c2] at this
  simpa using (Option.some.inj this).symm
 have e3:eqJ ts us j=eqT (ts[j]'(by lia)) (us[j]'(by lia)):=by unfold eqJ;rw[e1,e2]
 rw[f1,f2,e3]
 have:=a5Y e1
 exact ih _ _ v1 v2 w1 w2 (by lia) (a3g px e1) (a3g py e2) b1 b2 d1 d2
open SeqAt in
/-- == (by identity first),==,!= of two values,by their trees -/
theorem b3l (I:Inv X pins σ H s):∀ n (A:Around) (x y:T) (v u:V) (a b:Value),depT x≤n→A.units+n+1 < cLine→a0B x=true→a0B y=true→Rep X.K H v x→Rep X.K H u y→RelV v a→RelV u b →
  SeqAt.EqAt A s a b (eqT x y)∧SeqAt.RcAt A s a b (eqT x y)∧SeqAt.RcNeAt A s a b (!(eqT x y)):=by
 intro n
 induction n with
 | zero =>
   intro A x y v u a b hd hu px py rx ry ra rb
   rcases b0j x with ⟨ts,rfl⟩ | nx
   ·unfold depT at hd;lia
   ·rcases b0j y with ⟨us,rfl⟩ | ny
    ·unfold Rep at ry
     obtain⟨p,ys,rfl,g1,g2⟩:=ry
     obtain⟨its,r',ht,_⟩:=I.tuple g1
     have ht':s.heap.IsTuple p its.toArray:=ht
     cases rb
     exact b1L ht' (by lia) x us v a px rx ra nx
    ·exact b3k x y v u a b px py rx ry ra rb nx ny
 | succ n ih =>
   intro A x y v u a b hd hu px py rx ry ra rb
   have hu':A.units < cLine:=by lia
   rcases b0j x with ⟨ts,rfl⟩ | nx
   ·have rx':=rx
    unfold Rep at rx
    obtain⟨p,xs,rfl,h1,h2⟩:=rx
    cases ra
    obtain⟨its,r1,ht,_⟩:=I.tuple h1
    have ht':s.heap.IsTuple p its.toArray:=ht
    rcases b0j y with ⟨us,rfl⟩ | ny
    ·have ry':=ry
     unfold Rep at ry
     obtain⟨q,ys,rfl,g1,g2⟩:=ry
     cases rb
     obtain⟨its2,r2,ht2,_⟩:=I.tuple g1
     have ht2':s.heap.IsTuple q its2.toArray:=ht2
     have px':=px
     have py':=py
     unfold a0B at px py
     unfold depT at hd
     have he:=b0I (A:=A.in1) (s:=s) (n:=n) px py (by lia) h2 g2 r1 r2 fun x y v u a b hx px py rx ry ra rb=>(ih A.in1 x y v u a b hx (by show A.units+1+n+1 < cLine;lia) px py rx ry ra rb).1
     have ee:((List.range (min its.toArray.size its2.toArray.size)).all (eqJ ts us) && its.toArray.size == its2.toArray.size)=eqT (.tup ts) (.tup us):=by
      have l1:=h2.length
      have l2:=g2.length
      have m1:=r1.length
      have m2:=r2.length
      unfold eqT
      rw[← a4a,List.size_toArray,List.size_toArray,← m1,← m2,l1,l2]
     have rc:=RcAt.tuples (A:=A) (e:=eqJ ts us) ht' ht2' hu' he
     have rn:=RcNeAt.tuples (A:=A) (e:=eqJ ts us) ht' ht2' hu' he
     rw[ee] at rc rn
     refine⟨?_,rc,rn⟩
     by_cases hpq:p=q
     ·subst hpq
      have e:eqT (.tup ts) (.tup us)=true:=b6h I (.tup ts) (.tup us) (.ref p) px' py' rx' ry'
      rw[e];exact .same _
     ·exact .of_refs hpq rc
    ·exact b1M ht' hu' y ts u b py ry rb ny
   ·exact ih A x y v u a b (by rw[c0M nx];exact Nat.zero_le _) (by lia) px py rx ry ra rb
end
noncomputable abbrev R3:=T→T→MH→VK3→Prop
noncomputable def dR (K:PySem.W.Frag) (r:R3):R2:=fun v u H Q2=>∃ x y M Q,Rep K H v x∧Rep K H u y∧HR K H M∧r x y M Q∧EndE K H Q Q2
noncomputable def dU (K:PySem.W.Frag) (r:T→MH→VK3→Prop):V→Hp→VK→Prop:=fun v H Q2=>∃ x M Q,Rep K H v x∧HR K H M∧r x M Q∧EndE K H Q Q2
noncomputable def dL (K:PySem.W.Frag) (r:List T→MH→VK3→Prop):List V→Hp→VK→Prop:=fun vs H Q2=>∃ xs M Q,Reps K H vs xs∧HR K H M∧r xs M Q∧EndE K H Q Q2
theorem Kp.new {K:PySem.W.Frag} {H:Hp} {p:Addr} {o:HO} (h:H p=none):Kp K H (upd H p o):=by
 refine⟨fun a xs q=>?_,fun a ob u q=>by rw[a0m (a0j q h)];exact q⟩
 rcases q with (q | ⟨ob,q⟩) | q
 ·exact .inl (.inl (by rw[a0m (a0j q h)];exact q))
 ·exact .inl (.inr ⟨ob,by rw[a0m (a0j q h)];exact q⟩)
 ·exact .inr q
theorem Kp.lst {K:PySem.W.Frag} {H:Hp} {p:Addr} {xs ys:List V} (h:H p=some (.lst xs)):Kp K H (upd H p (.lst ys)):=by
 have ne:∀ {a:Addr} {o:HO},H a=some o→o≠.lst xs→a≠p:=fun {a o} q hn e=>by
  subst e
  rw[h] at q;cases q;exact hn rfl
 refine⟨fun a zs q=>?_,fun a ob u q=>by rw[a0m (ne q (by intro z;cases z))];exact q⟩
 rcases q with (q | ⟨ob,q⟩) | q
 ·exact .inl (.inl (by rw[a0m (ne q (by intro z;cases z))];exact q))
 ·exact .inl (.inr ⟨ob,by rw[a0m (ne q (by intro z;cases z))];exact q⟩)
 ·exact .inr q
theorem Kp.dict {K:PySem.W.Frag} {H:Hp} {p:Addr} {o u:HO} (h:H p=some o) (ho:(∃ kvs,o=.dK kvs)∨∃ kvs,o=.dT kvs):Kp K H (upd H p u):=by
 have ne:∀ {a:Addr} {u:HO},H a=some u→((∃ xs,u=.tup xs)∨∃ b x,u=.frz b x)→a≠p:=fun {a u} q hn e=>by
  subst e
  rw[h] at q;cases q
  rcases ho with ⟨_,rfl⟩ | ⟨_,rfl⟩<;>rcases hn with ⟨_,z⟩ | ⟨_,_,z⟩<;>cases z
 refine⟨fun a zs q=>?_,fun a ob u q=>by rw[a0m (ne q (.inr ⟨_,_,rfl⟩))];exact q⟩
 rcases q with (q | ⟨ob,q⟩) | q
 ·exact .inl (.inl (by rw[a0m (ne q (.inl ⟨_,rfl⟩))];exact q))
 ·exact .inl (.inr ⟨ob,by rw[a0m (ne q (.inr ⟨_,_,rfl⟩))];exact q⟩)
 ·exact .inr q
section
variable {K:PySem.W.Frag} {H:Hp} {M:MH}
noncomputable def Wr:HO→Prop
 | .lst _=>True
 | .dK _=>True
 | .dT _=>True
 | .frz _ _=>True
 | _=>False
theorem MOk.kp {H':Hp} {a:Addr} {o:MO} (h:MOk K H a o) (k:Kp K H H') (ha:∀ u,Wr u→H a=some u→H' a=some u):MOk K H' a o:=by
 cases o with
 | lst ts=>obtain⟨xs,e,r⟩:=h;exact⟨xs,ha _ trivial e,Reps.kp k _ _ r⟩
 | dk kvs=>obtain⟨xs,e,r⟩:=h;exact⟨xs,ha _ trivial e,r.kp k⟩
 | dt kvs=>obtain⟨xs,e,r⟩:=h;exact⟨xs,ha _ trivial e,r.kp k⟩
 | fz kvs=>obtain⟨ob,xs,e,r⟩:=h;exact⟨ob,xs,k.frz _ _ _ e,r.kp k⟩
 | fk kvs =>
   obtain⟨xs,e,r⟩:=h
   rcases e with e | ⟨ob,e⟩
   ·exact⟨xs,.inl (ha _ trivial e),r.kp k⟩
   ·exact⟨xs,.inr ⟨ob,k.frz _ _ _ e⟩,r.kp k⟩
theorem MOk.some {a:Addr} {o:MO} (h:MOk K H a o):∃ u,H a=Option.some u∧Wr u:=by
 cases o with
 | lst ts=>obtain⟨xs,e,r⟩:=h;exact⟨_,e,trivial⟩
 | dk kvs=>obtain⟨xs,e,r⟩:=h;exact⟨_,e,trivial⟩
 | dt kvs=>obtain⟨xs,e,r⟩:=h;exact⟨_,e,trivial⟩
 | fz kvs=>obtain⟨ob,xs,e,r⟩:=h;exact⟨_,e,trivial⟩
 | fk kvs =>
   obtain⟨xs,e,r⟩:=h
   rcases e with e | ⟨ob,e⟩
   ·exact⟨_,e,trivial⟩
   ·exact⟨_,e,trivial⟩
theorem HR.free {p:Addr} (h:HR K H M) (hp:H p=none):M p=none:=by
 cases q:M p with
 | none=>rfl
 | some o =>
   obtain⟨u,e,_⟩:=(h p o q).some
   rw[hp] at e;cases e
theorem HR.keep {p:Addr} {o:HO} (h:HR K H M) (hp:H p=none):HR K (upd H p o) M:=fun a u e =>
 (h a u e).kp (Kp.new hp) fun u _ q=>by rw[a0m (a0j q hp)];exact q
theorem HR.newL {p:Addr} {xs:List V} {ts:List T} (h:HR K H M) (hp:H p=none) (r:Reps K H xs ts):HR K (upd H p (.lst xs)) (updM M p (.lst ts)):=fun a u e=>by
 by_cases ha:a=p
 ·subst ha
  rw[a0c] at e;cases e
  exact⟨xs,a0U,Reps.kp (Kp.new hp) _ _ r⟩
 ·rw[a0n ha] at e
  exact (h.keep hp) a u e
theorem HR.setL {p:Addr} {xs ys:List V} {us:List T} (h:HR K H M) (hp:H p=some (.lst xs)) (r:Reps K H ys us):HR K (upd H p (.lst ys)) (updM M p (.lst us)):=fun a u e=>by
 by_cases ha:a=p
 ·subst ha
  rw[a0c] at e;cases e
  exact⟨ys,a0U,Reps.kp (Kp.lst hp) _ _ r⟩
 ·rw[a0n ha] at e
  exact (h a u e).kp (Kp.lst hp) fun u _ q=>by rw[a0m ha];exact q
theorem HR.newK {p:Addr} {xs:List (Key × V)} {kvs:List (Key × T)} (h:HR K H M) (hp:H p=none) (r:KRep K H xs kvs):HR K (upd H p (.dK xs)) (updM M p (.dk kvs)):=fun a u e=>by
 by_cases ha:a=p
 ·subst ha
  rw[a0c] at e;cases e
  exact⟨xs,a0U,r.kp (Kp.new hp)⟩
 ·rw[a0n ha] at e
  exact (h.keep hp) a u e
theorem HR.setK {p:Addr} {o:HO} {xs:List (Key × V)} {kvs:List (Key × T)} (h:HR K H M) (hp:H p=some o) (ho:(∃ kvs,o=.dK kvs)∨∃ kvs,o=.dT kvs) (r:KRep K H xs kvs):HR K (upd H p (.dK xs)) (updM M p (.dk kvs)):=fun a u e=>by
 by_cases ha:a=p
 ·subst ha
  rw[a0c] at e;cases e
  exact⟨xs,a0U,r.kp (Kp.dict hp ho)⟩
 ·rw[a0n ha] at e
  exact (h a u e).kp (Kp.dict hp ho) fun u _ q=>by rw[a0m ha];exact q
end
noncomputable def OpR3 (X:Cx) (f:Value→Value→Sem Value) (r:R3):Prop:=OpR X f (dR X.K r)
noncomputable def UnR3 (X:Cx) (f:Value→Sem Value) (r:T→MH→VK3→Prop):Prop:=UnR X f (dU X.K r)
noncomputable def a4h (X:Cx) (f:Value) (r:List T→MH→VK3→Prop):Prop:=a6q X f (dL X.K r)
noncomputable def IxR3 (X:Cx) (r:R3):Prop:=IxR X (dR X.K r)
noncomputable def tOp3 (r:R3) (ta tb:TE3):TE3:=fun ρ M Q=>ta ρ M fun x M1=>tb ρ M1 fun y M2=>r x y M2 Q
noncomputable def tUn3 (r:T→MH→VK3→Prop) (ta:TE3):TE3:=fun ρ M Q=>ta ρ M fun x M1=>r x M1 Q
noncomputable def b3X (i:Nat):TE3:=fun ρ M Q=>match ρ[i]? with
 | some (some t)=>Q t M
 | _=>False
noncomputable def tK (t:T):TE3:=fun _ M Q=>Q t M
section
variable {X:Cx} {a b c e:Expr} {es:List Expr} {ta tb tc te:TE3} {pos:Pos}
theorem dOp {ρ:En} {M:MH} {Q:VK3} {r:R3} (h:tOp3 r ta tb ρ M Q) {σ:St} {H:Hp} {Q2:VK} (b:bE X.K ρ M Q σ H Q2):tOp (dR X.K r) (dE X.K ρ ta) (dE X.K ρ tb) σ H Q2:=by
 obtain⟨hr,hh,en⟩:=b
 refine⟨M,_,h,hr,hh,fun t v M1 H1 k1 h1 r1 q1=>⟨M1,_,q1,hr.kp k1,h1,fun t2 v2 M2 H2 k2 h2 r2 q2=>⟨t,t2,M2,Q,Rep.kp k2 _ _ r1,r2,h2,q2,en.kp (k1.trans k2)⟩⟩⟩
theorem a0v {op:Operator} {r:R3} (ho:OpR3 X (binaryOp op) r) (ha:HE X a ta) (hb:HE X b tb):HE X (.BinOp a op b pos) (tOp3 r ta tb):=fun ρ M Q h =>
 (c0p ho (ha.d (ρ:=ρ)) (hb.d (ρ:=ρ))).imp fun σ H Q2 b=>dOp h b
theorem h_un {op:UnaryOp} {r:T→MH→VK3→Prop} (ho:UnR3 X (unaryOp op) r) (ha:HE X a ta):HE X (.UnaryOp op a pos) (tUn3 r ta):=fun ρ M Q h =>
 (c0o ho (ha.d (ρ:=ρ))).imp fun σ H Q2 ⟨hr,hh,en⟩=>⟨M,_,h,hr,hh,fun t v M1 H1 k1 h1 r1 q1=>⟨t,M1,Q,r1,h1,q1,en.kp k1⟩⟩
theorem c0C {i:Nat} {x:Str} (hN:X.N[i]?=some x) (hv:Vis X.env.scope x) (hd:(x == ("__debug__":Str))=false:=by decide) (hcd:(x == ("__classdict__":Str))=false:=by decide):HE X (.Name x pos) (b3X i):=fun ρ M Q h =>
 (b8G hN hv hd hcd).imp fun σ H Q2 ⟨hr,hh,en⟩=>by
  unfold b3X at h
  split at h
  ·rename_i t e
   obtain⟨v,e1,r⟩:=hr.2 i t e
   exact⟨v,e1,en t v M H Kp.refl hh r h⟩
  ·exact h.elim
theorem hv (i:Nat) {x:Str} {pos:Pos} (hN:X.N[i]?=some x:=by rfl) (hv:Vis X.env.scope x:=by first | exact Or.inl rfl | exact Or.inr (Or.inl rfl) | exact Or.inr (Or.inr rfl)) (hd:(x == ("__debug__":Str))=false:=by decide)
  (hcd:(x == ("__classdict__":Str))=false:=by decide):HE X (.Name x pos) (b3X i):=c0C hN hv hd hcd
theorem a0p {K:PySem.W.Frag} {H:Hp} {i:Int}:Rep K H (.int i) (.int i):=by unfold Rep;rfl
theorem a3f {K:PySem.W.Frag} {H:Hp} {i:Bool}:Rep K H (.bl i) (.bl i):=by unfold Rep;rfl
theorem a9y {K:PySem.W.Frag} {H:Hp} {i:Str}:Rep K H (.str i) (.str i):=by unfold Rep;rfl
theorem b2m {K:PySem.W.Frag} {H:Hp}:Rep K H .non .non:=by unfold Rep;rfl
theorem a3b {K:PySem.W.Frag} {H:Hp} {a:Addr}:Rep K H (.ref a) (.adr a):=by unfold Rep;rfl
theorem a2j {K:PySem.W.Frag} {H:Hp} {a:Addr} {xs:List V} {ts:List T} (h:SqT K H a xs) (r:Reps K H xs ts):Rep K H (.ref a) (.tup ts):=by unfold Rep;exact⟨a,xs,rfl,h,r⟩
theorem a9O {v:V} {t:T} (h:PE X e (tC v)) (r:∀ K H,Rep K H v t):HE X e (tK t):=fun ρ M Q q=>h.imp fun σ H Q2 ⟨hr,hh,en⟩=>en t v M H Kp.refl hh (r _ _) q
theorem a0g {i j pos}:HE X (.Constant (.int i) j pos) (tK (.int i)):=a9O b8L fun _ _=>a0p
theorem h_bl {b j pos}:HE X (.Constant (.bool b) j pos) (tK (.bl b)):=a9O c0s fun _ _=>a3f
theorem a9N {x:Str} {i:Int} {tk:Tok} {pos:Pos} (hm:X.mg x=some (.int i tk)) (hg:Gl X x:=by rfl) (hd:(x == ("__debug__":Str))=false:=by decide):HE X (.Name x pos) (tK (.int i)):=a9O (v:=.int i) (b2w hg hm ⟨tk,rfl⟩ hd) fun _ _=>a0p
theorem a0u {K:PySem.W.Frag} {H:Hp} {v:V} {i:Int} (r:Rep K H v (.int i)):v=.int i:=by unfold Rep at r;exact r
theorem a3q {K:PySem.W.Frag} {H:Hp} {v:V} {i:Str} (r:Rep K H v (.str i)):v=.str i:=by unfold Rep at r;exact r
theorem a4C {K:PySem.W.Frag} {H:Hp} {v:V} {i:Bool} (r:Rep K H v (.bl i)):v=.bl i:=by unfold Rep at r;exact r
theorem b2O {K:PySem.W.Frag} {H:Hp} {v:V} (r:Rep K H v .non):v=.non:=by unfold Rep at r;exact r
theorem a0G {K:PySem.W.Frag} {H:Hp} {v:V} {a:Addr} (r:Rep K H v (.adr a)):v=.ref a:=by unfold Rep at r;exact r
theorem a2e {K:PySem.W.Frag} {H:Hp} {v:V} {ts:List T} (r:Rep K H v (.tup ts)):∃ a xs,v=.ref a∧SqT K H a xs∧Reps K H xs ts:=by unfold Rep at r;exact r
noncomputable def rInt (C:Int→Int→Prop) (g:Int→Int→Int):R3:=fun x y M Q=>match x,y with
 | .int i,.int j=>C i j∧Q (.int (g i j)) M
 | _,_=>False
theorem a9C {f:Value→Value→Sem Value} {C:Int→Int→Prop} {g:Int→Int→Int} (h:OpR X f (rI C fun i j=>.int (g i j))):OpR3 X f (rInt C g):=by
 intro pins s σ H x y v u Q2 I rx ry q
 obtain⟨a,b,M,Q,r1,r2,hh,q,en⟩:=q
 unfold rInt at q
 split at q
 ·obtain rfl:=a0u r1
  obtain rfl:=a0u r2
  exact h pins s σ H _ _ v u Q2 I rx ry ⟨_,_,rfl,rfl,q.1,en _ _ M H Kp.refl hh a0p q.2⟩
 ·exact q.elim
noncomputable def b6j:R3:=fun x y M Q=>match x,y with
 | .int i,.int j=>Q (.int (i - j)) M
 | _,_=>False
theorem a2l:OpR3 X (binaryOp .Sub) b6j:=by
 intro pins s σ H x y v u Q2 I rx ry q
 obtain⟨a,b,M,Q,r1,r2,hh,q,en⟩:=q
 unfold b6j at q
 split at q
 ·obtain rfl:=a0u r1
  obtain rfl:=a0u r2
  exact b8N pins s σ H _ _ v u Q2 I rx ry ⟨_,_,rfl,rfl,en _ _ M H Kp.refl hh a0p q⟩
 ·exact q.elim
noncomputable def b7I (i j:Int):Prop:=0 < j∧j.natAbs.log2 < 9000
theorem b4y:OpR X (binaryOp .FloorDiv) (rI b7I fun i j=>.int (i / j)):=opI fun i j _ _ _ _ _ hc q=>by
 have e:i.fdiv j=i / j:=Int.fdiv_eq_ediv_of_nonneg i (Int.le_of_lt hc.1)
 exact floordiv_int (Int.ne_of_gt hc.1) (by rw[e];exact q) (.inl (PyProof.noPylong_of_log2 hc.2))
noncomputable def b8v:R3:=rInt b7I fun i j=>i / j
noncomputable def b8u:R3:=rInt (fun _ j=>0 < j) fun i j=>i % j
noncomputable def b8t:R3:=rInt CPow fun i j=>i ^ j.toNat
theorem b2B:OpR3 X (binaryOp .FloorDiv) b8v:=a9C b4y
theorem a1L:OpR3 X (binaryOp .Mod) b8u:=a9C b8R
theorem b2z:OpR3 X (binaryOp .Pow) b8t:=a9C b8P
noncomputable def b6k:T→MH→VK3→Prop:=fun x M Q=>match x with
 | .int i=>Q (.int (-i)) M
 | _=>False
theorem a6Z:UnR3 X (unaryOp .USub) b6k:=by
 intro pins s σ H x v Q2 I rx q
 obtain⟨a,M,Q,r1,hh,q,en⟩:=q
 unfold b6k at q
 split at q
 ·obtain rfl:=a0u r1
  exact b7N pins s σ H _ v Q2 I rx ⟨_,rfl,en _ _ M H Kp.refl hh a0p q⟩
 ·exact q.elim
theorem b4z:OpR X (binaryOp .Add) (fun x y H Q=>∃ a b ys,x=.ref a∧y=.ref b∧SqT X.K H a []∧SqT X.K H b ys∧Q (.ref b) H):=by
 intro pins s σ H x y v u Q I rx ry h
 obtain⟨a,b,ys,rfl,rfl,hx,hy,q⟩:=h
 cases rx
 cases ry
 obtain⟨its,r,ht,hz⟩:=I.tuple hx
 obtain⟨its2,r2,ht2,hz2⟩:=I.tuple hy
 have e:its=[]:=r.nil_iff.mpr rfl
 subst e
 obtain⟨⟨cls,dd,data,sl⟩,ho,hc,n,hd⟩:=id ht
 obtain⟨⟨cls2,dd2,data2,sl2⟩,ho2,hc2,n2,hd2⟩:=id ht2
 simp only at hc hd hc2 hd2
 subst hc hd hc2 hd2
 exact concat_meets ⟨_,ho,rfl⟩ ⟨_,ho2,rfl⟩ noFill_tuple_add seq_tuple_add PySem.F.slot_tuple_add PySem.F.entry_tuple_add (PySem.F.args_tuple_add_2 _ _)
   (tuple_addW0 a b _ its2.toArray n n2 dd dd2 sl sl2 (by simp)) ⟨ho,ho2,⟨.ref b,H,I,rfl,q⟩⟩
noncomputable def b6r:R3:=fun x y M Q=>match x,y with
 | .int i,.int j=>Q (.int (i+j)) M
 | .str a,.str b=>a.length+b.length≤sizeLine∧Q (.str (a++b)) M
 | .tup a,.tup b=>a.length+b.length≤sizeLine∧Q (.tup (a++b)) M
 | .adr p,.adr q=>match M p,M q with
   | some (.lst a),some (.lst b)=>a.length+b.length≤sizeLine∧∀ r,M r=none→Q (.adr r) (updM M r (.lst (a++b)))
   | _,_=>False
 | _,_=>False
theorem a0M:OpR3 X (binaryOp .Add) b6r:=by
 intro pins s σ H x y v u Q2 I rx ry q
 obtain⟨a,b,M,Q,r1,r2,hh,q,en⟩:=q
 unfold b6r at q
 split at q
 ·obtain rfl:=a0u r1
  obtain rfl:=a0u r2
  exact b8T pins s σ H _ _ v u Q2 I rx ry ⟨_,_,rfl,rfl,en _ _ M H Kp.refl hh a0p q⟩
 ·obtain rfl:=a3q r1
  obtain rfl:=a3q r2
  exact b1A pins s σ H _ _ v u Q2 I rx ry ⟨_,_,rfl,rfl,q.1,en _ _ M H Kp.refl hh a9y q.2⟩
 ·rename_i ts us
  obtain⟨p,xs,rfl,h1,h2⟩:=a2e r1
  obtain⟨p',ys,rfl,g1,g2⟩:=a2e r2
  have l1:=h2.length
  have l2:=g2.length
  by_cases hx:xs=[]
  ·subst hx
   have ht:ts=[]:=List.eq_nil_of_length_eq_zero (by rw[← l1];rfl)
   subst ht
   exact b4z pins s σ H _ _ v u Q2 I rx ry ⟨_,_,ys,rfl,rfl,h1,g1,en _ _ M H Kp.refl hh (a2j g1 g2) q.2⟩
  ·refine b6O pins s σ H _ _ v u Q2 I rx ry ⟨_,_,xs,ys,rfl,rfl,h1,g1,hx,by rw[l1,l2];exact q.1,fun hy=>?_,fun hy r hr=>?_⟩
   ·subst hy
    have ht:us=[]:=List.eq_nil_of_length_eq_zero (by rw[← l2];rfl)
    subst ht
    have q2:=q.2
    rw[List.append_nil] at q2
    exact en _ _ M H Kp.refl hh (a2j h1 h2) q2
   ·refine en _ _ M _ (Kp.new hr) (hh.keep hr) (a2j (SqT.of a0U) ?_) q.2
    exact Reps.kp (Kp.new hr) _ _ (h2.append g2)
 ·rename_i p p'
  obtain rfl:=a0G r1
  obtain rfl:=a0G r2
  split at q
  ·rename_i ts us e1 e2
   obtain⟨xs,h1,h2⟩:=hh _ _ e1
   obtain⟨ys,g1,g2⟩:=hh _ _ e2
   refine b8S pins s σ H _ _ v u Q2 I rx ry ⟨_,_,xs,ys,rfl,rfl,h1,g1,by rw[h2.length,g2.length];exact q.1,fun r hr=>?_⟩
   exact en _ _ _ _ (Kp.new hr) (hh.newL hr (h2.append g2)) a3b (q.2 r (hh.free hr))
  ·exact q.elim
 ·exact q.elim
end
theorem a5n:fillsNumberSlot (.type "tuple") "mul"=pure false :=
 PySem.fillsNumberSlot_seq (id:="tuple.__mul__") (r:=some (.builtin "tuple.__rmul__")) F.slot_tuple_mul.lookup (by decide +kernel) F.slot_tuple_rmul.lookup (by decide +kernel)
theorem a8l:seqRepeat? (.type "tuple")=pure (some (.builtin "tuple.__mul__")):=by
 unfold seqRepeat?
 rw[PySem.seqSlot_of (T:="tuple") (name:="__mul__") (id:="tuple.__mul__") F.slot_tuple_mul.lookup (by decide +kernel),PySem.seqSlot_of (T:="tuple") (name:="__rmul__") (id:="tuple.__rmul__") F.slot_tuple_rmul.lookup (by decide +kernel)]
 rfl
section
variable (l:Addr) (items:Array Value) (n:Nat) (x:Int) (u:Tok) (dd:Option Addr) (sl:Array (Option Value))
theorem a6n:Meets (Builtin.«int.__rmul__» ⟨[.int x u,.ref l],[]⟩) (fun _ R s=>s.heap.get? l=some { cls:=.type "tuple",dict:=dd,data:=.seq items n,slots:=sl }∧R (.ok (.ret Value.notImplemented)) s) :=
 .of_wp fun prog w A R s h=>by obtain⟨hp,g,d,tk,os⟩:=s;obtain⟨hl,h⟩:=h;wp_walk;exact⟨_,rfl,h⟩
theorem a9r (h0:-(2 ^ 63)≤x) (h1:x < 2 ^ 63) (hc:(items.isEmpty || x == 1)=true) :
  Meets (Builtin.«tuple.__mul__» ⟨[.ref l,.int x u],[]⟩) (fun _ R s=>s.heap.get? l=some { cls:=.type "tuple",dict:=dd,data:=.seq items n,slots:=sl }∧R (.ok (.ret (Value.ref l))) s) :=
 .of_wp fun prog w A R s h=>by
  obtain⟨hp,g,d,tk,os⟩:=s;obtain⟨hl,h⟩:=h
  have hb:¬(decide (x < -2 ^ 63) || decide (x ≥ 2 ^ 63))=true:=by simp;lia
  wp_walk
  rw[if_neg hb]
  wp_walk
  first | exact⟨_,rfl,h⟩ | (rw[if_pos hc];wp_walk;exact⟨_,rfl,h⟩)
theorem a9q (h0:-(2 ^ 63)≤x) (h1:x < 2 ^ 63) (hc:¬(items.isEmpty || x == 1)=true) (hn:(decide (x≤0) || items.isEmpty)=true) :
  Meets (Builtin.«tuple.__mul__» ⟨[.ref l,.int x u],[]⟩) (fun _ R s=>s.heap.get? l=some { cls:=.type "tuple",dict:=dd,data:=.seq items n,slots:=sl }∧R (.ok (.ret (Value.ref s.heap.objs.size))) { s with heap:=s.heap.push { cls:=.type "tuple",data:=.seq #[] },toks:=s.toks }) :=
 .of_wp fun prog w A R s h=>by
  obtain⟨hp,g,d,tk,os⟩:=s;obtain⟨hl,h⟩:=h
  have hb:¬(decide (x < -2 ^ 63) || decide (x ≥ 2 ^ 63))=true:=by simp;lia
  wp_walk
  rw[if_neg hb]
  wp_walk
  first | exact⟨_,rfl,h⟩ | (rw[if_neg hc,if_pos hn];wp_walk;exact⟨_,rfl,h⟩)
theorem a9p (h0:-(2 ^ 63)≤x) (h1:x < 2 ^ 63) (hc:¬(items.isEmpty || x == 1)=true) (hn:¬(decide (x≤0) || items.isEmpty)=true) (hm:¬items.size*x > (2 ^ 63 - 1) / 8) (hz:¬Builtin.Tuple.tupleTooMany (items.size*x)=true) (hf:sizeOk (.seq (List.foldl (fun x1 x2=>x1++x2) #[] (List.replicate x.toNat items)))) :
  Meets (Builtin.«tuple.__mul__» ⟨[.ref l,.int x u],[]⟩) (fun _ R s=>s.heap.get? l=some { cls:=.type "tuple",dict:=dd,data:=.seq items n,slots:=sl }∧R (.ok (.ret (Value.ref s.heap.objs.size))) { s with heap:=s.heap.push { cls:=.type "tuple",data:=.seq (List.foldl (fun x1 x2=>x1++x2) #[] (List.replicate x.toNat items)) },toks:=s.toks }) :=
 .of_wp fun prog w A R s h=>by
  obtain⟨hp,g,d,tk,os⟩:=s;obtain⟨hl,h⟩:=h
  have hb:¬(decide (x < -2 ^ 63) || decide (x ≥ 2 ^ 63))=true:=by simp;lia
  wp_walk
  rw[if_neg hb]
  wp_walk
  rw[if_neg hm]
  wp_walk
  first | exact⟨_,rfl,h⟩ | (rw[if_neg (Nat.not_lt.mpr hf)];wp_walk;exact⟨_,rfl,h⟩)
end
section
variable {X:Cx}
noncomputable def c0j (K:PySem.W.Frag):R2:=fun x y H Q=>∃ a k xs,x=.ref a∧y=.int k∧SqT K H a xs∧-(2 ^ 63)≤k∧k < 2 ^ 63∧xs.length*k.toNat≤sizeLine ∧
 ∀ p H',SqT K H' p (List.replicate k.toNat xs).flatten→(H'=H∨H p=none∧H'=upd H p (.tup (List.replicate k.toNat xs).flatten))→Q (.ref p) H'
theorem a6M (its:List Value) (m:Nat):List.foldl (fun x1 x2=>x1++x2) #[] (List.replicate m its.toArray)=(List.replicate m its).flatten.toArray:=by
 have:=a5W its m []
 rw[List.nil_append] at this
 exact this
theorem b6N:OpR X (binaryOp .Mult) (c0j X.K):=by
 intro pins s σ H x y v u Q I rx ry h
 obtain⟨a,k,xs,rfl,rfl,hx,h1,h2,hz,q⟩:=h
 cases rx
 obtain⟨t,rfl⟩:=ry
 obtain⟨its,r,p,hl⟩:=I.tuple hx
 have hlen:=r.length
 obtain⟨⟨cls,dd,data,sl⟩,ho,hc,n,hd⟩:=id p
 simp only at hc hd
 subst hc hd
 refine wpAny_binaryOp_repeat_ref (T:="tuple") (U:="int") (by decide) ⟨_,ho,rfl⟩ (fun s'=>typeIs_int s' k t) a5n F.fills_int_mul F.slot_int_rmul a8l F.slot_int_index.lookup
  (call_meets F.slot_int_rmul (typeIs_int s k t) F.entry_int_rmul (F.args_int_rmul_2 _ _) (a6n a its.toArray n k t dd sl) ⟨ho,rfl,⟨_,ho,rfl⟩,?_⟩)
 by_cases hc:(its.toArray.isEmpty || k == 1)=true
 ·refine call_meets F.slot_tuple_mul ⟨_,ho,rfl⟩ F.entry_tuple_mul (F.args_tuple_mul_2 _ _) (a9r a its.toArray n k t dd sl h1 h2 hc) ⟨ho,?_⟩
  have e:(List.replicate k.toNat xs).flatten=xs:=by
   simp only[Bool.or_eq_true,beq_iff_eq] at hc
   rcases hc with hc | hc
   ·have:its=[]:=by simpa using hc
    subst this
    cases r
    simp
   ·subst hc
    simp
  exact⟨.ref a,H,I,rfl,q a H (by rw[e];exact hx) (.inl rfl)⟩
 ·by_cases hn:(decide (k≤0) || its.toArray.isEmpty)=true
  ·refine call_meets F.slot_tuple_mul ⟨_,ho,rfl⟩ F.entry_tuple_mul (F.args_tuple_mul_2 _ _) (a9q a its.toArray n k t dd sl h1 h2 hc hn) ⟨ho,?_⟩
   have hk:k.toNat=0:=by
    simp only[Bool.or_eq_true,decide_eq_true_eq] at hn hc
    rcases hn with hn | hn
    ·lia
    ·exact absurd (.inl hn) hc
   have e:(List.replicate k.toNat xs).flatten=[]:=by rw[hk];rfl
   refine⟨.ref s.heap.objs.size,_,I.laid (t':=s.toks) (o:=.tup []) (fun b ob q=>Heap.get?_push_of_some _ q) (Nat.le_refl _) ?_,rfl,q _ _ ?_ (.inr ⟨I.hok.fresh (Nat.le_refl _),by rw[e]⟩)⟩
   ·exact⟨Nat.zero_le _,[],.nil,a3j.new _ _⟩
   ·rw[e];exact SqT.of a0U
  ·have hm:(its.toArray.size:Int)*k≤sizeLine:=by
    have:its.toArray.size=xs.length:=by rw[hlen];simp
    rw[this]
    have hk:(0:Int)≤k:=by
     simp only[Bool.or_eq_true,decide_eq_true_eq] at hn
     lia
    have e2:k=((k.toNat:Nat):Int):=by lia
    rw[e2,← Int.natCast_mul]
    exact_mod_cast hz
   have hz2:((List.replicate k.toNat its).flatten).length≤sizeLine:=by rw[a9L,Nat.mul_comm,← hlen];exact hz
   refine call_meets F.slot_tuple_mul ⟨_,ho,rfl⟩ F.entry_tuple_mul (F.args_tuple_mul_2 _ _) (a9p a its.toArray n k t dd sl h1 h2 hc hn ?_ ?_ ?_) ⟨ho,?_⟩
   ·have:(sizeLine:Int)≤(2 ^ 63 - 1) / 8:=by decide
    lia
   ·unfold Builtin.Tuple.tupleTooMany
    simp only[decide_eq_true_eq]
    lia
   ·rw[a6M]
    show (List.replicate k.toNat its).flatten.toArray.size≤sizeLine
    rw[List.size_toArray]
    exact hz2
   ·rw[a6M]
    refine⟨.ref s.heap.objs.size,_,I.laid (t':=s.toks) (o:=.tup (List.replicate k.toNat xs).flatten) (fun b ob q=>Heap.get?_push_of_some _ q) (Nat.le_refl _) ?_,rfl,q _ _ (SqT.of a0U) (.inr ⟨I.hok.fresh (Nat.le_refl _),rfl⟩)⟩
    exact⟨by rw[a9L,Nat.mul_comm];exact hz,_,r.rep k.toNat,a3j.new _ _⟩
end
theorem Reps.atI {K:PySem.W.Frag} {H:Hp} {vs:List V} {ts:List T} {i:Int} {t:T} (h:Reps K H vs ts) (e:atI ts i=some t):∃ v,L2.atI vs i=some v∧Rep K H v t:=by
 unfold L2.atI at e⊢
 rw[h.length]
 cases q:ixN ts.length i with
 | none=>rw[q] at e;cases e
 | some j=>rw[q] at e;exact h.get e
section
variable {X:Cx} {a b c e:Expr} {es:List Expr} {ta tb tc te:TE3} {pos:Pos}
noncomputable def rIx3:R3:=fun x y M Q=>match x,y with
 | .tup ts,.int i=>(match atI ts i with | some t=>Q t M | none=>False)
 | .rd ts,.int i=>(match atI ts i with | some t=>Q t M | none=>False)
 | .adr p,.int i=>(match M p with | some (.lst ts)=>(match atI ts i with | some t=>Q t M | none=>False) | _=>False)
 | .str z,.int i=>z.length≤sizeLine∧(match atI z.cps.toList i with | some c=>Q (.str ⟨#[c]⟩) M | none=>False)
 | _,_=>False
theorem a8G {K:PySem.W.Frag} {H:Hp} {v:V} {ts:List T} (r:Rep K H v (.rd ts)):∃ a xs,v=.ref a∧FzL K H a xs∧Reps K H xs ts:=by unfold Rep at r;exact r
theorem ix3:IxR3 X rIx3:=by
 intro value slice pins s σ H x y v u Q2 I rx ry q hs
 obtain⟨a,b,M,Q,r1,r2,hh,q,en⟩:=q
 unfold rIx3 at q
 split at q
 ·obtain rfl:=a0u r2
  obtain⟨p,xs,rfl,h1,h2⟩:=a2e r1
  split at q
  ·rename_i t e
   obtain⟨w,ew,rw'⟩:=h2.atI e
   exact b9d value slice pins s σ H _ _ v u Q2 I rx ry ⟨_,_,_,w,rfl,rfl,h1,ew,en _ _ M H Kp.refl hh rw' q⟩ hs
  ·exact q.elim
 ·obtain rfl:=a0u r2
  obtain⟨p,xs,rfl,h1,h2⟩:=a8G r1
  split at q
  ·rename_i t e
   obtain⟨w,ew,rw'⟩:=h2.atI e
   exact b2J value slice pins s σ H _ _ v u Q2 I rx ry ⟨_,_,_,w,rfl,rfl,h1.sq,ew,en _ _ M H Kp.refl hh rw' q⟩ hs
  ·exact q.elim
 ·obtain rfl:=a0u r2
  obtain rfl:=a0G r1
  split at q
  ·rename_i ts e0
   obtain⟨xs,h1,h2⟩:=hh _ _ e0
   split at q
   ·rename_i t e
    obtain⟨w,ew,rw'⟩:=h2.atI e
    exact b2J value slice pins s σ H _ _ v u Q2 I rx ry ⟨_,_,_,w,rfl,rfl,SqL.of h1,ew,en _ _ M H Kp.refl hh rw' q⟩ hs
   ·exact q.elim
  ·exact q.elim
 ·obtain rfl:=a0u r2
  obtain rfl:=a3q r1
  obtain⟨hz,q⟩:=q
  split at q
  ·rename_i c e
   exact b9e value slice pins s σ H _ _ v u Q2 I rx ry ⟨_,_,c,rfl,rfl,hz,e,en _ _ M H Kp.refl hh a9y q⟩ hs
  ·exact q.elim
 ·exact q.elim
theorem h_ix (ha:HE X a ta) (hb:HE X b tb) (hs:b3Q b:=by intro _ _;rfl):HE X (.Subscript a b pos) (tOp3 rIx3 ta tb):=fun ρ M Q h =>
 (c0q ix3 (ha.d (ρ:=ρ)) (hb.d (ρ:=ρ)) hs).imp fun σ H Q2 b=>dOp h b
noncomputable def b6l:R3:=fun x y M Q=>match x,y with
 | .int i,.int j=>CMul i j∧Q (.int (i*j)) M
 | .adr p,.int k=>(match M p with
   | some (.lst ts)=>-(2 ^ 63)≤k∧k < 2 ^ 63∧ts.length*k.toNat≤sizeLine∧∀ r,M r=none→Q (.adr r) (updM M r (.lst (List.replicate k.toNat ts).flatten))
   | _=>False)
 | .tup ts,.int k=>-(2 ^ 63)≤k∧k < 2 ^ 63∧ts.length*k.toNat≤sizeLine∧Q (.tup (List.replicate k.toNat ts).flatten) M
 | _,_=>False
theorem Reps.rep {K:PySem.W.Frag} {H:Hp} {vs:List V} {ts:List T} (h:Reps K H vs ts):∀ k:Nat,Reps K H (List.replicate k vs).flatten (List.replicate k ts).flatten
 | 0=>.nil
 | k+1=>by
   rw[List.replicate_succ,List.replicate_succ,List.flatten_cons,List.flatten_cons]
   exact Reps.append h (Reps.rep h k)
theorem a2d:OpR3 X (binaryOp .Mult) b6l:=by
 intro pins s σ H x y v u Q2 I rx ry q
 obtain⟨a,b,M,Q,r1,r2,hh,q,en⟩:=q
 unfold b6l at q
 split at q
 ·obtain rfl:=a0u r1
  obtain rfl:=a0u r2
  exact b8Q pins s σ H _ _ v u Q2 I rx ry ⟨_,_,rfl,rfl,q.1,en _ _ M H Kp.refl hh a0p q.2⟩
 ·obtain rfl:=a0G r1
  obtain rfl:=a0u r2
  split at q
  ·rename_i ts e0
   obtain⟨xs,h1,h2⟩:=hh _ _ e0
   obtain⟨q1,q2,q3,q4⟩:=q
   refine b8O pins s σ H _ _ v u Q2 I rx ry ⟨_,_,xs,rfl,rfl,h1,q1,q2,by rw[h2.length];exact q3,fun r hr=>?_⟩
   exact en _ _ _ _ (Kp.new hr) (hh.newL hr (h2.rep _)) a3b (q4 r (hh.free hr))
  ·exact q.elim
 ·obtain⟨l,xs,rfl,g1,g2⟩:=a2e r1
  obtain rfl:=a0u r2
  obtain⟨q1,q2,q3,q4⟩:=q
  refine b6N pins s σ H _ _ v u Q2 I rx ry ⟨_,_,xs,rfl,rfl,g1,q1,q2,by rw[g2.length];exact q3,fun r H' h' c=>?_⟩
  rcases c with rfl | ⟨c1,rfl⟩
  ·exact en _ _ _ _ Kp.refl hh (a2j h' (g2.rep _)) q4
  ·exact en _ _ _ _ (Kp.new c1) (hh.keep c1) (a2j h' (Reps.kp (Kp.new c1) _ _ (g2.rep _))) q4
 ·exact q.elim
noncomputable def a9A (g:Int→Int→Bool):R3:=fun x y M Q=>match x,y with
 | .int i,.int j=>Q (.bl (g i j)) M
 | _,_=>False
theorem a7q {f:Value→Value→Sem Value} {g:Int→Int→Bool} (h:OpR X f (rI0 fun i j=>.bl (g i j))):OpR3 X f (a9A g):=by
 intro pins s σ H x y v u Q2 I rx ry q
 obtain⟨a,b,M,Q,r1,r2,hh,q,en⟩:=q
 unfold a9A at q
 split at q
 ·obtain rfl:=a0u r1
  obtain rfl:=a0u r2
  exact h pins s σ H _ _ v u Q2 I rx ry ⟨_,_,rfl,rfl,en _ _ M H Kp.refl hh a3f q⟩
 ·exact q.elim
noncomputable def rLt3:R3:=a9A fun i j=>decide (i < j)
noncomputable def rLe3:R3:=a9A fun i j=>decide (i≤j)
noncomputable def rGt3:R3:=a9A fun i j=>decide (j < i)
noncomputable def rGe3:R3:=a9A fun i j=>decide (j≤i)
theorem b2A:OpR3 X (compareOp .Lt) rLt3:=a7q c0u
theorem a8q:OpR3 X (compareOp .LtE) rLe3:=a7q c0v
theorem a6B:OpR3 X (compareOp .Gt) rGt3:=a7q c0w
theorem b8U:OpR3 X (compareOp .GtE) rGe3:=a7q c0x
noncomputable def rEqv (g:Bool→Bool):R3:=fun x y M Q=>match x,y with
 | .adr p,.adr q=>(match M p,M q with
   | some (.lst a),some (.lst b)=>a2c a=true∧a2c b=true∧a4G a≤30∧Q (.bl (g (eqTs a b))) M
   | _,_=>False)
 | x,y=>a0B x=true∧a0B y=true∧depT x≤30∧Q (.bl (g (eqT x y))) M
noncomputable def rEq3:R3:=rEqv id
noncomputable def rNe3:R3:=rEqv not
theorem a8B {pins:List (Addr × Obj)} {σ:St} {H:Hp} {s:Shared} (I:Inv X pins σ H s) (hu:X.A.units+64 < cLine) {p p':Addr} {xs ys:List V} {ts us:List T} (h1:H p=some (.lst xs)) (h2:Reps X.K H xs ts) (g1:H p'=some (.lst ys)) (g2:Reps X.K H ys us)
  (px:a2c ts=true) (py:a2c us=true) (hd:a4G ts≤30) :
  SeqAt.RcAt X.A s (.ref p) (.ref p') (eqTs ts us)∧SeqAt.RcNeAt X.A s (.ref p) (.ref p') (!(eqTs ts us)):=by
 obtain⟨its,r1,pl,_⟩:=I.list (SqL.of h1)
 obtain⟨its2,r2,pl2,_⟩:=I.list (SqL.of g1)
 have l1:=h2.length
 have l2:=g2.length
 have m1:=r1.length
 have m2:=r2.length
 have hu':X.A.units < cLine:=by lia
 by_cases hl:its.length=its2.length
 ·have he:=b0I (X:=X) (A:=X.A.in1) (s:=s) (n:=30) px py hd h2 g2 r1 r2 fun x y v u a b hx px py rx ry ra rb=>(b3l I 30 X.A.in1 x y v u a b hx (by show X.A.units+1+30+1 < cLine;lia) px py rx ry ra rb).1
  have hsz:its.toArray.size=its2.toArray.size:=by simpa using hl
  have rc:=SeqAt.RcAt.lists (A:=X.A) pl.isList pl2.isList hsz hu' he
  have rn:=SeqAt.RcNeAt.lists (A:=X.A) pl.isList pl2.isList hsz hu' he
  have ee:(List.range its.toArray.size).all (eqJ ts us)=eqTs ts us:=by
   rw[← a4a,List.size_toArray,← l1,← l2,m1,m2,← hl]
   simp
  rw[ee] at rc rn
  exact⟨rc,rn⟩
 ·have hne:eqTs ts us=false:=by
   cases q:eqTs ts us with
   | false=>rfl
   | true=>have:=b0Q q;lia
  have hsz:(its.toArray.size != its2.toArray.size)=true:=by simpa using hl
  rw[hne]
  exact⟨SeqAt.RcAt.lists_lengths pl.isList pl2.isList hsz hu',SeqAt.RcNeAt.lists_lengths pl.isList pl2.isList hsz hu'⟩
theorem a4f (hu:X.A.units+64 < cLine):OpR3 X (compareOp .Eq) rEq3:=by
 intro pins s σ H x y v u Q2 I rx ry q
 obtain⟨a,b,M,Q,r1,r2,hh,q,en⟩:=q
 unfold rEq3 rEqv at q
 split at q
 ·rename_i p p'
  split at q
  ·rename_i ts us e1 e2
   obtain⟨xs,h1,h2⟩:=hh _ _ e1
   obtain⟨ys,g1,g2⟩:=hh _ _ e2
   obtain rfl:=a0G r1
   obtain rfl:=a0G r2
   cases rx
   cases ry
   exact (a8B I hu h1 h2 g1 g2 q.1 q.2.1 q.2.2.1).1 _ _ _ _ ⟨.bl _,H,I,rfl,en _ _ M H Kp.refl hh a3f q.2.2.2⟩
  ·exact q.elim
 ·obtain⟨q1,q2,q3,q⟩:=q
  exact (b3l I 30 X.A a b x y v u q3 (by lia) q1 q2 r1 r2 rx ry).2.1 _ _ _ _ ⟨.bl _,H,I,rfl,en _ _ M H Kp.refl hh a3f q⟩
theorem a6A (hu:X.A.units+64 < cLine):OpR3 X (compareOp .NotEq) rNe3:=by
 intro pins s σ H x y v u Q2 I rx ry q
 obtain⟨a,b,M,Q,r1,r2,hh,q,en⟩:=q
 unfold rNe3 rEqv at q
 split at q
 ·rename_i p p'
  split at q
  ·rename_i ts us e1 e2
   obtain⟨xs,h1,h2⟩:=hh _ _ e1
   obtain⟨ys,g1,g2⟩:=hh _ _ e2
   obtain rfl:=a0G r1
   obtain rfl:=a0G r2
   cases rx
   cases ry
   exact (a8B I hu h1 h2 g1 g2 q.1 q.2.1 q.2.2.1).2 _ _ _ _ ⟨.bl _,H,I,rfl,en _ _ M H Kp.refl hh a3f q.2.2.2⟩
  ·exact q.elim
 ·obtain⟨q1,q2,q3,q⟩:=q
  exact (b3l I 30 X.A a b x y v u q3 (by lia) q1 q2 r1 r2 rx ry).2.2 _ _ _ _ ⟨.bl _,H,I,rfl,en _ _ M H Kp.refl hh a3f q⟩
theorem a9P {op:CmpOp} {r:R3} (ho:OpR3 X (compareOp op) r) (ha:HE X a ta) (hb:HE X b tb) (hm:behindInMarks op b=false):HE X (.Compare a [op] [b] pos) (tOp3 r ta tb):=fun ρ M Q h =>
 (b6I ho (ha.d (ρ:=ρ)) (hb.d (ρ:=ρ)) hm).imp fun σ H Q2 b=>dOp h b
noncomputable def b1Z (t:TE3):TT3:=fun ρ M Q=>t ρ M fun x M1=>match x with
 | .bl k=>Q k M1
 | _=>False
theorem b0S {K:PySem.W.Frag} {H:Hp} {Q:Bool→MH→Prop} {Q2:Bool→Hp→Prop} (en:EndT K H Q Q2):EndE K H (fun x M1=>match x with | .bl k=>Q k M1 | _=>False) (fun x H'=>∃ k,x=.bl k∧Q2 k H'):=by
 intro t v M' H' k h r q
 split at q
 ·obtain rfl:=a4C r
  exact⟨_,rfl,en _ M' H' k h q⟩
 ·exact q.elim
theorem a2f {op:CmpOp} {r:R3} (ho:OpR3 X (compareOp op) r) (ha:HE X a ta) (hb:HE X b tb) (hm:behindInMarks op b=false):HT X (.Compare a [op] [b] pos) (b1Z (tOp3 r ta tb)):=fun ρ M Q h =>
 (b6w ho (ha.d (ρ:=ρ)) (hb.d (ρ:=ρ)) hm).imp fun σ H Q2 ⟨hr,hh,en⟩=>dOp (ta:=ta) (tb:=tb) (r:=r) h ⟨hr,hh,b0S en⟩
noncomputable def a7b (r r':R3) (ta tb tc:TE3):TE3:=fun ρ M Q=>ta ρ M fun x M1=>tb ρ M1 fun y M2=>r x y M2 fun z M3=>match z with
 | .bl k=>(if k=true then tc ρ M3 fun w M4=>r' y w M4 Q else Q (.bl false) M3)
 | _=>False
theorem b5G {ρ:En} {M:MH} {Q:VK3} {r r':R3} (h:a7b r r' ta tb tc ρ M Q) {σ:St} {H:Hp} {Q2:VK} (b:bE X.K ρ M Q σ H Q2):b2a (dR X.K r) (dR X.K r') (dE X.K ρ ta) (dE X.K ρ tb) (dE X.K ρ tc) σ H Q2:=by
 obtain⟨hr,hh,en⟩:=b
 refine⟨M,_,h,hr,hh,fun t v M1 H1 k1 h1 r1 q1=>⟨M1,_,q1,hr.kp k1,h1,fun t2 v2 M2 H2 k2 h2 r2 q2=>⟨t,t2,M2,_,Rep.kp k2 _ _ r1,r2,h2,q2,fun z v3 M3 H3 k3 h3 r3 q3=>?_⟩⟩⟩
 split at q3
 ·rename_i k
  obtain rfl:=a4C r3
  refine⟨k,rfl,?_⟩
  have kk:=k1.trans (k2.trans k3)
  split
  ·rename_i hk
   rw[if_pos hk] at q3
   exact⟨M3,_,q3,hr.kp kk,h3,fun t4 v4 M4 H4 k4 h4 r4 q4=>⟨t2,t4,M4,Q,Rep.kp (k3.trans k4) _ _ r2,r4,h4,q4,en.kp (kk.trans k4)⟩⟩
  ·rename_i hk
   rw[if_neg hk] at q3
   exact en _ _ M3 H3 kk h3 a3f q3
 ·exact q3.elim
theorem b7e {op op':CmpOp} {r r':R3} (ho:OpR3 X (compareOp op) r) (ho':OpR3 X (compareOp op') r') (ha:HE X a ta) (hb:HE X b tb) (hc:HE X c tc)
  (hm:lastMarks [op,op'] [b,c]=false:=by with_unfolding_all rfl):HE X (.Compare a [op,op'] [b,c] pos) (a7b r r' ta tb tc):=fun ρ M Q h =>
 (b4v ho ho' (ha.d (ρ:=ρ)) (hb.d (ρ:=ρ)) (hc.d (ρ:=ρ)) hm).imp fun σ H Q2 b=>b5G h b
theorem b0K {op op':CmpOp} {r r':R3} (ho:OpR3 X (compareOp op) r) (ho':OpR3 X (compareOp op') r') (ha:HE X a ta) (hb:HE X b tb) (hc:HE X c tc)
  (hm:lastMarks [op,op'] [b,c]=false:=by with_unfolding_all rfl):HT X (.Compare a [op,op'] [b,c] pos) (b1Z (a7b r r' ta tb tc)):=fun ρ M Q h =>
 (b4o ho ho' (ha.d (ρ:=ρ)) (hb.d (ρ:=ρ)) (hc.d (ρ:=ρ)) hm).imp fun σ H Q2 ⟨hr,hh,en⟩=>b5G (ta:=ta) (tb:=tb) (tc:=tc) (r:=r) (r':=r') h ⟨hr,hh,b0S en⟩
noncomputable def truT (M:MH):T→Option Bool
 | .non=>some false
 | .bl b=>some b
 | .int i=>some (i != 0)
 | .str y=>if y.length≤sizeLine then some (decide (y.length≠0)) else none
 | .tup ts=>some (!ts.isEmpty)
 | .rd ts=>some (!ts.isEmpty)
 | .dic _ _=>none
 | .adr p=>match M p with
   | some (.lst ts)=>some (!ts.isEmpty)
   | _=>none
noncomputable def b7T (te:TE3):TT3:=fun ρ M Q=>te ρ M fun x M1=>match truT M1 x with
 | some k=>Q k M1
 | none=>False
theorem a7N {K:PySem.W.Frag} {H:Hp} {xs:List V} {ts:List T} (h:Reps K H xs ts):(!xs.isEmpty)=!ts.isEmpty:=by
 have:=h.length
 cases xs<;>cases ts<;>first | rfl | (simp at this)
theorem a3I (ha:HE X a ta) (he:∀ whole,isTrue a X.env whole=(do let v ← whole;standAt a.pos;holding [v] (truthy v)):=by intro _;rfl):HT X a (b7T ta):=fun ρ M Q h =>
 (b4n (ha.d (ρ:=ρ)) he).imp fun σ H Q2 ⟨hr,hh,en⟩=>⟨M,_,h,hr,hh,fun t v M1 H1 k1 h1 r1 q1=>by
  have fin:∀ k,truT M1 t=some k→Q2 k H1:=fun k e=>by
   have q:(match truT M1 t with | some k=>Q k M1 | none=>False):=q1
   rw[e] at q
   exact en k M1 H1 k1 h1 q
  cases t with
  | non=>obtain rfl:=b2O r1;exact⟨false,rfl,fin _ rfl⟩
  | bl b=>obtain rfl:=a4C r1;exact⟨b,rfl,fin _ rfl⟩
  | int i=>obtain rfl:=a0u r1;exact⟨_,rfl,fin _ rfl⟩
  | str y =>
    obtain rfl:=a3q r1
    by_cases hy:y.length≤sizeLine
    ·refine⟨_,⟨hy,rfl⟩,fin _ ?_⟩
     show (if y.length≤sizeLine then some (decide (y.length≠0)) else none)=_
     rw[if_pos hy]
     congr 1
     by_cases h0:y.length=0
     ·rw[h0];rfl
     ·have:((y.length:Int) != 0)=true:=by simpa using h0
      rw[this];simpa using h0
    ·have q:(match truT M1 (.str y) with | some k=>Q k M1 | none=>False):=q1
     have e:truT M1 (.str y)=none:=if_neg hy
     rw[e] at q
     exact q.elim
  | tup ts =>
    obtain⟨p,xs,rfl,g1,g2⟩:=a2e r1
    exact⟨!xs.isEmpty,.inr (.inl ⟨xs,g1,rfl⟩),fin _ (by rw[a7N g2];rfl)⟩
  | rd ts =>
    obtain⟨p,xs,rfl,g1,g2⟩:=a8G r1
    exact⟨!xs.isEmpty,.inl ⟨xs,g1.sq,rfl⟩,fin _ (by rw[a7N g2];rfl)⟩
  | dic ks ts =>
    have q:(match truT M1 (.dic ks ts) with | some k=>Q k M1 | none=>False):=q1
    exact q.elim
  | adr p =>
    obtain rfl:=a0G r1
    cases e0:M1 p with
    | none =>
      have q:(match truT M1 (.adr p) with | some k=>Q k M1 | none=>False):=q1
      have e:truT M1 (.adr p)=none:=by show (match M1 p with | some (.lst ts)=>some (!ts.isEmpty) | _=>none)=none;rw[e0]
      rw[e] at q
      exact q.elim
    | some o =>
      cases o with
      | lst ts =>
        obtain⟨xs,g1,g2⟩:=h1 _ _ e0
        exact⟨!xs.isEmpty,.inl ⟨xs,SqL.of g1,rfl⟩,fin _ (by show (match M1 p with | some (.lst ts)=>some (!ts.isEmpty) | _=>none)=_;rw[e0,a7N g2])⟩
      | dk kvs =>
        have q:(match truT M1 (.adr p) with | some k=>Q k M1 | none=>False):=q1
        have e:truT M1 (.adr p)=none:=by show (match M1 p with | some (.lst ts)=>some (!ts.isEmpty) | _=>none)=none;rw[e0]
        rw[e] at q
        exact q.elim
      | dt kvs =>
        have q:(match truT M1 (.adr p) with | some k=>Q k M1 | none=>False):=q1
        have e:truT M1 (.adr p)=none:=by show (match M1 p with | some (.lst ts)=>some (!ts.isEmpty) | _=>none)=none;rw[e0]
        rw[e] at q
        exact q.elim
      | fz kvs =>
        have q:(match truT M1 (.adr p) with | some k=>Q k M1 | none=>False):=q1
        have e:truT M1 (.adr p)=none:=by show (match M1 p with | some (.lst ts)=>some (!ts.isEmpty) | _=>none)=none;rw[e0]
        rw[e] at q
        exact q.elim
      | fk kvs =>
        have q:(match truT M1 (.adr p) with | some k=>Q k M1 | none=>False):=q1
        have e:truT M1 (.adr p)=none:=by show (match M1 p with | some (.lst ts)=>some (!ts.isEmpty) | _=>none)=none;rw[e0]
        rw[e] at q
        exact q.elim⟩
end
section
variable {X:Cx} {a b c e:Expr} {es rest:List Expr} {ta tb tc te:TE3} {tA tB:TT3} {t:TA3} {pos:Pos}
noncomputable def HW (X:Cx) (e:Expr) (t:TT3):Prop:=∀ ρ M Q,t ρ M Q→PW X e (bT X.K ρ M Q)
theorem HW.d {t:TT3} {ρ:En} (h:HW X e t):PW X e (dT X.K ρ t):=fun wh pins s σ H Q I ⟨M,Q3,q,b⟩=>h ρ M Q3 q wh pins s σ H Q I b
theorem PW.imp {t t':TT} (h:PW X e t) (f:∀ σ H Q,t' σ H Q→t σ H Q):PW X e t':=fun wh pins s σ H Q I q=>h wh pins s σ H Q I (f σ H Q q)
theorem HW.ht {t:TT3} (h:HW X e t):HT X e t:=fun ρ M Q q=>(h ρ M Q q).pt
noncomputable def b8f (t u:TT3):TT3:=fun ρ M Q=>t ρ M fun c M1=>if c=true then u ρ M1 Q else Q false M1
noncomputable def tOr3 (t u:TT3):TT3:=fun ρ M Q=>t ρ M fun c M1=>if c=true then Q true M1 else u ρ M1 Q
noncomputable def b7W (t:TT3):TT3:=fun ρ M Q=>t ρ M fun c M1=>Q (!c) M1
theorem a9M (ha:HT X a tA):HT X (.UnaryOp .Not a pos) (b7W tA):=fun ρ M Q h =>
 (b8y (ha.d (ρ:=ρ))).imp fun σ H Q2 ⟨hr,hh,en⟩=>⟨M,_,h,hr,hh,fun b M1 H1 k1 h1 q1=>en _ M1 H1 k1 h1 q1⟩
theorem b7L (ha:HT X a tA):HW X (.BoolOp .And [a] pos) tA:=fun ρ M Q h=>(b6t (ha.d (ρ:=ρ))).imp fun σ H Q2 b=>⟨M,Q,h,b⟩
theorem b7K (ha:HT X a tA):HW X (.BoolOp .Or [a] pos) tA:=fun ρ M Q h=>(b8w (ha.d (ρ:=ρ))).imp fun σ H Q2 b=>⟨M,Q,h,b⟩
theorem b9U (ha:HT X a tA) (hb:HW X (.BoolOp .And (b :: rest) pos) tB):HW X (.BoolOp .And (a :: b :: rest) pos) (b8f tA tB):=fun ρ M Q h =>
 (b8x (ha.d (ρ:=ρ)) (hb.d (ρ:=ρ))).imp fun σ H Q2 ⟨hr,hh,en⟩=>⟨M,_,h,hr,hh,fun b M1 H1 k1 h1 q1=>by
  dsimp only at q1⊢
  split
  ·rename_i hb;rw[if_pos hb] at q1
   exact⟨M1,Q,q1,hr.kp k1,h1,fun b' M2 H2 k2=>en b' M2 H2 (k1.trans k2)⟩
  ·rename_i hb;rw[if_neg hb] at q1
   exact en _ M1 H1 k1 h1 q1⟩
theorem w_or (ha:HT X a tA) (hb:HW X (.BoolOp .Or (b :: rest) pos) tB):HW X (.BoolOp .Or (a :: b :: rest) pos) (tOr3 tA tB):=fun ρ M Q h =>
 (c0m (ha.d (ρ:=ρ)) (hb.d (ρ:=ρ))).imp fun σ H Q2 ⟨hr,hh,en⟩=>⟨M,_,h,hr,hh,fun b M1 H1 k1 h1 q1=>by
  dsimp only at q1⊢
  split
  ·rename_i hb;rw[if_pos hb] at q1
   exact en _ M1 H1 k1 h1 q1
  ·rename_i hb;rw[if_neg hb] at q1
   exact⟨M1,Q,q1,hr.kp k1,h1,fun b' M2 H2 k2=>en b' M2 H2 (k1.trans k2)⟩⟩
noncomputable def b5v (ta tb:TE3):TE3:=fun ρ M Q=>ta ρ M fun x M1=>match x with
 | .bl c=>(if c=true then tb ρ M1 Q else Q (.bl false) M1)
 | _=>False
noncomputable def b5p (ta:TE3):TE3:=fun ρ M Q=>ta ρ M fun x M1=>match x with
 | .bl c=>Q (.bl (!c)) M1
 | _=>False
theorem c0D {op} (ha:HE X a ta):HE X (.BoolOp op [a] pos) ta:=fun ρ M Q h=>b8I (ha ρ M Q h)
theorem c0E (ha:HE X a ta) (hb:HE X (.BoolOp .And (b :: rest) pos) tb):HE X (.BoolOp .And (a :: b :: rest) pos) (b5v ta tb):=fun ρ M Q h =>
 (b8M (ha.d (ρ:=ρ)) (hb.d (ρ:=ρ))).imp fun σ H Q2 ⟨hr,hh,en⟩=>⟨M,_,h,hr,hh,fun x v M1 H1 k1 h1 r1 q1=>by
  dsimp only at q1⊢
  split at q1
  ·rename_i c
   obtain rfl:=a4C r1
   refine⟨c,rfl,?_⟩
   split
   ·rename_i hc;rw[if_pos hc] at q1
    exact⟨M1,Q,q1,hr.kp k1,h1,en.kp k1⟩
   ·rename_i hc;rw[if_neg hc] at q1
    exact en _ _ M1 H1 k1 h1 a3f q1
  ·exact q1.elim⟩
theorem b9m (ha:HE X a ta):HE X (.UnaryOp .Not a pos) (b5p ta):=fun ρ M Q h =>
 (b8J (ha.d (ρ:=ρ))).imp fun σ H Q2 ⟨hr,hh,en⟩=>⟨M,_,h,hr,hh,fun x v M1 H1 k1 h1 r1 q1=>by
  dsimp only at q1⊢
  split at q1
  ·rename_i c
   obtain rfl:=a4C r1
   exact⟨c,rfl,en _ _ M1 H1 k1 h1 a3f q1⟩
  ·exact q1.elim⟩
noncomputable def tIf3 (t:TT3) (ta tb:TE3):TE3:=fun ρ M Q=>t ρ M fun c M1=>if c=true then ta ρ M1 Q else tb ρ M1 Q
theorem b7d (hc:HT X c tA) (ha:HE X a ta) (hb:HE X b tb):HE X (.IfExp c a b pos) (tIf3 tA ta tb):=fun ρ M Q h =>
 (b4s (hc.d (ρ:=ρ)) (ha.d (ρ:=ρ)) (hb.d (ρ:=ρ))).imp fun σ H Q2 ⟨hr,hh,en⟩=>⟨M,_,h,hr,hh,fun b M1 H1 k1 h1 q1=>by
  dsimp only at q1⊢
  split
  ·rename_i hb;rw[if_pos hb] at q1
   exact⟨M1,Q,q1,hr.kp k1,h1,en.kp k1⟩
  ·rename_i hb;rw[if_neg hb] at q1
   exact⟨M1,Q,q1,hr.kp k1,h1,en.kp k1⟩⟩
noncomputable def b7X:TA3:=fun _ M Q=>Q [] M
noncomputable def b0k (ta:TE3) (tr:TA3):TA3:=fun ρ M Q=>ta ρ M fun x M1=>tr ρ M1 fun xs M2=>Q (x :: xs) M2
theorem a0h:HA X [] b7X:=fun ρ M Q h=>b2y.imp fun σ H Q2 ⟨hr,hh,en⟩=>en [] [] M H Kp.refl hh .nil h
theorem a0b (ha:HE X a ta) (hr:HA X es t) (hs:starEach (a :: es) X.env=(false,eval a X.env) :: starEach es X.env:=by rfl):HA X (a :: es) (b0k ta t):=fun ρ M Q h =>
 (a7o (ha.d (ρ:=ρ)) (hr.d (ρ:=ρ)) hs).imp fun σ H Q2 ⟨hr,hh,en⟩=>⟨M,_,h,hr,hh,fun x v M1 H1 k1 h1 r1 q1=>⟨M1,_,q1,hr.kp k1,h1,fun ts vs M2 H2 k2 h2 r2 q2 =>
  en _ _ M2 H2 (k1.trans k2) h2 (.cons (Rep.kp k2 _ _ r1) r2) q2⟩⟩
noncomputable def b7S (t:TA3):TE3:=fun ρ M Q=>t ρ M fun xs M1=>xs.length≤sizeLine∧Q (.tup xs) M1
noncomputable def b7Y (t:TA3):TE3:=fun ρ M Q=>t ρ M fun xs M1=>xs.length≤sizeLine∧∀ p,M1 p=none→Q (.adr p) (updM M1 p (.lst xs))
theorem b2V {x1} (h:HA X es t):HE X (.Tuple es x1 pos) (b7S t):=fun ρ M Q q =>
 (b8H (h.d (ρ:=ρ))).imp fun σ H Q2 ⟨hr,hh,en⟩=>⟨M,_,q,hr,hh,fun ts vs M1 H1 k1 h1 r1 q1 =>
  ⟨by rw[r1.length];exact q1.1,fun p hp=>en _ _ M1 _ (k1.trans (Kp.new hp)) (h1.keep hp) (a2j (SqT.of a0U) (Reps.kp (Kp.new hp) _ _ r1)) q1.2⟩⟩
theorem a6o (h:HA X es t):HE X (.List es pos) (b7Y t):=fun ρ M Q q =>
 (b8K (h.d (ρ:=ρ))).imp fun σ H Q2 ⟨hr,hh,en⟩=>⟨M,_,q,hr,hh,fun ts vs M1 H1 k1 h1 r1 q1 =>
  ⟨by rw[r1.length];exact q1.1,fun p hp=>en _ _ _ _ (k1.trans (Kp.new hp)) (h1.newL hp r1) a3b (q1.2 p (h1.free hp))⟩⟩
noncomputable abbrev Sp3:=List T→MH→VK3→Prop
noncomputable def dSp (K:PySem.W.Frag) (sp:Sp3):Sp:=fun vs H Q2 _=>∃ ts M Q,Reps K H vs ts∧HR K H M∧sp ts M Q∧EndE K H Q Q2
structure Df (P:Program) (w:World) (K:PySem.W.Frag) (mg:Str→Option Value) (base:Heap) (n:Nat) (x:Str) (ps:List Str) (sp:Sp3):Prop where
 out:∃ f fd,FnOk P w K mg base CX0 n f fd ps (dSp K sp)∧mg x=some (.ref f)∧PySem.W.keepIn K (.ref f)=true∧a1x K fd ps []
theorem Df.mono {P:Program} {w:World} {K:PySem.W.Frag} {mg:Str→Option Value} {base:Heap} {n m:Nat} {x:Str} {ps:List Str} {sp:Sp3} (D:Df P w K mg base n x ps sp) (h:n≤m):Df P w K mg base m x ps sp:=by
 obtain⟨f,fd,F,a,b,c⟩:=D.out
 exact⟨f,fd,F.mono h,a,b,c⟩
noncomputable def b5u (sp:Sp3) (t:TA3):TE3:=fun ρ M Q=>t ρ M fun ts M1=>sp ts M1 Q
theorem a0o {n:Nat} {x:Str} {ps:List Str} {sp:Sp3} {p:Pos} (D:Df X.prog X.w X.K X.mg X.base n x ps sp) (hr:Room n X.A) (ha:HA X (e :: es) t) (hg:Gl X x:=by rfl) (hdb:(x == ("__debug__":Str))=false:=by decide)
  (he:starEach (e :: es) X.env=(false,eval e X.env) :: starEach es X.env:=by rfl) (hpl:(backTo pos (starEach es X.env)).any (·.1)=false:=by rfl) :
  HE X (.Call (.Name x p) (e :: es) [] pos) (b5u sp t):=fun ρ M Q h=>by
 obtain⟨f,fd,F,hm,hk,hb⟩:=D.out
 exact (b6J F hr hg hm hk hb .nil c0t (ha.d (ρ:=ρ)) hdb he hpl).imp fun σ H Q2 ⟨hr,hh,en⟩=>⟨M,_,h,hr,hh,fun ts vs M1 H1 k1 h1 r1 q1 =>
  ⟨ts,M1,Q,by rw[List.append_nil];exact r1,h1,q1,en.kp k1⟩⟩
noncomputable def tCB3 (r:List T→MH→VK3→Prop) (t:TA3):TE3:=fun ρ M Q=>t ρ M fun ts M1=>r ts M1 Q
theorem a1M {x:Str} {id:String} {r:List T→MH→VK3→Prop} {p:Pos} (hc:a4h X (.builtin id) r) (hm:X.mg x=none) (hv:bootBuiltins x=some (.builtin id)) (ha:HA X (e :: es) t) (hg:Gl X x:=by rfl) (hn:x≠"__name__":=by decide) (hdb:(x == ("__debug__":Str))=false:=by decide)
  (he:starEach (e :: es) X.env=(false,eval e X.env) :: starEach es X.env:=by rfl) (hpl:(backTo pos (starEach es X.env)).any (·.1)=false:=by rfl):HE X (.Call (.Name x p) (e :: es) [] pos) (tCB3 r t):=fun ρ M Q h =>
 (b4w hc hg hm hv (ha.d (ρ:=ρ)) hn hdb he hpl).imp fun σ H Q2 ⟨hr,hh,en⟩=>⟨M,_,h,hr,hh,fun ts vs M1 H1 k1 h1 r1 q1=>⟨ts,M1,Q,r1,h1,q1,en.kp k1⟩⟩
theorem a4X {x:Str} {ty:String} {r:List T→MH→VK3→Prop} {p:Pos} (hc:a4h X (.type ty) r) (hm:X.mg x=none) (hv:bootBuiltins x=some (.type ty)) (ha:HA X (e :: es) t) (hg:Gl X x:=by rfl) (hn:x≠"__name__":=by decide) (hdb:(x == ("__debug__":Str))=false:=by decide)
  (he:starEach (e :: es) X.env=(false,eval e X.env) :: starEach es X.env:=by rfl) (hpl:(backTo pos (starEach es X.env)).any (·.1)=false:=by rfl):HE X (.Call (.Name x p) (e :: es) [] pos) (tCB3 r t):=fun ρ M Q h =>
 (b2x hc hg hm hv (ha.d (ρ:=ρ)) hn hdb he hpl).imp fun σ H Q2 ⟨hr,hh,en⟩=>⟨M,_,h,hr,hh,fun ts vs M1 H1 k1 h1 r1 q1=>⟨ts,M1,Q,r1,h1,q1,en.kp k1⟩⟩
end
section
variable {X:Cx}
theorem a3o {K:PySem.W.Frag} {H:Hp} {vs:List V} {x:T} (r:Reps K H vs [x]):∃ v,vs=[v]∧Rep K H v x:=by
 unfold Reps at r
 obtain⟨v,w,rfl,h,r⟩:=r
 unfold Reps at r
 subst r
 exact⟨v,rfl,h⟩
theorem b2l {K:PySem.W.Frag} {H:Hp} {vs:List V} {x y:T} (r:Reps K H vs [x,y]):∃ v w,vs=[v,w]∧Rep K H v x∧Rep K H w y:=by
 unfold Reps at r
 obtain⟨v,r',rfl,h,r⟩:=r
 obtain⟨w,rfl,h'⟩:=a3o r
 exact⟨v,w,rfl,h,h'⟩
noncomputable def b6m:List T→MH→VK3→Prop:=fun xs M Q=>match xs with
 | [.tup ts]=>Q (.int ts.length) M
 | [.rd ts]=>Q (.int ts.length) M
 | [.adr p]=>(match M p with | some (.lst ts)=>Q (.int ts.length) M | _=>False)
 | [.str z]=>z.length≤sizeLine∧Q (.int z.length) M
 | _=>False
theorem a2S:a4h X (.builtin "len") b6m:=by
 intro pins s σ H vs us Q2 I r h
 obtain⟨xs,M,Q,rr,hh,q,en⟩:=h
 unfold b6m at q
 split at q
 ·obtain⟨v,rfl,r1⟩:=a3o rr
  obtain⟨p,ys,rfl,g1,g2⟩:=a2e r1
  exact a3M pins s σ H _ us Q2 I r ⟨p,ys,rfl,.inr g1,by rw[g2.length];exact en _ _ M H Kp.refl hh a0p q⟩
 ·obtain⟨v,rfl,r1⟩:=a3o rr
  obtain⟨p,ys,rfl,g1,g2⟩:=a8G r1
  exact a3M pins s σ H _ us Q2 I r ⟨p,ys,rfl,.inl g1.sq,by rw[g2.length];exact en _ _ M H Kp.refl hh a0p q⟩
 ·obtain⟨v,rfl,r1⟩:=a3o rr
  obtain rfl:=a0G r1
  split at q
  ·rename_i ts e0
   obtain⟨ys,g1,g2⟩:=hh _ _ e0
   exact a3M pins s σ H _ us Q2 I r ⟨_,ys,rfl,.inl (SqL.of g1),by rw[g2.length];exact en _ _ M H Kp.refl hh a0p q⟩
  ·exact q.elim
 ·obtain⟨v,rfl,r1⟩:=a3o rr
  obtain rfl:=a3q r1
  exact a8Z pins s σ H _ us Q2 I r ⟨_,rfl,q.1,en _ _ M H Kp.refl hh a0p q.2⟩
 ·exact q.elim
noncomputable def b6s:List T→MH→VK3→Prop:=fun xs M Q=>match xs with
 | [.int i]=>Q (.int i.natAbs) M
 | _=>False
theorem a3N:a4h X (.builtin "abs") b6s:=by
 intro pins s σ H vs us Q2 I r h
 obtain⟨xs,M,Q,rr,hh,q,en⟩:=h
 unfold b6s at q
 split at q
 ·rename_i i
  obtain⟨v,rfl,r1⟩:=a3o rr
  obtain rfl:=a0u r1
  refine b5j pins s σ H _ us Q2 I r ⟨_,rfl,en _ _ M H Kp.refl hh ?_ q⟩
  have e:(if i < 0 then -i else i)=(i.natAbs:Int):=by split<;>lia
  rw[e];exact a0p
 ·exact q.elim
noncomputable def a9z:List T→MH→VK3→Prop:=fun xs M Q=>match xs with
 | [.tup ts]=>Q (.tup ts) M
 | [.rd ts]=>Q (.tup ts) M
 | [.adr p]=>(match M p with | some (.lst ts)=>Q (.tup ts) M | _=>False)
 | _=>False
theorem a6f:a4h X (.type "tuple") a9z:=by
 intro pins s σ H vs us Q2 I r h
 obtain⟨xs,M,Q,rr,hh,q,en⟩:=h
 unfold a9z at q
 split at q
 ·obtain⟨v,rfl,r1⟩:=a3o rr
  obtain⟨p,ys,rfl,g1,g2⟩:=a2e r1
  exact a3u pins s σ H _ us Q2 I r ⟨p,ys,rfl,.inr ⟨g1,en _ _ M H Kp.refl hh r1 q⟩⟩
 ·obtain⟨v,rfl,r1⟩:=a3o rr
  obtain⟨p,ys,rfl,g1,g2⟩:=a8G r1
  exact a3u pins s σ H _ us Q2 I r ⟨p,ys,rfl,.inl ⟨g1.sq,fun l hl=>en _ _ M _ (Kp.new hl) (hh.keep hl) (a2j (SqT.of a0U) (Reps.kp (Kp.new hl) _ _ g2)) q⟩⟩
 ·obtain⟨v,rfl,r1⟩:=a3o rr
  obtain rfl:=a0G r1
  split at q
  ·rename_i ts e0
   obtain⟨ys,g1,g2⟩:=hh _ _ e0
   exact a3u pins s σ H _ us Q2 I r ⟨_,ys,rfl,.inl ⟨SqL.of g1,fun l hl=>en _ _ M _ (Kp.new hl) (hh.keep hl) (a2j (SqT.of a0U) (Reps.kp (Kp.new hl) _ _ g2)) q⟩⟩
  ·exact q.elim
 ·exact q.elim
noncomputable def b6n:List T→MH→VK3→Prop:=fun xs M Q=>match xs with
 | [.int i]=>Q (.int i) M
 | [.bl k]=>Q (.int (if k=true then 1 else 0)) M
 | [.str x]=>∃ n,PySem.intText? x=some n∧x.length≤640∧Q (.int n) M
 | _=>False
theorem a6g:a4h X (.type "int") b6n:=by
 intro pins s σ H vs us Q2 I r h
 obtain⟨xs,M,Q,rr,hh,q,en⟩:=h
 unfold b6n at q
 split at q
 ·obtain⟨v,rfl,r1⟩:=a3o rr
  obtain rfl:=a0u r1
  exact a9a pins s σ H _ us Q2 I r (.inl ⟨_,rfl,en _ _ M H Kp.refl hh a0p q⟩)
 ·obtain⟨v,rfl,r1⟩:=a3o rr
  obtain rfl:=a4C r1
  exact a9a pins s σ H _ us Q2 I r (.inr ⟨_,rfl,en _ _ M H Kp.refl hh a0p q⟩)
 ·obtain⟨n,hn,hl,q⟩:=q
  obtain⟨v,rfl,r1⟩:=a3o rr
  obtain rfl:=a3q r1
  obtain⟨u,rfl,ru⟩:=a5i r
  obtain⟨t,rfl⟩:=ru
  exact PySem.W.KIN.call_text hn hl ⟨.int n,H,I.kept fun b o e=>e,⟨_,rfl⟩,en _ _ M H Kp.refl hh a0p q⟩
 ·exact q.elim
theorem a6p (hc:X.calm=true):a6q X (.builtin "all") (fun xs H Q=>∃ (p:Addr) (bs:List Bool),xs=[.ref p]∧SqL X.K H p (bs.map V.bl)∧Q (.bl (bs.all id)) H):=by
 intro pins s σ H xs us Q I r h
 obtain⟨p,bs,rfl,hq,q⟩:=h
 obtain⟨u,rfl,rx⟩:=a5i r
 cases rx
 obtain⟨its,r',pl,hz⟩:=I.list hq
 have hlen:=r'.length
 refine call_all_walk (wpAny_pyIter_list pl.isList ?_)
 have hp:p < s.heap.objs.size:=by obtain⟨o,n,e,_⟩:=pl;exact Heap.lt_size e
 refine⟨s.heap.objs.size,_,_,_,_,_,fun i=>(bs[i]?).getD true,rfl,Walks.list (A:=X.A.in1) (I.ok.hd hc) s.heap.objs.size p (Nat.ne_of_lt hp) its.toArray,⟨⟨_,Heap.get?_push_size _ rfl,rfl,rfl⟩,pl.isList.push _⟩,?_,fun h' tk hk=>?_⟩
 ·intro i v s' Q' E' hP hQ
  have hP':its[i]?=some v:=by simpa using hP
  have hi:i < bs.length:=by
   have:=(List.getElem?_eq_some_iff.mp hP').1
   rw[List.length_map] at hlen;lia
  obtain⟨w,hw,rw'⟩:=r'.get (i:=i) (x:=.bl bs[i]) (by rw[List.getElem?_map,List.getElem?_eq_getElem hi]<;>rfl)
  rw[hP'] at hw;cases hw
  obtain rfl:v=Value.bool bs[i]:=rw'
  refine wpAny_truthy_bool ?_
  have e:(bs[i]?).getD true=bs[i]:=by rw[List.getElem?_eq_getElem hi]<;>rfl
  dsimp only at hQ;rw[e] at hQ;exact hQ
 ·have e:(List.range its.toArray.size).all (fun i=>(bs[i]?).getD true)=bs.all id:=by
   rw[List.length_map] at hlen
   rw[List.size_toArray,← hlen]
   rw[Bool.eq_iff_iff]
   simp only[List.all_eq_true,List.mem_range,id]
   constructor
   ·intro h b hb
    obtain⟨i,hi,rfl⟩:=List.getElem_of_mem hb
    have:=h i hi
    rw[List.getElem?_eq_getElem hi] at this;exact this
   ·intro h i hi
    rw[List.getElem?_eq_getElem hi];exact h _ (List.getElem_mem hi)
  rw[e]
  have I1:Inv X pins σ H { s with heap:=h',toks:=tk }:=I.kept fun b o eb=>hk b o (by
   intro hm
   have:b=s.heap.objs.size:=by simpa using hm
   rw[this] at eb
   exact absurd (Heap.lt_size eb) (Nat.lt_irrefl _)) (Heap.get?_push_of_some _ eb)
  exact⟨.bl _,H,I1,rfl,q⟩
noncomputable def a7U:List T→Option (List Bool)
 | []=>some []
 | .bl b :: ts=>(a7U ts).map (b :: ·)
 | _ :: _=>none
theorem a6Q {K:PySem.W.Frag} {H:Hp}:∀ {vs:List V} {ts:List T} {bs:List Bool},Reps K H vs ts→a7U ts=some bs→vs=bs.map V.bl
 | vs,[],bs,h,e=>by unfold a7U at e;cases e;unfold Reps at h;exact h
 | vs, t :: ts,bs,h,e=>by
   unfold Reps at h
   obtain⟨v,r,rfl,h1,h2⟩:=h
   cases t with
   | bl b =>
     unfold a7U at e
     cases q:a7U ts with
     | none=>rw[q] at e;cases e
     | some cs =>
       rw[q] at e;cases e
       obtain rfl:=a4C h1
       rw[a6Q h2 q];rfl
   | _=>unfold a7U at e;cases e
noncomputable def b6q:List T→MH→VK3→Prop:=fun xs M Q=>match xs with
 | [.adr p]=>(match M p with | some (.lst ts)=>(match a7U ts with | some bs=>Q (.bl (bs.all id)) M | none=>False) | _=>False)
 | _=>False
theorem a9b (hc:X.calm=true):a4h X (.builtin "all") b6q:=by
 intro pins s σ H vs us Q2 I r h
 obtain⟨xs,M,Q,rr,hh,q,en⟩:=h
 unfold b6q at q
 split at q
 ·obtain⟨v,rfl,r1⟩:=a3o rr
  obtain rfl:=a0G r1
  split at q
  ·rename_i ts e0
   obtain⟨ys,g1,g2⟩:=hh _ _ e0
   split at q
   ·rename_i bs eb
    obtain rfl:=a6Q g2 eb
    exact a6p hc pins s σ H _ us Q2 I r ⟨_,bs,rfl,SqL.of g1,en _ _ M H Kp.refl hh a3f q⟩
   ·exact q.elim
  ·exact q.elim
 ·exact q.elim
inductive Ki where
 | non | bool | int | str | tup | list | dict
noncomputable def a5S:Ki→String
 | .non=>"NoneType" | .bool=>"bool" | .int=>"int" | .str=>"str" | .tup=>"tuple" | .list=>"list" | .dict=>"dict"
noncomputable def isiK:Ki→Ki→Bool
 | .bool,.int=>true
 | .non,.non=>true
 | .bool,.bool=>true
 | .int,.int=>true
 | .str,.str=>true
 | .tup,.tup=>true
 | .list,.list=>true
 | .dict,.dict=>true
 | _,_=>false
theorem b8Y (K:PySem.W.Frag) (a b:Ki) (hb:b≠.non):PySem.W.kitOne K (.type (a5S a)) (.type (a5S b))=some (isiK a b):=by
 cases b with
 | non=>exact absurd rfl hb
 | _=>cases a<;>rfl
noncomputable def tyK:MH→T→Option Ki
 | _,.non=>some .non
 | _,.bl _=>some .bool
 | _,.int _=>some .int
 | _,.str _=>some .str
 | _,.tup _=>some .tup
 | _,.rd _=>some .list
 | _,.dic _ _=>some .dict
 | M,.adr p=>match M p with
   | some (.lst _)=>some .list
   | some (.dk _)=>some .dict
   | some (.dt _)=>some .dict
   | some (.fz _)=>none
   | some (.fk _)=>none
   | none=>none
theorem a4K (M:MH) (p:Addr):tyK M (.adr p)=(match M p with | some (.lst _)=>some Ki.list | some (.dk _)=>some Ki.dict | some (.dt _)=>some Ki.dict | some (.fz _)=>none | some (.fk _)=>none | none=>none):=rfl
theorem isi3 {pins:List (Addr × Obj)} {σ:St} {H:Hp} {s:Shared} {M:MH} {x:T} {v:V} {u:Value} {n c:Ki} {Q:Value→Shared→Prop} (I:Inv X pins σ H s) (hh:HR X.K H M) (r:Rep X.K H v x) (rv:RelV v u) (ht:tyK M x=some n) (hc:c≠.non)
  (h:∀ tk,Q (.bool (isiK n c)) { s with toks:=tk }):wpAny (model X.prog X.w) X.A (call (.builtin "isinstance") [u,.type (a5S c)]) Q X.xe s:=by
 have e:=b8Y X.K n c hc
 cases x with
 | non=>obtain rfl:=b2O r;cases ht;exact a2O I rv .non e h
 | bl k=>obtain rfl:=a4C r;cases ht;exact a2O I rv (.bl k) e h
 | int i=>obtain rfl:=a0u r;cases ht;exact a2O I rv (.int i) e h
 | str z=>obtain rfl:=a3q r;cases ht;exact a2O I rv (.str z) e h
 | tup ts =>
   obtain⟨p,xs,rfl,g1,g2⟩:=a2e r
   cases ht
   cases rv
   obtain⟨its,_,pt,_⟩:=I.tuple g1
   obtain⟨o,h1,h2,_⟩:=pt
   exact PySem.W.kia_one PySem.W.kitx_tuple I.kIn ⟨o,h1,h2⟩ e (fun z=>nomatch z) h
 | rd ts =>
   obtain⟨p,xs,rfl,g1,g2⟩:=a8G r
   cases ht
   cases rv
   obtain⟨its,_,pl,_⟩:=I.list g1.sq
   obtain⟨o,n,h1,h2,_⟩:=pl
   exact PySem.W.kia_one PySem.W.kitx_list I.kIn ⟨o,h1,h2⟩ e (fun z=>nomatch z) h
 | dic ks ts =>
   unfold Rep at r
   exact r.elim
 | adr p =>
   obtain rfl:=a0G r
   cases e0:M p with
   | none =>
     have q:tyK M (.adr p)=none:=by rw[a4K,e0]
     rw[q] at ht;cases ht
   | some o =>
     cases o with
     | lst ts =>
       have q:tyK M (.adr p)=some .list:=by rw[a4K,e0]
       rw[q] at ht;cases ht
       obtain⟨xs,g1,_⟩:=hh _ _ e0
       exact a2O I rv (.lst g1) e h
     | dk kvs =>
       have q:tyK M (.adr p)=some .dict:=by rw[a4K,e0]
       rw[q] at ht;cases ht
       obtain⟨xs,g1,_⟩:=hh _ _ e0
       exact a2O I rv (.dK g1) e h
     | dt kvs =>
       have q:tyK M (.adr p)=some .dict:=by rw[a4K,e0]
       rw[q] at ht;cases ht
       obtain⟨xs,g1,_⟩:=hh _ _ e0
       exact a2O I rv (.dT g1) e h
     | fz kvs =>
       have q:tyK M (.adr p)=none:=by rw[a4K,e0]
       rw[q] at ht;cases ht
     | fk kvs =>
       have q:tyK M (.adr p)=none:=by rw[a4K,e0]
       rw[q] at ht;cases ht
noncomputable def tIsi (c:Ki) (ta:TE3):TE3:=fun ρ M Q=>ta ρ M fun x M1=>match tyK M1 x with
 | some n=>Q (.bl (isiK n c)) M1
 | none=>False
theorem b9n {e:Expr} {te:TE3} {y:Str} {p p' pos:Pos} (c:Ki) (he:HE X e te) (hm:X.mg "isinstance"=none) (hm':X.mg y=none) (hv:bootBuiltins y=some (.type (a5S c))) (hc:c≠.non:=by intro z;cases z) (hg:Gl X "isinstance":=by rfl) (hg':Gl X y:=by rfl) (hn:y≠"__name__":=by decide)
  (hdb:(y == ("__debug__":Str))=false:=by decide) (hs:starEach [e,.Name y p'] X.env=(false,eval e X.env) :: starEach [.Name y p'] X.env:=by rfl) (hs2:starEach [.Name y p'] X.env=(false,eval (.Name y p') X.env) :: starEach [] X.env:=by rfl)
  (hpl:(backTo pos (starEach [.Name y p'] X.env)).any (·.1)=false:=by rfl) :
  HE X (.Call (.Name "isinstance" p) [e,.Name y p'] [] pos) (tIsi c te):=by
 intro ρ M Q h pins s σ H Q2 I b
 obtain⟨hr,hh,en⟩:=b
 have pa:=a7o (X:=X) (he.d (ρ:=ρ)) (a7o (b6K (v:=.ty (a5S c)) (pos:=p') hg' hm' hv rfl hn hdb) b2y hs2) hs
 refine wpAny_Call_Name_kw (a3y I hg hm boot_isinstance ?_ (by decide) (by decide))
 refine PyProof.Rows.callWith_builtin1 (thn (pa pos pins s σ H (fun vs H1=>∃ v t M1,vs=[v,.ty (a5S c)]∧Rep X.K H1 v t∧HR X.K H1 M1∧Kp X.K H H1∧(match tyK M1 t with
 | some n=>Q (.bl (isiK n c)) M1
 | none=>False)) I ⟨M,_,h,hr,hh,fun t v M1 H1 k1 h1 r1 q1=>⟨v,t,M1,rfl,r1,h1,k1,q1⟩⟩) fun us s1 ⟨vs,H1,I1,rv,v,t,M1,ev,r1,h1,k1,q1⟩=>?_) hs hpl
 subst ev
 obtain⟨u,w',rfl,ru,rw'⟩:=b9V rv
 obtain rfl:w'=Value.type (a5S c):=rw'
 split at q1
 ·rename_i n e1
  exact isi3 I1 h1 r1 ru e1 hc fun tk=>⟨.bl _,H1,I1.tok _,rfl,en _ _ M1 H1 k1 h1 a3f q1⟩
 ·exact q1.elim
end
section
variable {X:Cx} {a b c e:Expr} {st:Stmt} {rest ba bb body:List Stmt} {ta tb te:TE3} {tA:TT3} {t u:TS3} {pos:Pos}
noncomputable def b5q:TS3:=fun D ρ M=>D.nx ρ M
noncomputable def a3A (t u:TS3):TS3:=fun D ρ M=>t { D with nx:=u D } ρ M
theorem EndS.nx' {K:PySem.W.Frag} {H:Hp} {D:Ends3} {D2:Ends} {t:TS3} (h:EndS K H D D2):EndS K H { D with nx:=t D } { D2 with nx:=dS K t D2 } :=
 ⟨fun ρ' M' σ' H' k r hh q=>⟨D,ρ',M',q,r,hh,h.kp k⟩,h.rt,h.bk,h.ct⟩
theorem a2U:HSs X [] b5q:=fun D ρ M h=>b6y.imp fun D2 σ H ⟨hr,hh,en⟩=>en.nx ρ M σ H Kp.refl hr hh h
theorem a0d (h1:HS X st t) (h2:HSs X rest u):HSs X (st :: rest) (a3A t u):=fun D ρ M h =>
 (b4p h1.d h2.d).imp fun D2 σ H ⟨hr,hh,en⟩=>⟨{ D with nx:=u D },ρ,M,h,hr,hh,en.nx'⟩
theorem a0i (h1:HS X st t):HSs X [st] t:=fun D ρ M h=>b6x (h1 D ρ M h)
noncomputable def b7V (te:TE3):TS3:=fun D ρ M=>te ρ M D.rt
theorem a1q (he:HE X e te):HS X (.Return (some e) pos) (b7V te):=fun D ρ M h =>
 (b8A (he.d (ρ:=ρ))).imp fun D2 σ H ⟨hr,hh,en⟩=>⟨M,_,h,hr,hh,en.rt⟩
noncomputable def b7Z (c:TT3) (t u:TS3):TS3:=fun D ρ M=>c ρ M fun b M1=>if b=true then t D ρ M1 else u D ρ M1
theorem s_if (hc:HT X c tA) (ha:HSs X ba t) (hb:HSs X bb u):HS X (.If c ba bb pos) (b7Z tA t u):=fun D ρ M h =>
 (c0n (hc.d (ρ:=ρ)) ha.d hb.d).imp fun D2 σ H ⟨hr,hh,en⟩=>⟨M,_,h,hr,hh,fun b M1 H1 k1 h1 q1=>by
  dsimp only at q1⊢
  split
  ·rename_i hb;rw[if_pos hb] at q1
   exact⟨D,ρ,M1,q1,hr.kp k1,h1,en.kp k1⟩
  ·rename_i hb;rw[if_neg hb] at q1
   exact⟨D,ρ,M1,q1,hr.kp k1,h1,en.kp k1⟩⟩
noncomputable def b5Y:TS3:=fun _ _ _=>False
theorem b2h:HS X st b5Y:=fun _ _ _ h=>h.elim
noncomputable def b5t (te:TE3):TS3:=fun D ρ M=>te ρ M fun _ M1=>D.nx ρ M1
theorem b0s (he:HE X e te) (hs:swapsWith e none pos.line X.env=pure false:=by rfl):HS X (.Expr e pos) (b5t te):=fun D ρ M h =>
 (b6A (he.d (ρ:=ρ)) hs).imp fun D2 σ H ⟨hr,hh,en⟩=>⟨M,_,h,hr,hh,fun x v M1 H1 k1 h1 r1 q1=>en.nx ρ M1 σ H1 k1 (hr.kp k1) h1 q1⟩
noncomputable def b5W (i:Nat) (te:TE3):TS3:=fun D ρ M=>te ρ M fun x M1=>D.nx (ρ.set i (some x)) M1
theorem a0W {i:Nat} {x:Str} {pos':Pos} (he:HE X e te) (hN:X.N.Nodup) (hi:X.N[i]?=some x:=by rfl) (hx:Loc X.env.scope x:=by first | exact Or.inl rfl | exact Or.inr rfl) (hs:swapsWith e (some (.Name x pos')) pos.line X.env=pure false:=by rfl)
  (hf:X.fn x=true∨X.env.scope.names.lookup x=some .local:=by first | exact .inl rfl | exact .inr rfl | assumption):HS X (.Assign [.Name x pos'] e pos) (b5W i te):=fun D ρ M h =>
 (b8z hN hi hx (he.d (ρ:=ρ)) hs hf).imp fun D2 σ H ⟨hr,hh,en⟩=>⟨M,_,h,hr,hh,fun t v M1 H1 k1 h1 r1 q1=>en.nx _ M1 _ H1 k1 ((hr.kp k1).set i r1) h1 q1⟩
noncomputable abbrev TG3:=T→En→MH→(En→MH→Prop)→Prop
noncomputable abbrev TGs3:=List T→En→MH→(En→MH→Prop)→Prop
noncomputable def EndG (K:PySem.W.Frag) (H:Hp) (Q:En→MH→Prop) (Q2:St→Hp→Prop):Prop:=∀ ρ' M' σ' H',Kp K H H'→RhoR K σ' H' ρ'→HR K H' M'→Q ρ' M'→Q2 σ' H'
noncomputable def dG (K:PySem.W.Frag) (g:TG3):TG:=fun v σ H Q2=>∃ t ρ M Q,g t ρ M Q∧Rep K H v t∧RhoR K σ H ρ∧HR K H M∧EndG K H Q Q2
noncomputable def dGs (K:PySem.W.Frag) (g:TGs3):TGs:=fun vs σ H Q2=>∃ ts ρ M Q,g ts ρ M Q∧Reps K H vs ts∧RhoR K σ H ρ∧HR K H M∧EndG K H Q Q2
noncomputable def HG (X:Cx) (tg:Expr) (g:TG3):Prop:=PG X tg (dG X.K g)
noncomputable def HGs (X:Cx) (tgs:List Expr) (g:TGs3):Prop:=PGs X tgs (dGs X.K g)
noncomputable def a8M (i:Nat):TG3:=fun t ρ M Q=>Q (ρ.set i (some t)) M
theorem PG.imp {tg:Expr} {g g':TG} (h:PG X tg g) (f:∀ v σ H Q,g' v σ H Q→g v σ H Q):PG X tg g':=fun pins s σ H v u Q I r q=>h pins s σ H v u Q I r (f v σ H Q q)
theorem PGs.imp {tg:List Expr} {g g':TGs} (h:PGs X tg g) (f:∀ v σ H Q,g' v σ H Q→g v σ H Q):PGs X tg g':=fun pins s σ H v u Q I r q=>h pins s σ H v u Q I r (f v σ H Q q)
theorem a2u {i:Nat} {x:Str} (hN:X.N.Nodup) (hi:X.N[i]?=some x:=by rfl) (hx:Loc X.env.scope x:=by first | exact Or.inl rfl | exact Or.inr rfl) (hf:X.fn x=true∨X.env.scope.names.lookup x=some .local:=by first | exact .inl rfl | exact .inr rfl | assumption):HG X (.Name x pos) (a8M i) :=
 (a0z hN hi hx hf).imp fun v σ H Q2 ⟨t,ρ,M,Q,q,r,hr,hh,en⟩=>en _ M _ H Kp.refl (hr.set i r) hh q
noncomputable def b7h:TGs3:=fun ts ρ M Q=>ts=[]∧Q ρ M
noncomputable def a8P (g:TG3) (gs:TGs3):TGs3:=fun ts ρ M Q=>match ts with
 | t :: r=>g t ρ M fun ρ1 M1=>gs r ρ1 M1 Q
 | []=>False
theorem b0L:HGs X [] b7h:=a4k.imp fun v σ H Q2 ⟨ts,ρ,M,Q,⟨e,q⟩,r,hr,hh,en⟩=>by
 subst e
 unfold Reps at r
 exact⟨r,en ρ M σ H Kp.refl hr hh q⟩
theorem a3J {es:List Expr} {g:TG3} {gs:TGs3} (h1:HG X e g) (h2:HGs X es gs) (hs:(assignEach (e :: es) X.env).map (·.2)=assign e X.env :: (assignEach es X.env).map (·.2):=by rfl):HGs X (e :: es) (a8P g gs) :=
 (a1J h1 h2 hs).imp fun vs σ H Q2 ⟨ts,ρ,M,Q,q,r,hr,hh,en⟩=>by
  unfold a8P at q
  split at q
  ·rename_i t r'
   unfold Reps at r
   obtain⟨v,vr,rfl,r1,r2⟩:=r
   exact⟨v,vr,rfl,t,ρ,M,_,q,r1,hr,hh,fun ρ' M' σ' H' k hr' hh' q'=>⟨r',ρ',M',Q,q',Reps.kp k _ _ r2,hr',hh',fun ρ2 M2 σ2 H2 k2=>en ρ2 M2 σ2 H2 (k.trans k2)⟩⟩
  ·exact q.elim
noncomputable def b3b (n:Nat) (gs:TGs3):TG3:=fun t ρ M Q=>match t with
 | .tup ts=>ts.length=n∧gs ts ρ M Q
 | _=>False
theorem b4T {es:List Expr} {k:Nat} {gs:TGs3} {n:Nat} (hc:X.calm=true) (h:HGs X es gs) (hn:(assignEach es X.env).length=n:=by rfl) (hst:(assignEach es X.env).findIdx? (·.1)=none:=by rfl):HG X (.Tuple es k pos) (b3b n gs) :=
 (a5F hc h hn hst).imp fun v σ H Q2 ⟨t,ρ,M,Q,q,r,hr,hh,en⟩=>by
  unfold b3b at q
  split at q
  ·rename_i ts
   obtain⟨a,xs,rfl,g1,g2⟩:=a2e r
   exact⟨a,xs,rfl,g1,by rw[g2.length];exact q.1,ts,ρ,M,Q,q.2,g2,hr,hh,en⟩
  ·exact q.elim
noncomputable def b9r (to ti:TE3):TG3:=fun v ρ M Q=>to ρ M fun o M1=>ti ρ M1 fun i M2=>match o,i with
 | .adr p,.int k=>(match M2 p with
   | some (.lst ts)=>(match ixN ts.length k with | some j=>Q ρ (updM M2 p (.lst (ts.set j v))) | none=>False)
   | _=>False)
 | _,_=>False
theorem a5V {o i:Expr} {to ti:TE3} (ho:HE X o to) (hi:HE X i ti)
  (ha:∀ v,assign (.Subscript o i pos) X.env v=(do
   let ov ← holding [v] (eval o X.env)
   let iv ← holding [v,ov] (eval i X.env)
   standAt pos
   holding [v,ov,iv] (setItem ov iv v)
   release [v,ov,iv] []):=by intro _;rfl):HG X (.Subscript o i pos) (b9r to ti):=by
 intro pins s σ H v u Q2 I r h
 obtain⟨t,ρ,M,Q,q,rt,hr,hh,en⟩:=h
 refine b8F (ho.d (ρ:=ρ)) (hi.d (ρ:=ρ)) b0q ha pins s σ H v u Q2 I r ?_
 refine⟨M,_,q,hr,hh,fun ot ov M1 H1 k1 h1 r1 q1=>⟨M1,_,q1,hr.kp k1,h1,fun it iv M2 H2 k2 h2 r2 q2=>?_⟩⟩
 dsimp only at q2
 split at q2
 ·obtain rfl:=a0G r1
  obtain rfl:=a0u r2
  split at q2
  ·rename_i ts e0
   obtain⟨xs,g1,g2⟩:=h2 _ _ e0
   split at q2
   ·rename_i j ej
    have kk:=k1.trans k2
    refine⟨_,xs,_,j,rfl,rfl,g1,by rw[g2.length];exact ej,en _ _ σ _ (kk.trans (Kp.lst g1)) (hr.kp (kk.trans (Kp.lst g1))) (h2.setL g1 (g2.set (Rep.kp kk _ _ rt) j)) q2⟩
   ·exact q2.elim
  ·exact q2.elim
 ·exact q2.elim
noncomputable def b8e (te:TE3) (g:TG3):TS3:=fun D ρ M=>te ρ M fun x M1=>g x ρ M1 D.nx
theorem a5C {tg:Expr} {g:TG3} (he:HE X e te) (hg:HG X tg g) (hs:swapsWithSole [tg] e pos.line X.env=pure false:=by rfl) (hw:swappedStores [tg] e X.env=pure none:=by rfl)
  (h1:(assignEach [tg] X.env).map (·.2)=[assign tg X.env]:=by rfl):HS X (.Assign [tg] e pos) (b8e te g):=fun D ρ M h =>
 (b8D (he.d (ρ:=ρ)) hg hs hw h1).imp fun D2 σ H ⟨hr,hh,en⟩=>⟨M,_,h,hr,hh,fun t v M1 H1 k1 h1 r1 q1=>⟨t,ρ,M1,D.nx,q1,r1,hr.kp k1,h1,fun ρ' M' σ' H' k r hh' q=>en.nx ρ' M' σ' H' (k1.trans k) r hh' q⟩⟩
structure It3 where
 items:List T
 stay:MH→Prop:=fun _=>True
noncomputable abbrev TI3:=En→MH→(It3→MH→Prop)→Prop
structure ItOk (K:PySem.W.Frag) (H:Hp) (J2:It) (J:It3):Prop where
 stop:∀ H' M',Kp K H H'→HR K H' M'→J.stay M'→J2.stop J.items.length H'
 go:∀ (i:Nat) (x:T) H' M',J.items[i]?=some x→Kp K H H'→HR K H' M'→J.stay M'→J2.go i H'∧∀ v H'',J2.yld i H' v H''→Kp K H' H''∧HR K H'' M'∧Rep K H'' v x
noncomputable def HI (X:Cx) (tg iter:Expr) (wi:TI3):Prop:=∀ ρ M R,wi ρ M R→PI X tg iter (fun σ H R2=>RhoR X.K σ H ρ∧HR X.K H M∧∀ J J2 M' H',Kp X.K H H'→HR X.K H' M'→ItOk X.K H' J2 J→R J M'→R2 J2 H')
noncomputable def dI (K:PySem.W.Frag) (ρ:En) (wi:TI3):TI:=fun σ H R2=>∃ M R,wi ρ M R∧RhoR K σ H ρ∧HR K H M∧∀ J J2 M' H',Kp K H H'→HR K H' M'→ItOk K H' J2 J→R J M'→R2 J2 H'
theorem HI.d {tg iter:Expr} {wi:TI3} {ρ:En} (h:HI X tg iter wi):PI X tg iter (dI X.K ρ wi):=fun pins s σ H R I ⟨M,R3,q,b⟩=>h ρ M R3 q pins s σ H R I b
theorem PI.imp {tg iter:Expr} {w w':TI} (h:PI X tg iter w) (f:∀ σ H R,w' σ H R→w σ H R):PI X tg iter w':=fun pins s σ H R I q=>h pins s σ H R I (f σ H R q)
noncomputable def b9k (tl:TE3):TI3:=fun ρ M R=>tl ρ M fun x M1=>match x with
 | .tup ts=>R ⟨ts,fun _=>True⟩ M1
 | .adr p=>(match M1 p with | some (.lst ts)=>R ⟨ts,fun M'=>M' p=some (.lst ts)⟩ M1 | _=>False)
 | _=>False
theorem b4J {K:PySem.W.Frag} {H:Hp} {a:Addr} {xs:List V} {ts:List T} (h:SqT K H a xs) (r:Reps K H xs ts):ItOk K H (Itt K a) ⟨ts,fun _=>True⟩:=by
 refine⟨fun H' M' k hh _=>⟨xs,k.tup _ _ h,by rw[r.length];exact Nat.le_refl _⟩,fun i x H' M' e k hh _=>?_⟩
 obtain⟨v,e1,r1⟩:=r.get e
 refine⟨⟨xs,v,k.tup _ _ h,e1⟩,fun v' H'' y=>?_⟩
 obtain⟨rfl,y⟩:=y
 have:=y xs (k.tup _ _ h)
 rw[e1] at this;cases this
 exact⟨Kp.refl,hh,Rep.kp k _ _ r1⟩
theorem b4K {K:PySem.W.Frag} {H:Hp} {a:Addr} {ts:List T}:ItOk K H (Itl K a) ⟨ts,fun M'=>M' a=some (.lst ts)⟩:=by
 refine⟨fun H' M' k hh st=>?_,fun i x H' M' e k hh st=>?_⟩
 ·obtain⟨xs,g1,g2⟩:=hh _ _ st
  exact⟨xs,SqL.of g1,by rw[g2.length];exact Nat.le_refl _⟩
 ·obtain⟨xs,g1,g2⟩:=hh _ _ st
  obtain⟨v,e1,r1⟩:=g2.get e
  refine⟨⟨xs,v,SqL.of g1,e1⟩,fun v' H'' y=>?_⟩
  obtain⟨rfl,y⟩:=y
  have:=y xs (SqL.of g1)
  rw[e1] at this;cases this
  exact⟨Kp.refl,hh,r1⟩
noncomputable def a0J (lo:Int) (n:Nat):List T:=(List.range n).map fun i=>T.int (lo+(i:Nat))
theorem a6G {K:PySem.W.Frag} {H:Hp} {lo:Int} {n:Nat}:ItOk K H (Itr lo n) ⟨a0J lo n,fun _=>True⟩:=by
 have hl:(a0J lo n).length=n:=by unfold a0J;simp
 refine⟨fun H' M' k hh _=>by show n≤(a0J lo n).length;rw[hl];exact Nat.le_refl _,fun i x H' M' e k hh _=>?_⟩
 have hi:i < n:=by have:=(List.getElem?_eq_some_iff.mp e).1;rwa [hl] at this
 have ex:x=.int (lo+(i:Nat)):=by
  unfold a0J at e
  rw[List.getElem?_map,List.getElem?_range hi] at e
  exact (Option.some.inj e).symm
 subst ex
 refine⟨hi,fun v H'' y=>?_⟩
 obtain⟨rfl,rfl⟩:=y
 exact⟨Kp.refl,hh,a0p⟩
theorem a3d {tg l:Expr} {tl:TE3} (hl:HE X l tl):HI X tg l (b9k tl):=by
 intro ρ M R h pins s σ H R2 I b
 obtain⟨hr,hh,en⟩:=b
 refine thn (hl ρ M _ h pins s σ H (fun v H1=>∃ t M1,Kp X.K H H1∧HR X.K H1 M1∧Rep X.K H1 v t∧(match t with
  | .tup ts=>R ⟨ts,fun _=>True⟩ M1
  | .adr p=>(match M1 p with | some (.lst ts)=>R ⟨ts,fun M'=>M' p=some (.lst ts)⟩ M1 | _=>False)
  | _=>False)) I ⟨hr,hh,fun t v M1 H1 k1 h1 r1 q1=>⟨t,M1,k1,h1,r1,q1⟩⟩) fun v s1 ⟨x,H1,I1,rv,t,M1,k1,h1,r1,q1⟩=>?_
 split at q1
 ·rename_i ts
  obtain⟨a,xs,rfl,g1,g2⟩:=a2e r1
  cases rv
  obtain⟨its,rv,p,hz⟩:=I1.tuple g1
  refine wpAny_pyIter_tuple (show s1.heap.IsTuple a its.toArray from p) ?_
  refine⟨s1.heap.objs.size,[s1.heap.objs.size],_,_,H1,rfl,I1.kept (t':=s1.toks) fun b o e=>Heap.get?_push_of_some _ e,b1m a _,⟨_,Heap.get?_push_size _ rfl,rfl,rfl⟩,fun b hb=>?_,en _ _ M1 H1 k1 h1 (b4J g1 g2) q1⟩
  have e:b=s1.heap.objs.size:=by simpa using hb
  subst e
  exact I1.fpOk (Nat.le_refl _) (I1.hok.fresh (Nat.le_refl _))
 ·rename_i a
  obtain rfl:=a0G r1
  cases rv
  split at q1
  ·rename_i ts e0
   obtain⟨xs,g1,g2⟩:=h1 _ _ e0
   obtain⟨its,rv,p,hz⟩:=I1.list (SqL.of g1)
   refine wpAny_pyIter_list p.isList ?_
   refine⟨s1.heap.objs.size,[s1.heap.objs.size],_,_,H1,rfl,I1.kept (t':=s1.toks) fun b o e=>Heap.get?_push_of_some _ e,b1V a _,⟨_,Heap.get?_push_size _ rfl,rfl,rfl⟩,fun b hb=>?_,en _ _ M1 H1 k1 h1 b4K q1⟩
   have e:b=s1.heap.objs.size:=by simpa using hb
   subst e
   exact I1.fpOk (Nat.le_refl _) (I1.hok.fresh (Nat.le_refl _))
  ·exact q1.elim
 ·exact q1.elim
noncomputable def b2S (t:TA3):TI3:=fun ρ M R=>t ρ M fun xs M1=>match xs with
 | [.int j]=>-(2 ^ 62)≤j∧j < 2 ^ 62∧R ⟨a0J 0 j.toNat,fun _=>True⟩ M1
 | _=>False
noncomputable def b2R (t:TA3):TI3:=fun ρ M R=>t ρ M fun xs M1=>match xs with
 | [.int i,.int j]=>(-(2 ^ 62)≤i∧i < 2 ^ 62∧-(2 ^ 62)≤j∧j < 2 ^ 62)∧R ⟨a0J i (j - i).toNat,fun _=>True⟩ M1
 | _=>False
theorem a2q {tg:Expr} {t:TA3} {p:Pos} (hm:X.mg "range"=none) (ha:HA X [a] t) (hg:Gl X "range":=by rfl) (hs:starEach [a] X.env=[(false,eval a X.env)]:=by rfl):HI X tg (.Call (.Name "range" p) [a] [] pos) (b2S t):=fun ρ M R h =>
 (b2v hg hm (ha.d (ρ:=ρ)) hs).imp fun σ H R2 ⟨hr,hh,en⟩=>⟨M,_,h,hr,hh,fun ts vs M1 H1 k1 h1 r1 q1=>by
  dsimp only at q1
  split at q1
  ·rename_i j
   obtain⟨v,rfl,rv⟩:=a3o r1
   obtain rfl:=a0u rv
   exact⟨j,rfl,q1.1,q1.2.1,en _ _ M1 H1 k1 h1 a6G q1.2.2⟩
  ·exact q1.elim⟩
theorem b4P {tg:Expr} {t:TA3} {p:Pos} (hm:X.mg "range"=none) (ha:HA X [a,b] t) (hg:Gl X "range":=by rfl) (hs:starEach [a,b] X.env=[(false,eval a X.env),(false,eval b X.env)]:=by rfl) (hs2:starEach [b] X.env=[(false,eval b X.env)]:=by rfl):HI X tg (.Call (.Name "range" p) [a,b] [] pos) (b2R t):=fun ρ M R h =>
 (b2u hg hm (ha.d (ρ:=ρ)) hs hs2).imp fun σ H R2 ⟨hr,hh,en⟩=>⟨M,_,h,hr,hh,fun ts vs M1 H1 k1 h1 r1 q1=>by
  dsimp only at q1
  split at q1
  ·rename_i i j
   obtain⟨v,w',rfl,rv,rw'⟩:=b2l r1
   obtain rfl:=a0u rv
   obtain rfl:=a0u rw'
   exact⟨i,j,rfl,q1.1,en _ _ M1 H1 k1 h1 a6G q1.2⟩
  ·exact q1.elim⟩
noncomputable def a4d (wi:TI3) (g:TG3) (tb:TS3):TS3:=fun D ρ M=>wi ρ M fun J M1=>∃ W:Nat→En→MH→Prop,W 0 ρ M1∧(∀ i ρ M,W i ρ M→J.stay M) ∧
 (∀ i x ρ M,J.items[i]?=some x→W i ρ M→g x ρ M fun ρ2 M2=>tb { D with nx:=W (i+1),ct:=W (i+1),bk:=D.nx } ρ2 M2)∧∀ ρ M,W J.items.length ρ M→D.nx ρ M
theorem a4P {tg iter:Expr} {wi:TI3} {g:TG3} {tb:TS3} (hp:PassesOwn (model X.prog X.w) X.A X.env X.xe) (hc:X.calm=true) (hi:HI X tg iter wi) (hg:HG X tg g) (hb:HSs X body tb)
  (hs:∀ x,foldedSetIterable iter X.env x=pure x:=by intro _;rfl):HS X (.For tg iter body [] pos) (a4d wi g tb):=fun D ρ0 M0 h =>
 (b8B hp hc (hi.d (ρ:=ρ0)) hg hb.d hs).imp fun D2 σ0 H0 ⟨hr0,hh0,en⟩=>⟨M0,_,h,hr0,hh0,fun J J2 M1 H1 k1 h1 ok q1=>by
  obtain⟨W,w0,wst,turn,fin⟩:=q1
  refine⟨fun i m σ H=>m=J.items.length - i∧i≤J.items.length∧Kp X.K H1 H∧∃ ρ M,RhoR X.K σ H ρ∧HR X.K H M∧W i ρ M,⟨_,rfl,Nat.zero_le _,Kp.refl,ρ0,M1,hr0.kp k1,h1,w0⟩,?_⟩
  rintro i m σ H ⟨rfl,hi,kk,ρ,M,hr,hh,w⟩
  have st:=wst i ρ M w
  by_cases hlt:i < J.items.length
  ·have e:J.items[i]?=some J.items[i]:=List.getElem?_eq_getElem hlt
   obtain⟨go,yl⟩:=ok.go i _ H M e kk hh st
   refine .inr ⟨go,fun σ' H'=>i+1≤J.items.length∧Kp X.K H1 H'∧∃ ρ M,RhoR X.K σ' H' ρ∧HR X.K H' M∧W (i+1) ρ M,fun σ' H' ⟨a,b,c⟩=>⟨_,by lia,rfl,a,b,c⟩,fun v H' y=>?_⟩
   obtain⟨k2,h2,r2⟩:=yl v H' y
   refine⟨J.items[i],ρ,M,_,turn i _ ρ M e w,r2,hr.kp k2,h2,fun ρ3 M3 σ3 H3 k3 hr3 hh3 q3=>⟨_,ρ3,M3,q3,hr3,hh3,?_⟩⟩
   have kall:=kk.trans (k2.trans k3)
   refine⟨fun ρ4 M4 σ4 H4 k4 hr4 hh4 q4=>⟨hlt,kall.trans k4,ρ4,M4,hr4,hh4,q4⟩,fun t v M4 H4 k4 h4 r4 q4=>en.rt t v M4 H4 (k1.trans (kall.trans k4)) h4 r4 q4,fun ρ4 M4 σ4 H4 k4 hr4 hh4 q4=>en.nx ρ4 M4 σ4 H4 (k1.trans (kall.trans k4)) hr4 hh4 q4,fun ρ4 M4 σ4 H4 k4 hr4 hh4 q4=>⟨hlt,kall.trans k4,ρ4,M4,hr4,hh4,q4⟩⟩
  ·have e:i=J.items.length:=by lia
   subst e
   exact .inl ⟨ok.stop H M kk hh st,en.nx ρ M σ H (k1.trans kk) hr hh (fin ρ M w)⟩⟩
noncomputable def a7n (ix:List (Option Nat)) (ρ:En):En:=ix.map fun o=>match o with | some j=>(ρ[j]?).join | none=>none
theorem b4i {K:PySem.W.Frag} {σ:St} {H:Hp} {ρ:En} (ix:List (Option Nat)) (h:RhoR K σ H ρ):RhoR K (pick ix σ) H (a7n ix ρ):=by
 refine⟨by unfold pick a7n;simp,fun i t e=>?_⟩
 unfold a7n at e
 unfold pick
 rw[List.getElem?_map] at e⊢
 cases hx:ix[i]? with
 | none=>rw[hx] at e;cases e
 | some o =>
   rw[hx] at e
   cases o with
   | none =>
     have e':(none:Option T)=some t:=Option.some.inj e
     cases e'
   | some j =>
     have e':(ρ[j]?).join=some t:=Option.some.inj e
     cases hj:ρ[j]? with
     | none=>rw[hj] at e';cases e'
     | some u =>
       rw[hj] at e'
       have e2:u=some t:=e'
       subst e2
       obtain⟨v,a,b⟩:=h.2 j t hj
       exact⟨v,by show some ((σ[j]?).join)=some (some v);rw[a]<;>rfl,b⟩
noncomputable def b0l (wi:TI3) (ix:List (Option Nat)) (g:TG3) (tt:TT3) (te:TE3):TE3:=fun ρ M Q=>wi ρ M fun J M1=>∃ W:Nat→List T→MH→Prop,W 0 [] M1∧(∀ i ys M,W i ys M→J.stay M)∧J.items.length < sizeLine ∧
 (∀ i x ys M,J.items[i]?=some x→W i ys M→g x (a7n ix ρ) M fun ρ2 M2=>tt ρ2 M2 fun ok M3=>if ok=true then te ρ2 M3 fun y M4=>W (i+1) (ys++[y]) M4 else W (i+1) ys M3) ∧
 ∀ ys M,W J.items.length ys M→∀ p,M p=none→Q (.adr p) (updM M p (.lst ys))
noncomputable def HTs (X:Cx) (ifs:List Expr) (t:TT3):Prop:=∀ ρ M Q,t ρ M Q→PTs X ifs (bT X.K ρ M Q)
noncomputable def b7R:TT3:=fun _ M Q=>Q true M
theorem a1Q:HTs X [] b7R:=fun ρ M Q h pins s σ H Q2 I ⟨hr,hh,en⟩=>b6v pins s σ H Q2 I (en true M H Kp.refl hh h)
theorem a8b {c:Expr} {t:TT3} (h:HT X c t):HTs X [c] t:=fun ρ M Q q=>b6u (h ρ M Q q)
end
noncomputable def dEx (K:PySem.W.Frag) (t:TE3):TE:=fun σ H Q2=>∃ ρ M Q,t ρ M Q∧bE K ρ M Q σ H Q2
noncomputable def dTx (K:PySem.W.Frag) (t:TT3):TT:=fun σ H Q2=>∃ ρ M Q,t ρ M Q∧bT K ρ M Q σ H Q2
section
variable {X:Cx} {e:Expr}
theorem HE.dx {t:TE3} (h:HE X e t):PE X e (dEx X.K t):=fun pins s σ H Q I ⟨ρ,M,Q3,q,b⟩=>h ρ M Q3 q pins s σ H Q I b
theorem HTs.dx {ifs:List Expr} {t:TT3} (h:HTs X ifs t):PTs X ifs (dTx X.K t):=fun pins s σ H Q I ⟨ρ,M,Q3,q,b⟩=>h ρ M Q3 q pins s σ H Q I b
structure BTg (K:PySem.W.Frag) (ix:List (Option Nat)) (g2:TG) (g3:TG3):Prop where
 own:Own ix g2
 br:∀ (t:T) (v:V) (ρ:En) (M:MH) (σ:St) (H:Hp) (Q3:En→MH→Prop) (Q2:St→Hp→Prop),Rep K H v t→RhoR K σ H ρ→HR K H M→g3 t ρ M Q3→EndG K H Q3 Q2→g2 v σ H Q2
theorem a1o {K:PySem.W.Frag} {ix:List (Option Nat)} {i:Nat} (h:ix[i]?=some none:=by rfl):BTg K ix (a8N i) (a8M i) :=
 ⟨a7p h,fun t v ρ M σ H Q3 Q2 r hr hh q en=>en _ M _ H Kp.refl (hr.set i r) hh q⟩
theorem a5e {K:PySem.W.Frag} {ix:List (Option Nat)} {i j:Nat} (h:ix[i]?=some none:=by rfl) (h':ix[j]?=some none:=by rfl):BTg K ix (gTup K 2 (b4U (a8N i) (b4U (a8N j) gNil))) (b3b 2 (a8P (a8M i) (a8P (a8M j) b7h))):=by
 refine⟨b6M (a8p a6K (a7p h) (a8p a6K (a7p h') b4x)),fun t v ρ M σ H Q3 Q2 r hr hh q en=>?_⟩
 unfold b3b at q
 split at q
 ·rename_i ts
  obtain⟨a,xs,rfl,g1,g2⟩:=a2e r
  obtain⟨hl,q⟩:=q
  match ts,hl,g2,q with
  | [x,y],_,g2,q =>
    obtain⟨v1,v2,rfl,r1,r2⟩:=b2l g2
    refine⟨a,_,rfl,g1,rfl,v1,[v2],rfl,v2,[],rfl,rfl,?_⟩
    exact en _ M _ H Kp.refl ((hr.set i r1).set j r2) hh q.2
 ·exact q.elim
variable {elt iter tg:Expr} {ifs:List Expr} {pos:Pos} {scope:Scope} {N':List Str} {ix:List (Option Nat)} {wi:TI3} {g2:TG} {g3:TG3} {tt:TT3} {te:TE3}
theorem b1a {X:Cx} {N':List Str} {ix:List (Option Nat)} {wi:TI3} {g2:TG} {g3:TG3} {tt:TT3} {te:TE3} (bt:BTg X.K ix g2 g3) (ρ0:En) (M0:MH) (Q:VK3) (h:b0l wi ix g3 tt te ρ0 M0 Q) (σ0:St) (H0:Hp) (Q2:VK) (bb:bE X.K ρ0 M0 Q σ0 H0 Q2) :
  b3Y (dI X.K ρ0 wi) ix g2 (dTx X.K tt) (dEx X.K te) σ0 H0 Q2:=by
 obtain⟨hr0,hh0,en⟩:=bb
 exact⟨M0,_,h,hr0,hh0,fun J J2 M1 H1 k1 h1 ok q1=>by
  obtain⟨W,w0,wst,hsz,turn,fin⟩:=q1
  refine⟨fun i m ys H=>m=J.items.length - i∧i≤J.items.length∧ys.length≤i∧Kp X.K H1 H∧∃ ts M,Reps X.K H ys ts∧HR X.K H M∧W i ts M,⟨_,rfl,Nat.zero_le _,Nat.zero_le _,Kp.refl,[],M1,.nil,h1,w0⟩,?_⟩
  rintro i m ys H ⟨rfl,hi,hy,kk,ts,M,rts,hh,w⟩
  have st:=wst i ts M w
  by_cases hlt:i < J.items.length
  ·have e:J.items[i]?=some J.items[i]:=List.getElem?_eq_getElem hlt
   obtain⟨go,yl⟩:=ok.go i _ H M e kk hh st
   refine .inr ⟨go,by lia,fun v H' y=>?_⟩
   obtain⟨k2,h2,r2⟩:=yl v H' y
   have kk2:=kk.trans k2
   refine bt.br J.items[i] v _ M _ H' _ _ r2 (b4i ix (hr0.kp (k1.trans kk2))) h2 (turn i _ ts M e w) fun ρ3 M3 σ3 H3 k3 hr3 hh3 q3=>⟨ρ3,M3,_,q3,hr3,hh3,fun b M4 H4 k4 h4 q4=>?_⟩
   have kk4:=kk2.trans (k3.trans k4)
   dsimp only at q4⊢
   cases b with
   | true =>
     rw[if_pos rfl] at q4⊢
     refine⟨ρ3,M4,_,q4,hr3.kp k4,h4,fun t5 v5 M5 H5 k5 h5 r5 q5=>⟨_,Nat.sub_lt_sub_left hlt (Nat.lt_succ_self i),rfl,hlt,?_,kk4.trans k5,ts++[t5],M5,?_,h5,q5⟩⟩
     ·rw[List.length_append,List.length_singleton];lia
     ·exact (Reps.kp (k2.trans (k3.trans (k4.trans k5))) _ _ rts).append (.cons r5 .nil)
   | false =>
     rw[if_neg Bool.false_ne_true] at q4⊢
     exact⟨_,Nat.sub_lt_sub_left hlt (Nat.lt_succ_self i),rfl,hlt,by lia,kk4,ts,M4,Reps.kp (k2.trans (k3.trans k4)) _ _ rts,h4,q4⟩
  ·have e:i=J.items.length:=by lia
   subst e
   refine .inl ⟨ok.stop H M kk hh st,by lia,fun p hp=>?_⟩
   exact en _ _ _ _ (k1.trans (kk.trans (Kp.new hp))) (hh.newL hp rts) a3b (fin ts M w p (hh.free hp))⟩
theorem a2h (hc:X.calm=true) (hi:HI X tg iter wi) (S:BlkScope X N' ix scope) (bt:BTg X.K ix g2 g3) (hg:∀ C s H fp pins,PG (blk X N' scope C s H fp pins) tg g2)
  (ht:∀ C s H fp pins,HTs (blk X N' scope C s H fp pins) ifs tt) (he:∀ C s H fp pins,HE (blk X N' scope C s H fp pins) elt te)
  (hs:∀ x,foldedSetIterable iter X.env x=pure x:=by intro _;rfl) :
  HE X (.ListComp elt [⟨tg,iter,ifs,0⟩] scope pos) (b0l wi ix g3 tt te):=fun ρ0 M0 Q h =>
 (b6H (tt:=dTx X.K tt) (te:=dEx X.K te) hc (hi.d (ρ:=ρ0)) S bt.own hg (fun C s H fp pins=>(ht C s H fp pins).dx) (fun C s H fp pins=>(he C s H fp pins).dx) hs).imp fun σ0 H0 Q2 bb=>b1a (X:=X) (N':=N') bt ρ0 M0 Q h σ0 H0 Q2 bb
theorem a5B {i:Nat} {x:Str} {pos' spos:Pos} (hc:X.calm=true) (hi:HI X tg iter wi) (S:BlkScope X N' ix scope) (bt:BTg X.K ix g2 g3) (hg:∀ C s H fp pins,PG (blk X N' scope C s H fp pins) tg g2)
  (ht:∀ C s H fp pins,HTs (blk X N' scope C s H fp pins) ifs tt) (he:∀ C s H fp pins,HE (blk X N' scope C s H fp pins) elt te) (hN:X.N.Nodup) (hi':X.N[i]?=some x:=by rfl) (hx:Loc X.env.scope x:=by first | exact Or.inl rfl | exact Or.inr rfl)
  (hsw:swapsWith (.ListComp elt [⟨tg,iter,ifs,0⟩] scope pos) (some (.Name x pos')) spos.line X.env=pure true:=by rfl)
  (hs:∀ x,foldedSetIterable iter X.env x=pure x:=by intro _;rfl) (hf:X.fn x=true∨X.env.scope.names.lookup x=some .local:=by first | exact .inl rfl | exact .inr rfl | assumption) :
  HS X (.Assign [.Name x pos'] (.ListComp elt [⟨tg,iter,ifs,0⟩] scope pos) spos) (b5W i (b0l wi ix g3 tt te)):=fun D ρ M h =>
 (b6z (tt:=dTx X.K tt) (te:=dEx X.K te) hN hi' hx hc (hi.d (ρ:=ρ)) S bt.own hg (fun C s H fp pins=>(ht C s H fp pins).dx) (fun C s H fp pins=>(he C s H fp pins).dx) hsw hs hf).imp fun D2 σ H ⟨hr,hh,en⟩ =>
  b1a (X:=X) (N':=N') bt ρ M (fun x M1=>D.nx (ρ.set i (some x)) M1) h σ H _ ⟨hr,hh,fun t v M1 H1 k1 h1 r1 q1=>en.nx _ M1 _ H1 k1 ((hr.kp k1).set i r1) h1 q1⟩
noncomputable def a3w (N:List Str) (ts:List T):En:=ts.map some++List.replicate (N.length - ts.length) none
theorem b2k {K:PySem.W.Frag} {H:Hp} {N:List Str} {vs:List V} {ts:List T} (r:Reps K H vs ts):RhoR K (a5x N vs) H (a3w N ts):=by
 have hl:=r.length
 refine⟨by unfold a5x a3w;simp [hl],fun i t e=>?_⟩
 unfold a3w at e
 unfold a5x
 by_cases hi:i < ts.length
 ·rw[List.getElem?_append_left (by simpa using hi),List.getElem?_map] at e
  cases q:ts[i]? with
  | none=>rw[q] at e;cases e
  | some u =>
    rw[q] at e
    cases e
    obtain⟨v,a,b⟩:=r.get q
    refine⟨v,?_,b⟩
    rw[List.getElem?_append_left (by simpa [hl] using hi),List.getElem?_map,a]
    rfl
 ·rw[List.getElem?_append_right (by simpa using hi),List.getElem?_replicate] at e
  split at e<;>cases e
noncomputable def rt3 (M:MH) (Q:VK3):VK3:=fun t M'=>∃ M0,Sub M0 M'∧Q t M0
end
section
variable {P:Program} {w:World} {K:PySem.W.Frag} {mg:Str→Option Value} {base:Heap}
theorem Fun.fnk {x qual:Str} {st:Stmt} {f:Addr} {fd:FuncData} {N ps:List Str} {n:Nat} {sp:Sp3} (F:Fun K x qual st f fd) (S:FnScope N ps (a0a st)) (len:∀ ts M Q,sp ts M Q→ts.length=ps.length)
  (hbody:∃ t:TS3,(∀ (cdv:Value) (A:Around) (outer:List Env) (s:Shared) (H:Hp) (E:XK),Room n (A.deeper (envOfC qual (a0a st) s.heap.objs.size f cdv)) →
   HSs (cxOf CX0 P w K mg base N qual (a0a st) f cdv A outer s H E).nox (a0r st) t) ∧
   ∀ ts M Q,sp ts M Q→t { nx:=fun _ M'=>rt3 M Q .non M',rt:=rt3 M Q } (a3w N ts) M):FnOk P w K mg base CX0 (n+1) f fd ps (dSp K sp):=by
 obtain⟨t,hbody,rd⟩:=hbody
 refine F.ok S (fun vs H Q E ⟨ts,M,Q3,r,_,q,_⟩=>by rw[r.length];exact len _ _ _ q) (fun cdv A outer s H vs Q E hr ⟨ts,M,Q3,r,hh,q,en⟩=>?_)
 refine⟨_,hbody cdv A outer s H E hr _ _ _ (rd ts M Q3 q),b2k r,hh,⟨?_,?_,fun _ _ _ _ _ _ _ z=>z.elim,fun _ _ _ _ _ _ _ z=>z.elim⟩⟩
 ·rintro ρ' M' σ' H' k hr' hh' ⟨M0,hs,q'⟩
  exact en .non .non M0 H' k (hh'.sub hs) b2m q'
 ·rintro t' v' M' H' k hh' r' ⟨M0,hs,q'⟩
  exact en t' v' M0 H' k (hh'.sub hs) r' q'
theorem Fun.dfn {x qual:Str} {st:Stmt} {f:Addr} {fd:FuncData} {N ps:List Str} {n:Nat} {sp:Sp3} (F:Fun K x qual st f fd) (hm:mg x=some (.ref f)) (hb:a1x K fd ps []) (S:FnScope N ps (a0a st)) (len:∀ ts M Q,sp ts M Q→ts.length=ps.length)
  (hbody:∃ t:TS3,(∀ (cdv:Value) (A:Around) (outer:List Env) (s:Shared) (H:Hp) (E:XK),Room n (A.deeper (envOfC qual (a0a st) s.heap.objs.size f cdv)) →
   HSs (cxOf CX0 P w K mg base N qual (a0a st) f cdv A outer s H E).nox (a0r st) t) ∧
   ∀ ts M Q,sp ts M Q→t { nx:=fun _ M'=>rt3 M Q .non M',rt:=rt3 M Q } (a3w N ts) M):Df P w K mg base (n+1) x ps sp :=
 ⟨f,fd,F.fnk S len hbody,hm,F.kp,hb⟩
end
theorem b4F {l:PySem.W.OpenLaw} {k:Nat} {q:Program} {loose:List Str} {XP:(Str→Option Value)→Heap→Prop} {YP:World→Heap→Prop} {d:DefRec} {K:Params→PySem.W.Frag} {sp:Sp3}
  (hn:l.most=some 63) (hdf:d.params.defaults=[]) (hr:Room k callerA) (hY:∀ (w:World) (h:Heap),YP w h→(K w.params).In h)
  (hs:∀ (ns:List Int) M Q,ns.length≤63→Q (.bl true) M→sp [.rd (ns.map .int)] M Q)
  (F:∀ (w:World) (mg:Str→Option Value) (fa:Addr) (h:Heap),(K w.params).In h→h.Ns mainGlobals mg→mg d.name=some (.ref fa) →
   ∃ fd:FuncData,(∀ (s:Shared) (u:Value),BindsTo s fd ⟨[u],[]⟩ [("script",u)])∧∀ base:Heap,(K w.params).In base→base.Ns mainGlobals mg→FnOk l.prog w (K w.params) mg base CX0 k fa fd ["script"] (dSp (K w.params) sp)) :
  PySem.W.WalkO q loose XP YP l.row.toRowW d [] (fun f vs=>PySem.call f vs):=by
 refine L2.b5R (n:=63) (k:=k) (x:="script") (CX:=fun _=>CX0) (sp:=fun w=>dSp (K w.params) sp) hn (by decide) hdf hr hY F (fun w H a ns hl hO hS=>?_) fun _ _ _ _ _ z=>z
 have fz:FzL (K w.params) H a (ns.map V.int):=by
  rcases hS with (h | ⟨o,h⟩) | h
  ·rcases hO a with z | ⟨ob,xs,z⟩
   ·rw[h] at z;cases z
   ·rw[h] at z;cases z
  ·exact .inl ⟨o,h⟩
  ·exact .inr h
 refine⟨[.rd (ns.map .int)],fun _=>none,fun t _=>t=.bl true,.cons ?_ .nil,(fun _ _ z=>by cases z),hs ns _ (fun t _=>t=.bl true) hl rfl,fun t v M' H' _ _ r e=>?_⟩
 ·unfold Rep
  exact⟨a,_,rfl,fz,Reps.of_ints ns⟩
 ·subst e
  exact a4C r
theorem a4j:∀ {xs:List V} {us:List Value},xs.length=us.length→(∀ (j:Nat) x,xs[j]?=some x→∃ u,us[j]?=some u∧RelV x u)→Vals xs us
 | [],[],_,_=>.nil
 | [],_ :: _,h,_=>by simp at h
 | _ :: _,[],h,_=>by simp at h
 | x :: xs,u :: us,h,g=>by
   refine .cons ?_ (a4j (by simpa using h) fun j y e=>?_)
   ·obtain⟨w,e,r⟩:=g 0 x rfl
    have:u=w:=by simpa using e
    subst this;exact r
   ·obtain⟨w,e',r⟩:=g (j+1) y (by simpa using e)
    exact⟨w,by simpa using e',r⟩
noncomputable def a2t (lo:Int) (n:Nat):List V:=(List.range n).map fun i=>V.int (lo+(i:Nat))
theorem a5D {K:PySem.W.Frag} {H:Hp} (lo:Int) (n:Nat):Reps K H (a2t lo n) (a0J lo n):=by
 have e1:a2t lo n=((List.range n).map fun i=>lo+((i:Nat):Int)).map V.int:=by unfold a2t;rw[List.map_map];rfl
 have e2:a0J lo n=((List.range n).map fun i=>lo+((i:Nat):Int)).map T.int:=by unfold a0J;rw[List.map_map];rfl
 rw[e1,e2];exact Reps.of_ints _
section
variable {X:Cx} {a b e:Expr} {es:List Expr} {ta te:TE3} {t:TA3} {pos:Pos}
noncomputable def b5s (t:TA3):TE3:=fun ρ M Q=>t ρ M fun xs M1=>match xs with
 | [.int j]=>(-(2 ^ 62)≤j∧j < 2 ^ 24)∧∀ p,M1 p=none→Q (.adr p) (updM M1 p (.lst (a0J 0 j.toNat)))
 | _=>False
theorem a8J {t:TA3} {p p' pos':Pos} (hm:X.mg "list"=none) (hm':X.mg "range"=none) (ha:HA X [a] t) (hc:X.calm=true:=by rfl) (hg:Gl X "list":=by rfl) (hg':Gl X "range":=by rfl) (hs:starEach [a] X.env=[(false,eval a X.env)]:=by rfl)
  (he:starEach [.Call (.Name "range" p') [a] [] pos'] X.env=(false,eval (.Call (.Name "range" p') [a] [] pos') X.env) :: starEach [] X.env:=by rfl) :
  HE X (.Call (.Name "list" p) [.Call (.Name "range" p') [a] [] pos'] [] pos) (b5s t):=by
 intro ρ M Q h pins s σ H Q2 I bb
 obtain⟨hr,hh,en⟩:=bb
 refine wpAny_Call_Name_kw (a3y I hg hm boot_list ?_ (by decide) (by decide))
 refine PyProof.Rows.callWith_type1 ?_ he rfl
 rw[he]
 refine Calls.spliced_cons ?_
 refine Call_ (a3y I hg' hm' boot_range (PyProof.Rows.callWith_type1 (thn (ha ρ M _ h pos' pins s σ H (fun vs H1=>∃ j M1,vs=[V.int j]∧HR X.K H1 M1∧Kp X.K H H1∧(-(2 ^ 62)≤j∧j < 2 ^ 24)∧∀ p,M1 p=none→Q (.adr p) (updM M1 p (.lst (a0J 0 j.toNat)))) I
  ⟨hr,hh,fun ts vs M1 H1 k1 h1 r1 q1=>by
   dsimp only at q1
   split at q1
   ·rename_i j
    obtain⟨v,rfl,rv⟩:=a3o r1
    obtain rfl:=a0u rv
    exact⟨j,M1,rfl,h1,k1,q1.1,q1.2⟩
   ·exact q1.elim⟩) fun us s1 ⟨vs,H1,I1,rv,j,M1,e1,h1,k1,hj,q1⟩=>?_) hs rfl))
 subst e1
 obtain⟨u,rfl,t',rfl⟩:=a5i rv
 refine call_range_1 (Calls.spliced_nil ?_)
 have I2:Inv X pins σ H1 { s1 with heap:=s1.heap.push { cls:=.type "range",data:=.fields #[.int 0 s1.toks,.int j t',.int 1 (s1.toks+1)] },toks:=s1.toks+2 }:=I1.kept fun b o e=>Heap.get?_push_of_some _ e
 have hn:Builtin.Range.rangeSize 0 j 1=((j.toNat:Nat):Int):=by rw[rangeSize_one];split<;>lia
 refine call_list_range (I1.ok.hd hc) (IsRange.new ..) (small_one (by lia) (by lia) (by lia) (by lia)) hn (by lia) fun h' tk acc' c' kp e ito=>?_
 have hz:j.toNat≤sizeLine:=by rw[sizeLine_eq];lia
 have vr:Vals (a2t 0 j.toNat) acc'.toList:=by
  refine a4j (by unfold a2t;simp [ito.1]) fun i x ex=>?_
  have hi:i < j.toNat:=by have:=(List.getElem?_eq_some_iff.mp ex).1;simpa [a2t] using this
  have hi':i < acc'.size:=by rw[ito.1];exact hi
  have ea:acc'[i]?=some acc'[i]:=Array.getElem?_eq_getElem hi'
  obtain⟨tt,et⟩:=ito.2 i _ ea
  refine⟨acc'[i],by rw[Array.getElem?_toList];exact ea,?_⟩
  unfold a2t at ex
  rw[List.getElem?_map,List.getElem?_range hi] at ex
  have:=Option.some.inj ex
  subst this
  exact⟨tt,by rw[et,Int.mul_one]⟩
 have I3:=I2.laid (a:={ s1 with heap:=s1.heap.push { cls:=.type "range",data:=.fields #[.int 0 s1.toks,.int j t',.int 1 (s1.toks+1)] },toks:=s1.toks+2 }.heap.objs.size) (o:=.lst (a2t 0 j.toNat)) (t':=tk) kp (Nat.le_refl _)
  (show a1N X.prog X.w _ h' _ (.lst (a2t 0 j.toNat)) from ⟨by unfold a2t;simpa using hz,acc'.toList,c',vr,by simpa using e⟩)
 have hf:=I2.hok.fresh (Nat.le_refl _)
 exact⟨.ref _,_,I3,rfl,en _ _ _ _ (k1.trans (Kp.new hf)) (h1.newL hf (a5D 0 j.toNat)) a3b (q1 _ (h1.free hf))⟩
noncomputable def b4M (M:MH) (x:T):Prop:=match x with
 | .adr p=>(match M p with | some (.lst _)=>True | _=>False)
 | _=>False
noncomputable abbrev RM3:=T→List T→MH→VK3→Prop
noncomputable def dM (K:PySem.W.Frag) (r:RM3):V→List V→Hp→VK→Prop:=fun v vs H Q2=>∃ x xs M Q,Rep K H v x∧Reps K H vs xs∧HR K H M∧r x xs M Q∧EndE K H Q Q2
noncomputable def MtR3 (X:Cx) (id:String) (r:RM3):Prop:=MtR X id (dM X.K r)
noncomputable def tLM3 (r:RM3) (to:TE3) (t:TA3):TE3:=fun ρ M Q=>to ρ M fun x M1=>b4M M1 x∧t ρ M1 fun xs M2=>r x xs M2 Q
theorem b4L {K:PySem.W.Frag} {H:Hp} {M:MH} {x:T} {v:V} (hh:HR K H M) (r:Rep K H v x) (h:b4M M x):tyV K "list" v H:=by
 unfold b4M at h
 split at h
 ·rename_i p
  split at h
  ·rename_i ts e
   obtain⟨xs,g1,_⟩:=hh _ _ e
   obtain rfl:=a0G r
   exact .inl ⟨rfl,xs,SqL.of g1⟩
  ·exact h.elim
 ·exact h.elim
theorem h_lm {o:Expr} {to:TE3} {name:Str} {apos cpos:Pos} {id:String} {r:RM3} (slot:Slot "list" name id) (hty:typeOf (.builtin id)=pure (.type "method_descriptor")) (hm:MtR3 X id r) (ho:HE X o to) (ha:HA X (e :: es) t)
  (hbase:attributeBase o name X.env (eval o X.env)=eval o X.env:=by rfl)
  (hfew:((backTo cpos (starEach (e :: es) X.env)).all (fun x=>!x.1) && (backToKw cpos (keywordEach [] X.env)).all (fun x=>x.1.isSome)
   && decide ((e :: es).length+([]:List Keyword).length+(if ([]:List Keyword).isEmpty then 0 else 1) < 30))=true:=by rfl)
  (hline:(apos.endLine == cpos.line)=true:=by rfl) (hs:starEach (e :: es) X.env=(false,eval e X.env) :: starEach es X.env:=by rfl) (hplain:(backTo cpos (starEach es X.env)).any (·.1)=false:=by rfl) :
  HE X (.Call (.Attribute o name apos) (e :: es) [] cpos) (tLM3 r to t):=fun ρ M Q h =>
 (c0r PySem.F.plainAttrs_list slot hty hm (ho.d (ρ:=ρ)) (ha.d (ρ:=ρ)) hbase hfew hline hs hplain).imp fun σ H Q2 ⟨hr,hh,en⟩=>⟨M,_,h,hr,hh,fun x v M1 H1 k1 h1 r1 q1=>⟨b4L h1 r1 q1.1,M1,_,q1.2,hr.kp k1,h1,fun ts vs M2 H2 k2 h2 r2 q2 =>
  ⟨x,ts,M2,Q,Rep.kp k2 _ _ r1,r2,h2,q2,en.kp (k1.trans k2)⟩⟩⟩
noncomputable def b4l:RM3:=fun x xs M Q=>match x,xs with
 | .adr p,[y]=>(match M p with | some (.lst ts)=>ts.length < sizeLine∧Q .non (updM M p (.lst (ts++[y]))) | _=>False)
 | _,_=>False
theorem b1E:MtR3 X "list.append" b4l:=by
 intro pins s σ H v vs u us Q2 I rv rvs h
 obtain⟨x,xs,M,Q,r1,r2,hh,q,en⟩:=h
 unfold b4l at q
 split at q
 ·rename_i p y
  split at q
  ·rename_i ts e0
   obtain⟨ys,g1,g2⟩:=hh _ _ e0
   obtain rfl:=a0G r1
   obtain⟨w,rfl,rw'⟩:=a3o r2
   exact b2E pins s σ H _ _ u us Q2 I rv rvs ⟨_,ys,w,rfl,rfl,g1,by rw[g2.length];exact q.1,en _ _ _ _ (Kp.lst g1) (hh.setL g1 (g2.append (.cons rw' .nil))) b2m q.2⟩
  ·exact q.elim
 ·exact q.elim
noncomputable def a7G:List T→Option (List Int)
 | []=>some []
 | .int i :: ts=>(a7G ts).map (i :: ·)
 | _ :: _=>none
theorem a5U:∀ (ns:List Int),a7G (ns.map T.int)=some ns
 | []=>rfl
 | n :: ns=>by show (a7G (ns.map T.int)).map (n :: ·)=_;rw[a5U ns];rfl
theorem a6I:∀ {ts:List T} {ns:List Int},a7G ts=some ns→ts=ns.map T.int
 | [],ns,e=>by unfold a7G at e;cases e;rfl
 | t :: ts,ns,e=>by
   cases t with
   | int i =>
     unfold a7G at e
     cases q:a7G ts with
     | none=>rw[q] at e;cases e
     | some cs=>rw[q] at e;cases e;rw[a6I q];rfl
   | _=>unfold a7G at e;cases e
theorem a6J {o:Expr} {to:TE3} {apos cpos:Pos} (ho:HE X o to) (ha:HA X (e :: es) t)
  (hbase:attributeBase o "append" X.env (eval o X.env)=eval o X.env:=by rfl)
  (hfew:((backTo cpos (starEach (e :: es) X.env)).all (fun x=>!x.1) && (backToKw cpos (keywordEach [] X.env)).all (fun x=>x.1.isSome)
   && decide ((e :: es).length+([]:List Keyword).length+(if ([]:List Keyword).isEmpty then 0 else 1) < 30))=true:=by rfl)
  (hline:(apos.endLine == cpos.line)=true:=by rfl) (hs:starEach (e :: es) X.env=(false,eval e X.env) :: starEach es X.env:=by rfl) (hplain:(backTo cpos (starEach es X.env)).any (·.1)=false:=by rfl) :
  HE X (.Call (.Attribute o "append" apos) (e :: es) [] cpos) (tLM3 b4l to t):=h_lm PySem.F.slot_list_append PySem.F.type_list_append b1E ho ha hbase hfew hline hs hplain
end
end L2
namespace LM
noncomputable def a1w (n l:Int):Prop:=1≤(l.natAbs:Int)∧(l.natAbs:Int) < n
noncomputable def a0f (n:Int) (w:List Int):Prop:=∀ l∈w,a1w n l
noncomputable def a8F (n l:Int):Bool:=decide (1≤l.natAbs) && decide ((l.natAbs:Int) < n)
noncomputable def isPl (n:Int) (w:List Int):Bool:=decide (1≤n) && decide (n≤6) && decide (w.length≤16) && w.all (a8F n)
noncomputable def PlOK (n:Int) (w:List Int):Prop:=1≤n∧n≤6∧w.length≤16∧a0f n w
theorem b2M {n l:Int}:a8F n l=true↔a1w n l:=by
 unfold a8F a1w
 simp only[Bool.and_eq_true,decide_eq_true_eq]
 lia
theorem PlOK.is {n:Int} {w:List Int} (h:PlOK n w):isPl n w=true:=by
 obtain⟨h1,h2,h3,h4⟩:=h
 unfold isPl
 simp only[Bool.and_eq_true,decide_eq_true_eq,List.all_eq_true]
 exact⟨⟨⟨h1,h2⟩,h3⟩,fun l hl=>b2M.mpr (h4 l hl)⟩
theorem a0f.nil {n:Int}:a0f n []:=fun _ z=>nomatch z
theorem a0f.append {n:Int} {u v:List Int} (h:a0f n u) (g:a0f n v):a0f n (u++v):=fun l hl=>(List.mem_append.mp hl).elim (h l) (g l)
theorem a1V {α β:Type} (f:α→β) {L:List α} {i:Nat} {x:α} (h:L[i]?=some x):(L.take i).map f++[f x]=(L.take (i+1)).map f:=by
 rw[List.take_add_one,h];simp
theorem a0q {α β:Type} {f:α→β} {L:List α} {i:Nat} {y:β} (h:(L.map f)[i]?=some y):∃ x,L[i]?=some x∧f x=y:=by
 rw[List.getElem?_map] at h
 cases q:L[i]? with
 | none=>rw[q] at h;cases h
 | some x=>rw[q] at h;exact⟨x,rfl,Option.some.inj h⟩
noncomputable def a0l (n:Int):List Int:=(List.range n.toNat).map fun i=>((i:Nat):Int)
theorem a0s (n:Int):(a0l n).length=n.toNat:=by unfold a0l;simp
theorem a6F {n s:Int} (h:s∈a0l n):0≤s∧s < n:=by
 unfold a0l at h
 obtain⟨i,hi,rfl⟩:=List.mem_map.mp h
 have:=List.mem_range.mp hi
 lia
theorem getD_set (l:List Int) (i j:Nat) (x d:Int):(l.set i x).getD j d=if i=j∧j < l.length then x else l.getD j d:=by
 rw[List.getD_eq_getElem?_getD,List.getElem?_set]
 by_cases h:i=j
 ·subst h
  by_cases h2:i < l.length
  ·rw[if_pos rfl,if_pos h2,if_pos ⟨rfl,h2⟩];rfl
  ·rw[if_pos rfl,if_neg h2,if_neg (fun q=>h2 q.2)]
   rw[List.getD_eq_getElem?_getD,List.getElem?_eq_none (by lia)]
 ·rw[if_neg h,if_neg (fun q=>h q.1),List.getD_eq_getElem?_getD]
theorem range0_get (n:Int) (s:Int) (h0:0≤s) (h1:s < n):(a0l n).getD s.toNat 0=s:=by
 unfold a0l
 rw[List.getD_eq_getElem?_getD,List.getElem?_map,List.getElem?_range (by lia)]
 show ((s.toNat:Nat):Int)=s
 lia
theorem a8n (n:Int):(a0l n).Nodup:=by
 unfold a0l
 refine List.Pairwise.map _ (fun (a b:Nat) (h:a≠b)=>?_) List.nodup_range
 show (a:Int)≠(b:Int)
 lia
noncomputable def a1j (w:List Int):List Int:=w.reverse.map fun l=>-l
theorem a1w.neg {n l:Int} (h:a1w n l):a1w n (-l):=by unfold a1w at *;lia
theorem a0f.map {n:Int} {w:List Int} {f:Int→Int} (hf:∀ l,a1w n l→a1w n (f l)) (h:a0f n w):a0f n (w.map f):=fun l hl=>by
 obtain⟨k,hk,rfl⟩:=List.mem_map.mp hl
 exact hf k (h k hk)
theorem a0f.reverse {n:Int} {w:List Int} (h:a0f n w):a0f n w.reverse:=fun l hl=>h l (List.mem_reverse.mp hl)
theorem a0f.contr {n:Int} {w:List Int} (h:a0f n w):a0f n (a1j w):=h.reverse.map fun _=>a1w.neg
theorem PlOK.map {n:Int} {w:List Int} {f:Int→Int} (hf:∀ l,a1w n l→a1w n (f l)) (h:PlOK n w):PlOK n (w.map f):=⟨h.1,h.2.1,by rw[List.length_map];exact h.2.2.1,h.2.2.2.map hf⟩
theorem b1u {n s:Int} (h0:0≤s) (h1:s < n):s∈a0l n:=by
 unfold a0l
 exact List.mem_map.mpr ⟨s.toNat,List.mem_range.mpr (by lia),by lia⟩
theorem b4D {f:Int→Int} {w:List Int} (h:∀ l∈w,f l=l):w.map f=w:=by
 conv=>rhs;rw[← List.map_id w]
 exact List.map_congr_left h
theorem a9H (w:List Int):(w.map fun l=>-l).map (fun l=>-l)=w:=by
 rw[List.map_map]
 exact b4D fun l _=>Int.neg_neg l
theorem a8U (w:List Int):a1j (a1j w)=w:=by
 unfold a1j
 rw[← List.map_reverse,List.reverse_reverse]
 exact a9H w
theorem a6a (l:Int) (w:List Int):a1j (l :: w)=a1j w++[-l]:=by unfold a1j;rw[List.reverse_cons,List.map_append];rfl
noncomputable def rowL (k:Nat):List Int:=(List.range k).map fun i=>((i:Nat):Int)+1
end LM
namespace L2
open PySem PySem.Spec PyProof.Rows LM
theorem a9t (x:Str) (N:List Str) (t:T) (ts:List T):a3w (x :: N) (t :: ts)=some t :: a3w N ts:=by
 unfold a3w
 simp only[List.map_cons,List.length_cons,Nat.add_sub_add_right,List.cons_append]
theorem a9s (x:Str) (N:List Str):a3w (x :: N) []=none :: a3w N []:=by
 unfold a3w
 simp only[List.map_nil,List.length_cons,List.length_nil,Nat.sub_zero,List.nil_append,List.replicate_succ]
theorem b1q:a3w [] []=[]:=rfl
theorem b1z (ix:List (Option Nat)) (ρ:En):a7n (none :: ix) ρ=none :: a7n ix ρ:=rfl
theorem b1y (j:Nat) (ix:List (Option Nat)) (ρ:En):a7n (some j :: ix) ρ=(ρ[j]?).join :: a7n ix ρ:=rfl
theorem b2t (ρ:En):a7n [] ρ=[]:=rfl
theorem b2I {α:Type} (a:Option α):(some a).join=a:=rfl
theorem a0y {M:MH} {Q:VK3} {t:T} {M':MH} (h:Q t M'):rt3 M Q t M':=⟨M',Sub.refl,h⟩
theorem a7V {α:Type} (x:α) (xs:List α):atI (x :: xs) 0=some x:=by
 have:=a0N (xs:=x :: xs) (j:=0) (v:=x) rfl
 simpa using this
theorem b5k {α:Type} (x y:α) (xs:List α):atI (x :: y :: xs) 1=some y:=by
 have:=a0N (xs:=x :: y :: xs) (j:=1) (v:=y) rfl
 simpa using this
theorem c0P {α:Type} (x y z:α) (xs:List α):atI (x :: y :: z :: xs) 2=some z:=by
 have:=a0N (xs:=x :: y :: z :: xs) (j:=2) (v:=z) rfl
 simpa using this
theorem c0z (n:Nat):ixN (n+1) 0=some 0:=by
 unfold ixN
 rw[if_pos (by lia),if_pos (by lia)];rfl
theorem a7Z {M:MH} {a:Addr} {o u:MO}:updM (updM M a o) a u=updM M a u:=by
 funext b;unfold updM;split<;>rfl
theorem b1g (ns:List Int) (i:Int) (h0:0≤i) (h:i < ns.length):atI (ns.map T.int) i=some (.int (ns.getD i.toNat 0)):=by
 have e:i=((i.toNat:Nat):Int):=by lia
 have hl:i.toNat < ns.length:=by lia
 have:=a0N (xs:=ns.map T.int) (j:=i.toNat) (v:=.int (ns.getD i.toNat 0)) (by
  rw[List.getElem?_map,List.getElem?_eq_getElem hl]
  simp [List.getD,List.getElem?_eq_getElem hl])
 rw[← e] at this
 exact this
theorem a6h (bs:List Bool):a7U (bs.map T.bl)=some bs:=by
 induction bs with
 | nil=>rfl
 | cons b bs ih=>show (a7U (bs.map T.bl)).map (b :: ·)=_;rw[ih];rfl
theorem a5E (ns:List Int):a2c (ns.map T.int)=true:=by
 induction ns with
 | nil=>rfl
 | cons n ns ih=>show (a0B (.int n) && a2c (ns.map T.int))=true;rw[ih];rfl
theorem a6O (ns:List Int):a4G (ns.map T.int)=0:=by
 induction ns with
 | nil=>rfl
 | cons n ns ih=>show max (depT (.int n)) (a4G (ns.map T.int))=0;rw[ih];rfl
theorem b3i (a b:List Int):eqTs (a.map T.int) (b.map T.int)=decide (a=b):=by
 induction a generalizing b with
 | nil=>cases b<;>simp [eqTs]
 | cons x a ih =>
   cases b with
   | nil=>simp [eqTs]
   | cons y b =>
     show (eqT (.int x) (.int y) && eqTs (a.map T.int) (b.map T.int))=_
     rw[ih]
     have:eqT (.int x) (.int y)=(x == y):=rfl
     rw[this]
     by_cases h1:x=y<;>by_cases h2:a=b<;>simp [h1,h2]
theorem b7n (a b:List T):eqT (.tup a) (.tup b)=eqTs a b:=rfl
theorem a3K (a b:Int):eqT (.int a) (.int b)=decide (a=b):=by
 show (a == b)=_
 by_cases h:a=b<;>simp [h]
theorem b3j (x y:T) (a b:List T):eqTs (x :: a) (y :: b)=(eqT x y && eqTs a b):=rfl
theorem b5c:eqTs [] []=true:=rfl
theorem a9B (x:T) (a:List T):a2c (x :: a)=(a0B x && a2c a):=rfl
theorem b1v:a2c []=true:=rfl
theorem a3F (i:Int):a0B (.int i)=true:=rfl
theorem b4m (i:Bool):a0B (.bl i)=true:=rfl
theorem b2q (i:List T):a0B (.tup i)=a2c i:=rfl
theorem a2G (i:Int):depT (.int i)=0:=rfl
theorem b7p (i:Bool):depT (.bl i)=0:=rfl
theorem b5i (i:List T):depT (.tup i)=a4G i+1:=rfl
theorem b1N (x:T) (a:List T):a4G (x :: a)=max (depT x) (a4G a):=rfl
theorem b3t:a4G []=0:=rfl
theorem a8a {M:MH} {p:Addr} {o:MO} (h:M p=some o):updM M p o=M:=by
 funext b;unfold updM;split
 ·rename_i e;rw[e,h]
 ·rfl
theorem b6U {M:MH} {p q:Addr} {o:MO} (h:M p=some o) (h':M q=none):p≠q:=by
 rintro rfl
 rw[h] at h';cases h'
theorem Sub.set {M M':MH} {p:Addr} {o u:MO} (h:Sub (updM M p o) M'):Sub (updM M p u) (updM M' p u):=fun a v e=>by
 by_cases ha:a=p
 ·subst ha;rw[a0c] at e⊢;exact e
 ·rw[a0n ha] at e⊢
  exact h a v (by rw[a0n ha];exact e)
theorem Sub.newr {M M':MH} {r:Addr} {o:MO} (h:Sub M M') (hr:M' r=none):Sub M (updM M' r o):=h.trans (Sub.new hr)
theorem a1K {M:MH} {Q:VK3} {t:T} {M0 M':MH} (h:Q t M0) (s:Sub M0 M'):rt3 M Q t M':=⟨M0,s,h⟩
theorem a3c {n:Nat} {k:Int} (h0:0≤k) (h:k < n):ixN n k=some k.toNat:=by
 unfold ixN
 rw[if_pos h0,if_pos h]
theorem a0e (a:Int) (n:Nat):(a0J a n).length=n:=by unfold a0J;simp
theorem Sub.updF {M M':MH} {p:Addr} {o:MO} (h:Sub M M') (hp:M p=none):Sub M (updM M' p o):=fun a v e=>by
 have ha:a≠p:=by rintro rfl;rw[hp] at e;cases e
 rw[a0n ha];exact h a v e
end L2
namespace L2
open PySem PySem.Spec PyProof.Rows
section
variable {prog:Program} {w:World} {A:Around} {E:Value→Shared→Prop} {s:Shared}
end
section
variable {X:Cx}
end
theorem a1n {n i:Nat} {x:T} (h:(a0J 0 n)[i]?=some x):i < n∧x=.int i:=by
 have hl:=(List.getElem?_eq_some_iff.mp h).1
 rw[a0e] at hl
 unfold a0J at h
 rw[List.getElem?_map,List.getElem?_range hl] at h
 have e:=Option.some.inj h
 refine⟨hl,?_⟩
 rw[← e]
 simp
theorem a0t {n:Nat} (h:n < 10000):n < sizeLine:=Nat.lt_of_le_of_lt (by lia:n≤10000) (by decide)
theorem a5M {n:Nat} (h:n < 10000):n≤sizeLine:=Nat.le_of_lt (a0t h)
end L2
namespace HT
open PySem PySem.Spec PyProof.Rows
section
variable {prog:Program} {w:World} {A:Around} {E:Value→Shared→Prop} {s:Shared}
theorem getItem_tuple_all {t sl:Addr} {items:Array Value} {vl vu:Value} {lo hi:Option Int} {Q:Value→Shared→Prop} (ht:IsTup s.heap t items) (hs:s.heap.IsSliceOf sl vl vu .none) (pl:IsPart vl lo) (pu:IsPart vu hi)
  (hw:sIx items.size 0 lo=0∧sIx items.size items.size hi=items.size) (h:Q (.ref t) s)
  (hsz:items.size≤sizeLine):wpAny (model prog w) A (getItem (.ref t) (.ref sl)) Q E s:=by
 obtain⟨os,hos,hcs,hds⟩:=id hs
 have hTs:s.TypeIs (.ref sl) "slice":=⟨os,hos,hcs⟩
 unfold getItem
 try with_reducible refine wpAny_holding ?_
 first | refine wpAny_bind (wpAny_pure ?_) | skip
 refine wpAny_bind (wpAny_sequenceKey ht.typeIs (by decide) ?_)
 refine wpAny_bind (wpAny_callSpecial?_slot (name:=Str.ofString "__getitem__") ht.typeIs PyProof.Rows.slot_tuple_getitem
  (wpAny_call_entry PyProof.Rows.slot_tuple_getitem ht.typeIs entry_tuple_getitem ?_ (args_tuple_getitem _ _)))
 show wpAny _ _ (Builtin.Tuple.tupleItemsOf (.ref t) >>= _) _ _ s
 refine wpAny_bind (tupleItemsOf_ ht ?_)
 refine wpAny_bind (wpAny_typeOf hTs ?_)
 rw[if_pos (by decide)]
 refine wpAny_bind (a3x hs pl pu ?_)
 have hyes:(((sIx items.size 0 lo:Nat):Int) == 0 && (1:Int) == 1 && (sIx items.size items.size hi - sIx items.size 0 lo) == items.size)=true:=by
  rw[hw.1,hw.2]
  simp
 show wpAny _ _ (if (((sIx items.size 0 lo:Nat):Int) == 0 && (1:Int) == 1 && (sIx items.size items.size hi - sIx items.size 0 lo) == items.size)=true then _ else _) _ _ s
 rw[if_pos hyes]
 refine wpAny_bind (m:=Builtin.Tuple.tupleIsExact (.ref t)) (wpAny_bind (wpAny_typeOf ht.typeIs (wpAny_pure ?_)))
 rw[if_pos (by decide)]
 refine wpAny_bind (wpAny_rule ?_)
 first
  | exact wpAny_pure ⟨_,rfl,wpAny_pure h⟩
  | exact wpAny_bind (wpAny_pure (wpAny_pure ⟨_,rfl,wpAny_pure h⟩))
end
end HT
namespace L2
open PySem PySem.Spec PyProof.Rows
section
variable {X:Cx}
noncomputable def cutT (xs:List T) (lo hi:Option Int):List T:=(xs.drop (HT.sIx xs.length 0 lo)).take (HT.sIx xs.length xs.length hi - HT.sIx xs.length 0 lo)
noncomputable def c0h (K:PySem.W.Frag):V→Option Int→Option Int→Hp→VK→Prop:=fun x lo hi H Q=>∃ a xs,x=.ref a∧SqT K H a xs ∧
 ∀ p H',SqT K H' p (cutV xs lo hi)→(H'=H∨H p=none∧H'=upd H p (.tup (cutV xs lo hi)))→Q (.ref p) H'
theorem b6b:SlR X (c0h X.K):=by
 intro pins s σ H x v vl vu lo hi sl Q I rx hs pl pu h
 obtain⟨a,xs,rfl,hx,q⟩:=h
 by_cases hw:HT.sIx xs.length 0 lo=0∧HT.sIx xs.length xs.length hi=xs.length
 ·cases rx
  obtain⟨its,r,ht,hz⟩:=I.tuple hx
  have hlen:its.toArray.size=xs.length:=by rw[List.size_toArray];exact r.length.symm
  refine⟨"tuple",_,PyProof.Rows.slot_tuple_getitem.lookup,ht.typeIs,?_⟩
  refine HT.getItem_tuple_all ht hs pl pu (by rw[hlen];exact hw) ?_ (by rw[hlen];exact hz)
  have e:cutV xs lo hi=xs:=by
   unfold cutV
   rw[hw.1,hw.2]
   simp
  exact⟨.ref a,H,I,rfl,q a H (by rw[e];exact hx) (.inl rfl)⟩
 ·exact b8i pins s σ H _ v vl vu lo hi sl Q I rx hs pl pu ⟨a,xs,rfl,hx,hw,fun p hp=>q p _ (SqT.of a0U) (.inr ⟨hp,rfl⟩)⟩
theorem Reps.cut {K:PySem.W.Frag} {H:Hp} {xs:List V} {ts:List T} (r:Reps K H xs ts) (lo hi:Option Int):Reps K H (cutV xs lo hi) (cutT ts lo hi):=by
 unfold cutV cutT
 rw[r.length]
 exact (r.drop _).take _
noncomputable abbrev TO3:=En→MH→(Option Int→MH→Prop)→Prop
noncomputable def HPo (X:Cx) (e:Option Expr) (t:TO3):Prop:=∀ ρ M Q,t ρ M Q→PO X e (fun σ H Q2=>RhoR X.K σ H ρ∧HR X.K H M∧∀ o M' H',Kp X.K H H'→HR X.K H' M'→Q o M'→Q2 o H')
noncomputable def dPo (K:PySem.W.Frag) (ρ:En) (t:TO3):TO:=fun σ H Q2=>∃ M Q,t ρ M Q∧RhoR K σ H ρ∧HR K H M∧∀ o M' H',Kp K H H'→HR K H' M'→Q o M'→Q2 o H'
theorem HPo.d {e:Option Expr} {t:TO3} {ρ:En} (h:HPo X e t):PO X e (dPo X.K ρ t):=fun pins s σ H Q I ⟨M,Q3,q,b⟩=>h ρ M Q3 q pins s σ H Q I b
theorem PO.imp {e:Option Expr} {w w':TO} (h:PO X e w) (f:∀ σ H Q,w' σ H Q→w σ H Q):PO X e w':=fun pins s σ H Q I q=>h pins s σ H Q I (f σ H Q q)
noncomputable def tNo3:TO3:=fun ρ M Q=>Q none M
noncomputable def tPt3 (t:TE3):TO3:=fun ρ M Q=>t ρ M fun x M1=>match x with
 | .int i=>Q (some i) M1
 | _=>False
theorem a6D:HPo X none tNo3:=fun ρ M Q h=>b6F.imp fun σ H Q2 ⟨hr,hh,en⟩=>en _ _ _ Kp.refl hh h
theorem a6C {e:Expr} {t:TE3} (he:HE X e t):HPo X (some e) (tPt3 t):=fun ρ M Q h=>(b6E (he.d (ρ:=ρ))).imp fun σ H Q2 ⟨hr,hh,en⟩ =>
 ⟨M,_,h,hr,hh,fun x v M1 H1 k1 h1 r1 q1=>by
  dsimp only at q1
  split at q1
  ·obtain rfl:=a0u r1
   exact⟨_,rfl,en _ _ _ k1 h1 q1⟩
  ·exact q1.elim⟩
noncomputable def rSlS:V→Option Int→Option Int→Hp→VK→Prop:=fun x lo hi H Q=>∃ z,x=.str z∧z.length≤sizeLine∧Q (.str (Txt.slice z lo hi)) H
theorem b8j:SlR X rSlS:=by
 intro pins s σ H x v vl vu lo hi sl Q I rx hs pl pu h
 obtain⟨z,rfl,hz,q⟩:=h
 obtain⟨t,rfl⟩:=rx
 refine⟨"str",_,F.slot_str_getitem.lookup,typeIs_str _ _ _,?_⟩
 have fin:∀ t' k,EP X pins σ Q (.str (Txt.slice z lo hi) t') { s with toks:=k }:=fun t' k=>⟨.str _,H,I.kept fun b o e=>e,⟨_,rfl⟩,q⟩
 have hl:(Txt.slice z lo hi).length≤sizeLine:=Nat.le_trans (Txt.slice_le z _ _) hz
 cases pl with
 | none=>cases pu with
   | none=>exact wpAny_getItem_str_slice (l:=none) (u:=none) (st:=none) hs rfl (post_val_or_str ⟨hl,fin⟩)
   | int j uj=>exact wpAny_getItem_str_slice (l:=none) (u:=some (j,uj)) (st:=none) hs rfl (post_val_or_str ⟨hl,fin⟩)
 | int i ui=>cases pu with
   | none=>exact wpAny_getItem_str_slice (l:=some (i,ui)) (u:=none) (st:=none) hs rfl (post_val_or_str ⟨hl,fin⟩)
   | int j uj=>exact wpAny_getItem_str_slice (l:=some (i,ui)) (u:=some (j,uj)) (st:=none) hs rfl (post_val_or_str ⟨hl,fin⟩)
noncomputable def tSl3 (te:TE3) (tl th:TO3):TE3:=fun ρ M Q=>te ρ M fun x M1=>tl ρ M1 fun l M2=>th ρ M2 fun u M3=>match x with
 | .tup ts=>Q (.tup (cutT ts l u)) M3
 | .adr p=>(match M3 p with
   | some (.lst ts)=>∀ r,M3 r=none→Q (.adr r) (updM M3 r (.lst (cutT ts l u)))
   | _=>False)
 | .str z=>z.length≤sizeLine∧Q (.str (Txt.slice z l u)) M3
 | _=>False
theorem a4W {e:Expr} {lo hi:Option Expr} {te:TE3} {tl th:TO3} {pos p2:Pos} (he:HE X e te) (hl:HPo X lo tl) (hu:HPo X hi th):HE X (.Subscript e (.Slice lo hi none p2) pos) (tSl3 te tl th):=fun ρ M Q h =>
 (b4r ((b6b.or b6c).or b8j) (he.d (ρ:=ρ)) (hl.d (ρ:=ρ)) (hu.d (ρ:=ρ))).imp fun σ H Q2 ⟨hr,hh,en⟩ =>
  ⟨M,_,h,hr,hh,fun x v M1 H1 k1 h1 r1 q1=>⟨M1,_,q1,hr.kp k1,h1,fun l M2 H2 k2 h2 q2=>⟨M2,_,q2,hr.kp (k1.trans k2),h2,fun u M3 H3 k3 h3 q3=>by
   have r3:=Rep.kp (k2.trans k3) _ _ r1
   have k13:=(k1.trans k2).trans k3
   split at q3
   ·rename_i ts
    obtain⟨a,xs,rfl,g1,g2⟩:=a2e r3
    refine .inl (.inl ⟨a,xs,rfl,g1,fun p H' h' c=>?_⟩)
    rcases c with rfl | ⟨c1,rfl⟩
    ·exact en _ _ _ _ k13 h3 (a2j h' (g2.cut l u)) q3
    ·exact en _ _ _ _ (k13.trans (Kp.new c1)) (h3.keep c1) (a2j h' (Reps.kp (Kp.new c1) _ _ (g2.cut l u))) q3
   ·obtain rfl:=a0G r3
    split at q3
    ·rename_i ts e0
     obtain⟨xs,g1,g2⟩:=h3 _ _ e0
     refine .inl (.inr ⟨_,xs,rfl,SqL.of g1,fun p hp=>?_⟩)
     exact en _ _ _ _ (k13.trans (Kp.new hp)) (h3.newL hp (g2.cut l u)) a3b (q3 p (h3.free hp))
    ·exact q3.elim
   ·obtain rfl:=a3q r3
    exact .inr ⟨_,rfl,q3.1,en _ _ _ _ k13 h3 a9y q3.2⟩
   ·exact q3.elim⟩⟩⟩
end
end L2
namespace HT
open PySem PySem.Spec PyProof.Rows
section
variable {prog:Program} {w:World} {A:Around} {E:Value→Shared→Prop} {s:Shared}
end
end HT
namespace L2
open PySem PySem.Spec PyProof.Rows
section
variable {X:Cx}
end
section
variable {X:Cx}
end
section
variable {X:Cx}
end
section
variable {X:Cx}
end
section
variable {X:Cx} {es:List Expr} {e:Expr} {t:TA3}
end
section
variable {X:Cx} {es:List Expr} {e:Expr} {t:TA3}
noncomputable def b6a:List T→Option (List Str)
 | []=>some []
 | .str i :: ts=>(b6a ts).map (i :: ·)
 | _ :: _=>none
theorem a8d:∀ (ns:List Str),b6a (ns.map T.str)=some ns
 | []=>rfl
 | n :: ns=>by show (b6a (ns.map T.str)).map (n :: ·)=_;rw[a8d ns];rfl
end
section
variable {prog:Program} {w:World} {A:Around} {E:Value→Shared→Prop} {s:Shared}
end
section
open AutoSeq1 (wpAny_loadPart')
open SeqAt (EqAt)
end
section
variable {X:Cx} {a b e:Expr} {es:List Expr} {ta te:TE3} {t:TA3} {pos:Pos}
end
section
open AutoSeq1
end
section
variable {X:Cx} {a b e f:Expr} {es:List Expr} {ta te:TE3} {t:TA3} {pos:Pos}
noncomputable def keyT:Key→T
 | .inl i=>.int i
 | .inr x=>.str x
theorem a7j {K:PySem.W.Frag} {H:Hp} {v:V} {k:Key} (r:Rep K H v (keyT k)):v=kV k:=by
 cases k with
 | inl i=>exact a0u r
 | inr x=>exact a3q r
noncomputable def valT {κ:Type} [DecidableEq κ] (kvs:List (κ × T)) (k:κ):Option T:=(kvs.find? fun kv=>decide (kv.1=k)).map (·.2)
noncomputable def putT {κ:Type} [DecidableEq κ] (kvs:List (κ × T)) (k:κ) (v:T):List (κ × T) :=
 if (kvs.any fun kv=>decide (kv.1=k))=true then kvs.map (fun kv=>if kv.1=k then (kv.1,v) else kv) else kvs++[(k,v)]
theorem KRep.val {κ:Type} [DecidableEq κ] {K:PySem.W.Frag} {H:Hp} (k:κ):∀ {xs:List (κ × V)} {kvs:List (κ × T)},KRep K H xs kvs→(match valT kvs k with | some t=>∃ v,valV xs k=some v∧Rep K H v t | none=>valV xs k=none)
 | [],[],_=>rfl
 | p :: r,q :: u,h=>by
   have ih:=KRep.val k h.2.2
   unfold valT valV at ih⊢
   rw[List.find?_cons,List.find?_cons,h.1]
   by_cases c:q.1=k
   ·simp only[c,decide_true,Option.map_some]
    exact⟨p.2,rfl,h.2.1⟩
   ·simp only[c,decide_false]
    exact ih
 | [],q :: u,h=>h.elim
 | p :: r,[],h=>h.elim
theorem KRep.any {κ:Type} [DecidableEq κ] {K:PySem.W.Frag} {H:Hp} (k:κ):∀ {xs:List (κ × V)} {kvs:List (κ × T)},KRep K H xs kvs→(xs.any fun kv=>decide (kv.1=k))=kvs.any fun kv=>decide (kv.1=k)
 | [],[],_=>rfl
 | p :: r,q :: u,h=>by rw[List.any_cons,List.any_cons,h.1,KRep.any k h.2.2]
 | [],q :: u,h=>h.elim
 | p :: r,[],h=>h.elim
theorem KRep.repl {κ:Type} [DecidableEq κ] {K:PySem.W.Frag} {H:Hp} (k:κ) {v:V} {z:T} (rz:Rep K H v z):∀ {xs:List (κ × V)} {kvs:List (κ × T)},KRep K H xs kvs→KRep K H (xs.map fun kv=>if kv.1=k then (kv.1,v) else kv) (kvs.map fun kv=>if kv.1=k then (kv.1,z) else kv)
 | [],[],_=>trivial
 | p :: r,q :: u,h=>by
   rw[List.map_cons,List.map_cons]
   refine⟨?_,?_,KRep.repl k rz h.2.2⟩
   ·rw[h.1]
    by_cases c:q.1=k
    ·rw[if_pos c,if_pos c]
    ·rw[if_neg c,if_neg c];exact h.1
   ·rw[h.1]
    by_cases c:q.1=k
    ·rw[if_pos c,if_pos c];exact rz
    ·rw[if_neg c,if_neg c];exact h.2.1
 | [],q :: u,h=>h.elim
 | p :: r,[],h=>h.elim
theorem KRep.snoc {κ:Type} {K:PySem.W.Frag} {H:Hp} (k:κ) {v:V} {z:T} (rz:Rep K H v z):∀ {xs:List (κ × V)} {kvs:List (κ × T)},KRep K H xs kvs→KRep K H (xs++[(k,v)]) (kvs++[(k,z)])
 | [],[],_=>⟨rfl,rz,trivial⟩
 | p :: r,q :: u,h=>⟨h.1,h.2.1,KRep.snoc k rz h.2.2⟩
 | [],q :: u,h=>h.elim
 | p :: r,[],h=>h.elim
theorem KRep.put {κ:Type} [DecidableEq κ] {K:PySem.W.Frag} {H:Hp} (k:κ) {v:V} {z:T} (rz:Rep K H v z) {xs:List (κ × V)} {kvs:List (κ × T)} (h:KRep K H xs kvs):KRep K H (putK xs k v) (putT kvs k z):=by
 unfold putK putT
 rw[h.any k]
 split
 ·exact h.repl k rz
 ·exact h.snoc k rz
noncomputable def b8b (tup:Bool):TE3:=fun _ M Q=>∀ p,M p=none→Q (.adr p) (updM M p (if tup then .dt [] else .dk []))
theorem b9o {pos:Pos}:HE X (.Dict [] [] pos) (b8b false):=fun ρ M Q h =>
 (b4t).imp fun σ H Q2 ⟨hr,hh,en⟩=>fun p hp=>en _ _ _ _ (Kp.new hp) (hh.newK hp (kvs:=[]) (xs:=[]) trivial) a3b (h p (hh.free hp))
noncomputable def b4O (M:MH) (x:T):Prop:=match x with
 | .adr p=>(match M p with | some (.dk _)=>True | some (.dt _)=>True | _=>False)
 | _=>False
theorem b4N {K:PySem.W.Frag} {H:Hp} {M:MH} {x:T} {v:V} (hh:HR K H M) (r:Rep K H v x) (d:b4O M x):∃ a,v=.ref a∧IsD H a:=by
 cases x with
 | adr p =>
   obtain rfl:=a0G r
   unfold b4O at d
   dsimp only at d
   cases e:M p with
   | none=>rw[e] at d;exact d.elim
   | some o =>
     rw[e] at d
     cases o with
     | lst ts=>exact d.elim
     | dk kvs=>obtain⟨xs,g1,_⟩:=hh _ _ e;exact⟨p,rfl,.inl ⟨xs,.of g1⟩⟩
     | dt kvs=>obtain⟨xs,g1,_⟩:=hh _ _ e;exact⟨p,rfl,.inr ⟨xs,.of g1⟩⟩
     | fz kvs=>exact d.elim
     | fk kvs=>exact d.elim
 | _=>exact d.elim
noncomputable def b8a (td tk tx:TE3):TE3:=fun ρ M Q=>td ρ M fun x M1=>b4O M1 x∧tk ρ M1 fun k M2=>tx ρ M2 fun z M3=>match x with
 | .adr p=>(match M3 p with
   | some (.dk kvs)=>∃ kk,k=keyT kk∧Q ((valT kvs kk).getD z) M3
   | _=>False)
 | _=>False
theorem b5y {o:Expr} {td tk tx:TE3} {apos cpos:Pos} (hu:X.A.units+64 < cLine) (ho:HE X o td) (he:HE X e tk) (hf:HE X f tx)
  (m1:attributeBase o "get" X.env (eval o X.env)=eval o X.env:=by rfl)
  (m2:((backTo cpos (starEach [e,f] X.env)).all (fun x=>!x.1) && (backToKw cpos (keywordEach [] X.env)).all (fun x=>x.1.isSome)
   && decide (([e,f]:List Expr).length+([]:List Keyword).length+(if ([]:List Keyword).isEmpty then 0 else 1) < 30))=true:=by rfl)
  (m3:(apos.endLine == cpos.line)=true:=by rfl) (m4:backTo cpos (starEach [e,f] X.env)=[(false,eval e X.env),(false,eval f X.env)]:=by rfl) :
  HE X (.Call (.Attribute o "get" apos) [e,f] [] cpos) (b8a td tk tx):=fun ρ M Q h =>
 (b4u (by lia) (ho.d (ρ:=ρ)) (he.d (ρ:=ρ)) (hf.d (ρ:=ρ)) ⟨m1,m2,m3,m4⟩).imp fun σ H Q2 ⟨hr,hh,en⟩=>⟨M,_,h,hr,hh,fun x v M1 H1 k1 h1 r1 q1=>by
  obtain⟨hd,q1⟩:=q1
  obtain⟨a,rfl,isd⟩:=b4N h1 r1 hd
  refine⟨a,rfl,isd,M1,_,q1,hr.kp k1,h1,fun y v2 M2 H2 k2 h2 r2 q2=>⟨M2,_,q2,hr.kp (k1.trans k2),h2,fun z v3 M3 H3 k3 h3 r3 q3=>?_⟩⟩
  cases x with
  | adr p =>
    cases r1
    dsimp only at q3
    split at q3
    ·rename_i kvs e
     obtain⟨kk,rfl,q3⟩:=q3
     obtain rfl:=a7j r2
     obtain⟨xs,g1,g2⟩:=h3 _ _ e
     refine⟨_,DGet.k g1,en _ _ M3 H3 ((k1.trans k2).trans k3) h3 ?_ q3⟩
     have hv:=g2.val kk
     cases ev:valT kvs kk with
     | none=>rw[ev] at hv;rw[hv];exact r3
     | some t =>
       rw[ev] at hv
       obtain⟨u,e1,e2⟩:=hv
       rw[e1];exact e2
    ·exact q3.elim
  | _=>exact hd.elim⟩
noncomputable def tDGK (td tk:TE3):TE3:=fun ρ M Q=>td ρ M fun x M1=>tk ρ M1 fun k M2=>match x with
 | .adr p=>(match M2 p with
   | some (.dk kvs)=>∃ kk t,k=keyT kk∧valT kvs kk=some t∧Q t M2
   | _=>False)
 | _=>False
theorem b9p {o i:Expr} {td tk:TE3} {pos:Pos} (hu:X.A.units+64 < cLine) (ho:HE X o td) (hi:HE X i tk) (hs:NoSl i:=by intro _ _;rfl):HE X (.Subscript o i pos) (tDGK td tk):=fun ρ M Q h =>
 (b6G (by lia) (ho.d (ρ:=ρ)) (hi.d (ρ:=ρ)) hs).imp fun σ H Q2 ⟨hr,hh,en⟩=>⟨M,_,h,hr,hh,fun x v M1 H1 k1 h1 r1 q1=>⟨M1,_,q1,hr.kp k1,h1,fun y v2 M2 H2 k2 h2 r2 q2=>by
  cases x with
  | adr p =>
    cases r1
    dsimp only at q2
    split at q2
    ·rename_i kvs e
     obtain⟨kk,t,rfl,ev,q2⟩:=q2
     obtain rfl:=a7j r2
     obtain⟨xs,g1,g2⟩:=h2 _ _ e
     have hv:=g2.val kk
     rw[ev] at hv
     obtain⟨u,e1,e2⟩:=hv
     exact⟨_,u,rfl,by rw[← e1];exact DGet.k g1,en _ _ M2 H2 (k1.trans k2) h2 e2 q2⟩
    ·exact q2.elim
  | _=>exact q2.elim⟩⟩
noncomputable def sDPK (td tk tv:TE3):TS3:=fun D ρ M=>tv ρ M fun z M1=>td ρ M1 fun x M2=>tk ρ M2 fun k M3=>match x with
 | .adr p=>(match M3 p with
   | some (.dk kvs)=>∃ kk,k=keyT kk∧kvs.length < sizeLine∧D.nx ρ (updM M3 p (.dk (putT kvs kk z)))
   | _=>False)
 | _=>False
theorem b8m {o i value:Expr} {td tk tv:TE3} {pos pos':Pos} (hu:X.A.units+64 < cLine) (hv:HE X value tv) (ho:HE X o td) (hi:HE X i tk) (hs:swapsWith value (some (.Subscript o i pos')) pos.line X.env=pure false:=by rfl) :
  HS X (.Assign [.Subscript o i pos'] value pos) (sDPK td tk tv):=fun D ρ M h =>
 (b6B (by lia) (ho.d (ρ:=ρ)) (hi.d (ρ:=ρ)) (hv.d (ρ:=ρ)) hs).imp fun D2 σ H ⟨hr,hh,en⟩=>⟨M,_,h,hr,hh,fun z v M1 H1 k1 h1 r1 q1=>⟨M1,_,q1,hr.kp k1,h1,fun x v2 M2 H2 k2 h2 r2 q2=>⟨M2,_,q2,hr.kp (k1.trans k2),h2,fun y v3 M3 H3 k3 h3 r3 q3=>by
  cases x with
  | adr p =>
    cases r2
    dsimp only at q3
    split at q3
    ·rename_i kvs e
     obtain⟨kk,rfl,hl,q3⟩:=q3
     obtain rfl:=a7j r3
     obtain⟨xs,g1,g2⟩:=h3 _ _ e
     have kk':=Kp.dict (K:=X.K) (u:=.dK (putK xs kk v)) g1 (.inl ⟨_,rfl⟩)
     have kall:=(k1.trans k2).trans (k3.trans kk')
     refine⟨_,_,rfl,DPut.k g1 (by rw[g2.length];exact hl),en.nx _ _ _ _ kall (hr.kp kall) (h3.setK g1 (.inl ⟨_,rfl⟩) (g2.put kk (Rep.kp (k2.trans k3) _ _ r1))) q3⟩
    ·exact q3.elim
  | _=>exact q3.elim⟩⟩⟩
end
end L2
namespace L2
open PySem PySem.Spec PyProof.Rows LM
noncomputable def isWd (n:Int) (w:List Int) (k:Int):Bool:=decide (1≤n) && decide (n≤6) && decide ((w.length:Int)≤k) && w.all (a8F n)
theorem b7a (n:Int) (w:List Int):isWd n w 16=isPl n w:=by
 unfold isWd isPl
 rw[show decide ((w.length:Int)≤16)=decide (w.length≤16) from decide_eq_decide.mpr (by lia)]
theorem a7Y {κ:Type} [DecidableEq κ] (p:κ × T) (r:List (κ × T)) (k:κ):valT (p :: r) k=if p.1=k then some p.2 else valT r k:=by
 unfold valT
 rw[List.find?_cons]
 by_cases c:p.1=k
 ·simp [c]
 ·simp [c]
theorem a3G {M M':MH} {p:Addr} (h:Sub M M') (hp:M' p=none):M p=none:=by
 cases q:M p with
 | none=>rfl
 | some o=>have:=h p o q;rw[hp] at this;cases this
theorem a6w {a:Int} {n i:Nat} {x:T} (h:(a0J a n)[i]?=some x):i < n∧x=.int (a+(i:Nat)):=by
 unfold a0J at h
 rw[List.getElem?_map] at h
 cases q:(List.range n)[i]? with
 | none=>rw[q] at h;cases h
 | some k =>
   rw[q] at h
   have hi:=(List.getElem?_eq_some_iff.mp q).1
   rw[List.length_range] at hi
   rw[List.getElem?_range hi] at q
   cases q
   exact⟨hi,(Option.some.inj h).symm⟩
theorem b0Z (xs:List T) (k:Int) (h0:0≤k):cutT xs none (some k)=xs.take k.toNat:=by
 unfold cutT
 have e:k=((k.toNat:Nat):Int):=by lia
 rw[e,HT.sIx_nat,HT.sIx_none,List.drop_zero,Nat.sub_zero,Int.toNat_natCast]
 by_cases h:k.toNat≤xs.length
 ·rw[Nat.min_eq_left h]
 ·rw[Nat.min_eq_right (by lia),List.take_of_length_le (Nat.le_refl _),List.take_of_length_le (by lia)]
theorem a4c (xs:List T) (k:Int) (h0:0≤k):cutT xs (some k) none=xs.drop k.toNat:=by
 unfold cutT
 have e:k=((k.toNat:Nat):Int):=by lia
 rw[e,HT.sIx_nat,HT.sIx_none,Int.toNat_natCast]
 by_cases h:k.toNat≤xs.length
 ·rw[Nat.min_eq_left h,List.take_of_length_le (by rw[List.length_drop];lia)]
 ·rw[Nat.min_eq_right (by lia),Nat.sub_self,List.take_zero,List.drop_of_length_le (by lia)]
end L2
namespace LM
noncomputable def twL (n:Int) (i:Nat):List Int:=(List.range i).flatMap fun k=>rowL (n.toNat - 1 - k)
theorem b1l {n l:Int} (h:a1w n l):a0f n [l]:=fun x hx=>by
 have:x=l:=by simpa using hx
 rw[this];exact h
end LM
namespace L2
open PySem PySem.Spec PyProof.Rows LM
noncomputable def gI (w:List Int) (k:Int):Int:=w.getD k.toNat 0
theorem c0G {w:List Int} {a:Int} (h0:0≤a) (h1:a < w.length):atI (w.map T.int) a=some (.int (gI w a)):=b1g w a h0 h1
noncomputable def sw (l x:Int):Int:=if x=l - 1 then l else if x=l then l - 1 else x
theorem a4x (n:Int):a0J 0 n.toNat=(a0l n).map .int:=by
 unfold a0J a0l
 rw[List.map_map]
 exact List.map_congr_left fun i _=>by show T.int (0+(i:Nat))=T.int (i:Nat);rw[Int.zero_add]
theorem a0E {a b:TS3} {D:Ends3} {ρ:En} {M:MH} (h:∀ K:En→MH→Prop,K=b D→a { D with nx:=K } ρ M):a3A a b D ρ M:=h _ rfl
theorem a3T {a b c:TS3} {D:Ends3} {ρ:En} {M:MH} (h:∀ K:En→MH→Prop,K=c D→a3A a b { D with nx:=K } ρ M):a3A a (a3A b c) D ρ M:=h _ rfl
theorem a5r {a b c d:TS3} {D:Ends3} {ρ:En} {M:MH} (h:∀ K:En→MH→Prop,K=d D→a3A a (a3A b c) { D with nx:=K } ρ M):a3A a (a3A b (a3A c d)) D ρ M:=h _ rfl
theorem b4e {a b c d e:TS3} {D:Ends3} {ρ:En} {M:MH} (h:∀ K:En→MH→Prop,K=e D→a3A a (a3A b (a3A c d)) { D with nx:=K } ρ M):a3A a (a3A b (a3A c (a3A d e))) D ρ M:=h _ rfl
theorem b5z {u:List Int} {j:Nat} (h:j < u.length):gI u j=u[j]:=by
 unfold gI
 rw[Int.toNat_natCast,List.getD_eq_getElem?_getD,List.getElem?_eq_getElem h]
 rfl
theorem a8O {n:Int} {k:Int} (h0:0≤k) (h1:k < n):gI (a0l n) k=k:=range0_get n k h0 h1
end L2
namespace LM
theorem a0f.appl {n:Int} {w v:List Int} (h:a0f n (w++v)):a0f n w:=fun l hl=>h l (List.mem_append_left _ hl)
theorem a0f.appr {n:Int} {w v:List Int} (h:a0f n (w++v)):a0f n v:=fun l hl=>h l (List.mem_append_right _ hl)
theorem a0f.two {n a b:Int} (h:a1w n a) (g:a1w n b):a0f n [a,b]:=fun l hl=>by
 rcases List.mem_cons.mp hl with rfl | hl
 ·exact h
 ·rw[List.mem_singleton.mp hl];exact g
theorem a0f.three {n a b c:Int} (h:a1w n a) (g:a1w n b) (k:a1w n c):a0f n [a,b,c]:=fun l hl=>by
 rcases List.mem_cons.mp hl with rfl | hl
 ·exact h
 ·exact a0f.two g k l hl
end LM
namespace L2
open PySem PySem.Spec PyProof.Rows LM
inductive RelW (n:Int):List Int→List Int→Prop where
 | refl (w:List Int):RelW n w w
 | symm {w v:List Int}:RelW n w v→RelW n v w
 | trans {w v x:List Int}:RelW n w v→RelW n v x→RelW n w x
 | ctx {w v:List Int} (a b:List Int):a0f n a→a0f n b→RelW n w v→RelW n (a++w++b) (a++v++b)
 | far {a b:Int}:a1w n a→a1w n b→(a.natAbs+1 < b.natAbs∨b.natAbs+1 < a.natAbs)→RelW n [a,b] [b,a]
 | three {p q:Int}:a1w n p→a1w n q→p*q > 0→(p - q).natAbs=1→RelW n [p,q,p] [q,p,q]
 | out {l:Int}:a1w n l→RelW n [l,-l] []
theorem RelW.ok {n:Int} {w v:List Int} (h:RelW n w v):a0f n w↔a0f n v:=by
 induction h with
 | refl=>exact Iff.rfl
 | symm _ ih=>exact ih.symm
 | trans _ _ a b=>exact a.trans b
 | ctx a b ha hb _ ih=>exact⟨fun h=>(ha.append (ih.mp h.appl.appr)).append hb,fun h=>(ha.append (ih.mpr h.appl.appr)).append hb⟩
 | far a b _=>exact⟨fun _=>.two b a,fun _=>.two a b⟩
 | three a b _ _=>exact⟨fun _=>.three b a b,fun _=>.three a b a⟩
 | out a=>exact⟨fun _=>.nil,fun _=>.two a a.neg⟩
section
variable {n:Int} (h6:n≤6)
include h6
end
theorem RelW.bk {n:Int}:∀ {w:List Int},a0f n w→RelW n (a1j w++w) []
 | [],_=>.refl _
 | l :: w,hw=>by
   have hl:a1w n l:=hw l List.mem_cons_self
   have hw':a0f n w:=fun x hx=>hw x (List.mem_cons_of_mem _ hx)
   rw[a6a,List.append_assoc]
   have o:=RelW.out hl.neg
   rw[Int.neg_neg] at o
   have:=RelW.ctx (a1j w) w hw'.contr hw' o
   rw[List.append_nil,List.append_assoc] at this
   exact this.trans (RelW.bk hw')
section
variable {n:Int}
end
section
variable {n:Int}
end
section
variable {n:Int}
end
end L2
namespace L2
open PySem PySem.Spec PyProof.Rows
noncomputable def b8s (hi:Int) (n:Nat):List T:=(List.range n).map fun i=>T.int (hi - (i:Nat))
section
variable {X:Cx} {a b c:Expr} {t:TA3} {pos:Pos}
noncomputable def b7c (t:TA3):TI3:=fun ρ M R=>t ρ M fun xs M1=>match xs with
 | [.int i,.int j,.int s]=>(s=-1∧-(2 ^ 62)≤i∧i < 2 ^ 62∧-(2 ^ 62)≤j∧j < 2 ^ 62)∧R ⟨b8s i (i - j).toNat,fun _=>True⟩ M1
 | _=>False
end
section
variable {X:Cx}
end
theorem Inv.turnNew {X:Cx} {pins:List (Addr × Obj)} {σ:St} {H:Hp} {s:Shared} {h':Heap} {t':Nat} {e it T:Addr} {xs:List V} (I:Inv X pins σ H s) (fe:FpOk X pins H e) (fi:FpOk X pins H it)
  (k:∀ b o,b≠e→b≠it→s.heap.get? b=some o→h'.get? b=some o) (hT:s.heap.objs.size≤T) (new:a1N X.prog X.w (upd H T (.tup xs)) h' T (.tup xs)) :
  Inv X pins σ (upd H T (.tup xs)) { s with heap:=h',toks:=t' }:=by
 have hn:H T=none:=I.hok.fresh hT
 have ne:∀ b u,H b=some u→b≠e∧b≠it:=fun b u q=>⟨fun z=>(by rw[z,fe.1] at q;cases q),fun z=>(by rw[z,fi.1] at q;cases q)⟩
 have nc:∀ {b:Addr},b ∉ [e,it]→b≠e∧b≠it:=fun hc=>⟨fun z=>hc (by simp [z]),fun z=>hc (by simp [z])⟩
 refine I.step (g':=s.gens) (d':=s.drawn) (ch:=[e,it]) (fun b hb=>?_) (fun b o _ _ hc q _=>k b o (nc hc).1 (nc hc).2 q) (fun b o _ _ hc q _=>⟨o.slots,k b o (nc hc).1 (nc hc).2 q⟩)
  (fun b o _ q n=>by rw[a0m (Nat.ne_of_lt (Nat.lt_of_lt_of_le (Heap.lt_size q) hT))];exact n)
  (fun b o hc q=>⟨o,k b o (nc hc).1 (nc hc).2 q⟩) (fun b xs q=>by rw[a0m (a0j q hn)];exact q) (fun b o u q=>by rw[a0m (a0j q hn)];exact q) (fun b ps q=>⟨#[],by rw[a0m (a0j q hn),q];simp⟩) (fun m hm=>?_) (fun b u q=>?_) I.bare
 ·have z:b=e∨b=it:=by simpa using hb
  rcases z with rfl | rfl
  ·exact⟨fe.2.2.2.1,fe.2.1,fe.2.2.2.2.1,fe.2.2.2.2.2⟩
  ·exact⟨fi.2.2.2.1,fi.2.1,fi.2.2.2.2.1,fi.2.2.2.2.2⟩
 ·obtain⟨o,es,ep,ho,r⟩:=hm
  exact⟨o,es,ep,k _ o (Ne.symm fe.2.1) (Ne.symm fi.2.1) ho,r⟩
 ·by_cases hb:b=T
  ·subst hb;rw[a0U] at q;cases q;exact new
  ·rw[a0m hb] at q
   refine (I.hok b u q).stay (fun c v hc z=>?_) (fun c z=>by rw[a0m (a0j z hn)];exact z) fun c xs z=>by rw[a0m (a0j z hn)];exact z
   rcases hc with y | y
   ·rw[y] at z⊢;exact k b v (ne b u q).1 (ne b u q).2 z
   ·exact k c v (ne c _ y).1 (ne c _ y).2 z
noncomputable def Iten (K:PySem.W.Frag) (a:Addr) (n:Nat):It :=
 ⟨fun i H=>i < n∧∃ xs,SqL K H a xs∧xs.length=n,fun i H x H'=>∃ T y,x=.ref T∧H T=none∧H'=upd H T (.tup [.int i,y])∧∀ xs,SqL K H a xs→xs[i]?=some y,fun i H=>i=n∧∃ xs,SqL K H a xs∧xs.length=n⟩
theorem b1W {P:Program} {w:World} {K:PySem.W.Frag} {es:List Expr} {x1} {tp:Pos} (a e it:Addr) (n:Nat) (hne:e≠it):Turn P w K (.Tuple es x1 tp) (Iten K a n) [e,it] e (fun i h=>(∃ old,IsEnum h e it (i:Int) old)∧Heap.IsListIter h it a i) where
 mem:=by simp
 obj:=fun i h st b hb=>by
  obtain⟨⟨old,he⟩,hit⟩:=st
  have z:b=e∨b=it:=by simpa using hb
  rcases z with rfl | rfl
  ·exact⟨_,he,fun v z=>by cases z⟩
  ·obtain⟨o,q,c,d⟩:=hit
   exact⟨o,q,fun v z=>by rw[d] at z;cases z⟩
 keep:=fun i h h' st k=>by
  obtain⟨⟨old,he⟩,hit⟩:=st
  exact⟨⟨old,k e (by simp) _ he⟩,hit.at fun o q=>k it (by simp) o q⟩
 item:=by
  intro X hP hw hK hc i pins s σ H E I hf st hg
  subst hP hw hK
  obtain⟨⟨old,he⟩,hit⟩:=st
  obtain⟨hi,xs,hq,hxn⟩:=hg
  subst hxn
  obtain⟨its,rv,p,hz⟩:=I.list hq
  obtain⟨x,hx⟩:∃ x,xs[i]?=some x:=⟨_,List.getElem?_eq_getElem hi⟩
  obtain⟨u,hu,ru⟩:=rv.get hx
  have fe:=hf e (by simp)
  have fi:=hf it (by simp)
  refine wpAny_pyNext_enum_item he hit p.isList (x:=u) (by simpa using hu) hne fun h1 ho hit1 hT hsz hk=>?_
  refine⟨_,rfl,wpAny_letOwnedTupleGo_enum ho fun h2 he2 hs2=>?_⟩
  have neT:s.heap.objs.size≠e:=Nat.ne_of_gt (Heap.lt_size he)
  have k2:∀ b o,b≠e→b≠it→s.heap.get? b=some o→h2.get? b=some o:=fun b o h3 h4 q=>(hs2.2 b h3).trans (hk b o h3 h4 q)
  have hT2:h2.get? s.heap.objs.size=some { cls:=.type "tuple",data:=.seq #[.int i s.toks,u] }:=(hs2.2 _ neT).trans hT
  have hn:H s.heap.objs.size=none:=I.hok.fresh (Nat.le_refl _)
  have I2:Inv X pins σ (upd H s.heap.objs.size (.tup [.int i,x])) { s with heap:=h2,toks:=s.toks+1 }:=I.turnNew fe fi k2 (Nat.le_refl _)
   ⟨by simp only[List.length_cons,List.length_nil];rw[sizeLine_eq];decide,[.int i s.toks,u],.cons ⟨_,rfl⟩ (.cons ru .nil),_,hT2,rfl,rfl,_,rfl⟩
  refine⟨.ref s.heap.objs.size,_,I2,rfl,⟨_,x,rfl,hn,rfl,fun ys hy=>by rw[I.list_inj hy hq];exact hx⟩,⟨⟨_,he2⟩,hit1.at fun o q=>(hs2.2 it hne.symm).trans q⟩,fun b hb=>?_⟩
  have z:b=e∨b=it:=by simpa using hb
  have hb':b < s.heap.objs.size:=by
   rcases z with rfl | rfl
   ·exact Heap.lt_size he
   ·obtain⟨o,q,_⟩:=hit
    exact Heap.lt_size q
  rw[a0m (Nat.ne_of_lt hb')]
  exact (hf b hb).1
 done:=by
  intro X hP hw hK hc i pins s σ H E I hf st hg
  subst hP hw hK
  obtain⟨⟨old,he⟩,hit⟩:=st
  obtain⟨hi,xs,hq,hxn⟩:=hg
  subst hi
  obtain⟨its,rv,p,hz⟩:=I.list hq
  have hl:=rv.length
  obtain⟨f0,f1,f2,f3,f4,f5⟩:=hf it (by simp)
  exact wpAny_pyNext_enum_end (I.ok.hd hc) he hit p.isList (Array.getElem?_eq_none (by simp;lia)) fun h' eb=>⟨rfl,I.turned (t':=s.toks) (fun b o hb e=>eb b o hb e) f0 f1 f3 f4 f5⟩
 self:=fun A i s Q E st h=>by
  obtain⟨⟨old,he⟩,_⟩:=st
  exact wpAny_pyIter_enum he h
theorem a2m {i:TI3} {g:TG3} {b:TS3} {D:Ends3} {ρ:En} {M:MH} (h:∀ B:TS3,B=b→a4d i g B D ρ M):a4d i g b D ρ M:=h _ rfl
section
variable {X:Cx}
noncomputable def enT (ts:List T):List T:=(List.range ts.length).map fun i=>.tup [.int (i:Nat),ts.getD i .non]
theorem a5b (ts:List T):(enT ts).length=ts.length:=by unfold enT;rw[List.length_map,List.length_range]
theorem b3m {ts:List T} {i:Nat} {x:T} (h:(enT ts)[i]?=some x):∃ t,ts[i]?=some t∧x=.tup [.int i,t]:=by
 have hi:i < ts.length:=by have:=(List.getElem?_eq_some_iff.mp h).1;rwa [a5b] at this
 unfold enT at h
 rw[List.getElem?_map,List.getElem?_range hi] at h
 refine⟨ts[i],List.getElem?_eq_getElem hi,?_⟩
 have e:ts.getD i .non=ts[i]:=by rw[List.getD_eq_getElem?_getD,List.getElem?_eq_getElem hi];rfl
 rw[← e]
 exact (Option.some.inj h).symm
theorem b2L {K:PySem.W.Frag} {H:Hp} {a:Addr} {ts:List T}:ItOk K H (Iten K a ts.length) ⟨enT ts,fun M'=>M' a=some (.lst ts)⟩:=by
 refine⟨fun H' M' k hh st=>?_,fun i x H' M' e k hh st=>?_⟩
 ·obtain⟨xs,g1,g2⟩:=hh _ _ st
  exact⟨by show (enT ts).length=_;rw[a5b],xs,SqL.of g1,g2.length⟩
 ·obtain⟨t,ht,rfl⟩:=b3m e
  obtain⟨xs,g1,g2⟩:=hh _ _ st
  obtain⟨v,e1,r1⟩:=g2.get ht
  refine⟨⟨(List.getElem?_eq_some_iff.mp ht).1,xs,SqL.of g1,g2.length⟩,fun v' H'' y=>?_⟩
  obtain⟨p,y,rfl,hn,rfl,hy⟩:=y
  have e2:=hy xs (SqL.of g1)
  rw[e1] at e2
  cases e2
  refine⟨Kp.new hn,hh.keep hn,a2j (SqT.of a0U) ?_⟩
  unfold Reps
  refine⟨_,_,rfl,a0p,?_⟩
  unfold Reps
  refine⟨_,_,rfl,Rep.kp (Kp.new hn) _ _ r1,?_⟩
  unfold Reps
  rfl
noncomputable def b9l (tl:TE3):TI3:=fun ρ M R=>tl ρ M fun x M1=>match x with
 | .adr p=>(match M1 p with | some (.lst ts)=>R ⟨enT ts,fun M'=>M' p=some (.lst ts)⟩ M1 | _=>False)
 | _=>False
theorem b9i {es:List Expr} {x1} {tp pos:Pos} {l:Expr} {tl:TE3} {p:Pos} (hm:X.mg "enumerate"=none) (hl:HE X l tl) (hg:Gl X "enumerate":=by rfl) (hs:starEach [l] X.env=[(false,eval l X.env)]:=by rfl):HI X (.Tuple es x1 tp) (.Call (.Name "enumerate" p) [l] [] pos) (b9l tl):=by
 intro ρ M R h pins s σ H R2 I b
 obtain⟨hr,hh,en⟩:=b
 have pa:=a7o (X:=X) (hl.d (ρ:=ρ)) b2y hs
 refine Call_ (a3y I hg hm PyProof.Rows.boot_enumerate (PyProof.Rows.callWith_type1 (thn (pa pos pins s σ H (fun vs H1=>∃ v t M1,vs=[v]∧Kp X.K H H1∧HR X.K H1 M1∧Rep X.K H1 v t∧(match t with
  | .adr p=>(match M1 p with | some (.lst ts)=>R ⟨enT ts,fun M'=>M' p=some (.lst ts)⟩ M1 | _=>False)
  | _=>False)) I ⟨M,_,h,hr,hh,fun t v M1 H1 k1 h1 r1 q1=>⟨v,t,M1,rfl,k1,h1,r1,q1⟩⟩) fun us s1 ⟨vs,H1,I1,r1,v,t,M1,e,k1,h1,rt,q1⟩=>?_) hs rfl))
 subst e
 cases r1 with
 | cons r rr =>
   cases rr
   split at q1
   ·rename_i a
    obtain rfl:=a0G rt
    cases r
    split at q1
    ·rename_i ts e0
     obtain⟨xs,g1,g2⟩:=h1 _ _ e0
     obtain⟨its,rv,p,hz⟩:=I1.list (SqL.of g1)
     refine call_enumerate_list p.isList fun h' he hit hsz hk=>?_
     refine wpAny_pyIter_enum (s:={ s1 with heap:=h' }) he ?_
     refine⟨s1.heap.objs.size+1,[s1.heap.objs.size+1,s1.heap.objs.size],_,_,H1,rfl,I1.kept (t':=s1.toks) hk,b1W a _ _ ts.length (Nat.succ_ne_self _),⟨⟨_,he⟩,hit⟩,fun b hb=>?_,en _ _ M1 H1 k1 h1 b2L q1⟩
     have z:b=s1.heap.objs.size+1∨b=s1.heap.objs.size:=by simpa using hb
     rcases z with rfl | rfl
     ·exact I1.fpOk (Nat.le_succ _) (I1.hok.fresh (Nat.le_succ _))
     ·exact I1.fpOk (Nat.le_refl _) (I1.hok.fresh (Nat.le_refl _))
    ·exact q1.elim
   ·exact q1.elim
end
section
variable {X:Cx} {pins:List (Addr × Obj)} {σ:St} {H:Hp} {s:Shared}
end
section
variable {X:Cx} {Ha:Hp} {a b c e:Expr} {es:List Expr} {st:Stmt} {rest ba bb body:List Stmt} {ta tb te:TE3} {tA:TT3} {t u:TS3} {pos:Pos}
end
section
variable {X:Cx} {Ha:Hp} {e:Expr} {es:List Expr} {t:TA3} {pos:Pos}
end
section
variable {X:Cx} {Ha:Hp} {e:Expr} {te:TE3} {pos:Pos}
end
section
variable {P:Program} {w:World} {K:PySem.W.Frag} {mg:Str→Option Value} {base:Heap}
end
section
variable {prog:Program} {w:World} {A:Around} {E:Value→Shared→Prop} {s:Shared} {h:Heap} {g:Array GenState} {d:Drawn} {t:Nat} {os:OsState} {a C:Addr} {o:Obj} {K:PySem.W.Frag}
local macro_rules | `(tactic| walk_at "xc") => `(tactic| (repeat any_goals (first | wp_step | assumption)))
end
section
variable {X:Cx} {pos:Pos}
end
section
variable {X:Cx} {pins:List (Addr × Obj)} {σ:St} {H:Hp} {s:Shared}
end
local macro_rules | `(tactic| walk_at "xc") => `(tactic| (repeat any_goals (first | wp_step | assumption)))
section
variable {X:Cx} {pos:Pos}
end
section
variable {X:Cx} {pins:List (Addr × Obj)} {σ σ':St} {H:Hp} {s:Shared}
end
section
variable {X:Cx} {body:List Stmt}
end
section
variable {K:PySem.W.Frag} {mg:Str→Option Value} {P:Addr} {cs:List (Str × Addr)}
end
section
variable {X:Cx}
end
section
variable {X:Cx}
end
noncomputable def b2b (i:Nat) (te:TE3) (f:Int→Int→Int):TS3:=fun D ρ M=>match ρ[i]? with
 | some (some (.int a))=>te ρ M fun y M1=>match y with
   | .int b=>D.nx (ρ.set i (some (.int (f a b)))) M1
   | _=>False
 | _=>False
theorem b8n {X:Cx} {i:Nat} {x:Str} {e:Expr} {te:TE3} {op:Operator} {f:Int→Int→Int} {pos pos':Pos} (ho:PIp X op (ipI f)) (he:HE X e te) (hN:X.N.Nodup) (hi:X.N[i]?=some x:=by rfl) (hx:Loc X.env.scope x:=by first | exact Or.inl rfl | exact Or.inr rfl)
  (hf:X.fn x=true∨X.env.scope.names.lookup x=some .local:=by first | exact .inl rfl | exact .inr rfl | assumption):HS X (.AugAssign (.Name x pos') op e pos) (b2b i te f):=fun D ρ M h =>
 (b8C hN hi hx (he.d (ρ:=ρ)) ho hf).imp fun D2 σ H ⟨hr,hh,en⟩=>by
  unfold b2b at h
  split at h
  ·rename_i a e
   obtain⟨v,ev,rv⟩:=hr.2 i _ e
   obtain rfl:=a0u rv
   refine⟨_,ev,M,_,h,hr,hh,fun t v M1 H1 k1 h1 r1 q1=>?_⟩
   dsimp only at q1
   split at q1
   ·obtain rfl:=a0u r1
    exact⟨a,_,rfl,rfl,en.nx _ M1 _ H1 k1 ((hr.kp k1).set i a0p) h1 q1⟩
   ·exact q1.elim
  ·exact h.elim
section
variable {X:Cx} {d:Addr} {ks:List (Str × Addr)}
end
section
variable {X:Cx} {d:Addr} {ks:List (Str × Addr)}
end
section
variable {X:Cx}
end
section
variable {X:Cx} {Ha:Hp} {body:List Stmt} {pos:Pos}
end
end L2
namespace L2
open PySem PySem.Spec PyProof.Rows
open AutoSeq1 (wpAny_loadPart')
section
variable {prog:Program} {w:World} {A:Around} {E:Value→Shared→Prop} {s:Shared}
end
section
variable {X:Cx}
end
theorem a8f {es rest:List Expr} {x1} {pos:Pos} {env:Env}:starEach (.Tuple es x1 pos :: rest) env=(false,eval (.Tuple es x1 pos) env) :: starEach rest env:=rfl
theorem b3M {X:Cx} {es1 es:List Expr} {x1} {pos:Pos} {ta:TE3} {t:TA3} (ha:HE X (.Tuple es1 x1 pos) ta) (hr:HA X es t):HA X (.Tuple es1 x1 pos :: es) (b0k ta t):=a0b ha hr (hs:=a8f)
end L2
namespace L2
open PySem PySem.Spec PyProof.Rows
section
variable {prog:Program} {w:World} {A:Around} {E:Value→Shared→Prop} {s:Shared}
end
section
variable {X:Cx}
theorem a8H {K:PySem.W.Frag} {H:Hp}:∀ ns:List Int,Reps K H (ns.map V.int) (ns.map .int)
 | []=>by rw[List.map_nil,List.map_nil];unfold Reps;rfl
 | n :: ns=>by
   rw[List.map_cons,List.map_cons]
   unfold Reps
   exact⟨_,_,rfl,a0p,a8H ns⟩
end
theorem a5o {α:Type} {us:List α} {P:List α→Prop} (hl:us.length=1) (h:∀ a:α,P [a]):P us:=by
 obtain⟨a,rfl⟩:=List.length_eq_one_iff.mp hl
 exact h a
theorem a4V {α:Type} {us:List α} {P:List α→Prop} (hl:us.length=2) (h:∀ a b:α,P [a,b]):P us:=by
 obtain⟨a,r,rfl⟩:=List.exists_cons_of_length_eq_add_one hl
 exact a5o (P:=fun r=>P (a :: r)) (Nat.succ.inj hl) (h a)
theorem b4E {α:Type} {us:List α} {P:List α→Prop} (hl:us.length=3) (h:∀ a b c:α,P [a,b,c]):P us:=by
 obtain⟨a,r,rfl⟩:=List.exists_cons_of_length_eq_add_one hl
 exact a4V (P:=fun r=>P (a :: r)) (Nat.succ.inj hl) (h a)
theorem b8X {α:Type} {us:List α} {P:List α→Prop} (hl:us.length=4) (h:∀ a b c d:α,P [a,b,c,d]):P us:=by
 obtain⟨a,r,rfl⟩:=List.exists_cons_of_length_eq_add_one hl
 exact b4E (P:=fun r=>P (a :: r)) (Nat.succ.inj hl) (h a)
section
variable {X:Cx}
end
section
variable {X:Cx}
theorem a6r:∀ {ns:List Int} {its:List Value},Vals (ns.map V.int) its→IntsAre its ns
 | [],_,h=>by cases h;exact .nil
 | n :: ns,_,h=>by
   cases h with
   | cons r h =>
     obtain⟨t,rfl⟩:=r
     exact .cons _ _ (a6r h)
theorem a7S (hc:X.calm=true):a6q X (.builtin "sum") (fun xs H Q=>∃ (p:Addr) (ns:List Int),xs=[.ref p]∧SqL X.K H p (ns.map V.int)∧Q (.int ns.sum) H):=by
 intro pins s σ H xs us Q I r h
 obtain⟨p,ns,rfl,hq,q⟩:=h
 obtain⟨u,rfl,rx⟩:=a5i r
 cases rx
 obtain⟨its,r',pl,hz⟩:=I.list hq
 have hi:=a6r r'
 obtain⟨ys,e⟩:=hi.allInts.items
 have hl:=pl.isList
 rw[e] at hl
 refine sum_intListG (I.ok.hd hc) hl fun h' tk t' hk=>?_
 have e2:preSum (numAt ys) ys.size=ns.sum:=by
  rw[preSum_eq,List.take_of_length_le (by simp),← nums_intItems,← e]
  show (numsOf its).sum=_
  rw[hi.numsOf]
 rw[e2]
 have I1:Inv X pins σ H { s with heap:=h',toks:=tk }:=I.kept hk
 exact⟨.int _,H,I1,⟨_,rfl⟩,q⟩
noncomputable def b6i:List T→MH→VK3→Prop:=fun xs M Q=>match xs with
 | [.adr p]=>(match M p with | some (.lst ts)=>(match a7G ts with | some ns=>Q (.int ns.sum) M | none=>False) | _=>False)
 | _=>False
theorem b3E (hc:X.calm=true):a4h X (.builtin "sum") b6i:=by
 intro pins s σ H vs us Q2 I r h
 obtain⟨xs,M,Q,rr,hh,q,en⟩:=h
 unfold b6i at q
 split at q
 ·obtain⟨v,rfl,r1⟩:=a3o rr
  obtain rfl:=a0G r1
  split at q
  ·rename_i ts e0
   obtain⟨ys,g1,g2⟩:=hh _ _ e0
   split at q
   ·rename_i ns eb
    obtain rfl:=a6I eb
    obtain rfl:=Reps.ints g2
    exact a7S hc pins s σ H _ us Q2 I r ⟨_,ns,rfl,SqL.of g1,en _ _ M H Kp.refl hh a0p q⟩
   ·exact q.elim
  ·exact q.elim
 ·exact q.elim
end
end L2
namespace L2
open PySem PySem.Spec PyProof.Rows LM
section
variable {κ:Type} [DecidableEq κ]
end
section
variable {X:Cx}
end
noncomputable def g2 (tab:List (List Int)) (a b:Int):Int:=gI (tab.getD a.toNat []) b
noncomputable def InM (m c:Int):Prop:=0≤c∧c < m
structure TabQ (tab:List (List Int)):Prop where
 l1:1≤tab.length
 rows:∀ r∈tab,r.length=tab.length
 idem:∀ c,InM tab.length c→g2 tab c c=c
 col:∀ c,InM tab.length c→(tab.map fun r=>gI r c).Perm (a0l tab.length)
 third:∀ a b c,InM tab.length a→InM tab.length b→InM tab.length c→g2 tab (g2 tab a b) c=g2 tab (g2 tab a c) (g2 tab b c)
structure TabOK (tab:List (List Int)):Prop extends TabQ tab where
 l7:tab.length≤7
instance {tab:List (List Int)}:Coe (TabOK tab) (TabQ tab):=⟨TabOK.toTabQ⟩
theorem a0A {m c:Int}:c∈a0l m↔InM m c:=⟨a6F,fun h=>b1u h.1 h.2⟩
theorem b9A {tab:List (List Int)} {c:Int} (h:(tab.map fun r=>gI r c).Perm (a0l tab.length)) {a:Int} (ha:InM tab.length a):InM tab.length (g2 tab a c):=by
 have hl:a.toNat < tab.length:=by have:=ha.1;have:=ha.2;lia
 have hm:g2 tab a c∈tab.map fun r=>gI r c:=by
  refine List.mem_map.mpr ⟨tab.getD a.toNat [],?_,rfl⟩
  rw[List.getD_eq_getElem?_getD,List.getElem?_eq_getElem hl]
  exact List.getElem_mem hl
 exact a6F (h.mem_iff.mp hm)
theorem TabQ.rng {tab:List (List Int)} (h:TabQ tab) {a c:Int} (ha:InM tab.length a) (hc:InM tab.length c):InM tab.length (g2 tab a c):=b9A (h.col c hc) ha
theorem a9X {tab:List (List Int)} {c a:Int} (ha:InM tab.length a):(tab.map fun r=>gI r c)[a.toNat]?=some (g2 tab a c):=by
 have hl:a.toNat < tab.length:=by have:=ha.1;have:=ha.2;lia
 rw[List.getElem?_map,List.getElem?_eq_getElem hl]
 unfold g2
 rw[List.getD_eq_getElem?_getD,List.getElem?_eq_getElem hl]
 rfl
theorem TabQ.inj {tab:List (List Int)} (h:TabQ tab) {a b c:Int} (ha:InM tab.length a) (hb:InM tab.length b) (hc:InM tab.length c) (e:g2 tab a c=g2 tab b c):a=b:=by
 have nd:(tab.map fun r=>gI r c).Nodup:=(h.col c hc).nodup_iff.mpr (a8n _)
 have x:=a9X (tab:=tab) (c:=c) ha
 have y:=a9X (tab:=tab) (c:=c) hb
 obtain⟨l1,x⟩:=List.getElem?_eq_some_iff.mp x
 obtain⟨l2,y⟩:=List.getElem?_eq_some_iff.mp y
 have q:a.toNat=b.toNat:=by
  have pw:=List.pairwise_iff_getElem.mp nd
  rcases Nat.lt_trichotomy a.toNat b.toNat with z | z | z
  ·exact absurd (x.trans (e.trans y.symm)) (pw _ _ l1 l2 z)
  ·exact z
  ·exact absurd (y.trans (e.symm.trans x.symm)) (pw _ _ l2 l1 z)
 have:=ha.1;have:=hb.1;lia
theorem TabQ.surj {tab:List (List Int)} (h:TabQ tab) {d c:Int} (hd:InM tab.length d) (hc:InM tab.length c):∃ a,InM tab.length a∧g2 tab a c=d:=by
 have hm:d∈tab.map fun r=>gI r c:=(h.col c hc).mem_iff.mpr (a0A.mpr hd)
 obtain⟨i,hi,e⟩:=List.getElem_of_mem hm
 rw[List.length_map] at hi
 have ha:InM tab.length (i:Int):=⟨by lia,by lia⟩
 refine⟨i,ha,?_⟩
 have:=a9X (tab:=tab) (c:=c) ha
 rw[Int.toNat_natCast] at this
 rw[List.getElem?_eq_getElem (by rw[List.length_map];exact hi)] at this
 exact (Option.some.inj this).symm.trans e
noncomputable def iv (tab:List (List Int)) (d c:Int):Int:=((a0l tab.length).find? fun a=>decide (g2 tab a c=d)).getD 0
theorem TabQ.iv_spec {tab:List (List Int)} (h:TabQ tab) {d c:Int} (hd:InM tab.length d) (hc:InM tab.length c):InM tab.length (iv tab d c)∧g2 tab (iv tab d c) c=d:=by
 obtain⟨a,ha,e⟩:=h.surj hd hc
 unfold iv
 cases q:(a0l tab.length).find? fun a=>decide (g2 tab a c=d) with
 | none =>
   have:=List.find?_eq_none.mp q a (a0A.mpr ha)
   rw[decide_eq_true e] at this
   exact absurd rfl this
 | some x =>
   exact⟨a0A.mp (List.mem_of_find?_eq_some q),of_decide_eq_true (List.find?_some q :)⟩
theorem TabQ.iv_g {tab:List (List Int)} (h:TabQ tab) {a c:Int} (ha:InM tab.length a) (hc:InM tab.length c):iv tab (g2 tab a c) c=a :=
 let q:=h.iv_spec (h.rng ha hc) hc
 h.inj q.1 ha hc q.2
noncomputable def pr1 (tab:List (List Int)) (l a b:Int):Int:=if l > 0 then b else iv tab b a
noncomputable def pr2 (tab:List (List Int)) (l a b:Int):Int:=if l > 0 then g2 tab a b else a
noncomputable def dn1 (tab:List (List Int)) (cs:List Int) (l:Int):List Int:=(cs.set (l.natAbs - 1) (pr1 tab l (cs.getD (l.natAbs - 1) 0) (cs.getD l.natAbs 0))).set l.natAbs (pr2 tab l (cs.getD (l.natAbs - 1) 0) (cs.getD l.natAbs 0))
noncomputable def dn (tab:List (List Int)) (w cs:List Int):List Int:=w.foldl (dn1 tab) cs
theorem a2P (tab:List (List Int)) (u v cs:List Int):dn tab (u++v) cs=dn tab v (dn tab u cs):=List.foldl_append
theorem a4b (tab:List (List Int)) (cs:List Int) (l:Int):(dn1 tab cs l).length=cs.length:=by unfold dn1;rw[List.length_set,List.length_set]
theorem a3h (tab:List (List Int)):∀ (w cs:List Int),(dn tab w cs).length=cs.length
 | [],_=>rfl
 | l :: w,cs=>(a3h tab w (dn1 tab cs l)).trans (a4b tab cs l)
theorem a3s {tab:List (List Int)} {p q:List Int} {a b l:Int} (h:p.length+1=l.natAbs):dn1 tab (p++a :: b :: q) l=p++pr1 tab l a b :: pr2 tab l a b :: q:=by
 unfold dn1
 have e1:l.natAbs - 1=p.length:=by lia
 have g1:(p++a :: b :: q).getD p.length 0=a:=by simp
 have g2':(p++a :: b :: q).getD (p.length+1) 0=b:=by rw[List.getD_eq_getElem?_getD,List.getElem?_append_right (by lia)];simp
 rw[e1,← h,g1,g2']
 simp
theorem cutC {cs:List Int} {k:Nat} (h:k+1 < cs.length):∃ p a b q,cs=p++a :: b :: q∧p.length=k:=by
 refine⟨cs.take k,cs[k],cs[k+1],cs.drop (k+2),?_,by rw[List.length_take];lia⟩
 rw[List.getElem_cons_drop,List.getElem_cons_drop,List.take_append_drop]
noncomputable def InA (m:Int) (cs:List Int):Prop:=∀ c∈cs,InM m c
theorem b8E {tab:List (List Int)} (h:TabQ tab) {l a b:Int} (ha:InM tab.length a) (hb:InM tab.length b):InM tab.length (pr1 tab l a b)∧InM tab.length (pr2 tab l a b):=by
 unfold pr1 pr2
 split
 ·exact⟨hb,h.rng ha hb⟩
 ·exact⟨(h.iv_spec hb ha).1,ha⟩
theorem a7H {m a b:Int} {p q:List Int}:InA m (p++a :: b :: q)↔InA m p∧InM m a∧InM m b∧InA m q:=by
 constructor
 ·intro h
  exact⟨fun c hc=>h c (by simp [hc]),h a (by simp),h b (by simp),fun c hc=>h c (by simp [hc])⟩
 ·rintro⟨h1,h2,h3,h4⟩ c hc
  simp only[List.mem_append,List.mem_cons] at hc
  rcases hc with hc | rfl | rfl | hc
  ·exact h1 c hc
  ·exact h2
  ·exact h3
  ·exact h4 c hc
theorem b3p {tab:List (List Int)} (h:TabQ tab) {cs:List Int} {l:Int} (hl:a1w cs.length l) (hc:InA tab.length cs):InA tab.length (dn1 tab cs l):=by
 obtain⟨l1,l2⟩:=hl
 obtain⟨p,a,b,q,rfl,e⟩:=cutC (cs:=cs) (k:=l.natAbs - 1) (by lia)
 rw[a3s (by lia)]
 obtain⟨h1,h2,h3,h4⟩:=a7H.mp hc
 exact a7H.mpr ⟨h1,(b8E h h2 h3).1,(b8E h h2 h3).2,h4⟩
theorem b5d {tab:List (List Int)} (h:TabQ tab):∀ {w cs:List Int},a0f cs.length w→InA tab.length cs→InA tab.length (dn tab w cs)
 | [],_,_,hc=>hc
 | l :: w,cs,hw,hc=>b5d h (w:=w) (cs:=dn1 tab cs l) (by rw[a4b];exact fun x hx=>hw x (List.mem_cons_of_mem _ hx)) (b3p h (hw l List.mem_cons_self) hc)
theorem b6D {tab:List (List Int)} (h:TabQ tab) {l a b:Int} (l0:l≠0) (ha:InM tab.length a) (hb:InM tab.length b):pr1 tab (-l) (pr1 tab l a b) (pr2 tab l a b)=a∧pr2 tab (-l) (pr1 tab l a b) (pr2 tab l a b)=b:=by
 unfold pr1 pr2
 by_cases c:l > 0
 ·rw[if_pos c,if_pos c,if_neg (by lia),if_neg (by lia)]
  exact⟨h.iv_g ha hb,rfl⟩
 ·rw[if_neg c,if_neg c,if_pos (by lia),if_pos (by lia)]
  exact⟨rfl,(h.iv_spec hb ha).2⟩
theorem b0V {tab:List (List Int)} (h:TabQ tab) {cs:List Int} {l:Int} (hl:a1w cs.length l) (hc:InA tab.length cs):dn1 tab (dn1 tab cs l) (-l)=cs:=by
 obtain⟨l1,l2⟩:=hl
 obtain⟨p,a,b,q,rfl,e⟩:=cutC (cs:=cs) (k:=l.natAbs - 1) (by lia)
 obtain⟨h1,h2,h3,h4⟩:=a7H.mp hc
 rw[a3s (by lia),a3s (by rw[Int.natAbs_neg];lia)]
 obtain⟨x,y⟩:=b6D h (l:=l) (by lia) h2 h3
 rw[x,y]
theorem a9U {tab:List (List Int)} (h:TabQ tab):∀ {w cs:List Int},a0f cs.length w→InA tab.length cs→dn tab (a1j w) (dn tab w cs)=cs
 | [],_,_,hc=>rfl
 | l :: w,cs,hw,hc=>by
   have hl:=hw l List.mem_cons_self
   have e:a1j (l :: w)=a1j w++[-l]:=by unfold a1j;simp
   rw[e,a2P]
   show dn1 tab (dn tab (a1j w) (dn tab w (dn1 tab cs l))) (-l)=cs
   rw[a9U h (w:=w) (cs:=dn1 tab cs l) (by rw[a4b];exact fun x hx=>hw x (List.mem_cons_of_mem _ hx)) (b3p h hl hc)]
   exact b0V h hl hc
theorem b0U {tab:List (List Int)} (h:TabQ tab) {cs:List Int} {i:Int} (h1:1≤i) (h2:i+1 < cs.length) (hc:InA tab.length cs):dn tab [i,i+1,i] cs=dn tab [i+1,i,i+1] cs:=by
 obtain⟨p,a,b,q,rfl,e⟩:=cutC (cs:=cs) (k:=i.natAbs - 1) (by lia)
 obtain⟨k1,k2,k3,k4⟩:=a7H.mp hc
 cases q with
 | nil=>simp only[List.length_append,List.length_cons,List.length_nil] at h2;lia
 | cons c q =>
   have k5:=k4 c List.mem_cons_self
   have s:∀ x y z:Int,p++x :: y :: z :: q=(p++[x])++y :: z :: q:=fun x y z=>by simp
   have u:∀ x y z:Int,dn1 tab (p++x :: y :: z :: q) i=p++y :: g2 tab x y :: z :: q:=fun x y z=>by
    rw[a3s (by lia)];unfold pr1 pr2;rw[if_pos (by lia),if_pos (by lia)]
   have v:∀ x y z:Int,dn1 tab (p++x :: y :: z :: q) (i+1)=p++x :: z :: g2 tab y z :: q:=fun x y z=>by
    rw[s,a3s (by simp;lia)];unfold pr1 pr2;rw[if_pos (by lia),if_pos (by lia)];simp
   show dn1 tab (dn1 tab (dn1 tab _ i) (i+1)) i=dn1 tab (dn1 tab (dn1 tab _ (i+1)) i) (i+1)
   rw[u,v,u,v,u,v,h.third a b c k2 k3 k5]
theorem b5F {tab:List (List Int)} {cs:List Int} {a b:Int} (ha:a1w cs.length a) (hb:a1w cs.length b) (hd:a.natAbs+1 < b.natAbs):dn tab [a,b] cs=dn tab [b,a] cs:=by
 obtain⟨l1,l2⟩:=ha
 obtain⟨l3,l4⟩:=hb
 obtain⟨p,x,y,q,rfl,e⟩:=cutC (cs:=cs) (k:=a.natAbs - 1) (by lia)
 simp only[List.length_append,List.length_cons] at l4
 obtain⟨p2,z,t,q2,rfl,e2⟩:=cutC (cs:=q) (k:=b.natAbs - a.natAbs - 2) (by lia)
 have s:∀ x y z t:Int,p++x :: y :: (p2++z :: t :: q2)=(p++x :: y :: p2)++z :: t :: q2:=fun x y z t=>by simp
 show dn1 tab (dn1 tab _ a) b=dn1 tab (dn1 tab _ b) a
 have hs:∀ x y:Int,(p++x :: y :: p2).length+1=b.natAbs:=fun x y=>by simp;lia
 rw[a3s (by lia),s,a3s (hs _ _),s,a3s (hs _ _),← s,← s,a3s (by lia)]
theorem b5E {tab:List (List Int)} (h:TabQ tab) {n:Int} {w v:List Int} (r:RelW n w v):∀ {cs:List Int},(cs.length:Int)=n→InA tab.length cs→a0f n w→dn tab w cs=dn tab v cs:=by
 induction r with
 | refl=>intro _ _ _ _;rfl
 | symm r ih=>intro cs e hc hw;exact (ih e hc (r.ok.mpr hw)).symm
 | trans r1 _ ih1 ih2=>intro cs e hc hw;exact (ih1 e hc hw).trans (ih2 e hc (r1.ok.mp hw))
 | ctx a b ha hb _ ih =>
   intro cs e hc hw
   rw[a2P,a2P,a2P,a2P,ih (by rw[a3h];exact e) (b5d h (by rw[e];exact ha) hc) hw.appl.appr]
 | far ha hb hd =>
   intro cs e hc hw
   rw[← e] at ha hb
   rcases hd with hd | hd
   ·exact b5F ha hb hd
   ·exact (b5F hb ha hd).symm
 | @three p q hp hq s d =>
   intro cs e hc hw
   subst e
   have up:∀ {i:Int},1≤i→i+1 < cs.length→dn tab [i,i+1,i] cs=dn tab [i+1,i,i+1] cs:=fun h1 h2=>b0U h h1 h2 hc
   have dw:∀ {i:Int},1≤i→i+1 < cs.length→dn tab [-i,-(i+1),-i] cs=dn tab [-(i+1),-i,-(i+1)] cs:=fun {i} h1 h2=>by
    have w1:a1w cs.length i:=⟨by lia,by lia⟩
    have w2:a1w cs.length (i+1):=⟨by lia,by lia⟩
    have o1:a0f cs.length [-i,-(i+1),-i]:=.three w1.neg w2.neg w1.neg
    have hX:=b5d h o1 hc
    have e1:dn tab [i,i+1,i] (dn tab [-i,-(i+1),-i] cs)=cs:=by
     have:=a9U h o1 hc
     rwa [show a1j [-i,-(i+1),-i]=[i,i+1,i] by simp [a1j]] at this
    rw[b0U h h1 (by rw[a3h];exact h2) hX] at e1
    have e2:=a9U h (w:=[i+1,i,i+1]) (cs:=dn tab [-i,-(i+1),-i] cs) (by rw[a3h];exact .three w2 w1 w2) hX
    rw[e1,show a1j [i+1,i,i+1]=[-(i+1),-i,-(i+1)] by simp [a1j]] at e2
    exact e2.symm
   obtain⟨p1,p2⟩:=hp
   obtain⟨q1,q2⟩:=hq
   rcases Int.lt_or_le 0 p with p0 | p0
   ·have q0:0 < q:=by
     rcases Int.lt_or_le 0 q with z | z
     ·exact z
     ·exact absurd s (by have:=Int.mul_nonpos_of_nonneg_of_nonpos (show 0≤p by lia) z;lia)
    rcases (show q=p+1∨p=q+1 by lia) with rfl | rfl
    ·exact up (by lia) (by lia)
    ·exact (up (by lia) (by lia)).symm
   ·have q0:q < 0:=by
     rcases Int.lt_or_le q 0 with z | z
     ·exact z
     ·exact absurd s (by have:=Int.mul_nonpos_of_nonpos_of_nonneg p0 z;lia)
    obtain⟨i,rfl⟩:∃ i,p=-i:=⟨-p,by lia⟩
    obtain⟨j,rfl⟩:∃ j,q=-j:=⟨-q,by lia⟩
    rcases (show j=i+1∨i=j+1 by lia) with rfl | rfl
    ·exact dw (by lia) (by lia)
    ·exact (dw (by lia) (by lia)).symm
 | @out l hl =>
   intro cs e hc hw
   rw[← e] at hl
   exact b0V h hl hc
section
variable {X:Cx}
end
theorem a4l:∀ (l r:List Int),l.Nodup→(∀ x∈l,x∈r)→r.length≤l.length→l.Perm r
 | [],r,_,_,h=>by
   rw[List.length_nil] at h
   rw[List.eq_nil_of_length_eq_zero (by lia:r.length=0)]
 | x :: l,r,nd,hs,h=>by
   have hx:=hs x List.mem_cons_self
   have nd':=List.nodup_cons.mp nd
   refine (List.Perm.cons x (a4l l (r.erase x) nd'.2 (fun y hy=>?_) ?_)).trans (List.perm_cons_erase hx).symm
   ·exact (List.mem_erase_of_ne (fun z=>nd'.1 (by rw[← z];exact hy))).mpr (hs y (List.mem_cons_of_mem _ hy))
   ·rw[List.length_erase_of_mem hx]
    rw[List.length_cons] at h
    lia
noncomputable def b6Y (m:Int) (row:List Int):List (List Int):=(a0l m).map fun c=>row++[c]
noncomputable def alR (m:Int):Nat→List (List Int)
 | 0=>[[]]
 | k+1=>(alR m k).flatMap (b6Y m)
theorem b3J {m:Int}:∀ {k:Nat} {r:List Int},r∈alR m k→r.length=k∧InA m r
 | 0,r,h=>by
   rw[List.mem_singleton.mp h]
   exact⟨rfl,fun _ z=>absurd z List.not_mem_nil⟩
 | k+1,r,h=>by
   obtain⟨q,hq,hr⟩:=List.mem_flatMap.mp h
   obtain⟨c,hc,rfl⟩:=List.mem_map.mp hr
   obtain⟨a,b⟩:=b3J hq
   refine⟨by rw[List.length_append,a];rfl,fun x hx=>?_⟩
   rcases List.mem_append.mp hx with z | z
   ·exact b x z
   ·rw[List.mem_singleton.mp z];exact a0A.mp hc
section
variable {prog:Program} {w:World} {A:Around} {E:Value→Shared→Prop} {s:Shared}
end
section
variable {X:Cx} {pos:Pos}
end
theorem a5X {α:Type} (f:α→Bool) {L:List α} {i:Nat} {x:α} (h:L[i]?=some x):(L.take (i+1)).filter f=(L.take i).filter f++if f x=true then [x] else []:=by
 rw[List.take_add_one,h,List.filter_append]
 congr 1
 show List.filter f [x]=_
 rw[List.filter_cons]
 rfl
section
variable {X:Cx} {Ha:Hp} {a b:Expr} {ta tb:TE3} {tA:TT3} {pos:Pos}
end
section
variable {X:Cx} {Ha:Hp}
end
section
variable {X:Cx} {pos:Pos}
noncomputable def c0k (K:PySem.W.Frag):V→V→Hp→VK→Prop:=fun x y H Q=>∃ p xs i v,x=.ref p∧y=.int i∧SqL K H p xs∧0≤i∧xs[i.toNat]?=some v∧Q v H
theorem b2Y:PGet X (c0k X.K):=by
 intro pins s σ H o i ov iv Q I ro ri h
 obtain⟨p,xs,k,z,rfl,rfl,hq,h0,he,q⟩:=h
 cases ro
 obtain⟨t,rfl⟩:=ri
 obtain⟨its,r,pl,hz⟩:=I.list hq
 obtain⟨w,ew,rw'⟩:=r.get he
 have hl:=r.length
 have hn:=a5h
 have hk:k.toNat < xs.length:=(List.getElem?_eq_some_iff.mp he).1
 exact wpAny_getItem_list pl.isList h0 (by lia) (by simpa using ew) ⟨z,H,I,rw',q⟩
noncomputable def b8p (to ti te:TE3) (f:Int→Int→Int):TS3:=fun D ρ M=>to ρ M fun o M1=>ti ρ M1 fun k M2=>match o,k with
 | .adr p,.int k=>(match M2 p with
   | some (.lst ts)=>∃ x:Int,0≤k∧ts[k.toNat]?=some (.int x)∧te ρ M2 fun y M3=>match y with
     | .int z=>M3 p=some (.lst ts)∧D.nx ρ (updM M3 p (.lst (ts.set k.toNat (.int (f x z)))))
     | _=>False
   | _=>False)
 | _,_=>False
theorem b4f {o i e:Expr} {to ti te:TE3} {op:Operator} {f:Int→Int→Int} {tpos:Pos} (hp:PIp X op (ipI f)) (ho:HE X o to) (hi:HE X i ti) (he:HE X e te)
  (ha:∀ ov iv new,augStore i ov iv new=(do holding [new,ov,iv] (setItem ov iv new);release [new,ov,iv] [];pure .next):=by intros;rfl):HS X (.AugAssign (.Subscript o i tpos) op e pos) (b8p to ti te f):=fun D ρ M h =>
 (b6C (ho.d (ρ:=ρ)) (hi.d (ρ:=ρ)) b2Y (he.d (ρ:=ρ)) hp b0q ha).imp fun D2 σ H ⟨hr,hh,en⟩=>⟨M,_,h,hr,hh,fun x v M1 H1 k1 h1 r1 q1=>⟨M1,_,q1,hr.kp k1,h1,fun y w M2 H2 k2 h2 r2 q2=>by
  dsimp only at q2
  split at q2
  ·rename_i p k
   obtain rfl:=a0G r1
   obtain rfl:=a0u r2
   split at q2
   ·rename_i ts e
    obtain⟨x,k0,hx,q2⟩:=q2
    obtain⟨xs,g1,g2⟩:=h2 _ _ e
    obtain⟨v,ev,rv⟩:=g2.get hx
    obtain rfl:=a0u rv
    refine⟨p,xs,k,_,rfl,rfl,SqL.of g1,k0,ev,M2,_,q2,hr.kp (k1.trans k2),h2,fun y w M3 H3 k3 h3 r3 q3=>?_⟩
    dsimp only at q3
    split at q3
    ·rename_i z
     obtain rfl:=a0u r3
     obtain⟨e3,q3⟩:=q3
     obtain⟨ys,g3,g4⟩:=h3 _ _ e3
     have hk:k.toNat < ts.length:=(List.getElem?_eq_some_iff.mp hx).1
     have kk:=(k1.trans k2).trans k3
     refine⟨x,z,rfl,rfl,p,ys,k,k.toNat,rfl,rfl,g3,a3c k0 (by rw[g4.length];lia),?_⟩
     exact en.nx _ _ σ _ (kk.trans (Kp.lst g3)) (hr.kp (kk.trans (Kp.lst g3))) (h3.setL g3 (g4.set (t:=.int (f x z)) a0p k.toNat)) q3
    ·exact q3.elim
   ·exact q2.elim
  ·exact q2.elim⟩⟩
end
theorem Inv.turnFp {X:Cx} {pins:List (Addr × Obj)} {σ:St} {H:Hp} {s:Shared} {h':Heap} {t':Nat} {T:Addr} {xs:List V} {fp:List Addr} (I:Inv X pins σ H s) (fe:∀ b∈fp,FpOk X pins H b)
  (k:∀ b o,b ∉ fp→s.heap.get? b=some o→h'.get? b=some o) (hT:s.heap.objs.size≤T) (new:a1N X.prog X.w (upd H T (.tup xs)) h' T (.tup xs)) :
  Inv X pins σ (upd H T (.tup xs)) { s with heap:=h',toks:=t' }:=by
 have hn:H T=none:=I.hok.fresh hT
 have ne:∀ b u,H b=some u→b ∉ fp:=fun b u q z=>by rw[(fe b z).1] at q;cases q
 refine I.step (g':=s.gens) (d':=s.drawn) (ch:=fp) (fun b hb=>?_) (fun b o _ _ hc q _=>k b o hc q) (fun b o _ _ hc q _=>⟨o.slots,k b o hc q⟩)
  (fun b o _ q n=>by rw[a0m (Nat.ne_of_lt (Nat.lt_of_lt_of_le (Heap.lt_size q) hT))];exact n)
  (fun b o hc q=>⟨o,k b o hc q⟩) (fun b xs q=>by rw[a0m (a0j q hn)];exact q) (fun b o u q=>by rw[a0m (a0j q hn)];exact q) (fun b ps q=>⟨#[],by rw[a0m (a0j q hn),q];simp⟩) (fun m hm=>?_) (fun b u q=>?_) I.bare
 ·have fe:=fe b hb
  exact⟨fe.2.2.2.1,fe.2.1,fe.2.2.2.2.1,fe.2.2.2.2.2⟩
 ·obtain⟨o,es,ep,ho,r⟩:=hm
  exact⟨o,es,ep,k _ o (fun z=>(fe _ z).2.1 rfl) ho,r⟩
 ·by_cases hb:b=T
  ·subst hb;rw[a0U] at q;cases q;exact new
  ·rw[a0m hb] at q
   refine (I.hok b u q).stay (fun c v hc z=>?_) (fun c z=>by rw[a0m (a0j z hn)];exact z) fun c xs z=>by rw[a0m (a0j z hn)];exact z
   rcases hc with y | y
   ·rw[y] at z⊢;exact k b v (ne b u q) z
   ·exact k c v (ne c _ y) z
theorem Inv.turnedFp {X:Cx} {pins:List (Addr × Obj)} {σ:St} {H:Hp} {s:Shared} {h':Heap} {t':Nat} {fp:List Addr} (I:Inv X pins σ H s) (fe:∀ b∈fp,FpOk X pins H b) (k:∀ b o,b ∉ fp→s.heap.get? b=some o→h'.get? b=some o):Inv X pins σ H { s with heap:=h',toks:=t' }:=by
 have nit:∀ b u,H b=some u→b ∉ fp:=fun b u e z=>by rw[(fe b z).1] at e;cases e
 refine I.step (g':=s.gens) (d':=s.drawn) (ch:=fp) (fun b hb=>?_) (fun b o _ _ hc e _=>k b o hc e) (fun b o _ _ hc e _=>⟨o.slots,k b o hc e⟩) (fun _ _ _ _ n=>n)
  (fun b o hc e=>⟨o,k b o hc e⟩) (fun _ _ e=>e) (fun _ _ _ e=>e) (fun b ps e=>⟨#[],by rw[e];simp⟩) (fun m hm=>?_) (fun b u e=>?_) I.bare
 ·have fe:=fe b hb
  exact⟨fe.2.2.2.1,fe.2.1,fe.2.2.2.2.1,fe.2.2.2.2.2⟩
 ·obtain⟨o,es,ep,ho,r⟩:=hm
  exact⟨o,es,ep,k _ o (fun z=>(fe _ z).2.1 rfl) ho,r⟩
 ·refine (I.hok b u e).stay (fun c v hc q=>k c v ?_ q) (fun _ q=>q) fun _ _ q=>q
  rcases hc with z | z
  ·rw[z];exact nit b u e
  ·exact nit c _ z
noncomputable def Izip (K:PySem.W.Frag) (a b:Addr) (n:Nat):It :=
 ⟨fun i H=>i < n∧∃ xs ys,SqL K H a xs∧SqL K H b ys∧xs.length=n∧ys.length=n,fun i H v H'=>∃ T x y,v=.ref T∧H T=none∧H'=upd H T (.tup [x,y])∧(∀ xs,SqL K H a xs→xs[i]?=some x)∧(∀ ys,SqL K H b ys→ys[i]?=some y),
  fun i H=>i=n∧∃ xs ys,SqL K H a xs∧SqL K H b ys∧xs.length=n∧ys.length=n⟩
noncomputable def c0R (a b z TI TO i1 i2:Addr) (i:Nat) (h:Heap):Prop:=∃ u v,IsZip h z TI TO .none∧IsPair h TI (.ref i1) (.ref i2)∧IsPair h TO u v∧h.IsListIter i1 a i∧h.IsListIter i2 b i
theorem b3V {P:Program} {w:World} {K:PySem.W.Frag} {es:List Expr} {x1} {tp:Pos} (a b z TI TO i1 i2:Addr) (n:Nat) (D:ZipApart z TI TO i1 i2 a b):Turn P w K (.Tuple es x1 tp) (Izip K a b n) [z,TI,TO,i1,i2] z (c0R a b z TI TO i1 i2) where
 mem:=by simp
 obj:=fun i h st c hc=>by
  obtain⟨u,v,e1,e2,e3,e4,e5⟩:=st
  have q:c=z∨c=TI∨c=TO∨c=i1∨c=i2:=by simpa using hc
  rcases q with rfl | rfl | rfl | rfl | rfl
  ·exact⟨_,e1,fun v z=>by cases z⟩
  ·exact⟨_,e2,fun v z=>by cases z⟩
  ·exact⟨_,e3,fun v z=>by cases z⟩
  ·obtain⟨o,q,c,d⟩:=e4
   exact⟨o,q,fun v z=>by rw[d] at z;cases z⟩
  ·obtain⟨o,q,c,d⟩:=e5
   exact⟨o,q,fun v z=>by rw[d] at z;cases z⟩
 keep:=fun i h h' st k=>by
  obtain⟨u,v,e1,e2,e3,e4,e5⟩:=st
  exact⟨u,v,k _ (by simp) _ e1,k _ (by simp) _ e2,k _ (by simp) _ e3,e4.at fun o q=>k _ (by simp) o q,e5.at fun o q=>k _ (by simp) o q⟩
 item:=by
  intro X hP hw hK hc i pins s σ H E I hf st hg
  subst hP hw hK
  obtain⟨u,v,e1,e2,e3,e4,e5⟩:=st
  obtain⟨hi,xs,ys,hq,hq2,hxn,hyn⟩:=hg
  obtain⟨its,rv,p,hz⟩:=I.list hq
  obtain⟨its2,rv2,p2,hz2⟩:=I.list hq2
  obtain⟨x,hx⟩:∃ x,xs[i]?=some x:=⟨_,List.getElem?_eq_getElem (by lia)⟩
  obtain⟨y,hy⟩:∃ y,ys[i]?=some y:=⟨_,List.getElem?_eq_getElem (by lia)⟩
  obtain⟨u1,hu1,ru1⟩:=rv.get hx
  obtain⟨u2,hu2,ru2⟩:=rv2.get hy
  refine wpAny_pyNext_zip_item D e1 e2 e3 e4 e5 p.isList p2.isList (x:=u1) (y:=u2) (by simpa using hu1) (by simpa using hu2) fun h1 a1 a2 a3 a4 a5 a6 a7=>?_
  refine⟨_,rfl,wpAny_letOwnedTupleGo_zip a1 fun h2 b1 hs2=>?_⟩
  have k2:∀ b o,b ∉ [z,TI,TO,i1,i2]→s.heap.get? b=some o→h2.get? b=some o:=fun c o hc q=>by
   simp only[List.mem_cons,List.not_mem_nil,or_false,not_or] at hc
   exact (hs2.2 c hc.1).trans (a7 c o hc.1 hc.2.2.1 hc.2.2.2.1 hc.2.2.2.2 q)
  have nz:s.heap.objs.size≠z:=Nat.ne_of_gt (Heap.lt_size e1)
  have hT2:h2.get? s.heap.objs.size=some { cls:=.type "tuple",data:=.seq #[u1,u2] }:=(hs2.2 _ nz).trans a5
  have hn:H s.heap.objs.size=none:=I.hok.fresh (Nat.le_refl _)
  have I2:Inv X pins σ (upd H s.heap.objs.size (.tup [x,y])) { s with heap:=h2,toks:=s.toks }:=I.turnFp hf k2 (Nat.le_refl _)
   ⟨by simp only[List.length_cons,List.length_nil];rw[sizeLine_eq];decide,[u1,u2],.cons ru1 (.cons ru2 .nil),_,hT2,rfl,rfl,_,rfl⟩
  have up:∀ {c:Addr} {o:Obj},c≠z→h1.get? c=some o→h2.get? c=some o:=fun hc q=>(hs2.2 _ hc).trans q
  have hTI:h1.get? TI=some { cls:=.type "tuple",data:=.seq #[.ref i1,.ref i2] }:=a7 TI _ D.TIz D.TITO D.TIi1 D.TIi2 e2
  refine⟨.ref s.heap.objs.size,_,I2,rfl,⟨_,x,y,rfl,hn,rfl,fun ws hw=>by rw[I.list_inj hw hq];exact hx,fun ws hw=>by rw[I.list_inj hw hq2];exact hy⟩,⟨u1,u2,b1,up D.TIz hTI,up D.TOz a2,a3.at fun o q=>up D.i1z q,a4.at fun o q=>up D.i2z q⟩,fun c hc=>?_⟩
  have hc':c < s.heap.objs.size:=by
   have q:c=z∨c=TI∨c=TO∨c=i1∨c=i2:=by simpa using hc
   rcases q with rfl | rfl | rfl | rfl | rfl
   ·exact Heap.lt_size e1
   ·exact Heap.lt_size e2
   ·exact Heap.lt_size e3
   ·obtain⟨o,q,_⟩:=e4;exact Heap.lt_size q
   ·obtain⟨o,q,_⟩:=e5;exact Heap.lt_size q
  rw[a0m (Nat.ne_of_lt hc')]
  exact (hf c hc).1
 done:=by
  intro X hP hw hK hc i pins s σ H E I hf st hg
  subst hP hw hK
  obtain⟨u,v,e1,e2,e3,e4,e5⟩:=st
  obtain⟨hi,xs,ys,hq,hq2,hxn,hyn⟩:=hg
  obtain⟨its,rv,p,hz⟩:=I.list hq
  obtain⟨its2,rv2,p2,hz2⟩:=I.list hq2
  have hl:=rv.length
  refine wpAny_pyNext_zip_end (I.ok.hd hc) D e1 e2 e3 e4 e5 p.isList p2.isList (.inl (Array.getElem?_eq_none (by simp;lia))) fun h' eb=>⟨rfl,I.turnedFp (t':=s.toks) hf fun c o hc q=>?_⟩
  simp only[List.mem_cons,List.not_mem_nil,or_false,not_or] at hc
  exact eb c o hc.1 hc.2.2.1 hc.2.2.2.1 hc.2.2.2.2 q
 self:=fun A i s Q E st h=>by
  obtain⟨u,v,e1,_⟩:=st
  exact wpAny_pyIter_zip e1 h
noncomputable def zpT (ts us:List T):List T:=List.zipWith (fun a b=>.tup [a,b]) ts us
theorem a4i {ts us:List T} (h:ts.length=us.length):(zpT ts us).length=ts.length:=by unfold zpT;rw[List.length_zipWith,h,Nat.min_self]
theorem a4H {ts us:List T} {i:Nat} {x:T} (h:(zpT ts us)[i]?=some x):∃ a b,ts[i]?=some a∧us[i]?=some b∧x=.tup [a,b]:=by
 unfold zpT at h
 rw[List.getElem?_zipWith] at h
 cases e1:ts[i]? with
 | none=>rw[e1] at h;cases us[i]?<;>cases h
 | some a =>
   cases e2:us[i]? with
   | none=>rw[e1,e2] at h;cases h
   | some b=>rw[e1,e2] at h;exact⟨a,b,rfl,rfl,(Option.some.inj h).symm⟩
theorem b4I {K:PySem.W.Frag} {H:Hp} {a b:Addr} {ts us:List T} (hl:ts.length=us.length):ItOk K H (Izip K a b ts.length) ⟨zpT ts us,fun M'=>M' a=some (.lst ts)∧M' b=some (.lst us)⟩:=by
 refine⟨fun H' M' k hh st=>?_,fun i x H' M' e k hh st=>?_⟩
 ·obtain⟨xs,g1,g2⟩:=hh _ _ st.1
  obtain⟨ys,g3,g4⟩:=hh _ _ st.2
  exact⟨a4i hl,xs,ys,SqL.of g1,SqL.of g3,g2.length,by rw[g4.length,hl]⟩
 ·obtain⟨t,u,ht,hu,rfl⟩:=a4H e
  obtain⟨xs,g1,g2⟩:=hh _ _ st.1
  obtain⟨ys,g3,g4⟩:=hh _ _ st.2
  obtain⟨v,e1,r1⟩:=g2.get ht
  obtain⟨w,e2,r2⟩:=g4.get hu
  refine⟨⟨(List.getElem?_eq_some_iff.mp ht).1,xs,ys,SqL.of g1,SqL.of g3,g2.length,by rw[g4.length,hl]⟩,fun v' H'' y=>?_⟩
  obtain⟨p,x,y,rfl,hn,rfl,hx,hy⟩:=y
  have q1:=hx xs (SqL.of g1)
  have q2:=hy ys (SqL.of g3)
  rw[e1] at q1
  rw[e2] at q2
  cases q1
  cases q2
  exact⟨Kp.new hn,hh.keep hn,a2j (SqT.of a0U) (.cons (Rep.kp (Kp.new hn) _ _ r1) (.cons (Rep.kp (Kp.new hn) _ _ r2) .nil))⟩
section
variable {X:Cx}
noncomputable def b9j (t:TA3):TI3:=fun ρ M R=>t ρ M fun xs M1=>match xs with
 | [.adr p,.adr q]=>(match M1 p,M1 q with | some (.lst ts),some (.lst us)=>ts.length=us.length∧R ⟨zpT ts us,fun M'=>M' p=some (.lst ts)∧M' q=some (.lst us)⟩ M1 | _,_=>False)
 | _=>False
theorem b2Q {es:List Expr} {x1} {tp pos:Pos} {a b:Expr} {t:TA3} {p:Pos} (hm:X.mg "zip"=none) (ha:HA X [a,b] t) (hg:Gl X "zip":=by rfl) (hs:starEach [a,b] X.env=[(false,eval a X.env),(false,eval b X.env)]:=by rfl) (hs2:starEach [b] X.env=[(false,eval b X.env)]:=by rfl):HI X (.Tuple es x1 tp) (.Call (.Name "zip" p) [a,b] [] pos) (b9j t):=by
 intro ρ M R h pins s σ H R2 I b
 obtain⟨hr,hh,en⟩:=b
 refine Call_ (a3y I hg hm PyProof.Rows.boot_zip (PyProof.Rows.callWith_type1 (thn ((ha.d (ρ:=ρ)) pos pins s σ H (fun vs H1=>∃ ts M1,Kp X.K H H1∧HR X.K H1 M1∧Reps X.K H1 vs ts∧(match ts with
  | [.adr p,.adr q]=>(match M1 p,M1 q with | some (.lst ts),some (.lst us)=>ts.length=us.length∧R ⟨zpT ts us,fun M'=>M' p=some (.lst ts)∧M' q=some (.lst us)⟩ M1 | _,_=>False)
  | _=>False)) I ⟨M,_,h,hr,hh,fun ts vs M1 H1 k1 h1 r1 q1=>⟨ts,M1,k1,h1,r1,q1⟩⟩) fun us s1 ⟨vs,H1,I1,r1,ts,M1,k1,h1,rt,q1⟩=>?_) (by rw[hs,hs2]) (by rw[hs2];rfl)))
 split at q1
 ·rename_i p q
  obtain⟨v,w,rfl,rv,rw'⟩:=b2l rt
  obtain rfl:=a0G rv
  obtain rfl:=a0G rw'
  split at q1
  ·rename_i ts us e1 e2
   obtain⟨hl,q1⟩:=q1
   obtain⟨xs,g1,g2⟩:=h1 _ _ e1
   obtain⟨ys,g3,g4⟩:=h1 _ _ e2
   cases r1 with
   | cons ra rr =>
     cases rr with
     | cons rb rr =>
       cases rr
       cases ra
       cases rb
       obtain⟨its,rva,pa,hza⟩:=I1.list (SqL.of g1)
       obtain⟨its2,rvb,pb,hzb⟩:=I1.list (SqL.of g3)
       have la:p < s1.heap.objs.size:=by obtain⟨o,e,_⟩:=pa.isList;exact Heap.lt_size e
       have lb:q < s1.heap.objs.size:=by obtain⟨o,e,_⟩:=pb.isList;exact Heap.lt_size e
       refine call_zip_2 pa.isList pb.isList fun h' a1 a2 a3 a4 a5 a6 a7=>?_
       refine wpAny_pyIter_zip (s:={ s1 with heap:=h' }) a1 ?_
       refine⟨s1.heap.objs.size+4,[s1.heap.objs.size+4,s1.heap.objs.size+2,s1.heap.objs.size+3,s1.heap.objs.size,s1.heap.objs.size+1],_,_,H1,rfl,I1.kept (t':=s1.toks) a7,
        b3V p q _ _ _ _ _ ts.length ⟨by lia,by lia,by lia,by lia,by lia,by lia,by lia,by lia,by lia,by lia,by lia,by lia,by lia,by lia,by lia,by lia,by lia,by lia⟩,⟨_,_,a1,a2,a3,a4,a5⟩,fun c hc=>?_,en _ _ M1 H1 k1 h1 (b4I hl) q1⟩
       have hc2:s1.heap.objs.size≤c:=by
        simp only[List.mem_cons,List.not_mem_nil,or_false] at hc
        lia
       exact I1.fpOk hc2 (I1.hok.fresh hc2)
  ·exact q1.elim
 ·exact q1.elim
end
section
variable {X:Cx}
end
section
variable {X:Cx} {e:Expr} {te:TE3} {p p2 pos pos2:Pos}
end
section
variable {X:Cx}
end
section
variable {P:Program} {w:World} {A:Around} {E:Value→Shared→Prop} {s:Shared}
end
section
variable {X:Cx}
end
section
variable {X:Cx}
end
section
variable {P:Program} {w:World} {A:Around} {E:Value→Shared→Prop} {s:Shared}
theorem a8x:typeLookup (.type "tuple") "keys"=pure none:=by rw[typeLookup_type,builtinLookup_eq_fast];kernel_rfl
set_option maxRecDepth 8000 in
theorem a6i {a:Addr} {xs:Array Value} {k:Nat} {sl:Array (Option Value)} {Q:Option Value→Shared→Prop} (hx:s.heap.get? a=some { cls:=.type "tuple",dict:=none,data:=.seq xs k,slots:=sl }) (hA:A.handled=none)
  (h:∀ h' tk,(∀ b o,s.heap.get? b=some o→h'.get? b=some o)→Q none { s with heap:=h',toks:=tk }):wpAny (model P w) A (getAttr? (.ref a) "keys") Q E s:=by
 obtain⟨hp,g,d,tk,os⟩:=s
 have hT:∀ tk',(⟨hp,g,d,tk',os⟩:Shared).TypeIs (.ref a) "tuple":=fun _=>⟨_,hx,rfl⟩
 have f1:=sub_AttributeError;have f3:=F.slot_tuple_getattribute.lookup;have f4:=F.slot_tuple_getattribute.bind (.ref a);have f5:=am_tuple_getattr_none
 have hname:(["__module__","__name__","__qualname__","__doc__","__annotations__"]:List Str).contains "keys"=false:=by decide +kernel
 unfold getAttr? getAttrBy? getAttrBy
 repeat (any_goals (first | exact hT _ | assumption | ((with_reducible show wpAny _ _ (call (Value.builtin "tuple.__getattribute__") _ _) _ _ _);refine call_meets F.slot_tuple_getattribute (hT _) am_entry_tuple_getattribute (F.args_tuple_getattribute_2 _ _) (meets_getattribute_miss_tuple a xs k sl "keys" _ a8x hname (by rw[sizeLine_eq];decide +kernel)) ⟨hx,hA,fun h' tk' e hx'=>?_⟩) | wp_step))
 obtain⟨t',u',he⟩:=hx'.there
 show wpAny _ _ (getattributeRaised _ _ _ _ _ _ _) _ _ _
 unfold getattributeRaised
 repeat (any_goals (first | wp_step | assumption))
 exact h _ _ hx'.of.keeps
theorem a5G:entryFor table "dict.update.loop"=some Builtin.«dict.update.loop»:=entryFor_of_tree (by kernel_rfl)
theorem a3p:plainId "dict.update.loop"=true:=by decide +kernel
theorem a6z {K:Type} [DecidableEq K] {knd:KeyKind P w K} {I d:Addr} {fp wr:List Addr} {n:Nat} {V:Nat→Value→Prop} {St:Nat→Heap→Prop} (W:Walks P w A.in1 I fp wr n V St) (hdf:d ∉ fp) (res:Value) (ks:List (K × Value)) (hn:ks.length=n) (hz:n≤sizeLine) (h0:Heap)
  (hV:∀ i v,V i v→∃ p k x key,v=.ref p∧ks[i]?=some (k,x)∧knd.is k key=true∧h0.IsTuple p #[key,x]∧p≠d∧p ∉ wr) {R:Result→Shared→Prop} :
  ∀ (m i:Nat) (s:Shared),n - i=m→i≤n→St i s.heap→s.heap.DictOf knd d (merged [] (ks.take i))→(∀ b o,b≠d→b ∉ wr→h0.get? b=some o→s.heap.get? b=some o) →
    (∀ h' tk,h'.DictOf knd d (merged [] ks)→(∀ b o,b≠d→b ∉ wr→h0.get? b=some o→h'.get? b=some o)→R (.ok (.ret res)) { s with heap:=h',toks:=tk }) →
    codeAny (model P w) A (.builtin "dict.update.loop" ⟨[.ref d,.ref I,rawInt i,res],[]⟩) R s
 | 0,i,s,hm,hi,st,hd,hk,hR=>by
   obtain rfl:i=n:=by lia
   refine codeAny_builtin a5G ?_
   rw[Around.under_plainId a3p _]
   show wpAny _ A.in1 (pyNext (.ref I) >>= _) _ _ s
   refine wpAny_bind (W.done s _ _ st fun h' tk hk'=>?_)
   show wpAny _ _ (Builtin.Dict.addKeywords d [] >>= _) _ _ _
   refine wpAny_bind (wpAny_pure (wpAny_pure (hR h' tk ?_ fun b o b1 b2 e=>hk' b o b2 (hk b o b1 b2 e))))
   rw[← hn,List.take_length] at hd
   obtain⟨o,es,ep,g,r⟩:=hd
   exact⟨o,es,ep,hk' d o (fun z=>hdf (W.sub _ z)) g,r⟩
 | m+1,i,s,hm,hi,st,hd,hk,hR=>by
   refine codeAny_builtin a5G ?_
   rw[Around.under_plainId a3p _]
   show wpAny _ A.in1 (pyNext (.ref I) >>= _) _ _ s
   refine wpAny_bind (W.item i s _ _ (by lia) st fun v h' tk hv st' hk'=>?_)
   obtain⟨p,k,x,key,rfl,ek,hkey,hp,np1,np2⟩:=hV i v hv
   have hd':h'.DictOf knd d (merged [] (ks.take i)):=by
    obtain⟨o,es,ep,g,r⟩:=hd
    exact⟨o,es,ep,hk' d o (fun z=>hdf (W.sub _ z)) g,r⟩
   obtain⟨o,ho,hc,nn,hdat⟩:=hp
   have ho':h'.get? p=some o:=hk' p o np2 (hk p o np1 np2 ho)
   show wpAny _ _ (holding [Value.ref p] _ >>= _) _ _ _
   refine wpAny_bind (wpAny_holding (wpAny_bind (wpAny_tryCatch ?_)))
   unfold Builtin.Dict.pairItems
   refine wpAny_bind (wpAny_typeOf (T:="tuple") ⟨o,ho',hc⟩ ?_)
   rw[if_pos (by decide)]
   refine wpAny_bind (wpAny_seqItems ho' hdat (wpAny_pure ?_))
   show wpAny _ _ (holding [key,x] (dictSet d key x)) _ _ _
   have hle:(merged [] (ks.take i)).length≤sizeLine:=by
    have e1:=merged_length_le ([]:List (K × Value)) (ks.take i)
    have e2:(ks.take i).length≤ks.length:=by rw[List.length_take];lia
    simp only[List.length_nil] at e1
    lia
   refine wpAny_holding (wpAny_dictSet_pairs (hsz:=hle) hkey hd' fun h'' hd'' hs''=>?_)
   refine wpAny_pure ⟨plainId_quiet a3p _,?_⟩
   have:=a6z W hdf res ks hn hz h0 hV (R:=R) m (i+1) { s with heap:=h'',toks:=tk+1 } (by lia) (by lia) (W.frame _ _ _ st' fun b hb o e=>?_) ?_ (fun b o b1 b2 e=>?_) hR
   ·exact this
   ·exact (hs''.2 b (fun z=>hdf (z▸hb))).trans e
   ·rw[merged_take_succ [] ks i (k,x) ek];exact hd''
   ·exact (hs''.2 b b1).trans (hk' b o b2 (hk b o b1 b2 e))
end
section
variable {P:Program} {w:World} {A:Around} {E:Value→Shared→Prop} {s:Shared} {K:Type} [DecidableEq K] {knd:KeyKind P w K}
theorem a7O {o:Addr} {vs:List Value} {kk:Nat} {sl:Array (Option Value)} {ks:List (K × Value)} {Q:Value→Shared→Prop} (ho:s.heap.get? o=some { cls:=.type "tuple",dict:=none,data:=.seq vs.toArray kk,slots:=sl }) (hA:A.handled=none)
  (hl:ks.length=vs.length) (hz:vs.length≤sizeLine) (hV:∀ (i:Nat) (v:Value),vs[i]?=some v→∃ p k x key,v=.ref p∧ks[i]?=some (k,x)∧knd.is k key=true∧s.heap.IsTuple p #[key,x])
  (h:∀ h' tk,h'.DictOf knd s.heap.objs.size (merged [] ks)→(∀ b u,s.heap.get? b=some u→h'.get? b=some u)→Q (Value.ref s.heap.objs.size) { s with heap:=h',toks:=tk }) :
  wpAny (model P w) A (call (.type "dict") [.ref o]) Q E s:=by
 refine callType_codes (Q₁:=fun obj s₁=>obj=Value.ref s.heap.objs.size∧s₁={ s with heap:=s.heap.push { cls:=.type "dict",data:=.dict #[] } }) F.kt_called_dict (F.kt_typeCall_dict_1 _) F.entry_dict_init (kt_code_dict_new _ ⟨rfl,rfl⟩) ?_
 rintro obj s₁ ⟨rfl,rfl⟩
 have hnew:(s.heap.push { cls:=.type "dict",data:=.dict #[] }).DictOf knd s.heap.objs.size []:=Heap.DictOf.new s.heap
 have hdo:s.heap.objs.size≠o:=Nat.ne_of_gt (Heap.lt_size ho)
 have ho':=Heap.get?_push_of_some { cls:=.type "dict",data:=.dict #[] } ho
 refine⟨hnew.typeIs,F.args_dict_init_2 _ _,?_⟩
 unfold Builtin.«dict.__init__» Builtin.Dict.selfAndRest;refine wpAny_bind (wpAny_bind (wpAny_notOrdered_dict hnew.typeIs ?_))
 show wpAny _ _ (pure (s.heap.objs.size,[Value.ref o])) _ _ _;refine wpAny_pure ?_
 show wpAny _ _ (Builtin.Dict.updateFrom "dict.__init__" s.heap.objs.size (.ref o) [] .none) _ _ _;unfold Builtin.Dict.updateFrom
 refine wpAny_bind (wpAny_typeOf (T:="tuple") ⟨_,ho',rfl⟩ ?_);rw[if_pos (by decide)]
 refine wpAny_bind (a6i ho' hA fun h1 tk1 k1=>?_);rw[if_pos (by rfl)]
 have ho1:=k1 _ _ ho'
 refine wpAny_bind (wpAny_rule (wpAny_bind (wpAny_pyIter_tuple (items:=vs.toArray) ⟨_,ho1,rfl,kk,rfl⟩ ?_)))
 have hI:h1.objs.size≠o:=Nat.ne_of_gt (Heap.lt_size ho1)
 have hd1:h1.DictOf knd s.heap.objs.size []:=by
  obtain⟨a,es,ep,g,r⟩:=hnew
  exact⟨a,es,ep,k1 _ _ g,r⟩
 have hdI:s.heap.objs.size≠h1.objs.size:=by
  obtain⟨a,es,ep,g,r⟩:=hd1
  exact Nat.ne_of_lt (Heap.lt_size g)
 have W:=Walks.tuple (prog:=P) (w:=w) (A:=A.in1.in1) (by exact hA) h1.objs.size o (Ne.symm hI) vs.toArray
 refine wpAny_pure ⟨plainId_quiet a3p _,a6z (knd:=knd) (A:=A.in1) (h0:=s.heap) (W:=W) (d:=s.heap.objs.size) (by simp only[List.mem_cons,List.not_mem_nil,or_false,not_or];exact⟨hdI,hdo⟩) _ ks (by simpa using hl) (by simpa using hz) ?_ vs.toArray.size 0 _ rfl (Nat.zero_le _) ⟨⟨_,Heap.get?_push_size _ rfl,rfl,rfl⟩,⟨_,Heap.get?_push_of_some _ ho1,rfl,kk,rfl⟩⟩ (hd1.push _) (fun b u _ _ e=>Heap.get?_push_of_some _ (k1 _ _ (Heap.get?_push_of_some _ e))) fun h' tk hd' hk'=>?_⟩
 ·intro i v hv
  obtain⟨p,k,x,key,e1,e2,e3,e4⟩:=hV i v (by simpa using hv)
  obtain⟨ob,g,c⟩:=id e4
  refine⟨p,k,x,key,e1,e2,e3,e4,Nat.ne_of_lt (Heap.lt_size g),fun z=>?_⟩
  have z2:p=h1.objs.size:=by simpa using z
  exact absurd (Heap.lt_size (k1 _ _ (Heap.get?_push_of_some _ g))) (by rw[z2];exact Nat.lt_irrefl _)
 ·refine⟨rfl,h h' tk hd' fun b u e=>hk' b u (Nat.ne_of_lt (Heap.lt_size e)) (fun z=>?_) e⟩
  have z2:b=h1.objs.size:=by simpa using z
  exact absurd (Heap.lt_size (k1 _ _ (Heap.get?_push_of_some _ e))) (by rw[z2];exact Nat.lt_irrefl _)
end
noncomputable def b6L (kv:Key × T):T:=.tup [keyT kv.1,kv.2]
noncomputable def b2o:List T→MH→VK3→Prop:=fun xs M Q=>match xs with
 | [.tup ts]=>∃ ks:List (Key × T),ts=ks.map b6L∧(ks.map Prod.fst).Nodup∧∀ r,M r=none→Q (.adr r) (updM M r (.dk ks))
 | _=>False
section
variable {X:Cx}
theorem b4j {k:Key} {key:Value} (r:RelV (kV k) key):a7F k key=true:=by
 cases k with
 | inl i=>obtain⟨t,rfl⟩:=r;exact a8D i t
 | inr x=>obtain⟨t,rfl⟩:=r;exact a8C x t
theorem b0A {pins:List (Addr × Obj)} {σ:St} {H:Hp} {s:Shared} (I:Inv X pins σ H s):∀ {ks:List (Key × T)} {xs:List V} {its:List Value},Reps X.K H xs (ks.map b6L)→Vals xs its →
  ∃ (vs:List (Key × Value)) (kv:List (Key × V)),vs.length=its.length∧KV kv vs∧KRep X.K H kv ks∧∀ (i:Nat) (v:Value),its[i]?=some v→∃ p k x key,v=.ref p∧vs[i]?=some (k,x)∧a7F k key=true∧s.heap.IsTuple p #[key,x]
 | [],xs,its,r,rv=>by
   rw[List.map_nil] at r
   unfold Reps at r
   subst r
   cases rv
   exact⟨[],[],rfl,.nil,trivial,fun i v e=>by simp at e⟩
 | (k, t) :: ks,xs,its,r,rv=>by
   rw[List.map_cons] at r
   unfold Reps at r
   obtain⟨v,w,rfl,r1,r2⟩:=r
   cases rv with
   | @cons _ u _ us h1 h2 =>
     obtain⟨vs,kv,hl,hk,hr,hat⟩:=b0A I r2 h2
     obtain⟨p,ys,rfl,g1,g2⟩:=a2e r1
     obtain⟨y1,y2,rfl,q1,q2⟩:=b2l g2
     obtain rfl:=a7j q1
     cases h1
     obtain⟨js,jv,jt,jz⟩:=I.tuple g1
     cases jv with
     | @cons _ key _ js2 a1 a2 =>
       cases a2 with
       | @cons _ x _ js3 b1 b2 =>
         cases b2
         refine⟨(k,x) :: vs,(k,y2) :: kv,by rw[List.length_cons,List.length_cons,hl],.cons ⟨rfl,b1⟩ hk,⟨rfl,q2,hr⟩,fun i v e=>?_⟩
         cases i with
         | zero =>
           simp at e
           subst e
           exact⟨p,k,x,key,rfl,rfl,b4j a1,jt⟩
         | succ i =>
           obtain⟨p',k',x',key',e1,e2,e3⟩:=hat i v (by simpa using e)
           exact⟨p',k',x',key',e1,by simpa using e2,e3⟩
theorem a5R {K:PySem.W.Frag} {H:Hp}:∀ {kv:List (Key × V)} {ks:List (Key × T)},KRep K H kv ks→kv.map Prod.fst=ks.map Prod.fst
 | [],[],_=>rfl
 | p :: r,q :: u,h=>by rw[List.map_cons,List.map_cons,h.1,a5R h.2.2]
 | [],q :: u,h=>h.elim
 | p :: r,[],h=>h.elim
theorem b0d (hc:X.calm=true):a4h X (.type "dict") b2o:=by
 intro pins s σ H vs us Q2 I r h
 obtain⟨xs,M,Q,rr,hh,q,en⟩:=h
 unfold b2o at q
 split at q
 ·rename_i ts
  obtain⟨ks,rfl,hnd,q⟩:=q
  obtain⟨v,rfl,r1⟩:=a3o rr
  obtain⟨p,ys,rfl,g1,g2⟩:=a2e r1
  obtain⟨u,rfl,rx⟩:=a5i r
  cases rx
  obtain⟨its,rv,⟨ob,ho,hcl,hdd,nn,hdat⟩,hz⟩:=I.tuple0 g1
  obtain⟨vs,kv,hl,hk,hr,hat⟩:=b0A I g2 rv
  have hlen:=rv.length
  obtain⟨c1,c2,c3,c4⟩:=ob
  simp only at hcl hdd hdat
  subst hcl hdd hdat
  have hndv:(vs.map (·.1)).Nodup:=by
   have e1:=hk.keys
   have e2:=a5R hr
   rw[← e1]
   exact e2▸hnd
  refine a7O (knd:=a1i X.prog X.w) ho (I.ok.hd hc) hl (by lia) hat fun h' tk hd' hk'=>?_
  rw[merged_nil_of_nodup vs hndv] at hd'
  have hfr:H s.heap.objs.size=none:=I.hok.fresh (Nat.le_refl _)
  have hsys:(s.heap.objs.size == sysModules)=false:=by
   have:=I.big
   simp only[beq_eq_false_iff_ne,ne_eq]
   exact fun z=>absurd this (by rw[z];exact Nat.lt_irrefl _)
  have kvl:kv.length≤sizeLine:=by
   have:=hk.length
   lia
  exact⟨.ref s.heap.objs.size,_,I.laid (t':=tk) hk' (Nat.le_refl _) (show a1N X.prog X.w _ h' _ (.dK kv) from ⟨kvl,hsys,vs,hk,hd'⟩),rfl,en _ _ _ _ (Kp.new hfr) (hh.newK hfr hr) a3b (q _ (hh.free hfr))⟩
 ·exact q.elim
noncomputable def a7l:List T→MH→VK3→Prop:=fun xs M Q=>match xs with
 | [.adr p]=>(match M p with | some (.dk kvs)=>∃ ns:List Int,kvs.map Prod.fst=ns.map Sum.inl∧ns.length < 64∧∀ ms:List Int,ms.Perm ns→ms.Pairwise (·≤·)→∀ r,M r=none→Q (.adr r) (updM M r (.lst (ms.map .int))) | _=>False)
 | _=>False
end
section
variable {P:Program} {w:World} {A:Around} {E:Value→Shared→Prop} {s:Shared}
theorem b0h:∀ {xs:List V} {us:List Value},xs.length=us.length→(∀ (i:Nat) (x:V) (u:Value),xs[i]?=some x→us[i]?=some u→RelV x u)→Vals xs us
 | [],[],_,_=>.nil
 | [],u :: us,h,_=>by cases h
 | x :: xs,[],h,_=>by cases h
 | x :: xs,u :: us,h,f=>.cons (f 0 x u rfl rfl) (b0h (by rw[List.length_cons,List.length_cons] at h;lia) fun i x' u' h1 h2=>f (i+1) x' u' (by simpa using h1) (by simpa using h2))
theorem a9u {d:Addr} {kvs:List (Key × Value)} {ep:Nat} {ns:List Int} {Q:Value→Shared→Prop} (hA:A.handled=none) (hd:s.heap.DictAt (a1i P w) d kvs ep) (lo:(d == sysModules)=false) (hk:kvs.map (·.1)=ns.map Sum.inl) (h64:ns.length < 64)
  (h:∀ (h1 h':Heap) (tk:Nat) (out:Array Value) (ns':List Int),(∀ b u,s.heap.get? b=some u→h1.get? b=some u)→(∀ b u,h1.get? b=some u→h'.get? b=some u)→(∃ e,h'.get? h1.objs.size=some (seqObj "list" out e))→IntsAre out.toList ns'→ns'.Perm ns→ns'.Pairwise (·≤·)→Q (.ref h1.objs.size) { s with heap:=h',toks:=tk }) :
  wpAny (model P w) A (call (.builtin "sorted") [.ref d]) Q E s:=by
 have hl:kvs.length=ns.length:=by
  have:=congrArg List.length hk
  rwa [List.length_map,List.length_map] at this
 refine Calls.call_function_entry kind_sorted plain_sorted entry_sorted (args_sorted1 _) ?_
 unfold Builtin.«sorted»
 refine wpAny_bind (m:=checkCount "sorted" 1 1 _) (wpAny_pure (wpAny_bind (PySem.W.kdu_collect (A:=A.in1) (PySem.W.kdl_dict (knd:=a1i P w) (kvs:=kvs) (ep:=ep) lo) hA hd (by rw[hl,sizeLine_eq];lia) fun h' tk acc hkp hacc=>?_)))
 obtain⟨hsz,hat⟩:=hacc
 have hI:IntsAre acc.toList ns:=b1K (b0h (by rw[List.length_map];exact (hl.symm.trans hsz.symm).trans Array.length_toList.symm) fun i x u h1 h2=>by
  obtain⟨k,y,e1,e2⟩:=hat i u (by rw[← Array.getElem?_toList];exact h2)
  have e3:(kvs.map (·.1))[i]?=some k:=by rw[List.getElem?_map,e1];rfl
  rw[hk,List.getElem?_map] at e3
  rw[List.getElem?_map] at h1
  cases en:ns[i]? with
  | none=>rw[en] at h1;cases h1
  | some n =>
    rw[en] at e3 h1
    obtain rfl:=Option.some.inj h1
    have e4:Sum.inl n=k:=Option.some.inj e3
    subst e4
    rw[b1F] at e2
    rcases a1g e2 with ⟨j,t,z1,z2⟩ | ⟨j,t,z1,z2⟩
    ·cases z1;exact⟨t,z2⟩
    ·cases z1)
 refine wpAny_bind (wpAny_newList ?_)
 have hoL:(h'.push (seqObj "list" acc.toList.toArray 0)).get? h'.objs.size=some (seqObj "list" acc.toList.toArray 0):=Heap.get?_push_size _ rfl
 refine wpAny_bind (wpAny_holding (wpAny_call_entry slot_list_sort ⟨_,hoL,rfl⟩ entry_list_sort (list_sort_tree hoL hI (by rw[Array.length_toList,hsz,hl];exact h64) fun out ns' a1 a2 a3=>⟨_,rfl,?_⟩) (args_list_sort _)))
 exact wpAny_pure ⟨_,rfl,h h' _ _ out ns' hkp (fun b u e=>(sortedHeap_old (Nat.ne_of_lt (Heap.lt_size e)) (Nat.lt_of_lt_of_le (Heap.lt_size e) (by show h'.objs.size≤(h'.push (seqObj "list" acc.toList.toArray 0)).objs.size;rw[size_push'];exact Nat.le_succ _))).trans (Heap.get?_push_of_some _ e)) (sortedHeap_at hoL) a1 a2 a3⟩
end
section
variable {X:Cx}
theorem a7T (hc:X.calm=true):a4h X (.builtin "sorted") a7l:=by
 intro pins s σ H vs us Q2 I r h
 obtain⟨xs,M,Q,rr,hh,q,en⟩:=h
 unfold a7l at q
 split at q
 ·obtain⟨v,rfl,r1⟩:=a3o rr
  obtain rfl:=a0G r1
  obtain⟨u,rfl,rx⟩:=a5i r
  cases rx
  split at q
  ·rename_i kvs e0
   obtain⟨ns,hk,h64,q⟩:=q
   obtain⟨kv,g1,g2⟩:=hh _ _ e0
   obtain⟨kz,lo,vs,r1,dd⟩:=(show a1N X.prog X.w H s.heap _ (.dK kv) from I.hok _ _ g1)
   obtain⟨ep,da⟩:=dd.dictAt
   have e1:vs.map (·.1)=ns.map Sum.inl:=by
    rw[← r1.keys]
    exact (a5R g2).trans hk
   refine a9u (I.ok.hd hc) da lo e1 h64 fun h1 h' tk out ns' hkp hkp2 ⟨e,hg⟩ a1 a2 a3=>?_
   have I1:Inv X pins σ H { s with heap:=h1,toks:=s.toks }:=I.kept hkp
   have hfr:H h1.objs.size=none:=I1.hok.fresh (Nat.le_refl _)
   have hn:ns'.length≤sizeLine:=by rw[a2.length_eq,sizeLine_eq];lia
   exact⟨.ref h1.objs.size,_,I1.laid (t':=tk) hkp2 (Nat.le_refl _) (show a1N X.prog X.w _ h' _ (.lst (ns'.map V.int)) from ⟨by rw[List.length_map];exact hn,out.toList,e,a5w a1,by rw[Array.toArray_toList];exact hg⟩),rfl,en _ _ _ _ (Kp.new hfr) (hh.newL hfr (a8H ns')) a3b (q ns' a2 a3 _ (hh.free hfr))⟩
  ·exact q.elim
 ·exact q.elim
end
noncomputable abbrev Po:=List (Int × Int)
noncomputable def co:Po→Int→Int
 | [],_=>0
 | x :: r,k=>(if x.1=k then x.2 else 0)+co r k
noncomputable def CanP (p:Po):Prop:=p.Pairwise (fun a b=>a.1 < b.1)∧∀ x∈p,x.2≠0
theorem a1E (p q:Po) (k:Int):co (p++q) k=co p k+co q k:=by
 induction p with
 | nil=>show co q k=0+co q k;lia
 | cons x r ih =>
   show (if x.1=k then x.2 else 0)+co (r++q) k=((if x.1=k then x.2 else 0)+co r k)+co q k
   rw[ih];lia
theorem a3e {p:Po} {k:Int} (h:∀ x∈p,x.1≠k):co p k=0:=by
 induction p with
 | nil=>rfl
 | cons x r ih =>
   show (if x.1=k then x.2 else 0)+co r k=0
   rw[if_neg (h x (.head _)),ih fun y hy=>h y (.tail _ hy)];rfl
theorem a6d {p:Po} (h:p.Pairwise (fun a b=>a.1 < b.1)) {x:Int × Int} (hx:x∈p):co p x.1=x.2:=by
 induction p with
 | nil=>cases hx
 | cons y r ih =>
   obtain⟨h1,h2⟩:=List.pairwise_cons.mp h
   show (if y.1=x.1 then y.2 else 0)+co r x.1=x.2
   rcases List.mem_cons.mp hx with e | e
   ·subst e
    rw[if_pos rfl,a3e fun z hz=>Int.ne_of_gt (h1 z hz)];lia
   ·rw[if_neg (Int.ne_of_lt (h1 x e)),ih h2 e];lia
theorem a2Z:∀ {p q:Po},CanP p→CanP q→(∀ k,co p k=co q k)→p=q
 | [],[],_,_,_=>rfl
 | [],y :: q,_,hq,h=>by
   have e:=a6d hq.1 (List.mem_cons_self (a:=y) (l:=q))
   rw[← h] at e
   exact absurd e.symm (hq.2 y (.head _))
 | x :: p,[],hp,_,h=>by
   have e:=a6d hp.1 (List.mem_cons_self (a:=x) (l:=p))
   rw[h] at e
   exact absurd e.symm (hp.2 x (.head _))
 | x :: p,y :: q,hp,hq,h=>by
   obtain⟨p1,p2⟩:=List.pairwise_cons.mp hp.1
   obtain⟨q1,q2⟩:=List.pairwise_cons.mp hq.1
   have ex:=a6d hp.1 (List.mem_cons_self (a:=x) (l:=p))
   have ey:=a6d hq.1 (List.mem_cons_self (a:=y) (l:=q))
   have nx:=hp.2 x (.head _)
   have ny:=hq.2 y (.head _)
   have e1:x.1=y.1:=by
    rcases Int.lt_trichotomy x.1 y.1 with z | z | z
    ·rw[h,a3e] at ex
     ·exact absurd ex.symm nx
     ·intro w hw
      rcases List.mem_cons.mp hw with e | e
      ·rw[e];exact Int.ne_of_gt z
      ·exact Int.ne_of_gt (Int.lt_trans z (q1 w e))
    ·exact z
    ·rw[← h,a3e] at ey
     ·exact absurd ey.symm ny
     ·intro w hw
      rcases List.mem_cons.mp hw with e | e
      ·rw[e];exact Int.ne_of_gt z
      ·exact Int.ne_of_gt (Int.lt_trans z (p1 w e))
   have e2:x.2=y.2:=by rw[← ex,← ey,e1,h]
   have exy:x=y:=Prod.ext e1 e2
   subst exy
   refine congrArg (x :: ·) (a2Z ⟨p2,fun z hz=>hp.2 z (.tail _ hz)⟩ ⟨q2,fun z hz=>hq.2 z (.tail _ hz)⟩ fun k=>?_)
   have:=h k
   have t:(if x.1=k then x.2 else 0)+co p k=(if x.1=k then x.2 else 0)+co q k:=this
   lia
noncomputable def putP (k c:Int):Po→Po
 | []=>if c=0 then [] else [(k,c)]
 | x :: r=>if k < x.1 then (if c=0 then x :: r else (k,c) :: x :: r) else if k=x.1 then (if x.2+c=0 then r else (k,x.2+c) :: r) else x :: putP k c r
noncomputable def norm:Po→Po
 | []=>[]
 | x :: r=>putP x.1 x.2 (norm r)
noncomputable def N1:Po→Nat
 | []=>0
 | x :: r=>x.2.natAbs+N1 r
theorem b3z (k c:Int):∀ (p:Po) (j:Int),co (putP k c p) j=(if k=j then c else 0)+co p j
 | [],j=>by
   show co (if c=0 then [] else [(k,c)]) j=(if k=j then c else 0)+0
   by_cases h:c=0
   ·rw[if_pos h,h]
    show 0=(if k=j then 0 else 0)+0
    split<;>rfl
   ·rw[if_neg h];rfl
 | x :: r,j=>by
   show co (if k < x.1 then (if c=0 then x :: r else (k,c) :: x :: r) else if k=x.1 then (if x.2+c=0 then r else (k,x.2+c) :: r) else x :: putP k c r) j=(if k=j then c else 0)+((if x.1=j then x.2 else 0)+co r j)
   by_cases h1:k < x.1
   ·rw[if_pos h1]
    by_cases h:c=0
    ·rw[if_pos h,h]
     show (if x.1=j then x.2 else 0)+co r j=_
     split<;>split<;>lia
    ·rw[if_neg h];rfl
   ·rw[if_neg h1]
    by_cases h2:k=x.1
    ·rw[if_pos h2]
     by_cases h:x.2+c=0
     ·rw[if_pos h]
      split<;>split<;>lia
     ·rw[if_neg h]
      show (if k=j then x.2+c else 0)+co r j=_
      split<;>split<;>lia
    ·rw[if_neg h2]
     show (if x.1=j then x.2 else 0)+co (putP k c r) j=_
     rw[b3z k c r j];lia
theorem b2p {k c m:Int} (hk:m < k):∀ {p:Po},(∀ x∈p,m < x.1)→∀ x∈putP k c p,m < x.1
 | [],_,x,hx=>by
   have hx:x∈(if c=0 then [] else [(k,c)]):=hx
   split at hx
   ·cases hx
   ·rw[List.mem_singleton.mp hx];exact hk
 | y :: r,h,x,hx=>by
   have hx:x∈(if k < y.1 then (if c=0 then y :: r else (k,c) :: y :: r) else if k=y.1 then (if y.2+c=0 then r else (k,y.2+c) :: r) else y :: putP k c r):=hx
   split at hx
   ·split at hx
    ·exact h x hx
    ·rcases List.mem_cons.mp hx with e | e
     ·rw[e];exact hk
     ·exact h x e
   ·split at hx
    ·split at hx
     ·exact h x (.tail _ hx)
     ·rcases List.mem_cons.mp hx with e | e
      ·rw[e];exact hk
      ·exact h x (.tail _ e)
    ·rcases List.mem_cons.mp hx with e | e
     ·rw[e];exact h y (.head _)
     ·exact b2p hk (fun z hz=>h z (.tail _ hz)) x e
theorem a8Y (k c:Int):∀ {p:Po},CanP p→CanP (putP k c p)
 | [],_=>by
   show CanP (if c=0 then [] else [(k,c)])
   split
   ·exact⟨.nil,fun _ h=>absurd h List.not_mem_nil⟩
   ·rename_i h
    exact⟨List.pairwise_singleton _ _,fun x hx=>by rw[List.mem_singleton.mp hx];exact h⟩
 | y :: r,h=>by
   obtain⟨h1,h2⟩:=List.pairwise_cons.mp h.1
   show CanP (if k < y.1 then (if c=0 then y :: r else (k,c) :: y :: r) else if k=y.1 then (if y.2+c=0 then r else (k,y.2+c) :: r) else y :: putP k c r)
   split
   ·rename_i a
    split
    ·exact h
    ·rename_i b
     refine⟨List.pairwise_cons.mpr ⟨fun z hz=>?_,h.1⟩,fun z hz=>?_⟩
     ·rcases List.mem_cons.mp hz with e | e
      ·rw[e];exact a
      ·exact Int.lt_trans a (h1 z e)
     ·rcases List.mem_cons.mp hz with e | e
      ·rw[e];exact b
      ·exact h.2 z e
   ·split
    ·rename_i a b
     split
     ·exact⟨h2,fun z hz=>h.2 z (.tail _ hz)⟩
     ·rename_i d
      refine⟨List.pairwise_cons.mpr ⟨fun z hz=>by rw[b];exact h1 z hz,h2⟩,fun z hz=>?_⟩
      rcases List.mem_cons.mp hz with e | e
      ·rw[e];exact d
      ·exact h.2 z (.tail _ e)
    ·rename_i a b
     have ih:=a8Y k c (p:=r) ⟨h2,fun z hz=>h.2 z (.tail _ hz)⟩
     refine⟨List.pairwise_cons.mpr ⟨fun z hz=>b2p (by lia) h1 z hz,ih.1⟩,fun z hz=>?_⟩
     rcases List.mem_cons.mp hz with e | e
     ·rw[e];exact h.2 y (.head _)
     ·exact ih.2 z e
theorem b3S (k c:Int):∀ p:Po,N1 (putP k c p)≤c.natAbs+N1 p
 | []=>by
   show N1 (if c=0 then [] else [(k,c)])≤c.natAbs+0
   split
   ·exact Nat.zero_le _
   ·exact Nat.le_refl _
 | x :: r=>by
   have ih:=b3S k c r
   show N1 (if k < x.1 then (if c=0 then x :: r else (k,c) :: x :: r) else if k=x.1 then (if x.2+c=0 then r else (k,x.2+c) :: r) else x :: putP k c r)≤c.natAbs+(x.2.natAbs+N1 r)
   split
   ·split
    ·show x.2.natAbs+N1 r≤_;lia
    ·exact Nat.le_refl _
   ·split
    ·split
     ·lia
     ·show (x.2+c).natAbs+N1 r≤_;lia
    ·show x.2.natAbs+N1 (putP k c r)≤_;lia
theorem a1h:∀ (p:Po) (k:Int),co (norm p) k=co p k
 | [],_=>rfl
 | x :: r,k=>by
   show co (putP x.1 x.2 (norm r)) k=(if x.1=k then x.2 else 0)+co r k
   rw[b3z,a1h r]
theorem a0K:∀ p:Po,CanP (norm p)
 | []=>⟨.nil,fun _ h=>absurd h List.not_mem_nil⟩
 | x :: r=>a8Y x.1 x.2 (a0K r)
theorem b0f:∀ p:Po,N1 (norm p)≤N1 p
 | []=>Nat.le_refl _
 | x :: r=>Nat.le_trans (b3S x.1 x.2 (norm r)) (Nat.add_le_add_left (b0f r) _)
theorem a9j (p q:Po):N1 (p++q)=N1 p+N1 q:=by
 induction p with
 | nil=>show N1 q=0+N1 q;lia
 | cons x r ih=>show x.2.natAbs+N1 (r++q)=x.2.natAbs+N1 r+N1 q;lia
theorem b0x {k c:Int}:∀ {p:Po},∀ x∈putP k c p,x.1=k∨∃ y∈p,y.1=x.1
 | [],x,hx=>by
   have hx:x∈(if c=0 then [] else [(k,c)]):=hx
   split at hx
   ·cases hx
   ·rw[List.mem_singleton.mp hx];exact .inl rfl
 | y :: r,x,hx=>by
   have hx:x∈(if k < y.1 then (if c=0 then y :: r else (k,c) :: y :: r) else if k=y.1 then (if y.2+c=0 then r else (k,y.2+c) :: r) else y :: putP k c r):=hx
   split at hx
   ·split at hx
    ·exact .inr ⟨x,hx,rfl⟩
    ·rcases List.mem_cons.mp hx with e | e
     ·rw[e];exact .inl rfl
     ·exact .inr ⟨x,e,rfl⟩
   ·split at hx
    ·split at hx
     ·exact .inr ⟨x,.tail _ hx,rfl⟩
     ·rcases List.mem_cons.mp hx with e | e
      ·rw[e];exact .inl rfl
      ·exact .inr ⟨x,.tail _ e,rfl⟩
    ·rcases List.mem_cons.mp hx with e | e
     ·rw[e];exact .inr ⟨y,.head _,rfl⟩
     ·rcases b0x x e with z | ⟨z,hz,ez⟩
      ·exact .inl z
      ·exact .inr ⟨z,.tail _ hz,ez⟩
theorem a7x:∀ {p:Po},∀ x∈norm p,∃ y∈p,y.1=x.1
 | [],x,hx=>by cases hx
 | y :: r,x,hx=>by
   rcases b0x (k:=y.1) (c:=y.2) (p:=norm r) x hx with z | ⟨z,hz,ez⟩
   ·exact⟨y,.head _,z.symm⟩
   ·obtain⟨u,hu,eu⟩:=a7x z hz
    exact⟨u,.tail _ hu,eu.trans ez⟩
noncomputable def addP (p q:Po):Po:=norm (p++q)
noncomputable def rawM (p q:Po):Po:=p.flatMap fun a=>q.map fun b=>(a.1+b.1,a.2*b.2)
noncomputable def a0X (p q:Po):Po:=norm (rawM p q)
theorem b7D (p q:Po):N1 (addP p q)≤N1 p+N1 q:=Nat.le_trans (b0f _) (Nat.le_of_eq (a9j p q))
theorem b5P (a:Int × Int):∀ q:Po,N1 (q.map fun b=>(a.1+b.1,a.2*b.2))=a.2.natAbs*N1 q
 | []=>rfl
 | b :: q=>by
   show (a.2*b.2).natAbs+N1 (q.map fun b=>(a.1+b.1,a.2*b.2))=a.2.natAbs*(b.2.natAbs+N1 q)
   rw[b5P a q,Int.natAbs_mul,Nat.mul_add]
theorem b5Q (q:Po):∀ p:Po,N1 (rawM p q)=N1 p*N1 q
 | []=>(Nat.zero_mul _).symm
 | a :: p=>by
   show N1 ((q.map fun b=>(a.1+b.1,a.2*b.2))++rawM p q)=(a.2.natAbs+N1 p)*N1 q
   rw[a9j,b5P,b5Q q p,Nat.add_mul]
theorem b7C (p q:Po):N1 (a0X p q)≤N1 p*N1 q:=Nat.le_trans (b0f _) (Nat.le_of_eq (b5Q q p))
theorem b9L {p:Po} {x:Int × Int} (h:x∈p):x.2.natAbs≤N1 p:=by
 induction p with
 | nil=>cases h
 | cons y r ih =>
   show _≤y.2.natAbs+N1 r
   rcases List.mem_cons.mp h with e | e
   ·rw[e];lia
   ·have:=ih e;lia
noncomputable def PwB (b:Nat) (p:Po):Prop:=∀ x∈p,x.1.natAbs≤b
theorem b7B {b:Nat} {p q:Po} (hp:PwB b p) (hq:PwB b q):PwB b (addP p q):=fun x hx=>by
 obtain⟨y,hy,e⟩:=a7x x hx
 rw[← e]
 rcases List.mem_append.mp hy with z | z
 ·exact hp y z
 ·exact hq y z
theorem b7A {a b:Nat} {p q:Po} (hp:PwB a p) (hq:PwB b q):PwB (a+b) (a0X p q):=fun x hx=>by
 obtain⟨y,hy,e⟩:=a7x x hx
 rw[← e]
 obtain⟨u,hu,hy⟩:=List.mem_flatMap.mp hy
 obtain⟨v,hv,rfl⟩:=List.mem_map.mp hy
 have h1:=hp u hu
 have h2:=hq v hv
 show (u.1+v.1).natAbs≤a+b
 lia
theorem PwB.mono {a b:Nat} {p:Po} (h:PwB a p) (hab:a≤b):PwB b p:=fun x hx=>Nat.le_trans (h x hx) hab
noncomputable def near (b:Nat):List Int:=(List.range (2*b+1)).map fun (i:Nat)=>((i:Int) - (b:Int))
theorem a7y (b:Nat):(near b).length=2*b+1:=by unfold near;rw[List.length_map,List.length_range]
theorem a7C {b:Nat} {x:Int} (h:x.natAbs≤b):x∈near b:=List.mem_map.mpr ⟨(x+(b:Int)).toNat,List.mem_range.mpr (by lia),by show (((x+(b:Int)).toNat:Nat):Int) - (b:Int)=x;lia⟩
noncomputable def prT (x:Int × Int):T:=.tup [.int x.1,.int x.2]
noncomputable def poT (p:Po):T:=.tup (p.map prT)
noncomputable def dkI (m:Po):List (Key × T):=m.map fun x=>(.inl x.1,.int x.2)
theorem b5f (m:Po):(dkI m).map b6L=m.map prT:=by unfold dkI;rw[List.map_map];rfl
theorem b0W (m:Po):(dkI m).map Prod.fst=(m.map Prod.fst).map Sum.inl:=by unfold dkI;rw[List.map_map,List.map_map];rfl
theorem b3r (m:Po):(dkI m).length=m.length:=by unfold dkI;rw[List.length_map]
noncomputable def setP (k v:Int):Po→Po
 | []=>[(k,v)]
 | x :: r=>if x.1=k then (k,v) :: r else x :: setP k v r
theorem a5y (k v:Int):∀ m:Po,(setP k v m).map Prod.fst=if k∈m.map Prod.fst then m.map Prod.fst else m.map Prod.fst++[k]
 | []=>rfl
 | x :: r=>by
   show ((if x.1=k then (k,v) :: r else x :: setP k v r).map Prod.fst)=_
   by_cases h:x.1=k
   ·rw[if_pos h,if_pos (by rw[List.map_cons,h];exact .head _),List.map_cons,List.map_cons,h]
   ·rw[if_neg h,List.map_cons,a5y k v r,List.map_cons]
    by_cases g:k∈r.map Prod.fst
    ·rw[if_pos g,if_pos (.tail _ g)]
    ·rw[if_neg g,if_neg (fun z=>(List.mem_cons.mp z).elim (fun e=>h e.symm) g)];rfl
theorem a6E {k v:Int} {m:Po} (h:(m.map Prod.fst).Nodup):((setP k v m).map Prod.fst).Nodup:=by
 rw[a5y]
 split
 ·exact h
 ·rename_i g
  rw[List.nodup_append]
  exact⟨h,List.pairwise_singleton _ _,fun a ha b hb=>by rw[List.mem_singleton.mp hb];exact fun z=>g (z▸ha)⟩
theorem a7m {k v:Int}:∀ {m:Po},(m.map Prod.fst).Nodup→putT (dkI m) (.inl k) (.int v)=dkI (setP k v m)
 | [],_=>rfl
 | x :: r,h=>by
   rw[List.map_cons,List.nodup_cons] at h
   have ih:=a7m (k:=k) (v:=v) h.2
   show putT ((.inl x.1,.int x.2) :: dkI r) (.inl k) (.int v)=dkI (if x.1=k then (k,v) :: r else x :: setP k v r)
   by_cases e:x.1=k
   ·rw[if_pos e]
    unfold putT
    rw[if_pos (by rw[List.any_cons,decide_eq_true (show (Sum.inl x.1:Key)=.inl k by rw[e])];rfl)]
    rw[List.map_cons,if_pos (show (Sum.inl x.1:Key)=.inl k by rw[e])]
    show _=(Sum.inl k,T.int v) :: dkI r
    rw[e]
    congr 1
    unfold dkI
    rw[List.map_map]
    refine List.map_congr_left fun y hy=>?_
    show (if (Sum.inl y.1:Key)=.inl k then ((Sum.inl y.1:Key),T.int v) else (Sum.inl y.1,T.int y.2))=_
    rw[if_neg (fun z=>h.1 (by rw[e,← Sum.inl.inj z];exact List.mem_map.mpr ⟨y,hy,rfl⟩))]
   ·have ne:¬(Sum.inl x.1:Key)=.inl k:=fun z=>e (Sum.inl.inj z)
    rw[if_neg e]
    show _=(Sum.inl x.1,T.int x.2) :: dkI (setP k v r)
    rw[← ih]
    unfold putT
    rw[List.any_cons,decide_eq_false ne,Bool.false_or]
    split
    ·rw[List.map_cons,if_neg ne]
    ·rfl
theorem a6Y (k:Int):∀ {m:Po},(m.map Prod.fst).Nodup→(valT (dkI m) (.inl k)).getD (.int 0)=.int (co m k)
 | [],_=>rfl
 | x :: r,h=>by
   rw[List.map_cons,List.nodup_cons] at h
   show (valT ((.inl x.1,.int x.2) :: dkI r) (.inl k)).getD (.int 0)=.int ((if x.1=k then x.2 else 0)+co r k)
   rw[a7Y]
   by_cases e:x.1=k
   ·rw[if_pos (show (Sum.inl x.1:Key)=.inl k by rw[e]),if_pos e,a3e (fun y hy z=>h.1 (by rw[e,← z];exact List.mem_map.mpr ⟨y,hy,rfl⟩)),Int.add_zero];rfl
   ·rw[if_neg (fun z=>e (Sum.inl.inj z)),if_neg e,Int.zero_add]
    exact a6Y k h.2
theorem a5g {k:Int}:∀ {m:Po},(m.map Prod.fst).Nodup→k∈m.map Prod.fst→valT (dkI m) (.inl k)=some (.int (co m k))
 | [],_,z=>by cases z
 | x :: r,h,z=>by
   rw[List.map_cons,List.nodup_cons] at h
   show valT ((.inl x.1,.int x.2) :: dkI r) (.inl k)=some (.int ((if x.1=k then x.2 else 0)+co r k))
   rw[a7Y]
   by_cases e:x.1=k
   ·rw[if_pos (show (Sum.inl x.1:Key)=.inl k by rw[e]),if_pos e,a3e (fun y hy z=>h.1 (by rw[e,← z];exact List.mem_map.mpr ⟨y,hy,rfl⟩)),Int.add_zero]
   ·rw[if_neg (fun z=>e (Sum.inl.inj z)),if_neg e,Int.zero_add]
    rw[List.map_cons] at z
    exact a5g h.2 ((List.mem_cons.mp z).resolve_left fun y=>e y.symm)
theorem a9Y (k v:Int):∀ {m:Po},(m.map Prod.fst).Nodup→∀ j,co (setP k v m) j=if j=k then v else co m j
 | [],_,j=>by
   show (if k=j then v else 0)+0=if j=k then v else 0
   by_cases e:j=k
   ·rw[if_pos e,if_pos e.symm];lia
   ·rw[if_neg e,if_neg (fun z=>e z.symm)];rfl
 | x :: r,h,j=>by
   rw[List.map_cons,List.nodup_cons] at h
   show co (if x.1=k then (k,v) :: r else x :: setP k v r) j=if j=k then v else (if x.1=j then x.2 else 0)+co r j
   by_cases e:x.1=k
   ·rw[if_pos e]
    show (if k=j then v else 0)+co r j=_
    by_cases f:j=k
    ·rw[if_pos f,if_pos f.symm,a3e (fun y hy z=>h.1 (by rw[e,← f,← z];exact List.mem_map.mpr ⟨y,hy,rfl⟩))];lia
    ·rw[if_neg f,if_neg (fun z=>f z.symm),if_neg (fun z=>f (z.symm.trans e))]
   ·rw[if_neg e]
    show (if x.1=j then x.2 else 0)+co (setP k v r) j=_
    rw[a9Y k v h.2 j]
    by_cases f:j=k
    ·rw[if_pos f,if_pos f,if_neg (fun z=>e (z.trans f))];lia
    ·rw[if_neg f,if_neg f]
theorem a9F {m:Po} {ms:List Int} (hm:(m.map Prod.fst).Nodup) (hp:ms.Perm (m.map Prod.fst)) (hs:ms.Pairwise (·≤·)):((ms.filter fun k=>decide (co m k≠0)).map fun k=>(k,co m k))=norm m:=by
 have hnd:ms.Nodup:=hp.nodup_iff.mpr hm
 have hst:ms.Pairwise (· < ·):=hs.imp₂ (fun a b h1 h2=>Int.lt_iff_le_and_ne.mpr ⟨h1,h2⟩) hnd
 have hc:CanP ((ms.filter fun k=>decide (co m k≠0)).map fun k=>(k,co m k)):=by
  refine⟨List.pairwise_map.mpr (hst.filter _),fun x hx=>?_⟩
  obtain⟨k,hk,rfl⟩:=List.mem_map.mp hx
  exact of_decide_eq_true (List.mem_filter.mp hk).2
 refine a2Z hc (a0K m) fun k=>?_
 rw[a1h]
 by_cases h:k∈ms∧co m k≠0
 ·exact a6d hc.1 (x:=(k,co m k)) (List.mem_map.mpr ⟨k,List.mem_filter.mpr ⟨h.1,decide_eq_true h.2⟩,rfl⟩)
 ·rw[a3e]
  ·by_cases g:k∈ms
   ·exact (Classical.not_not.mp fun z=>h ⟨g,z⟩).symm
   ·exact (a3e fun x hx z=>g (hp.mem_iff.mpr (List.mem_map.mpr ⟨x,hx,z⟩))).symm
  ·intro x hx z
   obtain⟨j,hj,rfl⟩:=List.mem_map.mp hx
   obtain rfl:j=k:=z
   exact h ⟨(List.mem_filter.mp hj).1,of_decide_eq_true (List.mem_filter.mp hj).2⟩
theorem a0S {K:PySem.W.Frag} {H:Hp}:Reps K H [] []:=by unfold Reps;rfl
theorem a0k {K:PySem.W.Frag} {H:Hp} {v:V} {t:T} {vs:List V} {ts:List T} (a:Rep K H v t) (b:Reps K H vs ts):Reps K H (v :: vs) (t :: ts):=by unfold Reps;exact⟨v,vs,rfl,a,b⟩
theorem a0T {K:PySem.W.Frag} {H:Hp} {u:Addr} {xs:List V} {its:Array Value} {n:Nat} {sl:Array (Option Value)} {ts:List T} (l:K.lookup u=some ⟨.type "tuple",none,.seq its n,sl⟩) (hz:its.size≤1000) (v:Vals xs its.toList) (r:Reps K H xs ts):Rep K H (.ref u) (.tup ts) :=
 a2j (.inr ⟨_,its,n,l,rfl,rfl,rfl,by rw[sizeLine_eq];lia,v⟩) r
section
variable {X:Cx}
theorem a2A {x:Str} {a:Addr} {t:T} {pos:Pos} (c:X.mg x=some (.ref a)∧∀ H,Rep X.K H (.ref a) t) (hg:Gl X x:=by rfl) (hd:(x == ("__debug__":Str))=false:=by decide):HE X (.Name x pos) (tK t):=fun ρ M Q q=>(b2w (v:=.ref a) hg c.1 rfl hd).imp fun σ H Q2 ⟨hr,hh,en⟩=>en t _ M H Kp.refl hh (c.2 H) q
theorem b2T {st:List Stmt}:HSs X st (fun _ _ _=>False):=fun D ρ M h=>h.elim
end
section
variable {X:Cx} {a b e:Expr} {pos:Pos}
noncomputable def b5r (t:TA3):TE3:=fun ρ M Q=>t ρ M fun xs M1=>match xs with
 | [.int i,.int j]=>(-(2 ^ 62)≤i∧i < 2 ^ 62∧-(2 ^ 62)≤j∧j < 2 ^ 62∧j - i < 2 ^ 24)∧∀ p,M1 p=none→Q (.adr p) (updM M1 p (.lst (a0J i (j - i).toNat)))
 | _=>False
theorem a8I {t:TA3} {p p' pos':Pos} (hm:X.mg "list"=none) (hm':X.mg "range"=none) (ha:HA X [a,b] t) (hc:X.calm=true:=by rfl) (hg:Gl X "list":=by rfl) (hg':Gl X "range":=by rfl) (hs:starEach [a,b] X.env=[(false,eval a X.env),(false,eval b X.env)]:=by rfl) (hs2:starEach [b] X.env=[(false,eval b X.env)]:=by rfl)
  (he:starEach [.Call (.Name "range" p') [a,b] [] pos'] X.env=(false,eval (.Call (.Name "range" p') [a,b] [] pos') X.env) :: starEach [] X.env:=by rfl) :
  HE X (.Call (.Name "list" p) [.Call (.Name "range" p') [a,b] [] pos'] [] pos) (b5r t):=by
 intro ρ M Q h pins s σ H Q2 I bb
 obtain⟨hr,hh,en⟩:=bb
 refine wpAny_Call_Name_kw (a3y I hg hm boot_list ?_ (by decide) (by decide))
 refine PyProof.Rows.callWith_type1 ?_ he rfl
 rw[he]
 refine Calls.spliced_cons ?_
 refine Call_ (a3y I hg' hm' boot_range (PyProof.Rows.callWith_type1 (thn (ha ρ M _ h pos' pins s σ H (fun vs H1=>∃ i j M1,vs=[V.int i,V.int j]∧HR X.K H1 M1∧Kp X.K H H1∧(-(2 ^ 62)≤i∧i < 2 ^ 62∧-(2 ^ 62)≤j∧j < 2 ^ 62∧j - i < 2 ^ 24)∧∀ p,M1 p=none→Q (.adr p) (updM M1 p (.lst (a0J i (j - i).toNat)))) I
  ⟨hr,hh,fun ts vs M1 H1 k1 h1 r1 q1=>by
   dsimp only at q1
   split at q1
   ·rename_i i j
    obtain⟨v,w',rfl,rv,rw'⟩:=b2l r1
    obtain rfl:=a0u rv
    obtain rfl:=a0u rw'
    exact⟨i,j,M1,rfl,h1,k1,q1.1,q1.2⟩
   ·exact q1.elim⟩) fun us s1 ⟨vs,H1,I1,rv,i,j,M1,e1,h1,k1,hj,q1⟩=>?_) (by rw[hs,hs2]) (by rw[hs2];rfl)))
 subst e1
 obtain⟨u,u2,rfl,⟨t0,rfl⟩,t',rfl⟩:=rv.two
 refine call_range_2 (Calls.spliced_nil ?_)
 have I2:Inv X pins σ H1 { s1 with heap:=s1.heap.push { cls:=.type "range",data:=.fields #[.int i t0,.int j t',.int 1 s1.toks] },toks:=s1.toks+1 }:=I1.kept fun b o e=>Heap.get?_push_of_some _ e
 have hn:Builtin.Range.rangeSize i j 1=(((j - i).toNat:Nat):Int):=by rw[rangeSize_one];split<;>lia
 refine call_list_range (I1.ok.hd hc) (IsRange.new ..) (small_one (by lia) (by lia) (by lia) (by lia)) hn (by lia) fun h' tk acc' c' kp e ito=>?_
 have hz:(j - i).toNat≤sizeLine:=by rw[sizeLine_eq];lia
 have vr:Vals (a2t i (j - i).toNat) acc'.toList:=by
  refine a4j (by unfold a2t;simp [ito.1]) fun k x ex=>?_
  have hi:k < (j - i).toNat:=by have:=(List.getElem?_eq_some_iff.mp ex).1;simpa [a2t] using this
  have hi':k < acc'.size:=by rw[ito.1];exact hi
  have ea:acc'[k]?=some acc'[k]:=Array.getElem?_eq_getElem hi'
  obtain⟨tt,et⟩:=ito.2 k _ ea
  refine⟨acc'[k],by rw[Array.getElem?_toList];exact ea,?_⟩
  unfold a2t at ex
  rw[List.getElem?_map,List.getElem?_range hi] at ex
  have:=Option.some.inj ex
  subst this
  exact⟨tt,by rw[et,Int.mul_one]⟩
 have I3:=I2.laid (a:={ s1 with heap:=s1.heap.push { cls:=.type "range",data:=.fields #[.int i t0,.int j t',.int 1 s1.toks] },toks:=s1.toks+1 }.heap.objs.size) (o:=.lst (a2t i (j - i).toNat)) (t':=tk) kp (Nat.le_refl _)
  (show a1N X.prog X.w _ h' _ (.lst (a2t i (j - i).toNat)) from ⟨by unfold a2t;simpa using hz,acc'.toList,c',vr,by simpa using e⟩)
 have hf:=I2.hok.fresh (Nat.le_refl _)
 exact⟨.ref _,_,I3,rfl,en _ _ _ _ (k1.trans (Kp.new hf)) (h1.newL hf (a5D i (j - i).toNat)) a3b (q1 _ (h1.free hf))⟩
end
section
variable {X:Cx} {Ha:Hp} {e:Expr} {te:TE3} {pos:Pos}
end
section
variable {X:Cx}
end
section
variable {X:Cx}
end
noncomputable def b1w (p q:Po) (c:Int):Po:=norm (p++q.map fun x=>(x.1,c*x.2))
theorem b1c (c:Int) (k:Int):∀ q:Po,co (q.map fun x=>(x.1,c*x.2)) k=c*co q k
 | []=>by show (0:Int)=c*0;rw[Int.mul_zero]
 | x :: q=>by
   show (if x.1=k then c*x.2 else 0)+co (q.map fun x=>(x.1,c*x.2)) k=c*((if x.1=k then x.2 else 0)+co q k)
   rw[b1c c k q,Int.mul_add]
   split
   ·rfl
   ·rw[Int.mul_zero]
theorem b1d (p q:Po) (c k:Int):co (b1w p q c) k=co p k+c*co q k:=by
 unfold b1w
 rw[a1h,a1E,b1c]
theorem b0a (a b k:Int):∀ p:Po,co (rawM p [(a,b)]) k=co p (k - a)*b
 | []=>by show (0:Int)=0*b;rw[Int.zero_mul]
 | x :: p=>by
   show (if x.1+a=k then x.2*b else 0)+co (rawM p [(a,b)]) k=((if x.1=k - a then x.2 else 0)+co p (k - a))*b
   rw[b0a a b k p,Int.add_mul]
   by_cases h:x.1+a=k
   ·rw[if_pos h,if_pos (by lia)]
   ·rw[if_neg h,if_neg (by lia),Int.zero_mul]
theorem a9Z (a b c d k:Int):∀ p:Po,co (rawM p [(a,b),(c,d)]) k=co p (k - a)*b+co p (k - c)*d
 | []=>by show (0:Int)=0*b+0*d;rw[Int.zero_mul,Int.zero_mul];rfl
 | x :: p=>by
   show (if x.1+a=k then x.2*b else 0)+((if x.1+c=k then x.2*d else 0)+co (rawM p [(a,b),(c,d)]) k)=((if x.1=k - a then x.2 else 0)+co p (k - a))*b+((if x.1=k - c then x.2 else 0)+co p (k - c))*d
   rw[a9Z a b c d k p,Int.add_mul,Int.add_mul]
   by_cases h:x.1+a=k<;>by_cases g:x.1+c=k
   ·rw[if_pos h,if_pos g,if_pos (by lia),if_pos (by lia)];lia
   ·rw[if_pos h,if_neg g,if_pos (by lia),if_neg (by lia),Int.zero_mul];lia
   ·rw[if_neg h,if_pos g,if_neg (by lia),if_pos (by lia),Int.zero_mul];lia
   ·rw[if_neg h,if_neg g,if_neg (by lia),if_neg (by lia),Int.zero_mul,Int.zero_mul];lia
section
variable {X:Cx}
end
section
variable {X:Cx}
end
noncomputable abbrev Rw:=Nat→Int→Int
noncomputable def wlR (R:Rw) (k:Nat) (up:Bool):Rw:=fun j c=>if j=k then (if up then R k c - R k (c - 1)+R (k+1) c else R (k+1) (c+1)) else if j=k+1 then (if up then R k (c - 1) else R k c+R (k+1) c - R (k+1) (c+1)) else R j c
noncomputable def wdR (R:Rw):List Int→Rw
 | []=>R
 | l :: w=>wdR (wlR R (l.natAbs - 1) (decide (0 < l))) w
noncomputable def rowF (ps:List Po):Rw:=fun j c=>co (ps.getD j []) c
theorem getD_set {α:Type} {ps:List α} {k j:Nat} {u z:α} (hk:k < ps.length):(ps.set k u).getD j z=if j=k then u else ps.getD j z:=by
 rw[List.getD_eq_getElem?_getD,List.getD_eq_getElem?_getD]
 by_cases c:j=k
 ·subst c
  rw[if_pos rfl,List.getElem?_set_self hk];rfl
 ·rw[if_neg c,List.getElem?_set_ne (fun z=>c z.symm)]
noncomputable def oneP (r c:Int):Po:=if r=c then [(0,1)] else []
noncomputable def upP:Po:=[(1,1)]
noncomputable def a9R:Po:=[(-1,1)]
noncomputable def lupP:Po:=[(0,1),(1,-1)]
noncomputable def a5Q:Po:=[(-1,-1),(0,1)]
noncomputable def GdP (b B:Nat) (p:Po):Prop:=CanP p∧PwB b p∧N1 p≤B
theorem CanP.len {p:Po} (h:CanP p) {b:Nat} (hb:PwB b p):p.length≤2*b+1:=by
 have h1:(p.map Prod.fst).Nodup:=List.pairwise_map.mpr (h.1.imp fun h z=>Int.ne_of_lt h z)
 have h2:(p.map Prod.fst).length≤(near b).length:=List.Nodup.length_le_of_subset h1 fun k hk=>by
  obtain⟨x,hx,rfl⟩:=List.mem_map.mp hk
  exact a7C (hb x hx)
 rwa [List.length_map,a7y] at h2
noncomputable def wl1 (l:Int) (a b:Po):Po:=if 0 < l then addP (a0X a lupP) b else a0X b a9R
noncomputable def wl2 (l:Int) (a b:Po):Po:=if 0 < l then a0X a upP else addP a (a0X b a5Q)
noncomputable def wlP (ps:List Po) (l:Int):List Po:=ps.take (l.natAbs - 1)++([wl1 l (ps.getD (l.natAbs - 1) []) (ps.getD l.natAbs []),wl2 l (ps.getD (l.natAbs - 1) []) (ps.getD l.natAbs [])]++ps.drop (l.natAbs+1))
theorem GdP.add {b B C:Nat} {p q:Po} (hp:GdP b B p) (hq:GdP b C q):GdP b (B+C) (addP p q):=⟨a0K _,b7B hp.2.1 hq.2.1,Nat.le_trans (b7D p q) (Nat.add_le_add hp.2.2 hq.2.2)⟩
theorem GdP.mul {a b B C:Nat} {p q:Po} (hp:GdP a B p) (hq:GdP b C q):GdP (a+b) (B*C) (a0X p q):=⟨a0K _,b7A hp.2.1 hq.2.1,Nat.le_trans (b7C p q) (Nat.mul_le_mul hp.2.2 hq.2.2)⟩
theorem GdP.mono {a b B C:Nat} {p:Po} (hp:GdP a B p) (h1:a≤b) (h2:B≤C):GdP b C p:=⟨hp.1,hp.2.1.mono h1,Nat.le_trans hp.2.2 h2⟩
theorem b2W:GdP 1 1 upP:=⟨⟨by decide,by decide⟩,by unfold PwB;decide,by decide⟩
theorem a8L:GdP 1 1 a9R:=⟨⟨by decide,by decide⟩,by unfold PwB;decide,by decide⟩
theorem a7K:GdP 1 2 lupP:=⟨⟨by decide,by decide⟩,by unfold PwB;decide,by decide⟩
theorem a4Y:GdP 1 2 a5Q:=⟨⟨by decide,by decide⟩,by unfold PwB;decide,by decide⟩
theorem b4a {a b:Nat} {p q:Po} (hp:PwB a p) (hq:PwB b q):∀ x∈p,∀ y∈q,x.1+y.1∈near (a+b):=fun x hx y hy=>a7C (by
 have h1:=hp x hx
 have h2:=hq y hy
 lia)
theorem b0v {a:Nat} {p:Po} (hp:PwB a p):∀ x∈p,x.1∈near a:=fun x hx=>a7C (hp x hx)
theorem b6V {p:Po} {b B:Nat} (h:GdP b B p) (hB:B < 2 ^ 64):∀ x∈p,x.2.natAbs < 2 ^ 64:=fun x hx=>Nat.lt_of_le_of_lt (Nat.le_trans (b9L hx) h.2.2) hB
theorem b4S {b B:Nat} {l:Int} {p q:Po} (hp:GdP b B p) (hq:GdP b B q):GdP (b+1) (3*B) (wl1 l p q):=by
 unfold wl1
 split
 ·exact ((hp.mul a7K).add (hq.mono (by lia) (Nat.le_refl _))).mono (Nat.le_refl _) (by lia)
 ·exact (hq.mul a8L).mono (Nat.le_refl _) (by lia)
theorem b4R {b B:Nat} {l:Int} {p q:Po} (hp:GdP b B p) (hq:GdP b B q):GdP (b+1) (3*B) (wl2 l p q):=by
 unfold wl2
 split
 ·exact (hp.mul b2W).mono (Nat.le_refl _) (by lia)
 ·exact ((hp.mono (b:=b+1) (by lia) (Nat.le_refl _)).add (hq.mul a4Y)).mono (Nat.le_refl _) (by lia)
theorem a6V {ps:List Po} {l:Int} (h1:1≤l.natAbs) (h2:l.natAbs < ps.length):(wlP ps l).length=ps.length:=by
 unfold wlP
 rw[List.length_append,List.length_append,List.length_take,List.length_drop]
 simp only[List.length_cons,List.length_nil]
 lia
theorem a4E {b B:Nat} {ps:List Po} (h:∀ p∈ps,GdP b B p) {i:Nat} (hi:i < ps.length):GdP b B (ps.getD i []):=h _ (by rw[List.getD_eq_getElem?_getD,List.getElem?_eq_getElem hi];exact List.getElem_mem _)
theorem b3U {b B:Nat} {ps:List Po} {l:Int} (h:∀ p∈ps,GdP b B p) (h1:1≤l.natAbs) (h2:l.natAbs < ps.length):∀ p∈wlP ps l,GdP (b+1) (3*B) p:=fun p hp=>by
 unfold wlP at hp
 have g0:=a4E h (i:=l.natAbs - 1) (by lia)
 have g1:=a4E h (i:=l.natAbs) h2
 rcases List.mem_append.mp hp with z | z
 ·exact (h p (List.mem_of_mem_take z)).mono (by lia) (by lia)
 rcases List.mem_append.mp z with z | z
 ·rcases List.mem_cons.mp z with e | z
  ·rw[e];exact b4S g0 g1
  ·rw[List.mem_singleton.mp z];exact b4R g0 g1
 ·exact (h p (List.mem_of_mem_drop z)).mono (by lia) (by lia)
noncomputable def idP (n:Int):List (List Po):=(a0l n).map fun r=>(a0l n).map fun c=>oneP r c
noncomputable def tabP (n:Int) (ws:List Int):List (List Po):=ws.foldl (fun rs l=>rs.map fun ps=>wlP ps l) (idP n)
noncomputable def a9k (n:Nat) (b B:Nat) (rs:List (List Po)):Prop:=rs.length=n∧∀ ps∈rs,ps.length=n∧∀ p∈ps,GdP b B p
theorem a7J (r c:Int):GdP 0 1 (oneP r c):=by
 unfold oneP
 split
 ·exact⟨⟨by decide,by decide⟩,by unfold PwB;decide,by decide⟩
 ·exact⟨⟨by decide,by decide⟩,by unfold PwB;decide,by decide⟩
theorem a3r (n:Int):a9k n.toNat 0 1 (idP n):=by
 unfold idP
 refine⟨by rw[List.length_map,a0s],fun ps hps=>?_⟩
 obtain⟨r,_,rfl⟩:=List.mem_map.mp hps
 refine⟨by rw[List.length_map,a0s],fun p hp=>?_⟩
 obtain⟨c,_,rfl⟩:=List.mem_map.mp hp
 exact a7J r c
theorem b2X {n b B:Nat} {rs:List (List Po)} (h:a9k n b B rs) {l:Int} (h1:1≤l.natAbs) (h2:l.natAbs < n):a9k n (b+1) (3*B) (rs.map fun ps=>wlP ps l):=by
 refine⟨by rw[List.length_map];exact h.1,fun ps hps=>?_⟩
 obtain⟨qs,hq,rfl⟩:=List.mem_map.mp hps
 obtain⟨g1,g2⟩:=h.2 qs hq
 exact⟨by rw[a6V h1 (by rw[g1];exact h2)];exact g1,b3U g2 h1 (by rw[g1];exact h2)⟩
theorem a8K {n:Nat}:∀ (ws:List Int) {b B:Nat} {rs:List (List Po)},a9k n b B rs→(∀ l∈ws,1≤l.natAbs∧l.natAbs < n)→a9k n (b+ws.length) (3 ^ ws.length*B) (ws.foldl (fun rs l=>rs.map fun ps=>wlP ps l) rs)
 | [],b,B,rs,h,_=>by
   show a9k n (b+0) (3 ^ 0*B) rs
   rw[Nat.pow_zero,Nat.one_mul];exact h
 | l :: w,b,B,rs,h,hw=>by
   have h2:=a8K w (b2X h (hw l (.head _)).1 (hw l (.head _)).2) (fun x hx=>hw x (.tail _ hx))
   have e:3 ^ w.length*(3*B)=3 ^ (w.length+1)*B:=by rw[Nat.pow_succ,Nat.mul_assoc]
   rw[e,Nat.add_assoc,Nat.add_comm 1] at h2
   exact h2
theorem a1y {n:Int} {ws:List Int} (hw:a0f n ws):a9k n.toNat ws.length (3 ^ ws.length) (tabP n ws):=by
 have h:=a8K ws (a3r n) (fun l hl=>by obtain⟨a,b⟩:=hw l hl;exact⟨by lia,by lia⟩)
 rwa [Nat.zero_add,Nat.mul_one] at h
theorem a8c (n:Int) (ws:List Int) (l:Int):tabP n (ws++[l])=(tabP n ws).map fun ps=>wlP ps l:=by unfold tabP;rw[List.foldl_append];rfl
noncomputable def a2x (M:MH) (as:List Addr) (rs:List (List Po)):Prop:=as.length=rs.length∧∀ (i:Nat) (a:Addr) (ps:List Po),as[i]?=some a→rs[i]?=some ps→M a=some (.lst (ps.map poT))
theorem a2x.sub {M M':MH} {as:List Addr} {rs:List (List Po)} (h:a2x M as rs) (s:Sub M M'):a2x M' as rs:=⟨h.1,fun i a l h1 h2=>s _ _ (h.2 i a l h1 h2)⟩
theorem a2x.nil {M:MH}:a2x M [] []:=⟨rfl,fun i a l z=>by simp at z⟩
theorem a2x.snoc {M:MH} {as:List Addr} {rs:List (List Po)} {a:Addr} {ps:List Po} (h:a2x M as rs) (ha:M a=some (.lst (ps.map poT))):a2x M (as++[a]) (rs++[ps]):=by
 refine⟨by rw[List.length_append,List.length_append,h.1];rfl,fun i b k h1 h2=>?_⟩
 by_cases z:i < as.length
 ·rw[List.getElem?_append_left z] at h1
  rw[List.getElem?_append_left (by rw[← h.1];exact z)] at h2
  exact h.2 i b k h1 h2
 ·rw[List.getElem?_append_right (by lia)] at h1
  rw[List.getElem?_append_right (by rw[← h.1];lia),← h.1] at h2
  obtain⟨l1,e1⟩:=List.getElem?_eq_some_iff.mp h1
  have e:i - as.length=0:=by rw[List.length_singleton] at l1;lia
  rw[e] at h1 h2
  obtain rfl:=Option.some.inj h1
  obtain rfl:=Option.some.inj h2
  exact ha
noncomputable def FrP (M:MH) (as:List Addr):Prop:=∀ a∈as,M a=none
theorem FrP.snoc {M:MH} {as:List Addr} {a:Addr} (h:FrP M as) (ha:M a=none):FrP M (as++[a]):=fun b hb=>by
 rcases List.mem_append.mp hb with z | z
 ·exact h b z
 ·rw[List.mem_singleton.mp z];exact ha
theorem a9w {α:Type} (u x:α) (r:List α):∀ A:List α,(A++x :: r).set A.length u=A++u :: r
 | []=>rfl
 | a :: A=>by
   show a :: ((A++x :: r).set A.length u)=a :: (A++u :: r)
   rw[a9w u x r A]
theorem b1Q {ps:List Po} {k:Nat} {l:Int} (hk:l.natAbs=k+1) (h2:k+1 < ps.length):wlP ps l=(ps.set k (wl1 l (ps.getD k []) (ps.getD (k+1) []))).set (k+1) (wl2 l (ps.getD k []) (ps.getD (k+1) [])):=by
 unfold wlP
 rw[hk,Nat.add_sub_cancel]
 generalize wl1 l (ps.getD k []) (ps.getD (k+1) [])=u
 generalize wl2 l (ps.getD k []) (ps.getD (k+1) [])=v
 have e1:ps.drop k=ps[k] :: ps.drop (k+1):=List.drop_eq_getElem_cons (by lia)
 have e2:ps.drop (k+1)=ps[k+1] :: ps.drop (k+2):=List.drop_eq_getElem_cons (by lia)
 have e:ps=ps.take k++ps[k] :: ps[k+1] :: ps.drop (k+2):=by rw[← e2,← e1,List.take_append_drop]
 have hA:(ps.take k).length=k:=by rw[List.length_take];lia
 generalize ps.take k=A at e hA⊢
 generalize ps.drop (k+2)=B at e⊢
 generalize ps[k]=x at e
 generalize ps[k+1]=y at e
 subst hA
 rw[e,a9w u x (y :: B) A]
 have e3:A++u :: y :: B=(A++[u])++y :: B:=by rw[List.append_assoc];rfl
 have e4:=a9w v y B (A++[u])
 rw[List.length_append,List.length_singleton] at e4
 rw[e3,e4,List.append_assoc];rfl
theorem a2x.nd {M:MH} {as:List Addr} {rs:List (List Po)} {a:Addr} (h:a2x M as rs) (hN:as.Nodup) (ha:M a=none):(as++[a]).Nodup:=List.nodup_append.mpr ⟨hN,List.pairwise_singleton _ _,fun b hb c hc z=>by
 rw[List.mem_singleton.mp hc] at z
 obtain⟨q,hq⟩:=List.getElem?_of_mem hb
 obtain⟨l,el⟩:∃ l,rs[q]?=some l:=⟨_,List.getElem?_eq_getElem (by rw[← h.1];exact (List.getElem?_eq_some_iff.mp hq).1)⟩
 rw[← z,h.2 q b l hq el] at ha;cases ha⟩
theorem b6f {ps:List Po} {l:Int} (h1:1≤l.natAbs) (h2:l.natAbs < ps.length):rowF (wlP ps l)=wlR (rowF ps) (l.natAbs - 1) (decide (0 < l)):=by
 obtain⟨k,hk⟩:∃ k:Nat,l.natAbs=k+1:=⟨l.natAbs - 1,by lia⟩
 rw[b1Q hk (by lia)]
 funext j c
 have hk1:l.natAbs - 1=k:=by lia
 rw[hk1]
 unfold rowF wlR
 rw[getD_set (by rw[List.length_set];lia),getD_set (by lia)]
 have n2:¬k+1=k:=by lia
 by_cases a:j=k
 ·have b:¬j=k+1:=by lia
  subst a
  simp only[b,if_true,if_false]
  unfold wl1
  by_cases u:0 < l
  ·rw[if_pos u,decide_eq_true u,if_pos rfl]
   unfold addP a0X lupP
   rw[a1h,a1E,a1h,a9Z,Int.sub_zero];lia
  ·rw[if_neg u,decide_eq_false u,if_neg (by decide)]
   unfold a0X a9R
   rw[a1h,b0a,show c - -1=c+1 by lia];lia
 ·by_cases b:j=k+1
  ·subst b
   simp only[n2,if_true,if_false]
   unfold wl2
   by_cases u:0 < l
   ·rw[if_pos u,decide_eq_true u,if_pos rfl]
    unfold a0X upP
    rw[a1h,b0a];lia
   ·rw[if_neg u,decide_eq_false u,if_neg (by decide)]
    unfold addP a0X a5Q
    rw[a1h,a1E,a1h,a9Z,Int.sub_zero,show c - -1=c+1 by lia];lia
  ·rw[if_neg b,if_neg a,if_neg a,if_neg b]
noncomputable def wdP (ps:List Po) (ws:List Int):List Po:=ws.foldl wlP ps
theorem a9n {n:Nat}:∀ (ws:List Int) (ps:List Po),ps.length=n→(∀ l∈ws,1≤l.natAbs∧l.natAbs < n)→(wdP ps ws).length=n
 | [],ps,h,_=>h
 | l :: w,ps,h,hw=>by
   obtain⟨a,b⟩:=hw l (.head _)
   exact a9n w (wlP ps l) (by rw[a6V a (by lia)];exact h) fun x hx=>hw x (.tail _ hx)
theorem a7i {n:Nat}:∀ (ws:List Int) (ps:List Po),ps.length=n→(∀ l∈ws,1≤l.natAbs∧l.natAbs < n)→rowF (wdP ps ws)=wdR (rowF ps) ws
 | [],ps,_,_=>rfl
 | l :: w,ps,h,hw=>by
   obtain⟨a,b⟩:=hw l (.head _)
   show rowF (wdP (wlP ps l) w)=wdR (wlR (rowF ps) (l.natAbs - 1) (decide (0 < l))) w
   rw[← b6f a (by lia)]
   exact a7i w (wlP ps l) (by rw[a6V a (by lia)];exact h) fun x hx=>hw x (.tail _ hx)
theorem a3B (n:Int) (ws:List Int):tabP n ws=(idP n).map fun ps=>wdP ps ws:=by
 have key:∀ (ws:List Int) (rs:List (List Po)),ws.foldl (fun rs l=>rs.map fun ps=>wlP ps l) rs=rs.map fun ps=>wdP ps ws:=fun ws=>by
  induction ws with
  | nil=>intro rs;exact (List.map_id rs).symm
  | cons l w ih =>
    intro rs
    rw[List.foldl_cons,ih,List.map_map];rfl
 exact key ws (idP n)
theorem b4g:∀ {p q:List Po},p.length=q.length→(∀ x∈p,CanP x)→(∀ x∈q,CanP x)→rowF p=rowF q→p=q:=fun {p q} hl hp hq h=>by
 refine List.ext_getElem hl fun i h1 h2=>?_
 refine a2Z (hp _ (List.getElem_mem _)) (hq _ (List.getElem_mem _)) fun c=>?_
 have e:=congrFun (congrFun h i) c
 unfold rowF at e
 rw[List.getD_eq_getElem?_getD,List.getD_eq_getElem?_getD,List.getElem?_eq_getElem h1,List.getElem?_eq_getElem h2] at e
 exact e
theorem a3k {n:Int} {ws:List Int} (h:a0f n ws):∀ l∈ws,1≤l.natAbs∧l.natAbs < n.toNat:=fun l hl=>by
 obtain⟨a,b⟩:=h l hl
 exact⟨by lia,by lia⟩
noncomputable def SuN:Nat→(Nat→Int)→Int
 | 0,_=>0
 | m+1,g=>SuN m g+g m
theorem a3O {m:Nat} {f g:Nat→Int} (h:∀ i,i < m→f i=g i):SuN m f=SuN m g:=by
 induction m with
 | zero=>rfl
 | succ m ih =>
   show SuN m f+f m=SuN m g+g m
   rw[ih fun i hi=>h i (by lia),h m (by lia)]
theorem b7w {m k:Nat} {f g:Nat→Int} (hk:k+1 < m) (h:∀ i,i≠k→i≠k+1→f i=g i) (h2:f k+f (k+1)=g k+g (k+1)):SuN m f=SuN m g:=by
 induction m with
 | zero=>lia
 | succ m ih =>
   show SuN m f+f m=SuN m g+g m
   by_cases c:k+1 < m
   ·rw[ih c,h m (by lia) (by lia)]
   ·obtain rfl:m=k+1:=by lia
    show (SuN k f+f k)+f (k+1)=(SuN k g+g k)+g (k+1)
    rw[a3O (fun i hi=>h i (by lia) (by lia))];lia
theorem b5n {m:Nat}:∀ (ws:List Int) (R:Rw) (c:Int),(∀ l∈ws,1≤l.natAbs∧l.natAbs < m)→SuN m (fun j=>wdR R ws j c)=SuN m fun j=>R j c
 | [],R,c,_=>rfl
 | l :: w,R,c,hw=>by
   obtain⟨a,b⟩:=hw l (.head _)
   show SuN m (fun j=>wdR (wlR R (l.natAbs - 1) (decide (0 < l))) w j c)=_
   rw[b5n w _ c fun x hx=>hw x (.tail _ hx)]
   refine b7w (k:=l.natAbs - 1) (by lia) (fun i h1 h2=>by unfold wlR;rw[if_neg h1,if_neg h2]) ?_
   have n1:¬l.natAbs - 1+1=l.natAbs - 1:=by lia
   cases decide (0 < l)<;>(simp only[wlR,if_true,if_false,Bool.false_eq_true,n1];lia)
noncomputable def cv:Po→(Int→Int)→Int→Int
 | [],_,_=>0
 | x :: a,f,c=>x.2*f (c - x.1)+cv a f c
theorem b1b (x:Int × Int) (c:Int):∀ b:Po,co (b.map fun y=>(x.1+y.1,x.2*y.2)) c=x.2*co b (c - x.1)
 | []=>by show (0:Int)=x.2*0;rw[Int.mul_zero]
 | y :: b=>by
   show (if x.1+y.1=c then x.2*y.2 else 0)+co (b.map fun y=>(x.1+y.1,x.2*y.2)) c=x.2*((if y.1=c - x.1 then y.2 else 0)+co b (c - x.1))
   rw[b1b x c b,Int.mul_add]
   by_cases h:x.1+y.1=c
   ·rw[if_pos h,if_pos (by lia)]
   ·rw[if_neg h,if_neg (by lia),Int.mul_zero]
theorem a6P (b:Po) (c:Int):∀ a:Po,co (rawM a b) c=cv a (co b) c
 | []=>rfl
 | x :: a=>by
   show co ((b.map fun y=>(x.1+y.1,x.2*y.2))++rawM a b) c=x.2*co b (c - x.1)+cv a (co b) c
   rw[a1E,b1b,a6P b c a]
theorem b9y (f g:Int→Int) (c:Int):∀ a:Po,cv a (fun c=>f c - f (c - 1)+g c) c=cv a f c - cv a f (c - 1)+cv a g c
 | []=>rfl
 | x :: a=>by
   show x.2*(f (c - x.1) - f (c - x.1 - 1)+g (c - x.1))+cv a (fun c=>f c - f (c - 1)+g c) c=(x.2*f (c - x.1)+cv a f c) - (x.2*f (c - 1 - x.1)+cv a f (c - 1))+(x.2*g (c - x.1)+cv a g c)
   rw[b9y f g c a,Int.mul_add,Int.mul_sub,show c - x.1 - 1=c - 1 - x.1 by lia];lia
theorem b9z (f g:Int→Int) (c:Int):∀ a:Po,cv a (fun c=>f c+g c - g (c+1)) c=cv a f c+cv a g c - cv a g (c+1)
 | []=>rfl
 | x :: a=>by
   show x.2*(f (c - x.1)+g (c - x.1) - g (c - x.1+1))+cv a (fun c=>f c+g c - g (c+1)) c=(x.2*f (c - x.1)+cv a f c)+(x.2*g (c - x.1)+cv a g c) - (x.2*g (c+1 - x.1)+cv a g (c+1))
   rw[b9z f g c a,Int.mul_sub,Int.mul_add,show c - x.1+1=c+1 - x.1 by lia];lia
theorem b7q (f:Int→Int) (s c:Int):∀ a:Po,cv a (fun c=>f (c+s)) c=cv a f (c+s)
 | []=>rfl
 | x :: a=>by
   show x.2*f (c - x.1+s)+cv a (fun c=>f (c+s)) c=x.2*f (c+s - x.1)+cv a f (c+s)
   rw[b7q f s c a,show c - x.1+s=c+s - x.1 by lia]
theorem b5l (m:Nat) (f g h:Nat→Int):SuN m (fun i=>f i - g i+h i)=SuN m f - SuN m g+SuN m h:=by
 induction m with
 | zero=>rfl
 | succ m ih=>show SuN m (fun i=>f i - g i+h i)+(f m - g m+h m)=(SuN m f+f m) - (SuN m g+g m)+(SuN m h+h m);rw[ih];lia
theorem b3O (m:Nat) (f g h:Nat→Int):SuN m (fun i=>f i+g i - h i)=SuN m f+SuN m g - SuN m h:=by
 induction m with
 | zero=>rfl
 | succ m ih=>show SuN m (fun i=>f i+g i - h i)+(f m+g m - h m)=(SuN m f+f m)+(SuN m g+g m) - (SuN m h+h m);rw[ih];lia
noncomputable def mrow (r:List Po) (T:Nat→Rw) (m:Nat):Rw:=fun j c=>SuN m fun i=>cv (r.getD i []) (T i j) c
theorem b6W (r:List Po) (T:Nat→Rw) (m k:Nat) (u:Bool):mrow r (fun i=>wlR (T i) k u) m=wlR (mrow r T m) k u:=by
 have n1:¬k+1=k:=by lia
 funext j c
 by_cases h1:j=k
 ·subst h1
  cases u
  ·have e:∀ i,wlR (T i) j false j=fun c=>T i (j+1) (c+1):=fun i=>by funext c;unfold wlR;rw[if_pos rfl,if_neg (by decide)]
   unfold mrow
   simp only[e,b7q]
   unfold wlR
   rw[if_pos rfl,if_neg (by decide)]
  ·have e:∀ i,wlR (T i) j true j=fun c=>T i j c - T i j (c - 1)+T i (j+1) c:=fun i=>by funext c;unfold wlR;rw[if_pos rfl,if_pos rfl]
   unfold mrow
   simp only[e,b9y,b5l]
   unfold wlR
   rw[if_pos rfl,if_pos rfl]
 ·by_cases h2:j=k+1
  ·subst h2
   cases u
   ·have e:∀ i,wlR (T i) k false (k+1)=fun c=>T i k c+T i (k+1) c - T i (k+1) (c+1):=fun i=>by funext c;unfold wlR;rw[if_neg n1,if_pos rfl,if_neg (by decide)]
    unfold mrow
    simp only[e,b9z,b3O]
    unfold wlR
    rw[if_neg n1,if_pos rfl,if_neg (by decide)]
   ·have e:∀ i,wlR (T i) k true (k+1)=fun c=>T i k (c+-1):=fun i=>by funext c;unfold wlR;rw[if_neg n1,if_pos rfl,if_pos rfl];rfl
    unfold mrow
    simp only[e]
    unfold wlR
    rw[if_neg n1,if_pos rfl,if_pos rfl]
    exact a3O fun i _=>b7q (T i k) (-1) c _
  ·have e:∀ i,wlR (T i) k u j=T i j:=fun i=>by funext c;unfold wlR;rw[if_neg h1,if_neg h2]
   unfold mrow
   simp only[e]
   unfold wlR
   rw[if_neg h1,if_neg h2]
theorem b2F (r:List Po) (m:Nat):∀ (vs:List Int) (T:Nat→Rw),mrow r (fun i=>wdR (T i) vs) m=wdR (mrow r T m) vs
 | [],T=>rfl
 | l :: v,T=>by
   show mrow r (fun i=>wdR (wlR (T i) (l.natAbs - 1) (decide (0 < l))) v) m=wdR (wlR (mrow r T m) (l.natAbs - 1) (decide (0 < l))) v
   rw[b2F r m v,b6W]
theorem b3N {m j:Nat} {g:Nat→Int} (h:∀ i,i < m→i≠j→g i=0):SuN m g=if j < m then g j else 0:=by
 induction m with
 | zero=>rfl
 | succ m ih =>
   show SuN m g+g m=_
   rw[ih fun i hi hn=>h i (by lia) hn]
   by_cases c:j < m
   ·rw[if_pos c,if_pos (by lia),h m (by lia) (by lia)];lia
   ·rw[if_neg c]
    by_cases d:j=m
    ·rw[if_pos (by lia),d];lia
    ·rw[if_neg (by lia),h m (by lia) (fun z=>d z.symm)];rfl
theorem a8S (c:Int):∀ a:Po,cv a (co []) c=0
 | []=>rfl
 | x :: a=>by
   show x.2*0+cv a (co []) c=0
   rw[a8S c a];lia
theorem b3y (c:Int):∀ a:Po,cv a (co [(0,1)]) c=co a c
 | []=>rfl
 | x :: a=>by
   show x.2*((if (0:Int)=c - x.1 then 1 else 0)+0)+cv a (co [(0,1)]) c=(if x.1=c then x.2 else 0)+co a c
   rw[b3y c a]
   by_cases h:x.1=c
   ·rw[if_pos h,if_pos (by lia)];lia
   ·rw[if_neg h,if_neg (by lia)];lia
theorem b0J {n:Int} {i j:Nat} (hi:i < n.toNat):rowF ((idP n).getD i []) j=co (if j < n.toNat then oneP i j else []):=by
 have e:(idP n).getD i []=(a0l n).map fun c=>oneP i c:=by
  unfold idP
  rw[List.getD_eq_getElem?_getD,List.getElem?_map,List.getElem?_eq_getElem (by rw[a0s];exact hi)]
  have:(a0l n)[i]'(by rw[a0s];exact hi)=(i:Int):=by rw[← b5z];exact a8O (by lia) (by lia)
  rw[this];rfl
 funext c
 unfold rowF
 rw[e,List.getD_eq_getElem?_getD,List.getElem?_map]
 by_cases h:j < n.toNat
 ·rw[if_pos h,List.getElem?_eq_getElem (by rw[a0s];exact h)]
  have:(a0l n)[j]'(by rw[a0s];exact h)=(j:Int):=by rw[← b5z];exact a8O (by lia) (by lia)
  rw[this];rfl
 ·rw[if_neg h,List.getElem?_eq_none (by rw[a0s];lia)];rfl
theorem b6X {n:Int} {r:List Po} (hr:r.length=n.toNat):mrow r (fun i=>rowF ((idP n).getD i [])) n.toNat=rowF r:=by
 funext j c
 unfold mrow
 rw[b3N (j:=j) (fun i hi hne=>by
  dsimp only
  rw[b0J hi]
  split
  ·have e:oneP (i:Int) (j:Int)=[]:=by unfold oneP;rw[if_neg (by lia)]
   rw[e,a8S]
  ·rw[a8S])]
 by_cases h:j < n.toNat
 ·rw[if_pos h]
  dsimp only
  rw[b0J h,if_pos h]
  have e:oneP (j:Int) (j:Int)=[(0,1)]:=by unfold oneP;rw[if_pos rfl]
  rw[e,b3y];rfl
 ·rw[if_neg h]
  unfold rowF
  rw[List.getD_eq_getElem?_getD,List.getElem?_eq_none (by lia)];rfl
theorem b1R {n:Int} {r:List Po} {vs:List Int} (hr:r.length=n.toNat) (hv:a0f n vs):wdR (rowF r) vs=mrow r (fun i=>rowF ((tabP n vs).getD i [])) n.toNat:=by
 rw[← b6X hr,← b2F]
 funext j c
 unfold mrow
 refine a3O fun i hi=>?_
 have e:(tabP n vs).getD i []=wdP ((idP n).getD i []) vs:=by
  rw[a3B,List.getD_eq_getElem?_getD,List.getElem?_map,List.getD_eq_getElem?_getD,List.getElem?_eq_getElem (by rw[(a3r n).1];exact hi)];rfl
 have hl:((idP n).getD i []).length=n.toNat:=((a3r n).2 _ (by rw[List.getD_eq_getElem?_getD,List.getElem?_eq_getElem (by rw[(a3r n).1];exact hi)];exact List.getElem_mem _)).1
 dsimp only
 rw[e,a7i vs _ hl (a3k hv)]
noncomputable def sumP (g:Nat→Po):Nat→Po
 | 0=>[]
 | m+1=>b1w (sumP g m) (g m) 1
theorem a7P (g:Nat→Po) (c:Int):∀ m,co (sumP g m) c=SuN m fun i=>co (g i) c
 | 0=>rfl
 | m+1=>by
   show co (b1w (sumP g m) (g m) 1) c=SuN m (fun i=>co (g i) c)+co (g m) c
   rw[b1d,a7P g c m];lia
theorem a7R (g:Nat→Po):∀ m,CanP (sumP g m)
 | 0=>⟨.nil,fun _ h=>absurd h List.not_mem_nil⟩
 | m+1=>a0K _
noncomputable def matE (r:List Po) (T:List (List Po)) (m j:Nat):Po:=sumP (fun k=>a0X (r.getD k []) ((T.getD k []).getD j [])) m
noncomputable def matP (m:Nat) (A T:List (List Po)):List (List Po):=A.map fun r=>(List.range m).map fun j=>matE r T m j
theorem b5V {n:Int} {ws vs:List Int} (hw:a0f n ws) (hv:a0f n vs):tabP n (ws++vs)=matP n.toNat (tabP n ws) (tabP n vs):=by
 have hwv:=hw.append hv
 have g:=a1y hwv
 have gw:=a1y hw
 rw[a3B] at g gw
 unfold matP
 rw[a3B n (ws++vs),a3B n ws,List.map_map]
 refine List.map_congr_left fun ps hps=>?_
 show wdP ps (ws++vs)=(List.range n.toNat).map fun j=>matE (wdP ps ws) (tabP n vs) n.toNat j
 have hl:ps.length=n.toNat:=((a3r n).2 ps hps).1
 have hl2:=a9n ws ps hl (a3k hw)
 have e1:wdP ps (ws++vs)=wdP (wdP ps ws) vs:=by unfold wdP;rw[List.foldl_append]
 refine b4g (by rw[a9n (ws++vs) ps hl (a3k hwv),List.length_map,List.length_range]) (fun x hx=>((g.2 _ (List.mem_map.mpr ⟨ps,hps,rfl⟩)).2 x hx).1) (fun x hx=>?_) ?_
 ·obtain⟨j,_,rfl⟩:=List.mem_map.mp hx
  exact a7R _ _
 ·rw [e1,a7i vs _ hl2 (a3k hv),b1R hl2 hv]
  funext j c
  unfold rowF mrow
  rw[List.getD_eq_getElem?_getD,List.getElem?_map]
  by_cases h:j < n.toNat
  ·rw[List.getElem?_range h]
   show _=co (matE (wdP ps ws) (tabP n vs) n.toNat j) c
   unfold matE
   rw[a7P]
   refine a3O fun i hi=>?_
   unfold a0X
   rw[a1h,a6P]
  ·rw [List.getElem?_eq_none (by rw[List.length_range];lia)]
   show _=(0:Int)
   have e:(fun i=>cv ((wdP ps ws).getD i []) (fun c=>co (((tabP n vs).getD i []).getD j []) c) c)=fun i=>(0:Int):=by
    funext i
    have gv:=a1y hv
    have e2:((tabP n vs).getD i []).getD j []=[]:=by
     by_cases hi:i < (tabP n vs).length
     ·have:=(gv.2 ((tabP n vs).getD i []) (by rw[List.getD_eq_getElem?_getD,List.getElem?_eq_getElem hi];exact List.getElem_mem _)).1
      rw[List.getD_eq_getElem?_getD,List.getElem?_eq_none (by lia)];rfl
     ·rw[List.getD_eq_getElem?_getD (l:=tabP n vs),List.getElem?_eq_none (by lia)];rfl
    rw[e2]
    exact a8S c _
   rw[e]
   have z:∀ m,SuN m (fun _=>(0:Int))=0:=fun m=>by
    induction m with
    | zero=>rfl
    | succ m ih=>show SuN m (fun _=>(0:Int))+0=0;rw[ih];rfl
   exact z _
theorem b3D (k:Int):CanP [(k,1)]:=⟨List.pairwise_singleton _ _,fun x hx=>by rw[List.mem_singleton.mp hx];show (1:Int)≠0;decide⟩
theorem b6e {n:Int} {ws:List Int} (hw:a0f n ws) {r:List Po} (hr:r∈tabP n ws):sumP (fun j=>r.getD j []) n.toNat=[(0,1)]:=by
 rw[a3B] at hr
 obtain⟨ps,hps,rfl⟩:=List.mem_map.mp hr
 have hl:ps.length=n.toNat:=((a3r n).2 ps hps).1
 refine a2Z (a7R _ _) (b3D 0) fun c=>?_
 rw[a7P]
 have e:(fun j=>co ((wdP ps ws).getD j []) c)=fun j=>wdR (rowF ps) ws j c:=by
  funext j
  have:=congrFun (congrFun (a7i ws ps hl (a3k hw)) j) c
  exact this
 rw[e,b5n ws _ c (a3k hw)]
 obtain⟨i,hi,ei⟩:=List.getElem_of_mem hps
 have hin:i < n.toNat:=by rw[(a3r n).1] at hi;exact hi
 have e2:ps=(idP n).getD i []:=by rw[List.getD_eq_getElem?_getD,List.getElem?_eq_getElem hi];exact ei.symm
 rw[e2,b3N (j:=i) (fun j hj hne=>by
  rw[b0J hin,if_pos hj]
  unfold oneP
  rw[if_neg (by lia)];rfl),if_pos hin,b0J hin,if_pos hin]
 unfold oneP
 rw[if_pos rfl]
noncomputable def a3v (n:Nat):List Po:=(List.range n).map fun (j:Nat)=>[((j:Int),1)]
theorem a4r {n j:Nat} (h:j < n):(a3v n).getD j []=[((j:Int),1)]:=by
 unfold a3v
 rw[List.getD_eq_getElem?_getD,List.getElem?_map,List.getElem?_range h];rfl
theorem b4c {n k:Nat} (h:k+1 < n) (u:Bool):wlR (rowF (a3v n)) k u=rowF (a3v n):=by
 funext j c
 have n1:¬k+1=k:=by lia
 have g0:∀ c,rowF (a3v n) k c=if (k:Int)=c then 1 else 0:=fun c=>by
  unfold rowF;rw[a4r (by lia)]
  show (if (k:Int)=c then 1 else 0)+0=_
  rw[Int.add_zero]
 have g1:∀ c,rowF (a3v n) (k+1) c=if ((k+1:Nat):Int)=c then 1 else 0:=fun c=>by
  unfold rowF;rw[a4r h]
  show (if ((k+1:Nat):Int)=c then 1 else 0)+0=_
  rw[Int.add_zero]
 unfold wlR
 by_cases a:j=k
 ·subst a
  simp only[if_true,g0,g1]
  cases u
  ·rw[if_neg (by decide)]
   by_cases z:(j:Int)=c
   ·rw[if_pos z,if_pos (by lia)]
   ·rw[if_neg z,if_neg (by lia)]
  ·rw[if_pos rfl]
   by_cases z:(j:Int)=c
   ·rw[if_pos z,if_neg (by lia),if_neg (by lia)];lia
   ·rw[if_neg z]
    by_cases y:(j:Int)=c - 1
    ·rw[if_pos y,if_pos (by lia)];lia
    ·rw[if_neg y,if_neg (by lia)];lia
 ·rw [if_neg a]
  by_cases b:j=k+1
  ·subst b
   simp only[if_true,g0,g1]
   cases u
   ·rw[if_neg (by decide)]
    by_cases z:(k:Int)=c
    ·rw[if_pos z,if_neg (by lia),if_pos (by lia)];lia
    ·rw[if_neg z]
     by_cases y:((k+1:Nat):Int)=c
     ·rw[if_pos y,if_neg (by lia)];lia
     ·rw[if_neg y,if_neg (by lia)];lia
   ·rw[if_pos rfl]
    by_cases y:((k+1:Nat):Int)=c
    ·rw[if_pos y,if_pos (by lia)]
    ·rw[if_neg y,if_neg (by lia)]
  ·rw[if_neg b]
theorem b0m {n:Nat}:∀ (ws:List Int),(∀ l∈ws,1≤l.natAbs∧l.natAbs < n)→wdR (rowF (a3v n)) ws=rowF (a3v n)
 | [],_=>rfl
 | l :: w,hw=>by
   obtain⟨a,b⟩:=hw l (.head _)
   show wdR (wlR (rowF (a3v n)) (l.natAbs - 1) (decide (0 < l))) w=_
   rw[b4c (by lia)]
   exact b0m w fun x hx=>hw x (.tail _ hx)
theorem b7r {n:Int} {ws:List Int} (hw:a0f n ws) {k:Nat} (hk:k < n.toNat):sumP (fun j=>a0X [(((j:Nat):Int),1)] (((tabP n ws).getD j []).getD k [])) n.toNat=[((k:Int),1)]:=by
 refine a2Z (a7R _ _) (b3D k) fun c=>?_
 have hl:(a3v n.toNat).length=n.toNat:=by unfold a3v;rw[List.length_map,List.length_range]
 have e:=congrFun (congrFun ((b1R hl hw).symm.trans (b0m ws (a3k hw))) k) c
 rw[a7P]
 unfold mrow at e
 have e3:rowF (a3v n.toNat) k c=co [((k:Int),1)] c:=by unfold rowF;rw[a4r hk]
 rw[← e3,← e]
 refine a3O fun i hi=>?_
 rw[a4r hi]
 unfold a0X
 rw[a1h,a6P];rfl
theorem a8T (f:Int→Int) (c:Int):∀ p q:Po,cv (p++q) f c=cv p f c+cv q f c
 | [],q=>by show cv q f c=0+cv q f c;lia
 | x :: p,q=>by
   show x.2*f (c - x.1)+cv (p++q) f c=x.2*f (c - x.1)+cv p f c+cv q f c
   rw[a8T f c p q];lia
theorem b5I (f g:Int→Int) (c:Int):∀ p:Po,cv p (fun c=>f c+g c) c=cv p f c+cv p g c
 | []=>rfl
 | x :: p=>by
   show x.2*(f (c - x.1)+g (c - x.1))+cv p (fun c=>f c+g c) c=(x.2*f (c - x.1)+cv p f c)+(x.2*g (c - x.1)+cv p g c)
   rw[b5I f g c p,Int.mul_add];lia
theorem b0Y (x:Int × Int) (f:Int→Int) (c:Int):∀ q:Po,cv (q.map fun y=>(x.1+y.1,x.2*y.2)) f c=x.2*cv q f (c - x.1)
 | []=>by show (0:Int)=x.2*0;rw[Int.mul_zero]
 | y :: q=>by
   show x.2*y.2*f (c - (x.1+y.1))+cv (q.map fun y=>(x.1+y.1,x.2*y.2)) f c=x.2*(y.2*f (c - x.1 - y.1)+cv q f (c - x.1))
   rw[b0Y x f c q,Int.mul_add,Int.mul_assoc,show c - (x.1+y.1)=c - x.1 - y.1 by lia]
theorem b5H (q:Po) (f:Int→Int) (c:Int):∀ p:Po,cv (rawM p q) f c=cv p (cv q f) c
 | []=>rfl
 | x :: p=>by
   show cv ((q.map fun y=>(x.1+y.1,x.2*y.2))++rawM p q) f c=x.2*cv q f (c - x.1)+cv p (cv q f) c
   rw[a8T,b0Y,b5H q f c p]
theorem b3x (k v:Int) (f:Int→Int) (c:Int):∀ p:Po,cv (putP k v p) f c=v*f (c - k)+cv p f c
 | []=>by
   show cv (if v=0 then [] else [(k,v)]) f c=v*f (c - k)+0
   split
   ·rename_i h;subst h;show (0:Int)=_;rw[Int.zero_mul];rfl
   ·rfl
 | x :: r=>by
   have ih:=b3x k v f c r
   show cv (if k < x.1 then (if v=0 then x :: r else (k,v) :: x :: r) else if k=x.1 then (if x.2+v=0 then r else (k,x.2+v) :: r) else x :: putP k v r) f c=_
   split
   ·split
    ·rename_i h;subst h;rw[Int.zero_mul,Int.zero_add]
    ·rfl
   ·split
    ·rename_i h;subst h
     split
     ·rename_i h
      show cv r f c=v*f (c - x.1)+(x.2*f (c - x.1)+cv r f c)
      rw[← Int.add_assoc,← Int.add_mul,show v+x.2=0 by lia,Int.zero_mul,Int.zero_add]
     ·show (x.2+v)*f (c - x.1)+cv r f c=v*f (c - x.1)+(x.2*f (c - x.1)+cv r f c)
      rw[Int.add_mul];lia
    ·show x.2*f (c - x.1)+cv (putP k v r) f c=v*f (c - k)+(x.2*f (c - x.1)+cv r f c)
     rw[ih];lia
theorem a9W (f:Int→Int) (c:Int):∀ p:Po,cv (norm p) f c=cv p f c
 | []=>rfl
 | x :: p=>by
   show cv (putP x.1 x.2 (norm p)) f c=x.2*f (c - x.1)+cv p f c
   rw[b3x,a9W f c p]
theorem a6b (x:Int × Int) (p:Po) (c:Int):∀ q:Po,co (rawM q (x :: p)) c=co (q.map fun y=>(x.1+y.1,x.2*y.2)) c+co (rawM q p) c
 | []=>rfl
 | y :: q=>by
   show co (((y.1+x.1,y.2*x.2) :: p.map fun b=>(y.1+b.1,y.2*b.2))++rawM q (x :: p)) c=((if x.1+y.1=c then x.2*y.2 else 0)+co (q.map fun y=>(x.1+y.1,x.2*y.2)) c)+co ((p.map fun b=>(y.1+b.1,y.2*b.2))++rawM q p) c
   rw[a1E,a1E,a6b x p c q]
   show ((if y.1+x.1=c then y.2*x.2 else 0)+_)+_=_
   rw[Int.add_comm y.1,Int.mul_comm y.2];lia
theorem a6c (c:Int) (q:Po):∀ p:Po,co (rawM p q) c=co (rawM q p) c
 | []=>by
   have:∀ q:Po,rawM q []=[]:=fun q=>by
    induction q with
    | nil=>rfl
    | cons y q ih=>show []++rawM q []=[];rw[ih];rfl
   rw[this];rfl
 | x :: p=>by
   show co ((q.map fun y=>(x.1+y.1,x.2*y.2))++rawM p q) c=_
   rw[a1E,a6b,a6c c q p]
theorem b3A (p q:Po) (c:Int):co (addP p q) c=co p c+co q c:=by unfold addP;rw[a1h,a1E]
theorem b0b (p q:Po) (c:Int):co (a0X p q) c=cv p (co q) c:=by unfold a0X;rw[a1h,a6P]
noncomputable abbrev Lp:={p:Po // CanP p}
noncomputable def toL (p:Po):Lp:=⟨norm p,a0K p⟩
theorem b5U {p q:Po} (h:∀ c,co p c=co q c):toL p=toL q:=Subtype.ext (a2Z (a0K p) (a0K q) fun c=>(a1h p c).trans ((h c).trans (a1h q c).symm))
noncomputable instance:Add Lp:=⟨fun p q=>toL (addP p.1 q.1)⟩
noncomputable instance:Mul Lp:=⟨fun p q=>toL (a0X p.1 q.1)⟩
noncomputable def zL:Lp:=toL []
noncomputable def eL:Lp:=toL [(0,1)]
theorem Lp.ext2 {p q:Lp} (h:∀ c,co p.1 c=co q.1 c):p=q:=Subtype.ext (a2Z p.2 q.2 h)
theorem co_L (p:Po) (c:Int):co (toL p).1 c=co p c:=a1h p c
theorem a2B (p q:Lp) (c:Int):co (p+q).1 c=co p.1 c+co q.1 c:=(co_L _ c).trans (b3A _ _ c)
theorem a2Q (p q:Lp) (c:Int):co (p*q).1 c=cv p.1 (co q.1) c:=(co_L _ c).trans (b0b _ _ c)
theorem cv_L (p:Po) (f:Int→Int) (c:Int):cv (toL p).1 f c=cv p f c:=a9W f c p
theorem a7a (p q:Po):toL (addP p q)=toL p+toL q:=Lp.ext2 fun c=>by rw[a2B,co_L,b3A,co_L,co_L]
theorem a2y (p q:Po):toL (a0X p q)=toL p*toL q:=Lp.ext2 fun c=>by
 rw[a2Q,co_L,b0b,cv_L]
 have e:co (toL q).1=co q:=funext fun c=>co_L q c
 rw[e]
theorem a9g (p q:Lp):p+q=q+p:=Lp.ext2 fun c=>by rw[a2B,a2B];lia
theorem a6R (p q r:Lp):p+q+r=p+(q+r):=Lp.ext2 fun c=>by rw[a2B,a2B,a2B,a2B];lia
theorem b5M (p:Lp):p+zL=p:=Lp.ext2 fun c=>by
 rw[a2B];show co p.1 c+co (norm []) c=co p.1 c
 rw[a1h];show _+0=_;lia
theorem a1D (p q:Lp):p*q=q*p:=Lp.ext2 fun c=>by rw[a2Q,a2Q,← a6P,← a6P,a6c]
theorem a4U (p q r:Lp):p*q*r=p*(q*r):=Lp.ext2 fun c=>by
 rw[a2Q,a2Q]
 have e:co (q*r).1=cv q.1 (co r.1):=funext fun c=>a2Q q r c
 rw[e,← b5H]
 show cv (toL (a0X p.1 q.1)).1 (co r.1) c=_
 rw[cv_L];unfold a0X;rw[a9W]
theorem b0F (p:Lp):p*eL=p:=Lp.ext2 fun c=>by
 rw[a2Q]
 have e:co eL.1=co [(0,1)]:=funext fun c=>co_L _ c
 rw[e,b3y]
theorem a8y (p:Lp):p*zL=zL:=Lp.ext2 fun c=>by
 rw[a2Q]
 have e:co zL.1=co []:=funext fun c=>co_L _ c
 rw[e,a8S];rfl
theorem b7o (p q r:Lp):p*(q+r)=p*q+p*r:=Lp.ext2 fun c=>by
 rw[a2Q,a2B,a2Q,a2Q,← b5I]
 have e:co (q+r).1=fun c=>co q.1 c+co r.1 c:=funext fun c=>a2B q r c
 rw[e]
instance:Std.Associative (α:=Lp) (·*·):=⟨a4U⟩
instance:Std.Commutative (α:=Lp) (·*·):=⟨a1D⟩
instance:Std.Associative (α:=Lp) (·+·):=⟨a6R⟩
instance:Std.Commutative (α:=Lp) (·+·):=⟨a9g⟩
noncomputable def Su:Nat→(Nat→Lp)→Lp
 | 0,_=>zL
 | m+1,g=>Su m g+g m
theorem b1h {m:Nat} {f g:Nat→Lp} (h:∀ i,i < m→f i=g i):Su m f=Su m g:=by
 induction m with
 | zero=>rfl
 | succ m ih=>show Su m f+f m=Su m g+g m;rw[ih fun i hi=>h i (by lia),h m (by lia)]
noncomputable def sk (r i:Nat):Nat:=if i < r then i else i+1
noncomputable def Drow (sg:Nat→Lp):Nat→(Nat→Nat→Lp)→Lp
 | 0,_=>eL
 | m+1,A=>Su (m+1) fun c=>sg c*A 0 c*Drow sg m fun i j=>A (i+1) (sk c j)
theorem a6U (sg:Nat→Lp):∀ (m:Nat) {A B:Nat→Nat→Lp},(∀ i j,i < m→j < m→A i j=B i j)→Drow sg m A=Drow sg m B
 | 0,_,_,_=>rfl
 | m+1,A,B,h=>b1h fun c hc=>by
   rw[h 0 c (by lia) hc,a6U sg m (A:=fun i j=>A (i+1) (sk c j)) (B:=fun i j=>B (i+1) (sk c j)) fun i j hi hj=>h _ _ (by lia) (by unfold sk;split<;>lia)]
noncomputable def a2g (c:Nat) (rs:List (List Po)):List (List Po):=rs.map fun ps=>ps.take c++ps.drop (c+1)
noncomputable def sgnP:Nat→Po
 | 0=>[(0,1)]
 | c+1=>a0X (sgnP c) [(0,-1)]
noncomputable def a4N (ps:List Po) (f:Nat→Po) (acc:Po) (c:Nat):Po:=if ps.getD c []=[] then acc else addP acc (a0X (a0X (ps.getD c []) (f c)) (sgnP c))
noncomputable def detP:Nat→List (List Po)→Po
 | 0,_=>[]
 | _+1,[]=>[(0,1)]
 | k+1,ps :: rs=>(List.range ps.length).foldl (a4N ps fun c=>detP k (a2g c rs)) []
theorem a7I:∀ c,GdP 0 1 (sgnP c)
 | 0=>⟨⟨by decide,by decide⟩,by unfold PwB;decide,by decide⟩
 | c+1=>(a7I c).mul (q:=[(0,-1)]) (b:=0) (C:=1) ⟨⟨by decide,by decide⟩,by unfold PwB;decide,by decide⟩
theorem a4Z {α:Type} (f:α→Nat→α) (z:α) (c:Nat):(List.range (c+1)).foldl f z=f ((List.range c).foldl f z) c:=by rw[List.range_succ,List.foldl_append];rfl
noncomputable def b4W:Po→Po
 | []=>[]
 | x :: p=>a0X (x :: p) [(-x.1,if 0 < x.2 then 1 else -1)]
noncomputable def a2z (n:Int) (ws:List Int):List (List Po):=(List.range (n.toNat - 1)).map fun r=>(List.range (n.toNat - 1)).map fun c=>addP (oneP ((r+1:Nat):Int) ((c+1:Nat):Int)) (a0X (((tabP n ws).getD (r+1) []).getD (c+1) []) [(0,-1)])
noncomputable def a5d (n:Int) (ws:List Int):Po:=b4W (detP n.toNat (a2z n ws))
theorem b1H {n:Int} {ws:List Int} (ok:PlOK n ws):a9k (n.toNat - 1) ws.length (1+3 ^ ws.length) (a2z n ws):=by
 obtain⟨o1,o2,o3,o4⟩:=ok
 have hG:=a1y (n:=n) o4
 unfold a2z
 refine⟨by rw[List.length_map,List.length_range],fun ps hps=>?_⟩
 obtain⟨i,hi,rfl⟩:=List.mem_map.mp hps
 refine⟨by rw[List.length_map,List.length_range],fun q hq=>?_⟩
 obtain⟨j,hj,rfl⟩:=List.mem_map.mp hq
 have h1:=List.mem_range.mp hi
 have h2:=List.mem_range.mp hj
 obtain⟨g1,g2⟩:=hG.2 ((tabP n ws).getD (i+1) []) (by rw[List.getD_eq_getElem?_getD,List.getElem?_eq_getElem (by rw[hG.1];lia)];exact List.getElem_mem _)
 have gj:=a4E g2 (i:=j+1) (by rw[g1];lia)
 exact ((a7J ((i+1:Nat):Int) ((j+1:Nat):Int)).mono (b:=ws.length+0) (by lia) (Nat.le_refl _)).add (gj.mul (q:=[(0,-1)]) (b:=0) (C:=1) ⟨⟨by decide,by decide⟩,by unfold PwB;decide,by decide⟩) |>.mono (by lia) (by lia)
theorem b0w (k c:Int):∀ p:Po,(putP k c p).length≤p.length+1
 | []=>by
   show (if c=0 then [] else [(k,c)]).length≤1
   split
   ·exact Nat.zero_le _
   ·exact Nat.le_refl _
 | x :: r=>by
   have ih:=b0w k c r
   show (if k < x.1 then (if c=0 then x :: r else (k,c) :: x :: r) else if k=x.1 then (if x.2+c=0 then r else (k,x.2+c) :: r) else x :: putP k c r).length≤r.length+1+1
   split
   ·split
    ·rw[List.length_cons];lia
    ·rw[List.length_cons,List.length_cons];lia
   ·split
    ·split
     ·lia
     ·rw[List.length_cons];lia
    ·rw[List.length_cons];lia
theorem b0C:∀ p:Po,(norm p).length≤p.length
 | []=>Nat.le_refl _
 | x :: r=>Nat.le_trans (b0w x.1 x.2 (norm r)) (Nat.succ_le_succ (b0C r))
theorem b2n (c:Int × Int):∀ p:Po,(rawM p [c]).length=p.length
 | []=>rfl
 | x :: p=>by
   show ([(x.1+c.1,x.2*c.2)]++rawM p [c]).length=p.length+1
   rw[List.length_append,b2n c p]
   show 1+p.length=p.length+1
   lia
theorem b3c (p:Po):(b4W p).length≤p.length:=by
 cases p with
 | nil=>exact Nat.le_refl _
 | cons x p =>
   refine Nat.le_trans (b0C _) ?_
   rw[b2n];exact Nat.le_refl _
noncomputable def sgL (c:Nat):Lp:=toL (sgnP c)
noncomputable def eltL (rs:List (List Po)) (i j:Nat):Lp:=toL ((rs.getD i []).getD j [])
theorem b8g (ps:List Po) (f:Nat→Po) (acc:Po) (c:Nat):toL (a4N ps f acc c)=toL acc+sgL c*toL (ps.getD c [])*toL (f c):=by
 unfold a4N
 split
 ·rename_i h
  rw[h]
  show toL acc=toL acc+sgL c*zL*toL (f c)
  rw[a8y,a1D,a8y,b5M]
 ·rw[a7a,a2y,a2y]
  show _+toL (ps.getD c [])*toL (f c)*sgL c=_
  congr 1;ac_rfl
theorem b5A (ps:List Po) (f:Nat→Po):∀ c,toL ((List.range c).foldl (a4N ps f) [])=Su c fun c=>sgL c*toL (ps.getD c [])*toL (f c)
 | 0=>rfl
 | c+1=>by
   rw[a4Z,b8g,b5A ps f c];rfl
theorem b2Z {ps:List Po} {c j:Nat} (hc:c < ps.length):(ps.take c++ps.drop (c+1)).getD j []=ps.getD (sk c j) []:=by
 have hl:(ps.take c).length=c:=by rw[List.length_take];lia
 rw[List.getD_eq_getElem?_getD,List.getD_eq_getElem?_getD]
 unfold sk
 by_cases h:j < c
 ·rw[if_pos h,List.getElem?_append_left (by rw[hl];exact h),List.getElem?_take_of_lt h]
 ·rw[if_neg h,List.getElem?_append_right (by rw[hl];lia),hl,List.getElem?_drop,show c+1+(j - c)=j+1 by lia]
theorem b3s:∀ (m:Nat) (rs:List (List Po)),rs.length=m→(∀ ps∈rs,ps.length=m)→toL (detP (m+1) rs)=Drow sgL m (eltL rs)
 | 0,[],_,_=>rfl
 | 0,_ :: _,h,_=>by simp at h
 | m+1,[],h,_=>by simp at h
 | m + 1,ps :: rs,h,h2=>by
   have hl:rs.length=m:=by rw[List.length_cons] at h;lia
   have g1:=h2 ps (.head _)
   show toL ((List.range ps.length).foldl (a4N ps fun c=>detP (m+1) (a2g c rs)) [])=_
   rw[b5A,g1]
   refine b1h fun c hc=>?_
   have hd:(a2g c rs).length=m:=by unfold a2g;rw[List.length_map];exact hl
   have hd2:∀ qs∈a2g c rs,qs.length=m:=fun qs hq=>by
    unfold a2g at hq
    obtain⟨q,hq2,rfl⟩:=List.mem_map.mp hq
    have:=h2 q (List.mem_cons_of_mem _ hq2)
    rw[List.length_append,List.length_take,List.length_drop];lia
   rw[b3s m (a2g c rs) hd hd2]
   rw[a6U sgL m (A:=eltL (a2g c rs)) (B:=fun i j=>eltL (ps :: rs) (i+1) (sk c j)) fun i j hi hj=>by
    unfold eltL
    show toL (((a2g c rs).getD i []).getD j [])=toL ((rs.getD i []).getD (sk c j) [])
    have hi2:i < rs.length:=by lia
    have e1:(a2g c rs).getD i []=(rs.getD i []).take c++(rs.getD i []).drop (c+1):=by
     unfold a2g
     rw[List.getD_eq_getElem?_getD,List.getElem?_map,List.getD_eq_getElem?_getD,List.getElem?_eq_getElem hi2];rfl
    have hlen:(rs.getD i []).length=m+1:=by
     rw[List.getD_eq_getElem?_getD,List.getElem?_eq_getElem hi2]
     exact h2 _ (.tail _ (List.getElem_mem _))
    rw[e1,b2Z (by rw[hlen];exact hc)]]
   rfl
noncomputable def b7P (j:Nat):Int:=if j % 2=0 then 1 else -1
noncomputable def sgU (s:Int):Lp:=toL [(0,s)]
theorem a8W (s c:Int):co [(0,s)] c=if 0=c then s else 0:=by
 show (if (0:Int)=c then s else 0)+0=_
 rw[Int.add_zero]
theorem a9v (a b:Int):sgU a*sgU b=sgU (a*b):=by
 unfold sgU
 rw[← a2y]
 refine b5U fun c=>?_
 rw[b0b,a8W]
 show a*co [(0,b)] (c - 0)+0=_
 rw[Int.sub_zero,a8W]
 by_cases h:(0:Int)=c
 ·rw[if_pos h,if_pos h,Int.add_zero]
 ·rw[if_neg h,if_neg h,Int.mul_zero,Int.add_zero]
theorem a4s:∀ c,sgL c=sgU (b7P c)
 | 0=>rfl
 | c+1=>by
   show toL (a0X (sgnP c) [(0,-1)])=_
   rw[a2y]
   show sgL c*sgU (-1)=_
   rw[a4s c,a9v]
   congr 1
   unfold b7P
   by_cases h:c % 2=0
   ·rw[if_pos h,if_neg (by lia)];rfl
   ·rw[if_neg h,if_pos (by lia)];rfl
theorem b1X (p q:Po):toL (b1w p q 1)=toL p+toL q:=Lp.ext2 fun c=>by rw[a2B,co_L,b1d,co_L,co_L,Int.one_mul]
theorem a5q (g:Nat→Po):∀ m,toL (sumP g m)=Su m fun i=>toL (g i)
 | 0=>rfl
 | m+1=>by show toL (b1w (sumP g m) (g m) 1)=Su m (fun i=>toL (g i))+toL (g m);rw[b1X,a5q g m]
noncomputable def wtI (x:Int × Int):Int:=if x.1 % 2=0 then x.2 else -x.2
noncomputable def a4J (p:Po):Int:=((p.map wtI).sum.natAbs:Nat)
section
variable {P:Program} {w:World} {A:Around} {E:Value→Shared→Prop} {s:Shared}
end
section
variable {X:Cx}
end
theorem b3K {m:Int}:∀ {k:Nat} {r:List Int},r∈alR m k↔r.length=k∧InA m r:=fun {k r}=>by
 refine⟨b3J,?_⟩
 induction k generalizing r with
 | zero =>
   rintro⟨h,_⟩
   rw[List.eq_nil_of_length_eq_zero h]
   exact .head _
 | succ k ih =>
   rintro⟨h,hA⟩
   have hne:r≠[]:=fun z=>by rw[z] at h;cases h
   have e:r.dropLast++[r.getLast hne]=r:=List.dropLast_concat_getLast hne
   rw[← e]
   refine List.mem_flatMap.mpr ⟨r.dropLast,ih ⟨by rw[List.length_dropLast];lia,fun c hc=>hA c (List.dropLast_subset _ hc)⟩,?_⟩
   exact List.mem_map.mpr ⟨_,a0A.mpr (hA _ (List.getLast_mem hne)),rfl⟩
theorem a3D (m:Int):(a0l m).Nodup:=by
 unfold a0l
 exact List.pairwise_map.mpr (List.nodup_range.imp fun h z=>h (by lia))
theorem b3I (m:Int):∀ k,(alR m k).Nodup
 | 0=>List.pairwise_singleton _ _
 | k + 1=>by
   have key:∀ R:List (List Int),R.Nodup→(R.flatMap (b6Y m)).Nodup:=fun R=>by
    induction R with
    | nil=>intro _;exact .nil
    | cons r R ih =>
      intro h
      rw[List.flatMap_cons]
      obtain⟨h1,h2⟩:=List.nodup_cons.mp h
      refine List.nodup_append.mpr ⟨?_,ih h2,fun a ha b hb z=>?_⟩
      ·unfold b6Y
       exact List.pairwise_map.mpr ((a3D m).imp fun h z=>h (by simpa using z))
      ·obtain⟨q,hq,hb⟩:=List.mem_flatMap.mp hb
       obtain⟨c,_,rfl⟩:=List.mem_map.mp ha
       obtain⟨d,_,e⟩:=List.mem_map.mp hb
       rw[← z] at e
       have:=(List.append_inj' e rfl).1
       rw[this] at hq
       exact h1 hq
   exact key _ (b3I m k)
noncomputable def fixR (tab:List (List Int)) (ws:List Int) (n:Nat):List (List Int):=(alR tab.length n).filter fun row=>decide (dn tab ws row=row)
theorem a3Z {tab:List (List Int)} {ws:List Int} {n:Nat} {r:List Int}:r∈fixR tab ws n↔(r.length=n∧InA tab.length r)∧dn tab ws r=r:=by
 unfold fixR
 rw[List.mem_filter,b3K,decide_eq_true_eq]
theorem b3e (tab:List (List Int)) (ws:List Int) (n:Nat):(fixR tab ws n).Nodup:=(b3I _ _).filter _
theorem b2P {α β:Type} {l:List α} {r:List β} (nd:l.Nodup) (f:α→β) (hf:∀ x∈l,f x∈r) (hi:∀ x∈l,∀ y∈l,f x=f y→x=y):l.length≤r.length:=by
 have h:(l.map f).Nodup:=by
  refine List.pairwise_map.mpr ?_
  refine List.Pairwise.imp_of_mem (fun hx hy h z=>h (hi _ hx _ hy z)) nd
 rw[← List.length_map (f:=f)]
 exact List.Nodup.length_le_of_subset h fun y hy=>by
  obtain⟨x,hx,rfl⟩:=List.mem_map.mp hy
  exact hf x hx
noncomputable def a2T (p:Int):Prop:=2≤p∧∀ q:Int,2≤q→q < p→p % q≠0
theorem a1C {p a b:Int} (hp:a2T p) (ha:a % p≠0) (h:(a*b) % p=0):b % p=0:=by
 obtain⟨p2,hp⟩:=hp
 have h1:p.natAbs ∣ a.natAbs*b.natAbs:=by
  rw[← Int.natAbs_mul]
  exact Int.natAbs_dvd_natAbs.mpr (Int.dvd_of_emod_eq_zero h)
 have hg:Nat.gcd p.natAbs a.natAbs=1:=by
  have d1:=Nat.gcd_dvd_left p.natAbs a.natAbs
  have d2:=Nat.gcd_dvd_right p.natAbs a.natAbs
  generalize Nat.gcd p.natAbs a.natAbs=g at d1 d2
  have hle:=Nat.le_of_dvd (by lia) d1
  have hpos:=Nat.pos_of_dvd_of_pos d1 (by lia)
  by_cases e:g=p.natAbs
  ·rw[e] at d2
   exact absurd (Int.emod_eq_zero_of_dvd (Int.natAbs_dvd_natAbs.mp d2)) ha
  ·by_cases e1:g=1
   ·exact e1
   ·refine absurd (Int.emod_eq_zero_of_dvd ?_) (hp g (by lia) (by lia))
    have:((g:Nat):Int).natAbs ∣ p.natAbs:=by rw[Int.natAbs_natCast];exact d1
    exact Int.natAbs_dvd_natAbs.mp this
 have h2:=Nat.Coprime.dvd_of_dvd_mul_left hg h1
 exact Int.emod_eq_zero_of_dvd (Int.natAbs_dvd_natAbs.mp h2)
theorem a7A {p a b:Int} (h:a % p=b % p):(a - b) % p=0:=by rw[Int.sub_emod,h,Int.sub_self,Int.zero_emod]
theorem a4M {p a b:Int} (h:(a - b) % p=0):a % p=b % p:=Int.emod_eq_emod_iff_emod_sub_eq_zero.mpr h
theorem a3E {p a b:Int} (ha:InM p a) (hb:InM p b) (h:a % p=b % p):a=b:=by
 rwa [Int.emod_eq_of_lt ha.1 ha.2,Int.emod_eq_of_lt hb.1 hb.2] at h
theorem a6x {p a:Int} (hp:a2T p) (ha:a % p≠0) (c:Int):∃ x,InM p x∧(a*x - c) % p=0:=by
 have p0:0 < p:=by have:=hp.1;lia
 have nd:((a0l p).map fun x=>(a*x) % p).Nodup:=by
  refine List.pairwise_map.mpr (List.Pairwise.imp_of_mem (fun hx hy h z=>h ?_) (a3D p))
  refine a3E (a0A.mp hx) (a0A.mp hy) (a4M (a1C hp ha ?_))
  rw[Int.mul_sub]
  exact a7A z
 have sub:∀ y∈(a0l p).map (fun x=>(a*x) % p),y∈a0l p:=fun y hy=>by
  obtain⟨x,_,rfl⟩:=List.mem_map.mp hy
  exact a0A.mpr ⟨Int.emod_nonneg _ (by lia),Int.emod_lt_of_pos _ p0⟩
 have hperm:=a4l _ _ nd sub (by rw[List.length_map];exact Nat.le_refl _)
 have hc:c % p∈a0l p:=a0A.mpr ⟨Int.emod_nonneg _ (by lia),Int.emod_lt_of_pos _ p0⟩
 obtain⟨x,hx,e⟩:=List.mem_map.mp (hperm.mem_iff.mpr hc)
 exact⟨x,a0A.mp hx,a7A e⟩
noncomputable def dotF (row:List Int):Nat→List Int→Int
 | _,[]=>0
 | c,x :: xs=>row.getD c 0*x+dotF row (c+1) xs
noncomputable def solS (p:Int) (c k:Nat) (rows:List (List Int)):List (List Int):=(alR p k).filter fun xs=>rows.all fun r=>decide (dotF r c xs % p=0)
theorem a2a {p:Int} {c k:Nat} {rows:List (List Int)} {xs:List Int}:xs∈solS p c k rows↔(xs.length=k∧InA p xs)∧∀ r∈rows,dotF r c xs % p=0:=by
 unfold solS
 rw[List.mem_filter,b3K,List.all_eq_true]
 simp only[decide_eq_true_eq]
theorem a3n (p:Int) (c k:Nat) (rows:List (List Int)):(solS p c k rows).Nodup:=(b3I _ _).filter _
noncomputable def clr (p:Int) (c:Nat) (row first:List Int):List Int:=List.zipWith (fun here there=>(here*first.getD c 0 - there*row.getD c 0) % p) row first
theorem b7s {p:Int} {c n:Nat} {row first:List Int} (h1:row.length=n) (h2:first.length=n) (j:Nat):(clr p c row first).getD j 0=(row.getD j 0*first.getD c 0 - first.getD j 0*row.getD c 0) % p:=by
 unfold clr
 by_cases h:j < n
 ·rw[List.getD_eq_getElem?_getD,List.getElem?_zipWith,List.getElem?_eq_getElem (by lia:j < row.length),List.getElem?_eq_getElem (by lia:j < first.length)]
  rw[List.getD_eq_getElem?_getD (l:=row) (i:=j),List.getD_eq_getElem?_getD (l:=first) (i:=j),List.getElem?_eq_getElem (by lia:j < row.length),List.getElem?_eq_getElem (by lia:j < first.length)]
  rfl
 ·rw[List.getD_eq_getElem?_getD,List.getElem?_zipWith,List.getElem?_eq_none (by lia:row.length≤j)]
  rw[List.getD_eq_getElem?_getD (l:=row) (i:=j),List.getD_eq_getElem?_getD (l:=first) (i:=j),List.getElem?_eq_none (by lia:row.length≤j),List.getElem?_eq_none (by lia:first.length≤j)]
  simp
theorem b0c {p:Int} {c n:Nat} {row first:List Int} (h1:row.length=n) (h2:first.length=n):∀ (xs:List Int) (d:Nat),dotF (clr p c row first) d xs % p=(first.getD c 0*dotF row d xs - row.getD c 0*dotF first d xs) % p
 | [],d=>by
   show (0:Int) % p=(first.getD c 0*0 - row.getD c 0*0) % p
   rw[Int.mul_zero,Int.mul_zero];rfl
 | x :: xs,d=>by
   have ih:=b0c (p:=p) (c:=c) h1 h2 xs (d+1)
   show ((clr p c row first).getD d 0*x+dotF (clr p c row first) (d+1) xs) % p=(first.getD c 0*(row.getD d 0*x+dotF row (d+1) xs) - row.getD c 0*(first.getD d 0*x+dotF first (d+1) xs)) % p
   rw[Int.add_emod,ih,b7s h1 h2,← Int.add_emod,Int.add_emod,Int.mul_emod,Int.emod_emod,← Int.mul_emod,← Int.add_emod]
   congr 1
   grind
theorem a5t {α:Type} {l r:List α} (hl:l.Nodup) (hr:r.Nodup) (h:∀ x,x∈l↔x∈r):l.length=r.length:=Nat.le_antisymm (List.Nodup.length_le_of_subset hl fun x hx=>(h x).mp hx) (List.Nodup.length_le_of_subset hr fun x hx=>(h x).mpr hx)
theorem b0y {S:List (List Int)}:∀ R:List Int,(R.flatMap fun x=>S.map (x :: ·)).length=R.length*S.length
 | []=>by rw[List.length_nil,Nat.zero_mul];rfl
 | x :: R=>by rw[List.flatMap_cons,List.length_append,List.length_map,b0y R,List.length_cons,Nat.succ_mul,Nat.add_comm]
theorem b2r {S:List (List Int)} (hS:S.Nodup):∀ {R:List Int},R.Nodup→(R.flatMap fun x=>S.map (x :: ·)).Nodup
 | [],_=>.nil
 | x :: R,h=>by
   obtain⟨h1,h2⟩:=List.nodup_cons.mp h
   rw[List.flatMap_cons]
   refine List.nodup_append.mpr ⟨List.pairwise_map.mpr (hS.imp fun h z=>h (by injection z)),b2r hS h2,fun a ha b hb z=>?_⟩
   obtain⟨u,_,rfl⟩:=List.mem_map.mp ha
   obtain⟨y,hy,hb⟩:=List.mem_flatMap.mp hb
   obtain⟨v,_,e⟩:=List.mem_map.mp hb
   rw[← z] at e
   injection e with e1 _
   rw[e1] at hy
   exact h1 hy
theorem a3S {p:Int} {c k:Nat} {rows:List (List Int)} {x:Int} {xs:List Int}:x :: xs∈solS p c (k+1) rows↔InM p x∧(xs.length=k∧InA p xs)∧∀ r∈rows,(r.getD c 0*x+dotF r (c+1) xs) % p=0:=by
 rw[a2a]
 constructor
 ·rintro⟨⟨h1,h2⟩,h3⟩
  exact⟨h2 x (.head _),⟨by rw[List.length_cons] at h1;lia,fun y hy=>h2 y (.tail _ hy)⟩,h3⟩
 ·rintro⟨h1,⟨h2,h3⟩,h4⟩
  refine⟨⟨by rw[List.length_cons,h2],fun y hy=>?_⟩,h4⟩
  rcases List.mem_cons.mp hy with z | z
  ·rw[z];exact h1
  ·exact h3 y z
theorem b0n {p:Int} {c k:Nat} {rows:List (List Int)} {xs:List Int} (h:xs∈solS p c (k+1) rows):∃ x ys,xs=x :: ys:=by
 cases xs with
 | nil=>have:=(a2a.mp h).1.1;simp at this
 | cons x ys=>exact⟨x,ys,rfl⟩
theorem b0o {p:Int} {c k:Nat} {rows:List (List Int)} (h:∀ r∈rows,r.getD c 0 % p=0):(solS p c (k+1) rows).length=p.toNat*(solS p (c+1) k rows).length:=by
 have e:=b0y (S:=solS p (c+1) k rows) (a0l p)
 rw[a0s] at e
 rw[← e]
 refine a5t (a3n _ _ _ _) (b2r (a3n _ _ _ _) (a3D p)) fun xs=>?_
 have hm:∀ r∈rows,∀ x d:Int,(r.getD c 0*x+d) % p=d % p:=fun r hr x d=>by
  rw[Int.add_emod,Int.mul_emod,h r hr,Int.zero_mul,Int.zero_emod,Int.zero_add,Int.emod_emod]
 constructor
 ·intro hx
  obtain⟨x,ys,rfl⟩:=b0n hx
  obtain⟨h1,h2,h3⟩:=a3S.mp hx
  exact List.mem_flatMap.mpr ⟨x,a0A.mpr h1,List.mem_map.mpr ⟨ys,a2a.mpr ⟨h2,fun r hr=>by rw[← hm r hr x];exact h3 r hr⟩,rfl⟩⟩
 ·intro hx
  obtain⟨x,h1,hx⟩:=List.mem_flatMap.mp hx
  obtain⟨ys,h2,rfl⟩:=List.mem_map.mp hx
  obtain⟨h3,h4⟩:=a2a.mp h2
  exact a3S.mpr ⟨a0A.mp h1,h3,fun r hr=>by rw[hm r hr x];exact h4 r hr⟩
theorem b2c {p:Int} (hp:a2T p) {c k n:Nat} {rows:List (List Int)} {f:List Int} (hf:f∈rows) (hn:∀ r∈rows,r.length=n) (h:f.getD c 0 % p≠0):(solS p c (k+1) rows).length=(solS p (c+1) k (rows.map fun r=>clr p c r f)).length:=by
 have e1:∀ r∈rows,∀ xs,dotF (clr p c r f) (c+1) xs % p=(f.getD c 0*dotF r (c+1) xs - r.getD c 0*dotF f (c+1) xs) % p:=fun r hr xs=>b0c (hn r hr) (hn f hf) xs (c+1)
 refine Nat.le_antisymm ?_ ?_
 ·refine b2P (a3n _ _ _ _) List.tail (fun xs hx=>?_) fun xs hx ys hy e=>?_
  ·obtain⟨x,ys,rfl⟩:=b0n hx
   obtain⟨h1,h2,h3⟩:=a3S.mp hx
   refine a2a.mpr ⟨h2,fun q hq=>?_⟩
   obtain⟨r,hr,rfl⟩:=List.mem_map.mp hq
   show dotF (clr p c r f) (c+1) ys % p=0
   rw[e1 r hr ys]
   have a1:=h3 r hr
   have a2:=h3 f hf
   have e2:f.getD c 0*dotF r (c+1) ys - r.getD c 0*dotF f (c+1) ys=f.getD c 0*(r.getD c 0*x+dotF r (c+1) ys) - r.getD c 0*(f.getD c 0*x+dotF f (c+1) ys):=by grind
   rw[e2,Int.sub_emod,Int.mul_emod,a1,Int.mul_emod (r.getD c 0),a2]
   simp
  ·obtain⟨x,us,rfl⟩:=b0n hx
   obtain⟨y,vs,rfl⟩:=b0n hy
   obtain⟨h1,h2,h3⟩:=a3S.mp hx
   obtain⟨g1,g2,g3⟩:=a3S.mp hy
   have e:us=vs:=e
   subst e
   have a:=a7A ((h3 f hf).trans (g3 f hf).symm)
   have e2:f.getD c 0*x+dotF f (c+1) us - (f.getD c 0*y+dotF f (c+1) us)=f.getD c 0*(x - y):=by grind
   rw[e2] at a
   rw[a3E h1 g1 (a4M (a1C hp h a))]
 ·have key:∀ ys∈solS p (c+1) k (rows.map fun r=>clr p c r f),∃ x,x :: ys∈solS p c (k+1) rows:=fun ys hy=>by
   obtain⟨h2,h3⟩:=a2a.mp hy
   obtain⟨x,hx,e⟩:=a6x hp h (-dotF f (c+1) ys)
   refine⟨x,a3S.mpr ⟨hx,h2,fun r hr=>?_⟩⟩
   have a:=h3 _ (List.mem_map.mpr ⟨r,hr,rfl⟩)
   rw[e1 r hr ys] at a
   refine a1C hp h (a:=f.getD c 0) ?_
   have e2:f.getD c 0*(r.getD c 0*x+dotF r (c+1) ys)=(f.getD c 0*dotF r (c+1) ys - r.getD c 0*dotF f (c+1) ys)+r.getD c 0*(f.getD c 0*x - -dotF f (c+1) ys):=by grind
   rw[e2,Int.add_emod,a,Int.mul_emod,e]
   simp
  have cho:∀ ys:List Int,∃ x:Int,ys∈solS p (c+1) k (rows.map fun r=>clr p c r f)→x :: ys∈solS p c (k+1) rows:=fun ys=>by
   by_cases hy:ys∈solS p (c+1) k (rows.map fun r=>clr p c r f)
   ·obtain⟨x,hx⟩:=key ys hy
    exact⟨x,fun _=>hx⟩
   ·exact⟨0,fun z=>absurd z hy⟩
  exact b2P (a3n _ _ _ _) (fun ys=>(cho ys).choose :: ys) (fun ys hy=>(cho ys).choose_spec hy) fun x hx y hy e=>by injection e
noncomputable def rkL (p:Int):Nat→Nat→List (List Int)→Nat
 | 0,_,_=>0
 | k+1,c,rows=>match rows.filter (fun r=>decide (r.getD c 0 % p≠0)) with
   | []=>rkL p k (c+1) rows
   | f :: _=>rkL p k (c+1) (rows.map fun r=>clr p c r f)+1
theorem a4R {p:Int} (hp:a2T p) {n:Nat}:∀ (k c:Nat) (rows:List (List Int)),(∀ r∈rows,r.length=n)→rkL p k c rows≤k∧(solS p c k rows).length*p.toNat ^ rkL p k c rows=p.toNat ^ k
 | 0,c,rows,_=>by
   refine⟨Nat.le_refl _,?_⟩
   have:solS p c 0 rows=[[]]:=by
    unfold solS alR
    rw[List.filter_cons,if_pos (by
     rw[List.all_eq_true]
     intro r _
     exact decide_eq_true (by show (0:Int) % p=0;exact Int.zero_emod p))]
    rfl
   rw[this];rfl
 | k + 1,c,rows,hn=>by
   unfold rkL
   split
   ·rename_i e
    have hz:∀ r∈rows,r.getD c 0 % p=0:=fun r hr=>by
     have:=List.filter_eq_nil_iff.mp e r hr
     simpa using this
    obtain⟨h1,h2⟩:=a4R hp k (c+1) rows hn
    refine⟨by lia,?_⟩
    rw[b0o hz,Nat.mul_assoc,h2,Nat.pow_succ,Nat.mul_comm]
   ·rename_i f t e
    have hf:f∈rows.filter fun r=>decide (r.getD c 0 % p≠0):=by rw[e];exact .head _
    obtain⟨f1,f2⟩:=List.mem_filter.mp hf
    have hn2:∀ r∈rows.map (fun r=>clr p c r f),r.length=n:=fun r hr=>by
     obtain⟨q,hq,rfl⟩:=List.mem_map.mp hr
     unfold clr
     rw[List.length_zipWith,hn q hq,hn f f1,Nat.min_self]
    obtain⟨h1,h2⟩:=a4R hp k (c+1) _ hn2
    refine⟨by lia,?_⟩
    rw[b2c hp f1 hn (by simpa using f2),Nat.pow_succ,← Nat.mul_assoc,h2,Nat.pow_succ]
noncomputable def linT (p:Int):List (List Int):=(a0l p).map fun a=>(a0l p).map fun b=>(2*b - a) % p
theorem a7E {p:Int}:(linT p).length=p.toNat:=by unfold linT;rw[List.length_map,a0s]
theorem range0_get {p a:Int} (h:InM p a):(a0l p)[a.toNat]?=some a:=by
 unfold a0l
 rw[List.getElem?_map,List.getElem?_range (by obtain⟨h1,h2⟩:=h;lia)]
 show some ((a.toNat:Nat):Int)=some a
 rw[show ((a.toNat:Nat):Int)=a by obtain⟨h1,h2⟩:=h;lia]
theorem a4B {p a b:Int} (ha:InM p a) (hb:InM p b):g2 (linT p) a b=(2*b - a) % p:=by
 have e:(linT p).getD a.toNat []=(a0l p).map fun b=>(2*b - a) % p:=by
  unfold linT
  rw[List.getD_eq_getElem?_getD,List.getElem?_map,range0_get ha];rfl
 unfold g2
 rw[e]
 unfold gI
 rw[List.getD_eq_getElem?_getD,List.getElem?_map,range0_get hb];rfl
theorem a3H {p:Int} (hp:1≤p):((linT p).length:Int)=p:=by rw[a7E];lia
theorem a4g {p x:Int} (hp:1≤p):InM p (x % p):=⟨Int.emod_nonneg _ (by lia),Int.emod_lt_of_pos _ (by lia)⟩
theorem a7D {p:Int} (hp:1≤p):TabQ (linT p):=by
 have hm:=a3H hp
 refine⟨by rw[a7E];lia,fun r hr=>?_,fun c hc=>?_,fun c hc=>?_,fun a b c ha hb hc=>?_⟩
 ·obtain⟨a,_,rfl⟩:=List.mem_map.mp hr
  rw[List.length_map,a0s,a7E]
 ·rw[hm] at hc
  rw[a4B hc hc,show 2*c - c=c by lia]
  exact Int.emod_eq_of_lt hc.1 hc.2
 ·rw[hm] at hc⊢
  have e:(linT p).map (fun r=>gI r c)=(a0l p).map fun a=>(2*c - a) % p:=by
   unfold linT
   rw[List.map_map]
   refine List.map_congr_left fun a _=>?_
   show gI ((a0l p).map fun b=>(2*b - a) % p) c=_
   unfold gI
   rw[List.getD_eq_getElem?_getD,List.getElem?_map,range0_get hc];rfl
  rw[e]
  refine a4l _ _ ?_ (fun y hy=>?_) (by rw[List.length_map];exact Nat.le_refl _)
  ·refine List.pairwise_map.mpr (List.Pairwise.imp_of_mem (fun hx hy h z=>h ?_) (a3D p))
   refine a3E (a0A.mp hx) (a0A.mp hy) ?_
   have a:=a7A z
   have a2:=Int.emod_eq_zero_of_dvd (Int.dvd_neg.mpr (Int.dvd_of_emod_eq_zero a))
   exact a4M (by rwa [show ∀ u v:Int,-(2*c - u - (2*c - v))=u - v from fun u v=>by lia] at a2)
  ·obtain⟨a,_,rfl⟩:=List.mem_map.mp hy
   exact a0A.mpr (a4g hp)
 ·rw[hm] at ha hb hc
  have key:∀ x y:Int,(2*(x % p) - y % p) % p=(2*x - y) % p:=fun x y=>by
   rw[Int.sub_emod,Int.mul_emod,Int.emod_emod,Int.emod_emod,← Int.mul_emod,← Int.sub_emod]
  have key2:∀ x y:Int,(2*x - y % p) % p=(2*x - y) % p:=fun x y=>by
   rw[Int.sub_emod,Int.emod_emod,← Int.sub_emod]
  rw[a4B ha hb,a4B ha hc,a4B hb hc,a4B (a4g hp) hc,a4B (a4g hp) (a4g hp),key,key2]
  congr 1
  lia
noncomputable def tw2 (a b:List Int):List Int:=List.zipWith (fun x y=>2*x - y) a b
theorem b5T {a b:List Int} (h:a.length=b.length) (j:Nat):(tw2 a b).getD j 0=2*a.getD j 0 - b.getD j 0:=by
 unfold tw2
 rw[List.getD_eq_getElem?_getD,List.getElem?_zipWith,List.getD_eq_getElem?_getD,List.getD_eq_getElem?_getD]
 by_cases c:j < a.length
 ·rw[List.getElem?_eq_getElem c,List.getElem?_eq_getElem (by lia:j < b.length)];rfl
 ·rw[List.getElem?_eq_none (by lia:a.length≤j),List.getElem?_eq_none (by lia:b.length≤j)];simp
theorem a9S {a b:List Int} (h:a.length=b.length):∀ (xs:List Int) (c:Nat),dotF (tw2 a b) c xs=2*dotF a c xs - dotF b c xs
 | [],c=>rfl
 | x :: xs,c=>by
   show (tw2 a b).getD c 0*x+dotF (tw2 a b) (c+1) xs=2*(a.getD c 0*x+dotF a (c+1) xs) - (b.getD c 0*x+dotF b (c+1) xs)
   rw[a9S h xs (c+1),b5T h]
   grind
noncomputable def sh1 (rows:List (List Int)) (l:Int):List (List Int) :=
 let a:=rows.getD (l.natAbs - 1) []
 let b:=rows.getD l.natAbs []
 if l > 0 then (rows.set (l.natAbs - 1) b).set l.natAbs (tw2 b a) else (rows.set (l.natAbs - 1) (tw2 a b)).set l.natAbs a
noncomputable def shL (rows:List (List Int)) (ws:List Int):List (List Int):=ws.foldl sh1 rows
noncomputable def unR (n:Nat):List (List Int):=(List.range n).map fun i=>(List.range n).map fun j=>if i=j then (1:Int) else 0
noncomputable def Tell (p:Int) (n:Nat) (x:List Int) (rows:List (List Int)) (cs:List Int):Prop:=rows.length=n∧cs.length=n∧InA p cs∧∀ i,i < n→(rows.getD i []).length=n∧dotF (rows.getD i []) 0 x % p=cs.getD i 0
theorem a4D {α:Type} {xs:List α} {k j:Nat} {u v z:α} (hk:k+1 < xs.length):((xs.set k u).set (k+1) v).getD j z=if j=k+1 then v else if j=k then u else xs.getD j z:=by
 rw[List.getD_eq_getElem?_getD,List.getD_eq_getElem?_getD]
 by_cases c:j=k+1
 ·subst c
  rw[if_pos rfl,List.getElem?_set_self (by rw[List.length_set];exact hk)];rfl
 ·rw[if_neg c,List.getElem?_set_ne (fun z=>c z.symm)]
  by_cases c2:j=k
  ·subst c2
   rw[if_pos rfl,List.getElem?_set_self (by lia)];rfl
  ·rw[if_neg c2,List.getElem?_set_ne (fun z=>c2 z.symm)]
theorem b5x {p a b:Int} (hp:1≤p) (ha:InM p a) (hb:InM p b):iv (linT p) b a=(2*a - b) % p:=by
 have h:=a7D hp
 have hm:=a3H hp
 have e:g2 (linT p) ((2*a - b) % p) a=b:=by
  rw[a4B (a4g hp) ha,Int.sub_emod,Int.emod_emod,← Int.sub_emod,show 2*a - (2*a - b)=b by lia]
  exact Int.emod_eq_of_lt hb.1 hb.2
 have:=h.iv_g (a:=(2*a - b) % p) (c:=a) (by rw[hm];exact a4g hp) (by rw[hm];exact ha)
 rwa [e] at this
theorem b1Y {p:Int} (hp:1≤p) {n:Nat} {x:List Int} {rows:List (List Int)} {cs:List Int} {l:Int} (h:Tell p n x rows cs) (hl:a1w n l):Tell p n x (sh1 rows l) (dn1 (linT p) cs l):=by
 obtain⟨h1,h2,h3,h4⟩:=h
 obtain⟨k,hk⟩:∃ k:Nat,l.natAbs=k+1:=⟨l.natAbs - 1,by obtain⟨a,b⟩:=hl;lia⟩
 have hkn:k+1 < n:=by obtain⟨a,b⟩:=hl;lia
 have hm:=a3H hp
 obtain⟨a1,a2⟩:=h4 k (by lia)
 obtain⟨b1,b2⟩:=h4 (k+1) hkn
 have ma:InM p (cs.getD k 0):=h3 _ (by rw[List.getD_eq_getElem?_getD,List.getElem?_eq_getElem (by lia:k < cs.length)];exact List.getElem_mem _)
 have mb:InM p (cs.getD (k+1) 0):=h3 _ (by rw[List.getD_eq_getElem?_getD,List.getElem?_eq_getElem (by lia:k+1 < cs.length)];exact List.getElem_mem _)
 have hin:InA p (dn1 (linT p) cs l):=by
  have:=b3p (a7D hp) (cs:=cs) (l:=l) (by rw[h2];exact hl) (by rw[hm];exact h3)
  rwa [hm] at this
 have hc:∀ u v:List Int,(2*dotF u 0 x - dotF v 0 x) % p=(2*(dotF u 0 x % p) - dotF v 0 x % p) % p:=fun u v=>by
  rw[Int.sub_emod,Int.mul_emod,Int.sub_emod (2*(dotF u 0 x % p)),Int.mul_emod 2 (dotF u 0 x % p),Int.emod_emod,Int.emod_emod]
 refine⟨?_,by rw[a4b];exact h2,hin,fun i hi=>?_⟩
 ·unfold sh1
  dsimp only
  split
  ·rw[List.length_set,List.length_set];exact h1
  ·rw[List.length_set,List.length_set];exact h1
 ·have ed:(dn1 (linT p) cs l).getD i 0=if i=k+1 then pr2 (linT p) l (cs.getD k 0) (cs.getD (k+1) 0) else if i=k then pr1 (linT p) l (cs.getD k 0) (cs.getD (k+1) 0) else cs.getD i 0:=by
   unfold dn1
   rw[hk,Nat.add_sub_cancel,a4D (by lia)]
  rw[ed]
  unfold sh1 pr1 pr2
  dsimp only
  rw[hk,Nat.add_sub_cancel]
  by_cases c:l > 0
  ·rw[if_pos c,if_pos c,if_pos c,a4D (by lia)]
   by_cases c1:i=k+1
   ·rw[if_pos c1,if_pos c1]
    refine⟨by unfold tw2;rw[List.length_zipWith,a1,b1,Nat.min_self],?_⟩
    rw[a9S (b1.trans a1.symm),hc,a2,b2,a4B ma mb]
   ·rw[if_neg c1,if_neg c1]
    by_cases c2:i=k
    ·rw[if_pos c2,if_pos c2];exact⟨b1,b2⟩
    ·rw[if_neg c2,if_neg c2];exact h4 i hi
  ·rw[if_neg c,if_neg c,if_neg c,a4D (by lia)]
   by_cases c1:i=k+1
   ·rw[if_pos c1,if_pos c1];exact⟨a1,a2⟩
   ·rw[if_neg c1,if_neg c1]
    by_cases c2:i=k
    ·rw[if_pos c2,if_pos c2]
     refine⟨by unfold tw2;rw[List.length_zipWith,a1,b1,Nat.min_self],?_⟩
     rw[a9S (a1.trans b1.symm),hc,a2,b2,b5x hp ma mb]
    ·rw[if_neg c2,if_neg c2];exact h4 i hi
theorem a4q {p:Int} (hp:1≤p) {n:Nat} {x:List Int}:∀ {ws:List Int} {rows:List (List Int)} {cs:List Int},Tell p n x rows cs→a0f n ws→Tell p n x (shL rows ws) (dn (linT p) ws cs)
 | [],_,_,h,_=>h
 | l :: w,rows,cs,h,hw=>a4q (ws:=w) hp (b1Y hp h (hw l (.head _))) fun y hy=>hw y (.tail _ hy)
theorem b0T (i:Nat):∀ (xs:List Int) (r:List Int) (c:Nat),(∀ j,r.getD (c+j) 0=if j < xs.length∧i=c+j then 1 else 0)→dotF r c xs=if c≤i then xs.getD (i - c) 0 else 0
 | [],r,c,_=>by
   show (0:Int)=_
   split<;>rfl
 | x :: xs,r,c,h=>by
   have h0:=h 0
   rw[Nat.add_zero] at h0
   have ih:=b0T i xs r (c+1) (fun j=>by
    have:=h (j+1)
    rw[show c+(j+1)=c+1+j by lia] at this
    rw[this]
    by_cases e:j < xs.length∧i=c+1+j
    ·rw[if_pos e,if_pos ⟨by rw[List.length_cons];lia,e.2⟩]
    ·rw[if_neg e,if_neg (fun z=>e ⟨by have:=z.1;rw[List.length_cons] at this;lia,z.2⟩)])
   show r.getD c 0*x+dotF r (c+1) xs=_
   rw[ih,h0]
   by_cases e:i=c
   ·subst e
    rw[if_pos ⟨by rw[List.length_cons];lia,rfl⟩,if_neg (by lia),if_pos (Nat.le_refl _),Nat.sub_self,Int.one_mul,Int.add_zero];rfl
   ·rw[if_neg (fun z=>e z.2),Int.zero_mul,Int.zero_add]
    by_cases e2:c≤i
    ·rw[if_pos (by lia),if_pos e2,show i - c=i - (c+1)+1 by lia];rfl
    ·rw[if_neg (by lia),if_neg e2]
theorem b3o (i:Nat):∀ (xs:List Int) (r:List Int) (c:Nat),i < r.length→dotF (r.set i (r.getD i 0 - 1)) c xs=dotF r c xs - if c≤i then xs.getD (i - c) 0 else 0
 | [],r,c,_=>by
   show (0:Int)=0 - _
   split<;>rfl
 | x :: xs,r,c,h=>by
   have ih:=b3o i xs r (c+1) h
   have eg:(r.set i (r.getD i 0 - 1)).getD c 0=if c=i then r.getD i 0 - 1 else r.getD c 0:=by
    rw[List.getD_eq_getElem?_getD]
    by_cases e:c=i
    ·subst e
     rw[if_pos rfl,List.getElem?_set_self h];rfl
    ·rw[if_neg e,List.getElem?_set_ne (fun z=>e z.symm),← List.getD_eq_getElem?_getD]
   show (r.set i (r.getD i 0 - 1)).getD c 0*x+dotF (r.set i (r.getD i 0 - 1)) (c+1) xs=r.getD c 0*x+dotF r (c+1) xs - _
   rw[ih,eg]
   by_cases e:c=i
   ·subst e
    rw[if_pos rfl,if_neg (by lia),if_pos (Nat.le_refl _),Nat.sub_self]
    show (r.getD c 0 - 1)*x+(dotF r (c+1) xs - 0)=r.getD c 0*x+dotF r (c+1) xs - x
    rw[Int.sub_mul];lia
   ·rw[if_neg e]
    by_cases e2:c≤i
    ·rw[if_pos (by lia),if_pos e2,show i - c=i - (c+1)+1 by lia]
     show r.getD c 0*x+(dotF r (c+1) xs - xs.getD (i - (c+1)) 0)=r.getD c 0*x+dotF r (c+1) xs - xs.getD (i - (c+1)) 0
     lia
    ·rw[if_neg (by lia),if_neg e2];lia
noncomputable def minU (n:Nat) (rows:List (List Int)):List (List Int):=(List.range n).map fun i=>(rows.getD i []).set i ((rows.getD i []).getD i 0 - 1)
theorem a4L {p:Int} {n:Nat} {x:List Int} (h:x.length=n) (hA:InA p x):Tell p n x (unR n) x:=by
 refine⟨by unfold unR;rw[List.length_map,List.length_range],h,hA,fun i hi=>?_⟩
 have e:(unR n).getD i []=(List.range n).map fun j=>if i=j then (1:Int) else 0:=by
  unfold unR
  rw[List.getD_eq_getElem?_getD,List.getElem?_map,List.getElem?_range hi];rfl
 rw[e]
 refine⟨by rw[List.length_map,List.length_range],?_⟩
 rw[b0T i x _ 0 fun j=>by
  rw[Nat.zero_add,List.getD_eq_getElem?_getD,List.getElem?_map,h]
  by_cases c:j < n
  ·rw[List.getElem?_range c]
   show (if i=j then (1:Int) else 0)=_
   by_cases c2:i=j
   ·rw[if_pos c2,if_pos ⟨c,c2⟩]
   ·rw[if_neg c2,if_neg (fun z=>c2 z.2)]
  ·rw[List.getElem?_eq_none (by rw[List.length_range];lia),if_neg (fun z=>c z.1)];rfl]
 rw[if_pos (Nat.zero_le _),Nat.sub_zero]
 have hm:x.getD i 0∈x:=by rw[List.getD_eq_getElem?_getD,List.getElem?_eq_getElem (by lia:i < x.length)];exact List.getElem_mem _
 obtain⟨a,b⟩:=hA _ hm
 exact Int.emod_eq_of_lt a b
theorem b2d {p:Int} (hp:1≤p) {n:Nat} {ws:List Int} (hw:a0f n ws):(solS p 0 n (minU n (shL (unR n) ws))).length=(fixR (linT p) ws n).length:=by
 refine a5t (a3n _ _ _ _) (b3e _ _ _) fun x=>?_
 rw[a2a,a3Z,a3H hp]
 refine and_congr_right fun hx=>?_
 obtain⟨h1,h2,h3,h4⟩:=a4q hp (a4L hx.1 hx.2) hw
 have key:∀ i,i < n→dotF (((shL (unR n) ws).getD i []).set i (((shL (unR n) ws).getD i []).getD i 0 - 1)) 0 x % p=((dn (linT p) ws x).getD i 0 - x.getD i 0) % p:=fun i hi=>by
  obtain⟨a,b⟩:=h4 i hi
  rw[b3o i x _ 0 (by lia),if_pos (Nat.zero_le _),Nat.sub_zero,← b]
  generalize dotF ((shL (unR n) ws).getD i []) 0 x=D
  generalize x.getD i 0=y
  rw[Int.sub_emod (D % p) y,Int.emod_emod,← Int.sub_emod]
 have inx:∀ {y:List Int},y.length=n→InA p y→∀ i,i < n→InM p (y.getD i 0):=fun {y} hl hA i hi=>hA _ (by rw[List.getD_eq_getElem?_getD,List.getElem?_eq_getElem (by lia:i < y.length)];exact List.getElem_mem _)
 constructor
 ·intro h
  refine List.ext_getElem (h2.trans hx.1.symm) fun i i1 i2=>?_
  have hi:i < n:=by lia
  have a:=h _ (List.mem_map.mpr ⟨i,List.mem_range.mpr hi,rfl⟩)
  rw[key i hi] at a
  have e:=a3E (inx h2 h3 i hi) (inx hx.1 hx.2 i hi) (a4M a)
  rw[List.getD_eq_getElem?_getD,List.getD_eq_getElem?_getD,List.getElem?_eq_getElem i1,List.getElem?_eq_getElem i2] at e
  exact e
 ·intro h r hr
  obtain⟨i,hi,rfl⟩:=List.mem_map.mp hr
  rw[key i (List.mem_range.mp hi),h,Int.sub_self,Int.zero_emod]
noncomputable def a5p (p:Int) (n:Nat) (ws:List Int):Nat:=n - rkL p n 0 (minU n (shL (unR n) ws))
theorem a7B {n:Nat} {rows:List (List Int)} (h:∀ i,i < n→(rows.getD i []).length=n):∀ r∈minU n rows,r.length=n:=fun r hr=>by
 obtain⟨i,hi,rfl⟩:=List.mem_map.mp hr
 rw[List.length_set]
 exact h i (List.mem_range.mp hi)
theorem a6L {p:Int} (hp:a2T p) {n:Nat} {ws:List Int} (hw:a0f n ws):(fixR (linT p) ws n).length=p.toNat ^ a5p p n ws:=by
 have p1:1≤p:=by have:=hp.1;lia
 have ht:=a4q p1 (a4L (p:=p) (n:=n) (x:=List.replicate n 0) (List.length_replicate ..) (fun c hc=>by rw[List.eq_of_mem_replicate hc];exact⟨Int.le_refl _,by lia⟩)) hw
 obtain⟨h1,h2⟩:=a4R hp (n:=n) n 0 (minU n (shL (unR n) ws)) (a7B fun i hi=>(ht.2.2.2 i hi).1)
 rw[b2d p1 hw] at h2
 unfold a5p
 generalize rkL p n 0 (minU n (shL (unR n) ws))=k at h1 h2
 have e:p.toNat ^ n=p.toNat ^ (n - k)*p.toNat ^ k:=by rw[← Nat.pow_add,show n - k+k=n by lia]
 rw[e] at h2
 exact Nat.eq_of_mul_eq_mul_right (Nat.pow_pos (by lia)) h2
noncomputable def a0C (M:MH) (as:List Addr) (ls:List (List Int)):Prop:=as.length=ls.length∧∀ (i:Nat) (a:Addr) (l:List Int),as[i]?=some a→ls[i]?=some l→M a=some (.lst (l.map .int))
theorem a0C.sub {M M':MH} {as:List Addr} {ls:List (List Int)} (h:a0C M as ls) (s:Sub M M'):a0C M' as ls:=⟨h.1,fun i a l h1 h2=>s _ _ (h.2 i a l h1 h2)⟩
theorem a0C.nil {M:MH}:a0C M [] []:=⟨rfl,fun i a l z=>by simp at z⟩
theorem a0C.snoc {M:MH} {as:List Addr} {ls:List (List Int)} {a:Addr} {l:List Int} (h:a0C M as ls) (ha:M a=some (.lst (l.map .int))):a0C M (as++[a]) (ls++[l]):=by
 refine⟨by rw[List.length_append,List.length_append,h.1];rfl,fun i b k h1 h2=>?_⟩
 by_cases z:i < as.length
 ·rw[List.getElem?_append_left z] at h1
  rw[List.getElem?_append_left (by rw[← h.1];exact z)] at h2
  exact h.2 i b k h1 h2
 ·rw[List.getElem?_append_right (by lia)] at h1
  rw[List.getElem?_append_right (by rw[← h.1];lia),← h.1] at h2
  obtain⟨l1,e1⟩:=List.getElem?_eq_some_iff.mp h1
  have e:i - as.length=0:=by rw[List.length_singleton] at l1;lia
  rw[e] at h1 h2
  obtain rfl:=Option.some.inj h1
  obtain rfl:=Option.some.inj h2
  exact ha
theorem a0C.get {M:MH} {as:List Addr} {ls:List (List Int)} {i:Nat} {a:Addr} (h:a0C M as ls) (ha:as[i]?=some a):∃ l,ls[i]?=some l∧M a=some (.lst (l.map .int)):=by
 have hi:i < ls.length:=by rw[← h.1];exact (List.getElem?_eq_some_iff.mp ha).1
 exact⟨ls[i],List.getElem?_eq_getElem hi,h.2 i a _ ha (List.getElem?_eq_getElem hi)⟩
theorem a0C.set {M:MH} {as:List Addr} {ls:List (List Int)} {k:Nat} {x:Addr} {l:List Int} (h:a0C M as ls) (hx:M x=some (.lst (l.map .int))):a0C M (as.set k x) (ls.set k l):=by
 refine⟨by rw[List.length_set,List.length_set];exact h.1,fun i b m h1 h2=>?_⟩
 rw[List.getElem?_set] at h1 h2
 by_cases z:k=i
 ·rw[if_pos z] at h1 h2
  split at h1
  ·split at h2
   ·obtain rfl:=Option.some.inj h1
    obtain rfl:=Option.some.inj h2
    exact hx
   ·cases h2
  ·cases h1
 ·rw[if_neg z] at h1 h2
  exact h.2 i b m h1 h2
theorem a0C.mem {M:MH} {as:List Addr} {ls:List (List Int)} {a:Addr} (h:a0C M as ls) (ha:a∈as):∃ l,l∈ls∧M a=some (.lst (l.map .int)):=by
 obtain⟨i,hi⟩:=List.getElem?_of_mem ha
 obtain⟨l,e1,e2⟩:=h.get hi
 exact⟨l,List.mem_of_getElem? e1,e2⟩
theorem a0C.ne {M:MH} {as bs:List Addr} {ls:List (List Int)} {r:Addr} (h:a0C M as ls) (hr:M r=some (.lst (bs.map T.adr))) (hb:bs≠[]):r ∉ as:=fun z=>by
 obtain⟨l,_,e⟩:=h.mem z
 rw[hr] at e
 cases bs with
 | nil=>exact hb rfl
 | cons b bs=>cases l with
   | nil=>cases e
   | cons i l=>injection e with e;injection e with e;injection e with e _;cases e
theorem a0C.fresh {M:MH} {as:List Addr} {ls:List (List Int)} {q:Addr} (h:a0C M as ls) (hq:M q=none):q ∉ as:=fun z=>by
 obtain⟨l,_,e⟩:=h.mem z
 rw[hq] at e;cases e
theorem a0C.upd {M:MH} {as:List Addr} {ls:List (List Int)} {r:Addr} {o:MO} (h:a0C M as ls) (hr:r ∉ as):a0C (updM M r o) as ls:=⟨h.1,fun i a l h1 h2=>by
 rw[a0n (fun z=>hr (by rw[← z];exact List.mem_of_getElem? h1))];exact h.2 i a l h1 h2⟩
theorem a0C.put {M:MH} {as:List Addr} {ls:List (List Int)} {k:Nat} {a:Addr} {l:List Int} (h:a0C M as ls) (nd:as.Nodup) (ha:as[k]?=some a):a0C (updM M a (.lst (l.map .int))) as (ls.set k l):=by
 refine⟨by rw[List.length_set];exact h.1,fun i b m h1 h2=>?_⟩
 rw[List.getElem?_set] at h2
 by_cases z:k=i
 ·subst z
  rw[ha] at h1
  obtain rfl:=Option.some.inj h1
  rw[if_pos rfl] at h2
  split at h2
  ·obtain rfl:=Option.some.inj h2
   exact a0c
  ·cases h2
 ·rw[if_neg z] at h2
  have hne:b≠a:=fun e=>by
   subst e
   obtain⟨i1,i2⟩:=List.getElem?_eq_some_iff.mp h1
   obtain⟨k1,k2⟩:=List.getElem?_eq_some_iff.mp ha
   exact z ((List.getElem_inj nd).mp (k2.trans i2.symm))
  rw[a0n hne]
  exact h.2 i b m h1 h2
theorem ndix {α:Type} {l:List α}:l.Nodup↔∀ (i j:Nat) (a:α),l[i]?=some a→l[j]?=some a→i=j:=by
 constructor
 ·intro nd i j a h1 h2
  obtain⟨i1,i2⟩:=List.getElem?_eq_some_iff.mp h1
  obtain⟨k1,k2⟩:=List.getElem?_eq_some_iff.mp h2
  exact (List.getElem_inj nd).mp (i2.trans k2.symm)
 ·intro h
  refine List.pairwise_iff_getElem.mpr fun i j hi hj hij e=>?_
  have:=h i j l[i] (List.getElem?_eq_getElem hi) (by rw[List.getElem?_eq_getElem hj,e])
  lia
theorem a8v {α:Type} {l:List α} {k:Nat} {b q:α} (nd:l.Nodup) (hb:l[k+1]?=some b) (hq:q ∉ l):((l.set k b).set (k+1) q).Nodup:=by
 have h1:=(List.getElem?_eq_some_iff.mp hb).1
 refine ndix.mpr fun i j a hi hj=>?_
 have key:∀ i,((l.set k b).set (k+1) q)[i]?=if i=k+1 then some q else if i=k then some b else l[i]?:=fun i=>by
  by_cases c:i=k+1
  ·subst c;rw[if_pos rfl,List.getElem?_set_self (by rw[List.length_set];exact h1)]
  ·rw[if_neg c,List.getElem?_set_ne (fun z=>c z.symm)]
   by_cases c2:i=k
   ·subst c2;rw[if_pos rfl,List.getElem?_set_self (by lia)]
   ·rw[if_neg c2,List.getElem?_set_ne (fun z=>c2 z.symm)]
 have ix:=ndix.mp nd
 rw[key] at hi hj
 have bne:∀ i,l[i]?=some b→i=k+1:=fun i e=>ix i _ b e hb
 have qne:∀ i,l[i]?≠some q:=fun i e=>hq (List.mem_of_getElem? e)
 have bq:b≠q:=fun e=>hq (by rw[← e];exact List.mem_of_getElem? hb)
 by_cases c1:i=k+1
 ·rw[if_pos c1] at hi
  obtain rfl:=Option.some.inj hi
  by_cases c2:j=k+1
  ·rw[c1,c2]
  ·rw[if_neg c2] at hj
   by_cases c3:j=k
   ·rw[if_pos c3] at hj;exact absurd (Option.some.inj hj) bq
   ·rw[if_neg c3] at hj;exact absurd hj (qne j)
 ·rw [if_neg c1] at hi
  by_cases c2:i=k
  ·rw[if_pos c2] at hi
   obtain rfl:=Option.some.inj hi
   by_cases c3:j=k+1
   ·rw[if_pos c3] at hj;exact absurd (Option.some.inj hj).symm bq
   ·rw[if_neg c3] at hj
    by_cases c4:j=k
    ·rw[c2,c4]
    ·rw[if_neg c4] at hj;exact absurd (bne j hj) c3
  ·rw[if_neg c2] at hi
   by_cases c3:j=k+1
   ·rw[if_pos c3] at hj
    obtain rfl:=Option.some.inj hj
    exact absurd hi (qne i)
   ·rw[if_neg c3] at hj
    by_cases c4:j=k
    ·rw[if_pos c4] at hj
     obtain rfl:=Option.some.inj hj
     exact absurd (bne i hi) c1
    ·rw[if_neg c4] at hj;exact ix i j a hi hj
theorem a8w {α:Type} {l:List α} {k:Nat} {a q:α} (nd:l.Nodup) (ha:l[k]?=some a) (hk:k+1 < l.length) (hq:q ∉ l):((l.set k q).set (k+1) a).Nodup:=by
 refine ndix.mpr fun i j x hi hj=>?_
 have key:∀ i,((l.set k q).set (k+1) a)[i]?=if i=k+1 then some a else if i=k then some q else l[i]?:=fun i=>by
  by_cases c:i=k+1
  ·subst c;rw[if_pos rfl,List.getElem?_set_self (by rw[List.length_set];exact hk)]
  ·rw[if_neg c,List.getElem?_set_ne (fun z=>c z.symm)]
   by_cases c2:i=k
   ·subst c2;rw[if_pos rfl,List.getElem?_set_self (by lia)]
   ·rw[if_neg c2,List.getElem?_set_ne (fun z=>c2 z.symm)]
 have ix:=ndix.mp nd
 rw[key] at hi hj
 have bne:∀ i,l[i]?=some a→i=k:=fun i e=>ix i _ a e ha
 have qne:∀ i,l[i]?≠some q:=fun i e=>hq (List.mem_of_getElem? e)
 have bq:a≠q:=fun e=>hq (by rw[← e];exact List.mem_of_getElem? ha)
 by_cases c1:i=k+1
 ·rw[if_pos c1] at hi
  obtain rfl:=Option.some.inj hi
  by_cases c2:j=k+1
  ·rw[c1,c2]
  ·rw[if_neg c2] at hj
   by_cases c3:j=k
   ·rw[if_pos c3] at hj;exact absurd (Option.some.inj hj).symm bq
   ·rw[if_neg c3] at hj;exact absurd (bne j hj) c3
 ·rw [if_neg c1] at hi
  by_cases c2:i=k
  ·rw[if_pos c2] at hi
   obtain rfl:=Option.some.inj hi
   by_cases c3:j=k+1
   ·rw[if_pos c3] at hj;exact absurd (Option.some.inj hj) bq
   ·rw[if_neg c3] at hj
    by_cases c4:j=k
    ·rw[c2,c4]
    ·rw[if_neg c4] at hj;exact absurd hj (qne j)
  ·rw[if_neg c2] at hi
   by_cases c3:j=k+1
   ·rw[if_pos c3] at hj
    obtain rfl:=Option.some.inj hj
    exact absurd (bne i hi) c2
   ·rw[if_neg c3] at hj
    by_cases c4:j=k
    ·rw[if_pos c4] at hj
     obtain rfl:=Option.some.inj hj
     exact absurd hi (qne i)
    ·rw[if_neg c4] at hj;exact ix i j x hi hj
noncomputable def minK (i:Nat) (rows:List (List Int)):List (List Int):=(List.range rows.length).map fun j=>if j < i then (rows.getD j []).set j ((rows.getD j []).getD j 0 - 1) else rows.getD j []
theorem a3W {i:Nat} {rows:List (List Int)}:(minK i rows).length=rows.length:=by unfold minK;rw[List.length_map,List.length_range]
theorem a4A {i j:Nat} {rows:List (List Int)} (h:j < rows.length):(minK i rows)[j]?=some (if j < i then (rows.getD j []).set j ((rows.getD j []).getD j 0 - 1) else rows.getD j []):=by
 unfold minK
 rw[List.getElem?_map,List.getElem?_range h];rfl
theorem a8z {rows:List (List Int)}:minK 0 rows=rows:=by
 refine List.ext_getElem? fun j=>?_
 by_cases h:j < rows.length
 ·rw[a4A h,if_neg (by lia),List.getD_eq_getElem?_getD,List.getElem?_eq_getElem h];rfl
 ·rw[List.getElem?_eq_none (by rw[a3W];lia),List.getElem?_eq_none (by lia)]
theorem a8A {i:Nat} {rows:List (List Int)} {r:List Int} (h:rows[i]?=some r):minK (i+1) rows=(minK i rows).set i (r.set i (r.getD i 0 - 1)):=by
 have hi:=(List.getElem?_eq_some_iff.mp h).1
 refine List.ext_getElem? fun j=>?_
 by_cases hj:j < rows.length
 ·rw[a4A hj,List.getElem?_set]
  by_cases z:i=j
  ·subst z
   rw[if_pos (Nat.lt_succ_self i),if_pos rfl,if_pos (by rw[a3W];exact hj),List.getD_eq_getElem?_getD,h];rfl
  ·rw[if_neg z,a4A hj]
   by_cases c:j < i
   ·rw[if_pos c,if_pos (by lia)]
   ·rw[if_neg c,if_neg (by lia)]
 ·rw[List.getElem?_eq_none (by rw[a3W];lia),List.getElem?_eq_none (by rw[List.length_set,a3W];lia)]
theorem b0G {n:Nat} {rows:List (List Int)} (h:rows.length=n):minK n rows=minU n rows:=by
 unfold minK minU
 rw[h]
 refine List.map_congr_left fun j hj=>?_
 rw[if_pos (List.mem_range.mp hj)]
theorem a9o {n:Nat}:(unR n).length=n:=by unfold unR;rw[List.length_map,List.length_range]
theorem b1S {n i:Nat} (h:i < n):(unR n)[i]?=some ((List.range n).map fun j=>if i=j then (1:Int) else 0):=by
 unfold unR
 rw[List.getElem?_map,List.getElem?_range h];rfl
noncomputable def RB (n:Nat) (B:Nat) (rows:List (List Int)):Prop:=rows.length=n∧∀ r∈rows,r.length=n∧∀ x∈r,x.natAbs≤B
theorem RB.mono {n B C:Nat} {rows:List (List Int)} (h:RB n B rows) (s:B≤C):RB n C rows:=⟨h.1,fun r hr=>⟨(h.2 r hr).1,fun x hx=>Nat.le_trans ((h.2 r hr).2 x hx) s⟩⟩
theorem a6s (n:Nat):RB n 1 (unR n):=by
 refine⟨a9o,fun r hr=>?_⟩
 obtain⟨i,_,rfl⟩:=List.mem_map.mp hr
 refine⟨by rw[List.length_map,List.length_range],fun x hx=>?_⟩
 obtain⟨j,_,rfl⟩:=List.mem_map.mp hx
 split<;>decide
theorem b5o {n B:Nat} {a b:List Int} (ha:a.length=n∧∀ x∈a,x.natAbs≤B) (hb:b.length=n∧∀ x∈b,x.natAbs≤B):(tw2 a b).length=n∧∀ x∈tw2 a b,x.natAbs≤3*B:=by
 refine⟨by unfold tw2;rw[List.length_zipWith,ha.1,hb.1];exact Nat.min_self _,fun x hx=>?_⟩
 obtain⟨j,hj⟩:=List.getElem?_of_mem hx
 unfold tw2 at hj
 rw[List.getElem?_zipWith] at hj
 cases eu:a[j]? with
 | none=>rw[eu] at hj;cases hj
 | some y=>cases ev:b[j]? with
   | none=>rw[eu,ev] at hj;cases hj
   | some z =>
     rw[eu,ev] at hj
     obtain rfl:=(Option.some.inj hj).symm
     have h1:=ha.2 y (List.mem_of_getElem? eu)
     have h2:=hb.2 z (List.mem_of_getElem? ev)
     lia
theorem RB.row {n B k:Nat} {rows:List (List Int)} (h:RB n B rows) (hk:k < n):(rows.getD k []).length=n∧∀ x∈rows.getD k [],x.natAbs≤B:=by
 rw[List.getD_eq_getElem?_getD,List.getElem?_eq_getElem (by rw[h.1];exact hk)]
 exact h.2 _ (List.getElem_mem _)
theorem RB.set {n B k:Nat} {rows:List (List Int)} {r:List Int} (h:RB n B rows) (hr:r.length=n∧∀ x∈r,x.natAbs≤B):RB n B (rows.set k r):=⟨by rw[List.length_set];exact h.1,fun q hq=>by
 rcases List.mem_or_eq_of_mem_set hq with z | rfl
 ·exact h.2 q z
 ·exact hr⟩
theorem b8k {n B:Nat} {rows:List (List Int)} {l:Int} (h:RB n B rows) (hl:a1w n l):RB n (3*B) (sh1 rows l):=by
 obtain⟨h1,h2⟩:=hl
 have ra:=h.row (k:=l.natAbs - 1) (by lia)
 have rb:=h.row (k:=l.natAbs) (by lia)
 have up:∀ {r:List Int},(r.length=n∧∀ x∈r,x.natAbs≤B)→r.length=n∧∀ x∈r,x.natAbs≤3*B:=fun z=>⟨z.1,fun x hx=>by have:=z.2 x hx;lia⟩
 have hm:=h.mono (show B≤3*B by lia)
 unfold sh1
 dsimp only
 split
 ·exact (hm.set (up rb)).set (b5o rb ra)
 ·exact (hm.set (b5o ra rb)).set (up ra)
theorem b0p (rows:List (List Int)) (ws:List Int) (l:Int):shL rows (ws++[l])=sh1 (shL rows ws) l:=by unfold shL;rw[List.foldl_append];rfl
theorem a6v {n:Nat}:∀ {ws:List Int} {B:Nat} {rows:List (List Int)},RB n B rows→a0f n ws→RB n (3 ^ ws.length*B) (shL rows ws)
 | [],B,rows,h,_=>by rw[List.length_nil,Nat.pow_zero,Nat.one_mul];exact h
 | l :: w,B,rows,h,hw=>by
   have:=a6v (ws:=w) (b8k h (hw l (.head _))) fun y hy=>hw y (.tail _ hy)
   rw[List.length_cons,Nat.pow_succ,Nat.mul_assoc]
   exact this
theorem b9B {m:Int} (hm:0 < m) (h97:m≤97) {n c:Nat} {a b:List Int} (ha:a.length=n) (hb:b.length=n):(clr m c a b).length=n∧∀ x∈clr m c a b,x.natAbs≤97:=by
 unfold clr
 refine⟨by rw[List.length_zipWith,ha,hb,Nat.min_self],fun x hx=>?_⟩
 obtain⟨j,hj⟩:=List.getElem?_of_mem hx
 rw[List.getElem?_zipWith] at hj
 cases eu:a[j]? with
 | none=>rw[eu] at hj;cases hj
 | some y=>cases ev:b[j]? with
   | none=>rw[eu,ev] at hj;cases hj
   | some z =>
     rw[eu,ev] at hj
     obtain rfl:=(Option.some.inj hj).symm
     generalize y*b.getD c 0 - z*a.getD c 0=e
     have:=Int.emod_nonneg e (show m≠0 by lia)
     have:=Int.emod_lt_of_pos e hm
     lia
theorem b2j {p:Int}:∀ (k c:Nat) (rows:List (List Int)),rkL p k c rows≤k
 | 0,_,_=>Nat.le_refl _
 | k+1,c,rows=>by
   unfold rkL
   split
   ·have:=b2j (p:=p) k (c+1) rows
    lia
   ·rename_i f t e
    have:=b2j (p:=p) k (c+1) (rows.map fun r=>clr p c r f)
    lia
theorem a8g {i:Int} {j} {pos:Pos} {rest:List Expr} {env:Env}:starEach (.Constant (.int i) j pos :: rest) env=(false,eval (.Constant (.int i) j pos) env) :: starEach rest env:=rfl
theorem a_I {X:Cx} {i:Int} {j} {pos:Pos} {es:List Expr} {t:TA3} (hr:HA X es t):HA X (.Constant (.int i) j pos :: es) (b0k (tK (.int i)) t):=a0b a0g hr (hs:=a8g)
noncomputable def PwI (a b:Nat) (p:Po):Prop:=∀ x∈p,-(a:Int)≤x.1∧x.1≤b
theorem PwI.mono {a b c d:Nat} {p:Po} (h:PwI a b p) (h1:a≤c) (h2:b≤d):PwI c d p:=fun x hx=>by have:=h x hx;lia
theorem b7z {a b:Nat} {p q:Po} (hp:PwI a b p) (hq:PwI a b q):PwI a b (addP p q):=fun x hx=>by
 have key:∀ (m:Po),(∀ y∈m,-(a:Int)≤y.1∧y.1≤b)→∀ y∈norm m,-(a:Int)≤y.1∧y.1≤b:=fun m hm y hy=>by
  have h1:co (norm m) y.1=y.2:=a6d (a0K m).1 hy
  by_cases c:∃ z∈m,z.1=y.1
  ·obtain⟨z,hz,e⟩:=c
   rw[← e];exact hm z hz
  ·rw[a1h,a3e fun z hz e=>c ⟨z,hz,e⟩] at h1
   exact absurd h1.symm ((a0K m).2 y hy)
 unfold addP at hx
 refine key _ (fun y hy=>?_) x hx
 rcases List.mem_append.mp hy with z | z
 ·exact hp y z
 ·exact hq y z
theorem b5m {a b:Nat} {m:Po} (hm:PwI a b m):PwI a b (norm m):=fun y hy=>by
 have h1:co (norm m) y.1=y.2:=a6d (a0K m).1 hy
 by_cases c:∃ z∈m,z.1=y.1
 ·obtain⟨z,hz,e⟩:=c
  rw[← e];exact hm z hz
 ·rw[a1h,a3e fun z hz e=>c ⟨z,hz,e⟩] at h1
  exact absurd h1.symm ((a0K m).2 y hy)
theorem b7y {a b c d:Nat} {p q:Po} (hp:PwI a b p) (hq:PwI c d q):PwI (a+c) (b+d) (a0X p q):=by
 unfold a0X
 refine b5m fun y hy=>?_
 unfold rawM at hy
 obtain⟨u,hu,hy⟩:=List.mem_flatMap.mp hy
 obtain⟨v,hv,rfl⟩:=List.mem_map.mp hy
 have h1:=hp u hu
 have h2:=hq v hv
 dsimp only
 lia
noncomputable def span (a b:Nat):List Int:=(List.range (a+b+1)).map fun (i:Nat)=>((i:Int) - (a:Int))
theorem a7d (a b:Nat):(span a b).length=a+b+1:=by unfold span;rw[List.length_map,List.length_range]
theorem a5u {a b:Nat} {x:Int} (h:-(a:Int)≤x∧x≤b):x∈span a b:=List.mem_map.mpr ⟨(x+(a:Int)).toNat,List.mem_range.mpr (by lia),by show (((x+(a:Int)).toNat:Nat):Int) - (a:Int)=x;lia⟩
theorem CanP.lenI {p:Po} (h:CanP p) {a b:Nat} (hb:PwI a b p):p.length≤a+b+1:=by
 have h1:(p.map Prod.fst).Nodup:=List.pairwise_map.mpr (h.1.imp fun h z=>Int.ne_of_lt h z)
 have h2:(p.map Prod.fst).length≤(span a b).length:=List.Nodup.length_le_of_subset h1 fun k hk=>by
  obtain⟨x,hx,rfl⟩:=List.mem_map.mp hk
  exact a5u (hb x hx)
 rwa [List.length_map,a7d] at h2
noncomputable def Sml (p:Po):Prop:=∀ x∈p,x.2.natAbs < 2 ^ 64
theorem b3Z {a b c d:Nat} {p q:Po} (hp:PwI a b p) (hq:PwI c d q):∀ x∈p,∀ y∈q,x.1+y.1∈span (a+c) (b+d):=fun x hx y hy=>a5u (by
 have h1:=hp x hx
 have h2:=hq y hy
 lia)
noncomputable def GdI (a b:Nat) (p:Po):Prop:=CanP p∧PwI a b p
theorem GdI.add {a b:Nat} {p q:Po} (hp:GdI a b p) (hq:GdI a b q):GdI a b (addP p q):=⟨a0K _,b7z hp.2 hq.2⟩
theorem GdI.mul {a b c d:Nat} {p q:Po} (hp:GdI a b p) (hq:GdI c d q):GdI (a+c) (b+d) (a0X p q):=⟨a0K _,b7y hp.2 hq.2⟩
theorem GdI.mono {a b c d:Nat} {p:Po} (hp:GdI a b p) (h1:a≤c) (h2:b≤d):GdI c d p:=⟨hp.1,hp.2.mono h1 h2⟩
theorem a7L:∀ c,GdI 0 0 (sgnP c):=fun c=>by
 obtain⟨h1,h2,_⟩:=a7I c
 exact⟨h1,fun x hx=>by have:=h2 x hx;lia⟩
theorem b0M:GdI 0 0 [(0,-1)]:=⟨⟨by decide,by decide⟩,by unfold PwI;decide⟩
theorem b7g (a b:Nat):GdI a b []:=⟨⟨.nil,fun _ z=>absurd z List.not_mem_nil⟩,fun _ z=>absurd z List.not_mem_nil⟩
theorem b3a (r c:Int):GdI 0 0 (oneP r c):=by
 unfold oneP
 split
 ·exact⟨⟨by decide,by decide⟩,by unfold PwI;decide⟩
 ·exact⟨⟨by decide,by decide⟩,by unfold PwI;decide⟩
noncomputable def b0g (n a b:Nat) (rs:List (List Po)):Prop:=rs.length=n∧∀ ps∈rs,ps.length=n∧∀ p∈ps,GdI a b p∧Sml p
theorem a4n {n a b c:Nat} {rs:List (List Po)} (h:∀ ps∈rs,ps.length=n+1∧∀ p∈ps,GdI a b p∧Sml p) (hc:c < n+1) (hl:rs.length=n):b0g n a b (a2g c rs):=by
 refine⟨by unfold a2g;rw[List.length_map];exact hl,fun ps hps=>?_⟩
 unfold a2g at hps
 obtain⟨qs,hq,rfl⟩:=List.mem_map.mp hps
 obtain⟨h1,h2⟩:=h qs hq
 refine⟨by rw[List.length_append,List.length_take,List.length_drop,h1];lia,fun p hp=>?_⟩
 rcases List.mem_append.mp hp with z | z
 ·exact h2 p (List.mem_of_mem_take z)
 ·exact h2 p (List.mem_of_mem_drop z)
theorem a4m {a b m:Nat} {ps:List Po} {f:Nat→Po} (hp:∀ p∈ps,GdI a b p∧Sml p) (hf:∀ c,c < ps.length→GdI (m*a) (m*b) (f c)):∀ c,c≤ps.length→GdI ((m+1)*a) ((m+1)*b) ((List.range c).foldl (a4N ps f) [])
 | 0,_=>b7g _ _
 | c + 1,h=>by
   rw[a4Z]
   have ih:=a4m hp hf c (by lia)
   unfold a4N
   split
   ·exact ih
   ·have hpc:GdI a b (ps.getD c []):=by
     rw[List.getD_eq_getElem?_getD,List.getElem?_eq_getElem (by lia:c < ps.length)]
     exact (hp _ (List.getElem_mem _)).1
    have h1:=(hpc.mul (hf c (by lia))).mul (a7L c)
    exact ih.add (h1.mono (by rw[Nat.add_mul];lia) (by rw[Nat.add_mul];lia))
theorem a5c {a b:Nat}:∀ (m:Nat) {rs:List (List Po)},b0g m a b rs→GdI (m*a) (m*b) (detP (m+1) rs)
 | 0,rs,h=>by
   obtain rfl:=List.eq_nil_of_length_eq_zero h.1
   show GdI (0*a) (0*b) [(0,1)]
   rw[Nat.zero_mul,Nat.zero_mul]
   exact⟨⟨by decide,by decide⟩,by unfold PwI;decide⟩
 | m + 1,rs,h=>by
   cases rs with
   | nil=>exact absurd h.1 (by simp)
   | cons ps rs =>
     obtain⟨g1,g2⟩:=h.2 ps (.head _)
     have hl:rs.length=m:=by have:=h.1;rw[List.length_cons] at this;lia
     have hr:∀ qs∈rs,qs.length=m+1∧∀ p∈qs,GdI a b p∧Sml p:=fun qs hq=>h.2 qs (.tail _ hq)
     show GdI ((m+1)*a) ((m+1)*b) ((List.range ps.length).foldl (a4N ps fun c=>detP (m+1) (a2g c rs)) [])
     exact a4m g2 (fun c hc=>a5c m (a4n hr (by rw[← g1];exact hc) hl)) _ (Nat.le_refl _)
noncomputable def nU:List Int→Nat
 | []=>0
 | l :: w=>(if 0 < l then 1 else 0)+nU w
noncomputable def nD:List Int→Nat
 | []=>0
 | l :: w=>(if 0 < l then 0 else 1)+nD w
theorem b8W:∀ w:List Int,nD w+nU w=w.length
 | []=>rfl
 | l :: w=>by
   have:=b8W w
   show (if 0 < l then 0 else 1)+nD w+((if 0 < l then 1 else 0)+nU w)=w.length+1
   split<;>lia
theorem b9q {a b:Nat} {l:Int} {p q:Po} (hp:GdI a b p) (hq:GdI a b q):GdI (a+if 0 < l then 0 else 1) (b+if 0 < l then 1 else 0) (wl1 l p q)∧GdI (a+if 0 < l then 0 else 1) (b+if 0 < l then 1 else 0) (wl2 l p q):=by
 have u:GdI 0 1 upP:=⟨⟨by decide,by decide⟩,by unfold PwI;decide⟩
 have lu:GdI 0 1 lupP:=⟨⟨by decide,by decide⟩,by unfold PwI;decide⟩
 have d:GdI 1 0 a9R:=⟨⟨by decide,by decide⟩,by unfold PwI;decide⟩
 have ld:GdI 1 0 a5Q:=⟨⟨by decide,by decide⟩,by unfold PwI;decide⟩
 unfold wl1 wl2
 split
 ·exact⟨(hp.mul lu).add (hq.mono (by lia) (by lia)),hp.mul u⟩
 ·exact⟨hq.mul d,(hp.mono (by lia) (by lia)).add (hq.mul ld)⟩
theorem tabI {n:Nat}:∀ (ws:List Int) {a b:Nat} {rs:List (List Po)},(rs.length=n∧∀ ps∈rs,ps.length=n∧∀ p∈ps,GdI a b p)→(∀ l∈ws,1≤l.natAbs∧l.natAbs < n)→((ws.foldl (fun rs l=>rs.map fun ps=>wlP ps l) rs).length=n∧∀ ps∈ws.foldl (fun rs l=>rs.map fun ps=>wlP ps l) rs,ps.length=n∧∀ p∈ps,GdI (a+nD ws) (b+nU ws) p)
 | [],a,b,rs,h,_=>h
 | l :: w,a,b,rs,h,hw=>by
   obtain⟨l1,l2⟩:=hw l (.head _)
   have hstep:(rs.map fun ps=>wlP ps l).length=n∧∀ ps∈rs.map fun ps=>wlP ps l,ps.length=n∧∀ p∈ps,GdI (a+if 0 < l then 0 else 1) (b+if 0 < l then 1 else 0) p:=by
    refine⟨by rw[List.length_map];exact h.1,fun ps hps=>?_⟩
    obtain⟨qs,hq,rfl⟩:=List.mem_map.mp hps
    obtain⟨g1,g2⟩:=h.2 qs hq
    refine⟨by rw[a6V l1 (by rw[g1];exact l2)];exact g1,fun p hp=>?_⟩
    have up:∀ {p:Po},GdI a b p→GdI (a+if 0 < l then 0 else 1) (b+if 0 < l then 1 else 0) p:=fun z=>z.mono (by lia) (by lia)
    have gg:∀ i,i < qs.length→GdI a b (qs.getD i []):=fun i hi=>by
     rw[List.getD_eq_getElem?_getD,List.getElem?_eq_getElem hi];exact g2 _ (List.getElem_mem _)
    have gw:=b9q (l:=l) (gg (l.natAbs - 1) (by lia)) (gg l.natAbs (by lia))
    unfold wlP at hp
    rcases List.mem_append.mp hp with z | z
    ·exact up (g2 p (List.mem_of_mem_take z))
    rcases List.mem_append.mp z with z | z
    ·rcases List.mem_cons.mp z with e | z
     ·rw[e];exact gw.1
     ·rw[List.mem_singleton.mp z];exact gw.2
    ·exact up (g2 p (List.mem_of_mem_drop z))
   have:=tabI w hstep fun x hx=>hw x (.tail _ hx)
   have e1:nD (l :: w)=(if 0 < l then 0 else 1)+nD w:=rfl
   have e2:nU (l :: w)=(if 0 < l then 1 else 0)+nU w:=rfl
   rw[e1,e2,← Nat.add_assoc,← Nat.add_assoc]
   exact this
theorem b1p {n:Int} {ws:List Int} (hw:a0f n ws):∀ ps∈tabP n ws,∀ p∈ps,GdI (nD ws) (nU ws) p:=by
 have h:=tabI (n:=n.toNat) ws (a:=0) (b:=0) (rs:=idP n) ⟨(a3r n).1,fun ps hps=>⟨((a3r n).2 ps hps).1,fun p hp=>by
  unfold idP at hps
  obtain⟨r,_,rfl⟩:=List.mem_map.mp hps
  obtain⟨c,_,rfl⟩:=List.mem_map.mp hp
  exact b3a r c⟩⟩ (fun l hl=>by obtain⟨a,b⟩:=hw l hl;exact⟨by lia,by lia⟩)
 rw[Nat.zero_add,Nat.zero_add] at h
 exact fun ps hps=>(h.2 ps hps).2
theorem a5N {n:Int} {ws:List Int} (ok:PlOK n ws):b0g (n.toNat - 1) (nD ws) (nU ws) (a2z n ws):=by
 have hG:=b1H ok
 have hp:1+3 ^ ws.length < 2 ^ 64:=by
  have:3 ^ ws.length≤3 ^ 16:=Nat.pow_le_pow_right (by decide) ok.2.2.1
  have:1+3 ^ 16 < 2 ^ 64:=by decide
  lia
 refine⟨hG.1,fun ps hps=>⟨(hG.2 ps hps).1,fun p hpp=>⟨?_,b6V ((hG.2 ps hps).2 p hpp) hp⟩⟩⟩
 unfold a2z at hps
 obtain⟨r,hr,rfl⟩:=List.mem_map.mp hps
 obtain⟨c,hc,rfl⟩:=List.mem_map.mp hpp
 have hr:=List.mem_range.mp hr
 have hc:=List.mem_range.mp hc
 have hT:=a1y (n:=n) ok.2.2.2
 have g:GdI (nD ws) (nU ws) (((tabP n ws).getD (r+1) []).getD (c+1) []):=by
  have hl:r+1 < (tabP n ws).length:=by rw[hT.1];lia
  have hm:(tabP n ws).getD (r+1) []∈tabP n ws:=by
   rw[List.getD_eq_getElem?_getD,List.getElem?_eq_getElem hl];exact List.getElem_mem _
  refine b1p ok.2.2.2 _ hm _ ?_
  have hl2:c+1 < ((tabP n ws).getD (r+1) []).length:=by rw[(hT.2 _ hm).1];lia
  rw[List.getD_eq_getElem?_getD (i:=c+1),List.getElem?_eq_getElem hl2];exact List.getElem_mem _
 exact ((b3a _ _).mono (Nat.zero_le _) (Nat.zero_le _)).add ((g.mul b0M).mono (by lia) (by lia))
noncomputable def a9h (n:Int) (ws:List Int):Prop:=(n.toNat - 1)*ws.length≤62
theorem a8h {n:Int} {ws:List Int} (ok:PlOK n ws) (h:a9h n ws):GdI ((n.toNat - 1)*nD ws) ((n.toNat - 1)*nU ws) (detP (n.toNat - 1+1) (a2z n ws))∧(n.toNat - 1)*nD ws+(n.toNat - 1)*nU ws≤62:=⟨a5c _ (a5N ok),by rw[← Nat.mul_add,b8W];exact h⟩
theorem b1O {n:Int} {ws:List Int} (ok:PlOK n ws) (h:a9h n ws):(a5d n ws).length≤63:=by
 obtain⟨h1,h2⟩:=a8h ok h
 have:=h1.1.lenI h1.2
 unfold a5d
 refine Nat.le_trans (b3c _) ?_
 have:=ok.1
 rw[show n.toNat=n.toNat - 1+1 by lia]
 lia
theorem b1o:toL [(0,0)]=zL:=Lp.ext2 fun c=>by
 rw[co_L]
 show (if (0:Int)=c then (0:Int) else 0)+0=co (toL []).1 c
 rw[co_L]
 split<;>rfl
noncomputable instance:NatCast Lp:=⟨fun n=>sgU n⟩
noncomputable instance {n:Nat}:OfNat Lp n:=⟨sgU n⟩
noncomputable instance:IntCast Lp:=⟨sgU⟩
noncomputable instance:Neg Lp:=⟨fun a=>sgU (-1)*a⟩
noncomputable instance:_root_.Sub Lp:=⟨fun a b=>a+sgU (-1)*b⟩
noncomputable instance:SMul Nat Lp:=⟨fun n a=>sgU n*a⟩
noncomputable instance:SMul Int Lp:=⟨fun n a=>sgU n*a⟩
noncomputable def powL (a:Lp):Nat→Lp
 | 0=>sgU 1
 | n+1=>powL a n*a
noncomputable instance:HPow Lp Nat Lp:=⟨powL⟩
theorem b2e (a b:Int):sgU (a+b)=sgU a+sgU b:=Lp.ext2 fun c=>by
 unfold sgU
 rw[a2B,co_L,co_L,co_L,a8W,a8W,a8W]
 split<;>lia
theorem b1r:sgU 0=zL:=b1o
noncomputable instance:Lean.Grind.CommRing Lp where
 add_zero a:=by show a+sgU ((0:Nat):Int)=a;exact (by rw[show ((0:Nat):Int)=0 from rfl,b1r,b5M])
 add_comm:=a9g
 add_assoc:=a6R
 mul_assoc:=a4U
 mul_one a:=by show a*sgU ((1:Nat):Int)=a;exact b0F a
 one_mul a:=by show sgU ((1:Nat):Int)*a=a;rw[a1D];exact b0F a
 left_distrib:=b7o
 right_distrib a b c:=by rw[a1D,b7o,a1D c,a1D c]
 zero_mul a:=by show sgU ((0:Nat):Int)*a=sgU ((0:Nat):Int);rw[show ((0:Nat):Int)=0 from rfl,b1r,a1D,a8y]
 mul_zero a:=by show a*sgU ((0:Nat):Int)=sgU ((0:Nat):Int);rw[show ((0:Nat):Int)=0 from rfl,b1r,a8y]
 pow_zero a:=rfl
 pow_succ a n:=rfl
 ofNat_succ n:=by
  show sgU ((n+1:Nat):Int)=sgU (n:Int)+sgU ((1:Nat):Int)
  rw[Int.natCast_add,b2e]
 ofNat_eq_natCast n:=rfl
 nsmul_eq_natCast_mul n a:=rfl
 neg_add_cancel a:=by
  show sgU (-1)*a+a=sgU ((0:Nat):Int)
  have e:sgU (-1)*a+a=sgU (-1)*a+sgU 1*a:=by rw[show sgU 1*a=a from by rw[a1D];exact b0F a]
  rw[e,a1D,a1D (sgU 1),← b7o,← b2e,show (-1:Int)+1=0 by decide,b1r,a8y]
  exact b1r.symm
 sub_eq_add_neg a b:=rfl
 neg_zsmul i a:=by
  show sgU (-i)*a=sgU (-1)*(sgU i*a)
  rw[← a4U,a9v,show -1*i=-i by lia]
 zsmul_natCast_eq_nsmul n a:=rfl
 intCast_ofNat n:=rfl
 intCast_neg i:=by
  show sgU (-i)=sgU (-1)*sgU i
  rw[a9v,show -1*i=-i by lia]
 mul_comm:=a1D
theorem a9m:zL=(0:Lp):=b1r.symm
theorem a7f:sgU (-1)=(-1:Lp):=by
 show sgU (-1)=sgU (-1)*sgU ((1:Nat):Int)
 exact (b0F _).symm
section
variable {R:Type} [Lean.Grind.CommRing R]
noncomputable def M2d (a b c d:R):R:=a*d - b*c
noncomputable def M3d (a b c d e f g h i:R):R:=a*(e*i - f*h) - b*(d*i - f*g)+c*(d*h - e*g)
noncomputable def D1 (A:Nat→Nat→R):R:=A 0 0
noncomputable def D2 (A:Nat→Nat→R):R:=M2d (A 0 0) (A 0 1) (A 1 0) (A 1 1)
noncomputable def D3 (A:Nat→Nat→R):R:=M3d (A 0 0) (A 0 1) (A 0 2) (A 1 0) (A 1 1) (A 1 2) (A 2 0) (A 2 1) (A 2 2)
noncomputable def D4 (A:Nat→Nat→R):R:=A 0 0*M3d (A 1 1) (A 1 2) (A 1 3) (A 2 1) (A 2 2) (A 2 3) (A 3 1) (A 3 2) (A 3 3) - A 0 1*M3d (A 1 0) (A 1 2) (A 1 3) (A 2 0) (A 2 2) (A 2 3) (A 3 0) (A 3 2) (A 3 3)+A 0 2*M3d (A 1 0) (A 1 1) (A 1 3) (A 2 0) (A 2 1) (A 2 3) (A 3 0) (A 3 1) (A 3 3) - A 0 3*M3d (A 1 0) (A 1 1) (A 1 2) (A 2 0) (A 2 1) (A 2 2) (A 3 0) (A 3 1) (A 3 2)
noncomputable def DD:Nat→(Nat→Nat→R)→R
 | 0,_=>1
 | 1,A=>D1 A
 | 2,A=>D2 A
 | 3,A=>D3 A
 | _,A=>D4 A
noncomputable def SR:Nat→(Nat→R)→R
 | 0,_=>0
 | m+1,g=>SR m g+g m
theorem b1k {m:Nat} (hm:m≤4) {A B:Nat→Nat→R} (h:∀ i j,i < m→j < m→A i j=B i j):DD m A=DD m B:=by
 match m,hm with
 | 0,_=>rfl
 | 1,_=>exact h 0 0 (by decide) (by decide)
 | 2,_ =>
   show M2d _ _ _ _=M2d _ _ _ _
   rw[h 0 0 (by decide) (by decide),h 0 1 (by decide) (by decide),h 1 0 (by decide) (by decide),h 1 1 (by decide) (by decide)]
 | 3,_ =>
   show M3d _ _ _ _ _ _ _ _ _=M3d _ _ _ _ _ _ _ _ _
   rw[h 0 0 (by decide) (by decide),h 0 1 (by decide) (by decide),h 0 2 (by decide) (by decide),h 1 0 (by decide) (by decide),h 1 1 (by decide) (by decide),h 1 2 (by decide) (by decide),h 2 0 (by decide) (by decide),h 2 1 (by decide) (by decide),h 2 2 (by decide) (by decide)]
 | 4,_ =>
   show D4 A=D4 B
   unfold D4
   rw[h 0 0 (by decide) (by decide),h 0 1 (by decide) (by decide),h 0 2 (by decide) (by decide),h 0 3 (by decide) (by decide),h 1 0 (by decide) (by decide),h 1 1 (by decide) (by decide),h 1 2 (by decide) (by decide),h 1 3 (by decide) (by decide),h 2 0 (by decide) (by decide),h 2 1 (by decide) (by decide),h 2 2 (by decide) (by decide),h 2 3 (by decide) (by decide),h 3 0 (by decide) (by decide),h 3 1 (by decide) (by decide),h 3 2 (by decide) (by decide),h 3 3 (by decide) (by decide)]
end
noncomputable def BL (n:Int) (w:List Int) (i j:Nat):Lp:=toL (((tabP n w).getD i []).getD j [])
theorem b7v (m:Nat) (g:Nat→Lp):Su m g=SR m g:=by
 induction m with
 | zero=>exact a9m
 | succ m ih=>show Su m g+g m=SR m g+g m;rw[ih]
theorem a0V {R:Type} [Lean.Grind.CommRing R] {m:Nat} {f g:Nat→R} (h:∀ i,i < m→f i=g i):SR m f=SR m g:=by
 induction m with
 | zero=>rfl
 | succ m ih=>show SR m f+f m=SR m g+g m;rw[ih fun i hi=>h i (by lia),h m (by lia)]
theorem b5O {R:Type} [Lean.Grind.CommRing R] (m:Nat) (f g:Nat→R):SR m (fun i=>f i+g i)=SR m f+SR m g:=by
 induction m with
 | zero=>show (0:R)=0+0;grind
 | succ m ih=>show SR m (fun i=>f i+g i)+(f m+g m)=(SR m f+f m)+(SR m g+g m);rw[ih];grind
theorem b1i {R:Type} [Lean.Grind.CommRing R] (m:Nat) (f g:Nat→R):SR m (fun i=>f i - g i)=SR m f - SR m g:=by
 induction m with
 | zero=>show (0:R)=0 - 0;grind
 | succ m ih=>show SR m (fun i=>f i - g i)+(f m - g m)=(SR m f+f m) - (SR m g+g m);rw[ih];grind
theorem a6T {R:Type} [Lean.Grind.CommRing R] (a:R) (m:Nat) (f:Nat→R):SR m (fun i=>a*f i)=a*SR m f:=by
 induction m with
 | zero=>show (0:R)=a*0;grind
 | succ m ih=>show SR m (fun i=>a*f i)+a*f m=a*(SR m f+f m);rw[ih];grind
theorem a7X {R:Type} [Lean.Grind.CommRing R] (a:R) (m:Nat) (f:Nat→R):SR m (fun i=>f i*a)=SR m f*a:=by
 induction m with
 | zero=>show (0:R)=0*a;grind
 | succ m ih=>show SR m (fun i=>f i*a)+f m*a=(SR m f+f m)*a;rw[ih];grind
theorem a4p {R:Type} [Lean.Grind.CommRing R] (m:Nat) (f:Nat→R):SR (m+1) f=f 0+SR m fun i=>f (i+1):=by
 induction m with
 | zero=>show (0:R)+f 0=f 0+0;grind
 | succ m ih=>show SR (m+1) f+f (m+1)=f 0+(SR m (fun i=>f (i+1))+f (m+1));rw[ih];grind
theorem a6S {R:Type} [Lean.Grind.CommRing R] {m i:Nat} (hi:i < m) (f:Nat→R):SR m (fun k=>(if i=k then 1 else 0)*f k)=f i:=by
 induction m with
 | zero=>lia
 | succ m ih =>
   show SR m (fun k=>(if i=k then 1 else 0)*f k)+(if i=m then 1 else 0)*f m=f i
   by_cases c:i=m
   ·subst c
    rw[if_pos rfl,a0V (g:=fun _=>(0:R)) fun k hk=>by rw[if_neg (by lia)];grind]
    have:∀ k,SR k (fun _=>(0:R))=0:=fun k=>by
     induction k with
     | zero=>rfl
     | succ k ih=>show SR k (fun _=>(0:R))+0=0;rw[ih];grind
    rw[this];grind
   ·rw[if_neg c,ih (by lia)];grind
theorem b9S {n:Int} {u v:List Int} (hu:a0f n u) (hv:a0f n v) {i j:Nat} (hi:i < n.toNat) (hj:j < n.toNat):BL n (u++v) i j=SR n.toNat fun k=>BL n u i k*BL n v k j:=by
 unfold BL
 rw[b5V hu hv]
 have hlen:=(a1y hu).1
 have e:((matP n.toNat (tabP n u) (tabP n v)).getD i []).getD j []=matE ((tabP n u).getD i []) (tabP n v) n.toNat j:=by
  unfold matP
  rw[List.getD_eq_getElem?_getD (i:=i),List.getElem?_map,List.getElem?_eq_getElem (by lia:i < (tabP n u).length)]
  show ((List.range n.toNat).map fun j=>matE (tabP n u)[i] (tabP n v) n.toNat j).getD j []=_
  rw[List.getD_eq_getElem?_getD,List.getElem?_map,List.getElem?_range hj]
  show matE (tabP n u)[i] _ _ _=_
  rw[List.getD_eq_getElem?_getD,List.getElem?_eq_getElem (by lia:i < (tabP n u).length)];rfl
 rw[e]
 unfold matE
 rw[a5q,b7v]
 exact a0V fun k hk=>a2y _ _
theorem b9Q {n:Int} {w:List Int} (hw:a0f n w) {i:Nat} (hi:i < n.toNat):SR n.toNat (fun j=>BL n w i j)=1:=by
 have hlen:=(a1y hw).1
 have hr:(tabP n w).getD i []∈tabP n w:=by
  rw[List.getD_eq_getElem?_getD,List.getElem?_eq_getElem (by lia:i < (tabP n w).length)];exact List.getElem_mem _
 have h:=congrArg toL (b6e hw hr)
 rw[a5q,b7v] at h
 exact h
noncomputable def tL (k:Nat):Lp:=toL [((k:Int),1)]
theorem b9T {n:Int} {w:List Int} (hw:a0f n w) {k:Nat} (hk:k < n.toNat):SR n.toNat (fun j=>tL j*BL n w j k)=tL k:=by
 have h:=congrArg toL (b7r hw hk)
 rw[a5q,b7v] at h
 rw[← show toL [((k:Int),1)]=tL k from rfl,← h]
 exact a0V fun j _=>(a2y _ _).symm
theorem b9R {n:Int} {i j:Nat} (hi:i < n.toNat) (hj:j < n.toNat):BL n [] i j=if i=j then 1 else 0:=by
 unfold BL
 show toL (((idP n).getD i []).getD j [])=_
 have h1:=a0s n
 have e0:(a0l n)[i]?=some (i:Int):=by unfold a0l;rw[List.getElem?_map,List.getElem?_range hi];rfl
 have e1:(a0l n)[j]?=some (j:Int):=by unfold a0l;rw[List.getElem?_map,List.getElem?_range hj];rfl
 have e:((idP n).getD i []).getD j []=oneP i j:=by
  unfold idP
  rw[List.getD_eq_getElem?_getD (i:=i),List.getElem?_map,e0]
  show ((a0l n).map fun c=>oneP i c).getD j []=_
  rw[List.getD_eq_getElem?_getD,List.getElem?_map,e1];rfl
 rw[e]
 unfold oneP
 by_cases c:i=j
 ·rw[if_pos c,if_pos (by rw[c])];rfl
 ·rw[if_neg c,if_neg (by lia)];exact a9m
noncomputable def AL1 (n:Int) (w:List Int) (i j:Nat):Lp:=(if i=j then 1 else 0) - BL n w (i+1) (j+1)
theorem b6Z {n:Int} {w:List Int} {i j:Nat} (hi:i < n.toNat - 1) (hj:j < n.toNat - 1):eltL (a2z n w) i j=AL1 n w i j:=by
 unfold eltL a2z AL1 BL
 rw[List.getD_eq_getElem?_getD (i:=i),List.getElem?_map,List.getElem?_range hi]
 show toL (((List.range (n.toNat - 1)).map fun c=>addP (oneP ((i+1:Nat):Int) ((c+1:Nat):Int)) (a0X (((tabP n w).getD (i+1) []).getD (c+1) []) [(0,-1)])).getD j [])=_
 rw[List.getD_eq_getElem?_getD,List.getElem?_map,List.getElem?_range hj]
 show toL (addP (oneP ((i+1:Nat):Int) ((j+1:Nat):Int)) (a0X (((tabP n w).getD (i+1) []).getD (j+1) []) [(0,-1)]))=_
 rw[a7a,a2y]
 have e1:toL (oneP ((i+1:Nat):Int) ((j+1:Nat):Int))=if i=j then (1:Lp) else 0:=by
  unfold oneP
  by_cases c:i=j
  ·rw[if_pos c,if_pos (by rw[c])];rfl
  ·rw[if_neg c,if_neg (by lia)];exact a9m
 rw[e1,show toL [(0,-1)]=(-1:Lp) from a7f]
 grind
theorem b4d:sgL 0=(1:Lp):=by rw[a4s];rfl
theorem b6d:sgL 1=(-1:Lp):=by rw[a4s];exact a7f
theorem b8l:sgL 2=(1:Lp):=by rw[a4s];rfl
theorem c0f:sgL 3=(-1:Lp):=by rw[a4s];exact a7f
theorem b9O (A:Nat→Nat→Lp):Drow sgL 0 A=1:=rfl
theorem b3T (A:Nat→Nat→Lp):Drow sgL 1 A=A 0 0:=by
 show zL+sgL 0*A 0 0*Drow sgL 0 _=_
 rw[b9O,b4d,a9m];grind
theorem b1j (A:Nat→Nat→Lp):Drow sgL 2 A=D2 A:=by
 show zL+sgL 0*A 0 0*Drow sgL 1 _+sgL 1*A 0 1*Drow sgL 1 _=_
 rw[b3T,b3T,b4d,b6d,a9m]
 show 0+1*A 0 0*A 1 1+-1*A 0 1*A 1 0=M2d _ _ _ _
 unfold M2d;grind
theorem a9l (A:Nat→Nat→Lp):Drow sgL 3 A=D3 A:=by
 show zL+sgL 0*A 0 0*Drow sgL 2 _+sgL 1*A 0 1*Drow sgL 2 _+sgL 2*A 0 2*Drow sgL 2 _=_
 rw[b1j,b1j,b1j,b4d,b6d,b8l,a9m]
 show 0+1*A 0 0*M2d (A 1 1) (A 1 2) (A 2 1) (A 2 2)+-1*A 0 1*M2d (A 1 0) (A 1 2) (A 2 0) (A 2 2)+1*A 0 2*M2d (A 1 0) (A 1 1) (A 2 0) (A 2 1)=M3d _ _ _ _ _ _ _ _ _
 unfold M2d M3d;grind
theorem b9N (A:Nat→Nat→Lp):Drow sgL 4 A=D4 A:=by
 show zL+sgL 0*A 0 0*Drow sgL 3 _+sgL 1*A 0 1*Drow sgL 3 _+sgL 2*A 0 2*Drow sgL 3 _+sgL 3*A 0 3*Drow sgL 3 _=_
 rw[a9l,a9l,a9l,a9l,b4d,b6d,b8l,c0f,a9m]
 show 0+1*A 0 0*M3d (A 1 1) (A 1 2) (A 1 3) (A 2 1) (A 2 2) (A 2 3) (A 3 1) (A 3 2) (A 3 3)+-1*A 0 1*M3d (A 1 0) (A 1 2) (A 1 3) (A 2 0) (A 2 2) (A 2 3) (A 3 0) (A 3 2) (A 3 3)+1*A 0 2*M3d (A 1 0) (A 1 1) (A 1 3) (A 2 0) (A 2 1) (A 2 3) (A 3 0) (A 3 1) (A 3 3)+-1*A 0 3*M3d (A 1 0) (A 1 1) (A 1 2) (A 2 0) (A 2 1) (A 2 2) (A 3 0) (A 3 1) (A 3 2)=D4 A
 unfold D4
 generalize M3d (A 1 1) (A 1 2) (A 1 3) (A 2 1) (A 2 2) (A 2 3) (A 3 1) (A 3 2) (A 3 3)=x0
 generalize M3d (A 1 0) (A 1 2) (A 1 3) (A 2 0) (A 2 2) (A 2 3) (A 3 0) (A 3 2) (A 3 3)=x1
 generalize M3d (A 1 0) (A 1 1) (A 1 3) (A 2 0) (A 2 1) (A 2 3) (A 3 0) (A 3 1) (A 3 3)=x2
 generalize M3d (A 1 0) (A 1 1) (A 1 2) (A 2 0) (A 2 1) (A 2 2) (A 3 0) (A 3 1) (A 3 2)=x3
 grind
theorem b7F {m:Nat} (hm:m≤4) (A:Nat→Nat→Lp):Drow sgL m A=DD m A:=by
 match m,hm with
 | 0,_=>rfl
 | 1,_=>exact b3T A
 | 2,_=>exact b1j A
 | 3,_=>exact a9l A
 | 4,_=>exact b9N A
theorem b9w {n:Int} {w:List Int} (h1:1≤n) (h5:n≤5):toL (detP n.toNat (a2z n w))=DD (n.toNat - 1) (AL1 n w):=by
 have hl:(a2z n w).length=n.toNat - 1:=by unfold a2z;rw[List.length_map,List.length_range]
 have hl2:∀ ps∈a2z n w,ps.length=n.toNat - 1:=fun ps hp=>by
  unfold a2z at hp
  obtain⟨r,_,rfl⟩:=List.mem_map.mp hp
  rw[List.length_map,List.length_range]
 have e:n.toNat=n.toNat - 1+1:=by lia
 conv=>lhs;rw[e]
 rw[b3s _ _ hl hl2,b7F (by lia)]
 exact b1k (by lia) fun i j hi hj=>b6Z hi hj
noncomputable def UnL (u:Lp):Prop:=∃ k s:Int,(s=1∨s=-1)∧u=toL [(k,s)]
theorem UnL.one:UnL 1:=⟨0,1,.inl rfl,rfl⟩
theorem b3W {n:Int} {w:List Int} (hw:a0f n w) {i:Nat} (hi:i < n.toNat):((tabP n w).getD i []).length=n.toNat:=by
 have h:=a1y hw
 refine (h.2 _ ?_).1
 rw[List.getD_eq_getElem?_getD,List.getElem?_eq_getElem (by rw[h.1];exact hi)];exact List.getElem_mem _
theorem b7J {n:Int} {w:List Int} {l:Int} (hw:a0f n w) (hl:a1w n l) {k:Nat} (hk:l.natAbs=k+1) {i:Nat} (hi:i < n.toNat) (j:Nat):BL n (w++[l]) i j=if j=k then (if 0 < l then BL n w i k*toL lupP+BL n w i (k+1) else BL n w i (k+1)*toL a9R) else if j=k+1 then (if 0 < l then BL n w i k*toL upP else BL n w i k+BL n w i (k+1)*toL a5Q) else BL n w i j:=by
 have hr:=b3W hw hi
 have h1:=(a1y hw).1
 have hkn:k+1 < n.toNat:=by obtain⟨a,b⟩:=hl;lia
 unfold BL
 have e:(tabP n (w++[l])).getD i []=wlP ((tabP n w).getD i []) l:=by
  rw[a8c,List.getD_eq_getElem?_getD,List.getElem?_map,List.getElem?_eq_getElem (by lia:i < (tabP n w).length),List.getD_eq_getElem?_getD,List.getElem?_eq_getElem (by lia:i < (tabP n w).length)];rfl
 rw[e]
 generalize (tabP n w).getD i []=ps at hr
 rw[b1Q hk (by rw[hr];exact hkn),getD_set (by rw[List.length_set,hr];exact hkn),getD_set (by rw[hr];lia)]
 by_cases c1:j=k
 ·subst c1
  rw[if_neg (by lia),if_pos rfl,if_pos rfl]
  unfold wl1
  split
  ·rw[a7a,a2y]
  ·rw[a2y]
 ·rw[if_neg c1,if_neg c1]
  by_cases c2:j=k+1
  ·rw[if_pos c2,if_pos c2]
   unfold wl2
   split
   ·rw[a2y]
   ·rw[a7a,a2y]
  ·rw[if_neg c2,if_neg c2]
noncomputable def evP (g:Int→Int):Po→Int
 | []=>0
 | x :: r=>x.2*g x.1+evP g r
theorem a5a (g:Int→Int):∀ p q:Po,evP g (p++q)=evP g p+evP g q
 | [],q=>by show evP g q=0+evP g q;lia
 | x :: p,q=>by show x.2*g x.1+evP g (p++q)=x.2*g x.1+evP g p+evP g q;rw[a5a g p q];lia
theorem b0P (g:Int→Int) (k c:Int):∀ p:Po,evP g (putP k c p)=c*g k+evP g p
 | []=>by
   show evP g (if c=0 then [] else [(k,c)])=c*g k+0
   by_cases h:c=0
   ·rw[if_pos h,h];show (0:Int)=0*g k+0;lia
   ·rw[if_neg h];rfl
 | x :: r=>by
   show evP g (if k < x.1 then (if c=0 then x :: r else (k,c) :: x :: r) else if k=x.1 then (if x.2+c=0 then r else (k,x.2+c) :: r) else x :: putP k c r)=c*g k+(x.2*g x.1+evP g r)
   by_cases h1:k < x.1
   ·rw[if_pos h1]
    by_cases h:c=0
    ·rw[if_pos h,h];show x.2*g x.1+evP g r=_;lia
    ·rw[if_neg h];rfl
   ·rw[if_neg h1]
    by_cases h2:k=x.1
    ·rw[if_pos h2,h2]
     have e:(x.2+c)*g x.1=x.2*g x.1+c*g x.1:=Int.add_mul ..
     by_cases h:x.2+c=0
     ·rw[if_pos h]
      rw[h,Int.zero_mul] at e
      lia
     ·rw[if_neg h]
      show (x.2+c)*g x.1+evP g r=_
      lia
    ·rw[if_neg h2]
     show x.2*g x.1+evP g (putP k c r)=_
     rw[b0P g k c r];lia
theorem a5v (g:Int→Int):∀ p:Po,evP g (norm p)=evP g p
 | []=>rfl
 | x :: r=>by show evP g (putP x.1 x.2 (norm r))=x.2*g x.1+evP g r;rw[b0P,a5v g r]
theorem b5D (g:Int→Int) (hg:∀ a b,g (a+b)=g a*g b) (x:Int × Int):∀ q:Po,evP g (q.map fun y=>(x.1+y.1,x.2*y.2))=x.2*g x.1*evP g q
 | []=>by show (0:Int)=_*0;lia
 | y :: q=>by
   show x.2*y.2*g (x.1+y.1)+evP g (q.map fun y=>(x.1+y.1,x.2*y.2))=x.2*g x.1*(y.2*g y.1+evP g q)
   rw[b5D g hg x q,hg,Int.mul_add]
   congr 1
   grind
theorem b3h (g:Int→Int) (hg:∀ a b,g (a+b)=g a*g b) (q:Po):∀ p:Po,evP g (rawM p q)=evP g p*evP g q
 | []=>by show (0:Int)=0*_;lia
 | x :: p=>by
   unfold rawM
   rw[List.flatMap_cons,a5a,b5D g hg]
   have:=b3h g hg q p
   unfold rawM at this
   rw[this]
   show _=(x.2*g x.1+evP g p)*evP g q
   grind
noncomputable def evL (g:Int→Int) (x:Lp):Int:=evP g x.1
theorem a4F (g:Int→Int) (p:Po):evL g (toL p)=evP g p:=a5v g p
structure Mg (g:Int→Int):Prop where
 m:∀ a b,g (a+b)=g a*g b
 z:g 0=1
theorem a6N {g:Int→Int} (x y:Lp):evL g (x+y)=evL g x+evL g y:=by
 show evL g (toL (addP x.1 y.1))=_
 rw[a4F]
 unfold addP
 rw[a5v,a5a];rfl
theorem a3z {g:Int→Int} (h:Mg g) (x y:Lp):evL g (x*y)=evL g x*evL g y:=by
 show evL g (toL (a0X x.1 y.1))=_
 rw[a4F]
 unfold a0X
 rw[a5v,b3h g h.m];rfl
theorem b3g {g:Int→Int} (h:Mg g) (s:Int):evL g (sgU s)=s:=by
 unfold sgU
 rw[a4F]
 show s*g 0+0=s
 rw[h.z];lia
theorem a8Q {g:Int→Int} (h:Mg g):evL g 1=1:=b3g h 1
theorem a9Q {g:Int→Int} (h:Mg g):evL g 0=0:=b3g h 0
theorem b0O {g:Int→Int} (h:Mg g) (x y:Lp):evL g (x - y)=evL g x - evL g y:=by
 show evL g (x+sgU (-1)*y)=_
 rw[a6N,a3z h,b3g h];lia
theorem b9t {g:Int→Int} (h:Mg g) (a b c d:Lp):evL g (M2d a b c d)=M2d (evL g a) (evL g b) (evL g c) (evL g d):=by
 unfold M2d;rw[b0O h,a3z h,a3z h]
theorem b5C {g:Int→Int} (h':Mg g) (a b c d e f g' h i:Lp):evL g (M3d a b c d e f g' h i)=M3d (evL g a) (evL g b) (evL g c) (evL g d) (evL g e) (evL g f) (evL g g') (evL g h) (evL g i):=by
 unfold M3d;simp only[b0O h',a3z h',a6N]
theorem c0J {g:Int→Int} (h:Mg g) {m:Nat} (hm:m≤4) (A:Nat→Nat→Lp):evL g (DD m A)=DD m fun i j=>evL g (A i j):=by
 match m,hm with
 | 0,_=>exact a8Q h
 | 1,_=>rfl
 | 2,_=>exact b9t h ..
 | 3,_=>exact b5C h ..
 | 4,_ =>
   show evL g (D4 A)=D4 fun i j=>evL g (A i j)
   unfold D4
   simp only[b0O h,a3z h,a6N,b5C h]
theorem b7k {g:Int→Int} (h:Mg g) (hg:∀ k,g k=1∨g k=-1) {u:Lp} (hu:UnL u):evL g u=1∨evL g u=-1:=by
 obtain⟨k,s,hs,rfl⟩:=hu
 rw[a4F]
 show s*g k+0=1∨s*g k+0=-1
 rcases hs with rfl | rfl<;>rcases hg k with e | e<;>rw[e]<;>decide
noncomputable def g1 (_:Int):Int:=1
noncomputable def gm (k:Int):Int:=if k % 2=0 then 1 else -1
theorem mgm:Mg gm:=⟨fun a b=>by
 unfold gm
 by_cases h1:a % 2=0
 ·by_cases h2:b % 2=0
  ·rw[if_pos h1,if_pos h2,if_pos (by lia)];rfl
  ·rw[if_pos h1,if_neg h2,if_neg (by lia)];rfl
 ·by_cases h2:b % 2=0
  ·rw[if_neg h1,if_pos h2,if_neg (by lia)];rfl
  ·rw[if_neg h1,if_neg h2,if_pos (by lia)];rfl,rfl⟩
theorem c0F (k:Int):gm k=1∨gm k=-1:=by
 unfold gm;split
 ·exact .inl rfl
 ·exact .inr rfl
theorem b3f:∀ p:Po,evP gm p=(p.map wtI).sum
 | []=>rfl
 | x :: p=>by
   show x.2*gm x.1+evP gm p=wtI x+(p.map wtI).sum
   rw[b3f p]
   unfold gm wtI
   split<;>lia
theorem b4V (p:Po):∃ u,UnL u∧toL (b4W p)=u*toL p:=by
 cases p with
 | nil=>exact⟨1,.one,by show toL []=1*toL [];grind⟩
 | cons x p =>
   refine⟨toL [(-x.1,if 0 < x.2 then 1 else -1)],⟨_,_,?_,rfl⟩,?_⟩
   ·split
    ·exact .inl rfl
    ·exact .inr rfl
   ·show toL (a0X (x :: p) [(-x.1,if 0 < x.2 then 1 else -1)])=_
    rw[a2y];grind
theorem b7t {n:Int} {w:List Int} (h1:1≤n) (h5:n≤5):∃ u,UnL u∧toL (a5d n w)=u*DD (n.toNat - 1) (AL1 n w):=by
 obtain⟨u,hu,e⟩:=b4V (detP n.toNat (a2z n w))
 refine⟨u,hu,?_⟩
 unfold a5d
 rw[e,b9w h1 h5]
theorem b7m {g:Int→Int} (h:Mg g) (hg:∀ k,g k=1∨g k=-1) {n:Int} {w:List Int} (h1:1≤n) (h5:n≤5):(evP g (a5d n w)).natAbs=(DD (n.toNat - 1) fun i j=>evL g (AL1 n w i j)).natAbs:=by
 obtain⟨u,hu,e⟩:=b7t (w:=w) h1 h5
 rw[← a4F,e,a3z h,c0J h (by lia)]
 rcases b7k h hg hu with z | z<;>rw[z]
 ·rw[Int.one_mul]
 ·rw[Int.neg_mul,Int.one_mul,Int.natAbs_neg]
section
variable {P:Program} {w:World} {A:Around} {E:Value→Shared→Prop} {s:Shared}
end
section
variable {X:Cx} {e f:Expr}
end
section
variable {X:Cx} {e:Expr} {te:TE3} {p p2 pos pos2:Pos}
end
noncomputable def bI (n:Int) (w:List Int) (i j:Nat):Int:=evL gm (BL n w i j)
noncomputable def bv (n:Int) (w:List Int) (z:List Int) (i:Nat):Int:=SR n.toNat fun j=>bI n w i j*z.getD j 0
theorem b5b {g:Int→Int} (h:Mg g) (f:Nat→Lp):∀ m,evL g (SR m f)=SR m fun i=>evL g (f i)
 | 0=>a9Q h
 | m+1=>by show evL g (SR m f+f m)=SR m (fun i=>evL g (f i))+evL g (f m);rw[a6N,b5b h f m]
theorem b9H {n:Int} {u v:List Int} (hu:a0f n u) (hv:a0f n v) {i j:Nat} (hi:i < n.toNat) (hj:j < n.toNat):bI n (u++v) i j=SR n.toNat fun k=>bI n u i k*bI n v k j:=by
 unfold bI
 rw[b9S hu hv hi hj,b5b mgm]
 exact a0V fun k _=>a3z mgm _ _
theorem b3P {R:Type} [Lean.Grind.CommRing R] (m n:Nat) (f:Nat→Nat→R):SR m (fun i=>SR n fun j=>f i j)=SR n fun j=>SR m fun i=>f i j:=by
 induction m with
 | zero =>
   show (0:R)=SR n fun _=>0
   induction n with
   | zero=>rfl
   | succ n ih=>show (0:R)=SR n (fun _=>0)+0;rw[← ih];grind
 | succ m ih=>show SR m (fun i=>SR n fun j=>f i j)+SR n (fun j=>f m j)=SR n fun j=>SR m (fun i=>f i j)+f m j;rw[ih,← b5O]
theorem b3G {n:Int} {u v:List Int} (hu:a0f n u) (hv:a0f n v) {z:List Int} {i:Nat} (hi:i < n.toNat):bv n (u++v) z i=SR n.toNat fun k=>bI n u i k*bv n v z k:=by
 unfold bv
 have e:SR n.toNat (fun k=>bI n u i k*SR n.toNat fun j=>bI n v k j*z.getD j 0)=SR n.toNat fun k=>SR n.toNat fun j=>bI n u i k*(bI n v k j*z.getD j 0):=a0V fun k _=>(a6T ..).symm
 rw[e,b3P]
 refine a0V fun j hj=>?_
 rw[b9H hu hv hi hj,← a7X]
 exact a0V fun k _=>by grind
theorem b5L {n:Int} {i j:Nat} (hi:i < n.toNat) (hj:j < n.toNat):bI n [] i j=if i=j then 1 else 0:=by
 unfold bI
 rw[b9R hi hj]
 split
 ·exact a8Q mgm
 ·exact a9Q mgm
theorem b9D {n:Int} {z:List Int} {i:Nat} (hi:i < n.toNat):bv n [] z i=z.getD i 0:=by
 unfold bv
 rw[← a6S hi (fun j=>z.getD j 0)]
 exact a0V fun j hj=>by rw[b5L hi hj]
theorem c0I:evL gm (toL upP)=-1:=by rw[a4F];rfl
theorem b7l:evL gm (toL a9R)=-1:=by rw[a4F];rfl
theorem b9s:evL gm (toL lupP)=2:=by rw[a4F];rfl
theorem b5a:evL gm (toL a5Q)=2:=by rw[a4F];rfl
theorem b9G {n l:Int} (hl:a1w n l) {k:Nat} (hk:l.natAbs=k+1) {i:Nat} (hi:i < n.toNat) (j:Nat) (hj:j < n.toNat):bI n [l] i j=if j=k then (if 0 < l then 2*(if i=k then 1 else 0)+(if i=k+1 then 1 else 0) else -(if i=k+1 then 1 else 0)) else if j=k+1 then (if 0 < l then -(if i=k then 1 else 0) else (if i=k then 1 else 0)+2*(if i=k+1 then 1 else 0)) else (if i=j then 1 else 0):=by
 have hkn:k+1 < n.toNat:=by have:=hl.2;lia
 unfold bI
 have e:=b7J (w:=[]) (fun _ z=>absurd z List.not_mem_nil) hl hk hi j
 rw[List.nil_append] at e
 have z:=fun (j:Nat) (hj:j < n.toNat)=>b5L (n:=n) hi hj
 unfold bI at z
 rw[e]
 by_cases c1:j=k
 ·rw[if_pos c1,if_pos c1]
  split
  ·rw[a6N,a3z mgm,z k (by lia),z (k+1) hkn,b9s];lia
  ·rw[a3z mgm,z (k+1) hkn,b7l];lia
 ·rw[if_neg c1,if_neg c1]
  by_cases c2:j=k+1
  ·rw[if_pos c2,if_pos c2]
   split
   ·rw[a3z mgm,z k (by lia),c0I];lia
   ·rw[a6N,a3z mgm,z k (by lia),z (k+1) hkn,b5a];lia
  ·rw[if_neg c2,if_neg c2,z j hj]
theorem b5N {m k:Nat} (hk:k+1 < m) (f:Nat→Int) (h:∀ j,j < m→j≠k→j≠k+1→f j=0):SR m f=f k+f (k+1):=by
 have e:SR m f=SR m fun j=>(if k=j then 1 else 0)*f j+(if k+1=j then 1 else 0)*f j:=a0V fun j hj=>by
  by_cases c1:k=j
  ·rw[if_pos c1,if_neg (by lia)];lia
  ·rw[if_neg c1]
   by_cases c2:k+1=j
   ·rw[if_pos c2];lia
   ·rw[if_neg c2,h j hj (fun z=>c1 z.symm) (fun z=>c2 z.symm)];lia
 rw[e,b5O,a6S (by lia:k < m),a6S hk]
theorem b7x {m i:Nat} (hi:i < m) (f:Nat→Int) (h:∀ j,j < m→j≠i→f j=0):SR m f=f i:=by
 rw[← a6S hi f]
 exact a0V fun j hj=>by
  by_cases c:i=j
  ·rw[if_pos c];lia
  ·rw[if_neg c,h j hj (fun z=>c z.symm)];lia
theorem b3F {p:Int} (hp:1≤p) {n l:Int} (hl:a1w n l) {z:List Int} (hz:z.length=n.toNat) (hA:InA p z) {i:Nat} (hi:i < n.toNat):bv n [l] z i % p=(dn1 (linT p) z (-l)).getD i 0:=by
 obtain⟨k,hk⟩:∃ k:Nat,l.natAbs=k+1:=⟨l.natAbs - 1,by have:=hl.1;lia⟩
 have hkn:k+1 < n.toNat:=by have:=hl.2;lia
 have hin:∀ j,j < n.toNat→InM p (z.getD j 0):=fun j hj=>hA _ (by rw[List.getD_eq_getElem?_getD,List.getElem?_eq_getElem (by lia:j < z.length)];exact List.getElem_mem _)
 have e:(dn1 (linT p) z (-l)).getD i 0=if i=k+1 then pr2 (linT p) (-l) (z.getD k 0) (z.getD (k+1) 0) else if i=k then pr1 (linT p) (-l) (z.getD k 0) (z.getD (k+1) 0) else z.getD i 0:=by
  unfold dn1
  rw[Int.natAbs_neg,hk,Nat.add_sub_cancel,a4D (by lia)]
 rw[e]
 have b:=fun (j:Nat) (hj:j < n.toNat)=>b9G hl hk hi j hj
 unfold bv pr1 pr2
 have lk:=hin k (by lia)
 have lk1:=hin (k+1) hkn
 by_cases c1:i=k+1
 ·subst c1
  rw[if_pos rfl,b5N hkn _ fun j hj h1 h2=>by rw[b j hj,if_neg h1,if_neg h2,if_neg (fun z=>h2 z.symm)];lia]
  rw[b k (by lia),b (k+1) hkn,if_pos rfl,if_neg (by lia:¬k+1=k),if_pos rfl,if_neg (by lia:¬k+1=k),if_pos rfl]
  by_cases s:0 < l
  ·rw[if_pos s,if_pos s,if_neg (by lia:¬-l > 0)]
   rw[show (2*0+1)*z.getD k 0+-0*z.getD (k+1) 0=z.getD k 0 by lia]
   exact Int.emod_eq_of_lt lk.1 lk.2
  ·rw[if_neg s,if_neg s,if_pos (by lia:-l > 0),a4B lk lk1]
   congr 1;lia
 ·rw [if_neg c1]
  by_cases c2:i=k
  ·subst c2
   rw[if_pos rfl,b5N hkn _ fun j hj h1 h2=>by rw[b j hj,if_neg h1,if_neg h2,if_neg (fun z=>h1 z.symm)];lia]
   rw[b i hi,b (i+1) hkn,if_pos rfl,if_neg (by lia:¬i+1=i),if_pos rfl,if_pos rfl,if_neg (by lia:¬i=i+1)]
   by_cases s:0 < l
   ·rw[if_pos s,if_pos s,if_neg (by lia:¬-l > 0),b5x hp lk lk1]
    congr 1;lia
   ·rw[if_neg s,if_neg s,if_pos (by lia:-l > 0)]
    rw[show -0*z.getD i 0+(1+2*0)*z.getD (i+1) 0=z.getD (i+1) 0 by lia]
    exact Int.emod_eq_of_lt lk1.1 lk1.2
  ·rw[if_neg c2,b7x hi _ fun j hj h=>by
    rw[b j hj]
    by_cases d1:j=k
    ·rw[if_pos d1,if_neg c2,if_neg c1];split<;>lia
    ·rw[if_neg d1]
     by_cases d2:j=k+1
     ·rw[if_pos d2,if_neg c2,if_neg c1];split<;>lia
     ·rw[if_neg d2,if_neg (fun z=>h z.symm)];lia]
   rw[b i hi,if_neg c2,if_neg c1,if_pos rfl,Int.one_mul]
   exact Int.emod_eq_of_lt (hin i hi).1 (hin i hi).2
theorem c0O {R:Type} [Lean.Grind.CommRing R] (a b c d e f g h i:R):M2d (a*e - d*b) (a*f - d*c) (a*h - g*b) (a*i - g*c)=a*M3d a b c d e f g h i:=by unfold M2d M3d;grind
theorem c0N {R:Type} [Lean.Grind.CommRing R] (a b c d e f g h i j k l m n o q:R):M3d (a*f - e*b) (a*g - e*c) (a*h - e*d) (a*j - i*b) (a*k - i*c) (a*l - i*d) (a*n - m*b) (a*o - m*c) (a*q - m*d)=a*a*(a*M3d f g h j k l n o q - b*M3d e g h i k l m o q+c*M3d e f h i j l m n q - d*M3d e f g i j k m n o):=by unfold M3d;grind
noncomputable def swR (r i:Nat):Nat:=if i=0 then r else if i=r then 0 else i
theorem b7H {R:Type} [Lean.Grind.CommRing R] (A:Nat→Nat→R) {r:Nat} (h:r=1∨r=2∨r=3):D4 (fun i j=>A (swR r i) j)=-D4 A:=by
 rcases h with rfl | rfl | rfl
 ·show A 1 0*M3d (A 0 1) (A 0 2) (A 0 3) (A 2 1) (A 2 2) (A 2 3) (A 3 1) (A 3 2) (A 3 3) - A 1 1*M3d (A 0 0) (A 0 2) (A 0 3) (A 2 0) (A 2 2) (A 2 3) (A 3 0) (A 3 2) (A 3 3)+A 1 2*M3d (A 0 0) (A 0 1) (A 0 3) (A 2 0) (A 2 1) (A 2 3) (A 3 0) (A 3 1) (A 3 3) - A 1 3*M3d (A 0 0) (A 0 1) (A 0 2) (A 2 0) (A 2 1) (A 2 2) (A 3 0) (A 3 1) (A 3 2)=-D4 A
  unfold D4 M3d;grind
 ·show A 2 0*M3d (A 1 1) (A 1 2) (A 1 3) (A 0 1) (A 0 2) (A 0 3) (A 3 1) (A 3 2) (A 3 3) - A 2 1*M3d (A 1 0) (A 1 2) (A 1 3) (A 0 0) (A 0 2) (A 0 3) (A 3 0) (A 3 2) (A 3 3)+A 2 2*M3d (A 1 0) (A 1 1) (A 1 3) (A 0 0) (A 0 1) (A 0 3) (A 3 0) (A 3 1) (A 3 3) - A 2 3*M3d (A 1 0) (A 1 1) (A 1 2) (A 0 0) (A 0 1) (A 0 2) (A 3 0) (A 3 1) (A 3 2)=-D4 A
  unfold D4 M3d;grind
 ·show A 3 0*M3d (A 1 1) (A 1 2) (A 1 3) (A 2 1) (A 2 2) (A 2 3) (A 0 1) (A 0 2) (A 0 3) - A 3 1*M3d (A 1 0) (A 1 2) (A 1 3) (A 2 0) (A 2 2) (A 2 3) (A 0 0) (A 0 2) (A 0 3)+A 3 2*M3d (A 1 0) (A 1 1) (A 1 3) (A 2 0) (A 2 1) (A 2 3) (A 0 0) (A 0 1) (A 0 3) - A 3 3*M3d (A 1 0) (A 1 1) (A 1 2) (A 2 0) (A 2 1) (A 2 2) (A 0 0) (A 0 1) (A 0 2)=-D4 A
  unfold D4 M3d;grind
theorem b7G {R:Type} [Lean.Grind.CommRing R] {m:Nat} (hm:m≤4) (A:Nat→Nat→R) {r:Nat} (h0:0 < r) (h:r < m):DD m (fun i j=>A (swR r i) j)=-DD m A:=by
 match m,hm with
 | 0,_=>lia
 | 1,_=>lia
 | 2,_ =>
   obtain rfl:r=1:=by lia
   show M2d (A 1 0) (A 1 1) (A 0 0) (A 0 1)=-M2d (A 0 0) (A 0 1) (A 1 0) (A 1 1)
   unfold M2d;grind
 | 3,_ =>
   rcases (show r=1∨r=2 by lia) with rfl | rfl
   ·show M3d (A 1 0) (A 1 1) (A 1 2) (A 0 0) (A 0 1) (A 0 2) (A 2 0) (A 2 1) (A 2 2)=-M3d (A 0 0) (A 0 1) (A 0 2) (A 1 0) (A 1 1) (A 1 2) (A 2 0) (A 2 1) (A 2 2)
    unfold M3d;grind
   ·show M3d (A 2 0) (A 2 1) (A 2 2) (A 1 0) (A 1 1) (A 1 2) (A 0 0) (A 0 1) (A 0 2)=-M3d (A 0 0) (A 0 1) (A 0 2) (A 1 0) (A 1 1) (A 1 2) (A 2 0) (A 2 1) (A 2 2)
    unfold M3d;grind
 | 4,_=>exact b7H A (by lia)
noncomputable def NzS (p:Int) (m:Nat) (A:Nat→Nat→Int):Prop:=∃ x:Nat→Int,(∃ j,j < m∧x j % p≠0)∧∀ i,i < m→(SR m fun j=>A i j*x j) % p=0
theorem b6Q {p:Int} {m:Nat} {A:Nat→Nat→Int} {r:Nat} (h:r < m):NzS p m (fun i j=>A (swR r i) j)↔NzS p m A:=by
 have inv:∀ i,swR r (swR r i)=i:=fun i=>by unfold swR;split<;>split<;>(try split)<;>lia
 have lt:∀ i,i < m→swR r i < m:=fun i hi=>by unfold swR;split<;>(try split)<;>lia
 constructor
 ·rintro⟨x,hx,h⟩
  refine⟨x,hx,fun i hi=>?_⟩
  have:=h (swR r i) (lt i hi)
  rwa [show (SR m fun j=>A (swR r (swR r i)) j*x j)=SR m fun j=>A i j*x j by rw[inv]] at this
 ·rintro⟨x,hx,h⟩
  exact⟨x,hx,fun i hi=>h (swR r i) (lt i hi)⟩
theorem a9i {p:Int}:∀ {m:Nat} {f g:Nat→Int},(∀ i,i < m→f i % p=g i % p)→SR m f % p=SR m g % p
 | 0,_,_,_=>rfl
 | m+1,f,g,h=>by
   show (SR m f+f m) % p=(SR m g+g m) % p
   rw[Int.add_emod,a9i fun i hi=>h i (by lia),h m (by lia),← Int.add_emod]
noncomputable def chA (A:Nat→Nat→Int) (i j:Nat):Int:=A 0 0*A (i+1) (j+1) - A (i+1) 0*A 0 (j+1)
theorem b6S {p:Int} (hp:a2T p) {m:Nat} {A:Nat→Nat→Int} (ha:A 0 0 % p≠0):NzS p (m+1) A↔NzS p m (chA A):=by
 have key:∀ (x:Nat→Int) (i:Nat),SR m (fun j=>chA A i j*x (j+1))=A 0 0*SR (m+1) (fun j=>A (i+1) j*x j) - A (i+1) 0*SR (m+1) (fun j=>A 0 j*x j):=fun x i=>by
  rw[a4p,a4p]
  have e:SR m (fun j=>chA A i j*x (j+1))=A 0 0*SR m (fun j=>A (i+1) (j+1)*x (j+1)) - A (i+1) 0*SR m (fun j=>A 0 (j+1)*x (j+1)):=by
   rw[← a6T,← a6T,← b1i]
   exact a0V fun j _=>by unfold chA;grind
  rw[e]
  generalize SR m (fun j=>A (i+1) (j+1)*x (j+1))=X
  generalize SR m (fun j=>A 0 (j+1)*x (j+1))=Y
  grind
 constructor
 ·rintro⟨x,⟨j0,hj0,hx⟩,h⟩
  refine⟨fun j=>x (j+1),?_,fun i hi=>?_⟩
  ·rcases Classical.em (∃ j,j < m∧x (j+1) % p≠0) with z | z
   ·exact z
   ·exfalso
    have hz:∀ j,j < m→x (j+1) % p=0:=fun j hj=>Classical.not_not.mp fun y=>z ⟨j,hj,y⟩
    have h0:=h 0 (by lia)
    rw[a4p,Int.add_emod,a9i (g:=fun _=>0) fun j hj=>by rw[Int.mul_emod,hz j hj,Int.mul_zero]] at h0
    have zz:SR m (fun _=>(0:Int))=0:=by
     have:=a6T (0:Int) m (fun _=>(0:Int))
     rw[Int.zero_mul,Int.zero_mul] at this
     exact this
    rw[zz,Int.zero_emod,Int.add_zero,Int.emod_emod] at h0
    have hx0:=a1C hp ha h0
    cases j0 with
    | zero=>exact hx hx0
    | succ j=>exact hx (hz j (by lia))
  ·show (SR m fun j=>chA A i j*x (j+1)) % p=0
   rw[key,Int.sub_emod,Int.mul_emod,h (i+1) (by lia),Int.mul_emod (A (i+1) 0),h 0 (by lia)]
   simp
 ·rintro⟨y,⟨j0,hj0,hy⟩,h⟩
  obtain⟨x0,_,e0⟩:=a6x hp ha (-(SR m fun j=>A 0 (j+1)*y j))
  let x:Nat→Int:=fun j=>match j with | 0=>x0 | j+1=>y j
  have h0:(SR (m+1) fun j=>A 0 j*x j) % p=0:=by
   rw[a4p]
   show (A 0 0*x0+SR m fun j=>A 0 (j+1)*y j) % p=0
   rw[show A 0 0*x0+SR m (fun j=>A 0 (j+1)*y j)=A 0 0*x0 - -(SR m fun j=>A 0 (j+1)*y j) by lia]
   exact e0
  refine⟨x,⟨j0+1,by lia,hy⟩,fun i hi=>?_⟩
  cases i with
  | zero=>exact h0
  | succ i =>
    refine a1C hp ha ?_
    have k:=key x i
    have hi2:(SR m fun j=>chA A i j*x (j+1)) % p=0:=h i (by lia)
    have e:A 0 0*SR (m+1) (fun j=>A (i+1) j*x j)=SR m (fun j=>chA A i j*x (j+1))+A (i+1) 0*SR (m+1) (fun j=>A 0 j*x j):=by rw[k];lia
    rw[e,Int.add_emod,hi2,Int.mul_emod,h0]
    simp
theorem b5h {p:Int} (hp:a2T p) {m:Nat} (hm:m+1≤4) (h1:1≤m) {A:Nat→Nat→Int} (ha:A 0 0 % p≠0):DD (m+1) A % p=0↔DD m (chA A) % p=0:=by
 have go:∀ (k:Nat) {x y:Int},y=A 0 0 ^ k*x→(x % p=0↔y % p=0):=fun k=>by
  induction k with
  | zero=>intro x y e;rw[e,Int.pow_zero,Int.one_mul]
  | succ k ih =>
    intro x y e
    rw[ih (y:=A 0 0 ^ k*x) rfl,e,Int.pow_succ,show A 0 0 ^ k*A 0 0*x=A 0 0*(A 0 0 ^ k*x) by grind]
    exact⟨fun z=>by rw[Int.mul_emod,z,Int.mul_zero,Int.zero_emod],fun z=>a1C hp ha z⟩
 match m,hm,h1 with
 | 1,_,_ =>
   refine go 0 ?_
   show A 0 0*A 1 1 - A 1 0*A 0 1=_*M2d (A 0 0) (A 0 1) (A 1 0) (A 1 1)
   unfold M2d
   rw[Int.pow_zero];grind
 | 2,_,_ =>
   refine go 1 ?_
   have:=c0O (A 0 0) (A 0 1) (A 0 2) (A 1 0) (A 1 1) (A 1 2) (A 2 0) (A 2 1) (A 2 2)
   rw[Int.pow_succ,Int.pow_zero,Int.one_mul]
   exact this
 | 3,_,_ =>
   refine go 2 ?_
   have:=c0N (A 0 0) (A 0 1) (A 0 2) (A 0 3) (A 1 0) (A 1 1) (A 1 2) (A 1 3) (A 2 0) (A 2 1) (A 2 2) (A 2 3) (A 3 0) (A 3 1) (A 3 2) (A 3 3)
   rw[Int.pow_succ,Int.pow_succ,Int.pow_zero,Int.one_mul]
   exact this
theorem a7z {p a b:Int} (h:a % p=0):(a*b) % p=0:=by rw[Int.mul_emod,h,Int.zero_mul,Int.zero_emod]
theorem b4b {p a b:Int} (h:a % p=0) (g:b % p=0):(a - b) % p=0:=by rw[Int.sub_emod,h,g,Int.sub_self,Int.zero_emod]
theorem b9K {p a b:Int} (h:a % p=0) (g:b % p=0):(a+b) % p=0:=by rw[Int.add_emod,h,g,Int.add_zero,Int.zero_emod]
theorem b7E {R:Type} [Lean.Grind.CommRing R] (a b c d e f g h i:R):M3d a b c d e f g h i=a*(e*i - f*h) - d*(b*i - c*h)+g*(b*f - c*e):=by unfold M3d;grind
theorem b9P {R:Type} [Lean.Grind.CommRing R] (A:Nat→Nat→R):D4 A=A 0 0*M3d (A 1 1) (A 1 2) (A 1 3) (A 2 1) (A 2 2) (A 2 3) (A 3 1) (A 3 2) (A 3 3) - A 1 0*M3d (A 0 1) (A 0 2) (A 0 3) (A 2 1) (A 2 2) (A 2 3) (A 3 1) (A 3 2) (A 3 3)+A 2 0*M3d (A 0 1) (A 0 2) (A 0 3) (A 1 1) (A 1 2) (A 1 3) (A 3 1) (A 3 2) (A 3 3) - A 3 0*M3d (A 0 1) (A 0 2) (A 0 3) (A 1 1) (A 1 2) (A 1 3) (A 2 1) (A 2 2) (A 2 3):=by unfold D4 M3d;grind
theorem b5g {p:Int} {m:Nat} (hm:m≤4) (h1:1≤m) {A:Nat→Nat→Int} (h:∀ i,i < m→A i 0 % p=0):DD m A % p=0:=by
 match m,hm,h1 with
 | 1,_,_=>exact h 0 (by decide)
 | 2,_,_ =>
   show (A 0 0*A 1 1 - A 0 1*A 1 0) % p=0
   rw[Int.mul_comm (A 0 1)]
   exact b4b (a7z (h 0 (by decide))) (a7z (h 1 (by decide)))
 | 3,_,_ =>
   show M3d _ _ _ _ _ _ _ _ _ % p=0
   rw[b7E]
   exact b9K (b4b (a7z (h 0 (by decide))) (a7z (h 1 (by decide)))) (a7z (h 2 (by decide)))
 | 4,_,_ =>
   show D4 A % p=0
   rw[b9P]
   exact b4b (b9K (b4b (a7z (h 0 (by decide))) (a7z (h 1 (by decide)))) (a7z (h 2 (by decide)))) (a7z (h 3 (by decide)))
theorem b6R {p:Int} (hp:a2T p) {m:Nat} (h1:1≤m) {A:Nat→Nat→Int} (h:∀ i,i < m→A i 0 % p=0):NzS p m A:=by
 obtain⟨k,rfl⟩:∃ k,m=k+1:=⟨m - 1,by lia⟩
 refine⟨fun j=>if 0=j then 1 else 0,⟨0,by lia,by show (1:Int) % p≠0;have:=hp.1;rw[Int.emod_eq_of_lt (by decide) (by lia)];decide⟩,fun i hi=>?_⟩
 have e:SR (k+1) (fun j=>A i j*if 0=j then 1 else 0)=A i 0:=by
  rw[← a6S (show 0 < k+1 by lia) (fun j=>A i j)]
  exact a0V fun j _=>by split<;>lia
 rw[e];exact h i hi
theorem b6T (p a:Int):(-a) % p=0↔a % p=0:=⟨fun h=>by
 have:=Int.dvd_of_emod_eq_zero h
 exact Int.emod_eq_zero_of_dvd (Int.dvd_neg.mp this),fun h=>Int.emod_eq_zero_of_dvd (Int.dvd_neg.mpr (Int.dvd_of_emod_eq_zero h))⟩
theorem b5w {p:Int} (hp:a2T p):∀ {m:Nat},m≤4→1≤m→∀ {A:Nat→Nat→Int},NzS p m A↔DD m A % p=0
 | 0,_,h,_=>by lia
 | m + 1,hm,_,A=>by
   by_cases c:∀ i,i < m+1→A i 0 % p=0
   ·exact⟨fun _=>b5g hm (by lia) c,fun _=>b6R hp (by lia) c⟩
   ·obtain⟨r,hr,hA⟩:∃ r,r < m+1∧A r 0 % p≠0:=by
     rcases Classical.em (∃ r,r < m+1∧A r 0 % p≠0) with z | z
     ·exact z
     ·exact absurd (fun i hi=>Classical.not_not.mp fun y=>z ⟨i,hi,y⟩) c
    have main:∀ {B:Nat→Nat→Int},B 0 0 % p≠0→(NzS p (m+1) B↔DD (m+1) B % p=0):=fun {B} hB=>by
     rw[b6S hp hB]
     by_cases hm0:m=0
     ·subst hm0
      constructor
      ·rintro⟨x,⟨j,hj,_⟩,_⟩;lia
      ·intro z;exact absurd z hB
     ·rw[b5h hp hm (by lia) hB]
      exact b5w hp (by lia) (by lia)
    by_cases r0:r=0
    ·subst r0;exact main hA
    ·have sw:swR r 0=r:=if_pos rfl
     rw[← b6Q hr,main (by rw[sw];exact hA),b7G hm A (by lia) hr,b6T]
theorem b9E {p:Int} (hp:1≤p) {n:Int}:∀ {w:List Int},a0f n w→∀ {z:List Int},z.length=n.toNat→InA p z→∀ {i:Nat},i < n.toNat→bv n w z i % p=(dn (linT p) (a1j w) z).getD i 0
 | [],_,z,hz,hA,i,hi=>by
   rw[b9D hi]
   show z.getD i 0 % p=z.getD i 0
   have:InM p (z.getD i 0):=hA _ (by rw[List.getD_eq_getElem?_getD,List.getElem?_eq_getElem (by lia:i < z.length)];exact List.getElem_mem _)
   exact Int.emod_eq_of_lt this.1 this.2
 | l :: w,hw,z,hz,hA,i,hi=>by
   have hl:=hw l (.head _)
   have hw':a0f n w:=fun x hx=>hw x (.tail _ hx)
   have ih:=fun {k:Nat} (hk:k < n.toNat)=>b9E hp hw' hz hA hk
   have hyl:(dn (linT p) (a1j w) z).length=n.toNat:=by rw[a3h,hz]
   have hyA:InA p (dn (linT p) (a1j w) z):=by
    have:=b5d (a7D hp) (w:=a1j w) (cs:=z) (by rw[hz,show ((n.toNat:Nat):Int)=n by have:=hl.1;have:=hl.2;lia];exact hw'.contr) (by rw[a3H hp];exact hA)
    rwa [a3H hp] at this
   rw[a6a,a2P]
   show bv n ([l]++w) z i % p=(dn1 (linT p) (dn (linT p) (a1j w) z) (-l)).getD i 0
   rw[b3G (b1l hl) hw' hi,← b3F hp hl hyl hyA hi]
   unfold bv
   refine a9i fun k hk=>?_
   have:=ih hk
   rw[Int.mul_emod,show SR n.toNat (fun j=>bI n w k j*z.getD j 0) % p=(dn (linT p) (a1j w) z).getD k 0 from this]
   rw[Int.mul_emod (bI n [l] i k)]
   have hm:InM p ((dn (linT p) (a1j w) z).getD k 0):=hyA _ (by rw[List.getD_eq_getElem?_getD,List.getElem?_eq_getElem (by lia:k < (dn (linT p) (a1j w) z).length)];exact List.getElem_mem _)
   rw[Int.emod_eq_of_lt hm.1 hm.2]
theorem b3d {p:Int} (hp:1≤p) {n:Nat} {w:List Int} (hw:a0f n w) {z:List Int} (hz:z.length=n) (hA:InA p z):dn (linT p) w z=z↔∀ i,i < n→(z.getD i 0 - bv n w z i) % p=0:=by
 have h1:=a7D hp
 have hm:=a3H hp
 have hzA:InA ((linT p).length:Int) z:=by rw[hm];exact hA
 have hc:dn (linT p) w z=z↔dn (linT p) (a1j w) z=z:=by
  have r1:=b5E h1 (RelW.bk hw) (by rw[hz]) hzA (hw.contr.append hw)
  have r2:=b5E h1 (RelW.bk hw.contr) (by rw[hz]) hzA (hw.contr.contr.append hw.contr)
  rw[a8U] at r2
  rw[a2P] at r1 r2
  have e0:dn (linT p) [] z=z:=rfl
  rw[e0] at r1 r2
  exact⟨fun e=>by rw[e] at r2;exact r2,fun e=>by rw[e] at r1;exact r1⟩
 rw[hc]
 have b:=fun {i:Nat} (hi:i < n)=>b9E hp (n:=n) hw (by rw[hz,Int.toNat_natCast]) hA (i:=i) (by rw[Int.toNat_natCast];exact hi)
 have inz:∀ i,i < n→InM p (z.getD i 0):=fun i hi=>hA _ (by rw[List.getD_eq_getElem?_getD,List.getElem?_eq_getElem (by lia:i < z.length)];exact List.getElem_mem _)
 constructor
 ·intro e i hi
  have:=b hi
  rw[e] at this
  rw[Int.sub_emod,this,Int.emod_eq_of_lt (inz i hi).1 (inz i hi).2,Int.sub_self,Int.zero_emod]
 ·intro e
  refine List.ext_getElem (by rw[a3h]) fun i i1 i2=>?_
  have hi:i < n:=by lia
  have a1:=e i hi
  have a2:=b hi
  have a3:=a4M a1
  rw[a2,Int.emod_eq_of_lt (inz i hi).1 (inz i hi).2] at a3
  rw[List.getD_eq_getElem?_getD,List.getD_eq_getElem?_getD,List.getElem?_eq_getElem i1,List.getElem?_eq_getElem i2] at a3
  exact a3.symm
theorem b5K {n:Int} {w:List Int} (hw:a0f n w) {i:Nat} (hi:i < n.toNat):SR n.toNat (fun j=>bI n w i j)=1:=by
 unfold bI
 rw[← b5b mgm,b9Q hw hi];exact a8Q mgm
noncomputable def vI (k:Nat):Int:=evL gm (L2.tL k)
theorem vI_0:vI 0=1:=a8Q mgm
theorem b9I {n:Int} {w:List Int} (hw:a0f n w) {k:Nat} (hk:k < n.toNat):SR n.toNat (fun j=>vI j*bI n w j k)=vI k:=by
 have h:=congrArg (evL gm) (b9T hw hk)
 rw[b5b mgm] at h
 unfold vI bI
 rw[← h]
 exact a0V fun j _=>(a3z mgm _ _).symm
noncomputable def aI (n:Int) (w:List Int) (i j:Nat):Int:=(if i=j then 1 else 0) - bI n w (i+1) (j+1)
theorem c0Q (n:Int) (w:List Int) (i j:Nat):evL gm (AL1 n w i j)=aI n w i j:=by
 unfold AL1 aI bI
 rw[b0O mgm]
 congr 1
 split
 ·exact a8Q mgm
 ·exact a9Q mgm
theorem b0t {n:Nat} (hn:1≤n) {w:List Int} (hw:a0f n w) (z:Nat→Int) {i:Nat} (hi:i < n - 1):SR (n - 1) (fun j=>aI n w i j*(z (j+1) - z 0))=z (i+1) - SR n (fun j=>bI n w (i+1) j*z j):=by
 obtain⟨m,rfl⟩:∃ m,n=m+1:=⟨n - 1,by lia⟩
 rw[Nat.add_sub_cancel] at hi⊢
 have r:=b5K hw (i:=i+1) (by rw[Int.toNat_natCast];lia)
 rw[Int.toNat_natCast,a4p] at r
 rw[a4p]
 have e:SR m (fun j=>aI (m+1:Nat) w i j*(z (j+1) - z 0))=(z (i+1) - z 0) - (SR m (fun j=>bI (m+1:Nat) w (i+1) (j+1)*z (j+1)) - SR m (fun j=>bI (m+1:Nat) w (i+1) (j+1))*z 0):=by
  rw[← a6S hi (fun j=>z (j+1) - z 0),← a7X,← b1i,← b1i]
  exact a0V fun j _=>by unfold aI;grind
 rw[e]
 generalize SR m (fun j=>bI (m+1:Nat) w (i+1) (j+1)*z (j+1))=X
 generalize SR m (fun j=>bI (m+1:Nat) w (i+1) (j+1))=Y at r⊢
 grind
theorem b2i {p:Int} {n:Nat} (hn:1≤n) {w:List Int} (hw:a0f n w) (z:Nat→Int) (h:∀ i,i < n - 1→(z (i+1) - SR n (fun j=>bI n w (i+1) j*z j)) % p=0):(z 0 - SR n (fun j=>bI n w 0 j*z j)) % p=0:=by
 have all:SR n (fun i=>vI i*(z i - SR n fun j=>bI n w i j*z j))=0:=by
  have e1:SR n (fun i=>vI i*(z i - SR n fun j=>bI n w i j*z j))=SR n (fun i=>vI i*z i) - SR n fun i=>SR n fun j=>vI i*(bI n w i j*z j):=by
   rw[← b1i]
   exact a0V fun i _=>by rw[a6T];grind
  have e2:(SR n fun i=>SR n fun j=>vI i*(bI n w i j*z j))=SR n fun j=>vI j*z j:=by
   rw[b3P]
   refine a0V fun j hj=>?_
   have c:=b9I hw (k:=j) (by rw[Int.toNat_natCast];exact hj)
   rw[Int.toNat_natCast] at c
   rw[← c,← a7X]
   exact a0V fun i _=>by grind
  rw[e1,e2];lia
 obtain⟨m,rfl⟩:∃ m,n=m+1:=⟨n - 1,by lia⟩
 rw[a4p,vI_0] at all
 have rest:SR m (fun i=>vI (i+1)*(z (i+1) - SR (m+1) fun j=>bI (m+1:Nat) w (i+1) j*z j)) % p=0:=by
  rw[a9i (g:=fun _=>0) fun i hi=>by rw[Int.mul_emod,h i (by lia),Int.mul_zero]]
  have:=a6T (0:Int) m (fun _=>(0:Int))
  rw[Int.zero_mul,Int.zero_mul] at this
  rw[this,Int.zero_emod]
 have e:z 0 - SR (m+1) (fun j=>bI (m+1:Nat) w 0 j*z j)=-SR m (fun i=>vI (i+1)*(z (i+1) - SR (m+1) fun j=>bI (m+1:Nat) w (i+1) j*z j)):=by lia
 rw[e]
 exact (b6T p _).mpr rest
noncomputable def Unl (p:Int) (n:Nat) (w:List Int):Prop:=∃ z∈fixR (linT p) w n,∃ j,j < n∧z.getD j 0≠z.getD 0 0
theorem b5B {p:Int} (hp:1≤p) {n:Nat} {w:List Int} (hw:a0f n w) (f:Nat→Int):(List.range n).map (fun i=>f i % p)∈fixR (linT p) w n↔∀ i,i < n→(f i - SR n (fun j=>bI n w i j*f j)) % p=0:=by
 have hl:((List.range n).map fun i=>f i % p).length=n:=by rw[List.length_map,List.length_range]
 have hA:InA p ((List.range n).map fun i=>f i % p):=fun x hx=>by
  obtain⟨i,_,rfl⟩:=List.mem_map.mp hx
  exact a4g hp
 have hg:∀ i,i < n→((List.range n).map fun i=>f i % p).getD i 0=f i % p:=fun i hi=>by
  rw[List.getD_eq_getElem?_getD,List.getElem?_map,List.getElem?_range hi];rfl
 rw[a3Z,a3H hp]
 have key:∀ i,i < n→(((List.range n).map fun i=>f i % p).getD i 0 - bv n w ((List.range n).map fun i=>f i % p) i) % p=(f i - SR n (fun j=>bI n w i j*f j)) % p:=fun i hi=>by
  rw[hg i hi,Int.sub_emod,Int.emod_emod,Int.sub_emod (f i)]
  congr 2
  unfold bv
  rw[Int.toNat_natCast]
  refine a9i fun j hj=>?_
  rw[hg j hj,Int.mul_emod,Int.emod_emod,← Int.mul_emod]
 constructor
 ·rintro⟨_,h⟩ i hi
  rw[← key i hi]
  exact (b3d hp hw hl hA).mp h i hi
 ·intro h
  exact⟨⟨hl,hA⟩,(b3d hp hw hl hA).mpr fun i hi=>by rw[key i hi];exact h i hi⟩
theorem b7M {p:Int} (hp:a2T p) {n:Nat} (hn:1≤n) {w:List Int} (hw:a0f n w):Unl p n w↔NzS p (n - 1) (aI n w):=by
 have p1:1≤p:=by have:=hp.1;lia
 constructor
 ·rintro⟨z,hz,j,hj,hne⟩
  obtain⟨⟨z1,z2⟩,z3⟩:=a3Z.mp hz
  rw[a3H p1] at z2
  have inz:∀ i,i < n→InM p (z.getD i 0):=fun i hi=>z2 _ (by rw[List.getD_eq_getElem?_getD,List.getElem?_eq_getElem (by lia:i < z.length)];exact List.getElem_mem _)
  have hb:=(b3d p1 hw z1 z2).mp z3
  refine⟨fun j=>z.getD (j+1) 0 - z.getD 0 0,⟨j - 1,?_,?_⟩,fun i hi=>?_⟩
  ·have:j≠0:=fun e=>hne (by rw[e])
   lia
  ·have j0:j≠0:=fun e=>hne (by rw[e])
   show (z.getD (j - 1+1) 0 - z.getD 0 0) % p≠0
   rw[show j - 1+1=j by lia]
   intro e
   exact hne (a3E (inz j hj) (inz 0 (by lia)) (a4M e))
  ·rw[b0t hn hw (fun j=>z.getD j 0) hi]
   have:=hb (i+1) (by lia)
   unfold bv at this
   rwa [Int.toNat_natCast] at this
 ·rintro⟨x,⟨j,hj,hx⟩,h⟩
  have hrow:∀ i,i < n - 1→((fun k:Nat=>if k=0 then 0 else x (k - 1)) (i+1) - SR n (fun j=>bI n w (i+1) j*(fun k:Nat=>if k=0 then 0 else x (k - 1)) j)) % p=0:=fun i hi=>by
   rw[← b0t hn hw (fun k:Nat=>if k=0 then 0 else x (k - 1)) hi]
   refine Eq.trans (congrArg (· % p) ?_) (h i hi)
   exact a0V fun j _=>by
    show aI n w i j*((if j+1=0 then 0 else x (j+1 - 1)) - (if 0=0 then 0 else x (0 - 1)))=aI n w i j*x j
    rw[if_neg (by lia:¬j+1=0),if_pos rfl,Nat.add_sub_cancel,Int.sub_zero]
  refine⟨(List.range n).map fun i=>(fun k:Nat=>if k=0 then 0 else x (k - 1)) i % p,(b5B p1 hw _).mpr fun i hi=>?_,j+1,by lia,?_⟩
  ·cases i with
   | zero=>exact b2i hn hw (fun k:Nat=>if k=0 then 0 else x (k - 1)) hrow
   | succ i=>exact hrow i (by lia)
  ·rw[List.getD_eq_getElem?_getD,List.getD_eq_getElem?_getD,List.getElem?_map,List.getElem?_map,List.getElem?_range (by lia),List.getElem?_range (by lia)]
   show (if j+1=0 then 0 else x (j+1 - 1)) % p≠(if 0=0 then 0 else x (0 - 1)) % p
   rw[if_neg (by lia:¬j+1=0),if_pos rfl,Nat.add_sub_cancel,Int.zero_emod]
   exact hx
theorem b4X {p:Int} (hp:a2T p) {n:Nat} (hn:1≤n) {w:List Int} (hw:a0f n w):1 < a5p p n w↔Unl p n w:=by
 have p1:1≤p:=by have:=hp.1;lia
 have hc:=a6L hp hw
 have hp2:1 < p.toNat:=by have:=hp.1;lia
 have con:∀ a,InM p a→List.replicate n a∈fixR (linT p) w n:=fun a ha=>by
  refine a3Z.mpr ⟨⟨List.length_replicate ..,fun c hc=>?_⟩,?_⟩
  ·rw[List.eq_of_mem_replicate hc,a3H p1];exact ha
  ·have hR:=(b5B p1 hw (fun _=>a)).mpr fun i hi=>by
    have r:=b5K hw (i:=i) (by rw[Int.toNat_natCast];exact hi)
    rw[Int.toNat_natCast] at r
    rw[a7X,r,Int.one_mul,Int.sub_self,Int.zero_emod]
   have e:(List.range n).map (fun _=>a % p)=List.replicate n a:=by
    rw[Int.emod_eq_of_lt ha.1 ha.2]
    exact List.eq_replicate_iff.mpr ⟨by rw[List.length_map,List.length_range],fun b hb=>by obtain⟨_,_,rfl⟩:=List.mem_map.mp hb;rfl⟩
   rw[e] at hR
   exact (a3Z.mp hR).2
 have ndc:((a0l p).map fun a=>List.replicate n a).Nodup:=List.pairwise_map.mpr ((a3D p).imp fun h z=>h (by
  obtain⟨k,rfl⟩:∃ k,n=k+1:=⟨n - 1,by lia⟩
  rw[List.replicate_succ,List.replicate_succ] at z
  injection z))
 constructor
 ·intro h
  rcases Classical.em (Unl p n w) with z | z
  ·exact z
  ·exfalso
   have hall:∀ r∈fixR (linT p) w n,r∈(a0l p).map fun a=>List.replicate n a:=fun r hr=>by
    obtain⟨⟨r1,r2⟩,_⟩:=a3Z.mp hr
    rw[a3H p1] at r2
    have hsame:∀ j,j < n→r.getD j 0=r.getD 0 0:=fun j hj=>Classical.not_not.mp fun y=>z ⟨r,hr,j,hj,y⟩
    have h0:InM p (r.getD 0 0):=r2 _ (by rw[List.getD_eq_getElem?_getD,List.getElem?_eq_getElem (by lia:0 < r.length)];exact List.getElem_mem _)
    refine List.mem_map.mpr ⟨r.getD 0 0,a0A.mpr h0,?_⟩
    refine (List.eq_replicate_iff.mpr ⟨r1,fun b hb=>?_⟩).symm
    obtain⟨j,hj⟩:=List.getElem?_of_mem hb
    have hjl:=(List.getElem?_eq_some_iff.mp hj).1
    have:=hsame j (by lia)
    rw[← this,List.getD_eq_getElem?_getD,hj];rfl
   have:=List.Nodup.length_le_of_subset (b3e _ _ _) hall
   rw[hc,List.length_map,a0s] at this
   have h2:p.toNat ^ 1 < p.toNat ^ a5p p n w:=Nat.pow_lt_pow_right hp2 h
   rw[Nat.pow_one] at h2
   lia
 ·rintro⟨z,hz,j,hj,hne⟩
  have hsub:∀ r∈z :: (a0l p).map (fun a=>List.replicate n a),r∈fixR (linT p) w n:=fun r hr=>by
   rcases List.mem_cons.mp hr with e | e
   ·rw[e];exact hz
   ·obtain⟨a,ha,rfl⟩:=List.mem_map.mp e
    exact con a (a0A.mp ha)
  have nd:(z :: (a0l p).map fun a=>List.replicate n a).Nodup:=List.nodup_cons.mpr ⟨fun h=>by
   obtain⟨a,_,e⟩:=List.mem_map.mp h
   refine hne ?_
   rw[← e,List.getD_eq_getElem?_getD,List.getD_eq_getElem?_getD,List.getElem?_replicate,List.getElem?_replicate,if_pos hj,if_pos (by lia)],ndc⟩
  have:=List.Nodup.length_le_of_subset nd hsub
  rw[hc,List.length_cons,List.length_map,a0s] at this
  rcases Nat.lt_or_ge 1 (a5p p n w) with h | h
  ·exact h
  ·have:p.toNat ^ a5p p n w≤p.toNat ^ 1:=Nat.pow_le_pow_right (by lia) h
   rw[Nat.pow_one] at this
   lia
theorem b4Y {p:Int} (hp:a2T p) {n:Nat} (hn:1≤n) (n5:n≤5) {w:List Int} (hw:a0f n w):1 < a5p p n w↔a4J (a5d n w) % p=0:=by
 have hw2:a4J (a5d n w) % p=0↔DD (n - 1) (aI n w) % p=0:=by
  have e:=b7m mgm c0F (n:=n) (w:=w) (by lia) (by lia)
  rw[Int.toNat_natCast] at e
  have e2:DD (n - 1) (fun i j=>evL gm (AL1 n w i j))=DD (n - 1) (aI n w):=b1k (by lia) fun i j _ _=>c0Q n w i j
  rw[e2] at e
  unfold a4J
  rw[← b3f,e]
  generalize DD (n - 1) (aI n w)=d
  rcases Int.natAbs_eq d with h | h
  ·rw[← h]
  ·rw[show ((d.natAbs:Nat):Int)=-d by lia];exact b6T p d
 rw[b4X hp hn hw,b7M hp hn hw,hw2]
 by_cases h1:n=1
 ·subst h1
  constructor
  ·rintro⟨x,⟨j,hj,_⟩,_⟩;lia
  ·intro h
   have h:(1:Int) % p=0:=h
   have:=hp.1
   rw[Int.emod_eq_of_lt (by decide) (by lia)] at h
   exact absurd h (by decide)
 ·exact b5w hp (by lia) (by lia)
noncomputable def elR (p:Int) (c:Nat) (rows:List (List Int)) (f:List Int) (t:List (List Int)):List (List Int):=rows.filter (fun r=>decide (r.getD c 0=0))++t.map fun r=>clr p c r f
noncomputable def frL (p:Int):Nat→Nat→List (List Int)→Nat
 | 0,_,_=>0
 | k+1,c,rows=>match rows.filter (fun r=>decide (r.getD c 0≠0)) with
   | []=>frL p k (c+1) rows+1
   | f :: t=>frL p k (c+1) (elR p c rows f t)
noncomputable def InR (p:Int) (n:Nat) (rows:List (List Int)):Prop:=∀ r∈rows,r.length=n∧InA p r
theorem b9C {p:Int} (hp:1≤p) {n c:Nat} {a b:List Int} (ha:a.length=n) (hb:b.length=n):(clr p c a b).length=n∧InA p (clr p c a b):=by
 unfold clr
 refine⟨by rw[List.length_zipWith,ha,hb,Nat.min_self],fun x hx=>?_⟩
 obtain⟨j,hj⟩:=List.getElem?_of_mem hx
 rw[List.getElem?_zipWith] at hj
 cases eu:a[j]? with
 | none=>rw[eu] at hj;cases hj
 | some y=>cases ev:b[j]? with
   | none=>rw[eu,ev] at hj;cases hj
   | some z =>
     rw[eu,ev] at hj
     obtain rfl:=(Option.some.inj hj).symm
     exact a4g hp
theorem b9u {p:Int} (hp:1≤p) {n c:Nat} {rows t:List (List Int)} {f:List Int} (h:InR p n rows) (hf:f∈rows) (ht:∀ r∈t,r∈rows):InR p n (elR p c rows f t):=fun r hr=>by
 unfold elR at hr
 rcases List.mem_append.mp hr with z | z
 ·exact h r (List.mem_filter.mp z).1
 ·obtain⟨q,hq,rfl⟩:=List.mem_map.mp z
  exact b9C hp (h q (ht q hq)).1 (h f hf).1
theorem a7M {p:Int} (hp:a2T p) {n:Nat}:∀ (k c:Nat) (rows:List (List Int)),c+k≤n→InR p n rows→(solS p c k rows).length=p.toNat ^ frL p k c rows
 | 0,c,rows,_,_=>by
   have:solS p c 0 rows=[[]]:=by
    unfold solS alR
    rw[List.filter_cons,if_pos (by
     rw[List.all_eq_true]
     intro r _
     exact decide_eq_true (by show (0:Int) % p=0;exact Int.zero_emod p))]
    rfl
   rw[this];rfl
 | k + 1,c,rows,hc,hR=>by
   have p1:1≤p:=by have:=hp.1;lia
   have red:∀ r∈rows,r.getD c 0 % p=r.getD c 0:=fun r hr=>by
    have:InM p (r.getD c 0):=(hR r hr).2 _ (by rw[List.getD_eq_getElem?_getD,List.getElem?_eq_getElem (by rw[(hR r hr).1];lia)];exact List.getElem_mem _)
    exact Int.emod_eq_of_lt this.1 this.2
   unfold frL
   split
   ·rename_i e
    have hz:∀ r∈rows,r.getD c 0 % p=0:=fun r hr=>by
     have:=List.filter_eq_nil_iff.mp e r hr
     rw[red r hr]
     simpa using this
    rw[b0o hz,a7M hp k (c+1) rows (by lia) hR,Nat.pow_succ,Nat.mul_comm]
   ·rename_i f t e
    have hl:∀ r,r∈f :: t↔r∈rows∧r.getD c 0≠0:=fun r=>by
     rw[← e,List.mem_filter,decide_eq_true_eq]
    obtain⟨f1,f2⟩:=(hl f).mp (.head _)
    have f3:f.getD c 0 % p≠0:=by rw[red f f1];exact f2
    rw[b2c hp f1 (fun r hr=>(hR r hr).1) f3,← a7M hp k (c+1) _ (by lia) (b9u p1 hR f1 fun r hr=>((hl r).mp (.tail _ hr)).1)]
    refine a5t (a3n _ _ _ _) (a3n _ _ _ _) fun xs=>?_
    rw[a2a,a2a]
    refine and_congr_right fun hx=>?_
    have cd:∀ r∈rows,dotF (clr p c r f) (c+1) xs % p=(f.getD c 0*dotF r (c+1) xs - r.getD c 0*dotF f (c+1) xs) % p:=fun r hr=>b0c (hR r hr).1 (hR f f1).1 xs (c+1)
    constructor
    ·intro h r hr
     unfold elR at hr
     rcases List.mem_append.mp hr with z | z
     ·obtain⟨z1,z2⟩:=List.mem_filter.mp z
      have z2:r.getD c 0=0:=by simpa using z2
      have a:=h _ (List.mem_map.mpr ⟨r,z1,rfl⟩)
      rw[cd r z1,z2,Int.zero_mul,Int.sub_zero] at a
      exact a1C hp f3 a
     ·obtain⟨q,hq,rfl⟩:=List.mem_map.mp z
      exact h _ (List.mem_map.mpr ⟨q,((hl q).mp (.tail _ hq)).1,rfl⟩)
    ·intro h r hr
     obtain⟨q,hq,rfl⟩:=List.mem_map.mp hr
     by_cases z:q.getD c 0=0
     ·have a:=h q (List.mem_append.mpr (.inl (List.mem_filter.mpr ⟨hq,decide_eq_true z⟩)))
      rw[cd q hq,z,Int.zero_mul,Int.sub_zero,Int.mul_emod,a,Int.mul_zero,Int.zero_emod]
     ·rcases List.mem_cons.mp ((hl q).mpr ⟨hq,z⟩) with e2 | e2
      ·rw[e2,cd f f1,Int.sub_self,Int.zero_emod]
      ·exact h _ (List.mem_append.mpr (.inr (List.mem_map.mpr ⟨q,e2,rfl⟩)))
noncomputable def mdR (p:Int) (rows:List (List Int)):List (List Int):=rows.map fun r=>r.map (· % p)
theorem a9T {p:Int}:∀ (xs r:List Int) (c:Nat),dotF (r.map (· % p)) c xs % p=dotF r c xs % p
 | [],_,_=>rfl
 | x :: xs,r,c=>by
   show ((r.map (· % p)).getD c 0*x+dotF (r.map (· % p)) (c+1) xs) % p=(r.getD c 0*x+dotF r (c+1) xs) % p
   have e:(r.map (· % p)).getD c 0 % p=r.getD c 0 % p:=by
    rw[List.getD_eq_getElem?_getD,List.getElem?_map,List.getD_eq_getElem?_getD]
    cases r[c]? with
    | none=>rfl
    | some y=>exact Int.emod_emod ..
   rw[Int.add_emod,Int.mul_emod,e,a9T xs r (c+1),← Int.mul_emod,← Int.add_emod]
theorem b8h {p:Int} {c k:Nat} {rows:List (List Int)}:(solS p c k (mdR p rows)).length=(solS p c k rows).length:=by
 refine a5t (a3n _ _ _ _) (a3n _ _ _ _) fun xs=>?_
 rw[a2a,a2a]
 refine and_congr_right fun _=>⟨fun h r hr=>?_,fun h r hr=>?_⟩
 ·rw[← a9T]
  exact h _ (List.mem_map.mpr ⟨r,hr,rfl⟩)
 ·unfold mdR at hr
  obtain⟨q,hq,rfl⟩:=List.mem_map.mp hr
  rw[a9T];exact h q hq
theorem b7i {p:Int} (hp:a2T p) {n:Nat} {w:List Int} (hw:a0f n w):frL p n 0 (mdR p (minU n (shL (unR n) w)))=a5p p n w:=by
 have p1:1≤p:=by have:=hp.1;lia
 have ht:=a4q p1 (a4L (p:=p) (n:=n) (x:=List.replicate n 0) (List.length_replicate ..) (fun c hc=>by rw[List.eq_of_mem_replicate hc];exact⟨Int.le_refl _,by lia⟩)) hw
 have hin:InR p n (mdR p (minU n (shL (unR n) w))):=fun r hr=>by
  unfold mdR at hr
  obtain⟨q,hq,rfl⟩:=List.mem_map.mp hr
  refine⟨by rw[List.length_map];exact a7B (fun i hi=>(ht.2.2.2 i hi).1) q hq,fun x hx=>?_⟩
  obtain⟨y,_,rfl⟩:=List.mem_map.mp hx
  exact a4g p1
 have h1:=a7M hp n 0 _ (by lia) hin
 rw[b8h,b2d p1 hw,a6L hp hw] at h1
 have h2:1 < p.toNat:=by have:=hp.1;lia
 rcases Nat.lt_trichotomy (frL p n 0 (mdR p (minU n (shL (unR n) w)))) (a5p p n w) with z | z | z
 ·exact absurd h1.symm (Nat.ne_of_lt (Nat.pow_lt_pow_right h2 z))
 ·exact z
 ·exact absurd h1 (Nat.ne_of_lt (Nat.pow_lt_pow_right h2 z))
noncomputable def b6o:R3:=fun x y M Q=>match x,y with
 | .adr p,.adr q=>p≠q∧∃ ts:List T,M p=some (.lst ts)∧M q=some (.lst [])∧Q (.bl ts.isEmpty) M
 | _,_=>False
section
variable {X:Cx}
theorem b4A (hu:X.A.units+64 < cLine):OpR3 X (compareOp .Eq) b6o:=by
 intro pins s σ H x y v u Q2 I rx ry q
 obtain⟨a,b,M,Q,r1,r2,hh,q,en⟩:=q
 unfold b6o at q
 split at q
 ·rename_i p p'
  obtain⟨hpq,ts,e1,e2,q⟩:=q
  obtain⟨xs,h1,h2⟩:=hh _ _ e1
  obtain⟨ys,g1,g2⟩:=hh _ _ e2
  obtain rfl:=a0G r1
  obtain rfl:=a0G r2
  cases rx
  cases ry
  obtain⟨its,s1,pl,_⟩:=I.list (SqL.of h1)
  obtain⟨its2,s2,pl2,_⟩:=I.list (SqL.of g1)
  have l1:=h2.length
  have l2:=g2.length
  have m1:=s1.length
  have m2:=s2.length
  have l0:its2.length=0:=by rw[← m2,l2];rfl
  by_cases c:ts=[]
  ·subst c
   have hsz:its.toArray.size=its2.toArray.size:=by simp;rw[l0,← m1,l1];rfl
   have rc:=SeqAt.RcAt.lists (A:=X.A) pl.isList pl2.isList hsz (by lia) (e:=fun _=>true) (fun j hj1 hj2=>by simp [l0] at hj2)
   have ee:(List.range its.toArray.size).all (fun _=>true)=true:=by rw[List.all_eq_true];intro _ _;rfl
   rw[ee] at rc
   exact rc _ _ _ _ ⟨.bl _,H,I,rfl,en _ _ M H Kp.refl hh a3f q⟩
  ·have hsz:its.toArray.size≠its2.toArray.size:=by
    simp
    rw[l0,← m1,l1]
    exact fun z=>c (List.eq_nil_of_length_eq_zero z)
   have rc:=SeqAt.RcAt.lists_lengths (A:=X.A) pl.isList pl2.isList (by simpa using hsz) (by lia)
   have e:ts.isEmpty=false:=by cases ts with | nil=>exact absurd rfl c | cons _ _=>rfl
   rw[e] at q
   exact rc _ _ _ _ ⟨.bl _,H,I,rfl,en _ _ M H Kp.refl hh a3f q⟩
 ·exact q.elim
end
local macro_rules | `(tactic| walk_at "3") => `(tactic| first | exact Or.inl rfl | exact Or.inr (Or.inl rfl) | exact Or.inr (Or.inr rfl))
local macro_rules | `(tactic| walk_at "2") => `(tactic| first | exact Or.inl rfl | exact Or.inr rfl)
local macro_rules | `(tactic| walk_at "4") => `(tactic| first | exact .inl rfl | exact .inr rfl | assumption)
local macro_rules | `(tactic| walk_at "rd") => `(tactic| (try simp only [b9j, b8p, b6i, b2b, b7V, a7b, tCB3, b0k, b7X, b3X, tK, tOp3, tUn3, a3A, b5W, b5q, b7Z, b5t, b8e, b1Z, b7T, b7W, b8f, tOr3, b5v, b5p, tIf3, b0l, b7S, b7Y, b5u, tLM3, b5s, b5r, b8a, b4O, b8b, tDGK, sDPK, b7R,
 a8M,a8P,b7h,b3b,b9r,a8d,tSl3,tNo3,tPt3,b9k,b6o,b2o,a7l,b9l,b2S,b2R,b7c,b6r,b6j,b6l,b8v,b8u,b8t,rInt,b6k,rIx3,b6m,b6s,a9z,b6n,b6q,b4l,rLt3,rLe3,rGt3,rGe3,a9A,rEq3,rNe3,rEqv,truT,b4M,tyK,tIsi,isiK,
 a9t,a9s,b1q,b1z,b1y,b2t,b2I,List.getElem?_cons_zero,List.getElem?_cons_succ,List.set_cons_zero,List.set_cons_succ,List.length_cons,List.length_nil,List.map_nil,List.isEmpty_cons,List.isEmpty_nil,a0c,a7Z,a7V,b5k,c0P,c0z,a6h,a5U,
 a3F,b4m,b2q,a9B,b1v,a5E,a2G,b7p,b5i,b1N,b3t,a6O,b7n,a3K,b3j,b5c,b3i,id,Bool.not_true,Bool.not_false,Bool.and_true,Bool.true_and,Bool.or_false,Bool.false_or,
 decide_eq_true_eq,Bool.not_eq_true',decide_eq_false_iff_not,Bool.false_eq_true,↓reduceIte,if_true,if_false,true_and,and_true,and_self,Nat.zero_le,not_true_eq_false,not_false_eq_true,List.length_map,List.length_append,List.length_singleton]))
noncomputable abbrev top (i:Nat):Stmt:=PySem.Challenge.pw_loopwright_k93_whole_colours_and_weights.main.body.getD i (.Pass ⟨0,0,0,0⟩)
noncomputable abbrev a2i:Stmt:=top 7
noncomputable abbrev a2M:Stmt:=top 8
noncomputable abbrev a2J:Stmt:=top 9
noncomputable abbrev a3U:Stmt:=top 10
noncomputable abbrev a0F:Stmt:=top 15
noncomputable abbrev a4Q:Stmt:=top 16
noncomputable abbrev a1R:Stmt:=top 17
noncomputable abbrev a0Z:Stmt:=top 23
noncomputable abbrev a1F:Stmt:=top 24
noncomputable abbrev a1G:Stmt:=top 25
noncomputable abbrev a1b:Stmt:=top 26
noncomputable abbrev a1H:Stmt:=top 27
noncomputable abbrev a1B:Stmt:=top 28
noncomputable abbrev a0Q:Stmt:=top 29
noncomputable abbrev a1f:Stmt:=top 32
noncomputable abbrev a1A:Stmt:=top 33
noncomputable abbrev a0I:Stmt:=top 34
noncomputable abbrev a2N:Stmt:=top 35
noncomputable abbrev a2s:Stmt:=top 36
noncomputable abbrev a1t:Stmt:=top 37
noncomputable abbrev a1u:Stmt:=top 39
noncomputable abbrev a1S:Stmt:=top 40
noncomputable abbrev a1T:Stmt:=top 41
noncomputable abbrev a1I:Stmt:=top 42
noncomputable abbrev a1P:Stmt:=top 43
noncomputable abbrev a1U:Stmt:=top 44
noncomputable abbrev a0R:Stmt:=top 45
noncomputable abbrev a1m:Stmt:=top 46
noncomputable abbrev a6j:Stmt:=top 47
theorem a8j:FnScope ["strands","letter"] ["strands","letter"] (a0a a2i):=⟨rfl,rfl,rfl,by decide +kernel,rfl,by decide +kernel,by decide +kernel⟩
theorem b1s:FnScope ["strands","word","most"] ["strands","word","most"] (a0a a2M):=⟨rfl,rfl,rfl,by decide +kernel,rfl,by decide +kernel,by decide +kernel⟩
theorem a9x:FnScope ["plait"] ["plait"] (a0a a2J):=⟨rfl,rfl,rfl,by decide +kernel,rfl,by decide +kernel,by decide +kernel⟩
theorem b2g:FnScope ["plait"] ["plait"] (a0a a3U):=⟨rfl,rfl,rfl,by decide +kernel,rfl,by decide +kernel,by decide +kernel⟩
theorem a4t:FnScope ["counts"] ["counts"] (a0a a0F):=⟨rfl,rfl,rfl,by decide +kernel,rfl,by decide +kernel,by decide +kernel⟩
theorem a5s:FnScope ["one","other","counts","power","count"] ["one","other"] (a0a a4Q):=⟨rfl,rfl,rfl,by decide +kernel,rfl,by decide +kernel,by decide +kernel⟩
theorem a1l:FnScope ["one","other","counts","power","count","other_power","other_count","both"] ["one","other"] (a0a a1R):=⟨rfl,rfl,rfl,by decide +kernel,rfl,by decide +kernel,by decide +kernel⟩
theorem a4O:FnScope ["row","column"] ["row","column"] (a0a a0Z):=⟨rfl,rfl,rfl,by decide +kernel,rfl,by decide +kernel,by decide +kernel⟩
theorem a1s:FnScope ["row","letter","at","left","right","pair"] ["row","letter"] (a0a a1F):=⟨rfl,rfl,rfl,by decide +kernel,rfl,by decide +kernel,by decide +kernel⟩
theorem a2K:FnScope ["plait","places","rows","letter"] ["plait"] (a0a a1G):=⟨rfl,rfl,rfl,by decide +kernel,rfl,by decide +kernel,by decide +kernel⟩
theorem a0H:FnScope ["rows","whole","sign","column","here","rest"] ["rows"] (a0a a1b):=⟨rfl,rfl,rfl,by decide +kernel,rfl,by decide +kernel,by decide +kernel⟩
theorem a3a:FnScope ["whole","least","sign"] ["whole"] (a0a a1H):=⟨rfl,rfl,rfl,by decide +kernel,rfl,by decide +kernel,by decide +kernel⟩
theorem a2b:FnScope ["plait","table","places","rows","row"] ["plait"] (a0a a1B):=⟨rfl,rfl,rfl,by decide +kernel,rfl,by decide +kernel,by decide +kernel⟩
theorem a5j:FnScope ["plait"] ["plait"] (a0a a0Q):=⟨rfl,rfl,rfl,by decide +kernel,rfl,by decide +kernel,by decide +kernel⟩
theorem a5z:FnScope ["number"] ["number"] (a0a a1f):=⟨rfl,rfl,rfl,by decide +kernel,rfl,by decide +kernel,by decide +kernel⟩
theorem a7g:FnScope ["row","other"] ["row","other"] (a0a a1A):=⟨rfl,rfl,rfl,by decide +kernel,rfl,by decide +kernel,by decide +kernel⟩
theorem a0Y:FnScope ["plait","strands","rows","letter","at","pair"] ["plait"] (a0a a0I):=⟨rfl,rfl,rfl,by decide +kernel,rfl,by decide +kernel,by decide +kernel⟩
theorem b1t:FnScope ["row","first","column","prime"] ["row","first","column","prime"] (a0a a2N):=⟨rfl,rfl,rfl,by decide +kernel,rfl,by decide +kernel,by decide +kernel⟩
theorem a2I:FnScope ["rows","prime","rank","column","found"] ["rows","prime"] (a0a a2s):=⟨rfl,rfl,rfl,by decide +kernel,rfl,by decide +kernel,by decide +kernel⟩
theorem a2L:FnScope ["prime","plait","rows","place"] ["prime","plait"] (a0a a1t):=⟨rfl,rfl,rfl,by decide +kernel,rfl,by decide +kernel,by decide +kernel⟩
theorem a5A:FnScope ["script","k"] ["script","k"] (a0a a1u):=⟨rfl,rfl,rfl,by decide +kernel,rfl,by decide +kernel,by decide +kernel⟩
theorem a7h:FnScope ["found"] ["found"] (a0a a1S):=⟨rfl,rfl,rfl,by decide +kernel,rfl,by decide +kernel,by decide +kernel⟩
theorem a4v:FnScope ["script","k","cell"] ["script","k"] (a0a a1T):=⟨rfl,rfl,rfl,by decide +kernel,rfl,by decide +kernel,by decide +kernel⟩
theorem a2p:FnScope ["state","many","found","mixed"] ["state","many"] (a0a a1I):=⟨rfl,rfl,rfl,by decide +kernel,rfl,by decide +kernel,by decide +kernel⟩
theorem a8k:FnScope ["state","strands","count"] ["state","strands","count"] (a0a a1P):=⟨rfl,rfl,rfl,by decide +kernel,rfl,by decide +kernel,by decide +kernel⟩
theorem a4w:FnScope ["state","least","most","letters","strands"] ["state","least","most","letters"] (a0a a1U):=⟨rfl,rfl,rfl,by decide +kernel,rfl,by decide +kernel,by decide +kernel⟩
theorem a1z:FnScope ["strands","word","prime","rows","letter","at","one","other","row"] ["strands","word","prime"] (a0a a0R):=⟨rfl,rfl,rfl,by decide +kernel,rfl,by decide +kernel,by decide +kernel⟩
theorem a0O:FnScope ["rows","prime","many","free","column","lead","rest","head","row"] ["rows","prime"] (a0a a1m):=⟨rfl,rfl,rfl,by decide +kernel,rfl,by decide +kernel,by decide +kernel⟩
theorem a4u:FnScope ["script","state","plait","primes","weight","some","prime","found"] ["script"] (a0a a6j):=⟨rfl,rfl,rfl,by decide +kernel,rfl,by decide +kernel,by decide +kernel⟩
structure Zs (K:PySem.W.Frag) (mg:Str→Option Value):Prop where
 b_abs:mg "abs"=none
 b_all:mg "all"=none
 b_bool:mg "bool"=none
 b_dict:mg "dict"=none
 b_enumerate:mg "enumerate"=none
 b_int:mg "int"=none
 b_isinstance:mg "isinstance"=none
 b_len:mg "len"=none
 b_list:mg "list"=none
 b_range:mg "range"=none
 b_sorted:mg "sorted"=none
 b_sum:mg "sum"=none
 b_tuple:mg "tuple"=none
 b_zip:mg "zip"=none
 c_DOWN:∃ u:Addr,mg "DOWN"=some (.ref u)∧∀ H,Rep K H (.ref u) (.tup [.tup [.int (-1),.int (1)]])
 c_LESS_DOWN:∃ u:Addr,mg "LESS_DOWN"=some (.ref u)∧∀ H,Rep K H (.ref u) (.tup [.tup [.int (-1),.int (-1)],.tup [.int (0),.int (1)]])
 c_LESS_ONE:∃ u:Addr,mg "LESS_ONE"=some (.ref u)∧∀ H,Rep K H (.ref u) (.tup [.tup [.int (0),.int (-1)]])
 c_LESS_UP:∃ u:Addr,mg "LESS_UP"=some (.ref u)∧∀ H,Rep K H (.ref u) (.tup [.tup [.int (0),.int (1)],.tup [.int (1),.int (-1)]])
 c_MOST_LETTERS:∃ tk,mg "MOST_LETTERS"=some (.int 16 tk)
 c_MOST_PRIME:∃ tk,mg "MOST_PRIME"=some (.int 97 tk)
 c_MOST_STRANDS:∃ tk,mg "MOST_STRANDS"=some (.int 6 tk)
 c_NOUGHT:∃ u:Addr,mg "NOUGHT"=some (.ref u)∧∀ H,Rep K H (.ref u) (.tup [])
 c_ONE:∃ u:Addr,mg "ONE"=some (.ref u)∧∀ H,Rep K H (.ref u) (.tup [.tup [.int (0),.int (1)]])
 c_UP:∃ u:Addr,mg "UP"=some (.ref u)∧∀ H,Rep K H (.ref u) (.tup [.tup [.int (1),.int (1)]])
noncomputable def a2r:Sp3:=fun ts M Q=>match ts with
 | [.int n,.int l]=>Q (.bl (a8F n l)) M
 | _=>False
theorem a8r {P:Program} {w:World} {K:PySem.W.Frag} {mg:Str→Option Value} {base:Heap} {f:Addr} {fd:FuncData} {n:Nat}  (F:Fun K "is_letter" "is_letter" a2i f fd) (hm:mg "is_letter"=some (.ref f)) (hb:a1x K fd ["strands","letter"] []) (Z:Zs K mg) :Df P w K mg base (n+1) "is_letter" ["strands","letter"] a2r:=by
 refine F.dfn hm hb a8j (by intro ts M Q h;unfold a2r at h;first | (split at h<;>first | rfl | exact h.elim) | (obtain⟨_,_,_,_,_,rfl,_⟩:=h;rfl) | (obtain⟨_,_,_,_,rfl,_⟩:=h;rfl) | (obtain⟨_,_,_,rfl,_⟩:=h;rfl) | (obtain⟨_,_,rfl,_⟩:=h;rfl) | (obtain⟨_,rfl,_⟩:=h;rfl)) ⟨_,fun cdv A outer s H E hr=>(@a0i _ _ _ (@a1q _ _ _ _ (@b7e _ _ _ _ _ _ _ _ _ _ _ _ a8q b2A a0g (@a1M _ _ _ _ _ _ _ _ _ a3N Z.b_abs PyProof.Rows.boot_abs (@a0b _ _ _ _ _ (@hv _ 1 _ _ (by rfl) (by walk_at "3") (by decide) (by decide)) a0h (by rfl)) (by rfl) (by decide) (by decide) (by rfl) (by rfl)) (@hv _ 0 _ _ (by rfl) (by walk_at "3") (by decide) (by decide)) (by with_unfolding_all rfl)))),fun ts M Q h=>?_⟩
 unfold a2r a8F at h
 split at h
 ·rename_i n l
  walk_at "rd"
  refine ite2 (fun c=>a0y ?_) (fun c=>a0y ?_)
  ·simpa [show 1≤l.natAbs by lia] using h
  ·simpa [show ¬1≤l.natAbs by lia] using h
 ·exact h.elim
noncomputable def a3Q:Sp3:=fun ts M Q=>match ts with
 | [.int n,.tup w,.int k]=>∃ ws:List Int,w=ws.map .int∧ws.length < 10000∧Q (.bl (isWd n ws k)) M
 | _=>False
theorem b1C {P:Program} {w:World} {K:PySem.W.Frag} {mg:Str→Option Value} {base:Heap} {f:Addr} {fd:FuncData} {n:Nat}  (F:Fun K "is_word" "is_word" a2M f fd) (hm:mg "is_word"=some (.ref f)) (hb:a1x K fd ["strands","word","most"] []) (Z:Zs K mg) (D_is_letter:Df P w K mg base n "is_letter" ["strands","letter"] a2r):Df P w K mg base (n+1) "is_word" ["strands","word","most"] a3Q:=by
 obtain⟨tk_MOST_STRANDS,c_MOST_STRANDS⟩:=Z.c_MOST_STRANDS
 refine F.dfn hm hb b1s (by intro ts M Q h;unfold a3Q at h;first | (split at h<;>first | rfl | exact h.elim) | (obtain⟨_,_,_,_,_,rfl,_⟩:=h;rfl) | (obtain⟨_,_,_,_,rfl,_⟩:=h;rfl) | (obtain⟨_,_,_,rfl,_⟩:=h;rfl) | (obtain⟨_,_,rfl,_⟩:=h;rfl) | (obtain⟨_,rfl,_⟩:=h;rfl)) ⟨_,fun cdv A outer s H E hr=>(@a0d _ _ _ _ _ (@s_if _ _ _ _ _ _ _ _ (@HW.ht _ _ _ (@w_or _ _ _ _ _ _ _ (@a9M _ _ _ _ (@b0K _ _ _ _ _ _ _ _ _ _ _ _ a8q a8q a0g (@hv _ 0 _ _ (by rfl) (by walk_at "3") (by decide) (by decide)) (@a9N _ _ _ _ _ c_MOST_STRANDS (by rfl) (by decide)) (by with_unfolding_all rfl))) (@b7K _ _ _ _ (@a2f _ _ _ _ _ _ _ _ a6B (@a1M _ _ _ _ _ _ _ _ _ a2S Z.b_len PySem.boot_len (@a0b _ _ _ _ _ (@hv _ 1 _ _ (by rfl) (by walk_at "3") (by decide) (by decide)) a0h (by rfl)) (by rfl) (by decide) (by decide) (by rfl) (by rfl)) (@hv _ 2 _ _ (by rfl) (by walk_at "3") (by decide) (by decide)) (@a1k _ _ (by decide) (by decide)))))) (@a0i _ _ _ (@a1q _ _ _ _ h_bl)) a2U) (@a0i _ _ _ (@a1q _ _ _ _ (@a1M _ _ _ _ _ _ _ _ _ (@a9b _ rfl) Z.b_all PyProof.Rows.boot_all (@a0b _ _ _ _ _ (@a2h _ _ _ _ _ _ _ _ _ _ _ _ _ _ rfl (@a3d _ _ _ _ (@hv _ 1 _ _ (by rfl) (by walk_at "3") (by decide) (by decide))) (@a0w _ (a0a a2M) _ (["strands","word","most"]) (["letter","strands"]) ([none,some 0]) (by decide +kernel) rfl rfl) a1o (fun _ _ _ _ _=>@a0z _ _ 0 _ (show List.Nodup (["letter","strands"]:List Str) by decide +kernel) rfl (Or.inl rfl) (Or.inr rfl)) (fun _ _ _ _ _=>a1Q) (fun _ _ _ _ _=>(@a0o _ _ _ _ _ _ _ _ _ _ D_is_letter hr (@a0b _ _ _ _ _ (@hv _ 1 _ _ (by rfl) (by walk_at "3") (by decide) (by decide)) (@a0b _ _ _ _ _ (@hv _ 0 _ _ (by rfl) (by walk_at "3") (by decide) (by decide)) a0h (by rfl)) (by rfl)) (by rfl) (by decide) (by rfl) (by rfl))) (by intro _;rfl)) a0h (by rfl)) (by rfl) (by decide) (by decide) (by rfl) (by rfl))))),fun ts M Q h=>?_⟩
 unfold a3Q at h
 split at h
 ·rename_i n w k
  obtain⟨ws,rfl,hl,h⟩:=h
  unfold isWd at h
  walk_at "rd"
  refine ite2 (fun c1=>ite2 (fun c2=>?_) fun c2=>ite2 (fun c3=>?_) fun c3=>?_) fun c1=>?_
  ·rw[decide_eq_false c2,Bool.and_false,Bool.false_and] at h
   exact a0y h
  ·rw[decide_eq_false (show ¬(ws.length:Int)≤k by lia),Bool.and_false,Bool.false_and] at h
   exact a0y h
  ·rw[decide_eq_true c1,decide_eq_true (show n≤6 by lia),decide_eq_true (show (ws.length:Int)≤k by lia)] at h
   refine⟨fun i ys M'=>ys=((ws.take i).map (a8F n)).map T.bl∧M'=M,⟨rfl,rfl⟩,fun _ _ _ _=>trivial,Nat.lt_of_le_of_lt (by lia:ws.length≤10000) (by decide),?_,?_⟩
   ·rintro i x ys M' hx ⟨rfl,rfl⟩
    obtain⟨l,hl',rfl⟩:=a0q hx
    unfold a2r
    refine⟨?_,rfl⟩
    rw[← a1V (a8F n) hl',List.map_append];rfl
   ·rintro ys M' ⟨rfl,rfl⟩ p hp
    rw[List.take_length,a6h]
    refine a1K (M0:=M') ?_ (Sub.new hp)
    rw[List.all_map]
    exact h
  ·rw[decide_eq_false c1,Bool.false_and,Bool.false_and,Bool.false_and] at h
   exact a0y h
 ·exact h.elim
noncomputable def a3m:Sp3:=fun ts M Q=>match ts with
 | [.tup [.int n,.tup w]]=>∃ ws:List Int,w=ws.map .int∧ws.length < 10000∧Q (.bl (isPl n ws)) M
 | _=>False
theorem a9E {P:Program} {w:World} {K:PySem.W.Frag} {mg:Str→Option Value} {base:Heap} {f:Addr} {fd:FuncData} {n:Nat}  (F:Fun K "is_plait" "is_plait" a2J f fd) (hm:mg "is_plait"=some (.ref f)) (hb:a1x K fd ["plait"] []) (Z:Zs K mg) (D_is_word:Df P w K mg base n "is_word" ["strands","word","most"] a3Q):Df P w K mg base (n+1) "is_plait" ["plait"] a3m:=by
 obtain⟨tk_MOST_LETTERS,c_MOST_LETTERS⟩:=Z.c_MOST_LETTERS
 refine F.dfn hm hb a9x (by intro ts M Q h;unfold a3m at h;first | (split at h<;>first | rfl | exact h.elim) | (obtain⟨_,_,_,_,_,rfl,_⟩:=h;rfl) | (obtain⟨_,_,_,_,rfl,_⟩:=h;rfl) | (obtain⟨_,_,_,rfl,_⟩:=h;rfl) | (obtain⟨_,_,rfl,_⟩:=h;rfl) | (obtain⟨_,rfl,_⟩:=h;rfl)) ⟨_,fun cdv A outer s H E hr=>(@a0i _ _ _ (@a1q _ _ _ _ (@a0o _ _ _ _ _ _ _ _ _ _ D_is_word hr (@a0b _ _ _ _ _ (@h_ix _ _ _ _ _ _ (@hv _ 0 _ _ (by rfl) (by walk_at "3") (by decide) (by decide)) a0g (by intro _ _;rfl)) (@a0b _ _ _ _ _ (@h_ix _ _ _ _ _ _ (@hv _ 0 _ _ (by rfl) (by walk_at "3") (by decide) (by decide)) a0g (by intro _ _;rfl)) (@a0b _ _ _ _ _ (@a9N _ _ _ _ _ c_MOST_LETTERS (by rfl) (by decide)) a0h (by rfl)) (by rfl)) (by rfl)) (by rfl) (by decide) (by rfl) (by rfl)))),fun ts M Q h=>?_⟩
 unfold a3m at h
 split at h
 ·rename_i n w
  obtain⟨ws,rfl,hl,h⟩:=h
  walk_at "rd"
  refine⟨ws,rfl,hl,?_⟩
  rw[b7a]
  exact a0y h
 ·exact h.elim
noncomputable def a3C:Sp3:=fun ts M Q=>match ts with
 | [.tup [.int n,.tup w]]=>∃ ws:List Int,w=ws.map .int∧PlOK n ws∧Q (.int ws.length) M
 | _=>False
theorem b2C {P:Program} {w:World} {K:PySem.W.Frag} {mg:Str→Option Value} {base:Heap} {f:Addr} {fd:FuncData} {n:Nat}  (F:Fun K "looked" "looked" a3U f fd) (hm:mg "looked"=some (.ref f)) (hb:a1x K fd ["plait"] []) (Z:Zs K mg) (D_is_plait:Df P w K mg base n "is_plait" ["plait"] a3m):Df P w K mg base (n+1) "looked" ["plait"] a3C:=by
 refine F.dfn hm hb b2g (by intro ts M Q h;unfold a3C at h;first | (split at h<;>first | rfl | exact h.elim) | (obtain⟨_,_,_,_,_,rfl,_⟩:=h;rfl) | (obtain⟨_,_,_,_,rfl,_⟩:=h;rfl) | (obtain⟨_,_,_,rfl,_⟩:=h;rfl) | (obtain⟨_,_,rfl,_⟩:=h;rfl) | (obtain⟨_,rfl,_⟩:=h;rfl)) ⟨_,fun cdv A outer s H E hr=>(@a0d _ _ _ _ _ (@s_if _ _ _ _ _ _ _ _ (@a9M _ _ _ _ (@a3I _ _ _ (@a0o _ _ _ _ _ _ _ _ _ _ D_is_plait hr (@a0b _ _ _ _ _ (@hv _ 0 _ _ (by rfl) (by walk_at "3") (by decide) (by decide)) a0h (by rfl)) (by rfl) (by decide) (by rfl) (by rfl)) (by intro _;rfl))) (@a0i _ _ _ b2h) a2U) (@a0i _ _ _ (@a1q _ _ _ _ (@a1M _ _ _ _ _ _ _ _ _ a2S Z.b_len PySem.boot_len (@a0b _ _ _ _ _ (@h_ix _ _ _ _ _ _ (@hv _ 0 _ _ (by rfl) (by walk_at "3") (by decide) (by decide)) a0g (by intro _ _;rfl)) a0h (by rfl)) (by rfl) (by decide) (by decide) (by rfl) (by rfl))))),fun ts M Q h=>?_⟩
 unfold a3C at h
 split at h
 ·rename_i n w
  obtain⟨ws,rfl,ok,h⟩:=h
  walk_at "rd"
  refine⟨ws,rfl,by have:=ok.2.2.1;lia,?_⟩
  rw[ok.is]
  walk_at "rd"
  exact a0y (M:=M) h
 ·exact h.elim
noncomputable def a1a:Sp3:=fun ts M Q=>match ts with
 | [.adr d]=>∃ m:Po,M d=some (.dk (dkI m))∧(m.map Prod.fst).Nodup∧m.length < 64∧Q (poT (norm m)) M
 | _=>False
theorem a4y {P:Program} {w:World} {K:PySem.W.Frag} {mg:Str→Option Value} {base:Heap} {f:Addr} {fd:FuncData} {n:Nat}  (F:Fun K "without_noughts" "without_noughts" a0F f fd) (hm:mg "without_noughts"=some (.ref f)) (hb:a1x K fd ["counts"] []) (Z:Zs K mg) :Df P w K mg base (n+1) "without_noughts" ["counts"] a1a:=by
 refine F.dfn hm hb a4t (by intro ts M Q h;unfold a1a at h;first | (split at h<;>first | rfl | exact h.elim) | (obtain⟨_,_,_,_,_,rfl,_⟩:=h;rfl) | (obtain⟨_,_,_,_,rfl,_⟩:=h;rfl) | (obtain⟨_,_,_,rfl,_⟩:=h;rfl) | (obtain⟨_,_,rfl,_⟩:=h;rfl) | (obtain⟨_,rfl,_⟩:=h;rfl)) ⟨_,fun cdv A outer s H E hr=>(@a0i _ _ _ (@a1q _ _ _ _ (@a4X _ _ _ _ _ _ _ _ _ a6f Z.b_tuple PyProof.Rows.boot_tuple (@a0b _ _ _ _ _ (@a2h _ _ _ _ _ _ _ _ _ _ _ _ _ _ rfl (@a3d _ _ _ _ (@a1M _ _ _ _ _ _ _ _ _ (@a7T _ rfl) Z.b_sorted PyProof.Rows.boot_sorted (@a0b _ _ _ _ _ (@hv _ 0 _ _ (by rfl) (by walk_at "3") (by decide) (by decide)) a0h (by rfl)) (by rfl) (by decide) (by decide) (by rfl) (by rfl))) (@a0w _ (a0a a0F) _ ["counts"] (["power","counts"]) ([none,some 0]) (by decide +kernel) rfl rfl) a1o (fun _ _ _ _ _=>@a0z _ _ 0 _ (show List.Nodup (["power","counts"]:List Str) by decide +kernel) rfl (Or.inl rfl) (Or.inr rfl)) (fun _ _ _ _ _=>a8b (@a2f _ _ _ _ _ _ _ _ (@a6A _ hr.units) (@b9p _ _ _ _ _ _ hr.units (@hv _ 1 _ _ (by rfl) (by walk_at "3") (by decide) (by decide)) (@hv _ 0 _ _ (by rfl) (by walk_at "3") (by decide) (by decide)) (by intro _ _;rfl)) a0g (@a1k _ _ (by decide) (by decide)))) (fun _ _ _ _ _=>(@b2V _ _ _ _ _ (@a0b _ _ _ _ _ (@hv _ 0 _ _ (by rfl) (by walk_at "3") (by decide) (by decide)) (@a0b _ _ _ _ _ (@b9p _ _ _ _ _ _ hr.units (@hv _ 1 _ _ (by rfl) (by walk_at "3") (by decide) (by decide)) (@hv _ 0 _ _ (by rfl) (by walk_at "3") (by decide) (by decide)) (by intro _ _;rfl)) a0h (by rfl)) (by rfl)))) (by intro _;rfl)) a0h (by rfl)) (by rfl) (by decide) (by decide) (by rfl) (by rfl)))),fun ts M Q h=>?_⟩
 unfold a1a at h
 split at h
 ·rename_i d
  obtain⟨m,hd,hnd,h64,h⟩:=h
  walk_at "rd"
  rw[hd]
  dsimp only
  refine⟨m.map Prod.fst,b0W m,by rw[List.length_map];exact h64,fun ms hp hs r hr=>?_⟩
  have hS:=Sub.new hr (o:=MO.lst (ms.map T.int))
  have hM1:(updM M r (MO.lst (ms.map T.int))) r=some (.lst (ms.map T.int)):=a0c
  have hd1:=hS _ _ hd
  generalize updM M r (MO.lst (ms.map T.int))=M1 at hS hM1 hd1⊢
  have hml:ms.length < 64:=by rw[hp.length_eq,List.length_map];exact h64
  refine⟨fun i ys M'=>ys=((((ms.take i).filter fun k=>decide (co m k≠0)).map fun k=>(k,co m k)).map prT)∧M'=M1,⟨rfl,rfl⟩,?_,a0t (by lia),?_,?_⟩
  ·rintro i ys M' ⟨_,rfl⟩
   exact hM1
  ·rintro i x ys M' hx ⟨rfl,rfl⟩
   obtain⟨k,hx2,rfl⟩:=a0q hx
   have hk:k∈m.map Prod.fst:=hp.mem_iff.mp (List.mem_of_getElem? hx2)
   have hv:=a5g hnd hk
   rw[hd1]
   dsimp only
   refine⟨.inl k,_,rfl,hv,rfl,by rw[a2G];decide,?_⟩
   have ht:ms.take (i+1)=ms.take i++[k]:=by rw[List.take_add_one,hx2];rfl
   rw[a3K,ht,List.filter_append]
   by_cases c:co m k=0
   ·rw[decide_eq_true c,if_neg (by decide)]
    refine⟨?_,rfl⟩
    rw[List.filter_cons,if_neg (by simpa using c),List.filter_nil,List.append_nil]
   ·rw[decide_eq_false c,if_pos rfl]
    refine⟨.inl k,_,rfl,hv,by decide,?_,rfl⟩
    rw[List.filter_cons,if_pos (by simpa using c),List.filter_nil,List.map_append,List.map_append];rfl
  ·rintro ys M' ⟨rfl,rfl⟩ q hq
   rw[List.take_length,a9F hnd hp hs]
   exact a1K h (hS.newr hq)
 ·exact h.elim
theorem a3Y {m:Po} {L:List Int} (hn:(m.map Prod.fst).Nodup) (hs:∀ x∈m,x.1∈L):m.length≤L.length:=by
 have h1:(m.map Prod.fst).length≤L.length:=List.Nodup.length_le_of_subset hn fun k hk=>by
  obtain⟨x,hx,rfl⟩:=List.mem_map.mp hk
  exact hs x hx
 rwa [List.length_map] at h1
theorem b0r {k v:Int} {m:Po} {L:List Int} (hk:k∈L) (hs:∀ x∈m,x.1∈L):∀ x∈setP k v m,x.1∈L:=fun x hx=>by
 have h1:x.1∈(setP k v m).map Prod.fst:=List.mem_map.mpr ⟨x,hx,rfl⟩
 rw[a5y] at h1
 split at h1
 ·obtain⟨y,hy,e⟩:=List.mem_map.mp h1
  rw[← e];exact hs y hy
 ·rcases List.mem_append.mp h1 with z | z
  ·obtain⟨y,hy,e⟩:=List.mem_map.mp z
   rw[← e];exact hs y hy
  ·rw[List.mem_singleton.mp z];exact hk
theorem b0D {p q:Po} (h:∀ k,co p k=co q k):norm p=norm q:=a2Z (a0K p) (a0K q) fun k=>by rw[a1h,a1h,h]
noncomputable def a2V:Sp3:=fun ts M Q=>match ts with
 | [.tup a,.tup b]=>∃ (p q:Po) (L:List Int),a=p.map prT∧b=q.map prT∧CanP p∧L.length < 64∧(∀ x∈p,x.1∈L)∧(∀ x∈q,x.1∈L)∧q.length≤5000∧Q (poT (addP p q)) M
 | _=>False
theorem b4B {P:Program} {w:World} {K:PySem.W.Frag} {mg:Str→Option Value} {base:Heap} {f:Addr} {fd:FuncData} {n:Nat}  (F:Fun K "added" "added" a4Q f fd) (hm:mg "added"=some (.ref f)) (hb:a1x K fd ["one","other"] []) (Z:Zs K mg) (D_without_noughts:Df P w K mg base n "without_noughts" ["counts"] a1a):Df P w K mg base (n+1) "added" ["one","other"] a2V:=by
 refine F.dfn hm hb a5s (by intro ts M Q h;unfold a2V at h;first | (split at h<;>first | rfl | exact h.elim) | (obtain⟨_,_,_,_,_,rfl,_⟩:=h;rfl) | (obtain⟨_,_,_,_,rfl,_⟩:=h;rfl) | (obtain⟨_,_,_,rfl,_⟩:=h;rfl) | (obtain⟨_,_,rfl,_⟩:=h;rfl) | (obtain⟨_,rfl,_⟩:=h;rfl)) ⟨_,fun cdv A outer s H E hr=>(@a0d _ _ _ _ _ (@a0W _ _ _ _ 2 _ _ (@a4X _ _ _ _ _ _ _ _ _ (@b0d _ rfl) Z.b_dict PyProof.Rows.boot_dict (@a0b _ _ _ _ _ (@hv _ 0 _ _ (by rfl) (by walk_at "3") (by decide) (by decide)) a0h (by rfl)) (by rfl) (by decide) (by decide) (by rfl) (by rfl)) a5s.nd (by rfl) (by walk_at "2") (by rfl) (by walk_at "4")) (@a0d _ _ _ _ _ (@a4P _ _ _ _ _ _ _ _ PassesOwn.never rfl (@a3d _ _ _ _ (@hv _ 1 _ _ (by rfl) (by walk_at "3") (by decide) (by decide))) (@b4T _ _ _ _ _ 2 rfl (@a3J _ _ _ _ _ (@a2u _ _ 3 _ a5s.nd (by rfl) (by walk_at "2") (by walk_at "4")) (@a3J _ _ _ _ _ (@a2u _ _ 4 _ a5s.nd (by rfl) (by walk_at "2") (by walk_at "4")) b0L (by rfl)) (by rfl)) (by rfl) (by rfl)) (@a0i _ _ _ (@b8m _ _ _ _ _ _ _ _ _ hr.units (@a0v _ _ _ _ _ _ _ _ a0M (@b5y _ _ _ _ _ _ _ _ _ hr.units (@hv _ 2 _ _ (by rfl) (by walk_at "3") (by decide) (by decide)) (@hv _ 3 _ _ (by rfl) (by walk_at "3") (by decide) (by decide)) a0g (by rfl) (by rfl) (by rfl) (by rfl)) (@hv _ 4 _ _ (by rfl) (by walk_at "3") (by decide) (by decide))) (@hv _ 2 _ _ (by rfl) (by walk_at "3") (by decide) (by decide)) (@hv _ 3 _ _ (by rfl) (by walk_at "3") (by decide) (by decide)) (by rfl))) (by intro _;rfl)) (@a0i _ _ _ (@a1q _ _ _ _ (@a0o _ _ _ _ _ _ _ _ _ _ D_without_noughts hr (@a0b _ _ _ _ _ (@hv _ 2 _ _ (by rfl) (by walk_at "3") (by decide) (by decide)) a0h (by rfl)) (by rfl) (by decide) (by rfl) (by rfl)))))),fun ts M Q h=>?_⟩
 unfold a2V at h
 split at h
 ·rename_i a b
  obtain⟨p,q,L,rfl,rfl,hp,hL,hpL,hqL,hql,h⟩:=h
  have hnd0:(p.map Prod.fst).Nodup:=List.pairwise_map.mpr (hp.1.imp fun h z=>Int.ne_of_lt h z)
  refine a0E fun K1 hK1=>?_
  walk_at "rd"
  refine⟨dkI p,(b5f p).symm,by rw[b0W];exact List.pairwise_map.mpr (hnd0.imp fun h z=>h (Sum.inl.inj z)),fun d hd=>?_⟩
  have hMd:(updM M d (MO.dk (dkI p))) d=some (.dk (dkI p)):=a0c
  have hS:=Sub.new hd (o:=MO.dk (dkI p))
  generalize updM M d (MO.dk (dkI p))=M1 at hMd hS⊢
  rw[hK1];clear hK1
  refine a0E fun K2 hK2=>?_
  refine a2m fun B hB=>?_
  unfold a4d
  walk_at "rd"
  refine⟨fun i ρ M'=>(∃ (x3 x4:Option T),ρ=[some (T.tup (p.map prT)),some (T.tup (q.map prT)),some (T.adr d),x3,x4])∧(∃ m:Po,M' d=some (.dk (dkI m))∧(m.map Prod.fst).Nodup∧(∀ x∈m,x.1∈L)∧∀ k,co m k=co (p++q.take i) k)∧Sub M M',⟨⟨_,_,rfl⟩,⟨p,hMd,hnd0,hpL,fun k=>by rw[List.take_zero,List.append_nil]⟩,hS⟩,fun _ _ _ _=>trivial,?_,?_⟩
  ·rintro i x ρ M' hx ⟨⟨x3,x4,rfl⟩,⟨m,hm,hnd,hmL,hco⟩,hS1⟩
   obtain⟨⟨y1,y2⟩,hx2,rfl⟩:∃ y,q[i]?=some y∧prT y=x:=by
    rw[List.getElem?_map] at hx
    exact Option.map_eq_some_iff.mp hx
   have hyL:=hqL _ (List.mem_of_getElem? hx2)
   unfold prT
   dsimp only
   rw[hB];clear hB
   walk_at "rd"
   rw[hm]
   refine⟨trivial,?_⟩
   dsimp only
   refine⟨.inl y1,rfl,?_⟩
   rw[a6Y y1 hnd]
   dsimp only
   have hml:=a3Y hnd hmL
   refine⟨.inl y1,rfl,a0t (by rw[b3r];lia),⟨_,_,rfl⟩,⟨setP y1 (co m y1+y2) m,by rw[a7m hnd],a6E hnd,b0r hyL hmL,fun k=>?_⟩,hS1.updF hd⟩
   have ht:q.take (i+1)=q.take i++[(y1,y2)]:=by rw[List.take_add_one,hx2];rfl
   rw[a9Y y1 _ hnd,ht,← List.append_assoc,a1E,← hco]
   show _=co m k+((if y1=k then y2 else 0)+0)
   by_cases e:k=y1
   ·rw[if_pos e,if_pos e.symm,e];lia
   ·rw[if_neg e,if_neg (fun z=>e z.symm)];lia
  ·rintro ρ M' ⟨⟨x3,x4,rfl⟩,⟨m,hm,hnd,hmL,hco⟩,hS1⟩
   try rw[List.length_map] at hco
   rw[List.take_length] at hco
   rw[hK2];clear hK2
   walk_at "rd"
   refine⟨m,hm,hnd,Nat.lt_of_le_of_lt (a3Y hnd hmL) hL,?_⟩
   rw[b0D hco]
   exact a1K h hS1
 ·exact h.elim
noncomputable def a0L:Sp3:=fun ts M Q=>match ts with
 | [.tup a,.tup b]=>∃ (p q:Po) (L:List Int),a=p.map prT∧b=q.map prT∧L.length < 64∧(∀ x∈p,∀ y∈q,x.1+y.1∈L)∧(Sml p∨Sml q)∧p.length≤5000∧q.length≤5000∧Q (poT (a0X p q)) M
 | _=>False
theorem b4k {p q:Po} {i:Nat} {x:Int × Int} (h:p[i]?=some x) (k:Int):co (rawM (p.take (i+1)) q) k=co (rawM (p.take i) q) k+co (q.map fun b=>(x.1+b.1,x.2*b.2)) k:=by
 rw[List.take_add_one,h]
 unfold rawM
 rw[List.flatMap_append,a1E]
 show _+co ([x].flatMap fun a=>q.map fun b=>(a.1+b.1,a.2*b.2)) k=_
 rw[List.flatMap_cons,List.flatMap_nil,List.append_nil]
theorem a7s {P:Program} {w:World} {K:PySem.W.Frag} {mg:Str→Option Value} {base:Heap} {f:Addr} {fd:FuncData} {n:Nat}  (F:Fun K "multiplied" "multiplied" a1R f fd) (hm:mg "multiplied"=some (.ref f)) (hb:a1x K fd ["one","other"] []) (Z:Zs K mg) (D_without_noughts:Df P w K mg base n "without_noughts" ["counts"] a1a):Df P w K mg base (n+1) "multiplied" ["one","other"] a0L:=by
 refine F.dfn hm hb a1l (by intro ts M Q h;unfold a0L at h;first | (split at h<;>first | rfl | exact h.elim) | (obtain⟨_,_,_,_,_,rfl,_⟩:=h;rfl) | (obtain⟨_,_,_,_,rfl,_⟩:=h;rfl) | (obtain⟨_,_,_,rfl,_⟩:=h;rfl) | (obtain⟨_,_,rfl,_⟩:=h;rfl) | (obtain⟨_,rfl,_⟩:=h;rfl)) ⟨_,fun cdv A outer s H E hr=>(@a0d _ _ _ _ _ (@a0W _ _ _ _ 2 _ _ b9o a1l.nd (by rfl) (by walk_at "2") (by rfl) (by walk_at "4")) (@a0d _ _ _ _ _ (@a4P _ _ _ _ _ _ _ _ PassesOwn.never rfl (@a3d _ _ _ _ (@hv _ 0 _ _ (by rfl) (by walk_at "3") (by decide) (by decide))) (@b4T _ _ _ _ _ 2 rfl (@a3J _ _ _ _ _ (@a2u _ _ 3 _ a1l.nd (by rfl) (by walk_at "2") (by walk_at "4")) (@a3J _ _ _ _ _ (@a2u _ _ 4 _ a1l.nd (by rfl) (by walk_at "2") (by walk_at "4")) b0L (by rfl)) (by rfl)) (by rfl) (by rfl)) (@a0i _ _ _ (@a4P _ _ _ _ _ _ _ _ PassesOwn.never rfl (@a3d _ _ _ _ (@hv _ 1 _ _ (by rfl) (by walk_at "3") (by decide) (by decide))) (@b4T _ _ _ _ _ 2 rfl (@a3J _ _ _ _ _ (@a2u _ _ 5 _ a1l.nd (by rfl) (by walk_at "2") (by walk_at "4")) (@a3J _ _ _ _ _ (@a2u _ _ 6 _ a1l.nd (by rfl) (by walk_at "2") (by walk_at "4")) b0L (by rfl)) (by rfl)) (by rfl) (by rfl)) (@a0d _ _ _ _ _ (@a0W _ _ _ _ 7 _ _ (@a0v _ _ _ _ _ _ _ _ a0M (@hv _ 3 _ _ (by rfl) (by walk_at "3") (by decide) (by decide)) (@hv _ 5 _ _ (by rfl) (by walk_at "3") (by decide) (by decide))) a1l.nd (by rfl) (by walk_at "2") (by rfl) (by walk_at "4")) (@a0i _ _ _ (@b8m _ _ _ _ _ _ _ _ _ hr.units (@a0v _ _ _ _ _ _ _ _ a0M (@b5y _ _ _ _ _ _ _ _ _ hr.units (@hv _ 2 _ _ (by rfl) (by walk_at "3") (by decide) (by decide)) (@hv _ 7 _ _ (by rfl) (by walk_at "3") (by decide) (by decide)) a0g (by rfl) (by rfl) (by rfl) (by rfl)) (@a0v _ _ _ _ _ _ _ _ a2d (@hv _ 4 _ _ (by rfl) (by walk_at "3") (by decide) (by decide)) (@hv _ 6 _ _ (by rfl) (by walk_at "3") (by decide) (by decide)))) (@hv _ 2 _ _ (by rfl) (by walk_at "3") (by decide) (by decide)) (@hv _ 7 _ _ (by rfl) (by walk_at "3") (by decide) (by decide)) (by rfl)))) (by intro _;rfl))) (by intro _;rfl)) (@a0i _ _ _ (@a1q _ _ _ _ (@a0o _ _ _ _ _ _ _ _ _ _ D_without_noughts hr (@a0b _ _ _ _ _ (@hv _ 2 _ _ (by rfl) (by walk_at "3") (by decide) (by decide)) a0h (by rfl)) (by rfl) (by decide) (by rfl) (by rfl)))))),fun ts M Q h=>?_⟩
 unfold a0L at h
 split at h
 ·rename_i a b
  obtain⟨p,q,L,rfl,rfl,hL,hpq,hsz,hpl,hql,h⟩:=h
  refine a0E fun K1 hK1=>?_
  walk_at "rd"
  intro d hd
  have hMd:(updM M d (MO.dk [])) d=some (.dk (dkI [])):=a0c
  have hS:=Sub.new hd (o:=MO.dk [])
  generalize updM M d (MO.dk [])=M1 at hMd hS⊢
  rw[hK1];clear hK1
  refine a0E fun K2 hK2=>?_
  refine a2m fun B hB=>?_
  unfold a4d
  walk_at "rd"
  refine⟨fun i ρ M'=>(∃ (x3 x4 x5 x6 x7:Option T),ρ=[some (T.tup (p.map prT)),some (T.tup (q.map prT)),some (T.adr d),x3,x4,x5,x6,x7])∧(∃ m:Po,M' d=some (.dk (dkI m))∧(m.map Prod.fst).Nodup∧(∀ x∈m,x.1∈L)∧∀ k,co m k=co (rawM (p.take i) q) k)∧Sub M M',⟨⟨_,_,_,_,_,rfl⟩,⟨[],hMd,.nil,fun _ z=>absurd z List.not_mem_nil,fun k=>rfl⟩,hS⟩,fun _ _ _ _=>trivial,?_,?_⟩
  ·rintro i x ρ M' hx ⟨⟨x3,x4,x5,x6,x7,rfl⟩,⟨m,hm,hnd,hmL,hco⟩,hS1⟩
   obtain⟨⟨y1,y2⟩,hx2,rfl⟩:∃ y,p[i]?=some y∧prT y=x:=by
    rw[List.getElem?_map] at hx
    exact Option.map_eq_some_iff.mp hx
   have hyp:=List.mem_of_getElem? hx2
   rw[show prT (y1,y2)=T.tup [T.int y1,T.int y2] from rfl]
   dsimp only
   refine⟨rfl,rfl,?_⟩
   rw[hB];clear hB
   refine a2m fun B2 hB2=>?_
   unfold a4d
   walk_at "rd"
   refine⟨fun j ρ M2=>(∃ (x5 x6 x7:Option T),ρ=[some (T.tup (p.map prT)),some (T.tup (q.map prT)),some (T.adr d),some (T.int y1),some (T.int y2),x5,x6,x7])∧(∃ m2:Po,M2 d=some (.dk (dkI m2))∧(m2.map Prod.fst).Nodup∧(∀ x∈m2,x.1∈L)∧∀ k,co m2 k=co m k+co ((q.take j).map fun b=>(y1+b.1,y2*b.2)) k)∧Sub M M2,⟨⟨_,_,_,rfl⟩,⟨m,hm,hnd,hmL,fun k=>by show _=co m k+0;rw[Int.add_zero]⟩,hS1⟩,fun _ _ _ _=>trivial,?_,?_⟩
   ·rintro j z ρ M2 hz ⟨⟨x5,x6,x7,rfl⟩,⟨m2,hm2,hnd2,hmL2,hco2⟩,hS2⟩
    obtain⟨⟨z1,z2⟩,hz2,rfl⟩:∃ y,q[j]?=some y∧prT y=z:=by
     rw[List.getElem?_map] at hz
     exact Option.map_eq_some_iff.mp hz
    have hzL:=hpq _ hyp _ (List.mem_of_getElem? hz2)
    have hy2:CMul y2 z2:=by
     rcases hsz with s | s
     ·have:=s _ hyp
      exact .inl ⟨by lia,by lia⟩
     ·have:=s _ (List.mem_of_getElem? hz2)
      exact .inr ⟨by lia,by lia⟩
    dsimp only at hzL
    rw[show prT (z1,z2)=T.tup [T.int z1,T.int z2] from rfl]
    dsimp only
    refine⟨rfl,rfl,?_⟩
    rw[hB2];clear hB2
    refine a0E fun K5 hK5=>?_
    walk_at "rd"
    rw[hK5];clear hK5
    walk_at "rd"
    rw[hm2]
    refine⟨trivial,?_⟩
    dsimp only
    refine⟨.inl (y1+z1),rfl,hy2,?_⟩
    rw[a6Y (y1+z1) hnd2]
    dsimp only
    have hml:=a3Y hnd2 hmL2
    refine⟨.inl (y1+z1),rfl,a0t (by rw[b3r];lia),⟨_,_,_,rfl⟩,⟨setP (y1+z1) (co m2 (y1+z1)+y2*z2) m2,by rw[a7m hnd2],a6E hnd2,b0r hzL hmL2,fun k=>?_⟩,hS2.updF hd⟩
    have ht:q.take (j+1)=q.take j++[(z1,z2)]:=by rw[List.take_add_one,hz2];rfl
    rw[a9Y (y1+z1) _ hnd2,ht,List.map_append,a1E,← Int.add_assoc,← hco2]
    show _=co m2 k+((if y1+z1=k then y2*z2 else 0)+0)
    by_cases e:k=y1+z1
    ·rw[if_pos e,if_pos e.symm,e];lia
    ·rw[if_neg e,if_neg (fun z=>e z.symm)];lia
   ·rintro ρ M2 ⟨⟨x5,x6,x7,rfl⟩,⟨m2,hm2,hnd2,hmL2,hco2⟩,hS2⟩
    refine⟨⟨_,_,_,_,_,rfl⟩,⟨m2,hm2,hnd2,hmL2,fun k=>?_⟩,hS2⟩
    try rw[List.length_map] at hco2
    rw[List.take_length] at hco2
    rw[hco2 k,hco k,b4k hx2]
  ·rintro ρ M' ⟨⟨x3,x4,x5,x6,x7,rfl⟩,⟨m,hm,hnd,hmL,hco⟩,hS1⟩
   try rw[List.length_map] at hco
   rw[List.take_length] at hco
   rw[hK2];clear hK2
   walk_at "rd"
   refine⟨m,hm,hnd,Nat.lt_of_le_of_lt (a3Y hnd hmL) hL,?_⟩
   have e:=b0D hco
   rw[e]
   exact a1K h hS1
 ·exact h.elim
noncomputable def a0P:Sp3:=fun ts M Q=>match ts with
 | [.int r,.int c]=>Q (poT (oneP r c)) M
 | _=>False
theorem a4S {P:Program} {w:World} {K:PySem.W.Frag} {mg:Str→Option Value} {base:Heap} {f:Addr} {fd:FuncData} {n:Nat}  (F:Fun K "one_where_same" "one_where_same" a0Z f fd) (hm:mg "one_where_same"=some (.ref f)) (hb:a1x K fd ["row","column"] []) (Z:Zs K mg) :Df P w K mg base (n+1) "one_where_same" ["row","column"] a0P:=by
 obtain⟨tk_ONE,c_ONE⟩:=Z.c_ONE
 obtain⟨tk_NOUGHT,c_NOUGHT⟩:=Z.c_NOUGHT
 refine F.dfn hm hb a4O (by intro ts M Q h;unfold a0P at h;first | (split at h<;>first | rfl | exact h.elim) | (obtain⟨_,_,_,_,_,rfl,_⟩:=h;rfl) | (obtain⟨_,_,_,_,rfl,_⟩:=h;rfl) | (obtain⟨_,_,_,rfl,_⟩:=h;rfl) | (obtain⟨_,_,rfl,_⟩:=h;rfl) | (obtain⟨_,rfl,_⟩:=h;rfl)) ⟨_,fun cdv A outer s H E hr=>(@a0i _ _ _ (@a1q _ _ _ _ (@b7d _ _ _ _ _ _ _ _ (@a2f _ _ _ _ _ _ _ _ (@a4f _ hr.units) (@hv _ 0 _ _ (by rfl) (by walk_at "3") (by decide) (by decide)) (@hv _ 1 _ _ (by rfl) (by walk_at "3") (by decide) (by decide)) (@a1k _ _ (by decide) (by decide))) (@a2A _ _ _ _ _ c_ONE (by rfl) (by decide)) (@a2A _ _ _ _ _ c_NOUGHT (by rfl) (by decide))))),fun ts M Q h=>?_⟩
 unfold a0P at h
 split at h
 ·rename_i r c
  walk_at "rd"
  unfold oneP at h
  refine ite2 (fun z=>?_) (fun z=>?_)
  ·rw[if_pos z] at h;exact a0y h
  ·rw[if_neg z] at h;exact a0y h
 ·exact h.elim
theorem a4z {a b B C:Nat} {p q:Po} {M:MH} {Q:VK3} (hp:GdP a B p) (hq:GdP b C q) (hab:a+b≤31) (hB:B < 2 ^ 64) (h:Q (poT (a0X p q)) M):a0L [poT p,poT q] M Q :=
 ⟨p,q,near (a+b),rfl,rfl,by rw[a7y];lia,b4a hp.2.1 hq.2.1,.inl (b6V hp hB),by have:=hp.1.len hp.2.1;lia,by have:=hq.1.len hq.2.1;lia,h⟩
theorem a7W {a B C:Nat} {p q:Po} {M:MH} {Q:VK3} (hp:GdP a B p) (hq:GdP a C q) (ha:a≤31) (h:Q (poT (addP p q)) M):a2V [poT p,poT q] M Q :=
 ⟨p,q,near a,rfl,rfl,hp.1,by rw[a7y];lia,b0v hp.2.1,b0v hq.2.1,by have:=hq.1.len hq.2.1;lia,h⟩
theorem a5K {a b c d:Nat} {p q:Po} {M:MH} {Q:VK3} (hp:GdI a b p) (hq:GdI c d q) (hab:a+c+(b+d)≤62) (hB:Sml p∨Sml q) (h:Q (poT (a0X p q)) M):a0L [poT p,poT q] M Q :=
 ⟨p,q,span (a+c) (b+d),rfl,rfl,by rw[a7d];lia,b3Z hp.2 hq.2,hB,by have:=hp.1.lenI hp.2;lia,by have:=hq.1.lenI hq.2;lia,h⟩
theorem b3L {a b:Nat} {p q:Po} {M:MH} {Q:VK3} (hp:GdI a b p) (hq:GdI a b q) (ha:a+b≤62) (h:Q (poT (addP p q)) M):a2V [poT p,poT q] M Q :=
 ⟨p,q,span a b,rfl,rfl,hp.1,by rw[a7d];lia,fun x hx=>a5u (hp.2 x hx),fun x hx=>a5u (hq.2 x hx),by have:=hq.1.lenI hq.2;lia,h⟩
noncomputable def a2n:Sp3:=fun ts M Q=>match ts with
 | [.adr r,.int l]=>∃ (ps:List Po) (b B:Nat),M r=some (.lst (ps.map poT))∧1≤l.natAbs∧l.natAbs < ps.length∧ps.length≤6∧(∀ p∈ps,GdP b B p)∧b≤29∧B < 2 ^ 60∧∀ (t:Addr) (M':MH),M t=none→Sub M M'→M' t=some (.lst ((wlP ps l).map poT))→Q (.adr t) M'
 | _=>False
theorem a6k {P:Program} {w:World} {K:PySem.W.Frag} {mg:Str→Option Value} {base:Heap} {f:Addr} {fd:FuncData} {n:Nat}  (F:Fun K "with_letter" "with_letter" a1F f fd) (hm:mg "with_letter"=some (.ref f)) (hb:a1x K fd ["row","letter"] []) (Z:Zs K mg) (D_added:Df P w K mg base n "added" ["one","other"] a2V) (D_multiplied:Df P w K mg base n "multiplied" ["one","other"] a0L):Df P w K mg base (n+1) "with_letter" ["row","letter"] a2n:=by
 obtain⟨tk_LESS_UP,c_LESS_UP⟩:=Z.c_LESS_UP
 obtain⟨tk_UP,c_UP⟩:=Z.c_UP
 obtain⟨tk_DOWN,c_DOWN⟩:=Z.c_DOWN
 obtain⟨tk_LESS_DOWN,c_LESS_DOWN⟩:=Z.c_LESS_DOWN
 refine F.dfn hm hb a1s (by intro ts M Q h;unfold a2n at h;first | (split at h<;>first | rfl | exact h.elim) | (obtain⟨_,_,_,_,_,rfl,_⟩:=h;rfl) | (obtain⟨_,_,_,_,rfl,_⟩:=h;rfl) | (obtain⟨_,_,_,rfl,_⟩:=h;rfl) | (obtain⟨_,_,rfl,_⟩:=h;rfl) | (obtain⟨_,rfl,_⟩:=h;rfl)) ⟨_,fun cdv A outer s H E hr=>(@a0d _ _ _ _ _ (@a0W _ _ _ _ 2 _ _ (@a0v _ _ _ _ _ _ _ _ a2l (@a1M _ _ _ _ _ _ _ _ _ a3N Z.b_abs PyProof.Rows.boot_abs (@a0b _ _ _ _ _ (@hv _ 1 _ _ (by rfl) (by walk_at "3") (by decide) (by decide)) a0h (by rfl)) (by rfl) (by decide) (by decide) (by rfl) (by rfl)) a0g) a1s.nd (by rfl) (by walk_at "2") (by rfl) (by walk_at "4")) (@a0d _ _ _ _ _ (@a0W _ _ _ _ 3 _ _ (@h_ix _ _ _ _ _ _ (@hv _ 0 _ _ (by rfl) (by walk_at "3") (by decide) (by decide)) (@hv _ 2 _ _ (by rfl) (by walk_at "3") (by decide) (by decide)) (by intro _ _;rfl)) a1s.nd (by rfl) (by walk_at "2") (by rfl) (by walk_at "4")) (@a0d _ _ _ _ _ (@a0W _ _ _ _ 4 _ _ (@h_ix _ _ _ _ _ _ (@hv _ 0 _ _ (by rfl) (by walk_at "3") (by decide) (by decide)) (@a0v _ _ _ _ _ _ _ _ a0M (@hv _ 2 _ _ (by rfl) (by walk_at "3") (by decide) (by decide)) a0g) (by intro _ _;rfl)) a1s.nd (by rfl) (by walk_at "2") (by rfl) (by walk_at "4")) (@a0d _ _ _ _ _ (@s_if _ _ _ _ _ _ _ _ (@a2f _ _ _ _ _ _ _ _ a6B (@hv _ 1 _ _ (by rfl) (by walk_at "3") (by decide) (by decide)) a0g (@a1k _ _ (by decide) (by decide))) (@a0i _ _ _ (@a0W _ _ _ _ 5 _ _ (@a6o _ _ _ _ (@a0b _ _ _ _ _ (@a0o _ _ _ _ _ _ _ _ _ _ D_added hr (@a0b _ _ _ _ _ (@a0o _ _ _ _ _ _ _ _ _ _ D_multiplied hr (@a0b _ _ _ _ _ (@hv _ 3 _ _ (by rfl) (by walk_at "3") (by decide) (by decide)) (@a0b _ _ _ _ _ (@a2A _ _ _ _ _ c_LESS_UP (by rfl) (by decide)) a0h (by rfl)) (by rfl)) (by rfl) (by decide) (by rfl) (by rfl)) (@a0b _ _ _ _ _ (@hv _ 4 _ _ (by rfl) (by walk_at "3") (by decide) (by decide)) a0h (by rfl)) (by rfl)) (by rfl) (by decide) (by rfl) (by rfl)) (@a0b _ _ _ _ _ (@a0o _ _ _ _ _ _ _ _ _ _ D_multiplied hr (@a0b _ _ _ _ _ (@hv _ 3 _ _ (by rfl) (by walk_at "3") (by decide) (by decide)) (@a0b _ _ _ _ _ (@a2A _ _ _ _ _ c_UP (by rfl) (by decide)) a0h (by rfl)) (by rfl)) (by rfl) (by decide) (by rfl) (by rfl)) a0h (by rfl)) (by rfl))) a1s.nd (by rfl) (by walk_at "2") (by rfl) (by walk_at "4"))) (@a0i _ _ _ (@a0W _ _ _ _ 5 _ _ (@a6o _ _ _ _ (@a0b _ _ _ _ _ (@a0o _ _ _ _ _ _ _ _ _ _ D_multiplied hr (@a0b _ _ _ _ _ (@hv _ 4 _ _ (by rfl) (by walk_at "3") (by decide) (by decide)) (@a0b _ _ _ _ _ (@a2A _ _ _ _ _ c_DOWN (by rfl) (by decide)) a0h (by rfl)) (by rfl)) (by rfl) (by decide) (by rfl) (by rfl)) (@a0b _ _ _ _ _ (@a0o _ _ _ _ _ _ _ _ _ _ D_added hr (@a0b _ _ _ _ _ (@hv _ 3 _ _ (by rfl) (by walk_at "3") (by decide) (by decide)) (@a0b _ _ _ _ _ (@a0o _ _ _ _ _ _ _ _ _ _ D_multiplied hr (@a0b _ _ _ _ _ (@hv _ 4 _ _ (by rfl) (by walk_at "3") (by decide) (by decide)) (@a0b _ _ _ _ _ (@a2A _ _ _ _ _ c_LESS_DOWN (by rfl) (by decide)) a0h (by rfl)) (by rfl)) (by rfl) (by decide) (by rfl) (by rfl)) a0h (by rfl)) (by rfl)) (by rfl) (by decide) (by rfl) (by rfl)) a0h (by rfl)) (by rfl))) a1s.nd (by rfl) (by walk_at "2") (by rfl) (by walk_at "4")))) (@a0i _ _ _ (@a1q _ _ _ _ (@a0v _ _ _ _ _ _ _ _ a0M (@a0v _ _ _ _ _ _ _ _ a0M (@a4W _ _ _ _ _ _ _ _ _ (@hv _ 0 _ _ (by rfl) (by walk_at "3") (by decide) (by decide)) a6D (@a6C _ _ _ (@hv _ 2 _ _ (by rfl) (by walk_at "3") (by decide) (by decide)))) (@hv _ 5 _ _ (by rfl) (by walk_at "3") (by decide) (by decide))) (@a4W _ _ _ _ _ _ _ _ _ (@hv _ 0 _ _ (by rfl) (by walk_at "3") (by decide) (by decide)) (@a6C _ _ _ (@a0v _ _ _ _ _ _ _ _ a0M (@hv _ 2 _ _ (by rfl) (by walk_at "3") (by decide) (by decide)) a0g)) a6D)))))))),fun ts M Q h=>?_⟩
 unfold a2n at h
 split at h
 ·rename_i r l
  obtain⟨ps,b,B,hr,h1,h2,h6,hg,hb,hB,h⟩:=h
  obtain⟨k,hk⟩:∃ k:Nat,l.natAbs=k+1:=⟨l.natAbs - 1,by lia⟩
  have hG0:GdP b B (ps.getD k []):=hg _ (by rw[List.getD_eq_getElem?_getD,List.getElem?_eq_getElem (by lia)];exact List.getElem_mem _)
  have hG1:GdP b B (ps.getD (k+1) []):=hg _ (by rw[List.getD_eq_getElem?_getD,List.getElem?_eq_getElem (by lia)];exact List.getElem_mem _)
  have a0:atI (ps.map poT) (k:Int)=some (poT (ps.getD k [])):=a0N (by rw[List.getElem?_map,List.getD_eq_getElem?_getD,List.getElem?_eq_getElem (by lia:k < ps.length)];rfl)
  have a1:atI (ps.map poT) ((k:Int)+1)=some (poT (ps.getD (k+1) [])):=by
   rw[show (k:Int)+1=((k+1:Nat):Int) by lia]
   exact a0N (by rw[List.getElem?_map,List.getD_eq_getElem?_getD,List.getElem?_eq_getElem (by lia:k+1 < ps.length)];rfl)
  refine b4e fun K1 hK1=>?_
  walk_at "rd"
  rw[hk,show ((k+1:Nat):Int) - 1=(k:Int) by lia,hr]
  dsimp only
  rw[a0]
  dsimp only
  rw[a1]
  dsimp only
  have key:∀ (q1 q2:Po) (v:Addr),M v=none→q1=wl1 l (ps.getD k []) (ps.getD (k+1) [])→q2=wl2 l (ps.getD k []) (ps.getD (k+1) [])→K1 [some (T.adr r),some (T.int l),some (T.int (k:Int)),some (poT (ps.getD k [])),some (poT (ps.getD (k+1) [])),some (T.adr v)] (updM M v (MO.lst [poT q1,poT q2])):=fun q1 q2 v hv e1c e2c=>by
   have hS:=Sub.new hv (o:=MO.lst [poT q1,poT q2])
   have hMv:(updM M v (MO.lst [poT q1,poT q2])) v=some (.lst [poT q1,poT q2]):=a0c
   have hMr:=hS _ _ hr
   generalize updM M v (MO.lst [poT q1,poT q2])=M1 at hS hMv hMr⊢
   rw[hK1];clear hK1
   walk_at "rd"
   rw[hMr]
   intro c1 hc1
   have hS1:=Sub.new hc1 (o:=MO.lst (cutT (ps.map poT) none (some (k:Int))))
   have h1v:=hS1 _ _ hMv
   have h1r:=hS1 _ _ hMr
   have hS2:=hS.trans hS1
   have h1c:(updM M1 c1 (MO.lst (cutT (ps.map poT) none (some (k:Int))))) c1=some (.lst (cutT (ps.map poT) none (some (k:Int)))):=a0c
   generalize updM M1 c1 (MO.lst (cutT (ps.map poT) none (some (k:Int))))=M2 at h1v h1r hS2 h1c⊢
   rw[h1v]
   dsimp only
   have e1:cutT (ps.map poT) none (some (k:Int))=(ps.take k).map poT:=by rw[b0Z _ _ (by lia),List.map_take];rfl
   rw[e1]
   refine⟨a5M (by rw[List.length_map,List.length_take];simp only[List.length_cons,List.length_nil];lia),fun c2 hc2=>?_⟩
   have hS3:=hS2.newr hc2 (o:=MO.lst ((ps.take k).map poT++[poT q1,poT q2]))
   have h2r:=(Sub.new hc2 (o:=MO.lst ((ps.take k).map poT++[poT q1,poT q2]))) _ _ h1r
   have h2c:(updM M2 c2 (MO.lst ((ps.take k).map poT++[poT q1,poT q2]))) c2=some (.lst ((ps.take k).map poT++[poT q1,poT q2])):=a0c
   generalize updM M2 c2 (MO.lst ((ps.take k).map poT++[poT q1,poT q2]))=M3 at hS3 h2r h2c⊢
   rw[h2r]
   dsimp only
   have e2:cutT (ps.map poT) (some ((k:Int)+2)) none=(ps.drop (k+2)).map poT:=by rw[show (k:Int)+2=((k+2:Nat):Int) by lia,a4c _ _ (by lia),List.map_drop];rfl
   rw[e2]
   intro c3 hc3
   have hS4:=hS3.newr hc3 (o:=MO.lst ((ps.drop (k+2)).map poT))
   have h3c:=(Sub.new hc3 (o:=MO.lst ((ps.drop (k+2)).map poT))) _ _ h2c
   generalize updM M3 c3 (MO.lst ((ps.drop (k+2)).map poT))=M4 at hS4 h3c⊢
   rw[h3c]
   dsimp only
   refine⟨a5M (by rw[List.length_append,List.length_map,List.length_map,List.length_take,List.length_drop];simp only[List.length_cons,List.length_nil];lia),fun c4 hc4=>?_⟩
   refine a1K (h c4 _ (a3G hS4 hc4) (hS4.newr hc4) ?_) Sub.refl
   rw[a0c]
   unfold wlP
   rw[hk,Nat.add_sub_cancel,List.map_append,List.map_append,← e1c,← e2c,← List.append_assoc];rfl
  have hz:0+1+1≤sizeLine:=by decide
  refine ite2 (fun c=>?_) (fun c=>?_)
  ·refine a4z (q:=lupP) hG0 a7K (by lia) (by lia) ?_
   refine a7W (hG0.mul a7K) (hG1.mono (by lia) (by lia:B≤B*2)) (by lia) ?_
   refine a4z (q:=upP) hG0 b2W (by lia) (by lia) ⟨hz,fun v hv=>key _ _ v hv ?_ ?_⟩
   ·unfold wl1;rw[if_pos c]
   ·unfold wl2;rw[if_pos c]
  ·refine a4z (q:=a9R) hG1 a8L (by lia) (by lia) ?_
   refine a4z (q:=a5Q) hG1 a4Y (by lia) (by lia) ?_
   refine a7W (hG0.mono (by lia) (by lia:B≤B*2)) (hG1.mul a4Y) (by lia) ⟨hz,fun v hv=>key _ _ v hv ?_ ?_⟩
   ·unfold wl1;rw[if_neg c]
   ·unfold wl2;rw[if_neg c]
 ·exact h.elim
noncomputable def a3l:Sp3:=fun ts M Q=>match ts with
 | [.tup [.int n,.tup w]]=>∃ ws:List Int,w=ws.map .int∧PlOK n ws∧∀ (r:Addr) (as:List Addr) (M':MH),M r=none→Sub M M'→M' r=some (.lst (as.map T.adr))→a2x M' as (tabP n ws)→FrP M as→as.Nodup→Q (.adr r) M'
 | _=>False
theorem a9D {P:Program} {w:World} {K:PySem.W.Frag} {mg:Str→Option Value} {base:Heap} {f:Addr} {fd:FuncData} {n:Nat}  (F:Fun K "table_of" "table_of" a1G f fd) (hm:mg "table_of"=some (.ref f)) (hb:a1x K fd ["plait"] []) (Z:Zs K mg) (D_looked:Df P w K mg base n "looked" ["plait"] a3C) (D_one_where_same:Df P w K mg base n "one_where_same" ["row","column"] a0P) (D_with_letter:Df P w K mg base n "with_letter" ["row","letter"] a2n):Df P w K mg base (n+1) "table_of" ["plait"] a3l:=by
 refine F.dfn hm hb a2K (by intro ts M Q h;unfold a3l at h;first | (split at h<;>first | rfl | exact h.elim) | (obtain⟨_,_,_,_,_,rfl,_⟩:=h;rfl) | (obtain⟨_,_,_,_,rfl,_⟩:=h;rfl) | (obtain⟨_,_,_,rfl,_⟩:=h;rfl) | (obtain⟨_,_,rfl,_⟩:=h;rfl) | (obtain⟨_,rfl,_⟩:=h;rfl)) ⟨_,fun cdv A outer s H E hr=>(@a0d _ _ _ _ _ (@b0s _ _ _ _ (@a0o _ _ _ _ _ _ _ _ _ _ D_looked hr (@a0b _ _ _ _ _ (@hv _ 0 _ _ (by rfl) (by walk_at "3") (by decide) (by decide)) a0h (by rfl)) (by rfl) (by decide) (by rfl) (by rfl)) (by rfl)) (@a0d _ _ _ _ _ (@a0W _ _ _ _ 1 _ _ (@a8J _ _ _ _ _ _ _ Z.b_list Z.b_range (@a0b _ _ _ _ _ (@h_ix _ _ _ _ _ _ (@hv _ 0 _ _ (by rfl) (by walk_at "3") (by decide) (by decide)) a0g (by intro _ _;rfl)) a0h (by rfl)) (by rfl) (by rfl) (by rfl) (by rfl) (by rfl)) a2K.nd (by rfl) (by walk_at "2") (by rfl) (by walk_at "4")) (@a0d _ _ _ _ _ (@a5B _ _ _ _ _ _ _ _ _ _ _ _ _ _ 2 _ _ _ rfl (@a3d _ _ _ _ (@hv _ 1 _ _ (by rfl) (by walk_at "3") (by decide) (by decide))) (@a0w _ (a0a a1G) _ (["plait","places","rows","letter"]) (["row","places"]) ([none,some 1]) (by decide +kernel) rfl rfl) a1o (fun _ _ _ _ _=>@a0z _ _ 0 _ (show List.Nodup (["row","places"]:List Str) by decide +kernel) rfl (Or.inr rfl) (Or.inl rfl)) (fun _ _ _ _ _=>a1Q) (fun _ _ _ _ _=>(@a2h _ _ _ _ _ _ _ _ _ _ _ _ _ _ rfl (@a3d _ _ _ _ (@hv _ 1 _ _ (by rfl) (by walk_at "3") (by decide) (by decide))) (@a5f _ (a0a a1G) _ _ (["row","places"]) (["column","row"]) _ ([none,some 0]) _ _ _ _ _ (by decide +kernel) rfl rfl) a1o (fun _ _ _ _ _=>@a0z _ _ 0 _ (show List.Nodup (["column","row"]:List Str) by decide +kernel) rfl (Or.inl rfl) (Or.inr rfl)) (fun _ _ _ _ _=>a1Q) (fun _ _ _ _ _=>(@a0o _ _ _ _ _ _ _ _ _ _ D_one_where_same hr (@a0b _ _ _ _ _ (@hv _ 1 _ _ (by rfl) (by walk_at "3") (by decide) (by decide)) (@a0b _ _ _ _ _ (@hv _ 0 _ _ (by rfl) (by walk_at "3") (by decide) (by decide)) a0h (by rfl)) (by rfl)) (by rfl) (by decide) (by rfl) (by rfl))) (by intro _;rfl))) a2K.nd (by rfl) (by walk_at "2") (by rfl) (by intro _;rfl) (by walk_at "4")) (@a0d _ _ _ _ _ (@a4P _ _ _ _ _ _ _ _ PassesOwn.never rfl (@a3d _ _ _ _ (@h_ix _ _ _ _ _ _ (@hv _ 0 _ _ (by rfl) (by walk_at "3") (by decide) (by decide)) a0g (by intro _ _;rfl))) (@a2u _ _ 3 _ a2K.nd (by rfl) (by walk_at "2") (by walk_at "4")) (@a0i _ _ _ (@a5B _ _ _ _ _ _ _ _ _ _ _ _ _ _ 2 _ _ _ rfl (@a3d _ _ _ _ (@hv _ 2 _ _ (by rfl) (by walk_at "3") (by decide) (by decide))) (@a0w _ (a0a a1G) _ (["plait","places","rows","letter"]) (["row","letter"]) ([none,some 3]) (by decide +kernel) rfl rfl) a1o (fun _ _ _ _ _=>@a0z _ _ 0 _ (show List.Nodup (["row","letter"]:List Str) by decide +kernel) rfl (Or.inl rfl) (Or.inr rfl)) (fun _ _ _ _ _=>a1Q) (fun _ _ _ _ _=>(@a0o _ _ _ _ _ _ _ _ _ _ D_with_letter hr (@a0b _ _ _ _ _ (@hv _ 0 _ _ (by rfl) (by walk_at "3") (by decide) (by decide)) (@a0b _ _ _ _ _ (@hv _ 1 _ _ (by rfl) (by walk_at "3") (by decide) (by decide)) a0h (by rfl)) (by rfl)) (by rfl) (by decide) (by rfl) (by rfl))) a2K.nd (by rfl) (by walk_at "2") (by rfl) (by intro _;rfl) (by walk_at "4"))) (by intro _;rfl)) (@a0i _ _ _ (@a1q _ _ _ _ (@hv _ 2 _ _ (by rfl) (by walk_at "3") (by decide) (by decide)))))))),fun ts M Q h=>?_⟩
 unfold a3l at h
 split at h
 ·rename_i n w
  obtain⟨ws,rfl,ok,h⟩:=h
  walk_at "rd"
  refine⟨ws,rfl,ok,?_⟩
  obtain⟨o1,o2,o3,o4⟩:=id ok
  refine⟨⟨by lia,by lia⟩,fun p hp=>?_⟩
  have hS0:=Sub.new hp (o:=MO.lst (a0J 0 n.toNat))
  have hMp:(updM M p (MO.lst (a0J 0 n.toNat))) p=some (.lst ((a0l n).map T.int)):=by rw[a0c,a4x]
  generalize updM M p (MO.lst (a0J 0 n.toNat))=M0 at hS0 hMp⊢
  rw[a4x]
  have hlen:=a0s n
  refine⟨fun i ys M'=>(∃ as:List Addr,ys=as.map T.adr∧a2x M' as ((idP n).take i)∧FrP M as∧as.Nodup)∧Sub M0 M',⟨⟨[],rfl,a2x.nil,fun _ z=>absurd z List.not_mem_nil,.nil⟩,Sub.refl⟩,?_,a0t (by rw[List.length_map,hlen];lia),?_,?_⟩
  ·rintro i ys M' ⟨_,hS⟩
   exact hS _ _ hMp
  ·rintro i x ys M' hx ⟨⟨as,rfl,hR,hF,hN⟩,hS⟩
   obtain⟨r,hx2,rfl⟩:=a0q hx
   rw[hS _ _ hMp]
   dsimp only
   refine⟨fun j zs M2=>zs=(((a0l n).take j).map fun c=>oneP r c).map poT∧M2=M',⟨rfl,rfl⟩,?_,a0t (by rw[List.length_map,hlen];lia),?_,?_⟩
   ·rintro j zs M2 ⟨_,rfl⟩
    exact hS _ _ hMp
   ·rintro j y zs M2 hy ⟨rfl,rfl⟩
    obtain⟨c,hy2,rfl⟩:=a0q hy
    show _∧_
    refine⟨?_,rfl⟩
    rw[← a1V (fun c=>oneP r c) hy2,List.map_append];rfl
   ·rintro zs M2 ⟨rfl,rfl⟩ a ha
    rw[List.length_map,List.take_length]
    have e:(idP n)[i]?=some ((a0l n).map fun c=>oneP r c):=by
     unfold idP
     rw[List.getElem?_map,hx2];rfl
    have hSa:=Sub.new ha (o:=MO.lst (((a0l n).map fun c=>oneP r c).map poT))
    refine⟨⟨as++[a],by rw[List.map_append];rfl,?_,hF.snoc (a3G (hS0.trans hS) ha),hR.nd hN ha⟩,hS.trans hSa⟩
    rw[show (idP n).take (i+1)=(idP n).take i++[(a0l n).map fun c=>oneP r c] by rw[List.take_add_one,e];rfl]
    exact (hR.sub hSa).snoc a0c
  ·rintro ys M' ⟨⟨as,rfl,hR,hF,hN⟩,hS⟩ q hq
   have e:(idP n).take ((a0l n).map T.int).length=idP n:=by
    rw[List.length_map]
    exact List.take_of_length_le (by unfold idP;rw[List.length_map];exact Nat.le_refl _)
   rw[e] at hR
   have hSq:=Sub.new hq (o:=MO.lst (as.map T.adr))
   have hqM:=a3G (hS0.trans hS) hq
   have hMq:(updM M' q (MO.lst (as.map T.adr))) q=some (.lst (as.map T.adr)):=a0c
   have hR2:=hR.sub hSq
   have hS2:=(hS0.trans hS).trans hSq
   generalize updM M' q (MO.lst (as.map T.adr))=M3 at hMq hR2 hS2⊢
   clear hR hSq hq hS hMp hS0
   refine a2m fun B hB=>?_
   unfold a4d
   walk_at "rd"
   refine⟨fun i ρ M'=>(∃ (q:Addr) (as:List Addr) (x3:Option T),ρ=[some (T.tup [T.int n,T.tup (ws.map T.int)]),some (T.adr p),some (T.adr q),x3]∧M' q=some (.lst (as.map T.adr))∧a2x M' as (tabP n (ws.take i))∧FrP M as∧M q=none∧as.Nodup)∧Sub M M',⟨⟨q,as,_,rfl,hMq,hR2,hF,hqM,hN⟩,hS2⟩,fun _ _ _ _=>trivial,?_,?_⟩
   ·rintro i x ρ M' hx ⟨⟨q,as,x3,rfl,hq,hR,hF,hqM,hN⟩,hS⟩
    obtain⟨l,hx2,rfl⟩:=a0q hx
    obtain⟨z1,z2⟩:=o4 l (List.mem_of_getElem? hx2)
    have hG:=a1y (n:=n) (ws:=ws.take i) (fun y hy=>o4 y (List.mem_of_mem_take hy))
    have hil:(ws.take i).length≤16:=Nat.le_trans (by rw[List.length_take];exact Nat.min_le_right _ _) o3
    have hpow:3 ^ (ws.take i).length < 2 ^ 60:=Nat.lt_of_le_of_lt (Nat.pow_le_pow_right (by decide) hil) (by decide)
    have htab:tabP n (ws.take (i+1))=(tabP n (ws.take i)).map fun ps=>wlP ps l:=by
     rw[show ws.take (i+1)=ws.take i++[l] by rw[List.take_add_one,hx2];rfl,a8c]
    rw[hB];clear hB
    walk_at "rd"
    rw[hq]
    dsimp only
    generalize tabP n (ws.take i)=rs at hR hG htab
    have has:as.length=rs.length:=hR.1
    refine⟨fun j ys M2=>(∃ bs:List Addr,ys=bs.map T.adr∧a2x M2 bs ((rs.take j).map fun ps=>wlP ps l)∧FrP M bs∧bs.Nodup)∧Sub M' M2,⟨⟨[],rfl,a2x.nil,fun _ z=>absurd z List.not_mem_nil,.nil⟩,Sub.refl⟩,?_,a0t (by rw[List.length_map,has,hG.1];lia),?_,?_⟩
    ·rintro j ys M2 ⟨_,hS2⟩
     exact hS2 _ _ hq
    ·rintro j y ys M2 hy ⟨⟨bs,rfl,hR2,hF2,hN2⟩,hS2⟩
     obtain⟨a,ha,rfl⟩:∃ a,as[j]?=some a∧T.adr a=y:=by
      rw[List.getElem?_map] at hy
      exact Option.map_eq_some_iff.mp hy
     obtain⟨ps,eps⟩:∃ ps,rs[j]?=some ps:=⟨_,List.getElem?_eq_getElem (by rw[← has];exact (List.getElem?_eq_some_iff.mp ha).1)⟩
     have hMa:=hS2 _ _ (hR.2 j a ps ha eps)
     obtain⟨g1,g2⟩:=hG.2 ps (List.mem_of_getElem? eps)
     refine⟨ps,_,_,hMa,by lia,by rw[g1];lia,by rw[g1];lia,g2,by lia,hpow,fun t M5 ht hS5 ht5=>?_⟩
     have ej:(rs.take (j+1)).map (fun ps=>wlP ps l)=(rs.take j).map (fun ps=>wlP ps l)++[wlP ps l]:=by
      rw[List.take_add_one,eps,List.map_append];rfl
     refine⟨⟨bs++[t],by rw[List.map_append];rfl,by rw[ej];exact (hR2.sub hS5).snoc ht5,hF2.snoc (a3G (hS.trans hS2) ht),hR2.nd hN2 ht⟩,hS2.trans hS5⟩
    ·rintro ys M2 ⟨⟨bs,rfl,hR2,hF2,hN2⟩,hS2⟩ v hv
     rw[List.length_map,has,List.take_length,← htab] at hR2
     have hSv:=Sub.new hv (o:=MO.lst (bs.map T.adr))
     exact⟨⟨v,bs,_,rfl,a0c,hR2.sub hSv,hF2,a3G (hS.trans hS2) hv,hN2⟩,(hS.trans hS2).trans hSv⟩
   ·rintro ρ M' ⟨⟨q,as,x3,rfl,hq,hR,hF,hqM,hN⟩,hS⟩
    try rw[List.length_map] at hR
    rw[List.take_length] at hR
    show rt3 M Q (T.adr q) M'
    exact a1K (h q as M' hqM hS hq hR hF hN) Sub.refl
 ·exact h.elim
noncomputable def a1e:Nat→Sp3
 | 0=>fun _ _ _=>False
 | k+1=>fun ts M Q=>∃ (r:Addr) (as:List Addr) (rs:List (List Po)) (a b:Nat),ts=[.adr r]∧M r=some (.lst (as.map T.adr))∧a2x M as rs∧rs.length≤k∧rs.length≤6∧b0g rs.length a b rs∧rs.length*(a+b)≤62∧Q (poT (detP (rs.length+1) rs)) M
theorem a5P {k:Nat} {ts:List T} {M:MH} {Q:VK3} (h:a1e (k+1) ts M Q):ts.length=1:=by
 obtain⟨_,_,_,_,_,rfl,_⟩:=h
 rfl
theorem b0X {k a b:Nat} {r:Addr} {as:List Addr} {rs:List (List Po)} {M:MH} {Q:VK3} (hr:M r=some (.lst (as.map T.adr))) (hR:a2x M as rs) (hk:rs.length≤k) (h6:rs.length≤6) (hG:b0g rs.length a b rs) (h1:rs.length*(a+b)≤62) (h:Q (poT (detP (rs.length+1) rs)) M):a1e (k+1) [.adr r] M Q:=by
 unfold a1e
 exact⟨r,as,rs,a,b,rfl,hr,hR,hk,h6,hG,h1,h⟩
theorem a5l {P:Program} {w:World} {K:PySem.W.Frag} {mg:Str→Option Value} {base:Heap} {f:Addr} {fd:FuncData} {n:Nat} (F:Fun K "determinant" "determinant" a1b f fd) (hm:mg "determinant"=some (.ref f)) (hb:a1x K fd ["rows"] []):Df P w K mg base (n+1) "determinant" ["rows"] (a1e 0):=F.dfn hm hb a0H (fun ts M Q h=>h.elim) ⟨fun _ _ _=>False,fun cdv A outer s H E hr=>b2T,fun ts M Q h=>h.elim⟩
theorem a1v {P:Program} {w:World} {K:PySem.W.Frag} {mg:Str→Option Value} {base:Heap} {f:Addr} {fd:FuncData} {n:Nat}  {k:Nat} (F:Fun K "determinant" "determinant" a1b f fd) (hm:mg "determinant"=some (.ref f)) (hb:a1x K fd ["rows"] []) (Z:Zs K mg) (D_determinant:Df P w K mg base n "determinant" ["rows"] (a1e k)) (D_added:Df P w K mg base n "added" ["one","other"] a2V) (D_multiplied:Df P w K mg base n "multiplied" ["one","other"] a0L):Df P w K mg base (n+1) "determinant" ["rows"] (a1e (k+1)):=by
 obtain⟨tk_ONE,c_ONE⟩:=Z.c_ONE
 obtain⟨tk_NOUGHT,c_NOUGHT⟩:=Z.c_NOUGHT
 obtain⟨tk_LESS_ONE,c_LESS_ONE⟩:=Z.c_LESS_ONE
 refine F.dfn hm hb a0H (by intro ts M Q h;exact a5P h) ⟨_,fun cdv A outer s H E hr=>(@a0d _ _ _ _ _ (@s_if _ _ _ _ _ _ _ _ (@a9M _ _ _ _ (@a3I _ _ _ (@hv _ 0 _ _ (by rfl) (by walk_at "3") (by decide) (by decide)) (by intro _;rfl))) (@a0i _ _ _ (@a1q _ _ _ _ (@a2A _ _ _ _ _ c_ONE (by rfl) (by decide)))) a2U) (@a0d _ _ _ _ _ (@a0W _ _ _ _ 1 _ _ (@a2A _ _ _ _ _ c_NOUGHT (by rfl) (by decide)) a0H.nd (by rfl) (by walk_at "2") (by rfl) (by walk_at "4")) (@a0d _ _ _ _ _ (@a0W _ _ _ _ 2 _ _ (@a2A _ _ _ _ _ c_ONE (by rfl) (by decide)) a0H.nd (by rfl) (by walk_at "2") (by rfl) (by walk_at "4")) (@a0d _ _ _ _ _ (@a4P _ _ _ _ _ _ _ _ PassesOwn.never rfl (@b9i _ _ _ _ _ _ _ _ Z.b_enumerate (@h_ix _ _ _ _ _ _ (@hv _ 0 _ _ (by rfl) (by walk_at "3") (by decide) (by decide)) a0g (by intro _ _;rfl)) (by rfl) (by rfl)) (@b4T _ _ _ _ _ 2 rfl (@a3J _ _ _ _ _ (@a2u _ _ 3 _ a0H.nd (by rfl) (by walk_at "2") (by walk_at "4")) (@a3J _ _ _ _ _ (@a2u _ _ 4 _ a0H.nd (by rfl) (by walk_at "2") (by walk_at "4")) b0L (by rfl)) (by rfl)) (by rfl) (by rfl)) (@a0d _ _ _ _ _ (@s_if _ _ _ _ _ _ _ _ (@a3I _ _ _ (@hv _ 4 _ _ (by rfl) (by walk_at "3") (by decide) (by decide)) (by intro _;rfl)) (@a0d _ _ _ _ _ (@a0W _ _ _ _ 5 _ _ (@a0o _ _ _ _ _ _ _ _ _ _ D_determinant hr (@a0b _ _ _ _ _ (@a2h _ _ _ _ _ _ _ _ _ _ _ _ _ _ rfl (@a3d _ _ _ _ (@a4W _ _ _ _ _ _ _ _ _ (@hv _ 0 _ _ (by rfl) (by walk_at "3") (by decide) (by decide)) (@a6C _ _ _ a0g) a6D)) (@a0w _ (a0a a1b) _ (["rows","whole","sign","column","here","rest"]) (["row","column"]) ([none,some 3]) (by decide +kernel) rfl rfl) a1o (fun _ _ _ _ _=>@a0z _ _ 0 _ (show List.Nodup (["row","column"]:List Str) by decide +kernel) rfl (Or.inl rfl) (Or.inr rfl)) (fun _ _ _ _ _=>a1Q) (fun _ _ _ _ _=>(@a0v _ _ _ _ _ _ _ _ a0M (@a4W _ _ _ _ _ _ _ _ _ (@hv _ 0 _ _ (by rfl) (by walk_at "3") (by decide) (by decide)) a6D (@a6C _ _ _ (@hv _ 1 _ _ (by rfl) (by walk_at "3") (by decide) (by decide)))) (@a4W _ _ _ _ _ _ _ _ _ (@hv _ 0 _ _ (by rfl) (by walk_at "3") (by decide) (by decide)) (@a6C _ _ _ (@a0v _ _ _ _ _ _ _ _ a0M (@hv _ 1 _ _ (by rfl) (by walk_at "3") (by decide) (by decide)) a0g)) a6D))) (by intro _;rfl)) a0h (by rfl)) (by rfl) (by decide) (by rfl) (by rfl)) a0H.nd (by rfl) (by walk_at "2") (by rfl) (by walk_at "4")) (@a0i _ _ _ (@a0W _ _ _ _ 1 _ _ (@a0o _ _ _ _ _ _ _ _ _ _ D_added hr (@a0b _ _ _ _ _ (@hv _ 1 _ _ (by rfl) (by walk_at "3") (by decide) (by decide)) (@a0b _ _ _ _ _ (@a0o _ _ _ _ _ _ _ _ _ _ D_multiplied hr (@a0b _ _ _ _ _ (@a0o _ _ _ _ _ _ _ _ _ _ D_multiplied hr (@a0b _ _ _ _ _ (@hv _ 4 _ _ (by rfl) (by walk_at "3") (by decide) (by decide)) (@a0b _ _ _ _ _ (@hv _ 5 _ _ (by rfl) (by walk_at "3") (by decide) (by decide)) a0h (by rfl)) (by rfl)) (by rfl) (by decide) (by rfl) (by rfl)) (@a0b _ _ _ _ _ (@hv _ 2 _ _ (by rfl) (by walk_at "3") (by decide) (by decide)) a0h (by rfl)) (by rfl)) (by rfl) (by decide) (by rfl) (by rfl)) a0h (by rfl)) (by rfl)) (by rfl) (by decide) (by rfl) (by rfl)) a0H.nd (by rfl) (by walk_at "2") (by rfl) (by walk_at "4")))) a2U) (@a0i _ _ _ (@a0W _ _ _ _ 2 _ _ (@a0o _ _ _ _ _ _ _ _ _ _ D_multiplied hr (@a0b _ _ _ _ _ (@hv _ 2 _ _ (by rfl) (by walk_at "3") (by decide) (by decide)) (@a0b _ _ _ _ _ (@a2A _ _ _ _ _ c_LESS_ONE (by rfl) (by decide)) a0h (by rfl)) (by rfl)) (by rfl) (by decide) (by rfl) (by rfl)) a0H.nd (by rfl) (by walk_at "2") (by rfl) (by walk_at "4")))) (by intro _;rfl)) (@a0i _ _ _ (@a1q _ _ _ _ (@hv _ 1 _ _ (by rfl) (by walk_at "3") (by decide) (by decide)))))))),fun ts M Q h=>?_⟩
 obtain⟨r,as,rs,ia,ib,rfl,hr,hR,hk,h6,hG,hmb,h⟩:=h
 refine a0E fun K1 hK1=>?_
 walk_at "rd"
 rw[hr]
 have hlen:=hR.1
 cases rs with
 | nil =>
   cases as with
   | nil =>
     dsimp only
     rw[show (!(List.map T.adr []).isEmpty)=false from rfl,if_pos rfl]
     exact a0y h
   | cons a as=>cases hlen
 | cons ps rs =>
   cases as with
   | nil=>cases hlen
   | cons a as =>
     dsimp only
     rw[if_neg (show ¬(!(List.map T.adr (a :: as)).isEmpty)=false by intro z;cases z)]
     obtain⟨g1,g2⟩:=hG.2 ps (.head _)
     have g3:∀ qs∈rs,qs.length=rs.length+1∧∀ p∈qs,GdI ia ib p∧Sml p:=fun qs hq=>hG.2 qs (.tail _ hq)
     have hMa:=hR.2 0 a ps rfl rfl
     have hpl:ps.length=rs.length+1:=g1
     have hR':a2x M as rs:=⟨by rw[List.length_cons,List.length_cons] at hlen;lia,fun i x l h1 h2=>hR.2 (i+1) x l (by simpa using h1) (by simpa using h2)⟩
     rw[List.length_cons] at hk h6 hmb
     have hmb2:(rs.length+1)*(ia+ib)=rs.length*ia+rs.length*ib+(ia+ib):=by rw[Nat.add_mul,Nat.one_mul,Nat.mul_add]
     have hma:(rs.length+1)*ia=rs.length*ia+ia:=by rw[Nat.add_mul,Nat.one_mul]
     have hmbb:(rs.length+1)*ib=rs.length*ib+ib:=by rw[Nat.add_mul,Nat.one_mul]
     have hmm:rs.length*(ia+ib)=rs.length*ia+rs.length*ib:=Nat.mul_add ..
     have hf:∀ c,c < ps.length→GdI (rs.length*ia) (rs.length*ib) (detP (rs.length+1) (a2g c rs)):=fun c hc=>a5c _ (a4n g3 (by rw[← hpl];exact hc) rfl)
     change Q (poT ((List.range ps.length).foldl (a4N ps fun c=>detP (rs.length+1) (a2g c rs)) [])) M at h
     have hsum:=a4m (m:=rs.length) g2 hf
     rw[hK1];clear hK1
     refine a5r fun K2 hK2=>?_
     walk_at "rd"
     refine a2m fun Bd hBd=>?_
     unfold a4d
     walk_at "rd"
     rw[hr]
     dsimp only
     rw[List.map_cons,a7V]
     dsimp only
     rw[hMa]
     dsimp only
     refine⟨fun c ρ M'=>(∃ (x3 x4 x5:Option T),ρ=[some (T.adr r),some (poT ((List.range c).foldl (a4N ps fun c=>detP (rs.length+1) (a2g c rs)) [])),some (poT (sgnP c)),x3,x4,x5])∧Sub M M',⟨⟨_,_,_,rfl⟩,Sub.refl⟩,?_,?_,?_⟩
     ·rintro c ρ M' ⟨_,hS⟩
      exact hS _ _ hMa
     ·rintro c x ρ M' hx ⟨⟨x3,x4,x5,rfl⟩,hS⟩
      obtain⟨t,ht,rfl⟩:=b3m hx
      obtain⟨p,ep,rfl⟩:∃ p,ps[c]?=some p∧poT p=t:=by
       rw[List.getElem?_map] at ht
       exact Option.map_eq_some_iff.mp ht
      have hc:c < ps.length:=(List.getElem?_eq_some_iff.mp ep).1
      have ed:ps.getD c []=p:=by rw[List.getD_eq_getElem?_getD,ep];rfl
      have hgp:=g2 p (List.mem_of_getElem? ep)
      have hacc:=hsum c (by lia)
      dsimp only
      refine⟨rfl,rfl,?_⟩
      rw[a4Z]
      generalize hA:(List.range c).foldl (a4N ps fun c=>detP (rs.length+1) (a2g c rs)) []=acc at hacc⊢
      have hstep:a4N ps (fun c=>detP (rs.length+1) (a2g c rs)) acc c=if p=[] then acc else addP acc (a0X (a0X p (detP (rs.length+1) (a2g c rs))) (sgnP c)):=by unfold a4N;rw[ed]
      rw[hstep]
      rw[hBd];clear hBd
      refine a0E fun K3 hK3=>?_
      walk_at "rd"
      have fin:∀ (M5:MH) (x5':Option T) (acc':Po),acc'=(if p=[] then acc else addP acc (a0X (a0X p (detP (rs.length+1) (a2g c rs))) (sgnP c)))→Sub M M5→K3 [some (T.adr r),some (poT acc'),some (poT (sgnP c)),some (T.int c),some (poT p),x5'] M5:=fun M5 x5' acc' e hS5=>by
       rw[hK3];clear hK3
       walk_at "rd"
       refine a5K (q:=[(0,-1)]) (a7L c) b0M (by decide) (.inr (by unfold Sml;decide)) ?_
       exact⟨⟨_,_,_,by rw[e];rfl⟩,hS5⟩
      cases p with
      | nil =>
        show (if false=true then _ else _)
        rw[if_neg (by decide)]
        exact fin M' _ acc rfl hS
      | cons y p =>
        show (if true=true then _ else _)
        rw[if_pos rfl,hS _ _ hr]
        intro s hs
        have ecut:cutT ((a :: as).map T.adr) (some 1) none=as.map T.adr:=by
         rw[a4c _ _ (by decide)];rfl
        rw[ecut]
        have hSs:=Sub.new hs (o:=MO.lst (as.map T.adr))
        have hMs:(updM M' s (MO.lst (as.map T.adr))) s=some (.lst (as.map T.adr)):=a0c
        have hR4:=(hR'.sub hS).sub hSs
        have hS4:=hS.trans hSs
        generalize updM M' s (MO.lst (as.map T.adr))=M4 at hMs hR4 hS4⊢
        clear hSs hs
        have has:as.length=rs.length:=hR'.1
        refine⟨fun j ys M2=>(∃ bs:List Addr,ys=bs.map T.adr∧a2x M2 bs (a2g c (rs.take j)))∧Sub M4 M2,⟨⟨[],rfl,a2x.nil⟩,Sub.refl⟩,?_,a0t (by rw[List.length_map];lia),?_,?_⟩
        ·rintro j ys M2 ⟨_,hS2⟩
         exact hS2 _ _ hMs
        ·rintro j x ys M2 hx ⟨⟨bs,rfl,hR2⟩,hS2⟩
         obtain⟨ai,hai,rfl⟩:∃ ai,as[j]?=some ai∧T.adr ai=x:=by
          rw[List.getElem?_map] at hx
          exact Option.map_eq_some_iff.mp hx
         obtain⟨qs,eqs⟩:∃ qs,rs[j]?=some qs:=⟨_,List.getElem?_eq_getElem (by rw[← has];exact (List.getElem?_eq_some_iff.mp hai).1)⟩
         have hMi:=hS2 _ _ (hR4.2 j ai qs hai eqs)
         have hql:=(g3 qs (List.mem_of_getElem? eqs)).1
         dsimp only
         rw[hMi]
         intro c1 hc1
         have e1:cutT (qs.map poT) none (some (c:Int))=(qs.take c).map poT:=by rw[b0Z _ _ (by lia),List.map_take];rfl
         have e2:cutT (qs.map poT) (some ((c:Int)+1)) none=(qs.drop (c+1)).map poT:=by rw[show (c:Int)+1=((c+1:Nat):Int) by lia,a4c _ _ (by lia),List.map_drop];rfl
         rw[e1]
         have hS5:=Sub.new hc1 (o:=MO.lst ((qs.take c).map poT))
         have h5i:=hS5 _ _ hMi
         have h5c:(updM M2 c1 (MO.lst ((qs.take c).map poT))) c1=some (.lst ((qs.take c).map poT)):=a0c
         generalize updM M2 c1 (MO.lst ((qs.take c).map poT))=M5 at hS5 h5i h5c⊢
         rw[h5i]
         dsimp only
         intro c2 hc2
         rw[e2]
         have hS6:=Sub.new hc2 (o:=MO.lst ((qs.drop (c+1)).map poT))
         have h6c:=hS6 _ _ h5c
         have h6d:(updM M5 c2 (MO.lst ((qs.drop (c+1)).map poT))) c2=some (.lst ((qs.drop (c+1)).map poT)):=a0c
         generalize updM M5 c2 (MO.lst ((qs.drop (c+1)).map poT))=M6 at hS6 h6c h6d⊢
         rw[h6c]
         dsimp only
         refine⟨a5M (by rw[List.length_map,List.length_map,List.length_take,List.length_drop];lia),fun v hv=>?_⟩
         have hSv:=Sub.new hv (o:=MO.lst ((qs.take c).map poT++(qs.drop (c+1)).map poT))
         have ej:a2g c (rs.take (j+1))=a2g c (rs.take j)++[qs.take c++qs.drop (c+1)]:=by
          unfold a2g
          rw[List.take_add_one,eqs,List.map_append];rfl
         have hRv:=(((hR2.sub hS5).sub hS6).sub hSv).snoc (ps:=qs.take c++qs.drop (c+1)) (a:=v) (by rw[a0c,List.map_append])
         refine⟨⟨bs++[v],by rw[List.map_append];rfl,by rw[ej];exact hRv⟩,((hS2.trans hS5).trans hS6).trans hSv⟩
        ·rintro ys M2 ⟨⟨bs,rfl,hR2⟩,hS2⟩ v hv
         rw[List.length_map,has,List.take_length] at hR2
         have hSv:=Sub.new hv (o:=MO.lst (bs.map T.adr))
         have hMv:(updM M2 v (MO.lst (bs.map T.adr))) v=some (.lst (bs.map T.adr)):=a0c
         have hR7:=hR2.sub hSv
         have hS7:=(hS4.trans hS2).trans hSv
         generalize updM M2 v (MO.lst (bs.map T.adr))=M7 at hMv hR7 hS7⊢
         have hdl:(a2g c rs).length=rs.length:=by unfold a2g;rw[List.length_map]
         have hGd:b0g rs.length ia ib (a2g c rs):=a4n g3 (by rw[← hpl];exact hc) rfl
         cases k with
         | zero=>lia
         | succ k =>
           refine b0X (a:=ia) (b:=ib) hMv hR7 (by rw[hdl];lia) (by rw[hdl];lia) (by rw[hdl];exact hGd) (by rw[hdl,hmm];lia) ?_
           rw[hdl]
           have hgd:=hf c hc
           refine a5K hgp.1 hgd (by lia) (.inl hgp.2) ?_
           refine a5K (hgp.1.mul hgd) (a7L c) (by lia) (.inr (b6V (a7I c) (by decide))) ?_
           refine b3L hacc ((hgp.1.mul hgd).mul (a7L c) |>.mono (c:=(rs.length+1)*ia) (d:=(rs.length+1)*ib) (by lia) (by lia)) (by lia) ?_
           exact fin M7 _ _ (by rw[if_neg (by intro z;cases z)]) hS7
     ·rintro ρ M' ⟨⟨x3,x4,x5,rfl⟩,hS⟩
      rw[a5b,List.length_map]
      rw[hK2];clear hK2
      walk_at "rd"
      exact a1K h hS
noncomputable def a2o:Sp3:=fun ts M Q=>match ts with
 | [.tup a]=>∃ (p:Po) (c b:Nat),a=p.map prT∧GdI c b p∧c+b≤62∧Q (poT (b4W p)) M
 | _=>False
theorem a6l {P:Program} {w:World} {K:PySem.W.Frag} {mg:Str→Option Value} {base:Heap} {f:Addr} {fd:FuncData} {n:Nat}  (F:Fun K "from_nought" "from_nought" a1H f fd) (hm:mg "from_nought"=some (.ref f)) (hb:a1x K fd ["whole"] []) (Z:Zs K mg) (D_multiplied:Df P w K mg base n "multiplied" ["one","other"] a0L):Df P w K mg base (n+1) "from_nought" ["whole"] a2o:=by
 obtain⟨tk_NOUGHT,c_NOUGHT⟩:=Z.c_NOUGHT
 refine F.dfn hm hb a3a (by intro ts M Q h;unfold a2o at h;first | (split at h<;>first | rfl | exact h.elim) | (obtain⟨_,_,_,_,_,rfl,_⟩:=h;rfl) | (obtain⟨_,_,_,_,rfl,_⟩:=h;rfl) | (obtain⟨_,_,_,rfl,_⟩:=h;rfl) | (obtain⟨_,_,rfl,_⟩:=h;rfl) | (obtain⟨_,rfl,_⟩:=h;rfl)) ⟨_,fun cdv A outer s H E hr=>(@a0d _ _ _ _ _ (@s_if _ _ _ _ _ _ _ _ (@a9M _ _ _ _ (@a3I _ _ _ (@hv _ 0 _ _ (by rfl) (by walk_at "3") (by decide) (by decide)) (by intro _;rfl))) (@a0i _ _ _ (@a1q _ _ _ _ (@a2A _ _ _ _ _ c_NOUGHT (by rfl) (by decide)))) a2U) (@a0d _ _ _ _ _ (@a0W _ _ _ _ 1 _ _ (@h_ix _ _ _ _ _ _ (@hv _ 0 _ _ (by rfl) (by walk_at "3") (by decide) (by decide)) a0g (by intro _ _;rfl)) a3a.nd (by rfl) (by walk_at "2") (by rfl) (by walk_at "4")) (@a0d _ _ _ _ _ (@a0W _ _ _ _ 2 _ _ (@b7d _ _ _ _ _ _ _ _ (@a2f _ _ _ _ _ _ _ _ a6B (@h_ix _ _ _ _ _ _ (@hv _ 1 _ _ (by rfl) (by walk_at "3") (by decide) (by decide)) a0g (by intro _ _;rfl)) a0g (@a1k _ _ (by decide) (by decide))) a0g (@h_un _ _ _ _ _ _ a6Z a0g)) a3a.nd (by rfl) (by walk_at "2") (by rfl) (by walk_at "4")) (@a0i _ _ _ (@a1q _ _ _ _ (@a0o _ _ _ _ _ _ _ _ _ _ D_multiplied hr (@a0b _ _ _ _ _ (@hv _ 0 _ _ (by rfl) (by walk_at "3") (by decide) (by decide)) (@b3M _ _ _ _ _ _ _ (@b2V _ _ _ _ _ (@b3M _ _ _ _ _ _ _ (@b2V _ _ _ _ _ (@a0b _ _ _ _ _ (@h_un _ _ _ _ _ _ a6Z (@h_ix _ _ _ _ _ _ (@hv _ 1 _ _ (by rfl) (by walk_at "3") (by decide) (by decide)) a0g (by intro _ _;rfl))) (@a0b _ _ _ _ _ (@hv _ 2 _ _ (by rfl) (by walk_at "3") (by decide) (by decide)) a0h (by rfl)) (by rfl))) a0h)) a0h) (by rfl)) (by rfl) (by decide) (by rfl) (by rfl))))))),fun ts M Q h=>?_⟩
 unfold a2o at h
 split at h
 ·rename_i a
  obtain⟨p,c,b,rfl,hg,hb,h⟩:=h
  cases p with
  | nil =>
    refine a0E fun K1 hK1=>?_
    walk_at "rd"
    exact a0y h
  | cons x p =>
    refine a0E fun K1 hK1=>?_
    walk_at "rd"
    rw[if_neg (show ¬(!(List.map prT (x :: p)).isEmpty)=false by intro z;cases z)]
    rw[hK1];clear hK1
    refine a0E fun K2 hK2=>?_
    walk_at "rd"
    rw[List.map_cons,a7V]
    dsimp only
    rw[hK2];clear hK2
    refine a0E fun K3 hK3=>?_
    walk_at "rd"
    have key:∀ g:Int,g=(if 0 < x.2 then 1 else -1)→K3 [some (T.tup (prT x :: List.map prT p)),some (prT x),some (T.int g)] M:=fun g e=>by
     rw[hK3];clear hK3
     walk_at "rd"
     rw[show prT x=T.tup [T.int x.1,T.int x.2] from rfl]
     dsimp only
     rw[a7V]
     dsimp only
     have hlen:=hg.1.lenI hg.2
     have hsg:Sml [(-x.1,g)]:=fun y hy=>by
      rw[List.mem_singleton.mp hy]
      show g.natAbs < 2 ^ 64
      rw[e];split<;>decide
     refine⟨by decide,by decide,x :: p,[(-x.1,g)],(x :: p).map fun y=>y.1+-x.1,rfl,rfl,by rw[List.length_map];lia,fun y hy z hz=>?_,Or.inr hsg,by lia,by show 1≤5000;decide,?_⟩
     ·rw[List.mem_singleton.mp hz]
      exact List.mem_map.mpr ⟨y,hy,rfl⟩
     ·rw[e]
      exact a0y h
    rw[show prT x=T.tup [T.int x.1,T.int x.2] from rfl] at key⊢
    dsimp only
    rw[b5k]
    dsimp only
    refine ite2 (fun c=>key _ (by rw[if_pos c])) (fun c=>key _ (by rw[if_neg c]))
 ·exact h.elim
noncomputable def a2D:Sp3:=fun ts M Q=>match ts with
 | [.tup [.int n,.tup w]]=>∃ ws:List Int,w=ws.map .int∧PlOK n ws∧a9h n ws∧Q (poT (a5d n ws)) M
 | _=>False
theorem a7t {P:Program} {w:World} {K:PySem.W.Frag} {mg:Str→Option Value} {base:Heap} {f:Addr} {fd:FuncData} {n:Nat}  (F:Fun K "closed_sum" "closed_sum" a1B f fd) (hm:mg "closed_sum"=some (.ref f)) (hb:a1x K fd ["plait"] []) (Z:Zs K mg) (D_table_of:Df P w K mg base n "table_of" ["plait"] a3l) (D_added:Df P w K mg base n "added" ["one","other"] a2V) (D_one_where_same:Df P w K mg base n "one_where_same" ["row","column"] a0P) (D_multiplied:Df P w K mg base n "multiplied" ["one","other"] a0L) (D_from_nought:Df P w K mg base n "from_nought" ["whole"] a2o) (D_determinant:Df P w K mg base n "determinant" ["rows"] (a1e 6)):Df P w K mg base (n+1) "closed_sum" ["plait"] a2D:=by
 obtain⟨tk_LESS_ONE,c_LESS_ONE⟩:=Z.c_LESS_ONE
 refine F.dfn hm hb a2b (by intro ts M Q h;unfold a2D at h;first | (split at h<;>first | rfl | exact h.elim) | (obtain⟨_,_,_,_,_,rfl,_⟩:=h;rfl) | (obtain⟨_,_,_,_,rfl,_⟩:=h;rfl) | (obtain⟨_,_,_,rfl,_⟩:=h;rfl) | (obtain⟨_,_,rfl,_⟩:=h;rfl) | (obtain⟨_,rfl,_⟩:=h;rfl)) ⟨_,fun cdv A outer s H E hr=>(@a0d _ _ _ _ _ (@a0W _ _ _ _ 1 _ _ (@a0o _ _ _ _ _ _ _ _ _ _ D_table_of hr (@a0b _ _ _ _ _ (@hv _ 0 _ _ (by rfl) (by walk_at "3") (by decide) (by decide)) a0h (by rfl)) (by rfl) (by decide) (by rfl) (by rfl)) a2b.nd (by rfl) (by walk_at "2") (by rfl) (by walk_at "4")) (@a0d _ _ _ _ _ (@a0W _ _ _ _ 2 _ _ (@a8I _ _ _ _ _ _ _ _ Z.b_list Z.b_range (@a0b _ _ _ _ _ a0g (@a0b _ _ _ _ _ (@h_ix _ _ _ _ _ _ (@hv _ 0 _ _ (by rfl) (by walk_at "3") (by decide) (by decide)) a0g (by intro _ _;rfl)) a0h (by rfl)) (by rfl)) (by rfl) (by rfl) (by rfl) (by rfl) (by rfl) (by rfl)) a2b.nd (by rfl) (by walk_at "2") (by rfl) (by walk_at "4")) (@a0d _ _ _ _ _ (@a0W _ _ _ _ 3 _ _ (@a6o _ _ _ _ a0h) a2b.nd (by rfl) (by walk_at "2") (by rfl) (by walk_at "4")) (@a0d _ _ _ _ _ (@a4P _ _ _ _ _ _ _ _ PassesOwn.never rfl (@a3d _ _ _ _ (@hv _ 2 _ _ (by rfl) (by walk_at "3") (by decide) (by decide))) (@a2u _ _ 4 _ a2b.nd (by rfl) (by walk_at "2") (by walk_at "4")) (@a0i _ _ _ (@b0s _ _ _ _ (@a6J _ _ _ _ _ _ _ _ (@hv _ 3 _ _ (by rfl) (by walk_at "3") (by decide) (by decide)) (@a0b _ _ _ _ _ (@a2h _ _ _ _ _ _ _ _ _ _ _ _ _ _ rfl (@a3d _ _ _ _ (@hv _ 2 _ _ (by rfl) (by walk_at "3") (by decide) (by decide))) (@a0w _ (a0a a1B) _ (["plait","table","places","rows","row"]) (["column","row","table"]) ([none,some 4,some 1]) (by decide +kernel) rfl rfl) a1o (fun _ _ _ _ _=>@a0z _ _ 0 _ (show List.Nodup (["column","row","table"]:List Str) by decide +kernel) rfl (Or.inl rfl) (Or.inr rfl)) (fun _ _ _ _ _=>a1Q) (fun _ _ _ _ _=>(@a0o _ _ _ _ _ _ _ _ _ _ D_added hr (@a0b _ _ _ _ _ (@a0o _ _ _ _ _ _ _ _ _ _ D_one_where_same hr (@a0b _ _ _ _ _ (@hv _ 1 _ _ (by rfl) (by walk_at "3") (by decide) (by decide)) (@a0b _ _ _ _ _ (@hv _ 0 _ _ (by rfl) (by walk_at "3") (by decide) (by decide)) a0h (by rfl)) (by rfl)) (by rfl) (by decide) (by rfl) (by rfl)) (@a0b _ _ _ _ _ (@a0o _ _ _ _ _ _ _ _ _ _ D_multiplied hr (@a0b _ _ _ _ _ (@h_ix _ _ _ _ _ _ (@h_ix _ _ _ _ _ _ (@hv _ 2 _ _ (by rfl) (by walk_at "3") (by decide) (by decide)) (@hv _ 1 _ _ (by rfl) (by walk_at "3") (by decide) (by decide)) (by intro _ _;rfl)) (@hv _ 0 _ _ (by rfl) (by walk_at "3") (by decide) (by decide)) (by intro _ _;rfl)) (@a0b _ _ _ _ _ (@a2A _ _ _ _ _ c_LESS_ONE (by rfl) (by decide)) a0h (by rfl)) (by rfl)) (by rfl) (by decide) (by rfl) (by rfl)) a0h (by rfl)) (by rfl)) (by rfl) (by decide) (by rfl) (by rfl))) (by intro _;rfl)) a0h (by rfl)) (by rfl) (by rfl) (by rfl) (by rfl) (by rfl)) (by rfl))) (by intro _;rfl)) (@a0i _ _ _ (@a1q _ _ _ _ (@a0o _ _ _ _ _ _ _ _ _ _ D_from_nought hr (@a0b _ _ _ _ _ (@a0o _ _ _ _ _ _ _ _ _ _ D_determinant hr (@a0b _ _ _ _ _ (@hv _ 3 _ _ (by rfl) (by walk_at "3") (by decide) (by decide)) a0h (by rfl)) (by rfl) (by decide) (by rfl) (by rfl)) a0h (by rfl)) (by rfl) (by decide) (by rfl) (by rfl)))))))),fun ts M Q h=>?_⟩
 unfold a2D at h
 split at h
 ·rename_i n w
  obtain⟨ws,rfl,ok,hsm,h⟩:=h
  refine a0E fun K1 hK1=>?_
  walk_at "rd"
  refine⟨ws,rfl,ok,fun r as M1 hr hS1 hr1 hR1 hF1 _=>?_⟩
  show K1 _ _
  obtain⟨o1,o2,o3,o4⟩:=id ok
  have hG:=a1y (n:=n) o4
  have hpow:3 ^ ws.length < 2 ^ 59:=Nat.lt_of_le_of_lt (Nat.pow_le_pow_right (by decide) o3) (by decide)
  have hlT:(a2z n ws).length=n.toNat - 1:=by unfold a2z;rw[List.length_map,List.length_range]
  rw[hK1];clear hK1
  refine a5r fun K2 hK2=>?_
  walk_at "rd"
  obtain⟨m,hm⟩:∃ m:Nat,n=(m:Int)+1:=⟨n.toNat - 1,by lia⟩
  have hmn:n.toNat=m+1:=by lia
  have hm1:n.toNat - 1=m:=by lia
  rw[show (n - 1).toNat=m by lia]
  refine⟨⟨by decide,by decide,by lia,by lia,by lia⟩,fun p hp v hv=>?_⟩
  have hSp:=Sub.new hp (o:=MO.lst (a0J 1 m))
  have hMp0:(updM M1 p (MO.lst (a0J 1 m))) p=some (.lst (a0J 1 m)):=a0c
  generalize updM M1 p (MO.lst (a0J 1 m))=M2 at hSp hMp0 hv⊢
  have hSv:=Sub.new hv (o:=MO.lst [])
  have hMv:(updM M2 v (MO.lst [])) v=some (.lst (([]:List Addr).map T.adr)):=a0c
  have hMp:=hSv _ _ hMp0
  have hr3:=hSv _ _ (hSp _ _ hr1)
  have hR3:=(hR1.sub hSp).sub hSv
  have hvM:M v=none:=a3G (hS1.trans hSp) hv
  have hpv:p≠v:=fun z=>by rw[z,hv] at hMp0;cases hMp0
  have hrv:r≠v:=fun z=>by rw[z] at hr1;rw[hSp _ _ hr1] at hv;cases hv
  have has:as.length=n.toNat:=hR1.1.trans hG.1
  have hav:∀ a∈as,a≠v:=fun a ha z=>by
   obtain⟨j,hj⟩:=List.getElem?_of_mem ha
   obtain⟨l,el⟩:∃ l,(tabP n ws)[j]?=some l:=⟨_,List.getElem?_eq_getElem (by rw[← hR1.1];exact (List.getElem?_eq_some_iff.mp hj).1)⟩
   rw[← z,(hR1.sub hSp).2 j a l hj el] at hv;cases hv
  have hS3:=(hS1.trans hSp).trans hSv
  generalize updM M2 v (MO.lst [])=M3 at hMv hMp hr3 hR3 hS3⊢
  clear hSp hMp0 hSv hv hp hS1 hr1 hR1 hF1 hr
  have hsd:∀ i,i < m→(a2z n ws)[i]?=some ((List.range m).map fun c=>addP (oneP ((i+1:Nat):Int) ((c+1:Nat):Int)) (a0X (((tabP n ws).getD (i+1) []).getD (c+1) []) [(0,-1)])):=fun i hi=>by
   unfold a2z
   rw[hm1,List.getElem?_map,List.getElem?_range hi];rfl
  refine a2m fun B hB=>?_
  unfold a4d
  walk_at "rd"
  rw[hMp]
  dsimp only
  refine⟨fun i ρ M'=>(∃ (bs:List Addr) (x4:Option T),ρ=[some (T.tup [T.int n,T.tup (ws.map T.int)]),some (T.adr r),some (T.adr p),some (T.adr v),x4]∧M' v=some (.lst (bs.map T.adr))∧a2x M' bs ((a2z n ws).take i)∧∀ b∈bs,b≠v)∧M' p=some (.lst (a0J 1 m))∧M' r=some (.lst (as.map T.adr))∧a2x M' as (tabP n ws)∧Sub M M',⟨⟨[],_,rfl,hMv,a2x.nil,fun _ z=>absurd z List.not_mem_nil⟩,hMp,hr3,hR3,hS3⟩,fun _ _ _ z=>z.2.1,?_,?_⟩
  ·rintro i x ρ M' hx ⟨⟨bs,x4,rfl,hv4,hB4,hbv⟩,hp4,hr4,hR4,hS4⟩
   obtain⟨hi,rfl⟩:=a6w hx
   obtain⟨a,ha⟩:∃ a,as[i+1]?=some a:=⟨_,List.getElem?_eq_getElem (by lia)⟩
   obtain⟨ps,eps⟩:∃ ps,(tabP n ws)[i+1]?=some ps:=⟨_,List.getElem?_eq_getElem (by rw[hG.1];lia)⟩
   have hMa:=hR4.2 (i+1) a ps ha eps
   obtain⟨g1,g2⟩:=hG.2 ps (List.mem_of_getElem? eps)
   have egd:(tabP n ws).getD (i+1) []=ps:=by rw[List.getD_eq_getElem?_getD,eps];rfl
   have hsdi:=hsd i hi
   rw[egd] at hsdi
   rw[hB];clear hB
   walk_at "rd"
   rw[hv4,hp4]
   refine⟨trivial,?_⟩
   dsimp only
   refine⟨fun j zs M5=>zs=((List.range j).map fun c=>addP (oneP ((i+1:Nat):Int) ((c+1:Nat):Int)) (a0X (ps.getD (c+1) []) [(0,-1)])).map poT∧M5=M',⟨rfl,rfl⟩,?_,by rw[a0e];exact a0t (by lia),?_,?_⟩
   ·rintro j zs M5 ⟨_,rfl⟩
    exact hp4
   ·rintro j y zs M5 hy ⟨rfl,rfl⟩
    obtain⟨hj,rfl⟩:=a6w hy
    have e1:atI (as.map T.adr) (1+(i:Int))=some (.adr a):=by
     rw[show 1+(i:Int)=((i+1:Nat):Int) by lia]
     exact a0N (by rw[List.getElem?_map,ha];rfl)
    have e2:atI (ps.map poT) (1+(j:Int))=some (poT (ps.getD (j+1) [])):=by
     rw[show 1+(j:Int)=((j+1:Nat):Int) by lia]
     exact a0N (by rw[List.getElem?_map,List.getD_eq_getElem?_getD,List.getElem?_eq_getElem (by lia:j+1 < ps.length)];rfl)
    dsimp only[a0P]
    rw[hr4]
    dsimp only
    rw[e1]
    dsimp only
    rw[hMa]
    dsimp only
    rw[e2]
    dsimp only
    have gj:=a4E g2 (i:=j+1) (by lia)
    refine a4z (q:=[(0,-1)]) (b:=0) (C:=1) gj ⟨⟨by decide,by decide⟩,by unfold PwB;decide,by decide⟩ (by lia) (by lia) ?_
    refine a7W (a:=ws.length+0) ((a7J _ _).mono (by lia) (Nat.le_refl _)) (gj.mul (q:=[(0,-1)]) (b:=0) (C:=1) ⟨⟨by decide,by decide⟩,by unfold PwB;decide,by decide⟩) (by lia) ?_
    refine⟨?_,rfl⟩
    rw[List.range_succ,List.map_append,List.map_append,show 1+(i:Int)=((i+1:Nat):Int) by lia,show 1+(j:Int)=((j+1:Nat):Int) by lia];rfl
   ·rintro zs M5 ⟨rfl,rfl⟩ c hc
    rw[a0e]
    generalize hrow:((List.range m).map fun c=>addP (oneP ((i+1:Nat):Int) ((c+1:Nat):Int)) (a0X (ps.getD (c+1) []) [(0,-1)]))=row at hsdi⊢
    have hSc:=Sub.new hc (o:=MO.lst (row.map poT))
    have hcv:c≠v:=fun z=>by rw[z,hv4] at hc;cases hc
    have h6v:=hSc _ _ hv4
    have h6p:=hSc _ _ hp4
    have h6r:=hSc _ _ hr4
    have h6R:=hR4.sub hSc
    have h6B:=hB4.sub hSc
    have h6c:(updM M5 c (MO.lst (row.map poT))) c=some (.lst (row.map poT)):=a0c
    have hS6:=hS4.trans hSc
    generalize updM M5 c (MO.lst (row.map poT))=M6 at h6v h6p h6r h6R h6B h6c hS6⊢
    rw[h6v]
    dsimp only
    have keepv:∀ {xs:List Addr} {rs:List (List Po)} {o:MO},a2x M6 xs rs→(∀ x∈xs,x≠v)→a2x (updM M6 v o) xs rs:=fun {xs rs o} hx hn=>⟨hx.1,fun q a l q1 q2=>by rw[a0n (hn a (List.mem_of_getElem? q1))];exact hx.2 q a l q1 q2⟩
    have htk:(a2z n ws).take (i+1)=(a2z n ws).take i++[row]:=by rw[List.take_add_one,hsdi];rfl
    have hbl:bs.length=i:=by rw[h6B.1,List.length_take,hlT];lia
    refine⟨by rw[List.length_map];exact a0t (by lia),⟨bs++[c],_,rfl,by rw[List.map_append];rfl,?_,fun b hb=>?_⟩,?_,?_,?_,hS6.updF hvM⟩
    ·rw[htk]
     exact (keepv h6B hbv).snoc (by rw[a0n hcv];exact h6c)
    ·rcases List.mem_append.mp hb with z | z
     ·exact hbv b z
     ·rw[List.mem_singleton.mp z];exact hcv
    ·rw[a0n hpv];exact h6p
    ·rw[a0n hrv];exact h6r
    ·exact keepv h6R hav
  ·rintro ρ M' ⟨⟨bs,x4,rfl,hv4,hB4,hbv⟩,hp4,hr4,hR4,hS4⟩
   rw[a0e] at hB4
   rw[show (a2z n ws).take m=a2z n ws from List.take_of_length_le (by lia)] at hB4
   rw[hK2];clear hK2
   walk_at "rd"
   have hsd:=a8h ok hsm
   rw[hm1] at hsd
   have hGl:b0g m (nD ws) (nU ws) (a2z n ws):=hm1▸a5N ok
   have hlm:(a2z n ws).length=m:=by rw[hlT,hm1]
   refine b0X (a:=nD ws) (b:=nU ws) hv4 hB4 (by rw[hlm];lia) (by rw[hlm];lia) (by rw[hlm];exact hGl) (by rw[hlm,Nat.mul_add];exact hsd.2) ?_
   rw[hlm]
   refine⟨_,_,_,rfl,hsd.1,hsd.2,?_⟩
   unfold a5d at h
   rw[hmn] at h
   exact a1K h hS4
 ·exact h.elim
noncomputable def a1p:Sp3:=fun ts M Q=>match ts with
 | [.tup [.int n,.tup w]]=>∃ ws:List Int,w=ws.map .int∧PlOK n ws∧a9h n ws∧Q (.int (a4J (a5d n ws))) M
 | _=>False
theorem a5m {P:Program} {w:World} {K:PySem.W.Frag} {mg:Str→Option Value} {base:Heap} {f:Addr} {fd:FuncData} {n:Nat}  (F:Fun K "closed_weight" "closed_weight" a0Q f fd) (hm:mg "closed_weight"=some (.ref f)) (hb:a1x K fd ["plait"] []) (Z:Zs K mg) (D_closed_sum:Df P w K mg base n "closed_sum" ["plait"] a2D):Df P w K mg base (n+1) "closed_weight" ["plait"] a1p:=by
 refine F.dfn hm hb a5j (by intro ts M Q h;unfold a1p at h;first | (split at h<;>first | rfl | exact h.elim) | (obtain⟨_,_,_,_,_,rfl,_⟩:=h;rfl) | (obtain⟨_,_,_,_,rfl,_⟩:=h;rfl) | (obtain⟨_,_,_,rfl,_⟩:=h;rfl) | (obtain⟨_,_,rfl,_⟩:=h;rfl) | (obtain⟨_,rfl,_⟩:=h;rfl)) ⟨_,fun cdv A outer s H E hr=>(@a0i _ _ _ (@a1q _ _ _ _ (@a1M _ _ _ _ _ _ _ _ _ a3N Z.b_abs PyProof.Rows.boot_abs (@a0b _ _ _ _ _ (@a1M _ _ _ _ _ _ _ _ _ (@b3E _ rfl) Z.b_sum PyProof.Rows.boot_sum (@a0b _ _ _ _ _ (@a2h _ _ _ _ _ _ _ _ _ _ _ _ _ _ rfl (@a3d _ _ _ _ (@a0o _ _ _ _ _ _ _ _ _ _ D_closed_sum hr (@a0b _ _ _ _ _ (@hv _ 0 _ _ (by rfl) (by walk_at "3") (by decide) (by decide)) a0h (by rfl)) (by rfl) (by decide) (by rfl) (by rfl))) (@a0w _ (a0a a0Q) _ ["plait"] (["power","count"]) ([none,none]) (by decide +kernel) rfl rfl) a5e (fun _ _ _ _ _=>a5F rfl (@a1J _ _ _ _ _ (@a0z _ _ 0 _ (show List.Nodup (["power","count"]:List Str) by decide +kernel) rfl (Or.inl rfl) (Or.inr rfl)) (@a1J _ _ _ _ _ (@a0z _ _ 1 _ (show List.Nodup (["power","count"]:List Str) by decide +kernel) rfl (Or.inl rfl) (Or.inr rfl)) a4k (by rfl)) (by rfl))) (fun _ _ _ _ _=>a1Q) (fun _ _ _ _ _=>(@b7d _ _ _ _ _ _ _ _ (@a2f _ _ _ _ _ _ _ _ (@a4f _ hr.units) (@a0v _ _ _ _ _ _ _ _ a1L (@hv _ 0 _ _ (by rfl) (by walk_at "3") (by decide) (by decide)) a0g) a0g (@a1k _ _ (by decide) (by decide))) (@hv _ 1 _ _ (by rfl) (by walk_at "3") (by decide) (by decide)) (@h_un _ _ _ _ _ _ a6Z (@hv _ 1 _ _ (by rfl) (by walk_at "3") (by decide) (by decide))))) (by intro _;rfl)) a0h (by rfl)) (by rfl) (by decide) (by decide) (by rfl) (by rfl)) a0h (by rfl)) (by rfl) (by decide) (by decide) (by rfl) (by rfl)))),fun ts M Q h=>?_⟩
 unfold a1p at h
 split at h
 ·rename_i n w
  obtain⟨ws,rfl,ok,hsm,h⟩:=h
  walk_at "rd"
  have hlen:(a5d n ws).length < 10000:=by have:=b1O ok hsm;lia
  refine⟨ws,rfl,ok,hsm,?_⟩
  unfold a4J at h
  generalize a5d n ws=p at h hlen⊢
  unfold poT
  dsimp only
  refine⟨fun i ys M'=>ys=((p.take i).map wtI).map T.int∧M'=M,⟨rfl,rfl⟩,fun _ _ _ _=>trivial,by rw[List.length_map];exact a0t hlen,?_,?_⟩
  ·rintro i x ys M' hx ⟨rfl,rfl⟩
   obtain⟨⟨y1,y2⟩,hx2,rfl⟩:∃ y,p[i]?=some y∧prT y=x:=by
    rw[List.getElem?_map] at hx
    exact Option.map_eq_some_iff.mp hx
   rw[show prT (y1,y2)=T.tup [T.int y1,T.int y2] from rfl]
   dsimp only
   refine⟨rfl,rfl,by decide,?_⟩
   have ht:=a1V wtI hx2
   have hw:wtI (y1,y2)=if y1 % 2=0 then y2 else -y2:=rfl
   refine ite2 (fun c=>?_) (fun c=>?_)
   ·rw[if_pos c] at hw
    refine⟨?_,rfl⟩
    rw[← ht,List.map_append,hw];rfl
   ·rw[if_neg c] at hw
    refine⟨?_,rfl⟩
    rw[← ht,List.map_append,hw];rfl
  ·rintro ys M' ⟨rfl,rfl⟩ q hq
   rw[List.length_map,List.take_length,a5U]
   exact a1K h (Sub.new hq)
 ·exact h.elim
noncomputable def oddP (p:Int):Bool:=decide (3≤p) && decide (p≤97) && ((List.range (p - 2).toNat).all fun i=>decide (p % (2+(i:Nat))≠0))
noncomputable def a1W:Sp3:=fun ts M Q=>match ts with
 | [.int p]=>Q (.bl (oddP p)) M
 | _=>False
theorem a5H {P:Program} {w:World} {K:PySem.W.Frag} {mg:Str→Option Value} {base:Heap} {f:Addr} {fd:FuncData} {n:Nat}  (F:Fun K "is_odd_prime" "is_odd_prime" a1f f fd) (hm:mg "is_odd_prime"=some (.ref f)) (hb:a1x K fd ["number"] []) (Z:Zs K mg) :Df P w K mg base (n+1) "is_odd_prime" ["number"] a1W:=by
 obtain⟨tk_MOST_PRIME,c_MOST_PRIME⟩:=Z.c_MOST_PRIME
 refine F.dfn hm hb a5z (by intro ts M Q h;unfold a1W at h;first | (split at h<;>first | rfl | exact h.elim) | (obtain⟨_,_,_,_,_,rfl,_⟩:=h;rfl) | (obtain⟨_,_,_,_,rfl,_⟩:=h;rfl) | (obtain⟨_,_,_,rfl,_⟩:=h;rfl) | (obtain⟨_,_,rfl,_⟩:=h;rfl) | (obtain⟨_,rfl,_⟩:=h;rfl)) ⟨_,fun cdv A outer s H E hr=>(@a0d _ _ _ _ _ (@s_if _ _ _ _ _ _ _ _ (@a9M _ _ _ _ (@b0K _ _ _ _ _ _ _ _ _ _ _ _ a8q a8q a0g (@hv _ 0 _ _ (by rfl) (by walk_at "3") (by decide) (by decide)) (@a9N _ _ _ _ _ c_MOST_PRIME (by rfl) (by decide)) (by with_unfolding_all rfl))) (@a0i _ _ _ (@a1q _ _ _ _ h_bl)) a2U) (@a0i _ _ _ (@a1q _ _ _ _ (@a1M _ _ _ _ _ _ _ _ _ (@a9b _ rfl) Z.b_all PyProof.Rows.boot_all (@a0b _ _ _ _ _ (@a2h _ _ _ _ _ _ _ _ _ _ _ _ _ _ rfl (@b4P _ _ _ _ _ _ _ Z.b_range (@a0b _ _ _ _ _ a0g (@a0b _ _ _ _ _ (@hv _ 0 _ _ (by rfl) (by walk_at "3") (by decide) (by decide)) a0h (by rfl)) (by rfl)) (by rfl) (by rfl) (by rfl)) (@a0w _ (a0a a1f) _ ["number"] (["other","number"]) ([none,some 0]) (by decide +kernel) rfl rfl) a1o (fun _ _ _ _ _=>@a0z _ _ 0 _ (show List.Nodup (["other","number"]:List Str) by decide +kernel) rfl (Or.inl rfl) (Or.inr rfl)) (fun _ _ _ _ _=>a1Q) (fun _ _ _ _ _=>(@a9P _ _ _ _ _ _ _ _ (@a6A _ hr.units) (@a0v _ _ _ _ _ _ _ _ a1L (@hv _ 1 _ _ (by rfl) (by walk_at "3") (by decide) (by decide)) (@hv _ 0 _ _ (by rfl) (by walk_at "3") (by decide) (by decide))) a0g (@a1k _ _ (by decide) (by decide)))) (by intro _;rfl)) a0h (by rfl)) (by rfl) (by decide) (by decide) (by rfl) (by rfl))))),fun ts M Q h=>?_⟩
 unfold a1W at h
 split at h
 ·rename_i p
  unfold oddP at h
  walk_at "rd"
  refine ite2 (fun c1=>ite2 (fun c2=>?_) (fun c2=>?_)) (fun c1=>?_)
  ·rw[decide_eq_false c2,Bool.and_false,Bool.false_and] at h
   exact a0y h
  ·rw[decide_eq_true c1,decide_eq_true (show p≤97 by lia)] at h
   refine⟨⟨by decide,by decide,by lia,by lia⟩,fun i ys M'=>ys=((List.range i).map fun i:Nat=>decide (p % (2+(i:Int))≠0)).map T.bl∧M'=M,⟨rfl,rfl⟩,fun _ _ _ _=>trivial,by rw[a0e];exact a0t (by lia),?_,?_⟩
   ·rintro i x ys M' hx ⟨rfl,rfl⟩
    have hl:=(List.getElem?_eq_some_iff.mp hx).1
    rw[a0e] at hl
    unfold a0J at hx
    rw[List.getElem?_map,List.getElem?_range hl] at hx
    obtain rfl:=(Option.some.inj hx).symm
    refine⟨by lia,?_,rfl⟩
    rw[List.range_succ,List.map_append,List.map_append,← decide_not];rfl
   ·rintro ys M' ⟨rfl,rfl⟩ q hq
    rw[a0e,a6h]
    dsimp only
    refine a1K (M0:=M') ?_ (Sub.new hq)
    rw[List.all_map]
    exact h
  ·rw[decide_eq_false c1,Bool.false_and,Bool.false_and] at h
   exact a0y h
 ·exact h.elim
noncomputable def twL (a b:List Int):List Int:=List.zipWith (fun x y=>2*x - y) a b
theorem b5S {a b:List Int} {i:Nat} {x y:Int} (hx:a[i]?=some x) (hy:b[i]?=some y):(twL a b)[i]?=some (2*x - y):=by
 unfold twL
 rw[List.getElem?_zipWith,hx,hy]
theorem a0D {α:Type} {L:List α} {i:Nat} {x:α} (h:L[i]?=some x):L.take i++[x]=L.take (i+1):=by
 rw[List.take_add_one,h];rfl
noncomputable def a2C:Sp3:=fun ts M Q=>match ts with
 | [.adr p,.adr q]=>∃ (a b:List Int),M p=some (.lst (a.map .int))∧M q=some (.lst (b.map .int))∧a.length=b.length∧a.length≤6∧∀ r,M r=none→Q (.adr r) (updM M r (.lst ((twL a b).map .int)))
 | _=>False
theorem a7r {P:Program} {w:World} {K:PySem.W.Frag} {mg:Str→Option Value} {base:Heap} {f:Addr} {fd:FuncData} {n:Nat}  (F:Fun K "twice_less" "twice_less" a1A f fd) (hm:mg "twice_less"=some (.ref f)) (hb:a1x K fd ["row","other"] []) (Z:Zs K mg) :Df P w K mg base (n+1) "twice_less" ["row","other"] a2C:=by
 refine F.dfn hm hb a7g (by intro ts M Q h;unfold a2C at h;first | (split at h<;>first | rfl | exact h.elim) | (obtain⟨_,_,_,_,_,rfl,_⟩:=h;rfl) | (obtain⟨_,_,_,_,rfl,_⟩:=h;rfl) | (obtain⟨_,_,_,rfl,_⟩:=h;rfl) | (obtain⟨_,_,rfl,_⟩:=h;rfl) | (obtain⟨_,rfl,_⟩:=h;rfl)) ⟨_,fun cdv A outer s H E hr=>(@a0i _ _ _ (@a1q _ _ _ _ (@a2h _ _ _ _ _ _ _ _ _ _ _ _ _ _ rfl (@b2Q _ _ _ _ _ _ _ _ _ Z.b_zip (@a0b _ _ _ _ _ (@hv _ 0 _ _ (by rfl) (by walk_at "3") (by decide) (by decide)) (@a0b _ _ _ _ _ (@hv _ 1 _ _ (by rfl) (by walk_at "3") (by decide) (by decide)) a0h (by rfl)) (by rfl)) (by rfl) (by rfl) (by rfl)) (@a0w _ (a0a a1A) _ (["row","other"]) (["here","there"]) ([none,none]) (by decide +kernel) rfl rfl) a5e (fun _ _ _ _ _=>a5F rfl (@a1J _ _ _ _ _ (@a0z _ _ 0 _ (show List.Nodup (["here","there"]:List Str) by decide +kernel) rfl (Or.inl rfl) (Or.inr rfl)) (@a1J _ _ _ _ _ (@a0z _ _ 1 _ (show List.Nodup (["here","there"]:List Str) by decide +kernel) rfl (Or.inl rfl) (Or.inr rfl)) a4k (by rfl)) (by rfl))) (fun _ _ _ _ _=>a1Q) (fun _ _ _ _ _=>(@a0v _ _ _ _ _ _ _ _ a2l (@a0v _ _ _ _ _ _ _ _ a2d a0g (@hv _ 0 _ _ (by rfl) (by walk_at "3") (by decide) (by decide))) (@hv _ 1 _ _ (by rfl) (by walk_at "3") (by decide) (by decide)))) (by intro _;rfl)))),fun ts M Q h=>?_⟩
 unfold a2C at h
 split at h
 ·rename_i p q
  obtain⟨a,b,hp,hq,hl,h6,h⟩:=h
  walk_at "rd"
  rw[hp,hq]
  dsimp only
  refine⟨by rw[List.length_map,List.length_map,hl],fun i ys M'=>ys=((twL a b).take i).map T.int∧M'=M,⟨rfl,rfl⟩,?_,by rw[a4i (by rw[List.length_map,List.length_map,hl]),List.length_map];exact a0t (by lia),?_,?_⟩
  ·rintro i ys M' ⟨_,rfl⟩
   exact⟨hp,hq⟩
  ·rintro i x ys M' hx ⟨rfl,rfl⟩
   obtain⟨t,u,ht,hu,rfl⟩:=a4H hx
   obtain⟨x,hx2,rfl⟩:=a0q ht
   obtain⟨y,hy2,rfl⟩:=a0q hu
   walk_at "rd"
   refine⟨by unfold CMul;exact .inl (by decide),?_⟩
   rw[← a0D (b5S hx2 hy2),List.map_append];rfl
  ·rintro ys M' ⟨rfl,rfl⟩ r hr
   rw[a4i (by rw[List.length_map,List.length_map,hl]),List.length_map,List.take_of_length_le (by unfold twL;rw[List.length_zipWith];exact Nat.min_le_left _ _)]
   exact a0y (h r hr)
 ·exact h.elim
noncomputable def Fr (M:MH) (as:List Addr):Prop:=∀ a∈as,M a=none
theorem Fr.set {M:MH} {as:List Addr} {j:Nat} {x:Addr} (h:Fr M as) (hx:M x=none):Fr M (as.set j x):=fun b hb=>by
 rcases List.mem_or_eq_of_mem_set hb with z | rfl
 ·exact h b z
 ·exact hx
theorem Sub.none {M M':MH} {q:Addr} (s:Sub M M') (h:M' q=none):M q=none:=by
 cases e:M q with
 | none=>rfl
 | some o=>rw[s _ _ e] at h;cases h
theorem a3V {α:Type} {as:List α} {j k:Nat} {x y r:α} (h:r ∉ as) (hx:x≠r) (hy:y≠r):r ∉ (as.set j x).set k y:=fun z=>by
 rcases List.mem_or_eq_of_mem_set z with z | z
 ·rcases List.mem_or_eq_of_mem_set z with z | z
  ·exact h z
  ·exact hx z.symm
 ·exact hy z.symm
theorem a9G {α:Type} {as:List α} {p:α} (h:as.Nodup) (hp:p ∉ as):(as++[p]).Nodup:=List.nodup_append.mpr ⟨h,List.pairwise_singleton _ _,fun a ha b hb e=>by rw[List.mem_singleton.mp hb] at e;exact hp (by rw[← e];exact ha)⟩
noncomputable def a1O:Sp3:=fun ts M Q=>match ts with
 | [.tup [.int n,.tup w]]=>∃ ws:List Int,w=ws.map .int∧PlOK n ws∧∀ r as M',M r=none→Sub M M'→M' r=some (.lst (as.map T.adr))→a0C M' as (shL (unR n.toNat) ws)→as.Nodup→Fr M as→Q (.adr r) M'
 | _=>False
theorem a5k {P:Program} {w:World} {K:PySem.W.Frag} {mg:Str→Option Value} {base:Heap} {f:Addr} {fd:FuncData} {n:Nat}  (F:Fun K "shares_behind" "shares_behind" a0I f fd) (hm:mg "shares_behind"=some (.ref f)) (hb:a1x K fd ["plait"] []) (Z:Zs K mg) (D_twice_less:Df P w K mg base n "twice_less" ["row","other"] a2C):Df P w K mg base (n+1) "shares_behind" ["plait"] a1O:=by
 refine F.dfn hm hb a0Y (by intro ts M Q h;unfold a1O at h;first | (split at h<;>first | rfl | exact h.elim) | (obtain⟨_,_,_,_,_,rfl,_⟩:=h;rfl) | (obtain⟨_,_,_,_,rfl,_⟩:=h;rfl) | (obtain⟨_,_,_,rfl,_⟩:=h;rfl) | (obtain⟨_,_,rfl,_⟩:=h;rfl) | (obtain⟨_,rfl,_⟩:=h;rfl)) ⟨_,fun cdv A outer s H E hr=>(@a0d _ _ _ _ _ (@a0W _ _ _ _ 1 _ _ (@h_ix _ _ _ _ _ _ (@hv _ 0 _ _ (by rfl) (by walk_at "3") (by decide) (by decide)) a0g (by intro _ _;rfl)) a0Y.nd (by rfl) (by walk_at "2") (by rfl) (by walk_at "4")) (@a0d _ _ _ _ _ (@a5B _ _ _ _ _ _ _ _ _ _ _ _ _ _ 2 _ _ _ rfl (@a2q _ _ _ _ _ _ Z.b_range (@a0b _ _ _ _ _ (@hv _ 1 _ _ (by rfl) (by walk_at "3") (by decide) (by decide)) a0h (by rfl)) (by rfl) (by rfl)) (@a0w _ (a0a a0I) _ (["plait","strands","rows","letter","at","pair"]) (["place","strands"]) ([none,some 1]) (by decide +kernel) rfl rfl) a1o (fun _ _ _ _ _=>@a0z _ _ 0 _ (show List.Nodup (["place","strands"]:List Str) by decide +kernel) rfl (Or.inr rfl) (Or.inl rfl)) (fun _ _ _ _ _=>a1Q) (fun _ _ _ _ _=>(@a2h _ _ _ _ _ _ _ _ _ _ _ _ _ _ rfl (@a2q _ _ _ _ _ _ Z.b_range (@a0b _ _ _ _ _ (@hv _ 1 _ _ (by rfl) (by walk_at "3") (by decide) (by decide)) a0h (by rfl)) (by rfl) (by rfl)) (@a5f _ (a0a a0I) _ _ (["place","strands"]) (["other","place"]) _ ([none,some 0]) _ _ _ _ _ (by decide +kernel) rfl rfl) a1o (fun _ _ _ _ _=>@a0z _ _ 0 _ (show List.Nodup (["other","place"]:List Str) by decide +kernel) rfl (Or.inl rfl) (Or.inr rfl)) (fun _ _ _ _ _=>a1Q) (fun _ _ _ _ _=>(@a4X _ _ _ _ _ _ _ _ _ a6g Z.b_int PyProof.Rows.boot_int (@a0b _ _ _ _ _ (@a9P _ _ _ _ _ _ _ _ (@a4f _ hr.units) (@hv _ 1 _ _ (by rfl) (by walk_at "3") (by decide) (by decide)) (@hv _ 0 _ _ (by rfl) (by walk_at "3") (by decide) (by decide)) (@a1k _ _ (by decide) (by decide))) a0h (by rfl)) (by rfl) (by decide) (by decide) (by rfl) (by rfl))) (by intro _;rfl))) a0Y.nd (by rfl) (by walk_at "2") (by rfl) (by intro _;rfl) (by walk_at "4")) (@a0d _ _ _ _ _ (@a4P _ _ _ _ _ _ _ _ PassesOwn.never rfl (@a3d _ _ _ _ (@h_ix _ _ _ _ _ _ (@hv _ 0 _ _ (by rfl) (by walk_at "3") (by decide) (by decide)) a0g (by intro _ _;rfl))) (@a2u _ _ 3 _ a0Y.nd (by rfl) (by walk_at "2") (by walk_at "4")) (@a0d _ _ _ _ _ (@a0W _ _ _ _ 4 _ _ (@a0v _ _ _ _ _ _ _ _ a2l (@a1M _ _ _ _ _ _ _ _ _ a3N Z.b_abs PyProof.Rows.boot_abs (@a0b _ _ _ _ _ (@hv _ 3 _ _ (by rfl) (by walk_at "3") (by decide) (by decide)) a0h (by rfl)) (by rfl) (by decide) (by decide) (by rfl) (by rfl)) a0g) a0Y.nd (by rfl) (by walk_at "2") (by rfl) (by walk_at "4")) (@a0d _ _ _ _ _ (@a0W _ _ _ _ 5 _ _ (@a6o _ _ _ _ (@a0b _ _ _ _ _ (@h_ix _ _ _ _ _ _ (@hv _ 2 _ _ (by rfl) (by walk_at "3") (by decide) (by decide)) (@hv _ 4 _ _ (by rfl) (by walk_at "3") (by decide) (by decide)) (by intro _ _;rfl)) (@a0b _ _ _ _ _ (@h_ix _ _ _ _ _ _ (@hv _ 2 _ _ (by rfl) (by walk_at "3") (by decide) (by decide)) (@a0v _ _ _ _ _ _ _ _ a0M (@hv _ 4 _ _ (by rfl) (by walk_at "3") (by decide) (by decide)) a0g) (by intro _ _;rfl)) a0h (by rfl)) (by rfl))) a0Y.nd (by rfl) (by walk_at "2") (by rfl) (by walk_at "4")) (@a0i _ _ _ (@s_if _ _ _ _ _ _ _ _ (@a2f _ _ _ _ _ _ _ _ a6B (@hv _ 3 _ _ (by rfl) (by walk_at "3") (by decide) (by decide)) a0g (@a1k _ _ (by decide) (by decide))) (@a0d _ _ _ _ _ (@a5C _ _ _ _ _ _ (@h_ix _ _ _ _ _ _ (@hv _ 5 _ _ (by rfl) (by walk_at "3") (by decide) (by decide)) a0g (by intro _ _;rfl)) (@a5V _ _ _ _ _ _ (@hv _ 2 _ _ (by rfl) (by walk_at "3") (by decide) (by decide)) (@hv _ 4 _ _ (by rfl) (by walk_at "3") (by decide) (by decide)) (by intro _;rfl)) (by rfl) (by rfl) (by rfl)) (@a0i _ _ _ (@a5C _ _ _ _ _ _ (@a0o _ _ _ _ _ _ _ _ _ _ D_twice_less hr (@a0b _ _ _ _ _ (@h_ix _ _ _ _ _ _ (@hv _ 5 _ _ (by rfl) (by walk_at "3") (by decide) (by decide)) a0g (by intro _ _;rfl)) (@a0b _ _ _ _ _ (@h_ix _ _ _ _ _ _ (@hv _ 5 _ _ (by rfl) (by walk_at "3") (by decide) (by decide)) a0g (by intro _ _;rfl)) a0h (by rfl)) (by rfl)) (by rfl) (by decide) (by rfl) (by rfl)) (@a5V _ _ _ _ _ _ (@hv _ 2 _ _ (by rfl) (by walk_at "3") (by decide) (by decide)) (@a0v _ _ _ _ _ _ _ _ a0M (@hv _ 4 _ _ (by rfl) (by walk_at "3") (by decide) (by decide)) a0g) (by intro _;rfl)) (by rfl) (by rfl) (by rfl)))) (@a0d _ _ _ _ _ (@a5C _ _ _ _ _ _ (@a0o _ _ _ _ _ _ _ _ _ _ D_twice_less hr (@a0b _ _ _ _ _ (@h_ix _ _ _ _ _ _ (@hv _ 5 _ _ (by rfl) (by walk_at "3") (by decide) (by decide)) a0g (by intro _ _;rfl)) (@a0b _ _ _ _ _ (@h_ix _ _ _ _ _ _ (@hv _ 5 _ _ (by rfl) (by walk_at "3") (by decide) (by decide)) a0g (by intro _ _;rfl)) a0h (by rfl)) (by rfl)) (by rfl) (by decide) (by rfl) (by rfl)) (@a5V _ _ _ _ _ _ (@hv _ 2 _ _ (by rfl) (by walk_at "3") (by decide) (by decide)) (@hv _ 4 _ _ (by rfl) (by walk_at "3") (by decide) (by decide)) (by intro _;rfl)) (by rfl) (by rfl) (by rfl)) (@a0i _ _ _ (@a5C _ _ _ _ _ _ (@h_ix _ _ _ _ _ _ (@hv _ 5 _ _ (by rfl) (by walk_at "3") (by decide) (by decide)) a0g (by intro _ _;rfl)) (@a5V _ _ _ _ _ _ (@hv _ 2 _ _ (by rfl) (by walk_at "3") (by decide) (by decide)) (@a0v _ _ _ _ _ _ _ _ a0M (@hv _ 4 _ _ (by rfl) (by walk_at "3") (by decide) (by decide)) a0g) (by intro _;rfl)) (by rfl) (by rfl) (by rfl)))))))) (by intro _;rfl)) (@a0i _ _ _ (@a1q _ _ _ _ (@hv _ 2 _ _ (by rfl) (by walk_at "3") (by decide) (by decide))))))),fun ts M Q h=>?_⟩
 unfold a1O at h
 split at h
 ·rename_i n w
  obtain⟨ws,rfl,⟨n1,n6,hl,hw⟩,h⟩:=h
  have hwn:a0f (n.toNat:Nat) ws:=by rw[show ((n.toNat:Nat):Int)=n by lia];exact hw
  refine a3T fun K1 hK1=>?_
  walk_at "rd"
  refine⟨by lia,by lia,fun i ys M'=>(∃ as:List Addr,ys=as.map T.adr∧as.length=i∧Fr M as∧as.Nodup∧a0C M' as ((unR n.toNat).take i))∧Sub M M',⟨⟨[],rfl,rfl,fun _ z=>absurd z List.not_mem_nil,.nil,a0C.nil⟩,Sub.refl⟩,fun _ _ _ _=>trivial,by rw[a0e];exact a0t (by lia),?_,?_⟩
  ·rintro i x ys M' hx ⟨⟨as,rfl,hal,hfr,hnd,has⟩,hS⟩
   obtain⟨hi,rfl⟩:=a1n hx
   have hun:=b1S hi
   refine⟨by lia,by lia,fun j zs M2=>zs=(((List.range n.toNat).map fun j=>if i=j then (1:Int) else 0).take j).map T.int∧M2=M',⟨rfl,rfl⟩,fun _ _ _ _=>trivial,by rw[a0e];exact a0t (by lia),?_,?_⟩
   ·rintro j y zs M2 hy ⟨rfl,rfl⟩
    obtain⟨hj,rfl⟩:=a1n hy
    dsimp only
    refine⟨by rw[a3F],by rw[a3F],by rw[a2G];decide,?_⟩
    refine⟨?_,rfl⟩
    have ej:((List.range n.toNat).map fun j=>if i=j then (1:Int) else 0)[j]?=some (if i=j then 1 else 0):=by
     rw[List.getElem?_map,List.getElem?_range hj];rfl
    rw[← a0D ej,List.map_append,a3K]
    by_cases z:i=j
    ·rw[if_pos z,if_pos (decide_eq_true (by rw[z]))];rfl
    ·rw[if_neg z,if_neg (by rw[decide_eq_true_eq];lia)];rfl
   ·rintro zs M2 ⟨rfl,rfl⟩ p hp
    rw[a0e,List.take_of_length_le (by rw[List.length_map,List.length_range];exact Nat.le_refl _)]
    have hX:=Sub.new hp (o:=MO.lst (((List.range n.toNat).map fun j=>if i=j then (1:Int) else 0).map T.int))
    refine⟨⟨as++[p],by rw[List.map_append];rfl,by rw[List.length_append,hal];rfl,fun a ha=>?_,a9G hnd (has.fresh hp),?_⟩,hS.trans hX⟩
    ·rcases List.mem_append.mp ha with z | z
     ·exact hfr a z
     ·rw[List.mem_singleton.mp z];exact hS.none hp
    ·rw[← a0D hun]
     exact (has.sub hX).snoc a0c
  ·rintro ys M' ⟨⟨as,rfl,hal,hfr,hnd,has⟩,hS⟩ r hr
   rw[a0e,List.take_of_length_le (by rw[a9o];exact Nat.le_refl _)] at has
   have hX:=Sub.new hr (o:=MO.lst (as.map T.adr))
   have hr0:M r=none:=hS.none hr
   have hok:a0C (updM M' r (MO.lst (as.map T.adr))) as (shL (unR n.toNat) (ws.take 0)):=has.sub hX
   have hMr:(updM M' r (MO.lst (as.map T.adr))) r=some (.lst (as.map T.adr)):=a0c
   have hS1:=hS.trans hX
   generalize updM M' r (MO.lst (as.map T.adr))=M1 at hok hMr hS1⊢
   clear hX hr has hS
   rw[hK1];clear hK1
   refine a0E fun K2 hK2=>?_
   refine a2m fun B hB=>?_
   unfold a4d
   walk_at "rd"
   refine⟨fun i ρ M2=>(∃ x1 x2 x3,ρ=[some (T.tup [T.int n,T.tup (List.map T.int ws)]),some (T.int n),some (T.adr r),x1,x2,x3])∧(∃ as:List Addr,M2 r=some (.lst (as.map T.adr))∧a0C M2 as (shL (unR n.toNat) (ws.take i))∧as.Nodup∧Fr M as)∧Sub M M2,⟨⟨_,_,_,rfl⟩,⟨as,hMr,hok,hnd,hfr⟩,hS1⟩,fun _ _ _ _=>trivial,?_,?_⟩
   ·rintro i x ρ M2 hx ⟨⟨x1,x2,x3,rfl⟩,⟨as,hMr,hok,hnd,hfr⟩,hS⟩
    obtain⟨l,hx2,rfl⟩:=a0q hx
    obtain⟨hl1,hl2⟩:=hw l (List.mem_of_getElem? hx2)
    obtain⟨k,hk⟩:∃ k:Nat,l.natAbs=k+1:=⟨l.natAbs - 1,by lia⟩
    have hrb:=a6v (a6s n.toNat) (ws:=ws.take i) fun y hy=>hwn y (List.mem_of_mem_take hy)
    have hsn:shL (unR n.toNat) (ws.take (i+1))=sh1 (shL (unR n.toNat) (ws.take i)) l:=by rw[← a0D hx2,b0p]
    generalize shL (unR n.toNat) (ws.take i)=R at hok hrb hsn
    have hal:=hok.1.trans hrb.1
    obtain⟨a,ea⟩:∃ a,as[k]?=some a:=⟨_,List.getElem?_eq_getElem (by lia)⟩
    obtain⟨b,eb⟩:∃ b,as[k+1]?=some b:=⟨_,List.getElem?_eq_getElem (by lia)⟩
    have aa:atI (as.map T.adr) (k:Int)=some (.adr a):=a0N (by rw[List.getElem?_map,ea];rfl)
    have ab:atI (as.map T.adr) ((k:Int)+1)=some (.adr b):=by
     rw[show (k:Int)+1=((k+1:Nat):Int) by lia]
     exact a0N (by rw[List.getElem?_map,eb];rfl)
    rw[hB];clear hB
    refine a3T fun K3 hK3=>?_
    walk_at "rd"
    rw[hk,show ((k+1:Nat):Int) - 1=(k:Int) by lia,hMr]
    dsimp only
    rw[aa,ab]
    dsimp only
    refine⟨by decide,fun p hp=>?_⟩
    have hpr:p≠r:=fun z=>by rw[z,hMr] at hp;cases hp
    have hX:=Sub.new hp (o:=MO.lst [T.adr a,T.adr b])
    have hok2:=hok.sub hX
    have hMr2:=hX _ _ hMr
    have hMp:(updM M2 p (MO.lst [T.adr a,T.adr b])) p=some (.lst [T.adr a,T.adr b]):=a0c
    have hS2:=hS.trans hX
    generalize updM M2 p (MO.lst [T.adr a,T.adr b])=M3 at hok2 hMr2 hMp hS2⊢
    clear hX hp hok hMr hS
    obtain⟨ia,ra,ma⟩:=hok2.get ea
    obtain⟨ib,rb,mb⟩:=hok2.get eb
    obtain⟨la,ba⟩:=hrb.2 ia (List.mem_of_getElem? ra)
    obtain⟨lb,bb⟩:=hrb.2 ib (List.mem_of_getElem? rb)
    have esh:sh1 R l=if l > 0 then (R.set k ib).set (k+1) (tw2 ib ia) else (R.set k (tw2 ia ib)).set (k+1) ia:=by
     unfold sh1
     rw[hk,Nat.add_sub_cancel,List.getD_eq_getElem?_getD,List.getD_eq_getElem?_getD,ra,rb];rfl
    rw[hK3];clear hK3
    walk_at "rd"
    have hne:as≠[]:=fun z=>by rw[z] at ea;cases ea
    have hra:=hok2.ne hMr2 hne
    have har:a≠r:=fun z=>hra (by rw[← z];exact List.mem_of_getElem? ea)
    have hbr:b≠r:=fun z=>hra (by rw[← z];exact List.mem_of_getElem? eb)
    rw[hMp]
    dsimp only
    rw[b5k,a7V]
    dsimp only
    have hkl:((k:Nat):Int) < ((as.map T.adr).length:Nat):=by rw[List.length_map];lia
    have hkl2:((k:Nat):Int)+1 < ((as.map T.adr).length:Nat):=by rw[List.length_map];lia
    refine ite2 (fun c=>?_) (fun c=>?_)
    ·rw[hMr2]
     dsimp only
     rw[a3c (by lia) hkl]
     dsimp only
     rw[show ((k:Nat):Int).toNat=k by lia]
     have hok4:a0C (updM M3 r (.lst ((as.map T.adr).set k (.adr b)))) as R:=hok2.upd hra
     have mr2:(updM M3 r (.lst ((as.map T.adr).set k (.adr b)))) r=some (.lst ((as.map T.adr).set k (.adr b))):=a0c
     have hS4:Sub M (updM M3 r (.lst ((as.map T.adr).set k (.adr b)))):=hS2.updF hr0
     have ma2:updM M3 r (.lst ((as.map T.adr).set k (.adr b))) a=some (.lst (ia.map .int)):=by rw[a0n har];exact ma
     have mb2:updM M3 r (.lst ((as.map T.adr).set k (.adr b))) b=some (.lst (ib.map .int)):=by rw[a0n hbr];exact mb
     have hMp2:updM M3 r (.lst ((as.map T.adr).set k (.adr b))) p=some (.lst [T.adr a,T.adr b]):=by rw[a0n hpr];exact hMp
     rw[hMp2]
     dsimp only
     generalize updM M3 r (.lst ((as.map T.adr).set k (.adr b)))=M4 at mr2 hok4 hS4 ma2 mb2⊢
     rw[b5k,a7V]
     dsimp only
     refine⟨ib,ia,mb2,ma2,by rw[la,lb],by lia,fun q hq=>?_⟩
     have hqr:q≠r:=fun z=>by rw[z,mr2] at hq;cases hq
     have hqas:q ∉ as:=hok4.fresh hq
     dsimp only
     rw[a0n hqr.symm,mr2]
     dsimp only
     rw[a3c (by lia) (by rw[List.length_set,List.length_map];lia)]
     dsimp only
     rw[show ((k:Nat):Int)+1=((k+1:Nat):Int) by lia,show ((k+1:Nat):Int).toNat=k+1 by lia]
     have hX:=Sub.new hq (o:=.lst ((twL ib ia).map .int))
     have e2:((as.map T.adr).set k (T.adr b)).set (k+1) (T.adr q)=((as.set k b).set (k+1) q).map T.adr:=by rw[List.map_set,List.map_set]
     rw[esh,if_pos c] at hsn
     rw[e2]
     exact⟨⟨_,_,_,rfl⟩,⟨(as.set k b).set (k+1) q,rfl,by rw[hsn];exact a0C.upd (((hok4.sub hX).set (hX _ _ mb2)).set a0c) (a3V hra hbr hqr),a8v hnd eb hqas,(hfr.set (hfr b (List.mem_of_getElem? eb))).set (hS4.none hq)⟩,(hS4.newr hq).updF hr0⟩
    ·refine⟨ia,ib,ma,mb,by rw[la,lb],by lia,fun q hq=>?_⟩
     have hqr:q≠r:=fun z=>by rw[z,hMr2] at hq;cases hq
     have hpq:p≠q:=fun z=>by rw[← z,hMp] at hq;cases hq
     have hqas:q ∉ as:=hok2.fresh hq
     dsimp only
     rw[a0n hqr.symm,hMr2]
     dsimp only
     rw[a3c (by lia) hkl]
     dsimp only
     rw[show ((k:Nat):Int).toNat=k by lia]
     have hX:=Sub.new hq (o:=.lst ((twL ia ib).map .int))
     have hok4:=(hok2.sub hX).upd hra (o:=.lst ((as.map T.adr).set k (.adr q)))
     have hS4:=(hS2.newr hq (o:=.lst ((twL ia ib).map .int))).updF hr0 (o:=.lst ((as.map T.adr).set k (.adr q)))
     have haq:a≠q:=fun z=>by rw[← z,ma] at hq;cases hq
     have ma2:updM (updM M3 q (.lst ((twL ia ib).map .int))) r (.lst ((as.map T.adr).set k (.adr q))) a=some (.lst (ia.map .int)):=by rw[a0n har,a0n haq];exact ma
     have mq2:updM (updM M3 q (.lst ((twL ia ib).map .int))) r (.lst ((as.map T.adr).set k (.adr q))) q=some (.lst ((twL ia ib).map .int)):=by rw[a0n hqr,a0c]
     have mr2:updM (updM M3 q (.lst ((twL ia ib).map .int))) r (.lst ((as.map T.adr).set k (.adr q))) r=some (.lst ((as.map T.adr).set k (.adr q))):=a0c
     have hMp2:updM (updM M3 q (.lst ((twL ia ib).map .int))) r (.lst ((as.map T.adr).set k (.adr q))) p=some (.lst [T.adr a,T.adr b]):=by rw[a0n hpr,a0n hpq];exact hMp
     rw[hMp2]
     dsimp only
     generalize updM (updM M3 q (.lst ((twL ia ib).map .int))) r (.lst ((as.map T.adr).set k (.adr q)))=M4 at mr2 mq2 hok4 hS4 ma2⊢
     rw[a7V]
     dsimp only
     rw[a3c (by lia) (by rw[List.length_set,List.length_map];lia)]
     dsimp only
     rw[show ((k:Nat):Int)+1=((k+1:Nat):Int) by lia,show ((k+1:Nat):Int).toNat=k+1 by lia]
     have e2:((as.map T.adr).set k (T.adr q)).set (k+1) (T.adr a)=((as.set k q).set (k+1) a).map T.adr:=by rw[List.map_set,List.map_set]
     rw[esh,if_neg c] at hsn
     rw[e2]
     exact⟨⟨_,_,_,rfl⟩,⟨(as.set k q).set (k+1) a,rfl,by rw[hsn];exact a0C.upd (((hok2.sub hX).set a0c).set (hX _ _ ma)) (a3V hra hqr har),a8w hnd ea (by lia) hqas,(hfr.set (hS2.none hq)).set (hfr a (List.mem_of_getElem? ea))⟩,(hS2.newr hq).updF hr0⟩
   ·rintro ρ M2 ⟨⟨x1,x2,x3,rfl⟩,⟨as,hMr,hok,hnd,hfr⟩,hS⟩
    rw[hK2]
    walk_at "rd"
    first | rw[List.length_map,List.take_length] at hok | rw[List.take_length] at hok
    refine a0y (h r as M2 hr0 hS hMr hok hnd hfr)
 ·exact h.elim
noncomputable def a3R:Sp3:=fun ts M Q=>match ts with
 | [.adr p,.adr q,.int c,.int m]=>∃ (a b:List Int),M p=some (.lst (a.map .int))∧M q=some (.lst (b.map .int))∧a.length=b.length∧a.length≤6∧0≤c∧c < a.length∧0 < m∧m≤97∧(∀ x∈a,x.natAbs≤2 ^ 60)∧(∀ x∈b,x.natAbs≤2 ^ 60)∧∀ (r:Addr),M r=none→Q (.adr r) (updM M r (.lst ((clr m c.toNat a b).map .int)))
 | _=>False
theorem b5J {m:Int} {c i:Nat} {a b:List Int} {x y u v:Int} (hx:a[i]?=some x) (hy:b[i]?=some y) (hu:a[c]?=some u) (hv:b[c]?=some v):(clr m c a b)[i]?=some ((x*v - y*u) % m):=by
 unfold clr
 rw[List.getElem?_zipWith,hx,hy,List.getD_eq_getElem?_getD,List.getD_eq_getElem?_getD,hu,hv];rfl
theorem b1D {P:Program} {w:World} {K:PySem.W.Frag} {mg:Str→Option Value} {base:Heap} {f:Addr} {fd:FuncData} {n:Nat}  (F:Fun K "cleared" "cleared" a2N f fd) (hm:mg "cleared"=some (.ref f)) (hb:a1x K fd ["row","first","column","prime"] []) (Z:Zs K mg) :Df P w K mg base (n+1) "cleared" ["row","first","column","prime"] a3R:=by
 refine F.dfn hm hb b1t (by intro ts M Q h;unfold a3R at h;first | (split at h<;>first | rfl | exact h.elim) | (obtain⟨_,_,_,_,_,rfl,_⟩:=h;rfl) | (obtain⟨_,_,_,_,rfl,_⟩:=h;rfl) | (obtain⟨_,_,_,rfl,_⟩:=h;rfl) | (obtain⟨_,_,rfl,_⟩:=h;rfl) | (obtain⟨_,rfl,_⟩:=h;rfl)) ⟨_,fun cdv A outer s H E hr=>(@a0i _ _ _ (@a1q _ _ _ _ (@a2h _ _ _ _ _ _ _ _ _ _ _ _ _ _ rfl (@b2Q _ _ _ _ _ _ _ _ _ Z.b_zip (@a0b _ _ _ _ _ (@hv _ 0 _ _ (by rfl) (by walk_at "3") (by decide) (by decide)) (@a0b _ _ _ _ _ (@hv _ 1 _ _ (by rfl) (by walk_at "3") (by decide) (by decide)) a0h (by rfl)) (by rfl)) (by rfl) (by rfl) (by rfl)) (@a0w _ (a0a a2N) _ (["row","first","column","prime"]) (["here","there","first","column","row","prime"]) ([none,none,some 1,some 2,some 0,some 3]) (by decide +kernel) rfl rfl) a5e (fun _ _ _ _ _=>a5F rfl (@a1J _ _ _ _ _ (@a0z _ _ 0 _ (show List.Nodup (["here","there","first","column","row","prime"]:List Str) by decide +kernel) rfl (Or.inl rfl) (Or.inr rfl)) (@a1J _ _ _ _ _ (@a0z _ _ 1 _ (show List.Nodup (["here","there","first","column","row","prime"]:List Str) by decide +kernel) rfl (Or.inl rfl) (Or.inr rfl)) a4k (by rfl)) (by rfl))) (fun _ _ _ _ _=>a1Q) (fun _ _ _ _ _=>(@a0v _ _ _ _ _ _ _ _ a1L (@a0v _ _ _ _ _ _ _ _ a2l (@a0v _ _ _ _ _ _ _ _ a2d (@hv _ 0 _ _ (by rfl) (by walk_at "3") (by decide) (by decide)) (@h_ix _ _ _ _ _ _ (@hv _ 2 _ _ (by rfl) (by walk_at "3") (by decide) (by decide)) (@hv _ 3 _ _ (by rfl) (by walk_at "3") (by decide) (by decide)) (by intro _ _;rfl))) (@a0v _ _ _ _ _ _ _ _ a2d (@hv _ 1 _ _ (by rfl) (by walk_at "3") (by decide) (by decide)) (@h_ix _ _ _ _ _ _ (@hv _ 4 _ _ (by rfl) (by walk_at "3") (by decide) (by decide)) (@hv _ 3 _ _ (by rfl) (by walk_at "3") (by decide) (by decide)) (by intro _ _;rfl)))) (@hv _ 5 _ _ (by rfl) (by walk_at "3") (by decide) (by decide)))) (by intro _;rfl)))),fun ts M Q h=>?_⟩
 unfold a3R at h
 split at h
 ·rename_i p q c m
  obtain⟨a,b,hp,hq,hl,h6,c0,cl,m0,m97,ba,bb,h⟩:=h
  obtain⟨u,hu⟩:∃ u,a[c.toNat]?=some u:=⟨_,List.getElem?_eq_getElem (by lia)⟩
  obtain⟨v,hv⟩:∃ v,b[c.toNat]?=some v:=⟨_,List.getElem?_eq_getElem (by lia)⟩
  have au:atI (a.map T.int) c=some (.int u):=by
   rw[show c=((c.toNat:Nat):Int) by lia];exact a0N (by rw[List.getElem?_map,hu];rfl)
  have av:atI (b.map T.int) c=some (.int v):=by
   rw[show c=((c.toNat:Nat):Int) by lia];exact a0N (by rw[List.getElem?_map,hv];rfl)
  have bu:=ba u (List.mem_of_getElem? hu)
  have bv:=bb v (List.mem_of_getElem? hv)
  walk_at "rd"
  rw[hp,hq]
  dsimp only
  refine⟨by rw[List.length_map,List.length_map,hl],fun i ys M'=>ys=((clr m c.toNat a b).take i).map T.int∧M'=M,⟨rfl,rfl⟩,?_,by rw[a4i (by rw[List.length_map,List.length_map,hl]),List.length_map];exact a0t (by lia),?_,?_⟩
  ·rintro i ys M' ⟨_,rfl⟩
   exact⟨hp,hq⟩
  ·rintro i x ys M' hx ⟨rfl,rfl⟩
   obtain⟨t,w,ht,hw,rfl⟩:=a4H hx
   obtain⟨x,hx2,rfl⟩:=a0q ht
   obtain⟨y,hy2,rfl⟩:=a0q hw
   walk_at "rd"
   rw[hq]
   dsimp only
   rw[av]
   dsimp only
   rw[hp]
   dsimp only
   rw[au]
   dsimp only
   have bx:=ba x (List.mem_of_getElem? hx2)
   have by':=bb y (List.mem_of_getElem? hy2)
   refine⟨.inl ⟨by lia,by lia⟩,.inl ⟨by lia,by lia⟩,m0,?_⟩
   rw[← a0D (b5J hx2 hy2 hu hv),List.map_append];rfl
  ·rintro ys M' ⟨rfl,rfl⟩ r hr
   rw[a4i (by rw[List.length_map,List.length_map,hl]),List.length_map,List.take_of_length_le (by unfold clr;rw[List.length_zipWith];exact Nat.min_le_left _ _)]
   exact a0y (h r hr)
 ·exact h.elim
noncomputable def a3P:Sp3:=fun ts M Q=>match ts with
 | [.adr d,.int m]=>∃ (as:List Addr) (n:Nat) (rows:List (List Int)),M d=some (.lst (as.map .adr))∧a0C M as rows∧RB n (2 ^ 60) rows∧n≤6∧0 < m∧m≤97∧Q (.int (rkL m n 0 rows:Nat)) M
 | _=>False
theorem b6g {p:Int} {k c:Nat} {rows:List (List Int)} (h:rows.filter (fun r=>decide (r.getD c 0 % p≠0))=[]):rkL p (k+1) c rows=rkL p k (c+1) rows:=by
 conv=>lhs;unfold rkL
 rw[h]
theorem b4h {p:Int} {k c:Nat} {rows t:List (List Int)} {f:List Int} (h:rows.filter (fun r=>decide (r.getD c 0 % p≠0))=f :: t):rkL p (k+1) c rows=rkL p k (c+1) (rows.map fun r=>clr p c r f)+1:=by
 conv=>lhs;unfold rkL
 rw[h]
theorem b1B {P:Program} {w:World} {K:PySem.W.Frag} {mg:Str→Option Value} {base:Heap} {f:Addr} {fd:FuncData} {n:Nat}  (F:Fun K "rank_of" "rank_of" a2s f fd) (hm:mg "rank_of"=some (.ref f)) (hb:a1x K fd ["rows","prime"] []) (Z:Zs K mg) (D_cleared:Df P w K mg base n "cleared" ["row","first","column","prime"] a3R):Df P w K mg base (n+1) "rank_of" ["rows","prime"] a3P:=by
 refine F.dfn hm hb a2I (by intro ts M Q h;unfold a3P at h;first | (split at h<;>first | rfl | exact h.elim) | (obtain⟨_,_,_,_,_,rfl,_⟩:=h;rfl) | (obtain⟨_,_,_,_,rfl,_⟩:=h;rfl) | (obtain⟨_,_,_,rfl,_⟩:=h;rfl) | (obtain⟨_,_,rfl,_⟩:=h;rfl) | (obtain⟨_,rfl,_⟩:=h;rfl)) ⟨_,fun cdv A outer s H E hr=>(@a0d _ _ _ _ _ (@a0W _ _ _ _ 2 _ _ a0g a2I.nd (by rfl) (by walk_at "2") (by rfl) (by walk_at "4")) (@a0d _ _ _ _ _ (@a4P _ _ _ _ _ _ _ _ PassesOwn.never rfl (@a2q _ _ _ _ _ _ Z.b_range (@a0b _ _ _ _ _ (@a1M _ _ _ _ _ _ _ _ _ a2S Z.b_len PySem.boot_len (@a0b _ _ _ _ _ (@hv _ 0 _ _ (by rfl) (by walk_at "3") (by decide) (by decide)) a0h (by rfl)) (by rfl) (by decide) (by decide) (by rfl) (by rfl)) a0h (by rfl)) (by rfl) (by rfl)) (@a2u _ _ 3 _ a2I.nd (by rfl) (by walk_at "2") (by walk_at "4")) (@a0d _ _ _ _ _ (@a0W _ _ _ _ 4 _ _ (@a2h _ _ _ _ _ _ _ _ _ _ _ _ _ _ rfl (@a3d _ _ _ _ (@hv _ 0 _ _ (by rfl) (by walk_at "3") (by decide) (by decide))) (@a0w _ (a0a a2s) _ (["rows","prime","rank","column","found"]) (["row","column","prime"]) ([none,some 3,some 1]) (by decide +kernel) rfl rfl) a1o (fun _ _ _ _ _=>@a0z _ _ 0 _ (show List.Nodup (["row","column","prime"]:List Str) by decide +kernel) rfl (Or.inl rfl) (Or.inr rfl)) (fun _ _ _ _ _=>a8b (@a2f _ _ _ _ _ _ _ _ (@a6A _ hr.units) (@a0v _ _ _ _ _ _ _ _ a1L (@h_ix _ _ _ _ _ _ (@hv _ 0 _ _ (by rfl) (by walk_at "3") (by decide) (by decide)) (@hv _ 1 _ _ (by rfl) (by walk_at "3") (by decide) (by decide)) (by intro _ _;rfl)) (@hv _ 2 _ _ (by rfl) (by walk_at "3") (by decide) (by decide))) a0g (@a1k _ _ (by decide) (by decide)))) (fun _ _ _ _ _=>(@hv _ 0 _ _ (by rfl) (by walk_at "3") (by decide) (by decide))) (by intro _;rfl)) a2I.nd (by rfl) (by walk_at "2") (by rfl) (by walk_at "4")) (@a0i _ _ _ (@s_if _ _ _ _ _ _ _ _ (@a3I _ _ _ (@hv _ 4 _ _ (by rfl) (by walk_at "3") (by decide) (by decide)) (by intro _;rfl)) (@a0d _ _ _ _ _ (@b8n _ 2 _ _ _ _ _ _ _ b9h a0g a2I.nd (by rfl) (by walk_at "2") (by walk_at "4")) (@a0i _ _ _ (@a5B _ _ _ _ _ _ _ _ _ _ _ _ _ _ 0 _ _ _ rfl (@a3d _ _ _ _ (@hv _ 0 _ _ (by rfl) (by walk_at "3") (by decide) (by decide))) (@a0w _ (a0a a2s) _ (["rows","prime","rank","column","found"]) (["row","found","column","prime"]) ([none,some 4,some 3,some 1]) (by decide +kernel) rfl rfl) a1o (fun _ _ _ _ _=>@a0z _ _ 0 _ (show List.Nodup (["row","found","column","prime"]:List Str) by decide +kernel) rfl (Or.inl rfl) (Or.inr rfl)) (fun _ _ _ _ _=>a1Q) (fun _ _ _ _ _=>(@a0o _ _ _ _ _ _ _ _ _ _ D_cleared hr (@a0b _ _ _ _ _ (@hv _ 0 _ _ (by rfl) (by walk_at "3") (by decide) (by decide)) (@a0b _ _ _ _ _ (@h_ix _ _ _ _ _ _ (@hv _ 1 _ _ (by rfl) (by walk_at "3") (by decide) (by decide)) a0g (by intro _ _;rfl)) (@a0b _ _ _ _ _ (@hv _ 2 _ _ (by rfl) (by walk_at "3") (by decide) (by decide)) (@a0b _ _ _ _ _ (@hv _ 3 _ _ (by rfl) (by walk_at "3") (by decide) (by decide)) a0h (by rfl)) (by rfl)) (by rfl)) (by rfl)) (by rfl) (by decide) (by rfl) (by rfl))) a2I.nd (by rfl) (by walk_at "2") (by rfl) (by intro _;rfl) (by walk_at "4")))) a2U))) (by intro _;rfl)) (@a0i _ _ _ (@a1q _ _ _ _ (@hv _ 2 _ _ (by rfl) (by walk_at "3") (by decide) (by decide)))))),fun ts M Q h=>?_⟩
 unfold a3P at h
 split at h
 ·rename_i d m
  obtain⟨as,n,rows,hd,hrv,hrb,h6,m0,m97,h⟩:=h
  refine a0E fun K1 hK1=>?_
  walk_at "rd"
  rw[hK1];clear hK1
  refine a0E fun K2 hK2=>?_
  refine a2m fun B hB=>?_
  unfold a4d
  walk_at "rd"
  rw[hd]
  dsimp only
  have hal:=hrv.1.trans hrb.1
  refine⟨by rw[List.length_map,hal];lia,by rw[List.length_map,hal];lia,fun i ρ M'=>(∃ d' k x1 x2,ρ=[some (T.adr d'),some (T.int m),some (T.int (k:Nat)),x1,x2]∧∃ as rs,M' d'=some (.lst (as.map .adr))∧a0C M' as rs∧RB n (2 ^ 60) rs∧k+rkL m (n - i) i rs=rkL m n 0 rows)∧Sub M M',⟨⟨d,0,_,_,rfl,as,rows,hd,hrv,hrb,Nat.zero_add _⟩,Sub.refl⟩,fun _ _ _ _=>trivial,?_,?_⟩
  ·rintro c x ρ M' hx ⟨⟨d',k,x1,x2,rfl,as',rs,hd',hrv',hrb',hk⟩,hS⟩
   have hc:=(List.getElem?_eq_some_iff.mp hx).1
   rw[a0e,List.length_map,hal] at hc
   obtain⟨_,rfl⟩:=a1n hx
   clear hx
   replace hc:c < n:=by lia
   have hal':=hrv'.1.trans hrb'.1
   rw[show n - c=(n - (c+1))+1 by lia] at hk
   rw[hB];clear hB
   refine a0E fun K3 hK3=>?_
   walk_at "rd"
   rw[hd']
   dsimp only
   refine⟨fun i ys M2=>(∃ fs:List Addr,ys=fs.map T.adr∧a0C M' fs ((rs.take i).filter fun r=>decide (r.getD c 0 % m≠0)))∧M2=M',⟨⟨[],rfl,a0C.nil⟩,rfl⟩,?_,by rw[List.length_map];exact a0t (by lia),?_,?_⟩
   ·rintro i ys M2 ⟨_,rfl⟩
    exact hd'
   ·rintro i y ys M2 hy ⟨⟨fs,rfl,hfs⟩,rfl⟩
    obtain⟨a,hy2,rfl⟩:∃ a,as'[i]?=some a∧y=.adr a:=by
     rw[List.getElem?_map] at hy
     cases e:as'[i]? with
     | none=>rw[e] at hy;cases hy
     | some a=>rw[e] at hy;exact⟨a,rfl,(Option.some.inj hy).symm⟩
    obtain⟨is,hrs,ma⟩:=hrv'.get hy2
    obtain⟨la,ba⟩:=hrb'.2 is (List.mem_of_getElem? hrs)
    obtain⟨u,hu⟩:∃ u,is[c]?=some u:=⟨_,List.getElem?_eq_getElem (by lia)⟩
    have au:atI (is.map T.int) (c:Int)=some (.int u):=a0N (by rw[List.getElem?_map,hu];rfl)
    have eg:is.getD c 0=u:=by rw[List.getD_eq_getElem?_getD,hu];rfl
    dsimp only
    rw[ma]
    dsimp only
    rw[au]
    dsimp only
    rw[a5X (fun r:List Int=>decide (r.getD c 0 % m≠0)) hrs]
    refine⟨m0,?_⟩
    rw[eg]
    by_cases z:u % m=0
    ·have d:decide (u % m≠0)=false:=decide_eq_false fun y=>y z
     rw[if_neg (fun y=>y z),d,if_neg (by decide),List.append_nil]
     exact⟨⟨fs,rfl,hfs⟩,rfl⟩
    ·have d:decide (u % m≠0)=true:=decide_eq_true z
     rw[if_pos z,d,if_pos rfl]
     exact⟨⟨fs++[a],by rw[List.map_append];rfl,hfs.snoc ma⟩,rfl⟩
   ·rintro ys M2 ⟨⟨fs,rfl,hfs⟩,rfl⟩ q hq
    rw[hK3];clear hK3
    rw[List.length_map,List.take_of_length_le (by rw[hrv'.1];exact Nat.le_refl _)] at hfs
    have hX:=Sub.new hq (o:=MO.lst (fs.map T.adr))
    have hS2:=hS.trans hX
    have hrv2:=hrv'.sub hX
    have hfs2:=hfs.sub hX
    have hd2:=hX _ _ hd'
    have hMq:(updM M2 q (MO.lst (fs.map T.adr))) q=some (.lst (fs.map T.adr)):=a0c
    generalize updM M2 q (MO.lst (fs.map T.adr))=M3 at hS2 hrv2 hfs2 hd2 hMq⊢
    walk_at "rd"
    rw[hMq]
    dsimp only
    cases fs with
    | nil =>
      have e0:=List.eq_nil_of_length_eq_zero hfs2.1.symm
      refine⟨⟨d',k,_,_,rfl,as',rs,hd2,hrv2,hrb',?_⟩,hS2⟩
      rw[← hk,b6g e0]
    | cons f fs =>
      obtain⟨js,hjs,mf⟩:=hfs2.get (i:=0) rfl
      obtain⟨t,e0⟩:∃ t,rs.filter (fun r=>decide (r.getD c 0 % m≠0))=js :: t:=by
       cases e:rs.filter (fun r=>decide (r.getD c 0 % m≠0)) with
       | nil=>rw[e] at hjs;cases hjs
       | cons y t=>rw[e] at hjs;exact⟨t,by rw[Option.some.inj hjs]⟩
      have hjm:js∈rs:=(List.mem_filter.mp (show js∈rs.filter (fun r=>decide (r.getD c 0 % m≠0)) by rw[e0];exact .head _)).1
      obtain⟨lf,bf⟩:=hrb'.2 js hjm
      rw[show (!(List.map T.adr (f :: fs)).isEmpty)=true from rfl,if_pos rfl,hd2]
      dsimp only
      refine⟨fun i ys M4=>(∃ bs:List Addr,ys=bs.map T.adr∧a0C M4 bs ((rs.take i).map fun r=>clr m c r js))∧Sub M3 M4,⟨⟨[],rfl,a0C.nil⟩,Sub.refl⟩,?_,by rw[List.length_map];exact a0t (by lia),?_,?_⟩
      ·rintro i ys M4 ⟨_,hS4⟩
       exact hS4 _ _ hd2
      ·rintro i y ys M4 hy ⟨⟨bs,rfl,hbs⟩,hS4⟩
       obtain⟨a,hy2,rfl⟩:∃ a,as'[i]?=some a∧y=.adr a:=by
        rw[List.getElem?_map] at hy
        cases e:as'[i]? with
        | none=>rw[e] at hy;cases hy
        | some a=>rw[e] at hy;exact⟨a,rfl,(Option.some.inj hy).symm⟩
       obtain⟨is,hrs,ma⟩:=hrv2.get hy2
       obtain⟨la,ba⟩:=hrb'.2 is (List.mem_of_getElem? hrs)
       rw[hS4 _ _ hMq]
       dsimp only
       rw[List.map_cons,a7V]
       dsimp only
       refine⟨is,js,hS4 _ _ ma,hS4 _ _ mf,by rw[la,lf],by lia,by lia,by lia,m0,m97,ba,bf,fun r hr=>?_⟩
       rw[Int.toNat_natCast]
       have hY:=Sub.new hr (o:=MO.lst ((clr m c is js).map T.int))
       refine⟨⟨bs++[r],by rw[List.map_append];rfl,?_⟩,hS4.trans hY⟩
       rw[← a1V (fun r=>clr m c r js) hrs]
       exact (hbs.sub hY).snoc a0c
      ·rintro ys M4 ⟨⟨bs,rfl,hbs⟩,hS4⟩ p hp
       rw[List.length_map,List.take_of_length_le (by rw[hrv'.1];exact Nat.le_refl _)] at hbs
       have hY:=Sub.new hp (o:=MO.lst (bs.map T.adr))
       refine⟨⟨p,k+1,_,_,rfl,bs,_,a0c,hbs.sub hY,⟨by rw[List.length_map];exact hrb'.1,fun r hr=>?_⟩,?_⟩,(hS2.trans hS4).trans hY⟩
       ·obtain⟨q,hq,rfl⟩:=List.mem_map.mp hr
        obtain⟨l1,l2⟩:=b9B m0 m97 (c:=c) (hrb'.2 q hq).1 lf
        exact⟨l1,fun x hx=>Nat.le_trans (l2 x hx) (by decide)⟩
       ·rw[b4h e0] at hk
        rw[← hk];lia
  ·rintro ρ M' ⟨⟨d',k,x1,x2,rfl,as',rs,hd',hrv',hrb',hk⟩,hS⟩
   rw[hK2]
   walk_at "rd"
   rw[a0e,List.length_map,hal,show (((n:Nat):Int)).toNat=n by lia,Nat.sub_self] at hk
   have e:rkL m n 0 rows=k:=by rw[← hk];rfl
   rw[e] at h
   exact a1K h hS
 ·exact h.elim
noncomputable def a1X:Sp3:=fun ts M Q=>match ts with
 | [.int m,.tup [.int n,.tup w]]=>∃ ws:List Int,w=ws.map .int∧PlOK n ws∧oddP m=true∧Q (.int (n - (rkL m n.toNat 0 (minU n.toNat (shL (unR n.toNat) ws)):Nat))) M
 | _=>False
theorem a5I {P:Program} {w:World} {K:PySem.W.Frag} {mg:Str→Option Value} {base:Heap} {f:Addr} {fd:FuncData} {n:Nat}  (F:Fun K "free_colours" "free_colours" a1t f fd) (hm:mg "free_colours"=some (.ref f)) (hb:a1x K fd ["prime","plait"] []) (Z:Zs K mg) (D_looked:Df P w K mg base n "looked" ["plait"] a3C) (D_is_odd_prime:Df P w K mg base n "is_odd_prime" ["number"] a1W) (D_shares_behind:Df P w K mg base n "shares_behind" ["plait"] a1O) (D_rank_of:Df P w K mg base n "rank_of" ["rows","prime"] a3P):Df P w K mg base (n+1) "free_colours" ["prime","plait"] a1X:=by
 refine F.dfn hm hb a2L (by intro ts M Q h;unfold a1X at h;first | (split at h<;>first | rfl | exact h.elim) | (obtain⟨_,_,_,_,_,rfl,_⟩:=h;rfl) | (obtain⟨_,_,_,_,rfl,_⟩:=h;rfl) | (obtain⟨_,_,_,rfl,_⟩:=h;rfl) | (obtain⟨_,_,rfl,_⟩:=h;rfl) | (obtain⟨_,rfl,_⟩:=h;rfl)) ⟨_,fun cdv A outer s H E hr=>(@a0d _ _ _ _ _ (@b0s _ _ _ _ (@a0o _ _ _ _ _ _ _ _ _ _ D_looked hr (@a0b _ _ _ _ _ (@hv _ 1 _ _ (by rfl) (by walk_at "3") (by decide) (by decide)) a0h (by rfl)) (by rfl) (by decide) (by rfl) (by rfl)) (by rfl)) (@a0d _ _ _ _ _ (@s_if _ _ _ _ _ _ _ _ (@a9M _ _ _ _ (@a3I _ _ _ (@a0o _ _ _ _ _ _ _ _ _ _ D_is_odd_prime hr (@a0b _ _ _ _ _ (@hv _ 0 _ _ (by rfl) (by walk_at "3") (by decide) (by decide)) a0h (by rfl)) (by rfl) (by decide) (by rfl) (by rfl)) (by intro _;rfl))) (@a0i _ _ _ b2h) a2U) (@a0d _ _ _ _ _ (@a0W _ _ _ _ 2 _ _ (@a0o _ _ _ _ _ _ _ _ _ _ D_shares_behind hr (@a0b _ _ _ _ _ (@hv _ 1 _ _ (by rfl) (by walk_at "3") (by decide) (by decide)) a0h (by rfl)) (by rfl) (by decide) (by rfl) (by rfl)) a2L.nd (by rfl) (by walk_at "2") (by rfl) (by walk_at "4")) (@a0d _ _ _ _ _ (@a4P _ _ _ _ _ _ _ _ PassesOwn.never rfl (@a2q _ _ _ _ _ _ Z.b_range (@a0b _ _ _ _ _ (@a1M _ _ _ _ _ _ _ _ _ a2S Z.b_len PySem.boot_len (@a0b _ _ _ _ _ (@hv _ 2 _ _ (by rfl) (by walk_at "3") (by decide) (by decide)) a0h (by rfl)) (by rfl) (by decide) (by decide) (by rfl) (by rfl)) a0h (by rfl)) (by rfl) (by rfl)) (@a2u _ _ 3 _ a2L.nd (by rfl) (by walk_at "2") (by walk_at "4")) (@a0i _ _ _ (@b4f _ _ _ _ _ _ _ _ _ _ _ b9g (@h_ix _ _ _ _ _ _ (@hv _ 2 _ _ (by rfl) (by walk_at "3") (by decide) (by decide)) (@hv _ 3 _ _ (by rfl) (by walk_at "3") (by decide) (by decide)) (by intro _ _;rfl)) (@hv _ 3 _ _ (by rfl) (by walk_at "3") (by decide) (by decide)) a0g (by intros;rfl))) (by intro _;rfl)) (@a0i _ _ _ (@a1q _ _ _ _ (@a0v _ _ _ _ _ _ _ _ a2l (@h_ix _ _ _ _ _ _ (@hv _ 1 _ _ (by rfl) (by walk_at "3") (by decide) (by decide)) a0g (by intro _ _;rfl)) (@a0o _ _ _ _ _ _ _ _ _ _ D_rank_of hr (@a0b _ _ _ _ _ (@hv _ 2 _ _ (by rfl) (by walk_at "3") (by decide) (by decide)) (@a0b _ _ _ _ _ (@hv _ 0 _ _ (by rfl) (by walk_at "3") (by decide) (by decide)) a0h (by rfl)) (by rfl)) (by rfl) (by decide) (by rfl) (by rfl))))))))),fun ts M Q h=>?_⟩
 unfold a1X at h
 split at h
 ·rename_i m n w
  obtain⟨ws,rfl,ok,hp,h⟩:=h
  refine a5r fun K1 hK1=>?_
  walk_at "rd"
  refine⟨ws,rfl,ok,?_⟩
  show match some (oddP m) with | some k=>if k=false then _ else _ | none=>False
  rw[hp]
  dsimp only
  rw[if_neg (by decide)]
  obtain⟨m3,m97⟩:3≤m∧m≤97:=by
   unfold oddP at hp
   rw[Bool.and_eq_true,Bool.and_eq_true,decide_eq_true_eq,decide_eq_true_eq] at hp
   exact hp.1
  refine⟨ws,rfl,ok,fun r as M1 hr hS hMr hok hnd hfr=>?_⟩
  obtain⟨n1,n6,hl16,hw⟩:=ok
  have hrb:=a6v (a6s n.toNat) (ws:=ws) (by rw[show ((n.toNat:Nat):Int)=n by lia];exact hw)
  generalize shL (unR n.toNat) ws=R at hok hrb h
  have hRB:∀ i,i≤6→RB n.toNat (2 ^ 60) (minK i R):=fun i hi=>by
   refine⟨by rw[a3W];exact hrb.1,fun q hq=>?_⟩
   unfold minK at hq
   obtain⟨j,hj,rfl⟩:=List.mem_map.mp hq
   have hj:=List.mem_range.mp hj
   obtain⟨l1,l2⟩:=hrb.row (k:=j) (by rw[← hrb.1];exact hj)
   have h3:3 ^ ws.length*1≤3 ^ 16:=by rw[Nat.mul_one];exact Nat.pow_le_pow_right (by decide) hl16
   have l3:∀ x∈R.getD j [],x.natAbs≤3 ^ 16:=fun x hx=>Nat.le_trans (l2 x hx) h3
   have e16:3 ^ 16+1≤2 ^ 60:=by decide
   generalize 3 ^ 16=P at l3 e16
   generalize 2 ^ 60=P2 at e16⊢
   split
   ·refine⟨by rw[List.length_set];exact l1,fun x hx=>?_⟩
    rcases List.mem_or_eq_of_mem_set hx with z | rfl
    ·have:=l3 x z;lia
    ·have:(R.getD j []).getD j 0∈R.getD j []:=by
      rw[List.getD_eq_getElem?_getD (i:=j) (l:=R.getD j []),List.getElem?_eq_getElem (by rw[l1,← hrb.1];exact hj)]
      exact List.getElem_mem _
     have:=l3 _ this
     lia
   ·exact⟨l1,fun x hx=>by have:=l3 x hx;lia⟩
  rw[hK1];clear hK1
  refine a0E fun K2 hK2=>?_
  refine a2m fun B hB=>?_
  unfold a4d
  walk_at "rd"
  rw[hMr]
  dsimp only
  have hal:=hok.1.trans hrb.1
  refine⟨by rw[List.length_map,hal];lia,by rw[List.length_map,hal];lia,fun i ρ M2=>(∃ x1,ρ=[some (T.int m),some (T.tup [T.int n,T.tup (List.map T.int ws)]),some (T.adr r),x1])∧M2 r=some (.lst (as.map T.adr))∧a0C M2 as (minK i R)∧Sub M M2,⟨⟨_,rfl⟩,hMr,by rw[a8z];exact hok,hS⟩,fun _ _ _ _=>trivial,?_,?_⟩
  ·rintro i x ρ M2 hx ⟨⟨x1,rfl⟩,hMr2,hok2,hS2⟩
   have hi:=(List.getElem?_eq_some_iff.mp hx).1
   obtain⟨_,rfl⟩:=a1n hx
   rw[a0e,List.length_map] at hi
   replace hi:i < as.length:=by lia
   obtain⟨a,ea⟩:∃ a,as[i]?=some a:=⟨_,List.getElem?_eq_getElem hi⟩
   have aa:atI (as.map T.adr) (i:Int)=some (.adr a):=a0N (by rw[List.getElem?_map,ea];rfl)
   have ha:=List.mem_of_getElem? ea
   obtain⟨is,eis,ma⟩:=hok2.get ea
   have eR:R[i]?=some is:=by
    have hiR:i < R.length:=by rw[hrb.1,← hal];exact hi
    rw[a4A hiR,if_neg (Nat.lt_irrefl i),List.getD_eq_getElem?_getD,List.getElem?_eq_getElem hiR] at eis
    rw[List.getElem?_eq_getElem hiR]
    exact eis
   obtain⟨la,ba⟩:=(hRB i (by lia)).2 is (List.mem_of_getElem? eis)
   obtain⟨u,hu⟩:∃ u,is[i]?=some u:=⟨_,List.getElem?_eq_getElem (by lia)⟩
   have au:atI (is.map T.int) (i:Int)=some (.int u):=a0N (by rw[List.getElem?_map,hu];rfl)
   have eu:is.getD i 0=u:=by rw[List.getD_eq_getElem?_getD,hu];rfl
   have har:a≠r:=fun z=>hok2.ne hMr2 (fun y=>by rw[y] at ea;cases ea) (by rw[← z];exact ha)
   rw[hB];clear hB
   walk_at "rd"
   rw[hMr2]
   dsimp only
   rw[aa]
   dsimp only
   rw[ma]
   dsimp only
   have e2:(is.map T.int).set ((i:Int)).toNat (T.int (u - 1))=(is.set i (u - 1)).map T.int:=by rw[List.map_set];rfl
   refine⟨u,by lia,by rw[List.getElem?_map,show ((i:Int)).toNat=i by lia,hu];rfl,rfl,⟨_,rfl⟩,by rw[a0n har.symm];exact hMr2,?_,hS2.updF (hfr a ha)⟩
   rw[e2,a8A eR,eu]
   exact hok2.put hnd ea
  ·rintro ρ M2 ⟨⟨x1,rfl⟩,hMr2,hok2,hS2⟩
   rw[hK2];clear hK2
   walk_at "rd"
   rw[a0e,List.length_map,show ((as.length:Nat):Int).toNat=as.length by lia,hal] at hok2
   refine⟨as,n.toNat,minK n.toNat R,hMr2,hok2,hRB _ (by lia),by lia,by lia,m97,?_⟩
   rw[b0G hrb.1]
   exact a1K h hS2
 ·exact h.elim
noncomputable def a1Z:Sp3:=fun ts M Q=>match ts with
 | [.rd s,.int k]=>∃ ns:List Int,s=ns.map .int∧0≤k∧∀ c,Q (.int c) M
 | _=>False
theorem a5J {P:Program} {w:World} {K:PySem.W.Frag} {mg:Str→Option Value} {base:Heap} {f:Addr} {fd:FuncData} {n:Nat}  (F:Fun K "_law_cell_at" "_law_cell_at" a1u f fd) (hm:mg "_law_cell_at"=some (.ref f)) (hb:a1x K fd ["script","k"] []) (Z:Zs K mg) :Df P w K mg base (n+1) "_law_cell_at" ["script","k"] a1Z:=by
 refine F.dfn hm hb a5A (by intro ts M Q h;unfold a1Z at h;first | (split at h<;>first | rfl | exact h.elim) | (obtain⟨_,_,_,_,_,rfl,_⟩:=h;rfl) | (obtain⟨_,_,_,_,rfl,_⟩:=h;rfl) | (obtain⟨_,_,_,rfl,_⟩:=h;rfl) | (obtain⟨_,_,rfl,_⟩:=h;rfl) | (obtain⟨_,rfl,_⟩:=h;rfl)) ⟨_,fun cdv A outer s H E hr=>(@a0d _ _ _ _ _ (@s_if _ _ _ _ _ _ _ _ (@a2f _ _ _ _ _ _ _ _ b2A (@hv _ 1 _ _ (by rfl) (by walk_at "3") (by decide) (by decide)) (@a1M _ _ _ _ _ _ _ _ _ a2S Z.b_len PySem.boot_len (@a0b _ _ _ _ _ (@hv _ 0 _ _ (by rfl) (by walk_at "3") (by decide) (by decide)) a0h (by rfl)) (by rfl) (by decide) (by decide) (by rfl) (by rfl)) (@a1k _ _ (by decide) (by decide))) (@a0i _ _ _ (@a1q _ _ _ _ (@h_ix _ _ _ _ _ _ (@hv _ 0 _ _ (by rfl) (by walk_at "3") (by decide) (by decide)) (@hv _ 1 _ _ (by rfl) (by walk_at "3") (by decide) (by decide)) (by intro _ _;rfl)))) a2U) (@a0i _ _ _ (@a1q _ _ _ _ a0g))),fun ts M Q h=>?_⟩
 unfold a1Z at h
 split at h
 ·rename_i s k
  obtain⟨ns,rfl,h0,h⟩:=h
  walk_at "rd"
  refine ite2 (fun c=>?_) (fun c=>a0y (h _))
  rw[b1g ns k h0 c]
  exact a0y (h _)
 ·exact h.elim
noncomputable def a1Y:Sp3:=fun ts M Q=>match ts with
 | [.int _]=>Q (.bl true) M
 | _=>False
theorem a7u {P:Program} {w:World} {K:PySem.W.Frag} {mg:Str→Option Value} {base:Heap} {f:Addr} {fd:FuncData} {n:Nat}  (F:Fun K "_law_whole" "_law_whole" a1S f fd) (hm:mg "_law_whole"=some (.ref f)) (hb:a1x K fd ["found"] []) (Z:Zs K mg) :Df P w K mg base (n+1) "_law_whole" ["found"] a1Y:=by
 refine F.dfn hm hb a7h (by intro ts M Q h;unfold a1Y at h;first | (split at h<;>first | rfl | exact h.elim) | (obtain⟨_,_,_,_,_,rfl,_⟩:=h;rfl) | (obtain⟨_,_,_,_,rfl,_⟩:=h;rfl) | (obtain⟨_,_,_,rfl,_⟩:=h;rfl) | (obtain⟨_,_,rfl,_⟩:=h;rfl) | (obtain⟨_,rfl,_⟩:=h;rfl)) ⟨_,fun cdv A outer s H E hr=>(@a0i _ _ _ (@a1q _ _ _ _ (@c0E _ _ _ _ _ _ _ (@b9n _ _ _ _ _ _ _ .int (@hv _ 0 _ _ (by rfl) (by walk_at "3") (by decide) (by decide)) Z.b_isinstance Z.b_int PyProof.Rows.boot_int (by intro z;cases z) (by rfl) (by rfl) (by decide) (by decide) (by rfl) (by rfl) (by rfl)) (@c0D _ _ _ _ _ (@b9m _ _ _ _ (@b9n _ _ _ _ _ _ _ .bool (@hv _ 0 _ _ (by rfl) (by walk_at "3") (by decide) (by decide)) Z.b_isinstance Z.b_bool PyProof.Rows.boot_bool (by intro z;cases z) (by rfl) (by rfl) (by decide) (by decide) (by rfl) (by rfl) (by rfl))))))),fun ts M Q h=>?_⟩
 unfold a1Y at h
 split at h
 ·walk_at "rd"
  exact a0y h
 ·exact h.elim
noncomputable def a2E:Sp3:=fun ts M Q=>match ts with
 | [.rd s,.int k]=>∃ ns:List Int,s=ns.map .int∧0≤k∧∀ p n f,M p=none→Q (.adr p) (updM M p (.lst [.int n,.bl f]))
 | _=>False
theorem a7v {P:Program} {w:World} {K:PySem.W.Frag} {mg:Str→Option Value} {base:Heap} {f:Addr} {fd:FuncData} {n:Nat}  (F:Fun K "_law_state" "_law_state" a1T f fd) (hm:mg "_law_state"=some (.ref f)) (hb:a1x K fd ["script","k"] []) (Z:Zs K mg) (D__law_cell_at:Df P w K mg base n "_law_cell_at" ["script","k"] a1Z):Df P w K mg base (n+1) "_law_state" ["script","k"] a2E:=by
 refine F.dfn hm hb a4v (by intro ts M Q h;unfold a2E at h;first | (split at h<;>first | rfl | exact h.elim) | (obtain⟨_,_,_,_,_,rfl,_⟩:=h;rfl) | (obtain⟨_,_,_,_,rfl,_⟩:=h;rfl) | (obtain⟨_,_,_,rfl,_⟩:=h;rfl) | (obtain⟨_,_,rfl,_⟩:=h;rfl) | (obtain⟨_,rfl,_⟩:=h;rfl)) ⟨_,fun cdv A outer s H E hr=>(@a0d _ _ _ _ _ (@a0W _ _ _ _ 2 _ _ (@a0o _ _ _ _ _ _ _ _ _ _ D__law_cell_at hr (@a0b _ _ _ _ _ (@hv _ 0 _ _ (by rfl) (by walk_at "3") (by decide) (by decide)) (@a0b _ _ _ _ _ (@hv _ 1 _ _ (by rfl) (by walk_at "3") (by decide) (by decide)) a0h (by rfl)) (by rfl)) (by rfl) (by decide) (by rfl) (by rfl)) a4v.nd (by rfl) (by walk_at "2") (by rfl) (by walk_at "4")) (@a0d _ _ _ _ _ (@s_if _ _ _ _ _ _ _ _ (@a2f _ _ _ _ _ _ _ _ b8U (@hv _ 2 _ _ (by rfl) (by walk_at "3") (by decide) (by decide)) (@a0v _ _ _ _ _ _ _ _ b2z a0g a0g) (@a1k _ _ (by decide) (by decide))) (@a0i _ _ _ (@a1q _ _ _ _ (@a6o _ _ _ _ (@a0b _ _ _ _ _ (@a0v _ _ _ _ _ _ _ _ a2l (@hv _ 2 _ _ (by rfl) (by walk_at "3") (by decide) (by decide)) (@a0v _ _ _ _ _ _ _ _ b2z a0g a0g)) (@a0b _ _ _ _ _ h_bl a0h (by rfl)) (by rfl))))) a2U) (@a0i _ _ _ (@a1q _ _ _ _ (@a6o _ _ _ _ (@a0b _ _ _ _ _ (@a0v _ _ _ _ _ _ _ _ a1L (@hv _ 2 _ _ (by rfl) (by walk_at "3") (by decide) (by decide)) a0g) (@a0b _ _ _ _ _ h_bl a0h (by rfl)) (by rfl))))))),fun ts M Q h=>?_⟩
 unfold a2E at h
 split at h
 ·rename_i s k
  obtain⟨ns,rfl,h0,h⟩:=h
  walk_at "rd"
  refine⟨ns,rfl,h0,fun c=>?_⟩
  walk_at "rd"
  refine⟨⟨by decide,by decide,by decide⟩,?_⟩
  refine ite2 (fun _=>⟨⟨by decide,by decide,by decide⟩,by decide,fun p hp=>a0y (h _ _ _ hp)⟩) (fun _=>⟨by decide,by decide,fun p hp=>a0y (h _ _ _ hp)⟩)
 ·exact h.elim
theorem b1e {x y k:Int} (hk:0 < k) (hk':k≤2 ^ 64):CMul (x % k) y:=by
 have h1:=Int.emod_nonneg x (Int.ne_of_gt hk)
 have h2:=Int.emod_lt_of_pos x hk
 exact .inl ⟨by lia,by lia⟩
theorem b3C {x m:Int} (h0:0 < m) (h1:m < 2 ^ 100):b7I x m:=by
 refine⟨h0,?_⟩
 have:m.natAbs.log2 < 100:=(Nat.log2_lt (by lia)).mpr (by lia)
 lia
noncomputable def a1r:Sp3:=fun ts M Q=>match ts with
 | [.adr p,.int m]=>∃ s f,M p=some (.lst [.int s,.bl f])∧0 < m∧m < 2 ^ 100∧∀ c s',0≤c→c < m→Q (.int c) (updM M p (.lst [.int s',.bl f]))
 | _=>False
theorem a6m {P:Program} {w:World} {K:PySem.W.Frag} {mg:Str→Option Value} {base:Heap} {f:Addr} {fd:FuncData} {n:Nat}  (F:Fun K "_law_choice" "_law_choice" a1I f fd) (hm:mg "_law_choice"=some (.ref f)) (hb:a1x K fd ["state","many"] []) (Z:Zs K mg) :Df P w K mg base (n+1) "_law_choice" ["state","many"] a1r:=by
 refine F.dfn hm hb a2p (by intro ts M Q h;unfold a1r at h;first | (split at h<;>first | rfl | exact h.elim) | (obtain⟨_,_,_,_,_,rfl,_⟩:=h;rfl) | (obtain⟨_,_,_,_,rfl,_⟩:=h;rfl) | (obtain⟨_,_,_,rfl,_⟩:=h;rfl) | (obtain⟨_,_,rfl,_⟩:=h;rfl) | (obtain⟨_,rfl,_⟩:=h;rfl)) ⟨_,fun cdv A outer s H E hr=>(@a0d _ _ _ _ _ (@s_if _ _ _ _ _ _ _ _ (@a3I _ _ _ (@h_ix _ _ _ _ _ _ (@hv _ 0 _ _ (by rfl) (by walk_at "3") (by decide) (by decide)) a0g (by intro _ _;rfl)) (by intro _;rfl)) (@a0d _ _ _ _ _ (@a0W _ _ _ _ 2 _ _ (@a0v _ _ _ _ _ _ _ _ a1L (@h_ix _ _ _ _ _ _ (@hv _ 0 _ _ (by rfl) (by walk_at "3") (by decide) (by decide)) a0g (by intro _ _;rfl)) (@hv _ 1 _ _ (by rfl) (by walk_at "3") (by decide) (by decide))) a2p.nd (by rfl) (by walk_at "2") (by rfl) (by walk_at "4")) (@a0d _ _ _ _ _ (@a5C _ _ _ _ _ _ (@a0v _ _ _ _ _ _ _ _ b2B (@h_ix _ _ _ _ _ _ (@hv _ 0 _ _ (by rfl) (by walk_at "3") (by decide) (by decide)) a0g (by intro _ _;rfl)) (@hv _ 1 _ _ (by rfl) (by walk_at "3") (by decide) (by decide))) (@a5V _ _ _ _ _ _ (@hv _ 0 _ _ (by rfl) (by walk_at "3") (by decide) (by decide)) a0g (by intro _;rfl)) (by rfl) (by rfl) (by rfl)) (@a0i _ _ _ (@a1q _ _ _ _ (@hv _ 2 _ _ (by rfl) (by walk_at "3") (by decide) (by decide)))))) a2U) (@a0d _ _ _ _ _ (@a5C _ _ _ _ _ _ (@a0v _ _ _ _ _ _ _ _ a1L (@a0v _ _ _ _ _ _ _ _ a0M (@a0v _ _ _ _ _ _ _ _ a2d (@h_ix _ _ _ _ _ _ (@hv _ 0 _ _ (by rfl) (by walk_at "3") (by decide) (by decide)) a0g (by intro _ _;rfl)) a0g) a0g) a0g) (@a5V _ _ _ _ _ _ (@hv _ 0 _ _ (by rfl) (by walk_at "3") (by decide) (by decide)) a0g (by intro _;rfl)) (by rfl) (by rfl) (by rfl)) (@a0d _ _ _ _ _ (@a0W _ _ _ _ 3 _ _ (@a0v _ _ _ _ _ _ _ _ a1L (@a0v _ _ _ _ _ _ _ _ a0M (@a0v _ _ _ _ _ _ _ _ a0M (@a0v _ _ _ _ _ _ _ _ a2d (@h_ix _ _ _ _ _ _ (@hv _ 0 _ _ (by rfl) (by walk_at "3") (by decide) (by decide)) a0g (by intro _ _;rfl)) (@h_ix _ _ _ _ _ _ (@hv _ 0 _ _ (by rfl) (by walk_at "3") (by decide) (by decide)) a0g (by intro _ _;rfl))) (@a0v _ _ _ _ _ _ _ _ a2d a0g (@h_ix _ _ _ _ _ _ (@hv _ 0 _ _ (by rfl) (by walk_at "3") (by decide) (by decide)) a0g (by intro _ _;rfl)))) a0g) a0g) a2p.nd (by rfl) (by walk_at "2") (by rfl) (by walk_at "4")) (@a0d _ _ _ _ _ (@a0W _ _ _ _ 3 _ _ (@a0v _ _ _ _ _ _ _ _ a1L (@a0v _ _ _ _ _ _ _ _ a0M (@a0v _ _ _ _ _ _ _ _ a2d (@hv _ 3 _ _ (by rfl) (by walk_at "3") (by decide) (by decide)) (@hv _ 3 _ _ (by rfl) (by walk_at "3") (by decide) (by decide))) (@a0v _ _ _ _ _ _ _ _ a2d a0g (@hv _ 3 _ _ (by rfl) (by walk_at "3") (by decide) (by decide)))) a0g) a2p.nd (by rfl) (by walk_at "2") (by rfl) (by walk_at "4")) (@a0i _ _ _ (@a1q _ _ _ _ (@a0v _ _ _ _ _ _ _ _ a1L (@a0v _ _ _ _ _ _ _ _ b2B (@hv _ 3 _ _ (by rfl) (by walk_at "3") (by decide) (by decide)) a0g) (@hv _ 1 _ _ (by rfl) (by walk_at "3") (by decide) (by decide))))))))),fun ts M Q h=>?_⟩
 unfold a1r at h
 split at h
 ·rename_i p m
  obtain⟨s,f,hM,h0,h1,h⟩:=h
  refine a0E fun K1 hK1=>?_
  have hk:K1 [some (.adr p),some (.int m),none,none] M:=by
   rw[hK1]
   clear hK1
   refine a0E fun K2 hK2=>?_
   walk_at "rd"
   simp only[hM]
   walk_at "rd"
   refine⟨.inr ⟨by decide,by decide⟩,by decide,?_⟩
   have hM2:updM M p (.lst [.int ((s*48271+29) % 2147483647),.bl f]) p=some (.lst [.int ((s*48271+29) % 2147483647),.bl f]):=a0c
   have b0:CMul ((s*48271+29) % 2147483647) ((s*48271+29) % 2147483647):=b1e (by decide) (by decide)
   generalize (s*48271+29) % 2147483647=s1 at hM2 b0⊢
   rw[hK2]
   clear hK2
   refine a0E fun K3 hK3=>?_
   walk_at "rd"
   refine⟨b0,.inl ⟨by decide,by decide⟩,by decide,?_⟩
   have b1:∀ y,CMul ((s1*s1+39373*s1+7) % 2147483629) y:=fun y=>b1e (by decide) (by decide)
   generalize (s1*s1+39373*s1+7) % 2147483629=mx at b1⊢
   rw[hK3]
   clear hK3
   walk_at "rd"
   refine⟨b1 _,.inl ⟨by decide,by decide⟩,by decide,b3C (by decide) (by decide),h0,?_⟩
   have hh:=h (((mx*mx+16807*mx) % 2147483587) / 8 % m) s1 (Int.emod_nonneg _ (Int.ne_of_gt h0)) (Int.emod_lt_of_pos _ h0)
   refine a1K hh ?_
   exact Sub.refl
  walk_at "rd"
  simp only[hM]
  walk_at "rd"
  exact ite2 (fun c=>⟨h0,b3C h0 h1,a0y (h _ _ (Int.emod_nonneg _ (Int.ne_of_gt h0)) (Int.emod_lt_of_pos _ h0))⟩) (fun c=>hk)
 ·exact h.elim
noncomputable def a2W:Sp3:=fun ts M Q=>match ts with
 | [.adr p,.int n,.int c]=>∃ s f,M p=some (.lst [.int s,.bl f])∧n < 2 ^ 60∧0≤c∧c≤1000∧∀ (w:List Int) s',a0f n w→(w.length:Int)≤c→(2≤n→(w.length:Int)=c)→Q (.tup (w.map .int)) (updM M p (.lst [.int s',.bl f]))
 | _=>False
theorem a8s {P:Program} {w:World} {K:PySem.W.Frag} {mg:Str→Option Value} {base:Heap} {f:Addr} {fd:FuncData} {n:Nat}  (F:Fun K "_law_word" "_law_word" a1P f fd) (hm:mg "_law_word"=some (.ref f)) (hb:a1x K fd ["state","strands","count"] []) (Z:Zs K mg) (D__law_choice:Df P w K mg base n "_law_choice" ["state","many"] a1r):Df P w K mg base (n+1) "_law_word" ["state","strands","count"] a2W:=by
 refine F.dfn hm hb a8k (by intro ts M Q h;unfold a2W at h;first | (split at h<;>first | rfl | exact h.elim) | (obtain⟨_,_,_,_,_,rfl,_⟩:=h;rfl) | (obtain⟨_,_,_,_,rfl,_⟩:=h;rfl) | (obtain⟨_,_,_,rfl,_⟩:=h;rfl) | (obtain⟨_,_,rfl,_⟩:=h;rfl) | (obtain⟨_,rfl,_⟩:=h;rfl)) ⟨_,fun cdv A outer s H E hr=>(@a0d _ _ _ _ _ (@s_if _ _ _ _ _ _ _ _ (@a2f _ _ _ _ _ _ _ _ b2A (@hv _ 1 _ _ (by rfl) (by walk_at "3") (by decide) (by decide)) a0g (@a1k _ _ (by decide) (by decide))) (@a0i _ _ _ (@a1q _ _ _ _ (@b2V _ _ _ _ _ a0h))) a2U) (@a0i _ _ _ (@a1q _ _ _ _ (@a4X _ _ _ _ _ _ _ _ _ a6f Z.b_tuple PyProof.Rows.boot_tuple (@a0b _ _ _ _ _ (@a2h _ _ _ _ _ _ _ _ _ _ _ _ _ _ rfl (@a2q _ _ _ _ _ _ Z.b_range (@a0b _ _ _ _ _ (@hv _ 2 _ _ (by rfl) (by walk_at "3") (by decide) (by decide)) a0h (by rfl)) (by rfl) (by rfl)) (@a0w _ (a0a a1P) _ (["state","strands","count"]) (["k","state","strands"]) ([none,some 0,some 1]) (by decide +kernel) rfl rfl) a1o (fun _ _ _ _ _=>@a0z _ _ 0 _ (show List.Nodup (["k","state","strands"]:List Str) by decide +kernel) rfl (Or.inl rfl) (Or.inr rfl)) (fun _ _ _ _ _=>a1Q) (fun _ _ _ _ _=>(@a0v _ _ _ _ _ _ _ _ a2d (@h_ix _ _ _ _ _ _ (@a6o _ _ _ _ (@a0b _ _ _ _ _ a0g (@a0b _ _ _ _ _ (@h_un _ _ _ _ _ _ a6Z a0g) a0h (by rfl)) (by rfl))) (@a0o _ _ _ _ _ _ _ _ _ _ D__law_choice hr (@a0b _ _ _ _ _ (@hv _ 1 _ _ (by rfl) (by walk_at "3") (by decide) (by decide)) (@a0b _ _ _ _ _ a0g a0h (by rfl)) (by rfl)) (by rfl) (by decide) (by rfl) (by rfl)) (by intro _ _;rfl)) (@a0v _ _ _ _ _ _ _ _ a0M a0g (@a0o _ _ _ _ _ _ _ _ _ _ D__law_choice hr (@a0b _ _ _ _ _ (@hv _ 1 _ _ (by rfl) (by walk_at "3") (by decide) (by decide)) (@a0b _ _ _ _ _ (@a0v _ _ _ _ _ _ _ _ a2l (@hv _ 2 _ _ (by rfl) (by walk_at "3") (by decide) (by decide)) a0g) a0h (by rfl)) (by rfl)) (by rfl) (by decide) (by rfl) (by rfl))))) (by intro _;rfl)) a0h (by rfl)) (by rfl) (by decide) (by decide) (by rfl) (by rfl))))),fun ts M Q h=>?_⟩
 unfold a2W at h
 split at h
 ·rename_i p n c
  obtain⟨s,f,hM,hn,h0,h1,h⟩:=h
  walk_at "rd"
  refine ite2 (fun hc=>?_) (fun hc=>⟨by lia,by lia,?_⟩)
  ·have:=h [] s (fun _ z=>nomatch z) (by simpa using h0) (by lia)
   rw[a8a hM] at this
   exact a0y this
  ·refine⟨fun i ys M'=>∃ w s',ys=w.map T.int∧w.length=i∧a0f n w∧Sub (updM M p (.lst [.int s',.bl f])) M',⟨[],s,rfl,rfl,(fun _ z=>nomatch z),by rw[a8a hM];exact Sub.refl⟩,fun _ _ _ _=>trivial,?_,?_,?_⟩
   ·unfold a0J;rw[List.length_map,List.length_range];exact Nat.lt_of_le_of_lt (by lia:c.toNat≤1000) (by decide)
   ·rintro i x ys M' hx ⟨w,s',rfl,rfl,hw,hS⟩
    walk_at "rd"
    refine⟨by decide,fun r hr=>?_⟩
    have hM':=hS p _ a0c
    have hpr:p≠r:=b6U hM' hr
    refine⟨s',f,by rw[a0n hpr,hM'],by decide,by decide,fun c1 s1 hc0 hc1=>?_⟩
    simp only[a0n hpr.symm,a0c]
    have hcc:c1=0∨c1=1:=by lia
    have fin:∀ g:Int,(g=1∨g=-1)→∀ c2 s2:Int,0≤c2→c2 < n - 1→CMul g (1+c2)∧∃ w' s'',List.map T.int w++[T.int (g*(1+c2))]=List.map T.int w'∧w'.length=w.length+1∧a0f n w' ∧
      Sub (updM M p (.lst [.int s'',.bl f])) (updM (updM M' r (.lst [.int 1,.int (-1)])) p (.lst [.int s2,.bl f])):=by
     intro g hg c2 s2 h20 h21
     refine⟨.inl ⟨by lia,by lia⟩,w++[g*(1+c2)],s2,by simp,by simp,fun l hl=>?_,(hS.newr hr).set⟩
     rcases List.mem_append.mp hl with z | z
     ·exact hw l z
     ·have e:l=g*(1+c2):=by simpa using z
      subst e
      unfold a1w
      rcases hg with rfl | rfl
      ·rw[Int.one_mul];lia
      ·rw[Int.neg_one_mul];lia
    rcases hcc with rfl | rfl
    ·walk_at "rd"
     exact⟨s1,f,a0c,by lia,by lia,fun c2 s2 h20 h21=>by walk_at "rd";exact fin 1 (.inl rfl) c2 s2 h20 h21⟩
    ·walk_at "rd"
     exact⟨s1,f,a0c,by lia,by lia,fun c2 s2 h20 h21=>by walk_at "rd";exact fin (-1) (.inr rfl) c2 s2 h20 h21⟩
   ·rintro ys M' ⟨w,s',rfl,hl,hw,hS⟩ q hq
    have hlen:(w.length:Int)=c:=by
     rw[hl];unfold a0J;rw[List.length_map,List.length_range];lia
    exact a1K (h w s' hw (by lia) (fun _=>hlen)) (hS.newr hq)
 ·exact h.elim
noncomputable def a2F:Sp3:=fun ts M Q=>match ts with
 | [.adr p,.int a,.int b,.int c]=>∃ s f,M p=some (.lst [.int s,.bl f])∧a≤b∧0≤a∧b≤1000∧0≤c∧c < 1000∧∀ (n:Int) (w:List Int) s',a≤n→n≤b→a0f n w→(w.length:Int)≤c→Q (.tup [.int n,.tup (w.map .int)]) (updM M p (.lst [.int s',.bl f]))
 | _=>False
theorem a7w {P:Program} {w:World} {K:PySem.W.Frag} {mg:Str→Option Value} {base:Heap} {f:Addr} {fd:FuncData} {n:Nat}  (F:Fun K "_law_plait" "_law_plait" a1U f fd) (hm:mg "_law_plait"=some (.ref f)) (hb:a1x K fd ["state","least","most","letters"] []) (Z:Zs K mg) (D__law_choice:Df P w K mg base n "_law_choice" ["state","many"] a1r) (D__law_word:Df P w K mg base n "_law_word" ["state","strands","count"] a2W):Df P w K mg base (n+1) "_law_plait" ["state","least","most","letters"] a2F:=by
 refine F.dfn hm hb a4w (by intro ts M Q h;unfold a2F at h;first | (split at h<;>first | rfl | exact h.elim) | (obtain⟨_,_,_,_,_,rfl,_⟩:=h;rfl) | (obtain⟨_,_,_,_,rfl,_⟩:=h;rfl) | (obtain⟨_,_,_,rfl,_⟩:=h;rfl) | (obtain⟨_,_,rfl,_⟩:=h;rfl) | (obtain⟨_,rfl,_⟩:=h;rfl)) ⟨_,fun cdv A outer s H E hr=>(@a0d _ _ _ _ _ (@a0W _ _ _ _ 4 _ _ (@a0v _ _ _ _ _ _ _ _ a0M (@hv _ 1 _ _ (by rfl) (by walk_at "3") (by decide) (by decide)) (@a0o _ _ _ _ _ _ _ _ _ _ D__law_choice hr (@a0b _ _ _ _ _ (@hv _ 0 _ _ (by rfl) (by walk_at "3") (by decide) (by decide)) (@a0b _ _ _ _ _ (@a0v _ _ _ _ _ _ _ _ a0M (@a0v _ _ _ _ _ _ _ _ a2l (@hv _ 2 _ _ (by rfl) (by walk_at "3") (by decide) (by decide)) (@hv _ 1 _ _ (by rfl) (by walk_at "3") (by decide) (by decide))) a0g) a0h (by rfl)) (by rfl)) (by rfl) (by decide) (by rfl) (by rfl))) a4w.nd (by rfl) (by walk_at "2") (by rfl) (by walk_at "4")) (@a0i _ _ _ (@a1q _ _ _ _ (@b2V _ _ _ _ _ (@a0b _ _ _ _ _ (@hv _ 4 _ _ (by rfl) (by walk_at "3") (by decide) (by decide)) (@a0b _ _ _ _ _ (@a0o _ _ _ _ _ _ _ _ _ _ D__law_word hr (@a0b _ _ _ _ _ (@hv _ 0 _ _ (by rfl) (by walk_at "3") (by decide) (by decide)) (@a0b _ _ _ _ _ (@hv _ 4 _ _ (by rfl) (by walk_at "3") (by decide) (by decide)) (@a0b _ _ _ _ _ (@a0o _ _ _ _ _ _ _ _ _ _ D__law_choice hr (@a0b _ _ _ _ _ (@hv _ 0 _ _ (by rfl) (by walk_at "3") (by decide) (by decide)) (@a0b _ _ _ _ _ (@a0v _ _ _ _ _ _ _ _ a0M (@hv _ 3 _ _ (by rfl) (by walk_at "3") (by decide) (by decide)) a0g) a0h (by rfl)) (by rfl)) (by rfl) (by decide) (by rfl) (by rfl)) a0h (by rfl)) (by rfl)) (by rfl)) (by rfl) (by decide) (by rfl) (by rfl)) a0h (by rfl)) (by rfl)))))),fun ts M Q h=>?_⟩
 unfold a2F at h
 split at h
 ·rename_i p a b c
  obtain⟨s,f,hM,h1,h2,h3,h4,h5,h⟩:=h
  walk_at "rd"
  refine⟨s,f,hM,by lia,by lia,fun c1 s1 h10 h11=>?_⟩
  walk_at "rd"
  refine⟨s1,f,a0c,by lia,by lia,fun c2 s2 h20 h21=>?_⟩
  walk_at "rd"
  refine⟨s2,f,by simp only[a0c],by lia,by lia,by lia,fun w s3 hw hl _=>?_⟩
  walk_at "rd"
  exact⟨by decide,a0y (h _ _ _ (by lia) (by lia) hw (by lia))⟩
 ·exact h.elim
noncomputable def a2X:Sp3:=fun ts M Q=>match ts with
 | [.int n,.tup w,.int m]=>∃ ws:List Int,w=ws.map .int∧PlOK n ws∧3≤m∧m≤97∧∀ r as M',M r=none→Sub M M'→M' r=some (.lst (as.map T.adr))→a0C M' as (mdR m (minU n.toNat (shL (unR n.toNat) ws)))→Q (.adr r) M'
 | _=>False
theorem a9K {m:Int} {rs:List (List Int)} {k:Nat} {q:List Int} (h:(mdR m rs)[k]?=some q):q=(rs.getD k []).map (· % m):=by
 unfold mdR at h
 rw[List.getElem?_map] at h
 cases e:rs[k]? with
 | none=>rw[e] at h;cases h
 | some x =>
   rw[e] at h
   rw[List.getD_eq_getElem?_getD,e]
   exact (Option.some.inj h).symm
noncomputable def twM (m:Int) (a b:List Int):List Int:=List.zipWith (fun x y=>(2*x - y) % m) a b
theorem b1T (m:Int):∀ a b:List Int,twM m (a.map (· % m)) (b.map (· % m))=(tw2 a b).map (· % m)
 | [],_=>rfl
 | _ :: _,[]=>rfl
 | x :: a,y :: b=>by
   show (2*(x % m) - y % m) % m :: twM m (a.map (· % m)) (b.map (· % m))=(2*x - y) % m :: (tw2 a b).map (· % m)
   rw[b1T m a b,Int.sub_emod,Int.mul_emod,Int.emod_emod,Int.emod_emod,← Int.mul_emod,← Int.sub_emod]
theorem a5L (m:Int) (rs:List (List Int)) (k:Nat) (q:List Int):mdR m (rs.set k q)=(mdR m rs).set k (q.map (· % m)):=by
 unfold mdR;rw[List.map_set]
theorem b1U {m:Int} {a b:List Int} {i:Nat} {x y:Int} (hx:a[i]?=some x) (hy:b[i]?=some y):(twM m a b)[i]?=some ((2*x - y) % m):=by
 unfold twM
 rw[List.getElem?_zipWith,hx,hy]
theorem a8t {P:Program} {w:World} {K:PySem.W.Frag} {mg:Str→Option Value} {base:Heap} {f:Addr} {fd:FuncData} {n:Nat}  (F:Fun K "_law_rows" "_law_rows" a0R f fd) (hm:mg "_law_rows"=some (.ref f)) (hb:a1x K fd ["strands","word","prime"] []) (Z:Zs K mg) :Df P w K mg base (n+1) "_law_rows" ["strands","word","prime"] a2X:=by
 refine F.dfn hm hb a1z (by intro ts M Q h;unfold a2X at h;first | (split at h<;>first | rfl | exact h.elim) | (obtain⟨_,_,_,_,_,rfl,_⟩:=h;rfl) | (obtain⟨_,_,_,_,rfl,_⟩:=h;rfl) | (obtain⟨_,_,_,rfl,_⟩:=h;rfl) | (obtain⟨_,_,rfl,_⟩:=h;rfl) | (obtain⟨_,rfl,_⟩:=h;rfl)) ⟨_,fun cdv A outer s H E hr=>(@a0d _ _ _ _ _ (@a0W _ _ _ _ 3 _ _ (@a2h _ _ _ _ _ _ _ _ _ _ _ _ _ _ rfl (@a2q _ _ _ _ _ _ Z.b_range (@a0b _ _ _ _ _ (@hv _ 0 _ _ (by rfl) (by walk_at "3") (by decide) (by decide)) a0h (by rfl)) (by rfl) (by rfl)) (@a0w _ (a0a a0R) _ (["strands","word","prime","rows","letter","at","one","other","row"]) (["row","strands"]) ([none,some 0]) (by decide +kernel) rfl rfl) a1o (fun _ _ _ _ _=>@a0z _ _ 0 _ (show List.Nodup (["row","strands"]:List Str) by decide +kernel) rfl (Or.inr rfl) (Or.inl rfl)) (fun _ _ _ _ _=>a1Q) (fun _ _ _ _ _=>(@a2h _ _ _ _ _ _ _ _ _ _ _ _ _ _ rfl (@a2q _ _ _ _ _ _ Z.b_range (@a0b _ _ _ _ _ (@hv _ 1 _ _ (by rfl) (by walk_at "3") (by decide) (by decide)) a0h (by rfl)) (by rfl) (by rfl)) (@a5f _ (a0a a0R) _ _ (["row","strands"]) (["column","row"]) _ ([none,some 0]) _ _ _ _ _ (by decide +kernel) rfl rfl) a1o (fun _ _ _ _ _=>@a0z _ _ 0 _ (show List.Nodup (["column","row"]:List Str) by decide +kernel) rfl (Or.inl rfl) (Or.inr rfl)) (fun _ _ _ _ _=>a1Q) (fun _ _ _ _ _=>(@a4X _ _ _ _ _ _ _ _ _ a6g Z.b_int PyProof.Rows.boot_int (@a0b _ _ _ _ _ (@a9P _ _ _ _ _ _ _ _ (@a4f _ hr.units) (@hv _ 1 _ _ (by rfl) (by walk_at "3") (by decide) (by decide)) (@hv _ 0 _ _ (by rfl) (by walk_at "3") (by decide) (by decide)) (@a1k _ _ (by decide) (by decide))) a0h (by rfl)) (by rfl) (by decide) (by decide) (by rfl) (by rfl))) (by intro _;rfl))) (by intro _;rfl)) a1z.nd (by rfl) (by walk_at "2") (by rfl) (by walk_at "4")) (@a0d _ _ _ _ _ (@a4P _ _ _ _ _ _ _ _ PassesOwn.never rfl (@a3d _ _ _ _ (@hv _ 1 _ _ (by rfl) (by walk_at "3") (by decide) (by decide))) (@a2u _ _ 4 _ a1z.nd (by rfl) (by walk_at "2") (by walk_at "4")) (@a0d _ _ _ _ _ (@a0W _ _ _ _ 5 _ _ (@a0v _ _ _ _ _ _ _ _ a2l (@a1M _ _ _ _ _ _ _ _ _ a3N Z.b_abs PyProof.Rows.boot_abs (@a0b _ _ _ _ _ (@hv _ 4 _ _ (by rfl) (by walk_at "3") (by decide) (by decide)) a0h (by rfl)) (by rfl) (by decide) (by decide) (by rfl) (by rfl)) a0g) a1z.nd (by rfl) (by walk_at "2") (by rfl) (by walk_at "4")) (@a0d _ _ _ _ _ (@a0W _ _ _ _ 6 _ _ (@h_ix _ _ _ _ _ _ (@hv _ 3 _ _ (by rfl) (by walk_at "3") (by decide) (by decide)) (@hv _ 5 _ _ (by rfl) (by walk_at "3") (by decide) (by decide)) (by intro _ _;rfl)) a1z.nd (by rfl) (by walk_at "2") (by rfl) (by walk_at "4")) (@a0d _ _ _ _ _ (@a0W _ _ _ _ 7 _ _ (@h_ix _ _ _ _ _ _ (@hv _ 3 _ _ (by rfl) (by walk_at "3") (by decide) (by decide)) (@a0v _ _ _ _ _ _ _ _ a0M (@hv _ 5 _ _ (by rfl) (by walk_at "3") (by decide) (by decide)) a0g) (by intro _ _;rfl)) a1z.nd (by rfl) (by walk_at "2") (by rfl) (by walk_at "4")) (@a0i _ _ _ (@s_if _ _ _ _ _ _ _ _ (@a2f _ _ _ _ _ _ _ _ a6B (@hv _ 4 _ _ (by rfl) (by walk_at "3") (by decide) (by decide)) a0g (@a1k _ _ (by decide) (by decide))) (@a0d _ _ _ _ _ (@a5C _ _ _ _ _ _ (@hv _ 7 _ _ (by rfl) (by walk_at "3") (by decide) (by decide)) (@a5V _ _ _ _ _ _ (@hv _ 3 _ _ (by rfl) (by walk_at "3") (by decide) (by decide)) (@hv _ 5 _ _ (by rfl) (by walk_at "3") (by decide) (by decide)) (by intro _;rfl)) (by rfl) (by rfl) (by rfl)) (@a0i _ _ _ (@a5C _ _ _ _ _ _ (@a2h _ _ _ _ _ _ _ _ _ _ _ _ _ _ rfl (@b2Q _ _ _ _ _ _ _ _ _ Z.b_zip (@a0b _ _ _ _ _ (@hv _ 6 _ _ (by rfl) (by walk_at "3") (by decide) (by decide)) (@a0b _ _ _ _ _ (@hv _ 7 _ _ (by rfl) (by walk_at "3") (by decide) (by decide)) a0h (by rfl)) (by rfl)) (by rfl) (by rfl) (by rfl)) (@a0w _ (a0a a0R) _ (["strands","word","prime","rows","letter","at","one","other","row"]) (["a","b","prime"]) ([none,none,some 2]) (by decide +kernel) rfl rfl) a5e (fun _ _ _ _ _=>a5F rfl (@a1J _ _ _ _ _ (@a0z _ _ 0 _ (show List.Nodup (["a","b","prime"]:List Str) by decide +kernel) rfl (Or.inl rfl) (Or.inr rfl)) (@a1J _ _ _ _ _ (@a0z _ _ 1 _ (show List.Nodup (["a","b","prime"]:List Str) by decide +kernel) rfl (Or.inl rfl) (Or.inr rfl)) a4k (by rfl)) (by rfl))) (fun _ _ _ _ _=>a1Q) (fun _ _ _ _ _=>(@a0v _ _ _ _ _ _ _ _ a1L (@a0v _ _ _ _ _ _ _ _ a2l (@a0v _ _ _ _ _ _ _ _ a2d a0g (@hv _ 1 _ _ (by rfl) (by walk_at "3") (by decide) (by decide))) (@hv _ 0 _ _ (by rfl) (by walk_at "3") (by decide) (by decide))) (@hv _ 2 _ _ (by rfl) (by walk_at "3") (by decide) (by decide)))) (by intro _;rfl)) (@a5V _ _ _ _ _ _ (@hv _ 3 _ _ (by rfl) (by walk_at "3") (by decide) (by decide)) (@a0v _ _ _ _ _ _ _ _ a0M (@hv _ 5 _ _ (by rfl) (by walk_at "3") (by decide) (by decide)) a0g) (by intro _;rfl)) (by rfl) (by rfl) (by rfl)))) (@a0d _ _ _ _ _ (@a5C _ _ _ _ _ _ (@a2h _ _ _ _ _ _ _ _ _ _ _ _ _ _ rfl (@b2Q _ _ _ _ _ _ _ _ _ Z.b_zip (@a0b _ _ _ _ _ (@hv _ 6 _ _ (by rfl) (by walk_at "3") (by decide) (by decide)) (@a0b _ _ _ _ _ (@hv _ 7 _ _ (by rfl) (by walk_at "3") (by decide) (by decide)) a0h (by rfl)) (by rfl)) (by rfl) (by rfl) (by rfl)) (@a0w _ (a0a a0R) _ (["strands","word","prime","rows","letter","at","one","other","row"]) (["a","b","prime"]) ([none,none,some 2]) (by decide +kernel) rfl rfl) a5e (fun _ _ _ _ _=>a5F rfl (@a1J _ _ _ _ _ (@a0z _ _ 0 _ (show List.Nodup (["a","b","prime"]:List Str) by decide +kernel) rfl (Or.inl rfl) (Or.inr rfl)) (@a1J _ _ _ _ _ (@a0z _ _ 1 _ (show List.Nodup (["a","b","prime"]:List Str) by decide +kernel) rfl (Or.inl rfl) (Or.inr rfl)) a4k (by rfl)) (by rfl))) (fun _ _ _ _ _=>a1Q) (fun _ _ _ _ _=>(@a0v _ _ _ _ _ _ _ _ a1L (@a0v _ _ _ _ _ _ _ _ a2l (@a0v _ _ _ _ _ _ _ _ a2d a0g (@hv _ 0 _ _ (by rfl) (by walk_at "3") (by decide) (by decide))) (@hv _ 1 _ _ (by rfl) (by walk_at "3") (by decide) (by decide))) (@hv _ 2 _ _ (by rfl) (by walk_at "3") (by decide) (by decide)))) (by intro _;rfl)) (@a5V _ _ _ _ _ _ (@hv _ 3 _ _ (by rfl) (by walk_at "3") (by decide) (by decide)) (@hv _ 5 _ _ (by rfl) (by walk_at "3") (by decide) (by decide)) (by intro _;rfl)) (by rfl) (by rfl) (by rfl)) (@a0i _ _ _ (@a5C _ _ _ _ _ _ (@hv _ 6 _ _ (by rfl) (by walk_at "3") (by decide) (by decide)) (@a5V _ _ _ _ _ _ (@hv _ 3 _ _ (by rfl) (by walk_at "3") (by decide) (by decide)) (@a0v _ _ _ _ _ _ _ _ a0M (@hv _ 5 _ _ (by rfl) (by walk_at "3") (by decide) (by decide)) a0g) (by intro _;rfl)) (by rfl) (by rfl) (by rfl))))))))) (by intro _;rfl)) (@a0d _ _ _ _ _ (@a4P _ _ _ _ _ _ _ _ PassesOwn.never rfl (@a2q _ _ _ _ _ _ Z.b_range (@a0b _ _ _ _ _ (@hv _ 0 _ _ (by rfl) (by walk_at "3") (by decide) (by decide)) a0h (by rfl)) (by rfl) (by rfl)) (@a2u _ _ 8 _ a1z.nd (by rfl) (by walk_at "2") (by walk_at "4")) (@a0i _ _ _ (@a5C _ _ _ _ _ _ (@a2h _ _ _ _ _ _ _ _ _ _ _ _ _ _ rfl (@a2q _ _ _ _ _ _ Z.b_range (@a0b _ _ _ _ _ (@hv _ 0 _ _ (by rfl) (by walk_at "3") (by decide) (by decide)) a0h (by rfl)) (by rfl) (by rfl)) (@a0w _ (a0a a0R) _ (["strands","word","prime","rows","letter","at","one","other","row"]) (["k","rows","row","prime"]) ([none,some 3,some 8,some 2]) (by decide +kernel) rfl rfl) a1o (fun _ _ _ _ _=>@a0z _ _ 0 _ (show List.Nodup (["k","rows","row","prime"]:List Str) by decide +kernel) rfl (Or.inl rfl) (Or.inr rfl)) (fun _ _ _ _ _=>a1Q) (fun _ _ _ _ _=>(@a0v _ _ _ _ _ _ _ _ a1L (@a0v _ _ _ _ _ _ _ _ a2l (@h_ix _ _ _ _ _ _ (@h_ix _ _ _ _ _ _ (@hv _ 1 _ _ (by rfl) (by walk_at "3") (by decide) (by decide)) (@hv _ 2 _ _ (by rfl) (by walk_at "3") (by decide) (by decide)) (by intro _ _;rfl)) (@hv _ 0 _ _ (by rfl) (by walk_at "3") (by decide) (by decide)) (by intro _ _;rfl)) (@a4X _ _ _ _ _ _ _ _ _ a6g Z.b_int PyProof.Rows.boot_int (@a0b _ _ _ _ _ (@a9P _ _ _ _ _ _ _ _ (@a4f _ hr.units) (@hv _ 0 _ _ (by rfl) (by walk_at "3") (by decide) (by decide)) (@hv _ 2 _ _ (by rfl) (by walk_at "3") (by decide) (by decide)) (@a1k _ _ (by decide) (by decide))) a0h (by rfl)) (by rfl) (by decide) (by decide) (by rfl) (by rfl))) (@hv _ 3 _ _ (by rfl) (by walk_at "3") (by decide) (by decide)))) (by intro _;rfl)) (@a5V _ _ _ _ _ _ (@hv _ 3 _ _ (by rfl) (by walk_at "3") (by decide) (by decide)) (@hv _ 8 _ _ (by rfl) (by walk_at "3") (by decide) (by decide)) (by intro _;rfl)) (by rfl) (by rfl) (by rfl))) (by intro _;rfl)) (@a0i _ _ _ (@a1q _ _ _ _ (@hv _ 3 _ _ (by rfl) (by walk_at "3") (by decide) (by decide))))))),fun ts M Q h=>?_⟩
 unfold a2X at h
 split at h
 ·rename_i n w m
  obtain⟨ws,rfl,⟨n1,n6,hl,hw⟩,m3,m97,h⟩:=h
  have hwn:a0f (n.toNat:Nat) ws:=by rw[show ((n.toNat:Nat):Int)=n by lia];exact hw
  refine a0E fun K1 hK1=>?_
  walk_at "rd"
  refine⟨by lia,by lia,fun i ys M'=>(∃ as:List Addr,ys=as.map T.adr∧as.length=i∧a0C M' as ((unR n.toNat).take i))∧Sub M M',⟨⟨[],rfl,rfl,a0C.nil⟩,Sub.refl⟩,fun _ _ _ _=>trivial,by rw[a0e];exact a0t (by lia),?_,?_⟩
  ·rintro i x ys M' hx ⟨⟨as,rfl,hal,has⟩,hS⟩
   obtain⟨hi,rfl⟩:=a1n hx
   have hun:=b1S hi
   refine⟨by lia,by lia,fun j zs M2=>zs=(((List.range n.toNat).map fun j=>if i=j then (1:Int) else 0).take j).map T.int∧M2=M',⟨rfl,rfl⟩,fun _ _ _ _=>trivial,by rw[a0e];exact a0t (by lia),?_,?_⟩
   ·rintro j y zs M2 hy ⟨rfl,rfl⟩
    obtain⟨hj,rfl⟩:=a1n hy
    dsimp only
    refine⟨by rw[a3F],by rw[a3F],by rw[a2G];decide,?_⟩
    refine⟨?_,rfl⟩
    have ej:((List.range n.toNat).map fun j=>if i=j then (1:Int) else 0)[j]?=some (if i=j then 1 else 0):=by
     rw[List.getElem?_map,List.getElem?_range hj];rfl
    rw[← a0D ej,List.map_append,a3K]
    by_cases z:i=j
    ·rw[if_pos z,if_pos (decide_eq_true (by rw[z]))];rfl
    ·rw[if_neg z,if_neg (by rw[decide_eq_true_eq];lia)];rfl
   ·rintro zs M2 ⟨rfl,rfl⟩ p hp
    rw[a0e,List.take_of_length_le (by rw[List.length_map,List.length_range];exact Nat.le_refl _)]
    have hX:=Sub.new hp (o:=MO.lst (((List.range n.toNat).map fun j=>if i=j then (1:Int) else 0).map T.int))
    refine⟨⟨as++[p],by rw[List.map_append];rfl,by rw[List.length_append,hal];rfl,?_⟩,hS.trans hX⟩
    rw[← a0D hun]
    exact (has.sub hX).snoc a0c
  ·rintro ys M' ⟨⟨as,rfl,hal,has⟩,hS⟩ r hr
   rw[a0e,List.take_of_length_le (by rw[a9o];exact Nat.le_refl _)] at has
   have hX:=Sub.new hr (o:=MO.lst (as.map T.adr))
   have hr0:M r=none:=a3G hS hr
   have hmd0:mdR m (shL (unR n.toNat) (ws.take 0))=unR n.toNat:=by
    show mdR m (unR n.toNat)=_
    unfold mdR
    conv=>rhs;rw[← List.map_id (unR n.toNat)]
    refine List.map_congr_left fun r hr=>?_
    conv=>rhs;rw[show id r=r from rfl,← List.map_id r]
    refine List.map_congr_left fun x hx=>?_
    have:=((a6s n.toNat).2 r hr).2 x hx
    have hx01:x=0∨x=1:=by
     unfold unR at hr
     obtain⟨i,_,rfl⟩:=List.mem_map.mp hr
     obtain⟨j,_,rfl⟩:=List.mem_map.mp hx
     split
     ·exact .inr rfl
     ·exact .inl rfl
    show x % m=x
    exact Int.emod_eq_of_lt (by lia) (by lia)
   have hok:a0C (updM M' r (MO.lst (as.map T.adr))) as (mdR m (shL (unR n.toNat) (ws.take 0))):=by rw[hmd0];exact has.sub hX
   have hMr:(updM M' r (MO.lst (as.map T.adr))) r=some (.lst (as.map T.adr)):=a0c
   have hS1:=hS.trans hX
   generalize updM M' r (MO.lst (as.map T.adr))=M1 at hok hMr hS1⊢
   clear hX hr has hS hmd0
   rw[hK1];clear hK1
   refine a0E fun K2 hK2=>?_
   refine a2m fun B hB=>?_
   unfold a4d
   walk_at "rd"
   refine⟨fun i ρ M2=>(∃ x4 x5 x6 x7 x8,ρ=[some (T.int n),some (T.tup (List.map T.int ws)),some (T.int m),some (T.adr r),x4,x5,x6,x7,x8])∧(∃ as:List Addr,M2 r=some (.lst (as.map T.adr))∧a0C M2 as (mdR m (shL (unR n.toNat) (ws.take i))))∧Sub M M2,⟨⟨_,_,_,_,_,rfl⟩,⟨as,hMr,hok⟩,hS1⟩,fun _ _ _ _=>trivial,?_,?_⟩
   ·rintro i x ρ M2 hx ⟨⟨x4,x5,x6,x7,x8,rfl⟩,⟨as,hMr,hok⟩,hS⟩
    obtain⟨l,hx2,rfl⟩:=a0q hx
    obtain⟨hl1,hl2⟩:=hw l (List.mem_of_getElem? hx2)
    obtain⟨k,hk⟩:∃ k:Nat,l.natAbs=k+1:=⟨l.natAbs - 1,by lia⟩
    have hrb:=a6v (a6s n.toNat) (ws:=ws.take i) fun y hy=>hwn y (List.mem_of_mem_take hy)
    have hsn:shL (unR n.toNat) (ws.take (i+1))=sh1 (shL (unR n.toNat) (ws.take i)) l:=by rw[← a0D hx2,b0p]
    generalize shL (unR n.toNat) (ws.take i)=R at hok hrb hsn
    have hml:(mdR m R).length=n.toNat:=by unfold mdR;rw[List.length_map];exact hrb.1
    have hal:=hok.1.trans hml
    obtain⟨a,ea⟩:∃ a,as[k]?=some a:=⟨_,List.getElem?_eq_getElem (by lia)⟩
    obtain⟨b,eb⟩:∃ b,as[k+1]?=some b:=⟨_,List.getElem?_eq_getElem (by lia)⟩
    have aa:atI (as.map T.adr) (k:Int)=some (.adr a):=a0N (by rw[List.getElem?_map,ea];rfl)
    have ab:atI (as.map T.adr) ((k:Int)+1)=some (.adr b):=by
     rw[show (k:Int)+1=((k+1:Nat):Int) by lia]
     exact a0N (by rw[List.getElem?_map,eb];rfl)
    obtain⟨ia,ra,ma⟩:=hok.get ea
    obtain⟨ib,rb,mb⟩:=hok.get eb
    have eia:=a9K ra
    have eib:=a9K rb
    have la:=(hrb.row (k:=k) (by lia)).1
    have lb:=(hrb.row (k:=k+1) (by lia)).1
    have lia':ia.length=n.toNat:=by rw[eia,List.length_map];exact la
    have lib':ib.length=n.toNat:=by rw[eib,List.length_map];exact lb
    have inm:∀ (x:Int),x∈ia∨x∈ib→0≤x∧x < m:=fun x hx=>by
     rcases hx with z | z
     ·rw[eia] at z
      obtain⟨y,_,rfl⟩:=List.mem_map.mp z
      exact⟨Int.emod_nonneg _ (by lia),Int.emod_lt_of_pos _ (by lia)⟩
     ·rw[eib] at z
      obtain⟨y,_,rfl⟩:=List.mem_map.mp z
      exact⟨Int.emod_nonneg _ (by lia),Int.emod_lt_of_pos _ (by lia)⟩
    have esh:mdR m (sh1 R l)=if l > 0 then ((mdR m R).set k ib).set (k+1) (twM m ib ia) else ((mdR m R).set k (twM m ia ib)).set (k+1) ia:=by
     unfold sh1
     rw[hk,Nat.add_sub_cancel]
     split
     ·rw[a5L,a5L,eia,eib,b1T]
     ·rw[a5L,a5L,eia,eib,b1T]
    have esh':mdR m (shL (unR n.toNat) (ws.take (i+1)))=if l > 0 then ((mdR m R).set k ib).set (k+1) (twM m ib ia) else ((mdR m R).set k (twM m ia ib)).set (k+1) ia:=by rw[hsn,esh]
    have hne:as≠[]:=fun z=>by rw[z] at ea;cases ea
    have hra:=hok.ne hMr hne
    have har:a≠r:=fun z=>hra (by rw[← z];exact List.mem_of_getElem? ea)
    have hbr:b≠r:=fun z=>hra (by rw[← z];exact List.mem_of_getElem? eb)
    have hkl:((k:Nat):Int) < ((as.map T.adr).length:Nat):=by rw[List.length_map];lia
    rw[hB];clear hB
    refine a5r fun K3 hK3=>?_
    walk_at "rd"
    rw[hk,show ((k+1:Nat):Int) - 1=(k:Int) by lia,hMr]
    dsimp only
    rw[aa,ab]
    dsimp only
    rw[hK3];clear hK3
    walk_at "rd"
    have hl0:(zpT (ia.map T.int) (ib.map T.int)).length=n.toNat:=by rw[a4i (by rw[List.length_map,List.length_map,lia',lib']),List.length_map,lia']
    have lenM:∀ u v:List Int,u.length=n.toNat→v.length=n.toNat→(twM m u v).length=n.toNat:=fun u v h1 h2=>by unfold twM;rw[List.length_zipWith,h1,h2,Nat.min_self]
    refine ite2 (fun c=>?_) (fun c=>?_)
    ·rw[hMr]
     dsimp only
     rw[a3c (by lia) hkl]
     dsimp only
     rw[show ((k:Nat):Int).toNat=k by lia]
     have e1:(as.map T.adr).set k (T.adr b)=(as.set k b).map T.adr:=by rw[List.map_set]
     rw[e1]
     have hok4:=hok.upd hra (o:=.lst ((as.set k b).map T.adr))
     have mr4:updM M2 r (.lst ((as.set k b).map T.adr)) r=some (.lst ((as.set k b).map T.adr)):=a0c
     have ma4:updM M2 r (.lst ((as.set k b).map T.adr)) a=some (.lst (ia.map .int)):=by rw[a0n har];exact ma
     have mb4:updM M2 r (.lst ((as.set k b).map T.adr)) b=some (.lst (ib.map .int)):=by rw[a0n hbr];exact mb
     have hS4:=hS.updF hr0 (o:=.lst ((as.set k b).map T.adr))
     generalize updM M2 r (.lst ((as.set k b).map T.adr))=M4 at hok4 mr4 ma4 mb4 hS4⊢
     rw[ma4,mb4]
     dsimp only
     refine⟨by rw[List.length_map,List.length_map,lia',lib'],fun i ys M'=>ys=((twM m ib ia).take i).map T.int∧M'=M4,⟨rfl,rfl⟩,?_,by rw[hl0];exact a0t (by lia),?_,?_⟩
     ·rintro i ys M' ⟨_,rfl⟩
      exact⟨ma4,mb4⟩
     ·rintro i x ys M' hx ⟨rfl,rfl⟩
      obtain⟨t,u,ht,hu,rfl⟩:=a4H hx
      obtain⟨x,hx2,rfl⟩:=a0q ht
      obtain⟨y,hy2,rfl⟩:=a0q hu
      have bx:=inm x (.inl (List.mem_of_getElem? hx2))
      have by':=inm y (.inr (List.mem_of_getElem? hy2))
      walk_at "rd"
      refine⟨.inl ⟨by decide,by decide⟩,by lia,?_⟩
      rw[← a0D (b1U (m:=m) hy2 hx2),List.map_append];rfl
     ·rintro ys M' ⟨rfl,rfl⟩ q hq
      rw[hl0,List.take_of_length_le (by rw[lenM _ _ lib' lia'];exact Nat.le_refl _)]
      have hqr:q≠r:=fun z=>by rw[z,mr4] at hq;cases hq
      rw[a0n hqr.symm,mr4]
      dsimp only
      rw[a3c (by lia) (by rw[List.length_map,List.length_set];lia)]
      dsimp only
      rw[show ((k:Nat):Int)+1=((k+1:Nat):Int) by lia,show ((k+1:Nat):Int).toNat=k+1 by lia]
      have hX:=Sub.new hq (o:=.lst ((twM m ib ia).map .int))
      have e2:((as.set k b).map T.adr).set (k+1) (T.adr q)=((as.set k b).set (k+1) q).map T.adr:=by simp only[List.map_set]
      rw[e2]
      rw[esh',if_pos c]
      exact⟨⟨_,_,_,_,_,rfl⟩,⟨_,rfl,a0C.upd (((hok4.sub hX).set (hX _ _ mb4)).set a0c) (a3V hra hbr hqr)⟩,(hS4.newr hq).updF hr0⟩
    ·rw[ma,mb]
     dsimp only
     refine⟨by rw[List.length_map,List.length_map,lia',lib'],fun i ys M'=>ys=((twM m ia ib).take i).map T.int∧M'=M2,⟨rfl,rfl⟩,?_,by rw[hl0];exact a0t (by lia),?_,?_⟩
     ·rintro i ys M' ⟨_,rfl⟩
      exact⟨ma,mb⟩
     ·rintro i x ys M' hx ⟨rfl,rfl⟩
      obtain⟨t,u,ht,hu,rfl⟩:=a4H hx
      obtain⟨x,hx2,rfl⟩:=a0q ht
      obtain⟨y,hy2,rfl⟩:=a0q hu
      walk_at "rd"
      refine⟨.inl ⟨by decide,by decide⟩,by lia,?_⟩
      rw[← a0D (b1U (m:=m) hx2 hy2),List.map_append];rfl
     ·rintro ys M' ⟨rfl,rfl⟩ q hq
      rw[hl0,List.take_of_length_le (by rw[lenM _ _ lia' lib'];exact Nat.le_refl _)]
      have hqr:q≠r:=fun z=>by rw[z,hMr] at hq;cases hq
      have haq:a≠q:=fun z=>by rw[← z,ma] at hq;cases hq
      rw[a0n hqr.symm,hMr]
      dsimp only
      rw[a3c (by lia) hkl]
      dsimp only
      rw[show ((k:Nat):Int).toNat=k by lia]
      rw[a3c (by lia) (by rw[List.length_set,List.length_map];lia)]
      dsimp only
      rw[show ((k:Nat):Int)+1=((k+1:Nat):Int) by lia,show ((k+1:Nat):Int).toNat=k+1 by lia]
      have hX:=Sub.new hq (o:=.lst ((twM m ia ib).map .int))
      have e2:((as.map T.adr).set k (T.adr q)).set (k+1) (T.adr a)=((as.set k q).set (k+1) a).map T.adr:=by rw[List.map_set,List.map_set]
      rw[e2,esh',if_neg c]
      exact⟨⟨_,_,_,_,_,rfl⟩,⟨_,rfl,a0C.upd (((hok.sub hX).set a0c).set (hX _ _ ma)) (a3V hra hqr har)⟩,(hS.newr hq).updF hr0⟩
   ·rintro ρ M2 ⟨⟨x4,x5,x6,x7,x8,rfl⟩,⟨as,hMr,hok⟩,hS⟩
    first | rw[List.length_map,List.take_length] at hok | rw[List.take_length] at hok
    have hrb:=a6v (a6s n.toNat) (ws:=ws) hwn
    generalize shL (unR n.toNat) ws=R at hok hrb h
    rw[hK2];clear hK2
    refine a0E fun K4 hK4=>?_
    refine a2m fun B2 hB2=>?_
    unfold a4d
    walk_at "rd"
    have hlenK:∀ i,(mdR m (minK i R)).length=n.toNat:=fun i=>by unfold mdR;rw[List.length_map,a3W];exact hrb.1
    refine⟨by lia,by lia,fun i ρ M3=>(∃ x4 x5 x6 x7 x8,ρ=[some (T.int n),some (T.tup (List.map T.int ws)),some (T.int m),some (T.adr r),x4,x5,x6,x7,x8])∧(∃ as:List Addr,M3 r=some (.lst (as.map T.adr))∧a0C M3 as (mdR m (minK i R)))∧Sub M M3,⟨⟨_,_,_,_,_,rfl⟩,⟨as,hMr,by rw[a8z];exact hok⟩,hS⟩,fun _ _ _ _=>trivial,?_,?_⟩
    ·rintro i x ρ M3 hx ⟨⟨x4,x5,x6,x7,x8,rfl⟩,⟨as,hMr,hok⟩,hS⟩
     obtain⟨hi,rfl⟩:=a1n hx
     have hal:=hok.1.trans (hlenK i)
     obtain⟨a,ea⟩:∃ a,as[i]?=some a:=⟨_,List.getElem?_eq_getElem (by lia)⟩
     have aa:atI (as.map T.adr) (i:Int)=some (.adr a):=a0N (by rw[List.getElem?_map,ea];rfl)
     obtain⟨is,eis,ma⟩:=hok.get ea
     have hiR:i < R.length:=by rw[hrb.1];exact hi
     obtain⟨q0,eq0⟩:∃ q0,R[i]?=some q0:=⟨_,List.getElem?_eq_getElem hiR⟩
     have eis2:=a9K eis
     have emk:(minK i R).getD i []=q0:=by
      rw[List.getD_eq_getElem?_getD,a4A hiR,if_neg (Nat.lt_irrefl i),List.getD_eq_getElem?_getD,eq0];rfl
     rw[emk] at eis2
     have lq:q0.length=n.toNat:=(hrb.2 q0 (List.mem_of_getElem? eq0)).1
     have hne:as≠[]:=fun z=>by rw[z] at ea;cases ea
     have hra:=hok.ne hMr hne
     have enew:mdR m (minK (i+1) R)=(mdR m (minK i R)).set i ((q0.set i (q0.getD i 0 - 1)).map (· % m)):=by rw[a8A eq0,a5L]
     have egt:∀ j,j < n.toNat→((q0.set i (q0.getD i 0 - 1)).map (· % m))[j]?=some ((q0.getD j 0 - if j=i then 1 else 0) % m):=fun j hj=>by
      rw[List.getElem?_map,List.getElem?_set]
      by_cases z:i=j
      ·subst z
       rw[if_pos rfl,if_pos (by lia),if_pos rfl];rfl
      ·rw[if_neg z,if_neg (fun y=>z y.symm),List.getElem?_eq_getElem (by lia:j < q0.length),List.getD_eq_getElem?_getD,List.getElem?_eq_getElem (by lia:j < q0.length)]
       show some (q0[j] % m)=some ((q0[j] - 0) % m)
       rw[Int.sub_zero]
     have hnl:((q0.set i (q0.getD i 0 - 1)).map (· % m)).length=n.toNat:=by rw[List.length_map,List.length_set];exact lq
     generalize (q0.set i (q0.getD i 0 - 1)).map (· % m)=N at enew egt hnl
     rw[hB2];clear hB2
     walk_at "rd"
     refine⟨by lia,by lia,fun j ys M'=>ys=(N.take j).map T.int∧M'=M3,⟨rfl,rfl⟩,fun _ _ _ _=>trivial,by rw[a0e];exact a0t (by lia),?_,?_⟩
     ·rintro j y ys M' hy ⟨rfl,rfl⟩
      obtain⟨hj,rfl⟩:=a1n hy
      have eat:atI (is.map T.int) (j:Int)=some (.int (q0.getD j 0 % m)):=a0N (by
       rw[List.getElem?_map,eis2,List.getElem?_map,List.getElem?_eq_getElem (by lia:j < q0.length),List.getD_eq_getElem?_getD,List.getElem?_eq_getElem (by lia:j < q0.length)];rfl)
      rw[hMr]
      dsimp only
      rw[aa]
      dsimp only
      rw[ma]
      dsimp only
      rw[eat]
      dsimp only
      refine⟨rfl,by rw[a2G];decide,by lia,?_,rfl⟩
      have ed:(if eqT (T.int (j:Nat)) (T.int (i:Nat))=true then (1:Int) else 0)=if j=i then 1 else 0:=by
       rw[a3K]
       by_cases z:j=i
       ·rw[if_pos z,if_pos (decide_eq_true (by rw[z]))]
       ·rw[if_neg z,if_neg (by rw[decide_eq_true_eq];lia)]
      rw[ed,show ((q0.getD j 0 % m - if j=i then 1 else 0) % m:Int)=(q0.getD j 0 - if j=i then 1 else 0) % m by rw[Int.sub_emod,Int.emod_emod,← Int.sub_emod],← a0D (egt j hj),List.map_append];rfl
     ·rintro ys M' ⟨rfl,rfl⟩ q hq
      rw[a0e,List.take_of_length_le (by rw[hnl];exact Nat.le_refl _)]
      have hqr:q≠r:=fun z=>by rw[z,hMr] at hq;cases hq
      rw[a0n hqr.symm,hMr]
      dsimp only
      rw[a3c (by lia) (by rw[List.length_map];lia)]
      dsimp only
      rw[show ((i:Nat):Int).toNat=i by lia]
      have hX:=Sub.new hq (o:=.lst (N.map .int))
      have e2:(as.map T.adr).set i (T.adr q)=(as.set i q).map T.adr:=by rw[List.map_set]
      have hnr:r ∉ as.set i q:=fun z=>by
       rcases List.mem_or_eq_of_mem_set z with z | z
       ·exact hra z
       ·exact hqr z.symm
      rw[e2,enew]
      exact⟨⟨_,_,_,_,_,rfl⟩,⟨_,rfl,a0C.upd ((hok.sub hX).set a0c) hnr⟩,(hS.newr hq).updF hr0⟩
    ·rintro ρ M3 ⟨⟨x4,x5,x6,x7,x8,rfl⟩,⟨as,hMr,hok⟩,hS⟩
     rw[hK4]
     walk_at "rd"
     rw[a0e,b0G hrb.1] at hok
     exact a0y (h r as M3 hr0 hS hMr hok)
 ·exact h.elim
noncomputable def a2Y:Sp3:=fun ts M Q=>match ts with
 | [.adr d,.int m]=>∃ (as:List Addr) (n:Nat) (rows:List (List Int)),M d=some (.lst (as.map .adr))∧a0C M as rows∧rows.length=n∧InR m n rows∧n≤6∧3≤m∧m≤97∧Q (.int (frL m n 0 rows:Nat)) M
 | _=>False
theorem b7j {p:Int} {k c:Nat} {rows:List (List Int)} (h:rows.filter (fun r=>decide (r.getD c 0≠0))=[]):frL p (k+1) c rows=frL p k (c+1) rows+1:=by
 conv=>lhs;unfold frL
 rw[h]
theorem b4Z {p:Int} {k c:Nat} {rows t:List (List Int)} {f:List Int} (h:rows.filter (fun r=>decide (r.getD c 0≠0))=f :: t):frL p (k+1) c rows=frL p k (c+1) (elR p c rows f t):=by
 conv=>lhs;unfold frL
 rw[h]
theorem b0N (p:List Int→Prop) [DecidablePred p]:∀ rs:List (List Int),rs.length=(rs.filter fun r=>decide (p r)).length+(rs.filter fun r=>decide (¬p r)).length
 | []=>rfl
 | r :: rs=>by
   have ih:=b0N p rs
   by_cases h:p r
   ·rw[List.filter_cons,if_pos (decide_eq_true h),List.filter_cons,if_neg (by rw[decide_eq_true_eq];exact fun z=>z h),List.length_cons,List.length_cons];lia
   ·rw[List.filter_cons,if_neg (by rw[decide_eq_true_eq];exact h),List.filter_cons,if_pos (decide_eq_true h),List.length_cons,List.length_cons];lia
theorem a8u {P:Program} {w:World} {K:PySem.W.Frag} {mg:Str→Option Value} {base:Heap} {f:Addr} {fd:FuncData} {n:Nat}  (F:Fun K "_law_free" "_law_free" a1m f fd) (hm:mg "_law_free"=some (.ref f)) (hb:a1x K fd ["rows","prime"] []) (Z:Zs K mg) :Df P w K mg base (n+1) "_law_free" ["rows","prime"] a2Y:=by
 refine F.dfn hm hb a0O (by intro ts M Q h;unfold a2Y at h;first | (split at h<;>first | rfl | exact h.elim) | (obtain⟨_,_,_,_,_,rfl,_⟩:=h;rfl) | (obtain⟨_,_,_,_,rfl,_⟩:=h;rfl) | (obtain⟨_,_,_,rfl,_⟩:=h;rfl) | (obtain⟨_,_,rfl,_⟩:=h;rfl) | (obtain⟨_,rfl,_⟩:=h;rfl)) ⟨_,fun cdv A outer s H E hr=>(@a0d _ _ _ _ _ (@a0W _ _ _ _ 2 _ _ (@a1M _ _ _ _ _ _ _ _ _ a2S Z.b_len PySem.boot_len (@a0b _ _ _ _ _ (@hv _ 0 _ _ (by rfl) (by walk_at "3") (by decide) (by decide)) a0h (by rfl)) (by rfl) (by decide) (by decide) (by rfl) (by rfl)) a0O.nd (by rfl) (by walk_at "2") (by rfl) (by walk_at "4")) (@a0d _ _ _ _ _ (@a0W _ _ _ _ 3 _ _ a0g a0O.nd (by rfl) (by walk_at "2") (by rfl) (by walk_at "4")) (@a0d _ _ _ _ _ (@a4P _ _ _ _ _ _ _ _ PassesOwn.never rfl (@a2q _ _ _ _ _ _ Z.b_range (@a0b _ _ _ _ _ (@hv _ 2 _ _ (by rfl) (by walk_at "3") (by decide) (by decide)) a0h (by rfl)) (by rfl) (by rfl)) (@a2u _ _ 4 _ a0O.nd (by rfl) (by walk_at "2") (by walk_at "4")) (@a0d _ _ _ _ _ (@a5B _ _ _ _ _ _ _ _ _ _ _ _ _ _ 5 _ _ _ rfl (@a3d _ _ _ _ (@hv _ 0 _ _ (by rfl) (by walk_at "3") (by decide) (by decide))) (@a0w _ (a0a a1m) _ (["rows","prime","many","free","column","lead","rest","head","row"]) (["row","column"]) ([none,some 4]) (by decide +kernel) rfl rfl) a1o (fun _ _ _ _ _=>@a0z _ _ 0 _ (show List.Nodup (["row","column"]:List Str) by decide +kernel) rfl (Or.inl rfl) (Or.inr rfl)) (fun _ _ _ _ _=>a8b (@a2f _ _ _ _ _ _ _ _ (@a6A _ hr.units) (@h_ix _ _ _ _ _ _ (@hv _ 0 _ _ (by rfl) (by walk_at "3") (by decide) (by decide)) (@hv _ 1 _ _ (by rfl) (by walk_at "3") (by decide) (by decide)) (by intro _ _;rfl)) a0g (@a1k _ _ (by decide) (by decide)))) (fun _ _ _ _ _=>(@hv _ 0 _ _ (by rfl) (by walk_at "3") (by decide) (by decide))) a0O.nd (by rfl) (by walk_at "2") (by rfl) (by intro _;rfl) (by walk_at "4")) (@a0i _ _ _ (@s_if _ _ _ _ _ _ _ _ (@a2f _ _ _ _ _ _ _ _ (b4A hr.units) (@hv _ 5 _ _ (by rfl) (by walk_at "3") (by decide) (by decide)) (@a6o _ _ _ _ a0h) (@a1k _ _ (by decide) (by decide))) (@a0i _ _ _ (@a0W _ _ _ _ 3 _ _ (@a0v _ _ _ _ _ _ _ _ a0M (@hv _ 3 _ _ (by rfl) (by walk_at "3") (by decide) (by decide)) a0g) a0O.nd (by rfl) (by walk_at "2") (by rfl) (by walk_at "4"))) (@a0d _ _ _ _ _ (@a5B _ _ _ _ _ _ _ _ _ _ _ _ _ _ 6 _ _ _ rfl (@a3d _ _ _ _ (@hv _ 0 _ _ (by rfl) (by walk_at "3") (by decide) (by decide))) (@a0w _ (a0a a1m) _ (["rows","prime","many","free","column","lead","rest","head","row"]) (["row","column"]) ([none,some 4]) (by decide +kernel) rfl rfl) a1o (fun _ _ _ _ _=>@a0z _ _ 0 _ (show List.Nodup (["row","column"]:List Str) by decide +kernel) rfl (Or.inl rfl) (Or.inr rfl)) (fun _ _ _ _ _=>a8b (@a2f _ _ _ _ _ _ _ _ (@a4f _ hr.units) (@h_ix _ _ _ _ _ _ (@hv _ 0 _ _ (by rfl) (by walk_at "3") (by decide) (by decide)) (@hv _ 1 _ _ (by rfl) (by walk_at "3") (by decide) (by decide)) (by intro _ _;rfl)) a0g (@a1k _ _ (by decide) (by decide)))) (fun _ _ _ _ _=>(@hv _ 0 _ _ (by rfl) (by walk_at "3") (by decide) (by decide))) a0O.nd (by rfl) (by walk_at "2") (by rfl) (by intro _;rfl) (by walk_at "4")) (@a0d _ _ _ _ _ (@a0W _ _ _ _ 7 _ _ (@h_ix _ _ _ _ _ _ (@hv _ 5 _ _ (by rfl) (by walk_at "3") (by decide) (by decide)) a0g (by intro _ _;rfl)) a0O.nd (by rfl) (by walk_at "2") (by rfl) (by walk_at "4")) (@a0d _ _ _ _ _ (@a4P _ _ _ _ _ _ _ _ PassesOwn.never rfl (@a3d _ _ _ _ (@a4W _ _ _ _ _ _ _ _ _ (@hv _ 5 _ _ (by rfl) (by walk_at "3") (by decide) (by decide)) (@a6C _ _ _ a0g) a6D)) (@a2u _ _ 8 _ a0O.nd (by rfl) (by walk_at "2") (by walk_at "4")) (@a0i _ _ _ (@b0s _ _ _ _ (@a6J _ _ _ _ _ _ _ _ (@hv _ 6 _ _ (by rfl) (by walk_at "3") (by decide) (by decide)) (@a0b _ _ _ _ _ (@a2h _ _ _ _ _ _ _ _ _ _ _ _ _ _ rfl (@b2Q _ _ _ _ _ _ _ _ _ Z.b_zip (@a0b _ _ _ _ _ (@hv _ 8 _ _ (by rfl) (by walk_at "3") (by decide) (by decide)) (@a0b _ _ _ _ _ (@hv _ 7 _ _ (by rfl) (by walk_at "3") (by decide) (by decide)) a0h (by rfl)) (by rfl)) (by rfl) (by rfl) (by rfl)) (@a0w _ (a0a a1m) _ (["rows","prime","many","free","column","lead","rest","head","row"]) (["a","b","head","column","row","prime"]) ([none,none,some 7,some 4,some 8,some 1]) (by decide +kernel) rfl rfl) a5e (fun _ _ _ _ _=>a5F rfl (@a1J _ _ _ _ _ (@a0z _ _ 0 _ (show List.Nodup (["a","b","head","column","row","prime"]:List Str) by decide +kernel) rfl (Or.inl rfl) (Or.inr rfl)) (@a1J _ _ _ _ _ (@a0z _ _ 1 _ (show List.Nodup (["a","b","head","column","row","prime"]:List Str) by decide +kernel) rfl (Or.inl rfl) (Or.inr rfl)) a4k (by rfl)) (by rfl))) (fun _ _ _ _ _=>a1Q) (fun _ _ _ _ _=>(@a0v _ _ _ _ _ _ _ _ a1L (@a0v _ _ _ _ _ _ _ _ a2l (@a0v _ _ _ _ _ _ _ _ a2d (@h_ix _ _ _ _ _ _ (@hv _ 2 _ _ (by rfl) (by walk_at "3") (by decide) (by decide)) (@hv _ 3 _ _ (by rfl) (by walk_at "3") (by decide) (by decide)) (by intro _ _;rfl)) (@hv _ 0 _ _ (by rfl) (by walk_at "3") (by decide) (by decide))) (@a0v _ _ _ _ _ _ _ _ a2d (@h_ix _ _ _ _ _ _ (@hv _ 4 _ _ (by rfl) (by walk_at "3") (by decide) (by decide)) (@hv _ 3 _ _ (by rfl) (by walk_at "3") (by decide) (by decide)) (by intro _ _;rfl)) (@hv _ 1 _ _ (by rfl) (by walk_at "3") (by decide) (by decide)))) (@hv _ 5 _ _ (by rfl) (by walk_at "3") (by decide) (by decide)))) (by intro _;rfl)) a0h (by rfl)) (by rfl) (by rfl) (by rfl) (by rfl) (by rfl)) (by rfl))) (by intro _;rfl)) (@a0i _ _ _ (@a0W _ _ _ _ 0 _ _ (@hv _ 6 _ _ (by rfl) (by walk_at "3") (by decide) (by decide)) a0O.nd (by rfl) (by walk_at "2") (by rfl) (by walk_at "4"))))))))) (by intro _;rfl)) (@a0i _ _ _ (@a1q _ _ _ _ (@hv _ 3 _ _ (by rfl) (by walk_at "3") (by decide) (by decide))))))),fun ts M Q h=>?_⟩
 unfold a2Y at h
 split at h
 ·rename_i d m
  obtain⟨as,n,rows,hd,hrv,hrl,hin,h6,m3,m97,h⟩:=h
  have hal:=hrv.1.trans hrl
  refine a3T fun K1 hK1=>?_
  walk_at "rd"
  rw[hd]
  dsimp only
  rw[hK1];clear hK1
  refine a0E fun K2 hK2=>?_
  refine a2m fun B hB=>?_
  unfold a4d
  walk_at "rd"
  refine⟨by lia,by lia,fun i ρ M'=>(∃ d' k x4 x5 x6 x7 x8,ρ=[some (T.adr d'),some (T.int m),some (T.int (as.length:Nat)),some (T.int (k:Nat)),x4,x5,x6,x7,x8]∧∃ as rs,M' d'=some (.lst (as.map .adr))∧a0C M' as rs∧rs.length≤6∧InR m n rs∧k+frL m (n - i) i rs=frL m n 0 rows)∧Sub M M',⟨⟨d,0,_,_,_,_,_,rfl,as,rows,hd,hrv,by lia,hin,Nat.zero_add _⟩,Sub.refl⟩,fun _ _ _ _=>trivial,?_,?_⟩
  ·rintro c x ρ M' hx ⟨⟨d',k,x4,x5,x6,x7,x8,rfl,as',rs,hd',hrv',hrl',hin',hk⟩,hS⟩
   have hc:=(List.getElem?_eq_some_iff.mp hx).1
   rw[a0e] at hc
   obtain⟨_,rfl⟩:=a1n hx
   clear hx
   replace hc:c < n:=by lia
   rw[show n - c=(n - (c+1))+1 by lia] at hk
   rw[hB];clear hB
   refine a0E fun K3 hK3=>?_
   walk_at "rd"
   rw[hd']
   dsimp only
   have cell:∀ {i:Nat} {y:T},(as'.map T.adr)[i]?=some y→∃ a is u,as'[i]?=some a∧y=.adr a∧rs[i]?=some is∧M' a=some (.lst (is.map .int))∧atI (is.map T.int) (c:Int)=some (.int u)∧is.getD c 0=u∧is.length=n:=fun {i y} hy=>by
    rw[List.getElem?_map] at hy
    cases e:as'[i]? with
    | none=>rw[e] at hy;cases hy
    | some a =>
      rw[e] at hy
      obtain⟨is,hrs,ma⟩:=hrv'.get e
      obtain⟨la,ba⟩:=hin' is (List.mem_of_getElem? hrs)
      obtain⟨u,hu⟩:∃ u,is[c]?=some u:=⟨_,List.getElem?_eq_getElem (by lia)⟩
      exact⟨a,is,u,rfl,(Option.some.inj hy).symm,hrs,ma,a0N (by rw[List.getElem?_map,hu];rfl),by rw[List.getD_eq_getElem?_getD,hu];rfl,la⟩
   refine⟨fun i ys M2=>(∃ fs:List Addr,ys=fs.map T.adr∧a0C M' fs ((rs.take i).filter fun r=>decide (r.getD c 0≠0)))∧M2=M',⟨⟨[],rfl,a0C.nil⟩,rfl⟩,?_,by rw[List.length_map,hrv'.1];exact a0t (by lia),?_,?_⟩
   ·rintro i ys M2 ⟨_,rfl⟩
    exact hd'
   ·rintro i y ys M2 hy ⟨⟨fs,rfl,hfs⟩,rfl⟩
    obtain⟨a,is,u,hy2,rfl,hrs,ma,au,eg,la⟩:=cell hy
    dsimp only
    rw[ma]
    dsimp only
    rw[au]
    dsimp only
    rw[a5X (fun r:List Int=>decide (r.getD c 0≠0)) hrs]
    refine⟨rfl,by rw[a2G];decide,?_⟩
    rw[a3K,eg]
    by_cases z:u=0
    ·have d:decide (u≠0)=false:=decide_eq_false fun y=>y z
     rw[decide_eq_true z,if_neg (by decide),d,if_neg (by decide),List.append_nil]
     exact⟨⟨fs,rfl,hfs⟩,rfl⟩
    ·have d:decide (u≠0)=true:=decide_eq_true z
     rw[decide_eq_false z,if_pos rfl,d,if_pos rfl]
     exact⟨⟨fs++[a],by rw[List.map_append];rfl,hfs.snoc ma⟩,rfl⟩
   ·rintro ys M2 ⟨⟨fs,rfl,hfs⟩,rfl⟩ q hq
    rw[hK3];clear hK3
    rw[List.length_map,List.take_of_length_le (by rw[hrv'.1];exact Nat.le_refl _)] at hfs
    have hX:=Sub.new hq (o:=MO.lst (fs.map T.adr))
    have hS2:=hS.trans hX
    have hrv2:=hrv'.sub hX
    have hfs2:=hfs.sub hX
    have hd2:=hX _ _ hd'
    have hMq:(updM M2 q (MO.lst (fs.map T.adr))) q=some (.lst (fs.map T.adr)):=a0c
    generalize updM M2 q (MO.lst (fs.map T.adr))=M3 at hS2 hrv2 hfs2 hd2 hMq⊢
    walk_at "rd"
    intro z hz
    have hqz:q≠z:=fun y=>by rw[← y,hMq] at hz;cases hz
    have hXz:=Sub.new hz (o:=MO.lst [])
    have hS3:=hS2.trans hXz
    have hrv3:=hrv2.sub hXz
    have hfs3:=hfs2.sub hXz
    have hd3:=hXz _ _ hd2
    have hMq3:=hXz _ _ hMq
    generalize updM M3 z (MO.lst [])=M4 at hS3 hrv3 hfs3 hd3 hMq3⊢
    clear hXz hS2 hrv2 hfs2 hd2 hMq hz hX hfs cell hrv' hd' hq
    refine⟨hqz,fs.map T.adr,hMq3,?_⟩
    cases fs with
    | nil =>
      have e0:=List.eq_nil_of_length_eq_zero hfs3.1.symm
      rw[if_pos (show (([]:List Addr).map T.adr).isEmpty=true from rfl)]
      refine⟨⟨d',k+1,_,_,_,_,_,rfl,as',rs,hd3,hrv3,hrl',hin',?_⟩,hS3⟩
      rw[b7j e0] at hk
      rw[← hk];lia
    | cons f fs =>
      rw[if_neg (show ¬((f :: fs).map T.adr).isEmpty=true by intro y;cases y),hd3]
      dsimp only
      obtain⟨js,hjs,mf⟩:=hfs3.get (i:=0) rfl
      obtain⟨t,e0⟩:∃ t,rs.filter (fun r=>decide (r.getD c 0≠0))=js :: t:=by
       cases e:rs.filter (fun r=>decide (r.getD c 0≠0)) with
       | nil=>rw[e] at hjs;cases hjs
       | cons y t=>rw[e] at hjs;exact⟨t,by rw[Option.some.inj hjs]⟩
      have hl:∀ r,r∈js :: t↔r∈rs∧r.getD c 0≠0:=fun r=>by rw[← e0,List.mem_filter,decide_eq_true_eq]
      rw[e0] at hfs3
      have lf:=hin' js ((hl js).mp (.head _)).1
      refine⟨fun i ys M5=>(∃ gs:List Addr,ys=gs.map T.adr∧a0C M4 gs ((rs.take i).filter fun r=>decide (r.getD c 0=0)))∧M5=M4,⟨⟨[],rfl,a0C.nil⟩,rfl⟩,?_,by rw[List.length_map,hrv3.1];exact a0t (by lia),?_,?_⟩
      ·rintro i ys M5 ⟨_,rfl⟩
       exact hd3
      ·rintro i y ys M5 hy ⟨⟨gs,rfl,hgs⟩,rfl⟩
       obtain⟨a,hy2,rfl⟩:∃ a,as'[i]?=some a∧y=.adr a:=by
        rw[List.getElem?_map] at hy
        cases e:as'[i]? with
        | none=>rw[e] at hy;cases hy
        | some a=>rw[e] at hy;exact⟨a,rfl,(Option.some.inj hy).symm⟩
       obtain⟨is,hrs,ma⟩:=hrv3.get hy2
       obtain⟨la,ba⟩:=hin' is (List.mem_of_getElem? hrs)
       obtain⟨u,hu⟩:∃ u,is[c]?=some u:=⟨_,List.getElem?_eq_getElem (by lia)⟩
       have au:atI (is.map T.int) (c:Int)=some (.int u):=a0N (by rw[List.getElem?_map,hu];rfl)
       have eg:is.getD c 0=u:=by rw[List.getD_eq_getElem?_getD,hu];rfl
       dsimp only
       rw[ma]
       dsimp only
       rw[au]
       dsimp only
       rw[a5X (fun r:List Int=>decide (r.getD c 0=0)) hrs]
       refine⟨rfl,by rw[a2G];decide,?_⟩
       rw[a3K,eg]
       by_cases z:u=0
       ·rw[decide_eq_true z,if_pos rfl,if_pos rfl]
        exact⟨⟨gs++[a],by rw[List.map_append];rfl,hgs.snoc ma⟩,rfl⟩
       ·rw[decide_eq_false z,if_neg (by decide),if_neg (by decide),List.append_nil]
        exact⟨⟨gs,rfl,hgs⟩,rfl⟩
      ·rintro ys M5 ⟨⟨gs,rfl,hgs⟩,rfl⟩ e he
       rw[List.length_map,List.take_of_length_le (by rw[hrv3.1];exact Nat.le_refl _)] at hgs
       have hXe:=Sub.new he (o:=MO.lst (gs.map T.adr))
       have hS6:=hS3.trans hXe
       have hMq6:=hXe _ _ hMq3
       have hfs6:=hfs3.sub hXe
       have hgs6:=hgs.sub hXe
       have hMe:(updM M5 e (MO.lst (gs.map T.adr))) e=some (.lst (gs.map T.adr)):=a0c
       have heM:M e=none:=a3G hS3 he
       have hefs:e ∉ f :: fs:=hfs3.fresh he
       have hegs:e ∉ gs:=hgs.fresh he
       generalize updM M5 e (MO.lst (gs.map T.adr))=M6 at hS6 hMq6 hfs6 hgs6 hMe⊢
       rw[hMq6]
       dsimp only
       rw[List.map_cons,a7V]
       dsimp only
       have mf6:M6 f=some (.lst (js.map .int)):=hfs6.2 0 f js rfl rfl
       have hft:a0C M6 fs t:=⟨by have:=hfs6.1;rw[List.length_cons,List.length_cons] at this;lia,fun i a l h1 h2=>hfs6.2 (i+1) a l (by simpa using h1) (by simpa using h2)⟩
       refine a2m fun B3 hB3=>?_
       unfold a4d
       walk_at "rd"
       rw[hMq6]
       dsimp only
       intro s hs
       have ecut:cutT ((f :: fs).map T.adr) (some 1) none=fs.map T.adr:=by
        rw[a4c _ _ (by decide)];rfl
       rw[ecut]
       have hXs:=Sub.new hs (o:=MO.lst (fs.map T.adr))
       have hes:e≠s:=fun y=>by rw[← y,hMe] at hs;cases hs
       have hS7:=hS6.trans hXs
       have hft7:=hft.sub hXs
       have hgs7:=hgs6.sub hXs
       have hMe7:=hXs _ _ hMe
       have mf7:=hXs _ _ mf6
       have hMs:(updM M6 s (MO.lst (fs.map T.adr))) s=some (.lst (fs.map T.adr)):=a0c
       generalize updM M6 s (MO.lst (fs.map T.adr))=M7 at hS7 hft7 hgs7 hMe7 mf7 hMs⊢
       have hfl:fs.length=t.length:=hft7.1
       have htl:t.length≤6:=by
        have h1:=List.length_filter_le (fun r:List Int=>decide (r.getD c 0≠0)) rs
        rw[e0,List.length_cons] at h1
        lia
       refine⟨fun i ρ M'=>(∃ x8,ρ=[some (T.adr d'),some (T.int m),some (T.int (as.length:Nat)),some (T.int (k:Nat)),some (T.int c),some (T.adr q),some (T.adr e),some (T.adr f),x8])∧M' s=some (.lst (fs.map T.adr))∧(∃ hs:List Addr,M' e=some (.lst ((gs++hs).map T.adr))∧hs.length=i∧e ∉ hs∧a0C M' (gs++hs) (rs.filter (fun r=>decide (r.getD c 0=0))++(t.take i).map fun r=>clr m c r js))∧a0C M' fs t∧M' f=some (.lst (js.map .int))∧Sub M M',⟨⟨_,rfl⟩,hMs,⟨[],by rw[List.append_nil];exact hMe7,rfl,List.not_mem_nil,by rw[List.append_nil,List.take_zero,List.map_nil,List.append_nil];exact hgs7⟩,hft7,mf7,hS7⟩,?_,?_,?_⟩
       ·rintro i ρ M' ⟨_,h1,_⟩
        exact h1
       ·rintro i x ρ M' hx ⟨⟨x8,rfl⟩,hMs,⟨hs,hMe,hhl,heh,hgh⟩,hft,mf,hS⟩
        obtain⟨a,ha,rfl⟩:∃ a,fs[i]?=some a∧x=.adr a:=by
         rw[List.getElem?_map] at hx
         cases e:fs[i]? with
         | none=>rw[e] at hx;cases hx
         | some a=>rw[e] at hx;exact⟨a,rfl,(Option.some.inj hx).symm⟩
        obtain⟨is,hit,ma⟩:=hft.get ha
        have hism:=(hl is).mp (.tail _ (List.mem_of_getElem? hit))
        obtain⟨la,ba⟩:=hin' is hism.1
        rw[hB3];clear hB3
        walk_at "rd"
        rw[hMe]
        dsimp only
        refine⟨trivial,?_⟩
        rw[ma,mf]
        dsimp only
        obtain⟨u,hu⟩:∃ u,is[c]?=some u:=⟨_,List.getElem?_eq_getElem (by lia)⟩
        obtain⟨v,hv⟩:∃ v,js[c]?=some v:=⟨_,List.getElem?_eq_getElem (by lia)⟩
        have au:atI (is.map T.int) (c:Int)=some (.int u):=a0N (by rw[List.getElem?_map,hu];rfl)
        have av:atI (js.map T.int) (c:Int)=some (.int v):=a0N (by rw[List.getElem?_map,hv];rfl)
        have bu:=ba u (List.mem_of_getElem? hu)
        have bv':=lf.2 v (List.mem_of_getElem? hv)
        have bu1:=bu.1
        have bu2:=bu.2
        have bv1:=bv'.1
        have bv2:=bv'.2
        have hzl:(zpT (is.map T.int) (js.map T.int)).length=n:=by rw[a4i (by rw[List.length_map,List.length_map,la,lf.1]),List.length_map,la]
        have hcl:(clr m c is js).length=n:=by unfold clr;rw[List.length_zipWith,la,lf.1,Nat.min_self]
        refine⟨by rw[List.length_map,List.length_map,la,lf.1],fun i ys M8=>ys=((clr m c is js).take i).map T.int∧M8=M',⟨rfl,rfl⟩,?_,by rw[hzl];exact a0t (by lia),?_,?_⟩
        ·rintro i ys M8 ⟨_,rfl⟩
         exact⟨ma,mf⟩
        ·rintro i x ys M8 hx ⟨rfl,rfl⟩
         obtain⟨t1,w1,ht1,hw1,rfl⟩:=a4H hx
         obtain⟨x,hx2,rfl⟩:=a0q ht1
         obtain⟨y,hy2,rfl⟩:=a0q hw1
         walk_at "rd"
         rw[mf]
         dsimp only
         rw[av]
         dsimp only
         rw[ma]
         dsimp only
         rw[au]
         dsimp only
         refine⟨.inl ⟨by lia,by lia⟩,.inl ⟨by lia,by lia⟩,by lia,?_⟩
         rw[Int.mul_comm v x,Int.mul_comm u y,← a0D (b5J (m:=m) hx2 hy2 hu hv),List.map_append];rfl
        ·rintro ys M8 ⟨rfl,rfl⟩ b hb
         rw[hzl,List.take_of_length_le (by rw[hcl];exact Nat.le_refl _)]
         have hbe:b≠e:=fun y=>by rw[y,hMe] at hb;cases hb
         have hXb:=Sub.new hb (o:=MO.lst ((clr m c is js).map T.int))
         rw[hXb _ _ hMe]
         dsimp only
         have e2:(gs++hs).map T.adr++[T.adr b]=(gs++(hs++[b])).map T.adr:=by rw[← List.append_assoc,List.map_append (l₂:=[b])];rfl
         have hne2:e ∉ gs++(hs++[b]):=fun y=>by
          rcases List.mem_append.mp y with z | z
          ·exact hegs z
          rcases List.mem_append.mp z with z | z
          ·exact heh z
          ·exact hbe (List.mem_singleton.mp z).symm
         have hgl:(gs++hs).length < 10000:=by
          rw[hgh.1,List.length_append,List.length_map,List.length_take]
          have h1:=List.length_filter_le (fun r:List Int=>decide (r.getD c 0=0)) rs
          lia
         refine⟨by rw[List.length_map];exact a0t hgl,⟨_,rfl⟩,by rw[a0n hes.symm];exact hXb _ _ hMs,⟨hs++[b],by rw[e2],by rw[List.length_append,hhl];rfl,fun y=>hne2 (List.mem_append.mpr (.inr y)),?_⟩,?_,?_,(hS.trans hXb).updF heM⟩
         ·rw[e2]
          refine a0C.upd ?_ hne2
          rw[← a1V (fun r=>clr m c r js) hit,← List.append_assoc,← List.append_assoc]
          exact (hgh.sub hXb).snoc a0c
         ·exact a0C.upd (hft.sub hXb) (fun y=>hefs (.tail _ y))
         ·rw[a0n (fun y=>hefs (by rw[← y];exact .head _))]
          exact hXb _ _ mf
       ·rintro ρ M' ⟨⟨x8,rfl⟩,hMs,⟨hs,hMe,hhl,heh,hgh⟩,hft,mf,hS⟩
        walk_at "rd"
        rw[List.length_map,hfl,List.take_length] at hgh
        have hRl:(rs.filter (fun r=>decide (r.getD c 0=0))++t.map fun r=>clr m c r js).length≤6:=by
         rw[List.length_append,List.length_map]
         have h1:rs.length=(rs.filter fun r=>decide (r.getD c 0=0)).length+(rs.filter fun r=>decide (r.getD c 0≠0)).length:=by
          exact b0N (fun r:List Int=>r.getD c 0=0) rs
         rw[e0,List.length_cons] at h1
         lia
        rw[b4Z e0] at hk
        exact⟨⟨e,k,_,_,_,_,_,rfl,gs++hs,_,hMe,hgh,hRl,b9u (by lia) hin' ((hl js).mp (.head _)).1 fun r hr=>((hl r).mp (.tail _ hr)).1,hk⟩,hS⟩
  ·rintro ρ M' ⟨⟨d',k,x4,x5,x6,x7,x8,rfl,as',rs,hd',hrv',hrl',hin',hk⟩,hS⟩
   rw[hK2]
   walk_at "rd"
   rw[a0e,hal,show (((n:Nat):Int)).toNat=n by lia,Nat.sub_self] at hk
   have e:frL m n 0 rows=k:=by rw[← hk];rfl
   rw[e] at h
   exact a1K h hS
 ·exact h.elim
theorem a4T {p:Int} (h:oddP p=true):a2T p:=by
 unfold oddP at h
 rw[Bool.and_eq_true,Bool.and_eq_true,decide_eq_true_eq,decide_eq_true_eq,List.all_eq_true] at h
 obtain⟨⟨h1,h2⟩,h3⟩:=h
 refine⟨by lia,fun q q2 qp=>?_⟩
 have:=h3 (q - 2).toNat (List.mem_range.mpr (by lia))
 rw[decide_eq_true_eq,show 2+(((q - 2).toNat:Nat):Int)=q by lia] at this
 exact this
noncomputable def a2k:List Int:=[3,5,7,11,13,17,19,23,29,31,37,41,43,47,53,59,61,67,71,73,79,83,89,97]
theorem a8o:∀ p∈a2k,oddP p=true:=by decide +kernel
noncomputable def a6t:Sp3:=fun ts M Q=>match ts with
 | [.rd s]=>∃ ns:List Int,s=ns.map .int∧Q (.bl true) M
 | _=>False
theorem b1I (ns:List Int) (M:MH) (Q:VK3) (_:ns.length≤63) (h:Q (.bl true) M):a6t [.rd (ns.map .int)] M Q:=⟨ns,rfl,h⟩
theorem b8V {P:Program} {w:World} {K:PySem.W.Frag} {mg:Str→Option Value} {base:Heap} {f:Addr} {fd:FuncData} {n:Nat}  (F:Fun K "law" "law" a6j f fd) (Z:Zs K mg) (D__law_state:Df P w K mg base n "_law_state" ["script","k"] a2E) (D__law_plait:Df P w K mg base n "_law_plait" ["state","least","most","letters"] a2F) (D_closed_weight:Df P w K mg base n "closed_weight" ["plait"] a1p) (D__law_choice:Df P w K mg base n "_law_choice" ["state","many"] a1r) (D_free_colours:Df P w K mg base n "free_colours" ["prime","plait"] a1X) (D__law_whole:Df P w K mg base n "_law_whole" ["found"] a1Y) (D__law_free:Df P w K mg base n "_law_free" ["rows","prime"] a2Y) (D__law_rows:Df P w K mg base n "_law_rows" ["strands","word","prime"] a2X):FnOk P w K mg base CX0 (n+1) f fd ["script"] (dSp K a6t):=by
 refine F.fnk a4u (by intro ts M Q h;unfold a6t at h;first | (split at h<;>first | rfl | exact h.elim) | (obtain⟨_,_,_,_,_,rfl,_⟩:=h;rfl) | (obtain⟨_,_,_,_,rfl,_⟩:=h;rfl) | (obtain⟨_,_,_,rfl,_⟩:=h;rfl) | (obtain⟨_,_,rfl,_⟩:=h;rfl) | (obtain⟨_,rfl,_⟩:=h;rfl)) ⟨_,fun cdv A outer s H E hr=>(@a0d _ _ _ _ _ (@a0W _ _ _ _ 1 _ _ (@a0o _ _ _ _ _ _ _ _ _ _ D__law_state hr (@a0b _ _ _ _ _ (@hv _ 0 _ _ (by rfl) (by walk_at "3") (by decide) (by decide)) (@a0b _ _ _ _ _ a0g a0h (by rfl)) (by rfl)) (by rfl) (by decide) (by rfl) (by rfl)) a4u.nd (by rfl) (by walk_at "2") (by rfl) (by walk_at "4")) (@a0d _ _ _ _ _ (@a0W _ _ _ _ 2 _ _ (@a0o _ _ _ _ _ _ _ _ _ _ D__law_plait hr (@a0b _ _ _ _ _ (@hv _ 1 _ _ (by rfl) (by walk_at "3") (by decide) (by decide)) (@a0b _ _ _ _ _ a0g (@a0b _ _ _ _ _ a0g (@a0b _ _ _ _ _ a0g a0h (by rfl)) (by rfl)) (by rfl)) (by rfl)) (by rfl) (by decide) (by rfl) (by rfl)) a4u.nd (by rfl) (by walk_at "2") (by rfl) (by walk_at "4")) (@a0d _ _ _ _ _ (@a0W _ _ _ _ 3 _ _ (by exact (@a6o _ _ _ _ (@a_I _ _ _ _ _ _ (@a_I _ _ _ _ _ _ (@a_I _ _ _ _ _ _ (@a_I _ _ _ _ _ _ (@a_I _ _ _ _ _ _ (@a_I _ _ _ _ _ _ (@a_I _ _ _ _ _ _ (@a_I _ _ _ _ _ _ (@a_I _ _ _ _ _ _ (@a_I _ _ _ _ _ _ (@a_I _ _ _ _ _ _ (@a_I _ _ _ _ _ _ (@a_I _ _ _ _ _ _ (@a_I _ _ _ _ _ _ (@a_I _ _ _ _ _ _ (@a_I _ _ _ _ _ _ (@a_I _ _ _ _ _ _ (@a_I _ _ _ _ _ _ (@a_I _ _ _ _ _ _ (@a_I _ _ _ _ _ _ (@a_I _ _ _ _ _ _ (@a_I _ _ _ _ _ _ (@a_I _ _ _ _ _ _ (@a_I _ _ _ _ _ _ a0h)))))))))))))))))))))))))) a4u.nd (by rfl) (by walk_at "2") (by rfl) (by walk_at "4")) (@a0d _ _ _ _ _ (@a0W _ _ _ _ 4 _ _ (@a0o _ _ _ _ _ _ _ _ _ _ D_closed_weight hr (@a0b _ _ _ _ _ (@hv _ 2 _ _ (by rfl) (by walk_at "3") (by decide) (by decide)) a0h (by rfl)) (by rfl) (by decide) (by rfl) (by rfl)) a4u.nd (by rfl) (by walk_at "2") (by rfl) (by walk_at "4")) (@a0d _ _ _ _ _ (@a5B _ _ _ _ _ _ _ _ _ _ _ _ _ _ 5 _ _ _ rfl (@a3d _ _ _ _ (@hv _ 3 _ _ (by rfl) (by walk_at "3") (by decide) (by decide))) (@a0w _ (a0a a6j) _ (["script","state","plait","primes","weight","some","prime","found"]) (["prime","weight"]) ([none,some 4]) (by decide +kernel) rfl rfl) a1o (fun _ _ _ _ _=>@a0z _ _ 0 _ (show List.Nodup (["prime","weight"]:List Str) by decide +kernel) rfl (Or.inl rfl) (Or.inr rfl)) (fun _ _ _ _ _=>a8b (@a2f _ _ _ _ _ _ _ _ (@a4f _ hr.units) (@a0v _ _ _ _ _ _ _ _ a1L (@hv _ 1 _ _ (by rfl) (by walk_at "3") (by decide) (by decide)) (@hv _ 0 _ _ (by rfl) (by walk_at "3") (by decide) (by decide))) a0g (@a1k _ _ (by decide) (by decide)))) (fun _ _ _ _ _=>(@hv _ 0 _ _ (by rfl) (by walk_at "3") (by decide) (by decide))) a4u.nd (by rfl) (by walk_at "2") (by rfl) (by intro _;rfl) (by walk_at "4")) (@a0d _ _ _ _ _ (@a0W _ _ _ _ 6 _ _ (@h_ix _ _ _ _ _ _ (@hv _ 3 _ _ (by rfl) (by walk_at "3") (by decide) (by decide)) (@a0o _ _ _ _ _ _ _ _ _ _ D__law_choice hr (@a0b _ _ _ _ _ (@hv _ 1 _ _ (by rfl) (by walk_at "3") (by decide) (by decide)) (@a0b _ _ _ _ _ a0g a0h (by rfl)) (by rfl)) (by rfl) (by decide) (by rfl) (by rfl)) (by intro _ _;rfl)) a4u.nd (by rfl) (by walk_at "2") (by rfl) (by walk_at "4")) (@a0d _ _ _ _ _ (@s_if _ _ _ _ _ _ _ _ (@HW.ht _ _ _ (@b9U _ _ _ _ _ _ _ (@a2f _ _ _ _ _ _ _ _ (@a6A _ hr.units) (@hv _ 5 _ _ (by rfl) (by walk_at "3") (by decide) (by decide)) (@a6o _ _ _ _ a0h) (@a1k _ _ (by decide) (by decide))) (@b7L _ _ _ _ (@a2f _ _ _ _ _ _ _ _ (@a4f _ hr.units) (@a0o _ _ _ _ _ _ _ _ _ _ D__law_choice hr (@a0b _ _ _ _ _ (@hv _ 1 _ _ (by rfl) (by walk_at "3") (by decide) (by decide)) (@a0b _ _ _ _ _ a0g a0h (by rfl)) (by rfl)) (by rfl) (by decide) (by rfl) (by rfl)) a0g (@a1k _ _ (by decide) (by decide)))))) (@a0i _ _ _ (@a0W _ _ _ _ 6 _ _ (@h_ix _ _ _ _ _ _ (@hv _ 5 _ _ (by rfl) (by walk_at "3") (by decide) (by decide)) (@a0o _ _ _ _ _ _ _ _ _ _ D__law_choice hr (@a0b _ _ _ _ _ (@hv _ 1 _ _ (by rfl) (by walk_at "3") (by decide) (by decide)) (@a0b _ _ _ _ _ (@a1M _ _ _ _ _ _ _ _ _ a2S Z.b_len PySem.boot_len (@a0b _ _ _ _ _ (@hv _ 5 _ _ (by rfl) (by walk_at "3") (by decide) (by decide)) a0h (by rfl)) (by rfl) (by decide) (by decide) (by rfl) (by rfl)) a0h (by rfl)) (by rfl)) (by rfl) (by decide) (by rfl) (by rfl)) (by intro _ _;rfl)) a4u.nd (by rfl) (by walk_at "2") (by rfl) (by walk_at "4"))) a2U) (@a0d _ _ _ _ _ (@a0W _ _ _ _ 7 _ _ (@a0o _ _ _ _ _ _ _ _ _ _ D_free_colours hr (@a0b _ _ _ _ _ (@hv _ 6 _ _ (by rfl) (by walk_at "3") (by decide) (by decide)) (@a0b _ _ _ _ _ (@hv _ 2 _ _ (by rfl) (by walk_at "3") (by decide) (by decide)) a0h (by rfl)) (by rfl)) (by rfl) (by decide) (by rfl) (by rfl)) a4u.nd (by rfl) (by walk_at "2") (by rfl) (by walk_at "4")) (@a0d _ _ _ _ _ (@s_if _ _ _ _ _ _ _ _ (@HW.ht _ _ _ (@w_or _ _ _ _ _ _ _ (@a9M _ _ _ _ (@a3I _ _ _ (@a0o _ _ _ _ _ _ _ _ _ _ D__law_whole hr (@a0b _ _ _ _ _ (@hv _ 7 _ _ (by rfl) (by walk_at "3") (by decide) (by decide)) a0h (by rfl)) (by rfl) (by decide) (by rfl) (by rfl)) (by intro _;rfl))) (@b7K _ _ _ _ (@a2f _ _ _ _ _ _ _ _ (@a6A _ hr.units) (@hv _ 7 _ _ (by rfl) (by walk_at "3") (by decide) (by decide)) (@a0o _ _ _ _ _ _ _ _ _ _ D__law_free hr (@a0b _ _ _ _ _ (@a0o _ _ _ _ _ _ _ _ _ _ D__law_rows hr (@a0b _ _ _ _ _ (@h_ix _ _ _ _ _ _ (@hv _ 2 _ _ (by rfl) (by walk_at "3") (by decide) (by decide)) a0g (by intro _ _;rfl)) (@a0b _ _ _ _ _ (@h_ix _ _ _ _ _ _ (@hv _ 2 _ _ (by rfl) (by walk_at "3") (by decide) (by decide)) a0g (by intro _ _;rfl)) (@a0b _ _ _ _ _ (@hv _ 6 _ _ (by rfl) (by walk_at "3") (by decide) (by decide)) a0h (by rfl)) (by rfl)) (by rfl)) (by rfl) (by decide) (by rfl) (by rfl)) (@a0b _ _ _ _ _ (@hv _ 6 _ _ (by rfl) (by walk_at "3") (by decide) (by decide)) a0h (by rfl)) (by rfl)) (by rfl) (by decide) (by rfl) (by rfl)) (@a1k _ _ (by decide) (by decide)))))) (@a0i _ _ _ (@a1q _ _ _ _ h_bl)) a2U) (@a0i _ _ _ (@a1q _ _ _ _ (@a9P _ _ _ _ _ _ _ _ (@a4f _ hr.units) (@a9P _ _ _ _ _ _ _ _ a6B (@hv _ 7 _ _ (by rfl) (by walk_at "3") (by decide) (by decide)) a0g (@a1k _ _ (by decide) (by decide))) (@a9P _ _ _ _ _ _ _ _ (@a4f _ hr.units) (@a0v _ _ _ _ _ _ _ _ a1L (@hv _ 4 _ _ (by rfl) (by walk_at "3") (by decide) (by decide)) (@hv _ 6 _ _ (by rfl) (by walk_at "3") (by decide) (by decide))) a0g (@a1k _ _ (by decide) (by decide))) (@a1k _ _ (by decide) (by decide)))))))))))))),fun ts M Q h=>?_⟩
 unfold a6t at h
 split at h
 ·rename_i s
  obtain⟨ns,rfl,h⟩:=h
  refine a3T fun K1 hK1=>?_
  walk_at "rd"
  refine⟨ns,rfl,by decide,fun p k f hp=>?_⟩
  refine⟨k,f,a0c,by decide,by decide,by decide,by decide,by decide,fun n w k1 h1 h2 hw hl=>?_⟩
  simp only[a7Z]
  have hS:=Sub.new hp (o:=.lst [.int k1,.bl f])
  have hMp:(updM M p (.lst [.int k1,.bl f])) p=some (.lst [.int k1,.bl f]):=a0c
  generalize updM M p (.lst [.int k1,.bl f])=M1 at hS hMp⊢
  rw[hK1];clear hK1
  have okw:PlOK n w:=⟨by lia,by lia,by lia,hw⟩
  have hsm:a9h n w:=Nat.le_trans (Nat.mul_le_mul (show n.toNat - 1≤4 by lia) (show w.length≤10 by lia)) (by decide)
  have wok:a0f (n.toNat:Nat) w:=by rw[show ((n.toNat:Nat):Int)=n by lia];exact hw
  refine a3T fun K2 hK2=>?_
  walk_at "rd"
  refine⟨by decide,fun u hu=>?_⟩
  have hS2:=hS.newr hu (o:=MO.lst (a2k.map T.int))
  have hMp2:=(Sub.new hu (o:=MO.lst (a2k.map T.int))) _ _ hMp
  have hMu:(updM M1 u (MO.lst (a2k.map T.int))) u=some (MO.lst (a2k.map T.int)):=a0c
  have hpu:p≠u:=fun z=>by rw[← z,hMp] at hu;cases hu
  show a1p _ (updM M1 u (MO.lst (a2k.map T.int))) _
  generalize updM M1 u (MO.lst (a2k.map T.int))=M2 at hS2 hMp2 hMu⊢
  refine⟨w,rfl,okw,hsm,?_⟩
  dsimp only
  rw[hK2];clear hK2 hS hMp
  have hfd:=fun (q:Int) (hq:oddP q=true)=>b4Y (a4T hq) (show 1≤n.toNat by lia) (by lia) wok
  rw[show ((n.toNat:Nat):Int)=n by lia] at hfd
  generalize a4J (a5d n w)=wt at hfd⊢
  refine a0E fun K3 hK3=>?_
  walk_at "rd"
  rw[hMu]
  dsimp only
  refine⟨fun i ys M'=>(∃ ps:List Int,ys=ps.map T.int∧ps.length≤i∧∀ q∈ps,q∈a2k)∧M'=M2,⟨⟨[],rfl,Nat.le_refl _,fun _ z=>absurd z List.not_mem_nil⟩,rfl⟩,?_,by rw[List.length_map];exact a0t (by decide),?_,?_⟩
  ·rintro i ys M' ⟨_,rfl⟩
   exact hMu
  ·rintro i x ys M' hx ⟨⟨ps,rfl,hpl,hps⟩,rfl⟩
   obtain⟨q,hq,rfl⟩:=a0q hx
   have hqm:=List.mem_of_getElem? hq
   have hq0:0 < q:=by have:=(a4T (a8o q hqm)).1;lia
   dsimp only
   refine⟨hq0,ite2 (fun _=>?_) (fun _=>⟨⟨ps,rfl,by lia,hps⟩,rfl⟩)⟩
   refine⟨⟨ps++[q],by rw[List.map_append];rfl,by rw[List.length_append,List.length_singleton];lia,fun r hr=>?_⟩,rfl⟩
   rcases List.mem_append.mp hr with z | z
   ·exact hps r z
   ·rw[List.mem_singleton.mp z];exact hqm
  rintro ys M' ⟨⟨ps,rfl,hpl,hps⟩,rfl⟩ v hv
  have hpv:p≠v:=fun z=>by rw[← z,hMp2] at hv;cases hv
  have hS3:=hS2.newr hv (o:=.lst (ps.map T.int))
  have hMp3:=(Sub.new hv (o:=.lst (ps.map T.int))) _ _ hMp2
  have hMu3:=(Sub.new hv (o:=.lst (ps.map T.int))) _ _ hMu
  have hMv:(updM M' v (.lst (ps.map T.int))) v=some (.lst (ps.map T.int)):=a0c
  generalize updM M' v (.lst (ps.map T.int))=M3 at hS3 hMp3 hMu3 hMv⊢
  have hpl24:ps.length≤24:=by rw[List.length_map] at hpl;exact hpl
  rw[hK3];clear hK3 hS2 hMp2 hMu hv
  refine a0E fun K4 hK4=>?_
  walk_at "rd"
  refine⟨k1,f,hMp3,by decide,by decide,fun c k2 c0 c1=>?_⟩
  dsimp only
  rw[a0n hpu.symm,hMu3]
  dsimp only
  obtain⟨P,eP,hP⟩:∃ P:Int,atI (a2k.map T.int) c=some (.int P)∧P∈a2k:=by
   obtain⟨j,rfl⟩:=Int.eq_ofNat_of_zero_le c0
   have hj:j < a2k.length:=by show j < 24;lia
   exact⟨a2k[j],a0N (by rw[List.getElem?_map,List.getElem?_eq_getElem hj];rfl),List.getElem_mem hj⟩
  rw[eP]
  dsimp only
  have hS4:=hS3.updF hp (o:=.lst [.int k2,.bl f])
  have hMp4:(updM M3 p (.lst [.int k2,.bl f])) p=some (.lst [.int k2,.bl f]):=a0c
  have hMv4:(updM M3 p (.lst [.int k2,.bl f])) v=some (.lst (ps.map T.int)):=by rw[a0n hpv.symm];exact hMv
  generalize updM M3 p (.lst [.int k2,.bl f])=M4 at hS4 hMp4 hMv4⊢
  rw[hK4];clear hK4
  refine a0E fun K5 hK5=>?_
  walk_at "rd"
  have rest:∀ (P:Int) (M5:MH),P∈a2k→Sub M M5→K5 [some (T.rd (List.map T.int ns)),some (T.adr p),some (T.tup [T.int n,T.tup (List.map T.int w)]),some (T.adr u),some (T.int wt),some (T.adr v),some (T.int P),none] M5:=by
   intro P M5 hP hS5
   have oP:=a8o P hP
   have h97:3≤P∧P≤97:=by
    unfold oddP at oP
    rw[Bool.and_eq_true,Bool.and_eq_true,decide_eq_true_eq,decide_eq_true_eq] at oP
    exact oP.1
   have hfP:=hfd P oP
   have hfr:=b7i (a4T oP) wok
   have hrk:=b2j (p:=P) n.toNat 0 (minU n.toNat (shL (unR n.toNat) w))
   have hfree:n - ((rkL P n.toNat 0 (minU n.toNat (shL (unR n.toNat) w)):Nat):Int)=(a5p P n.toNat w:Nat):=by unfold a5p;lia
   rw[hK5];clear hK5
   refine a3T fun K6 hK6=>?_
   walk_at "rd"
   refine⟨w,rfl,okw,oP,?_⟩
   rw[hfree]
   unfold a1Y
   dsimp only
   rw[if_neg (by decide)]
   have hrb:=a6v (a6s n.toNat) (ws:=w) wok
   have hml:∀ r∈minU n.toNat (shL (unR n.toNat) w),r.length=n.toNat:=a7B fun i hi=>(hrb.row hi).1
   have hlen:(mdR P (minU n.toNat (shL (unR n.toNat) w))).length=n.toNat:=by unfold mdR minU;rw[List.length_map,List.length_map,List.length_range]
   have hin:InR P n.toNat (mdR P (minU n.toNat (shL (unR n.toNat) w))):=fun r hr=>by
    unfold mdR at hr
    obtain⟨q,hq,rfl⟩:=List.mem_map.mp hr
    refine⟨by rw[List.length_map];exact hml q hq,fun x hx=>?_⟩
    obtain⟨y,_,rfl⟩:=List.mem_map.mp hx
    exact a4g (by lia)
   refine⟨w,rfl,okw,h97.1,h97.2,fun d as M6 hd hS6 hMd hrv=>?_⟩
   refine⟨as,n.toNat,_,hMd,hrv,hlen,hin,by lia,h97.1,h97.2,?_⟩
   rw[hfr]
   dsimp only
   refine⟨rfl,rfl,by rw[a2G];decide,?_⟩
   rw[a3K,decide_eq_true rfl,if_neg (by decide),hK6]
   clear hK6
   walk_at "rd"
   have ee:decide ((1:Int) < (a5p P n.toNat w:Nat))=decide (wt % P=0):=by
    by_cases z:wt % P=0
    ·rw[decide_eq_true z,decide_eq_true (by have:=hfP.mpr z;lia)]
    ·rw[decide_eq_false z,decide_eq_false (fun y=>z (hfP.mp (by lia)))]
   rw[ee,show eqT (T.bl (decide (wt % P=0))) (T.bl (decide (wt % P=0)))=true from b0R _ rfl]
   exact⟨by lia,a1K h (hS5.trans hS6)⟩
  intro z hz
  have hvz:v≠z:=fun y=>by rw[← y,hMv4] at hz;cases hz
  have hpz:p≠z:=fun y=>by rw[← y,hMp4] at hz;cases hz
  have hS5:=hS4.newr hz (o:=.lst [])
  have hMp5:=(Sub.new hz (o:=.lst [])) _ _ hMp4
  have hMv5:=(Sub.new hz (o:=.lst [])) _ _ hMv4
  rw[hMv5]
  generalize updM M4 z (.lst [])=M5 at hS5 hMp5 hMv5⊢
  dsimp only
  refine⟨a5E _,rfl,by rw[a6O];decide,ite2 (fun e=>?_) (fun _=>rest P M5 hP hS5)⟩
  have hps0:ps≠[]:=fun z=>by rw[z] at e;exact absurd e (by decide)
  have hpl0:0 < ps.length:=List.length_pos_iff.mpr hps0
  refine⟨k2,f,hMp5,by decide,by decide,fun c2 k3 c20 c21=>⟨rfl,by rw[a2G];decide,?_⟩⟩
  have hS6:=hS5.updF hp (o:=.lst [.int k3,.bl f])
  have hMp6:(updM M5 p (.lst [.int k3,.bl f])) p=some (.lst [.int k3,.bl f]):=a0c
  have hMv6:(updM M5 p (.lst [.int k3,.bl f])) v=some (.lst (ps.map T.int)):=by rw[a0n hpv.symm];exact hMv5
  generalize updM M5 p (.lst [.int k3,.bl f])=M6 at hS6 hMp6 hMv6⊢
  refine ite2 (fun _=>?_) (fun _=>rest P M6 hP hS6)
  rw[hMv6]
  dsimp only
  refine⟨k3,f,hMp6,by rw[List.length_map];lia,by rw[List.length_map];lia,fun c3 k4 c30 c31=>?_⟩
  dsimp only
  rw[a0n hpv.symm,hMv6]
  dsimp only
  rw[List.length_map] at c31
  rw[c0G c30 c31]
  dsimp only
  refine rest (gI ps c3) _ (hps _ ?_) (hS6.updF hp)
  unfold gI
  rw[List.getD_eq_getElem?_getD,List.getElem?_eq_getElem (by lia)]
  exact List.getElem_mem _
 ·exact h.elim
theorem b9J {l:PySem.W.OpenLaw} {w:World} {K:PySem.W.Frag} {h:Heap} {mg:Str→Option Value} {fa f1 f2 f3 f4 f5 f6 f7 f8 f9 f10 f11 f12 f13 f14 f15 f16 f17 f18 f19 f20 f21 f22 f23 f24 f25 f26 f27 f28 f29:Addr} (X:K.In h) (G:h.Ns mainGlobals mg) (hfa:mg "law"=some (.ref fa))
  {od1 od2 od3 od4 od5 od6 od7 od8 od9 od10 od11 od12 od13 od14 od15 od16 od17 od18 od19 od20 od21 od22 od23 od24 od25 od26 od27 od28 od29 an1 an2 an3 an4 an5 an6 an7 an8 an9 an10 an11 an12 an13 an14 an15 an16 an17 an18 an19 an20 an21 an22 an23 an24 an25 an26 an27 an28 an29:Option Addr} {sl1 sl2 sl3 sl4 sl5 sl6 sl7 sl8 sl9 sl10 sl11 sl12 sl13 sl14 sl15 sl16 sl17 sl18 sl19 sl20 sl21 sl22 sl23 sl24 sl25 sl26 sl27 sl28 sl29:Array (Option Value)} {oc1 oc2 oc3 oc4 oc5 oc6 oc7 oc8 oc9 oc10 oc11 oc12 oc13 oc14 oc15 oc16 oc17 oc18 oc19 oc20 oc21 oc22 oc23 oc24 oc25 oc26 oc27 oc28 oc29 kV1 kV2 kV3 kV4 kV5 kV6 kV7 kV8 kV9 kV10 kV11 kV12 kV13 kV14 kV15 kV16 kV17 kV18 kV19 kV20 kV21 kV22 kV23 kV24 kV25 kV26 kV27 kV28 kV29 dc1 dc2 dc3 dc4 dc5 dc6 dc7 dc8 dc9 dc10 dc11 dc12 dc13 dc14 dc15 dc16 dc17 dc18 dc19 dc20 dc21 dc22 dc23 dc24 dc25 dc26 dc27 dc28 dc29 pm1 pm2 pm3 pm4 pm5 pm6 pm7 pm8 pm9 pm10 pm11 pm12 pm13 pm14 pm15 pm16 pm17 pm18 pm19 pm20 pm21 pm22 pm23 pm24 pm25 pm26 pm27 pm28 pm29 cd1 cd2 cd3 cd4 cd5 cd6 cd7 cd8 cd9 cd10 cd11 cd12 cd13 cd14 cd15 cd16 cd17 cd18 cd19 cd20 cd21 cd22 cd23 cd24 cd25 cd26 cd27 cd28 cd29 ct1 ct2 ct3 ct4 ct5 ct6 ct7 ct8 ct9 ct10 ct11 ct12 ct13 ct14 ct15 ct16 ct17 ct18 ct19 ct20 ct21 ct22 ct23 ct24 ct25 ct26 ct27 ct28 ct29:Value}
  (a1:PySem.W.nsIn K mainGlobals "is_letter"=some (some (.ref f1))) (l1:K.lookup f1=some ⟨oc1,od1,.func (PySem.W.fnOf "is_letter" "is_letter" (a0x a2i) (a0r a2i) (a0a a2i) .none kV1 dc1 pm1 an1 cd1 ct1),sl1⟩) (c1:PySem.W.codeIn K cd1 "is_letter"=true) (k1:PySem.W.keepIn K (.ref f1)=true)
  (a2:PySem.W.nsIn K mainGlobals "is_word"=some (some (.ref f2))) (l2:K.lookup f2=some ⟨oc2,od2,.func (PySem.W.fnOf "is_word" "is_word" (a0x a2M) (a0r a2M) (a0a a2M) .none kV2 dc2 pm2 an2 cd2 ct2),sl2⟩) (c2:PySem.W.codeIn K cd2 "is_word"=true) (k2:PySem.W.keepIn K (.ref f2)=true)
  (a3:PySem.W.nsIn K mainGlobals "is_plait"=some (some (.ref f3))) (l3:K.lookup f3=some ⟨oc3,od3,.func (PySem.W.fnOf "is_plait" "is_plait" (a0x a2J) (a0r a2J) (a0a a2J) .none kV3 dc3 pm3 an3 cd3 ct3),sl3⟩) (c3:PySem.W.codeIn K cd3 "is_plait"=true) (k3:PySem.W.keepIn K (.ref f3)=true)
  (a4:PySem.W.nsIn K mainGlobals "looked"=some (some (.ref f4))) (l4:K.lookup f4=some ⟨oc4,od4,.func (PySem.W.fnOf "looked" "looked" (a0x a3U) (a0r a3U) (a0a a3U) .none kV4 dc4 pm4 an4 cd4 ct4),sl4⟩) (c4:PySem.W.codeIn K cd4 "looked"=true) (k4:PySem.W.keepIn K (.ref f4)=true)
  (a5:PySem.W.nsIn K mainGlobals "without_noughts"=some (some (.ref f5))) (l5:K.lookup f5=some ⟨oc5,od5,.func (PySem.W.fnOf "without_noughts" "without_noughts" (a0x a0F) (a0r a0F) (a0a a0F) .none kV5 dc5 pm5 an5 cd5 ct5),sl5⟩) (c5:PySem.W.codeIn K cd5 "without_noughts"=true) (k5:PySem.W.keepIn K (.ref f5)=true)
  (a6:PySem.W.nsIn K mainGlobals "added"=some (some (.ref f6))) (l6:K.lookup f6=some ⟨oc6,od6,.func (PySem.W.fnOf "added" "added" (a0x a4Q) (a0r a4Q) (a0a a4Q) .none kV6 dc6 pm6 an6 cd6 ct6),sl6⟩) (c6:PySem.W.codeIn K cd6 "added"=true) (k6:PySem.W.keepIn K (.ref f6)=true)
  (a7:PySem.W.nsIn K mainGlobals "multiplied"=some (some (.ref f7))) (l7:K.lookup f7=some ⟨oc7,od7,.func (PySem.W.fnOf "multiplied" "multiplied" (a0x a1R) (a0r a1R) (a0a a1R) .none kV7 dc7 pm7 an7 cd7 ct7),sl7⟩) (c7:PySem.W.codeIn K cd7 "multiplied"=true) (k7:PySem.W.keepIn K (.ref f7)=true)
  (a8:PySem.W.nsIn K mainGlobals "one_where_same"=some (some (.ref f8))) (l8:K.lookup f8=some ⟨oc8,od8,.func (PySem.W.fnOf "one_where_same" "one_where_same" (a0x a0Z) (a0r a0Z) (a0a a0Z) .none kV8 dc8 pm8 an8 cd8 ct8),sl8⟩) (c8:PySem.W.codeIn K cd8 "one_where_same"=true) (k8:PySem.W.keepIn K (.ref f8)=true)
  (a9:PySem.W.nsIn K mainGlobals "with_letter"=some (some (.ref f9))) (l9:K.lookup f9=some ⟨oc9,od9,.func (PySem.W.fnOf "with_letter" "with_letter" (a0x a1F) (a0r a1F) (a0a a1F) .none kV9 dc9 pm9 an9 cd9 ct9),sl9⟩) (c9:PySem.W.codeIn K cd9 "with_letter"=true) (k9:PySem.W.keepIn K (.ref f9)=true)
  (a10:PySem.W.nsIn K mainGlobals "table_of"=some (some (.ref f10))) (l10:K.lookup f10=some ⟨oc10,od10,.func (PySem.W.fnOf "table_of" "table_of" (a0x a1G) (a0r a1G) (a0a a1G) .none kV10 dc10 pm10 an10 cd10 ct10),sl10⟩) (c10:PySem.W.codeIn K cd10 "table_of"=true) (k10:PySem.W.keepIn K (.ref f10)=true)
  (a11:PySem.W.nsIn K mainGlobals "determinant"=some (some (.ref f11))) (l11:K.lookup f11=some ⟨oc11,od11,.func (PySem.W.fnOf "determinant" "determinant" (a0x a1b) (a0r a1b) (a0a a1b) .none kV11 dc11 pm11 an11 cd11 ct11),sl11⟩) (c11:PySem.W.codeIn K cd11 "determinant"=true) (k11:PySem.W.keepIn K (.ref f11)=true)
  (a12:PySem.W.nsIn K mainGlobals "from_nought"=some (some (.ref f12))) (l12:K.lookup f12=some ⟨oc12,od12,.func (PySem.W.fnOf "from_nought" "from_nought" (a0x a1H) (a0r a1H) (a0a a1H) .none kV12 dc12 pm12 an12 cd12 ct12),sl12⟩) (c12:PySem.W.codeIn K cd12 "from_nought"=true) (k12:PySem.W.keepIn K (.ref f12)=true)
  (a13:PySem.W.nsIn K mainGlobals "closed_sum"=some (some (.ref f13))) (l13:K.lookup f13=some ⟨oc13,od13,.func (PySem.W.fnOf "closed_sum" "closed_sum" (a0x a1B) (a0r a1B) (a0a a1B) .none kV13 dc13 pm13 an13 cd13 ct13),sl13⟩) (c13:PySem.W.codeIn K cd13 "closed_sum"=true) (k13:PySem.W.keepIn K (.ref f13)=true)
  (a14:PySem.W.nsIn K mainGlobals "closed_weight"=some (some (.ref f14))) (l14:K.lookup f14=some ⟨oc14,od14,.func (PySem.W.fnOf "closed_weight" "closed_weight" (a0x a0Q) (a0r a0Q) (a0a a0Q) .none kV14 dc14 pm14 an14 cd14 ct14),sl14⟩) (c14:PySem.W.codeIn K cd14 "closed_weight"=true) (k14:PySem.W.keepIn K (.ref f14)=true)
  (a15:PySem.W.nsIn K mainGlobals "is_odd_prime"=some (some (.ref f15))) (l15:K.lookup f15=some ⟨oc15,od15,.func (PySem.W.fnOf "is_odd_prime" "is_odd_prime" (a0x a1f) (a0r a1f) (a0a a1f) .none kV15 dc15 pm15 an15 cd15 ct15),sl15⟩) (c15:PySem.W.codeIn K cd15 "is_odd_prime"=true) (k15:PySem.W.keepIn K (.ref f15)=true)
  (a16:PySem.W.nsIn K mainGlobals "twice_less"=some (some (.ref f16))) (l16:K.lookup f16=some ⟨oc16,od16,.func (PySem.W.fnOf "twice_less" "twice_less" (a0x a1A) (a0r a1A) (a0a a1A) .none kV16 dc16 pm16 an16 cd16 ct16),sl16⟩) (c16:PySem.W.codeIn K cd16 "twice_less"=true) (k16:PySem.W.keepIn K (.ref f16)=true)
  (a17:PySem.W.nsIn K mainGlobals "shares_behind"=some (some (.ref f17))) (l17:K.lookup f17=some ⟨oc17,od17,.func (PySem.W.fnOf "shares_behind" "shares_behind" (a0x a0I) (a0r a0I) (a0a a0I) .none kV17 dc17 pm17 an17 cd17 ct17),sl17⟩) (c17:PySem.W.codeIn K cd17 "shares_behind"=true) (k17:PySem.W.keepIn K (.ref f17)=true)
  (a18:PySem.W.nsIn K mainGlobals "cleared"=some (some (.ref f18))) (l18:K.lookup f18=some ⟨oc18,od18,.func (PySem.W.fnOf "cleared" "cleared" (a0x a2N) (a0r a2N) (a0a a2N) .none kV18 dc18 pm18 an18 cd18 ct18),sl18⟩) (c18:PySem.W.codeIn K cd18 "cleared"=true) (k18:PySem.W.keepIn K (.ref f18)=true)
  (a19:PySem.W.nsIn K mainGlobals "rank_of"=some (some (.ref f19))) (l19:K.lookup f19=some ⟨oc19,od19,.func (PySem.W.fnOf "rank_of" "rank_of" (a0x a2s) (a0r a2s) (a0a a2s) .none kV19 dc19 pm19 an19 cd19 ct19),sl19⟩) (c19:PySem.W.codeIn K cd19 "rank_of"=true) (k19:PySem.W.keepIn K (.ref f19)=true)
  (a20:PySem.W.nsIn K mainGlobals "free_colours"=some (some (.ref f20))) (l20:K.lookup f20=some ⟨oc20,od20,.func (PySem.W.fnOf "free_colours" "free_colours" (a0x a1t) (a0r a1t) (a0a a1t) .none kV20 dc20 pm20 an20 cd20 ct20),sl20⟩) (c20:PySem.W.codeIn K cd20 "free_colours"=true) (k20:PySem.W.keepIn K (.ref f20)=true)
  (a21:PySem.W.nsIn K mainGlobals "_law_cell_at"=some (some (.ref f21))) (l21:K.lookup f21=some ⟨oc21,od21,.func (PySem.W.fnOf "_law_cell_at" "_law_cell_at" (a0x a1u) (a0r a1u) (a0a a1u) .none kV21 dc21 pm21 an21 cd21 ct21),sl21⟩) (c21:PySem.W.codeIn K cd21 "_law_cell_at"=true) (k21:PySem.W.keepIn K (.ref f21)=true)
  (a22:PySem.W.nsIn K mainGlobals "_law_whole"=some (some (.ref f22))) (l22:K.lookup f22=some ⟨oc22,od22,.func (PySem.W.fnOf "_law_whole" "_law_whole" (a0x a1S) (a0r a1S) (a0a a1S) .none kV22 dc22 pm22 an22 cd22 ct22),sl22⟩) (c22:PySem.W.codeIn K cd22 "_law_whole"=true) (k22:PySem.W.keepIn K (.ref f22)=true)
  (a23:PySem.W.nsIn K mainGlobals "_law_state"=some (some (.ref f23))) (l23:K.lookup f23=some ⟨oc23,od23,.func (PySem.W.fnOf "_law_state" "_law_state" (a0x a1T) (a0r a1T) (a0a a1T) .none kV23 dc23 pm23 an23 cd23 ct23),sl23⟩) (c23:PySem.W.codeIn K cd23 "_law_state"=true) (k23:PySem.W.keepIn K (.ref f23)=true)
  (a24:PySem.W.nsIn K mainGlobals "_law_choice"=some (some (.ref f24))) (l24:K.lookup f24=some ⟨oc24,od24,.func (PySem.W.fnOf "_law_choice" "_law_choice" (a0x a1I) (a0r a1I) (a0a a1I) .none kV24 dc24 pm24 an24 cd24 ct24),sl24⟩) (c24:PySem.W.codeIn K cd24 "_law_choice"=true) (k24:PySem.W.keepIn K (.ref f24)=true)
  (a25:PySem.W.nsIn K mainGlobals "_law_word"=some (some (.ref f25))) (l25:K.lookup f25=some ⟨oc25,od25,.func (PySem.W.fnOf "_law_word" "_law_word" (a0x a1P) (a0r a1P) (a0a a1P) .none kV25 dc25 pm25 an25 cd25 ct25),sl25⟩) (c25:PySem.W.codeIn K cd25 "_law_word"=true) (k25:PySem.W.keepIn K (.ref f25)=true)
  (a26:PySem.W.nsIn K mainGlobals "_law_plait"=some (some (.ref f26))) (l26:K.lookup f26=some ⟨oc26,od26,.func (PySem.W.fnOf "_law_plait" "_law_plait" (a0x a1U) (a0r a1U) (a0a a1U) .none kV26 dc26 pm26 an26 cd26 ct26),sl26⟩) (c26:PySem.W.codeIn K cd26 "_law_plait"=true) (k26:PySem.W.keepIn K (.ref f26)=true)
  (a27:PySem.W.nsIn K mainGlobals "_law_rows"=some (some (.ref f27))) (l27:K.lookup f27=some ⟨oc27,od27,.func (PySem.W.fnOf "_law_rows" "_law_rows" (a0x a0R) (a0r a0R) (a0a a0R) .none kV27 dc27 pm27 an27 cd27 ct27),sl27⟩) (c27:PySem.W.codeIn K cd27 "_law_rows"=true) (k27:PySem.W.keepIn K (.ref f27)=true)
  (a28:PySem.W.nsIn K mainGlobals "_law_free"=some (some (.ref f28))) (l28:K.lookup f28=some ⟨oc28,od28,.func (PySem.W.fnOf "_law_free" "_law_free" (a0x a1m) (a0r a1m) (a0a a1m) .none kV28 dc28 pm28 an28 cd28 ct28),sl28⟩) (c28:PySem.W.codeIn K cd28 "_law_free"=true) (k28:PySem.W.keepIn K (.ref f28)=true)
  (a29:PySem.W.nsIn K mainGlobals "law"=some (some (.ref f29))) (l29:K.lookup f29=some ⟨oc29,od29,.func (PySem.W.fnOf "law" "law" (a0x a6j) (a0r a6j) (a0a a6j) .none kV29 dc29 pm29 an29 cd29 ct29),sl29⟩) (c29:PySem.W.codeIn K cd29 "law"=true) (k29:PySem.W.keepIn K (.ref f29)=true)
  (z_abs:PySem.W.nsIn K mainGlobals "abs"=some none)
  (z_all:PySem.W.nsIn K mainGlobals "all"=some none)
  (z_bool:PySem.W.nsIn K mainGlobals "bool"=some none)
  (z_dict:PySem.W.nsIn K mainGlobals "dict"=some none)
  (z_enumerate:PySem.W.nsIn K mainGlobals "enumerate"=some none)
  (z_int:PySem.W.nsIn K mainGlobals "int"=some none)
  (z_isinstance:PySem.W.nsIn K mainGlobals "isinstance"=some none)
  (z_len:PySem.W.nsIn K mainGlobals "len"=some none)
  (z_list:PySem.W.nsIn K mainGlobals "list"=some none)
  (z_range:PySem.W.nsIn K mainGlobals "range"=some none)
  (z_sorted:PySem.W.nsIn K mainGlobals "sorted"=some none)
  (z_sum:PySem.W.nsIn K mainGlobals "sum"=some none)
  (z_tuple:PySem.W.nsIn K mainGlobals "tuple"=some none)
  (z_zip:PySem.W.nsIn K mainGlobals "zip"=some none)
  {u_DOWN:Addr} (g_DOWN:PySem.W.nsIn K mainGlobals "DOWN"=some (some (.ref u_DOWN)))
  {n_DOWN:Nat} {s_DOWN:Array (Option Value)} {u_DOWN_0:Addr} (l_DOWN:K.lookup u_DOWN=some ⟨.type "tuple",none,.seq #[.ref u_DOWN_0] n_DOWN,s_DOWN⟩)
  {n_DOWN_0:Nat} {s_DOWN_0:Array (Option Value)} {t_DOWN_0_0:Tok} {t_DOWN_0_1:Tok} (l_DOWN_0:K.lookup u_DOWN_0=some ⟨.type "tuple",none,.seq #[.int (-1) t_DOWN_0_0,.int (1) t_DOWN_0_1] n_DOWN_0,s_DOWN_0⟩)
  {u_LESS_DOWN:Addr} (g_LESS_DOWN:PySem.W.nsIn K mainGlobals "LESS_DOWN"=some (some (.ref u_LESS_DOWN)))
  {n_LESS_DOWN:Nat} {s_LESS_DOWN:Array (Option Value)} {u_LESS_DOWN_0:Addr} {u_LESS_DOWN_1:Addr} (l_LESS_DOWN:K.lookup u_LESS_DOWN=some ⟨.type "tuple",none,.seq #[.ref u_LESS_DOWN_0,.ref u_LESS_DOWN_1] n_LESS_DOWN,s_LESS_DOWN⟩)
  {n_LESS_DOWN_0:Nat} {s_LESS_DOWN_0:Array (Option Value)} {t_LESS_DOWN_0_0:Tok} {t_LESS_DOWN_0_1:Tok} (l_LESS_DOWN_0:K.lookup u_LESS_DOWN_0=some ⟨.type "tuple",none,.seq #[.int (-1) t_LESS_DOWN_0_0,.int (-1) t_LESS_DOWN_0_1] n_LESS_DOWN_0,s_LESS_DOWN_0⟩)
  {n_LESS_DOWN_1:Nat} {s_LESS_DOWN_1:Array (Option Value)} {t_LESS_DOWN_1_0:Tok} {t_LESS_DOWN_1_1:Tok} (l_LESS_DOWN_1:K.lookup u_LESS_DOWN_1=some ⟨.type "tuple",none,.seq #[.int (0) t_LESS_DOWN_1_0,.int (1) t_LESS_DOWN_1_1] n_LESS_DOWN_1,s_LESS_DOWN_1⟩)
  {u_LESS_ONE:Addr} (g_LESS_ONE:PySem.W.nsIn K mainGlobals "LESS_ONE"=some (some (.ref u_LESS_ONE)))
  {n_LESS_ONE:Nat} {s_LESS_ONE:Array (Option Value)} {u_LESS_ONE_0:Addr} (l_LESS_ONE:K.lookup u_LESS_ONE=some ⟨.type "tuple",none,.seq #[.ref u_LESS_ONE_0] n_LESS_ONE,s_LESS_ONE⟩)
  {n_LESS_ONE_0:Nat} {s_LESS_ONE_0:Array (Option Value)} {t_LESS_ONE_0_0:Tok} {t_LESS_ONE_0_1:Tok} (l_LESS_ONE_0:K.lookup u_LESS_ONE_0=some ⟨.type "tuple",none,.seq #[.int (0) t_LESS_ONE_0_0,.int (-1) t_LESS_ONE_0_1] n_LESS_ONE_0,s_LESS_ONE_0⟩)
  {u_LESS_UP:Addr} (g_LESS_UP:PySem.W.nsIn K mainGlobals "LESS_UP"=some (some (.ref u_LESS_UP)))
  {n_LESS_UP:Nat} {s_LESS_UP:Array (Option Value)} {u_LESS_UP_0:Addr} {u_LESS_UP_1:Addr} (l_LESS_UP:K.lookup u_LESS_UP=some ⟨.type "tuple",none,.seq #[.ref u_LESS_UP_0,.ref u_LESS_UP_1] n_LESS_UP,s_LESS_UP⟩)
  {n_LESS_UP_0:Nat} {s_LESS_UP_0:Array (Option Value)} {t_LESS_UP_0_0:Tok} {t_LESS_UP_0_1:Tok} (l_LESS_UP_0:K.lookup u_LESS_UP_0=some ⟨.type "tuple",none,.seq #[.int (0) t_LESS_UP_0_0,.int (1) t_LESS_UP_0_1] n_LESS_UP_0,s_LESS_UP_0⟩)
  {n_LESS_UP_1:Nat} {s_LESS_UP_1:Array (Option Value)} {t_LESS_UP_1_0:Tok} {t_LESS_UP_1_1:Tok} (l_LESS_UP_1:K.lookup u_LESS_UP_1=some ⟨.type "tuple",none,.seq #[.int (1) t_LESS_UP_1_0,.int (-1) t_LESS_UP_1_1] n_LESS_UP_1,s_LESS_UP_1⟩)
  {tk_MOST_LETTERS:Tok} (g_MOST_LETTERS:PySem.W.nsIn K mainGlobals "MOST_LETTERS"=some (some (.int 16 tk_MOST_LETTERS)))
  {tk_MOST_PRIME:Tok} (g_MOST_PRIME:PySem.W.nsIn K mainGlobals "MOST_PRIME"=some (some (.int 97 tk_MOST_PRIME)))
  {tk_MOST_STRANDS:Tok} (g_MOST_STRANDS:PySem.W.nsIn K mainGlobals "MOST_STRANDS"=some (some (.int 6 tk_MOST_STRANDS)))
  {u_NOUGHT:Addr} (g_NOUGHT:PySem.W.nsIn K mainGlobals "NOUGHT"=some (some (.ref u_NOUGHT)))
  {n_NOUGHT:Nat} {s_NOUGHT:Array (Option Value)} (l_NOUGHT:K.lookup u_NOUGHT=some ⟨.type "tuple",none,.seq #[] n_NOUGHT,s_NOUGHT⟩)
  {u_ONE:Addr} (g_ONE:PySem.W.nsIn K mainGlobals "ONE"=some (some (.ref u_ONE)))
  {n_ONE:Nat} {s_ONE:Array (Option Value)} {u_ONE_0:Addr} (l_ONE:K.lookup u_ONE=some ⟨.type "tuple",none,.seq #[.ref u_ONE_0] n_ONE,s_ONE⟩)
  {n_ONE_0:Nat} {s_ONE_0:Array (Option Value)} {t_ONE_0_0:Tok} {t_ONE_0_1:Tok} (l_ONE_0:K.lookup u_ONE_0=some ⟨.type "tuple",none,.seq #[.int (0) t_ONE_0_0,.int (1) t_ONE_0_1] n_ONE_0,s_ONE_0⟩)
  {u_UP:Addr} (g_UP:PySem.W.nsIn K mainGlobals "UP"=some (some (.ref u_UP)))
  {n_UP:Nat} {s_UP:Array (Option Value)} {u_UP_0:Addr} (l_UP:K.lookup u_UP=some ⟨.type "tuple",none,.seq #[.ref u_UP_0] n_UP,s_UP⟩)
  {n_UP_0:Nat} {s_UP_0:Array (Option Value)} {t_UP_0_0:Tok} {t_UP_0_1:Tok} (l_UP_0:K.lookup u_UP_0=some ⟨.type "tuple",none,.seq #[.int (1) t_UP_0_0,.int (1) t_UP_0_1] n_UP_0,s_UP_0⟩)
  : ∃ fd:FuncData,(∀ (s:Shared) (v:Value),BindsTo s fd ⟨[v],[]⟩ [("script",v)])∧∀ base:Heap,K.In base→base.Ns mainGlobals mg→FnOk l.prog w K mg base CX0 12 fa fd ["script"] (dSp K a6t):=by
 have e:=hfa.symm.trans (PySem.W.mg_of X G a29)
 cases e
 have Z:Zs K mg:=⟨PySem.W.mg_none_of X G z_abs,PySem.W.mg_none_of X G z_all,PySem.W.mg_none_of X G z_bool,PySem.W.mg_none_of X G z_dict,PySem.W.mg_none_of X G z_enumerate,PySem.W.mg_none_of X G z_int,PySem.W.mg_none_of X G z_isinstance,PySem.W.mg_none_of X G z_len,PySem.W.mg_none_of X G z_list,PySem.W.mg_none_of X G z_range,PySem.W.mg_none_of X G z_sorted,PySem.W.mg_none_of X G z_sum,PySem.W.mg_none_of X G z_tuple,PySem.W.mg_none_of X G z_zip,⟨u_DOWN,PySem.W.mg_of X G g_DOWN,fun H=>(a0T (xs:=[.ref u_DOWN_0]) l_DOWN (by show 1≤1000;decide) (.cons rfl .nil) (a0k (a0T (xs:=[.int (-1),.int (1)]) l_DOWN_0 (by show 2≤1000;decide) (.cons ⟨_,rfl⟩ (.cons ⟨_,rfl⟩ .nil)) (a0k a0p (a0k a0p a0S))) a0S))⟩,⟨u_LESS_DOWN,PySem.W.mg_of X G g_LESS_DOWN,fun H=>(a0T (xs:=[.ref u_LESS_DOWN_0,.ref u_LESS_DOWN_1]) l_LESS_DOWN (by show 2≤1000;decide) (.cons rfl (.cons rfl .nil)) (a0k (a0T (xs:=[.int (-1),.int (-1)]) l_LESS_DOWN_0 (by show 2≤1000;decide) (.cons ⟨_,rfl⟩ (.cons ⟨_,rfl⟩ .nil)) (a0k a0p (a0k a0p a0S))) (a0k (a0T (xs:=[.int (0),.int (1)]) l_LESS_DOWN_1 (by show 2≤1000;decide) (.cons ⟨_,rfl⟩ (.cons ⟨_,rfl⟩ .nil)) (a0k a0p (a0k a0p a0S))) a0S)))⟩,⟨u_LESS_ONE,PySem.W.mg_of X G g_LESS_ONE,fun H=>(a0T (xs:=[.ref u_LESS_ONE_0]) l_LESS_ONE (by show 1≤1000;decide) (.cons rfl .nil) (a0k (a0T (xs:=[.int (0),.int (-1)]) l_LESS_ONE_0 (by show 2≤1000;decide) (.cons ⟨_,rfl⟩ (.cons ⟨_,rfl⟩ .nil)) (a0k a0p (a0k a0p a0S))) a0S))⟩,⟨u_LESS_UP,PySem.W.mg_of X G g_LESS_UP,fun H=>(a0T (xs:=[.ref u_LESS_UP_0,.ref u_LESS_UP_1]) l_LESS_UP (by show 2≤1000;decide) (.cons rfl (.cons rfl .nil)) (a0k (a0T (xs:=[.int (0),.int (1)]) l_LESS_UP_0 (by show 2≤1000;decide) (.cons ⟨_,rfl⟩ (.cons ⟨_,rfl⟩ .nil)) (a0k a0p (a0k a0p a0S))) (a0k (a0T (xs:=[.int (1),.int (-1)]) l_LESS_UP_1 (by show 2≤1000;decide) (.cons ⟨_,rfl⟩ (.cons ⟨_,rfl⟩ .nil)) (a0k a0p (a0k a0p a0S))) a0S)))⟩,⟨tk_MOST_LETTERS,PySem.W.mg_of X G g_MOST_LETTERS⟩,⟨tk_MOST_PRIME,PySem.W.mg_of X G g_MOST_PRIME⟩,⟨tk_MOST_STRANDS,PySem.W.mg_of X G g_MOST_STRANDS⟩,⟨u_NOUGHT,PySem.W.mg_of X G g_NOUGHT,fun H=>(a0T (xs:=[]) l_NOUGHT (by show 0≤1000;decide) .nil a0S)⟩,⟨u_ONE,PySem.W.mg_of X G g_ONE,fun H=>(a0T (xs:=[.ref u_ONE_0]) l_ONE (by show 1≤1000;decide) (.cons rfl .nil) (a0k (a0T (xs:=[.int (0),.int (1)]) l_ONE_0 (by show 2≤1000;decide) (.cons ⟨_,rfl⟩ (.cons ⟨_,rfl⟩ .nil)) (a0k a0p (a0k a0p a0S))) a0S))⟩,⟨u_UP,PySem.W.mg_of X G g_UP,fun H=>(a0T (xs:=[.ref u_UP_0]) l_UP (by show 1≤1000;decide) (.cons rfl .nil) (a0k (a0T (xs:=[.int (1),.int (1)]) l_UP_0 (by show 2≤1000;decide) (.cons ⟨_,rfl⟩ (.cons ⟨_,rfl⟩ .nil)) (a0k a0p (a0k a0p a0S))) a0S))⟩⟩
 have F1:=a1c (st:=a2i) l1 c1 k1
 have b1:=F1.binds (ps:=["strands","letter"]) fun _ _ _ _ _ _ us hl=>a4V (P:=fun us=>bindArgs _ ⟨us,[]⟩=pure (List.zip _ us)) hl (fun _ _=>rfl)
 have F2:=a1c (st:=a2M) l2 c2 k2
 have b2:=F2.binds (ps:=["strands","word","most"]) fun _ _ _ _ _ _ us hl=>b4E (P:=fun us=>bindArgs _ ⟨us,[]⟩=pure (List.zip _ us)) hl (fun _ _ _=>rfl)
 have F3:=a1c (st:=a2J) l3 c3 k3
 have b3:=F3.binds (ps:=["plait"]) fun _ _ _ _ _ _ us hl=>a5o (P:=fun us=>bindArgs _ ⟨us,[]⟩=pure (List.zip _ us)) hl (fun _=>rfl)
 have F4:=a1c (st:=a3U) l4 c4 k4
 have b4:=F4.binds (ps:=["plait"]) fun _ _ _ _ _ _ us hl=>a5o (P:=fun us=>bindArgs _ ⟨us,[]⟩=pure (List.zip _ us)) hl (fun _=>rfl)
 have F5:=a1c (st:=a0F) l5 c5 k5
 have b5:=F5.binds (ps:=["counts"]) fun _ _ _ _ _ _ us hl=>a5o (P:=fun us=>bindArgs _ ⟨us,[]⟩=pure (List.zip _ us)) hl (fun _=>rfl)
 have F6:=a1c (st:=a4Q) l6 c6 k6
 have b6:=F6.binds (ps:=["one","other"]) fun _ _ _ _ _ _ us hl=>a4V (P:=fun us=>bindArgs _ ⟨us,[]⟩=pure (List.zip _ us)) hl (fun _ _=>rfl)
 have F7:=a1c (st:=a1R) l7 c7 k7
 have b7:=F7.binds (ps:=["one","other"]) fun _ _ _ _ _ _ us hl=>a4V (P:=fun us=>bindArgs _ ⟨us,[]⟩=pure (List.zip _ us)) hl (fun _ _=>rfl)
 have F8:=a1c (st:=a0Z) l8 c8 k8
 have b8:=F8.binds (ps:=["row","column"]) fun _ _ _ _ _ _ us hl=>a4V (P:=fun us=>bindArgs _ ⟨us,[]⟩=pure (List.zip _ us)) hl (fun _ _=>rfl)
 have F9:=a1c (st:=a1F) l9 c9 k9
 have b9:=F9.binds (ps:=["row","letter"]) fun _ _ _ _ _ _ us hl=>a4V (P:=fun us=>bindArgs _ ⟨us,[]⟩=pure (List.zip _ us)) hl (fun _ _=>rfl)
 have F10:=a1c (st:=a1G) l10 c10 k10
 have b10:=F10.binds (ps:=["plait"]) fun _ _ _ _ _ _ us hl=>a5o (P:=fun us=>bindArgs _ ⟨us,[]⟩=pure (List.zip _ us)) hl (fun _=>rfl)
 have F11:=a1c (st:=a1b) l11 c11 k11
 have b11:=F11.binds (ps:=["rows"]) fun _ _ _ _ _ _ us hl=>a5o (P:=fun us=>bindArgs _ ⟨us,[]⟩=pure (List.zip _ us)) hl (fun _=>rfl)
 have F12:=a1c (st:=a1H) l12 c12 k12
 have b12:=F12.binds (ps:=["whole"]) fun _ _ _ _ _ _ us hl=>a5o (P:=fun us=>bindArgs _ ⟨us,[]⟩=pure (List.zip _ us)) hl (fun _=>rfl)
 have F13:=a1c (st:=a1B) l13 c13 k13
 have b13:=F13.binds (ps:=["plait"]) fun _ _ _ _ _ _ us hl=>a5o (P:=fun us=>bindArgs _ ⟨us,[]⟩=pure (List.zip _ us)) hl (fun _=>rfl)
 have F14:=a1c (st:=a0Q) l14 c14 k14
 have b14:=F14.binds (ps:=["plait"]) fun _ _ _ _ _ _ us hl=>a5o (P:=fun us=>bindArgs _ ⟨us,[]⟩=pure (List.zip _ us)) hl (fun _=>rfl)
 have F15:=a1c (st:=a1f) l15 c15 k15
 have b15:=F15.binds (ps:=["number"]) fun _ _ _ _ _ _ us hl=>a5o (P:=fun us=>bindArgs _ ⟨us,[]⟩=pure (List.zip _ us)) hl (fun _=>rfl)
 have F16:=a1c (st:=a1A) l16 c16 k16
 have b16:=F16.binds (ps:=["row","other"]) fun _ _ _ _ _ _ us hl=>a4V (P:=fun us=>bindArgs _ ⟨us,[]⟩=pure (List.zip _ us)) hl (fun _ _=>rfl)
 have F17:=a1c (st:=a0I) l17 c17 k17
 have b17:=F17.binds (ps:=["plait"]) fun _ _ _ _ _ _ us hl=>a5o (P:=fun us=>bindArgs _ ⟨us,[]⟩=pure (List.zip _ us)) hl (fun _=>rfl)
 have F18:=a1c (st:=a2N) l18 c18 k18
 have b18:=F18.binds (ps:=["row","first","column","prime"]) fun _ _ _ _ _ _ us hl=>b8X (P:=fun us=>bindArgs _ ⟨us,[]⟩=pure (List.zip _ us)) hl (fun _ _ _ _=>rfl)
 have F19:=a1c (st:=a2s) l19 c19 k19
 have b19:=F19.binds (ps:=["rows","prime"]) fun _ _ _ _ _ _ us hl=>a4V (P:=fun us=>bindArgs _ ⟨us,[]⟩=pure (List.zip _ us)) hl (fun _ _=>rfl)
 have F20:=a1c (st:=a1t) l20 c20 k20
 have b20:=F20.binds (ps:=["prime","plait"]) fun _ _ _ _ _ _ us hl=>a4V (P:=fun us=>bindArgs _ ⟨us,[]⟩=pure (List.zip _ us)) hl (fun _ _=>rfl)
 have F21:=a1c (st:=a1u) l21 c21 k21
 have b21:=F21.binds (ps:=["script","k"]) fun _ _ _ _ _ _ us hl=>a4V (P:=fun us=>bindArgs _ ⟨us,[]⟩=pure (List.zip _ us)) hl (fun _ _=>rfl)
 have F22:=a1c (st:=a1S) l22 c22 k22
 have b22:=F22.binds (ps:=["found"]) fun _ _ _ _ _ _ us hl=>a5o (P:=fun us=>bindArgs _ ⟨us,[]⟩=pure (List.zip _ us)) hl (fun _=>rfl)
 have F23:=a1c (st:=a1T) l23 c23 k23
 have b23:=F23.binds (ps:=["script","k"]) fun _ _ _ _ _ _ us hl=>a4V (P:=fun us=>bindArgs _ ⟨us,[]⟩=pure (List.zip _ us)) hl (fun _ _=>rfl)
 have F24:=a1c (st:=a1I) l24 c24 k24
 have b24:=F24.binds (ps:=["state","many"]) fun _ _ _ _ _ _ us hl=>a4V (P:=fun us=>bindArgs _ ⟨us,[]⟩=pure (List.zip _ us)) hl (fun _ _=>rfl)
 have F25:=a1c (st:=a1P) l25 c25 k25
 have b25:=F25.binds (ps:=["state","strands","count"]) fun _ _ _ _ _ _ us hl=>b4E (P:=fun us=>bindArgs _ ⟨us,[]⟩=pure (List.zip _ us)) hl (fun _ _ _=>rfl)
 have F26:=a1c (st:=a1U) l26 c26 k26
 have b26:=F26.binds (ps:=["state","least","most","letters"]) fun _ _ _ _ _ _ us hl=>b8X (P:=fun us=>bindArgs _ ⟨us,[]⟩=pure (List.zip _ us)) hl (fun _ _ _ _=>rfl)
 have F27:=a1c (st:=a0R) l27 c27 k27
 have b27:=F27.binds (ps:=["strands","word","prime"]) fun _ _ _ _ _ _ us hl=>b4E (P:=fun us=>bindArgs _ ⟨us,[]⟩=pure (List.zip _ us)) hl (fun _ _ _=>rfl)
 have F28:=a1c (st:=a1m) l28 c28 k28
 have b28:=F28.binds (ps:=["rows","prime"]) fun _ _ _ _ _ _ us hl=>a4V (P:=fun us=>bindArgs _ ⟨us,[]⟩=pure (List.zip _ us)) hl (fun _ _=>rfl)
 have F29:=a1c (st:=a6j) l29 c29 k29
 refine⟨PySem.W.fnOf "law" "law" (a0x a6j) (a0r a6j) (a0a a6j) .none kV29 dc29 pm29 an29 cd29 ct29,fun s v=>.of_eq rfl,fun base _ _=>?_⟩
 have D1:=a8r (P:=l.prog) (w:=w) (base:=base) (n:=0) F1 (PySem.W.mg_of X G a1) b1 Z 
 have D2:=b1C (P:=l.prog) (w:=w) (base:=base) (n:=1) F2 (PySem.W.mg_of X G a2) b2 Z (D1.mono (by decide))
 have D3:=a9E (P:=l.prog) (w:=w) (base:=base) (n:=2) F3 (PySem.W.mg_of X G a3) b3 Z (D2.mono (by decide))
 have D4:=b2C (P:=l.prog) (w:=w) (base:=base) (n:=3) F4 (PySem.W.mg_of X G a4) b4 Z (D3.mono (by decide))
 have D5:=a4y (P:=l.prog) (w:=w) (base:=base) (n:=0) F5 (PySem.W.mg_of X G a5) b5 Z 
 have D6:=b4B (P:=l.prog) (w:=w) (base:=base) (n:=1) F6 (PySem.W.mg_of X G a6) b6 Z (D5.mono (by decide))
 have D7:=a7s (P:=l.prog) (w:=w) (base:=base) (n:=1) F7 (PySem.W.mg_of X G a7) b7 Z (D5.mono (by decide))
 have D8:=a4S (P:=l.prog) (w:=w) (base:=base) (n:=0) F8 (PySem.W.mg_of X G a8) b8 Z 
 have D9:=a6k (P:=l.prog) (w:=w) (base:=base) (n:=2) F9 (PySem.W.mg_of X G a9) b9 Z (D6.mono (by decide)) (D7.mono (by decide))
 have D10:=a9D (P:=l.prog) (w:=w) (base:=base) (n:=4) F10 (PySem.W.mg_of X G a10) b10 Z (D4.mono (by decide)) (D8.mono (by decide)) (D9.mono (by decide))
 have D11_0:=a5l (P:=l.prog) (w:=w) (base:=base) (n:=2) F11 (PySem.W.mg_of X G a11) b11
 have D11_1:=a1v (P:=l.prog) (w:=w) (base:=base) (n:=3) (k:=0) F11 (PySem.W.mg_of X G a11) b11 Z (D11_0.mono (by decide)) (D6.mono (by decide)) (D7.mono (by decide))
 have D11_2:=a1v (P:=l.prog) (w:=w) (base:=base) (n:=4) (k:=1) F11 (PySem.W.mg_of X G a11) b11 Z (D11_1.mono (by decide)) (D6.mono (by decide)) (D7.mono (by decide))
 have D11_3:=a1v (P:=l.prog) (w:=w) (base:=base) (n:=5) (k:=2) F11 (PySem.W.mg_of X G a11) b11 Z (D11_2.mono (by decide)) (D6.mono (by decide)) (D7.mono (by decide))
 have D11_4:=a1v (P:=l.prog) (w:=w) (base:=base) (n:=6) (k:=3) F11 (PySem.W.mg_of X G a11) b11 Z (D11_3.mono (by decide)) (D6.mono (by decide)) (D7.mono (by decide))
 have D11_5:=a1v (P:=l.prog) (w:=w) (base:=base) (n:=7) (k:=4) F11 (PySem.W.mg_of X G a11) b11 Z (D11_4.mono (by decide)) (D6.mono (by decide)) (D7.mono (by decide))
 have D11:=a1v (P:=l.prog) (w:=w) (base:=base) (n:=8) (k:=5) F11 (PySem.W.mg_of X G a11) b11 Z (D11_5.mono (by decide)) (D6.mono (by decide)) (D7.mono (by decide))
 have D12:=a6l (P:=l.prog) (w:=w) (base:=base) (n:=2) F12 (PySem.W.mg_of X G a12) b12 Z (D7.mono (by decide))
 have D13:=a7t (P:=l.prog) (w:=w) (base:=base) (n:=9) F13 (PySem.W.mg_of X G a13) b13 Z (D10.mono (by decide)) (D6.mono (by decide)) (D8.mono (by decide)) (D7.mono (by decide)) (D12.mono (by decide)) (D11.mono (by decide))
 have D14:=a5m (P:=l.prog) (w:=w) (base:=base) (n:=10) F14 (PySem.W.mg_of X G a14) b14 Z (D13.mono (by decide))
 have D15:=a5H (P:=l.prog) (w:=w) (base:=base) (n:=0) F15 (PySem.W.mg_of X G a15) b15 Z 
 have D16:=a7r (P:=l.prog) (w:=w) (base:=base) (n:=0) F16 (PySem.W.mg_of X G a16) b16 Z 
 have D17:=a5k (P:=l.prog) (w:=w) (base:=base) (n:=1) F17 (PySem.W.mg_of X G a17) b17 Z (D16.mono (by decide))
 have D18:=b1D (P:=l.prog) (w:=w) (base:=base) (n:=0) F18 (PySem.W.mg_of X G a18) b18 Z 
 have D19:=b1B (P:=l.prog) (w:=w) (base:=base) (n:=1) F19 (PySem.W.mg_of X G a19) b19 Z (D18.mono (by decide))
 have D20:=a5I (P:=l.prog) (w:=w) (base:=base) (n:=4) F20 (PySem.W.mg_of X G a20) b20 Z (D4.mono (by decide)) (D15.mono (by decide)) (D17.mono (by decide)) (D19.mono (by decide))
 have D21:=a5J (P:=l.prog) (w:=w) (base:=base) (n:=0) F21 (PySem.W.mg_of X G a21) b21 Z 
 have D22:=a7u (P:=l.prog) (w:=w) (base:=base) (n:=0) F22 (PySem.W.mg_of X G a22) b22 Z 
 have D23:=a7v (P:=l.prog) (w:=w) (base:=base) (n:=1) F23 (PySem.W.mg_of X G a23) b23 Z (D21.mono (by decide))
 have D24:=a6m (P:=l.prog) (w:=w) (base:=base) (n:=0) F24 (PySem.W.mg_of X G a24) b24 Z 
 have D25:=a8s (P:=l.prog) (w:=w) (base:=base) (n:=1) F25 (PySem.W.mg_of X G a25) b25 Z (D24.mono (by decide))
 have D26:=a7w (P:=l.prog) (w:=w) (base:=base) (n:=2) F26 (PySem.W.mg_of X G a26) b26 Z (D24.mono (by decide)) (D25.mono (by decide))
 have D27:=a8t (P:=l.prog) (w:=w) (base:=base) (n:=0) F27 (PySem.W.mg_of X G a27) b27 Z 
 have D28:=a8u (P:=l.prog) (w:=w) (base:=base) (n:=0) F28 (PySem.W.mg_of X G a28) b28 Z 
 exact b8V (n:=11) F29 Z (D23.mono (by decide)) (D26.mono (by decide)) (D14.mono (by decide)) (D24.mono (by decide)) (D20.mono (by decide)) (D22.mono (by decide)) (D28.mono (by decide)) (D27.mono (by decide))
end L2
namespace PySem.W.Fast
theorem tw8782188741720362062:True:=⟨⟩
theorem tw1348180755509195557:True:=⟨⟩
theorem tw12799255186467452261:True:=⟨⟩
theorem tw16026390647171198572:True:=⟨⟩
theorem tw784511051838659240:True:=⟨⟩
theorem tw714128751299518315:True:=⟨⟩
theorem tw14743917464569857827:True:=⟨⟩
theorem tw15117196595296104927:True:=⟨⟩
theorem tw9166754639385754756:True:=⟨⟩
theorem tw4337234670678999641:True:=⟨⟩
theorem tw5285578248938581376:True:=⟨⟩
theorem tw14693256400954554297:True:=⟨⟩
theorem tw13575398901902828321:True:=⟨⟩
theorem tw4584842079180733771:True:=⟨⟩
theorem tw10867506870328378035:True:=⟨⟩
theorem tw15879172236679771218:True:=⟨⟩
theorem tw16928341400751029294:True:=⟨⟩
theorem tw2976221928300095640:True:=⟨⟩
theorem tw10773496081334937170:True:=⟨⟩
theorem tw2128837094592048291:True:=⟨⟩
theorem tw10317779442459249019:True:=⟨⟩
theorem tw10206583274192258161:True:=⟨⟩
theorem tw7543535589118059830:True:=⟨⟩
theorem tw2802463382487018302:True:=⟨⟩
theorem tw1708853913696033363:True:=⟨⟩
theorem tw8940168101775095411:True:=⟨⟩
theorem tw8714376589484795466:True:=⟨⟩
theorem tw1828901017143060326:True:=⟨⟩
theorem tw5054882086709516327:True:=⟨⟩
theorem tw7655776950117324580:True:=⟨⟩
theorem tw2850538637339604357:True:=⟨⟩
theorem tw15847245490759544522:True:=⟨⟩
theorem tw11875914128863535260:True:=⟨⟩
theorem tw11261429537324805791:True:=⟨⟩
theorem tw18054275453418605118:True:=⟨⟩
theorem tw36234192436912879:True:=⟨⟩
theorem tw14977081830881705090:True:=⟨⟩
theorem tw17387676057522377206:True:=⟨⟩
theorem tw1519224503841094793:True:=⟨⟩
theorem tw13521242233110249222:True:=⟨⟩
theorem tw4646683545228461524:True:=⟨⟩
theorem tw2439382979685740258:True:=⟨⟩
theorem tw473489203387912383:True:=⟨⟩
theorem tw985086790310186346:True:=⟨⟩
theorem tw4580254773128727551:True:=⟨⟩
theorem tw9387750777274113465:True:=⟨⟩
theorem tw17834305949230643186:True:=⟨⟩
theorem tw4260296285660861907:True:=⟨⟩
theorem tw1302484127925681610:True:=⟨⟩
theorem tw4220198275023311332:True:=⟨⟩
theorem tw17436451968621353474:True:=⟨⟩
theorem tw16331536619651734488:True:=⟨⟩
theorem tw8570606900830494876:True:=⟨⟩
theorem tw16397502092591959405:True:=⟨⟩
theorem tw9187818377958237694:True:=⟨⟩
theorem tw211974579113053939:True:=⟨⟩
theorem tw12013726647308062430:True:=⟨⟩
theorem tw3426552135829808077:True:=⟨⟩
theorem tw11929458209281475793:True:=⟨⟩
theorem tw5190739785694515490:True:=⟨⟩
theorem tw10383718349114405837:True:=⟨⟩
theorem tw10756908744421495631:True:=⟨⟩
theorem tw9268788437993615916:True:=⟨⟩
theorem tw15875498198949526583:True:=⟨⟩
theorem tw14334330543844407731:True:=⟨⟩
theorem tw2627323241440742446:True:=⟨⟩
theorem tw14733117892942836262:True:=⟨⟩
theorem tw1202040972353493486:True:=⟨⟩
theorem tw14900185179110937475:True:=⟨⟩
theorem tw6066438524835591927:True:=⟨⟩
theorem tw15688761539709746016:True:=⟨⟩
theorem tw2416501287984360858:True:=⟨⟩
theorem tw15708491064364624080:True:=⟨⟩
theorem tw15902691983812510369:True:=⟨⟩
theorem tw9424611406090447157:True:=⟨⟩
theorem tw10772630518458865473:True:=⟨⟩
theorem tw14575987043794546432:True:=⟨⟩
theorem tw13825427490513115436:True:=⟨⟩
theorem tw12743058581553611099:True:=⟨⟩
theorem tw10956423592482228904:True:=⟨⟩
theorem tw14951394625826851688:True:=⟨⟩
theorem tw4817624250823498016:True:=⟨⟩
theorem tw349937832062944629:True:=⟨⟩
theorem tw4231766855245004363:True:=⟨⟩
theorem tw7103823310497556699:True:=⟨⟩
theorem tw11471632490112708008:True:=⟨⟩
theorem tw6717668984591035570:True:=⟨⟩
theorem tw15371967673153246207:True:=⟨⟩
theorem tw7720674067579705074:True:=⟨⟩
theorem tw12548199357219129860:True:=⟨⟩
theorem tw15746412954479007829:True:=⟨⟩
theorem tw12091171567447514560:True:=⟨⟩
theorem tw2032743706024603745:True:=⟨⟩
theorem tw16126702936060898291:True:=⟨⟩
theorem tw2641467017319478461:True:=⟨⟩
theorem tw17894962488806517154:True:=⟨⟩
theorem tw16244741489260053157:True:=⟨⟩
theorem tw15867664462804813489:True:=⟨⟩
theorem tw15809651433215956443:True:=⟨⟩
theorem tw1545970520111902557:True:=⟨⟩
theorem tw1270098288454907022:True:=⟨⟩
theorem tw5605575147925473417:True:=⟨⟩
theorem tw1355675572513436330:True:=⟨⟩
theorem tw1422914232024664158:True:=⟨⟩
theorem tw16113547009934880640:True:=⟨⟩
theorem tw6467187537603135820:True:=⟨⟩
theorem tw10342068610593979961:True:=⟨⟩
theorem tw5347977392112247662:True:=⟨⟩
theorem tw3701702666396570369:True:=⟨⟩
theorem tw6508196545066788575:True:=⟨⟩
theorem tw17322217274033569082:True:=⟨⟩
theorem tw14745876728828636133:True:=⟨⟩
theorem tw322688461072945969:True:=⟨⟩
theorem tw16931861584976491570:True:=⟨⟩
theorem tw4059838384639687656:True:=⟨⟩
theorem tw16468180899350697884:True:=⟨⟩
theorem tw673603263255763123:True:=⟨⟩
theorem tw14379776255899311118:True:=⟨⟩
theorem tw15902669792005138424:True:=⟨⟩
theorem tw1653273281375799867:True:=⟨⟩
theorem tw8274109718803767286:True:=⟨⟩
theorem tw7421150804027662931:True:=⟨⟩
theorem tw4514957165315832565:True:=⟨⟩
theorem tw10805946786837486437:True:=⟨⟩
theorem tw17239241264775205972:True:=⟨⟩
theorem tw3529796110137138950:True:=⟨⟩
theorem tw9112804508880853969:True:=⟨⟩
theorem tw2543143311618785747:True:=⟨⟩
theorem tw5086381406312029742:True:=⟨⟩
theorem tw7686861831862831502:True:=⟨⟩
theorem tw13644050577845897980:True:=⟨⟩
theorem tw10407692442232247105:True:=⟨⟩
theorem tw10542029449206581217:True:=⟨⟩
theorem tw16239241351006093568:True:=⟨⟩
theorem tw13413894807442357554:True:=⟨⟩
theorem tw1399186065767704922:True:=⟨⟩
theorem tw619638334288393341:True:=⟨⟩
theorem tw11381615949986412590:True:=⟨⟩
theorem tw9309909850898394899:True:=⟨⟩
theorem tw11362342956827662681:True:=⟨⟩
theorem tw17582702065235644034:True:=⟨⟩
theorem tw13997954408222340992:True:=⟨⟩
theorem tw1295010895814731395:True:=⟨⟩
theorem tw7850758982367478133:True:=⟨⟩
theorem tw11526913287938622337:True:=⟨⟩
theorem tw15743729908360452667:True:=⟨⟩
theorem tw13901123801269178773:True:=⟨⟩
theorem tw10061466831981334072:True:=⟨⟩
theorem tw14194328791390667240:True:=⟨⟩
theorem tw1972159811839595454:True:=⟨⟩
theorem tw6926743225935563275:True:=⟨⟩
theorem tw9566914999208380356:True:=⟨⟩
theorem tw2262488880878633884:True:=⟨⟩
theorem tw14447105086636140154:True:=⟨⟩
theorem tw5068590806672453049:True:=⟨⟩
theorem tw8405784724306766994:True:=⟨⟩
theorem tw17206891228428595773:True:=⟨⟩
theorem tw14241424134389229526:True:=⟨⟩
theorem tw17092711000042101827:True:=⟨⟩
theorem tw13327441002064478308:True:=⟨⟩
theorem tw11635355298213918086:True:=⟨⟩
theorem tw10064215115202401925:True:=⟨⟩
theorem tw1047070662931646132:True:=⟨⟩
theorem tw8731378533704018562:True:=⟨⟩
theorem tw9947535838298636083:True:=⟨⟩
theorem tw6357179629354325253:True:=⟨⟩
theorem tw9891629193078980744:True:=⟨⟩
theorem tw9990228197184354419:True:=⟨⟩
theorem tw3167758893783867777:True:=⟨⟩
theorem tw14440112239511617162:True:=⟨⟩
theorem tw819746953674422113:True:=⟨⟩
theorem tw14205311023552253269:True:=⟨⟩
theorem tw8835876355830615906:True:=⟨⟩
theorem tw2635405962082128933:True:=⟨⟩
theorem tw7817740389319836374:True:=⟨⟩
theorem tw5316891146546335756:True:=⟨⟩
theorem tw10063827421090272617:True:=⟨⟩
theorem tw8053232649870070353:True:=⟨⟩
theorem tw10158357356852958187:True:=⟨⟩
theorem tw12837389097152779643:True:=⟨⟩
theorem tw3200118988973656736:True:=⟨⟩
theorem tw4197975908518318930:True:=⟨⟩
theorem tw1972360397157629498:True:=⟨⟩
theorem tw9371367440487775399:True:=⟨⟩
theorem tw4994915957706293315:True:=⟨⟩
theorem tw4766879022310936828:True:=⟨⟩
theorem tw17511303648852617183:True:=⟨⟩
theorem tw377113477700208456:True:=⟨⟩
theorem tw3403657591877585339:True:=⟨⟩
theorem tw1808470334730648180:True:=⟨⟩
theorem tw14252319477751114860:True:=⟨⟩
theorem tw12173478271281167491:True:=⟨⟩
theorem tw10582795251954499758:True:=⟨⟩
theorem tw2499364375032035369:True:=⟨⟩
theorem tw786717822614005119:True:=⟨⟩
theorem tw6850231408059793627:True:=⟨⟩
theorem tw15311823076729261100:True:=⟨⟩
theorem tw11223096472180108864:True:=⟨⟩
theorem tw6773782758406562416:True:=⟨⟩
theorem tw6331555859163232208:True:=⟨⟩
theorem tw18402662744586946504:True:=⟨⟩
theorem tw17834133250017535205:True:=⟨⟩
theorem tw17003302755269874493:True:=⟨⟩
theorem tw12404420918042201021:True:=⟨⟩
theorem tw7256787123248425039:True:=⟨⟩
theorem tw5562626556049709162:True:=⟨⟩
theorem tw14057206614712774994:True:=⟨⟩
theorem tw16154360825722162163:True:=⟨⟩
theorem tw14979872847970881615:True:=⟨⟩
theorem tw2769813104591873773:True:=⟨⟩
theorem tw17764082747719967782:True:=⟨⟩
theorem tw1252532376075159157:True:=⟨⟩
theorem tw13252558064562627007:True:=⟨⟩
theorem tw16348574289487719477:True:=⟨⟩
theorem tw18322781841122824603:True:=⟨⟩
theorem tw17464519242412635254:True:=⟨⟩
theorem tw9061270146185475723:True:=⟨⟩
theorem tw5696815843339416581:True:=⟨⟩
theorem tw3714030469065384241:True:=⟨⟩
theorem tw14276073171380307216:True:=⟨⟩
theorem tw5962967549729093332:True:=⟨⟩
theorem tw4540200991907221879:True:=⟨⟩
theorem tw6136981432857168103:True:=⟨⟩
theorem tw13463952239884130816:True:=⟨⟩
theorem tw4265292554267185637:True:=⟨⟩
theorem tw8216513427208062783:True:=⟨⟩
theorem tw935686088201832398:True:=⟨⟩
theorem tw7416332482656116779:True:=⟨⟩
theorem tw5762301579415489039:True:=⟨⟩
theorem tw16434917483246900685:True:=⟨⟩
theorem tw10274123753094263324:True:=⟨⟩
theorem tw16909681682496374290:True:=⟨⟩
theorem tw17146369269548214693:True:=⟨⟩
theorem tw11454762629962522408:True:=⟨⟩
theorem tw4426418604143483326:True:=⟨⟩
theorem tw5762125624993070342:True:=⟨⟩
theorem tw7123491847091142815:True:=⟨⟩
theorem tw10091465419667271334:True:=⟨⟩
theorem tw9753273877415262064:True:=⟨⟩
theorem tw10255791563336304736:True:=⟨⟩
theorem tw10487995076015749010:True:=⟨⟩
theorem tw10855338169968554323:True:=⟨⟩
theorem tw6274869705351765156:True:=⟨⟩
theorem tw2662110697837310698:True:=⟨⟩
theorem tw10917517874311816542:True:=⟨⟩
theorem tw11027227885187423927:True:=⟨⟩
theorem tw15002853415657902138:True:=⟨⟩
theorem tw1694880759563175860:True:=⟨⟩
theorem tw1642968050373191818:True:=⟨⟩
theorem tw6841810983241605163:True:=⟨⟩
theorem tw3993054486429113634:True:=⟨⟩
theorem tw7042069625351624902:True:=⟨⟩
theorem tw13599510358158671663:True:=⟨⟩
theorem tw4326981047808276449:True:=⟨⟩
theorem tw15446160135549536586:True:=⟨⟩
theorem tw7699840707360946336:True:=⟨⟩
theorem tw9064362495351643327:True:=⟨⟩
theorem tw7711941680167958427:True:=⟨⟩
theorem tw4815181258206925209:True:=⟨⟩
theorem tw14849028436480870009:True:=⟨⟩
theorem tw8825576040541926060:True:=⟨⟩
theorem tw594744937342409131:True:=⟨⟩
end PySem.W.Fast
open PySem PySem.W PyProof.Rows
set_option maxRecDepth 100000 in
set_option maxHeartbeats 0 in
theorem PySem.Challenge.cw_loopwright_k93_whole_colours_and_weights_holds : PySem.Challenge.rw_loopwright_k93_whole_colours_and_weights.Holds := by
 w_on;o_law;k_head;(case hw=>w_witness2)
 k_fill
 refine L2.b4F (l:=PySem.Challenge.rw_loopwright_k93_whole_colours_and_weights) (k:=12) (sp:=L2.a6t) rfl rfl ⟨rfl,by decide,by decide⟩ (fun w h Y=>PySem.W.kIn_of Y) L2.b1I ?F
 case F =>
  intro w mg fa h KX G hmg
  refine' L2.b9J KX G hmg ?a1 ?l1 ?c1 ?k1 ?a2 ?l2 ?c2 ?k2 ?a3 ?l3 ?c3 ?k3 ?a4 ?l4 ?c4 ?k4 ?a5 ?l5 ?c5 ?k5 ?a6 ?l6 ?c6 ?k6 ?a7 ?l7 ?c7 ?k7 ?a8 ?l8 ?c8 ?k8 ?a9 ?l9 ?c9 ?k9 ?a10 ?l10 ?c10 ?k10 ?a11 ?l11 ?c11 ?k11 ?a12 ?l12 ?c12 ?k12 ?a13 ?l13 ?c13 ?k13 ?a14 ?l14 ?c14 ?k14 ?a15 ?l15 ?c15 ?k15 ?a16 ?l16 ?c16 ?k16 ?a17 ?l17 ?c17 ?k17 ?a18 ?l18 ?c18 ?k18 ?a19 ?l19 ?c19 ?k19 ?a20 ?l20 ?c20 ?k20 ?a21 ?l21 ?c21 ?k21 ?a22 ?l22 ?c22 ?k22 ?a23 ?l23 ?c23 ?k23 ?a24 ?l24 ?c24 ?k24 ?a25 ?l25 ?c25 ?k25 ?a26 ?l26 ?c26 ?k26 ?a27 ?l27 ?c27 ?k27 ?a28 ?l28 ?c28 ?k28 ?a29 ?l29 ?c29 ?k29 ?z_abs ?z_all ?z_bool ?z_dict ?z_enumerate ?z_int ?z_isinstance ?z_len ?z_list ?z_range ?z_sorted ?z_sum ?z_tuple ?z_zip ?g_DOWN ?l_DOWN ?l_DOWN_0 ?g_LESS_DOWN ?l_LESS_DOWN ?l_LESS_DOWN_0 ?l_LESS_DOWN_1 ?g_LESS_ONE ?l_LESS_ONE ?l_LESS_ONE_0 ?g_LESS_UP ?l_LESS_UP ?l_LESS_UP_0 ?l_LESS_UP_1 ?g_MOST_LETTERS ?g_MOST_PRIME ?g_MOST_STRANDS ?g_NOUGHT ?l_NOUGHT ?g_ONE ?l_ONE ?l_ONE_0 ?g_UP ?l_UP ?l_UP_0
  (case a1=>k_is)
  (case l1=>k_is)
  (case c1=>k_is)
  (case k1=>k_is)
  (case a2=>k_is)
  (case l2=>k_is)
  (case c2=>k_is)
  (case k2=>k_is)
  (case a3=>k_is)
  (case l3=>k_is)
  (case c3=>k_is)
  (case k3=>k_is)
  (case a4=>k_is)
  (case l4=>k_is)
  (case c4=>k_is)
  (case k4=>k_is)
  (case a5=>k_is)
  (case l5=>k_is)
  (case c5=>k_is)
  (case k5=>k_is)
  (case a6=>k_is)
  (case l6=>k_is)
  (case c6=>k_is)
  (case k6=>k_is)
  (case a7=>k_is)
  (case l7=>k_is)
  (case c7=>k_is)
  (case k7=>k_is)
  (case a8=>k_is)
  (case l8=>k_is)
  (case c8=>k_is)
  (case k8=>k_is)
  (case a9=>k_is)
  (case l9=>k_is)
  (case c9=>k_is)
  (case k9=>k_is)
  (case a10=>k_is)
  (case l10=>k_is)
  (case c10=>k_is)
  (case k10=>k_is)
  (case a11=>k_is)
  (case l11=>k_is)
  (case c11=>k_is)
  (case k11=>k_is)
  (case a12=>k_is)
  (case l12=>k_is)
  (case c12=>k_is)
  (case k12=>k_is)
  (case a13=>k_is)
  (case l13=>k_is)
  (case c13=>k_is)
  (case k13=>k_is)
  (case a14=>k_is)
  (case l14=>k_is)
  (case c14=>k_is)
  (case k14=>k_is)
  (case a15=>k_is)
  (case l15=>k_is)
  (case c15=>k_is)
  (case k15=>k_is)
  (case a16=>k_is)
  (case l16=>k_is)
  (case c16=>k_is)
  (case k16=>k_is)
  (case a17=>k_is)
  (case l17=>k_is)
  (case c17=>k_is)
  (case k17=>k_is)
  (case a18=>k_is)
  (case l18=>k_is)
  (case c18=>k_is)
  (case k18=>k_is)
  (case a19=>k_is)
  (case l19=>k_is)
  (case c19=>k_is)
  (case k19=>k_is)
  (case a20=>k_is)
  (case l20=>k_is)
  (case c20=>k_is)
  (case k20=>k_is)
  (case a21=>k_is)
  (case l21=>k_is)
  (case c21=>k_is)
  (case k21=>k_is)
  (case a22=>k_is)
  (case l22=>k_is)
  (case c22=>k_is)
  (case k22=>k_is)
  (case a23=>k_is)
  (case l23=>k_is)
  (case c23=>k_is)
  (case k23=>k_is)
  (case a24=>k_is)
  (case l24=>k_is)
  (case c24=>k_is)
  (case k24=>k_is)
  (case a25=>k_is)
  (case l25=>k_is)
  (case c25=>k_is)
  (case k25=>k_is)
  (case a26=>k_is)
  (case l26=>k_is)
  (case c26=>k_is)
  (case k26=>k_is)
  (case a27=>k_is)
  (case l27=>k_is)
  (case c27=>k_is)
  (case k27=>k_is)
  (case a28=>k_is)
  (case l28=>k_is)
  (case c28=>k_is)
  (case k28=>k_is)
  (case a29=>k_is)
  (case l29=>k_is)
  (case c29=>k_is)
  (case k29=>k_is)
  (case z_abs=>k_is)
  (case z_all=>k_is)
  (case z_bool=>k_is)
  (case z_dict=>k_is)
  (case z_enumerate=>k_is)
  (case z_int=>k_is)
  (case z_isinstance=>k_is)
  (case z_len=>k_is)
  (case z_list=>k_is)
  (case z_range=>k_is)
  (case z_sorted=>k_is)
  (case z_sum=>k_is)
  (case z_tuple=>k_is)
  (case z_zip=>k_is)
  (case g_DOWN=>k_is)
  (case l_DOWN=>k_is)
  (case l_DOWN_0=>k_is)
  (case g_LESS_DOWN=>k_is)
  (case l_LESS_DOWN=>k_is)
  (case l_LESS_DOWN_0=>k_is)
  (case l_LESS_DOWN_1=>k_is)
  (case g_LESS_ONE=>k_is)
  (case l_LESS_ONE=>k_is)
  (case l_LESS_ONE_0=>k_is)
  (case g_LESS_UP=>k_is)
  (case l_LESS_UP=>k_is)
  (case l_LESS_UP_0=>k_is)
  (case l_LESS_UP_1=>k_is)
  (case g_MOST_LETTERS=>k_is)
  (case g_MOST_PRIME=>k_is)
  (case g_MOST_STRANDS=>k_is)
  (case g_NOUGHT=>k_is)
  (case l_NOUGHT=>k_is)
  (case g_ONE=>k_is)
  (case l_ONE=>k_is)
  (case l_ONE_0=>k_is)
  (case g_UP=>k_is)
  (case l_UP=>k_is)
  (case l_UP_0=>k_is)
