import PyProof.Rows.All
import Wide.All
import OpenK.AllK
import Wide.FinOn
import Lean
import PyProof.EqAt
import PyProof.EqKinds
import PyProof.TupleCall
import PySem.Challenge.RW_loopwright_k51_whole_what_moves_keep
set_option Elab.async false
set_option linter.all false
set_option maxRecDepth 100000
namespace L2
open PySem PySem.Spec PyProof.Rows
noncomputable abbrev Key:=Sum Int Str
noncomputable def b2Z:Key→Value→Bool
 | .inl k,v=>Value.isInt k v
 | .inr x,v=>Value.isStrOf x v
noncomputable def keyH (w:World):Key→Int
 | .inl k=>hashInt k
 | .inr x=>hashStr w x
theorem a1o:∀ {k:Key} {v:Value},b2Z k v=true→(∃ i t,k=Sum.inl i∧v=Value.int i t)∨(∃ x t,k=Sum.inr x∧v=Value.str x t)
 | .inl i,v,h=>by
   obtain⟨t,e⟩:=Value.isInt_shape (k:=i) (v:=v) h
   exact .inl ⟨i,t,rfl,e⟩
 | .inr x,v,h=>by
   obtain⟨t,e⟩:=Value.isStrOf_shape (x:=x) (v:=v) h
   exact .inr ⟨x,t,rfl,e⟩
theorem b4y (i:Int) (t:Tok):b2Z (.inl i) (.int i t)=true:=by simp [b2Z,Value.isInt]
theorem b4x (x:Str) (t:Tok):b2Z (.inr x) (.str x t)=true:=by simp [b2Z,Value.isStrOf]
theorem c0w (a b:Int):decide ((Sum.inl a:Key)=Sum.inl b)=(a == b):=by
 by_cases e:a=b
 ·subst e;simp
 ·have h:¬(Sum.inl a:Key)=Sum.inl b:=fun q=>e (Sum.inl.inj q)
  rw[decide_eq_false h]
  exact (beq_eq_false_iff_ne.mpr e).symm
theorem c0t (a b:Str):decide ((Sum.inr a:Key)=Sum.inr b)=decide (a=b):=by
 by_cases e:a=b
 ·subst e;simp
 ·have h:¬(Sum.inr a:Key)=Sum.inr b:=fun q=>e (Sum.inr.inj q)
  rw[decide_eq_false h,decide_eq_false e]
theorem c0v (a:Int) (b:Str):decide ((Sum.inl a:Key)=Sum.inr b)=false:=decide_eq_false (fun q=>nomatch q)
theorem c0u (a:Str) (b:Int):decide ((Sum.inr a:Key)=Sum.inl b)=false:=decide_eq_false (fun q=>nomatch q)
noncomputable def a1T (prog:Program) (w:World):PySem.KeyKind prog w Key where
 is:=b2Z
 hash:=keyH w
 inj:=fun v a b ha hb=>by
  rcases a1o ha with ⟨i,t,rfl,rfl⟩ | ⟨x,t,rfl,rfl⟩
  ·rcases a1o hb with ⟨j,u,rfl,e⟩ | ⟨y,u,rfl,e⟩
   ·injection e with e1 _;rw[e1]
   ·exact nomatch e
  ·rcases a1o hb with ⟨j,u,rfl,e⟩ | ⟨y,u,rfl,e⟩
   ·exact nomatch e
   ·injection e with e1 _;rw[e1]
 byValue:=fun k v h=>by
  rcases a1o h with ⟨i,t,rfl,rfl⟩ | ⟨x,t,rfl,rfl⟩<;>rfl
 pyHash:=fun hv h=>by
  rcases a1o hv with ⟨i,t,rfl,rfl⟩ | ⟨x,t,rfl,rfl⟩
  ·exact wpAny_pyHash_int h
  ·exact wpAny_pyHash_str h
 eqBool:=fun hu hv h=>by
  rcases a1o hu with ⟨i,t,rfl,rfl⟩ | ⟨x,t,rfl,rfl⟩
  ·rcases a1o hv with ⟨j,u,rfl,rfl⟩ | ⟨y,u,rfl,rfl⟩
   ·rw[c0w] at h;exact wpAny_eqBool_int h
   ·rw[c0v] at h;exact SeqAt.EqAt.int_str i t y u _ _ _ _ h
  ·rcases a1o hv with ⟨j,u,rfl,rfl⟩ | ⟨y,u,rfl,rfl⟩
   ·rw[c0u] at h;exact SeqAt.EqAt.str_int x t j u _ _ _ _ h
   ·rw[c0t] at h;exact wpAny_eqBool_str h
 «strs»:=fun k x t v h=>by
  rcases a1o h with ⟨i,u,rfl,e⟩ | ⟨y,u,rfl,e⟩
  ·exact nomatch e
  ·injection e with e1 _
   subst e1
   cases v<;>rfl
theorem b1k (prog:Program) (w:World) (i:Int) (t:Tok):(a1T prog w).is (.inl i) (.int i t)=true:=b4y i t
theorem b1j (prog:Program) (w:World) (x:Str) (t:Tok):(a1T prog w).is (.inr x) (.str x t)=true:=b4x x t
inductive V where
 | non | bl (b:Bool) | int (i:Int) | str (x:Str) | byt (b:Array UInt8) | flt (b:UInt64) | ref (a:Addr) | ty (n:String)
 deriving DecidableEq
noncomputable def RelV:V→Value→Prop
 | .non,u=>u=Value.none
 | .bl b,u=>u=Value.bool b
 | .int i,u=>∃ t,u=Value.int i t
 | .str x,u=>∃ t,u=Value.str x t
 | .byt b,u=>∃ t,u=Value.bytes b t
 | .flt b,u=>∃ t,u=Value.float b t
 | .ref a,u=>u=Value.ref a
 | .ty n,u=>u=Value.type n
noncomputable abbrev Vals:List V→List Value→Prop:=Paired RelV
theorem Vals.length {xs:List V} {us:List Value} (r:Vals xs us):xs.length=us.length:=Paired.length r
theorem Vals.get:∀ {xs:List V} {us:List Value} {i:Nat} {x:V},Vals xs us→xs[i]?=some x→∃ u,us[i]?=some u∧RelV x u
 | _,_,_,_,.nil,e=>by simp at e
 | _,_,0,_,.cons r _,e=>by simp at e;subst e;exact⟨_,rfl,r⟩
 | _,_,i+1,x,.cons _ t,e=>by
   obtain⟨u,h1,h2⟩:=Vals.get (i:=i) (x:=x) t (by simpa using e)
   exact⟨u,by simpa using h1,h2⟩
theorem Vals.set {x:V} {u:Value} (r:RelV x u):∀ {xs:List V} {us:List Value} (i:Nat),Vals xs us→Vals (xs.set i x) (us.set i u)
 | _,_,_,.nil=>.nil
 | _,_,0,.cons _ t=>.cons r t
 | _,_,i+1,.cons q t=>.cons q (Vals.set r i t)
theorem Vals.append:∀ {xs ys:List V} {us ws:List Value},Vals xs us→Vals ys ws→Vals (xs++ys) (us++ws)
 | _,_,_,_,.nil,s=>s
 | _,_,_,_,.cons r t,s=>.cons r (Vals.append t s)
theorem Vals.take:∀ {xs:List V} {us:List Value} (n:Nat),Vals xs us→Vals (xs.take n) (us.take n)
 | _,_,0,_=>.nil
 | _,_,_+1,.nil=>.nil
 | _,_,n+1,.cons r t=>.cons r (Vals.take n t)
theorem Vals.drop:∀ {xs:List V} {us:List Value} (n:Nat),Vals xs us→Vals (xs.drop n) (us.drop n)
 | _,_,0,r=>r
 | _,_,_+1,.nil=>.nil
 | _,_,n+1,.cons _ t=>Vals.drop n t
noncomputable def RelO:Option V→Option Value→Prop
 | some v,some u=>RelV v u
 | none,none=>True
 | _,_=>False
noncomputable def KV {κ:Type}:List (κ × V)→List (κ × Value)→Prop:=Paired fun (p:κ × V) (q:κ × Value)=>p.1=q.1∧RelV p.2 q.2
noncomputable def kV:Key→V
 | .inl i=>.int i
 | .inr x=>.str x
inductive HO where
 /-- a list -/
 | lst (xs:List V)
 /-- a tuple (never changes) -/
 | tup (xs:List V)
 /-- a dict whose keys are ints and texts;one whose keys are tuples of ints and texts (the empty one is both) -/
 | dK (kvs:List (Key × V)) | dT (kvs:List (List Key × V))
 /-- a set of ints: its members,its size -/
 | set (S:Int→Bool) (n:Nat)
 /-- an instance of the class at C,its dict at dx,its attributes -/
 | ins (C dx:Addr) (fs:List (Str × V))
 /-- the dict of the instance at x -/
 | own (x:Addr)
 /-- the dict of an exception -/
 | xd (fs:List (Str × V))
 /-- a bound method,f of x -/
 | met (f x:Addr)
 /-- a range object lo,lo+1,.. below hi -/
 | rng (lo hi:Int)
 /-- a thing that is known to the object (the script;a dict while a loop walks it): read,never written while it is so -/
 | frz (o:Obj) (u:HO)
 /-- a code object's table -/
 | tbl (ps:Array Value)
 /-- any other thing,by what is true of its one object (a def of one's own: SetO a S n:=HO.ext fun h=>..) -/
 | ext (φ:Heap→Prop)
noncomputable abbrev Hp:=Addr→Option HO
noncomputable def a3E (h:Heap) (a:Addr) (items:Array Value):Prop:=∃ o,h.get? a=some o∧o.cls=.type "tuple"∧o.dict=none∧∃ n,o.data=.seq items n
theorem a3E.t {h:Heap} {a:Addr} {items:Array Value} (x:a3E h a items):IsTup h a items:=let ⟨o,e,c,_,n,d⟩:=x;⟨o,e,c,n,d⟩
theorem a3E.lt {h:Heap} {a:Addr} {items:Array Value} (x:a3E h a items):a < h.objs.size:=x.t.lt
theorem a3E.new (h:Heap) (items:Array Value):a3E (h.push { cls:=.type "tuple",data:=.seq items }) h.objs.size items:=⟨_,Heap.get?_push_size _ rfl,rfl,rfl,0,rfl⟩
noncomputable def upd (H:Hp) (a:Addr) (o:HO):Hp:=fun b=>if b=a then some o else H b
theorem a0B {H:Hp} {a:Addr} {o:HO}:upd H a o a=some o:=by unfold upd;rw[if_pos rfl]
theorem a0v {H:Hp} {a b:Addr} {o:HO} (h:b≠a):upd H a o b=H b:=by unfold upd;rw[if_neg h]
theorem b8t {H:Hp} {a b:Addr} {o u:HO} (h:H a=some o) (h':H b=some u) (d:o≠u):a≠b:=by
 intro e;subst e;rw[h] at h';exact d (Option.some.inj h')
theorem a0A {H:Hp} {a b:Addr} {o:HO} (h:H a=some o) (h':H b=none):a≠b:=by
 intro e;subst e;rw[h] at h';cases h'
section
variable (P:Program) (w:World)
noncomputable def a2a (H:Hp) (h:Heap) (a:Addr):HO→Prop
 | .lst xs=>xs.length≤sizeLine∧∃ (its:List Value) (n:Nat),Vals xs its∧h.get? a=some { cls:=.type "list",data:=.seq its.toArray n }
 | .tup xs=>xs.length≤sizeLine∧∃ its:List Value,Vals xs its∧a3E h a its.toArray
 | .dK kvs=>kvs.length≤sizeLine∧(a == sysModules)=false∧∃ vs,KV kvs vs∧h.DictOf (a1T P w) a vs
 | .dT kvs=>kvs.length≤sizeLine∧(a == sysModules)=false∧∃ xs:List (List Key × Addr × Value),
   Paired (fun (p:List Key × V) (q:List Key × Addr × Value)=>p.1=q.1∧H q.2.1=some (.tup (p.1.map kV))∧RelV p.2 q.2.2) kvs xs ∧
   ∃ o es ep,h.get? a=some o∧o.ExactDict∧o.data=.dict es ep∧es.toList=xs.map (entryOfKey (tupleKind (a1T P w)))∧(xs.map (·.1)).Nodup
 | .set S n=>h.SetOf (intKind P w) a S n
 | .ins C dx fs=>H dx=some (.own a)∧fs.length≤1000∧dx≠a∧h.get? a=some (PySem.W.instObj C dx) ∧
   ∃ mA,h.Ns1 dx mA∧(∀ f,RelO (fs.lookup f) (mA f))∧PySem.Within mA (fs.map (·.1))
 | .own _=>∃ o,h.get? a=some o
 | .xd fs=>∃ mA,h.Ns1 a mA∧∀ f,RelO (fs.lookup f) (mA f)
 | .rng lo hi=>∃ t u v,h.get? a=some { cls:=.type "range",data:=.fields #[.int lo t,.int hi u,.int 1 v] }
 | .frz o u=>h.get? a=some o∧a2a H h a u
 | .tbl ps=>h.get? a=some { cls:=.none,data:=.fields ps }
 | .met f x=>h.get? a=some (PySem.W.methodObj (.ref f) (.ref x))
 | .ext φ=>φ h∧(∃ o,h.get? a=some o)∧∀ h1 h2:Heap,φ h1→(∀ o,h1.get? a=some o→h2.get? a=some o)→φ h2
noncomputable def HOk (H:Hp) (h:Heap):Prop:=∀ a o,H a=some o→a2a P w H h a o
end
section
variable {P:Program} {w:World} {H H':Hp} {h h':Heap} {a:Addr} {o:HO}
theorem a2a.lt (x:a2a P w H h a o):a < h.objs.size:=by
 cases o with
 | lst xs=>obtain⟨_,_,_,_,e⟩:=x;exact Heap.lt_size e
 | tup xs=>obtain⟨_,_,_,p⟩:=x;exact p.lt
 | dK kvs=>obtain⟨_,_,_,_,o,_,_,e,_⟩:=x;exact Heap.lt_size e
 | dT kvs=>obtain⟨_,_,_,_,o,_,_,e,_⟩:=x;exact Heap.lt_size e
 | set S n=>obtain⟨o,_,_,_,e,_⟩:=x;exact Heap.lt_size e
 | ins C dx fs=>obtain⟨_,_,_,e,_⟩:=x;exact Heap.lt_size e
 | own y=>obtain⟨_,e⟩:=x;exact Heap.lt_size e
 | xd fs=>obtain⟨_,⟨_,_,_,e,_⟩,_⟩:=x;exact Heap.lt_size e
 | rng lo hi=>obtain⟨_,_,_,e⟩:=x;exact Heap.lt_size e
 | frz ob u=>obtain⟨e,_⟩:=x;exact Heap.lt_size e
 | tbl ps=>exact Heap.lt_size (show h.get? a=some _ from x)
 | met f y=>exact Heap.lt_size (show h.get? a=some _ from x)
 | ext φ=>obtain⟨_,⟨_,e⟩,_⟩:=x;exact Heap.lt_size e
theorem Paired.mapP {α β:Type} {F G:α→β→Prop}:∀ {l₁:List α} {l₂:List β},Paired F l₁ l₂→(∀ a b,F a b→G a b)→Paired G l₁ l₂
 | _,_,.nil,_=>.nil
 | _,_,.cons r t,f=>.cons (f _ _ r) (Paired.mapP t f)
theorem a2a.stay (x:a2a P w H h a o) (k:∀ b u,(b=a∨H b=some (.own a))→h.get? b=some u→h'.get? b=some u)
  (ho:∀ b,H b=some (.own a)→H' b=some (.own a)) (ht:∀ b xs,H b=some (.tup xs)→H' b=some (.tup xs)):a2a P w H' h' a o:=by
 induction o with
 | lst xs=>obtain⟨z,its,n,r,e⟩:=x;exact⟨z,its,n,r,k _ _ (.inl rfl) e⟩
 | tup xs=>obtain⟨z,its,r,ob,e,c⟩:=x;exact⟨z,its,r,ob,k _ _ (.inl rfl) e,c⟩
 | dK kvs=>obtain⟨z,y,vs,r,ob,es,ep,e,c⟩:=x;exact⟨z,y,vs,r,ob,es,ep,k _ _ (.inl rfl) e,c⟩
 | dT kvs =>
   obtain⟨z,y,xs,r,ob,es,ep,e,c⟩:=x
   exact⟨z,y,xs,Paired.mapP r fun p q z=>⟨z.1,ht _ _ z.2.1,z.2.2⟩,ob,es,ep,k _ _ (.inl rfl) e,c⟩
 | set S n=>obtain⟨ob,es,ep,t,e,c⟩:=x;exact⟨ob,es,ep,t,k _ _ (.inl rfl) e,c⟩
 | ins C dx fs =>
   obtain⟨d,z,ne,e,mA,⟨od,es,ep,e2,c⟩,r⟩:=x
   exact⟨ho _ d,z,ne,k _ _ (.inl rfl) e,mA,⟨od,es,ep,k _ _ (.inr d) e2,c⟩,r⟩
 | own y=>obtain⟨ob,e⟩:=x;exact⟨ob,k _ _ (.inl rfl) e⟩
 | xd fs=>obtain⟨mA,⟨od,es,ep,e,c⟩,r⟩:=x;exact⟨mA,⟨od,es,ep,k _ _ (.inl rfl) e,c⟩,r⟩
 | rng lo hi=>obtain⟨t,u,v,e⟩:=x;exact⟨t,u,v,k _ _ (.inl rfl) e⟩
 | frz ob u ih=>obtain⟨e,q⟩:=x;exact⟨k _ _ (.inl rfl) e,ih q⟩
 | tbl ps =>
   have e:h.get? a=some { cls:=.none,data:=.fields ps }:=x
   show h'.get? a=some { cls:=.none,data:=.fields ps }
   exact k a _ (.inl rfl) e
 | met f y =>
   have e:h.get? a=some (PySem.W.methodObj (.ref f) (.ref y)):=x
   show h'.get? a=some (PySem.W.methodObj (.ref f) (.ref y))
   exact k a _ (.inl rfl) e
 | ext φ=>obtain⟨p,⟨o,e⟩,st⟩:=x;exact⟨st _ _ p fun o q=>k _ _ (.inl rfl) q,⟨o,k _ _ (.inl rfl) e⟩,st⟩
theorem HOk.lt (x:HOk P w H h) (e:H a=some o):a < h.objs.size:=(x a o e).lt
theorem HOk.fresh (x:HOk P w H h) (e:h.objs.size≤a):H a=none:=by
 cases q:H a with
 | none=>rfl
 | some u=>exact absurd (Nat.lt_of_lt_of_le (x.lt q) e) (Nat.lt_irrefl _)
theorem HOk.kept (x:HOk P w H h) (k:∀ b u,h.get? b=some u→h'.get? b=some u):HOk P w H h':=fun a o e =>
 (x a o e).stay (fun b u _ q=>k b u q) (fun _ q=>q) fun _ _ q=>q
theorem HOk.laid (x:HOk P w H h) (k:∀ b u,h.get? b=some u→h'.get? b=some u) (hp:h.objs.size≤a) (new:a2a P w (upd H a o) h' a o):HOk P w (upd H a o) h':=fun b u e=>by
 have hn:=x.fresh hp
 by_cases hb:b=a
 ·subst hb;rw[a0B] at e;cases e;exact new
 ·rw[a0v hb] at e
  exact (x b u e).stay (fun c v _ q=>k c v q) (fun c q=>by rw[a0v (a0A q hn)];exact q) fun c xs q=>by rw[a0v (a0A q hn)];exact q
end
noncomputable def Rd (H:Hp) (a:Addr) (u:HO):Prop:=H a=some u∨∃ o,H a=some (.frz o u)
theorem Rd.ok {P:Program} {w:World} {H:Hp} {h:Heap} {a:Addr} {u:HO} (r:Rd H a u) (x:HOk P w H h):a2a P w H h a u:=by
 rcases r with r | ⟨o,r⟩
 ·exact x a u r
 ·obtain⟨_,q⟩:=x a _ r
  exact q
noncomputable def Mut:Option HO→Prop
 | some (.lst _)=>True
 | some (.dK _)=>True
 | some (.dT _)=>True
 | some (.set _ _)=>True
 | some (.ins _ _ _)=>True
 | some (.ext _)=>True
 | _=>False
section
variable {P:Program} {w:World} {H:Hp} {h h':Heap} {x e:Addr} {o':HO}
theorem HOk.write (ok:HOk P w H h) (mu:Mut (H x)) (he:e=x∨H e=some (.own x)) (k:∀ b u,b≠e→h.get? b=some u→h'.get? b=some u) (heo:∃ u,h'.get? e=some u)
  (new:a2a P w (upd H x o') h' x o'):HOk P w (upd H x o') h':=fun b u q=>by
 have nown:∀ c y,H c=some (.own y)→c≠x:=fun c y r z=>by subst z;rw[r] at mu;exact mu
 have ntup:∀ c xs,H c=some (.tup xs)→c≠x:=fun c xs r z=>by subst z;rw[r] at mu;exact mu
 by_cases hb:b=x
 ·subst hb;rw[a0B] at q;cases q;exact new
 ·rw[a0v hb] at q
  by_cases hbe:b=e
  ·have q':H b=some (.own x):=by
    rcases he with z | z
    ·exact absurd (hbe.trans z) hb
    ·rw[hbe];exact z
   rw[q] at q';cases q'
   obtain⟨v,hv⟩:=heo
   exact⟨v,by rw[hbe];exact hv⟩
  ·refine (ok b u q).stay (fun c v hc r=>k c v ?_ r) (fun c r=>by rw[a0v (nown c b r)];exact r) fun c xs r=>by rw[a0v (ntup c xs r)];exact r
   rcases hc with rfl | hc
   ·exact hbe
   ·rintro rfl
    rcases he with z | z
    ·exact nown c b hc z
    ·rw[hc] at z;cases z;exact hb rfl
end
structure Un (fs ex:List Addr) (H H':Hp) (h h':Heap):Prop where
 keep:∀ b o,h.get? b=some o→H b=none→b ∉ fs→b ∉ ex→h'.get? b=some o
 slot:∀ b o,h.get? b=some o→H b=none→b∈fs→b ∉ ex→∃ sl,h'.get? b=some { o with slots:=sl }
 free:∀ b o,h.get? b=some o→H b=none→b ∉ ex→H' b=none
 there:∀ b o,h.get? b=some o→b ∉ ex→∃ o',h'.get? b=some o'
 tups:∀ b xs,H b=some (.tup xs)→H' b=some (.tup xs)
 frzs:∀ b o u,H b=some (.frz o u)→H' b=some (.frz o u)
 tbls:∀ b ps,H b=some (.tbl ps)→∃ more,H' b=some (.tbl (ps++more))
section
variable {fs fs' ex ex':List Addr} {H H1 H2:Hp} {h h1 h2 h':Heap} {a x e:Addr} {o:HO}
theorem Un.any (u:Un fs ex H H1 h h1) {b:Addr} {ob:Obj} (q:h.get? b=some ob) (n:H b=none) (hx:b ∉ ex):∃ sl,h1.get? b=some { ob with slots:=sl }:=by
 by_cases hb:b∈fs
 ·exact u.slot b ob q n hb hx
 ·exact⟨ob.slots,u.keep b ob q n hb hx⟩
theorem Un.kept (k:∀ b u,h.get? b=some u→h'.get? b=some u):Un fs ex H H h h' :=
 ⟨fun b ob q _ _ _=>k b ob q,fun b ob q _ _ _=>⟨ob.slots,k b ob q⟩,fun _ _ _ n _=>n,fun b ob q _=>⟨ob,k b ob q⟩,fun _ _ q=>q,fun _ _ _ q=>q,fun _ ps q=>⟨#[],by rw[q];simp⟩⟩
theorem Un.refl:Un fs ex H H h h:=Un.kept fun _ _ q=>q
theorem Un.laid (k:∀ b u,h.get? b=some u→h'.get? b=some u) (hp:h.objs.size≤a) (hn:H a=none):Un fs ex H (upd H a o) h h' where
 keep:=fun b u q _ _ _=>k b u q
 slot:=fun b u q _ _ _=>⟨u.slots,k b u q⟩
 free:=fun b u q n _=>by rw[a0v (Nat.ne_of_lt (Nat.lt_of_lt_of_le (Heap.lt_size q) hp))];exact n
 there:=fun b u q _=>⟨u,k b u q⟩
 tups:=fun b xs q=>by rw[a0v (a0A q hn)];exact q
 frzs:=fun b u xs q=>by rw[a0v (a0A q hn)];exact q
 tbls:=fun b ps q=>⟨#[],by rw[a0v (a0A q hn),q];simp⟩
theorem Un.write (mu:Mut (H x)) (he:e=x∨H e=some (.own x)) (k:∀ b u,b≠e→h.get? b=some u→h'.get? b=some u) (heo:∃ u,h'.get? e=some u):Un fs ex H (upd H x o) h h':=by
 have hx:∀ b,H b=none→b≠x:=fun b n z=>by subst z;rw[n] at mu;exact mu
 have hb:∀ b,H b=none→b≠e:=fun b n z=>by
  subst z
  rcases he with r | r
  ·exact hx b n r
  ·rw[n] at r;cases r
 have hm:∀ b u,H b=some u→¬Mut (some u)→b≠x:=fun b u q nm z=>by subst z;rw[q] at mu;exact nm mu
 refine⟨fun b u q n _ _=>k b u (hb b n) q,fun b u q n _ _=>⟨u.slots,k b u (hb b n) q⟩,fun b u q n _=>by rw[a0v (hx b n)];exact n,fun b u q _=>?_,
  fun b xs q=>by rw[a0v (hm b _ q fun z=>z)];exact q,fun b u xs q=>by rw[a0v (hm b _ q fun z=>z)];exact q,fun b ps q=>⟨#[],by rw[a0v (hm b _ q fun z=>z),q];simp⟩⟩
 by_cases hbe:b=e
 ·subst hbe;exact heo
 ·exact⟨u,k b u hbe q⟩
end
noncomputable def trk (h:Heap) (H:Hp):List Addr:=(List.range h.objs.size).filter fun a=>(H a).isSome
noncomputable def hidT (h:Heap) (H:Hp):Heap:=PySem.W.hideAll h (trk h H)
theorem b4H (h:Heap) (H:Hp):(hidT h H).objs.size=h.objs.size:=PySem.W.hideAll_size _ _
theorem b6l {h:Heap} {H:Hp} {b:Addr} {o:Obj} (e:h.get? b=some o) (n:H b=none):(hidT h H).get? b=some o :=
 PySem.W.hideAll_get _ e fun hm=>by
  have q:(H b).isSome=true:=(List.mem_filter.mp hm).2
  rw[n] at q;simp at q
theorem b8s {h:Heap} {H:Hp} {b:Addr} {o:Obj} (e:(hidT h H).get? b=some o):h.get? b=some o∧H b=none:=by
 have e':h.get? b=some o:=PySem.W.of_hideAll (trk h H) e
 refine⟨e',?_⟩
 cases q:H b with
 | none=>rfl
 | some x =>
   have hm:b∈trk h H:=List.mem_filter.mpr ⟨List.mem_range.mpr (Heap.lt_size e'),by simp [q]⟩
   have z:(hidT h H).get? b=none:=PySem.W.hideAll_none (trk h H) hm
   rw[z] at e;cases e
structure Mod (K:PySem.W.Frag) (mg:Str→Option Value) (base:Heap):Prop where
 kin:K.In base
 glob:base.Ns mainGlobals mg
 blt:∃ mb,base.Ns builtinsNs mb∧∀ x:Str,x≠"__name__"→mb x=bootBuiltins x
 nolimit:base.NoLimit
structure Cx where
 prog:Program
 w:World
 K:PySem.W.Frag
 mg:Str→Option Value
 base:Heap
 A:Around
 N:List Str
 s₀:Shared
 H₀:Hp
 env:Env
 outer:List Env
 stack:List Env
 ex:List Addr
 fn:Str→Bool
 calm:Bool
 pn:List (Addr × Obj)
 xe:Value→Shared→Prop
noncomputable def frs (l:List Env):List Addr:=l.filterMap (·.frame)
noncomputable abbrev Cx.fs (X:Cx):List Addr:=frs X.outer
noncomputable def Vis (sc:Scope) (x:Str):Prop:=sc.names.lookup x=some .local∨sc.names.lookup x=some .cell∨sc.names.lookup x=some .free
noncomputable def Loc (sc:Scope) (x:Str):Prop:=sc.names.lookup x=some .local∨sc.names.lookup x=some .cell
noncomputable def Look (env:Env) (h:Heap) (m:Str→Option Value) (x:Str) (u:Value):Prop :=
 (env.kindOf x=some .local∧m x=some u)∨((env.kindOf x=some .cell∨env.kindOf x=some .free)∧∃ c,env.cells.lookup x=some c∧h.IsCell c (some u))
structure Cx.Ok (X:Cx):Prop where
 mod:Mod X.K X.mg X.base
 kind:X.env.scope.kind=.function
 glob:X.env.globals=mainGlobals
 blt:X.env.builtins=builtinsNs
 above:X.s₀.heap.objs.size≤X.env.locals
 inj:∀ x y c,X.env.cells.lookup x=some c→X.env.cells.lookup y=some c→x=y
 has:∀ x,(X.env.kindOf x=some .cell∨X.env.kindOf x=some .free)→∃ c,X.env.cells.lookup x=some c
 cab:∀ x c,X.fn x=true→X.env.cells.lookup x=some c→X.s₀.heap.objs.size≤c
 hd:X.calm=true→X.A.handled=none
 frames:X.A.frames=some X.stack
 stk:X.stack=X.outer∨(X.stack=X.env :: X.outer∧X.env.frame=some X.env.locals)
 exf:∀ b∈X.ex,b≠X.env.locals∧∀ x c,X.env.cells.lookup x=some c→c≠b
 bs:∀ b o,X.base.get? b=some o→X.s₀.heap.get? b=some o∧X.H₀ b=none
 bsz:X.base.objs.size≤X.s₀.heap.objs.size
 noex:∀ b o,X.base.get? b=some o→b ∉ X.ex
 exfs:∀ b∈X.ex,b ∉ X.fs
 funs:X.s₀.heap.FunFrames X.base X.outer
 frf:∀ b∈X.fs,X.H₀ b=none
structure Inv (X:Cx) (pins:List (Addr × Obj)) (σ:List (Option V)) (H:Hp) (s:Shared):Prop where
 ok:X.Ok
 os:s.os=X.s₀.os
 bare:AllBare s.gens
 base:Un X.fs X.ex X.H₀ H X.s₀.heap s.heap
 loc:∃ m,s.heap.Ns X.env.locals m∧∀ (i:Nat) (x:Str) (v:V),X.N[i]?=some x→σ[i]?=some (some v)→Vis X.env.scope x→∃ u,RelV v u∧Look X.env s.heap m x u
 cell:∀ x c,X.env.cells.lookup x=some c→∃ v,s.heap.IsCell c v
 free:H X.env.locals=none
 freeC:∀ x c,X.env.cells.lookup x=some c→H c=none
 pin:∀ p∈X.pn++pins,s.heap.get? p.1=some p.2∧H p.1=none∧p.1≠X.env.locals∧p.1 ∉ X.fs∧∀ v,p.2.data≠.cell v
 hok:HOk X.prog X.w H s.heap
 len:σ.length=X.N.length
section
variable {X:Cx} {pins:List (Addr × Obj)} {σ:List (Option V)} {H H':Hp} {s:Shared} {h':Heap}
theorem Cx.Ok.nofr (ok:X.Ok) {b:Addr} {o:Obj} (e:X.base.get? b=some o):b ∉ X.fs:=fun hb=>by
 have:=(ok.funs.mem hb).1
 rw[e] at this;cases this
theorem Inv.bs (I:Inv X pins σ H s):∀ b o,X.base.get? b=some o→s.heap.get? b=some o∧H b=none:=fun b o e =>
 ⟨I.base.keep b o (I.ok.bs b o e).1 (I.ok.bs b o e).2 (I.ok.nofr e) (I.ok.noex b o e),I.base.free b o (I.ok.bs b o e).1 (I.ok.bs b o e).2 (I.ok.noex b o e)⟩
theorem Inv.bk (I:Inv X pins σ H s):∀ b o,X.base.get? b=some o→s.heap.get? b=some o:=fun b o e=>(I.bs b o e).1
theorem Inv.mod (I:Inv X pins σ H s):Mod X.K X.mg X.base:=I.ok.mod
theorem Inv.kIn (I:Inv X pins σ H s):X.K.In s.heap:=I.ok.mod.kin.keeps I.bk
theorem Inv.lt (I:Inv X pins σ H s):X.env.locals < s.heap.objs.size:=let ⟨_,hn,_⟩:=I.loc;hn.lt
theorem Inv.sz (I:Inv X pins σ H s):X.s₀.heap.objs.size≤s.heap.objs.size:=Nat.le_trans I.ok.above (Nat.le_of_lt I.lt)
theorem Inv.nofs (I:Inv X pins σ H s) {a:Addr} (h:s.heap.objs.size≤a):a ∉ X.fs:=fun hb=>by
 obtain⟨_,o,ho,_⟩:=I.ok.funs.mem hb
 exact absurd (Nat.lt_of_lt_of_le (Heap.lt_size ho) (Nat.le_trans I.sz h)) (Nat.lt_irrefl _)
theorem Inv.cne (I:Inv X pins σ H s):∀ x c,X.env.cells.lookup x=some c→c≠X.env.locals:=fun x c e z=>by
 obtain⟨v,o,ho,hd⟩:=I.cell x c e
 obtain⟨m,⟨o',es,ep,ho',hd',_⟩,_⟩:=I.loc
 rw[z,ho'] at ho;cases ho;rw[hd'] at hd;cases hd
theorem Inv.funs (I:Inv X pins σ H s):s.heap.FunFrames X.base X.outer:=by
 have all:∀ (l:List Env),(∀ b∈frs l,b∈X.fs)→X.s₀.heap.FunFrames X.base l→s.heap.FunFrames X.base l:=by
  intro l
  induction l with
  | nil=>intro _ _;trivial
  | cons env r ih =>
    intro hs hl
    obtain⟨hk,⟨L,o,hf,hn,ho,hd⟩,hr⟩:=hl
    have hL:L∈X.fs:=hs L (by unfold frs;rw[List.filterMap_cons,hf];exact List.mem_cons_self)
    obtain⟨sl,e⟩:=I.base.slot L o ho (I.ok.frf L hL) hL fun z=>I.ok.exfs L z hL
    exact⟨hk,⟨L,_,hf,hn,e,hd⟩,ih (fun b hb=>hs b (by unfold frs;rw[List.filterMap_cons,hf];exact List.mem_cons_of_mem _ hb)) hr⟩
 exact all X.outer (fun _ hb=>hb) I.ok.funs
theorem Inv.stack (I:Inv X pins σ H s):s.heap.FunFrames X.base X.stack:=by
 rcases I.ok.stk with e | ⟨e,hf⟩
 ·rw[e];exact I.funs
 ·rw[e]
  obtain⟨m,hn,_⟩:=I.loc
  refine .cons (by rw[I.ok.kind];decide) hf hn ?_ I.funs
  exact Heap.get?_none_of_le (Nat.le_trans I.ok.bsz I.ok.above)
theorem Inv.stkSub (I:Inv X pins σ H s):∀ b∈frs X.stack,b∈X.env.locals :: X.fs:=fun b hb=>by
 rcases I.ok.stk with e | ⟨e,hf⟩
 ·rw[e] at hb;exact List.mem_cons_of_mem _ hb
 ·rw[e] at hb
  unfold frs at hb
  rw[List.filterMap_cons,hf] at hb
  exact hb
theorem Inv.stkFree (I:Inv X pins σ H s):∀ b∈frs X.stack,H b=none:=fun b hb=>by
 rcases List.mem_cons.mp (I.stkSub b hb) with e | hb
 ·rw[e];exact I.free
 ·obtain⟨_,o,ho,_⟩:=I.ok.funs.mem hb
  exact I.base.free b o ho (I.ok.frf b hb) fun z=>I.ok.exfs b z hb
theorem Inv.step {g':Array GenState} {t':Nat} {d':Drawn} {ch:List Addr} (I:Inv X pins σ H s)
  (hch:∀ b∈ch,(b∈X.ex∨X.s₀.heap.objs.size≤b)∧b≠X.env.locals∧(∀ x c,X.env.cells.lookup x=some c→c≠b)∧∀ p∈X.pn++pins,p.1≠b)
  (keep:∀ b o,b≠X.env.locals→b ∉ X.fs→b ∉ ch→s.heap.get? b=some o→H b=none→h'.get? b=some o)
  (slot:∀ b o,b≠X.env.locals→b∈X.fs→b ∉ ch→s.heap.get? b=some o→H b=none→∃ sl,h'.get? b=some { o with slots:=sl }) (free:∀ b o,b ∉ ch→s.heap.get? b=some o→H b=none→H' b=none)
  (there:∀ b o,b ∉ ch→s.heap.get? b=some o→∃ o',h'.get? b=some o')
  (tups:∀ b xs,H b=some (.tup xs)→H' b=some (.tup xs)) (frzs:∀ b o u,H b=some (.frz o u)→H' b=some (.frz o u)) (tbls:∀ b ps,H b=some (.tbl ps)→∃ more,H' b=some (.tbl (ps++more)))
  (ns:∀ m,s.heap.Ns X.env.locals m→h'.Ns X.env.locals m) (hok:HOk X.prog X.w H' h') (hg:AllBare g') :
  Inv X pins σ H' { s with heap:=h',gens:=g',drawn:=d',toks:=t' }:=by
 have neL:∀ b o,X.s₀.heap.get? b=some o→b≠X.env.locals:=fun b o e=>Nat.ne_of_lt (Nat.lt_of_lt_of_le (Heap.lt_size e) I.ok.above)
 have neC:∀ b o,X.s₀.heap.get? b=some o→b ∉ X.ex→b ∉ ch:=fun b o e hx hb=>by
  rcases (hch b hb).1 with z | z
  ·exact hx z
  ·exact absurd (Nat.lt_of_lt_of_le (Heap.lt_size e) z) (Nat.lt_irrefl _)
 have cellK:∀ x c,X.env.cells.lookup x=some c→∀ v,s.heap.IsCell c v→h'.IsCell c v:=fun x c e v ⟨o,ho,hd⟩=>by
  have nch:c ∉ ch:=fun z=>(hch c z).2.2.1 x c e rfl
  by_cases hc:c∈X.fs
  ·obtain⟨sl,q⟩:=slot c o (I.cne x c e) hc nch ho (I.freeC x c e)
   exact⟨_,q,hd⟩
  ·exact⟨o,keep c o (I.cne x c e) hc nch ho (I.freeC x c e),hd⟩
 refine⟨I.ok,I.os,hg,⟨fun b o e n hb hx=>?_,fun b o e n hb hx=>?_,fun b o e n hx=>?_,fun b o e hx=>?_,fun b xs e=>tups b xs (I.base.tups b xs e),fun b o xs e=>frzs b o xs (I.base.frzs b o xs e),fun b ps e=>?_⟩,?_,fun x c e=>?_,?_,fun x c e=>?_,fun p hp=>?_,hok,I.len⟩
 ·exact keep b o (neL b o e) hb (neC b o e hx) (I.base.keep b o e n hb hx) (I.base.free b o e n hx)
 ·obtain⟨sl,e1⟩:=I.base.slot b o e n hb hx
  obtain⟨sl',e2⟩:=slot b _ (neL b o e) hb (neC b o e hx) e1 (I.base.free b o e n hx)
  exact⟨sl',e2⟩
 ·obtain⟨o',e1⟩:=I.base.there b o e hx
  exact free b o' (neC b o e hx) e1 (I.base.free b o e n hx)
 ·obtain⟨o',e1⟩:=I.base.there b o e hx
  exact there b o' (neC b o e hx) e1
 ·obtain⟨m1,e1⟩:=I.base.tbls b ps e
  obtain⟨m2,e2⟩:=tbls b _ e1
  exact⟨m1++m2,by rw[e2,Array.append_assoc]⟩
 ·obtain⟨m,hn,hl⟩:=I.loc
  refine⟨m,ns m hn,fun i x v e1 e2 e3=>?_⟩
  obtain⟨u,r,l⟩:=hl i x v e1 e2 e3
  refine⟨u,r,?_⟩
  rcases l with l | ⟨k,c,e,z⟩
  ·exact .inl l
  ·exact .inr ⟨k,c,e,cellK x c e _ z⟩
 ·obtain⟨v,z⟩:=I.cell x c e
  exact⟨v,cellK x c e v z⟩
 ·obtain⟨m,⟨o,_,_,ho,_⟩,_⟩:=I.loc
  exact free _ o (fun z=>(hch _ z).2.1 rfl) ho I.free
 ·obtain⟨v,o,ho,hd⟩:=I.cell x c e
  exact free c o (fun z=>(hch c z).2.2.1 x c e rfl) ho (I.freeC x c e)
 ·obtain⟨e,n,ne,nf,d⟩:=I.pin p hp
  have nch:p.1 ∉ ch:=fun z=>(hch p.1 z).2.2.2 p hp rfl
  exact⟨keep p.1 p.2 ne nf nch e n,free p.1 p.2 nch e n,ne,nf,d⟩
theorem Inv.un {t':Nat} (I:Inv X pins σ H s) (u:Un X.fs [] H H' s.heap h') (hok:HOk X.prog X.w H' h'):Inv X pins σ H' { s with heap:=h',toks:=t' }:=by
 obtain⟨m,⟨o,es,ep,ho,r⟩,_⟩:=id I.loc
 obtain⟨sl,hL⟩:=u.any ho I.free (by simp)
 exact I.step (g':=s.gens) (d':=s.drawn) (ch:=[]) (fun _ z=>nomatch z) (fun b o _ hb _ e n=>u.keep b o e n hb (by simp)) (fun b o _ hb _ e n=>u.slot b o e n hb (by simp)) (fun b o _ e n=>u.free b o e n (by simp)) (fun b o _ e=>u.there b o e (by simp)) u.tups u.frzs u.tbls (fun m' hm=>by
  obtain⟨o',es',ep',ho',r'⟩:=hm
  rw[ho] at ho';cases ho'
  exact⟨_,es',ep',hL,r'⟩) hok I.bare
theorem Inv.call {g':Array GenState} {t':Nat} {d':Drawn} {ch:List Addr} (I:Inv X pins σ H s) (u:Un (frs X.stack) ch H H' s.heap h') (hok:HOk X.prog X.w H' h') (hg:AllBare g')
  (hch:∀ b∈ch,(b∈X.ex∨X.s₀.heap.objs.size≤b)∧b≠X.env.locals∧(∀ x c,X.env.cells.lookup x=some c→c≠b)∧∀ p∈X.pn++pins,p.1≠b) :
  Inv X pins σ H' { s with heap:=h',gens:=g',drawn:=d',toks:=t' }:=by
 obtain⟨m,⟨o,es,ep,ho,r⟩,_⟩:=id I.loc
 obtain⟨sl,hL⟩:=u.any ho I.free fun z=>(hch _ z).2.1 rfl
 exact I.step (ch:=ch) hch (fun b o hL hb hc e n=>u.keep b o e n (fun z=>(List.mem_cons.mp (I.stkSub b z)).elim hL hb) hc) (fun b o _ _ hc e n=>u.any e n hc) (fun b o hc e n=>u.free b o e n hc) (fun b o hc e=>u.there b o e hc) u.tups u.frzs u.tbls (fun m' hm=>by
  obtain⟨o',es',ep',ho',r'⟩:=hm
  rw[ho] at ho';cases ho'
  exact⟨_,es',ep',hL,r'⟩) hok hg
theorem Inv.turned {t':Nat} {it:Addr} (I:Inv X pins σ H s) (k:∀ b o,b≠it→s.heap.get? b=some o→h'.get? b=some o) (hn:H it=none) (hL:it≠X.env.locals)
  (h1:it∈X.ex∨X.s₀.heap.objs.size≤it) (h2:∀ x c,X.env.cells.lookup x=some c→c≠it) (h3:∀ p∈X.pn++pins,p.1≠it):Inv X pins σ H { s with heap:=h',toks:=t' }:=by
 have nit:∀ b u,H b=some u→b≠it:=fun b u e z=>by rw[z,hn] at e;cases e
 refine I.step (g':=s.gens) (d':=s.drawn) (ch:=[it]) (fun b hb=>?_) (fun b o _ _ hc e _=>k b o (fun z=>hc (by simp [z])) e) (fun b o _ _ hc e _=>⟨o.slots,k b o (fun z=>hc (by simp [z])) e⟩) (fun _ _ _ _ n=>n)
  (fun b o hc e=>⟨o,k b o (fun z=>hc (by simp [z])) e⟩) (fun _ _ e=>e) (fun _ _ _ e=>e) (fun b ps e=>⟨#[],by rw[e];simp⟩) (fun m hm=>?_) (fun b u e=>?_) I.bare
 ·have e:b=it:=by simpa using hb
  subst e
  exact⟨h1,hL,h2,h3⟩
 ·obtain⟨o,es,ep,ho,r⟩:=hm
  exact⟨o,es,ep,k _ o (Ne.symm hL) ho,r⟩
 ·refine (I.hok b u e).stay (fun c v hc q=>k c v ?_ q) (fun _ q=>q) fun _ _ q=>q
  rcases hc with z | z
  ·rw[z];exact nit b u e
  ·exact nit c _ z
theorem Inv.tok (I:Inv X pins σ H s) (t:Nat):Inv X pins σ H { s with toks:=t }:=I.un (h':=s.heap) (t':=t) Un.refl I.hok
theorem Inv.kept {t':Nat} (I:Inv X pins σ H s) (k:∀ b u,s.heap.get? b=some u→h'.get? b=some u):Inv X pins σ H { s with heap:=h',toks:=t' }:=I.un (Un.kept k) (I.hok.kept k)
theorem Inv.laid {a:Addr} {o:HO} {t':Nat} (I:Inv X pins σ H s) (k:∀ b u,s.heap.get? b=some u→h'.get? b=some u) (hp:s.heap.objs.size≤a) (new:a2a X.prog X.w (upd H a o) h' a o) :
  Inv X pins σ (upd H a o) { s with heap:=h',toks:=t' }:=I.un (Un.laid k hp (I.hok.fresh hp)) (I.hok.laid k hp new)
theorem Inv.write {x e:Addr} {o:HO} {t':Nat} (I:Inv X pins σ H s) (mu:Mut (H x)) (he:e=x∨H e=some (.own x)) (k:∀ b u,b≠e→s.heap.get? b=some u→h'.get? b=some u) (heo:∃ u,h'.get? e=some u)
  (new:a2a X.prog X.w (upd H x o) h' x o):Inv X pins σ (upd H x o) { s with heap:=h',toks:=t' }:=I.un (Un.write mu he k heo) (I.hok.write mu he k heo new)
theorem Inv.weak {σ':List (Option V)} (I:Inv X pins σ H s) (hl:σ'.length=σ.length) (w:∀ (i:Nat) v,σ'[i]?=some (some v)→σ[i]?=some (some v)):Inv X pins σ' H s :=
 ⟨I.ok,I.os,I.bare,I.base,let ⟨m,hn,hl'⟩:=I.loc;⟨m,hn,fun i x v e1 e2 e3=>hl' i x v e1 (w i v e2) e3⟩,I.cell,I.free,I.freeC,I.pin,I.hok,hl.trans I.len⟩
theorem Inv.pins_of {pins':List (Addr × Obj)} (I:Inv X pins σ H s) (h:∀ p∈pins',s.heap.get? p.1=some p.2∧H p.1=none∧p.1≠X.env.locals∧p.1 ∉ X.fs∧∀ v,p.2.data≠.cell v):Inv X pins' σ H s :=
 ⟨I.ok,I.os,I.bare,I.base,I.loc,I.cell,I.free,I.freeC,fun p hp=>(List.mem_append.mp hp).elim (fun z=>I.pin p (List.mem_append_left _ z)) (h p),I.hok,I.len⟩
theorem b1U {N:List Str} (hN:N.Nodup) {i j:Nat} {x:Str} (a:N[i]?=some x) (b:N[j]?=some x):i=j:=by
 obtain⟨h1,e1⟩:=List.getElem?_eq_some_iff.mp a
 obtain⟨h2,e2⟩:=List.getElem?_eq_some_iff.mp b
 exact (List.getElem_inj hN).mp (e1.trans e2.symm)
theorem a9i {M:Model} {A:Around} {E:Value→Shared→Prop} {i:Nat} {x:Str} {v:V} {u:Value} {Q:Unit→Shared→Prop} (I:Inv X pins σ H s) (hN:X.N.Nodup) (hi:X.N[i]?=some x) (hx:Loc X.env.scope x) (r:RelV v u)
  (h:∀ s',Inv X pins (σ.set i (some v)) H s'→(∃ a,Heap.SameBut a s.heap s'.heap∧(a=X.env.locals∨X.env.cells.lookup x=some a))→Q () s') (hf:X.fn x=true∨X.env.scope.names.lookup x=some .local:=by first | exact .inl rfl | exact .inr rfl | assumption):wpAny M A (storeName X.env x u) Q E s:=by
 obtain⟨m,hn,hl⟩:=id I.loc
 have hcls:(X.env.scope.kind == .class || (X.env.scope.kind == .module && X.env.locals != X.env.globals))=false:=by rw[I.ok.kind];rfl
 have hiσ:i < σ.length:=by rw[I.len];exact (List.getElem?_eq_some_iff.mp hi).1
 have cne:=I.cne
 have tracked:∀ {a:Addr} {h':Heap},(∃ o,s.heap.get? a=some o∧H a=none)→Heap.SameBut a s.heap h'→HOk X.prog X.w H h':=fun {a h'} ha hs b ob e=>by
  obtain⟨_,_,hfree⟩:=ha
  refine (I.hok b ob e).stay (fun c w' hc q=>(hs.2 c ?_).trans q) (fun _ q=>q) fun _ _ q=>q
  rintro rfl
  rcases hc with rfl | hc
  ·rw[hfree] at e;cases e
  ·rw[hfree] at hc;cases hc
 rcases hx with hk | hk
 ·refine wpAny_storeName_local hk hn (fun h' hn' hs=>?_) hcls
  obtain⟨oL,_,_,hoL,_⟩:=id hn
  refine h _ ⟨I.ok,I.os,I.bare,⟨fun b o e n hb hx=>?_,fun b o e n hb hx=>?_,I.base.free,fun b o e hx=>?_,I.base.tups,I.base.frzs,I.base.tbls⟩,⟨_,hn',fun j y v' e1 e2 e3=>?_⟩,fun y c e=>?_,I.free,I.freeC,fun p hp=>?_,tracked ⟨oL,hoL,I.free⟩ hs,by simpa using I.len⟩ ⟨_,hs,.inl rfl⟩
  ·exact (hs.2 b (Nat.ne_of_lt (Nat.lt_of_lt_of_le (Heap.lt_size e) I.ok.above))).trans (I.base.keep b o e n hb hx)
  ·obtain⟨sl,e1⟩:=I.base.slot b o e n hb hx
   exact⟨sl,(hs.2 b (Nat.ne_of_lt (Nat.lt_of_lt_of_le (Heap.lt_size e) I.ok.above))).trans e1⟩
  ·obtain⟨o',e1⟩:=I.base.there b o e hx
   exact⟨o',(hs.2 b (Nat.ne_of_lt (Nat.lt_of_lt_of_le (Heap.lt_size e) I.ok.above))).trans e1⟩
  ·by_cases hj:j=i
   ·subst hj
    rw[hi] at e1;cases e1
    rw[List.getElem?_set_self hiσ] at e2
    cases e2
    exact⟨u,r,.inl ⟨hk,by simp⟩⟩
   ·rw[List.getElem?_set_ne (Ne.symm hj)] at e2
    obtain⟨u',r',q⟩:=hl j y v' e1 e2 e3
    refine⟨u',r',?_⟩
    rcases q with ⟨k,e⟩ | ⟨k,c,e,z⟩
    ·refine .inl ⟨k,?_⟩
     have:y≠x:=fun e=>hj (b1U hN e1 (e▸hi))
     simp [this,e]
    ·exact .inr ⟨k,c,e,z.sameBut hs (cne y c e)⟩
  ·obtain⟨w',z⟩:=I.cell y c e
   exact⟨w',z.sameBut hs (cne y c e)⟩
  ·obtain⟨e,n,ne,nf,d⟩:=I.pin p hp
   exact⟨(hs.2 p.1 ne).trans e,n,ne,nf,d⟩
 ·have hfn:X.fn x=true:=by
   rcases hf with z | z
   ·exact z
   ·rw[z] at hk;cases hk
  obtain⟨c,hc⟩:=I.ok.has x (.inl hk)
  obtain⟨w',z⟩:=I.cell x c hc
  refine wpAny_storeName_cell I.ok.kind hk hc z (fun h' hc' hs=>?_)
  obtain⟨oc,hoc,hocd⟩:=id z
  refine h { s with heap:=h' } ⟨I.ok,I.os,I.bare,⟨fun b o e n hb hx=>?_,fun b o e n hb hx=>?_,I.base.free,fun b o e hx=>?_,I.base.tups,I.base.frzs,I.base.tbls⟩,⟨m,hn.sameBut hs (Ne.symm (cne x c hc)),fun j y v' e1 e2 e3=>?_⟩,fun y c' e=>?_,I.free,I.freeC,fun p hp=>?_,tracked ⟨oc,hoc,I.freeC x c hc⟩ hs,by simpa using I.len⟩ ⟨c,hs,.inr hc⟩
  ·exact (hs.2 b (Nat.ne_of_lt (Nat.lt_of_lt_of_le (Heap.lt_size e) (I.ok.cab x c hfn hc)))).trans (I.base.keep b o e n hb hx)
  ·obtain⟨sl,e1⟩:=I.base.slot b o e n hb hx
   exact⟨sl,(hs.2 b (Nat.ne_of_lt (Nat.lt_of_lt_of_le (Heap.lt_size e) (I.ok.cab x c hfn hc)))).trans e1⟩
  ·obtain⟨o',e1⟩:=I.base.there b o e hx
   exact⟨o',(hs.2 b (Nat.ne_of_lt (Nat.lt_of_lt_of_le (Heap.lt_size e) (I.ok.cab x c hfn hc)))).trans e1⟩
  ·by_cases hj:j=i
   ·subst hj
    rw[hi] at e1;cases e1
    rw[List.getElem?_set_self hiσ] at e2
    cases e2
    exact⟨u,r,.inr ⟨.inl hk,c,hc,hc'⟩⟩
   ·rw[List.getElem?_set_ne (Ne.symm hj)] at e2
    obtain⟨u',r',q⟩:=hl j y v' e1 e2 e3
    refine⟨u',r',?_⟩
    rcases q with q | ⟨k,c',e,z'⟩
    ·exact .inl q
    ·refine .inr ⟨k,c',e,z'.sameBut hs ?_⟩
     rintro rfl
     exact hj (b1U hN e1 (I.ok.inj _ _ _ e hc▸hi))
  ·by_cases hcc:c'=c
   ·subst hcc;exact⟨_,hc'⟩
   ·obtain⟨w2,z2⟩:=I.cell y c' e
    exact⟨w2,z2.sameBut hs hcc⟩
  ·obtain⟨e,n,ne,nf,d⟩:=I.pin p hp
   refine⟨(hs.2 p.1 ?_).trans e,n,ne,nf,d⟩
   intro q
   rw[q,hoc] at e
   have q':oc=p.2:=Option.some.inj e
   exact d w' (by rw[← q'];exact hocd)
theorem b1H {M:Model} {A:Around} {E:Value→Shared→Prop} {i:Nat} {x:Str} {v:V} {u:Value} {Q:Unit→Shared→Prop} (I:Inv X pins σ H s) (hN:X.N.Nodup) (hi:X.N[i]?=some x) (hx:Loc X.env.scope x) (r:RelV v u)
  (h:∀ s',Inv X pins (σ.set i (some v)) H s'→Q () s') (hf:X.fn x=true∨X.env.scope.names.lookup x=some .local:=by first | exact .inl rfl | exact .inr rfl | assumption):wpAny M A (storeName X.env x u) Q E s :=
 a9i I hN hi hx r (fun s' I' _=>h s' I') hf
theorem Inv.call' {s':Shared} {ch:List Addr} (I:Inv X pins σ H s) (ho:s'.os=s.os) (u:Un (frs X.stack) ch H H' s.heap s'.heap) (hok:HOk X.prog X.w H' s'.heap) (hg:AllBare s'.gens)
  (hch:∀ b∈ch,(b∈X.ex∨X.s₀.heap.objs.size≤b)∧b≠X.env.locals∧(∀ x c,X.env.cells.lookup x=some c→c≠b)∧∀ p∈X.pn++pins,p.1≠b):Inv X pins σ H' s':=by
 obtain⟨h',g',d',t',o'⟩:=s'
 have e:o'=s.os:=ho
 subst e
 exact I.call (g':=g') (t':=t') (d':=d') u hok hg hch
end
noncomputable abbrev XK:=Value→Option Addr→Hp→Prop
noncomputable abbrev St:=List (Option V)
noncomputable abbrev VK:=V→Hp→Prop
noncomputable abbrev TE:=St→Hp→VK→Prop
noncomputable abbrev TT:=St→Hp→(Bool→Hp→Prop)→Prop
noncomputable abbrev TA:=St→Hp→(List V→Hp→Prop)→Prop
structure Ends where
 nx:St→Hp→Prop
 rt:VK
 bk:St→Hp→Prop:=fun _ _=>False
 ct:St→Hp→Prop:=fun _ _=>False
noncomputable abbrev TS:=Ends→St→Hp→Prop
noncomputable def EP (X:Cx) (pins:List (Addr × Obj)) (σ:St) (Q:VK) (u:Value) (s':Shared):Prop:=∃ v H',Inv X pins σ H' s'∧RelV v u∧Q v H'
noncomputable def TP (X:Cx) (pins:List (Addr × Obj)) (σ:St) (Q:Bool→Hp→Prop) (b:Bool) (s':Shared):Prop:=∃ H',Inv X pins σ H' s'∧Q b H'
noncomputable def AP (X:Cx) (pins:List (Addr × Obj)) (σ:St) (Q:List V→Hp→Prop) (us:List Value) (s':Shared):Prop:=∃ vs H',Inv X pins σ H' s'∧Vals vs us∧Q vs H'
noncomputable def SP (X:Cx) (pins:List (Addr × Obj)) (D:Ends) (f:Flow) (s':Shared):Prop :=
 match f with
 | .next=>∃ σ' H',Inv X pins σ' H' s'∧D.nx σ' H'
 | .brk=>∃ σ' H',Inv X pins σ' H' s'∧D.bk σ' H'
 | .cont=>∃ σ' H',Inv X pins σ' H' s'∧D.ct σ' H'
 | .ret u=>∃ v σ' H',Inv X pins σ' H' s'∧RelV v u∧D.rt v H'
noncomputable def PE (X:Cx) (e:Expr) (t:TE):Prop :=
 ∀ (pins:List (Addr × Obj)) (s:Shared) (σ:St) (H:Hp) (Q:VK),Inv X pins σ H s→t σ H Q→wpAny (model X.prog X.w) X.A (eval e X.env) (EP X pins σ Q) X.xe s
noncomputable def PT (X:Cx) (e:Expr) (t:TT):Prop :=
 ∀ (pins:List (Addr × Obj)) (s:Shared) (σ:St) (H:Hp) (Q:Bool→Hp→Prop),Inv X pins σ H s→t σ H Q→wpAny (model X.prog X.w) X.A (isTrue e X.env (eval e X.env)) (TP X pins σ Q) X.xe s
noncomputable def PW (X:Cx) (e:Expr) (t:TT):Prop :=
 ∀ (whole:Sem Value) (pins:List (Addr × Obj)) (s:Shared) (σ:St) (H:Hp) (Q:Bool→Hp→Prop),Inv X pins σ H s→t σ H Q→wpAny (model X.prog X.w) X.A (isTrue e X.env whole) (TP X pins σ Q) X.xe s
theorem PW.pt {X:Cx} {e:Expr} {t:TT} (h:PW X e t):PT X e t:=h _
noncomputable def PA (X:Cx) (es:List Expr) (t:TA):Prop :=
 ∀ (pos:Pos) (pins:List (Addr × Obj)) (s:Shared) (σ:St) (H:Hp) (Q:List V→Hp→Prop),Inv X pins σ H s→t σ H Q→wpAny (model X.prog X.w) X.A (spliced (backTo pos (starEach es X.env))) (AP X pins σ Q) X.xe s
noncomputable def PS (X:Cx) (st:Stmt) (t:TS):Prop :=
 ∀ (pins:List (Addr × Obj)) (s:Shared) (σ:St) (H:Hp) (D:Ends),Inv X pins σ H s→t D σ H→wpAny (model X.prog X.w) X.A (exec st X.env) (SP X pins D) X.xe s
noncomputable def PSs (X:Cx) (st:List Stmt) (t:TS):Prop :=
 ∀ (pins:List (Addr × Obj)) (s:Shared) (σ:St) (H:Hp) (D:Ends),Inv X pins σ H s→t D σ H→wpAny (model X.prog X.w) X.A (execs st X.env) (SP X pins D) X.xe s
theorem thn {α:Type} {t:Sem α} {Q Q':α→Shared→Prop} {M:Model} {A:Around} {E:Value→Shared→Prop} {s:Shared} (h:wpAny M A t Q E s) (hQ:∀ a s,Q a s→Q' a s):wpAny M A t Q' E s:=wpAny_mono h hQ fun _ _ x=>x
section
variable {X:Cx}
noncomputable def tVar (i:Nat):TE:=fun σ H Q=>∃ v,σ[i]?=some (some v)∧Q v H
noncomputable def tC (v:V):TE:=fun _ H Q=>Q v H
theorem b6X {i:Nat} {x:Str} {pos:Pos} (hN:X.N[i]?=some x) (hv:Vis X.env.scope x) (hd:(x == ("__debug__":Str))=false:=by decide) (hcd:(x == ("__classdict__":Str))=false:=by decide):PE X (.Name x pos) (tVar i):=by
 intro pins s σ H Q I h
 obtain⟨v,e,h⟩:=h
 obtain⟨m,hn,hl⟩:=I.loc
 obtain⟨u,r,l⟩:=hl i x v hN e hv
 have fin:EP X pins σ Q u s:=⟨v,H,I,r,h⟩
 rcases l with ⟨hk,hm⟩ | ⟨hk,c,hc,hcell⟩
 ·exact wpAny_Name (wpAny_loadName_local I.ok.kind hk hn hm fin) hd
 ·rcases hk with hk | hk
  ·exact wpAny_Name (wpAny_loadName_cell I.ok.kind hk hc hcell fin) hd
  ·exact wpAny_Name (wpAny_loadName_free I.ok.kind hk hc hcell fin hcd) hd
theorem c0a {i j pos}:PE X (.Constant (.int i) j pos) (tC (.int i)):=fun _ _ _ H _ I h=>wpAny_Constant_int ⟨.int i,H,I.tok _,⟨_,rfl⟩,h⟩
theorem c1y {b j pos}:PE X (.Constant (.bool b) j pos) (tC (.bl b)):=fun _ _ _ H _ I h=>Constant_bool ⟨.bl b,H,I,rfl,h⟩
theorem b9Y {j pos}:PE X (.Constant .none j pos) (tC .non):=fun _ _ _ H _ I h=>Constant_none ⟨.non,H,I,rfl,h⟩
theorem b9W {x j pos}:PE X (.Constant (.str x) j pos) (tC (.str x)):=fun _ _ _ H _ I h=>Calls.Constant_str ⟨.str x,H,I.tok _,⟨_,rfl⟩,h⟩
noncomputable def Gl (X:Cx) (x:Str):Prop:=X.env.kindOf x=some .globalImplicit
theorem b4t {E:Value→Shared→Prop} {pins:List (Addr × Obj)} {s:Shared} {σ:St} {H:Hp} {x:Str} {u:Value} {pos:Pos} {Q:Value→Shared→Prop} (I:Inv X pins σ H s) (hg:Gl X x) (hm:X.mg x=some u) (h:Q u s)
  (hd:(x == ("__debug__":Str))=false:=by decide):wpAny (model X.prog X.w) X.A (eval (.Name x pos) X.env) Q E s :=
 Calls.Name_function_global I.ok.kind hg (Calls.loadGlobal_global (by rw[I.ok.glob];exact I.mod.glob.keeps I.bk) hm h) hd
theorem a6w {E:Value→Shared→Prop} {pins:List (Addr × Obj)} {s:Shared} {σ:St} {H:Hp} {x:Str} {u:Value} {pos:Pos} {Q:Value→Shared→Prop} (I:Inv X pins σ H s) (hg:Gl X x) (hm:X.mg x=none) (hv:bootBuiltins x=some u) (h:Q u s)
  (hn:x≠"__name__":=by decide) (hd:(x == ("__debug__":Str))=false:=by decide):wpAny (model X.prog X.w) X.A (eval (.Name x pos) X.env) Q E s:=by
 obtain⟨mb,h1,h2⟩:=I.mod.blt
 exact Calls.Name_function_global I.ok.kind hg (Calls.loadGlobal_builtin (by rw[I.ok.glob];exact I.mod.glob.keeps I.bk) hm (by rw[I.ok.blt];exact h1.keeps I.bk) ((h2 x hn).trans hv) h) hd
theorem b1a {x:Str} {v:V} {u:Value} {pos:Pos} (hg:Gl X x) (hm:X.mg x=some u) (r:RelV v u) (hd:(x == ("__debug__":Str))=false:=by decide):PE X (.Name x pos) (tC v) :=
 fun _ _ _ H _ I h=>b4t I hg hm ⟨v,H,I,r,h⟩ hd
variable {a b:Expr} {ta tb:TE} {pos:Pos}
variable {tA tB':TT} {rest:List Expr}
noncomputable def tAnd (t u:TT):TT:=fun σ H Q=>t σ H fun c H1=>if c=true then u σ H1 Q else Q false H1
noncomputable def tOr (t u:TT):TT:=fun σ H Q=>t σ H fun c H1=>if c=true then Q true H1 else u σ H1 Q
noncomputable def tNot (t:TT):TT:=fun σ H Q=>t σ H fun c H1=>Q (!c) H1
theorem b7W (ha:PT X a tA):PW X (.BoolOp .And [a] pos) tA:=by
 intro wh pins s σ H Q I h
 refine isTrue_and (thn (ha pins s σ H Q I h) fun c s1 e=>?_)
 cases c with
 | true=>exact isTrue_and_nil e
 | false=>exact e
theorem b9M (ha:PT X a tA):PW X (.BoolOp .Or [a] pos) tA:=by
 intro wh pins s σ H Q I h
 refine isTrue_or (thn (ha pins s σ H Q I h) fun c s1 e=>?_)
 cases c with
 | false=>exact isTrue_or_nil e
 | true=>exact e
theorem b9N (ha:PT X a tA) (hb:PW X (.BoolOp .And (b :: rest) pos) tB'):PW X (.BoolOp .And (a :: b :: rest) pos) (tAnd tA tB'):=by
 intro wh pins s σ H Q I h
 refine isTrue_and (thn (ha pins s σ H _ I h) fun c s1 ⟨H1,I1,q1⟩=>?_)
 cases c with
 | true=>exact hb wh pins s1 σ H1 Q I1 q1
 | false=>exact⟨H1,I1,q1⟩
theorem c1q (ha:PT X a tA) (hb:PW X (.BoolOp .Or (b :: rest) pos) tB'):PW X (.BoolOp .Or (a :: b :: rest) pos) (tOr tA tB'):=by
 intro wh pins s σ H Q I h
 refine isTrue_or (thn (ha pins s σ H _ I h) fun c s1 ⟨H1,I1,q1⟩=>?_)
 cases c with
 | true=>exact⟨H1,I1,q1⟩
 | false=>exact hb wh pins s1 σ H1 Q I1 q1
theorem b9O (ha:PT X a tA):PT X (.UnaryOp .Not a pos) (tNot tA):=by
 intro pins s σ H Q I h
 exact isTrue_not (ha pins s σ H (fun c H1=>Q (!c) H1) I h)
noncomputable def c1e (ta tb:TE):TE:=fun σ H Q=>ta σ H fun x H1=>∃ c,x=.bl c∧if c=true then tb σ H1 Q else Q (.bl false) H1
noncomputable def tOrV (ta tb:TE):TE:=fun σ H Q=>ta σ H fun x H1=>∃ c,x=.bl c∧if c=true then Q (.bl true) H1 else tb σ H1 Q
theorem b9X {op} {t:TE} (h:PE X a t):PE X (.BoolOp op [a] pos) t:=fun pins s σ H Q I hw=>BoolOp_one (h pins s σ H Q I hw)
theorem c0b (ha:PE X a ta) (hb:PE X (.BoolOp .And (b :: rest) pos) tb):PE X (.BoolOp .And (a :: b :: rest) pos) (c1e ta tb):=by
 intro pins s σ H Q I h
 refine BoolOp_and (thn (ha pins s σ H _ I h) fun v s1 ⟨x,H1,I1,r1,q1⟩=>?_)
 obtain⟨c,rfl,q1⟩:=q1
 cases r1
 refine wpAny_truthy_bool ?_
 cases c with
 | true=>exact hb pins s1 σ H1 Q I1 q1
 | false=>exact⟨.bl false,H1,I1,rfl,q1⟩
theorem c1u (ha:PE X a ta) (hb:PE X (.BoolOp .Or (b :: rest) pos) tb):PE X (.BoolOp .Or (a :: b :: rest) pos) (tOrV ta tb):=by
 intro pins s σ H Q I h
 refine BoolOp_or (thn (ha pins s σ H _ I h) fun v s1 ⟨x,H1,I1,r1,q1⟩=>?_)
 obtain⟨c,rfl,q1⟩:=q1
 cases r1
 refine wpAny_truthy_bool ?_
 cases c with
 | false=>exact hb pins s1 σ H1 Q I1 q1
 | true=>exact⟨.bl true,H1,I1,rfl,q1⟩
end
noncomputable def SqL (K:PySem.W.Frag) (H:Hp) (a:Addr) (xs:List V):Prop :=
 Rd H a (.lst xs) ∨
  ∃ (o:Obj) (its:Array Value) (n:Nat),K.lookup a=some o∧o.cls=.type "list"∧o.dict=none∧o.data=.seq its n∧its.size≤sizeLine∧Vals xs its.toList
noncomputable def SqT (K:PySem.W.Frag) (H:Hp) (a:Addr) (xs:List V):Prop :=
 Rd H a (.tup xs) ∨
  ∃ (o:Obj) (its:Array Value) (n:Nat),K.lookup a=some o∧o.cls=.type "tuple"∧o.dict=none∧o.data=.seq its n∧its.size≤sizeLine∧Vals xs its.toList
noncomputable def absV:Value→Option V
 | .none=>some .non
 | .bool b=>some (.bl b)
 | .int i _=>some (.int i)
 | .str x _=>some (.str x)
 | .bytes b _=>some (.byt b)
 | .float b _=>some (.flt b)
 | .ref a=>some (.ref a)
 | .type n=>some (.ty n)
 | _=>none
theorem RelV.abs {x:V} {u:Value} (r:RelV x u):absV u=some x:=by
 cases x with
 | non=>cases r;rfl
 | bl _=>cases r;rfl
 | int _=>obtain⟨t,rfl⟩:=r;rfl
 | str _=>obtain⟨t,rfl⟩:=r;rfl
 | byt _=>obtain⟨t,rfl⟩:=r;rfl
 | flt _=>obtain⟨t,rfl⟩:=r;rfl
 | ref _=>cases r;rfl
 | ty _=>cases r;rfl
theorem RelV.inj {x y:V} {u:Value} (r:RelV x u) (q:RelV y u):x=y:=Option.some.inj (r.abs.symm.trans q.abs)
theorem Vals.inj:∀ {xs ys:List V} {us:List Value},Vals xs us→Vals ys us→xs=ys
 | _,_,_,.nil,.nil=>rfl
 | _,_,_,.cons r t,.cons r' t'=>by rw[r.inj r',Vals.inj t t']
section
variable {X:Cx} {pins:List (Addr × Obj)} {σ:St} {H:Hp} {s:Shared} {a:Addr} {xs ys:List V}
theorem SqL.of {K:PySem.W.Frag} (h:H a=some (.lst xs)):SqL K H a xs:=.inl (.inl h)
theorem SqT.of {K:PySem.W.Frag} (h:H a=some (.tup xs)):SqT K H a xs:=.inl (.inl h)
theorem Inv.list (I:Inv X pins σ H s) (h:SqL X.K H a xs):∃ its:List Value,Vals xs its∧PlainL s.heap a its.toArray∧xs.length≤sizeLine:=by
 rcases h with h | ⟨o,its,n,hk,hc,hd,hs,hz,r⟩
 ·obtain⟨z,its,n,r,e⟩:=h.ok I.hok
  exact⟨its,r,⟨_,n,e,rfl,rfl,rfl⟩,z⟩
 ·refine⟨its.toList,r,⟨o,n,I.kIn a o hk,hc,hd,by simpa using hs⟩,?_⟩
  have e:=r.length
  simp only[Array.length_toList] at e
  lia
theorem Inv.tuple (I:Inv X pins σ H s) (h:SqT X.K H a xs):∃ its:List Value,Vals xs its∧IsTup s.heap a its.toArray∧xs.length≤sizeLine:=by
 rcases h with h | ⟨o,its,n,hk,hc,hd,hs,hz,r⟩
 ·obtain⟨z,its,r,p⟩:=h.ok I.hok
  exact⟨its,r,p.t,z⟩
 ·refine⟨its.toList,r,⟨o,I.kIn a o hk,hc,n,by simpa using hs⟩,?_⟩
  have e:=r.length
  simp only[Array.length_toList] at e
  lia
theorem Inv.tuple0 (I:Inv X pins σ H s) (h:SqT X.K H a xs):∃ its:List Value,Vals xs its∧a3E s.heap a its.toArray∧xs.length≤sizeLine:=by
 rcases h with h | ⟨o,its,n,hk,hc,hd,hs,hz,r⟩
 ·obtain⟨z,its,r,p⟩:=h.ok I.hok
  exact⟨its,r,p,z⟩
 ·refine⟨its.toList,r,⟨o,I.kIn a o hk,hc,hd,n,by simpa using hs⟩,?_⟩
  have e:=r.length
  simp only[Array.length_toList] at e
  lia
theorem Inv.list_inj (I:Inv X pins σ H s) (h:SqL X.K H a xs) (h':SqL X.K H a ys):xs=ys:=by
 obtain⟨its,r,⟨o,n,e,_,_,d⟩,_⟩:=I.list h
 obtain⟨its',r',⟨o',n',e',_,_,d'⟩,_⟩:=I.list h'
 rw[e] at e';cases e'
 rw[d] at d'
 injection d' with d1 _
 have:its=its':=by simpa using congrArg Array.toList d1
 subst this
 exact r.inj r'
theorem Inv.tuple_inj (I:Inv X pins σ H s) (h:SqT X.K H a xs) (h':SqT X.K H a ys):xs=ys:=by
 obtain⟨its,r,⟨o,e,_,n,d⟩,_⟩:=I.tuple h
 obtain⟨its',r',⟨o',e',_,n',d'⟩,_⟩:=I.tuple h'
 rw[e] at e';cases e'
 rw[d] at d'
 injection d' with d1 _
 have:its=its':=by simpa using congrArg Array.toList d1
 subst this
 exact r.inj r'
end
noncomputable abbrev Cx.wish (X:Cx) (E:Value→Shared→Prop):Cx:={ X with xe:=E }
noncomputable abbrev Cx.nox (X:Cx):Cx:=X.wish fun _ _=>False
theorem Cx.Ok.wish {X:Cx} (ok:X.Ok) (E:Value→Shared→Prop):(X.wish E).Ok :=
 ⟨ok.mod,ok.kind,ok.glob,ok.blt,ok.above,ok.inj,ok.has,ok.cab,ok.hd,ok.frames,ok.stk,ok.exf,ok.bs,ok.bsz,ok.noex,ok.exfs,ok.funs,ok.frf⟩
theorem Cx.Ok.unwish {X:Cx} {E:Value→Shared→Prop} (ok:(X.wish E).Ok):X.Ok :=
 ⟨ok.mod,ok.kind,ok.glob,ok.blt,ok.above,ok.inj,ok.has,ok.cab,ok.hd,ok.frames,ok.stk,ok.exf,ok.bs,ok.bsz,ok.noex,ok.exfs,ok.funs,ok.frf⟩
section
variable {X:Cx} {pins:List (Addr × Obj)} {σ:St} {H:Hp} {s:Shared} {E:Value→Shared→Prop}
theorem Inv.wish (I:Inv X pins σ H s) (E:Value→Shared→Prop):Inv (X.wish E) pins σ H s:=⟨I.ok.wish E,I.os,I.bare,I.base,I.loc,I.cell,I.free,I.freeC,I.pin,I.hok,I.len⟩
theorem Inv.unwish (I:Inv (X.wish E) pins σ H s):Inv X pins σ H s:=⟨I.ok.unwish,I.os,I.bare,I.base,I.loc,I.cell,I.free,I.freeC,I.pin,I.hok,I.len⟩
theorem SP.unwish {D:Ends} {f:Flow} {s':Shared} (h:SP (X.wish E) pins D f s'):SP X pins D f s':=by
 cases f with
 | next=>obtain⟨σ',H',I,q⟩:=h;exact⟨σ',H',I.unwish,q⟩
 | brk=>obtain⟨σ',H',I,q⟩:=h;exact⟨σ',H',I.unwish,q⟩
 | cont=>obtain⟨σ',H',I,q⟩:=h;exact⟨σ',H',I.unwish,q⟩
 | ret u=>obtain⟨v,σ',H',I,r,q⟩:=h;exact⟨v,σ',H',I.unwish,r,q⟩
theorem PSs.nox {st:List Stmt} {t:TS} (h:PSs X.nox st t):PSs X st t:=fun pins s σ H D I hw =>
 wpAny_mono (h pins s σ H D (I.wish _) hw) (fun _ _ q=>q.unwish) fun _ _ z=>False.elim z
end
section
variable {X:Cx} {st:Stmt} {rest:List Stmt} {t u:TS} {e:Expr} {te:TE} {pos:Pos}
noncomputable def c0Z:TS:=fun D σ H=>D.nx σ H
noncomputable def tSeq (t u:TS):TS:=fun D σ H=>t { D with nx:=u D } σ H
theorem b8b:PSs X [] c0Z:=fun _ _ σ H _ I h=>wpAny_execs_nil ⟨σ,H,I,h⟩
theorem b5K (h1:PS X st t) (h2:PSs X rest u):PSs X (st :: rest) (tSeq t u):=by
 intro pins s σ H D I h
 refine wpAny_execs_cons (thn (h1 pins s σ H { D with nx:=u D } I h) fun f s1 q=>?_)
 cases f with
 | next =>
   obtain⟨σ',H',I',q⟩:=q
   exact h2 pins s1 σ' H' D I' q
 | ret v=>exact q
 | brk=>exact q
 | cont=>exact q
theorem b8a (h1:PS X st t):PSs X [st] t:=by
 intro pins s σ H D I h
 refine wpAny_execs_cons (thn (h1 pins s σ H D I h) fun f s1 q=>?_)
 cases f with
 | next=>exact wpAny_execs_nil q
 | ret v=>exact q
 | brk=>exact q
 | cont=>exact q
theorem Inv.quiet {pins:List (Addr × Obj)} {σ:St} {H:Hp} {s:Shared} (I:Inv X pins σ H s):interactive X.env=false:=by simp [interactive,I.ok.kind]
noncomputable def c1a (te:TE):TS:=fun D σ H=>te σ H fun _ H1=>D.nx σ H1
theorem b8d (he:PE X e te) (hs:swapsWith e none pos.line X.env=pure false:=by rfl):PS X (.Expr e pos) (c1a te):=by
 intro pins s σ H D I h
 exact wpAny_Expr_any (thn (he pins s σ H _ I h) fun v s1 ⟨x,H1,I1,r1,q1⟩=>⟨σ,H1,I1,q1⟩) I.quiet hs
noncomputable def tRet (te:TE):TS:=fun D σ H=>te σ H D.rt
theorem b9Q (he:PE X e te):PS X (.Return (some e) pos) (tRet te):=by
 intro pins s σ H D I h
 exact wpAny_Return_some (thn (he pins s σ H _ I h) fun v s1 ⟨x,H1,I1,r1,q1⟩=>⟨x,σ,H1,I1,r1,q1⟩)
noncomputable def tIfS (c:TT) (t u:TS):TS:=fun D σ H=>c σ H fun b H1=>if b=true then t D σ H1 else u D σ H1
theorem c1r {c:Expr} {a b:List Stmt} {tc:TT} (hc:PT X c tc) (ha:PSs X a t) (hb:PSs X b u):PS X (.If c a b pos) (tIfS tc t u):=by
 intro pins s σ H D I h
 refine wpAny_If (thn (hc pins s σ H _ I h) fun d s1 ⟨H1,I1,q1⟩=>?_)
 cases d with
 | true=>exact ha pins s1 σ H1 D I1 q1
 | false=>exact hb pins s1 σ H1 D I1 q1
end
noncomputable abbrev TG:=V→St→Hp→(St→Hp→Prop)→Prop
noncomputable abbrev TGs:=List V→St→Hp→(St→Hp→Prop)→Prop
noncomputable def PG (X:Cx) (target:Expr) (t:TG):Prop :=
 ∀ (pins:List (Addr × Obj)) (s:Shared) (σ:St) (H:Hp) (v:V) (u:Value) (Q:St→Hp→Prop),Inv X pins σ H s→RelV v u→t v σ H Q →
   wpAny (model X.prog X.w) X.A (assign target X.env u) (fun _ s'=>∃ σ' H',Inv X pins σ' H' s'∧Q σ' H') X.xe s
noncomputable def PGs (X:Cx) (ts:List Expr) (t:TGs):Prop :=
 ∀ (pins:List (Addr × Obj)) (s:Shared) (σ:St) (H:Hp) (vs:List V) (us:List Value) (Q:St→Hp→Prop),Inv X pins σ H s→Vals vs us→t vs σ H Q →
   wpAny (model X.prog X.w) X.A (assignInOrder ((assignEach ts X.env).map (·.2)) us) (fun _ s'=>∃ σ' H',Inv X pins σ' H' s'∧Q σ' H') X.xe s
noncomputable abbrev TSet:=V→V→V→Hp→(Hp→Prop)→Prop
noncomputable def PSet (X:Cx) (t:TSet):Prop :=
 ∀ (pins:List (Addr × Obj)) (s:Shared) (σ:St) (H:Hp) (o i v:V) (ov iv u:Value) (Q:Hp→Prop),Inv X pins σ H s→RelV o ov→RelV i iv→RelV v u→t o i v H Q →
   wpAny (model X.prog X.w) X.A (setItem ov iv u) (fun _ s'=>∃ H',Inv X pins σ H' s'∧Q H') X.xe s
noncomputable abbrev TIp:=V→V→Hp→VK→Prop
noncomputable def PIp (X:Cx) (op:Operator) (t:TIp):Prop :=
 ∀ (pins:List (Addr × Obj)) (s:Shared) (σ:St) (H:Hp) (x y:V) (v u:Value) (Q:VK),Inv X pins σ H s→RelV x v→RelV y u→t x y H Q →
   wpAny (model X.prog X.w) X.A (inplaceOp op v u) (EP X pins σ Q) X.xe s
section
variable {X:Cx} {pos:Pos}
noncomputable def b0b (i:Nat):TG:=fun v σ H Q=>Q (σ.set i (some v)) H
theorem a1C {i:Nat} {x:Str} (hN:X.N.Nodup) (hi:X.N[i]?=some x) (hx:Loc X.env.scope x) (hf:X.fn x=true∨X.env.scope.names.lookup x=some .local:=by first | exact .inl rfl | exact .inr rfl | assumption):PG X (.Name x pos) (b0b i):=by
 intro pins s σ H v u Q I r h
 exact wpAny_assign_Name (b1H I hN hi hx r (fun s' I'=>⟨_,H,I',h⟩) hf)
noncomputable def gNil:TGs:=fun vs σ H Q=>vs=[]∧Q σ H
noncomputable def b6r (t:TG) (u:TGs):TGs:=fun vs σ H Q=>∃ v r,vs=v :: r∧t v σ H fun σ' H'=>u r σ' H' Q
theorem a8w:PGs X [] gNil:=by
 intro pins s σ H vs us Q I r h
 obtain⟨e,h⟩:=h
 subst e
 cases r
 exact assignInOrder_nil ⟨σ,H,I,h⟩
theorem a4n {e:Expr} {es:List Expr} {t:TG} {u:TGs} (h1:PG X e t) (h2:PGs X es u)
  (hs:(assignEach (e :: es) X.env).map (·.2)=assign e X.env :: (assignEach es X.env).map (·.2):=by rfl):PGs X (e :: es) (b6r t u):=by
 intro pins s σ H vs us Q I r h
 obtain⟨v,vr,e1,h⟩:=h
 subst e1
 cases r with
 | cons r rr =>
   rw[hs]
   refine assignInOrder_cons (thn (h1 pins s σ H _ _ _ I r h) fun _ s1 ⟨σ1,H1,I1,q1⟩=>?_)
   exact h2 pins s1 σ1 H1 _ _ Q I1 rr q1
noncomputable def gTup (K:PySem.W.Frag) (n:Nat) (t:TGs):TG:=fun v σ H Q=>∃ a xs,v=.ref a∧SqT K H a xs∧xs.length=n∧t xs σ H Q
theorem b1P {es:List Expr} {k:Nat} {t:TGs} {n:Nat} (hc:X.calm=true) (h:PGs X es t)
  (hn:(assignEach es X.env).length=n:=by rfl) (hst:(assignEach es X.env).findIdx? (·.1)=none:=by rfl):PG X (.Tuple es k pos) (gTup X.K n t):=by
 intro pins s σ H v u Q I r hw
 obtain⟨a,xs,e1,hq,hl,hw⟩:=hw
 subst e1
 cases r
 obtain⟨its,rv,ht,hz⟩:=I.tuple hq
 refine assign_Tuple_tuple (I.ok.hd hc) ht (by simp [hn,← hl,rv.length]) hst fun h' hx=>?_
 have I1:Inv X pins σ H { s with heap:=h' }:=I.kept (t':=s.toks) fun b o e=>hx b o (Nat.ne_of_lt (Heap.lt_size e)) e
 exact h pins _ σ H xs _ Q I1 (by simpa using rv) hw
noncomputable def gSub (to ti:TE) (t:TSet):TG:=fun v σ H Q=>to σ H fun o H1=>ti σ H1 fun i H2=>t o i v H2 fun H3=>Q σ H3
theorem b9V {o i:Expr} {to ti:TE} {t:TSet} (ho:PE X o to) (hi:PE X i ti) (hs:PSet X t)
  (ha:∀ v,assign (.Subscript o i pos) X.env v=(do
   let ov ← holding [v] (eval o X.env)
   let iv ← holding [v,ov] (eval i X.env)
   standAt pos
   holding [v,ov,iv] (setItem ov iv v)
   release [v,ov,iv] []):=by intro _;rfl):PG X (.Subscript o i pos) (gSub to ti t):=by
 intro pins s σ H v u Q I r h
 rw[ha]
 refine wpAny_bind (wpAny_holding (thn (ho pins s σ H _ I h) fun ov s1 ⟨x,H1,I1,r1,q1⟩=>?_))
 refine wpAny_bind (wpAny_holding (thn (hi pins s1 σ H1 _ I1 q1) fun iv s2 ⟨y,H2,I2,r2,q2⟩=>?_))
 refine wpAny_bind (wpAny_standAt (wpAny_bind (wpAny_holding (thn (hs pins s2 σ H2 x y v ov iv u _ I2 r1 r2 r q2) fun _ s3 ⟨H3,I3,q3⟩=>?_))))
 exact wpAny_release ⟨σ,H3,I3,q3⟩
noncomputable def tAsg (te:TE) (g:TG):TS:=fun D σ H=>te σ H fun x H1=>g x σ H1 D.nx
theorem b9S {tg e:Expr} {te:TE} {g:TG} (he:PE X e te) (hg:PG X tg g) (hs:swapsWithSole [tg] e pos.line X.env=pure false:=by rfl) (hw:swappedStores [tg] e X.env=pure none:=by rfl)
  (h1:(assignEach [tg] X.env).map (·.2)=[assign tg X.env]:=by rfl):PS X (.Assign [tg] e pos) (tAsg te g):=by
 intro pins s σ H D I h
 refine wpAny_Assign_stores (thn (he pins s σ H _ I h) fun v s1 ⟨x,H1,I1,r1,q1⟩=>?_) hs hw
 rw[h1]
 exact thn (hg pins s1 σ H1 x v _ I1 r1 q1) fun _ s2 q=>q
theorem b9P {i:Nat} {x:Str} {e:Expr} {te:TE} {pos':Pos} (hN:X.N.Nodup) (hi:X.N[i]?=some x) (hx:Loc X.env.scope x) (he:PE X e te) (hs:swapsWith e (some (.Name x pos')) pos.line X.env=pure false:=by rfl) (hf:X.fn x=true∨X.env.scope.names.lookup x=some .local:=by first | exact .inl rfl | exact .inr rfl | assumption) :
  PS X (.Assign [.Name x pos'] e pos) (tAsg te (b0b i)):=by
 intro pins s σ H D I h
 refine wpAny_Assign_Name (thn (he pins s σ H _ I h) fun v s1 ⟨y,H1,I1,r1,q1⟩=>?_) hs
 exact b1H I1 hN hi hx r1 (fun s2 I2=>⟨_,H1,I2,q1⟩) hf
noncomputable def ipI (f:Int→Int→Int):TIp:=fun x y H Q=>∃ i j,x=.int i∧y=.int j∧Q (.int (f i j)) H
theorem c0A:PIp X .Add (ipI fun i j=>i+j):=by
 intro pins s σ H x y v u Q I r1 r2 h
 obtain⟨i,j,e1,e2,q⟩:=h
 subst e1;subst e2
 obtain⟨t,rfl⟩:=r1
 obtain⟨t',rfl⟩:=r2
 exact iadd_int ⟨.int _,H,I.tok _,⟨_,rfl⟩,q⟩
end
section
variable {X:Cx} {pos:Pos}
end
structure It where
 go:Nat→Hp→Prop
 yld:Nat→Hp→V→Hp→Prop
 stop:Nat→Hp→Prop
noncomputable def FpOk (X:Cx) (pins:List (Addr × Obj)) (H:Hp) (b:Addr):Prop :=
 H b=none∧b≠X.env.locals∧b ∉ X.fs∧(b∈X.ex∨X.s₀.heap.objs.size≤b)∧(∀ x c,X.env.cells.lookup x=some c→c≠b)∧∀ p∈X.pn++pins,p.1≠b
theorem Inv.fpOk {X:Cx} {pins:List (Addr × Obj)} {σ:St} {H H':Hp} {s:Shared} {b:Addr} (I:Inv X pins σ H s) (hb:s.heap.objs.size≤b) (hn:H' b=none):FpOk X pins H' b:=by
 refine⟨hn,Nat.ne_of_gt (Nat.lt_of_lt_of_le I.lt hb),I.nofs hb,.inr (Nat.le_trans I.sz hb),fun x c e z=>?_,fun p hp z=>?_⟩
 ·obtain⟨v,q⟩:=I.cell x c e
  exact absurd (Nat.lt_of_lt_of_le q.lt (by rw[z];exact hb)) (Nat.lt_irrefl _)
 ·exact absurd (Nat.lt_of_lt_of_le (Heap.lt_size (I.pin p hp).1) (by rw[z];exact hb)) (Nat.lt_irrefl _)
structure Turn (P:Program) (w:World) (K:PySem.W.Frag) (tg:Expr) (J:It) (fp:List Addr) (it:Addr) (tn:Nat→Heap→Prop):Prop where
 mem:it∈fp
 obj:∀ i h,tn i h→∀ b∈fp,∃ o,h.get? b=some o∧∀ v,o.data≠.cell v
 keep:∀ i h h',tn i h→(∀ b∈fp,∀ o,h.get? b=some o→h'.get? b=some o)→tn i h'
 item:∀ (X:Cx),X.prog=P→X.w=w→X.K=K→X.calm=true→∀ (i:Nat) (pins:List (Addr × Obj)) (s:Shared) (σ:St) (H:Hp) (E:Value→Shared→Prop),Inv X pins σ H s→(∀ b∈fp,FpOk X pins H b)→tn i s.heap→J.go i H →
  wpAny (model P w) X.A (pyNext (.ref it)) (fun r s1=>∃ u,r=some u ∧
   wpAny (model P w) X.A (letOwnedTupleGo tg (.ref it) u) (fun _ s2=>∃ x H',Inv X pins σ H' s2∧RelV x u∧J.yld i H x H'∧tn (i+1) s2.heap∧∀ b∈fp,H' b=none) E s1) E s
 done:∀ (X:Cx),X.prog=P→X.w=w→X.K=K→X.calm=true→∀ (i:Nat) (pins:List (Addr × Obj)) (s:Shared) (σ:St) (H:Hp) (E:Value→Shared→Prop),Inv X pins σ H s→(∀ b∈fp,FpOk X pins H b)→tn i s.heap→J.stop i H →
  wpAny (model P w) X.A (pyNext (.ref it)) (fun r s1=>r=none∧Inv X pins σ H s1) E s
 self:∀ (A:Around) (i:Nat) (s:Shared) (Q:Value→Shared→Prop) (E:Value→Shared→Prop),tn i s.heap→Q (.ref it) s→wpAny (model P w) A (pyIter (.ref it)) Q E s
noncomputable abbrev TI:=St→Hp→(It→Hp→Prop)→Prop
noncomputable def PIE (X:Cx) (pins:List (Addr × Obj)) (σ:St) (tg:Expr) (R:It→Hp→Prop) (itv:Value) (s2:Shared):Prop :=
 ∃ (it:Addr) (fp:List Addr) (tn:Nat→Heap→Prop) (J:It) (H':Hp),itv=.ref it∧Inv X pins σ H' s2∧Turn X.prog X.w X.K tg J fp it tn∧tn 0 s2.heap∧(∀ b∈fp,FpOk X pins H' b)∧R J H'
noncomputable def PI (X:Cx) (tg iter:Expr) (wi:TI):Prop :=
 ∀ (pins:List (Addr × Obj)) (s:Shared) (σ:St) (H:Hp) (R:It→Hp→Prop),Inv X pins σ H s→wi σ H R →
   wpAny (model X.prog X.w) X.A (eval iter X.env) (fun v s1=>wpAny (model X.prog X.w) X.A (pyIter v) (PIE X pins σ tg R) X.xe s1) X.xe s
theorem b6o {M:Model} {A:Around} {E:Value→Shared→Prop} {s:Shared} {tg:Expr} {it:Addr} {u:Value} {o:Obj} {n:String} {vs:Array Value} {Q:Unit→Shared→Prop} (ho:s.heap.get? it=some o) (hc:o.cls=.type n) (hd:o.data=.fields vs)
  (hn:["enumerate","zip","dict_itemiterator","dict_reverseitemiterator","odict_iterator","itertools.zip_longest","itertools.pairwise"].contains n=false) (hQ:Q () s):wpAny M A (letOwnedTupleGo tg (.ref it) u) Q E s:=by
 unfold letOwnedTupleGo
 cases tg<;>first
  | exact wpAny_pure hQ
  | (cases u<;>first
    | exact wpAny_pure hQ
    | (refine wpAny_bind (wpAny_load ho ?_)
       rw[hc,hd]
       show wpAny M A (if (["enumerate","zip","dict_itemiterator","dict_reverseitemiterator","odict_iterator","itertools.zip_longest","itertools.pairwise"].contains n && vs[0]? == some (rawInt _))=true then _ else _) Q E s
       rw[if_neg (by intro h;rw[hn,Bool.false_and] at h;cases h)]
       exact wpAny_pure hQ))
noncomputable def Itl (K:PySem.W.Frag) (a:Addr):It :=
 ⟨fun i H=>∃ xs x,SqL K H a xs∧xs[i]?=some x,fun i H x H'=>H'=H∧∀ xs,SqL K H a xs→xs[i]?=some x,fun i H=>∃ xs,SqL K H a xs∧xs.length≤i⟩
noncomputable def Itt (K:PySem.W.Frag) (a:Addr):It :=
 ⟨fun i H=>∃ xs x,SqT K H a xs∧xs[i]?=some x,fun i H x H'=>H'=H∧∀ xs,SqT K H a xs→xs[i]?=some x,fun i H=>∃ xs,SqT K H a xs∧xs.length≤i⟩
noncomputable def Itr (lo:Int) (n:Nat):It:=⟨fun i _=>i < n,fun i H x H'=>H'=H∧x=.int (lo+i),fun i _=>n≤i⟩
theorem b3p {P:Program} {w:World} {K:PySem.W.Frag} {tg:Expr} (a it:Addr):Turn P w K tg (Itl K a) [it] it (fun i h=>h.IsListIter it a i) where
 mem:=by simp
 obj:=fun i h st b hb=>by
  have e:b=it:=by simpa using hb
  subst e
  obtain⟨o,e,c,d⟩:=st
  exact⟨o,e,fun v z=>by rw[d] at z;cases z⟩
 keep:=fun i h h' st k=>st.at fun o e=>k it (by simp) o e
 item:=by
  intro X hP hw hK hc i pins s σ H E I hf st hg
  subst hP hw hK
  obtain⟨xs,x,hq,hx⟩:=hg
  obtain⟨its,rv,p,hz⟩:=I.list hq
  obtain⟨u,hu,ru⟩:=rv.get hx
  obtain⟨f0,f1,f2,f3,f4,f5⟩:=hf it (by simp)
  refine wpAny_pyNext_list_item st p.isList (x:=u) (by simpa using hu) fun h' st' sb=>?_
  have I1:Inv X pins σ H { s with heap:=h' }:=I.turned (t':=s.toks) (fun b o hb e=>(sb.2 b hb).trans e) f0 f1 f3 f4 f5
  obtain⟨o,e,c,d⟩:=id st'
  exact⟨u,rfl,b6o (s:={ s with heap:=h' }) e c d (by decide) ⟨x,H,I1,ru,⟨rfl,fun ys hy=>by rw[I.list_inj hy hq];exact hx⟩,st',fun b hb=>(hf b hb).1⟩⟩
 done:=by
  intro X hP hw hK hc i pins s σ H E I hf st hg
  subst hP hw hK
  obtain⟨xs,hq,hx⟩:=hg
  obtain⟨its,rv,p,hz⟩:=I.list hq
  obtain⟨f0,f1,f2,f3,f4,f5⟩:=hf it (by simp)
  have hl:=rv.length
  exact wpAny_pyNext_list_end (I.ok.hd hc) st p.isList (by simp;lia) fun h' eb=>⟨rfl,I.turned (t':=s.toks) (fun b o hb e=>eb b o hb e) f0 f1 f3 f4 f5⟩
 self:=fun _ _ _ _ _ st h=>wpAny_pyIter_listiter st h
theorem b2q {P:Program} {w:World} {K:PySem.W.Frag} {tg:Expr} (a it:Addr):Turn P w K tg (Itt K a) [it] it (fun i h=>h.IsTupleIter it a i) where
 mem:=by simp
 obj:=fun i h st b hb=>by
  have e:b=it:=by simpa using hb
  subst e
  obtain⟨o,e,c,d⟩:=st
  exact⟨o,e,fun v z=>by rw[d] at z;cases z⟩
 keep:=fun i h h' st k=>st.at fun o e=>k it (by simp) o e
 item:=by
  intro X hP hw hK hc i pins s σ H E I hf st hg
  subst hP hw hK
  obtain⟨xs,x,hq,hx⟩:=hg
  obtain⟨its,rv,p,hz⟩:=I.tuple hq
  obtain⟨u,hu,ru⟩:=rv.get hx
  obtain⟨f0,f1,f2,f3,f4,f5⟩:=hf it (by simp)
  refine wpAny_pyNext_tuple_item st (show s.heap.IsTuple a its.toArray from p) (x:=u) (by simpa using hu) fun h' st' sb=>?_
  have I1:Inv X pins σ H { s with heap:=h' }:=I.turned (t':=s.toks) (fun b o hb e=>(sb.2 b hb).trans e) f0 f1 f3 f4 f5
  obtain⟨o,e,c,d⟩:=id st'
  exact⟨u,rfl,b6o (s:={ s with heap:=h' }) e c d (by decide) ⟨x,H,I1,ru,⟨rfl,fun ys hy=>by rw[I.tuple_inj hy hq];exact hx⟩,st',fun b hb=>(hf b hb).1⟩⟩
 done:=by
  intro X hP hw hK hc i pins s σ H E I hf st hg
  subst hP hw hK
  obtain⟨xs,hq,hx⟩:=hg
  obtain⟨its,rv,p,hz⟩:=I.tuple hq
  obtain⟨f0,f1,f2,f3,f4,f5⟩:=hf it (by simp)
  have hl:=rv.length
  exact wpAny_pyNext_tuple_end (I.ok.hd hc) st (show s.heap.IsTuple a its.toArray from p) (by simp;lia) fun h' eb=>⟨rfl,I.turned (t':=s.toks) (fun b o hb e=>eb b o hb e) f0 f1 f3 f4 f5⟩
 self:=fun _ _ _ _ _ st h=>wpAny_pyIter_tupleiter st h
theorem b2r {P:Program} {w:World} {K:PySem.W.Frag} {tg:Expr} (it:Addr) (lo:Int) (n:Nat):Turn P w K tg (Itr lo n) [it] it (fun i h=>IsRangeIter h it (lo+(i:Nat)*1) ((n:Int) - (i:Nat)) 1) where
 mem:=by simp
 obj:=fun i h st b hb=>by
  have e:b=it:=by simpa using hb
  subst e
  exact⟨_,st,fun v z=>by
   have z':Data.fields _=Data.cell v:=z
   cases z'⟩
 keep:=fun i h h' st k=>k it (by simp) _ st
 item:=by
  intro X hP hw hK hc i pins s σ H E I hf st hg
  subst hP hw hK
  obtain⟨f0,f1,f2,f3,f4,f5⟩:=hf it (by simp)
  have W:=Walks.range (prog:=X.prog) (w:=X.w) (I.ok.hd hc) it lo 1 n
  refine W.item i s _ _ hg st fun v h' tk hv st' kk=>?_
  obtain⟨t,rfl⟩:=hv
  have I1:Inv X pins σ H { s with heap:=h',toks:=tk }:=I.turned (fun b o hb e=>kk b o (by simpa using hb) e) f0 f1 f3 f4 f5
  refine⟨_,rfl,b6o (s:={ s with heap:=h',toks:=tk }) (n:="range_iterator") st' rfl rfl (by decide) ⟨.int (lo+i),H,I1,⟨t,?_⟩,⟨rfl,rfl⟩,st',fun b hb=>(hf b hb).1⟩⟩
  rw[Int.mul_one]
 done:=by
  intro X hP hw hK hc i pins s σ H E I hf st hg
  subst hP hw hK
  obtain⟨f0,f1,f2,f3,f4,f5⟩:=hf it (by simp)
  exact wpAny_pyNext_range_end (I.ok.hd hc) st (by have:n≤i:=hg;lia) fun h' eb=>⟨rfl,I.turned (t':=s.toks) (fun b o hb e=>eb b o hb e) f0 f1 f3 f4 f5⟩
 self:=fun _ _ _ _ _ st h=>wpAny_pyIter_rangeiter st h
section
variable {X:Cx} {tg:Expr}
theorem b1M {pins:List (Addr × Obj)} {σ:St} {H:Hp} {s:Shared} {R:It→Hp→Prop} {E:Value→Shared→Prop} {lo hi:Int} {t u v:Tok} {tk:Nat} (I:Inv X pins σ H s) (h1:-(2 ^ 62)≤lo) (h2:lo < 2 ^ 62) (h3:-(2 ^ 62)≤hi) (h4:hi < 2 ^ 62)
  (q:R (Itr lo (hi - lo).toNat) H):wpAny (model X.prog X.w) X.A (pyIter (.ref s.heap.objs.size)) (PIE X pins σ tg R) E { s with heap:=s.heap.push { cls:=.type "range",data:=.fields #[.int lo t,.int hi u,.int 1 v] },toks:=tk }:=by
 refine wpAny_pyIter_range (IsRange.new ..) (small_one h1 h2 h3 h4) ?_
 have I1:Inv X pins σ H { s with heap:=s.heap.push { cls:=.type "range",data:=.fields #[.int lo t,.int hi u,.int 1 v] },toks:=tk }:=I.kept fun b o e=>Heap.get?_push_of_some _ e
 refine⟨(s.heap.push { cls:=.type "range",data:=.fields #[.int lo t,.int hi u,.int 1 v] }).objs.size,[(s.heap.push { cls:=.type "range",data:=.fields #[.int lo t,.int hi u,.int 1 v] }).objs.size],_,_,H,rfl,
  I1.kept (t':=tk) fun b o e=>Heap.get?_push_of_some _ e,b2r _ lo (hi - lo).toNat,?_,fun b hb=>?_,q⟩
 ·have e1:lo+((0:Nat):Int)*1=lo:=by simp
  have e2:(((hi - lo).toNat:Nat):Int) - ((0:Nat):Int)=Builtin.Range.rangeSize lo hi 1:=by rw[rangeSize_one];split<;>lia
  show IsRangeIter _ _ (lo+((0:Nat):Int)*1) ((((hi - lo).toNat:Nat):Int) - ((0:Nat):Int)) 1
  rw[e1,e2]
  exact Heap.get?_push_size _ rfl
 ·have e:b=(s.heap.push { cls:=.type "range",data:=.fields #[.int lo t,.int hi u,.int 1 v] }).objs.size:=by simpa using hb
  subst e
  exact I1.fpOk (Nat.le_refl _) (I1.hok.fresh (Nat.le_refl _))
noncomputable def c1N (ta:TA):TI:=fun σ H R=>ta σ H fun vs H1=>∃ j:Int,vs=[.int j]∧-(2 ^ 62)≤j∧j < 2 ^ 62∧R (Itr 0 j.toNat) H1
noncomputable def c1M (ta:TA):TI:=fun σ H R=>ta σ H fun vs H1=>∃ i j:Int,vs=[.int i,.int j]∧(-(2 ^ 62)≤i∧i < 2 ^ 62∧-(2 ^ 62)≤j∧j < 2 ^ 62)∧R (Itr i (j - i).toNat) H1
theorem b3X {a:Expr} {ta:TA} {p pos:Pos} (hg:Gl X "range") (hm:X.mg "range"=none) (ha:PA X [a] ta) (hs:starEach [a] X.env=[(false,eval a X.env)]:=by rfl):PI X tg (.Call (.Name "range" p) [a] [] pos) (c1N ta):=by
 intro pins s σ H R I h
 refine Call_ (a6w I hg hm boot_range (PyProof.Rows.callWith_type1 (thn (ha pos pins s σ H _ I h) fun us s1 ⟨vs,H1,I1,r1,q1⟩=>?_) hs rfl))
 obtain⟨j,e,q1,q2,q⟩:=q1
 subst e
 cases r1 with
 | cons r rr =>
   cases rr
   obtain⟨t,rfl⟩:=r
   exact call_range_1 (b1M I1 (by lia) (by lia) q1 q2 (by simpa using q))
theorem b3W {a b:Expr} {ta:TA} {p pos:Pos} (hg:Gl X "range") (hm:X.mg "range"=none) (ha:PA X [a,b] ta) (hs:starEach [a,b] X.env=[(false,eval a X.env),(false,eval b X.env)]:=by rfl) (hs2:starEach [b] X.env=[(false,eval b X.env)]:=by rfl) :
  PI X tg (.Call (.Name "range" p) [a,b] [] pos) (c1M ta):=by
 intro pins s σ H R I h
 refine Call_ (a6w I hg hm boot_range (PyProof.Rows.callWith_type1 (thn (ha pos pins s σ H _ I h) fun us s1 ⟨vs,H1,I1,r1,q1⟩=>?_) (by rw[hs,hs2]) (by rw[hs2];rfl)))
 obtain⟨i,j,e,⟨q1,q2,q3,q4⟩,q⟩:=q1
 subst e
 cases r1 with
 | cons r rr =>
   cases rr with
   | cons r' rr =>
     cases rr
     obtain⟨t,rfl⟩:=r
     obtain⟨t',rfl⟩:=r'
     exact call_range_2 (b1M I1 q1 q2 q3 q4 q)
noncomputable def tFor (wi:TI) (g:TG) (tb:TS):TS:=fun D σ H=>wi σ H fun J H1=>∃ W:Nat→Nat→St→Hp→Prop,(∃ m,W 0 m σ H1)∧∀ i m σ H,W i m σ H →
 (J.stop i H∧D.nx σ H)∨(J.go i H∧∃ N:St→Hp→Prop,(∀ σ' H',N σ' H'→∃ m',m' < m∧W (i+1) m' σ' H')∧∀ x H',J.yld i H x H'→g x σ H' fun σ2 H2=>tb { D with nx:=N,ct:=N,bk:=D.nx } σ2 H2)
noncomputable def a7P (fp:List Addr) (h:Heap):List (Addr × Obj):=fp.filterMap fun b=>(h.get? b).map fun o=>(b,o)
theorem a4Y {fp:List Addr} {h:Heap} {b:Addr} {o:Obj} (hb:b∈fp) (e:h.get? b=some o):(b,o)∈a7P fp h:=List.mem_filterMap.mpr ⟨b,hb,by rw[e];rfl⟩
theorem b4i {fp:List Addr} {h:Heap} {p:Addr × Obj} (hp:p∈a7P fp h):p.1∈fp∧h.get? p.1=some p.2:=by
 obtain⟨b,hb,e⟩:=List.mem_filterMap.mp hp
 cases q:h.get? b with
 | none=>rw[q] at e;cases e
 | some o =>
   rw[q] at e
   have e':(b,o)=p:=Option.some.inj e
   subst e'
   exact⟨hb,q⟩
theorem Inv.pinned {pins:List (Addr × Obj)} {σ:St} {H:Hp} {s:Shared} {fp:List Addr} (I:Inv X pins σ H s) (hf:∀ b∈fp,FpOk X pins H b) (ho:∀ b∈fp,∃ o,s.heap.get? b=some o∧∀ v,o.data≠.cell v):Inv X (pins++a7P fp s.heap) σ H s :=
 I.pins_of fun p hp=>(List.mem_append.mp hp).elim (fun z=>I.pin p (List.mem_append_right _ z)) fun z=>by
  obtain⟨hb,e⟩:=b4i z
  obtain⟨f0,f1,f2,_⟩:=hf p.1 hb
  obtain⟨o,e',d⟩:=ho p.1 hb
  rw[e] at e';cases e'
  exact⟨e,f0,f1,f2,d⟩
theorem Inv.unpinned {pins pl:List (Addr × Obj)} {σ:St} {H:Hp} {s:Shared} (I:Inv X (pins++pl) σ H s):Inv X pins σ H s:=I.pins_of fun p hp=>I.pin p (List.mem_append_right _ (List.mem_append_left _ hp))
theorem b9R {iter:Expr} {body:List Stmt} {wi:TI} {g:TG} {tb:TS} {pos:Pos} (hp:PassesOwn (model X.prog X.w) X.A X.env X.xe) (hc:X.calm=true) (hi:PI X tg iter wi) (hg:PG X tg g) (hb:PSs X body tb)
  (hs:∀ x,foldedSetIterable iter X.env x=pure x:=by intro _;rfl):PS X (.For tg iter body [] pos) (tFor wi g tb):=by
 intro pins s σ H D I h
 refine wpAny_For (thn (hi pins s σ H _ I h) fun v s1 h1=>thn h1 fun itv s2 h2=>?_) hs
 obtain⟨it,fp,tn,J,H2,e,I2,T,st2,f2,W,⟨m0,w0⟩,turn⟩:=h2
 subst e
 -- what stays true of the iterator's objects through the loop
 have stat:∀ {H':Hp},(∀ b∈fp,H' b=none)→∀ b∈fp,FpOk X pins H' b:=fun hn b hb=>⟨hn b hb,(f2 b hb).2⟩
 refine codeAny_forLoop_any (fun n s'=>∃ i σ' H',Inv X pins σ' H' s'∧tn i s'.heap∧(∀ b∈fp,H' b=none)∧W i n σ' H') ?_ m0 ⟨0,σ,H2,I2,st2,fun b hb=>(f2 b hb).1,w0⟩
 rintro n s3 ⟨i,σ3,H3,I3,st3,fr3,w3⟩
 rcases turn i n σ3 H3 w3 with ⟨stop,qn⟩ | ⟨go,N,hN,step⟩
 ·refine wpAny_passesOwn hp (thn (T.done X rfl rfl rfl hc i pins s3 σ3 H3 X.xe I3 (stat fr3) st3 stop) fun r s4 ⟨hr,I4⟩=>?_)
  subst hr
  exact wpAny_execs_nil ⟨σ3,H3,I4,qn⟩
 ·refine wpAny_passesOwn hp (thn (T.item X rfl rfl rfl hc i pins s3 σ3 H3 X.xe I3 (stat fr3) st3 go) fun r s4 ⟨u,hr,h4⟩=>?_)
  subst hr
  refine wpAny_passesOwn hp (thn h4 fun _ s5 ⟨x,H5,I5,r5,y5,st5,fr5⟩=>?_)
  have I5':=I5.pinned (stat fr5) (T.obj _ _ st5)
  refine wpAny_passesOwn hp (thn (hg _ s5 σ3 H5 x u _ I5' r5 (step x H5 y5)) fun _ s6 ⟨σ6,H6,I6,q6⟩=>?_)
  refine wpAny_passesOwn hp (thn (hb _ s6 σ6 H6 _ I6 q6) fun f s7 q7=>?_)
  have again:∀ {σ7:St} {H7:Hp},Inv X (pins++a7P fp s5.heap) σ7 H7 s7→N σ7 H7→∃ m,m < n∧∃ i σ' H',Inv X pins σ' H' s7∧tn i s7.heap∧(∀ b∈fp,H' b=none)∧W i m σ' H':=fun {σ7 H7} I7 n7=>by
   obtain⟨m',hm,w7⟩:=hN σ7 H7 n7
   refine⟨m',hm,i+1,σ7,H7,I7.unpinned,T.keep _ _ _ st5 fun b hb o e=>(I7.pin (b,o) (List.mem_append_right _ (List.mem_append_right _ (a4Y hb e)))).1,fun b hb=>?_,w7⟩
   obtain⟨o,e,d⟩:=T.obj _ _ st5 b hb
   exact (I7.pin (b,o) (List.mem_append_right _ (List.mem_append_right _ (a4Y hb e)))).2.1
  cases f with
  | next=>obtain⟨σ7,H7,I7,n7⟩:=q7;exact again I7 n7
  | cont=>obtain⟨σ7,H7,I7,n7⟩:=q7;exact again I7 n7
  | brk=>obtain⟨σ7,H7,I7,q7⟩:=q7;exact⟨σ7,H7,I7.unpinned,q7⟩
  | ret v=>obtain⟨x7,σ7,H7,I7,r7,q7⟩:=q7;exact⟨x7,σ7,H7,I7.unpinned,r7,q7⟩
end
noncomputable abbrev R2:=V→V→Hp→VK→Prop
noncomputable def OpR (X:Cx) (f:Value→Value→Sem Value) (r:R2):Prop :=
 ∀ (pins:List (Addr × Obj)) (s:Shared) (σ:St) (H:Hp) (x y:V) (v u:Value) (Q:VK),Inv X pins σ H s→RelV x v→RelV y u→r x y H Q →
   wpAny (model X.prog X.w) X.A (f v u) (EP X pins σ Q) X.xe s
noncomputable def UnR (X:Cx) (f:Value→Sem Value) (r:V→Hp→VK→Prop):Prop :=
 ∀ (pins:List (Addr × Obj)) (s:Shared) (σ:St) (H:Hp) (x:V) (v:Value) (Q:VK),Inv X pins σ H s→RelV x v→r x H Q →
   wpAny (model X.prog X.w) X.A (f v) (EP X pins σ Q) X.xe s
noncomputable def a5V (X:Cx) (f:Value) (r:List V→Hp→VK→Prop):Prop :=
 ∀ (pins:List (Addr × Obj)) (s:Shared) (σ:St) (H:Hp) (xs:List V) (us:List Value) (Q:VK),Inv X pins σ H s→Vals xs us→r xs H Q →
   wpAny (model X.prog X.w) X.A (call f us) (EP X pins σ Q) X.xe s
noncomputable def TruR (X:Cx) (r:V→Hp→(Bool→Hp→Prop)→Prop):Prop :=
 ∀ (pins:List (Addr × Obj)) (s:Shared) (σ:St) (H:Hp) (x:V) (v:Value) (Q:Bool→Hp→Prop),Inv X pins σ H s→RelV x v→r x H Q →
   wpAny (model X.prog X.w) X.A (truthy v) (TP X pins σ Q) X.xe s
noncomputable def tOp (r:R2) (ta tb:TE):TE:=fun σ H Q=>ta σ H fun x H1=>tb σ H1 fun y H2=>r x y H2 Q
noncomputable def tUn (r:V→Hp→VK→Prop) (ta:TE):TE:=fun σ H Q=>ta σ H fun x H1=>r x H1 Q
noncomputable def rI (C:Int→Int→Prop) (g:Int→Int→V):R2:=fun x y H Q=>∃ i j,x=.int i∧y=.int j∧C i j∧Q (g i j) H
noncomputable def rI0 (g:Int→Int→V):R2:=fun x y H Q=>∃ i j,x=.int i∧y=.int j∧Q (g i j) H
noncomputable def rU (g:Int→V):V→Hp→VK→Prop:=fun x H Q=>∃ i,x=.int i∧Q (g i) H
section
variable {X:Cx} {a b c:Expr} {ta tb tc:TE} {pos:Pos}
theorem binT (ha:PE X a ta) (hb:PE X b tb) {pins:List (Addr × Obj)} {s:Shared} {σ:St} {H:Hp} {R:V→V→Hp→Prop} (I:Inv X pins σ H s)
  (h:ta σ H fun x H1=>tb σ H1 fun y H2=>R x y H2) {Q:Value→Shared→Prop} {f:Value→Value→Sem Value}
  (hf:∀ v u s2 x y H2,Inv X pins σ H2 s2→RelV x v→RelV y u→R x y H2→wpAny (model X.prog X.w) X.A (f v u) Q X.xe s2) :
  wpAny (model X.prog X.w) X.A (eval a X.env) (fun v s₁=>wpAny (model X.prog X.w) X.A (eval b X.env) (fun u s₂=>wpAny (model X.prog X.w) X.A (f v u) Q X.xe s₂) X.xe s₁) X.xe s:=by
 refine thn (ha pins s σ H _ I h) fun v s1 ⟨x,H1,I1,r1,q1⟩=>?_
 refine thn (hb pins s1 σ H1 _ I1 q1) fun u s2 ⟨y,H2,I2,r2,q2⟩=>?_
 exact hf v u s2 x y H2 I2 r1 r2 q2
theorem c1v {op:Operator} {r:R2} (ho:OpR X (binaryOp op) r) (ha:PE X a ta) (hb:PE X b tb):PE X (.BinOp a op b pos) (tOp r ta tb):=by
 intro pins s σ H Q I h
 exact wpAny_BinOp (binT ha hb I h fun v u s2 x y H2 I2 rx ry q=>ho pins s2 σ H2 x y v u Q I2 rx ry q)
theorem c1t {op:UnaryOp} {r:V→Hp→VK→Prop} (ho:UnR X (unaryOp op) r) (ha:PE X a ta):PE X (.UnaryOp op a pos) (tUn r ta):=by
 intro pins s σ H Q I h
 exact UnaryOp_ (thn (ha pins s σ H _ I h) fun v s1 ⟨x,H1,I1,r1,q1⟩=>ho pins s1 σ H1 x v Q I1 r1 q1)
theorem opI {f:Value→Value→Sem Value} {C:Int→Int→Prop} {g:Int→Int→Int}
  (rule:∀ (i j:Int) (t u:Tok) (s:Shared) (Q:Value→Shared→Prop) (E:Value→Shared→Prop),C i j→Q (.int (g i j) s.toks) { s with toks:=s.toks+1 }→wpAny (model X.prog X.w) X.A (f (.int i t) (.int j u)) Q E s) :
  OpR X f (rI C fun i j=>.int (g i j)):=by
 intro pins s σ H x y v u Q I rx ry h
 obtain⟨i,j,rfl,rfl,hc,q⟩:=h
 obtain⟨t,rfl⟩:=rx
 obtain⟨t',rfl⟩:=ry
 exact rule i j t t' s _ _ hc ⟨.int (g i j),H,I.tok _,⟨_,rfl⟩,q⟩
theorem opI0 {f:Value→Value→Sem Value} {g:Int→Int→Int}
  (rule:∀ (i j:Int) (t u:Tok) (s:Shared) (Q:Value→Shared→Prop) (E:Value→Shared→Prop),Q (.int (g i j) s.toks) { s with toks:=s.toks+1 }→wpAny (model X.prog X.w) X.A (f (.int i t) (.int j u)) Q E s) :
  OpR X f (rI0 fun i j=>.int (g i j)):=by
 intro pins s σ H x y v u Q I rx ry h
 obtain⟨i,j,rfl,rfl,q⟩:=h
 obtain⟨t,rfl⟩:=rx
 obtain⟨t',rfl⟩:=ry
 exact rule i j t t' s _ _ ⟨.int (g i j),H,I.tok _,⟨_,rfl⟩,q⟩
theorem opB0 {f:Value→Value→Sem Value} {g:Int→Int→Bool}
  (rule:∀ (i j:Int) (t u:Tok) (s:Shared) (Q:Value→Shared→Prop) (E:Value→Shared→Prop),Q (.bool (g i j)) s→wpAny (model X.prog X.w) X.A (f (.int i t) (.int j u)) Q E s) :
  OpR X f (rI0 fun i j=>.bl (g i j)):=by
 intro pins s σ H x y v u Q I rx ry h
 obtain⟨i,j,rfl,rfl,q⟩:=h
 obtain⟨t,rfl⟩:=rx
 obtain⟨t',rfl⟩:=ry
 exact rule i j t t' s _ _ ⟨.bl (g i j),H,I,rfl,q⟩
noncomputable def CPow (i j:Int):Prop:=0≤j∧j≤1000000∧i.natAbs < 2 ^ 64
noncomputable def CMul (i j:Int):Prop:=(-(2 ^ 64) < i∧i < 2 ^ 64)∨(-(2 ^ 64) < j∧j < 2 ^ 64)
theorem CMul.ok {i j:Int} (h:CMul i j):IntMulOk i j:=by
 rcases h with ⟨h1,h2⟩ | ⟨h1,h2⟩
 ·exact .of_left (intBits_le_64 h1 h2)
 ·exact .of_right (intBits_le_64 h1 h2)
theorem c0l:OpR X (binaryOp .Add) (rI0 fun i j=>.int (i+j)):=opI0 fun _ _ _ _ _ _ _ q=>add_int q
theorem c0e:OpR X (binaryOp .Sub) (rI0 fun i j=>.int (i - j)):=opI0 fun _ _ _ _ _ _ _ q=>sub_int q
theorem c0h:OpR X (binaryOp .Mult) (rI CMul fun i j=>.int (i*j)):=opI fun _ _ _ _ _ _ _ hc q=>mul_int q hc.ok
theorem c0i:OpR X (binaryOp .Mod) (rI (fun _ j=>0 < j) fun i j=>.int (i % j)):=opI fun i j _ _ _ _ _ hc q=>by
 have h1:(0:Int) < j:=hc
 exact mod_int' (by lia) (by rw[Int.fmod_eq_emod_of_nonneg i (by lia)];exact q)
theorem c0g:OpR X (binaryOp .Pow) (rI CPow fun i j=>.int (i ^ j.toNat)):=opI fun _ _ _ _ _ _ _ hc q=>pow_int_small hc.1 hc.2.1 hc.2.2 q
theorem unI {f:Value→Sem Value} {g:Int→Int}
  (rule:∀ (i:Int) (t:Tok) (s:Shared) (Q:Value→Shared→Prop) (E:Value→Shared→Prop),Q (.int (g i) s.toks) { s with toks:=s.toks+1 }→wpAny (model X.prog X.w) X.A (f (.int i t)) Q E s) :
  UnR X f (rU fun i=>.int (g i)):=by
 intro pins s σ H x v Q I rx h
 obtain⟨i,rfl,q⟩:=h
 obtain⟨t,rfl⟩:=rx
 exact rule i t s _ _ ⟨.int (g i),H,I.tok _,⟨_,rfl⟩,q⟩
theorem b9e:UnR X (unaryOp .USub) (rU fun i=>.int (-i)):=unI fun _ _ _ _ _ q=>neg_int q
end
section
variable {X:Cx} {a b c:Expr} {ta tb tc:TE} {pos:Pos}
theorem b7l {pins:List (Addr × Obj)} {σ:St} {H:Hp} {s:Shared} {Q:VK} {k k':Bool} (I:Inv X pins σ H s) (q:Q (.bl k) H) (e:k=k'):EP X pins σ Q (.bool k') s:=by
 subst e
 exact⟨.bl k,H,I,rfl,q⟩
theorem c1z:OpR X (compareOp .Lt) (rI0 fun i j=>.bl (decide (i < j))):=opB0 fun _ _ _ _ _ _ _ q=>lt_int q
theorem c1A:OpR X (compareOp .LtE) (rI0 fun i j=>.bl (decide (i≤j))):=opB0 fun _ _ _ _ _ _ _ q=>le_int q
theorem c1B:OpR X (compareOp .Gt) (rI0 fun i j=>.bl (decide (j < i))):=opB0 fun _ _ _ _ _ _ _ q=>gt_int q
theorem c1C:OpR X (compareOp .GtE) (rI0 fun i j=>.bl (decide (j≤i))):=opB0 fun _ _ _ _ _ _ _ q=>ge_int q
theorem c0j:OpR X (compareOp .Is) (fun x y H Q=>y=.non∧Q (.bl (decide (x=.non))) H):=by
 intro pins s σ H x y v u Q I rx ry h
 obtain⟨rfl,q⟩:=h
 cases ry
 refine is_none_gen (b7l I q ?_)
 cases x<;>first
  | (cases rx;rfl)
  | (obtain⟨t,rfl⟩:=rx;rfl)
theorem b8n:OpR X (compareOp .IsNot) (fun x y H Q=>y=.non∧Q (.bl (!decide (x=.non))) H):=by
 intro pins s σ H x y v u Q I rx ry h
 obtain⟨rfl,q⟩:=h
 cases ry
 refine isnot_none_gen (b7l I q ?_)
 cases x<;>first
  | (cases rx;rfl)
  | (obtain⟨t,rfl⟩:=rx;rfl)
theorem a0m (b:Expr) {op:CmpOp} (h:op≠.In:=by decide) (h2:op≠.NotIn:=by decide):behindInMarks op b=false:=by
 have e1:(op == CmpOp.In)=false:=by cases op<;>first | rfl | exact absurd rfl h
 have e2:(op == CmpOp.NotIn)=false:=by cases op<;>first | rfl | exact absurd rfl h2
 cases b<;>simp [behindInMarks,e1,e2]
theorem b8i {op:CmpOp} {r:R2} (ho:OpR X (compareOp op) r) (ha:PE X a ta) (hb:PE X b tb) (hm:behindInMarks op b=false):PE X (.Compare a [op] [b] pos) (tOp r ta tb):=by
 intro pins s σ H Q I h
 exact wpAny_Compare1 (binT ha hb I h fun v u s2 x y H2 I2 rx ry q=>ho pins s2 σ H2 x y v u Q I2 rx ry q) hm
noncomputable def b9k (t:TE):TT:=fun σ H Q=>t σ H fun x H'=>∃ k,x=.bl k∧Q k H'
theorem b7Z {op:CmpOp} {r:R2} (ho:OpR X (compareOp op) r) (ha:PE X a ta) (hb:PE X b tb) (hm:behindInMarks op b=false):PT X (.Compare a [op] [b] pos) (b9k (tOp r ta tb)):=by
 intro pins s σ H Q I h
 refine wpAny_isTrue_Compare1 (thn (ha pins s σ H _ I h) fun v s1 ⟨x,H1,I1,r1,q1⟩=>thn (hb pins s1 σ H1 _ I1 q1) fun u s2 ⟨y,H2,I2,r2,q2⟩ =>
  thn (ho pins s2 σ H2 x y v u _ I2 r1 r2 q2) fun c s3 ⟨z,H3,I3,r3,k,e,q3⟩=>?_) hm
 subst e
 cases r3
 exact wpAny_truthy_bool ⟨H3,I3,q3⟩
noncomputable def b3u (r r':R2) (ta tb tc:TE):TE:=fun σ H Q=>ta σ H fun x H1=>tb σ H1 fun y H2=>r x y H2 fun z H3=>∃ k,z=.bl k ∧
 (if k=true then tc σ H3 fun w' H4=>r' y w' H4 Q else Q (.bl false) H3)
theorem b5Q {op op':CmpOp} {r r':R2} (ho:OpR X (compareOp op) r) (ho':OpR X (compareOp op') r') (ha:PE X a ta) (hb:PE X b tb) (hc:PE X c tc)
  (hm:lastMarks [op,op'] [b,c]=false:=by with_unfolding_all rfl):PE X (.Compare a [op,op'] [b,c] pos) (b3u r r' ta tb tc):=by
 intro pins s σ H Q I h
 refine Compare_chain (thn (ha pins s σ H _ I h) fun v s1 ⟨x,H1,I1,r1,q1⟩=>chain_link (thn (hb pins s1 σ H1 _ I1 q1) fun u s2 ⟨y,H2,I2,r2,q2⟩ =>
  thn (ho pins s2 σ H2 x y v u _ I2 r1 r2 q2) fun d s3 ⟨z,H3,I3,r3,k,e,q3⟩=>?_)) hm
 subst e
 cases r3
 refine wpAny_truthy_bool ?_
 cases k with
 | false=>exact ite_ff ⟨.bl false,H3,I3,rfl,q3⟩
 | true=>exact ite_tt (chain_last (thn (hc pins s3 σ H3 _ I3 q3) fun w' s4 ⟨z',H4,I4,r4,q4⟩=>ho' pins s4 σ H4 y z' u w' Q I4 r2 r4 q4))
theorem b5J {op op':CmpOp} {r r':R2} (ho:OpR X (compareOp op) r) (ho':OpR X (compareOp op') r') (ha:PE X a ta) (hb:PE X b tb) (hc:PE X c tc)
  (hm:lastMarks [op,op'] [b,c]=false:=by with_unfolding_all rfl):PT X (.Compare a [op,op'] [b,c] pos) (b9k (b3u r r' ta tb tc)):=by
 intro pins s σ H Q I h
 refine isTrue_chain (thn (ha pins s σ H _ I h) fun v s1 ⟨x,H1,I1,r1,q1⟩=>test_link (thn (hb pins s1 σ H1 _ I1 q1) fun u s2 ⟨y,H2,I2,r2,q2⟩ =>
  thn (ho pins s2 σ H2 x y v u _ I2 r1 r2 q2) fun d s3 ⟨z,H3,I3,r3,k,e,q3⟩=>?_)) hm
 subst e
 cases r3
 refine wpAny_truthy_bool ?_
 cases k with
 | false =>
   obtain⟨k',e',q'⟩:=q3
   cases e'
   exact ite_ff ⟨H3,I3,q'⟩
 | true =>
   refine ite_tt (test_last (thn (hc pins s3 σ H3 _ I3 q3) fun w' s4 ⟨z',H4,I4,r4,q4⟩=>thn (ho' pins s4 σ H4 y z' u w' _ I4 r2 r4 q4) fun d' s5 ⟨z2,H5,I5,r5,k2,e2,q5⟩=>?_))
   subst e2
   cases r5
   exact wpAny_truthy_bool ⟨H5,I5,q5⟩
noncomputable def TruV (K:PySem.W.Frag) (x:V) (H:Hp) (k:Bool):Prop :=
 match x with
 | .non=>k=false
 | .bl b=>k=b
 | .int i=>k=(i != 0)
 | .str y=>y.length≤sizeLine∧k=((y.length:Int) != 0)
 | .byt y=>y.size≤sizeLine∧k=((y.size:Int) != 0)
 | .ref p=>(∃ xs,SqL K H p xs∧k=!xs.isEmpty)∨(∃ xs,SqT K H p xs∧k=!xs.isEmpty)∨∃ kvs,H p=some (.dK kvs)∧k=!kvs.isEmpty
 | _=>False
theorem b3b {κ:Type} {kvs:List (κ × V)} {vs:List (κ × Value)} (r:KV kvs vs):(!vs.isEmpty)=!kvs.isEmpty:=by
 cases r<;>rfl
theorem a7T {xs:List V} {its:List Value} (r:Vals xs its):(!its.toArray.isEmpty)=!xs.isEmpty:=by
 cases r<;>simp
theorem a7d:(sizeLine:Nat) < 2 ^ 63:=by rw[sizeLine_eq];decide
theorem b9f:TruR X (fun x H Q=>∃ k,TruV X.K x H k∧Q k H):=by
 intro pins s σ H x v Q I rx h
 obtain⟨k,e,q⟩:=h
 have hl:=a7d
 have hs:sizeLine=16777216:=sizeLine_eq
 cases x with
 | non =>
   cases rx
   have e':k=false:=e
   subst e'
   exact truthy_none ⟨H,I,q⟩
 | bl b =>
   cases rx
   have e':k=b:=e
   subst e'
   exact wpAny_truthy_bool ⟨H,I,q⟩
 | int i =>
   obtain⟨t,rfl⟩:=rx
   have e':k=(i != 0):=e
   subst e'
   exact PySem.P.truthy_int ⟨H,I,q⟩
 | str y =>
   obtain⟨t,rfl⟩:=rx
   obtain⟨hy,e'⟩:y.length≤sizeLine∧k=((y.length:Int) != 0):=e
   subst e'
   exact PySem.P.truthy_str (by lia) ⟨H,I.tok _,q⟩
 | byt y =>
   obtain⟨t,rfl⟩:=rx
   obtain⟨hy,e'⟩:y.size≤sizeLine∧k=((y.size:Int) != 0):=e
   subst e'
   exact PySem.W.truthy_bytes (by lia) ⟨H,I.tok _,q⟩
 | ref p =>
   cases rx
   have e':(∃ xs,SqL X.K H p xs∧k=!xs.isEmpty)∨(∃ xs,SqT X.K H p xs∧k=!xs.isEmpty)∨∃ kvs,H p=some (.dK kvs)∧k=!kvs.isEmpty:=e
   rcases e' with ⟨xs,hx,e'⟩ | ⟨xs,hx,e'⟩ | ⟨kvs,hx,e'⟩
   ·subst e'
    obtain⟨its,r,pl,hz⟩:=I.list hx
    have hlen:=r.length
    exact wpAny_truthy_list pl.isList (by simp only[List.size_toArray];lia) ⟨H,I.tok _,by rw[a7T r];exact q⟩
   ·subst e'
    obtain⟨its,r,pl,hz⟩:=I.tuple hx
    have hlen:=r.length
    exact truthy_tuple pl (by simp only[List.size_toArray];lia) ⟨H,I.tok _,by rw[a7T r];exact q⟩
   ·subst e'
    obtain⟨hz,hS,vs,r,m⟩:kvs.length≤sizeLine∧(p == sysModules)=false∧∃ vs,KV kvs vs∧s.heap.DictOf (a1T X.prog X.w) p vs:=I.hok p _ hx
    have hlen:kvs.length=vs.length:=Paired.length r
    exact wpAny_truthy_dict hS m (by lia) ⟨H,I.tok _,by rw[b3b r];exact q⟩
 | _=>exact (show False from e).elim
theorem b5I (ha:PE X a ta) (he:∀ whole,isTrue a X.env whole=(do let v ← whole;standAt a.pos;holding [v] (truthy v))) :
  PT X a (fun σ H Q=>ta σ H fun x H'=>∃ k,TruV X.K x H' k∧Q k H'):=by
 intro pins s σ H Q I h
 exact isTrue_plain (thn (ha pins s σ H _ I h) fun v s1 ⟨x,H1,I1,r1,q1⟩=>b9f pins s1 σ H1 x v Q I1 r1 q1) (he _)
theorem b2J:OpR X (binaryOp .Add) (fun x y H Q=>∃ i j,x=.str i∧y=.str j∧i.length+j.length≤sizeLine∧Q (.str (i++j)) H):=by
 intro pins s σ H x y v u Q I rx ry h
 obtain⟨i,j,rfl,rfl,hz,q⟩:=h
 obtain⟨t,rfl⟩:=rx
 obtain⟨t',rfl⟩:=ry
 exact add_str (fun t' tk=>⟨.str (i++j),H,I.tok _,⟨_,rfl⟩,q⟩) hz
theorem a5o {x:V} {us:List Value} (r:Vals [x] us):∃ u,us=[u]∧RelV x u:=by
 cases r with
 | cons r1 r2=>cases r2;exact⟨_,rfl,r1⟩
theorem b9d {x y:V} {us:List Value} (r:Vals [x,y] us):∃ u w',us=[u,w']∧RelV x u∧RelV y w':=by
 cases r with
 | cons r1 r2 =>
   cases r2 with
   | cons r3 r4=>cases r4;exact⟨_,_,rfl,r1,r3⟩
theorem b6D:a5V X (.builtin "abs") (fun xs H Q=>∃ i,xs=[.int i]∧Q (.int (if i < 0 then -i else i)) H):=by
 intro pins s σ H xs us Q I r h
 obtain⟨i,rfl,q⟩:=h
 obtain⟨u,rfl,t,rfl⟩:=a5o r
 exact call_abs_int fun u tk=>⟨.int (if i < 0 then -i else i),H,I.tok _,⟨_,rfl⟩,q⟩
theorem b5g (hc:X.calm=true):a5V X (.builtin "max") (fun xs H Q=>∃ i j,xs=[.int i,.int j]∧Q (.int (if j > i then j else i)) H):=by
 intro pins s σ H xs us Q I r h
 obtain⟨i,j,rfl,q⟩:=h
 obtain⟨u,w',rfl,⟨t,rfl⟩,⟨t',rfl⟩⟩:=b9d r
 refine max_two_ints (I.ok.hd hc) fun h' tk k=>⟨_,H,I.kept k,?_,q⟩
 by_cases hj:j > i
 ·rw[if_pos hj,if_pos hj];exact⟨_,rfl⟩
 ·rw[if_neg hj,if_neg hj];exact⟨_,rfl⟩
theorem b5f (hc:X.calm=true):a5V X (.builtin "min") (fun xs H Q=>∃ i j,xs=[.int i,.int j]∧Q (.int (if j < i then j else i)) H):=by
 intro pins s σ H xs us Q I r h
 obtain⟨i,j,rfl,q⟩:=h
 obtain⟨u,w',rfl,⟨t,rfl⟩,⟨t',rfl⟩⟩:=b9d r
 refine min_two_ints (I.ok.hd hc) fun h' tk k=>⟨_,H,I.kept k,?_,q⟩
 by_cases hj:j < i
 ·rw[if_pos hj,if_pos hj];exact⟨_,rfl⟩
 ·rw[if_neg hj,if_neg hj];exact⟨_,rfl⟩
theorem b0u:a5V X (.type "int") (fun xs H Q=>(∃ i,xs=[.int i]∧Q (.int i) H)∨∃ k,xs=[.bl k]∧Q (.int (if k then 1 else 0)) H):=by
 intro pins s σ H xs us Q I r h
 rcases h with ⟨i,rfl,q⟩ | ⟨k,rfl,q⟩
 ·obtain⟨u,rfl,t,rfl⟩:=a5o r
  exact call_int_int ⟨.int i,H,I,⟨_,rfl⟩,q⟩
 ·obtain⟨u,rfl,r1⟩:=a5o r
  cases r1
  exact call_int_bool ⟨.int (if k then 1 else 0),H,I.tok _,⟨_,rfl⟩,q⟩
end
section
variable {prog:Program} {w:World} {A:Around} {E:Value→Shared→Prop} {s:Shared} {K:PySem.W.Frag} {x dx C f:Addr} {mA:Str→Option Value} {name:Str} {v:Value}
end
theorem RelO.some_of {v:V} {o:Option Value} (r:RelO (some v) o):∃ u,o=some u∧RelV v u:=by
 cases o with
 | none=>exact (show False from r).elim
 | some u=>exact⟨u,rfl,r⟩
section
variable {P:Program} {w:World} {H H':Hp} {h h':Heap} {a C dx:Addr} {fs fs':List (Str × V)}
end
section
variable {X:Cx} {pins:List (Addr × Obj)} {σ:St} {H:Hp} {s:Shared} {a C dx:Addr} {fs:List (Str × V)} {f:Str} {v:V} {A:Around} {E:Value→Shared→Prop}
end
noncomputable def InOp (X:Cx) (op:Operator) (rd:V→V→Hp→VK→Prop):Prop :=
 ∀ (pins:List (Addr × Obj)) (s:Shared) (σ:St) (H:Hp) (x y:V) (u v:Value) (Q:VK),Inv X pins σ H s→RelV x u→RelV y v→rd x y H Q→wpAny (model X.prog X.w) X.A (inplaceOp op u v) (EP X pins σ Q) X.xe s
section
variable {X:Cx} {o e value:Expr} {f:Str} {pos pos' tpos:Pos} {ta tv:TE}
end
section
variable {X:Cx} {pins:List (Addr × Obj)} {σ:St} {H:Hp} {s:Shared} {A:Around} {E:Value→Shared→Prop} {Q:Value→Shared→Prop} {c:Value} {b:Bool}
end
structure Room (k:Nat) (A:Around):Prop where
 hd:A.handled=none
 dp:A.depth+3*k+5 < recursionLimit
 un:A.units+16*k+200 < cLine
theorem Room.mono {j k:Nat} {A:Around} (r:Room k A) (h:j≤k):Room j A:=⟨r.hd,by have:=r.dp;lia,by have:=r.un;lia⟩
theorem Room.deeper {k:Nat} {A:Around} (r:Room (k+1) A) (env:Env):Room k (A.deeper env) :=
 ⟨r.hd,by have:=r.dp;show A.depth+1+3*k+5 < _;lia,by have:=r.un;show A.units+3+16*k+200 < _;lia⟩
theorem Room.depth {k:Nat} {A:Around} (r:Room k A):A.depth < recursionLimit:=by have:=r.dp;lia
theorem Room.units {k:Nat} {A:Around} (r:Room k A):A.units+64 < cLine:=by have:=r.un;lia
noncomputable def tNil:TA:=fun _ H Q=>Q [] H
noncomputable def c1c (ta:TE) (tr:TA):TA:=fun σ H Q=>ta σ H fun x H1=>tr σ H1 fun xs H2=>Q (x :: xs) H2
section
variable {X:Cx} {e:Expr} {es:List Expr} {te:TE} {t:TA} {pos:Pos}
theorem b4b:PA X [] tNil:=fun _ _ _ _ H Q I h=>Calls.spliced_nil ⟨[],H,I,.nil,h⟩
theorem b1b (ha:PE X e te) (hr:PA X es t) (hs:starEach (e :: es) X.env=(false,eval e X.env) :: starEach es X.env:=by rfl):PA X (e :: es) (c1c te t):=by
 intro pos pins s σ H Q I h
 rw[hs]
 show wpAny _ _ (spliced ((false,eval e X.env) :: backTo pos (starEach es X.env))) _ _ s
 refine Calls.spliced_cons (thn (ha pins s σ H _ I h) fun u s1 ⟨x,H1,I1,r1,q1⟩=>?_)
 exact thn (hr pos pins s1 σ H1 _ I1 q1) fun us s2 ⟨xs,H2,I2,r2,q2⟩=>⟨x :: xs,H2,I2,.cons r1 r2,q2⟩
noncomputable def tTup (t:TA):TE:=fun σ H Q=>t σ H fun xs H1=>xs.length≤sizeLine∧∀ p,H1 p=none→Q (.ref p) (upd H1 p (.tup xs))
noncomputable def tLst (t:TA):TE:=fun σ H Q=>t σ H fun xs H1=>xs.length≤sizeLine∧∀ p,H1 p=none→Q (.ref p) (upd H1 p (.lst xs))
theorem b1Q {x1} (h:PA X es t):PE X (.Tuple es x1 pos) (tTup t):=by
 intro pins s σ H Q I hq
 refine wpAny_Tuple_spliced (thn (h pos pins s σ H _ I hq) fun us s1 ⟨xs,H1,I1,r,z,q⟩=>⟨by rw[← r.length];exact z,?_⟩)
 have hf:H1 s1.heap.objs.size=none:=I1.hok.fresh (Nat.le_refl _)
 refine⟨.ref s1.heap.objs.size,upd H1 s1.heap.objs.size (.tup xs),I1.laid (t':=s1.toks) (fun b u e=>Heap.get?_push_of_some _ e) (Nat.le_refl _) ?_,rfl,q _ hf⟩
 exact⟨z,us,r,⟨_,Heap.get?_push_size _ rfl,rfl,rfl,_,rfl⟩⟩
theorem b9Z (h:PA X es t):PE X (.List es pos) (tLst t):=by
 intro pins s σ H Q I hq
 refine wpAny_List_spliced (thn (h pos pins s σ H _ I hq) fun us s1 ⟨xs,H1,I1,r,z,q⟩=>⟨by rw[← r.length];exact z,?_⟩)
 have hf:H1 s1.heap.objs.size=none:=I1.hok.fresh (Nat.le_refl _)
 refine⟨.ref s1.heap.objs.size,upd H1 s1.heap.objs.size (.lst xs),I1.laid (t':=s1.toks) (fun b u e=>Heap.get?_push_of_some _ e) (Nat.le_refl _) ?_,rfl,q _ hf⟩
 exact⟨z,us,0,r,Heap.get?_push_size _ rfl⟩
end
noncomputable abbrev Sp:=List V→Hp→VK→XK→Prop
noncomputable abbrev CXT:=List Env→Hp→Shared→XK→Value→Shared→Prop
structure Env0 (P:Program) (w:World) (K:PySem.W.Frag) (mg:Str→Option Value) (base:Heap) (A:Around) (outer:List Env) (s:Shared) (H:Hp):Prop where
 frames:A.frames=some outer
 mod:Mod K mg base
 bs:∀ b o,base.get? b=some o→s.heap.get? b=some o∧H b=none
 bsz:base.objs.size≤s.heap.objs.size
 funs:s.heap.FunFrames base outer
 frf:∀ b∈frs outer,H b=none
 hok:HOk P w H s.heap
 bare:AllBare s.gens
noncomputable def CE (outer:List Env) (P:Program) (w:World) (H:Hp) (s:Shared) (Q:VK) (u:Value) (s':Shared):Prop :=
 ∃ v H',s'.os=s.os∧AllBare s'.gens∧Un (frs outer) [] H H' s.heap s'.heap∧HOk P w H' s'.heap∧RelV v u∧Q v H'
noncomputable def CR (CX:CXT) (outer:List Env) (P:Program) (w:World) (H:Hp) (s:Shared) (Q:VK) (E:XK) (r:Result) (s':Shared):Prop :=
 match r with
 | .ok (.ret u)=>CE outer P w H s Q u s'
 | .ok _=>False
 | .error e=>CX outer H s E e s'
structure FnOk (P:Program) (w:World) (K:PySem.W.Frag) (mg:Str→Option Value) (base:Heap) (CX:CXT) (k:Nat) (f:Addr) (fd:FuncData) (ps:List Str) (sp:Sp):Prop where
 len:∀ vs H Q E,sp vs H Q E→vs.length=ps.length
 run:∀ (A:Around) (outer:List Env) (s:Shared) (H:Hp) (args:Args) (us:List Value) (vs:List V) (Q:VK) (E:XK),Room k A→Env0 P w K mg base A outer s H→BindsTo s fd args (ps.zip us)→Vals vs us→sp vs H Q E →
  codeAny (model P w) A (.call (.ref f) args) (CR CX outer P w H s Q E) s
theorem FnOk.mono {P:Program} {w:World} {K:PySem.W.Frag} {mg:Str→Option Value} {base:Heap} {CX:CXT} {j k:Nat} {f:Addr} {fd:FuncData} {ps:List Str} {sp:Sp} (F:FnOk P w K mg base CX j f fd ps sp) (h:j≤k) :
  FnOk P w K mg base CX k f fd ps sp:=⟨F.len,fun A outer s H args us vs Q E hr=>F.run A outer s H args us vs Q E (hr.mono h)⟩
section
variable {X:Cx} {pins:List (Addr × Obj)} {σ:St} {H:Hp} {s s':Shared}
theorem Inv.env0 (I:Inv X pins σ H s):Env0 X.prog X.w X.K X.mg X.base X.A X.stack s H :=
 ⟨I.ok.frames,I.ok.mod,I.bs,Nat.le_trans I.ok.bsz I.sz,I.stack,I.stkFree,I.hok,I.bare⟩
theorem Inv.after {Q:VK} {u:Value} (I:Inv X pins σ H s) (h:CE X.stack X.prog X.w H s Q u s'):EP X pins σ Q u s':=by
 obtain⟨v,H',os,bare,un,hok,r,q⟩:=h
 obtain⟨hh,g,d,t,os'⟩:=s'
 obtain rfl:os'=s.os:=os
 exact⟨v,H',I.call (h':=hh) (g':=g) (d':=d) (t':=t) (ch:=[]) un hok bare (fun b z=>absurd z (by simp)),r,q⟩
end
noncomputable def c1d (sp:Sp) (dvs:List V) (E:XK) (t:TA):TE:=fun σ H Q=>t σ H fun vs H1=>sp (vs++dvs) H1 Q E
noncomputable def a0M (K:PySem.W.Frag) (fd:FuncData) (ps:List Str) (ds:List Value):Prop :=
 ∀ (s:Shared) (us:List Value),K.In s.heap→(us++ds).length=ps.length→BindsTo s fd ⟨us,[]⟩ (ps.zip (us++ds))
theorem a0M.all {K:PySem.W.Frag} {fd:FuncData} {ps:List Str} (h:∀ us:List Value,us.length=ps.length→bindArgs fd ⟨us,[]⟩=pure (ps.zip us)):a0M K fd ps []:=fun s us _ hl=>by
 rw[List.append_nil] at hl⊢
 exact .of_eq (h us hl)
noncomputable def b5p (CX:CXT) (X:Cx) (E:XK):Prop:=∀ (pins:List (Addr × Obj)) (σ:St) (H:Hp) (s:Shared) (e:Value) (s':Shared),Inv X pins σ H s→CX X.stack H s E e s'→X.xe e s'
section
variable {X:Cx} {CX:CXT} {k:Nat} {f C:Addr} {fd:FuncData} {ps:List Str} {sp:Sp} {dvs:List V} {ds:List Value} {E:XK} {x m:Str} {p pos apos:Pos} {e o:Expr} {es:List Expr} {ta:TE} {t:TA}
theorem b6S {pins:List (Addr × Obj)} {σ:St} {H:Hp} {s:Shared} {Q:VK} {us:List Value} {vs:List V} (F:FnOk X.prog X.w X.K X.mg X.base CX k f fd ps sp) (hr:Room k X.A) (hb:a0M X.K fd ps ds) (hd:Vals dvs ds) (hx:b5p CX X E)
  (I:Inv X pins σ H s) (r:Vals vs us) (h:sp (vs++dvs) H Q E):wpAny (model X.prog X.w) X.A (call (.ref f) us) (EP X pins σ Q) X.xe s:=by
 have r2:Vals (vs++dvs) (us++ds):=r.append hd
 have hl:(us++ds).length=ps.length:=by rw[← r2.length];exact F.len _ _ _ _ h
 refine wpAny_call (codeAny_mono (F.run X.A X.stack s H ⟨us,[]⟩ (us++ds) (vs++dvs) Q E hr I.env0 (hb s us I.kIn hl) r2 h) fun r s' hq=>?_)
 cases r with
 | error e=>exact hx pins σ H s e s' I hq
 | ok fl =>
   cases fl with
   | ret u=>exact I.after hq
   | next=>exact False.elim hq
   | brk=>exact False.elim hq
   | cont=>exact False.elim hq
theorem b8j (F:FnOk X.prog X.w X.K X.mg X.base CX k f fd ps sp) (hr:Room k X.A) (hg:Gl X x) (hm:X.mg x=some (.ref f)) (hk:PySem.W.keepIn X.K (.ref f)=true) (hb:a0M X.K fd ps ds) (hd:Vals dvs ds) (hx:b5p CX X E)
  (ha:PA X (e :: es) t) (hdb:(x == ("__debug__":Str))=false:=by decide) (he:starEach (e :: es) X.env=(false,eval e X.env) :: starEach es X.env:=by rfl) (hpl:(backTo pos (starEach es X.env)).any (·.1)=false:=by rfl) :
  PE X (.Call (.Name x p) (e :: es) [] pos) (c1d sp dvs E t):=by
 intro pins s σ H Q I h
 refine wpAny_Call_Name_kw (b4t I hg hm ?_ hdb)
 refine PySem.W.callWith_K (h₀:=X.base) I.ok.mod.kin hk (thn (ha pos pins s σ H _ I h) fun us s1 ⟨vs,H1,I1,r,q⟩=>⟨I1.kIn,?_⟩) he hpl
 exact b6S F hr hb hd hx I1 r q
end
section
variable {X:Cx} {CX:CXT} {k:Nat} {f C:Addr} {fd:FuncData} {ps ks:List Str} {sp:Sp} {E:XK} {x m:Str} {p pos apos kpos:Pos} {e o:Expr} {es:List Expr} {kws:List Keyword} {te ta:TE} {t tk:TA} {nm:Option Str}
variable {g:List Value→List Value→List Value} {gV:List V→List V→List V}
end
structure FnScope (N P:List Str) (sc:Scope):Prop where
 kind:sc.kind=.function
 co:sc.isCoroutine=false
 gen:sc.isGenerator=false
 nd:N.Nodup
 pre:N.take P.length=P
 par:∀ x∈P,sc.names.lookup x=some .local∨sc.names.lookup x=some .cell
 nofree:∀ y∈sc.names,y.2≠.free
theorem b0A {kindOf:Str→Option NameKind} {x:Str}:∀ {binds:List (Str × Value)} {m:Str→Option Value},(∀ v,(x,v) ∉ binds)→bindL kindOf binds m x=m x
 | [],_,_=>rfl
 | (n,v) :: r,m,h=>by
   unfold bindL
   rw[b0A fun w hw=>h w (List.mem_cons_of_mem _ hw)]
   split
   ·have:x≠n:=by rintro rfl;exact h v List.mem_cons_self
    simp [this]
   ·rfl
theorem b0C {kindOf:Str→Option NameKind} {x:Str}:∀ {binds:List (Str × Value)} {m:Str→Option Value},(∀ v,(x,v) ∉ binds)→bindC kindOf binds m x=m x
 | [],_,_=>rfl
 | (n,v) :: r,m,h=>by
   unfold bindC
   rw[b0C fun w hw=>h w (List.mem_cons_of_mem _ hw)]
   split
   ·rfl
   ·have:x≠n:=by rintro rfl;exact h v List.mem_cons_self
    simp [this]
theorem b0B {kindOf:Str→Option NameKind} {x:Str} {v:Value}:∀ {P:List Str} {vs:List Value} {i:Nat} {m:Str→Option Value},P.Nodup→P[i]?=some x→vs[i]?=some v→kindOf x=some .local →
  bindL kindOf (P.zip vs) m x=some v
 | [],_,_,_,_,h,_,_=>by simp at h
 | _ :: _,[],_,_,_,_,h,_=>by simp at h
 | p :: P,w :: vs,0,m,nd,h1,h2,hk=>by
   simp at h1 h2;subst h1;subst h2
   show bindL kindOf ((p,w) :: P.zip vs) m p=_
   unfold bindL
   rw[b0A fun v hv=>(List.nodup_cons.mp nd).1 (List.of_mem_zip hv).1,if_pos hk]
   simp
 | p :: P,w :: vs,i+1,m,nd,h1,h2,hk=>by
   show bindL kindOf ((p,w) :: P.zip vs) m x=_
   unfold bindL
   exact b0B (i:=i) (List.nodup_cons.mp nd).2 (by simpa using h1) (by simpa using h2) hk
theorem b0D {kindOf:Str→Option NameKind} {x:Str} {v:Value}:∀ {P:List Str} {vs:List Value} {i:Nat} {m:Str→Option Value},P.Nodup→P[i]?=some x→vs[i]?=some v→kindOf x≠some .local →
  bindC kindOf (P.zip vs) m x=some v
 | [],_,_,_,_,h,_,_=>by simp at h
 | _ :: _,[],_,_,_,_,h,_=>by simp at h
 | p :: P,w :: vs,0,m,nd,h1,h2,hk=>by
   simp at h1 h2;subst h1;subst h2
   show bindC kindOf ((p,w) :: P.zip vs) m p=_
   unfold bindC
   rw[b0C fun v hv=>(List.nodup_cons.mp nd).1 (List.of_mem_zip hv).1,if_neg hk]
   simp
 | p :: P,w :: vs,i+1,m,nd,h1,h2,hk=>by
   show bindC kindOf ((p,w) :: P.zip vs) m x=_
   unfold bindC
   exact b0D (i:=i) (List.nodup_cons.mp nd).2 (by simpa using h1) (by simpa using h2) hk
noncomputable def start (N:List Str) (vs:List V):St:=vs.map some++List.replicate (N.length - vs.length) none
noncomputable def cxOf (CX:CXT) (P:Program) (w:World) (K:PySem.W.Frag) (mg:Str→Option Value) (base:Heap) (N:List Str) (qual:Str) (scope:Scope) (f:Addr) (cd:Value) (A:Around) (outer:List Env) (s:Shared) (H:Hp) (E:XK):Cx where
 prog:=P
 w:=w
 K:=K
 mg:=mg
 base:=base
 A:=A.deeper (envOfC qual scope s.heap.objs.size f cd)
 N:=N
 s₀:=s
 H₀:=H
 env:=envOfC qual scope s.heap.objs.size f cd
 outer:=outer
 stack:=envOfC qual scope s.heap.objs.size f cd :: outer
 ex:=[]
 calm:=true
 fn:=fun _=>true
 pn:=[]
 xe:=fun e s'=>wpAny (model P w) (A.deeper (envOfC qual scope s.heap.objs.size f cd)) (leaving (envOfC qual scope s.heap.objs.size f cd) e) (fun _ s''=>CX outer H s E e s'') (fun e' s''=>CX outer H s E e' s'') s'
theorem b2m {sc:Scope} {n:Nat} {x:Str} (h:sc.names.lookup x=some .cell):∃ c,(cellsFrom n sc.names []).lookup x=some c:=by
 have q:=PySem.W.cellsFrom_some sc.names n [] (.inl h)
 exact Option.isSome_iff_exists.mp q
theorem b4E {CX:CXT} {P:Program} {w:World} {K:PySem.W.Frag} {mg:Str→Option Value} {base:Heap} {N ps:List Str} {qual:Str} {scope:Scope} {f:Addr} {cd:Value} {A:Around} {outer:List Env} {s s1:Shared} {H:Hp} {E:XK} {us:List Value} {vs:List V}
  (S:FnScope N ps scope) (hd:A.handled=none) (e0:Env0 P w K mg base A outer s H) (hl:vs.length=ps.length) (r:Vals vs us)
  (x:InCallC s s.heap.objs.size (bindL (envOfC qual scope s.heap.objs.size f cd).kindOf (ps.zip us) fun _=>none) (cellsFrom (s.heap.objs.size+1) scope.names []) (bindC (envOfC qual scope s.heap.objs.size f cd).kindOf (ps.zip us) fun _=>none) s1) :
  Inv (cxOf CX P w K mg base N qual scope f cd A outer s H E) [] (start N vs) H s1:=by
 have hpl:ps.length≤N.length:=by have:=congrArg List.length S.pre;rw[List.length_take] at this;lia
 obtain⟨h1,tk,rfl,hk⟩:=x.done
 have noA:∀ b:Addr,b ∉ (cxOf CX P w K mg base N qual scope f cd A outer s H E).ex:=fun b z=>absurd (show b∈([]:List Addr) from z) (by simp)
 refine⟨⟨e0.mod,S.kind,rfl,rfl,Nat.le_refl _,fun y z c h1 h2=>?_,fun y hy=>?_,fun y c _ h=>?_,fun _=>hd,Around.frames_deeper e0.frames,.inr ⟨rfl,rfl⟩,fun b z=>absurd z (noA b),e0.bs,e0.bsz,fun b _ _=>noA b,fun b z=>absurd z (noA b),e0.funs,e0.frf⟩,
  rfl,e0.bare,Un.kept hk,⟨_,x.toInCall.ns,fun i y v h1 h2 h3=>?_⟩,fun y c h=>⟨_,x.cell y c h⟩,e0.hok.fresh (Nat.le_refl _),fun y c h=>?_,fun p hp=>absurd (show p∈([]:List (Addr × Obj)) from hp) (by simp),e0.hok.kept hk,?_⟩
 ·exact name_of_addr x.apart (PySem.mem_of_lookup h1) (PySem.mem_of_lookup h2)
 ·have hy:scope.names.lookup y=some .cell∨scope.names.lookup y=some .free:=hy
  rcases hy with hy | hy
  ·exact b2m hy
  ·exact absurd rfl (S.nofree _ (PySem.mem_of_lookup hy))
 ·exact Nat.le_of_lt (x.above y c (PySem.mem_of_lookup h))
 ·have hi:i < vs.length:=by
   unfold start at h2
   by_cases hi:i < vs.length
   ·exact hi
   ·rw[List.getElem?_append_right (by simpa using hi)] at h2
    rw[List.getElem?_replicate] at h2
    split at h2<;>cases h2
  have ha:vs[i]?=some v:=by
   unfold start at h2
   rw[List.getElem?_append_left (by simpa using hi),List.getElem?_map] at h2
   cases e:vs[i]? with
   | none=>rw[e] at h2;cases h2
   | some a=>rw[e] at h2;cases h2;rfl
  obtain⟨u,hu,rv⟩:=r.get ha
  have hp:ps[i]?=some y:=by
   rw[← S.pre,List.getElem?_take_of_lt (by lia)];exact h1
  have ndP:ps.Nodup:=by rw[← S.pre];exact S.nd.sublist (List.take_sublist _ _)
  refine⟨u,rv,?_⟩
  rcases S.par y (List.mem_of_getElem? hp) with k | k
  ·exact .inl ⟨k,b0B ndP hp hu k⟩
  ·obtain⟨c,e⟩:=b2m (n:=s.heap.objs.size+1) k
   refine .inr ⟨.inl k,c,e,?_⟩
   have q:=x.cell y c e
   rw[b0D ndP hp hu (by show scope.names.lookup y≠_;rw[k];decide)] at q
   exact q
 ·exact e0.hok.fresh (Nat.le_of_lt (x.above y c (PySem.mem_of_lookup h)))
 ·unfold start
  show _=N.length
  rw[List.length_append,List.length_map,List.length_replicate]
  lia
theorem c1Q {CX:CXT} {P:Program} {w:World} {K:PySem.W.Frag} {mg:Str→Option Value} {base:Heap} {k:Nat} {f:Addr} {name qual:Str} {params:Arguments} {body:List Stmt} {scope:Scope} {dV kV doc pm cdv ct oc:Value} {an od:Option Addr}
  {osl:Array (Option Value)} {N ps:List Str} {sp:Sp} (lk:K.lookup f=some ⟨oc,od,.func (PySem.W.fnOf name qual params body scope dV kV doc pm an cdv ct),osl⟩) (hcd:PySem.W.codeIn K cdv qual=true) (S:FnScope N ps scope)
  (len:∀ vs H Q E,sp vs H Q E→vs.length=ps.length)
  (hbody:∀ (A:Around) (outer:List Env) (s:Shared) (H:Hp) (vs:List V) (Q:VK) (E:XK),Room k (A.deeper (envOfC qual scope s.heap.objs.size f cdv))→sp vs H Q E →
   ∃ t,PSs (cxOf CX P w K mg base N qual scope f cdv A outer s H E) body t∧t { nx:=fun _ H'=>Q .non H',rt:=Q } (start N vs) H) :
  FnOk P w K mg base CX (k+1) f (PySem.W.fnOf name qual params body scope dV kV doc pm an cdv ct) ps sp:=by
 refine⟨len,fun A outer s H args us vs Q E hr e0 hb r hsp=>?_⟩
 have hl:=len _ _ _ _ hsp
 have KX:K.In s.heap:=e0.mod.kin.keeps fun b o e=>(e0.bs b o e).1
 have lim:s.heap.NoLimit:=e0.mod.nolimit.keeps fun b o e=>(e0.bs b o e).1
 have hkind:∀ y∈ps.zip us,scope.names.lookup y.1=some .local∨(scope.names.lookup y.1=some .cell∧((cellsFrom (s.heap.objs.size+1) scope.names []).lookup y.1).isSome=true):=fun ⟨n,v⟩ hy=>by
  rcases S.par n (List.of_mem_zip hy).1 with q | q
  ·exact .inl q
  ·exact .inr ⟨q,PySem.W.cellsFrom_some _ _ _ (.inl q)⟩
 refine codeAny_call_function hr.depth (KX _ _ lk) rfl S.co S.gen rfl (PySem.W.codeRec_of KX hcd) (hb _ _ _ _ ?_)
 refine wpAny_newFunctionEnv_cells S.kind hkind fun env he s1 x=>?_
 subst he
 refine⟨lim.keeps x.toInCall.keep,codeAny_func ?_⟩
 obtain⟨t,ht,hq⟩:=hbody A outer s H vs Q E (hr.deeper _) hsp
 have I:Inv (cxOf CX P w K mg base N qual scope f cdv A outer s H E) [] (start N vs) H s1:=b4E S hr.hd e0 hl r x
 refine wpAny_mono (ht [] s1 (start N vs) H _ I hq) (fun fl s' hs=>?_) fun e s' hs=>hs
 have fin:∀ {σ':St} {H':Hp} {v:V} {u:Value},Inv (cxOf CX P w K mg base N qual scope f cdv A outer s H E) [] σ' H' s'→RelV v u→Q v H'→CE outer P w H s Q u s' :=
  fun {σ' H' v u} J rv q=>⟨v,H',J.os,J.bare,J.base,J.hok,rv,q⟩
 cases fl with
 | ret u =>
   obtain⟨v,σ',H',J,rv,q⟩:=hs
   exact fin J rv q
 | next =>
   obtain⟨σ',H',J,q⟩:=hs
   exact fin (v:=V.non) (u:=Value.none) J rfl q
 | brk =>
   obtain⟨_,_,_,q⟩:=hs
   exact False.elim q
 | cont =>
   obtain⟨_,_,_,q⟩:=hs
   exact False.elim q
section
variable {X:Cx} {x:Str} {p pos:Pos} {e:Expr} {es:List Expr} {t:TA} {id T:String} {r:List V→Hp→VK→Prop}
noncomputable def tCB (r:List V→Hp→VK→Prop) (t:TA):TE:=fun σ H Q=>t σ H fun vs H1=>r vs H1 Q
theorem b5R (hc:a5V X (.builtin id) r) (hg:Gl X x) (hm:X.mg x=none) (hv:bootBuiltins x=some (.builtin id)) (ha:PA X (e :: es) t) (hn:x≠"__name__":=by decide) (hdb:(x == ("__debug__":Str))=false:=by decide)
  (he:starEach (e :: es) X.env=(false,eval e X.env) :: starEach es X.env:=by rfl) (hpl:(backTo pos (starEach es X.env)).any (·.1)=false:=by rfl):PE X (.Call (.Name x p) (e :: es) [] pos) (tCB r t):=by
 intro pins s σ H Q I h
 refine wpAny_Call_Name_kw (a6w I hg hm hv ?_ hn hdb)
 exact PyProof.Rows.callWith_builtin1 (thn (ha pos pins s σ H _ I h) fun us s1 ⟨vs,H1,I1,r1,q1⟩=>hc pins s1 σ H1 vs us Q I1 r1 q1) he hpl
theorem b3Z (hc:a5V X (.type T) r) (hg:Gl X x) (hm:X.mg x=none) (hv:bootBuiltins x=some (.type T)) (ha:PA X (e :: es) t) (hn:x≠"__name__":=by decide) (hdb:(x == ("__debug__":Str))=false:=by decide)
  (he:starEach (e :: es) X.env=(false,eval e X.env) :: starEach es X.env:=by rfl) (hpl:(backTo pos (starEach es X.env)).any (·.1)=false:=by rfl):PE X (.Call (.Name x p) (e :: es) [] pos) (tCB r t):=by
 intro pins s σ H Q I h
 refine wpAny_Call_Name_kw (a6w I hg hm hv ?_ hn hdb)
 exact PyProof.Rows.callWith_type1 (thn (ha pos pins s σ H _ I h) fun us s1 ⟨vs,H1,I1,r1,q1⟩=>hc pins s1 σ H1 vs us Q I1 r1 q1) he hpl
end
end L2
namespace HT
open PySem PyProof.Rows
section
open PySem.SeqAt
open PySem.AutoSeq1 (wpAny_loadPart')
open PySem.MeetsSeq PySem.MeetsSeq2 PySem.MeetsSeq3
end
section
variable {prog:Program} {w:World} {A:Around} {E:Value→Shared→Prop} {s:Shared}
theorem cat_tup {t b:Addr} {vs ws:List Value} {Q:Value→Shared→Prop} (ht:IsTup s.heap t vs.toArray) (hb:IsTup s.heap b ws.toArray) (hv:vs≠[])
  (h1:ws=[]→Q (.ref t) s) (h2:ws≠[]→Q (.ref s.heap.objs.size) { s with heap:=s.heap.push { cls:=.type "tuple",data:=.seq (vs++ws).toArray } })
  (hsz:vs.length+ws.length≤sizeLine):wpAny (model prog w) A (binaryOp .Add (.ref t) (.ref b)) Q E s:=by
 obtain⟨⟨cls,dd,data,sl⟩,ho,hc,n,hd⟩:=id ht
 obtain⟨⟨cls2,dd2,data2,sl2⟩,ho2,hc2,n2,hd2⟩:=id hb
 simp only at hc hd hc2 hd2
 subst hc hd hc2 hd2
 have e:vs.toArray++ws.toArray=(vs++ws).toArray:=by simp
 by_cases hw:ws=[]
 ·exact concat_meets ⟨_,ho,rfl⟩ ⟨_,ho2,rfl⟩ noFill_tuple_add seq_tuple_add PySem.F.slot_tuple_add PySem.F.entry_tuple_add (PySem.F.args_tuple_add_2 _ _)
   (tuple_addW1 t b vs.toArray ws.toArray n n2 dd dd2 sl sl2 (by simpa using hv) (by simp [hw])) ⟨ho,ho2,h1 hw⟩
 ·refine concat_meets ⟨_,ho,rfl⟩ ⟨_,ho2,rfl⟩ noFill_tuple_add seq_tuple_add PySem.F.slot_tuple_add PySem.F.entry_tuple_add (PySem.F.args_tuple_add_2 _ _)
   (tuple_addW2 t b vs.toArray ws.toArray n n2 dd dd2 sl sl2 (by simpa using hv) (by simpa using hw) (by rw[List.size_toArray,List.size_toArray];exact hsz)) ⟨ho,ho2,?_⟩
  rw[e]
  exact h2 hw
noncomputable def sIx (n d:Nat):Option Int→Nat
 | none=>d
 | some v=>if v < 0 then (v+(n:Int)).toNat else min v.toNat n
theorem sIx_none (n d:Nat):sIx n d none=d:=rfl
theorem sIx_nat (n d k:Nat):sIx n d (some (k:Int))=min k n:=by
 show (if (k:Int) < 0 then ((k:Int)+(n:Int)).toNat else min (k:Int).toNat n)=min k n
 rw[if_neg (by lia),Int.toNat_natCast]
theorem b9E (n d:Nat) (hd:d≤n) (o:Option Int):sIx n d o≤n:=by
 cases o with
 | none=>exact hd
 | some v =>
   show (if v < 0 then (v+(n:Int)).toNat else min v.toNat n)≤n
   by_cases hv:v < 0
   ·rw[if_pos hv];lia
   ·rw[if_neg hv];exact Nat.min_le_right _ _
theorem b5b (v:Int) (n d:Nat):(if v < 0 then max (v+(n:Int)) 0 else min v (n:Int))=((sIx n d (some v):Nat):Int):=by
 show (if v < 0 then max (v+(n:Int)) 0 else min v (n:Int))=(((if v < 0 then (v+(n:Int)).toNat else min v.toNat n):Nat):Int)
 by_cases hv:v < 0
 ·simp only[if_pos hv];lia
 ·simp only[if_neg hv];lia
theorem b3m (lo hi:Option Int) (n:Nat):Builtin.Slice.sliceAdjust lo hi 1 (n:Int)=(((sIx n 0 lo:Nat):Int),((sIx n n hi:Nat):Int)):=by
 have h1:¬((1:Int) < 0):=by lia
 unfold Builtin.Slice.sliceAdjust
 simp only[h1,if_false]
 refine Prod.ext ?_ ?_
 ·cases lo with
  | none=>rfl
  | some v=>exact b5b v n 0
 ·cases hi with
  | none=>rfl
  | some v=>exact b5b v n n
theorem b2F (i j:Nat):Builtin.Slice.slicePlaces (i:Int) (j:Int) 1=j - i:=by
 unfold Builtin.Slice.slicePlaces
 have h1:(1:Int) > 0:=by lia
 simp only[h1,if_true,Int.ediv_one]
 split<;>lia
theorem a7K {v:Value} {o:Option Int} {Q:Option Int→Shared→Prop} (p:IsPart v o) (h:Q o s):wpAny (model prog w) A (Builtin.Slice.slicePartIndex v) Q E s:=by
 cases p with
 | none=>exact slicePart_none h
 | int i t=>exact slicePart_int h
theorem a4w {sl:Addr} {vl vu:Value} {lo hi:Option Int} {n:Nat} {Q:Int × Int × Nat→Shared→Prop} (hs:s.heap.IsSliceOf sl vl vu .none) (pl:IsPart vl lo) (pu:IsPart vu hi)
  (h:Q (((sIx n 0 lo:Nat):Int),1,sIx n n hi - sIx n 0 lo) s):wpAny (model prog w) A (Builtin.Slice.sliceApplied (.ref sl) (pure (n:Int))) Q E s:=by
 obtain⟨os,hos,hcs,hds⟩:=id hs
 unfold Builtin.Slice.sliceApplied Builtin.Slice.sliceFields
 refine wpAny_bind (wpAny_bind (wpAny_field hos hds (x:=vl) rfl (wpAny_bind (wpAny_field hos hds (x:=vu) rfl (wpAny_bind (wpAny_field hos hds (x:=.none) rfl (wpAny_pure ?_)))))))
 refine wpAny_bind (slicePart_none ?_)
 show wpAny _ _ (if ((1:Int) == 0)=true then _ else _) _ _ s
 rw[if_neg (by decide)]
 refine wpAny_bind (a7K pl (wpAny_bind (a7K pu (wpAny_bind (wpAny_pure ?_)))))
 show wpAny _ _ (match Builtin.Slice.sliceAdjust lo hi 1 (n:Int) with | (lo,hi)=>pure (lo,(1:Int),Builtin.Slice.slicePlaces lo hi 1)) _ _ s
 rw[b3m lo hi n]
 show wpAny _ _ (pure (((sIx n 0 lo:Nat):Int),(1:Int),Builtin.Slice.slicePlaces ((sIx n 0 lo:Nat):Int) ((sIx n n hi:Nat):Int) 1)) _ _ s
 rw[b2F]
 exact wpAny_pure h
theorem b5L (xs:Array Value) (i k:Nat):((List.range k).filterMap fun (m:Nat)=>xs[((i:Int)+(m:Int)*1).toNat]?).toArray=((xs.toList.drop i).take k).toArray:=by
 have e:(fun (m:Nat)=>xs[((i:Int)+(m:Int)*1).toNat]?)=fun m=>xs[i+m]?:=by
  funext m
  have:((i:Int)+(m:Int)*1).toNat=i+m:=by lia
  rw[this]
 rw[e]
 have:=pick_run xs i k
 rw[List.filterMap_map] at this
 have e2:((fun x=>xs[x]?) ∘ fun x=>i+x)=fun m=>xs[i+m]?:=rfl
 rw[e2] at this
 rw[this]
theorem getItem_tuple_cut {t sl:Addr} {items:Array Value} {vl vu:Value} {lo hi:Option Int} {Q:Value→Shared→Prop} (ht:IsTup s.heap t items) (hs:s.heap.IsSliceOf sl vl vu .none) (pl:IsPart vl lo) (pu:IsPart vu hi)
  (hw:¬(sIx items.size 0 lo=0∧sIx items.size items.size hi=items.size))
  (h:Q (.ref s.heap.objs.size) { s with heap:=s.heap.push { cls:=.type "tuple",data:=.seq ((items.toList.drop (sIx items.size 0 lo)).take (sIx items.size items.size hi - sIx items.size 0 lo)).toArray } })
  (hsz:items.size≤sizeLine):wpAny (model prog w) A (getItem (.ref t) (.ref sl)) Q E s:=by
 have htake:sizeOk (.seq ((items.toList.drop (sIx items.size 0 lo)).take (sIx items.size items.size hi - sIx items.size 0 lo)).toArray):=by
  show ((items.toList.drop (sIx items.size 0 lo)).take (sIx items.size items.size hi - sIx items.size 0 lo)).toArray.size≤sizeLine
  rw[List.size_toArray,List.length_take,List.length_drop,Array.length_toList]
  lia
 have hj:sIx items.size items.size hi≤items.size:=b9E _ _ (Nat.le_refl _) hi
 obtain⟨os,hos,hcs,hds⟩:=id hs
 have hTs:s.TypeIs (.ref sl) "slice":=⟨os,hos,hcs⟩
 unfold getItem
 try with_reducible refine wpAny_holding ?_
 first | refine wpAny_bind (wpAny_pure ?_) | skip
 refine wpAny_bind (wpAny_sequenceKey ht.typeIs (by decide) ?_)
 refine wpAny_bind (wpAny_callSpecial?_slot (name:=Str.ofString "__getitem__") ht.typeIs PyProof.Rows.slot_tuple_getitem
  (wpAny_call_entry PyProof.Rows.slot_tuple_getitem ht.typeIs entry_tuple_getitem ?_ (args_tuple_getitem _ _)))
 show wpAny _ _ (Builtin.Tuple.tupleItemsOf (.ref t) >>= _) _ _ s
 refine wpAny_bind (tupleItemsOf_ ht ?_)
 refine wpAny_bind (wpAny_typeOf hTs ?_)
 rw[if_pos (by decide)]
 refine wpAny_bind (a4w hs pl pu ?_)
 have hno:¬((((sIx items.size 0 lo:Nat):Int) == 0 && (1:Int) == 1 && (sIx items.size items.size hi - sIx items.size 0 lo) == items.size)=true):=by
  intro q
  rw[Bool.and_eq_true,Bool.and_eq_true] at q
  have q1:((sIx items.size 0 lo:Nat):Int)=0:=eq_of_beq q.1.1
  have q2:sIx items.size items.size hi - sIx items.size 0 lo=items.size:=eq_of_beq q.2
  exact hw ⟨by lia,by lia⟩
 show wpAny _ _ (if (((sIx items.size 0 lo:Nat):Int) == 0 && (1:Int) == 1 && (sIx items.size items.size hi - sIx items.size 0 lo) == items.size)=true then _ else _) _ _ s
 rw[if_neg hno,b5L]
 first
  | exact wpAny_bind (m:=Builtin.Tuple.tupleExact _) (wpAny_newObj_type (wpAny_pure ⟨_,rfl,wpAny_pure h⟩) htake)
  | exact wpAny_bind (m:=Builtin.Tuple.tupleExact _) (wpAny_newObj_type (wpAny_bind (wpAny_pure (wpAny_pure ⟨_,rfl,wpAny_pure h⟩))) htake)
  | exact wpAny_bind (wpAny_bind (m:=Builtin.Tuple.tupleExact _) (wpAny_newObj_type (wpAny_pure (wpAny_pure ⟨_,rfl,wpAny_pure h⟩)) htake))
  | exact wpAny_bind (wpAny_bind (m:=Builtin.Tuple.tupleExact _) (wpAny_newObj_type (wpAny_pure ⟨_,rfl,wpAny_pure h⟩) htake))
end
end HT
namespace L2
open PySem PySem.Spec PyProof.Rows
noncomputable abbrev TO:=St→Hp→(Option Int→Hp→Prop)→Prop
noncomputable def PO (X:Cx) (e:Option Expr) (t:TO):Prop :=
 ∀ (pins:List (Addr × Obj)) (s:Shared) (σ:St) (H:Hp) (Q:Option Int→Hp→Prop),Inv X pins σ H s→t σ H Q →
   wpAny (model X.prog X.w) X.A (evalPart e X.env) (fun u s'=>∃ o H',Inv X pins σ H' s'∧IsPart u o∧Q o H') X.xe s
noncomputable def b7v:TO:=fun _ H Q=>Q none H
noncomputable def c0Y (t:TE):TO:=fun σ H Q=>t σ H fun x H1=>∃ i,x=.int i∧Q (some i) H1
theorem a7V {ns:List Int}:∀ {us:List Value},Vals (ns.map V.int) us→IntsAre us ns:=by
 induction ns with
 | nil=>intro us r;rw[List.map_nil] at r;cases r;exact .nil
 | cons n ns ih =>
   intro us r
   rw[List.map_cons] at r
   cases r with
   | cons r1 r2 =>
     obtain⟨t,e⟩:=r1
     subst e
     exact .cons n t (ih r2)
section
variable {X:Cx} {e:Expr} {te:TE} {lo hi:Option Expr} {tl th:TO} {pos p2:Pos}
theorem b8g:PO X none b7v:=by
 intro pins s σ H Q I h
 rw[evalPart_none]
 exact wpAny_pure ⟨none,H,I,.none,h⟩
theorem b8f (h:PE X e te):PO X (some e) (c0Y te):=by
 intro pins s σ H Q I hw
 rw[evalPart_some]
 refine thn (h pins s σ H _ I hw) fun u s1 ⟨x,H1,I1,r1,q1⟩=>?_
 obtain⟨i,rfl,q⟩:=q1
 obtain⟨t,rfl⟩:=r1
 exact⟨some i,H1,I1,.int i t,q⟩
noncomputable def SlR (X:Cx) (r:V→Option Int→Option Int→Hp→VK→Prop):Prop :=
 ∀ (pins:List (Addr × Obj)) (s:Shared) (σ:St) (H:Hp) (x:V) (v vl vu:Value) (lo hi:Option Int) (sl:Addr) (Q:VK),Inv X pins σ H s→RelV x v→s.heap.IsSliceOf sl vl vu .none→IsPart vl lo→IsPart vu hi→r x lo hi H Q →
   ∃ T id,typeLookup (.type T) "__getitem__"=pure (some (.builtin id))∧s.TypeIs v T∧wpAny (model X.prog X.w) X.A (getItem v (.ref sl)) (EP X pins σ Q) X.xe s
theorem SlR.or {r r':V→Option Int→Option Int→Hp→VK→Prop} (h:SlR X r) (h':SlR X r'):SlR X (fun x lo hi H Q=>r x lo hi H Q∨r' x lo hi H Q):=by
 intro pins s σ H x v vl vu lo hi sl Q I rx hs pl pu q
 rcases q with q | q
 ·exact h pins s σ H x v vl vu lo hi sl Q I rx hs pl pu q
 ·exact h' pins s σ H x v vl vu lo hi sl Q I rx hs pl pu q
noncomputable def tSl (r:V→Option Int→Option Int→Hp→VK→Prop) (te:TE) (tl th:TO):TE:=fun σ H Q=>te σ H fun x H1=>tl σ H1 fun l H2=>th σ H2 fun u H3=>r x l u H3 Q
theorem b5N {r:V→Option Int→Option Int→Hp→VK→Prop} (hr:SlR X r) (he:PE X e te) (hl:PO X lo tl) (hu:PO X hi th):PE X (.Subscript e (.Slice lo hi none p2) pos) (tSl r te tl th):=by
 intro pins s σ H Q I h
 refine Subscript_ (thn (he pins s σ H _ I h) fun v s1 ⟨x,H1,I1,r1,q1⟩=>?_)
 refine wpAny_Slice (thn (hl pins s1 σ H1 _ I1 q1) fun vl s2 ⟨l,H2,I2,pl,q2⟩=>thn (hu pins s2 σ H2 _ I2 q2) fun vu s3 ⟨u,H3,I3,pu,q3⟩=>?_)
 rw[evalPart_none]
 refine wpAny_pure ?_
 have I4:Inv X pins σ H3 { s3 with heap:=s3.heap.push { cls:=.type "slice",data:=.fields #[vl,vu,.none] } }:=I3.kept (t':=s3.toks) fun b ob q=>Heap.get?_push_of_some _ q
 obtain⟨T,id,hT,ht,hg⟩:=hr pins { s3 with heap:=s3.heap.push { cls:=.type "slice",data:=.fields #[vl,vu,.none] } } σ H3 x v vl vu l u s3.heap.objs.size Q I4 r1 (Heap.IsSliceOf.new ..) pl pu q3
 show wpAny (model X.prog X.w) X.A (subscriptTail e (.Slice lo hi none p2) v (.ref s3.heap.objs.size)) (EP X pins σ Q) X.xe { s3 with heap:=s3.heap.push { cls:=.type "slice",data:=.fields #[vl,vu,.none] } }
 exact tail_any (ops:=[.ref s3.heap.objs.size,v]) ht hT hg (by with_unfolding_all rfl)
noncomputable def cutV (xs:List V) (lo hi:Option Int):List V:=(xs.drop (HT.sIx xs.length 0 lo)).take (HT.sIx xs.length xs.length hi - HT.sIx xs.length 0 lo)
theorem a7r (xs:List V) (lo hi:Option Int):(cutV xs lo hi).length≤xs.length:=by
 unfold cutV
 rw[List.length_take,List.length_drop]
 lia
noncomputable def rSlT (K:PySem.W.Frag):V→Option Int→Option Int→Hp→VK→Prop:=fun x lo hi H Q=>∃ a xs,x=.ref a∧SqT K H a xs ∧
 ¬(HT.sIx xs.length 0 lo=0∧HT.sIx xs.length xs.length hi=xs.length)∧∀ p,H p=none→Q (.ref p) (upd H p (.tup (cutV xs lo hi)))
theorem b9x:SlR X (rSlT X.K):=by
 intro pins s σ H x v vl vu lo hi sl Q I rx hs pl pu h
 obtain⟨a,xs,rfl,hx,hw,q⟩:=h
 cases rx
 obtain⟨its,r,ht,hz⟩:=I.tuple hx
 have hlen:its.toArray.size=xs.length:=by rw[List.size_toArray];exact r.length.symm
 refine⟨"tuple",_,PyProof.Rows.slot_tuple_getitem.lookup,ht.typeIs,?_⟩
 refine HT.getItem_tuple_cut ht hs pl pu (by rw[hlen];exact hw) ?_ (by rw[hlen];exact hz)
 rw[hlen]
 refine⟨.ref s.heap.objs.size,_,I.laid (t':=s.toks) (o:=.tup (cutV xs lo hi)) (fun b ob q=>Heap.get?_push_of_some _ q) (Nat.le_refl _) ?_,rfl,q _ (I.hok.fresh (Nat.le_refl _))⟩
 exact⟨Nat.le_trans (a7r xs lo hi) hz,_,(r.drop (HT.sIx xs.length 0 lo)).take (HT.sIx xs.length xs.length hi - HT.sIx xs.length 0 lo),a3E.new _ _⟩
noncomputable def c1p (K:PySem.W.Frag):R2:=fun x y H Q=>∃ a b xs ys,x=.ref a∧y=.ref b∧SqT K H a xs∧SqT K H b ys∧xs≠[]∧xs.length+ys.length≤sizeLine ∧
 (ys=[]→Q (.ref a) H)∧(ys≠[]→∀ p,H p=none→Q (.ref p) (upd H p (.tup (xs++ys))))
theorem Vals.nil_iff {xs:List V} {us:List Value} (r:Vals xs us):us=[]↔xs=[]:=by
 cases r with
 | nil=>simp
 | cons _ _=>simp
theorem b8o:OpR X (binaryOp .Add) (c1p X.K):=by
 intro pins s σ H x y v u Q I rx ry h
 obtain⟨a,b,xs,ys,rfl,rfl,ha,hb,hx,hz,q1,q2⟩:=h
 cases rx
 cases ry
 obtain⟨its,r1,p1,_⟩:=I.tuple ha
 obtain⟨its2,r2,p2,_⟩:=I.tuple hb
 refine HT.cat_tup p1 p2 (fun z=>hx (r1.nil_iff.mp z)) (fun z=>⟨.ref a,H,I,rfl,q1 (r2.nil_iff.mp z)⟩) (fun z=>?_) (by rw[← r1.length,← r2.length];exact hz)
 refine⟨.ref s.heap.objs.size,_,I.laid (t':=s.toks) (o:=.tup (xs++ys)) (fun b ob q=>Heap.get?_push_of_some _ q) (Nat.le_refl _) ?_,rfl,q2 (fun w=>z (r2.nil_iff.mpr w)) _ (I.hok.fresh (Nat.le_refl _))⟩
 exact⟨by rw[List.length_append];exact hz,_,r1.append r2,a3E.new _ _⟩
end
noncomputable def ixN (n:Nat) (i:Int):Option Nat:=if 0≤i then (if i < n then some i.toNat else none) else if -(n:Int)≤i then some (i+n).toNat else none
noncomputable def atI {α:Type} (xs:List α) (i:Int):Option α:=(ixN xs.length i).bind fun j=>xs[j]?
theorem b4B {n:Nat} {i:Int} {j:Nat} (h:ixN n i=some j):seqIndex? i n=some j∧j < n∧-(n:Int)≤i∧i < n:=by
 unfold ixN at h
 by_cases h0:0≤i
 ·rw[if_pos h0] at h
  by_cases h1:i < n
  ·rw[if_pos h1] at h
   have e:i.toNat=j:=Option.some.inj h
   exact⟨by rw[seqIndex_of h0 h1,e],by lia,by lia,h1⟩
  ·rw[if_neg h1] at h;cases h
 ·rw[if_neg h0] at h
  by_cases h1:-(n:Int)≤i
  ·rw[if_pos h1] at h
   have e:(i+n).toNat=j:=Option.some.inj h
   exact⟨by rw[seqIndex_neg (by lia) h1,e],by lia,h1,by lia⟩
  ·rw[if_neg h1] at h;cases h
theorem b1A {α:Type} {xs:List α} {i:Int} {v:α} (h:atI xs i=some v):∃ j,seqIndex? i xs.length=some j∧xs[j]?=some v∧j < xs.length∧-(xs.length:Int)≤i∧i < xs.length:=by
 unfold atI at h
 cases e:ixN xs.length i with
 | none=>rw[e] at h;cases h
 | some j =>
   rw[e] at h
   obtain⟨h1,h2,h3,h4⟩:=b4B e
   exact⟨j,h1,h,h2,h3,h4⟩
theorem a6m {α:Type} {xs:List α} {j:Nat} {v:α} (h:xs[j]?=some v):atI xs (j:Int)=some v:=by
 have hj:j < xs.length:=(List.getElem?_eq_some_iff.mp h).1
 have e:ixN xs.length (j:Int)=some j:=by
  unfold ixN
  rw[if_pos (by lia),if_pos (by lia)];simp
 unfold atI;rw[e];exact h
theorem b2p {α:Type} (xs:List α) (v:α):atI (xs++[v]) (-1)=some v:=by
 have hl:(xs++[v]).length=xs.length+1:=by simp
 have e:ixN (xs++[v]).length (-1)=some xs.length:=by
  unfold ixN
  rw[hl,if_neg (by decide),if_pos (by lia)]
  congr 1
  lia
 unfold atI
 rw[e]
 show (xs++[v])[xs.length]?=some v
 simp
noncomputable def b5o (b:Expr):Prop:=∀ o i,subscripted b false o i=operate [o,i] (getItem o i)
noncomputable def IxR (X:Cx) (r:R2):Prop :=
 ∀ (value slice:Expr) (pins:List (Addr × Obj)) (s:Shared) (σ:St) (H:Hp) (x y:V) (v u:Value) (Q:VK),Inv X pins σ H s→RelV x v→RelV y u→r x y H Q →
   subscripted slice false v u=operate [v,u] (getItem v u)→wpAny (model X.prog X.w) X.A (subscriptTail value slice v u) (EP X pins σ Q) X.xe s
noncomputable def MtR (X:Cx) (id:String) (r:V→List V→Hp→VK→Prop):Prop :=
 ∀ (pins:List (Addr × Obj)) (s:Shared) (σ:St) (H:Hp) (x:V) (xs:List V) (v:Value) (us:List Value) (Q:VK),Inv X pins σ H s→RelV x v→Vals xs us→r x xs H Q →
   wpAny (model X.prog X.w) X.A (call (.builtin id) (v :: us)) (EP X pins σ Q) X.xe s
section
variable {X:Cx} {a b:Expr} {ta tb:TE} {pos:Pos}
theorem c1w {r:R2} (hr:IxR X r) (ha:PE X a ta) (hb:PE X b tb) (hs:b5o b):PE X (.Subscript a b pos) (tOp r ta tb):=by
 intro pins s σ H Q I h
 exact Subscript_ (binT ha hb I h fun v u s2 x y H2 I2 rx ry q=>hr a b pins s2 σ H2 x y v u Q I2 rx ry q (hs _ _))
noncomputable def rIxL (K:PySem.W.Frag):R2:=fun x y H Q=>∃ p xs i v,x=.ref p∧y=.int i∧SqL K H p xs∧atI xs i=some v∧Q v H
noncomputable def rIxT (K:PySem.W.Frag):R2:=fun x y H Q=>∃ p xs i v,x=.ref p∧y=.int i∧SqT K H p xs∧atI xs i=some v∧Q v H
noncomputable def rIxS:R2:=fun x y H Q=>∃ z i c,x=.str z∧y=.int i∧z.length≤sizeLine∧atI z.cps.toList i=some c∧Q (.str ⟨#[c]⟩) H
theorem b4A:IxR X (rIxL X.K):=by
 intro value slice pins s σ H x y v u Q I rx ry h hs
 obtain⟨p,xs,i,z,rfl,rfl,hq,he,q⟩:=h
 cases rx
 obtain⟨t,rfl⟩:=ry
 obtain⟨its,r,pl,hz⟩:=I.list hq
 obtain⟨j,h1,h2,h3,h4,h5⟩:=b1A he
 obtain⟨w,ew,rw'⟩:=r.get h2
 have hl:=r.length
 have hn:=a7d
 have fin:EP X pins σ Q w s:=⟨z,H,I,rw',q⟩
 by_cases h0:0≤i
 ·have hj:i.toNat=j:=by
   rw[seqIndex_of h0 h5] at h1
   exact Option.some.inj h1
  exact item_listR pl.isList h0 (by lia) (by rw[hj];simpa using ew) fin hs
 ·have hj:(i+(its.toArray.size:Int)).toNat=j:=by
   rw[seqIndex_neg (by lia) h4] at h1
   rw[List.size_toArray,← hl]
   exact Option.some.inj h1
  exact subscriptTail_builtinR (x:=w) pl.isList.typeIs slot_list_getitem.lookup
   (wpAny_getItem_list_neg (Q:=fun r s'=>r=w∧EP X pins σ Q r s') pl.isList (by lia) (by rw[List.size_toArray]<;>lia) (by lia) (by rw[hj];simpa using ew) ⟨rfl,fin⟩) hs
theorem c0x:IxR X (rIxT X.K):=by
 intro value slice pins s σ H x y v u Q I rx ry h hs
 obtain⟨p,xs,i,z,rfl,rfl,hq,he,q⟩:=h
 cases rx
 obtain⟨t,rfl⟩:=ry
 obtain⟨its,r,pl,hz⟩:=I.tuple hq
 obtain⟨j,h1,h2,h3,h4,h5⟩:=b1A he
 obtain⟨w,ew,rw'⟩:=r.get h2
 have hl:=r.length
 have hn:=a7d
 have fin:EP X pins σ Q w s:=⟨z,H,I,rw',q⟩
 exact subscriptTail_builtinR (x:=w) pl.typeIs slot_tuple_getitem.lookup
  (getItem_tuple (j:=j) (Q:=fun r s'=>r=w∧EP X pins σ Q r s') pl (by lia) (by lia) (by rw[List.size_toArray,← hl];exact h1) (by simpa using ew) ⟨rfl,fin⟩) hs
theorem c0y:IxR X rIxS:=by
 intro value slice pins s σ H x y v u Q I rx ry h hs
 obtain⟨z,i,c,rfl,rfl,hz,he,q⟩:=h
 obtain⟨t,rfl⟩:=rx
 obtain⟨t',rfl⟩:=ry
 obtain⟨j,h1,h2,h3,h4,h5⟩:=b1A he
 have hl:z.cps.toList.length=z.length:=by simp [Str.length]
 rw[hl] at h1 h4 h5
 have hn:=a7d
 exact tail_any (typeIs_str s z t) slot_str_getitem.lookup (getItem_str (c:=c) (by
  have e1:decide (i < -(2 ^ 63:Int))=false:=decide_eq_false (by lia)
  have e2:decide (i ≥ 2 ^ 63)=false:=decide_eq_false (by lia)
  rw[e1,e2,Bool.or_false]) (by rw[h1];simpa using h2) ⟨.str ⟨#[c]⟩,H,I.tok _,⟨_,rfl⟩,q⟩) hs
theorem b2U (its:List Value) (n j:Nat) (u:Value):Obj.mapSeq (·.setIfInBounds j u) { cls:=.type "list",data:=.seq its.toArray n }={ cls:=.type "list",data:=.seq (its.set j u).toArray n }:=by
 simp [Obj.mapSeq]
theorem Inv.lst {pins:List (Addr × Obj)} {σ:St} {H:Hp} {s:Shared} {p:Addr} {xs:List V} (I:Inv X pins σ H s) (h:H p=some (.lst xs)) :
  ∃ (its:List Value) (n:Nat),Vals xs its∧s.heap.get? p=some { cls:=.type "list",data:=.seq its.toArray n }∧xs.length≤sizeLine:=by
 obtain⟨z,its,n,r,e⟩:=I.hok p _ h
 exact⟨its,n,r,e,z⟩
theorem Inv.lstUpd {pins:List (Addr × Obj)} {σ:St} {H:Hp} {s:Shared} {p:Addr} {xs ys:List V} {its its':List Value} {n n':Nat} {f:Obj→Obj} (I:Inv X pins σ H s) (h:H p=some (.lst xs))
  (ho:s.heap.get? p=some { cls:=.type "list",data:=.seq its.toArray n }) (hf:f { cls:=.type "list",data:=.seq its.toArray n }={ cls:=.type "list",data:=.seq its'.toArray n' }) (r:Vals ys its') (hz:ys.length≤sizeLine) (t:Nat) :
  Inv X pins σ (upd H p (.lst ys)) { s with heap:=s.heap.update p f,toks:=t }:=by
 have e:(s.heap.update p f).get? p=some { cls:=.type "list",data:=.seq its'.toArray n' }:=by
  rw[Heap.get?_update_self f ho (by rw[hf]<;>rfl),hf]
 refine I.write (x:=p) (e:=p) (by rw[h];trivial) (.inl rfl) (fun b u hb q=>(Heap.get?_update_other _ _ (Ne.symm hb)).trans q) ⟨_,e⟩ ?_
 exact⟨hz,its',n',r,e⟩
noncomputable def c1n:V→V→V→Hp→(Hp→Prop)→Prop:=fun o i v H Q=>∃ p xs k j,o=.ref p∧i=.int k∧H p=some (.lst xs)∧ixN xs.length k=some j∧Q (upd H p (.lst (xs.set j v)))
theorem b5w:PSet X c1n:=by
 intro pins s σ H o i v ov iv u Q I ro ri rv h
 obtain⟨p,xs,k,j,rfl,rfl,hp,hj,q⟩:=h
 cases ro
 obtain⟨t,rfl⟩:=ri
 obtain⟨its,n,r,ho,hz⟩:=I.lst hp
 obtain⟨h1,h2,h3,h4⟩:=b4B hj
 have hl:=r.length
 have hn:=a7d
 have I':Inv X pins σ (upd H p (.lst (xs.set j v))) { s with heap:=s.heap.update p (Obj.mapSeq (·.setIfInBounds j u)) } :=
  I.lstUpd hp ho (b2U its n j u) (r.set rv j) (by rw[List.length_set];exact hz) s.toks
 by_cases h0:0≤k
 ·have hk:k.toNat=j:=by
   rw[seqIndex_of h0 h4] at h1
   exact Option.some.inj h1
  exact PySem.W.ki_setAt ho h0 (by lia) (by rw[List.size_toArray,← hl];exact h4) (by rw[hk];exact⟨_,I',q⟩)
 ·have hk:(k+(its.toArray.size:Int)).toNat=j:=by
   rw[seqIndex_neg (by lia) h3] at h1
   rw[List.size_toArray,← hl]
   exact Option.some.inj h1
  exact PySem.W.ki_setBack ho (by lia) (by rw[List.size_toArray,← hl];exact h3) (by lia) (by rw[hk];exact⟨_,I',q⟩)
theorem a9m (lo hi:Option Int) (n:Nat):(sliceBounds lo hi none n).1=((HT.sIx n 0 lo:Nat):Int)∧(sliceBounds lo hi none n).2.1=((HT.sIx n n hi:Nat):Int)∧(sliceBounds lo hi none n).2.2=1:=by
 refine⟨?_,?_,rfl⟩
 ·cases lo with
  | none=>simp [sliceBounds,HT.sIx]
  | some i =>
    simp only[sliceBounds,HT.sIx,Option.getD_none,show (1:Int) > 0 by decide,if_true]
    by_cases h:i < 0
    ·simp only[h,if_true]<;>lia
    ·simp only[h,if_false]<;>lia
 ·cases hi with
  | none=>simp [sliceBounds,HT.sIx]
  | some i =>
    simp only[sliceBounds,HT.sIx,Option.getD_none,show (1:Int) > 0 by decide,if_true]
    by_cases h:i < 0
    ·simp only[h,if_true]<;>lia
    ·simp only[h,if_false]<;>lia
theorem a8m (its:List Value) (lo hi:Option Int):slicePick its.toArray lo hi none=((its.drop (HT.sIx its.length 0 lo)).take (HT.sIx its.length its.length hi - HT.sIx its.length 0 lo)).toArray:=by
 obtain⟨h1,h2,h3⟩:=a9m lo hi its.toArray.size
 unfold slicePick
 rw[h1,h2,h3]
 simp only[sliceRange_one,pick_run,List.size_toArray]<;>rfl
noncomputable def rSlL (K:PySem.W.Frag):V→Option Int→Option Int→Hp→VK→Prop:=fun x lo hi H Q=>∃ a xs,x=.ref a∧SqL K H a xs∧∀ p,H p=none→Q (.ref p) (upd H p (.lst (cutV xs lo hi)))
theorem b7A:SlR X (rSlL X.K):=by
 intro pins s σ H x v vl vu lo hi sl Q I rx hs pl pu h
 obtain⟨a,xs,rfl,hx,q⟩:=h
 cases rx
 obtain⟨its,r,ht,hz⟩:=I.list hx
 have hlen:=r.length
 refine⟨"list",_,slot_list_getitem.lookup,ht.isList.typeIs,?_⟩
 refine wpAny_getItem_list_slice ht.isList hs pl pu .none (by simp) ?_ (by rw[List.size_toArray]<;>lia)
 rw[a8m,← hlen]
 refine⟨.ref s.heap.objs.size,_,I.laid (t':=s.toks) (o:=.lst (cutV xs lo hi)) (fun b ob q=>Heap.get?_push_of_some _ q) (Nat.le_refl _) ?_,rfl,q _ (I.hok.fresh (Nat.le_refl _))⟩
 exact⟨Nat.le_trans (a7r xs lo hi) hz,_,0,(r.drop (HT.sIx xs.length 0 lo)).take (HT.sIx xs.length xs.length hi - HT.sIx xs.length 0 lo),Heap.get?_push_size _ rfl⟩
noncomputable def a7E:V→Bool
 | .non=>true
 | .bl _=>true
 | .int _=>true
 | .str _=>true
 | _=>false
noncomputable def eqV:V→V→Bool
 | .non,.non=>true
 | .bl a,.bl b=>a == b
 | .bl a,.int b=>(if a then 1 else 0) == b
 | .int a,.bl b=>a == (if b then 1 else 0)
 | .int a,.int b=>a == b
 | .str a,.str b=>a == b
 | _,_=>false
theorem c0N {A:Around} {s:Shared} {y x:V} {u v:Value} (ry:RelV y u) (rx:RelV x v) (fy:a7E y=true) (fx:a7E x=true):SeqAt.EqAt A s u v (eqV y x):=by
 cases y with
 | non =>
   cases ry
   cases x with
   | non=>cases rx;exact SeqAt.EqAt.same _
   | bl b=>cases rx;exact SeqAt.EqAt.none_bool b
   | int b=>obtain⟨t,rfl⟩:=rx;exact SeqAt.EqAt.none_int b t
   | str b=>obtain⟨t,rfl⟩:=rx;exact SeqAt.EqAt.none_str b t
   | _=>exact absurd (show false=true from fx) Bool.false_ne_true
 | bl a =>
   cases ry
   cases x with
   | non=>cases rx;exact SeqAt.EqAt.bool_none a
   | bl b=>cases rx;exact SeqAt.EqAt.bool_bool a b
   | int b=>obtain⟨t,rfl⟩:=rx;exact SeqAt.EqAt.bool_int a b t
   | str b=>obtain⟨t,rfl⟩:=rx;exact SeqAt.EqAt.bool_str a b t
   | _=>exact absurd (show false=true from fx) Bool.false_ne_true
 | int a =>
   obtain⟨t',rfl⟩:=ry
   cases x with
   | non=>cases rx;exact SeqAt.EqAt.int_none a t'
   | bl b=>cases rx;exact SeqAt.EqAt.int_bool a t' b
   | int b=>obtain⟨t,rfl⟩:=rx;exact SeqAt.EqAt.int_int a t' b t
   | str b=>obtain⟨t,rfl⟩:=rx;exact SeqAt.EqAt.int_str a t' b t
   | _=>exact absurd (show false=true from fx) Bool.false_ne_true
 | str a =>
   obtain⟨t',rfl⟩:=ry
   cases x with
   | non=>cases rx;exact SeqAt.EqAt.str_none a t'
   | bl b=>cases rx;exact SeqAt.EqAt.str_bool a t' b
   | int b=>obtain⟨t,rfl⟩:=rx;exact SeqAt.EqAt.str_int a t' b t
   | str b=>obtain⟨t,rfl⟩:=rx;exact SeqAt.EqAt.str_str a t' b t
   | _=>exact absurd (show false=true from fx) Bool.false_ne_true
 | _=>exact absurd (show false=true from fy) Bool.false_ne_true
noncomputable def eqU (x:V) (u:Value):Bool:=match u with
 | .none=>eqV .non x
 | .bool b=>eqV (.bl b) x
 | .int i _=>eqV (.int i) x
 | .str z _=>eqV (.str z) x
 | _=>false
theorem b7m {x y:V} {u:Value} (r:RelV y u) (f:a7E y=true):eqU x u=eqV y x:=by
 cases y with
 | non=>cases r;rfl
 | bl b=>cases r;rfl
 | int i=>obtain⟨t,rfl⟩:=r;rfl
 | str z=>obtain⟨t,rfl⟩:=r;rfl
 | _=>exact absurd (show false=true from f) Bool.false_ne_true
theorem a7u {x:V}:∀ {xs:List V} {us:List Value},Vals xs us→xs.all a7E=true→us.any (eqU x)=xs.any fun y=>eqV y x
 | _,_,.nil,_=>rfl
 | y :: xs,u :: us,.cons r t,f=>by
   rw[List.all_cons,Bool.and_eq_true] at f
   rw[List.any_cons,List.any_cons,b7m r f.1,a7u t f.2]
theorem a5N {A:Around} {s:Shared} {x:V} {v:Value} (rx:RelV x v) (fx:a7E x=true):∀ {xs:List V} {us:List Value},Vals xs us→xs.all a7E=true→∀ u∈us,SeqAt.EqAt A s u v (eqU x u)
 | _,_,.nil,_=>fun u hu=>by cases hu
 | y :: xs,u :: us,.cons r t,f=>fun u' hu=>by
   rw[List.all_cons,Bool.and_eq_true] at f
   rcases List.mem_cons.mp hu with rfl | hu
   ·rw[b7m r f.1];exact c0N r rx f.1 fx
   ·exact a5N rx fx t f.2 u' hu
noncomputable def inV (x:V) (xs:List V):Bool:=xs.any fun y=>eqV y x
noncomputable def rIn (K:PySem.W.Frag) (neg:Bool):R2:=fun x y H Q=>∃ p xs,y=.ref p∧(SqL K H p xs∨SqT K H p xs)∧a7E x=true∧xs.all a7E=true∧Q (.bl (if neg then !inV x xs else inV x xs)) H
theorem b4c:OpR X (compareOp .In) (rIn X.K false):=by
 intro pins s σ H x y v u Q I rx ry h
 obtain⟨p,xs,rfl,hq,fx,fs,q⟩:=h
 cases ry
 rcases hq with hq | hq
 ·obtain⟨its,r,pl,hz⟩:=I.list hq
  refine SeqAt.in_listAt (eqU x) pl.isList (fun w hw=>a5N rx fx r fs w (by simpa using hw)) ⟨.bl _,H,I,rfl,?_⟩
  rw[show its.toArray.any (eqU x)=its.any (eqU x) by simp,a7u r fs]
  exact q
 ·obtain⟨its,r,pl,hz⟩:=I.tuple hq
  refine SeqAt.in_tupleAt (eqU x) pl (fun w hw=>a5N rx fx r fs w (by simpa using hw)) ⟨.bl _,H,I,rfl,?_⟩
  rw[show its.toArray.any (eqU x)=its.any (eqU x) by simp,a7u r fs]
  exact q
theorem a9z:OpR X (compareOp .NotIn) (rIn X.K true):=by
 intro pins s σ H x y v u Q I rx ry h
 obtain⟨p,xs,rfl,hq,fx,fs,q⟩:=h
 cases ry
 rcases hq with hq | hq
 ·obtain⟨its,r,pl,hz⟩:=I.list hq
  refine SeqAt.notIn_listAt (eqU x) pl.isList (fun w hw=>a5N rx fx r fs w (by simpa using hw)) ⟨.bl _,H,I,rfl,?_⟩
  rw[show its.toArray.any (eqU x)=its.any (eqU x) by simp,a7u r fs]
  exact q
 ·obtain⟨its,r,pl,hz⟩:=I.tuple hq
  refine SeqAt.notIn_tupleAt (eqU x) pl (fun w hw=>a5N rx fx r fs w (by simpa using hw)) ⟨.bl _,H,I,rfl,?_⟩
  rw[show its.toArray.any (eqU x)=its.any (eqU x) by simp,a7u r fs]
  exact q
theorem a4O:a5V X (.builtin "len") (fun xs H Q=>∃ p ys,xs=[.ref p]∧(SqL X.K H p ys∨SqT X.K H p ys)∧Q (.int ys.length) H):=by
 intro pins s σ H xs us Q I r h
 obtain⟨p,ys,rfl,hq,q⟩:=h
 obtain⟨u,rfl,rx⟩:=a5o r
 cases rx
 have hn:=a7d
 rcases hq with hq | hq
 ·obtain⟨its,r',pl,hz⟩:=I.list hq
  have hlen:=r'.length
  exact Calls.call_len_list pl.isList (by simp only[List.size_toArray]<;>lia) ⟨.int ys.length,H,I.tok _,⟨s.toks+1,by rw[List.size_toArray,hlen]⟩,q⟩
 ·obtain⟨its,r',pl,hz⟩:=I.tuple hq
  have hlen:=r'.length
  exact len_tuple pl (by simp only[List.size_toArray]<;>lia) ⟨.int ys.length,H,I.tok _,⟨s.toks+1,by rw[List.size_toArray,hlen]⟩,q⟩
theorem b0t:a5V X (.builtin "len") (fun xs H Q=>∃ z,xs=[.str z]∧z.length≤sizeLine∧Q (.int z.length) H):=by
 intro pins s σ H xs us Q I r h
 obtain⟨z,rfl,hz,q⟩:=h
 obtain⟨u,rfl,t,rfl⟩:=a5o r
 have hn:=a7d
 exact len_str (by lia) ⟨.int z.length,H,I.tok _,⟨_,rfl⟩,q⟩
theorem a4N:a5V X (.type "list") (fun xs H Q=>∃ p ys,xs=[.ref p]∧(SqL X.K H p ys∨SqT X.K H p ys)∧∀ l,H l=none→Q (.ref l) (upd H l (.lst ys))):=by
 intro pins s σ H xs us Q I r h
 obtain⟨p,ys,rfl,hq,q⟩:=h
 obtain⟨u,rfl,rx⟩:=a5o r
 cases rx
 have fin:∀ (its:List Value),Vals ys its→ys.length≤sizeLine→∀ (h':Heap) (c':Nat),(∀ b o',s.heap.get? b=some o'→h'.get? b=some o') →
   h'.get? s.heap.objs.size=some { cls:=.type "list",dict:=none,data:=.seq its.toArray c',slots:=#[] }→EP X pins σ Q (.ref s.heap.objs.size) { s with heap:=h' }:=fun its r' hz h' c' kp e =>
  ⟨.ref s.heap.objs.size,_,I.laid (t':=s.toks) kp (Nat.le_refl _) (show a2a X.prog X.w _ h' _ (.lst ys) from ⟨hz,its,c',r',e⟩),rfl,q _ (I.hok.fresh (Nat.le_refl _))⟩
 rcases hq with hq | hq
 ·obtain⟨its,r',pl,hz⟩:=I.list hq
  have hlen:=r'.length
  obtain⟨o,ho,hc,n,hd⟩:=pl.isList
  exact call_list_seq p (.inl rfl) ho hc hd (fun h' c' kp e=>fin its r' hz h' c' kp e) (by simp only[List.size_toArray]<;>lia)
 ·obtain⟨its,r',pl,hz⟩:=I.tuple hq
  have hlen:=r'.length
  obtain⟨o,ho,hc,n,hd⟩:=pl
  exact call_list_seq p (.inr rfl) ho hc hd (fun h' c' kp e=>fin its r' hz h' c' kp e) (by simp only[List.size_toArray]<;>lia)
theorem a4t:a5V X (.type "tuple") (fun xs H Q=>∃ p ys,xs=[.ref p]∧((SqL X.K H p ys∧∀ l,H l=none→Q (.ref l) (upd H l (.tup ys)))∨(SqT X.K H p ys∧Q (.ref p) H))):=by
 intro pins s σ H xs us Q I r h
 obtain⟨p,ys,rfl,h⟩:=h
 obtain⟨u,rfl,rx⟩:=a5o r
 cases rx
 rcases h with ⟨hq,q⟩ | ⟨hq,q⟩
 ·obtain⟨its,r',pl,hz⟩:=I.list hq
  have hlen:=r'.length
  refine call_tuple_list pl.isList (fun h' kp=>?_) (by simp only[List.size_toArray]<;>lia)
  have I1:Inv X pins σ H { s with heap:=h' }:=I.kept (t':=s.toks) kp
  have I2:Inv X pins σ (upd H h'.objs.size (.tup ys)) { s with heap:=h'.push { cls:=.type "tuple",data:=.seq its.toArray } } :=
   I1.laid (t':=s.toks) (fun b o e=>Heap.get?_push_of_some _ e) (Nat.le_refl _) (show a2a X.prog X.w _ _ _ (.tup ys) from ⟨hz,its,r',a3E.new _ _⟩)
  exact⟨.ref h'.objs.size,_,I2,rfl,q _ (I1.hok.fresh (Nat.le_refl _))⟩
 ·obtain⟨its,r',pl,hz⟩:=I.tuple hq
  exact call_tuple_same pl ⟨.ref p,H,I,rfl,q⟩
noncomputable def tyV (K:PySem.W.Frag) (T:String) (x:V) (H:Hp):Prop:=match x with
 | .str _=>T="str"
 | .int _=>T="int"
 | .ref p=>(T="list"∧∃ xs,SqL K H p xs)∨(T="tuple"∧∃ o,K.lookup p=some o∧o.cls=.type "tuple"∧o.dict=none) ∨
   (T="dict"∧((∃ kvs,H p=some (.dK kvs))∨∃ kvs,H p=some (.dT kvs)))∨(T="set"∧∃ S n,H p=some (.set S n))
 | _=>False
theorem b6G {pins:List (Addr × Obj)} {σ:St} {H:Hp} {s:Shared} {T:String} {x:V} {v:Value} (I:Inv X pins σ H s) (r:RelV x v) (ty:tyV X.K T x H) :
  s.TypeIs v T∧∀ a,v=.ref a→∃ ob,s.heap.get? a=some ob∧ob.dict=none:=by
 cases x with
 | str z =>
   obtain⟨t,rfl⟩:=r
   cases (show T="str" from ty)
   exact⟨typeIs_str s z t,fun _ e=>nomatch e⟩
 | int i =>
   obtain⟨t,rfl⟩:=r
   cases (show T="int" from ty)
   exact⟨typeIs_int s i t,fun _ e=>nomatch e⟩
 | ref p =>
   cases r
   rcases ty with ⟨rfl,xs,hq⟩ | ⟨rfl,o,hk,hc,hd⟩ | ⟨rfl,hk⟩ | ⟨rfl,S,n,hk⟩
   ·obtain⟨its,_,pl,_⟩:=I.list hq
    refine⟨pl.isList.typeIs,fun a e=>?_⟩
    cases e
    obtain⟨o,n,e,c,hd,_⟩:=pl
    exact⟨o,e,hd⟩
   ·refine⟨⟨o,I.kIn p o hk,hc⟩,fun a e=>?_⟩
    cases e
    exact⟨o,I.kIn _ o hk,hd⟩
   ·have z:∃ o,s.heap.get? p=some o∧o.ExactDict:=by
     rcases hk with ⟨kvs,hk⟩ | ⟨kvs,hk⟩
     ·obtain⟨_,_,_,_,o,_,_,e,ex,_⟩:=I.hok p _ hk
      exact⟨o,e,ex⟩
     ·obtain⟨_,_,_,_,o,_,_,e,ex,_⟩:=I.hok p _ hk
      exact⟨o,e,ex⟩
    obtain⟨o,e,ex⟩:=z
    refine⟨⟨o,e,ex.1⟩,fun a e2=>?_⟩
    cases e2
    exact⟨o,e,ex.2.1⟩
   ·obtain⟨o,_,_,_,e,ex,_⟩:=I.hok p _ hk
    refine⟨⟨o,e,ex.1⟩,fun a e2=>?_⟩
    cases e2
    exact⟨o,e,ex.2.1⟩
 | _=>exact False.elim ty
noncomputable def tBM (K:PySem.W.Frag) (T:String) (r:V→List V→Hp→VK→Prop) (to:TE) (t:TA):TE:=fun σ H Q=>to σ H fun x H1=>tyV K T x H1∧t σ H1 fun xs H2=>r x xs H2 Q
variable {o e:Expr} {es:List Expr} {to:TE} {t:TA} {name:Str} {apos cpos:Pos} {T id:String} {r:V→List V→Hp→VK→Prop}
theorem c1x (pa:PlainAttrs T) (slot:Slot T name id) (hty:typeOf (.builtin id)=pure (.type "method_descriptor")) (hm:MtR X id r) (ho:PE X o to) (ha:PA X (e :: es) t)
  (hbase:attributeBase o name X.env (eval o X.env)=eval o X.env:=by rfl)
  (hfew:((backTo cpos (starEach (e :: es) X.env)).all (fun x=>!x.1) && (backToKw cpos (keywordEach [] X.env)).all (fun x=>x.1.isSome)
   && decide ((e :: es).length+([]:List Keyword).length+(if ([]:List Keyword).isEmpty then 0 else 1) < 30))=true:=by rfl)
  (hline:(apos.endLine == cpos.line)=true:=by rfl) (hs:starEach (e :: es) X.env=(false,eval e X.env) :: starEach es X.env:=by rfl) (hplain:(backTo cpos (starEach es X.env)).any (·.1)=false:=by rfl) :
  PE X (.Call (.Attribute o name apos) (e :: es) [] cpos) (tBM X.K T r to t):=by
 intro pins s σ H Q I h
 refine wpAny_Call_method_late hbase hfew hline rfl (thn (ho pins s σ H _ I h) fun v s1 ⟨x,H1,I1,r1,ty,q1⟩=>?_)
 obtain⟨h1,h2⟩:=b6G I1 r1 ty
 refine⟨T,id,pa,slot,hty,h1,h2,?_⟩
 have hA:=ha cpos pins s1 σ H1 _ I1 q1
 rw[hs] at hA⊢
 refine Calls.callWith_builtin (by show (false || (backTo cpos (starEach es X.env)).any (·.1))=false;rw[hplain]<;>rfl) (Calls.evalArgs_plain ?_)
 exact thn hA fun us s2 ⟨vs,H2,I2,r2,q2⟩=>hm pins s2 σ H2 x vs v us Q I2 r1 r2 q2
end
noncomputable def MtM (X:Cx) (id:String) (r:V→List V→Hp→VK→Prop):Prop :=
 ∀ (pins:List (Addr × Obj)) (s:Shared) (σ:St) (H:Hp) (x:V) (xs:List V) (v:Value) (us:List Value) (Q:VK),Inv X pins σ H s→RelV x v→Vals xs us→r x xs H Q →
   wpAny (model X.prog X.w) X.A (call (.builtin id) (v :: us)) (EP X pins σ Q) X.xe s
theorem Vals.one:∀ {x:V} {us:List Value},Vals [x] us→∃ u,us=[u]∧RelV x u
 | _,_,.cons r .nil=>⟨_,rfl,r⟩
theorem Vals.rep {xs:List V} {us:List Value} (h:Vals xs us):∀ k:Nat,Vals (List.replicate k xs).flatten (List.replicate k us).flatten
 | 0=>.nil
 | k+1=>by
   rw[List.replicate_succ,List.replicate_succ,List.flatten_cons,List.flatten_cons]
   exact Vals.append h (Vals.rep h k)
theorem a7o (its:List Value):∀ (k:Nat) (acc:List Value),
  List.foldl (fun x1 x2=>x1++x2) acc.toArray (List.replicate k its.toArray)=(acc++(List.replicate k its).flatten).toArray
 | 0,acc=>by simp
 | k+1,acc=>by
   have e:acc.toArray++its.toArray=(acc++its).toArray:=by simp
   have e2:(acc++its)++(List.replicate k its).flatten=acc++(List.replicate (k+1) its).flatten:=by
    rw[List.replicate_succ,List.flatten_cons,List.append_assoc]
   rw[← e2,← a7o its k (acc++its),← e,List.replicate_succ,List.foldl_cons]
section
variable {X:Cx} {pins:List (Addr × Obj)} {σ:St} {H:Hp} {s:Shared} {l b:Addr} {xs ys zs:List V}
theorem Inv.lset {its its':List Value} {n:Nat} {f:Array Value→Array Value} {t':Nat} (I:Inv X pins σ H s) (hH:H l=some (.lst xs))
  (e:s.heap.get? l=some { cls:=.type "list",data:=.seq its.toArray n }) (hf:f its.toArray=its'.toArray) (hv:Vals ys its') (hz:ys.length≤sizeLine) :
  Inv X pins σ (upd H l (.lst ys)) { s with heap:=s.heap.update l (Obj.mapSeq f),toks:=t' }:=by
 have q:=PySem.IsL.update e f
 rw[hf] at q
 refine I.write (x:=l) (e:=l) (by rw[hH];exact trivial) (.inl rfl) (fun b' u hb hu=>(Heap.get?_update_other s.heap (Obj.mapSeq f) (Ne.symm hb)).trans hu) ⟨_,q⟩ ?_
 exact⟨hz,its',_,hv,q⟩
theorem Inv.lnew {its:List Value} {t':Nat} (I:Inv X pins σ H s) (hv:Vals ys its) (hz:ys.length≤sizeLine) :
  Inv X pins σ (upd H s.heap.objs.size (.lst ys)) { s with heap:=s.heap.push { cls:=.type "list",data:=.seq its.toArray },toks:=t' } :=
 I.laid (fun _ _ q=>Heap.get?_push_of_some _ q) (Nat.le_refl _) ⟨hz,its,0,hv,Heap.get?_push_size _ rfl⟩
theorem Inv.fresh (I:Inv X pins σ H s):H s.heap.objs.size=none:=I.hok.fresh (Nat.le_refl _)
theorem Inv.lstM (I:Inv X pins σ H s) (hH:H l=some (.lst xs)):xs.length≤sizeLine∧∃ (its:List Value) (n:Nat),Vals xs its∧xs.length=its.length∧s.heap.get? l=some { cls:=.type "list",data:=.seq its.toArray n }:=by
 obtain⟨z,its,n,r,e⟩:=I.hok l _ hH
 exact⟨z,its,n,r,r.length,e⟩
theorem a8J {n:Nat} (h:n≤sizeLine):Builtin.List.listTooLong n=false:=by
 unfold Builtin.List.listTooLong
 exact decide_eq_false (by lia)
end
section
variable {X:Cx}
noncomputable def b7S:V→List V→Hp→VK→Prop:=fun x vs H Q=>∃ l xs y,x=.ref l∧vs=[y]∧H l=some (.lst xs)∧xs.length < sizeLine∧Q .non (upd H l (.lst (xs++[y])))
theorem b4p:MtM X "list.append" b7S:=by
 intro pins s σ H x vs v us Q I rx rv h
 obtain⟨l,xs,y,rfl,rfl,hH,hz,q⟩:=h
 cases rx
 obtain⟨u,rfl,ru⟩:=rv.one
 obtain⟨z,its,n,r,hl,e⟩:=I.lstM hH
 refine call_meets F.slot_list_append ⟨_,e,rfl⟩ F.entry_list_append (F.args_list_append_2 _ _) (PySem.list_append l its.toArray n u (by rw[List.size_toArray];lia)) ⟨e,?_⟩
 refine⟨.non,_,I.lset (its':=its++[u]) hH e (by simp) (r.append (.cons ru .nil)) ?_,rfl,q⟩
 rw[List.length_append,List.length_singleton]
 lia
noncomputable def b7R:V→List V→Hp→VK→Prop:=fun x vs H Q=>∃ l b xs zs,x=.ref l∧vs=[.ref b]∧H l=some (.lst xs)∧H b=some (.lst zs)∧xs.length+zs.length≤sizeLine∧Q .non (upd H l (.lst (xs++zs)))
theorem b4o:MtM X "list.extend" b7R:=by
 intro pins s σ H x vs v us Q I rx rv h
 obtain⟨l,b,xs,zs,rfl,rfl,hH,hB,hz,q⟩:=h
 cases rx
 obtain⟨u,rfl,ru⟩:=rv.one
 cases ru
 obtain⟨z,its,n,r,hl,e⟩:=I.lstM hH
 obtain⟨z2,its2,n2,r2,hl2,e2⟩:=I.lstM hB
 have hsz:its.toArray.size+its2.toArray.size≤sizeLine:=by rw[List.size_toArray,List.size_toArray];lia
 have hlong:¬(!its.toArray.isEmpty && Builtin.List.listTooLong (its.toArray.size+its2.toArray.size))=true:=by
  rw[a8J hsz,Bool.and_false]
  exact Bool.false_ne_true
 refine call_meets F.slot_list_extend ⟨_,e,rfl⟩ F.entry_list_extend (F.args_list_extend_2 _ _)
  (AutoSeq1.list_extend_list_list_0 l its.toArray n b its2.toArray n2 hlong (by rw[List.size_toArray];lia) (by lia)) ⟨e,e2,?_⟩
 refine⟨.non,_,I.lset (its':=its++its2) hH e (by simp) (r.append r2) ?_,rfl,q⟩
 rw[List.length_append]
 lia
noncomputable def rCat:R2:=fun x y H Q=>∃ l b xs zs,x=.ref l∧y=.ref b∧H l=some (.lst xs)∧H b=some (.lst zs)∧xs.length+zs.length≤sizeLine∧∀ p,H p=none→Q (.ref p) (upd H p (.lst (xs++zs)))
theorem c0k:OpR X (binaryOp .Add) rCat:=by
 intro pins s σ H x y v u Q I rx ry h
 obtain⟨l,b,xs,zs,rfl,rfl,hH,hB,hz,q⟩:=h
 cases rx
 cases ry
 obtain⟨z,its,n,r,hl,e⟩:=I.lstM hH
 obtain⟨z2,its2,n2,r2,hl2,e2⟩:=I.lstM hB
 refine PySem.P.add_list e e2 ?_ (by rw[List.size_toArray,List.size_toArray];lia)
 have ea:its.toArray++its2.toArray=(its++its2).toArray:=by simp
 rw[ea]
 exact⟨.ref _,_,I.lnew (t':=s.toks) (r.append r2) (by rw[List.length_append];lia),rfl,q _ I.fresh⟩
noncomputable def rRep:R2:=fun x y H Q=>∃ l k xs,x=.ref l∧y=.int k∧H l=some (.lst xs)∧-(2 ^ 63)≤k∧k < 2 ^ 63∧xs.length*k.toNat≤sizeLine ∧
 ∀ p,H p=none→Q (.ref p) (upd H p (.lst (List.replicate k.toNat xs).flatten))
theorem b1m {α:Type} (xs:List α) (k:Nat):(List.replicate k xs).flatten.length=k*xs.length:=by
 induction k with
 | zero=>simp
 | succ k ih=>rw[List.replicate_succ,List.flatten_cons,List.length_append,ih,Nat.succ_mul,Nat.add_comm]
theorem c0f:OpR X (binaryOp .Mult) rRep:=by
 intro pins s σ H x y v u Q I rx ry h
 obtain⟨l,k,xs,rfl,rfl,hH,h1,h2,hz,q⟩:=h
 cases rx
 obtain⟨t,rfl⟩:=ry
 obtain⟨z,its,n,r,hl,e⟩:=I.lstM hH
 have hlen:its.toArray.size*k.toNat≤sizeLine:=by rw[List.size_toArray,← hl];exact hz
 have hcap:¬its.toArray.size*k.toNat > (2 ^ 63 - 1) / 8:=by
  have:(sizeLine:Nat)≤(2 ^ 63 - 1) / 8:=by decide
  lia
 have hfit:¬(!Builtin.List.listFitsIndex k)=true:=by
  rw[fitsIndex_both h1 h2]
  exact Bool.false_ne_true
 have hlong:¬Builtin.List.listTooLong (its.toArray.size*k.toNat)=true:=by
  rw[a8J hlen]
  exact Bool.false_ne_true
 have hnew:List.foldl (fun x1 x2=>x1++x2) #[] (List.replicate (if its.toArray.isEmpty=true then 0 else k.toNat) its.toArray)=(List.replicate k.toNat its).flatten.toArray:=by
  have f0:∀ m:Nat,List.foldl (fun x1 x2=>x1++x2) #[] (List.replicate m its.toArray)=(List.replicate m its).flatten.toArray:=fun m=>by
   have:=a7o its m []
   rw[List.nil_append] at this
   exact this
  rw[f0]
  cases its with
  | nil=>simp
  | cons a r'=>rw[if_neg (by simp)]
 refine wpAny_binaryOp_repeat_ref (T:="list") (U:="int") (by decide) ⟨_,e,rfl⟩ (fun s'=>typeIs_int s' k t) noFill_list_mul F.fills_int_mul F.slot_int_rmul repeat_list F.slot_int_index.lookup
  (call_meets F.slot_int_rmul (typeIs_int s k t) F.entry_int_rmul (F.args_int_rmul_2 _ _) (int___rmul___int_list k t l its.toArray n)
   ⟨e,rfl,⟨_,e,rfl⟩,call_meets F.slot_list_mul ⟨_,e,rfl⟩ F.entry_list_mul (F.args_list_mul_2 _ _) (AutoListH.list___mul___list_int_3 l its.toArray n k t hfit hcap hlong) ⟨e,?_⟩⟩)
 rw[hnew]
 exact⟨.ref _,_,I.lnew (t':=s.toks) (r.rep k.toNat) (by rw[b1m,Nat.mul_comm];exact hz),rfl,q _ I.fresh⟩
end
section
variable {prog:Program} {w:World} {A:Around} {E:Value→Shared→Prop} {s:Shared}
end
section
variable {X:Cx}
end
end L2
namespace Att
open PySem PySem.W PySem.Calls PyProof.Rows
theorem a7i {P:Params} {h:Heap}:∀ (ns:List Int) (vs:List Value),WellAll P h vs (ns.map WData.int)→IntsAre vs ns:=by
 intro ns
 induction ns with
 | nil =>
   intro vs w
   rw[List.map_nil] at w
   cases w
   exact .nil
 | cons n ns ih =>
   intro vs w
   rw[List.map_cons] at w
   cases w with
   | cons a b =>
     cases a
     exact .cons _ _ (ih _ b)
theorem b3G {l:OpenLaw} {n:Nat} (hn:l.most=some n) {P:Params} {h:Heap} {args:List WData} {vals:List Value}
  (hpre:l.row.toRowW.claim.pre args=true) (hwl:WellAll P h vals args) :
  ∃ a vs ns,vals=[Value.ref a]∧args=[WData.list (ns.map WData.int)]∧h.get? a=some { cls:=.type "list",data:=.seq vs.toArray }∧IntsAre vs ns∧ns.length≤n:=by
 have hsh:WShape.hasAll [] args [.list .int]=true:=(pre_splitW hpre).1
 have hc:l.pre.holds [] { args:=args }=true:=(pre_splitW hpre).2
 obtain⟨d,r,rfl,h1,h2⟩:=hasAllW_cons hsh
 obtain rfl:=hasAllW_nil h2
 obtain⟨xs,rfl,h3⟩:=hasW_list h1
 obtain⟨ns,rfl⟩:=items_int h3
 have hlen:ns.length≤n:=by
  unfold OpenLaw.pre at hc
  have h4:(WTm.not (.lt (.lit (.int (n:Int))) (.len (.arg 0)))).holds [] { args:=[.list (ns.map .int)] }=true:=by
   have h4:=(holds_andW hc).1
   rw[hn] at h4
   exact h4
  have h5:=condW_of h4 (w_not (w_lt w_lit (w_len_list (w_arg rfl))))
  rw[List.length_map] at h5
  refine Nat.le_of_not_lt fun q=>?_
  have q':(n:Int) < ((ns.length:Nat):Int):=by lia
  first
   | (rw[decide_eq_true q'] at h5;exact absurd h5 (by decide))
   | (simp at h5;lia)
 cases hwl with
 | cons w1 w2 =>
   cases w2
   cases w1 with
   | list ho hall=>exact⟨_,_,ns,rfl,rfl,ho,a7i ns _ hall,hlen⟩
theorem b3T (l:OpenLaw) (args:List WData):l.row.toRowW.claim.post args (.bool true) args=true :=
 postW_of (r:=l.row.toRowW) (X:=(true == true))
  (show WShape.has [] (.bool true) .bool=true by first | rfl | decide | simp [WShape.has,WShape.arms,WShape.armsAll])
  (show (WTm.eq .res (.lit (.bool true))).value [] { args:=args,res:=some (.bool true),after:=args }=some (.bool (true == true)) from w_eq_bool (w_res rfl) w_lit) rfl
theorem attach_call {l:OpenLaw} {n:Nat} {q:Program} {loose:List Str} {XP:(Str→Option Value)→Heap→Prop} {YP:World→Heap→Prop} {d:DefRec}
  (hn:l.most=some n) (hdf:d.params.defaults=[])
  (call:∀ (w:World) (s₀ s₁:Shared) (mg mb:Str→Option Value) (fa:Addr) (o:Obj) (pm cd doc:Value) (a:Addr) (vs:List Value) (ns:List Int),
   Ground q loose [] XP w s₀ mg mb s₁.heap→YP w s₁.heap →
   s₁.heap.get? fa=some o→o.data=.func (docDef d.name d.params d.body d.scope pm cd doc)→s₁.heap.CodeRec cd d.name→mg d.name=some (.ref fa) →
   s₁.heap.get? a=some { cls:=.type "list",data:=.seq vs.toArray }→IntsAre vs ns→ns.length≤n→s₁.gens=#[] →
   codeAny (model l.prog w) callerA (.call (.ref fa) ⟨[.ref a],[]⟩) (fun r s'=>r=.ok (.ret (.bool true))∧OldK s₁.heap s'.heap∧s'.os=s₁.os∧AllBare s'.gens) s₁) :
  WalkO q loose XP YP l.row.toRowW d [] (fun f vs=>PySem.call f vs):=by
 intro w s₀ s₁ mg mb G Y fa o pm cd doc dV kV ho hd hcd hD hmg hg args vals as hpre hlay hrd hwl hlo
 obtain rfl:dV=.none:=Dflts.none hD hdf
 obtain rfl:kV=.none:=Dflts.noKw hD
 obtain⟨a,vs,ns,rfl,rfl,hobj,hints,hlen⟩:=b3G hn hpre hwl
 refine enter_call (codeAny_mono (call w s₀ s₁ mg mb fa o pm cd doc a vs ns G Y ho (fd_plain hd) hcd hmg hobj hints hlen hg) fun r s' hq=>?_)
 obtain⟨rfl,h2,h3,h4⟩:=hq
 exact⟨.inl ⟨.bool true,.bool true,[],rfl,fun _=>rfl,.bool true,b3T l _,fun _=>⟨List.Pairwise.nil,fun _ hm=>(nomatch hm)⟩⟩,h2,h3,h4⟩
section
variable {prog:Program} {w:World} {A:Around} {E:Value→Shared→Prop} {s:Shared} {K:Frag}
end
end Att
namespace L2
open PySem PySem.Spec PyProof.Rows
theorem a6O:∀ {vs:List Value} {ns:List Int},IntsAre vs ns→Vals (ns.map V.int) vs
 | _,_,.nil=>.nil
 | _,_,.cons n t h=>.cons ⟨t,rfl⟩ (a6O h)
noncomputable def Only (H:Hp):Prop:=∀ b,H b=none∨∃ o xs,H b=some (.frz o (.lst xs))
theorem b6g {P:Program} {w:World} {K:PySem.W.Frag} {mg mb:Str→Option Value} {CX:CXT} {k:Nat} {fa a:Addr} {fd:FuncData} {x:Str} {sp:Sp} {s₁:Shared} {vs:List Value} {ns:List Int}
  (KX:K.In s₁.heap) (hns:s₁.heap.Ns mainGlobals mg) (hb:s₁.heap.Ns builtinsNs mb) (hbb:∀ x:Str,x≠"__name__"→mb x=bootBuiltins x) (hlim:s₁.heap.NoLimit) (hg:s₁.gens=#[])
  (ha:s₁.heap.get? a=some { cls:=.type "list",data:=.seq vs.toArray }) (hi:IntsAre vs ns) (hl:ns.length≤sizeLine) (hr:Room k callerA)
  (F:∀ base:Heap,K.In base→base.Ns mainGlobals mg→FnOk P w K mg base CX k fa fd [x] sp) (hbind:∀ (s:Shared) (u:Value),BindsTo s fd ⟨[u],[]⟩ [(x,u)])
  (hsp:∀ H:Hp,Only H→SqL K H a (ns.map V.int)→sp [.ref a] H (fun v _=>v=.bl true) fun _ _ _=>False)
  (hCX:∀ H e s',CX [] H s₁ (fun _ _ _=>False) e s'→False) :
  codeAny (model P w) callerA (.call (.ref fa) ⟨[.ref a],[]⟩) (fun r s'=>r=.ok (.ret (.bool true))∧OldK s₁.heap s'.heap∧s'.os=s₁.os∧AllBare s'.gens) s₁:=by
 have rv:=a6O hi
 have lenV:=hi.length
 -- from an abstract heap in which nothing but the script may be tracked
 have core:∀ H:Hp,Only H→SqL K H a (ns.map V.int)→HOk P w H s₁.heap→(∀ b,H b≠none→b=a)→(H a≠none→K.lookup a=none) →
   codeAny (model P w) callerA (.call (.ref fa) ⟨[.ref a],[]⟩) (fun r s'=>r=.ok (.ret (.bool true))∧OldK s₁.heap s'.heap∧s'.os=s₁.os∧AllBare s'.gens) s₁:=by
  intro H hO hS hok hA hK
  have base_of:∀ {b:Addr} {o:Obj},s₁.heap.get? b=some o→H b=none→(hidT s₁.heap H).get? b=some o:=fun e n=>b6l e n
  have noA:∀ {b:Addr} {o:Obj} {es:Array DictEntry} {ep:Nat},s₁.heap.get? b=some o→o.data=.dict es ep→H b=none:=fun {b o es ep} e d=>by
   cases q:H b with
   | none=>rfl
   | some u =>
     have e':b=a:=hA b (by rw[q];simp)
     subst e'
     rw[ha] at e;cases e
     have d':Data.seq vs.toArray _=Data.dict es ep:=d
     cases d'
  have nsK:∀ {b:Addr} {m:Str→Option Value},s₁.heap.Ns b m→(hidT s₁.heap H).Ns b m:=fun {b m} ⟨o,es,ep,e,d,r⟩=>⟨o,es,ep,base_of e (noA e d),d,r⟩
  have hKb:K.In (hidT s₁.heap H):=fun b o e=>base_of (KX b o e) (by
   cases q:H b with
   | none=>rfl
   | some u =>
     have e':b=a:=hA b (by rw[q];simp)
     subst e'
     rw[hK (by rw[q];simp)] at e;cases e)
  have hM:Mod K mg (hidT s₁.heap H):=⟨hKb,nsK hns,⟨mb,nsK hb,hbb⟩,let ⟨mc,h1,h2⟩:=hlim;⟨mc,nsK h1,h2⟩⟩
  have e0:Env0 P w K mg (hidT s₁.heap H) callerA [] s₁ H:=⟨rfl,hM,fun b o e=>b8s e,Nat.le_of_eq (b4H _ _),trivial,fun b hb=>absurd (show b∈([]:List Addr) from hb) (by simp),hok,.of_eq hg⟩
  refine codeAny_mono ((F _ hKb (nsK hns)).run callerA [] s₁ H ⟨[.ref a],[]⟩ [.ref a] [.ref a] _ _ hr e0 (hbind s₁ (.ref a)) (.cons rfl .nil) (hsp H hO hS)) fun r s' h=>?_
  cases r with
  | error e=>exact (hCX H e s' h).elim
  | ok fl =>
    cases fl with
    | next=>exact False.elim h
    | brk=>exact False.elim h
    | cont=>exact False.elim h
    | ret u =>
      obtain⟨v,H',os,bare,un,hok',r',q⟩:=h
      have q':v=.bl true:=q
      subst q'
      obtain rfl:u=Value.bool true:=r'
      refine⟨rfl,OldK.of_keep fun b o e=>?_,os,bare⟩
      cases q:H b with
      | none=>exact un.keep b o e q (by intro z;exact absurd (show b∈([]:List Addr) from z) (by simp)) (by simp)
      | some u =>
        rcases hO b with z | ⟨ob,xs,z⟩
        ·rw[q] at z;cases z
        ·have z2:=un.frzs b ob _ z
         obtain⟨e1,_⟩:=hok b _ z
         obtain⟨e2,_⟩:=hok' b _ z2
         rw[e] at e1;cases e1
         exact e2
 cases hk:K.lookup a with
 | some o =>
   -- the script is one of the module's own objects
   have e:=KX a o hk
   rw[ha] at e
   cases e
   refine core (fun _=>none) (fun _=>.inl rfl) (.inr ⟨_,vs.toArray,_,hk,rfl,rfl,rfl,by rw[List.size_toArray,lenV];exact hl,by simpa using rv⟩) (fun b u z=>by have z':(none:Option HO)=some u:=z;cases z') (fun b z=>absurd rfl z) fun z=>absurd rfl z
 | none =>
   refine core (fun b=>if b=a then some (.frz { cls:=.type "list",data:=.seq vs.toArray } (.lst (ns.map V.int))) else none) (fun b=>?_) (.inl (.inr ⟨{ cls:=.type "list",data:=.seq vs.toArray },if_pos rfl⟩)) (fun b u z=>?_) (fun b z=>?_) fun _=>hk
   ·by_cases hb:b=a
    ·exact .inr ⟨_,_,if_pos hb⟩
    ·exact .inl (if_neg hb)
   ·by_cases hb:b=a
    ·have z':=(if_pos hb).symm.trans z
     cases z'
     subst hb
     exact⟨ha,by rw[List.length_map];exact hl,vs,_,rv,ha⟩
    ·have z':=(if_neg hb).symm.trans z
     cases z'
   ·by_cases hb:b=a
    ·exact hb
    ·exact absurd (if_neg hb) z
theorem b7s {l:PySem.W.OpenLaw} {n k:Nat} {q:Program} {loose:List Str} {XP:(Str→Option Value)→Heap→Prop} {YP:World→Heap→Prop} {d:DefRec} {K:Params→PySem.W.Frag} {CX:World→CXT} {sp:World→Sp} {x:Str}
  (hn:l.most=some n) (hn2:n≤sizeLine) (hdf:d.params.defaults=[]) (hr:Room k callerA)
  (hY:∀ (w:World) (h:Heap),YP w h→(K w.params).In h)
  (F : ∀ (w:World) (mg:Str→Option Value) (fa:Addr) (h:Heap),(K w.params).In h→h.Ns mainGlobals mg→mg d.name=some (.ref fa) →
   ∃ fd:FuncData,(∀ (s:Shared) (u:Value),BindsTo s fd ⟨[u],[]⟩ [(x,u)]) ∧
     ∀ base:Heap,(K w.params).In base→base.Ns mainGlobals mg→FnOk l.prog w (K w.params) mg base (CX w) k fa fd [x] (sp w))
  (hsp:∀ (w:World) (H:Hp) (a:Addr) (ns:List Int),ns.length≤n→Only H→SqL (K w.params) H a (ns.map V.int)→sp w [.ref a] H (fun v _=>v=.bl true) fun _ _ _=>False)
  (hCX:∀ (w:World) (H:Hp) (s:Shared) (e:Value) (s':Shared),CX w [] H s (fun _ _ _=>False) e s'→False) :
  PySem.W.WalkO q loose XP YP l.row.toRowW d [] (fun f vs=>PySem.call f vs):=by
 refine Att.attach_call hn hdf fun w s₀ s₁ mg mb fa o pm cd doc a vs ns G Y ho hd hcd hmg hobj hints hlen hg=>?_
 have KX:=hY w _ Y
 obtain⟨fd,hb,hF⟩:=F w mg fa _ KX G.T.g hmg
 exact b6g KX G.T.g G.T.b G.T.builtins G.T.nolimit hg hobj hints (Nat.le_trans hlen hn2) hr hF hb (fun H hO hS=>hsp w H a ns hlen hO hS) fun H e s'=>hCX w H s₁ e s'
noncomputable def a6k (s:Stmt):Arguments:=match s with
 | .FunctionDef _ a _ _ _ _ _ _ _ _=>a
 | _=>{ posonlyargs:=[],args:=[],vararg:=none,kwonlyargs:=[],kw_defaults:=[],kwarg:=none,defaults:=[] }
noncomputable def a4r (s:Stmt):List Stmt:=match s with
 | .FunctionDef _ _ b _ _ _ _ _ _ _=>b
 | _=>[]
noncomputable def a0i (s:Stmt):Scope:=match s with
 | .FunctionDef _ _ _ _ _ _ sc _ _ _=>sc
 | _=>{ kind:=.function,names:=[],isGenerator:=false,isCoroutine:=false }
noncomputable abbrev CX0:CXT:=fun _ _ _ _ _ _=>False
noncomputable abbrev E0:XK:=fun _ _ _=>False
theorem c0d {X:Cx}:b5p CX0 X E0:=fun _ _ _ _ _ _ _ h=>h.elim
structure Fun (K:PySem.W.Frag) (x qual:Str) (st:Stmt) (f:Addr) (fd:FuncData):Prop where
 ex:∃ (oc:Value) (od:Option Addr) (kV doc pm:Value) (an:Option Addr) (cdv ct:Value) (osl:Array (Option Value)),
  fd=PySem.W.fnOf x qual (a6k st) (a4r st) (a0i st) .none kV doc pm an cdv ct∧K.lookup f=some ⟨oc,od,.func fd,osl⟩∧PySem.W.codeIn K cdv qual=true
 kp:PySem.W.keepIn K (.ref f)=true
section
variable {P:Program} {w:World} {K:PySem.W.Frag} {mg:Str→Option Value} {base:Heap}
theorem Fun.ok {x qual:Str} {st:Stmt} {f:Addr} {fd:FuncData} {N ps:List Str} {k:Nat} {sp:Sp} (F:Fun K x qual st f fd) (S:FnScope N ps (a0i st)) (len:∀ vs H Q E,sp vs H Q E→vs.length=ps.length)
  (hbody:∀ (cdv:Value) (A:Around) (outer:List Env) (s:Shared) (H:Hp) (vs:List V) (Q:VK) (E:XK),Room k (A.deeper (envOfC qual (a0i st) s.heap.objs.size f cdv))→sp vs H Q E →
   ∃ t,PSs (cxOf CX0 P w K mg base N qual (a0i st) f cdv A outer s H E).nox (a4r st) t∧t { nx:=fun _ H'=>Q .non H',rt:=Q } (start N vs) H):FnOk P w K mg base CX0 (k+1) f fd ps sp:=by
 obtain⟨oc,od,kV,doc,pm,an,cdv,ct,osl,rfl,lk,hcd⟩:=F.ex
 refine c1Q lk hcd S len fun A outer s H vs Q E hr hsp=>?_
 obtain⟨t,h,q⟩:=hbody cdv A outer s H vs Q E hr hsp
 exact⟨t,h.nox,q⟩
theorem Fun.binds {x qual:Str} {st:Stmt} {f:Addr} {fd:FuncData} {ps:List Str} (F:Fun K x qual st f fd)
  (h:∀ (kV doc pm:Value) (an:Option Addr) (cdv ct:Value) (us:List Value),us.length=ps.length→bindArgs (PySem.W.fnOf x qual (a6k st) (a4r st) (a0i st) .none kV doc pm an cdv ct) ⟨us,[]⟩=pure (ps.zip us)):a0M K fd ps []:=by
 obtain⟨oc,od,kV,doc,pm,an,cdv,ct,osl,rfl,lk,hcd⟩:=F.ex
 exact .all (h kV doc pm an cdv ct)
theorem a0C {x qual:Str} {st:Stmt} {f:Addr} {oc:Value} {od an:Option Addr} {osl:Array (Option Value)} {kV doc pm cdv ct:Value} (l:K.lookup f=some ⟨oc,od,.func (PySem.W.fnOf x qual (a6k st) (a4r st) (a0i st) .none kV doc pm an cdv ct),osl⟩)
  (c:PySem.W.codeIn K cdv qual=true) (k:PySem.W.keepIn K (.ref f)=true):Fun K x qual st f (PySem.W.fnOf x qual (a6k st) (a4r st) (a0i st) .none kV doc pm an cdv ct):=⟨⟨oc,od,kV,doc,pm,an,cdv,ct,osl,rfl,l,c⟩,k⟩
end
section
variable {X:Cx}
end
theorem ite2 {c A B:Prop} [Decidable c] (h1:c→A) (h2:¬c→B):if c then A else B:=by
 by_cases h:c
 ·rw[if_pos h]
  exact h1 h
 ·rw[if_neg h]
  exact h2 h
end L2
set_option maxHeartbeats 0
namespace L2
open PySem PySem.Spec PyProof.Rows
section
variable {κ:Type} [DecidableEq κ]
noncomputable def valV (kvs:List (κ × V)) (k:κ):Option V:=(kvs.find? fun kv=>decide (kv.1=k)).map (·.2)
noncomputable def putK (kvs:List (κ × V)) (k:κ) (v:V):List (κ × V) :=
 if (kvs.any fun kv=>decide (kv.1=k))=true then kvs.map (fun kv=>if kv.1=k then (kv.1,v) else kv) else kvs++[(k,v)]
theorem a8e {p:κ × V} {r:List (κ × V)} {k:κ} (e:p.1=k):valV (p :: r) k=some p.2:=by simp [valV,List.find?_cons,e]
theorem a8f {p:κ × V} {r:List (κ × V)} {k:κ} (e:¬p.1=k):valV (p :: r) k=valV r k:=by simp [valV,List.find?_cons,e]
theorem b1C (k:κ):∀ kvs:List (κ × V),(kvs.any fun kv=>decide (kv.1=k))=(valV kvs k).isSome
 | []=>rfl
 | p :: r=>by
   rw[List.any_cons]
   by_cases e:p.1=k
   ·simp only[a8e e,decide_eq_true e,Bool.true_or,Option.isSome_some]
   ·rw[a8f e,decide_eq_false e,Bool.false_or];exact b1C k r
theorem a7e (kvs:List (κ × V)) (k:κ) (v:V):(putK kvs k v).length≤kvs.length+1:=by
 unfold putK
 split
 ·rw[List.length_map];lia
 ·rw[List.length_append,List.length_cons,List.length_nil];lia
theorem RelO.isSome_eq {o:Option V} {u:Option Value} (r:RelO o u):o.isSome=u.isSome:=by
 cases o with
 | none=>cases u with
   | none=>rfl
   | some _=>exact (show False from r).elim
 | some _=>cases u with
   | none=>exact (show False from r).elim
   | some _=>rfl
theorem KV.val {kvs:List (κ × V)} {vs:List (κ × Value)} (r:KV kvs vs) (k:κ):RelO (valV kvs k) (valueAt vs k):=by
 unfold KV at r
 induction r with
 | nil=>exact True.intro
 | @cons p q ps qs h t ih =>
   obtain⟨h1,h2⟩:=h
   by_cases e:p.1=k
   ·have e':q.1=k:=h1.symm.trans e
    have b:valueAt (q :: qs) k=some q.2:=by simp [valueAt,List.find?_cons,e']
    rw[a8e e,b];exact h2
   ·have e':¬q.1=k:=fun z=>e (h1.trans z)
    have b:valueAt (q :: qs) k=valueAt qs k:=by simp [valueAt,List.find?_cons,e']
    rw[a8f e,b];exact ih
theorem KV.any {kvs:List (κ × V)} {vs:List (κ × Value)} (r:KV kvs vs) (k:κ):(kvs.any fun kv=>decide (kv.1=k))=vs.any fun kv=>decide (kv.1=k):=by
 unfold KV at r
 induction r with
 | nil=>rfl
 | cons h t ih=>rw[List.any_cons,List.any_cons,ih,h.1]
theorem KV.repl {kvs:List (κ × V)} {vs:List (κ × Value)} (r:KV kvs vs) (k:κ) {y:V} {u:Value} (ry:RelV y u) :
  KV (kvs.map fun kv=>if kv.1=k then (kv.1,y) else kv) (vs.map fun kv=>if kv.1=k then (kv.1,u) else kv):=by
 unfold KV at r⊢
 induction r with
 | nil=>exact .nil
 | @cons p q ps qs h t ih =>
   rw[List.map_cons,List.map_cons]
   refine .cons ?_ ih
   obtain⟨h1,h2⟩:=h
   by_cases e:p.1=k
   ·rw[if_pos e,if_pos (h1.symm.trans e)];exact⟨h1,ry⟩
   ·rw[if_neg e,if_neg (fun z=>e (h1.trans z))];exact⟨h1,h2⟩
theorem KV.put {kvs:List (κ × V)} {vs:List (κ × Value)} (r:KV kvs vs) (k:κ) {y:V} {u:Value} (ry:RelV y u):KV (putK kvs k y) (stored vs k u):=by
 unfold putK stored
 rw[r.any k]
 by_cases e:(vs.any fun kv=>decide (kv.1=k))=true
 ·rw[if_pos e,if_pos e];exact r.repl k ry
 ·rw[if_neg e,if_neg e];exact Paired.snoc r ⟨rfl,ry⟩
theorem KV.length {kvs:List (κ × V)} {vs:List (κ × Value)} (r:KV kvs vs):kvs.length=vs.length:=Paired.length r
end
theorem b8C {P:Program} {w:World} {k:Key} {u:Value} (r:RelV (kV k) u):(a1T P w).is k u=true:=by
 cases k with
 | inl i=>obtain⟨t,e⟩:=(show ∃ t,u=Value.int i t from r);subst e;exact b1k P w i t
 | inr x=>obtain⟨t,e⟩:=(show ∃ t,u=Value.str x t from r);subst e;exact b1j P w x t
theorem a9W {P:Program} {w:World}:∀ {ks:List Key} {us:List Value},Vals (ks.map kV) us→ItemsAre (a1T P w) ks us
 | [],_,r=>by rw[List.map_nil] at r;cases r;exact .nil
 | k :: ks,_,r=>by
   rw[List.map_cons] at r
   cases r with
   | cons h t=>exact .cons (b8C h) (a9W t)
noncomputable abbrev KT (H:Hp):List (List Key × V)→List (List Key × Addr × Value)→Prop:=Paired fun p q=>p.1=q.1∧H q.2.1=some (.tup (p.1.map kV))∧RelV p.2 q.2.2
theorem KT.val {H:Hp} {kvs:List (List Key × V)} {xs:List (List Key × Addr × Value)} (r:KT H kvs xs) (k:List Key):RelO (valV kvs k) ((atKey xs k).map (·.2)):=by
 induction r with
 | nil=>exact True.intro
 | @cons p q ps qs h t ih =>
   obtain⟨h1,_,h2⟩:=h
   by_cases e:p.1=k
   ·have e':q.1=k:=h1.symm.trans e
    have b:atKey (q :: qs) k=some q.2:=by simp [atKey,List.find?_cons,e']
    rw[a8e e,b];exact h2
   ·have e':¬q.1=k:=fun z=>e (h1.trans z)
    have b:atKey (q :: qs) k=atKey qs k:=by simp [atKey,List.find?_cons,e']
    rw[a8f e,b];exact ih
theorem KT.repl {H:Hp} {kvs:List (List Key × V)} {xs:List (List Key × Addr × Value)} (r:KT H kvs xs) (k:List Key) {y:V} {u:Value} (ry:RelV y u) :
  KT H (kvs.map fun kv=>if kv.1=k then (kv.1,y) else kv) (xs.map (putAt k u)):=by
 induction r with
 | nil=>exact .nil
 | @cons p q ps qs h t ih =>
   rw[List.map_cons,List.map_cons]
   refine .cons ?_ ih
   obtain⟨h1,h2,h3⟩:=h
   unfold putAt
   by_cases e:p.1=k
   ·rw[if_pos e,if_pos (h1.symm.trans e)];exact⟨h1,h2,ry⟩
   ·rw[if_neg e,if_neg (fun z=>e (h1.trans z))];exact⟨h1,h2,h3⟩
theorem KT.put {H:Hp} {kvs:List (List Key × V)} {xs:List (List Key × Addr × Value)} (r:KT H kvs xs) (k:List Key) {b:Addr} {y:V} {u:Value} (hb:H b=some (.tup (k.map kV))) (ry:RelV y u) :
  KT H (putK kvs k y) (storedH xs k b u):=by
 have e:(kvs.any fun kv=>decide (kv.1=k))=(atKey xs k).isSome:=by
  rw[b1C,(r.val k).isSome_eq,Option.isSome_map]
 unfold putK storedH
 rw[e]
 by_cases q:(atKey xs k).isSome=true
 ·rw[if_pos q,if_pos q];exact r.repl k ry
 ·rw[if_neg q,if_neg q];exact Paired.snoc r ⟨rfl,hb,ry⟩
theorem KT.keeps {H H':Hp} {kvs:List (List Key × V)} {xs:List (List Key × Addr × Value)} (r:KT H kvs xs) (ht:∀ b ys,H b=some (.tup ys)→H' b=some (.tup ys)):KT H' kvs xs :=
 Paired.mapP r fun _ _ z=>⟨z.1,ht _ _ z.2.1,z.2.2⟩
section
variable {P:Program} {w:World} {H:Hp} {h:Heap} {a:Addr}
theorem b9G {u:HO} (ok:HOk P w H h) (e:Rd H a u):a2a P w H h a u:=e.ok ok
theorem b8V {kvs:List (Key × V)} (ok:HOk P w H h) (e:Rd H a (.dK kvs)):kvs.length≤sizeLine∧(a == sysModules)=false∧∃ vs,KV kvs vs∧h.DictOf (a1T P w) a vs :=
 show a2a P w H h a (.dK kvs) from b9G ok e
theorem c1S {kvs:List (Key × V)} (ok:HOk P w H h) (e:H a=some (.dK kvs)):kvs.length≤sizeLine∧(a == sysModules)=false∧∃ vs,KV kvs vs∧h.DictOf (a1T P w) a vs:=b8V ok (.inl e)
theorem b4w {ks:List Key} (ok:HOk P w H h) (e:H a=some (.tup (ks.map kV))):(tupleKind (a1T P w)).is h ks a:=by
 obtain⟨_,its,r,o,h1,h2,_,n,h3⟩:=(show a2a P w H h a (.tup (ks.map kV)) from ok a _ e)
 exact⟨o,its.toArray,n,h1,h2,h3,by simpa using a9W r⟩
theorem b8T {kvs:List (List Key × V)} (ok:HOk P w H h) (e:Rd H a (.dT kvs)):kvs.length≤sizeLine∧(a == sysModules)=false ∧
  ∃ xs,KT H kvs xs∧h.DictOfH (tupleKind (a1T P w)) a xs:=by
 obtain⟨z,y,xs,r,o,es,ep,h1,h2,h3,h4,h5⟩:=(show a2a P w H h a (.dT kvs) from b9G ok e)
 refine⟨z,y,xs,r,o,es,ep,h1,h2,h3,h4,fun x hx=>?_,h5⟩
 have all:∀ {l:List (List Key × V)} {m:List (List Key × Addr × Value)},KT H l m→∀ x∈m,(tupleKind (a1T P w)).is h x.1 x.2.1:=by
  intro l m q
  induction q with
  | nil=>intro x hx;exact nomatch hx
  | @cons p q ps qs hq t ih =>
    intro x hx
    rcases List.mem_cons.mp hx with e | hx
    ·subst e
     exact b4w ok (by rw[← hq.1];exact hq.2.1)
    ·exact ih x hx
 exact all r x hx
theorem c1R {kvs:List (List Key × V)} (ok:HOk P w H h) (e:H a=some (.dT kvs)):kvs.length≤sizeLine∧(a == sysModules)=false ∧
  ∃ xs,KT H kvs xs∧h.DictOfH (tupleKind (a1T P w)) a xs:=b8T ok (.inl e)
end
noncomputable def DGet (H:Hp) (a:Addr) (y:V) (r:Option V):Prop :=
 (∃ kvs k,Rd H a (.dK kvs)∧y=kV k∧r=valV kvs k)∨∃ kvs k b,Rd H a (.dT kvs)∧y=.ref b∧H b=some (.tup (k.map kV))∧r=valV kvs k
noncomputable def DPut (H:Hp) (a:Addr) (y v:V) (H':Hp):Prop :=
 (∃ kvs k,H a=some (.dK kvs)∧y=kV k∧kvs.length < sizeLine∧H'=upd H a (.dK (putK kvs k v))) ∨
 ∃ kvs k b,H a=some (.dT kvs)∧y=.ref b∧H b=some (.tup (k.map kV))∧kvs.length < sizeLine∧H'=upd H a (.dT (putK kvs k v))
theorem DGet.k {H:Hp} {a:Addr} {kvs:List (Key × V)} {k:Key} (e:H a=some (.dK kvs)):DGet H a (kV k) (valV kvs k):=.inl ⟨kvs,k,.inl e,rfl,rfl⟩
theorem DGet.t {H:Hp} {a b:Addr} {kvs:List (List Key × V)} {k:List Key} (e:H a=some (.dT kvs)) (eb:H b=some (.tup (k.map kV))):DGet H a (.ref b) (valV kvs k):=.inr ⟨kvs,k,b,.inl e,rfl,eb,rfl⟩
theorem DPut.k {H:Hp} {a:Addr} {kvs:List (Key × V)} {k:Key} {v:V} (e:H a=some (.dK kvs)) (hl:kvs.length < sizeLine):DPut H a (kV k) v (upd H a (.dK (putK kvs k v))):=.inl ⟨kvs,k,e,rfl,hl,rfl⟩
theorem DPut.t {H:Hp} {a b:Addr} {kvs:List (List Key × V)} {k:List Key} {v:V} (e:H a=some (.dT kvs)) (eb:H b=some (.tup (k.map kV))) (hl:kvs.length < sizeLine) :
  DPut H a (.ref b) v (upd H a (.dT (putK kvs k v))):=.inr ⟨kvs,k,b,e,rfl,eb,hl,rfl⟩
section
variable {X:Cx} {pins:List (Addr × Obj)} {σ:St} {H:Hp} {s:Shared} {a:Addr} {y v:V} {u r:Value} {o:Option V} {A:Around} {E:Value→Shared→Prop}
theorem Inv.big (I:Inv X pins σ H s):sysModules < s.heap.objs.size:=by
 have h:mainGlobals < s.heap.objs.size:=(I.mod.glob.keeps I.bk).lt
 exact Nat.lt_trans (by decide) h
theorem b0k {Q:Value→Shared→Prop} (hu:A.units+1 < cLine) (I:Inv X pins σ H s) (g:DGet H a y (some v)) (ry:RelV y u) (h:∀ w' s',Inv X pins σ H s'→RelV v w'→Q w' s') :
  wpAny (model X.prog X.w) A (getItem (.ref a) u) Q E s:=by
 rcases g with ⟨kvs,k,e,ey,l⟩ | ⟨kvs,k,b,e,ey,eb,l⟩
 ·subst ey
  obtain⟨z,hd,vs,rel,dd⟩:=b8V I.hok e
  obtain⟨w',hw,rw'⟩:=RelO.some_of (v:=v) (o:=valueAt vs k) (by rw[l];exact rel.val k)
  exact wpAny_getItem_of (b8C ry) dd.mapOf hw (h w' _ (I.tok _) rw')
 ·subst ey
  cases (show u=Value.ref b from ry)
  obtain⟨z,hd,xs,rel,dd⟩:=b8T I.hok e
  obtain⟨w',hw,rw'⟩:=RelO.some_of (v:=v) (o:=(atKey xs k).map (·.2)) (by rw[l];exact rel.val k)
  obtain⟨p,hp,hp2⟩:=Option.map_eq_some_iff.mp hw
  refine wpAny_getItem_heap (tupleKind_room_in1 hu) (b4w I.hok eb) dd hp ?_
  rw[hp2]
  exact h w' _ (I.tok _) rw'
theorem b4U {h':Heap} {t':Nat} {ob:HO} (I:Inv X pins σ H s) (mu:Mut (H a)) (hs:Heap.SameBut a s.heap h') (he:∃ q,h'.get? a=some q) (new:a2a X.prog X.w (upd H a ob) h' a ob) :
  Inv X pins σ (upd H a ob) { s with heap:=h',toks:=t' } :=
 I.write (x:=a) (e:=a) mu (.inl rfl) (fun b q hb z=>(hs.2 b hb).trans z) he new
theorem c0O {P:Program} {w:World} {H':Hp} {h':Heap} {kvs:List (Key × V)} {vs:List (Key × Value)} (z:kvs.length≤sizeLine) (hd:(a == sysModules)=false) (rel:KV kvs vs) (dd:h'.DictOf (a1T P w) a vs) :
  a2a P w H' h' a (.dK kvs):=⟨z,hd,vs,rel,dd⟩
theorem b0j {H':Hp} {Q:Unit→Shared→Prop} (hu:A.units+1 < cLine) (I:Inv X pins σ H s) (g:DPut H a y v H') (ry:RelV y u) (rv:RelV v r) (h:∀ s',Inv X pins σ H' s'→Q () s') :
  wpAny (model X.prog X.w) A (setItem (.ref a) u r) Q E s:=by
 rcases g with ⟨kvs,k,e,ey,l,eH⟩ | ⟨kvs,k,b,e,ey,eb,l,eH⟩
 ·subst ey eH
  obtain⟨z,hd,vs,rel,dd⟩:=c1S I.hok e
  have hz:vs.length≤sizeLine:=by rw[← rel.length];exact z
  have hl:(putK kvs k v).length≤sizeLine:=by have:=a7e kvs k v;lia
  refine wpAny_setItem_pairs (hsz:=hz) (b8C ry) dd fun h' dd' hs=>h _ ?_
  have he:∃ q,h'.get? a=some q:=let ⟨q,_,_,hq,_⟩:=dd';⟨q,hq⟩
  exact b4U I (by rw[e];exact True.intro) hs he (c0O hl hd (rel.put k rv) dd')
 ·subst ey eH
  cases (show u=Value.ref b from ry)
  obtain⟨z,hd,xs,rel,dd⟩:=c1R I.hok e
  have hz:xs.length≤sizeLine:=by rw[← Paired.length rel];exact z
  have hl:(putK kvs k v).length≤sizeLine:=by have:=a7e kvs k v;lia
  refine wpAny_setItem_heap (hsz:=hz) (tupleKind_room_in1 hu) (b4w I.hok eb) dd fun h' dd' hs=>h _ ?_
  obtain⟨q,es,ep,hq,h2,h3,h4,_,h5⟩:=dd'
  refine b4U I (by rw[e];exact True.intro) hs ⟨q,hq⟩ ⟨hl,hd,_,(rel.put k eb rv).keeps fun c ys ec=>?_,q,es,ep,hq,h2,h3,h4,h5⟩
  rw[a0v (b8t ec e (fun z=>nomatch z))]
  exact ec
end
section
variable {X:Cx} {pins:List (Addr × Obj)} {σ:St} {H:Hp} {s:Shared} {a:Addr} {kvs:List (Key × V)} {k:Key} {u:Value} {A:Around} {E:Value→Shared→Prop}
end
noncomputable def NoSl (i:Expr):Prop:=∀ ov iv,subscripted i false ov iv=operate [ov,iv] (getItem ov iv)
theorem b3y {prog:Program} {w:World} {A:Around} {E:Value→Shared→Prop} {s:Shared} {env:Env} {value slice:Expr} {pos:Pos} {T id:String} {Q:Value→Shared→Prop}
  (hl:typeLookup (.type T) "__getitem__"=pure (some (.builtin id))) (hs:NoSl slice)
  (h:wpAny (model prog w) A (eval value env) (fun o s₁=>wpAny (model prog w) A (eval slice env) (fun i s₂=>s₂.TypeIs o T∧wpAny (model prog w) A (getItem o i) Q E s₂) E s₁) E s) :
  wpAny (model prog w) A (eval (.Subscript value slice pos) env) Q E s:=by
 refine Subscript_ (wpAny_mono h (fun o s₁ h₁=>wpAny_mono h₁ (fun i s₂ h₂=>?_) fun _ _ x=>x) fun _ _ x=>x)
 obtain⟨hT,h₂⟩:=h₂
 unfold subscriptTail
 refine wpAny_bind ?_
 rw[getitemInPython_of_ne hT.not_modules]
 refine wpAny_bind (wpAny_specialOf hT hl ?_)
 have fin:wpAny (model prog w) A (subscripted slice false o i) (fun r s₃=>wpAny (model prog w) A (letTemporaryGo value o r >>= fun _=>pure r) Q E s₃) E s₂:=by
  rw[hs o i]
  exact wpAny_operating (wpAny_mono h₂ (fun r s₃ h₃=>wpAny_bind (wpAny_letTemporaryGo (wpAny_pure h₃))) fun _ _ x=>x)
 first
  | exact wpAny_pure (wpAny_bind fin)
  | exact wpAny_bind (wpAny_pure (wpAny_bind fin))
  | exact wpAny_bind fin
theorem b1v {X:Cx} {pins:List (Addr × Obj)} {σ:St} {H:Hp} {s:Shared} {a:Addr} {y:V} {o:Option V} (I:Inv X pins σ H s) (g:DGet H a y o):s.TypeIs (.ref a) "dict":=by
 rcases g with ⟨kvs,k,e,_,_⟩ | ⟨kvs,k,b,e,_,_,_⟩
 ·obtain⟨_,_,vs,_,dd⟩:=b8V I.hok e
  exact dd.typeIs
 ·obtain⟨_,_,xs,_,dd⟩:=b8T I.hok e
  exact dd.typeIs
noncomputable def c1b (td ty:TE):TE:=fun σ H Q=>td σ H fun x H1=>ty σ H1 fun y H2=>∃ a v,x=.ref a∧DGet H2 a y (some v)∧Q v H2
noncomputable def c1j (td ty tv:TE):TS:=fun D σ H=>tv σ H fun v H1=>td σ H1 fun x H2=>ty σ H2 fun y H3=>∃ a H4,x=.ref a∧DPut H3 a y v H4∧D.nx σ H4
noncomputable def c1k (td ty tv:TE) (rd:V→V→Hp→VK→Prop):TS:=fun D σ H=>td σ H fun x H1=>ty σ H1 fun y H2=>∃ a v,x=.ref a∧DGet H2 a y (some v) ∧
 tv σ H2 fun y2 H3=>rd v y2 H3 fun z H4=>∃ H5,DPut H4 a y z H5∧D.nx σ H5
section
variable {X:Cx} {o i e value:Expr} {pos pos' tpos:Pos} {td ty tv:TE}
theorem b3Y (hu:X.A.units+1 < cLine) (ho:PE X o td) (hi:PE X i ty) (hs:NoSl i):PE X (.Subscript o i pos) (c1b td ty):=by
 intro pins s σ H Q I h
 refine b3y PySem.F.slot_dict_getitem.lookup hs (thn (ho pins s σ H _ I h) fun u s1 ⟨x,H1,I1,rx,q1⟩=>thn (hi pins s1 σ H1 _ I1 q1) fun iv s2 ⟨y,H2,I2,ry,a,v,ex,g,q2⟩=>?_)
 subst ex
 obtain rfl:u=Value.ref a:=rx
 exact⟨b1v I2 g,b0k hu I2 g ry fun w' s3 I3 rw'=>⟨v,H2,I3,rw',q2⟩⟩
theorem b3Q (hu:X.A.units+1 < cLine) (ho:PE X o td) (hi:PE X i ty) (hv:PE X value tv) (hs:swapsWith value (some (.Subscript o i pos')) pos.line X.env=pure false) :
  PS X (.Assign [.Subscript o i pos'] value pos) (c1j td ty tv):=by
 intro pins s σ H D I h
 refine wpAny_Assign_Subscript (thn (hv pins s σ H _ I h) fun r s1 ⟨v,H1,I1,rv,q1⟩=>thn (ho pins s1 σ H1 _ I1 q1) fun u s2 ⟨x,H2,I2,rx,q2⟩=>thn (hi pins s2 σ H2 _ I2 q2) fun iv s3 ⟨y,H3,I3,ry,a,H4,ex,g,q3⟩=>?_) hs
 subst ex
 obtain rfl:u=Value.ref a:=rx
 exact b0j hu I3 g ry rv fun s4 I4=>⟨σ,H4,I4,q3⟩
theorem b8e {op:Operator} {rd:V→V→Hp→VK→Prop} (hu:X.A.units+1 < cLine) (ho:PE X o td) (hi:PE X i ty) (hv:PE X value tv) (hop:InOp X op rd)
  (ha:∀ ov iv new,augStore i ov iv new=(do holding [new,ov,iv] (setItem ov iv new);release [new,ov,iv] [];pure .next)):PS X (.AugAssign (.Subscript o i tpos) op value pos) (c1k td ty tv rd):=by
 intro pins s σ H D I h
 refine wpAny_AugAssign_SubscriptAny (thn (ho pins s σ H _ I h) fun u s1 ⟨x,H1,I1,rx,q1⟩=>thn (hi pins s1 σ H1 _ I1 q1) fun iv s2 ⟨y,H2,I2,ry,a,v,ex,g,q2⟩=>?_) ha
 subst ex
 obtain rfl:u=Value.ref a:=rx
 refine b0k hu I2 g ry fun w' s3 I3 rw'=>thn (hv pins s3 σ H2 _ I3 q2) fun w2 s4 ⟨y2,H3,I4,ry2,q3⟩=>thn (hop pins s4 σ H3 v y2 w' w2 _ I4 rw' ry2 q3) fun w3 s5 ⟨z,H4,I5,rz,H5,g5,q4⟩=>?_
 exact b0j hu I5 g5 ry rz fun s6 I6=>⟨σ,H5,I6,q4⟩
end
theorem b6x {P:Program} {w:World} {H:Hp} (h:Heap) (hb:sysModules < h.objs.size):a2a P w H (h.push { cls:=.type "dict",data:=.dict #[] }) h.objs.size (.dK []) :=
 ⟨Nat.zero_le _,beq_eq_false_iff_ne.mpr (Ne.symm (Nat.ne_of_lt hb)),[],.nil,Heap.DictOf.new h⟩
theorem b6w {P:Program} {w:World} {H:Hp} (h:Heap) (hb:sysModules < h.objs.size):a2a P w H (h.push { cls:=.type "dict",data:=.dict #[] }) h.objs.size (.dT []) :=
 ⟨Nat.zero_le _,beq_eq_false_iff_ne.mpr (Ne.symm (Nat.ne_of_lt hb)),[],.nil,_,#[],0,Heap.get?_push_size _ rfl,⟨rfl,rfl,rfl⟩,rfl,rfl,List.nodup_nil⟩
noncomputable def b9r:TE:=fun _ H Q=>∀ p,H p=none→Q (.ref p) (upd H p (.dK []))
noncomputable def b9q:TE:=fun _ H Q=>∀ p,H p=none→Q (.ref p) (upd H p (.dT []))
section
variable {X:Cx} {pos:Pos}
theorem b5P:PE X (.Dict [] [] pos) b9r:=fun pins s σ H Q I h =>
 wpAny_Dict_empty ⟨.ref s.heap.objs.size,_,I.laid (a:=s.heap.objs.size) (o:=.dK []) (t':=s.toks) (fun _ _ q=>Heap.get?_push_of_some _ q) (Nat.le_refl _) (b6x s.heap I.big),rfl,h _ (I.hok.fresh (Nat.le_refl _))⟩
theorem b5O:PE X (.Dict [] [] pos) b9q:=fun pins s σ H Q I h =>
 wpAny_Dict_empty ⟨.ref s.heap.objs.size,_,I.laid (a:=s.heap.objs.size) (o:=.dT []) (t':=s.toks) (fun _ _ q=>Heap.get?_push_of_some _ q) (Nat.le_refl _) (b6w s.heap I.big),rfl,h _ (I.hok.fresh (Nat.le_refl _))⟩
end
structure M1 (X:Cx) (o:Expr) (m:Str) (apos:Pos) (e:Expr) (cpos:Pos):Prop where
 base:attributeBase o m X.env (eval o X.env)=eval o X.env
 few:((backTo cpos (starEach [e] X.env)).all (fun x=>!x.1) && (backToKw cpos (keywordEach [] X.env)).all (fun x=>x.1.isSome)
  && decide (([e]:List Expr).length+([]:List Keyword).length+(if ([]:List Keyword).isEmpty then 0 else 1) < 30))=true
 line:(apos.endLine == cpos.line)=true
 trees:backTo cpos (starEach [e] X.env)=[(false,eval e X.env)]
section
variable {X:Cx} {pins:List (Addr × Obj)} {σ:St} {H:Hp} {s:Shared} {a:Addr} {y d:V} {u r:Value} {o:Option V} {A:Around} {E:Value→Shared→Prop}
end
section
variable {X:Cx} {o e f:Expr} {apos cpos:Pos} {td ty tx:TE}
end
noncomputable def a5w (env:Env):List (Str × NameKind)→List (Str × Addr)→List (Str × Addr)
 | [],acc=>acc
 | (n,k) :: r,acc=>a5w env r (if k == .free then (n,(env.cells.lookup n).getD 0) :: acc else acc)
theorem a3Q (env:Env) (n:Str) (k:NameKind) (r:List (Str × NameKind)) (acc:List (Str × Addr)):a5w env ((n,k) :: r) acc=a5w env r (if k == .free then (n,(env.cells.lookup n).getD 0) :: acc else acc):=rfl
theorem a4s (env:Env) (f:Str × NameKind→List (Str × Addr)→Sem (ForInStep (List (Str × Addr))))
  (hf:∀ n k cs,f (n,k) cs=if (k == .free)=true then (do let a ← cellOf env n;pure (.yield ((n,a) :: cs))) else pure (.yield cs)) :
  ∀ (names:List (Str × NameKind)) (acc:List (Str × Addr)),(∀ y∈names,y.2=.free→∃ c,env.cells.lookup y.1=some c)→forIn names acc f=(pure (a5w env names acc):Sem _)
 | [],acc,_=>by rw[List.forIn_nil];rfl
 | (n,k) :: r,acc,h=>by
   rw[List.forIn_cons,hf]
   have hr:∀ y∈r,y.2=.free→∃ c,env.cells.lookup y.1=some c:=fun y hy=>h y (List.mem_cons_of_mem _ hy)
   by_cases hk:(k == NameKind.free)=true
   ·rw[if_pos hk]
    obtain⟨c,hc⟩:=h (n,k) List.mem_cons_self (by simpa using hk)
    have hc':env.cells.lookup n=some c:=hc
    have e:cellOf env n=pure c:=by unfold cellOf;rw[hc']
    rw[e]
    simp only[pure_bind]
    rw[a4s env f hf r _ hr]
    rw[a3Q,if_pos hk,hc']
    rfl
   ·rw[if_neg hk]
    simp only[pure_bind]
    rw[a4s env f hf r _ hr]
    rw[a3Q,if_neg hk]
theorem a8T (scope:Scope) (env:Env) (h:∀ y∈scope.names,y.2=.free→∃ c,env.cells.lookup y.1=some c):closureFor scope env=pure (a5w env scope.names []):=by
 unfold closureFor
 dsimp only
 rw[a4s env _ (fun n k cs=>by cases hk:(k == NameKind.free)<;>simp [hk]<;>rfl) scope.names [] h]
 rfl
theorem a4M (env:Env):∀ (names:List (Str × NameKind)) (acc:List (Str × Addr)) (x:Str) (c:Addr),(a5w env names acc).lookup x=some c →
  (acc.lookup x=some c∨((x,.free)∈names∧c=(env.cells.lookup x).getD 0))
 | [],acc,x,c,h=>.inl h
 | (n,k) :: r,acc,x,c,h=>by
   rw[a3Q] at h
   rcases a4M env r _ x c h with q | ⟨q1,q2⟩
   ·split at q
    ·rename_i hk
     have hk':k=.free:=by simpa using hk
     subst hk'
     rw[List.lookup_cons] at q
     split at q
     ·rename_i hx
      have:x=n:=by simpa using hx
      subst this
      cases q
      exact .inr ⟨List.mem_cons_self,rfl⟩
     ·exact .inl q
    ·exact .inl q
   ·exact .inr ⟨List.mem_cons_of_mem _ q1,q2⟩
theorem b0n (env:Env):∀ (names:List (Str × NameKind)) (acc:List (Str × Addr)) (x:Str),(∃ c,acc.lookup x=some c)→∃ c,(a5w env names acc).lookup x=some c
 | [],acc,x,h=>h
 | (n,k) :: r,acc,x,h=>by
   rw[a3Q]
   refine b0n env r _ x ?_
   split
   ·rw[List.lookup_cons]
    split
    ·exact⟨_,rfl⟩
    ·exact h
   ·exact h
theorem a7s (env:Env):∀ (names:List (Str × NameKind)) (acc:List (Str × Addr)) (x:Str),(x,NameKind.free)∈names→∃ c,(a5w env names acc).lookup x=some c
 | [],acc,x,h=>by simp at h
 | (n,k) :: r,acc,x,h=>by
   rw[a3Q]
   rcases List.mem_cons.mp h with e | h
   ·cases e
    refine b0n env r _ _ ?_
    rw[if_pos (by decide),List.lookup_cons]
    simp
   ·exact a7s env r _ x h
noncomputable def ownB (names:List (Str × NameKind)) (x:Str):Bool:=names.any fun y=>y.1 == x && y.2 == .cell
theorem b1S {names:List (Str × NameKind)} {x:Str}:ownB names x=true↔(x,NameKind.cell)∈names:=by
 unfold ownB
 rw[List.any_eq_true]
 constructor
 ·rintro⟨⟨n,k⟩,h,e⟩
  simp only[Bool.and_eq_true,beq_iff_eq] at e
  obtain⟨rfl,rfl⟩:=e
  exact h
 ·intro h
  exact⟨_,h,by simp⟩
theorem a1a:∀ (names:List (Str × NameKind)) (n:Nat) (acc:List (Str × Addr)),cellsFrom n names acc=cellsFrom n names []++acc
 | [],_,_=>rfl
 | (x,k) :: r,n,acc=>by
   unfold cellsFrom
   split
   ·rw[a1a r (n+1) ((x,n) :: acc),a1a r (n+1) [(x,n)],List.append_assoc];rfl
   ·exact a1a r n acc
theorem a2D:∀ (names:List (Str × NameKind)) (n:Nat) {x:Str} {c:Addr},(x,c)∈cellsFrom n names []→n≤c∧(x,NameKind.cell)∈names
 | [],_,_,_,h=>nomatch h
 | (y,k) :: r,n,x,c,h=>by
   unfold cellsFrom at h
   split at h
   ·rename_i hk
    have hk':k=.cell:=by simpa using hk
    subst hk'
    rw[a1a] at h
    rcases List.mem_append.mp h with h | h
    ·have:=a2D r (n+1) h
     exact⟨by lia,List.mem_cons_of_mem _ this.2⟩
    ·cases List.mem_singleton.mp h
     exact⟨Nat.le_refl _,List.mem_cons_self⟩
   ·have:=a2D r n h
    exact⟨this.1,List.mem_cons_of_mem _ this.2⟩
theorem a2Y:∀ (names:List (Str × NameKind)) (n:Nat) {x:Str},(x,NameKind.cell)∈names→((cellsFrom n names []).lookup x).isSome=true
 | [],_,_,h=>nomatch h
 | (y,k) :: r,n,x,h=>by
   unfold cellsFrom
   rcases List.mem_cons.mp h with e | h
   ·cases e
    rw[if_pos (by decide),a1a,List.lookup_append]
    cases hh:(cellsFrom (n+1) r []).lookup y with
    | some c=>rfl
    | none=>simp
   ·have i0:=a2Y r n h
    have i1:=a2Y r (n+1) h
    split
    ·rw[a1a,List.lookup_append]
     cases hh:(cellsFrom (n+1) r []).lookup x with
     | some c=>rfl
     | none=>rw[hh] at i1;cases i1
    ·exact i0
theorem a3j:∀ (names:List (Str × NameKind)) (n:Nat),(cellsFrom n names []).Pairwise fun x y=>x.2≠y.2
 | [],_=>List.Pairwise.nil
 | (y,k) :: r,n=>by
   unfold cellsFrom
   split
   ·rw[a1a]
    refine List.pairwise_append.mpr ⟨a3j r (n+1),List.pairwise_singleton _ _,fun a ha b hb=>?_⟩
    rw[List.mem_singleton.mp hb]
    have:=(a2D r (n+1) (x:=a.1) (c:=a.2) ha).1
    show a.2≠n
    exact Nat.ne_of_gt (Nat.lt_of_succ_le this)
   ·exact a3j r n
theorem a5W {M:Model} {A:Around} {E:Value→Shared→Prop} {s:Shared} {scope:Scope} {globals:Addr} {closure:List (Str × Addr)} {qual:Str} {func:Option Addr} {code:Value} {around:Env} {builtins:Addr} {Q:Env→Shared→Prop}
  (hQ:∀ h',h'=pushCells (s.heap.push { cls:=.type "dict",data:=.dict #[] }) scope.names→Q (newEnv scope s.heap.objs.size globals (cellsFrom (s.heap.objs.size+1) scope.names []++closure) qual func code (some around) builtins) { s with heap:=h' }) :
  wpAny M A (newFunctionEnv scope globals closure [] qual func code (some around) builtins) Q E s:=by
 simp only[newFunctionEnv,Option.isSome_some,if_true]
 refine wpAny_bind (wpAny_alloc ?_)
 refine wpAny_bind (wpAny_layCells _ (fun name kind cells=>by cases hkc:kind == NameKind.cell<;>simp [hkc]) _ _ _ _ ?_)
 rw[a1a,show ({ s with heap:=s.heap.push { cls:=.type "dict",data:=.dict #[] } }:Shared).heap.objs.size=s.heap.objs.size+1 from Heap.size_push ..]
 refine wpAny_bind ?_
 rw[List.forIn_nil]
 exact wpAny_pure (wpAny_pure (hQ _ rfl))
section
variable {prog:Program} {w:World} {A:Around} {R:Result→Shared→Prop} {s:Shared}
theorem a5k {elt target iter:Expr} {ifs:List Expr} {scope:Scope} {pos:Pos} {it acc:Value} {env:Env} (I:Nat→Shared→Prop)
  (turn:∀ n s,I n s→wpAny (model prog w) A (pyNext it) (fun r s₁=>match r with
   | none=>R (.ok .next) s₁
   | some v=>wpAny (model prog w) A (letOwnedTupleGo target it v) (fun _ s₁'=>wpAny (model prog w) A (assign target env v) (fun _ s₂ =>
     wpAny (model prog w) A (forIn ifs true fun c r=>if r=true then do let ok ← isTrue c env (eval c env);pure (ForInStep.yield ok) else pure (ForInStep.yield r)) (fun ok s₃ =>
      if ok=true then wpAny (model prog w) A (eval elt env) (fun x s₄ =>
       wpAny (model prog w) A (call (.builtin "list.append") [acc,x]) (fun _ s₅=>∃ m,m < n∧I m s₅) (notedBy (model prog w) A env fun e s'=>R (.error e) s') s₄) (notedBy (model prog w) A env fun e s'=>R (.error e) s') s₃
      else ∃ m,m < n∧I m s₃) (notedBy (model prog w) A env fun e s'=>R (.error e) s') s₂) (notedBy (model prog w) A env fun e s'=>R (.error e) s') s₁') (notedBy (model prog w) A env fun e s'=>R (.error e) s') s₁) (notedBy (model prog w) A env fun e s'=>R (.error e) s') s)
  (n:Nat) (h:I n s) :
  codeAny (model prog w) A (.compLoop (.ListComp elt [⟨target,iter,ifs,0⟩] scope pos) 0 it acc env) R s:=by
 refine codeAny_loop rfl I (fun n s hI=>?_) n h
 show wpAny _ A ((compTurn (.ListComp elt [⟨target,iter,ifs,0⟩] scope pos) 0 it acc env).onRaise (fun x=>do noteFrame x env;theTreesLotGoes x)) _ _ s
 refine wpAny_noted ?_
 rw[compTurn_list]
 refine wpAny_bind (wpAny_standAt (wpAny_bind (wpAny_mono (turn n s hI) (fun r s₁ h₁=>?_) fun _ _ h'=>h')))
 cases r with
 | none=>exact wpAny_pure h₁
 | some v =>
   refine wpAny_bind (wpAny_mono h₁ (fun _ s₁' h₁'=>wpAny_bind (wpAny_mono h₁' (fun _ s₂ h₂=>wpAny_bind (wpAny_mono h₂ (fun ok s₃ h₃=>?_) fun _ _ h'=>h')) fun _ _ h'=>h')) fun _ _ h'=>h')
   cases ok with
   | false=>exact wpAny_pure ⟨rfl,h₃⟩
   | true =>
     exact wpAny_bind (wpAny_bind (wpAny_mono h₃ (fun x s₄ h₄=>wpAny_bind (wpAny_mono h₄ (fun _ s₅ h₅=>wpAny_pure (wpAny_pure ⟨rfl,h₅⟩)) fun _ _ h'=>h')) fun _ _ h'=>h'))
end
noncomputable def blk (X:Cx) (N':List Str) (scope:Scope) (C:Addr) (s:Shared) (H:Hp) (fp:List Addr) (pins:List (Addr × Obj)):Cx where
 prog:=X.prog
 w:=X.w
 K:=X.K
 mg:=X.mg
 base:=X.base
 A:=X.A
 N:=N'
 s₀:=s
 H₀:=H
 env:=compEnvC scope (cellsFrom (C+1) scope.names []++a5w X.env scope.names []) C X.env
 outer:=X.stack
 stack:=X.stack
 ex:=fp
 fn:=ownB scope.names
 calm:=X.calm
 pn:=X.pn++pins
 xe:=fun _ _=>False
structure BlkScope (X:Cx) (N':List Str) (ix:List (Option Nat)) (scope:Scope):Prop where
 kind:scope.kind=.function
 locs:∀ y∈scope.names,y.2=.local→scope.names.lookup y.1=some .local
 frees:∀ y∈scope.names,y.2=.free→(X.env.kindOf y.1=some .cell∨X.env.kindOf y.1=some .free)
 look:∀ x k,(relabel scope X.env).names.lookup x=some k→(k=.cell∨k=.free)→(x,NameKind.free)∈scope.names∨(x,NameKind.cell)∈scope.names
 lenI:ix.length=N'.length
 at_:∀ (i j:Nat) (x:Str),ix[i]?=some (some j)→N'[i]?=some x→X.N[j]?=some x∧(x,NameKind.free)∈scope.names∧ownB scope.names x=false∧(relabel scope X.env).names.lookup x=X.env.kindOf x
variable {X:Cx} {pins:List (Addr × Obj)} {σ:St} {H:Hp} {s:Shared} {N':List Str} {ix:List (Option Nat)} {scope:Scope}
noncomputable def pick (ix:List (Option Nat)) (σ:St):St:=ix.map fun o=>match o with | some j=>(σ[j]?).join | none=>none
theorem b1O {i:Nat} {v:V} (e:(pick ix σ)[i]?=some (some v)):∃ j,ix[i]?=some (some j)∧σ[j]?=some (some v):=by
 unfold pick at e
 rw[List.getElem?_map] at e
 cases h:ix[i]? with
 | none=>rw[h] at e;cases e
 | some o =>
   rw[h] at e
   cases o with
   | none =>
     have e':(none:Option V)=some v:=Option.some.inj e
     cases e'
   | some j =>
     have e':(σ[j]?).join=some v:=Option.some.inj e
     refine⟨j,rfl,?_⟩
     cases hj:σ[j]? with
     | none=>rw[hj] at e';cases e'
     | some u=>rw[hj] at e';exact congrArg some e'
theorem a2E (I:Inv X pins σ H s) (S:BlkScope X N' ix scope) (C:Addr) {x:Str} {c:Addr} (e:(cellsFrom (C+1) scope.names []++a5w X.env scope.names []).lookup x=some c) :
  (C < c∧(cellsFrom (C+1) scope.names []).lookup x=some c)∨(ownB scope.names x=false∧X.env.cells.lookup x=some c):=by
 rw[List.lookup_append] at e
 cases h:(cellsFrom (C+1) scope.names []).lookup x with
 | some c' =>
   rw[h] at e
   cases e
   exact .inl ⟨(a2D _ _ (mem_of_lookup h)).1,rfl⟩
 | none =>
   rw[h] at e
   refine .inr ⟨Bool.eq_false_iff.mpr fun z=>?_,?_⟩
   ·have:=a2Y scope.names (C+1) (b1S.mp z)
    rw[h] at this;cases this
   ·have e':(a5w X.env scope.names []).lookup x=some c:=e
    rcases a4M X.env scope.names [] x c e' with q | ⟨q,rfl⟩
    ·cases q
    ·obtain⟨c,hc⟩:=I.ok.has x (S.frees _ q rfl)
     rw[hc]<;>rfl
theorem c0R {fp:List Addr} {C:Addr} (I:Inv X pins σ H s) (hf:∀ b∈fp,FpOk X pins H b) (S:BlkScope X N' ix scope) (hC:s.heap.objs.size≤C) (hfo:∀ b∈fp,∃ o,s.heap.get? b=some o) :
  (blk X N' scope C s H fp pins).Ok:=by
 have lt:∀ x c,X.env.cells.lookup x=some c→c < C:=fun x c e=>by
  obtain⟨v,z⟩:=I.cell x c e
  exact Nat.lt_of_lt_of_le z.lt hC
 refine⟨I.ok.mod,?_,I.ok.glob,I.ok.blt,hC,fun x y c h1 h2=>?_,fun x hx=>?_,fun x c hf' e=>?_,I.ok.hd,I.ok.frames,.inl rfl,fun b hb=>?_,I.bs,Nat.le_trans I.ok.bsz I.sz,fun b o e hb=>?_,fun b hb hs=>?_,I.stack,I.stkFree⟩
 ·exact S.kind
 ·rcases a2E I S C h1 with ⟨a1,a2⟩ | ⟨a1,a2⟩<;>rcases a2E I S C h2 with ⟨b1,b2⟩ | ⟨b1,b2⟩
  ·exact name_of_addr (a3j _ _) (mem_of_lookup a2) (mem_of_lookup b2)
  ·exact absurd (Nat.lt_trans (lt _ _ b2) a1) (Nat.lt_irrefl _)
  ·exact absurd (Nat.lt_trans (lt _ _ a2) b1) (Nat.lt_irrefl _)
  ·exact I.ok.inj x y c a2 b2
 ·have hx':(relabel scope X.env).names.lookup x=some .cell∨(relabel scope X.env).names.lookup x=some .free:=hx
  have key:(x,NameKind.free)∈scope.names∨(x,NameKind.cell)∈scope.names:=by
   rcases hx' with hx' | hx'
   ·exact S.look x _ hx' (.inl rfl)
   ·exact S.look x _ hx' (.inr rfl)
  show ∃ c,(cellsFrom (C+1) scope.names []++a5w X.env scope.names []).lookup x=some c
  rw[List.lookup_append]
  cases h:(cellsFrom (C+1) scope.names []).lookup x with
  | some c=>exact⟨c,rfl⟩
  | none =>
    rcases key with k | k
    ·obtain⟨c,hc⟩:=a7s X.env scope.names [] x k
     exact⟨c,by rw[hc];rfl⟩
    ·have:=a2Y scope.names (C+1) k
     rw[h] at this;cases this
 ·rcases a2E I S C e with ⟨a1,a2⟩ | ⟨a1,a2⟩
  ·exact Nat.le_of_lt (Nat.lt_of_le_of_lt hC a1)
  ·have hf2:ownB scope.names x=true:=hf'
   rw[a1] at hf2;cases hf2
 ·obtain⟨f0,f1,f2,f3,f4,f5⟩:=hf b hb
  obtain⟨o,ho⟩:=hfo b hb
  refine⟨Nat.ne_of_lt (Nat.lt_of_lt_of_le (Heap.lt_size ho) hC),fun x c e=>?_⟩
  rcases a2E I S C e with ⟨a1,a2⟩ | ⟨a1,a2⟩
  ·exact Nat.ne_of_gt (Nat.lt_trans (Nat.lt_of_lt_of_le (Heap.lt_size ho) hC) a1)
  ·exact f4 x c a2
 ·obtain⟨f0,f1,f2,f3,f4,f5⟩:=hf b hb
  have:=(I.ok.bs b o e).1
  rcases f3 with z | z
  ·exact I.ok.noex b o e z
  ·exact absurd (Nat.lt_of_lt_of_le (Heap.lt_size this) z) (Nat.lt_irrefl _)
 ·obtain⟨f0,f1,f2,f3,f4,f5⟩:=hf b hb
  rcases List.mem_cons.mp (I.stkSub b hs) with e | e
  ·exact f1 e
  ·exact f2 e
theorem b5j {fp:List Addr} {C:Addr} {h₁:Heap} {tk:Nat} (I:Inv X pins σ H s) (hf:∀ b∈fp,FpOk X pins H b) (S:BlkScope X N' ix scope) (hC:s.heap.objs.size≤C) (hfo:∀ b∈fp,∃ o,s.heap.get? b=some o)
  (hns:h₁.Ns C (fun _=>none)) (hk:∀ b o,s.heap.get? b=some o→h₁.get? b=some o) (hown:∀ x c,(x,c)∈cellsFrom (C+1) scope.names []→h₁.IsCell c none) :
  Inv (blk X N' scope C s H fp pins) [] (pick ix σ) H { s with heap:=h₁,toks:=tk }:=by
 have nC:∀ b o,s.heap.get? b=some o→b≠C:=fun b o e=>Nat.ne_of_lt (Nat.lt_of_lt_of_le (Heap.lt_size e) hC)
 refine⟨c0R I hf S hC hfo,rfl,I.bare,Un.kept hk,⟨_,hns,fun i x v h1 h2 h3=>?_⟩,fun x c e=>?_,I.hok.fresh hC,fun x c e=>?_,fun p hp=>?_,I.hok.kept hk,?_⟩
 ·obtain⟨j,e1,e2⟩:=b1O h2
  obtain⟨a1,a2,a4,a3⟩:=S.at_ i j x e1 h1
  have kd:=S.frees _ a2 rfl
  have vis:Vis X.env.scope x:=by
   rcases kd with k | k
   ·exact .inr (.inl k)
   ·exact .inr (.inr k)
  obtain⟨m,hn,hl⟩:=I.loc
  obtain⟨u,r,l⟩:=hl j x v a1 e2 vis
  refine⟨u,r,.inr ?_⟩
  have kd':X.env.kindOf x=some .cell∨X.env.kindOf x=some .free:=kd
  rcases l with ⟨k,_⟩ | ⟨k,c,ec,z⟩
  ·rcases kd' with q | q<;>(rw[q] at k;cases k)
  ·refine⟨?_,c,?_,z.keeps hk⟩
   ·show (relabel scope X.env).names.lookup x=some .cell∨(relabel scope X.env).names.lookup x=some .free
    rw[a3];exact kd'
   ·obtain⟨c',hc'⟩:=a7s X.env scope.names [] x a2
    show (cellsFrom (C+1) scope.names []++a5w X.env scope.names []).lookup x=some c
    have hn:(cellsFrom (C+1) scope.names []).lookup x=none:=by
     cases h:(cellsFrom (C+1) scope.names []).lookup x with
     | none=>rfl
     | some c2 =>
       have:=b1S.mpr (a2D _ _ (mem_of_lookup h)).2
       rw[a4] at this;cases this
    rw[List.lookup_append,hn]
    show (a5w X.env scope.names []).lookup x=some c
    rcases a4M X.env scope.names [] x c' hc' with q | ⟨q,q2⟩
    ·cases q
    ·rw[hc',q2,ec];rfl
 ·rcases a2E I S C e with ⟨a1,a2⟩ | ⟨a1,a2⟩
  ·exact⟨none,hown x c (mem_of_lookup a2)⟩
  ·obtain⟨v,z⟩:=I.cell x c a2
   exact⟨v,z.keeps hk⟩
 ·rcases a2E I S C e with ⟨a1,a2⟩ | ⟨a1,a2⟩
  ·exact I.hok.fresh (Nat.le_of_lt (Nat.lt_of_le_of_lt hC a1))
  ·exact I.freeC x c a2
 ·have hp':p∈X.pn++pins:=by
   have:p∈(X.pn++pins)++[]:=hp
   simpa using this
  obtain⟨e,n,ne,nf,d⟩:=I.pin p hp'
  refine⟨hk _ _ e,n,nC _ _ e,fun hb=>?_,d⟩
  rcases List.mem_cons.mp (I.stkSub _ hb) with z | z
  ·exact ne z
  ·exact nf z
 ·show (pick ix σ).length=N'.length
  unfold pick
  rw[List.length_map,S.lenI]
theorem b9b {fp:List Addr} {C D:Addr} {h':Heap} {H':Hp} {σ':St} {s':Shared} {ys:List V} {its:List Value} {cap:Nat} (I:Inv X pins σ H s) (hf:∀ b∈fp,FpOk X pins H b) (hC:s.heap.objs.size≤C) (hD:s.heap.objs.size≤D) (hDC:D≠C)
  (J:Inv (blk X N' scope C s H fp pins) [] σ' H' s') (hDn:H' D=none) (ho:s'.heap.get? D=some { cls:=.type "list",data:=.seq its.toArray cap }) (r:Vals ys its) (hz:ys.length≤sizeLine) (sb:Heap.SameBut C s'.heap h') :
  Inv X pins σ (upd H' D (.lst ys)) { s' with heap:=h' }:=by
 have sb':∀ b o,b≠C→s'.heap.get? b=some o→h'.get? b=some o:=sb.extBut
 have nC:∀ b o,s.heap.get? b=some o→b≠C:=fun b o e=>Nat.ne_of_lt (Nat.lt_of_lt_of_le (Heap.lt_size e) hC)
 have nD:∀ b o,s.heap.get? b=some o→b≠D:=fun b o e=>Nat.ne_of_lt (Nat.lt_of_lt_of_le (Heap.lt_size e) hD)
 have hCn:H' C=none:=J.free
 have u:=J.base
 refine I.call' (ch:=fp) (s':={ s' with heap:=h' }) J.os ⟨fun b o e n hb hx=>?_,fun b o e n hb hx=>?_,fun b o e n hx=>?_,fun b o e hx=>?_,fun b xs e=>?_,fun b o v e=>?_,fun b ps e=>?_⟩ (fun b o e=>?_) J.bare (fun b hb=>?_)
 ·exact sb' _ _ (nC b o e) (u.keep b o e n hb hx)
 ·obtain⟨sl,q⟩:=u.slot b o e n hb hx
  exact⟨sl,sb' _ _ (nC b o e) q⟩
 ·rw[a0v (nD b o e)];exact u.free b o e n hx
 ·obtain⟨o',q⟩:=u.there b o e hx
  exact⟨o',sb' _ _ (nC b o e) q⟩
 ·have q:=u.tups b xs e
  rw[a0v (a0A q hDn)];exact q
 ·have q:=u.frzs b o v e
  rw[a0v (a0A q hDn)];exact q
 ·obtain⟨m,q⟩:=u.tbls b ps e
  exact⟨m,by rw[a0v (a0A q hDn)];exact q⟩
 ·by_cases hb:b=D
  ·subst hb
   rw[a0B] at e;cases e
   exact⟨hz,its,cap,r,sb' _ _ hDC ho⟩
  ·rw[a0v hb] at e
   refine (J.hok b o e).stay (fun c v hc q=>sb' c v ?_ q) (fun c q=>by rw[a0v (a0A q hDn)];exact q) fun c xs q=>by rw[a0v (a0A q hDn)];exact q
   rcases hc with rfl | hc
   ·exact a0A e hCn
   ·exact a0A hc hCn
 ·obtain⟨f0,f1,f2,f3,f4,f5⟩:=hf b hb
  exact⟨f3,f1,f4,f5⟩
noncomputable def b5u (wi:TI) (ix:List (Option Nat)) (g:TG) (tt:TT) (te:TE):TE:=fun σ H Q=>wi σ H fun J H1=>∃ W:Nat→Nat→List V→Hp→Prop,(∃ m,W 0 m [] H1)∧∀ i m ys H,W i m ys H →
 (J.stop i H∧ys.length≤sizeLine∧∀ p,H p=none→Q (.ref p) (upd H p (.lst ys))) ∨
 (J.go i H∧ys.length < sizeLine∧∀ x H',J.yld i H x H'→g x (pick ix σ) H' fun σ2 H2=>tt σ2 H2 fun ok H3 =>
  if ok=true then te σ2 H3 fun y H4=>∃ m',m' < m∧W (i+1) m' (ys++[y]) H4 else ∃ m',m' < m∧W (i+1) m' ys H3)
noncomputable def PTs (X:Cx) (ifs:List Expr) (t:TT):Prop :=
 ∀ (pins:List (Addr × Obj)) (s:Shared) (σ:St) (H:Hp) (Q:Bool→Hp→Prop),Inv X pins σ H s→t σ H Q →
   wpAny (model X.prog X.w) X.A (forIn ifs true fun c r=>if r=true then do let ok ← isTrue c X.env (eval c X.env);pure (ForInStep.yield ok) else pure (ForInStep.yield r)) (TP X pins σ Q) X.xe s
noncomputable def tYes:TT:=fun _ H Q=>Q true H
theorem b7Y:PTs X [] tYes:=fun _ _ _ H _ I h=>wpAny_tests_nil ⟨H,I,h⟩
theorem b7X {c:Expr} {t:TT} (h:PT X c t):PTs X [c] t:=fun pins s σ H Q I hw=>wpAny_tests_one (h pins s σ H Q I hw)
noncomputable def Agr (ix:List (Option Nat)) (σ σ2:St):Prop:=σ2.length=σ.length∧∀ (k j:Nat),ix[k]?=some (some j)→σ2[k]?=σ[k]?
noncomputable def Own (ix:List (Option Nat)) (g:TG):Prop:=∀ (x:V) (σ0 σ:St) (H:Hp) (Q:St→Hp→Prop),Agr ix σ0 σ→g x σ H Q→g x σ H fun σ2 H2=>Q σ2 H2∧Agr ix σ0 σ2
noncomputable def Owns (ix:List (Option Nat)) (g:TGs):Prop:=∀ (x:List V) (σ0 σ:St) (H:Hp) (Q:St→Hp→Prop),Agr ix σ0 σ→g x σ H Q→g x σ H fun σ2 H2=>Q σ2 H2∧Agr ix σ0 σ2
noncomputable def c0W (g:TG):Prop:=∀ (x:V) (σ:St) (H:Hp) (Q Q':St→Hp→Prop),(∀ σ H,Q σ H→Q' σ H)→g x σ H Q→g x σ H Q'
theorem a8x {ix:List (Option Nat)} {i:Nat} (h:ix[i]?=some none):Own ix (b0b i):=by
 intro x σ0 σ H Q a q
 refine⟨q,by rw[List.length_set];exact a.1,fun k j hk=>?_⟩
 rw[List.getElem?_set_ne]
 ·exact a.2 k j hk
 ·rintro rfl
  rw[h] at hk;cases hk
theorem a7X {i:Nat}:c0W (b0b i):=fun x σ H Q Q' h q=>h _ _ q
theorem b5S {ix:List (Option Nat)}:Owns ix gNil:=by
 intro x σ0 σ H Q a q
 exact⟨q.1,q.2,a⟩
theorem a9y {ix:List (Option Nat)} {t:TG} {u:TGs} (m:c0W t) (h1:Own ix t) (h2:Owns ix u):Owns ix (b6r t u):=by
 intro x σ0 σ H Q a q
 obtain⟨v,r,e,q⟩:=q
 exact⟨v,r,e,m _ _ _ _ _ (fun σ1 H1 q1=>h2 _ σ0 _ _ _ q1.2 q1.1) (h1 _ σ0 _ _ _ a q)⟩
theorem b8k {ix:List (Option Nat)} {K:PySem.W.Frag} {n:Nat} {t:TGs} (h:Owns ix t):Own ix (gTup K n t):=by
 intro x σ0 σ H Q a q
 obtain⟨p,xs,e1,e2,e3,q⟩:=q
 exact⟨p,xs,e1,e2,e3,h _ σ0 _ _ _ a q⟩
theorem b0m {elt iter tg:Expr} {ifs:List Expr} {pos posc:Pos} {wi:TI} {g:TG} {tt:TT} {te:TE} (use:Option (Value→Sem Unit)) (QQ:Value→Shared→Prop) (hc:X.calm=true) (hi:PI X tg iter wi) (S:BlkScope X N' ix scope) (ow:Own ix g)
  (hg:∀ C s H fp pins,PG (blk X N' scope C s H fp pins) tg g) (ht:∀ C s H fp pins,PTs (blk X N' scope C s H fp pins) ifs tt) (he:∀ C s H fp pins,PE (blk X N' scope C s H fp pins) elt te)
  (hs:∀ x,foldedSetIterable iter X.env x=pure x) (pins:List (Addr × Obj)) (s:Shared) (σ:St) (H:Hp) (Q:VK) (I:Inv X pins σ H s) (h:b5u wi ix g tt te σ H Q)
  (hpost:∀ (C D:Addr) (H5:Hp) (s4:Shared) (m:Str→Option Value),s4.heap.Ns C m→FpOk X pins H5 C→(∀ h',Heap.SameBut C s4.heap h'→Inv X pins σ H5 { s4 with heap:=h' })→Q (.ref D) H5 →
   compPost (model X.prog X.w) X.A X.xe use QQ (.ref D) C (.ok .next) s4) :
  wpAny (model X.prog X.w) X.A (comprehension (.ListComp elt [⟨tg,iter,ifs,0⟩] scope pos) scope X.env posc (newList []) false (eval iter X.env) use) QQ X.xe s:=by
 refine wpAny_comprehension_free (use:=use) rfl hs (a8T scope X.env fun y hy hk=>I.ok.has y.1 (S.frees y hy hk)) S.kind S.locs (thn (hi pins s σ H _ I h) fun v s1 h1=>thn h1 fun itv s2 h2=>?_)
 obtain⟨it,fp,tn,J,H2,e,I2,T,st2,f2,W,⟨m0,w0⟩,turn⟩:=h2
 subst e
 have hfo:∀ b∈fp,∃ o,s2.heap.get? b=some o:=fun b hb=>let ⟨o,e,_⟩:=T.obj _ _ st2 b hb;⟨o,e⟩
 refine wpAny_newObj_type (a5W (fun h₁ eh₁=>?_))
 dsimp only at eh₁⊢
 generalize hH2:s2.heap.push { cls:=.type "list",dict:=none,data:=.seq ([]:List Value).toArray }=Hp2 at eh₁⊢
 have hC:Hp2.objs.size=s2.heap.objs.size+1:=by rw[← hH2,Heap.size_push]
 have old1:∀ b o,Hp2.get? b=some o→h₁.get? b=some o:=fun b o e=>by rw[eh₁];exact pushCells_keeps _ _ _ _ (Heap.get?_push_of_some _ e)
 have hns:h₁.Ns Hp2.objs.size (fun _=>none):=by rw[eh₁];exact (Heap.Ns.new Hp2 (.type "dict")).keeps (pushCells_keeps _ _)
 have hown:∀ x c,(x,c)∈cellsFrom (Hp2.objs.size+1) scope.names []→h₁.IsCell c none:=fun x c hm=>by
  have ok:=cellsFrom_ok scope.names (Hp2.push { cls:=.type "dict",data:=.dict #[] }) (Hp2.objs.size+1) [] ⟨fun _ _ hm=>(nomatch hm),List.Pairwise.nil⟩ (by rw[Heap.size_push];exact Nat.le_refl _)
  rw[Heap.size_push] at ok
  rw[eh₁]
  exact (ok.empty x c hm).1
 generalize hCC:Hp2.objs.size=C at hns hown hC⊢
 generalize hDD:s2.heap.objs.size=D at hC
 have hCge:s2.heap.objs.size≤C:=by rw[hDD,hC];exact Nat.le_succ _
 have hDge:s2.heap.objs.size≤D:=Nat.le_of_eq hDD
 have hDC:D≠C:=by rw[hC];exact Nat.ne_of_lt (Nat.lt_succ_self _)
 have hDlt:D < C:=by rw[hC];exact Nat.lt_succ_self _
 have old:∀ b o,s2.heap.get? b=some o→h₁.get? b=some o:=fun b o e=>old1 b o (hH2▸Heap.get?_push_of_some _ e)
 have hacc:h₁.get? D=some { cls:=.type "list",data:=.seq ([]:List Value).toArray 0 }:=old1 _ _ (hH2▸hDD▸Heap.get?_push_size _ rfl)
 have stat:∀ {H':Hp},(∀ b∈fp,H' b=none)→∀ b∈fp,FpOk (blk X N' scope C s2 H2 fp pins) [] H' b:=fun hn b hb=>by
  obtain⟨f0,f1,f2,f3,f4,f5⟩:=f2 b hb
  obtain⟨o,ho⟩:=hfo b hb
  refine⟨hn b hb,Nat.ne_of_lt (Nat.lt_of_lt_of_le (Heap.lt_size ho) hCge),fun z=>?_,.inl hb,fun x c e=>?_,fun p hp=>?_⟩
  ·rcases List.mem_cons.mp (I2.stkSub _ z) with e | e
   ·exact f1 e
   ·exact f2 e
  ·rcases a2E I2 S C e with ⟨a1,a2⟩ | ⟨a1,a2⟩
   ·exact Nat.ne_of_gt (Nat.lt_trans (Nat.lt_of_lt_of_le (Heap.lt_size ho) hCge) a1)
   ·exact f4 x c a2
  ·have:p∈(X.pn++pins)++[]:=hp
   exact f5 p (by simpa using this)
 have hDs:D ∉ (blk X N' scope C s2 H2 fp pins).fs:=fun hb=>by
  rcases List.mem_cons.mp (I2.stkSub _ hb) with e | e
  ·rw[e] at hDge
   exact absurd (Nat.lt_of_lt_of_le I2.lt hDge) (Nat.lt_irrefl _)
  ·exact I2.nofs hDge e
 have loop:∀ s₃:Shared,s₃={ s2 with heap:=h₁ } →
   codeAny (model X.prog X.w) X.A (.compLoop (.ListComp elt [⟨tg,iter,ifs,0⟩] scope pos) 0 (.ref it) (.ref D) (compEnvC scope (cellsFrom (C+1) scope.names []++a5w X.env scope.names []) C X.env))
    (compPost (model X.prog X.w) X.A X.xe use QQ (.ref D) C) s₃:=by
  rintro s₃ rfl
  refine a5k (fun n s'=>∃ i ys its cap H',Inv (blk X N' scope C s2 H2 fp pins) [] (pick ix σ) H' s'∧tn i s'.heap∧(∀ b∈fp,H' b=none)∧H' D=none ∧
    s'.heap.get? D=some { cls:=.type "list",data:=.seq (its:List Value).toArray cap }∧Vals ys its∧W i n ys H') ?_ m0
   ⟨0,[],[],0,H2,b5j I2 f2 S hCge hfo hns old hown,T.keep _ _ _ st2 fun b _ o e=>old b o e,fun b hb=>(f2 b hb).1,I2.hok.fresh hDge,hacc,.nil,w0⟩
  rintro n s3 ⟨i,ys,its,cap,H3,I3,st3,fr3,hD3,ho3,r3,w3⟩
  have I3d:Inv (blk X N' scope C s2 H2 fp pins) [(D,{ cls:=.type "list",data:=.seq its.toArray cap })] (pick ix σ) H3 s3:=I3.pins_of fun p hp=>by
   have e:p=(D,{ cls:=.type "list",data:=.seq its.toArray cap }):=by simpa using hp
   subst e
   exact⟨ho3,hD3,hDC,hDs,fun v z=>nomatch z⟩
  have statD:∀ {H':Hp},(∀ b∈fp,H' b=none)→∀ b∈fp,FpOk (blk X N' scope C s2 H2 fp pins) [(D,({ cls:=.type "list",data:=.seq its.toArray cap }:Obj))] H' b:=fun hn b hb=>by
   obtain⟨f0,f1,f2,f3,f4,f5⟩:=stat hn b hb
   obtain⟨o,ho⟩:=hfo b hb
   refine⟨f0,f1,f2,f3,f4,fun p hp=>?_⟩
   rcases List.mem_append.mp hp with z | z
   ·exact f5 p (List.mem_append_left _ z)
   ·have e:p=(D,({ cls:=.type "list",data:=.seq its.toArray cap }:Obj)):=by simpa using z
    subst e
    exact Nat.ne_of_gt (Nat.lt_of_lt_of_le (Heap.lt_size ho) hDge)
  rcases turn i n ys H3 w3 with ⟨stop,hz,qn⟩ | ⟨go,hz,step⟩
  ·refine wpAny_noRaise (thn (T.done (blk X N' scope C s2 H2 fp pins) rfl rfl rfl hc i _ s3 (pick ix σ) H3 (fun _ _=>False) I3d (statD fr3) st3 stop) fun r s4 ⟨hr,I4⟩=>?_)
   subst hr
   obtain⟨e4,n4,_⟩:=I4.pin (D,_) (List.mem_append_right _ (List.mem_singleton.mpr rfl))
   obtain⟨m,hn,_⟩:=id I4.loc
   have hC4:H3 C=none:=I4.free
   exact hpost C D _ _ m hn (I2.fpOk hCge (by rw[a0v (Ne.symm hDC)];exact hC4)) (fun h' sb=>b9b I2 f2 hCge hDge hDC (Inv.unpinned (pl:=[(D,_)]) (pins:=[]) I4) n4 e4 r3 hz sb) (qn D n4)
  ·refine wpAny_noRaise (thn (T.item (blk X N' scope C s2 H2 fp pins) rfl rfl rfl hc i _ s3 (pick ix σ) H3 (fun _ _=>False) I3d (statD fr3) st3 go) fun r s4 ⟨u,hr,h4⟩=>?_)
   subst hr
   refine wpAny_noRaise (thn h4 fun _ s5 ⟨x,H5,I5,r5,y5,st5,fr5⟩=>?_)
   have I5':=I5.pinned (statD fr5) (T.obj _ _ st5)
   have again:∀ {σ7:St} {H7:Hp} {s7:Shared},Inv (blk X N' scope C s2 H2 fp pins) ([(D,({ cls:=.type "list",data:=.seq its.toArray cap }:Obj))]++a7P fp s5.heap) σ7 H7 s7 →
     H7 D=none∧s7.heap.get? D=some { cls:=.type "list",data:=.seq its.toArray cap }∧tn (i+1) s7.heap∧∀ b∈fp,H7 b=none:=fun {σ7 H7 s7} I7=>by
    obtain⟨e7,n7,_⟩:=I7.pin (D,_) (List.mem_append_right _ (List.mem_append_left _ (List.mem_singleton.mpr rfl)))
    refine⟨n7,e7,T.keep _ _ _ st5 fun b hb o e=>(I7.pin (b,o) (List.mem_append_right _ (List.mem_append_right _ (a4Y hb e)))).1,fun b hb=>?_⟩
    obtain⟨o,e,d⟩:=T.obj _ _ st5 b hb
    exact (I7.pin (b,o) (List.mem_append_right _ (List.mem_append_right _ (a4Y hb e)))).2.1
   have forget:∀ {σ7:St} {H7:Hp} {s7:Shared},Inv (blk X N' scope C s2 H2 fp pins) ([(D,({ cls:=.type "list",data:=.seq its.toArray cap }:Obj))]++a7P fp s5.heap) σ7 H7 s7 →
     (∀ (k:Nat) v,(pick ix σ)[k]?=some (some v)→σ7[k]?=some (some v))→σ7.length=(pick ix σ).length→Inv (blk X N' scope C s2 H2 fp pins) [] (pick ix σ) H7 s7:=fun {σ7 H7 s7} I7 hk hl =>
    (I7.pins_of (pins':=[]) fun _ z=>nomatch z).weak hl.symm hk
   refine wpAny_noRaise (thn (hg C s2 H2 fp pins _ s5 (pick ix σ) H5 x u _ I5' r5 (ow _ _ _ _ _ ⟨rfl,fun _ _ _=>rfl⟩ (step x H5 y5))) fun _ s6 ⟨σ6,H6,I6,q6,l6,k6⟩=>?_)
   have back:∀ (k:Nat) v,(pick ix σ)[k]?=some (some v)→σ6[k]?=some (some v):=fun k v e=>by
    obtain⟨j,e1,_⟩:=b1O e
    rw[k6 k j e1];exact e
   refine wpAny_noRaise (thn (ht C s2 H2 fp pins _ s6 σ6 H6 _ I6 q6) fun ok s7 ⟨H7,I7,q7⟩=>?_)
   cases ok with
   | false =>
     rw[if_neg Bool.false_ne_true]
     rw[if_neg Bool.false_ne_true] at q7
     obtain⟨m',hm,w7⟩:=q7
     obtain⟨a1,a2,a3,a4⟩:=again I7
     exact⟨m',hm,i+1,ys,its,cap,H7,forget I7 back l6,a3,a4,a1,a2,r3,w7⟩
   | true =>
     rw[if_pos rfl]
     rw[if_pos rfl] at q7
     refine wpAny_noRaise (thn (he C s2 H2 fp pins _ s7 σ6 H7 _ I7 q7) fun z s8 ⟨y,H8,I8,r8,m',hm,w8⟩=>?_)
     obtain⟨a1,a2,a3,a4⟩:=again I8
     have hl:=r3.length
     refine wpAny_noRaise (wpAny_list_append_plain ⟨_,a2⟩ (fun h9 ⟨cap9,p9⟩ sb9=>?_) (by rw[List.size_toArray,← hl];exact Nat.le_of_lt hz))
     have I9:Inv (blk X N' scope C s2 H2 fp pins) [] (pick ix σ) H8 { s8 with heap:=h9 } :=
      (forget I8 back l6).turned (t':=s8.toks) (it:=D) (fun b o hb e=>sb9.extBut b o hb e) a1 hDC (.inr hDge) (fun x c e=>by
       rcases a2E I2 S C e with ⟨a1,a2⟩ | ⟨a1,a2⟩
       ·exact Nat.ne_of_gt (Nat.lt_trans hDlt a1)
       ·obtain⟨v,z⟩:=I2.cell x c a2
        exact Nat.ne_of_lt (Nat.lt_of_lt_of_le z.lt hDge)) (fun p hp=>by
       have hp':p∈(X.pn++pins)++[]:=hp
       exact Nat.ne_of_lt (Nat.lt_of_lt_of_le (Heap.lt_size (I2.pin p (by simpa using hp')).1) hDge))
     refine⟨m',hm,i+1,ys++[y],its++[z],cap9,H8,I9,?_,a4,a1,?_,r3.append (.cons r8 .nil),w8⟩
     ·refine T.keep _ _ _ a3 fun b hb o e=>sb9.extBut b o ?_ e
      obtain⟨o',ho'⟩:=hfo b hb
      exact Nat.ne_of_lt (Nat.lt_of_lt_of_le (Heap.lt_size ho') hDge)
     ·rw[p9];simp
 exact codeAny_compStart_list (loop _ rfl) (T.self _ _ _ _ _ (T.keep _ _ _ st2 fun b _ o e=>old b o e) (loop _ rfl))
theorem b8h {elt iter tg:Expr} {ifs:List Expr} {pos:Pos} {wi:TI} {g:TG} {tt:TT} {te:TE} (hc:X.calm=true) (hi:PI X tg iter wi) (S:BlkScope X N' ix scope) (ow:Own ix g)
  (hg:∀ C s H fp pins,PG (blk X N' scope C s H fp pins) tg g) (ht:∀ C s H fp pins,PTs (blk X N' scope C s H fp pins) ifs tt) (he:∀ C s H fp pins,PE (blk X N' scope C s H fp pins) elt te)
  (hs:∀ x,foldedSetIterable iter X.env x=pure x:=by intro _;rfl) :
  PE X (.ListComp elt [⟨tg,iter,ifs,0⟩] scope pos) (b5u wi ix g tt te):=by
 intro pins s σ H Q I h
 rw[eval_ListComp]
 exact b0m none (EP X pins σ Q) hc hi S ow hg ht he hs pins s σ H Q I h fun C D H5 s4 m hn _ inv q=>⟨m,hn,fun h' sb=>⟨.ref D,H5,inv h' sb,rfl,q⟩⟩
theorem b8c {i:Nat} {x:Str} {elt iter tg:Expr} {ifs:List Expr} {pos pos' spos:Pos} {wi:TI} {g:TG} {tt:TT} {te:TE} (hN:X.N.Nodup) (hi':X.N[i]?=some x) (hx:Loc X.env.scope x) (hc:X.calm=true) (hi:PI X tg iter wi) (S:BlkScope X N' ix scope) (ow:Own ix g)
  (hg:∀ C s H fp pins,PG (blk X N' scope C s H fp pins) tg g) (ht:∀ C s H fp pins,PTs (blk X N' scope C s H fp pins) ifs tt) (he:∀ C s H fp pins,PE (blk X N' scope C s H fp pins) elt te)
  (hsw:swapsWith (.ListComp elt [⟨tg,iter,ifs,0⟩] scope pos) (some (.Name x pos')) spos.line X.env=pure true)
  (hs:∀ x,foldedSetIterable iter X.env x=pure x:=by intro _;rfl) (hf:X.fn x=true∨X.env.scope.names.lookup x=some .local:=by first | exact .inl rfl | exact .inr rfl | assumption) :
  PS X (.Assign [.Name x pos'] (.ListComp elt [⟨tg,iter,ifs,0⟩] scope pos) spos) (tAsg (b5u wi ix g tt te) (b0b i)):=by
 intro pins s σ H D I h
 rw[exec_Assign_Name_used _ _ _ _ hsw]
 refine wpAny_bind (wpAny_standAt (wpAny_bind ?_))
 show wpAny _ X.A (do let _ ← comprehension (.ListComp elt [⟨tg,iter,ifs,0⟩] scope pos) scope X.env _ (newList []) false (eval iter X.env) (some (assign (.Name x pos') X.env))) _ _ s
 refine wpAny_bind (thn (b0m (some (assign (.Name x pos') X.env)) (fun _ s'=>SP X pins D .next s') hc hi S ow hg ht he hs pins s σ H _ I h ?_) fun _ s' hq=>wpAny_pure (wpAny_pure hq))
 intro C D2 H5 s4 m hn fp inv q
 have I5:Inv X pins σ H5 s4:=inv s4.heap (Heap.SameBut.refl _ _)
 refine wpAny_assign_Name (a9i I5 hN hi' hx (v:=.ref D2) rfl (fun s5 I6 ⟨a,sb,ha⟩=>?_) hf)
 obtain⟨f0,f1,f2,f3,f4,f5⟩:=fp
 have hac:a≠C:=by
  rcases ha with rfl | ha
  ·exact Ne.symm f1
  ·exact f4 x a ha
 refine⟨m,hn.sameBut sb (Ne.symm hac),fun h' sb'=>⟨_,H5,I6.turned (t':=s5.toks) (it:=C) (fun b o hb e=>sb'.extBut b o hb e) f0 f1 f3 f4 f5,q⟩⟩
noncomputable def b5C (scope outer:Scope):Scope :=
 { scope with names:=scope.names.map fun (n,k)=>if (k == .free && outer.kind == .function && outer.names.lookup n == some .cell) then (n,.cell) else (n,k) }
theorem a9t {scope:Scope} {env:Env} {x:Str} {k:NameKind} (h:(relabel scope env).names.lookup x=some k) (hk:k=.cell∨k=.free):(x,NameKind.free)∈scope.names∨(x,NameKind.cell)∈scope.names:=by
 have hm:(x,k)∈(relabel scope env).names:=PySem.mem_of_lookup h
 unfold relabel at hm
 obtain⟨⟨n,k0⟩,h1,h2⟩:=List.mem_map.mp hm
 dsimp only at h2
 split at h2
 ·rename_i hc
  have e1:n=x:=(Prod.mk.inj h2).1
  subst e1
  have:k0=NameKind.free:=by
   simp only[Bool.and_eq_true,beq_iff_eq] at hc
   exact hc.1.1
  rw[this] at h1;exact .inl h1
 ·have e1:=Prod.mk.inj h2
  obtain⟨rfl,rfl⟩:=e1
  rcases hk with rfl | rfl
  ·exact .inr h1
  ·exact .inl h1
noncomputable def blkB (outer:Scope) (N N':List Str) (ix:List (Option Nat)) (scope:Scope):Bool :=
 decide (scope.kind=.function) && decide (outer.kind=.function) && scope.names.all (fun y=>decide (y.2=.local→scope.names.lookup y.1=some .local)) &&
 scope.names.all (fun y=>decide (y.2=.free→(outer.names.lookup y.1=some .cell∨outer.names.lookup y.1=some .free))) && decide (ix.length=N'.length) &&
 (List.range ix.length).all fun i=>match ix[i]?,N'[i]? with
  | some (some j),some x=>decide (N[j]?=some x) && decide ((x,NameKind.free)∈scope.names) && !ownB scope.names x &&
    decide ((b5C scope outer).names.lookup x=outer.names.lookup x)
  | _,_=>true
theorem a1i {X:Cx} {outer scope:Scope} {N N':List Str} {ix:List (Option Nat)} (h:blkB outer N N' ix scope=true) (ho:X.env.scope=outer) (hN:X.N=N):BlkScope X N' ix scope:=by
 unfold blkB at h
 simp only[Bool.and_eq_true,decide_eq_true_eq,List.all_eq_true] at h
 obtain⟨⟨⟨⟨⟨h1,h2⟩,h4⟩,h5⟩,h6⟩,h7⟩:=h
 subst ho hN
 refine⟨h1,h4,h5,fun x k hl hk=>a9t hl hk,h6,fun i j x e1 e2=>?_⟩
 have hi:i < ix.length:=(List.getElem?_eq_some_iff.mp e1).1
 have q:=h7 i (List.mem_range.mpr hi)
 rw[e1,e2] at q
 simp only[Bool.and_eq_true,decide_eq_true_eq,Bool.not_eq_true'] at q
 exact⟨q.1.1.1,q.1.1.2,q.1.2,q.2⟩
theorem PE.imp {X:Cx} {e:Expr} {t t':TE} (h:PE X e t) (f:∀ σ H Q,t' σ H Q→t σ H Q):PE X e t':=fun pins s σ H Q I q=>h pins s σ H Q I (f σ H Q q)
theorem PT.imp {X:Cx} {e:Expr} {t t':TT} (h:PT X e t) (f:∀ σ H Q,t' σ H Q→t σ H Q):PT X e t':=fun pins s σ H Q I q=>h pins s σ H Q I (f σ H Q q)
theorem PA.imp {X:Cx} {e:List Expr} {t t':TA} (h:PA X e t) (f:∀ σ H Q,t' σ H Q→t σ H Q):PA X e t':=fun pos pins s σ H Q I q=>h pos pins s σ H Q I (f σ H Q q)
theorem PS.imp {X:Cx} {e:Stmt} {t t':TS} (h:PS X e t) (f:∀ D σ H,t' D σ H→t D σ H):PS X e t':=fun pins s σ H D I q=>h pins s σ H D I (f D σ H q)
theorem PSs.imp {X:Cx} {e:List Stmt} {t t':TS} (h:PSs X e t) (f:∀ D σ H,t' D σ H→t D σ H):PSs X e t':=fun pins s σ H D I q=>h pins s σ H D I (f D σ H q)
inductive T where
 | non | bl (b:Bool) | int (i:Int) | str (x:Str) | tup (ts:List T) | adr (a:Addr)
 /-- a list that never changes (the script;a module's own) -/
 | rd (ts:List T)
 /-- a tuple of whole numbers that can be a dict's key -/
 | dic (ks:List Int) (ts:List T)
noncomputable def FzL (K:PySem.W.Frag) (H:Hp) (a:Addr) (xs:List V):Prop :=
 (∃ o,H a=some (.frz o (.lst xs))) ∨
  ∃ (o:Obj) (its:Array Value) (n:Nat),K.lookup a=some o∧o.cls=.type "list"∧o.dict=none∧o.data=.seq its n∧its.size≤sizeLine∧Vals xs its.toList
theorem FzL.sq {K:PySem.W.Frag} {H:Hp} {a:Addr} {xs:List V} (h:FzL K H a xs):SqL K H a xs:=by
 rcases h with ⟨o,h⟩ | h
 ·exact .inl (.inr ⟨o,h⟩)
 ·exact .inr h
mutual
noncomputable def Rep (K:PySem.W.Frag) (H:Hp):V→T→Prop
 | v,.non=>v=.non
 | v,.bl b=>v=.bl b
 | v,.int i=>v=.int i
 | v,.str x=>v=.str x
 | v,.adr a=>v=.ref a
 | v,.tup ts=>∃ a xs,v=.ref a∧SqT K H a xs∧Reps K H xs ts
 | v,.rd ts=>∃ a xs,v=.ref a∧FzL K H a xs∧Reps K H xs ts
 | v,.dic ks _=>∃ b,v=.ref b∧H b=some (.tup (ks.map V.int))
noncomputable def Reps (K:PySem.W.Frag) (H:Hp):List V→List T→Prop
 | vs,[]=>vs=[]
 | vs,t :: ts=>∃ v r,vs=v :: r∧Rep K H v t∧Reps K H r ts
end
structure Kp (K:PySem.W.Frag) (H H':Hp):Prop where
 tup:∀ a xs,SqT K H a xs→SqT K H' a xs
 frz:∀ a o u,H a=some (.frz o u)→H' a=some (.frz o u)
 tr:∀ a xs,H a=some (.tup xs)→H' a=some (.tup xs)
theorem Kp.refl {K:PySem.W.Frag} {H:Hp}:Kp K H H:=⟨fun _ _ h=>h,fun _ _ _ h=>h,fun _ _ h=>h⟩
theorem Kp.trans {K:PySem.W.Frag} {H H1 H2:Hp} (a:Kp K H H1) (b:Kp K H1 H2):Kp K H H2:=⟨fun _ _ h=>b.tup _ _ (a.tup _ _ h),fun _ _ _ h=>b.frz _ _ _ (a.frz _ _ _ h),fun _ _ h=>b.tr _ _ (a.tr _ _ h)⟩
structure KpW (K:PySem.W.Frag) (H H':Hp):Prop where
 tup:∀ a xs,SqT K H a xs→SqT K H' a xs
 frz:∀ a o u,H a=some (.frz o u)→H' a=some (.frz o u)
 tr:∀ a xs,H a=some (.tup xs)→H' a=some (.tup xs)
theorem Kp.w {K:PySem.W.Frag} {H H':Hp} (k:Kp K H H'):KpW K H H':=⟨k.tup,k.frz,k.tr⟩
theorem KpW.fz {K:PySem.W.Frag} {H H':Hp} {a:Addr} {xs:List V} (k:KpW K H H') (h:FzL K H a xs):FzL K H' a xs:=by
 rcases h with ⟨o,h⟩ | h
 ·exact .inl ⟨o,k.frz _ _ _ h⟩
 ·exact .inr h
mutual
theorem Rep.kw {K:PySem.W.Frag} {H H':Hp} (k:KpW K H H'):∀ (v:V) (t:T),Rep K H v t→Rep K H' v t
 | v,.non,h=>h
 | v,.bl b,h=>h
 | v,.int i,h=>h
 | v,.str x,h=>h
 | v,.adr a,h=>h
 | v,.tup ts,h=>by
   unfold Rep at h⊢
   obtain⟨a,xs,e,h1,h2⟩:=h
   exact⟨a,xs,e,k.tup _ _ h1,Reps.kw k xs ts h2⟩
 | v,.rd ts,h=>by
   unfold Rep at h⊢
   obtain⟨a,xs,e,h1,h2⟩:=h
   exact⟨a,xs,e,k.fz h1,Reps.kw k xs ts h2⟩
 | v,.dic ks ts,h=>by
   unfold Rep at h⊢
   obtain⟨b,e,h1⟩:=h
   exact⟨b,e,k.tr _ _ h1⟩
theorem Reps.kw {K:PySem.W.Frag} {H H':Hp} (k:KpW K H H'):∀ (vs:List V) (ts:List T),Reps K H vs ts→Reps K H' vs ts
 | vs,[],h=>h
 | vs,t :: ts,h=>by
   unfold Reps at h⊢
   obtain⟨v,r,e,h1,h2⟩:=h
   exact⟨v,r,e,Rep.kw k v t h1,Reps.kw k r ts h2⟩
end
theorem Rep.kp {K:PySem.W.Frag} {H H':Hp} (k:Kp K H H') (v:V) (t:T) (h:Rep K H v t):Rep K H' v t:=Rep.kw k.w v t h
theorem Reps.kp {K:PySem.W.Frag} {H H':Hp} (k:Kp K H H') (vs:List V) (ts:List T) (h:Reps K H vs ts):Reps K H' vs ts:=Reps.kw k.w vs ts h
section
variable {K:PySem.W.Frag} {H:Hp}
theorem Reps.cons {v:V} {t:T} {vs:List V} {ts:List T} (h:Rep K H v t) (r:Reps K H vs ts):Reps K H (v :: vs) (t :: ts):=by
 unfold Reps;exact⟨v,vs,rfl,h,r⟩
theorem Reps.nil:Reps K H [] []:=by unfold Reps;rfl
theorem Reps.length:∀ {vs:List V} {ts:List T},Reps K H vs ts→vs.length=ts.length
 | vs,[],h=>by unfold Reps at h;subst h;rfl
 | vs,t :: ts,h=>by
   unfold Reps at h
   obtain⟨v,r,rfl,_,h2⟩:=h
   rw[List.length_cons,List.length_cons,Reps.length h2]
theorem Reps.get:∀ {vs:List V} {ts:List T} {i:Nat} {t:T},Reps K H vs ts→ts[i]?=some t→∃ v,vs[i]?=some v∧Rep K H v t
 | _,[],_,_,_,e=>by simp at e
 | vs,t :: ts,0,u,h,e=>by
   unfold Reps at h
   obtain⟨v,r,rfl,h1,_⟩:=h
   simp at e;subst e
   exact⟨v,rfl,h1⟩
 | vs,t :: ts,i+1,u,h,e=>by
   unfold Reps at h
   obtain⟨v,r,rfl,_,h2⟩:=h
   obtain⟨w,q1,q2⟩:=Reps.get (i:=i) h2 (by simpa using e)
   exact⟨w,by simpa using q1,q2⟩
theorem Reps.append:∀ {vs:List V} {ts:List T} {ws:List V} {us:List T},Reps K H vs ts→Reps K H ws us→Reps K H (vs++ws) (ts++us)
 | vs,[],_,_,h,g=>by unfold Reps at h;subst h;exact g
 | vs,t :: ts,_,_,h,g=>by
   unfold Reps at h
   obtain⟨v,r,rfl,h1,h2⟩:=h
   exact .cons h1 (Reps.append h2 g)
theorem Reps.take:∀ {vs:List V} {ts:List T} (n:Nat),Reps K H vs ts→Reps K H (vs.take n) (ts.take n)
 | _,_,0,_=>.nil
 | vs,[],n+1,h=>by unfold Reps at h;subst h;exact .nil
 | vs,t :: ts,n+1,h=>by
   unfold Reps at h
   obtain⟨v,r,rfl,h1,h2⟩:=h
   exact .cons h1 (Reps.take n h2)
theorem Reps.drop:∀ {vs:List V} {ts:List T} (n:Nat),Reps K H vs ts→Reps K H (vs.drop n) (ts.drop n)
 | _,_,0,h=>h
 | vs,[],n+1,h=>by unfold Reps at h;subst h;exact .nil
 | vs,t :: ts,n+1,h=>by
   unfold Reps at h
   obtain⟨v,r,rfl,h1,h2⟩:=h
   exact Reps.drop n h2
theorem Reps.set {v:V} {t:T} (g:Rep K H v t):∀ {vs:List V} {ts:List T} (n:Nat),Reps K H vs ts→Reps K H (vs.set n v) (ts.set n t)
 | vs,[],n,h=>by unfold Reps at h;subst h;exact .nil
 | vs,u :: ts,0,h=>by
   unfold Reps at h
   obtain⟨v,r,rfl,h1,h2⟩:=h
   exact .cons g h2
 | vs,u :: ts,n+1,h=>by
   unfold Reps at h
   obtain⟨v,r,rfl,h1,h2⟩:=h
   exact .cons h1 (Reps.set g n h2)
theorem Reps.ints:∀ {vs:List V} {ns:List Int},Reps K H vs (ns.map T.int)→vs=ns.map V.int
 | vs,[],h=>by unfold Reps at h;exact h
 | vs,n :: ns,h=>by
   have h':Reps K H vs (T.int n :: ns.map T.int):=h
   unfold Reps at h'
   obtain⟨v,r,rfl,h1,h2⟩:=h'
   unfold Rep at h1
   subst h1
   rw[List.map_cons,Reps.ints h2]
theorem Reps.of_ints:∀ (ns:List Int),Reps K H (ns.map V.int) (ns.map T.int)
 | []=>.nil
 | n :: ns=>.cons (by unfold Rep;rfl) (Reps.of_ints ns)
end
inductive MO where
 /-- a list that may be written -/
 | lst (ts:List T)
 /-- a dict that may be written: keys whole numbers or texts -/
 | dk (kvs:List (Key × T))
 /-- the same,keys tuples of such -/
 | dt (kvs:List (List Key × T))
 /-- the same,walked: it may not be written any more -/
 | fz (kvs:List (List Key × T))
 /-- a dict with keys whole numbers or texts that may not be written any more (a walk may go over it) -/
 | fk (kvs:List (Key × T))
 /-- an object of an own class,its fields -/
 | ob (C:Addr) (fs:List (Str × T))
noncomputable abbrev MH:=Addr→Option MO
noncomputable def updM (M:MH) (a:Addr) (o:MO):MH:=fun b=>if b=a then some o else M b
theorem a0f {M:MH} {a:Addr} {o:MO}:updM M a o a=some o:=if_pos rfl
theorem a0t {M:MH} {a b:Addr} {o:MO} (h:b≠a):updM M a o b=M b:=if_neg h
noncomputable def Sub (M M':MH):Prop:=∀ a o,M a=some o→M' a=some o
theorem Sub.refl {M:MH}:Sub M M:=fun _ _ h=>h
theorem Sub.trans {M M1 M2:MH} (a:Sub M M1) (b:Sub M1 M2):Sub M M2:=fun _ _ h=>b _ _ (a _ _ h)
theorem Sub.new {M:MH} {p:Addr} {o:MO} (h:M p=none):Sub M (updM M p o):=fun b u q=>by
 rw[a0t]
 ·exact q
 ·rintro rfl
  rw[h] at q;cases q
noncomputable def KRep {κ:Type} (K:PySem.W.Frag) (H:Hp):List (κ × V)→List (κ × T)→Prop
 | [],[]=>True
 | p :: r,q :: u=>p.1=q.1∧Rep K H p.2 q.2∧KRep K H r u
 | _,_=>False
theorem KRep.kp {κ:Type} {K:PySem.W.Frag} {H H':Hp} (k:Kp K H H'):∀ {xs:List (κ × V)} {kvs:List (κ × T)},KRep K H xs kvs→KRep K H' xs kvs
 | [],[],_=>trivial
 | p :: r,q :: u,h=>⟨h.1,Rep.kp k _ _ h.2.1,KRep.kp k h.2.2⟩
 | [],q :: u,h=>h.elim
 | p :: r,[],h=>h.elim
theorem KRep.length {κ:Type} {K:PySem.W.Frag} {H:Hp}:∀ {xs:List (κ × V)} {kvs:List (κ × T)},KRep K H xs kvs→xs.length=kvs.length
 | [],[],_=>rfl
 | p :: r,q :: u,h=>by rw[List.length_cons,List.length_cons,KRep.length h.2.2]
 | [],q :: u,h=>h.elim
 | p :: r,[],h=>h.elim
noncomputable def MOk (K:PySem.W.Frag) (H:Hp) (a:Addr):MO→Prop
 | .lst ts=>∃ xs,H a=some (.lst xs)∧Reps K H xs ts
 | .dk kvs=>∃ xs,H a=some (.dK xs)∧KRep K H xs kvs
 | .dt kvs=>∃ xs,H a=some (.dT xs)∧KRep K H xs kvs
 | .fz kvs=>∃ o xs,H a=some (.frz o (.dT xs))∧KRep K H xs kvs
 | .fk kvs=>∃ xs,Rd H a (.dK xs)∧KRep K H xs kvs
 | .ob C fs=>∃ dx xs,H a=some (.ins C dx xs)∧KRep K H xs fs
noncomputable def HR (K:PySem.W.Frag) (H:Hp) (M:MH):Prop:=∀ a o,M a=some o→MOk K H a o
theorem HR.sub {K:PySem.W.Frag} {H:Hp} {M M':MH} (h:HR K H M') (s:Sub M M'):HR K H M:=fun a o e=>h a o (s a o e)
noncomputable abbrev En:=List (Option T)
noncomputable def RhoR (K:PySem.W.Frag) (σ:St) (H:Hp) (ρ:En):Prop:=σ.length=ρ.length∧∀ (i:Nat) (t:T),ρ[i]?=some (some t)→∃ v,σ[i]?=some (some v)∧Rep K H v t
theorem RhoR.kp {K:PySem.W.Frag} {σ:St} {H H':Hp} {ρ:En} (h:RhoR K σ H ρ) (k:Kp K H H'):RhoR K σ H' ρ:=⟨h.1,fun i t e=>let ⟨v,a,b⟩:=h.2 i t e;⟨v,a,Rep.kp k _ _ b⟩⟩
theorem RhoR.set {K:PySem.W.Frag} {σ:St} {H:Hp} {ρ:En} {v:V} {t:T} (h:RhoR K σ H ρ) (i:Nat) (r:Rep K H v t):RhoR K (σ.set i (some v)) H (ρ.set i (some t)):=by
 refine⟨by rw[List.length_set,List.length_set,h.1],fun j u e=>?_⟩
 by_cases hj:i=j
 ·subst hj
  have hi:i < ρ.length:=by
   have:=(List.getElem?_eq_some_iff.mp e).1
   rwa [List.length_set] at this
  rw[List.getElem?_set_self hi] at e
  cases e
  exact⟨v,List.getElem?_set_self (show i < List.length σ by rw[h.1];exact hi),r⟩
 ·rw[List.getElem?_set_ne hj] at e
  rw[List.getElem?_set_ne hj]
  exact h.2 j u e
noncomputable abbrev VK3:=T→MH→Prop
noncomputable abbrev TE3:=En→MH→VK3→Prop
noncomputable abbrev TT3:=En→MH→(Bool→MH→Prop)→Prop
noncomputable abbrev TA3:=En→MH→(List T→MH→Prop)→Prop
structure Ends3 where
 nx:En→MH→Prop
 rt:VK3
 bk:En→MH→Prop:=fun _ _=>False
 ct:En→MH→Prop:=fun _ _=>False
noncomputable abbrev TS3:=Ends3→En→MH→Prop
noncomputable def EndE (K:PySem.W.Frag) (H:Hp) (Q:VK3) (Q2:VK):Prop:=∀ t v M' H',Kp K H H'→HR K H' M'→Rep K H' v t→Q t M'→Q2 v H'
theorem EndE.kp {K:PySem.W.Frag} {H H':Hp} {Q:VK3} {Q2:VK} (h:EndE K H Q Q2) (k:Kp K H H'):EndE K H' Q Q2:=fun t v M' H1 k1=>h t v M' H1 (k.trans k1)
noncomputable def bE (K:PySem.W.Frag) (ρ:En) (M:MH) (Q:VK3):TE:=fun σ H Q2=>RhoR K σ H ρ∧HR K H M∧EndE K H Q Q2
noncomputable def HE (X:Cx) (e:Expr) (t:TE3):Prop:=∀ ρ M Q,t ρ M Q→PE X e (bE X.K ρ M Q)
noncomputable def EndT (K:PySem.W.Frag) (H:Hp) (Q:Bool→MH→Prop) (Q2:Bool→Hp→Prop):Prop:=∀ b M' H',Kp K H H'→HR K H' M'→Q b M'→Q2 b H'
noncomputable def bT (K:PySem.W.Frag) (ρ:En) (M:MH) (Q:Bool→MH→Prop):TT:=fun σ H Q2=>RhoR K σ H ρ∧HR K H M∧EndT K H Q Q2
noncomputable def HT (X:Cx) (e:Expr) (t:TT3):Prop:=∀ ρ M Q,t ρ M Q→PT X e (bT X.K ρ M Q)
noncomputable def EndA (K:PySem.W.Frag) (H:Hp) (Q:List T→MH→Prop) (Q2:List V→Hp→Prop):Prop:=∀ ts vs M' H',Kp K H H'→HR K H' M'→Reps K H' vs ts→Q ts M'→Q2 vs H'
noncomputable def bA (K:PySem.W.Frag) (ρ:En) (M:MH) (Q:List T→MH→Prop):TA:=fun σ H Q2=>RhoR K σ H ρ∧HR K H M∧EndA K H Q Q2
noncomputable def HA (X:Cx) (es:List Expr) (t:TA3):Prop:=∀ ρ M Q,t ρ M Q→PA X es (bA X.K ρ M Q)
structure EndS (K:PySem.W.Frag) (H:Hp) (D:Ends3) (D2:Ends):Prop where
 nx:∀ ρ' M' σ' H',Kp K H H'→RhoR K σ' H' ρ'→HR K H' M'→D.nx ρ' M'→D2.nx σ' H'
 rt:EndE K H D.rt D2.rt
 bk:∀ ρ' M' σ' H',Kp K H H'→RhoR K σ' H' ρ'→HR K H' M'→D.bk ρ' M'→D2.bk σ' H'
 ct:∀ ρ' M' σ' H',Kp K H H'→RhoR K σ' H' ρ'→HR K H' M'→D.ct ρ' M'→D2.ct σ' H'
theorem EndS.kp {K:PySem.W.Frag} {H H':Hp} {D:Ends3} {D2:Ends} (h:EndS K H D D2) (k:Kp K H H'):EndS K H' D D2 :=
 ⟨fun a b c d k1=>h.nx a b c d (k.trans k1),h.rt.kp k,fun a b c d k1=>h.bk a b c d (k.trans k1),fun a b c d k1=>h.ct a b c d (k.trans k1)⟩
noncomputable def bS (K:PySem.W.Frag) (D:Ends3) (ρ:En) (M:MH):TS:=fun D2 σ H=>RhoR K σ H ρ∧HR K H M∧EndS K H D D2
noncomputable def HS (X:Cx) (st:Stmt) (t:TS3):Prop:=∀ D ρ M,t D ρ M→PS X st (bS X.K D ρ M)
noncomputable def HSs (X:Cx) (st:List Stmt) (t:TS3):Prop:=∀ D ρ M,t D ρ M→PSs X st (bS X.K D ρ M)
noncomputable def dE (K:PySem.W.Frag) (ρ:En) (t:TE3):TE:=fun σ H Q2=>∃ M Q,t ρ M Q∧bE K ρ M Q σ H Q2
noncomputable def dT (K:PySem.W.Frag) (ρ:En) (t:TT3):TT:=fun σ H Q2=>∃ M Q,t ρ M Q∧bT K ρ M Q σ H Q2
noncomputable def dA (K:PySem.W.Frag) (ρ:En) (t:TA3):TA:=fun σ H Q2=>∃ M Q,t ρ M Q∧bA K ρ M Q σ H Q2
noncomputable def dS (K:PySem.W.Frag) (t:TS3):TS:=fun D2 σ H=>∃ D ρ M,t D ρ M∧bS K D ρ M D2 σ H
section
variable {X:Cx} {e:Expr} {es:List Expr} {st:Stmt} {sts:List Stmt} {ρ:En}
theorem HE.d {t:TE3} (h:HE X e t):PE X e (dE X.K ρ t):=fun pins s σ H Q I ⟨M,Q3,q,b⟩=>h ρ M Q3 q pins s σ H Q I b
theorem HT.d {t:TT3} (h:HT X e t):PT X e (dT X.K ρ t):=fun pins s σ H Q I ⟨M,Q3,q,b⟩=>h ρ M Q3 q pins s σ H Q I b
theorem HA.d {t:TA3} (h:HA X es t):PA X es (dA X.K ρ t):=fun pos pins s σ H Q I ⟨M,Q3,q,b⟩=>h ρ M Q3 q pos pins s σ H Q I b
theorem HS.d {t:TS3} (h:HS X st t):PS X st (dS X.K t):=fun pins s σ H D I ⟨D3,ρ,M,q,b⟩=>h D3 ρ M q pins s σ H D I b
theorem HSs.d {t:TS3} (h:HSs X sts t):PSs X sts (dS X.K t):=fun pins s σ H D I ⟨D3,ρ,M,q,b⟩=>h D3 ρ M q pins s σ H D I b
end
mutual
noncomputable def eqT:T→T→Bool
 | .non,.non=>true
 | .bl a,.bl b=>a == b
 | .bl a,.int b=>(if a then 1 else 0) == b
 | .int a,.bl b=>a == (if b then 1 else 0)
 | .int a,.int b=>a == b
 | .str a,.str b=>a == b
 | .tup a,.tup b=>eqTs a b
 | _,_=>false
noncomputable def eqTs:List T→List T→Bool
 | [],[]=>true
 | x :: xs,y :: ys=>eqT x y && eqTs xs ys
 | _,_=>false
end
mutual
noncomputable def a0K:T→Bool
 | .adr _=>false
 | .rd _=>false
 | .dic _ _=>false
 | .tup ts=>a1v ts
 | _=>true
noncomputable def a1v:List T→Bool
 | []=>true
 | t :: ts=>a0K t && a1v ts
end
mutual
noncomputable def depT:T→Nat
 | .tup ts=>a4q ts+1
 | _=>0
noncomputable def a4q:List T→Nat
 | []=>0
 | t :: ts=>max (depT t) (a4q ts)
end
theorem a3N:∀ {ts:List T} {j:Nat} {t:T},a1v ts=true→ts[j]?=some t→a0K t=true
 | [],_,_,_,e=>by simp at e
 | x :: ts,0,t,h,e=>by simp at e;subst e;unfold a1v at h;exact (Bool.and_eq_true _ _▸h).1
 | x :: ts,j+1,t,h,e=>by
   unfold a1v at h
   exact a3N (j:=j) (Bool.and_eq_true _ _▸h).2 (by simpa using e)
theorem a7p:∀ {ts:List T} {j:Nat} {t:T},ts[j]?=some t→depT t≤a4q ts
 | [],_,_,e=>by simp at e
 | x :: ts,0,t,e=>by simp at e;subst e;unfold a4q;exact Nat.le_max_left _ _
 | x :: ts,j+1,t,e=>by
   have:=a7p (ts:=ts) (j:=j) (t:=t) (by simpa using e)
   unfold a4q;exact Nat.le_trans this (Nat.le_max_right _ _)
noncomputable def eqJ (xs ys:List T) (j:Nat):Bool:=match xs[j]?,ys[j]? with
 | some x,some y=>eqT x y
 | _,_=>true
theorem a5d:∀ (xs ys:List T),(((List.range (min xs.length ys.length)).all (eqJ xs ys)) && (xs.length == ys.length))=eqTs xs ys
 | [],[]=>by unfold eqTs;rfl
 | [],y :: ys=>by unfold eqTs;simp
 | x :: xs,[]=>by unfold eqTs;simp
 | x :: xs,y :: ys=>by
   unfold eqTs
   rw[← a5d xs ys]
   rw[List.length_cons,List.length_cons,Nat.succ_min_succ,List.range_succ_eq_map,List.all_cons,List.all_map]
   have e1:eqJ (x :: xs) (y :: ys) 0=eqT x y:=rfl
   have e2:(eqJ (x :: xs) (y :: ys)) ∘ Nat.succ=eqJ xs ys:=by
    funext j;simp [eqJ]
   rw[e1,e2,Bool.and_assoc]
   congr 2
   simp
theorem b2f:∀ {xs ys:List T},eqTs xs ys=true→xs.length=ys.length
 | [],[],_=>rfl
 | [],y :: ys,h=>by unfold eqTs at h;cases h
 | x :: xs,[],h=>by unfold eqTs at h;cases h
 | x :: xs,y :: ys,h=>by
   unfold eqTs at h
   rw[Bool.and_eq_true] at h
   rw[List.length_cons,List.length_cons,b2f h.2]
mutual
theorem a0O:∀ (x:T),a0K x=true→eqT x x=true
 | .non,_=>rfl
 | .bl b,_=>by simp [eqT]
 | .int i,_=>by simp [eqT]
 | .str x,_=>by simp [eqT]
 | .adr a,h=>by unfold a0K at h;cases h
 | .rd a,h=>by unfold a0K at h;cases h
 | .dic ks a,h=>by unfold a0K at h;cases h
 | .tup ts,h=>by unfold a0K at h;unfold eqT;exact b0g ts h
theorem b0g:∀ (xs:List T),a1v xs=true→eqTs xs xs=true
 | [],_=>by unfold eqTs;rfl
 | x :: xs,h=>by
   unfold a1v at h
   rw[Bool.and_eq_true] at h
   unfold eqTs
   rw[a0O x h.1,b0g xs h.2]
   rfl
end
section
variable {X:Cx} {pins:List (Addr × Obj)} {σ:St} {H:Hp} {s:Shared}
theorem b7H (I:Inv X pins σ H s):∀ (x y:T) (v:V),a0K x=true→a0K y=true→Rep X.K H v x→Rep X.K H v y→eqT x y=true:=by
 have key:∀ n (x y:T) (v:V),depT x≤n→a0K x=true→a0K y=true→Rep X.K H v x→Rep X.K H v y→eqT x y=true:=by
  intro n
  induction n with
  | zero =>
    intro x y v hd px py rx ry
    cases x with
    | tup ts=>unfold depT at hd;lia
    | adr a=>unfold a0K at px;cases px
    | rd a=>unfold a0K at px;cases px
    | dic ks a=>unfold a0K at px;cases px
    | _=>unfold Rep at rx;subst rx;cases y<;>unfold Rep at ry<;>first | (obtain⟨_,_,e,_⟩:=ry;cases e;done) | (unfold a0K at py;cases py;done) | (cases ry<;>simp [eqT])
  | succ n ih =>
    intro x y v hd px py rx ry
    cases x with
    | adr a=>unfold a0K at px;cases px
    | rd a=>unfold a0K at px;cases px
    | dic ks a=>unfold a0K at px;cases px
    | tup ts =>
      unfold Rep at rx
      obtain⟨a,xs,rfl,h1,h2⟩:=rx
      cases y with
      | adr a=>unfold a0K at py;cases py
      | rd a=>unfold a0K at py;cases py
      | dic ks a=>unfold a0K at py;cases py
      | tup us =>
        unfold Rep at ry
        obtain⟨a',ys,e,g1,g2⟩:=ry
        cases e
        obtain rfl:=I.tuple_inj h1 g1
        unfold a0K at px py
        unfold depT at hd
        unfold eqT
        have hl:=h2.length
        have hl2:=g2.length
        rw[← a5d]
        rw[← hl,← hl2]
        simp only[Nat.min_self,beq_self_eq_true,Bool.and_true,List.all_eq_true,List.mem_range]
        intro j hj
        have e1:ts[j]?=some ts[j]:=List.getElem?_eq_getElem (by lia)
        have e2:us[j]?=some us[j]:=List.getElem?_eq_getElem (by lia)
        obtain⟨v1,q1,r1⟩:=h2.get e1
        obtain⟨v2,q2,r2⟩:=g2.get e2
        rw[q1] at q2;cases q2
        unfold eqJ
        rw[e1,e2]
        have:=a7p e1
        exact ih _ _ _ (by lia) (a3N px e1) (a3N py e2) r1 r2
      | _=>unfold Rep at ry;cases ry
    | _=>unfold Rep at rx;subst rx;cases y<;>unfold Rep at ry<;>first | (obtain⟨_,_,e,_⟩:=ry;cases e;done) | (unfold a0K at py;cases py;done) | (cases ry<;>simp [eqT])
 exact fun x y v=>key (depT x) x y v (Nat.le_refl _)
open SeqAt in
theorem b4Q {A:Around} (x y:T) (v u:V) (a b:Value) (px:a0K x=true) (py:a0K y=true) (rx:Rep X.K H v x) (ry:Rep X.K H u y) (ra:RelV v a) (rb:RelV u b) (nx:∀ ts,x≠.tup ts) (ny:∀ ts,y≠.tup ts) :
  SeqAt.EqAt A s a b (eqT x y)∧SeqAt.RcAt A s a b (eqT x y)∧SeqAt.RcNeAt A s a b (!(eqT x y)):=by
 cases x with
 | tup ts=>exact absurd rfl (nx ts)
 | adr p=>unfold a0K at px;cases px
 | rd p=>unfold a0K at px;cases px
 | dic ks p=>unfold a0K at px;cases px
 | non =>
   unfold Rep at rx;subst rx
   cases ra
   cases y with
   | tup ts=>exact absurd rfl (ny ts)
   | adr p=>unfold a0K at py;cases py
   | rd p=>unfold a0K at py;cases py
   | dic ks p=>unfold a0K at py;cases py
   | non =>
     unfold Rep at ry;subst ry
     cases rb
     have e:eqT .non .non=true:=rfl
     rw[e]
     exact⟨EqAt.same _,RcAt.none_none,RcNeAt.none_none⟩
   | bl c0 =>
     unfold Rep at ry;subst ry
     cases rb
     have e:eqT .non (.bl c0)=false:=rfl
     rw[e]
     exact⟨EqAt.none_bool _,RcAt.none_bool _,RcNeAt.none_bool _⟩
   | int c0 =>
     unfold Rep at ry;subst ry
     obtain⟨t_rb,rfl⟩:=rb
     have e:eqT .non (.int c0)=false:=rfl
     rw[e]
     exact⟨EqAt.none_int _ _,RcAt.none_int _ _,RcNeAt.none_int _ _⟩
   | str c0 =>
     unfold Rep at ry;subst ry
     obtain⟨t_rb,rfl⟩:=rb
     have e:eqT .non (.str c0)=false:=rfl
     rw[e]
     exact⟨EqAt.none_str _ _,RcAt.none_str _ _,RcNeAt.none_str _ _⟩
 | bl b0 =>
   unfold Rep at rx;subst rx
   cases ra
   cases y with
   | tup ts=>exact absurd rfl (ny ts)
   | adr p=>unfold a0K at py;cases py
   | rd p=>unfold a0K at py;cases py
   | dic ks p=>unfold a0K at py;cases py
   | non =>
     unfold Rep at ry;subst ry
     cases rb
     have e:eqT (.bl b0) .non=false:=rfl
     rw[e]
     exact⟨EqAt.bool_none _,RcAt.bool_none _,RcNeAt.bool_none _⟩
   | bl c0 =>
     unfold Rep at ry;subst ry
     cases rb
     have e:eqT (.bl b0) (.bl c0)=(b0 == c0):=rfl
     rw[e]
     exact⟨EqAt.bool_bool _ _,RcAt.bool_bool _ _,RcNeAt.bool_bool _ _⟩
   | int c0 =>
     unfold Rep at ry;subst ry
     obtain⟨t_rb,rfl⟩:=rb
     have e:eqT (.bl b0) (.int c0)=((if b0 then 1 else 0) == c0):=rfl
     rw[e]
     exact⟨EqAt.bool_int _ _ _,RcAt.bool_int _ _ _,RcNeAt.bool_int _ _ _⟩
   | str c0 =>
     unfold Rep at ry;subst ry
     obtain⟨t_rb,rfl⟩:=rb
     have e:eqT (.bl b0) (.str c0)=false:=rfl
     rw[e]
     exact⟨EqAt.bool_str _ _ _,RcAt.bool_str _ _ _,RcNeAt.bool_str _ _ _⟩
 | int b0 =>
   unfold Rep at rx;subst rx
   obtain⟨t_ra,rfl⟩:=ra
   cases y with
   | tup ts=>exact absurd rfl (ny ts)
   | adr p=>unfold a0K at py;cases py
   | rd p=>unfold a0K at py;cases py
   | dic ks p=>unfold a0K at py;cases py
   | non =>
     unfold Rep at ry;subst ry
     cases rb
     have e:eqT (.int b0) .non=false:=rfl
     rw[e]
     exact⟨EqAt.int_none _ _,RcAt.int_none _ _,RcNeAt.int_none _ _⟩
   | bl c0 =>
     unfold Rep at ry;subst ry
     cases rb
     have e:eqT (.int b0) (.bl c0)=(b0 == (if c0 then 1 else 0)):=rfl
     rw[e]
     exact⟨EqAt.int_bool _ _ _,RcAt.int_bool _ _ _,RcNeAt.int_bool _ _ _⟩
   | int c0 =>
     unfold Rep at ry;subst ry
     obtain⟨t_rb,rfl⟩:=rb
     have e:eqT (.int b0) (.int c0)=(b0 == c0):=rfl
     rw[e]
     exact⟨EqAt.int_int _ _ _ _,RcAt.int_int _ _ _ _,RcNeAt.int_int _ _ _ _⟩
   | str c0 =>
     unfold Rep at ry;subst ry
     obtain⟨t_rb,rfl⟩:=rb
     have e:eqT (.int b0) (.str c0)=false:=rfl
     rw[e]
     exact⟨EqAt.int_str _ _ _ _,RcAt.int_str _ _ _ _,RcNeAt.int_str _ _ _ _⟩
 | str b0 =>
   unfold Rep at rx;subst rx
   obtain⟨t_ra,rfl⟩:=ra
   cases y with
   | tup ts=>exact absurd rfl (ny ts)
   | adr p=>unfold a0K at py;cases py
   | rd p=>unfold a0K at py;cases py
   | dic ks p=>unfold a0K at py;cases py
   | non =>
     unfold Rep at ry;subst ry
     cases rb
     have e:eqT (.str b0) .non=false:=rfl
     rw[e]
     exact⟨EqAt.str_none _ _,RcAt.str_none _ _,RcNeAt.str_none _ _⟩
   | bl c0 =>
     unfold Rep at ry;subst ry
     cases rb
     have e:eqT (.str b0) (.bl c0)=false:=rfl
     rw[e]
     exact⟨EqAt.str_bool _ _ _,RcAt.str_bool _ _ _,RcNeAt.str_bool _ _ _⟩
   | int c0 =>
     unfold Rep at ry;subst ry
     obtain⟨t_rb,rfl⟩:=rb
     have e:eqT (.str b0) (.int c0)=false:=rfl
     rw[e]
     exact⟨EqAt.str_int _ _ _ _,RcAt.str_int _ _ _ _,RcNeAt.str_int _ _ _ _⟩
   | str c0 =>
     unfold Rep at ry;subst ry
     obtain⟨t_rb,rfl⟩:=rb
     have e:eqT (.str b0) (.str c0)=(b0 == c0):=rfl
     rw[e]
     exact⟨EqAt.str_str _ _ _ _,RcAt.str_str _ _ _ _,RcNeAt.str_str _ _ _ _⟩
theorem c1T {x:T} (h:∀ ts,x≠.tup ts):depT x=0:=by
 cases x with
 | tup ts=>exact absurd rfl (h ts)
 | _=>rfl
open SeqAt in
/-- a tuple against what is none -/
theorem b3h {A:Around} {p:Addr} {its:Array Value} (ht:s.heap.IsTuple p its) (hu:A.units < cLine) (x:T) (us:List T) (v:V) (a:Value) (px:a0K x=true) (rx:Rep X.K H v x) (ra:RelV v a) (nx:∀ ts,x≠.tup ts) :
  SeqAt.EqAt A s a (.ref p) (eqT x (.tup us))∧SeqAt.RcAt A s a (.ref p) (eqT x (.tup us))∧SeqAt.RcNeAt A s a (.ref p) (!(eqT x (.tup us))):=by
 cases x with
 | tup ts=>exact absurd rfl (nx ts)
 | adr q=>unfold a0K at px;cases px
 | rd q=>unfold a0K at px;cases px
 | dic ks q=>unfold a0K at px;cases px
 | non =>
   unfold Rep at rx;subst rx;cases ra
   have e:eqT .non (.tup us)=false:=rfl
   rw[e];exact⟨.none_tuple ht hu,.none_tuple ht hu,.none_tuple ht hu⟩
 | bl b0 =>
   unfold Rep at rx;subst rx;cases ra
   have e:eqT (.bl b0) (.tup us)=false:=rfl
   rw[e];exact⟨.bool_tuple _ ht hu,.bool_tuple _ ht hu,.bool_tuple _ ht hu⟩
 | int b0 =>
   unfold Rep at rx;subst rx;obtain⟨t,rfl⟩:=ra
   have e:eqT (.int b0) (.tup us)=false:=rfl
   rw[e];exact⟨.int_tuple _ _ ht hu,.int_tuple _ _ ht hu,.int_tuple _ _ ht hu⟩
 | str b0 =>
   unfold Rep at rx;subst rx;obtain⟨t,rfl⟩:=ra
   have e:eqT (.str b0) (.tup us)=false:=rfl
   rw[e];exact⟨.str_tuple _ _ ht hu,.str_tuple _ _ ht hu,.str_tuple _ _ ht hu⟩
open SeqAt in
theorem b3i {A:Around} {p:Addr} {its:Array Value} (ht:s.heap.IsTuple p its) (hu:A.units < cLine) (x:T) (us:List T) (v:V) (a:Value) (px:a0K x=true) (rx:Rep X.K H v x) (ra:RelV v a) (nx:∀ ts,x≠.tup ts) :
  SeqAt.EqAt A s (.ref p) a (eqT (.tup us) x)∧SeqAt.RcAt A s (.ref p) a (eqT (.tup us) x)∧SeqAt.RcNeAt A s (.ref p) a (!(eqT (.tup us) x)):=by
 cases x with
 | tup ts=>exact absurd rfl (nx ts)
 | adr q=>unfold a0K at px;cases px
 | rd q=>unfold a0K at px;cases px
 | dic ks q=>unfold a0K at px;cases px
 | non =>
   unfold Rep at rx;subst rx;cases ra
   have e:eqT (.tup us) .non=false:=rfl
   rw[e];exact⟨.tuple_none ht hu,.tuple_none ht hu,.tuple_none ht hu⟩
 | bl b0 =>
   unfold Rep at rx;subst rx;cases ra
   have e:eqT (.tup us) (.bl b0)=false:=rfl
   rw[e];exact⟨.tuple_bool _ ht hu,.tuple_bool _ ht hu,.tuple_bool _ ht hu⟩
 | int b0 =>
   unfold Rep at rx;subst rx;obtain⟨t,rfl⟩:=ra
   have e:eqT (.tup us) (.int b0)=false:=rfl
   rw[e];exact⟨.tuple_int _ _ ht hu,.tuple_int _ _ ht hu,.tuple_int _ _ ht hu⟩
 | str b0 =>
   unfold Rep at rx;subst rx;obtain⟨t,rfl⟩:=ra
   have e:eqT (.tup us) (.str b0)=false:=rfl
   rw[e];exact⟨.tuple_str _ _ ht hu,.tuple_str _ _ ht hu,.tuple_str _ _ ht hu⟩
theorem b1E (x:T):(∃ ts,x=.tup ts)∨∀ ts,x≠.tup ts:=by
 cases x with
 | tup ts=>exact .inl ⟨ts,rfl⟩
 | _=>exact .inr fun ts e=>by cases e
theorem b1Y {A:Around} {n:Nat} {ts us:List T} {xs ys:List V} {its its2:List Value} (px:a1v ts=true) (py:a1v us=true) (hd:a4q ts≤n) (h2:Reps X.K H xs ts) (g2:Reps X.K H ys us) (r1:Vals xs its) (r2:Vals ys its2)
  (ih:∀ (x y:T) (v u:V) (a b:Value),depT x≤n→a0K x=true→a0K y=true→Rep X.K H v x→Rep X.K H u y→RelV v a→RelV u b→SeqAt.EqAt A s a b (eqT x y)) (j:Nat) (hj1:j < its.toArray.size) (hj2:j < its2.toArray.size) :
  SeqAt.EqAt A s its.toArray[j] its2.toArray[j] (eqJ ts us j):=by
 have l1:=h2.length
 have l2:=g2.length
 have m1:=r1.length
 have m2:=r2.length
 have hj1':j < its.length:=by simpa using hj1
 have hj2':j < its2.length:=by simpa using hj2
 have e1:ts[j]?=some (ts[j]'(by lia)):=List.getElem?_eq_getElem (by lia)
 have e2:us[j]?=some (us[j]'(by lia)):=List.getElem?_eq_getElem (by lia)
 obtain⟨v1,a1,b1⟩:=h2.get e1
 obtain⟨v2,a2,b2⟩:=g2.get e2
 obtain⟨w1,c1,d1⟩:=r1.get a1
 obtain⟨w2,c2,d2⟩:=r2.get a2
 have f1:its.toArray[j]=w1:=by
  have:its[j]?=some (its[j]'hj1'):=List.getElem?_eq_getElem hj1'
  rw[c1] at this
  simpa using (Option.some.inj this).symm
 have f2:its2.toArray[j]=w2:=by
  have:its2[j]?=some (its2[j]'hj2'):=List.getElem?_eq_getElem hj2'
  rw[c2] at this
  simpa using (Option.some.inj this).symm
 have e3:eqJ ts us j=eqT (ts[j]'(by lia)) (us[j]'(by lia)):=by unfold eqJ;rw[e1,e2]
 rw[f1,f2,e3]
 have:=a7p e1
 exact ih _ _ v1 v2 w1 w2 (by lia) (a3N px e1) (a3N py e2) b1 b2 d1 d2
open SeqAt in
/-- == (by identity first),==,!= of two values,by their trees -/
theorem b4R (I:Inv X pins σ H s):∀ n (A:Around) (x y:T) (v u:V) (a b:Value),depT x≤n→A.units+n+1 < cLine→a0K x=true→a0K y=true→Rep X.K H v x→Rep X.K H u y→RelV v a→RelV u b →
  SeqAt.EqAt A s a b (eqT x y)∧SeqAt.RcAt A s a b (eqT x y)∧SeqAt.RcNeAt A s a b (!(eqT x y)):=by
 intro n
 induction n with
 | zero =>
   intro A x y v u a b hd hu px py rx ry ra rb
   rcases b1E x with ⟨ts,rfl⟩ | nx
   ·unfold depT at hd;lia
   ·rcases b1E y with ⟨us,rfl⟩ | ny
    ·unfold Rep at ry
     obtain⟨p,ys,rfl,g1,g2⟩:=ry
     obtain⟨its,r',ht,_⟩:=I.tuple g1
     have ht':s.heap.IsTuple p its.toArray:=ht
     cases rb
     exact b3h ht' (by lia) x us v a px rx ra nx
    ·exact b4Q x y v u a b px py rx ry ra rb nx ny
 | succ n ih =>
   intro A x y v u a b hd hu px py rx ry ra rb
   have hu':A.units < cLine:=by lia
   rcases b1E x with ⟨ts,rfl⟩ | nx
   ·have rx':=rx
    unfold Rep at rx
    obtain⟨p,xs,rfl,h1,h2⟩:=rx
    cases ra
    obtain⟨its,r1,ht,_⟩:=I.tuple h1
    have ht':s.heap.IsTuple p its.toArray:=ht
    rcases b1E y with ⟨us,rfl⟩ | ny
    ·have ry':=ry
     unfold Rep at ry
     obtain⟨q,ys,rfl,g1,g2⟩:=ry
     cases rb
     obtain⟨its2,r2,ht2,_⟩:=I.tuple g1
     have ht2':s.heap.IsTuple q its2.toArray:=ht2
     have px':=px
     have py':=py
     unfold a0K at px py
     unfold depT at hd
     have he:=b1Y (A:=A.in1) (s:=s) (n:=n) px py (by lia) h2 g2 r1 r2 fun x y v u a b hx px py rx ry ra rb=>(ih A.in1 x y v u a b hx (by show A.units+1+n+1 < cLine;lia) px py rx ry ra rb).1
     have ee:((List.range (min its.toArray.size its2.toArray.size)).all (eqJ ts us) && its.toArray.size == its2.toArray.size)=eqT (.tup ts) (.tup us):=by
      have l1:=h2.length
      have l2:=g2.length
      have m1:=r1.length
      have m2:=r2.length
      unfold eqT
      rw[← a5d,List.size_toArray,List.size_toArray,← m1,← m2,l1,l2]
     have rc:=RcAt.tuples (A:=A) (e:=eqJ ts us) ht' ht2' hu' he
     have rn:=RcNeAt.tuples (A:=A) (e:=eqJ ts us) ht' ht2' hu' he
     rw[ee] at rc rn
     refine⟨?_,rc,rn⟩
     by_cases hpq:p=q
     ·subst hpq
      have e:eqT (.tup ts) (.tup us)=true:=b7H I (.tup ts) (.tup us) (.ref p) px' py' rx' ry'
      rw[e];exact .same _
     ·exact .of_refs hpq rc
    ·exact b3i ht' hu' y ts u b py ry rb ny
   ·exact ih A x y v u a b (by rw[c1T nx];exact Nat.zero_le _) (by lia) px py rx ry ra rb
end
noncomputable abbrev R3:=T→T→MH→VK3→Prop
noncomputable def dR (K:PySem.W.Frag) (r:R3):R2:=fun v u H Q2=>∃ x y M Q,Rep K H v x∧Rep K H u y∧HR K H M∧r x y M Q∧EndE K H Q Q2
noncomputable def dU (K:PySem.W.Frag) (r:T→MH→VK3→Prop):V→Hp→VK→Prop:=fun v H Q2=>∃ x M Q,Rep K H v x∧HR K H M∧r x M Q∧EndE K H Q Q2
noncomputable def dL (K:PySem.W.Frag) (r:List T→MH→VK3→Prop):List V→Hp→VK→Prop:=fun vs H Q2=>∃ xs M Q,Reps K H vs xs∧HR K H M∧r xs M Q∧EndE K H Q Q2
theorem Kp.new {K:PySem.W.Frag} {H:Hp} {p:Addr} {o:HO} (h:H p=none):Kp K H (upd H p o):=by
 refine⟨fun a xs q=>?_,fun a ob u q=>by rw[a0v (a0A q h)];exact q,fun a xs q=>by rw[a0v (a0A q h)];exact q⟩
 rcases q with (q | ⟨ob,q⟩) | q
 ·exact .inl (.inl (by rw[a0v (a0A q h)];exact q))
 ·exact .inl (.inr ⟨ob,by rw[a0v (a0A q h)];exact q⟩)
 ·exact .inr q
theorem Kp.lst {K:PySem.W.Frag} {H:Hp} {p:Addr} {xs ys:List V} (h:H p=some (.lst xs)):Kp K H (upd H p (.lst ys)):=by
 have ne:∀ {a:Addr} {o:HO},H a=some o→o≠.lst xs→a≠p:=fun {a o} q hn e=>by
  subst e
  rw[h] at q;cases q;exact hn rfl
 refine⟨fun a zs q=>?_,fun a ob u q=>by rw[a0v (ne q (by intro z;cases z))];exact q,fun a xs q=>by rw[a0v (ne q (by intro z;cases z))];exact q⟩
 rcases q with (q | ⟨ob,q⟩) | q
 ·exact .inl (.inl (by rw[a0v (ne q (by intro z;cases z))];exact q))
 ·exact .inl (.inr ⟨ob,by rw[a0v (ne q (by intro z;cases z))];exact q⟩)
 ·exact .inr q
theorem Kp.dict {K:PySem.W.Frag} {H:Hp} {p:Addr} {o u:HO} (h:H p=some o) (ho:(∃ kvs,o=.dK kvs)∨∃ kvs,o=.dT kvs):Kp K H (upd H p u):=by
 have ne:∀ {a:Addr} {u:HO},H a=some u→((∃ xs,u=.tup xs)∨∃ b x,u=.frz b x)→a≠p:=fun {a u} q hn e=>by
  subst e
  rw[h] at q;cases q
  rcases ho with ⟨_,rfl⟩ | ⟨_,rfl⟩<;>rcases hn with ⟨_,z⟩ | ⟨_,_,z⟩<;>cases z
 refine⟨fun a zs q=>?_,fun a ob u q=>by rw[a0v (ne q (.inr ⟨_,_,rfl⟩))];exact q,fun a xs q=>by rw[a0v (ne q (.inl ⟨_,rfl⟩))];exact q⟩
 rcases q with (q | ⟨ob,q⟩) | q
 ·exact .inl (.inl (by rw[a0v (ne q (.inl ⟨_,rfl⟩))];exact q))
 ·exact .inl (.inr ⟨ob,by rw[a0v (ne q (.inr ⟨_,_,rfl⟩))];exact q⟩)
 ·exact .inr q
section
variable {K:PySem.W.Frag} {H:Hp} {M:MH}
noncomputable def Wr:HO→Prop
 | .lst _=>True
 | .dK _=>True
 | .dT _=>True
 | .frz _ _=>True
 | .ins _ _ _=>True
 | _=>False
theorem MOk.kp {H':Hp} {a:Addr} {o:MO} (h:MOk K H a o) (k:Kp K H H') (ha:∀ u,Wr u→H a=some u→H' a=some u):MOk K H' a o:=by
 cases o with
 | lst ts=>obtain⟨xs,e,r⟩:=h;exact⟨xs,ha _ trivial e,Reps.kp k _ _ r⟩
 | dk kvs=>obtain⟨xs,e,r⟩:=h;exact⟨xs,ha _ trivial e,r.kp k⟩
 | dt kvs=>obtain⟨xs,e,r⟩:=h;exact⟨xs,ha _ trivial e,r.kp k⟩
 | fz kvs=>obtain⟨ob,xs,e,r⟩:=h;exact⟨ob,xs,k.frz _ _ _ e,r.kp k⟩
 | fk kvs =>
   obtain⟨xs,e,r⟩:=h
   rcases e with e | ⟨ob,e⟩
   ·exact⟨xs,.inl (ha _ trivial e),r.kp k⟩
   ·exact⟨xs,.inr ⟨ob,k.frz _ _ _ e⟩,r.kp k⟩
 | ob C fs=>obtain⟨dx,xs,e,r⟩:=h;exact⟨dx,xs,ha _ trivial e,r.kp k⟩
theorem MOk.some {a:Addr} {o:MO} (h:MOk K H a o):∃ u,H a=Option.some u∧Wr u:=by
 cases o with
 | lst ts=>obtain⟨xs,e,r⟩:=h;exact⟨_,e,trivial⟩
 | dk kvs=>obtain⟨xs,e,r⟩:=h;exact⟨_,e,trivial⟩
 | dt kvs=>obtain⟨xs,e,r⟩:=h;exact⟨_,e,trivial⟩
 | fz kvs=>obtain⟨ob,xs,e,r⟩:=h;exact⟨_,e,trivial⟩
 | fk kvs =>
   obtain⟨xs,e,r⟩:=h
   rcases e with e | ⟨ob,e⟩
   ·exact⟨_,e,trivial⟩
   ·exact⟨_,e,trivial⟩
 | ob C fs=>obtain⟨dx,xs,e,r⟩:=h;exact⟨_,e,trivial⟩
theorem HR.free {p:Addr} (h:HR K H M) (hp:H p=none):M p=none:=by
 cases q:M p with
 | none=>rfl
 | some o =>
   obtain⟨u,e,_⟩:=(h p o q).some
   rw[hp] at e;cases e
theorem HR.keep {p:Addr} {o:HO} (h:HR K H M) (hp:H p=none):HR K (upd H p o) M:=fun a u e =>
 (h a u e).kp (Kp.new hp) fun u _ q=>by rw[a0v (a0A q hp)];exact q
theorem HR.newL {p:Addr} {xs:List V} {ts:List T} (h:HR K H M) (hp:H p=none) (r:Reps K H xs ts):HR K (upd H p (.lst xs)) (updM M p (.lst ts)):=fun a u e=>by
 by_cases ha:a=p
 ·subst ha
  rw[a0f] at e;cases e
  exact⟨xs,a0B,Reps.kp (Kp.new hp) _ _ r⟩
 ·rw[a0t ha] at e
  exact (h.keep hp) a u e
theorem HR.setL {p:Addr} {xs ys:List V} {us:List T} (h:HR K H M) (hp:H p=some (.lst xs)) (r:Reps K H ys us):HR K (upd H p (.lst ys)) (updM M p (.lst us)):=fun a u e=>by
 by_cases ha:a=p
 ·subst ha
  rw[a0f] at e;cases e
  exact⟨ys,a0B,Reps.kp (Kp.lst hp) _ _ r⟩
 ·rw[a0t ha] at e
  exact (h a u e).kp (Kp.lst hp) fun u _ q=>by rw[a0v ha];exact q
theorem HR.newK {p:Addr} {xs:List (Key × V)} {kvs:List (Key × T)} (h:HR K H M) (hp:H p=none) (r:KRep K H xs kvs):HR K (upd H p (.dK xs)) (updM M p (.dk kvs)):=fun a u e=>by
 by_cases ha:a=p
 ·subst ha
  rw[a0f] at e;cases e
  exact⟨xs,a0B,r.kp (Kp.new hp)⟩
 ·rw[a0t ha] at e
  exact (h.keep hp) a u e
theorem HR.newT {p:Addr} {xs:List (List Key × V)} {kvs:List (List Key × T)} (h:HR K H M) (hp:H p=none) (r:KRep K H xs kvs):HR K (upd H p (.dT xs)) (updM M p (.dt kvs)):=fun a u e=>by
 by_cases ha:a=p
 ·subst ha
  rw[a0f] at e;cases e
  exact⟨xs,a0B,r.kp (Kp.new hp)⟩
 ·rw[a0t ha] at e
  exact (h.keep hp) a u e
theorem HR.setK {p:Addr} {o:HO} {xs:List (Key × V)} {kvs:List (Key × T)} (h:HR K H M) (hp:H p=some o) (ho:(∃ kvs,o=.dK kvs)∨∃ kvs,o=.dT kvs) (r:KRep K H xs kvs):HR K (upd H p (.dK xs)) (updM M p (.dk kvs)):=fun a u e=>by
 by_cases ha:a=p
 ·subst ha
  rw[a0f] at e;cases e
  exact⟨xs,a0B,r.kp (Kp.dict hp ho)⟩
 ·rw[a0t ha] at e
  exact (h a u e).kp (Kp.dict hp ho) fun u _ q=>by rw[a0v ha];exact q
theorem HR.setT {p:Addr} {o:HO} {xs:List (List Key × V)} {kvs:List (List Key × T)} (h:HR K H M) (hp:H p=some o) (ho:(∃ kvs,o=.dK kvs)∨∃ kvs,o=.dT kvs) (r:KRep K H xs kvs):HR K (upd H p (.dT xs)) (updM M p (.dt kvs)):=fun a u e=>by
 by_cases ha:a=p
 ·subst ha
  rw[a0f] at e;cases e
  exact⟨xs,a0B,r.kp (Kp.dict hp ho)⟩
 ·rw[a0t ha] at e
  exact (h a u e).kp (Kp.dict hp ho) fun u _ q=>by rw[a0v ha];exact q
end
noncomputable def OpR3 (X:Cx) (f:Value→Value→Sem Value) (r:R3):Prop:=OpR X f (dR X.K r)
noncomputable def UnR3 (X:Cx) (f:Value→Sem Value) (r:T→MH→VK3→Prop):Prop:=UnR X f (dU X.K r)
noncomputable def a3T (X:Cx) (f:Value) (r:List T→MH→VK3→Prop):Prop:=a5V X f (dL X.K r)
noncomputable def IxR3 (X:Cx) (r:R3):Prop:=IxR X (dR X.K r)
noncomputable def tOp3 (r:R3) (ta tb:TE3):TE3:=fun ρ M Q=>ta ρ M fun x M1=>tb ρ M1 fun y M2=>r x y M2 Q
noncomputable def tUn3 (r:T→MH→VK3→Prop) (ta:TE3):TE3:=fun ρ M Q=>ta ρ M fun x M1=>r x M1 Q
noncomputable def b5t (i:Nat):TE3:=fun ρ M Q=>match ρ[i]? with
 | some (some t)=>Q t M
 | _=>False
noncomputable def tK (t:T):TE3:=fun _ M Q=>Q t M
section
variable {X:Cx} {a b c e:Expr} {es:List Expr} {ta tb tc te:TE3} {pos:Pos}
theorem dOp {ρ:En} {M:MH} {Q:VK3} {r:R3} (h:tOp3 r ta tb ρ M Q) {σ:St} {H:Hp} {Q2:VK} (b:bE X.K ρ M Q σ H Q2):tOp (dR X.K r) (dE X.K ρ ta) (dE X.K ρ tb) σ H Q2:=by
 obtain⟨hr,hh,en⟩:=b
 refine⟨M,_,h,hr,hh,fun t v M1 H1 k1 h1 r1 q1=>⟨M1,_,q1,hr.kp k1,h1,fun t2 v2 M2 H2 k2 h2 r2 q2=>⟨t,t2,M2,Q,Rep.kp k2 _ _ r1,r2,h2,q2,en.kp (k1.trans k2)⟩⟩⟩
theorem a0q {op:Operator} {r:R3} (ho:OpR3 X (binaryOp op) r) (ha:HE X a ta) (hb:HE X b tb):HE X (.BinOp a op b pos) (tOp3 r ta tb):=fun ρ M Q h =>
 (c1v ho (ha.d (ρ:=ρ)) (hb.d (ρ:=ρ))).imp fun σ H Q2 b=>dOp h b
theorem h_un {op:UnaryOp} {r:T→MH→VK3→Prop} (ho:UnR3 X (unaryOp op) r) (ha:HE X a ta):HE X (.UnaryOp op a pos) (tUn3 r ta):=fun ρ M Q h =>
 (c1t ho (ha.d (ρ:=ρ))).imp fun σ H Q2 ⟨hr,hh,en⟩=>⟨M,_,h,hr,hh,fun t v M1 H1 k1 h1 r1 q1=>⟨t,M1,Q,r1,h1,q1,en.kp k1⟩⟩
theorem c1O {i:Nat} {x:Str} (hN:X.N[i]?=some x) (hv:Vis X.env.scope x) (hd:(x == ("__debug__":Str))=false:=by decide) (hcd:(x == ("__classdict__":Str))=false:=by decide):HE X (.Name x pos) (b5t i):=fun ρ M Q h =>
 (b6X hN hv hd hcd).imp fun σ H Q2 ⟨hr,hh,en⟩=>by
  unfold b5t at h
  split at h
  ·rename_i t e
   obtain⟨v,e1,r⟩:=hr.2 i t e
   exact⟨v,e1,en t v M H Kp.refl hh r h⟩
  ·exact h.elim
theorem hv (i:Nat) {x:Str} {pos:Pos} (hN:X.N[i]?=some x:=by rfl) (hv:Vis X.env.scope x:=by first | exact Or.inl rfl | exact Or.inr (Or.inl rfl) | exact Or.inr (Or.inr rfl)) (hd:(x == ("__debug__":Str))=false:=by decide)
  (hcd:(x == ("__classdict__":Str))=false:=by decide):HE X (.Name x pos) (b5t i):=c1O hN hv hd hcd
theorem a0P {K:PySem.W.Frag} {H:Hp} {i:Int}:Rep K H (.int i) (.int i):=by unfold Rep;rfl
theorem a2B {K:PySem.W.Frag} {H:Hp} {i:Bool}:Rep K H (.bl i) (.bl i):=by unfold Rep;rfl
theorem a6V {K:PySem.W.Frag} {H:Hp} {i:Str}:Rep K H (.str i) (.str i):=by unfold Rep;rfl
theorem a6W {K:PySem.W.Frag} {H:Hp}:Rep K H .non .non:=by unfold Rep;rfl
theorem a2j {K:PySem.W.Frag} {H:Hp} {a:Addr}:Rep K H (.ref a) (.adr a):=by unfold Rep;rfl
theorem a2i {K:PySem.W.Frag} {H:Hp} {a:Addr} {xs:List V} {ts:List T} (h:SqT K H a xs) (r:Reps K H xs ts):Rep K H (.ref a) (.tup ts):=by unfold Rep;exact⟨a,xs,rfl,h,r⟩
theorem a6j {v:V} {t:T} (h:PE X e (tC v)) (r:∀ K H,Rep K H v t):HE X e (tK t):=fun ρ M Q q=>h.imp fun σ H Q2 ⟨hr,hh,en⟩=>en t v M H Kp.refl hh (r _ _) q
theorem a0e {i j pos}:HE X (.Constant (.int i) j pos) (tK (.int i)):=a6j c0a fun _ _=>a0P
theorem h_bl {b j pos}:HE X (.Constant (.bool b) j pos) (tK (.bl b)):=a6j c1y fun _ _=>a2B
theorem a6i {j pos}:HE X (.Constant .none j pos) (tK .non):=a6j b9Y fun _ _=>a6W
theorem a0W {x j pos}:HE X (.Constant (.str x) j pos) (tK (.str x)):=a6j b9W fun _ _=>a6V
theorem a5u {x:Str} {i:Int} {tk:Tok} {pos:Pos} (hm:X.mg x=some (.int i tk)) (hg:Gl X x:=by rfl) (hd:(x == ("__debug__":Str))=false:=by decide):HE X (.Name x pos) (tK (.int i)):=a6j (v:=.int i) (b1a hg hm ⟨tk,rfl⟩ hd) fun _ _=>a0P
theorem a0w {K:PySem.W.Frag} {H:Hp} {v:V} {i:Int} (r:Rep K H v (.int i)):v=.int i:=by unfold Rep at r;exact r
theorem a2F {K:PySem.W.Frag} {H:Hp} {v:V} {i:Str} (r:Rep K H v (.str i)):v=.str i:=by unfold Rep at r;exact r
theorem a3D {K:PySem.W.Frag} {H:Hp} {v:V} {i:Bool} (r:Rep K H v (.bl i)):v=.bl i:=by unfold Rep at r;exact r
theorem a7g {K:PySem.W.Frag} {H:Hp} {v:V} (r:Rep K H v .non):v=.non:=by unfold Rep at r;exact r
theorem a0L {K:PySem.W.Frag} {H:Hp} {v:V} {a:Addr} (r:Rep K H v (.adr a)):v=.ref a:=by unfold Rep at r;exact r
theorem a1g {K:PySem.W.Frag} {H:Hp} {v:V} {ts:List T} (r:Rep K H v (.tup ts)):∃ a xs,v=.ref a∧SqT K H a xs∧Reps K H xs ts:=by unfold Rep at r;exact r
noncomputable def rInt (C:Int→Int→Prop) (g:Int→Int→Int):R3:=fun x y M Q=>match x,y with
 | .int i,.int j=>C i j∧Q (.int (g i j)) M
 | _,_=>False
theorem b1c {f:Value→Value→Sem Value} {C:Int→Int→Prop} {g:Int→Int→Int} (h:OpR X f (rI C fun i j=>.int (g i j))):OpR3 X f (rInt C g):=by
 intro pins s σ H x y v u Q2 I rx ry q
 obtain⟨a,b,M,Q,r1,r2,hh,q,en⟩:=q
 unfold rInt at q
 split at q
 ·obtain rfl:=a0w r1
  obtain rfl:=a0w r2
  exact h pins s σ H _ _ v u Q2 I rx ry ⟨_,_,rfl,rfl,q.1,en _ _ M H Kp.refl hh a0P q.2⟩
 ·exact q.elim
noncomputable def b7K:R3:=fun x y M Q=>match x,y with
 | .int i,.int j=>Q (.int (i - j)) M
 | _,_=>False
theorem a1b:OpR3 X (binaryOp .Sub) b7K:=by
 intro pins s σ H x y v u Q2 I rx ry q
 obtain⟨a,b,M,Q,r1,r2,hh,q,en⟩:=q
 unfold b7K at q
 split at q
 ·obtain rfl:=a0w r1
  obtain rfl:=a0w r2
  exact c0e pins s σ H _ _ v u Q2 I rx ry ⟨_,_,rfl,rfl,en _ _ M H Kp.refl hh a0P q⟩
 ·exact q.elim
noncomputable def b9c (i j:Int):Prop:=0 < j∧j.natAbs.log2 < 9000
theorem b5U:OpR X (binaryOp .FloorDiv) (rI b9c fun i j=>.int (i / j)):=opI fun i j _ _ _ _ _ hc q=>by
 have e:i.fdiv j=i / j:=Int.fdiv_eq_ediv_of_nonneg i (Int.le_of_lt hc.1)
 exact floordiv_int (Int.ne_of_gt hc.1) (by rw[e];exact q) (.inl (PyProof.noPylong_of_log2 hc.2))
noncomputable def b9L:R3:=rInt b9c fun i j=>i / j
noncomputable def b9J:R3:=rInt (fun _ j=>0 < j) fun i j=>i % j
noncomputable def b9I:R3:=rInt CPow fun i j=>i ^ j.toNat
theorem a6d:OpR3 X (binaryOp .FloorDiv) b9L:=b1c b5U
theorem a4H:OpR3 X (binaryOp .Mod) b9J:=b1c c0i
theorem b4d:OpR3 X (binaryOp .Pow) b9I:=b1c c0g
noncomputable def b7L:T→MH→VK3→Prop:=fun x M Q=>match x with
 | .int i=>Q (.int (-i)) M
 | _=>False
theorem a0Y:UnR3 X (unaryOp .USub) b7L:=by
 intro pins s σ H x v Q2 I rx q
 obtain⟨a,M,Q,r1,hh,q,en⟩:=q
 unfold b7L at q
 split at q
 ·obtain rfl:=a0w r1
  exact b9e pins s σ H _ v Q2 I rx ⟨_,rfl,en _ _ M H Kp.refl hh a0P q⟩
 ·exact q.elim
theorem b5V:OpR X (binaryOp .Add) (fun x y H Q=>∃ a b ys,x=.ref a∧y=.ref b∧SqT X.K H a []∧SqT X.K H b ys∧Q (.ref b) H):=by
 intro pins s σ H x y v u Q I rx ry h
 obtain⟨a,b,ys,rfl,rfl,hx,hy,q⟩:=h
 cases rx
 cases ry
 obtain⟨its,r,ht,hz⟩:=I.tuple hx
 obtain⟨its2,r2,ht2,hz2⟩:=I.tuple hy
 have e:its=[]:=r.nil_iff.mpr rfl
 subst e
 obtain⟨⟨cls,dd,data,sl⟩,ho,hc,n,hd⟩:=id ht
 obtain⟨⟨cls2,dd2,data2,sl2⟩,ho2,hc2,n2,hd2⟩:=id ht2
 simp only at hc hd hc2 hd2
 subst hc hd hc2 hd2
 exact concat_meets ⟨_,ho,rfl⟩ ⟨_,ho2,rfl⟩ noFill_tuple_add seq_tuple_add PySem.F.slot_tuple_add PySem.F.entry_tuple_add (PySem.F.args_tuple_add_2 _ _)
   (tuple_addW0 a b _ its2.toArray n n2 dd dd2 sl sl2 (by simp)) ⟨ho,ho2,⟨.ref b,H,I,rfl,q⟩⟩
noncomputable def b7U:R3:=fun x y M Q=>match x,y with
 | .int i,.int j=>Q (.int (i+j)) M
 | .str a,.str b=>a.length+b.length≤sizeLine∧Q (.str (a++b)) M
 | .tup a,.tup b=>a.length+b.length≤sizeLine∧Q (.tup (a++b)) M
 | .adr p,.adr q=>match M p,M q with
   | some (.lst a),some (.lst b)=>a.length+b.length≤sizeLine∧∀ r,M r=none→Q (.adr r) (updM M r (.lst (a++b)))
   | _,_=>False
 | _,_=>False
theorem a0p:OpR3 X (binaryOp .Add) b7U:=by
 intro pins s σ H x y v u Q2 I rx ry q
 obtain⟨a,b,M,Q,r1,r2,hh,q,en⟩:=q
 unfold b7U at q
 split at q
 ·obtain rfl:=a0w r1
  obtain rfl:=a0w r2
  exact c0l pins s σ H _ _ v u Q2 I rx ry ⟨_,_,rfl,rfl,en _ _ M H Kp.refl hh a0P q⟩
 ·obtain rfl:=a2F r1
  obtain rfl:=a2F r2
  exact b2J pins s σ H _ _ v u Q2 I rx ry ⟨_,_,rfl,rfl,q.1,en _ _ M H Kp.refl hh a6V q.2⟩
 ·rename_i ts us
  obtain⟨p,xs,rfl,h1,h2⟩:=a1g r1
  obtain⟨p',ys,rfl,g1,g2⟩:=a1g r2
  have l1:=h2.length
  have l2:=g2.length
  by_cases hx:xs=[]
  ·subst hx
   have ht:ts=[]:=List.eq_nil_of_length_eq_zero (by rw[← l1];rfl)
   subst ht
   exact b5V pins s σ H _ _ v u Q2 I rx ry ⟨_,_,ys,rfl,rfl,h1,g1,en _ _ M H Kp.refl hh (a2i g1 g2) q.2⟩
  ·refine b8o pins s σ H _ _ v u Q2 I rx ry ⟨_,_,xs,ys,rfl,rfl,h1,g1,hx,by rw[l1,l2];exact q.1,fun hy=>?_,fun hy r hr=>?_⟩
   ·subst hy
    have ht:us=[]:=List.eq_nil_of_length_eq_zero (by rw[← l2];rfl)
    subst ht
    have q2:=q.2
    rw[List.append_nil] at q2
    exact en _ _ M H Kp.refl hh (a2i h1 h2) q2
   ·refine en _ _ M _ (Kp.new hr) (hh.keep hr) (a2i (SqT.of a0B) ?_) q.2
    exact Reps.kp (Kp.new hr) _ _ (h2.append g2)
 ·rename_i p p'
  obtain rfl:=a0L r1
  obtain rfl:=a0L r2
  split at q
  ·rename_i ts us e1 e2
   obtain⟨xs,h1,h2⟩:=hh _ _ e1
   obtain⟨ys,g1,g2⟩:=hh _ _ e2
   refine c0k pins s σ H _ _ v u Q2 I rx ry ⟨_,_,xs,ys,rfl,rfl,h1,g1,by rw[h2.length,g2.length];exact q.1,fun r hr=>?_⟩
   exact en _ _ _ _ (Kp.new hr) (hh.newL hr (h2.append g2)) a2j (q.2 r (hh.free hr))
  ·exact q.elim
 ·exact q.elim
end
theorem a6C:fillsNumberSlot (.type "tuple") "mul"=pure false :=
 PySem.fillsNumberSlot_seq (id:="tuple.__mul__") (r:=some (.builtin "tuple.__rmul__")) F.slot_tuple_mul.lookup (by decide +kernel) F.slot_tuple_rmul.lookup (by decide +kernel)
theorem a9s:seqRepeat? (.type "tuple")=pure (some (.builtin "tuple.__mul__")):=by
 unfold seqRepeat?
 rw[PySem.seqSlot_of (T:="tuple") (name:="__mul__") (id:="tuple.__mul__") F.slot_tuple_mul.lookup (by decide +kernel),PySem.seqSlot_of (T:="tuple") (name:="__rmul__") (id:="tuple.__rmul__") F.slot_tuple_rmul.lookup (by decide +kernel)]
 rfl
section
variable (l:Addr) (items:Array Value) (n:Nat) (x:Int) (u:Tok) (dd:Option Addr) (sl:Array (Option Value))
theorem a7C:Meets (Builtin.«int.__rmul__» ⟨[.int x u,.ref l],[]⟩) (fun _ R s=>s.heap.get? l=some { cls:=.type "tuple",dict:=dd,data:=.seq items n,slots:=sl }∧R (.ok (.ret Value.notImplemented)) s) :=
 .of_wp fun prog w A R s h=>by obtain⟨hp,g,d,tk,os⟩:=s;obtain⟨hl,h⟩:=h;wp_walk;exact⟨_,rfl,h⟩
theorem b0H (h0:-(2 ^ 63)≤x) (h1:x < 2 ^ 63) (hc:(items.isEmpty || x == 1)=true) :
  Meets (Builtin.«tuple.__mul__» ⟨[.ref l,.int x u],[]⟩) (fun _ R s=>s.heap.get? l=some { cls:=.type "tuple",dict:=dd,data:=.seq items n,slots:=sl }∧R (.ok (.ret (Value.ref l))) s) :=
 .of_wp fun prog w A R s h=>by
  obtain⟨hp,g,d,tk,os⟩:=s;obtain⟨hl,h⟩:=h
  have hb:¬(decide (x < -2 ^ 63) || decide (x ≥ 2 ^ 63))=true:=by simp;lia
  wp_walk
  rw[if_neg hb]
  wp_walk
  first | exact⟨_,rfl,h⟩ | (rw[if_pos hc];wp_walk;exact⟨_,rfl,h⟩)
theorem b0G (h0:-(2 ^ 63)≤x) (h1:x < 2 ^ 63) (hc:¬(items.isEmpty || x == 1)=true) (hn:(decide (x≤0) || items.isEmpty)=true) :
  Meets (Builtin.«tuple.__mul__» ⟨[.ref l,.int x u],[]⟩) (fun _ R s=>s.heap.get? l=some { cls:=.type "tuple",dict:=dd,data:=.seq items n,slots:=sl }∧R (.ok (.ret (Value.ref s.heap.objs.size))) { s with heap:=s.heap.push { cls:=.type "tuple",data:=.seq #[] },toks:=s.toks }) :=
 .of_wp fun prog w A R s h=>by
  obtain⟨hp,g,d,tk,os⟩:=s;obtain⟨hl,h⟩:=h
  have hb:¬(decide (x < -2 ^ 63) || decide (x ≥ 2 ^ 63))=true:=by simp;lia
  wp_walk
  rw[if_neg hb]
  wp_walk
  first | exact⟨_,rfl,h⟩ | (rw[if_neg hc,if_pos hn];wp_walk;exact⟨_,rfl,h⟩)
theorem b0F (h0:-(2 ^ 63)≤x) (h1:x < 2 ^ 63) (hc:¬(items.isEmpty || x == 1)=true) (hn:¬(decide (x≤0) || items.isEmpty)=true) (hm:¬items.size*x > (2 ^ 63 - 1) / 8) (hz:¬Builtin.Tuple.tupleTooMany (items.size*x)=true) (hf:sizeOk (.seq (List.foldl (fun x1 x2=>x1++x2) #[] (List.replicate x.toNat items)))) :
  Meets (Builtin.«tuple.__mul__» ⟨[.ref l,.int x u],[]⟩) (fun _ R s=>s.heap.get? l=some { cls:=.type "tuple",dict:=dd,data:=.seq items n,slots:=sl }∧R (.ok (.ret (Value.ref s.heap.objs.size))) { s with heap:=s.heap.push { cls:=.type "tuple",data:=.seq (List.foldl (fun x1 x2=>x1++x2) #[] (List.replicate x.toNat items)) },toks:=s.toks }) :=
 .of_wp fun prog w A R s h=>by
  obtain⟨hp,g,d,tk,os⟩:=s;obtain⟨hl,h⟩:=h
  have hb:¬(decide (x < -2 ^ 63) || decide (x ≥ 2 ^ 63))=true:=by simp;lia
  wp_walk
  rw[if_neg hb]
  wp_walk
  rw[if_neg hm]
  wp_walk
  first | exact⟨_,rfl,h⟩ | (rw[if_neg (Nat.not_lt.mpr hf)];wp_walk;exact⟨_,rfl,h⟩)
end
section
variable {X:Cx}
noncomputable def c1o (K:PySem.W.Frag):R2:=fun x y H Q=>∃ a k xs,x=.ref a∧y=.int k∧SqT K H a xs∧-(2 ^ 63)≤k∧k < 2 ^ 63∧xs.length*k.toNat≤sizeLine ∧
 ∀ p H',SqT K H' p (List.replicate k.toNat xs).flatten→(H'=H∨H p=none∧H'=upd H p (.tup (List.replicate k.toNat xs).flatten))→Q (.ref p) H'
theorem a7Y (its:List Value) (m:Nat):List.foldl (fun x1 x2=>x1++x2) #[] (List.replicate m its.toArray)=(List.replicate m its).flatten.toArray:=by
 have:=a7o its m []
 rw[List.nil_append] at this
 exact this
theorem b8m:OpR X (binaryOp .Mult) (c1o X.K):=by
 intro pins s σ H x y v u Q I rx ry h
 obtain⟨a,k,xs,rfl,rfl,hx,h1,h2,hz,q⟩:=h
 cases rx
 obtain⟨t,rfl⟩:=ry
 obtain⟨its,r,p,hl⟩:=I.tuple hx
 have hlen:=r.length
 obtain⟨⟨cls,dd,data,sl⟩,ho,hc,n,hd⟩:=id p
 simp only at hc hd
 subst hc hd
 refine wpAny_binaryOp_repeat_ref (T:="tuple") (U:="int") (by decide) ⟨_,ho,rfl⟩ (fun s'=>typeIs_int s' k t) a6C F.fills_int_mul F.slot_int_rmul a9s F.slot_int_index.lookup
  (call_meets F.slot_int_rmul (typeIs_int s k t) F.entry_int_rmul (F.args_int_rmul_2 _ _) (a7C a its.toArray n k t dd sl) ⟨ho,rfl,⟨_,ho,rfl⟩,?_⟩)
 by_cases hc:(its.toArray.isEmpty || k == 1)=true
 ·refine call_meets F.slot_tuple_mul ⟨_,ho,rfl⟩ F.entry_tuple_mul (F.args_tuple_mul_2 _ _) (b0H a its.toArray n k t dd sl h1 h2 hc) ⟨ho,?_⟩
  have e:(List.replicate k.toNat xs).flatten=xs:=by
   simp only[Bool.or_eq_true,beq_iff_eq] at hc
   rcases hc with hc | hc
   ·have:its=[]:=by simpa using hc
    subst this
    cases r
    simp
   ·subst hc
    simp
  exact⟨.ref a,H,I,rfl,q a H (by rw[e];exact hx) (.inl rfl)⟩
 ·by_cases hn:(decide (k≤0) || its.toArray.isEmpty)=true
  ·refine call_meets F.slot_tuple_mul ⟨_,ho,rfl⟩ F.entry_tuple_mul (F.args_tuple_mul_2 _ _) (b0G a its.toArray n k t dd sl h1 h2 hc hn) ⟨ho,?_⟩
   have hk:k.toNat=0:=by
    simp only[Bool.or_eq_true,decide_eq_true_eq] at hn hc
    rcases hn with hn | hn
    ·lia
    ·exact absurd (.inl hn) hc
   have e:(List.replicate k.toNat xs).flatten=[]:=by rw[hk];rfl
   refine⟨.ref s.heap.objs.size,_,I.laid (t':=s.toks) (o:=.tup []) (fun b ob q=>Heap.get?_push_of_some _ q) (Nat.le_refl _) ?_,rfl,q _ _ ?_ (.inr ⟨I.hok.fresh (Nat.le_refl _),by rw[e]⟩)⟩
   ·exact⟨Nat.zero_le _,[],.nil,a3E.new _ _⟩
   ·rw[e];exact SqT.of a0B
  ·have hm:(its.toArray.size:Int)*k≤sizeLine:=by
    have:its.toArray.size=xs.length:=by rw[hlen];simp
    rw[this]
    have hk:(0:Int)≤k:=by
     simp only[Bool.or_eq_true,decide_eq_true_eq] at hn
     lia
    have e2:k=((k.toNat:Nat):Int):=by lia
    rw[e2,← Int.natCast_mul]
    exact_mod_cast hz
   have hz2:((List.replicate k.toNat its).flatten).length≤sizeLine:=by rw[b1m,Nat.mul_comm,← hlen];exact hz
   refine call_meets F.slot_tuple_mul ⟨_,ho,rfl⟩ F.entry_tuple_mul (F.args_tuple_mul_2 _ _) (b0F a its.toArray n k t dd sl h1 h2 hc hn ?_ ?_ ?_) ⟨ho,?_⟩
   ·have:(sizeLine:Int)≤(2 ^ 63 - 1) / 8:=by decide
    lia
   ·unfold Builtin.Tuple.tupleTooMany
    simp only[decide_eq_true_eq]
    lia
   ·rw[a7Y]
    show (List.replicate k.toNat its).flatten.toArray.size≤sizeLine
    rw[List.size_toArray]
    exact hz2
   ·rw[a7Y]
    refine⟨.ref s.heap.objs.size,_,I.laid (t':=s.toks) (o:=.tup (List.replicate k.toNat xs).flatten) (fun b ob q=>Heap.get?_push_of_some _ q) (Nat.le_refl _) ?_,rfl,q _ _ (SqT.of a0B) (.inr ⟨I.hok.fresh (Nat.le_refl _),rfl⟩)⟩
    exact⟨by rw[b1m,Nat.mul_comm];exact hz,_,r.rep k.toNat,a3E.new _ _⟩
end
theorem Reps.atI {K:PySem.W.Frag} {H:Hp} {vs:List V} {ts:List T} {i:Int} {t:T} (h:Reps K H vs ts) (e:atI ts i=some t):∃ v,L2.atI vs i=some v∧Rep K H v t:=by
 unfold L2.atI at e⊢
 rw[h.length]
 cases q:ixN ts.length i with
 | none=>rw[q] at e;cases e
 | some j=>rw[q] at e;exact h.get e
section
variable {X:Cx} {a b c e:Expr} {es:List Expr} {ta tb tc te:TE3} {pos:Pos}
noncomputable def rIx3:R3:=fun x y M Q=>match x,y with
 | .tup ts,.int i=>(match atI ts i with | some t=>Q t M | none=>False)
 | .rd ts,.int i=>(match atI ts i with | some t=>Q t M | none=>False)
 | .adr p,.int i=>(match M p with | some (.lst ts)=>(match atI ts i with | some t=>Q t M | none=>False) | _=>False)
 | .str z,.int i=>z.length≤sizeLine∧(match atI z.cps.toList i with | some c=>Q (.str ⟨#[c]⟩) M | none=>False)
 | _,_=>False
theorem a7U {K:PySem.W.Frag} {H:Hp} {v:V} {ts:List T} (r:Rep K H v (.rd ts)):∃ a xs,v=.ref a∧FzL K H a xs∧Reps K H xs ts:=by unfold Rep at r;exact r
theorem ix3:IxR3 X rIx3:=by
 intro value slice pins s σ H x y v u Q2 I rx ry q hs
 obtain⟨a,b,M,Q,r1,r2,hh,q,en⟩:=q
 unfold rIx3 at q
 split at q
 ·obtain rfl:=a0w r2
  obtain⟨p,xs,rfl,h1,h2⟩:=a1g r1
  split at q
  ·rename_i t e
   obtain⟨w,ew,rw'⟩:=h2.atI e
   exact c0x value slice pins s σ H _ _ v u Q2 I rx ry ⟨_,_,_,w,rfl,rfl,h1,ew,en _ _ M H Kp.refl hh rw' q⟩ hs
  ·exact q.elim
 ·obtain rfl:=a0w r2
  obtain⟨p,xs,rfl,h1,h2⟩:=a7U r1
  split at q
  ·rename_i t e
   obtain⟨w,ew,rw'⟩:=h2.atI e
   exact b4A value slice pins s σ H _ _ v u Q2 I rx ry ⟨_,_,_,w,rfl,rfl,h1.sq,ew,en _ _ M H Kp.refl hh rw' q⟩ hs
  ·exact q.elim
 ·obtain rfl:=a0w r2
  obtain rfl:=a0L r1
  split at q
  ·rename_i ts e0
   obtain⟨xs,h1,h2⟩:=hh _ _ e0
   split at q
   ·rename_i t e
    obtain⟨w,ew,rw'⟩:=h2.atI e
    exact b4A value slice pins s σ H _ _ v u Q2 I rx ry ⟨_,_,_,w,rfl,rfl,SqL.of h1,ew,en _ _ M H Kp.refl hh rw' q⟩ hs
   ·exact q.elim
  ·exact q.elim
 ·obtain rfl:=a0w r2
  obtain rfl:=a2F r1
  obtain⟨hz,q⟩:=q
  split at q
  ·rename_i c e
   exact c0y value slice pins s σ H _ _ v u Q2 I rx ry ⟨_,_,c,rfl,rfl,hz,e,en _ _ M H Kp.refl hh a6V q⟩ hs
  ·exact q.elim
 ·exact q.elim
theorem h_ix (ha:HE X a ta) (hb:HE X b tb) (hs:b5o b:=by intro _ _;rfl):HE X (.Subscript a b pos) (tOp3 rIx3 ta tb):=fun ρ M Q h =>
 (c1w ix3 (ha.d (ρ:=ρ)) (hb.d (ρ:=ρ)) hs).imp fun σ H Q2 b=>dOp h b
noncomputable def b7M:R3:=fun x y M Q=>match x,y with
 | .int i,.int j=>CMul i j∧Q (.int (i*j)) M
 | .adr p,.int k=>(match M p with
   | some (.lst ts)=>-(2 ^ 63)≤k∧k < 2 ^ 63∧ts.length*k.toNat≤sizeLine∧∀ r,M r=none→Q (.adr r) (updM M r (.lst (List.replicate k.toNat ts).flatten))
   | _=>False)
 | .tup ts,.int k=>-(2 ^ 63)≤k∧k < 2 ^ 63∧ts.length*k.toNat≤sizeLine∧Q (.tup (List.replicate k.toNat ts).flatten) M
 | _,_=>False
theorem Reps.rep {K:PySem.W.Frag} {H:Hp} {vs:List V} {ts:List T} (h:Reps K H vs ts):∀ k:Nat,Reps K H (List.replicate k vs).flatten (List.replicate k ts).flatten
 | 0=>.nil
 | k+1=>by
   rw[List.replicate_succ,List.replicate_succ,List.flatten_cons,List.flatten_cons]
   exact Reps.append h (Reps.rep h k)
theorem a1n:OpR3 X (binaryOp .Mult) b7M:=by
 intro pins s σ H x y v u Q2 I rx ry q
 obtain⟨a,b,M,Q,r1,r2,hh,q,en⟩:=q
 unfold b7M at q
 split at q
 ·obtain rfl:=a0w r1
  obtain rfl:=a0w r2
  exact c0h pins s σ H _ _ v u Q2 I rx ry ⟨_,_,rfl,rfl,q.1,en _ _ M H Kp.refl hh a0P q.2⟩
 ·obtain rfl:=a0L r1
  obtain rfl:=a0w r2
  split at q
  ·rename_i ts e0
   obtain⟨xs,h1,h2⟩:=hh _ _ e0
   obtain⟨q1,q2,q3,q4⟩:=q
   refine c0f pins s σ H _ _ v u Q2 I rx ry ⟨_,_,xs,rfl,rfl,h1,q1,q2,by rw[h2.length];exact q3,fun r hr=>?_⟩
   exact en _ _ _ _ (Kp.new hr) (hh.newL hr (h2.rep _)) a2j (q4 r (hh.free hr))
  ·exact q.elim
 ·obtain⟨l,xs,rfl,g1,g2⟩:=a1g r1
  obtain rfl:=a0w r2
  obtain⟨q1,q2,q3,q4⟩:=q
  refine b8m pins s σ H _ _ v u Q2 I rx ry ⟨_,_,xs,rfl,rfl,g1,q1,q2,by rw[g2.length];exact q3,fun r H' h' c=>?_⟩
  rcases c with rfl | ⟨c1,rfl⟩
  ·exact en _ _ _ _ Kp.refl hh (a2i h' (g2.rep _)) q4
  ·exact en _ _ _ _ (Kp.new c1) (hh.keep c1) (a2i h' (Reps.kp (Kp.new c1) _ _ (g2.rep _))) q4
 ·exact q.elim
noncomputable def b0Y (g:Int→Int→Bool):R3:=fun x y M Q=>match x,y with
 | .int i,.int j=>Q (.bl (g i j)) M
 | _,_=>False
theorem a8y {f:Value→Value→Sem Value} {g:Int→Int→Bool} (h:OpR X f (rI0 fun i j=>.bl (g i j))):OpR3 X f (b0Y g):=by
 intro pins s σ H x y v u Q2 I rx ry q
 obtain⟨a,b,M,Q,r1,r2,hh,q,en⟩:=q
 unfold b0Y at q
 split at q
 ·obtain rfl:=a0w r1
  obtain rfl:=a0w r2
  exact h pins s σ H _ _ v u Q2 I rx ry ⟨_,_,rfl,rfl,en _ _ M H Kp.refl hh a2B q⟩
 ·exact q.elim
noncomputable def rLt3:R3:=b0Y fun i j=>decide (i < j)
noncomputable def rLe3:R3:=b0Y fun i j=>decide (i≤j)
noncomputable def rGt3:R3:=b0Y fun i j=>decide (j < i)
noncomputable def rGe3:R3:=b0Y fun i j=>decide (j≤i)
theorem a3C:OpR3 X (compareOp .Lt) rLt3:=a8y c1z
theorem a5L:OpR3 X (compareOp .LtE) rLe3:=a8y c1A
theorem a3O:OpR3 X (compareOp .Gt) rGt3:=a8y c1B
theorem b7d:OpR3 X (compareOp .GtE) rGe3:=a8y c1C
noncomputable def rEqv (g:Bool→Bool):R3:=fun x y M Q=>match x,y with
 | .adr p,.adr q=>(match M p,M q with
   | some (.lst a),some (.lst b)=>a1v a=true∧a1v b=true∧a4q a≤30∧Q (.bl (g (eqTs a b))) M
   | _,_=>False)
 | x,y=>a0K x=true∧a0K y=true∧depT x≤30∧Q (.bl (g (eqT x y))) M
noncomputable def rEq3:R3:=rEqv id
noncomputable def rNe3:R3:=rEqv not
theorem a9R {pins:List (Addr × Obj)} {σ:St} {H:Hp} {s:Shared} (I:Inv X pins σ H s) (hu:X.A.units+64 < cLine) {p p':Addr} {xs ys:List V} {ts us:List T} (h1:H p=some (.lst xs)) (h2:Reps X.K H xs ts) (g1:H p'=some (.lst ys)) (g2:Reps X.K H ys us)
  (px:a1v ts=true) (py:a1v us=true) (hd:a4q ts≤30) :
  SeqAt.RcAt X.A s (.ref p) (.ref p') (eqTs ts us)∧SeqAt.RcNeAt X.A s (.ref p) (.ref p') (!(eqTs ts us)):=by
 obtain⟨its,r1,pl,_⟩:=I.list (SqL.of h1)
 obtain⟨its2,r2,pl2,_⟩:=I.list (SqL.of g1)
 have l1:=h2.length
 have l2:=g2.length
 have m1:=r1.length
 have m2:=r2.length
 have hu':X.A.units < cLine:=by lia
 by_cases hl:its.length=its2.length
 ·have he:=b1Y (X:=X) (A:=X.A.in1) (s:=s) (n:=30) px py hd h2 g2 r1 r2 fun x y v u a b hx px py rx ry ra rb=>(b4R I 30 X.A.in1 x y v u a b hx (by show X.A.units+1+30+1 < cLine;lia) px py rx ry ra rb).1
  have hsz:its.toArray.size=its2.toArray.size:=by simpa using hl
  have rc:=SeqAt.RcAt.lists (A:=X.A) pl.isList pl2.isList hsz hu' he
  have rn:=SeqAt.RcNeAt.lists (A:=X.A) pl.isList pl2.isList hsz hu' he
  have ee:(List.range its.toArray.size).all (eqJ ts us)=eqTs ts us:=by
   rw[← a5d,List.size_toArray,← l1,← l2,m1,m2,← hl]
   simp
  rw[ee] at rc rn
  exact⟨rc,rn⟩
 ·have hne:eqTs ts us=false:=by
   cases q:eqTs ts us with
   | false=>rfl
   | true=>have:=b2f q;lia
  have hsz:(its.toArray.size != its2.toArray.size)=true:=by simpa using hl
  rw[hne]
  exact⟨SeqAt.RcAt.lists_lengths pl.isList pl2.isList hsz hu',SeqAt.RcNeAt.lists_lengths pl.isList pl2.isList hsz hu'⟩
theorem a0G (hu:X.A.units+64 < cLine):OpR3 X (compareOp .Eq) rEq3:=by
 intro pins s σ H x y v u Q2 I rx ry q
 obtain⟨a,b,M,Q,r1,r2,hh,q,en⟩:=q
 unfold rEq3 rEqv at q
 split at q
 ·rename_i p p'
  split at q
  ·rename_i ts us e1 e2
   obtain⟨xs,h1,h2⟩:=hh _ _ e1
   obtain⟨ys,g1,g2⟩:=hh _ _ e2
   obtain rfl:=a0L r1
   obtain rfl:=a0L r2
   cases rx
   cases ry
   exact (a9R I hu h1 h2 g1 g2 q.1 q.2.1 q.2.2.1).1 _ _ _ _ ⟨.bl _,H,I,rfl,en _ _ M H Kp.refl hh a2B q.2.2.2⟩
  ·exact q.elim
 ·obtain⟨q1,q2,q3,q⟩:=q
  exact (b4R I 30 X.A a b x y v u q3 (by lia) q1 q2 r1 r2 rx ry).2.1 _ _ _ _ ⟨.bl _,H,I,rfl,en _ _ M H Kp.refl hh a2B q⟩
theorem a2G (hu:X.A.units+64 < cLine):OpR3 X (compareOp .NotEq) rNe3:=by
 intro pins s σ H x y v u Q2 I rx ry q
 obtain⟨a,b,M,Q,r1,r2,hh,q,en⟩:=q
 unfold rNe3 rEqv at q
 split at q
 ·rename_i p p'
  split at q
  ·rename_i ts us e1 e2
   obtain⟨xs,h1,h2⟩:=hh _ _ e1
   obtain⟨ys,g1,g2⟩:=hh _ _ e2
   obtain rfl:=a0L r1
   obtain rfl:=a0L r2
   cases rx
   cases ry
   exact (a9R I hu h1 h2 g1 g2 q.1 q.2.1 q.2.2.1).2 _ _ _ _ ⟨.bl _,H,I,rfl,en _ _ M H Kp.refl hh a2B q.2.2.2⟩
  ·exact q.elim
 ·obtain⟨q1,q2,q3,q⟩:=q
  exact (b4R I 30 X.A a b x y v u q3 (by lia) q1 q2 r1 r2 rx ry).2.2 _ _ _ _ ⟨.bl _,H,I,rfl,en _ _ M H Kp.refl hh a2B q⟩
theorem a5Q {op:CmpOp} {r:R3} (ho:OpR3 X (compareOp op) r) (ha:HE X a ta) (hb:HE X b tb) (hm:behindInMarks op b=false):HE X (.Compare a [op] [b] pos) (tOp3 r ta tb):=fun ρ M Q h =>
 (b8i ho (ha.d (ρ:=ρ)) (hb.d (ρ:=ρ)) hm).imp fun σ H Q2 b=>dOp h b
noncomputable def b3s (t:TE3):TT3:=fun ρ M Q=>t ρ M fun x M1=>match x with
 | .bl k=>Q k M1
 | _=>False
theorem b2g {K:PySem.W.Frag} {H:Hp} {Q:Bool→MH→Prop} {Q2:Bool→Hp→Prop} (en:EndT K H Q Q2):EndE K H (fun x M1=>match x with | .bl k=>Q k M1 | _=>False) (fun x H'=>∃ k,x=.bl k∧Q2 k H'):=by
 intro t v M' H' k h r q
 split at q
 ·obtain rfl:=a3D r
  exact⟨_,rfl,en _ M' H' k h q⟩
 ·exact q.elim
theorem a0o {op:CmpOp} {r:R3} (ho:OpR3 X (compareOp op) r) (ha:HE X a ta) (hb:HE X b tb) (hm:behindInMarks op b=false):HT X (.Compare a [op] [b] pos) (b3s (tOp3 r ta tb)):=fun ρ M Q h =>
 (b7Z ho (ha.d (ρ:=ρ)) (hb.d (ρ:=ρ)) hm).imp fun σ H Q2 ⟨hr,hh,en⟩=>dOp (ta:=ta) (tb:=tb) (r:=r) h ⟨hr,hh,b2g en⟩
noncomputable def a8j (r r':R3) (ta tb tc:TE3):TE3:=fun ρ M Q=>ta ρ M fun x M1=>tb ρ M1 fun y M2=>r x y M2 fun z M3=>match z with
 | .bl k=>(if k=true then tc ρ M3 fun w M4=>r' y w M4 Q else Q (.bl false) M3)
 | _=>False
theorem b7n {ρ:En} {M:MH} {Q:VK3} {r r':R3} (h:a8j r r' ta tb tc ρ M Q) {σ:St} {H:Hp} {Q2:VK} (b:bE X.K ρ M Q σ H Q2):b3u (dR X.K r) (dR X.K r') (dE X.K ρ ta) (dE X.K ρ tb) (dE X.K ρ tc) σ H Q2:=by
 obtain⟨hr,hh,en⟩:=b
 refine⟨M,_,h,hr,hh,fun t v M1 H1 k1 h1 r1 q1=>⟨M1,_,q1,hr.kp k1,h1,fun t2 v2 M2 H2 k2 h2 r2 q2=>⟨t,t2,M2,_,Rep.kp k2 _ _ r1,r2,h2,q2,fun z v3 M3 H3 k3 h3 r3 q3=>?_⟩⟩⟩
 split at q3
 ·rename_i k
  obtain rfl:=a3D r3
  refine⟨k,rfl,?_⟩
  have kk:=k1.trans (k2.trans k3)
  split
  ·rename_i hk
   rw[if_pos hk] at q3
   exact⟨M3,_,q3,hr.kp kk,h3,fun t4 v4 M4 H4 k4 h4 r4 q4=>⟨t2,t4,M4,Q,Rep.kp (k3.trans k4) _ _ r2,r4,h4,q4,en.kp (kk.trans k4)⟩⟩
  ·rename_i hk
   rw[if_neg hk] at q3
   exact en _ _ M3 H3 kk h3 a2B q3
 ·exact q3.elim
theorem b8M {op op':CmpOp} {r r':R3} (ho:OpR3 X (compareOp op) r) (ho':OpR3 X (compareOp op') r') (ha:HE X a ta) (hb:HE X b tb) (hc:HE X c tc)
  (hm:lastMarks [op,op'] [b,c]=false:=by with_unfolding_all rfl):HE X (.Compare a [op,op'] [b,c] pos) (a8j r r' ta tb tc):=fun ρ M Q h =>
 (b5Q ho ho' (ha.d (ρ:=ρ)) (hb.d (ρ:=ρ)) (hc.d (ρ:=ρ)) hm).imp fun σ H Q2 b=>b7n h b
theorem a5P {op op':CmpOp} {r r':R3} (ho:OpR3 X (compareOp op) r) (ho':OpR3 X (compareOp op') r') (ha:HE X a ta) (hb:HE X b tb) (hc:HE X c tc)
  (hm:lastMarks [op,op'] [b,c]=false:=by with_unfolding_all rfl):HT X (.Compare a [op,op'] [b,c] pos) (b3s (a8j r r' ta tb tc)):=fun ρ M Q h =>
 (b5J ho ho' (ha.d (ρ:=ρ)) (hb.d (ρ:=ρ)) (hc.d (ρ:=ρ)) hm).imp fun σ H Q2 ⟨hr,hh,en⟩=>b7n (ta:=ta) (tb:=tb) (tc:=tc) (r:=r) (r':=r') h ⟨hr,hh,b2g en⟩
noncomputable def truT (M:MH):T→Option Bool
 | .non=>some false
 | .bl b=>some b
 | .int i=>some (i != 0)
 | .str y=>if y.length≤sizeLine then some (decide (y.length≠0)) else none
 | .tup ts=>some (!ts.isEmpty)
 | .rd ts=>some (!ts.isEmpty)
 | .dic _ _=>none
 | .adr p=>match M p with
   | some (.lst ts)=>some (!ts.isEmpty)
   | _=>none
noncomputable def b9j (te:TE3):TT3:=fun ρ M Q=>te ρ M fun x M1=>match truT M1 x with
 | some k=>Q k M1
 | none=>False
theorem a8R {K:PySem.W.Frag} {H:Hp} {xs:List V} {ts:List T} (h:Reps K H xs ts):(!xs.isEmpty)=!ts.isEmpty:=by
 have:=h.length
 cases xs<;>cases ts<;>first | rfl | (simp at this)
theorem a5t (ha:HE X a ta) (he:∀ whole,isTrue a X.env whole=(do let v ← whole;standAt a.pos;holding [v] (truthy v)):=by intro _;rfl):HT X a (b9j ta):=fun ρ M Q h =>
 (b5I (ha.d (ρ:=ρ)) he).imp fun σ H Q2 ⟨hr,hh,en⟩=>⟨M,_,h,hr,hh,fun t v M1 H1 k1 h1 r1 q1=>by
  have fin:∀ k,truT M1 t=some k→Q2 k H1:=fun k e=>by
   have q:(match truT M1 t with | some k=>Q k M1 | none=>False):=q1
   rw[e] at q
   exact en k M1 H1 k1 h1 q
  cases t with
  | non=>obtain rfl:=a7g r1;exact⟨false,rfl,fin _ rfl⟩
  | bl b=>obtain rfl:=a3D r1;exact⟨b,rfl,fin _ rfl⟩
  | int i=>obtain rfl:=a0w r1;exact⟨_,rfl,fin _ rfl⟩
  | str y =>
    obtain rfl:=a2F r1
    by_cases hy:y.length≤sizeLine
    ·refine⟨_,⟨hy,rfl⟩,fin _ ?_⟩
     show (if y.length≤sizeLine then some (decide (y.length≠0)) else none)=_
     rw[if_pos hy]
     congr 1
     by_cases h0:y.length=0
     ·rw[h0];rfl
     ·have:((y.length:Int) != 0)=true:=by simpa using h0
      rw[this];simpa using h0
    ·have q:(match truT M1 (.str y) with | some k=>Q k M1 | none=>False):=q1
     have e:truT M1 (.str y)=none:=if_neg hy
     rw[e] at q
     exact q.elim
  | tup ts =>
    obtain⟨p,xs,rfl,g1,g2⟩:=a1g r1
    exact⟨!xs.isEmpty,.inr (.inl ⟨xs,g1,rfl⟩),fin _ (by rw[a8R g2];rfl)⟩
  | rd ts =>
    obtain⟨p,xs,rfl,g1,g2⟩:=a7U r1
    exact⟨!xs.isEmpty,.inl ⟨xs,g1.sq,rfl⟩,fin _ (by rw[a8R g2];rfl)⟩
  | dic ks ts =>
    have q:(match truT M1 (.dic ks ts) with | some k=>Q k M1 | none=>False):=q1
    exact q.elim
  | adr p =>
    obtain rfl:=a0L r1
    cases e0:M1 p with
    | none =>
      have q:(match truT M1 (.adr p) with | some k=>Q k M1 | none=>False):=q1
      have e:truT M1 (.adr p)=none:=by show (match M1 p with | some (.lst ts)=>some (!ts.isEmpty) | _=>none)=none;rw[e0]
      rw[e] at q
      exact q.elim
    | some o =>
      cases o with
      | lst ts =>
        obtain⟨xs,g1,g2⟩:=h1 _ _ e0
        exact⟨!xs.isEmpty,.inl ⟨xs,SqL.of g1,rfl⟩,fin _ (by show (match M1 p with | some (.lst ts)=>some (!ts.isEmpty) | _=>none)=_;rw[e0,a8R g2])⟩
      | dk kvs =>
        have q:(match truT M1 (.adr p) with | some k=>Q k M1 | none=>False):=q1
        have e:truT M1 (.adr p)=none:=by show (match M1 p with | some (.lst ts)=>some (!ts.isEmpty) | _=>none)=none;rw[e0]
        rw[e] at q
        exact q.elim
      | dt kvs =>
        have q:(match truT M1 (.adr p) with | some k=>Q k M1 | none=>False):=q1
        have e:truT M1 (.adr p)=none:=by show (match M1 p with | some (.lst ts)=>some (!ts.isEmpty) | _=>none)=none;rw[e0]
        rw[e] at q
        exact q.elim
      | fz kvs =>
        have q:(match truT M1 (.adr p) with | some k=>Q k M1 | none=>False):=q1
        have e:truT M1 (.adr p)=none:=by show (match M1 p with | some (.lst ts)=>some (!ts.isEmpty) | _=>none)=none;rw[e0]
        rw[e] at q
        exact q.elim
      | fk kvs =>
        have q:(match truT M1 (.adr p) with | some k=>Q k M1 | none=>False):=q1
        have e:truT M1 (.adr p)=none:=by show (match M1 p with | some (.lst ts)=>some (!ts.isEmpty) | _=>none)=none;rw[e0]
        rw[e] at q
        exact q.elim
      | ob C fs =>
        have q:(match truT M1 (.adr p) with | some k=>Q k M1 | none=>False):=q1
        have e:truT M1 (.adr p)=none:=by show (match M1 p with | some (.lst ts)=>some (!ts.isEmpty) | _=>none)=none;rw[e0]
        rw[e] at q
        exact q.elim⟩
end
section
variable {X:Cx} {a b c e:Expr} {es rest:List Expr} {ta tb tc te:TE3} {tA tB:TT3} {t:TA3} {pos:Pos}
noncomputable def HW (X:Cx) (e:Expr) (t:TT3):Prop:=∀ ρ M Q,t ρ M Q→PW X e (bT X.K ρ M Q)
theorem HW.d {t:TT3} {ρ:En} (h:HW X e t):PW X e (dT X.K ρ t):=fun wh pins s σ H Q I ⟨M,Q3,q,b⟩=>h ρ M Q3 q wh pins s σ H Q I b
theorem PW.imp {t t':TT} (h:PW X e t) (f:∀ σ H Q,t' σ H Q→t σ H Q):PW X e t':=fun wh pins s σ H Q I q=>h wh pins s σ H Q I (f σ H Q q)
theorem HW.ht {t:TT3} (h:HW X e t):HT X e t:=fun ρ M Q q=>(h ρ M Q q).pt
noncomputable def b9t (t u:TT3):TT3:=fun ρ M Q=>t ρ M fun c M1=>if c=true then u ρ M1 Q else Q false M1
noncomputable def tOr3 (t u:TT3):TT3:=fun ρ M Q=>t ρ M fun c M1=>if c=true then Q true M1 else u ρ M1 Q
noncomputable def b9n (t:TT3):TT3:=fun ρ M Q=>t ρ M fun c M1=>Q (!c) M1
theorem a7l (ha:HT X a tA):HT X (.UnaryOp .Not a pos) (b9n tA):=fun ρ M Q h =>
 (b9O (ha.d (ρ:=ρ))).imp fun σ H Q2 ⟨hr,hh,en⟩=>⟨M,_,h,hr,hh,fun b M1 H1 k1 h1 q1=>en _ M1 H1 k1 h1 q1⟩
theorem a6p (ha:HT X a tA):HW X (.BoolOp .And [a] pos) tA:=fun ρ M Q h=>(b7W (ha.d (ρ:=ρ))).imp fun σ H Q2 b=>⟨M,Q,h,b⟩
theorem a5X (ha:HT X a tA):HW X (.BoolOp .Or [a] pos) tA:=fun ρ M Q h=>(b9M (ha.d (ρ:=ρ))).imp fun σ H Q2 b=>⟨M,Q,h,b⟩
theorem a8d (ha:HT X a tA) (hb:HW X (.BoolOp .And (b :: rest) pos) tB):HW X (.BoolOp .And (a :: b :: rest) pos) (b9t tA tB):=fun ρ M Q h =>
 (b9N (ha.d (ρ:=ρ)) (hb.d (ρ:=ρ))).imp fun σ H Q2 ⟨hr,hh,en⟩=>⟨M,_,h,hr,hh,fun b M1 H1 k1 h1 q1=>by
  dsimp only at q1⊢
  split
  ·rename_i hb;rw[if_pos hb] at q1
   exact⟨M1,Q,q1,hr.kp k1,h1,fun b' M2 H2 k2=>en b' M2 H2 (k1.trans k2)⟩
  ·rename_i hb;rw[if_neg hb] at q1
   exact en _ M1 H1 k1 h1 q1⟩
theorem w_or (ha:HT X a tA) (hb:HW X (.BoolOp .Or (b :: rest) pos) tB):HW X (.BoolOp .Or (a :: b :: rest) pos) (tOr3 tA tB):=fun ρ M Q h =>
 (c1q (ha.d (ρ:=ρ)) (hb.d (ρ:=ρ))).imp fun σ H Q2 ⟨hr,hh,en⟩=>⟨M,_,h,hr,hh,fun b M1 H1 k1 h1 q1=>by
  dsimp only at q1⊢
  split
  ·rename_i hb;rw[if_pos hb] at q1
   exact en _ M1 H1 k1 h1 q1
  ·rename_i hb;rw[if_neg hb] at q1
   exact⟨M1,Q,q1,hr.kp k1,h1,fun b' M2 H2 k2=>en b' M2 H2 (k1.trans k2)⟩⟩
noncomputable def b6L (ta tb:TE3):TE3:=fun ρ M Q=>ta ρ M fun x M1=>match x with
 | .bl c=>(if c=true then tb ρ M1 Q else Q (.bl false) M1)
 | _=>False
noncomputable def b9m (ta tb:TE3):TE3:=fun ρ M Q=>ta ρ M fun x M1=>match x with
 | .bl c=>(if c=true then Q (.bl true) M1 else tb ρ M1 Q)
 | _=>False
theorem b6m {op} (ha:HE X a ta):HE X (.BoolOp op [a] pos) ta:=fun ρ M Q h=>b9X (ha ρ M Q h)
theorem c0I (ha:HE X a ta) (hb:HE X (.BoolOp .And (b :: rest) pos) tb):HE X (.BoolOp .And (a :: b :: rest) pos) (b6L ta tb):=fun ρ M Q h =>
 (c0b (ha.d (ρ:=ρ)) (hb.d (ρ:=ρ))).imp fun σ H Q2 ⟨hr,hh,en⟩=>⟨M,_,h,hr,hh,fun x v M1 H1 k1 h1 r1 q1=>by
  dsimp only at q1⊢
  split at q1
  ·rename_i c
   obtain rfl:=a3D r1
   refine⟨c,rfl,?_⟩
   split
   ·rename_i hc;rw[if_pos hc] at q1
    exact⟨M1,Q,q1,hr.kp k1,h1,en.kp k1⟩
   ·rename_i hc;rw[if_neg hc] at q1
    exact en _ _ M1 H1 k1 h1 a2B q1
  ·exact q1.elim⟩
theorem h_or (ha:HE X a ta) (hb:HE X (.BoolOp .Or (b :: rest) pos) tb):HE X (.BoolOp .Or (a :: b :: rest) pos) (b9m ta tb):=fun ρ M Q h =>
 (c1u (ha.d (ρ:=ρ)) (hb.d (ρ:=ρ))).imp fun σ H Q2 ⟨hr,hh,en⟩=>⟨M,_,h,hr,hh,fun x v M1 H1 k1 h1 r1 q1=>by
  dsimp only at q1⊢
  split at q1
  ·rename_i c
   obtain rfl:=a3D r1
   refine⟨c,rfl,?_⟩
   split
   ·rename_i hc;rw[if_pos hc] at q1
    exact en _ _ M1 H1 k1 h1 a2B q1
   ·rename_i hc;rw[if_neg hc] at q1
    exact⟨M1,Q,q1,hr.kp k1,h1,en.kp k1⟩
  ·exact q1.elim⟩
noncomputable def b9o:TA3:=fun _ M Q=>Q [] M
noncomputable def b3t (ta:TE3) (tr:TA3):TA3:=fun ρ M Q=>ta ρ M fun x M1=>tr ρ M1 fun xs M2=>Q (x :: xs) M2
theorem a0c:HA X [] b9o:=fun ρ M Q h=>b4b.imp fun σ H Q2 ⟨hr,hh,en⟩=>en [] [] M H Kp.refl hh .nil h
theorem a0a (ha:HE X a ta) (hr:HA X es t) (hs:starEach (a :: es) X.env=(false,eval a X.env) :: starEach es X.env:=by rfl):HA X (a :: es) (b3t ta t):=fun ρ M Q h =>
 (b1b (ha.d (ρ:=ρ)) (hr.d (ρ:=ρ)) hs).imp fun σ H Q2 ⟨hr,hh,en⟩=>⟨M,_,h,hr,hh,fun x v M1 H1 k1 h1 r1 q1=>⟨M1,_,q1,hr.kp k1,h1,fun ts vs M2 H2 k2 h2 r2 q2 =>
  en _ _ M2 H2 (k1.trans k2) h2 (.cons (Rep.kp k2 _ _ r1) r2) q2⟩⟩
noncomputable def b9i (t:TA3):TE3:=fun ρ M Q=>t ρ M fun xs M1=>xs.length≤sizeLine∧Q (.tup xs) M1
noncomputable def b9p (t:TA3):TE3:=fun ρ M Q=>t ρ M fun xs M1=>xs.length≤sizeLine∧∀ p,M1 p=none→Q (.adr p) (updM M1 p (.lst xs))
theorem a1j {x1} (h:HA X es t):HE X (.Tuple es x1 pos) (b9i t):=fun ρ M Q q =>
 (b1Q (h.d (ρ:=ρ))).imp fun σ H Q2 ⟨hr,hh,en⟩=>⟨M,_,q,hr,hh,fun ts vs M1 H1 k1 h1 r1 q1 =>
  ⟨by rw[r1.length];exact q1.1,fun p hp=>en _ _ M1 _ (k1.trans (Kp.new hp)) (h1.keep hp) (a2i (SqT.of a0B) (Reps.kp (Kp.new hp) _ _ r1)) q1.2⟩⟩
theorem a2C (h:HA X es t):HE X (.List es pos) (b9p t):=fun ρ M Q q =>
 (b9Z (h.d (ρ:=ρ))).imp fun σ H Q2 ⟨hr,hh,en⟩=>⟨M,_,q,hr,hh,fun ts vs M1 H1 k1 h1 r1 q1 =>
  ⟨by rw[r1.length];exact q1.1,fun p hp=>en _ _ _ _ (k1.trans (Kp.new hp)) (h1.newL hp r1) a2j (q1.2 p (h1.free hp))⟩⟩
noncomputable abbrev Sp3:=List T→MH→VK3→Prop
noncomputable def dSp (K:PySem.W.Frag) (sp:Sp3):Sp:=fun vs H Q2 _=>∃ ts M Q,Reps K H vs ts∧HR K H M∧sp ts M Q∧EndE K H Q Q2
structure Df (P:Program) (w:World) (K:PySem.W.Frag) (mg:Str→Option Value) (base:Heap) (n:Nat) (x:Str) (ps:List Str) (sp:Sp3):Prop where
 out:∃ f fd,FnOk P w K mg base CX0 n f fd ps (dSp K sp)∧mg x=some (.ref f)∧PySem.W.keepIn K (.ref f)=true∧a0M K fd ps []
theorem Df.mono {P:Program} {w:World} {K:PySem.W.Frag} {mg:Str→Option Value} {base:Heap} {n m:Nat} {x:Str} {ps:List Str} {sp:Sp3} (D:Df P w K mg base n x ps sp) (h:n≤m):Df P w K mg base m x ps sp:=by
 obtain⟨f,fd,F,a,b,c⟩:=D.out
 exact⟨f,fd,F.mono h,a,b,c⟩
noncomputable def b6K (sp:Sp3) (t:TA3):TE3:=fun ρ M Q=>t ρ M fun ts M1=>sp ts M1 Q
theorem a0n {n:Nat} {x:Str} {ps:List Str} {sp:Sp3} {p:Pos} (D:Df X.prog X.w X.K X.mg X.base n x ps sp) (hr:Room n X.A) (ha:HA X (e :: es) t) (hg:Gl X x:=by rfl) (hdb:(x == ("__debug__":Str))=false:=by decide)
  (he:starEach (e :: es) X.env=(false,eval e X.env) :: starEach es X.env:=by rfl) (hpl:(backTo pos (starEach es X.env)).any (·.1)=false:=by rfl) :
  HE X (.Call (.Name x p) (e :: es) [] pos) (b6K sp t):=fun ρ M Q h=>by
 obtain⟨f,fd,F,hm,hk,hb⟩:=D.out
 exact (b8j F hr hg hm hk hb .nil c0d (ha.d (ρ:=ρ)) hdb he hpl).imp fun σ H Q2 ⟨hr,hh,en⟩=>⟨M,_,h,hr,hh,fun ts vs M1 H1 k1 h1 r1 q1 =>
  ⟨ts,M1,Q,by rw[List.append_nil];exact r1,h1,q1,en.kp k1⟩⟩
noncomputable def tCB3 (r:List T→MH→VK3→Prop) (t:TA3):TE3:=fun ρ M Q=>t ρ M fun ts M1=>r ts M1 Q
theorem a0k {x:Str} {id:String} {r:List T→MH→VK3→Prop} {p:Pos} (hc:a3T X (.builtin id) r) (hm:X.mg x=none) (hv:bootBuiltins x=some (.builtin id)) (ha:HA X (e :: es) t) (hg:Gl X x:=by rfl) (hn:x≠"__name__":=by decide) (hdb:(x == ("__debug__":Str))=false:=by decide)
  (he:starEach (e :: es) X.env=(false,eval e X.env) :: starEach es X.env:=by rfl) (hpl:(backTo pos (starEach es X.env)).any (·.1)=false:=by rfl):HE X (.Call (.Name x p) (e :: es) [] pos) (tCB3 r t):=fun ρ M Q h =>
 (b5R hc hg hm hv (ha.d (ρ:=ρ)) hn hdb he hpl).imp fun σ H Q2 ⟨hr,hh,en⟩=>⟨M,_,h,hr,hh,fun ts vs M1 H1 k1 h1 r1 q1=>⟨ts,M1,Q,r1,h1,q1,en.kp k1⟩⟩
theorem a3i {x:Str} {ty:String} {r:List T→MH→VK3→Prop} {p:Pos} (hc:a3T X (.type ty) r) (hm:X.mg x=none) (hv:bootBuiltins x=some (.type ty)) (ha:HA X (e :: es) t) (hg:Gl X x:=by rfl) (hn:x≠"__name__":=by decide) (hdb:(x == ("__debug__":Str))=false:=by decide)
  (he:starEach (e :: es) X.env=(false,eval e X.env) :: starEach es X.env:=by rfl) (hpl:(backTo pos (starEach es X.env)).any (·.1)=false:=by rfl):HE X (.Call (.Name x p) (e :: es) [] pos) (tCB3 r t):=fun ρ M Q h =>
 (b3Z hc hg hm hv (ha.d (ρ:=ρ)) hn hdb he hpl).imp fun σ H Q2 ⟨hr,hh,en⟩=>⟨M,_,h,hr,hh,fun ts vs M1 H1 k1 h1 r1 q1=>⟨ts,M1,Q,r1,h1,q1,en.kp k1⟩⟩
end
section
variable {X:Cx}
theorem a2m {K:PySem.W.Frag} {H:Hp} {vs:List V} {x:T} (r:Reps K H vs [x]):∃ v,vs=[v]∧Rep K H v x:=by
 unfold Reps at r
 obtain⟨v,w,rfl,h,r⟩:=r
 unfold Reps at r
 subst r
 exact⟨v,rfl,h⟩
theorem b7G {K:PySem.W.Frag} {H:Hp} {vs:List V} {x y:T} (r:Reps K H vs [x,y]):∃ v w,vs=[v,w]∧Rep K H v x∧Rep K H w y:=by
 unfold Reps at r
 obtain⟨v,r',rfl,h,r⟩:=r
 obtain⟨w,rfl,h'⟩:=a2m r
 exact⟨v,w,rfl,h,h'⟩
noncomputable def b7P:List T→MH→VK3→Prop:=fun xs M Q=>match xs with
 | [.tup ts]=>Q (.int ts.length) M
 | [.rd ts]=>Q (.int ts.length) M
 | [.adr p]=>(match M p with | some (.lst ts)=>Q (.int ts.length) M | _=>False)
 | [.str z]=>z.length≤sizeLine∧Q (.int z.length) M
 | _=>False
theorem a0r:a3T X (.builtin "len") b7P:=by
 intro pins s σ H vs us Q2 I r h
 obtain⟨xs,M,Q,rr,hh,q,en⟩:=h
 unfold b7P at q
 split at q
 ·obtain⟨v,rfl,r1⟩:=a2m rr
  obtain⟨p,ys,rfl,g1,g2⟩:=a1g r1
  exact a4O pins s σ H _ us Q2 I r ⟨p,ys,rfl,.inr g1,by rw[g2.length];exact en _ _ M H Kp.refl hh a0P q⟩
 ·obtain⟨v,rfl,r1⟩:=a2m rr
  obtain⟨p,ys,rfl,g1,g2⟩:=a7U r1
  exact a4O pins s σ H _ us Q2 I r ⟨p,ys,rfl,.inl g1.sq,by rw[g2.length];exact en _ _ M H Kp.refl hh a0P q⟩
 ·obtain⟨v,rfl,r1⟩:=a2m rr
  obtain rfl:=a0L r1
  split at q
  ·rename_i ts e0
   obtain⟨ys,g1,g2⟩:=hh _ _ e0
   exact a4O pins s σ H _ us Q2 I r ⟨_,ys,rfl,.inl (SqL.of g1),by rw[g2.length];exact en _ _ M H Kp.refl hh a0P q⟩
  ·exact q.elim
 ·obtain⟨v,rfl,r1⟩:=a2m rr
  obtain rfl:=a2F r1
  exact b0t pins s σ H _ us Q2 I r ⟨_,rfl,q.1,en _ _ M H Kp.refl hh a0P q.2⟩
 ·exact q.elim
noncomputable def b7V:List T→MH→VK3→Prop:=fun xs M Q=>match xs with
 | [.int i]=>Q (.int i.natAbs) M
 | _=>False
theorem a0x:a3T X (.builtin "abs") b7V:=by
 intro pins s σ H vs us Q2 I r h
 obtain⟨xs,M,Q,rr,hh,q,en⟩:=h
 unfold b7V at q
 split at q
 ·rename_i i
  obtain⟨v,rfl,r1⟩:=a2m rr
  obtain rfl:=a0w r1
  refine b6D pins s σ H _ us Q2 I r ⟨_,rfl,en _ _ M H Kp.refl hh ?_ q⟩
  have e:(if i < 0 then -i else i)=(i.natAbs:Int):=by split<;>lia
  rw[e];exact a0P
 ·exact q.elim
noncomputable def b0V:List T→MH→VK3→Prop:=fun xs M Q=>match xs with
 | [.tup ts]=>Q (.tup ts) M
 | [.rd ts]=>Q (.tup ts) M
 | [.adr p]=>(match M p with | some (.lst ts)=>Q (.tup ts) M | _=>False)
 | _=>False
theorem a4u:a3T X (.type "tuple") b0V:=by
 intro pins s σ H vs us Q2 I r h
 obtain⟨xs,M,Q,rr,hh,q,en⟩:=h
 unfold b0V at q
 split at q
 ·obtain⟨v,rfl,r1⟩:=a2m rr
  obtain⟨p,ys,rfl,g1,g2⟩:=a1g r1
  exact a4t pins s σ H _ us Q2 I r ⟨p,ys,rfl,.inr ⟨g1,en _ _ M H Kp.refl hh r1 q⟩⟩
 ·obtain⟨v,rfl,r1⟩:=a2m rr
  obtain⟨p,ys,rfl,g1,g2⟩:=a7U r1
  exact a4t pins s σ H _ us Q2 I r ⟨p,ys,rfl,.inl ⟨g1.sq,fun l hl=>en _ _ M _ (Kp.new hl) (hh.keep hl) (a2i (SqT.of a0B) (Reps.kp (Kp.new hl) _ _ g2)) q⟩⟩
 ·obtain⟨v,rfl,r1⟩:=a2m rr
  obtain rfl:=a0L r1
  split at q
  ·rename_i ts e0
   obtain⟨ys,g1,g2⟩:=hh _ _ e0
   exact a4t pins s σ H _ us Q2 I r ⟨_,ys,rfl,.inl ⟨SqL.of g1,fun l hl=>en _ _ M _ (Kp.new hl) (hh.keep hl) (a2i (SqT.of a0B) (Reps.kp (Kp.new hl) _ _ g2)) q⟩⟩
  ·exact q.elim
 ·exact q.elim
noncomputable def b3N:List T→MH→VK3→Prop:=fun xs M Q=>match xs with
 | [.tup ts]=>∀ r,M r=none→Q (.adr r) (updM M r (.lst ts))
 | [.rd ts]=>∀ r,M r=none→Q (.adr r) (updM M r (.lst ts))
 | [.adr p]=>(match M p with | some (.lst ts)=>∀ r,M r=none→Q (.adr r) (updM M r (.lst ts)) | _=>False)
 | _=>False
theorem b3l:a3T X (.type "list") b3N:=by
 intro pins s σ H vs us Q2 I r h
 obtain⟨xs,M,Q,rr,hh,q,en⟩:=h
 unfold b3N at q
 split at q
 ·obtain⟨v,rfl,r1⟩:=a2m rr
  obtain⟨p,ys,rfl,g1,g2⟩:=a1g r1
  exact a4N pins s σ H _ us Q2 I r ⟨p,ys,rfl,.inr g1,fun l hl=>en _ _ _ _ (Kp.new hl) (hh.newL hl g2) a2j (q l (hh.free hl))⟩
 ·obtain⟨v,rfl,r1⟩:=a2m rr
  obtain⟨p,ys,rfl,g1,g2⟩:=a7U r1
  exact a4N pins s σ H _ us Q2 I r ⟨p,ys,rfl,.inl g1.sq,fun l hl=>en _ _ _ _ (Kp.new hl) (hh.newL hl g2) a2j (q l (hh.free hl))⟩
 ·obtain⟨v,rfl,r1⟩:=a2m rr
  obtain rfl:=a0L r1
  split at q
  ·rename_i ts e0
   obtain⟨ys,g1,g2⟩:=hh _ _ e0
   exact a4N pins s σ H _ us Q2 I r ⟨_,ys,rfl,.inl (SqL.of g1),fun l hl=>en _ _ _ _ (Kp.new hl) (hh.newL hl g2) a2j (q l (hh.free hl))⟩
  ·exact q.elim
 ·exact q.elim
noncomputable def b7Q:List T→MH→VK3→Prop:=fun xs M Q=>match xs with
 | [.int i]=>Q (.int i) M
 | [.bl k]=>Q (.int (if k=true then 1 else 0)) M
 | [.str x]=>∃ n,PySem.intText? x=some n∧x.length≤640∧Q (.int n) M
 | _=>False
theorem a3R:a3T X (.type "int") b7Q:=by
 intro pins s σ H vs us Q2 I r h
 obtain⟨xs,M,Q,rr,hh,q,en⟩:=h
 unfold b7Q at q
 split at q
 ·obtain⟨v,rfl,r1⟩:=a2m rr
  obtain rfl:=a0w r1
  exact b0u pins s σ H _ us Q2 I r (.inl ⟨_,rfl,en _ _ M H Kp.refl hh a0P q⟩)
 ·obtain⟨v,rfl,r1⟩:=a2m rr
  obtain rfl:=a3D r1
  exact b0u pins s σ H _ us Q2 I r (.inr ⟨_,rfl,en _ _ M H Kp.refl hh a0P q⟩)
 ·obtain⟨n,hn,hl,q⟩:=q
  obtain⟨v,rfl,r1⟩:=a2m rr
  obtain rfl:=a2F r1
  obtain⟨u,rfl,ru⟩:=a5o r
  obtain⟨t,rfl⟩:=ru
  exact PySem.W.KIN.call_text hn hl ⟨.int n,H,I.kept fun b o e=>e,⟨_,rfl⟩,en _ _ M H Kp.refl hh a0P q⟩
 ·exact q.elim
theorem a7H (hc:X.calm=true):a5V X (.builtin "all") (fun xs H Q=>∃ (p:Addr) (bs:List Bool),xs=[.ref p]∧SqL X.K H p (bs.map V.bl)∧Q (.bl (bs.all id)) H):=by
 intro pins s σ H xs us Q I r h
 obtain⟨p,bs,rfl,hq,q⟩:=h
 obtain⟨u,rfl,rx⟩:=a5o r
 cases rx
 obtain⟨its,r',pl,hz⟩:=I.list hq
 have hlen:=r'.length
 refine call_all_walk (wpAny_pyIter_list pl.isList ?_)
 have hp:p < s.heap.objs.size:=by obtain⟨o,n,e,_⟩:=pl;exact Heap.lt_size e
 refine⟨s.heap.objs.size,_,_,_,_,_,fun i=>(bs[i]?).getD true,rfl,Walks.list (A:=X.A.in1) (I.ok.hd hc) s.heap.objs.size p (Nat.ne_of_lt hp) its.toArray,⟨⟨_,Heap.get?_push_size _ rfl,rfl,rfl⟩,pl.isList.push _⟩,?_,fun h' tk hk=>?_⟩
 ·intro i v s' Q' E' hP hQ
  have hP':its[i]?=some v:=by simpa using hP
  have hi:i < bs.length:=by
   have:=(List.getElem?_eq_some_iff.mp hP').1
   rw[List.length_map] at hlen;lia
  obtain⟨w,hw,rw'⟩:=r'.get (i:=i) (x:=.bl bs[i]) (by rw[List.getElem?_map,List.getElem?_eq_getElem hi]<;>rfl)
  rw[hP'] at hw;cases hw
  obtain rfl:v=Value.bool bs[i]:=rw'
  refine wpAny_truthy_bool ?_
  have e:(bs[i]?).getD true=bs[i]:=by rw[List.getElem?_eq_getElem hi]<;>rfl
  dsimp only at hQ;rw[e] at hQ;exact hQ
 ·have e:(List.range its.toArray.size).all (fun i=>(bs[i]?).getD true)=bs.all id:=by
   rw[List.length_map] at hlen
   rw[List.size_toArray,← hlen]
   rw[Bool.eq_iff_iff]
   simp only[List.all_eq_true,List.mem_range,id]
   constructor
   ·intro h b hb
    obtain⟨i,hi,rfl⟩:=List.getElem_of_mem hb
    have:=h i hi
    rw[List.getElem?_eq_getElem hi] at this;exact this
   ·intro h i hi
    rw[List.getElem?_eq_getElem hi];exact h _ (List.getElem_mem hi)
  rw[e]
  have I1:Inv X pins σ H { s with heap:=h',toks:=tk }:=I.kept fun b o eb=>hk b o (by
   intro hm
   have:b=s.heap.objs.size:=by simpa using hm
   rw[this] at eb
   exact absurd (Heap.lt_size eb) (Nat.lt_irrefl _)) (Heap.get?_push_of_some _ eb)
  exact⟨.bl _,H,I1,rfl,q⟩
noncomputable def a8W:List T→Option (List Bool)
 | []=>some []
 | .bl b :: ts=>(a8W ts).map (b :: ·)
 | _ :: _=>none
theorem a8c {K:PySem.W.Frag} {H:Hp}:∀ {vs:List V} {ts:List T} {bs:List Bool},Reps K H vs ts→a8W ts=some bs→vs=bs.map V.bl
 | vs,[],bs,h,e=>by unfold a8W at e;cases e;unfold Reps at h;exact h
 | vs, t :: ts,bs,h,e=>by
   unfold Reps at h
   obtain⟨v,r,rfl,h1,h2⟩:=h
   cases t with
   | bl b =>
     unfold a8W at e
     cases q:a8W ts with
     | none=>rw[q] at e;cases e
     | some cs =>
       rw[q] at e;cases e
       obtain rfl:=a3D h1
       rw[a8c h2 q];rfl
   | _=>unfold a8W at e;cases e
noncomputable def b7T:List T→MH→VK3→Prop:=fun xs M Q=>match xs with
 | [.adr p]=>(match M p with | some (.lst ts)=>(match a8W ts with | some bs=>Q (.bl (bs.all id)) M | none=>False) | _=>False)
 | _=>False
theorem b5i (hc:X.calm=true):a3T X (.builtin "all") b7T:=by
 intro pins s σ H vs us Q2 I r h
 obtain⟨xs,M,Q,rr,hh,q,en⟩:=h
 unfold b7T at q
 split at q
 ·obtain⟨v,rfl,r1⟩:=a2m rr
  obtain rfl:=a0L r1
  split at q
  ·rename_i ts e0
   obtain⟨ys,g1,g2⟩:=hh _ _ e0
   split at q
   ·rename_i bs eb
    obtain rfl:=a8c g2 eb
    exact a7H hc pins s σ H _ us Q2 I r ⟨_,bs,rfl,SqL.of g1,en _ _ M H Kp.refl hh a2B q⟩
   ·exact q.elim
  ·exact q.elim
 ·exact q.elim
end
section
variable {X:Cx} {a b c e:Expr} {st:Stmt} {rest ba bb body:List Stmt} {ta tb te:TE3} {tA:TT3} {t u:TS3} {pos:Pos}
noncomputable def b6I:TS3:=fun D ρ M=>D.nx ρ M
noncomputable def a1G (t u:TS3):TS3:=fun D ρ M=>t { D with nx:=u D } ρ M
theorem EndS.nx' {K:PySem.W.Frag} {H:Hp} {D:Ends3} {D2:Ends} {t:TS3} (h:EndS K H D D2):EndS K H { D with nx:=t D } { D2 with nx:=dS K t D2 } :=
 ⟨fun ρ' M' σ' H' k r hh q=>⟨D,ρ',M',q,r,hh,h.kp k⟩,h.rt,h.bk,h.ct⟩
theorem a0s:HSs X [] b6I:=fun D ρ M h=>b8b.imp fun D2 σ H ⟨hr,hh,en⟩=>en.nx ρ M σ H Kp.refl hr hh h
theorem a0b (h1:HS X st t) (h2:HSs X rest u):HSs X (st :: rest) (a1G t u):=fun D ρ M h =>
 (b5K h1.d h2.d).imp fun D2 σ H ⟨hr,hh,en⟩=>⟨{ D with nx:=u D },ρ,M,h,hr,hh,en.nx'⟩
theorem a0g (h1:HS X st t):HSs X [st] t:=fun D ρ M h=>b8a (h1 D ρ M h)
noncomputable def b9l (te:TE3):TS3:=fun D ρ M=>te ρ M D.rt
theorem a0u (he:HE X e te):HS X (.Return (some e) pos) (b9l te):=fun D ρ M h =>
 (b9Q (he.d (ρ:=ρ))).imp fun D2 σ H ⟨hr,hh,en⟩=>⟨M,_,h,hr,hh,en.rt⟩
noncomputable def a9e (c:TT3) (t u:TS3):TS3:=fun D ρ M=>c ρ M fun b M1=>if b=true then t D ρ M1 else u D ρ M1
theorem s_if (hc:HT X c tA) (ha:HSs X ba t) (hb:HSs X bb u):HS X (.If c ba bb pos) (a9e tA t u):=fun D ρ M h =>
 (c1r (hc.d (ρ:=ρ)) ha.d hb.d).imp fun D2 σ H ⟨hr,hh,en⟩=>⟨M,_,h,hr,hh,fun b M1 H1 k1 h1 q1=>by
  dsimp only at q1⊢
  split
  ·rename_i hb;rw[if_pos hb] at q1
   exact⟨D,ρ,M1,q1,hr.kp k1,h1,en.kp k1⟩
  ·rename_i hb;rw[if_neg hb] at q1
   exact⟨D,ρ,M1,q1,hr.kp k1,h1,en.kp k1⟩⟩
noncomputable def b7w:TS3:=fun _ _ _=>False
theorem a2n:HS X st b7w:=fun _ _ _ h=>h.elim
noncomputable def b6J (te:TE3):TS3:=fun D ρ M=>te ρ M fun _ M1=>D.nx ρ M1
theorem a4y (he:HE X e te) (hs:swapsWith e none pos.line X.env=pure false:=by rfl):HS X (.Expr e pos) (b6J te):=fun D ρ M h =>
 (b8d (he.d (ρ:=ρ)) hs).imp fun D2 σ H ⟨hr,hh,en⟩=>⟨M,_,h,hr,hh,fun x v M1 H1 k1 h1 r1 q1=>en.nx ρ M1 σ H1 k1 (hr.kp k1) h1 q1⟩
noncomputable def b7u (i:Nat) (te:TE3):TS3:=fun D ρ M=>te ρ M fun x M1=>D.nx (ρ.set i (some x)) M1
theorem a0I {i:Nat} {x:Str} {pos':Pos} (he:HE X e te) (hN:X.N.Nodup) (hi:X.N[i]?=some x:=by rfl) (hx:Loc X.env.scope x:=by first | exact Or.inl rfl | exact Or.inr rfl) (hs:swapsWith e (some (.Name x pos')) pos.line X.env=pure false:=by rfl)
  (hf:X.fn x=true∨X.env.scope.names.lookup x=some .local:=by first | exact .inl rfl | exact .inr rfl | assumption):HS X (.Assign [.Name x pos'] e pos) (b7u i te):=fun D ρ M h =>
 (b9P hN hi hx (he.d (ρ:=ρ)) hs hf).imp fun D2 σ H ⟨hr,hh,en⟩=>⟨M,_,h,hr,hh,fun t v M1 H1 k1 h1 r1 q1=>en.nx _ M1 _ H1 k1 ((hr.kp k1).set i r1) h1 q1⟩
noncomputable abbrev TG3:=T→En→MH→(En→MH→Prop)→Prop
noncomputable abbrev TGs3:=List T→En→MH→(En→MH→Prop)→Prop
noncomputable def EndG (K:PySem.W.Frag) (H:Hp) (Q:En→MH→Prop) (Q2:St→Hp→Prop):Prop:=∀ ρ' M' σ' H',Kp K H H'→RhoR K σ' H' ρ'→HR K H' M'→Q ρ' M'→Q2 σ' H'
noncomputable def dG (K:PySem.W.Frag) (g:TG3):TG:=fun v σ H Q2=>∃ t ρ M Q,g t ρ M Q∧Rep K H v t∧RhoR K σ H ρ∧HR K H M∧EndG K H Q Q2
noncomputable def dGs (K:PySem.W.Frag) (g:TGs3):TGs:=fun vs σ H Q2=>∃ ts ρ M Q,g ts ρ M Q∧Reps K H vs ts∧RhoR K σ H ρ∧HR K H M∧EndG K H Q Q2
noncomputable def HG (X:Cx) (tg:Expr) (g:TG3):Prop:=PG X tg (dG X.K g)
noncomputable def HGs (X:Cx) (tgs:List Expr) (g:TGs3):Prop:=PGs X tgs (dGs X.K g)
noncomputable def b0a (i:Nat):TG3:=fun t ρ M Q=>Q (ρ.set i (some t)) M
theorem PG.imp {tg:Expr} {g g':TG} (h:PG X tg g) (f:∀ v σ H Q,g' v σ H Q→g v σ H Q):PG X tg g':=fun pins s σ H v u Q I r q=>h pins s σ H v u Q I r (f v σ H Q q)
theorem PGs.imp {tg:List Expr} {g g':TGs} (h:PGs X tg g) (f:∀ v σ H Q,g' v σ H Q→g v σ H Q):PGs X tg g':=fun pins s σ H v u Q I r q=>h pins s σ H v u Q I r (f v σ H Q q)
theorem a0V {i:Nat} {x:Str} (hN:X.N.Nodup) (hi:X.N[i]?=some x:=by rfl) (hx:Loc X.env.scope x:=by first | exact Or.inl rfl | exact Or.inr rfl) (hf:X.fn x=true∨X.env.scope.names.lookup x=some .local:=by first | exact .inl rfl | exact .inr rfl | assumption):HG X (.Name x pos) (b0a i) :=
 (a1C hN hi hx hf).imp fun v σ H Q2 ⟨t,ρ,M,Q,q,r,hr,hh,en⟩=>en _ M _ H Kp.refl (hr.set i r) hh q
noncomputable def b8O:TGs3:=fun ts ρ M Q=>ts=[]∧Q ρ M
noncomputable def b0c (g:TG3) (gs:TGs3):TGs3:=fun ts ρ M Q=>match ts with
 | t :: r=>g t ρ M fun ρ1 M1=>gs r ρ1 M1 Q
 | []=>False
theorem a6y:HGs X [] b8O:=a8w.imp fun v σ H Q2 ⟨ts,ρ,M,Q,⟨e,q⟩,r,hr,hh,en⟩=>by
 subst e
 unfold Reps at r
 exact⟨r,en ρ M σ H Kp.refl hr hh q⟩
theorem a1p {es:List Expr} {g:TG3} {gs:TGs3} (h1:HG X e g) (h2:HGs X es gs) (hs:(assignEach (e :: es) X.env).map (·.2)=assign e X.env :: (assignEach es X.env).map (·.2):=by rfl):HGs X (e :: es) (b0c g gs) :=
 (a4n h1 h2 hs).imp fun vs σ H Q2 ⟨ts,ρ,M,Q,q,r,hr,hh,en⟩=>by
  unfold b0c at q
  split at q
  ·rename_i t r'
   unfold Reps at r
   obtain⟨v,vr,rfl,r1,r2⟩:=r
   exact⟨v,vr,rfl,t,ρ,M,_,q,r1,hr,hh,fun ρ' M' σ' H' k hr' hh' q'=>⟨r',ρ',M',Q,q',Reps.kp k _ _ r2,hr',hh',fun ρ2 M2 σ2 H2 k2=>en ρ2 M2 σ2 H2 (k.trans k2)⟩⟩
  ·exact q.elim
noncomputable def b4K (n:Nat) (gs:TGs3):TG3:=fun t ρ M Q=>match t with
 | .tup ts=>ts.length=n∧gs ts ρ M Q
 | _=>False
theorem a9Z {es:List Expr} {k:Nat} {gs:TGs3} {n:Nat} (hc:X.calm=true) (h:HGs X es gs) (hn:(assignEach es X.env).length=n:=by rfl) (hst:(assignEach es X.env).findIdx? (·.1)=none:=by rfl):HG X (.Tuple es k pos) (b4K n gs) :=
 (b1P hc h hn hst).imp fun v σ H Q2 ⟨t,ρ,M,Q,q,r,hr,hh,en⟩=>by
  unfold b4K at q
  split at q
  ·rename_i ts
   obtain⟨a,xs,rfl,g1,g2⟩:=a1g r
   exact⟨a,xs,rfl,g1,by rw[g2.length];exact q.1,ts,ρ,M,Q,q.2,g2,hr,hh,en⟩
  ·exact q.elim
noncomputable def c0J (to ti:TE3):TG3:=fun v ρ M Q=>to ρ M fun o M1=>ti ρ M1 fun i M2=>match o,i with
 | .adr p,.int k=>(match M2 p with
   | some (.lst ts)=>(match ixN ts.length k with | some j=>Q ρ (updM M2 p (.lst (ts.set j v))) | none=>False)
   | _=>False)
 | _,_=>False
theorem b6q {o i:Expr} {to ti:TE3} (ho:HE X o to) (hi:HE X i ti)
  (ha:∀ v,assign (.Subscript o i pos) X.env v=(do
   let ov ← holding [v] (eval o X.env)
   let iv ← holding [v,ov] (eval i X.env)
   standAt pos
   holding [v,ov,iv] (setItem ov iv v)
   release [v,ov,iv] []):=by intro _;rfl):HG X (.Subscript o i pos) (c0J to ti):=by
 intro pins s σ H v u Q2 I r h
 obtain⟨t,ρ,M,Q,q,rt,hr,hh,en⟩:=h
 refine b9V (ho.d (ρ:=ρ)) (hi.d (ρ:=ρ)) b5w ha pins s σ H v u Q2 I r ?_
 refine⟨M,_,q,hr,hh,fun ot ov M1 H1 k1 h1 r1 q1=>⟨M1,_,q1,hr.kp k1,h1,fun it iv M2 H2 k2 h2 r2 q2=>?_⟩⟩
 dsimp only at q2
 split at q2
 ·obtain rfl:=a0L r1
  obtain rfl:=a0w r2
  split at q2
  ·rename_i ts e0
   obtain⟨xs,g1,g2⟩:=h2 _ _ e0
   split at q2
   ·rename_i j ej
    have kk:=k1.trans k2
    refine⟨_,xs,_,j,rfl,rfl,g1,by rw[g2.length];exact ej,en _ _ σ _ (kk.trans (Kp.lst g1)) (hr.kp (kk.trans (Kp.lst g1))) (h2.setL g1 (g2.set (Rep.kp kk _ _ rt) j)) q2⟩
   ·exact q2.elim
  ·exact q2.elim
 ·exact q2.elim
noncomputable def b9s (te:TE3) (g:TG3):TS3:=fun D ρ M=>te ρ M fun x M1=>g x ρ M1 D.nx
theorem a8q {tg:Expr} {g:TG3} (he:HE X e te) (hg:HG X tg g) (hs:swapsWithSole [tg] e pos.line X.env=pure false:=by rfl) (hw:swappedStores [tg] e X.env=pure none:=by rfl)
  (h1:(assignEach [tg] X.env).map (·.2)=[assign tg X.env]:=by rfl):HS X (.Assign [tg] e pos) (b9s te g):=fun D ρ M h =>
 (b9S (he.d (ρ:=ρ)) hg hs hw h1).imp fun D2 σ H ⟨hr,hh,en⟩=>⟨M,_,h,hr,hh,fun t v M1 H1 k1 h1 r1 q1=>⟨t,ρ,M1,D.nx,q1,r1,hr.kp k1,h1,fun ρ' M' σ' H' k r hh' q=>en.nx ρ' M' σ' H' (k1.trans k) r hh' q⟩⟩
structure It3 where
 items:List T
 stay:MH→Prop:=fun _=>True
noncomputable abbrev TI3:=En→MH→(It3→MH→Prop)→Prop
structure ItOk (K:PySem.W.Frag) (H:Hp) (J2:It) (J:It3):Prop where
 stop:∀ H' M',Kp K H H'→HR K H' M'→J.stay M'→J2.stop J.items.length H'
 go:∀ (i:Nat) (x:T) H' M',J.items[i]?=some x→Kp K H H'→HR K H' M'→J.stay M'→J2.go i H'∧∀ v H'',J2.yld i H' v H''→Kp K H' H''∧HR K H'' M'∧Rep K H'' v x
noncomputable def HI (X:Cx) (tg iter:Expr) (wi:TI3):Prop:=∀ ρ M R,wi ρ M R→PI X tg iter (fun σ H R2=>RhoR X.K σ H ρ∧HR X.K H M∧∀ J J2 M' H',Kp X.K H H'→HR X.K H' M'→ItOk X.K H' J2 J→R J M'→R2 J2 H')
noncomputable def dI (K:PySem.W.Frag) (ρ:En) (wi:TI3):TI:=fun σ H R2=>∃ M R,wi ρ M R∧RhoR K σ H ρ∧HR K H M∧∀ J J2 M' H',Kp K H H'→HR K H' M'→ItOk K H' J2 J→R J M'→R2 J2 H'
theorem HI.d {tg iter:Expr} {wi:TI3} {ρ:En} (h:HI X tg iter wi):PI X tg iter (dI X.K ρ wi):=fun pins s σ H R I ⟨M,R3,q,b⟩=>h ρ M R3 q pins s σ H R I b
theorem PI.imp {tg iter:Expr} {w w':TI} (h:PI X tg iter w) (f:∀ σ H R,w' σ H R→w σ H R):PI X tg iter w':=fun pins s σ H R I q=>h pins s σ H R I (f σ H R q)
noncomputable def c0D (tl:TE3):TI3:=fun ρ M R=>tl ρ M fun x M1=>match x with
 | .tup ts=>R ⟨ts,fun _=>True⟩ M1
 | .adr p=>(match M1 p with | some (.lst ts)=>R ⟨ts,fun M'=>M' p=some (.lst ts)⟩ M1 | _=>False)
 | _=>False
theorem b6h {K:PySem.W.Frag} {H:Hp} {a:Addr} {xs:List V} {ts:List T} (h:SqT K H a xs) (r:Reps K H xs ts):ItOk K H (Itt K a) ⟨ts,fun _=>True⟩:=by
 refine⟨fun H' M' k hh _=>⟨xs,k.tup _ _ h,by rw[r.length];exact Nat.le_refl _⟩,fun i x H' M' e k hh _=>?_⟩
 obtain⟨v,e1,r1⟩:=r.get e
 refine⟨⟨xs,v,k.tup _ _ h,e1⟩,fun v' H'' y=>?_⟩
 obtain⟨rfl,y⟩:=y
 have:=y xs (k.tup _ _ h)
 rw[e1] at this;cases this
 exact⟨Kp.refl,hh,Rep.kp k _ _ r1⟩
theorem b6i {K:PySem.W.Frag} {H:Hp} {a:Addr} {ts:List T}:ItOk K H (Itl K a) ⟨ts,fun M'=>M' a=some (.lst ts)⟩:=by
 refine⟨fun H' M' k hh st=>?_,fun i x H' M' e k hh st=>?_⟩
 ·obtain⟨xs,g1,g2⟩:=hh _ _ st
  exact⟨xs,SqL.of g1,by rw[g2.length];exact Nat.le_refl _⟩
 ·obtain⟨xs,g1,g2⟩:=hh _ _ st
  obtain⟨v,e1,r1⟩:=g2.get e
  refine⟨⟨xs,v,SqL.of g1,e1⟩,fun v' H'' y=>?_⟩
  obtain⟨rfl,y⟩:=y
  have:=y xs (SqL.of g1)
  rw[e1] at this;cases this
  exact⟨Kp.refl,hh,r1⟩
noncomputable def a1A (lo:Int) (n:Nat):List T:=(List.range n).map fun i=>T.int (lo+(i:Nat))
theorem a7S {K:PySem.W.Frag} {H:Hp} {lo:Int} {n:Nat}:ItOk K H (Itr lo n) ⟨a1A lo n,fun _=>True⟩:=by
 have hl:(a1A lo n).length=n:=by unfold a1A;simp
 refine⟨fun H' M' k hh _=>by show n≤(a1A lo n).length;rw[hl];exact Nat.le_refl _,fun i x H' M' e k hh _=>?_⟩
 have hi:i < n:=by have:=(List.getElem?_eq_some_iff.mp e).1;rwa [hl] at this
 have ex:x=.int (lo+(i:Nat)):=by
  unfold a1A at e
  rw[List.getElem?_map,List.getElem?_range hi] at e
  exact (Option.some.inj e).symm
 subst ex
 refine⟨hi,fun v H'' y=>?_⟩
 obtain⟨rfl,rfl⟩:=y
 exact⟨Kp.refl,hh,a0P⟩
theorem a5s {tg l:Expr} {tl:TE3} (hl:HE X l tl):HI X tg l (c0D tl):=by
 intro ρ M R h pins s σ H R2 I b
 obtain⟨hr,hh,en⟩:=b
 refine thn (hl ρ M _ h pins s σ H (fun v H1=>∃ t M1,Kp X.K H H1∧HR X.K H1 M1∧Rep X.K H1 v t∧(match t with
  | .tup ts=>R ⟨ts,fun _=>True⟩ M1
  | .adr p=>(match M1 p with | some (.lst ts)=>R ⟨ts,fun M'=>M' p=some (.lst ts)⟩ M1 | _=>False)
  | _=>False)) I ⟨hr,hh,fun t v M1 H1 k1 h1 r1 q1=>⟨t,M1,k1,h1,r1,q1⟩⟩) fun v s1 ⟨x,H1,I1,rv,t,M1,k1,h1,r1,q1⟩=>?_
 split at q1
 ·rename_i ts
  obtain⟨a,xs,rfl,g1,g2⟩:=a1g r1
  cases rv
  obtain⟨its,rv,p,hz⟩:=I1.tuple g1
  refine wpAny_pyIter_tuple (show s1.heap.IsTuple a its.toArray from p) ?_
  refine⟨s1.heap.objs.size,[s1.heap.objs.size],_,_,H1,rfl,I1.kept (t':=s1.toks) fun b o e=>Heap.get?_push_of_some _ e,b2q a _,⟨_,Heap.get?_push_size _ rfl,rfl,rfl⟩,fun b hb=>?_,en _ _ M1 H1 k1 h1 (b6h g1 g2) q1⟩
  have e:b=s1.heap.objs.size:=by simpa using hb
  subst e
  exact I1.fpOk (Nat.le_refl _) (I1.hok.fresh (Nat.le_refl _))
 ·rename_i a
  obtain rfl:=a0L r1
  cases rv
  split at q1
  ·rename_i ts e0
   obtain⟨xs,g1,g2⟩:=h1 _ _ e0
   obtain⟨its,rv,p,hz⟩:=I1.list (SqL.of g1)
   refine wpAny_pyIter_list p.isList ?_
   refine⟨s1.heap.objs.size,[s1.heap.objs.size],_,_,H1,rfl,I1.kept (t':=s1.toks) fun b o e=>Heap.get?_push_of_some _ e,b3p a _,⟨_,Heap.get?_push_size _ rfl,rfl,rfl⟩,fun b hb=>?_,en _ _ M1 H1 k1 h1 b6i q1⟩
   have e:b=s1.heap.objs.size:=by simpa using hb
   subst e
   exact I1.fpOk (Nat.le_refl _) (I1.hok.fresh (Nat.le_refl _))
  ·exact q1.elim
 ·exact q1.elim
noncomputable def b4G (t:TA3):TI3:=fun ρ M R=>t ρ M fun xs M1=>match xs with
 | [.int j]=>-(2 ^ 62)≤j∧j < 2 ^ 62∧R ⟨a1A 0 j.toNat,fun _=>True⟩ M1
 | _=>False
noncomputable def b4F (t:TA3):TI3:=fun ρ M R=>t ρ M fun xs M1=>match xs with
 | [.int i,.int j]=>(-(2 ^ 62)≤i∧i < 2 ^ 62∧-(2 ^ 62)≤j∧j < 2 ^ 62)∧R ⟨a1A i (j - i).toNat,fun _=>True⟩ M1
 | _=>False
theorem a2X {tg:Expr} {t:TA3} {p:Pos} (hm:X.mg "range"=none) (ha:HA X [a] t) (hg:Gl X "range":=by rfl) (hs:starEach [a] X.env=[(false,eval a X.env)]:=by rfl):HI X tg (.Call (.Name "range" p) [a] [] pos) (b4G t):=fun ρ M R h =>
 (b3X hg hm (ha.d (ρ:=ρ)) hs).imp fun σ H R2 ⟨hr,hh,en⟩=>⟨M,_,h,hr,hh,fun ts vs M1 H1 k1 h1 r1 q1=>by
  dsimp only at q1
  split at q1
  ·rename_i j
   obtain⟨v,rfl,rv⟩:=a2m r1
   obtain rfl:=a0w rv
   exact⟨j,rfl,q1.1,q1.2.1,en _ _ M1 H1 k1 h1 a7S q1.2.2⟩
  ·exact q1.elim⟩
theorem b6k {tg:Expr} {t:TA3} {p:Pos} (hm:X.mg "range"=none) (ha:HA X [a,b] t) (hg:Gl X "range":=by rfl) (hs:starEach [a,b] X.env=[(false,eval a X.env),(false,eval b X.env)]:=by rfl) (hs2:starEach [b] X.env=[(false,eval b X.env)]:=by rfl):HI X tg (.Call (.Name "range" p) [a,b] [] pos) (b4F t):=fun ρ M R h =>
 (b3W hg hm (ha.d (ρ:=ρ)) hs hs2).imp fun σ H R2 ⟨hr,hh,en⟩=>⟨M,_,h,hr,hh,fun ts vs M1 H1 k1 h1 r1 q1=>by
  dsimp only at q1
  split at q1
  ·rename_i i j
   obtain⟨v,w',rfl,rv,rw'⟩:=b7G r1
   obtain rfl:=a0w rv
   obtain rfl:=a0w rw'
   exact⟨i,j,rfl,q1.1,en _ _ M1 H1 k1 h1 a7S q1.2⟩
  ·exact q1.elim⟩
noncomputable def a5q (wi:TI3) (g:TG3) (tb:TS3):TS3:=fun D ρ M=>wi ρ M fun J M1=>∃ W:Nat→En→MH→Prop,W 0 ρ M1∧(∀ i ρ M,W i ρ M→J.stay M) ∧
 (∀ i x ρ M,J.items[i]?=some x→W i ρ M→g x ρ M fun ρ2 M2=>tb { D with nx:=W (i+1),ct:=W (i+1),bk:=D.nx } ρ2 M2)∧∀ ρ M,W J.items.length ρ M→D.nx ρ M
theorem a5g {tg iter:Expr} {wi:TI3} {g:TG3} {tb:TS3} (hp:PassesOwn (model X.prog X.w) X.A X.env X.xe) (hc:X.calm=true) (hi:HI X tg iter wi) (hg:HG X tg g) (hb:HSs X body tb)
  (hs:∀ x,foldedSetIterable iter X.env x=pure x:=by intro _;rfl):HS X (.For tg iter body [] pos) (a5q wi g tb):=fun D ρ0 M0 h =>
 (b9R hp hc (hi.d (ρ:=ρ0)) hg hb.d hs).imp fun D2 σ0 H0 ⟨hr0,hh0,en⟩=>⟨M0,_,h,hr0,hh0,fun J J2 M1 H1 k1 h1 ok q1=>by
  obtain⟨W,w0,wst,turn,fin⟩:=q1
  refine⟨fun i m σ H=>m=J.items.length - i∧i≤J.items.length∧Kp X.K H1 H∧∃ ρ M,RhoR X.K σ H ρ∧HR X.K H M∧W i ρ M,⟨_,rfl,Nat.zero_le _,Kp.refl,ρ0,M1,hr0.kp k1,h1,w0⟩,?_⟩
  rintro i m σ H ⟨rfl,hi,kk,ρ,M,hr,hh,w⟩
  have st:=wst i ρ M w
  by_cases hlt:i < J.items.length
  ·have e:J.items[i]?=some J.items[i]:=List.getElem?_eq_getElem hlt
   obtain⟨go,yl⟩:=ok.go i _ H M e kk hh st
   refine .inr ⟨go,fun σ' H'=>i+1≤J.items.length∧Kp X.K H1 H'∧∃ ρ M,RhoR X.K σ' H' ρ∧HR X.K H' M∧W (i+1) ρ M,fun σ' H' ⟨a,b,c⟩=>⟨_,by lia,rfl,a,b,c⟩,fun v H' y=>?_⟩
   obtain⟨k2,h2,r2⟩:=yl v H' y
   refine⟨J.items[i],ρ,M,_,turn i _ ρ M e w,r2,hr.kp k2,h2,fun ρ3 M3 σ3 H3 k3 hr3 hh3 q3=>⟨_,ρ3,M3,q3,hr3,hh3,?_⟩⟩
   have kall:=kk.trans (k2.trans k3)
   refine⟨fun ρ4 M4 σ4 H4 k4 hr4 hh4 q4=>⟨hlt,kall.trans k4,ρ4,M4,hr4,hh4,q4⟩,fun t v M4 H4 k4 h4 r4 q4=>en.rt t v M4 H4 (k1.trans (kall.trans k4)) h4 r4 q4,fun ρ4 M4 σ4 H4 k4 hr4 hh4 q4=>en.nx ρ4 M4 σ4 H4 (k1.trans (kall.trans k4)) hr4 hh4 q4,fun ρ4 M4 σ4 H4 k4 hr4 hh4 q4=>⟨hlt,kall.trans k4,ρ4,M4,hr4,hh4,q4⟩⟩
  ·have e:i=J.items.length:=by lia
   subst e
   exact .inl ⟨ok.stop H M kk hh st,en.nx ρ M σ H (k1.trans kk) hr hh (fin ρ M w)⟩⟩
noncomputable def a8i (c:TT3) (tb:TS3):TS3:=fun D ρ M=>∃ W:Nat→En→MH→Prop,(∃ m,W m ρ M)∧∀ m ρ M,W m ρ M →
 c ρ M fun b M1=>if b=true then tb { D with nx:=fun ρ' M'=>∃ m',m' < m∧W m' ρ' M',ct:=fun ρ' M'=>∃ m',m' < m∧W m' ρ' M',bk:=D.nx } ρ M1 else D.nx ρ M1
theorem b7B {c:Expr} {tc:TT3} {tb:TS3} (hp:PassesOwn (model X.prog X.w) X.A X.env X.xe) (hc:HT X c tc) (hb:HSs X body tb):HS X (.While c body [] pos) (a8i tc tb):=by
 intro D ρ0 M0 h pins s σ H D2 I b
 obtain⟨hr0,hh0,en⟩:=b
 obtain⟨W,⟨m0,w0⟩,turn⟩:=h
 refine wpAny_While (codeAny_whileLoop (fun n s'=>∃ σ' H' ρ M,Inv X pins σ' H' s'∧Kp X.K H H'∧RhoR X.K σ' H' ρ∧HR X.K H' M∧W n ρ M) ?_ m0 ⟨σ,H,ρ0,M0,I,Kp.refl,hr0,hh0,w0⟩)
 rintro n s1 ⟨σ1,H1,ρ,M,I1,k1,hr,hh,w1⟩
 refine wpAny_passesOwn hp (thn (hc ρ M _ (turn n ρ M w1) pins s1 σ1 H1 (fun b H2=>∃ M2,Kp X.K H1 H2∧HR X.K H2 M2∧(if b=true then tb { D with nx:=fun ρ' M'=>∃ m',m' < n∧W m' ρ' M',ct:=fun ρ' M'=>∃ m',m' < n∧W m' ρ' M',bk:=D.nx } ρ M2 else D.nx ρ M2)) I1 ⟨hr,hh,fun b M2 H2 k2 h2 q2=>⟨M2,k2,h2,q2⟩⟩) fun b s2 ⟨H2,I2,M2,k2,h2,q2⟩=>?_)
 have kk:=k1.trans k2
 cases b with
 | true =>
   rw[if_pos rfl] at q2
   rw[if_pos rfl]
   refine wpAny_passesOwn hp (thn (hb _ ρ M2 q2 pins s2 σ1 H2 { nx:=fun σ' H'=>∃ ρ' M',Kp X.K H2 H'∧RhoR X.K σ' H' ρ'∧HR X.K H' M'∧∃ m',m' < n∧W m' ρ' M',rt:=D2.rt,bk:=D2.nx,ct:=fun σ' H'=>∃ ρ' M',Kp X.K H2 H'∧RhoR X.K σ' H' ρ'∧HR X.K H' M'∧∃ m',m' < n∧W m' ρ' M' } I2
    ⟨hr.kp k2,h2,⟨fun ρ' M' σ' H' k r hh' q=>⟨ρ',M',k,r,hh',q⟩,en.rt.kp kk,fun ρ' M' σ' H' k r hh' q=>en.nx ρ' M' σ' H' (kk.trans k) r hh' q,fun ρ' M' σ' H' k r hh' q=>⟨ρ',M',k,r,hh',q⟩⟩⟩) fun f s3 q3=>?_)
   cases f with
   | next =>
     obtain⟨σ3,H3,I3,ρ',M',k3,r3,h3,m',hm,w3⟩:=q3
     exact⟨m',hm,σ3,H3,ρ',M',I3,kk.trans k3,r3,h3,w3⟩
   | cont =>
     obtain⟨σ3,H3,I3,ρ',M',k3,r3,h3,m',hm,w3⟩:=q3
     exact⟨m',hm,σ3,H3,ρ',M',I3,kk.trans k3,r3,h3,w3⟩
   | brk=>exact q3
   | ret v=>exact q3
 | false =>
   rw[if_neg Bool.false_ne_true] at q2
   rw[if_neg Bool.false_ne_true]
   exact wpAny_execs_nil ⟨σ1,H2,I2,en.nx ρ M2 σ1 H2 kk (hr.kp k2) h2 q2⟩
noncomputable def a8v (ix:List (Option Nat)) (ρ:En):En:=ix.map fun o=>match o with | some j=>(ρ[j]?).join | none=>none
theorem b5A {K:PySem.W.Frag} {σ:St} {H:Hp} {ρ:En} (ix:List (Option Nat)) (h:RhoR K σ H ρ):RhoR K (pick ix σ) H (a8v ix ρ):=by
 refine⟨by unfold pick a8v;simp,fun i t e=>?_⟩
 unfold a8v at e
 unfold pick
 rw[List.getElem?_map] at e⊢
 cases hx:ix[i]? with
 | none=>rw[hx] at e;cases e
 | some o =>
   rw[hx] at e
   cases o with
   | none =>
     have e':(none:Option T)=some t:=Option.some.inj e
     cases e'
   | some j =>
     have e':(ρ[j]?).join=some t:=Option.some.inj e
     cases hj:ρ[j]? with
     | none=>rw[hj] at e';cases e'
     | some u =>
       rw[hj] at e'
       have e2:u=some t:=e'
       subst e2
       obtain⟨v,a,b⟩:=h.2 j t hj
       exact⟨v,by show some ((σ[j]?).join)=some (some v);rw[a]<;>rfl,b⟩
noncomputable def b1F (wi:TI3) (ix:List (Option Nat)) (g:TG3) (tt:TT3) (te:TE3):TE3:=fun ρ M Q=>wi ρ M fun J M1=>∃ W:Nat→List T→MH→Prop,W 0 [] M1∧(∀ i ys M,W i ys M→J.stay M)∧J.items.length < sizeLine ∧
 (∀ i x ys M,J.items[i]?=some x→W i ys M→g x (a8v ix ρ) M fun ρ2 M2=>tt ρ2 M2 fun ok M3=>if ok=true then te ρ2 M3 fun y M4=>W (i+1) (ys++[y]) M4 else W (i+1) ys M3) ∧
 ∀ ys M,W J.items.length ys M→∀ p,M p=none→Q (.adr p) (updM M p (.lst ys))
noncomputable def HTs (X:Cx) (ifs:List Expr) (t:TT3):Prop:=∀ ρ M Q,t ρ M Q→PTs X ifs (bT X.K ρ M Q)
noncomputable def b9h:TT3:=fun _ M Q=>Q true M
theorem a6q:HTs X [] b9h:=fun ρ M Q h pins s σ H Q2 I ⟨hr,hh,en⟩=>b7Y pins s σ H Q2 I (en true M H Kp.refl hh h)
theorem a9d {c:Expr} {t:TT3} (h:HT X c t):HTs X [c] t:=fun ρ M Q q=>b7X (h ρ M Q q)
end
noncomputable def dEx (K:PySem.W.Frag) (t:TE3):TE:=fun σ H Q2=>∃ ρ M Q,t ρ M Q∧bE K ρ M Q σ H Q2
noncomputable def dTx (K:PySem.W.Frag) (t:TT3):TT:=fun σ H Q2=>∃ ρ M Q,t ρ M Q∧bT K ρ M Q σ H Q2
section
variable {X:Cx} {e:Expr}
theorem HE.dx {t:TE3} (h:HE X e t):PE X e (dEx X.K t):=fun pins s σ H Q I ⟨ρ,M,Q3,q,b⟩=>h ρ M Q3 q pins s σ H Q I b
theorem HTs.dx {ifs:List Expr} {t:TT3} (h:HTs X ifs t):PTs X ifs (dTx X.K t):=fun pins s σ H Q I ⟨ρ,M,Q3,q,b⟩=>h ρ M Q3 q pins s σ H Q I b
structure BTg (K:PySem.W.Frag) (ix:List (Option Nat)) (g2:TG) (g3:TG3):Prop where
 own:Own ix g2
 br:∀ (t:T) (v:V) (ρ:En) (M:MH) (σ:St) (H:Hp) (Q3:En→MH→Prop) (Q2:St→Hp→Prop),Rep K H v t→RhoR K σ H ρ→HR K H M→g3 t ρ M Q3→EndG K H Q3 Q2→g2 v σ H Q2
theorem a3G {K:PySem.W.Frag} {ix:List (Option Nat)} {i:Nat} (h:ix[i]?=some none:=by rfl):BTg K ix (b0b i) (b0a i) :=
 ⟨a8x h,fun t v ρ M σ H Q3 Q2 r hr hh q en=>en _ M _ H Kp.refl (hr.set i r) hh q⟩
theorem b1z {K:PySem.W.Frag} {ix:List (Option Nat)} {i j:Nat} (h:ix[i]?=some none:=by rfl) (h':ix[j]?=some none:=by rfl):BTg K ix (gTup K 2 (b6r (b0b i) (b6r (b0b j) gNil))) (b4K 2 (b0c (b0a i) (b0c (b0a j) b8O))):=by
 refine⟨b8k (a9y a7X (a8x h) (a9y a7X (a8x h') b5S)),fun t v ρ M σ H Q3 Q2 r hr hh q en=>?_⟩
 unfold b4K at q
 split at q
 ·rename_i ts
  obtain⟨a,xs,rfl,g1,g2⟩:=a1g r
  obtain⟨hl,q⟩:=q
  match ts,hl,g2,q with
  | [x,y],_,g2,q =>
    obtain⟨v1,v2,rfl,r1,r2⟩:=b7G g2
    refine⟨a,_,rfl,g1,rfl,v1,[v2],rfl,v2,[],rfl,rfl,?_⟩
    exact en _ M _ H Kp.refl ((hr.set i r1).set j r2) hh q.2
 ·exact q.elim
variable {elt iter tg:Expr} {ifs:List Expr} {pos:Pos} {scope:Scope} {N':List Str} {ix:List (Option Nat)} {wi:TI3} {g2:TG} {g3:TG3} {tt:TT3} {te:TE3}
theorem b2k {X:Cx} {N':List Str} {ix:List (Option Nat)} {wi:TI3} {g2:TG} {g3:TG3} {tt:TT3} {te:TE3} (bt:BTg X.K ix g2 g3) (ρ0:En) (M0:MH) (Q:VK3) (h:b1F wi ix g3 tt te ρ0 M0 Q) (σ0:St) (H0:Hp) (Q2:VK) (bb:bE X.K ρ0 M0 Q σ0 H0 Q2) :
  b5u (dI X.K ρ0 wi) ix g2 (dTx X.K tt) (dEx X.K te) σ0 H0 Q2:=by
 obtain⟨hr0,hh0,en⟩:=bb
 exact⟨M0,_,h,hr0,hh0,fun J J2 M1 H1 k1 h1 ok q1=>by
  obtain⟨W,w0,wst,hsz,turn,fin⟩:=q1
  refine⟨fun i m ys H=>m=J.items.length - i∧i≤J.items.length∧ys.length≤i∧Kp X.K H1 H∧∃ ts M,Reps X.K H ys ts∧HR X.K H M∧W i ts M,⟨_,rfl,Nat.zero_le _,Nat.zero_le _,Kp.refl,[],M1,.nil,h1,w0⟩,?_⟩
  rintro i m ys H ⟨rfl,hi,hy,kk,ts,M,rts,hh,w⟩
  have st:=wst i ts M w
  by_cases hlt:i < J.items.length
  ·have e:J.items[i]?=some J.items[i]:=List.getElem?_eq_getElem hlt
   obtain⟨go,yl⟩:=ok.go i _ H M e kk hh st
   refine .inr ⟨go,by lia,fun v H' y=>?_⟩
   obtain⟨k2,h2,r2⟩:=yl v H' y
   have kk2:=kk.trans k2
   refine bt.br J.items[i] v _ M _ H' _ _ r2 (b5A ix (hr0.kp (k1.trans kk2))) h2 (turn i _ ts M e w) fun ρ3 M3 σ3 H3 k3 hr3 hh3 q3=>⟨ρ3,M3,_,q3,hr3,hh3,fun b M4 H4 k4 h4 q4=>?_⟩
   have kk4:=kk2.trans (k3.trans k4)
   dsimp only at q4⊢
   cases b with
   | true =>
     rw[if_pos rfl] at q4⊢
     refine⟨ρ3,M4,_,q4,hr3.kp k4,h4,fun t5 v5 M5 H5 k5 h5 r5 q5=>⟨_,Nat.sub_lt_sub_left hlt (Nat.lt_succ_self i),rfl,hlt,?_,kk4.trans k5,ts++[t5],M5,?_,h5,q5⟩⟩
     ·rw[List.length_append,List.length_singleton];lia
     ·exact (Reps.kp (k2.trans (k3.trans (k4.trans k5))) _ _ rts).append (.cons r5 .nil)
   | false =>
     rw[if_neg Bool.false_ne_true] at q4⊢
     exact⟨_,Nat.sub_lt_sub_left hlt (Nat.lt_succ_self i),rfl,hlt,by lia,kk4,ts,M4,Reps.kp (k2.trans (k3.trans k4)) _ _ rts,h4,q4⟩
  ·have e:i=J.items.length:=by lia
   subst e
   refine .inl ⟨ok.stop H M kk hh st,by lia,fun p hp=>?_⟩
   exact en _ _ _ _ (k1.trans (kk.trans (Kp.new hp))) (hh.newL hp rts) a2j (fin ts M w p (hh.free hp))⟩
theorem a4K (hc:X.calm=true) (hi:HI X tg iter wi) (S:BlkScope X N' ix scope) (bt:BTg X.K ix g2 g3) (hg:∀ C s H fp pins,PG (blk X N' scope C s H fp pins) tg g2)
  (ht:∀ C s H fp pins,HTs (blk X N' scope C s H fp pins) ifs tt) (he:∀ C s H fp pins,HE (blk X N' scope C s H fp pins) elt te)
  (hs:∀ x,foldedSetIterable iter X.env x=pure x:=by intro _;rfl) :
  HE X (.ListComp elt [⟨tg,iter,ifs,0⟩] scope pos) (b1F wi ix g3 tt te):=fun ρ0 M0 Q h =>
 (b8h (tt:=dTx X.K tt) (te:=dEx X.K te) hc (hi.d (ρ:=ρ0)) S bt.own hg (fun C s H fp pins=>(ht C s H fp pins).dx) (fun C s H fp pins=>(he C s H fp pins).dx) hs).imp fun σ0 H0 Q2 bb=>b2k (X:=X) (N':=N') bt ρ0 M0 Q h σ0 H0 Q2 bb
theorem b6P {i:Nat} {x:Str} {pos' spos:Pos} (hc:X.calm=true) (hi:HI X tg iter wi) (S:BlkScope X N' ix scope) (bt:BTg X.K ix g2 g3) (hg:∀ C s H fp pins,PG (blk X N' scope C s H fp pins) tg g2)
  (ht:∀ C s H fp pins,HTs (blk X N' scope C s H fp pins) ifs tt) (he:∀ C s H fp pins,HE (blk X N' scope C s H fp pins) elt te) (hN:X.N.Nodup) (hi':X.N[i]?=some x:=by rfl) (hx:Loc X.env.scope x:=by first | exact Or.inl rfl | exact Or.inr rfl)
  (hsw:swapsWith (.ListComp elt [⟨tg,iter,ifs,0⟩] scope pos) (some (.Name x pos')) spos.line X.env=pure true:=by rfl)
  (hs:∀ x,foldedSetIterable iter X.env x=pure x:=by intro _;rfl) (hf:X.fn x=true∨X.env.scope.names.lookup x=some .local:=by first | exact .inl rfl | exact .inr rfl | assumption) :
  HS X (.Assign [.Name x pos'] (.ListComp elt [⟨tg,iter,ifs,0⟩] scope pos) spos) (b7u i (b1F wi ix g3 tt te)):=fun D ρ M h =>
 (b8c (tt:=dTx X.K tt) (te:=dEx X.K te) hN hi' hx hc (hi.d (ρ:=ρ)) S bt.own hg (fun C s H fp pins=>(ht C s H fp pins).dx) (fun C s H fp pins=>(he C s H fp pins).dx) hsw hs hf).imp fun D2 σ H ⟨hr,hh,en⟩ =>
  b2k (X:=X) (N':=N') bt ρ M (fun x M1=>D.nx (ρ.set i (some x)) M1) h σ H _ ⟨hr,hh,fun t v M1 H1 k1 h1 r1 q1=>en.nx _ M1 _ H1 k1 ((hr.kp k1).set i r1) h1 q1⟩
noncomputable def a4v (N:List Str) (ts:List T):En:=ts.map some++List.replicate (N.length - ts.length) none
theorem b3M {K:PySem.W.Frag} {H:Hp} {N:List Str} {vs:List V} {ts:List T} (r:Reps K H vs ts):RhoR K (start N vs) H (a4v N ts):=by
 have hl:=r.length
 refine⟨by unfold start a4v;simp [hl],fun i t e=>?_⟩
 unfold a4v at e
 unfold start
 by_cases hi:i < ts.length
 ·rw[List.getElem?_append_left (by simpa using hi),List.getElem?_map] at e
  cases q:ts[i]? with
  | none=>rw[q] at e;cases e
  | some u =>
    rw[q] at e
    cases e
    obtain⟨v,a,b⟩:=r.get q
    refine⟨v,?_,b⟩
    rw[List.getElem?_append_left (by simpa [hl] using hi),List.getElem?_map,a]
    rfl
 ·rw[List.getElem?_append_right (by simpa using hi),List.getElem?_replicate] at e
  split at e<;>cases e
noncomputable def rt3 (M:MH) (Q:VK3):VK3:=fun t M'=>∃ M0,Sub M0 M'∧Q t M0
end
section
variable {P:Program} {w:World} {K:PySem.W.Frag} {mg:Str→Option Value} {base:Heap}
theorem Fun.fnk {x qual:Str} {st:Stmt} {f:Addr} {fd:FuncData} {N ps:List Str} {n:Nat} {sp:Sp3} (F:Fun K x qual st f fd) (S:FnScope N ps (a0i st)) (len:∀ ts M Q,sp ts M Q→ts.length=ps.length)
  (hbody:∃ t:TS3,(∀ (cdv:Value) (A:Around) (outer:List Env) (s:Shared) (H:Hp) (E:XK),Room n (A.deeper (envOfC qual (a0i st) s.heap.objs.size f cdv)) →
   HSs (cxOf CX0 P w K mg base N qual (a0i st) f cdv A outer s H E).nox (a4r st) t) ∧
   ∀ ts M Q,sp ts M Q→t { nx:=fun _ M'=>rt3 M Q .non M',rt:=rt3 M Q } (a4v N ts) M):FnOk P w K mg base CX0 (n+1) f fd ps (dSp K sp):=by
 obtain⟨t,hbody,rd⟩:=hbody
 refine F.ok S (fun vs H Q E ⟨ts,M,Q3,r,_,q,_⟩=>by rw[r.length];exact len _ _ _ q) (fun cdv A outer s H vs Q E hr ⟨ts,M,Q3,r,hh,q,en⟩=>?_)
 refine⟨_,hbody cdv A outer s H E hr _ _ _ (rd ts M Q3 q),b3M r,hh,⟨?_,?_,fun _ _ _ _ _ _ _ z=>z.elim,fun _ _ _ _ _ _ _ z=>z.elim⟩⟩
 ·rintro ρ' M' σ' H' k hr' hh' ⟨M0,hs,q'⟩
  exact en .non .non M0 H' k (hh'.sub hs) a6W q'
 ·rintro t' v' M' H' k hh' r' ⟨M0,hs,q'⟩
  exact en t' v' M0 H' k (hh'.sub hs) r' q'
theorem Fun.dfn {x qual:Str} {st:Stmt} {f:Addr} {fd:FuncData} {N ps:List Str} {n:Nat} {sp:Sp3} (F:Fun K x qual st f fd) (hm:mg x=some (.ref f)) (hb:a0M K fd ps []) (S:FnScope N ps (a0i st)) (len:∀ ts M Q,sp ts M Q→ts.length=ps.length)
  (hbody:∃ t:TS3,(∀ (cdv:Value) (A:Around) (outer:List Env) (s:Shared) (H:Hp) (E:XK),Room n (A.deeper (envOfC qual (a0i st) s.heap.objs.size f cdv)) →
   HSs (cxOf CX0 P w K mg base N qual (a0i st) f cdv A outer s H E).nox (a4r st) t) ∧
   ∀ ts M Q,sp ts M Q→t { nx:=fun _ M'=>rt3 M Q .non M',rt:=rt3 M Q } (a4v N ts) M):Df P w K mg base (n+1) x ps sp :=
 ⟨f,fd,F.fnk S len hbody,hm,F.kp,hb⟩
end
theorem b6f {l:PySem.W.OpenLaw} {k:Nat} {q:Program} {loose:List Str} {XP:(Str→Option Value)→Heap→Prop} {YP:World→Heap→Prop} {d:DefRec} {K:Params→PySem.W.Frag} {sp:Sp3}
  (hn:l.most=some 63) (hdf:d.params.defaults=[]) (hr:Room k callerA) (hY:∀ (w:World) (h:Heap),YP w h→(K w.params).In h)
  (hs:∀ (ns:List Int) M Q,ns.length≤63→Q (.bl true) M→sp [.rd (ns.map .int)] M Q)
  (F:∀ (w:World) (mg:Str→Option Value) (fa:Addr) (h:Heap),(K w.params).In h→h.Ns mainGlobals mg→mg d.name=some (.ref fa) →
   ∃ fd:FuncData,(∀ (s:Shared) (u:Value),BindsTo s fd ⟨[u],[]⟩ [("script",u)])∧∀ base:Heap,(K w.params).In base→base.Ns mainGlobals mg→FnOk l.prog w (K w.params) mg base CX0 k fa fd ["script"] (dSp (K w.params) sp)) :
  PySem.W.WalkO q loose XP YP l.row.toRowW d [] (fun f vs=>PySem.call f vs):=by
 refine L2.b7s (n:=63) (k:=k) (x:="script") (CX:=fun _=>CX0) (sp:=fun w=>dSp (K w.params) sp) hn (by decide) hdf hr hY F (fun w H a ns hl hO hS=>?_) fun _ _ _ _ _ z=>z
 have fz:FzL (K w.params) H a (ns.map V.int):=by
  rcases hS with (h | ⟨o,h⟩) | h
  ·rcases hO a with z | ⟨ob,xs,z⟩
   ·rw[h] at z;cases z
   ·rw[h] at z;cases z
  ·exact .inl ⟨o,h⟩
  ·exact .inr h
 refine⟨[.rd (ns.map .int)],fun _=>none,fun t _=>t=.bl true,.cons ?_ .nil,(fun _ _ z=>by cases z),hs ns _ (fun t _=>t=.bl true) hl rfl,fun t v M' H' _ _ r e=>?_⟩
 ·unfold Rep
  exact⟨a,_,rfl,fz,Reps.of_ints ns⟩
 ·subst e
  exact a3D r
theorem a6N:∀ {xs:List V} {us:List Value},xs.length=us.length→(∀ (j:Nat) x,xs[j]?=some x→∃ u,us[j]?=some u∧RelV x u)→Vals xs us
 | [],[],_,_=>.nil
 | [],_ :: _,h,_=>by simp at h
 | _ :: _,[],h,_=>by simp at h
 | x :: xs,u :: us,h,g=>by
   refine .cons ?_ (a6N (by simpa using h) fun j y e=>?_)
   ·obtain⟨w,e,r⟩:=g 0 x rfl
    have:u=w:=by simpa using e
    subst this;exact r
   ·obtain⟨w,e',r⟩:=g (j+1) y (by simpa using e)
    exact⟨w,by simpa using e',r⟩
noncomputable def a4G (lo:Int) (n:Nat):List V:=(List.range n).map fun i=>V.int (lo+(i:Nat))
theorem b0U {K:PySem.W.Frag} {H:Hp} (lo:Int) (n:Nat):Reps K H (a4G lo n) (a1A lo n):=by
 have e1:a4G lo n=((List.range n).map fun i=>lo+((i:Nat):Int)).map V.int:=by unfold a4G;rw[List.map_map];rfl
 have e2:a1A lo n=((List.range n).map fun i=>lo+((i:Nat):Int)).map T.int:=by unfold a1A;rw[List.map_map];rfl
 rw[e1,e2];exact Reps.of_ints _
section
variable {X:Cx} {a b e:Expr} {es:List Expr} {ta te:TE3} {t:TA3} {pos:Pos}
noncomputable def b6j (M:MH) (x:T):Prop:=match x with
 | .adr p=>(match M p with | some (.lst _)=>True | _=>False)
 | _=>False
noncomputable abbrev RM3:=T→List T→MH→VK3→Prop
noncomputable def dM (K:PySem.W.Frag) (r:RM3):V→List V→Hp→VK→Prop:=fun v vs H Q2=>∃ x xs M Q,Rep K H v x∧Reps K H vs xs∧HR K H M∧r x xs M Q∧EndE K H Q Q2
noncomputable def MtR3 (X:Cx) (id:String) (r:RM3):Prop:=MtR X id (dM X.K r)
noncomputable def tLM3 (r:RM3) (to:TE3) (t:TA3):TE3:=fun ρ M Q=>to ρ M fun x M1=>b6j M1 x∧t ρ M1 fun xs M2=>r x xs M2 Q
theorem b2a {K:PySem.W.Frag} {H:Hp} {M:MH} {x:T} {v:V} (hh:HR K H M) (r:Rep K H v x) (h:b6j M x):tyV K "list" v H:=by
 unfold b6j at h
 split at h
 ·rename_i p
  split at h
  ·rename_i ts e
   obtain⟨xs,g1,_⟩:=hh _ _ e
   obtain rfl:=a0L r
   exact .inl ⟨rfl,xs,SqL.of g1⟩
  ·exact h.elim
 ·exact h.elim
theorem h_lm {o:Expr} {to:TE3} {name:Str} {apos cpos:Pos} {id:String} {r:RM3} (slot:Slot "list" name id) (hty:typeOf (.builtin id)=pure (.type "method_descriptor")) (hm:MtR3 X id r) (ho:HE X o to) (ha:HA X (e :: es) t)
  (hbase:attributeBase o name X.env (eval o X.env)=eval o X.env:=by rfl)
  (hfew:((backTo cpos (starEach (e :: es) X.env)).all (fun x=>!x.1) && (backToKw cpos (keywordEach [] X.env)).all (fun x=>x.1.isSome)
   && decide ((e :: es).length+([]:List Keyword).length+(if ([]:List Keyword).isEmpty then 0 else 1) < 30))=true:=by rfl)
  (hline:(apos.endLine == cpos.line)=true:=by rfl) (hs:starEach (e :: es) X.env=(false,eval e X.env) :: starEach es X.env:=by rfl) (hplain:(backTo cpos (starEach es X.env)).any (·.1)=false:=by rfl) :
  HE X (.Call (.Attribute o name apos) (e :: es) [] cpos) (tLM3 r to t):=fun ρ M Q h =>
 (c1x PySem.F.plainAttrs_list slot hty hm (ho.d (ρ:=ρ)) (ha.d (ρ:=ρ)) hbase hfew hline hs hplain).imp fun σ H Q2 ⟨hr,hh,en⟩=>⟨M,_,h,hr,hh,fun x v M1 H1 k1 h1 r1 q1=>⟨b2a h1 r1 q1.1,M1,_,q1.2,hr.kp k1,h1,fun ts vs M2 H2 k2 h2 r2 q2 =>
  ⟨x,ts,M2,Q,Rep.kp k2 _ _ r1,r2,h2,q2,en.kp (k1.trans k2)⟩⟩⟩
noncomputable def b5E:RM3:=fun x xs M Q=>match x,xs with
 | .adr p,[y]=>(match M p with | some (.lst ts)=>ts.length < sizeLine∧Q .non (updM M p (.lst (ts++[y]))) | _=>False)
 | _,_=>False
theorem b2T:MtR3 X "list.append" b5E:=by
 intro pins s σ H v vs u us Q2 I rv rvs h
 obtain⟨x,xs,M,Q,r1,r2,hh,q,en⟩:=h
 unfold b5E at q
 split at q
 ·rename_i p y
  split at q
  ·rename_i ts e0
   obtain⟨ys,g1,g2⟩:=hh _ _ e0
   obtain rfl:=a0L r1
   obtain⟨w,rfl,rw'⟩:=a2m r2
   exact b4p pins s σ H _ _ u us Q2 I rv rvs ⟨_,ys,w,rfl,rfl,g1,by rw[g2.length];exact q.1,en _ _ _ _ (Kp.lst g1) (hh.setL g1 (g2.append (.cons rw' .nil))) a6W q.2⟩
  ·exact q.elim
 ·exact q.elim
noncomputable def a6D:List T→Option (List Int)
 | []=>some []
 | .int i :: ts=>(a6D ts).map (i :: ·)
 | _ :: _=>none
theorem a7j:∀ (ns:List Int),a6D (ns.map T.int)=some ns
 | []=>rfl
 | n :: ns=>by show (a6D (ns.map T.int)).map (n :: ·)=_;rw[a7j ns];rfl
theorem a5b:∀ {ts:List T} {ns:List Int},a6D ts=some ns→ts=ns.map T.int
 | [],ns,e=>by unfold a6D at e;cases e;rfl
 | t :: ts,ns,e=>by
   cases t with
   | int i =>
     unfold a6D at e
     cases q:a6D ts with
     | none=>rw[q] at e;cases e
     | some cs=>rw[q] at e;cases e;rw[a5b q];rfl
   | _=>unfold a6D at e;cases e
noncomputable def a8u:RM3:=fun x xs M Q=>match x,xs with
 | .adr p,[.int k]=>(match M p with
   | some (.lst ts)=>(match a6D ts with | some ns=>k∈ns∧Q (.int (ns.idxOf k)) M | none=>False)
   | _=>False)
 | _,_=>False
theorem b4q:MtR3 X "list.index" a8u:=by
 intro pins s σ H v vs u us Q2 I rv rvs h
 obtain⟨x,xs,M,Q,r1,r2,hh,q,en⟩:=h
 unfold a8u at q
 split at q
 ·rename_i p k
  split at q
  ·rename_i ts e0
   obtain⟨ys,g1,g2⟩:=hh _ _ e0
   obtain rfl:=a0L r1
   obtain⟨w,rfl,rw'⟩:=a2m r2
   obtain rfl:=a0w rw'
   split at q
   ·rename_i ns en'
    have et:=a5b en'
    subst et
    obtain rfl:=g2.ints
    cases rv
    obtain⟨w',rfl,tk,rfl⟩:=a5o rvs
    obtain⟨its,r',pl,hz⟩:=I.list (SqL.of g1)
    have hl:=r'.length
    rw[List.length_map] at hl hz
    obtain⟨o,n,eo,ec,edd,ed⟩:=id pl
    obtain⟨cls,dd,data,sl⟩:=o
    simp only at ec edd ed
    subst ec edd ed
    have hk:ns.idxOf k < ns.length:=List.idxOf_lt_length_iff.mpr q.1
    have item:∀ (j:Nat) (hj:j < its.toArray.size),∃ tk',its.toArray[j]=Value.int (ns[j]'(by rw[List.size_toArray,← hl] at hj;exact hj)) tk':=fun j hj=>by
     have hj':j < ns.length:=by rw[List.size_toArray,← hl] at hj;exact hj
     obtain⟨w2,e2,tk',rfl⟩:=r'.get (i:=j) (x:=V.int ns[j]) (by rw[List.getElem?_map,List.getElem?_eq_getElem hj']<;>rfl)
     have:its[j]?=some its.toArray[j]:=by rw[List.getElem?_eq_getElem (by rw[List.size_toArray] at hj;exact hj)]<;>simp
     rw[e2] at this
     exact⟨tk',(Option.some.inj this).symm⟩
    let ee:Value→Bool:=fun v=>match v with | .int i _=>i == k | _=>false
    have hsz:=sizeLine_eq
    refine call_meets PySem.F.slot_list_index ⟨_,eo,rfl⟩ PySem.F.entry_list_index (PySem.F.args_list_index_2 _ _)
     (SeqAt.list_indexAt p its.toArray n none sl (.int k tk) ee (ns.idxOf k) (by rw[List.size_toArray,← hl];exact hk) (by lia) ?_ ?_) ⟨eo,fun y hy=>?_,?_⟩
    ·obtain⟨tk',e⟩:=item (ns.idxOf k) (by rw[List.size_toArray,← hl];exact hk)
     rw[e]
     show (ns[ns.idxOf k] == k)=true
     simp
    ·intro m hm hlt
     obtain⟨tk',e⟩:=item m hm
     rw[e]
     show (ns[m]'_ == k)=false
     have:=List.not_of_lt_findIdx (p:=(· == k)) (xs:=ns) (i:=m) (by simpa [List.idxOf] using hlt)
     simpa using this
    ·obtain⟨j,hj,rfl⟩:=Array.getElem_of_mem hy
     obtain⟨tk',e⟩:=item j hj
     rw[e]
     exact SeqAt.EqAt.int_int _ _ _ _
    ·exact⟨.int (ns.idxOf k),H,I.tok _,⟨_,rfl⟩,en _ _ M H Kp.refl hh a0P q.2⟩
   ·exact q.elim
  ·exact q.elim
 ·exact q.elim
theorem a5c {o:Expr} {to:TE3} {apos cpos:Pos} (ho:HE X o to) (ha:HA X (e :: es) t)
  (hbase:attributeBase o "append" X.env (eval o X.env)=eval o X.env:=by rfl)
  (hfew:((backTo cpos (starEach (e :: es) X.env)).all (fun x=>!x.1) && (backToKw cpos (keywordEach [] X.env)).all (fun x=>x.1.isSome)
   && decide ((e :: es).length+([]:List Keyword).length+(if ([]:List Keyword).isEmpty then 0 else 1) < 30))=true:=by rfl)
  (hline:(apos.endLine == cpos.line)=true:=by rfl) (hs:starEach (e :: es) X.env=(false,eval e X.env) :: starEach es X.env:=by rfl) (hplain:(backTo cpos (starEach es X.env)).any (·.1)=false:=by rfl) :
  HE X (.Call (.Attribute o "append" apos) (e :: es) [] cpos) (tLM3 b5E to t):=h_lm PySem.F.slot_list_append PySem.F.type_list_append b2T ho ha hbase hfew hline hs hplain
end
end L2
namespace LM
noncomputable def LetOK (n l:Int):Prop:=1≤(l.natAbs:Int)∧(l.natAbs:Int) < n
noncomputable def WordOK (n:Int) (w:List Int):Prop:=∀ l∈w,LetOK n l
noncomputable def a5O (n l:Int):Bool:=decide (1≤l.natAbs) && decide ((l.natAbs:Int) < n)
noncomputable def isPl (n:Int) (w:List Int):Bool:=decide (1≤n) && decide (n≤6) && decide (w.length≤16) && w.all (a5O n)
noncomputable def PlOK (n:Int) (w:List Int):Prop:=1≤n∧n≤6∧w.length≤16∧WordOK n w
theorem a3h {n l:Int}:a5O n l=true↔LetOK n l:=by
 unfold a5O LetOK
 simp only[Bool.and_eq_true,decide_eq_true_eq]
 lia
theorem PlOK.is {n:Int} {w:List Int} (h:PlOK n w):isPl n w=true:=by
 obtain⟨h1,h2,h3,h4⟩:=h
 unfold isPl
 simp only[Bool.and_eq_true,decide_eq_true_eq,List.all_eq_true]
 exact⟨⟨⟨h1,h2⟩,h3⟩,fun l hl=>a3h.mpr (h4 l hl)⟩
theorem WordOK.nil {n:Int}:WordOK n []:=fun _ z=>nomatch z
theorem WordOK.append {n:Int} {u v:List Int} (h:WordOK n u) (g:WordOK n v):WordOK n (u++v):=fun l hl=>(List.mem_append.mp hl).elim (h l) (g l)
theorem a1F {α β:Type} (f:α→β) {L:List α} {i:Nat} {x:α} (h:L[i]?=some x):(L.take i).map f++[f x]=(L.take (i+1)).map f:=by
 rw[List.take_add_one,h];simp
theorem a0N {α β:Type} {f:α→β} {L:List α} {i:Nat} {y:β} (h:(L.map f)[i]?=some y):∃ x,L[i]?=some x∧f x=y:=by
 rw[List.getElem?_map] at h
 cases q:L[i]? with
 | none=>rw[q] at h;cases h
 | some x=>rw[q] at h;exact⟨x,rfl,Option.some.inj h⟩
noncomputable def a1l (st:List Int) (l:Int):List Int:=(st.set (l.natAbs - 1) (st.getD l.natAbs 0)).set l.natAbs (st.getD (l.natAbs - 1) 0)
noncomputable def a0j (n:Int):List Int:=(List.range n.toNat).map fun i=>((i:Nat):Int)
noncomputable def a1x (n:Int) (w:List Int):List Int:=w.foldl a1l (a0j n)
noncomputable def a0D (n:Int) (w:List Int):List Int:=(a0j n).map fun s=>(((a1x n w).idxOf s:Nat):Int)
noncomputable def a0T (p l:Int):Int:=if (l.natAbs:Int)=p then p - 1 else if (l.natAbs:Int)=p+1 then p+1 else p
theorem a0l (n:Int):(a0j n).length=n.toNat:=by unfold a0j;simp
theorem a2x (st:List Int) (l:Int):(a1l st l).length=st.length:=by unfold a1l;simp
theorem a1h (w:List Int):∀ st:List Int,(w.foldl a1l st).length=st.length:=by
 induction w with
 | nil=>intro st;rfl
 | cons l w ih=>intro st;rw[List.foldl_cons,ih,a2x]
theorem a1H (n:Int) (w:List Int):(a1x n w).length=n.toNat:=by unfold a1x;rw[a1h,a0l]
theorem b0K {n l:Int} {w:List Int} {i:Nat} (h:w[i]?=some l):a1x n (w.take (i+1))=a1l (a1x n (w.take i)) l:=by
 unfold a1x
 rw[List.take_add_one,h,List.foldl_append]
 rfl
theorem a0E {n s:Int} (h:s∈a0j n):0≤s∧s < n:=by
 unfold a0j at h
 obtain⟨i,hi,rfl⟩:=List.mem_map.mp h
 have:=List.mem_range.mp hi
 lia
theorem b2c (l:List Int) (i j:Nat) (x d:Int):(l.set i x).getD j d=if i=j∧j < l.length then x else l.getD j d:=by
 rw[List.getD_eq_getElem?_getD,List.getElem?_set]
 by_cases h:i=j
 ·subst h
  by_cases h2:i < l.length
  ·rw[if_pos rfl,if_pos h2,if_pos ⟨rfl,h2⟩];rfl
  ·rw[if_pos rfl,if_neg h2,if_neg (fun q=>h2 q.2)]
   rw[List.getD_eq_getElem?_getD,List.getElem?_eq_none (by lia)]
 ·rw[if_neg h,if_neg (fun q=>h q.1),List.getD_eq_getElem?_getD]
theorem b3x (st:List Int) (l:Int) (h:LetOK (st.length:Int) l) (k:Nat) :
  (a1l st l).getD k 0=if k=l.natAbs then st.getD (l.natAbs - 1) 0 else if k=l.natAbs - 1 then st.getD l.natAbs 0 else st.getD k 0:=by
 unfold LetOK at h
 unfold a1l
 rw[b2c,b2c,List.length_set]
 by_cases h1:k=l.natAbs
 ·subst h1
  rw[if_pos ⟨rfl,by lia⟩,if_pos rfl]
 ·rw[if_neg (fun q=>h1 q.1.symm),if_neg h1]
  by_cases h2:k=l.natAbs - 1
  ·subst h2
   rw[if_pos ⟨rfl,by lia⟩,if_pos rfl]
  ·rw[if_neg (fun q=>h2 q.1.symm),if_neg h2]
theorem b1r (st:List Int) (l:Int) (h:LetOK (st.length:Int) l) (p s:Int) (h0:0≤p) (h1:p < st.length) (e:st.getD p.toNat 0=s) :
  0≤a0T p l∧a0T p l < st.length∧(a1l st l).getD (a0T p l).toNat 0=s:=by
 have hl:=h
 unfold LetOK at hl
 rw[b3x st l h]
 unfold a0T
 by_cases h2:(l.natAbs:Int)=p
 ·rw[if_pos h2]
  refine⟨by lia,by lia,?_⟩
  have e1:(p - 1).toNat=l.natAbs - 1:=by lia
  have e2:p.toNat=l.natAbs:=by lia
  rw[e1,if_neg (by lia),if_pos rfl,← e2];exact e
 ·rw[if_neg h2]
  by_cases h3:(l.natAbs:Int)=p+1
  ·rw[if_pos h3]
   refine⟨by lia,by lia,?_⟩
   have e1:(p+1).toNat=l.natAbs:=by lia
   have e2:p.toNat=l.natAbs - 1:=by lia
   rw[e1,if_pos rfl,← e2];exact e
  ·rw[if_neg h3]
   refine⟨h0,h1,?_⟩
   rw[if_neg (by lia),if_neg (by lia)];exact e
theorem b3e (w:List Int):∀ (st:List Int) (p s:Int),WordOK (st.length:Int) w→0≤p→p < st.length→st.getD p.toNat 0=s →
  0≤w.foldl a0T p∧w.foldl a0T p < st.length∧(w.foldl a1l st).getD (w.foldl a0T p).toNat 0=s:=by
 induction w with
 | nil=>intro st p s _ h0 h1 e;exact⟨h0,h1,e⟩
 | cons l w ih =>
   intro st p s hw h0 h1 e
   obtain⟨a,b,c⟩:=b1r st l (hw l List.mem_cons_self) p s h0 h1 e
   rw[List.foldl_cons,List.foldl_cons]
   have:=ih (a1l st l) (a0T p l) s (by rw[a2x];exact fun x hx=>hw x (List.mem_cons_of_mem _ hx)) a (by rw[a2x];exact b) c
   rw[a2x] at this
   exact this
theorem a7O (n:Int) (s:Int) (h0:0≤s) (h1:s < n):(a0j n).getD s.toNat 0=s:=by
 unfold a0j
 rw[List.getD_eq_getElem?_getD,List.getElem?_map,List.getElem?_range (by lia)]
 show ((s.toNat:Nat):Int)=s
 lia
theorem a6r (n:Int) (w:List Int) (hw:WordOK n w) (s:Int) (h0:0≤s) (h1:s < n) :
  0≤w.foldl a0T s∧w.foldl a0T s < n∧(a1x n w).getD (w.foldl a0T s).toNat 0=s:=by
 have hl:((a0j n).length:Int)=n:=by rw[a0l];lia
 have:=b3e w (a0j n) s s (by rw[hl];exact hw) h0 (by rw[hl];exact h1) (a7O n s h0 h1)
 rw[hl] at this
 exact this
theorem b6p {l:List Int} {k:Nat} (h:k < l.length):l.getD k 0∈l:=by
 rw[List.getD_eq_getElem?_getD,List.getElem?_eq_getElem h]
 exact List.getElem_mem h
theorem b3z (n:Int) (w:List Int) (hw:WordOK n w) (s:Int) (h0:0≤s) (h1:s < n):s∈a1x n w:=by
 obtain⟨a,b,c⟩:=a6r n w hw s h0 h1
 have:=b6p (l:=a1x n w) (k:=(w.foldl a0T s).toNat) (by rw[a1H];lia)
 rw[c] at this;exact this
theorem a1B (n:Int):(a0j n).Nodup:=by
 unfold a0j
 refine List.Pairwise.map _ (fun (a b:Nat) (h:a≠b)=>?_) List.nodup_range
 show (a:Int)≠(b:Int)
 lia
theorem a5Z (st:List Int) (l:Int) (h:LetOK (st.length:Int) l):(a1l st l).Perm st:=by
 unfold LetOK at h
 unfold a1l
 have ha:l.natAbs - 1 < st.length:=by lia
 have hb:l.natAbs < st.length:=by lia
 have e1:st.getD l.natAbs 0=st[l.natAbs]:=by rw[List.getD_eq_getElem?_getD,List.getElem?_eq_getElem hb];rfl
 have e2:st.getD (l.natAbs - 1) 0=st[l.natAbs - 1]:=by rw[List.getD_eq_getElem?_getD,List.getElem?_eq_getElem ha];rfl
 rw[e1,e2]
 exact List.set_set_perm ha hb
theorem a4L (w:List Int):∀ st:List Int,WordOK (st.length:Int) w→(w.foldl a1l st).Perm st:=by
 induction w with
 | nil=>intro st _;exact .refl _
 | cons l w ih =>
   intro st hw
   rw[List.foldl_cons]
   exact (ih _ (by rw[a2x];exact fun x hx=>hw x (List.mem_cons_of_mem _ hx))).trans (a5Z st l (hw l List.mem_cons_self))
theorem a3I (n:Int) (w:List Int) (h0:0≤n) (hw:WordOK n w):(a1x n w).Perm (a0j n):=by
 refine a4L w (a0j n) ?_
 have e:((n.toNat:Nat):Int)=n:=by lia
 rw[a0l,e];exact hw
theorem a7D {l:List Int} (nd:l.Nodup) {k:Nat} (hk:k < l.length) (x:Int) (e:l.getD k 0=x):l.idxOf x=k:=by
 rw[List.getD_eq_getElem?_getD,List.getElem?_eq_getElem hk] at e
 have e':l[k]=x:=e
 subst e'
 exact nd.idxOf_getElem k hk
theorem b3d (n:Int) (w:List Int) (hw:WordOK n w) (s:Int) (h0:0≤s) (h1:s < n):(((a1x n w).idxOf s:Nat):Int)=w.foldl a0T s:=by
 obtain⟨a,b,c⟩:=a6r n w hw s h0 h1
 have nd:(a1x n w).Nodup:=(a3I n w (by lia) hw).nodup_iff.mpr (a1B n)
 rw[a7D nd (k:=(w.foldl a0T s).toNat) (by rw[a1H];lia) s c]
 lia
theorem a5K (n:Int) (w:List Int):(a0D n w).length=n.toNat:=by unfold a0D;rw[List.length_map,a0l]
noncomputable def b7p (w:List Int):List Int:=w.reverse.map fun l=>-l
noncomputable def a1K (n l:Int):Int:=if l < 0 then -(n+l) else n - l
theorem LetOK.neg {n l:Int} (h:LetOK n l):LetOK n (-l):=by unfold LetOK at *;lia
theorem LetOK.flip {n l:Int} (h:LetOK n l):LetOK n (a1K n l):=by unfold LetOK a1K at *;split<;>lia
theorem WordOK.map {n:Int} {w:List Int} {f:Int→Int} (hf:∀ l,LetOK n l→LetOK n (f l)) (h:WordOK n w):WordOK n (w.map f):=fun l hl=>by
 obtain⟨k,hk,rfl⟩:=List.mem_map.mp hl
 exact hf k (h k hk)
theorem PlOK.map {n:Int} {w:List Int} {f:Int→Int} (hf:∀ l,LetOK n l→LetOK n (f l)) (h:PlOK n w):PlOK n (w.map f):=⟨h.1,h.2.1,by rw[List.length_map];exact h.2.2.1,h.2.2.2.map hf⟩
theorem b1s (p l:Int):a0T p (-l)=a0T p l:=by unfold a0T;rw[Int.natAbs_neg]
theorem a8N (p l:Int):a0T (a0T p l) l=p:=by unfold a0T;split<;>split<;>(try split)<;>lia
theorem a8M {n p l:Int} (h:LetOK n l) (h0:0≤p) (h1:p < n):0≤a0T p l∧a0T p l < n:=by
 unfold LetOK at h;unfold a0T;split<;>(try split)<;>lia
noncomputable def folL (w:List Int) (p:Int):Int:=w.foldl a0T p
theorem b1t (u v:List Int) (p:Int):folL (u++v) p=folL v (folL u p):=by unfold folL;rw[List.foldl_append]
theorem b3f {n:Int} {w:List Int}:∀ {p:Int},WordOK n w→0≤p→p < n→0≤folL w p∧folL w p < n:=by
 induction w with
 | nil=>intro p _ h0 h1;exact⟨h0,h1⟩
 | cons l w ih =>
   intro p hw h0 h1
   have:=a8M (hw l (List.mem_cons_self ..)) h0 h1
   exact ih (fun k hk=>hw k (List.mem_cons_of_mem _ hk)) this.1 this.2
theorem b6s (w:List Int):∀ p,folL (w.map fun l=>-l) p=folL w p:=by
 unfold folL
 induction w with
 | nil=>intro p;rfl
 | cons l w ih=>intro p;rw[List.map_cons,List.foldl_cons,List.foldl_cons,b1s,ih]
theorem b0d (w:List Int):∀ p,folL w.reverse (folL w p)=p:=by
 induction w with
 | nil=>intro p;rfl
 | cons l w ih =>
   intro p
   rw[List.reverse_cons,b1t]
   show folL [l] (folL w.reverse (folL w (a0T p l)))=p
   rw[ih]
   exact a8N p l
theorem a7Z (w:List Int) (p:Int):folL (b7p w) (folL w p)=p:=by unfold b7p;rw[b6s,b0d]
theorem a1e {n s:Int} (h0:0≤s) (h1:s < n):s∈a0j n:=by
 unfold a0j
 exact List.mem_map.mpr ⟨s.toNat,List.mem_range.mpr (by lia),by lia⟩
theorem a7Q (n:Int) (w:List Int) (hw:WordOK n w):a0D n w=(a0j n).map (folL w):=by
 unfold a0D
 refine List.map_congr_left fun s hs=>?_
 obtain⟨h0,h1⟩:=a0E hs
 exact b3d n w hw s h0 h1
theorem b3g (n l:Int) (h:LetOK n l):a1K n (a1K n l)=l:=by unfold LetOK at h;unfold a1K;split<;>split<;>lia
theorem LetOK.ne {n l:Int} (h:LetOK n l):l≠0:=by unfold LetOK at h;lia
theorem b2I {n p:Int} {w:List Int} (hw:WordOK n w) (h:p∈a0D n w):0≤p∧p < n:=by
 rw[a7Q n w hw] at h
 obtain⟨s,hs,rfl⟩:=List.mem_map.mp h
 obtain⟨h0,h1⟩:=a0E hs
 exact b3f hw h0 h1
end LM
namespace L2
open PySem PySem.Spec PyProof.Rows LM
theorem b0J (x:Str) (N:List Str) (t:T) (ts:List T):a4v (x :: N) (t :: ts)=some t :: a4v N ts:=by
 unfold a4v
 simp only[List.map_cons,List.length_cons,Nat.add_sub_add_right,List.cons_append]
theorem b0I (x:Str) (N:List Str):a4v (x :: N) []=none :: a4v N []:=by
 unfold a4v
 simp only[List.map_nil,List.length_cons,List.length_nil,Nat.sub_zero,List.nil_append,List.replicate_succ]
theorem b2u:a4v [] []=[]:=rfl
theorem b2H (ix:List (Option Nat)) (ρ:En):a8v (none :: ix) ρ=none :: a8v ix ρ:=rfl
theorem b2G (j:Nat) (ix:List (Option Nat)) (ρ:En):a8v (some j :: ix) ρ=(ρ[j]?).join :: a8v ix ρ:=rfl
theorem b3V (ρ:En):a8v [] ρ=[]:=rfl
theorem b4z {α:Type} (a:Option α):(some a).join=a:=rfl
theorem a0h {M:MH} {Q:VK3} {t:T} {M':MH} (h:Q t M'):rt3 M Q t M':=⟨M',Sub.refl,h⟩
theorem c0T {α:Type} (x:α) (xs:List α):atI (x :: xs) 0=some x:=by
 have:=a6m (xs:=x :: xs) (j:=0) (v:=x) rfl
 simpa using this
theorem c1V {α:Type} (x y:α) (xs:List α):atI (x :: y :: xs) 1=some y:=by
 have:=a6m (xs:=x :: y :: xs) (j:=1) (v:=y) rfl
 simpa using this
theorem c1U {α:Type} (x y z:α) (xs:List α):atI (x :: y :: z :: xs) 2=some z:=by
 have:=a6m (xs:=x :: y :: z :: xs) (j:=2) (v:=z) rfl
 simpa using this
theorem c1J (n:Nat):ixN (n+1) 0=some 0:=by
 unfold ixN
 rw[if_pos (by lia),if_pos (by lia)];rfl
theorem a5A {M:MH} {a:Addr} {o u:MO}:updM (updM M a o) a u=updM M a u:=by
 funext b;unfold updM;split<;>rfl
theorem a6L (ns:List Int) (i:Int) (h0:0≤i) (h:i < ns.length):atI (ns.map T.int) i=some (.int (ns.getD i.toNat 0)):=by
 have e:i=((i.toNat:Nat):Int):=by lia
 have hl:i.toNat < ns.length:=by lia
 have:=a6m (xs:=ns.map T.int) (j:=i.toNat) (v:=.int (ns.getD i.toNat 0)) (by
  rw[List.getElem?_map,List.getElem?_eq_getElem hl]
  simp [List.getD,List.getElem?_eq_getElem hl])
 rw[← e] at this
 exact this
theorem b0z (bs:List Bool):a8W (bs.map T.bl)=some bs:=by
 induction bs with
 | nil=>rfl
 | cons b bs ih=>show (a8W (bs.map T.bl)).map (b :: ·)=_;rw[ih];rfl
theorem b0Z (ns:List Int):a1v (ns.map T.int)=true:=by
 induction ns with
 | nil=>rfl
 | cons n ns ih=>show (a0K (.int n) && a1v (ns.map T.int))=true;rw[ih];rfl
theorem b3j (ns:List Int):a4q (ns.map T.int)=0:=by
 induction ns with
 | nil=>rfl
 | cons n ns ih=>show max (depT (.int n)) (a4q (ns.map T.int))=0;rw[ih];rfl
theorem b4O (a b:List Int):eqTs (a.map T.int) (b.map T.int)=decide (a=b):=by
 induction a generalizing b with
 | nil=>cases b<;>simp [eqTs]
 | cons x a ih =>
   cases b with
   | nil=>simp [eqTs]
   | cons y b =>
     show (eqT (.int x) (.int y) && eqTs (a.map T.int) (b.map T.int))=_
     rw[ih]
     have:eqT (.int x) (.int y)=(x == y):=rfl
     rw[this]
     by_cases h1:x=y<;>by_cases h2:a=b<;>simp [h1,h2]
theorem b1u (a b:List T):eqT (.tup a) (.tup b)=eqTs a b:=rfl
theorem a3F (a b:Int):eqT (.int a) (.int b)=decide (a=b):=by
 show (a == b)=_
 by_cases h:a=b<;>simp [h]
theorem b4P (x y:T) (a b:List T):eqTs (x :: a) (y :: b)=(eqT x y && eqTs a b):=rfl
theorem b6v:eqTs [] []=true:=rfl
theorem a1S (x:T) (a:List T):a1v (x :: a)=(a0K x && a1v a):=rfl
theorem b2E:a1v []=true:=rfl
theorem a6X (i:Int):a0K (.int i)=true:=rfl
theorem b5H (i:Bool):a0K (.bl i)=true:=rfl
theorem a5J (i:List T):a0K (.tup i)=a1v i:=rfl
theorem a5S (i:Int):depT (.int i)=0:=rfl
theorem b8W (i:Bool):depT (.bl i)=0:=rfl
theorem b2h (i:List T):depT (.tup i)=a4q i+1:=rfl
theorem a2p (x:T) (a:List T):a4q (x :: a)=max (depT x) (a4q a):=rfl
theorem b4T:a4q []=0:=rfl
theorem a6P {M:MH} {p:Addr} {o:MO} (h:M p=some o):updM M p o=M:=by
 funext b;unfold updM;split
 ·rename_i e;rw[e,h]
 ·rfl
theorem Sub.set {M M':MH} {p:Addr} {o u:MO} (h:Sub (updM M p o) M'):Sub (updM M p u) (updM M' p u):=fun a v e=>by
 by_cases ha:a=p
 ·subst ha;rw[a0f] at e⊢;exact e
 ·rw[a0t ha] at e⊢
  exact h a v (by rw[a0t ha];exact e)
theorem Sub.newr {M M':MH} {r:Addr} {o:MO} (h:Sub M M') (hr:M' r=none):Sub M (updM M' r o):=h.trans (Sub.new hr)
theorem a0y {M:MH} {Q:VK3} {t:T} {M0 M':MH} (h:Q t M0) (s:Sub M0 M'):rt3 M Q t M':=⟨M0,s,h⟩
theorem a7N (n:Nat):a1A 0 n=((List.range n).map fun i=>((i:Nat):Int)).map T.int:=by
 unfold a1A
 rw[List.map_map]
 congr 1
 funext i
 simp
theorem b7I (n:Int):a1A 0 n.toNat=(a0j n).map T.int:=a7N _
theorem a0J (a:Int) (n:Nat):(a1A a n).length=n:=by unfold a1A;simp
theorem Sub.updF {M M':MH} {p:Addr} {o:MO} (h:Sub M M') (hp:M p=none):Sub M (updM M' p o):=fun a v e=>by
 have ha:a≠p:=by rintro rfl;rw[hp] at e;cases e
 rw[a0t ha];exact h a v e
end L2
namespace L2
open PySem PySem.Spec PyProof.Rows
section
variable {prog:Program} {w:World} {A:Around} {E:Value→Shared→Prop} {s:Shared}
end
section
variable {X:Cx}
end
theorem a3g {n i:Nat} {x:T} (h:(a1A 0 n)[i]?=some x):i < n∧x=.int i:=by
 have hl:=(List.getElem?_eq_some_iff.mp h).1
 rw[a0J] at hl
 unfold a1A at h
 rw[List.getElem?_map,List.getElem?_range hl] at h
 have e:=Option.some.inj h
 refine⟨hl,?_⟩
 rw[← e]
 simp
theorem a0Q {n:Nat} (h:n < 10000):n < sizeLine:=Nat.lt_of_le_of_lt (by lia:n≤10000) (by decide)
theorem a0H {n:Nat} (h:n < 10000):n≤sizeLine:=Nat.le_of_lt (a0Q h)
end L2
namespace HT
open PySem PySem.Spec PyProof.Rows
section
variable {prog:Program} {w:World} {A:Around} {E:Value→Shared→Prop} {s:Shared}
theorem getItem_tuple_all {t sl:Addr} {items:Array Value} {vl vu:Value} {lo hi:Option Int} {Q:Value→Shared→Prop} (ht:IsTup s.heap t items) (hs:s.heap.IsSliceOf sl vl vu .none) (pl:IsPart vl lo) (pu:IsPart vu hi)
  (hw:sIx items.size 0 lo=0∧sIx items.size items.size hi=items.size) (h:Q (.ref t) s)
  (hsz:items.size≤sizeLine):wpAny (model prog w) A (getItem (.ref t) (.ref sl)) Q E s:=by
 obtain⟨os,hos,hcs,hds⟩:=id hs
 have hTs:s.TypeIs (.ref sl) "slice":=⟨os,hos,hcs⟩
 unfold getItem
 try with_reducible refine wpAny_holding ?_
 first | refine wpAny_bind (wpAny_pure ?_) | skip
 refine wpAny_bind (wpAny_sequenceKey ht.typeIs (by decide) ?_)
 refine wpAny_bind (wpAny_callSpecial?_slot (name:=Str.ofString "__getitem__") ht.typeIs PyProof.Rows.slot_tuple_getitem
  (wpAny_call_entry PyProof.Rows.slot_tuple_getitem ht.typeIs entry_tuple_getitem ?_ (args_tuple_getitem _ _)))
 show wpAny _ _ (Builtin.Tuple.tupleItemsOf (.ref t) >>= _) _ _ s
 refine wpAny_bind (tupleItemsOf_ ht ?_)
 refine wpAny_bind (wpAny_typeOf hTs ?_)
 rw[if_pos (by decide)]
 refine wpAny_bind (a4w hs pl pu ?_)
 have hyes:(((sIx items.size 0 lo:Nat):Int) == 0 && (1:Int) == 1 && (sIx items.size items.size hi - sIx items.size 0 lo) == items.size)=true:=by
  rw[hw.1,hw.2]
  simp
 show wpAny _ _ (if (((sIx items.size 0 lo:Nat):Int) == 0 && (1:Int) == 1 && (sIx items.size items.size hi - sIx items.size 0 lo) == items.size)=true then _ else _) _ _ s
 rw[if_pos hyes]
 refine wpAny_bind (m:=Builtin.Tuple.tupleIsExact (.ref t)) (wpAny_bind (wpAny_typeOf ht.typeIs (wpAny_pure ?_)))
 rw[if_pos (by decide)]
 refine wpAny_bind (wpAny_rule ?_)
 first
  | exact wpAny_pure ⟨_,rfl,wpAny_pure h⟩
  | exact wpAny_bind (wpAny_pure (wpAny_pure ⟨_,rfl,wpAny_pure h⟩))
end
end HT
namespace L2
open PySem PySem.Spec PyProof.Rows
section
variable {X:Cx}
noncomputable def cutT (xs:List T) (lo hi:Option Int):List T:=(xs.drop (HT.sIx xs.length 0 lo)).take (HT.sIx xs.length xs.length hi - HT.sIx xs.length 0 lo)
noncomputable def c1m (K:PySem.W.Frag):V→Option Int→Option Int→Hp→VK→Prop:=fun x lo hi H Q=>∃ a xs,x=.ref a∧SqT K H a xs ∧
 ∀ p H',SqT K H' p (cutV xs lo hi)→(H'=H∨H p=none∧H'=upd H p (.tup (cutV xs lo hi)))→Q (.ref p) H'
theorem b7z:SlR X (c1m X.K):=by
 intro pins s σ H x v vl vu lo hi sl Q I rx hs pl pu h
 obtain⟨a,xs,rfl,hx,q⟩:=h
 by_cases hw:HT.sIx xs.length 0 lo=0∧HT.sIx xs.length xs.length hi=xs.length
 ·cases rx
  obtain⟨its,r,ht,hz⟩:=I.tuple hx
  have hlen:its.toArray.size=xs.length:=by rw[List.size_toArray];exact r.length.symm
  refine⟨"tuple",_,PyProof.Rows.slot_tuple_getitem.lookup,ht.typeIs,?_⟩
  refine HT.getItem_tuple_all ht hs pl pu (by rw[hlen];exact hw) ?_ (by rw[hlen];exact hz)
  have e:cutV xs lo hi=xs:=by
   unfold cutV
   rw[hw.1,hw.2]
   simp
  exact⟨.ref a,H,I,rfl,q a H (by rw[e];exact hx) (.inl rfl)⟩
 ·exact b9x pins s σ H _ v vl vu lo hi sl Q I rx hs pl pu ⟨a,xs,rfl,hx,hw,fun p hp=>q p _ (SqT.of a0B) (.inr ⟨hp,rfl⟩)⟩
theorem Reps.cut {K:PySem.W.Frag} {H:Hp} {xs:List V} {ts:List T} (r:Reps K H xs ts) (lo hi:Option Int):Reps K H (cutV xs lo hi) (cutT ts lo hi):=by
 unfold cutV cutT
 rw[r.length]
 exact (r.drop _).take _
noncomputable abbrev TO3:=En→MH→(Option Int→MH→Prop)→Prop
noncomputable def HPo (X:Cx) (e:Option Expr) (t:TO3):Prop:=∀ ρ M Q,t ρ M Q→PO X e (fun σ H Q2=>RhoR X.K σ H ρ∧HR X.K H M∧∀ o M' H',Kp X.K H H'→HR X.K H' M'→Q o M'→Q2 o H')
noncomputable def dPo (K:PySem.W.Frag) (ρ:En) (t:TO3):TO:=fun σ H Q2=>∃ M Q,t ρ M Q∧RhoR K σ H ρ∧HR K H M∧∀ o M' H',Kp K H H'→HR K H' M'→Q o M'→Q2 o H'
theorem HPo.d {e:Option Expr} {t:TO3} {ρ:En} (h:HPo X e t):PO X e (dPo X.K ρ t):=fun pins s σ H Q I ⟨M,Q3,q,b⟩=>h ρ M Q3 q pins s σ H Q I b
theorem PO.imp {e:Option Expr} {w w':TO} (h:PO X e w) (f:∀ σ H Q,w' σ H Q→w σ H Q):PO X e w':=fun pins s σ H Q I q=>h pins s σ H Q I (f σ H Q q)
noncomputable def tNo3:TO3:=fun ρ M Q=>Q none M
noncomputable def tPt3 (t:TE3):TO3:=fun ρ M Q=>t ρ M fun x M1=>match x with
 | .int i=>Q (some i) M1
 | _=>False
theorem a1D:HPo X none tNo3:=fun ρ M Q h=>b8g.imp fun σ H Q2 ⟨hr,hh,en⟩=>en _ _ _ Kp.refl hh h
theorem a1f {e:Expr} {t:TE3} (he:HE X e t):HPo X (some e) (tPt3 t):=fun ρ M Q h=>(b8f (he.d (ρ:=ρ))).imp fun σ H Q2 ⟨hr,hh,en⟩ =>
 ⟨M,_,h,hr,hh,fun x v M1 H1 k1 h1 r1 q1=>by
  dsimp only at q1
  split at q1
  ·obtain rfl:=a0w r1
   exact⟨_,rfl,en _ _ _ k1 h1 q1⟩
  ·exact q1.elim⟩
noncomputable def rSlS:V→Option Int→Option Int→Hp→VK→Prop:=fun x lo hi H Q=>∃ z,x=.str z∧z.length≤sizeLine∧Q (.str (Txt.slice z lo hi)) H
theorem b9y:SlR X rSlS:=by
 intro pins s σ H x v vl vu lo hi sl Q I rx hs pl pu h
 obtain⟨z,rfl,hz,q⟩:=h
 obtain⟨t,rfl⟩:=rx
 refine⟨"str",_,F.slot_str_getitem.lookup,typeIs_str _ _ _,?_⟩
 have fin:∀ t' k,EP X pins σ Q (.str (Txt.slice z lo hi) t') { s with toks:=k }:=fun t' k=>⟨.str _,H,I.kept fun b o e=>e,⟨_,rfl⟩,q⟩
 have hl:(Txt.slice z lo hi).length≤sizeLine:=Nat.le_trans (Txt.slice_le z _ _) hz
 cases pl with
 | none=>cases pu with
   | none=>exact wpAny_getItem_str_slice (l:=none) (u:=none) (st:=none) hs rfl (post_val_or_str ⟨hl,fin⟩)
   | int j uj=>exact wpAny_getItem_str_slice (l:=none) (u:=some (j,uj)) (st:=none) hs rfl (post_val_or_str ⟨hl,fin⟩)
 | int i ui=>cases pu with
   | none=>exact wpAny_getItem_str_slice (l:=some (i,ui)) (u:=none) (st:=none) hs rfl (post_val_or_str ⟨hl,fin⟩)
   | int j uj=>exact wpAny_getItem_str_slice (l:=some (i,ui)) (u:=some (j,uj)) (st:=none) hs rfl (post_val_or_str ⟨hl,fin⟩)
noncomputable def tSl3 (te:TE3) (tl th:TO3):TE3:=fun ρ M Q=>te ρ M fun x M1=>tl ρ M1 fun l M2=>th ρ M2 fun u M3=>match x with
 | .tup ts=>Q (.tup (cutT ts l u)) M3
 | .adr p=>(match M3 p with
   | some (.lst ts)=>∀ r,M3 r=none→Q (.adr r) (updM M3 r (.lst (cutT ts l u)))
   | _=>False)
 | .str z=>z.length≤sizeLine∧Q (.str (Txt.slice z l u)) M3
 | _=>False
theorem a0S {e:Expr} {lo hi:Option Expr} {te:TE3} {tl th:TO3} {pos p2:Pos} (he:HE X e te) (hl:HPo X lo tl) (hu:HPo X hi th):HE X (.Subscript e (.Slice lo hi none p2) pos) (tSl3 te tl th):=fun ρ M Q h =>
 (b5N ((b7z.or b7A).or b9y) (he.d (ρ:=ρ)) (hl.d (ρ:=ρ)) (hu.d (ρ:=ρ))).imp fun σ H Q2 ⟨hr,hh,en⟩ =>
  ⟨M,_,h,hr,hh,fun x v M1 H1 k1 h1 r1 q1=>⟨M1,_,q1,hr.kp k1,h1,fun l M2 H2 k2 h2 q2=>⟨M2,_,q2,hr.kp (k1.trans k2),h2,fun u M3 H3 k3 h3 q3=>by
   have r3:=Rep.kp (k2.trans k3) _ _ r1
   have k13:=(k1.trans k2).trans k3
   split at q3
   ·rename_i ts
    obtain⟨a,xs,rfl,g1,g2⟩:=a1g r3
    refine .inl (.inl ⟨a,xs,rfl,g1,fun p H' h' c=>?_⟩)
    rcases c with rfl | ⟨c1,rfl⟩
    ·exact en _ _ _ _ k13 h3 (a2i h' (g2.cut l u)) q3
    ·exact en _ _ _ _ (k13.trans (Kp.new c1)) (h3.keep c1) (a2i h' (Reps.kp (Kp.new c1) _ _ (g2.cut l u))) q3
   ·obtain rfl:=a0L r3
    split at q3
    ·rename_i ts e0
     obtain⟨xs,g1,g2⟩:=h3 _ _ e0
     refine .inl (.inr ⟨_,xs,rfl,SqL.of g1,fun p hp=>?_⟩)
     exact en _ _ _ _ (k13.trans (Kp.new hp)) (h3.newL hp (g2.cut l u)) a2j (q3 p (h3.free hp))
    ·exact q3.elim
   ·obtain rfl:=a2F r3
    exact .inr ⟨_,rfl,q3.1,en _ _ _ _ k13 h3 a6V q3.2⟩
   ·exact q3.elim⟩⟩⟩
theorem b8Z (xs:List T) (k:Int) (h0:0≤k) (h1:k≤xs.length):cutT xs none (some k)=xs.take k.toNat:=by
 unfold cutT
 have e:k=((k.toNat:Nat):Int):=by lia
 rw[e,HT.sIx_nat,HT.sIx_none,List.drop_zero,Nat.sub_zero,Nat.min_eq_left (by lia),Int.toNat_natCast]
theorem b4Y (xs:List T) (k:Int) (h0:0≤k) (h1:k≤xs.length):cutT xs (some k) none=xs.drop k.toNat:=by
 unfold cutT
 have e:k=((k.toNat:Nat):Int):=by lia
 rw[e,HT.sIx_nat,HT.sIx_none,Nat.min_eq_left (by lia),Int.toNat_natCast]
 exact List.take_of_length_le (by rw[List.length_drop];exact Nat.le_refl _)
end
end L2
namespace HT
open PySem PySem.Spec PyProof.Rows
section
variable {prog:Program} {w:World} {A:Around} {E:Value→Shared→Prop} {s:Shared}
end
end HT
namespace L2
open PySem PySem.Spec PyProof.Rows
section
variable {X:Cx}
end
section
variable {X:Cx}
end
section
variable {X:Cx}
end
section
variable {X:Cx}
end
section
variable {X:Cx} {es:List Expr} {e:Expr} {t:TA3}
end
section
variable {X:Cx} {es:List Expr} {e:Expr} {t:TA3}
noncomputable def b7y:List T→Option (List Str)
 | []=>some []
 | .str i :: ts=>(b7y ts).map (i :: ·)
 | _ :: _=>none
theorem a9h:∀ (ns:List Str),b7y (ns.map T.str)=some ns
 | []=>rfl
 | n :: ns=>by show (b7y (ns.map T.str)).map (n :: ·)=_;rw[a9h ns];rfl
end
section
variable {prog:Program} {w:World} {A:Around} {E:Value→Shared→Prop} {s:Shared}
theorem b1q {R:Result→Shared→Prop} {S r:Addr} {a b c:Int} {t u v:Tok} {n:Nat} (hh:A.handled=none) (hr:IsRange s.heap r a b c t u v) (hsmall:Builtin.Range.small a b c=true)
  (hn:Builtin.Range.rangeSize a b c=n) (hlen:n≤2 ^ 24) (hS:s.heap.get? S=some { cls:=.type "list",data:=.seq #[] 0 })
  (hR:∀ (h':Heap) (tk:Tok) (acc':Array Value) (c':Nat),(∀ b o,b≠S→s.heap.get? b=some o→h'.get? b=some o)→h'.get? S=some { cls:=.type "list",dict:=none,data:=.seq acc' c',slots:=#[] } →
   ItemsOf (fun i v=>∃ t,v=.int (a+i*c) t) acc' n→R (.ok (.ret (.ref S))) { s with heap:=h',toks:=tk }) :
  codeAny (model prog w) A (.builtin "list.__iadd__" ⟨[.ref S,.ref r],[]⟩) R s:=by
 refine codeAny_builtin F.entry_list_iadd ?_
 rw[Around.under_plainId F.plain_list_iadd _]
 show wpAny _ A.in1 (Builtin.List.listExtendWith (.ref S) (.ref r) (.ref S)) _ _ _
 exact wpAny_extend_range hh hr hsmall hn hlen S (.ref S) 0 hS hR
theorem a7F {Q:List Value→Shared→Prop} {r:Addr} {a b c:Int} {t u v:Tok} {n:Nat} (hh:A.handled=none) (hr:IsRange s.heap r a b c t u v) (hsmall:Builtin.Range.small a b c=true)
  (hn:Builtin.Range.rangeSize a b c=n) (hlen:n≤2 ^ 24)
  (hQ:∀ (h':Heap) (tk:Tok) (acc':Array Value),(∀ b o,s.heap.get? b=some o→h'.get? b=some o)→ItemsOf (fun i v=>∃ t,v=.int (a+i*c) t) acc' n→Q acc'.toList { s with heap:=h',toks:=tk }) :
  wpAny (model prog w) A (collect (.ref r)) Q E s:=by
 unfold collect
 refine wpAny_bind (wpAny_runValue (codeAny_builtin F.entry_proto_collect ?_))
 rw[Around.under_plainId F.plain_proto_collect _]
 show wpAny _ A.in1 (newList [] >>= fun l=>again (.builtin "list.__iadd__" ⟨[l,.ref r],[]⟩)) _ _ s
 refine wpAny_bind (wpAny_newObj_type ?_)
 have hS₁:(s.heap.push { cls:=.type "list",data:=.seq ([]:List Value).toArray }).get? s.heap.objs.size=some { cls:=.type "list",data:=.seq #[] }:=Heap.get?_push_size _ rfl
 refine wpAny_pure ⟨plainId_quiet F.plain_list_iadd _,b1q (s:={ s with heap:=s.heap.push { cls:=.type "list",data:=.seq ([]:List Value).toArray } }) hh (Heap.get?_push_of_some _ hr) hsmall hn hlen hS₁ fun h' tk acc' c' hk hS hacc=>?_⟩
 show wpAny _ A (load s.heap.objs.size >>= _) _ _ _
 refine wpAny_bind (wpAny_load hS ?_)
 exact wpAny_pure (hQ h' tk acc' (fun b o e=>hk b o (Nat.ne_of_lt (Heap.lt_size e)) (Heap.get?_push_of_some _ e)) hacc)
theorem a5j {Q₁:Value→Shared→Prop} {r:Addr} {a b c:Int} {t u v:Tok} {n:Nat} (hh:A.handled=none) (hr:IsRange s.heap r a b c t u v) (hsmall:Builtin.Range.small a b c=true)
  (hn:Builtin.Range.rangeSize a b c=n) (hlen:n≤2 ^ 24)
  (h:∀ (h':Heap) (tk:Tok) (acc:Array Value),(∀ b o,s.heap.get? b=some o→h'.get? b=some o)→ItemsOf (fun i v=>∃ t,v=.int (a+i*c) t) acc n→Q₁ (.ref h'.objs.size) { s with heap:=h'.push { cls:=.type "tuple",data:=.seq acc },toks:=tk }) :
  codeAny (model prog w) A (.call (.builtin "tuple.__new__") ⟨[.type "tuple",.ref r],[]⟩) (wants Q₁ E) s:=by
 refine codeAny_of_tree ?_
 show wpAny _ A.in1 (do checkBuiltinCall "tuple.__new__" ⟨[.type "tuple",.ref r],[]⟩;again (.builtin "tuple.__new__" ⟨[.type "tuple",.ref r],[]⟩)) _ _ s
 refine wpAny_bind (wpAny_of_eq (F.newCall_tuple_1 _) (wpAny_pure ⟨plainId_quiet F.plain_tuple_new _,codeAny_builtin F.entry_tuple_new ?_⟩))
 rw[Around.under_plainId F.plain_tuple_new _]
 have hsub:=sub_tuple_self
 have hinit:=init_tuple_lookup
 have hmh:=madeHere_tuple
 have hTI:s.TypeIs (.ref r) "range":=⟨_,hr,rfl⟩
 wp_walk using wpAny_typeOf hTI,a7F (n:=n) (A:=A.in1) hh hr hsmall hn hlen
 intro h' tk acc hk hacc
 show wpAny _ _ (Builtin.Tuple.tupleExact acc.toList.toArray >>= fun v=>ret v) _ _ _
 unfold Builtin.Tuple.tupleExact
 refine wpAny_bind (wpAny_newObj_type ?_ (by show acc.toList.toArray.size≤sizeLine;simp only[Array.toArray_toList];rw[hacc.1,sizeLine_eq];lia))
 refine wpAny_pure ?_
 have e:acc.toList.toArray=acc:=by simp
 rw[e]
 exact h h' tk acc hk hacc
theorem a6l {Q:Value→Shared→Prop} {r:Addr} {a b c:Int} {t u v:Tok} {n:Nat} (hh:A.handled=none) (hr:IsRange s.heap r a b c t u v) (hsmall:Builtin.Range.small a b c=true)
  (hn:Builtin.Range.rangeSize a b c=n) (hlen:n≤2 ^ 24)
  (hQ:∀ (h':Heap) (tk:Tok) (acc:Array Value),(∀ b o,s.heap.get? b=some o→h'.get? b=some o)→ItemsOf (fun i v=>∃ t,v=.int (a+i*c) t) acc n→Q (.ref h'.objs.size) { s with heap:=h'.push { cls:=.type "tuple",data:=.seq acc },toks:=tk }) :
  wpAny (model prog w) A (call (.type "tuple") [.ref r]) Q E s:=by
 refine callType_codes (Q₁:=fun obj s₁=>s₁.TypeIs obj "tuple"∧Q obj s₁) F.called_tuple (F.typeCall_tuple_1 _) F.entry_object_init
  (a5j (A:=A.in1) (Q₁:=fun obj s₁=>s₁.TypeIs obj "tuple"∧Q obj s₁) hh hr hsmall hn hlen fun h' tk acc hm hacc=>⟨⟨_,Heap.get?_push_size _ rfl,rfl⟩,hQ h' tk acc hm hacc⟩) fun obj s₁ h₁=>?_
 exact⟨h₁.1,F.args_object_init_2 obj _,object_init_meets F.called_tuple.init.lookup F.called_tuple.made (by decide) prog w A.in1 _ s₁ ⟨h₁.1,rfl,h₁.2⟩⟩
end
section
open AutoSeq1 (wpAny_loadPart')
open SeqAt (EqAt)
theorem a6M {M:Model} {A:Around} {E:Value→Shared→Prop} {s:Shared} {β:Type} (f:Nat→β→Sem (ForInStep β)) (I:List Nat→β→Shared→Prop) (Q:β→Shared→Prop)
  (turn:∀ x rest b s,I (x :: rest) b s→wpAny M A (f x b) (fun r s'=>match r with | .yield b'=>I rest b' s' | .done b'=>Q b' s') E s)
  (fin:∀ b s,I [] b s→Q b s) (r:Std.Legacy.Range) (b:β) (h:I (List.range' r.start r.size r.step) b s):wpAny M A (forIn r b f) Q E s:=by
 rw[Std.Legacy.Range.forIn_eq_forIn_range']
 exact wpAny_forIn_list f I Q turn fin _ b h
theorem a8g (l:Addr) (items:Array Value) (n:Nat) (dd:Option Addr) (sl:Array (Option Value)) (x:Value) (e:Value→Bool) (j:Nat) (hj:j < items.size) (hit:e items[j]=true) (hno:∀ m (hm:m < items.size),m < j→e items[m]=false) :
  Meets (Builtin.«tuple.index» ⟨[.ref l,x],[]⟩)
   (fun A R s=>s.heap.get? l=some { cls:=.type "tuple",dict:=dd,data:=.seq items n,slots:=sl }∧(∀ y,y∈items→EqAt A.in1 s y x (e y))∧R (.ok (.ret (.int j s.toks))) { s with toks:=s.toks+1 }) :=
 .of_wp fun prog w A R s h=>by
  obtain⟨hp,g,d,tk,os⟩:=s;obtain⟨hl,he,h⟩:=h
  wp_walk using wpAny_loadPart' hl,a6M _ (fun rest b s'=>b.1=none∧s'=⟨hp,g,d,tk,os⟩∧∃ i,i≤j∧rest=List.range' i (items.size - i)) _
  case turn =>
   rintro y rest b s' ⟨hb,rfl,i,hij,hr⟩
   have hsz:items.size - i=(items.size - (i+1))+1:=by lia
   rw[hsz,List.range'_succ] at hr
   injection hr with hy hr
   subst hy
   have hys:y < items.size:=by lia
   rw[Array.getElem?_eq_getElem hys]
   refine wpAny_bind (he items[y] (Array.getElem_mem hys) prog w _ _ ?_)
   by_cases hyj:y=j
   ·subst hyj
    rw[hit]
    wp_walk
    exact⟨_,rfl,h⟩
   ·rw[hno y hys (by lia)]
    wp_walk
    exact⟨rfl,rfl,y+1,by lia,hr⟩
  case fin =>
   rintro⟨b1,b2⟩ s' ⟨hb,rfl,i,hij,hr⟩
   exfalso
   have:(List.range' i (items.size - i)).length=0:=by rw[← hr];rfl
   rw[List.length_range'] at this
   lia
  case h =>
   refine⟨rfl,rfl,0,Nat.zero_le _,?_⟩
   simp [Std.Legacy.Range.size]
end
section
variable {X:Cx} {a b e:Expr} {es:List Expr} {ta te:TE3} {t:TA3} {pos:Pos}
noncomputable def b6H (t:TA3):TE3:=fun ρ M Q=>t ρ M fun xs M1=>match xs with
 | [.int j]=>(-(2 ^ 62)≤j∧j < 2 ^ 24)∧Q (.tup (a1A 0 j.toNat)) M1
 | _=>False
theorem a7k {t:TA3} {p p' pos':Pos} (hm:X.mg "tuple"=none) (hm':X.mg "range"=none) (ha:HA X [a] t) (hc:X.calm=true:=by rfl) (hg:Gl X "tuple":=by rfl) (hg':Gl X "range":=by rfl) (hs:starEach [a] X.env=[(false,eval a X.env)]:=by rfl)
  (he:starEach [.Call (.Name "range" p') [a] [] pos'] X.env=(false,eval (.Call (.Name "range" p') [a] [] pos') X.env) :: starEach [] X.env:=by rfl) :
  HE X (.Call (.Name "tuple" p) [.Call (.Name "range" p') [a] [] pos'] [] pos) (b6H t):=by
 intro ρ M Q h pins s σ H Q2 I bb
 obtain⟨hr,hh,en⟩:=bb
 refine wpAny_Call_Name_kw (a6w I hg hm boot_tuple ?_ (by decide) (by decide))
 refine PyProof.Rows.callWith_type1 ?_ he rfl
 rw[he]
 refine Calls.spliced_cons ?_
 refine Call_ (a6w I hg' hm' boot_range (PyProof.Rows.callWith_type1 (thn (ha ρ M _ h pos' pins s σ H (fun vs H1=>∃ j M1,vs=[V.int j]∧HR X.K H1 M1∧Kp X.K H H1∧(-(2 ^ 62)≤j∧j < 2 ^ 24)∧Q (.tup (a1A 0 j.toNat)) M1) I
  ⟨hr,hh,fun ts vs M1 H1 k1 h1 r1 q1=>by
   dsimp only at q1
   split at q1
   ·rename_i j
    obtain⟨v,rfl,rv⟩:=a2m r1
    obtain rfl:=a0w rv
    exact⟨j,M1,rfl,h1,k1,q1.1,q1.2⟩
   ·exact q1.elim⟩) fun us s1 ⟨vs,H1,I1,rv,j,M1,e1,h1,k1,hj,q1⟩=>?_) hs rfl))
 subst e1
 obtain⟨u,rfl,t',rfl⟩:=a5o rv
 refine call_range_1 (Calls.spliced_nil ?_)
 have I2:Inv X pins σ H1 { s1 with heap:=s1.heap.push { cls:=.type "range",data:=.fields #[.int 0 s1.toks,.int j t',.int 1 (s1.toks+1)] },toks:=s1.toks+2 }:=I1.kept fun b o e=>Heap.get?_push_of_some _ e
 have hn:Builtin.Range.rangeSize 0 j 1=((j.toNat:Nat):Int):=by rw[rangeSize_one];split<;>lia
 refine a6l (I1.ok.hd hc) (IsRange.new ..) (small_one (by lia) (by lia) (by lia) (by lia)) hn (by lia) fun h' tk acc' kp ito=>?_
 have hz:j.toNat≤sizeLine:=by rw[sizeLine_eq];lia
 have vr:Vals (a4G 0 j.toNat) acc'.toList:=by
  refine a6N (by unfold a4G;simp [ito.1]) fun i x ex=>?_
  have hi:i < j.toNat:=by have:=(List.getElem?_eq_some_iff.mp ex).1;simpa [a4G] using this
  have hi':i < acc'.size:=by rw[ito.1];exact hi
  have ea:acc'[i]?=some acc'[i]:=Array.getElem?_eq_getElem hi'
  obtain⟨tt,et⟩:=ito.2 i _ ea
  refine⟨acc'[i],by rw[Array.getElem?_toList];exact ea,?_⟩
  unfold a4G at ex
  rw[List.getElem?_map,List.getElem?_range hi] at ex
  have:=Option.some.inj ex
  subst this
  exact⟨tt,by rw[et,Int.mul_one]⟩
 have I2':Inv X pins σ H1 { s1 with heap:=h',toks:=tk }:=I2.kept (h':=h') (t':=tk) kp
 have eacc:acc'.toList.toArray=acc':=by simp
 have I3:Inv X pins σ (upd H1 h'.objs.size (.tup (a4G 0 j.toNat))) { s1 with heap:=h'.push { cls:=.type "tuple",data:=.seq acc' },toks:=tk } :=
  I2'.laid (t':=tk) (fun b o e=>Heap.get?_push_of_some _ e) (Nat.le_refl _) (show a2a X.prog X.w _ _ _ (.tup (a4G 0 j.toNat)) from
   ⟨by unfold a4G;simpa using hz,acc'.toList,vr,by rw[eacc];exact a3E.new _ _⟩)
 have hf:=I2'.hok.fresh (Nat.le_refl _)
 have nw:=Kp.new (K:=X.K) (H:=H1) (o:=.tup (a4G 0 j.toNat)) hf
 exact⟨.ref h'.objs.size,_,I3,rfl,en _ _ _ _ (k1.trans nw) (h1.keep hf) (a2i (SqT.of a0B) (b0U 0 j.toNat)) q1⟩
noncomputable def b8F (M:MH) (x:T):Prop:=match x with
 | .adr p=>(match M p with | some (.lst _)=>True | _=>False)
 | .tup _=>True
 | _=>False
noncomputable def b0X:RM3:=fun x xs M Q=>match x,xs with
 | .adr p,[.int k]=>(match M p with
   | some (.lst ts)=>(match a6D ts with | some ns=>k∈ns∧Q (.int (ns.idxOf k)) M | none=>False)
   | _=>False)
 | .tup ts,[.int k]=>(match a6D ts with | some ns=>k∈ns∧Q (.int (ns.idxOf k)) M | none=>False)
 | _,_=>False
theorem b2R (pins:List (Addr × Obj)) (s:Shared) (σ:St) (H:Hp) (v:V) (k:Int) (u:Value) (us:List Value) (ns:List Int) (M:MH) (Q:VK3) (Q2:VK) (I:Inv X pins σ H s) (rv:RelV v u) (rvs:Vals [.int k] us) (r1:Rep X.K H v (.tup (ns.map T.int))) (hh:HR X.K H M)
  (en:EndE X.K H Q Q2) (hk:k∈ns) (q:Q (.int (ns.idxOf k)) M):wpAny (model X.prog X.w) X.A (call (.builtin "tuple.index") (u :: us)) (EP X pins σ Q2) X.xe s:=by
 obtain⟨p,ys,rfl,g1,g2⟩:=a1g r1
 obtain rfl:=g2.ints
 cases rv
 obtain⟨w',rfl,tk,rfl⟩:=a5o rvs
 obtain⟨its,r',pl,hz⟩:=I.tuple0 g1
 have hl:=r'.length
 rw[List.length_map] at hl hz
 obtain⟨o,eo,ec,edd,n,ed⟩:=id pl
 obtain⟨cls,dd,data,sl⟩:=o
 simp only at ec edd ed
 subst ec edd ed
 have hk':ns.idxOf k < ns.length:=List.idxOf_lt_length_iff.mpr hk
 have item:∀ (j:Nat) (hj:j < its.toArray.size),∃ tk',its.toArray[j]=Value.int (ns[j]'(by rw[List.size_toArray,← hl] at hj;exact hj)) tk':=fun j hj=>by
  have hj':j < ns.length:=by rw[List.size_toArray,← hl] at hj;exact hj
  obtain⟨w2,e2,tk',rfl⟩:=r'.get (i:=j) (x:=V.int ns[j]) (by rw[List.getElem?_map,List.getElem?_eq_getElem hj']<;>rfl)
  have:its[j]?=some its.toArray[j]:=by rw[List.getElem?_eq_getElem (by rw[List.size_toArray] at hj;exact hj)]<;>simp
  rw[e2] at this
  exact⟨tk',(Option.some.inj this).symm⟩
 let ee:Value→Bool:=fun v=>match v with | .int i _=>i == k | _=>false
 refine call_meets PySem.F.slot_tuple_index ⟨_,eo,rfl⟩ PySem.F.entry_tuple_index (PySem.F.args_tuple_index_2 _ _)
  (a8g p its.toArray n none sl (.int k tk) ee (ns.idxOf k) (by rw[List.size_toArray,← hl];exact hk') ?_ ?_) ⟨eo,fun y hy=>?_,?_⟩
 ·obtain⟨tk',e⟩:=item (ns.idxOf k) (by rw[List.size_toArray,← hl];exact hk')
  rw[e]
  show (ns[ns.idxOf k] == k)=true
  simp
 ·intro m hm hlt
  obtain⟨tk',e⟩:=item m hm
  rw[e]
  show (ns[m]'_ == k)=false
  have:=List.not_of_lt_findIdx (p:=(· == k)) (xs:=ns) (i:=m) (by simpa [List.idxOf] using hlt)
  simpa using this
 ·obtain⟨j,hj,rfl⟩:=Array.getElem_of_mem hy
  obtain⟨tk',e⟩:=item j hj
  rw[e]
  exact SeqAt.EqAt.int_int _ _ _ _
 ·exact⟨.int (ns.idxOf k),H,I.tok _,⟨_,rfl⟩,en _ _ M H Kp.refl hh a0P q⟩
noncomputable def tLMS (to:TE3) (t:TA3):TE3:=fun ρ M Q=>to ρ M fun x M1=>b8F M1 x∧t ρ M1 fun xs M2=>b0X x xs M2 Q
theorem b4I {o:Expr} {to:TE3} {apos cpos:Pos} (ho:HE X o to) (ha:HA X (e :: es) t)
  (hbase:attributeBase o "index" X.env (eval o X.env)=eval o X.env:=by rfl)
  (hfew:((backTo cpos (starEach (e :: es) X.env)).all (fun x=>!x.1) && (backToKw cpos (keywordEach [] X.env)).all (fun x=>x.1.isSome)
   && decide ((e :: es).length+([]:List Keyword).length+(if ([]:List Keyword).isEmpty then 0 else 1) < 30))=true:=by rfl)
  (hline:(apos.endLine == cpos.line)=true:=by rfl) (hs:starEach (e :: es) X.env=(false,eval e X.env) :: starEach es X.env:=by rfl) (hplain:(backTo cpos (starEach es X.env)).any (·.1)=false:=by rfl) :
  HE X (.Call (.Attribute o "index" apos) (e :: es) [] cpos) (tLMS to t):=by
 intro ρ M Q h pins s σ H Q2 I bb
 obtain⟨hr,hh,en⟩:=bb
 refine wpAny_Call_method_late hbase hfew hline rfl (thn (ho ρ M _ h pins s σ H (fun v H1=>∃ x M1,Rep X.K H1 v x∧HR X.K H1 M1∧Kp X.K H H1∧b8F M1 x∧t ρ M1 fun xs M2=>b0X x xs M2 Q) I
  ⟨hr,hh,fun x v M1 H1 k1 h1 r1 q1=>⟨x,M1,r1,h1,k1,q1.1,q1.2⟩⟩) fun v s1 ⟨vv,H1,I1,rvv,x,M1,r1,h1,k1,sq,q1⟩=>?_)
 have hA:=ha ρ M1 _ q1 cpos pins s1 σ H1
 cases x with
 | adr p =>
   have ty:tyV X.K "list" vv H1:=b2a h1 r1 sq
   obtain⟨t1,t2⟩:=b6G I1 rvv ty
   refine⟨"list","list.index",PySem.F.plainAttrs_list,PySem.F.slot_list_index,PySem.F.type_list_index,t1,t2,?_⟩
   have hB:=hA (fun vs H2=>∃ xs M2,Reps X.K H2 vs xs∧HR X.K H2 M2∧Kp X.K H1 H2∧b0X (.adr p) xs M2 Q) I1 ⟨hr.kp k1,h1,fun ts vs M2 H2 k2 h2 r2 q2=>⟨ts,M2,r2,h2,k2,q2⟩⟩
   rw[hs] at hB⊢
   refine Calls.callWith_builtin (by show (false || (backTo cpos (starEach es X.env)).any (·.1))=false;rw[hplain]<;>rfl) (Calls.evalArgs_plain ?_)
   refine thn hB fun us s2 ⟨vs,H2,I2,rvs,xs,M2,r2,h2,k2,q2⟩=>?_
   have q3:a8u (.adr p) xs M2 Q:=by
    unfold b0X at q2
    split at q2
    ·rename_i h;cases h;exact q2
    ·rename_i h;cases h
    ·exact q2.elim
   exact b4q pins s2 σ H2 vv vs v us Q2 I2 rvv rvs ⟨.adr p,xs,M2,Q,Rep.kp k2 _ _ r1,r2,h2,q3,en.kp (k1.trans k2)⟩
 | tup ts =>
   obtain⟨a1,ys,rfl,g1,g2⟩:=a1g r1
   have eu:v=.ref a1:=by cases rvv;rfl
   obtain⟨its,_,⟨oo,eo,ec,ed,_⟩,_⟩:=I1.tuple0 g1
   refine⟨"tuple","tuple.index",PySem.F.plainAttrs_tuple,PySem.F.slot_tuple_index,PySem.F.type_tuple_index,?_,?_,?_⟩
   ·rw[eu];exact⟨oo,eo,ec⟩
   ·intro a2 e2
    rw[eu] at e2
    cases e2
    exact⟨oo,eo,ed⟩
   have hB:=hA (fun vs H2=>∃ xs M2,Reps X.K H2 vs xs∧HR X.K H2 M2∧Kp X.K H1 H2∧b0X (.tup ts) xs M2 Q) I1 ⟨hr.kp k1,h1,fun ts vs M2 H2 k2 h2 r2 q2=>⟨ts,M2,r2,h2,k2,q2⟩⟩
   rw[hs] at hB⊢
   refine Calls.callWith_builtin (by show (false || (backTo cpos (starEach es X.env)).any (·.1))=false;rw[hplain]<;>rfl) (Calls.evalArgs_plain ?_)
   refine thn hB fun us s2 ⟨vs,H2,I2,rvs,xs,M2,r2,h2,k2,q2⟩=>?_
   unfold b0X at q2
   split at q2
   ·rename_i h;cases h
   ·rename_i ts' k h
    cases h
    obtain⟨w,rfl,rw'⟩:=a2m r2
    obtain rfl:=a0w rw'
    split at q2
    ·rename_i ns en'
     have et:=a5b en'
     subst et
     exact b2R pins s2 σ H2 _ k v us ns M2 Q Q2 I2 rvv rvs (Rep.kp k2 _ _ r1) h2 (en.kp (k1.trans k2)) q2.1 q2.2
    ·exact q2.elim
   ·exact q2.elim
 | _=>exact sq.elim
end
section
open AutoSeq1
theorem a8P (l:Addr) (items:Array Value) (n:Nat) (b:Addr) (items2:Array Value) (n2:Nat) (sl:Array (Option Value)) (hs0:¬(!items.isEmpty && Builtin.List.listTooLong (items.size+items2.size))=true) (hs1:items.size≤sizeLine) (hs2:items.size+items2.size≤sizeLine+1) :
  Meets (Builtin.«list.extend» ⟨[.ref l,.ref b],[]⟩) (fun _ R s=>s.heap.get? l=some { cls:=.type "list",dict:=none,data:=.seq items n,slots:=#[] }∧s.heap.get? b=some { cls:=.type "tuple",dict:=none,data:=.seq items2 n2,slots:=sl }∧R (.ok (.ret Value.none)) { s with heap:=s.heap.update l (Obj.mapSeq fun x=>x++items2),toks:=s.toks }) :=
 .of_wp fun prog w A R s h=>by
  obtain⟨hp,g,d,tk,os⟩:=s;obtain⟨hl,hb,h⟩:=h;have f1:=idx_int;have f2:=AutoSeq1.sub_tuple_tuple;have f3:=AutoSeq1.sub_list_list;have f4:=AutoSeq1.sub_tuple_list;have f5:=AutoSeq1.sub_list_tuple;
  have hz':(items++items2).size≤sizeLine+1:=by rw[Array.size_append];exact hs2
  wp_walk using (wpAny_updateSeq hl rfl (hz:=hs1) (_hz':=hz')),wpAny_loadPart' hl,wpAny_loadPart' hb;exact⟨_,rfl,h⟩
end
section
variable {X:Cx} {a b e f:Expr} {es:List Expr} {ta te:TE3} {t:TA3} {pos:Pos}
noncomputable def b5D:RM3:=fun x xs M Q=>match x,xs with
 | .adr p,[.tup us]=>(match M p with | some (.lst ts)=>ts.length+us.length≤sizeLine∧Q .non (updM M p (.lst (ts++us))) | _=>False)
 | .adr p,[.adr q]=>(match M p,M q with | some (.lst ts),some (.lst us)=>ts.length+us.length≤sizeLine∧Q .non (updM M p (.lst (ts++us))) | _,_=>False)
 | _,_=>False
theorem b2S:MtR3 X "list.extend" b5D:=by
 intro pins s σ H v vs u us Q2 I rv rvs h
 obtain⟨x,xs,M,Q,r1,r2,hh,q,en⟩:=h
 unfold b5D at q
 split at q
 ·rename_i p ys
  split at q
  ·rename_i ts e0
   obtain⟨zs,g1,g2⟩:=hh _ _ e0
   obtain rfl:=a0L r1
   obtain⟨w,rfl,rw'⟩:=a2m r2
   obtain⟨b1,ws,rfl,k1,k2⟩:=a1g rw'
   cases rv
   obtain⟨u2,rfl,ru⟩:=rvs.one
   cases ru
   obtain⟨z,its,n,r,hl,e⟩:=I.lstM g1
   obtain⟨its2,r2',⟨o,eo,ec,ed,n2,edd⟩,hz2⟩:=I.tuple0 k1
   obtain⟨cls,dd,data,sl⟩:=o
   simp only at ec ed edd
   subst ec ed edd
   have l2:=r2'.length
   have l3:=g2.length
   have l4:=k2.length
   have hsz:its.toArray.size+its2.toArray.size≤sizeLine:=by rw[List.size_toArray,List.size_toArray];lia
   have hlong:¬(!its.toArray.isEmpty && Builtin.List.listTooLong (its.toArray.size+its2.toArray.size))=true:=by
    rw[a8J hsz,Bool.and_false]
    exact Bool.false_ne_true
   refine call_meets F.slot_list_extend ⟨_,e,rfl⟩ F.entry_list_extend (F.args_list_extend_2 _ _)
    (a8P p its.toArray n b1 its2.toArray n2 sl hlong (by rw[List.size_toArray];lia) (by lia)) ⟨e,eo,?_⟩
   refine⟨.non,_,I.lset (its':=its++its2) g1 e (by simp) (r.append r2') ?_,rfl,en _ _ _ _ (Kp.lst g1) (hh.setL g1 (g2.append k2)) a6W q.2⟩
   rw[List.length_append]
   lia
  ·exact q.elim
 ·rename_i p b1
  split at q
  ·rename_i ts us' e0 e1
   obtain⟨zs,g1,g2⟩:=hh _ _ e0
   obtain⟨ws,k1,k2⟩:=hh _ _ e1
   obtain rfl:=a0L r1
   obtain⟨w,rfl,rw'⟩:=a2m r2
   obtain rfl:=a0L rw'
   have l3:=g2.length
   have l4:=k2.length
   exact b4o pins s σ H _ _ u us Q2 I rv rvs ⟨_,_,zs,ws,rfl,rfl,g1,k1,by lia,en _ _ _ _ (Kp.lst g1) (hh.setL g1 (g2.append k2)) a6W q.2⟩
  ·exact q.elim
 ·exact q.elim
theorem a7W {o:Expr} {to:TE3} {apos cpos:Pos} (ho:HE X o to) (ha:HA X (e :: es) t)
  (hbase:attributeBase o "extend" X.env (eval o X.env)=eval o X.env:=by rfl)
  (hfew:((backTo cpos (starEach (e :: es) X.env)).all (fun x=>!x.1) && (backToKw cpos (keywordEach [] X.env)).all (fun x=>x.1.isSome)
   && decide ((e :: es).length+([]:List Keyword).length+(if ([]:List Keyword).isEmpty then 0 else 1) < 30))=true:=by rfl)
  (hline:(apos.endLine == cpos.line)=true:=by rfl) (hs:starEach (e :: es) X.env=(false,eval e X.env) :: starEach es X.env:=by rfl) (hplain:(backTo cpos (starEach es X.env)).any (·.1)=false:=by rfl) :
  HE X (.Call (.Attribute o "extend" apos) (e :: es) [] cpos) (tLM3 b5D to t):=h_lm PySem.F.slot_list_extend PySem.F.type_list_extend b2S ho ha hbase hfew hline hs hplain
noncomputable def keyT:Key→T
 | .inl i=>.int i
 | .inr x=>.str x
theorem b0R {K:PySem.W.Frag} {H:Hp} {v:V} {k:Key} (r:Rep K H v (keyT k)):v=kV k:=by
 cases k with
 | inl i=>exact a0w r
 | inr x=>exact a2F r
theorem a6I {K:PySem.W.Frag} {H:Hp}:∀ {ks:List Key} {vs:List V},Reps K H vs (ks.map keyT)→vs=ks.map kV
 | [],_,r=>by rw[List.map_nil] at r;unfold Reps at r;exact r
 | k :: ks,_,r=>by
   rw[List.map_cons] at r
   unfold Reps at r
   obtain⟨v,w,rfl,r1,r2⟩:=r
   rw[b0R r1,a6I r2]
   rfl
noncomputable def valT {κ:Type} [DecidableEq κ] (kvs:List (κ × T)) (k:κ):Option T:=(kvs.find? fun kv=>decide (kv.1=k)).map (·.2)
noncomputable def putT {κ:Type} [DecidableEq κ] (kvs:List (κ × T)) (k:κ) (v:T):List (κ × T) :=
 if (kvs.any fun kv=>decide (kv.1=k))=true then kvs.map (fun kv=>if kv.1=k then (kv.1,v) else kv) else kvs++[(k,v)]
theorem KRep.val {κ:Type} [DecidableEq κ] {K:PySem.W.Frag} {H:Hp} (k:κ):∀ {xs:List (κ × V)} {kvs:List (κ × T)},KRep K H xs kvs→(match valT kvs k with | some t=>∃ v,valV xs k=some v∧Rep K H v t | none=>valV xs k=none)
 | [],[],_=>rfl
 | p :: r,q :: u,h=>by
   have ih:=KRep.val k h.2.2
   unfold valT valV at ih⊢
   rw[List.find?_cons,List.find?_cons,h.1]
   by_cases c:q.1=k
   ·simp only[c,decide_true,Option.map_some]
    exact⟨p.2,rfl,h.2.1⟩
   ·simp only[c,decide_false]
    exact ih
 | [],q :: u,h=>h.elim
 | p :: r,[],h=>h.elim
theorem KRep.any {κ:Type} [DecidableEq κ] {K:PySem.W.Frag} {H:Hp} (k:κ):∀ {xs:List (κ × V)} {kvs:List (κ × T)},KRep K H xs kvs→(xs.any fun kv=>decide (kv.1=k))=kvs.any fun kv=>decide (kv.1=k)
 | [],[],_=>rfl
 | p :: r,q :: u,h=>by rw[List.any_cons,List.any_cons,h.1,KRep.any k h.2.2]
 | [],q :: u,h=>h.elim
 | p :: r,[],h=>h.elim
theorem KRep.repl {κ:Type} [DecidableEq κ] {K:PySem.W.Frag} {H:Hp} (k:κ) {v:V} {z:T} (rz:Rep K H v z):∀ {xs:List (κ × V)} {kvs:List (κ × T)},KRep K H xs kvs→KRep K H (xs.map fun kv=>if kv.1=k then (kv.1,v) else kv) (kvs.map fun kv=>if kv.1=k then (kv.1,z) else kv)
 | [],[],_=>trivial
 | p :: r,q :: u,h=>by
   rw[List.map_cons,List.map_cons]
   refine⟨?_,?_,KRep.repl k rz h.2.2⟩
   ·rw[h.1]
    by_cases c:q.1=k
    ·rw[if_pos c,if_pos c]
    ·rw[if_neg c,if_neg c];exact h.1
   ·rw[h.1]
    by_cases c:q.1=k
    ·rw[if_pos c,if_pos c];exact rz
    ·rw[if_neg c,if_neg c];exact h.2.1
 | [],q :: u,h=>h.elim
 | p :: r,[],h=>h.elim
theorem KRep.snoc {κ:Type} {K:PySem.W.Frag} {H:Hp} (k:κ) {v:V} {z:T} (rz:Rep K H v z):∀ {xs:List (κ × V)} {kvs:List (κ × T)},KRep K H xs kvs→KRep K H (xs++[(k,v)]) (kvs++[(k,z)])
 | [],[],_=>⟨rfl,rz,trivial⟩
 | p :: r,q :: u,h=>⟨h.1,h.2.1,KRep.snoc k rz h.2.2⟩
 | [],q :: u,h=>h.elim
 | p :: r,[],h=>h.elim
theorem KRep.put {κ:Type} [DecidableEq κ] {K:PySem.W.Frag} {H:Hp} (k:κ) {v:V} {z:T} (rz:Rep K H v z) {xs:List (κ × V)} {kvs:List (κ × T)} (h:KRep K H xs kvs):KRep K H (putK xs k v) (putT kvs k z):=by
 unfold putK putT
 rw[h.any k]
 split
 ·exact h.repl k rz
 ·exact h.snoc k rz
noncomputable def b7x (tup:Bool):TE3:=fun _ M Q=>∀ p,M p=none→Q (.adr p) (updM M p (if tup then .dt [] else .dk []))
theorem c0G {pos:Pos}:HE X (.Dict [] [] pos) (b7x false):=fun ρ M Q h =>
 (b5P).imp fun σ H Q2 ⟨hr,hh,en⟩=>fun p hp=>en _ _ _ _ (Kp.new hp) (hh.newK hp (kvs:=[]) (xs:=[]) trivial) a2j (h p (hh.free hp))
theorem b7k {pos:Pos}:HE X (.Dict [] [] pos) (b7x true):=fun ρ M Q h =>
 (b5O).imp fun σ H Q2 ⟨hr,hh,en⟩=>fun p hp=>en _ _ _ _ (Kp.new hp) (hh.newT hp (kvs:=[]) (xs:=[]) trivial) a2j (h p (hh.free hp))
noncomputable def tDGK (td tk:TE3):TE3:=fun ρ M Q=>td ρ M fun x M1=>tk ρ M1 fun k M2=>match x with
 | .adr p=>(match M2 p with
   | some (.dk kvs)=>∃ kk t,k=keyT kk∧valT kvs kk=some t∧Q t M2
   | _=>False)
 | _=>False
theorem b6n {o i:Expr} {td tk:TE3} {pos:Pos} (hu:X.A.units+64 < cLine) (ho:HE X o td) (hi:HE X i tk) (hs:NoSl i:=by intro _ _;rfl):HE X (.Subscript o i pos) (tDGK td tk):=fun ρ M Q h =>
 (b3Y (by lia) (ho.d (ρ:=ρ)) (hi.d (ρ:=ρ)) hs).imp fun σ H Q2 ⟨hr,hh,en⟩=>⟨M,_,h,hr,hh,fun x v M1 H1 k1 h1 r1 q1=>⟨M1,_,q1,hr.kp k1,h1,fun y v2 M2 H2 k2 h2 r2 q2=>by
  cases x with
  | adr p =>
    cases r1
    dsimp only at q2
    split at q2
    ·rename_i kvs e
     obtain⟨kk,t,rfl,ev,q2⟩:=q2
     obtain rfl:=b0R r2
     obtain⟨xs,g1,g2⟩:=h2 _ _ e
     have hv:=g2.val kk
     rw[ev] at hv
     obtain⟨u,e1,e2⟩:=hv
     exact⟨_,u,rfl,by rw[← e1];exact DGet.k g1,en _ _ M2 H2 (k1.trans k2) h2 e2 q2⟩
    ·exact q2.elim
  | _=>exact q2.elim⟩⟩
noncomputable def sDPK (td tk tv:TE3):TS3:=fun D ρ M=>tv ρ M fun z M1=>td ρ M1 fun x M2=>tk ρ M2 fun k M3=>match x with
 | .adr p=>(match M3 p with
   | some (.dk kvs)=>∃ kk,k=keyT kk∧kvs.length < sizeLine∧D.nx ρ (updM M3 p (.dk (putT kvs kk z)))
   | _=>False)
 | _=>False
theorem c1h {o i value:Expr} {td tk tv:TE3} {pos pos':Pos} (hu:X.A.units+64 < cLine) (hv:HE X value tv) (ho:HE X o td) (hi:HE X i tk) (hs:swapsWith value (some (.Subscript o i pos')) pos.line X.env=pure false:=by rfl) :
  HS X (.Assign [.Subscript o i pos'] value pos) (sDPK td tk tv):=fun D ρ M h =>
 (b3Q (by lia) (ho.d (ρ:=ρ)) (hi.d (ρ:=ρ)) (hv.d (ρ:=ρ)) hs).imp fun D2 σ H ⟨hr,hh,en⟩=>⟨M,_,h,hr,hh,fun z v M1 H1 k1 h1 r1 q1=>⟨M1,_,q1,hr.kp k1,h1,fun x v2 M2 H2 k2 h2 r2 q2=>⟨M2,_,q2,hr.kp (k1.trans k2),h2,fun y v3 M3 H3 k3 h3 r3 q3=>by
  cases x with
  | adr p =>
    cases r2
    dsimp only at q3
    split at q3
    ·rename_i kvs e
     obtain⟨kk,rfl,hl,q3⟩:=q3
     obtain rfl:=b0R r3
     obtain⟨xs,g1,g2⟩:=h3 _ _ e
     have kk':=Kp.dict (K:=X.K) (u:=.dK (putK xs kk v)) g1 (.inl ⟨_,rfl⟩)
     have kall:=(k1.trans k2).trans (k3.trans kk')
     refine⟨_,_,rfl,DPut.k g1 (by rw[g2.length];exact hl),en.nx _ _ _ _ kall (hr.kp kall) (h3.setK g1 (.inl ⟨_,rfl⟩) (g2.put kk (Rep.kp (k2.trans k3) _ _ r1))) q3⟩
    ·exact q3.elim
  | _=>exact q3.elim⟩⟩⟩
noncomputable def sDPT (td:TE3) (t:TA3) (tv:TE3):TS3:=fun D ρ M=>tv ρ M fun z M1=>td ρ M1 fun x M2=>t ρ M2 fun ks M3=>ks.length≤sizeLine∧(match x with
 | .adr p=>(match M3 p with
   | some (.dt kvs)=>∃ kk:List Key,ks=kk.map keyT∧kvs.length < sizeLine∧D.nx ρ (updM M3 p (.dt (putT kvs kk z)))
   | _=>False)
 | _=>False)
theorem b9B {o value:Expr} {es:List Expr} {x1} {p1:Pos} {td tv:TE3} {t:TA3} {pos pos':Pos} (hu:X.A.units+64 < cLine) (hv:HE X value tv) (ho:HE X o td) (ha:HA X es t) (hs:swapsWith value (some (.Subscript o (.Tuple es x1 p1) pos')) pos.line X.env=pure false:=by rfl) :
  HS X (.Assign [.Subscript o (.Tuple es x1 p1) pos'] value pos) (sDPT td t tv):=fun D ρ M h =>
 (b3Q (by lia) (ho.d (ρ:=ρ)) (b1Q (ha.d (ρ:=ρ))) (hv.d (ρ:=ρ)) hs).imp fun D2 σ H ⟨hr,hh,en⟩=>⟨M,_,h,hr,hh,fun z v M1 H1 k1 h1 r1 q1=>⟨M1,_,q1,hr.kp k1,h1,fun x v2 M2 H2 k2 h2 r2 q2=>⟨M2,_,q2,hr.kp (k1.trans k2),h2,fun ks vs M3 H3 k3 h3 r3 q3=>by
  obtain⟨hz,q3⟩:=q3
  refine⟨by rw[r3.length];exact hz,fun b hb=>?_⟩
  cases x with
  | adr p =>
    cases r2
    dsimp only at q3
    split at q3
    ·rename_i kvs e
     obtain⟨kk,rfl,hl,q3⟩:=q3
     obtain rfl:=a6I r3
     obtain⟨xs,g1,g2⟩:=h3 _ _ e
     have np:p≠b:=fun z=>by rw[← z,g1] at hb;cases hb
     have kb:=Kp.new (K:=X.K) (o:=.tup (kk.map kV)) hb
     have g1':upd H3 b (.tup (kk.map kV)) p=some (.dT xs):=by rw[a0v np];exact g1
     have kk':=Kp.dict (K:=X.K) (u:=.dT (putK xs kk v)) g1' (.inr ⟨_,rfl⟩)
     have kall:=(k1.trans k2).trans (k3.trans (kb.trans kk'))
     refine⟨_,_,rfl,DPut.t g1' a0B (by rw[g2.length];exact hl),en.nx _ _ _ _ kall (hr.kp kall) ((h3.keep hb).setT g1' (.inr ⟨_,rfl⟩) ((g2.kp kb).put kk (Rep.kp ((k2.trans k3).trans kb) _ _ r1))) q3⟩
    ·exact q3.elim
  | _=>exact q3.elim⟩⟩⟩
noncomputable def b1Z (x:T):Bool:=match x with
 | .non=>true
 | _=>false
theorem a9X {K:PySem.W.Frag} {H:Hp} {v:V} {x:T} (r:Rep K H v x):decide (v=.non)=b1Z x:=by
 cases x with
 | non=>obtain rfl:=a7g r;rfl
 | bl b=>obtain rfl:=a3D r;rfl
 | int i=>obtain rfl:=a0w r;rfl
 | str y=>obtain rfl:=a2F r;rfl
 | adr a=>obtain rfl:=a0L r;rfl
 | tup ts=>obtain⟨p,xs,rfl,_,_⟩:=a1g r;rfl
 | rd ts=>obtain⟨p,xs,rfl,_,_⟩:=a7U r;rfl
 | dic ks ts=>unfold Rep at r;obtain⟨b,rfl,_⟩:=r;rfl
noncomputable def b8G (x:T) (c:Bool):Option Bool:=match x with
 | .bl b=>some (b == c)
 | _=>none
noncomputable def rIs3:R3:=fun x y M Q=>match y with
 | .non=>Q (.bl (b1Z x)) M
 | .bl c=>(match b8G x c with | some b=>Q (.bl b) M | none=>False)
 | _=>False
noncomputable def b9K:R3:=fun x y M Q=>match y with
 | .non=>Q (.bl (!b1Z x)) M
 | .bl c=>(match b8G x c with | some b=>Q (.bl (!b)) M | none=>False)
 | _=>False
theorem c0z {M:Model} {A:Around} {E:Value→Shared→Prop} {s:Shared} {Q:Value→Shared→Prop} {b c:Bool} (h:Q (.bool (b == c)) s):wpAny M A (compareOp .Is (.bool b) (.bool c)) Q E s:=by
 cases b<;>cases c<;>exact wpAny_pure h
theorem b4D {M:Model} {A:Around} {E:Value→Shared→Prop} {s:Shared} {Q:Value→Shared→Prop} {b c:Bool} (h:Q (.bool (!(b == c))) s):wpAny M A (compareOp .IsNot (.bool b) (.bool c)) Q E s:=by
 cases b<;>cases c<;>exact wpAny_pure h
theorem b7b:OpR3 X (compareOp .Is) rIs3:=by
 intro pins s σ H x y v u Q2 I rx ry q
 obtain⟨a,b,M,Q,r1,r2,hh,q,en⟩:=q
 cases b with
 | non =>
   obtain rfl:=a7g r2
   refine c0j pins s σ H _ _ v u Q2 I rx ry ⟨rfl,?_⟩
   rw[a9X r1]
   exact en _ _ M H Kp.refl hh a2B q
 | bl c =>
   cases a with
   | bl b =>
     obtain rfl:=a3D r1
     obtain rfl:=a3D r2
     cases rx
     cases ry
     exact c0z ⟨.bl _,H,I,rfl,en _ _ M H Kp.refl hh a2B q⟩
   | _=>exact q.elim
 | _=>exact q.elim
theorem a9A:OpR3 X (compareOp .IsNot) b9K:=by
 intro pins s σ H x y v u Q2 I rx ry q
 obtain⟨a,b,M,Q,r1,r2,hh,q,en⟩:=q
 cases b with
 | non =>
   obtain rfl:=a7g r2
   refine b8n pins s σ H _ _ v u Q2 I rx ry ⟨rfl,?_⟩
   rw[a9X r1]
   exact en _ _ M H Kp.refl hh a2B q
 | bl c =>
   cases a with
   | bl b =>
     obtain rfl:=a3D r1
     obtain rfl:=a3D r2
     cases rx
     cases ry
     exact b4D ⟨.bl _,H,I,rfl,en _ _ M H Kp.refl hh a2B q⟩
   | _=>exact q.elim
 | _=>exact q.elim
end
end L2
namespace L2
open PySem PySem.Spec PyProof.Rows LM
noncomputable def a2w (st:List Int) (k:Nat):List Int:=(st.set k (st.getD (k+1) 0)).set (k+1) (st.getD k 0)
theorem a3V (st:List Int) (l:Int) (h:1≤l.natAbs):a2w st (l.natAbs - 1)=a1l st l:=by
 unfold a2w a1l
 rw[show l.natAbs - 1+1=l.natAbs by lia]
theorem a9f (st:List Int) (k:Nat):(a2w st k).length=st.length:=by unfold a2w;simp
theorem a9g (st:List Int) (k:Nat) (h:k+1 < st.length):st.take k++([st.getD (k+1) 0,st.getD k 0]++st.drop (k+2))=a2w st k:=by
 unfold a2w
 induction st generalizing k with
 | nil=>simp at h
 | cons x t ih =>
   cases k with
   | zero =>
     cases t with
     | nil=>simp at h
     | cons y t=>rfl
   | succ k =>
     have:=ih k (by simp at h;lia)
     simp only[List.take_succ_cons,List.cons_append,List.drop_succ_cons,List.set_cons_succ,List.getD_cons_succ] at this⊢
     rw[← this]
noncomputable def isWd (n:Int) (w:List Int) (k:Int):Bool:=decide (1≤n) && decide (n≤6) && decide ((w.length:Int)≤k) && w.all (a5O n)
theorem b8E (n:Int) (w:List Int):isWd n w 16=isPl n w:=by
 unfold isWd isPl
 rw[show decide ((w.length:Int)≤16)=decide (w.length≤16) from decide_eq_decide.mpr (by lia)]
theorem a2v {κ:Type} [DecidableEq κ] (p:κ × T) (r:List (κ × T)) (k:κ):valT (p :: r) k=if p.1=k then some p.2 else valT r k:=by
 unfold valT
 rw[List.find?_cons]
 by_cases c:p.1=k
 ·simp [c]
 ·simp [c]
theorem a4p {M M':MH} {p:Addr} (h:Sub M M') (hp:M' p=none):M p=none:=by
 cases q:M p with
 | none=>rfl
 | some o=>have:=h p o q;rw[hp] at this;cases this
theorem b2C {a:Int} {n i:Nat} {x:T} (h:(a1A a n)[i]?=some x):i < n∧x=.int (a+(i:Nat)):=by
 unfold a1A at h
 rw[List.getElem?_map] at h
 cases q:(List.range n)[i]? with
 | none=>rw[q] at h;cases h
 | some k =>
   rw[q] at h
   have hi:=(List.getElem?_eq_some_iff.mp q).1
   rw[List.length_range] at hi
   rw[List.getElem?_range hi] at q
   cases q
   exact⟨hi,(Option.some.inj h).symm⟩
theorem a5e (xs:List T) (k:Int) (h0:0≤k):cutT xs none (some k)=xs.take k.toNat:=by
 unfold cutT
 have e:k=((k.toNat:Nat):Int):=by lia
 rw[e,HT.sIx_nat,HT.sIx_none,List.drop_zero,Nat.sub_zero,Int.toNat_natCast]
 by_cases h:k.toNat≤xs.length
 ·rw[Nat.min_eq_left h]
 ·rw[Nat.min_eq_right (by lia),List.take_of_length_le (Nat.le_refl _),List.take_of_length_le (by lia)]
theorem b5l {α:Type} (xs:List α) (a b:α):atI (xs++[a,b]) (-2)=some a:=by
 have e:(xs++[a,b]).length=xs.length+2:=by simp
 unfold atI
 rw[e]
 have:ixN (xs.length+2) (-2)=some xs.length:=by
  unfold ixN
  simp
  lia
 rw[this]
 simp
theorem WordOK.take {n:Int} {w:List Int} (h:WordOK n w) (k:Nat):WordOK n (w.take k):=fun l hl=>h l (List.mem_of_mem_take hl)
theorem WordOK.drop {n:Int} {w:List Int} (h:WordOK n w) (k:Nat):WordOK n (w.drop k):=fun l hl=>h l (List.mem_of_mem_drop hl)
theorem a2q (xs:List T) (k:Int) (h0:0≤k):cutT xs (some k) none=xs.drop k.toNat:=by
 unfold cutT
 have e:k=((k.toNat:Nat):Int):=by lia
 rw[e,HT.sIx_nat,HT.sIx_none,Int.toNat_natCast]
 by_cases h:k.toNat≤xs.length
 ·rw[Nat.min_eq_left h,List.take_of_length_le (by rw[List.length_drop];lia)]
 ·rw[Nat.min_eq_right (by lia),Nat.sub_self,List.take_zero,List.drop_of_length_le (by lia)]
theorem b4X (xs:List T) (a b:Int) (h0:0≤a) (h1:a≤b) (h2:a≤xs.length):cutT xs (some a) (some b)=(xs.drop a.toNat).take (b - a).toNat:=by
 unfold cutT
 have e:a=((a.toNat:Nat):Int):=by lia
 have e':b=((b.toNat:Nat):Int):=by lia
 rw[e,e',HT.sIx_nat,HT.sIx_nat,← e,← e',Nat.min_eq_left (show a.toNat≤xs.length by lia)]
 by_cases h:b.toNat≤xs.length
 ·rw[Nat.min_eq_left h,show (b - a).toNat=b.toNat - a.toNat by lia]
 ·rw[Nat.min_eq_right (by lia),List.take_of_length_le (by rw[List.length_drop];exact Nat.le_refl _),List.take_of_length_le (by rw[List.length_drop];lia)]
noncomputable def gI (w:List Int) (k:Int):Int:=w.getD k.toNat 0
noncomputable def a1c (w:List Int) (a:Int):Bool:=decide (0≤a∧a < (w.length:Int) - 1) && decide ((1:Int) < (((((gI w a).natAbs:Int) - ((gI w (a+1)).natAbs:Int)).natAbs:Nat):Int))
noncomputable def a1k (w:List Int) (a:Int):Bool:=decide (0≤a∧a < (w.length:Int) - 1) && decide (gI w a=-(gI w (a+1)))
noncomputable def a0F (w:List Int) (a:Int):Bool:=decide (0≤a∧a < (w.length:Int) - 2) && (decide (((gI w a).natAbs:Int)=((gI w (a+2)).natAbs:Int)) && decide ((((((gI w a).natAbs:Int) - ((gI w (a+1)).natAbs:Int)).natAbs:Nat):Int)=1) && (!decide (gI w a=gI w (a+2)) || decide (0 < gI w a*gI w (a+1))))
noncomputable def sgnL (a l:Int):Int:=if l < 0 then -((a.natAbs:Nat):Int) else ((a.natAbs:Nat):Int)
noncomputable def a3k (w:List Int) (a:Int):List Int:=w.take a.toNat++[sgnL (gI w (a+1)) (gI w (a+2)),sgnL (gI w a) (gI w (a+1)),sgnL (gI w (a+1)) (gI w a)]++w.drop (a+3).toNat
noncomputable def inL (w:List Int) (a l:Int):List Int:=w.take a.toNat++[l,-l]++w.drop a.toNat
theorem a5m {A B:List Int} {x:Int} {a:Int} (h0:0≤a) (h:A.length=a.toNat):gI (A++x :: B) a=x:=by
 unfold gI
 rw[List.getD_eq_getElem?_getD,← h,List.getElem?_append_right (Nat.le_refl _),Nat.sub_self]
 rfl
theorem a5v {A B:List Int} {x y:Int} {a:Int} (h0:0≤a) (h:A.length=a.toNat):gI (A++x :: y :: B) (a+1)=y:=by
 have:A++x :: y :: B=(A++[x])++y :: B:=by simp
 rw[this]
 exact a5m (by lia) (by simp;lia)
theorem b4M {A B:List Int} {x y z:Int} {a:Int} (h0:0≤a) (h:A.length=a.toNat):gI (A++x :: y :: z :: B) (a+2)=z:=by
 have:A++x :: y :: z :: B=(A++[x,y])++z :: B:=by simp
 rw[this]
 exact a5m (by lia) (by simp;lia)
theorem cut2 {w:List Int} {a:Int} (h0:0≤a) (h1:a < (w.length:Int) - 1):∃ A p q B,w=A++p :: q :: B∧A.length=a.toNat:=by
 refine⟨w.take a.toNat,w[a.toNat]'(by lia),w[a.toNat+1]'(by lia),w.drop (a.toNat+2),?_,by rw[List.length_take];lia⟩
 conv=>lhs;rw[← List.take_append_drop a.toNat w,List.drop_eq_getElem_cons (by lia),List.drop_eq_getElem_cons (by lia)]
theorem cut3 {w:List Int} {a:Int} (h0:0≤a) (h1:a < (w.length:Int) - 2):∃ A p q r B,w=A++p :: q :: r :: B∧A.length=a.toNat:=by
 obtain⟨A,p,q,B,e,h⟩:=cut2 (w:=w) (a:=a) h0 (by lia)
 cases B with
 | nil=>rw[e] at h1;simp at h1;lia
 | cons r B=>exact⟨A,p,q,r,B,e,h⟩
theorem a5C {A B:List Int} {a:Int} (h:A.length=a.toNat):(A++B).take a.toNat=A:=by rw[← h];simp
theorem a5R {A B:List Int} {a:Int} (h:A.length=a.toNat):(A++B).drop a.toNat=B:=by rw[← h];simp
theorem b0h {A B:List Int} {x y:Int} {a:Int} (h0:0≤a) (h:A.length=a.toNat):(A++x :: y :: B).drop (a+2).toNat=B:=by
 have:A++x :: y :: B=(A++[x,y])++B:=by simp
 rw[this]
 exact a5R (by simp;lia)
theorem b4S {A B:List Int} {x y z:Int} {a:Int} (h0:0≤a) (h:A.length=a.toNat):(A++x :: y :: z :: B).drop (a+3).toNat=B:=by
 have:A++x :: y :: z :: B=(A++[x,y,z])++B:=by simp
 rw[this]
 exact a5R (by simp;lia)
theorem a3H {A B:List Int} {x y:Int} {k:Nat} (h:A.length=k):a2w (A++x :: y :: B) k=A++y :: x :: B:=by
 rw[← a9g _ _ (by simp;lia)]
 have e1:=a5m (A:=A) (B:=y :: B) (x:=x) (a:=(k:Int)) (by lia) (by lia)
 have e2:=a5v (A:=A) (B:=B) (x:=x) (y:=y) (a:=(k:Int)) (by lia) (by lia)
 have e3:=b0h (A:=A) (B:=B) (x:=x) (y:=y) (a:=(k:Int)) (by lia) (by lia)
 have e4:=a5C (A:=A) (B:=x :: y :: B) (a:=(k:Int)) (by lia)
 unfold gI at e1 e2
 rw[show ((k:Int)).toNat=k by lia] at e1 e4
 rw[show ((k:Int)+1).toNat=k+1 by lia] at e2
 rw[show ((k:Int)+2).toNat=k+2 by lia] at e3
 rw[e1,e2,e3,e4]
 simp
theorem a5p {A B:List Int} {p q r:Int} {a:Int} (h0:0≤a) (h:A.length=a.toNat):a3k (A++p :: q :: r :: B) a=A++sgnL q r :: sgnL p q :: sgnL q p :: B:=by
 unfold a3k
 rw[a5m h0 h,a5v h0 h,b4M h0 h,a5C h,b4S h0 h]
 simp
theorem a6Y {A B:List Int} {p q:Int} {a:Int} (h0:0≤a) (h:A.length=a.toNat):(A++p :: q :: B).take a.toNat++(A++p :: q :: B).drop (a+2).toNat=A++B:=by rw[a5C h,b0h h0 h]
theorem a8K {A B:List Int} {l:Int} {a:Int} (h:A.length=a.toNat):inL (A++B) a l=A++l :: -l :: B:=by
 unfold inL
 rw[a5C h,a5R h]
 simp
theorem a5y {A B:List Int} {p q:Int} {a:Int} (h0:0≤a) (h:A.length=a.toNat):a1c (A++p :: q :: B) a=true↔1 < (((p.natAbs:Int) - (q.natAbs:Int)).natAbs:Int):=by
 unfold a1c
 rw[a5m h0 h,a5v h0 h]
 simp only[Bool.and_eq_true,decide_eq_true_eq,List.length_append,List.length_cons]
 constructor
 ·exact fun h=>h.2
 ·exact fun z=>⟨by lia,z⟩
theorem a5x {A B:List Int} {p q:Int} {a:Int} (h0:0≤a) (h:A.length=a.toNat):a1k (A++p :: q :: B) a=true↔p=-q:=by
 unfold a1k
 rw[a5m h0 h,a5v h0 h]
 simp only[Bool.and_eq_true,decide_eq_true_eq,List.length_append,List.length_cons]
 constructor
 ·exact fun h=>h.2
 ·exact fun z=>⟨by lia,z⟩
theorem b8w {p q:Int} (hp:p≠0) (hq:q≠0):0 < p*q↔(0 < p↔0 < q):=by
 rcases Int.lt_or_gt_of_ne hp with h | h<;>rcases Int.lt_or_gt_of_ne hq with g | g
 ·exact⟨fun _=>by lia,fun _=>Int.mul_pos_of_neg_of_neg h g⟩
 ·exact⟨fun z=>absurd z (by have:=Int.mul_neg_of_neg_of_pos h g;lia),fun z=>by lia⟩
 ·exact⟨fun z=>absurd z (by have:=Int.mul_neg_of_pos_of_neg h g;lia),fun z=>by lia⟩
 ·exact⟨fun _=>by lia,fun _=>Int.mul_pos h g⟩
noncomputable def a7v (p q r:Int):Prop:=p.natAbs=r.natAbs∧(p.natAbs+1=q.natAbs∨q.natAbs+1=p.natAbs)∧(p=r→(0 < p↔0 < q))
theorem b8r {a b:Nat}:((((a:Int) - (b:Int)).natAbs:Nat):Int)=1↔(a+1=b∨b+1=a):=by lia
theorem a5U {A B:List Int} {p q r:Int} {a:Int} (h0:0≤a) (h:A.length=a.toNat) (hp:p≠0) (hq:q≠0):a0F (A++p :: q :: r :: B) a=true↔a7v p q r:=by
 unfold a0F a7v
 rw[a5m h0 h,a5v h0 h,b4M h0 h]
 simp only[Bool.and_eq_true,decide_eq_true_eq,List.length_append,List.length_cons,Bool.or_eq_true,Bool.not_eq_true',decide_eq_false_iff_not,b8w hp hq,b8r]
 constructor
 ·rintro⟨_,⟨h1,h2⟩,h3⟩
  exact⟨Int.ofNat.inj h1,h2,fun e=>h3.resolve_left fun z=>z e⟩
 ·rintro⟨h1,h2,h3⟩
  refine⟨⟨h0,?_⟩,⟨congrArg _ h1,h2⟩,?_⟩
  ·clear hp hq h1 h2 h3
   lia
  ·by_cases e:p=r
   ·exact .inr (h3 e)
   ·exact .inl e
theorem a8n (p q:Int):(sgnL p q).natAbs=p.natAbs:=by unfold sgnL;split<;>lia
theorem b4N {x y:Int} (h:x.natAbs=y.natAbs) (g:0 < x↔0 < y) (hy:y≠0):x=y:=by lia
theorem _root_.LM.WordOK.sub {n:Int} {u v:List Int} (h:WordOK n u) (g:∀ x∈v,x∈u):WordOK n v:=fun x hx=>h x (g x hx)
theorem _root_.LM.LetOK.abs {n x y:Int} (h:LetOK n x) (e:y.natAbs=x.natAbs):LetOK n y:=by unfold LetOK at h⊢;rw[e];exact h
theorem b6u {n:Int} {w:List Int} {a:Int} (h:a1c w a=true) (hw:WordOK n w):a1c (a2w w a.toNat) a=true∧a2w (a2w w a.toNat) a.toNat=w∧WordOK n (a2w w a.toNat)∧(a2w w a.toNat).length=w.length:=by
 have hb:0≤a∧a < (w.length:Int) - 1:=by
  unfold a1c at h
  simp only[Bool.and_eq_true,decide_eq_true_eq] at h
  exact h.1
 obtain⟨A,p,q,B,rfl,hA⟩:=cut2 hb.1 hb.2
 rw[a5y hb.1 hA] at h
 rw[a3H hA,a3H hA,a5y hb.1 hA]
 refine⟨by lia,rfl,hw.sub fun x hx=>?_,by simp⟩
 simp only[List.mem_append,List.mem_cons] at hx⊢
 rcases hx with h | h | h | h<;>simp [h]
theorem b5T {n:Int} {w:List Int} {a:Int} (h:a1k w a=true) (hw:WordOK n w):inL (w.take a.toNat++w.drop (a+2).toNat) a (gI w a)=w∧WordOK n (w.take a.toNat++w.drop (a+2).toNat)∧(w.take a.toNat++w.drop (a+2).toNat).length+2=w.length∧0≤a∧a≤((w.take a.toNat++w.drop (a+2).toNat).length:Int)∧LetOK n (gI w a)∧a < w.length:=by
 have hb:0≤a∧a < (w.length:Int) - 1:=by
  unfold a1k at h
  simp only[Bool.and_eq_true,decide_eq_true_eq] at h
  exact h.1
 obtain⟨A,p,q,B,rfl,hA⟩:=cut2 hb.1 hb.2
 rw[a5x hb.1 hA] at h
 rw[a6Y hb.1 hA,a8K hA,a5m hb.1 hA]
 refine⟨by rw[h];simp,hw.sub fun x hx=>?_,by simp;lia,hb.1,by simp;lia,hw p (by simp),by simp;lia⟩
 simp only[List.mem_append,List.mem_cons] at hx⊢
 rcases hx with h | h<;>simp [h]
theorem b8H {n:Int} {w:List Int} {a l:Int} (h0:0≤a) (h1:a≤(w.length:Int)) (hw:WordOK n w) (hl:LetOK n l):a1k (inL w a l) a=true∧(inL w a l).take a.toNat++(inL w a l).drop (a+2).toNat=w∧WordOK n (inL w a l)∧(inL w a l).length=w.length+2:=by
 have e:=List.take_append_drop a.toNat w
 have hA:(w.take a.toNat).length=a.toNat:=by rw[List.length_take];lia
 generalize w.take a.toNat=A at e hA
 generalize w.drop a.toNat=B at e
 subst e
 rw[a8K hA,a6Y h0 hA,a5x h0 hA]
 refine⟨by lia,rfl,fun x hx=>?_,by simp;lia⟩
 simp only[List.mem_append,List.mem_cons] at hx
 rcases hx with h | h | h | h
 ·exact hw x (by simp [h])
 ·rw[h];exact hl
 ·rw[h];exact hl.abs (by lia)
 ·exact hw x (by simp [h])
noncomputable def Sm (w:List Int):Prop:=w.length≤4000∧∀ x∈w,x.natAbs < 7
theorem a4z {w:List Int} {a:Int} (h0:0≤a) (h1:a < w.length):atI (w.map T.int) a=some (.int (gI w a)):=a6L w a h0 h1
theorem Sm.at {w:List Int} (h:Sm w) {a:Int} (h0:0≤a) (h1:a < w.length):(gI w a).natAbs < 7:=by
 unfold gI
 rw[List.getD_eq_getElem?_getD,List.getElem?_eq_getElem (by lia)]
 exact h.2 _ (List.getElem_mem _)
inductive Stp where
 | far (a:Int)
 | three (a:Int)
 | out (a:Int)
 | inn (a l:Int)
noncomputable def Stp.t:Stp→List T
 | .far a=>[.str "far",.int a]
 | .three a=>[.str "three",.int a]
 | .out a=>[.str "out",.int a]
 | .inn a l=>[.str "in",.int a,.int l]
noncomputable def inB (n:Int) (w:List Int) (a l:Int):Bool:=decide (0≤a∧a≤(w.length:Int)) && a5O n l
noncomputable def outL (w:List Int) (a:Int):List Int:=w.take a.toNat++w.drop (a+2).toNat
noncomputable def aft (n:Int) (w:List Int):Stp→Option (List Int)
 | .far a=>if a1c w a then some (a2w w a.toNat) else none
 | .three a=>if a0F w a then some (a3k w a) else none
 | .out a=>if a1k w a then some (outL w a) else none
 | .inn a l=>if inB n w a l then some (inL w a l) else none
theorem a5B {w:List Int} {a:Int} (h0:0≤a) (h1:a < (w.length:Int) - 2):(a3k w a).length=w.length:=by
 unfold a3k
 rw[List.length_append,List.length_append,List.length_take,List.length_drop]
 simp only[List.length_cons,List.length_nil]
 lia
theorem b3c {n:Int} {w:List Int} {a l:Int} (h:inB n w a l=true):(inL w a l).length=w.length+2:=by
 unfold inB at h
 simp only[Bool.and_eq_true,decide_eq_true_eq] at h
 unfold inL
 rw[List.length_append,List.length_append,List.length_take,List.length_drop]
 simp only[List.length_cons,List.length_nil]
 lia
theorem Sm.of {n:Int} {ws:List Int} (hl:ws.length≤4000) (h6:n≤6) (hw:WordOK n ws):Sm ws:=⟨hl,fun x hx=>by
 have:=hw x hx
 unfold LetOK at this
 lia⟩
theorem b2t {n:Int} {w:List Int} {a:Int} (h:a0F w a=true) (hw:WordOK n w):WordOK n (a3k w a)∧(a3k w a).length=w.length:=by
 have hb:0≤a∧a < (w.length:Int) - 2:=by
  unfold a0F at h
  simp only[Bool.and_eq_true,decide_eq_true_eq] at h
  exact h.1
 refine⟨?_,a5B hb.1 hb.2⟩
 obtain⟨A,p,q,r,B,rfl,hA⟩:=cut3 hb.1 hb.2
 have lp:=hw p (by simp)
 have lq:=hw q (by simp)
 rw[a5p hb.1 hA]
 intro x hx
 simp only[List.mem_append,List.mem_cons] at hx
 rcases hx with h | h | h | h | h
 ·exact hw x (by simp [h])
 ·rw[h];exact lq.abs (a8n q r)
 ·rw[h];exact lp.abs (a8n p q)
 ·rw[h];exact lq.abs (a8n q p)
 ·exact hw x (by simp [h])
theorem c0V {n:Int} {w r:List Int} {s:Stp} (hw:WordOK n w) (h:aft n w s=some r):WordOK n r∧r.length≤w.length+2:=by
 cases s with
 | far a =>
   replace h:(if a1c w a=true then some (a2w w a.toNat) else none)=some r:=h
   split at h
   ·rename_i c
    obtain rfl:=Option.some.inj h
    obtain⟨_,_,h3,h4⟩:=b6u c hw
    exact⟨h3,by lia⟩
   ·cases h
 | three a =>
   replace h:(if a0F w a=true then some (a3k w a) else none)=some r:=h
   split at h
   ·rename_i c
    obtain rfl:=Option.some.inj h
    obtain⟨h3,h4⟩:=b2t c hw
    exact⟨h3,by lia⟩
   ·cases h
 | out a =>
   replace h:(if a1k w a=true then some (outL w a) else none)=some r:=h
   split at h
   ·rename_i c
    obtain rfl:=Option.some.inj h
    obtain⟨_,h3,h4,_⟩:=b5T c hw
    exact⟨h3,by unfold outL;lia⟩
   ·cases h
 | inn a l =>
   replace h:(if inB n w a l=true then some (inL w a l) else none)=some r:=h
   split at h
   ·rename_i c
    obtain rfl:=Option.some.inj h
    unfold inB at c
    simp only[Bool.and_eq_true,decide_eq_true_eq,a3h] at c
    obtain⟨_,_,h3,h4⟩:=b8H c.1.1 c.1.2 hw c.2
    exact⟨h3,by lia⟩
   ·cases h
noncomputable def thrB (p q r:Int):Bool:=decide (p.natAbs=r.natAbs) && decide (p.natAbs+1=q.natAbs∨q.natAbs+1=p.natAbs) && decide (p=r→(0 < p↔0 < q))
theorem b5s {p q r:Int}:thrB p q r=true↔a7v p q r:=by
 unfold thrB a7v
 simp only[Bool.and_eq_true,decide_eq_true_eq,and_assoc]
noncomputable def sg (x:Int):Int:=if 0 < x then 1 else -1
theorem b3E {r:Int} (hr:r≠0) (q:Int):sg r*((q.natAbs:Nat):Int)=sgnL q r:=by
 unfold sg sgnL
 by_cases c:0 < r
 ·rw[if_pos c,if_neg (by lia)];lia
 ·rw[if_neg c,if_pos (by lia)];lia
theorem b9A {p q:Int}:sg p=sg q↔(0 < p↔0 < q):=by
 unfold sg
 split<;>split<;>constructor<;>intro h<;>lia
theorem b6N (x:Int):sg x=1∨sg x=-1:=by unfold sg;split<;>simp
noncomputable def Stp.at:Stp→Int
 | .far a=>a
 | .three a=>a
 | .out a=>a
 | .inn a _=>a
noncomputable def optT (o:Option (List Int)):T:=match o with
 | some r=>.tup (r.map .int)
 | none=>.non
theorem b2o {w:List Int} {a:Int} (h:¬(0≤a∧a < (w.length:Int) - 1)):a1c w a=false:=by
 unfold a1c;rw[decide_eq_false h];rfl
theorem b2n {w:List Int} {a:Int} (h:¬(0≤a∧a < (w.length:Int) - 1)):a1k w a=false:=by
 unfold a1k;rw[decide_eq_false h];rfl
theorem a8b {w:List Int} {a:Int} (h:¬(0≤a∧a < (w.length:Int) - 2)):a0F w a=false:=by
 unfold a0F;rw[decide_eq_false h];rfl
theorem c1L {n:Int} {w:List Int} {a l:Int} (h:¬(0≤a∧a≤(w.length:Int))):inB n w a l=false:=by
 unfold inB;rw[decide_eq_false h];rfl
theorem a6o {n:Int} {w:List Int} {a:Int}:aft n w (.far a)=if a1c w a=true then some (a2w w a.toNat) else none:=rfl
theorem a3S {n:Int} {w:List Int} {a:Int}:aft n w (.three a)=if a0F w a=true then some (a3k w a) else none:=rfl
theorem a6n {n:Int} {w:List Int} {a:Int}:aft n w (.out a)=if a1k w a=true then some (outL w a) else none:=rfl
theorem a8X {n:Int} {w:List Int} {a l:Int}:aft n w (.inn a l)=if inB n w a l=true then some (inL w a l) else none:=rfl
theorem b6E {n:Int} {w:List Int} {s:Stp} (h:s.at < 0∨(w.length:Int) < s.at):aft n w s=none:=by
 cases s with
 | far a=>rw[a6o,b2o (by simp only[Stp.at] at h;lia)];rfl
 | three a=>rw[a3S,a8b (by simp only[Stp.at] at h;lia)];rfl
 | out a=>rw[a6n,b2n (by simp only[Stp.at] at h;lia)];rfl
 | inn a l=>rw[a8X,c1L (by simp only[Stp.at] at h;lia)];rfl
theorem cutI {w:List Int} {a:Int} (h0:0≤a) (h1:a≤(w.length:Int)):∃ A R,w=A++R∧A.length=a.toNat:=⟨w.take a.toNat,w.drop a.toNat,(List.take_append_drop _ _).symm,by rw[List.length_take];lia⟩
theorem b2j {A R:List Int} {a:Int} (h0:0≤a) (h:A.length=a.toNat):cutT ((A++R).map T.int) none (some a)=A.map T.int:=by
 rw[a5e _ _ h0,← List.map_take,a5C h]
theorem b6z {A R:List Int} {a:Int} (h0:0≤a) (h:A.length=a.toNat):cutT ((A++R).map T.int) (some a) none=R.map T.int:=by
 rw[a2q _ _ h0,← List.map_drop,a5R h]
theorem a7q {A R:List Int} {a k:Int} (hk:0≤k) (h0:0≤a) (h:A.length=a.toNat):cutT ((A++R).map T.int) (some (a+k)) none=(R.drop k.toNat).map T.int:=by
 rw[a2q _ _ (by lia),← List.map_drop,show (a+k).toNat=A.length+k.toNat by lia,List.drop_append]
 simp
theorem b1w {A R:List Int} {a k:Int} (hk:0≤k) (h0:0≤a) (h:A.length=a.toNat):cutT ((A++R).map T.int) (some a) (some (a+k))=(R.take k.toNat).map T.int:=by
 rw[b4X _ _ _ h0 (by lia) (by rw[List.length_map,List.length_append];lia),← List.map_drop,a5R h,← List.map_take,show (a+k - a).toNat=k.toNat by lia]
theorem b0p {A B:List Int} {p q:Int} {a:Int} (h0:0≤a) (h:A.length=a.toNat):a1c (A++p :: q :: B) a=decide (1 < (((p.natAbs:Int) - (q.natAbs:Int)).natAbs:Int)):=Bool.eq_iff_iff.mpr ((a5y h0 h).trans (by rw[decide_eq_true_eq]))
theorem b0o {A B:List Int} {p q:Int} {a:Int} (h0:0≤a) (h:A.length=a.toNat):a1k (A++p :: q :: B) a=decide (p=-q):=Bool.eq_iff_iff.mpr ((a5x h0 h).trans (by rw[decide_eq_true_eq]))
noncomputable def stT (s:Stp):T:=.tup s.t
noncomputable def chK (c:Int→Bool) (f:Int→Stp) (m:Nat):List Stp:=((List.range m).filter fun (i:Nat)=>c i).map fun (i:Nat)=>f i
theorem b6C (c:Int→Bool) (f:Int→Stp) (m:Nat):chK c f (m+1)=chK c f m++if c m=true then [f m] else []:=by
 unfold chK
 rw[List.range_succ,List.filter_append,List.map_append]
 congr 1
 rw[List.filter_cons]
 split<;>rfl
theorem a8U (c:Int→Bool) (f:Int→Stp) (m:Nat):(chK c f m).length≤m:=by
 unfold chK
 rw[List.length_map]
 exact Nat.le_trans (List.length_filter_le _ _) (by rw[List.length_range];exact Nat.le_refl _)
noncomputable def chP (w:List Int):Nat→List Stp
 | 0=>[]
 | 1=>chK (a1c w) .far w.length
 | 2=>chK (a1c w) .far w.length++chK (a0F w) .three w.length
 | _=>chK (a1c w) .far w.length++chK (a0F w) .three w.length++chK (a1k w) .out w.length
noncomputable def chL (w:List Int):List Stp:=chP w 3
theorem b5c (w:List Int) (i:Nat):(chP w i).length≤3*w.length:=by
 have h1:=a8U (a1c w) .far w.length
 have h2:=a8U (a0F w) .three w.length
 have h3:=a8U (a1k w) .out w.length
 unfold chP
 split<;>(try rw[List.length_append])<;>(try rw[List.length_append])<;>(try simp only[List.length_nil])<;>lia
noncomputable def a9U (w:List Int):List (Str × (Int→Bool) × (Int→Stp)):=[("far",a1c w,.far),("three",a0F w,.three),("out",a1k w,.out)]
theorem b4v (w:List Int) (n:Int) {i:Nat} {k:Str} {c:Int→Bool} {f:Int→Stp} (h:(a9U w)[i]?=some (k,c,f)):i < 3∧chP w (i+1)=chP w i++chK c f w.length∧(∀ j:Int,stT (f j)=.tup [.str k,.int j])∧∀ j:Int,(aft n w (f j)).isSome=c j:=by
 have hi:i < 3:=(List.getElem?_eq_some_iff.mp h).1
 rcases (show i=0∨i=1∨i=2 by lia) with rfl | rfl | rfl
 ·obtain⟨rfl,rfl,rfl⟩:("far":Str)=k∧a1c w=c∧Stp.far=f:=by simpa [a9U] using h
  refine⟨hi,(List.nil_append _).symm,fun j=>rfl,fun j=>?_⟩
  rw[a6o];cases a1c w j<;>rfl
 ·obtain⟨rfl,rfl,rfl⟩:("three":Str)=k∧a0F w=c∧Stp.three=f:=by simpa [a9U] using h
  refine⟨hi,rfl,fun j=>rfl,fun j=>?_⟩
  rw[a3S];cases a0F w j<;>rfl
 ·obtain⟨rfl,rfl,rfl⟩:("out":Str)=k∧a1k w=c∧Stp.out=f:=by simpa [a9U] using h
  refine⟨hi,rfl,fun j=>rfl,fun j=>?_⟩
  rw[a6n];cases a1k w j<;>rfl
theorem b6A {n:Int} {w:List Int} {s:Stp} (h:s∈chL w):(aft n w s).isSome=true:=by
 have key:∀ {c:Int→Bool} {f:Int→Stp} {m:Nat},(∀ j:Int,(aft n w (f j)).isSome=c j)→s∈chK c f m→(aft n w s).isSome=true:=by
  intro c f m e hs
  unfold chK at hs
  obtain⟨j,hj,rfl⟩:=List.mem_map.mp hs
  rw[e]
  exact (List.mem_filter.mp hj).2
 unfold chL chP at h
 rcases List.mem_append.mp h with h | h
 ·rcases List.mem_append.mp h with h | h
  ·exact key (fun j=>by rw[a6o];cases a1c w j<;>rfl) h
  ·exact key (fun j=>by rw[a3S];cases a0F w j<;>rfl) h
 ·exact key (fun j=>by rw[a6n];cases a1k w j<;>rfl) h
theorem a9k (s:Stp):a0K (stT s)=true:=by cases s<;>rfl
theorem b1I (s:Stp):depT (stT s)=1:=by cases s<;>rfl
theorem a8k:∀ L:List Stp,a1v (L.map stT)=true
 | []=>rfl
 | s :: L=>by rw[List.map_cons,a1S,a9k,a8k L];rfl
theorem b0L:∀ L:List Stp,a4q (L.map stT)≤30
 | []=>by decide
 | s :: L=>by rw[List.map_cons,a2p,b1I];have:=b0L L;lia
theorem b3A (L:List Stp):eqTs (L.map stT) []=L.isEmpty:=by cases L<;>rfl
theorem b9u {L:List Stp} {c:Int} (h0:0≤c) (h1:c < (L.length:Int)):∃ s∈L,atI (L.map stT) c=some (stT s):=by
 obtain⟨j,rfl⟩:=Int.eq_ofNat_of_zero_le h0
 refine⟨L[j]'(by lia),List.getElem_mem _,a6m (j:=j) ?_⟩
 rw[List.getElem?_map,List.getElem?_eq_getElem (by lia)]
 rfl
theorem b1y {c:Int→Bool} {f:Int→Stp} {m:Nat} {s:Stp} (h:s∈chK c f m):∃ j:Nat,j < m∧c j=true∧s=f j:=by
 unfold chK at h
 obtain⟨j,hj,rfl⟩:=List.mem_map.mp h
 obtain⟨h1,h2⟩:=List.mem_filter.mp hj
 exact⟨j,List.mem_range.mp h1,h2,rfl⟩
theorem b6B {w:List Int} {s:Stp} (h:s∈chL w):(∃ j:Nat,a1c w j=true∧s=.far j)∨(∃ j:Nat,a0F w j=true∧s=.three j)∨(∃ j:Nat,a1k w j=true∧s=.out j):=by
 unfold chL chP at h
 rcases List.mem_append.mp h with h | h
 ·rcases List.mem_append.mp h with h | h
  ·obtain⟨j,_,h2,h3⟩:=b1y h;exact .inl ⟨j,h2,h3⟩
  ·obtain⟨j,_,h2,h3⟩:=b1y h;exact .inr (.inl ⟨j,h2,h3⟩)
 ·obtain⟨j,_,h2,h3⟩:=b1y h;exact .inr (.inr ⟨j,h2,h3⟩)
theorem b5d {n:Int} {w r:List Int} {s:Stp} (h:s∈chL w) (ha:aft n w s=some r):r.length≤w.length:=by
 rcases b6B h with ⟨j,c,rfl⟩ | ⟨j,c,rfl⟩ | ⟨j,c,rfl⟩
 ·rw[a6o,if_pos c] at ha
  obtain rfl:=Option.some.inj ha
  unfold a2w
  rw[List.length_set,List.length_set]
  exact Nat.le_refl _
 ·rw[a3S,if_pos c] at ha
  obtain rfl:=Option.some.inj ha
  unfold a0F at c
  simp only[Bool.and_eq_true,decide_eq_true_eq] at c
  rw[a5B (by lia) (by lia)]
  exact Nat.le_refl _
 ·rw[a6n,if_pos c] at ha
  obtain rfl:=Option.some.inj ha
  unfold outL
  rw[List.length_append,List.length_take,List.length_drop]
  lia
theorem Sub.mk1 {A M:MH} {q:Nat} {o:MO} (h:Sub A M) (hq:M q=some o):Sub (updM A q o) M:=by
 intro x v hx
 by_cases e:x=q
 ·rw[e] at hx⊢
  rw[a0f] at hx
  rw[hq,← hx]
 ·rw[a0t e] at hx
  exact h x v hx
inductive Mv where
 | step (s:Stp)
 | round
 | back
 | less
 | flip
 | more (k:Int)
noncomputable def Mv.t:Mv→List T
 | .step s=>[.str "step",.tup s.t]
 | .round=>[.str "round"]
 | .back=>[.str "back"]
 | .less=>[.str "less"]
 | .flip=>[.str "flip"]
 | .more k=>[.str "more",.int k]
noncomputable def mvT (m:Mv):T:=.tup m.t
inductive Why where
 | ok
 | step
 | room
noncomputable def Why.s:Why→Str
 | .ok=>""
 | .step=>"step"
 | .room=>"room"
noncomputable def c1G (n:Int):List Int→Bool
 | []=>false
 | x :: r=>decide ((x.natAbs:Int)=n - 1) && r.all fun l=>decide ((l.natAbs:Int)≠n - 1)
noncomputable def a6h (n:Int) (w:List Int):Bool:=c1G n w.reverse
noncomputable def a2k (n:Int) (w:List Int):Mv→Why
 | .more k=>if n=6∨w.length=16 then .room else if k=1∨k=-1 then .ok else .step
 | .less=>if a6h n w then .ok else .step
 | .round=>if w.isEmpty then .step else .ok
 | .back=>if w.isEmpty then .step else .ok
 | .flip=>.ok
 | .step s=>match aft n w s with
   | none=>.step
   | some r=>if 16 < r.length then .room else .ok
noncomputable def a5h (w:List Int):List Int:=w.drop (w.length - 1)
noncomputable def mvTo (n:Int) (w:List Int):Mv→Int × List Int
 | .more k=>(n+1,w++[k*n])
 | .less=>(n - 1,w.dropLast)
 | .flip=>(n,w.map (a1K n))
 | .round=>(n,w.drop 1++w.take 1)
 | .back=>(n,a5h w++w.dropLast)
 | .step s=>(n,(aft n w s).getD w)
noncomputable def ptT (p:Int × List Int):T:=.tup [.int p.1,.tup (p.2.map .int)]
theorem a1Y (A:List Int) (y:Int):a5h (A++[y])=[y]:=by
 unfold a5h
 rw[List.length_append,List.length_singleton,Nat.add_sub_cancel,List.drop_left]
theorem a4B {w:List Int} (h:w≠[]):∃ A y,w=A++[y]:=by
 rcases List.eq_nil_or_concat w with e | ⟨A,y,e⟩
 ·exact absurd e h
 ·exact⟨A,y,by rw[e,List.concat_eq_append]⟩
theorem a5a (n:Int) (A:List Int) (y:Int):a6h n (A++[y])=(decide ((y.natAbs:Int)=n - 1) && A.all fun l=>decide ((l.natAbs:Int)≠n - 1)):=by
 unfold a6h
 rw[List.reverse_append,List.reverse_singleton,List.singleton_append]
 show (decide ((y.natAbs:Int)=n - 1) && (A.reverse.all fun l=>decide ((l.natAbs:Int)≠n - 1)))=_
 rw[List.all_reverse]
theorem a3P {n:Int} {w:List Int}:a6h n w=true↔∃ A y,w=A++[y]∧(y.natAbs:Int)=n - 1∧∀ l∈A,(l.natAbs:Int)≠n - 1:=by
 constructor
 ·intro h
  by_cases e:w=[]
  ·subst e;cases h
  ·obtain⟨A,y,rfl⟩:=a4B e
   rw[a5a] at h
   simp only[Bool.and_eq_true,decide_eq_true_eq,List.all_eq_true] at h
   exact⟨A,y,rfl,h.1,h.2⟩
 ·rintro⟨A,y,rfl,h1,h2⟩
  rw[a5a]
  simp only[Bool.and_eq_true,decide_eq_true_eq,List.all_eq_true]
  exact⟨h1,h2⟩
theorem a9T (n:Int) (w:List Int):a6h n w=(match w.filter fun l=>decide ((l.natAbs:Int)=n - 1) with
  | [x]=>decide (a5h w=[x])
  | _=>false):=by
 by_cases e:w=[]
 ·subst e;rfl
 ·obtain⟨A,y,rfl⟩:=a4B e
  rw[a5a,List.filter_append,a1Y]
  have hA:(A.all fun l=>decide ((l.natAbs:Int)≠n - 1))=(A.filter fun l=>decide ((l.natAbs:Int)=n - 1)).isEmpty:=by
   rw[Bool.eq_iff_iff,List.all_eq_true,List.isEmpty_iff,List.filter_eq_nil_iff]
   simp only[decide_eq_true_eq]
  rw[hA]
  by_cases c:(y.natAbs:Int)=n - 1
  ·rw[decide_eq_true c,Bool.true_and]
   have e1:([y].filter fun l=>decide ((l.natAbs:Int)=n - 1))=[y]:=by
    rw[List.filter_cons,decide_eq_true c];rfl
   rw[e1]
   cases h:A.filter fun l=>decide ((l.natAbs:Int)=n - 1) with
   | nil=>simp
   | cons z Z=>cases Z<;>simp
  ·rw [decide_eq_false c,Bool.false_and]
   have e1:([y].filter fun l=>decide ((l.natAbs:Int)=n - 1))=[]:=by
    rw[List.filter_cons,decide_eq_false c];rfl
   rw[e1,List.append_nil]
   cases h:A.filter fun l=>decide ((l.natAbs:Int)=n - 1) with
   | nil=>rfl
   | cons z Z =>
     cases Z with
     | nil =>
       have hz:z∈A.filter fun l=>decide ((l.natAbs:Int)=n - 1):=by rw[h];exact List.mem_singleton.mpr rfl
       have hz2:=of_decide_eq_true (List.mem_filter.mp hz).2
       dsimp only
       rw[decide_eq_false]
       intro z2
       rw[List.singleton_inj] at z2
       rw[z2] at c
       exact c hz2
     | cons _ _=>rfl
theorem b8Q (n x:Int) (h:LetOK n x):sg x*(n - (x.natAbs:Int))=a1K n x:=by
 unfold LetOK at h
 unfold sg a1K
 by_cases c:0 < x
 ·rw[if_pos c,if_neg (by lia)];lia
 ·rw[if_neg c,if_pos (by lia)];lia
theorem b8R {n x:Int} (h:LetOK n x):LetOK n (a1K n x):=by
 unfold LetOK at h⊢
 unfold a1K
 split<;>lia
theorem a3b (n:Int) (w:List Int) (s:Stp):a2k n w (.step s)=(match aft n w s with | none=>.step | some r=>if 16 < r.length then .room else .ok):=rfl
theorem a4J (n:Int) (w:List Int) (s:Stp):mvTo n w (.step s)=(n,(aft n w s).getD w):=rfl
theorem a2o (n:Int) (w:List Int):a2k n w .less=if a6h n w then .ok else .step:=rfl
theorem a5M (n:Int) (w:List Int):mvTo n w .less=(n - 1,w.dropLast):=rfl
theorem a3c (n:Int) (w:List Int) (k:Int):a2k n w (.more k)=if n=6∨w.length=16 then .room else if k=1∨k=-1 then .ok else .step:=rfl
theorem a9P (n:Int) (w:List Int) (k:Int):mvTo n w (.more k)=(n+1,w++[k*n]):=rfl
theorem b5Z {n:Int} {w:List Int} {m:Mv} (h:PlOK n w) (hw:a2k n w m=.ok):PlOK (mvTo n w m).1 (mvTo n w m).2∧(mvTo n w m).2.length≤w.length+2:=by
 obtain⟨h1,h6,hl,ho⟩:=h
 cases m with
 | step s =>
   rw[a3b] at hw
   rw[a4J]
   cases e:aft n w s with
   | none=>rw[e] at hw;cases hw
   | some r =>
     rw[e] at hw
     dsimp only at hw
     split at hw
     ·cases hw
     ·obtain⟨g1,g2⟩:=c0V ho e
      exact⟨⟨h1,h6,by show r.length≤16;lia,g1⟩,g2⟩
 | round =>
   show PlOK n (w.drop 1++w.take 1)∧(w.drop 1++w.take 1).length≤_
   have e:(w.drop 1++w.take 1).length=w.length:=by rw[List.length_append,List.length_drop,List.length_take];lia
   refine⟨⟨h1,h6,by rw[e];exact hl,fun l hm=>?_⟩,by rw[e];lia⟩
   rcases List.mem_append.mp hm with hm | hm
   ·exact ho l (List.mem_of_mem_drop hm)
   ·exact ho l (List.mem_of_mem_take hm)
 | back =>
   show PlOK n (a5h w++w.dropLast)∧(a5h w++w.dropLast).length≤_
   have e:(a5h w++w.dropLast).length=w.length:=by unfold a5h;rw[List.length_append,List.length_drop,List.length_dropLast];lia
   refine⟨⟨h1,h6,by rw[e];exact hl,fun l hm=>?_⟩,by rw[e];lia⟩
   rcases List.mem_append.mp hm with hm | hm
   ·exact ho l (List.mem_of_mem_drop hm)
   ·exact ho l (List.dropLast_subset _ hm)
 | less =>
   rw[a2o] at hw
   split at hw
   ·rename_i c
    obtain⟨A,y,rfl,hy,hA⟩:=a3P.mp c
    rw[a5M]
    rw[List.dropLast_concat]
    rw[List.length_append,List.length_singleton] at hl⊢
    have hy2:=ho y (by simp)
    unfold LetOK at hy2
    refine⟨⟨by show 1≤n - 1;lia,by show n - 1≤6;lia,by show A.length≤16;lia,fun l hm=>?_⟩,by show A.length≤_;lia⟩
    have:=ho l (List.mem_append_left _ hm)
    have:=hA l hm
    unfold LetOK at *
    show _∧_ < n - 1
    lia
   ·cases hw
 | flip =>
   show PlOK n (w.map (a1K n))∧(w.map (a1K n)).length≤_
   refine⟨⟨h1,h6,by rw[List.length_map];exact hl,fun l hm=>?_⟩,by rw[List.length_map];lia⟩
   obtain⟨x,hx,rfl⟩:=List.mem_map.mp hm
   exact b8R (ho x hx)
 | more k =>
   rw[a3c] at hw
   split at hw
   ·cases hw
   ·rename_i c
    split at hw
    ·rename_i c2
     rw[a9P]
     rw[List.length_append,List.length_singleton]
     refine⟨⟨by show 1≤n+1;lia,by show n+1≤6;lia,by rw[List.length_append,List.length_singleton];lia,fun l hm=>?_⟩,by lia⟩
     rcases List.mem_append.mp hm with hm | hm
     ·have:=ho l hm
      unfold LetOK at *
      show _∧_ < n+1
      lia
     ·rw[List.mem_singleton.mp hm]
      unfold LetOK
      show _∧_ < n+1
      rcases c2 with rfl | rfl<;>lia
    ·cases hw
noncomputable def mvs (n:Int) (w:List Int):List Mv→Option (Int × List Int)
 | []=>some (n,w)
 | m :: L=>match a2k n w m with
   | .ok=>mvs (mvTo n w m).1 (mvTo n w m).2 L
   | _=>none
theorem b6b (m:Mv):a0K (mvT m)=true:=by
 cases m with
 | step s=>unfold mvT Mv.t;rw[a5J,a1S,a1S,show a0K (T.tup s.t)=true from a9k s];rfl
 | _=>rfl
theorem b8v (m:Mv):depT (mvT m)≤30:=by
 cases m with
 | step s=>unfold mvT Mv.t;rw[b2h,a2p,a2p,show depT (T.tup s.t)=1 from b1I s];decide
 | _=>exact (show (1:Nat)≤30 by decide)
theorem a2u (n:Int) (w:List Int) (m:Mv) (L:List Mv):mvs n w (m :: L)=match a2k n w m with | .ok=>mvs (mvTo n w m).1 (mvTo n w m).2 L | _=>none:=rfl
theorem a6f (A B:List Mv) (n:Int) (w:List Int):mvs n w (A++B)=match mvs n w A with | some p=>mvs p.1 p.2 B | none=>none:=by
 induction A generalizing n w with
 | nil=>rfl
 | cons m A ih =>
   rw[List.cons_append,a2u,a2u]
   cases a2k n w m with
   | ok=>exact ih _ _
   | step=>rfl
   | room=>rfl
theorem a5f (A:List Int) (y:Int):cutT ((A++[y]).map T.int) none (some (-1))=A.map T.int:=by
 unfold cutT
 rw[List.map_append,List.length_append,List.length_map]
 have e:HT.sIx (A.length+(List.map T.int [y]).length) (A.length+(List.map T.int [y]).length) (some (-1))=A.length:=by
  show (if (-1:Int) < 0 then ((-1:Int)+((A.length+1:Nat):Int)).toNat else min (-1:Int).toNat (A.length+1))=_
  rw[if_pos (by lia)]
  lia
 rw[e,HT.sIx_none,List.drop_zero,Nat.sub_zero,List.take_append_of_le_length (by rw[List.length_map];exact Nat.le_refl _),List.take_of_length_le (by rw[List.length_map];exact Nat.le_refl _)]
theorem a8a (A:List Int) (y:Int):cutT ((A++[y]).map T.int) (some (-1)) none=[y].map T.int:=by
 unfold cutT
 rw[List.map_append,List.length_append,List.length_map]
 have e:HT.sIx (A.length+(List.map T.int [y]).length) 0 (some (-1))=A.length:=by
  show (if (-1:Int) < 0 then ((-1:Int)+((A.length+1:Nat):Int)).toNat else min (-1:Int).toNat (A.length+1))=_
  rw[if_pos (by lia)]
  lia
 rw[e,HT.sIx_none,List.drop_append_of_le_length (by rw[List.length_map];exact Nat.le_refl _),List.drop_of_length_le (by rw[List.length_map];exact Nat.le_refl _),List.nil_append]
 exact List.take_of_length_le (by show 1≤A.length+1 - A.length;lia)
noncomputable def a6g (n:Int) (ws:List Int):List Nat:=(List.range ws.length).filter fun i=>decide (((ws.getD i 0).natAbs:Int)=n - 1)
theorem a7R (n:Int) (A:List Int) (y:Int):a6g n (A++[y])=a6g n A++if (y.natAbs:Int)=n - 1 then [A.length] else []:=by
 unfold a6g
 rw[List.length_append,List.length_singleton,List.range_succ,List.filter_append]
 congr 1
 ·apply List.filter_congr
  intro i hi
  rw[List.getD_eq_getElem?_getD,List.getD_eq_getElem?_getD,List.getElem?_append_left (List.mem_range.mp hi)]
 ·rw[List.filter_cons,List.getD_eq_getElem?_getD,List.getElem?_append_right (Nat.le_refl _)]
  simp only[Nat.sub_self,List.getElem?_cons_zero,Option.getD_some,List.filter_nil,decide_eq_true_eq]
theorem b4r {n:Int} {w:List Int}:a6g n w=[]↔∀ l∈w,(l.natAbs:Int)≠n - 1:=by
 unfold a6g
 rw[List.filter_eq_nil_iff]
 constructor
 ·intro h l hl
  obtain⟨i,hi,rfl⟩:=List.getElem_of_mem hl
  have:=h i (List.mem_range.mpr hi)
  rw[List.getD_eq_getElem?_getD,List.getElem?_eq_getElem hi] at this
  simpa using this
 ·intro h i hi
  have hi:=List.mem_range.mp hi
  rw[List.getD_eq_getElem?_getD,List.getElem?_eq_getElem hi]
  simpa using h _ (List.getElem_mem hi)
theorem b6e {n:Int} {w:List Int} {i:Nat} (h:i∈a6g n w):i < w.length:=List.mem_range.mp (List.mem_filter.mp h).1
theorem a9S (n:Int) (w:List Int):a6h n w=eqTs ((a6g n w).map fun i=>T.int (i:Nat)) [T.int ((w.length:Int) - 1)]:=by
 by_cases e:w=[]
 ·subst e;rfl
 ·obtain⟨A,y,rfl⟩:=a4B e
  rw[a5a,a7R,List.length_append,List.length_singleton]
  have e0:(((A.length+1:Nat):Int) - 1)=(A.length:Int):=by lia
  rw[e0]
  have hA:(A.all fun l=>decide ((l.natAbs:Int)≠n - 1))=(a6g n A).isEmpty:=by
   rw[Bool.eq_iff_iff,List.all_eq_true,List.isEmpty_iff,b4r]
   simp only[decide_eq_true_eq]
  rw[hA]
  cases h:a6g n A with
  | nil =>
    by_cases c:(y.natAbs:Int)=n - 1
    ·rw[if_pos c,decide_eq_true c]
     show true=(decide ((A.length:Int)=(A.length:Int)) && true)
     rw[decide_eq_true rfl]
     rfl
    ·rw[if_neg c,decide_eq_false c]
     rfl
  | cons z Z =>
    have hz:z < A.length:=b6e (by rw[h];exact List.mem_cons_self)
    rw[List.isEmpty_cons,Bool.and_false]
    show false=(decide ((z:Int)=(A.length:Int)) && _)
    rw[decide_eq_false (by lia),Bool.false_and]
theorem a9O:∀ L:List Nat,a1v (L.map fun i=>T.int (i:Nat))=true
 | []=>rfl
 | _ :: L=>by rw[List.map_cons,a1S,a9O L];rfl
theorem b1V:∀ L:List Nat,a4q (L.map fun i=>T.int (i:Nat))=0
 | []=>rfl
 | _ :: L=>by rw[List.map_cons,a2p,b1V L];rfl
theorem b2W (L:List Nat):a1v (L.map fun i=>T.int (i:Nat))=true:=a9O L
theorem b4s (L:List Nat):a4q (L.map fun i=>T.int (i:Nat))≤30:=by rw[b1V];lia
noncomputable def IsP (n:Int) (r:List Int):Prop:=r.Perm (a0j n)
theorem IsP.nodup {n:Int} {r:List Int} (h:IsP n r):r.Nodup:=h.nodup_iff.mpr (a1B n)
theorem IsP.len {n:Int} {r:List Int} (h:IsP n r):r.length=n.toNat:=by rw[h.length_eq,a0l]
theorem IsP.mem {n x:Int} {r:List Int} (h:IsP n r):x∈r↔0≤x∧x < n:=by
 rw[h.mem_iff]
 exact⟨a0E,fun z=>a1e z.1 z.2⟩
theorem a2W (n:Int):a1A 0 n.toNat=(a0j n).map .int:=by
 unfold a1A a0j
 rw[List.map_map]
 exact List.map_congr_left fun i _=>by show T.int (0+(i:Nat))=T.int (i:Nat);rw[Int.zero_add]
theorem a8s (n:Int):(a0j n).Pairwise (·≤·):=by
 unfold a0j
 rw[List.pairwise_map]
 exact List.Pairwise.imp (fun h=>by lia) List.pairwise_lt_range
theorem a0d {a b:TS3} {D:Ends3} {ρ:En} {M:MH} (h:∀ K:En→MH→Prop,K=b D→a { D with nx:=K } ρ M):a1G a b D ρ M:=h _ rfl
theorem a1Q {a b c:TS3} {D:Ends3} {ρ:En} {M:MH} (h:∀ K:En→MH→Prop,K=c D→a1G a b { D with nx:=K } ρ M):a1G a (a1G b c) D ρ M:=h _ rfl
theorem a4U {a b c d:TS3} {D:Ends3} {ρ:En} {M:MH} (h:∀ K:En→MH→Prop,K=d D→a1G a (a1G b c) { D with nx:=K } ρ M):a1G a (a1G b (a1G c d)) D ρ M:=h _ rfl
theorem b2d {u:List Int} {j:Nat} (h:j < u.length):gI u j=u[j]:=by
 unfold gI
 rw[Int.toNat_natCast,List.getD_eq_getElem?_getD,List.getElem?_eq_getElem h]
 rfl
theorem c0K {n:Int} {u:List Int} (hu:IsP n u) {j:Nat} (h:j < u.length):0≤gI u j∧gI u j < n:=by
 rw[b2d h]
 exact hu.mem.mp (List.getElem_mem h)
theorem b4L {n:Int} {k:Int} (h0:0≤k) (h1:k < n):gI (a0j n) k=k:=a7O n k h0 h1
end L2
namespace LM
theorem WordOK.appl {n:Int} {w v:List Int} (h:WordOK n (w++v)):WordOK n w:=fun l hl=>h l (List.mem_append_left _ hl)
theorem WordOK.one {n l:Int} (h:LetOK n l):WordOK n [l]:=fun x hx=>by rw[List.mem_singleton.mp hx];exact h
theorem WordOK.two {n a b:Int} (h:LetOK n a) (g:LetOK n b):WordOK n [a,b]:=fun l hl=>by
 rcases List.mem_cons.mp hl with rfl | hl
 ·exact h
 ·rw[List.mem_singleton.mp hl];exact g
theorem WordOK.three {n a b c:Int} (h:LetOK n a) (g:LetOK n b) (k:LetOK n c):WordOK n [a,b,c]:=fun l hl=>by
 rcases List.mem_cons.mp hl with rfl | hl
 ·exact h
 ·exact WordOK.two g k l hl
end LM
namespace L2
open PySem PySem.Spec PyProof.Rows LM
inductive RelW (n:Int):List Int→List Int→Prop where
 | refl (w:List Int):RelW n w w
 | symm {w v:List Int}:RelW n w v→RelW n v w
 | trans {w v x:List Int}:RelW n w v→RelW n v x→RelW n w x
 | ctx {w v:List Int} (a b:List Int):WordOK n a→WordOK n b→RelW n w v→RelW n (a++w++b) (a++v++b)
 | far {a b:Int}:LetOK n a→LetOK n b→(a.natAbs+1 < b.natAbs∨b.natAbs+1 < a.natAbs)→RelW n [a,b] [b,a]
 | three {p q:Int}:LetOK n p→LetOK n q→p*q > 0→(p - q).natAbs=1→RelW n [p,q,p] [q,p,q]
 | out {l:Int}:LetOK n l→RelW n [l,-l] []
section
variable {n:Int} (h6:n≤6)
include h6
end
theorem a7m {n:Int} {u:List Int} (hu:IsP n u) {k:Int} (h0:0≤k) (h1:k < n):0≤gI u k∧gI u k < n:=by
 have:=c0K hu (j:=k.toNat) (by have:=hu.len;lia)
 rwa [Int.toNat_of_nonneg h0] at this
section
variable {n:Int}
end
section
variable {n:Int}
end
section
variable {n:Int}
end
end L2
namespace L2
open PySem PySem.Spec PyProof.Rows
noncomputable def b9H (hi:Int) (n:Nat):List T:=(List.range n).map fun i=>T.int (hi - (i:Nat))
section
variable {X:Cx} {a b c:Expr} {t:TA3} {pos:Pos}
noncomputable def b8K (t:TA3):TI3:=fun ρ M R=>t ρ M fun xs M1=>match xs with
 | [.int i,.int j,.int s]=>(s=-1∧-(2 ^ 62)≤i∧i < 2 ^ 62∧-(2 ^ 62)≤j∧j < 2 ^ 62)∧R ⟨b9H i (i - j).toNat,fun _=>True⟩ M1
 | _=>False
end
section
variable {X:Cx}
end
theorem Inv.turnNew {X:Cx} {pins:List (Addr × Obj)} {σ:St} {H:Hp} {s:Shared} {h':Heap} {t':Nat} {e it T:Addr} {xs:List V} (I:Inv X pins σ H s) (fe:FpOk X pins H e) (fi:FpOk X pins H it)
  (k:∀ b o,b≠e→b≠it→s.heap.get? b=some o→h'.get? b=some o) (hT:s.heap.objs.size≤T) (new:a2a X.prog X.w (upd H T (.tup xs)) h' T (.tup xs)) :
  Inv X pins σ (upd H T (.tup xs)) { s with heap:=h',toks:=t' }:=by
 have hn:H T=none:=I.hok.fresh hT
 have ne:∀ b u,H b=some u→b≠e∧b≠it:=fun b u q=>⟨fun z=>(by rw[z,fe.1] at q;cases q),fun z=>(by rw[z,fi.1] at q;cases q)⟩
 have nc:∀ {b:Addr},b ∉ [e,it]→b≠e∧b≠it:=fun hc=>⟨fun z=>hc (by simp [z]),fun z=>hc (by simp [z])⟩
 refine I.step (g':=s.gens) (d':=s.drawn) (ch:=[e,it]) (fun b hb=>?_) (fun b o _ _ hc q _=>k b o (nc hc).1 (nc hc).2 q) (fun b o _ _ hc q _=>⟨o.slots,k b o (nc hc).1 (nc hc).2 q⟩)
  (fun b o _ q n=>by rw[a0v (Nat.ne_of_lt (Nat.lt_of_lt_of_le (Heap.lt_size q) hT))];exact n)
  (fun b o hc q=>⟨o,k b o (nc hc).1 (nc hc).2 q⟩) (fun b xs q=>by rw[a0v (a0A q hn)];exact q) (fun b o u q=>by rw[a0v (a0A q hn)];exact q) (fun b ps q=>⟨#[],by rw[a0v (a0A q hn),q];simp⟩) (fun m hm=>?_) (fun b u q=>?_) I.bare
 ·have z:b=e∨b=it:=by simpa using hb
  rcases z with rfl | rfl
  ·exact⟨fe.2.2.2.1,fe.2.1,fe.2.2.2.2.1,fe.2.2.2.2.2⟩
  ·exact⟨fi.2.2.2.1,fi.2.1,fi.2.2.2.2.1,fi.2.2.2.2.2⟩
 ·obtain⟨o,es,ep,ho,r⟩:=hm
  exact⟨o,es,ep,k _ o (Ne.symm fe.2.1) (Ne.symm fi.2.1) ho,r⟩
 ·by_cases hb:b=T
  ·subst hb;rw[a0B] at q;cases q;exact new
  ·rw[a0v hb] at q
   refine (I.hok b u q).stay (fun c v hc z=>?_) (fun c z=>by rw[a0v (a0A z hn)];exact z) fun c xs z=>by rw[a0v (a0A z hn)];exact z
   rcases hc with y | y
   ·rw[y] at z⊢;exact k b v (ne b u q).1 (ne b u q).2 z
   ·exact k c v (ne c _ y).1 (ne c _ y).2 z
noncomputable def Iten (K:PySem.W.Frag) (a:Addr) (n:Nat):It :=
 ⟨fun i H=>i < n∧∃ xs,SqL K H a xs∧xs.length=n,fun i H x H'=>∃ T y,x=.ref T∧H T=none∧H'=upd H T (.tup [.int i,y])∧∀ xs,SqL K H a xs→xs[i]?=some y,fun i H=>i=n∧∃ xs,SqL K H a xs∧xs.length=n⟩
theorem b3q {P:Program} {w:World} {K:PySem.W.Frag} {es:List Expr} {x1} {tp:Pos} (a e it:Addr) (n:Nat) (hne:e≠it):Turn P w K (.Tuple es x1 tp) (Iten K a n) [e,it] e (fun i h=>(∃ old,IsEnum h e it (i:Int) old)∧Heap.IsListIter h it a i) where
 mem:=by simp
 obj:=fun i h st b hb=>by
  obtain⟨⟨old,he⟩,hit⟩:=st
  have z:b=e∨b=it:=by simpa using hb
  rcases z with rfl | rfl
  ·exact⟨_,he,fun v z=>by cases z⟩
  ·obtain⟨o,q,c,d⟩:=hit
   exact⟨o,q,fun v z=>by rw[d] at z;cases z⟩
 keep:=fun i h h' st k=>by
  obtain⟨⟨old,he⟩,hit⟩:=st
  exact⟨⟨old,k e (by simp) _ he⟩,hit.at fun o q=>k it (by simp) o q⟩
 item:=by
  intro X hP hw hK hc i pins s σ H E I hf st hg
  subst hP hw hK
  obtain⟨⟨old,he⟩,hit⟩:=st
  obtain⟨hi,xs,hq,hxn⟩:=hg
  subst hxn
  obtain⟨its,rv,p,hz⟩:=I.list hq
  obtain⟨x,hx⟩:∃ x,xs[i]?=some x:=⟨_,List.getElem?_eq_getElem hi⟩
  obtain⟨u,hu,ru⟩:=rv.get hx
  have fe:=hf e (by simp)
  have fi:=hf it (by simp)
  refine wpAny_pyNext_enum_item he hit p.isList (x:=u) (by simpa using hu) hne fun h1 ho hit1 hT hsz hk=>?_
  refine⟨_,rfl,wpAny_letOwnedTupleGo_enum ho fun h2 he2 hs2=>?_⟩
  have neT:s.heap.objs.size≠e:=Nat.ne_of_gt (Heap.lt_size he)
  have k2:∀ b o,b≠e→b≠it→s.heap.get? b=some o→h2.get? b=some o:=fun b o h3 h4 q=>(hs2.2 b h3).trans (hk b o h3 h4 q)
  have hT2:h2.get? s.heap.objs.size=some { cls:=.type "tuple",data:=.seq #[.int i s.toks,u] }:=(hs2.2 _ neT).trans hT
  have hn:H s.heap.objs.size=none:=I.hok.fresh (Nat.le_refl _)
  have I2:Inv X pins σ (upd H s.heap.objs.size (.tup [.int i,x])) { s with heap:=h2,toks:=s.toks+1 }:=I.turnNew fe fi k2 (Nat.le_refl _)
   ⟨by simp only[List.length_cons,List.length_nil];rw[sizeLine_eq];decide,[.int i s.toks,u],.cons ⟨_,rfl⟩ (.cons ru .nil),_,hT2,rfl,rfl,_,rfl⟩
  refine⟨.ref s.heap.objs.size,_,I2,rfl,⟨_,x,rfl,hn,rfl,fun ys hy=>by rw[I.list_inj hy hq];exact hx⟩,⟨⟨_,he2⟩,hit1.at fun o q=>(hs2.2 it hne.symm).trans q⟩,fun b hb=>?_⟩
  have z:b=e∨b=it:=by simpa using hb
  have hb':b < s.heap.objs.size:=by
   rcases z with rfl | rfl
   ·exact Heap.lt_size he
   ·obtain⟨o,q,_⟩:=hit
    exact Heap.lt_size q
  rw[a0v (Nat.ne_of_lt hb')]
  exact (hf b hb).1
 done:=by
  intro X hP hw hK hc i pins s σ H E I hf st hg
  subst hP hw hK
  obtain⟨⟨old,he⟩,hit⟩:=st
  obtain⟨hi,xs,hq,hxn⟩:=hg
  subst hi
  obtain⟨its,rv,p,hz⟩:=I.list hq
  have hl:=rv.length
  obtain⟨f0,f1,f2,f3,f4,f5⟩:=hf it (by simp)
  exact wpAny_pyNext_enum_end (I.ok.hd hc) he hit p.isList (Array.getElem?_eq_none (by simp;lia)) fun h' eb=>⟨rfl,I.turned (t':=s.toks) (fun b o hb e=>eb b o hb e) f0 f1 f3 f4 f5⟩
 self:=fun A i s Q E st h=>by
  obtain⟨⟨old,he⟩,_⟩:=st
  exact wpAny_pyIter_enum he h
theorem a2l {i:TI3} {g:TG3} {b:TS3} {D:Ends3} {ρ:En} {M:MH} (h:∀ B:TS3,B=b→a5q i g B D ρ M):a5q i g b D ρ M:=h _ rfl
section
variable {X:Cx}
noncomputable def enT (ts:List T):List T:=(List.range ts.length).map fun i=>.tup [.int (i:Nat),ts.getD i .non]
theorem a3d (ts:List T):(enT ts).length=ts.length:=by unfold enT;rw[List.length_map,List.length_range]
theorem a8Q {ts:List T} {i:Nat} {x:T} (h:(enT ts)[i]?=some x):∃ t,ts[i]?=some t∧x=.tup [.int i,t]:=by
 have hi:i < ts.length:=by have:=(List.getElem?_eq_some_iff.mp h).1;rwa [a3d] at this
 unfold enT at h
 rw[List.getElem?_map,List.getElem?_range hi] at h
 refine⟨ts[i],List.getElem?_eq_getElem hi,?_⟩
 have e:ts.getD i .non=ts[i]:=by rw[List.getD_eq_getElem?_getD,List.getElem?_eq_getElem hi];rfl
 rw[← e]
 exact (Option.some.inj h).symm
theorem b4C {K:PySem.W.Frag} {H:Hp} {a:Addr} {ts:List T}:ItOk K H (Iten K a ts.length) ⟨enT ts,fun M'=>M' a=some (.lst ts)⟩:=by
 refine⟨fun H' M' k hh st=>?_,fun i x H' M' e k hh st=>?_⟩
 ·obtain⟨xs,g1,g2⟩:=hh _ _ st
  exact⟨by show (enT ts).length=_;rw[a3d],xs,SqL.of g1,g2.length⟩
 ·obtain⟨t,ht,rfl⟩:=a8Q e
  obtain⟨xs,g1,g2⟩:=hh _ _ st
  obtain⟨v,e1,r1⟩:=g2.get ht
  refine⟨⟨(List.getElem?_eq_some_iff.mp ht).1,xs,SqL.of g1,g2.length⟩,fun v' H'' y=>?_⟩
  obtain⟨p,y,rfl,hn,rfl,hy⟩:=y
  have e2:=hy xs (SqL.of g1)
  rw[e1] at e2
  cases e2
  refine⟨Kp.new hn,hh.keep hn,a2i (SqT.of a0B) ?_⟩
  unfold Reps
  refine⟨_,_,rfl,a0P,?_⟩
  unfold Reps
  refine⟨_,_,rfl,Rep.kp (Kp.new hn) _ _ r1,?_⟩
  unfold Reps
  rfl
noncomputable def c0F (tl:TE3):TI3:=fun ρ M R=>tl ρ M fun x M1=>match x with
 | .adr p=>(match M1 p with | some (.lst ts)=>R ⟨enT ts,fun M'=>M' p=some (.lst ts)⟩ M1 | _=>False)
 | _=>False
theorem c0C {es:List Expr} {x1} {tp pos:Pos} {l:Expr} {tl:TE3} {p:Pos} (hm:X.mg "enumerate"=none) (hl:HE X l tl) (hg:Gl X "enumerate":=by rfl) (hs:starEach [l] X.env=[(false,eval l X.env)]:=by rfl):HI X (.Tuple es x1 tp) (.Call (.Name "enumerate" p) [l] [] pos) (c0F tl):=by
 intro ρ M R h pins s σ H R2 I b
 obtain⟨hr,hh,en⟩:=b
 have pa:=b1b (X:=X) (hl.d (ρ:=ρ)) b4b hs
 refine Call_ (a6w I hg hm PyProof.Rows.boot_enumerate (PyProof.Rows.callWith_type1 (thn (pa pos pins s σ H (fun vs H1=>∃ v t M1,vs=[v]∧Kp X.K H H1∧HR X.K H1 M1∧Rep X.K H1 v t∧(match t with
  | .adr p=>(match M1 p with | some (.lst ts)=>R ⟨enT ts,fun M'=>M' p=some (.lst ts)⟩ M1 | _=>False)
  | _=>False)) I ⟨M,_,h,hr,hh,fun t v M1 H1 k1 h1 r1 q1=>⟨v,t,M1,rfl,k1,h1,r1,q1⟩⟩) fun us s1 ⟨vs,H1,I1,r1,v,t,M1,e,k1,h1,rt,q1⟩=>?_) hs rfl))
 subst e
 cases r1 with
 | cons r rr =>
   cases rr
   split at q1
   ·rename_i a
    obtain rfl:=a0L rt
    cases r
    split at q1
    ·rename_i ts e0
     obtain⟨xs,g1,g2⟩:=h1 _ _ e0
     obtain⟨its,rv,p,hz⟩:=I1.list (SqL.of g1)
     refine call_enumerate_list p.isList fun h' he hit hsz hk=>?_
     refine wpAny_pyIter_enum (s:={ s1 with heap:=h' }) he ?_
     refine⟨s1.heap.objs.size+1,[s1.heap.objs.size+1,s1.heap.objs.size],_,_,H1,rfl,I1.kept (t':=s1.toks) hk,b3q a _ _ ts.length (Nat.succ_ne_self _),⟨⟨_,he⟩,hit⟩,fun b hb=>?_,en _ _ M1 H1 k1 h1 b4C q1⟩
     have z:b=s1.heap.objs.size+1∨b=s1.heap.objs.size:=by simpa using hb
     rcases z with rfl | rfl
     ·exact I1.fpOk (Nat.le_succ _) (I1.hok.fresh (Nat.le_succ _))
     ·exact I1.fpOk (Nat.le_refl _) (I1.hok.fresh (Nat.le_refl _))
    ·exact q1.elim
   ·exact q1.elim
end
section
variable {X:Cx} {pins:List (Addr × Obj)} {σ:St} {H:Hp} {s:Shared}
end
section
variable {X:Cx} {Ha:Hp} {a b c e:Expr} {es:List Expr} {st:Stmt} {rest ba bb body:List Stmt} {ta tb te:TE3} {tA:TT3} {t u:TS3} {pos:Pos}
end
section
variable {X:Cx} {Ha:Hp} {e:Expr} {es:List Expr} {t:TA3} {pos:Pos}
end
section
variable {X:Cx} {Ha:Hp} {e:Expr} {te:TE3} {pos:Pos}
end
section
variable {P:Program} {w:World} {K:PySem.W.Frag} {mg:Str→Option Value} {base:Heap}
end
section
variable {prog:Program} {w:World} {A:Around} {E:Value→Shared→Prop} {s:Shared} {h:Heap} {g:Array GenState} {d:Drawn} {t:Nat} {os:OsState} {a C:Addr} {o:Obj} {K:PySem.W.Frag}
local macro_rules | `(tactic| walk_at "xc") => `(tactic| (repeat any_goals (first | wp_step | assumption)))
end
section
variable {X:Cx} {pos:Pos}
end
section
variable {X:Cx} {pins:List (Addr × Obj)} {σ:St} {H:Hp} {s:Shared}
end
local macro_rules | `(tactic| walk_at "xc") => `(tactic| (repeat any_goals (first | wp_step | assumption)))
section
variable {X:Cx} {pos:Pos}
end
section
variable {X:Cx} {pins:List (Addr × Obj)} {σ σ':St} {H:Hp} {s:Shared}
end
section
variable {X:Cx} {body:List Stmt}
end
section
variable {K:PySem.W.Frag} {mg:Str→Option Value} {P:Addr} {cs:List (Str × Addr)}
end
section
variable {X:Cx}
end
section
variable {X:Cx}
theorem rep2 {K:PySem.W.Frag} {H:Hp} {vs:List V} {x y:T} (r:Reps K H vs [x,y]):∃ v w,vs=[v,w]∧Rep K H v x∧Rep K H w y:=by
 unfold Reps at r
 obtain⟨v,w,rfl,h,r⟩:=r
 obtain⟨v2,rfl,h2⟩:=a2m r
 exact⟨_,_,rfl,h,h2⟩
noncomputable def b7O:List T→MH→VK3→Prop:=fun xs M Q=>match xs with
 | [.int i,.int j]=>Q (.int (if j > i then j else i)) M
 | _=>False
theorem b0y (hc:X.calm=true):a3T X (.builtin "max") b7O:=by
 intro pins s σ H vs us Q2 I r h
 obtain⟨xs,M,Q,rr,hh,q,en⟩:=h
 unfold b7O at q
 split at q
 ·rename_i i j
  obtain⟨v,w,rfl,r1,r2⟩:=rep2 rr
  obtain rfl:=a0w r1
  obtain rfl:=a0w r2
  exact b5g hc pins s σ H _ us Q2 I r ⟨_,_,rfl,en _ _ M H Kp.refl hh a0P q⟩
 ·exact q.elim
noncomputable def b7N:List T→MH→VK3→Prop:=fun xs M Q=>match xs with
 | [.int i,.int j]=>Q (.int (if j < i then j else i)) M
 | _=>False
theorem b0x (hc:X.calm=true):a3T X (.builtin "min") b7N:=by
 intro pins s σ H vs us Q2 I r h
 obtain⟨xs,M,Q,rr,hh,q,en⟩:=h
 unfold b7N at q
 split at q
 ·rename_i i j
  obtain⟨v,w,rfl,r1,r2⟩:=rep2 rr
  obtain rfl:=a0w r1
  obtain rfl:=a0w r2
  exact b5f hc pins s σ H _ us Q2 I r ⟨_,_,rfl,en _ _ M H Kp.refl hh a0P q⟩
 ·exact q.elim
end
structure CanK (K:PySem.W.Frag) (P:Program) (w:World) (d:Addr) (ks:List (Str × Addr)):Prop where
 ok:∃ o,K.lookup d=some o∧o.IsDictOf (strKind P w) (ks.map fun p=>(p.1,Value.ref p.2))
 ns:(d == sysModules)=false
noncomputable def a7G (ks:List (Str × Addr)) (z:Str):Option Addr:=(ks.find? fun p=>p.1=z).map (·.2)
theorem b0q (ks:List (Str × Addr)) (z:Str):valueAt (ks.map fun p=>(p.1,Value.ref p.2)) z=(a7G ks z).map Value.ref:=by
 unfold valueAt a7G
 induction ks with
 | nil=>rfl
 | cons p ks ih =>
   rw[List.map_cons,List.find?_cons,List.find?_cons]
   by_cases c:p.1=z
   ·simp [c]
   ·simp only[c,decide_false]
    exact ih
section
variable {X:Cx} {d:Addr} {ks:List (Str × Addr)}
theorem CanK.dict (C:CanK X.K X.prog X.w d ks) {pins:List (Addr × Obj)} {σ:St} {H:Hp} {s:Shared} (I:Inv X pins σ H s):s.heap.DictOf (strKind X.prog X.w) d (ks.map fun p=>(p.1,Value.ref p.2)):=by
 obtain⟨o,hk,hd⟩:=C.ok
 exact Heap.dictOf_iff.mpr ⟨o,I.kIn d o hk,hd⟩
theorem b8L {x:Str} {a:Addr} {pos:Pos} (hm:X.mg x=some (.ref a)) (hg:Gl X x:=by rfl) (hd:(x == ("__debug__":Str))=false:=by decide):HE X (.Name x pos) (tK (.adr a)):=a6j (v:=.ref a) (b1a hg hm rfl hd) fun _ _=>a2j
noncomputable def rInD (d:Addr) (ks:List (Str × Addr)) (f:Bool→Bool):R3:=fun x y M Q=>match x,y with
 | .str z,.adr a=>a=d∧Q (.bl (f (a7G ks z).isSome)) M
 | _,_=>False
theorem a9B (C:CanK X.K X.prog X.w d ks):OpR3 X (compareOp .NotIn) (rInD d ks not):=by
 intro pins s σ H x y v u Q2 I rx ry q
 obtain⟨a,b,M,Q,r1,r2,hh,q,en⟩:=q
 unfold rInD at q
 split at q
 ·rename_i z p
  obtain⟨rfl,q⟩:=q
  obtain rfl:=a2F r1
  obtain rfl:=a0L r2
  obtain⟨t,rfl⟩:=rx
  cases ry
  refine wpAny_notIn_of (strKind_is _ _ z t) C.ns (C.dict I).mapOf ⟨.bl _,H,I.tok _,rfl,en _ _ M H Kp.refl hh a2B ?_⟩
  rw[b0q,Option.isSome_map]
  exact q
 ·exact q.elim
end
theorem b0E (o i:Expr) (p:Pos) (args:List Expr) (kws:List Keyword) (pos:Pos) (env:Env):eval (.Call (.Subscript o i p) args kws pos) env=(do
  callWith pos (← eval (.Subscript o i p) env) [] (backTo pos (starEach args env)) (backToKw pos (keywordEach kws env))):=rfl
structure DfA (P:Program) (w:World) (K:PySem.W.Frag) (mg:Str→Option Value) (base:Heap) (n:Nat) (f:Addr) (ps:List Str) (sp:Sp3):Prop where
 out:∃ fd,FnOk P w K mg base CX0 n f fd ps (dSp K sp)∧PySem.W.keepIn K (.ref f)=true∧a0M K fd ps []
theorem Df.fnAt {P:Program} {w:World} {K:PySem.W.Frag} {mg:Str→Option Value} {base:Heap} {n:Nat} {x:Str} {f:Addr} {ps:List Str} {sp:Sp3} (D:Df P w K mg base n x ps sp) (h:mg x=some (.ref f)):DfA P w K mg base n f ps sp:=by
 obtain⟨f',fd,F,hm,hk,hb⟩:=D.out
 rw[h] at hm
 cases hm
 exact⟨fd,F,hk,hb⟩
noncomputable def b1G (ks:List (Str × Addr)) (fs:List (Addr × Sp3)) (ti:TE3) (ta:TA3):TE3:=fun ρ M Q=>ti ρ M fun x M1=>match x with
 | .str z=>∃ f,a7G ks z=some f∧ta ρ M1 fun ts M2=>∃ sp,(f,sp)∈fs∧sp ts M2 Q
 | _=>False
theorem b4J {X:Cx} {d:Addr} {ks:List (Str × Addr)} {fs:List (Addr × Sp3)} {n:Nat} {x:Str} {ps:List Str} {i e:Expr} {es:List Expr} {ti:TE3} {ta:TA3} {p1 p2 pos:Pos} (C:CanK X.K X.prog X.w d ks) (hm:X.mg x=some (.ref d)) (hK:∀ q∈ks,PySem.W.keepIn X.K (.ref q.2)=true) (hF:∀ q∈fs,DfA X.prog X.w X.K X.mg X.base n q.1 ps q.2) (hr:Room n X.A) (hi:HE X i ti) (ha:HA X (e :: es) ta)
  (hs:NoSl i:=by intro _ _;rfl) (hg:Gl X x:=by rfl) (hdb:(x == ("__debug__":Str))=false:=by decide)
  (he:starEach (e :: es) X.env=(false,eval e X.env) :: starEach es X.env:=by rfl) (hpl:(backTo pos (starEach es X.env)).any (·.1)=false:=by rfl) :
  HE X (.Call (.Subscript (.Name x p1) i p2) (e :: es) [] pos) (b1G ks fs ti ta):=by
 intro ρ M Q h pins s σ H Q2 I b
 obtain⟨hr',hh,en⟩:=b
 rw[b0E]
 have hn:PE X (.Name x p1) (tC (.ref d)):=b1a hg hm rfl hdb
 refine wpAny_bind (b3y PySem.F.slot_dict_getitem.lookup hs (thn (hn pins s σ H (fun v H1=>v=.ref d∧H1=H) I ⟨rfl,rfl⟩) fun u s1 ⟨x1,H1,I1,rx,e1,e2⟩=>?_))
 subst e1 e2
 cases rx
 refine thn (hi ρ M _ h pins s1 σ H1 (fun v H2=>∃ t M1,Kp X.K H1 H2∧HR X.K H2 M1∧Rep X.K H2 v t∧(match t with
  | .str z=>∃ f,a7G ks z=some f∧ta ρ M1 fun ts M2=>∃ sp,(f,sp)∈fs∧sp ts M2 Q
  | _=>False)) I1 ⟨hr',hh,fun t v M1 H2 k1 h1 r1 q1=>⟨t,M1,k1,h1,r1,q1⟩⟩) fun iv s2 ⟨y,H2,I2,ry,t,M1,k1,h1,rt,q1⟩=>?_
 split at q1
 ·rename_i z
  obtain⟨f,hc,q1⟩:=q1
  obtain rfl:=a2F rt
  obtain⟨tk,rfl⟩:=ry
  refine⟨(C.dict I2).typeIs,wpAny_getItem_of (strKind_is _ _ z tk) (C.dict I2).mapOf (v:=.ref f) (by rw[b0q,hc];rfl) ?_⟩
  have I3:=I2.tok (s2.toks+1)
  have hk:PySem.W.keepIn X.K (.ref f)=true:=by
   unfold a7G at hc
   obtain⟨q,hq,rfl⟩:=Option.map_eq_some_iff.mp hc
   exact hK q (List.mem_of_find?_eq_some hq)
  refine PySem.W.callWith_K (h₀:=X.base) I3.ok.mod.kin hk (thn (ha ρ M1 _ q1 pos pins _ σ H2 (fun vs H3=>∃ ts M2,Kp X.K H2 H3∧HR X.K H3 M2∧Reps X.K H3 vs ts∧∃ sp,(f,sp)∈fs∧sp ts M2 Q) I3 ⟨hr'.kp k1,h1,fun ts vs M2 H3 k2 h2 r2 q2=>⟨ts,M2,k2,h2,r2,q2⟩⟩) fun us s3 ⟨vs,H3,I4,r,ts,M2,k2,h2,r2,sp,hsp,q2⟩=>⟨I4.kIn,?_⟩) he hpl
  obtain⟨fd,F,_,hb⟩:=(hF (f,sp) hsp).out
  exact b6S F hr hb .nil c0d I4 r ⟨ts,M2,Q,by rw[List.append_nil];exact r2,h2,q2,en.kp (k1.trans k2)⟩
 ·exact q1.elim
section
variable {X:Cx} {d:Addr} {ks:List (Str × Addr)}
end
theorem b1R {P:Program} {w:World}:∀ (L:List (Str × Tok × Addr)),PySem.Pairs (PySem.strKind P w) (L.map fun q=>(⟨PyData.keyHash w.params q.1,.str q.1 q.2.1,.ref q.2.2⟩:DictEntry)) (L.map fun q=>(q.1,Value.ref q.2.2))
 | []=>.nil
 | q :: L=>.cons (by show (q.1 == q.1)=true;exact beq_self_eq_true _) rfl (b1R L)
theorem b9a {K:PySem.W.Frag} {P:Program} {w:World} {d:Addr} {ep:Nat} (L:List (Str × Tok × Addr)) (l:K.lookup d=some ⟨.type "dict",none,.dict (L.map fun q=>(⟨PyData.keyHash w.params q.1,.str q.1 q.2.1,.ref q.2.2⟩:DictEntry)).toArray ep,#[]⟩) (nd:(L.map fun q=>q.1).Nodup) (ns:(d == sysModules)=false):CanK K P w d (L.map fun q=>(q.1,q.2.2)):=by
 refine⟨⟨_,l,_,ep,⟨rfl,rfl,rfl⟩,rfl,fun e he=>?_,?_,?_⟩,ns⟩
 ·rw[List.mem_toArray] at he
  obtain⟨q,_,rfl⟩:=List.mem_map.mp he
  exact⟨q.1,by show (q.1 == q.1)=true;exact beq_self_eq_true _,rfl⟩
 ·rw[List.map_map]
  exact b1R L
 ·rw[List.map_map,List.map_map]
  exact nd
noncomputable def flT:T→Bool
 | .non=>true
 | .bl _=>true
 | .int _=>true
 | .str _=>true
 | _=>false
noncomputable def toV:T→V
 | .bl b=>.bl b
 | .int i=>.int i
 | .str z=>.str z
 | _=>.non
theorem b6U {K:PySem.W.Frag} {H:Hp} {v:V} {t:T} (f:flT t=true) (r:Rep K H v t):v=toV t:=by
 cases t with
 | non=>exact a7g r
 | bl b=>exact a3D r
 | int i=>exact a0w r
 | str z=>exact a2F r
 | _=>cases f
theorem b0Q {K:PySem.W.Frag} {H:Hp}:∀ {vs:List V} {ts:List T},ts.all flT=true→Reps K H vs ts→vs=ts.map toV
 | vs,[],_,r=>by unfold Reps at r;exact r
 | vs,t :: ts,f,r=>by
   unfold Reps at r
   obtain⟨v,w,rfl,r1,r2⟩:=r
   rw[List.all_cons,Bool.and_eq_true] at f
   rw[b6U f.1 r1,b0Q f.2 r2]
   rfl
theorem a8h {t:T} (f:flT t=true):a7E (toV t)=true:=by
 cases t<;>first | rfl | cases f
theorem a6Q:∀ {ts:List T},ts.all flT=true→(ts.map toV).all a7E=true
 | [],_=>rfl
 | t :: ts,f=>by
   rw[List.all_cons,Bool.and_eq_true] at f
   rw[List.map_cons,List.all_cons,a8h f.1,a6Q f.2]
   rfl
theorem b9g {x y:T} (f:flT x=true) (g:flT y=true):eqV (toV x) (toV y)=eqT x y:=by
 cases x with
 | tup _=>cases f
 | adr _=>cases f
 | rd _=>cases f
 | dic _ _=>cases f
 | _ =>
   cases y with
   | tup _=>cases g
   | adr _=>cases g
   | rd _=>cases g
   | dic _ _=>cases g
   | _=>rfl
noncomputable def inT (x:T) (ts:List T):Bool:=ts.any fun y=>eqT y x
theorem b3r {x:T} (f:flT x=true):∀ {ts:List T},ts.all flT=true→inV (toV x) (ts.map toV)=inT x ts
 | [],_=>rfl
 | t :: ts,g=>by
   rw[List.all_cons,Bool.and_eq_true] at g
   have:=b3r f g.2
   unfold inV inT at this⊢
   rw[List.map_cons,List.any_cons,List.any_cons,b9g g.1 f,this]
noncomputable def rIn3 (neg:Bool):R3:=fun x y M Q=>flT x=true∧match y with
 | .tup ts=>ts.all flT=true∧Q (.bl (if neg then !inT x ts else inT x ts)) M
 | .adr p=>match M p with
   | some (.lst ts)=>ts.all flT=true∧Q (.bl (if neg then !inT x ts else inT x ts)) M
   | _=>False
 | _=>False
section
variable {X:Cx}
theorem b4e {neg:Bool} {f:Value→Value→Sem Value} (ho:OpR X f (rIn X.K neg)):OpR3 X f (rIn3 neg):=by
 intro pins s σ H x y v u Q2 I rx ry q
 obtain⟨a,b,M,Q,r1,r2,hh,q,en⟩:=q
 unfold rIn3 at q
 obtain⟨fa,q⟩:=q
 obtain rfl:=b6U fa r1
 split at q
 ·obtain⟨p,xs,rfl,h1,h2⟩:=a1g r2
  obtain rfl:=b0Q q.1 h2
  refine ho pins s σ H _ _ v u Q2 I rx ry ⟨p,_,rfl,.inr h1,a8h fa,a6Q q.1,?_⟩
  rw[b3r fa q.1]
  exact en _ _ M H Kp.refl hh a2B q.2
 ·rename_i p
  split at q
  ·rename_i ts e
   obtain⟨xs,h1,h2⟩:=hh _ _ e
   obtain rfl:=a0L r2
   obtain rfl:=b0Q q.1 h2
   refine ho pins s σ H _ _ v u Q2 I rx ry ⟨p,_,rfl,(.inl (.inl (.inl h1))),a8h fa,a6Q q.1,?_⟩
   rw[b3r fa q.1]
   exact en _ _ M H Kp.refl hh a2B q.2
  ·exact q.elim
 ·exact q.elim
theorem b7c:OpR3 X (compareOp .In) (rIn3 false):=b4e b4c
theorem a6Z:OpR3 X (compareOp .NotIn) (rIn3 true):=b4e a9z
end
section
variable {X:Cx} {Ha:Hp} {body:List Stmt} {pos:Pos}
end
end L2
namespace L2
open PySem PySem.Spec PyProof.Rows
open AutoSeq1 (wpAny_loadPart')
theorem b1l (t:Addr) (items:Array Value) (n:Nat) (dct:Option Addr) (sl:Array (Option Value)) :
  Meets (Builtin.«enumerate.__new__» ⟨[.type "enumerate",.ref t],[]⟩) (fun _ R s=>s.heap.get? t=some { cls:=.type "tuple",dict:=dct,data:=.seq items n,slots:=sl } ∧
   R (.ok (.ret (.ref (s.heap.push { cls:=.type "tuple_iterator",data:=.fields #[.ref t,.int 0 0] }).objs.size)))
     { s with heap:=(s.heap.push { cls:=.type "tuple_iterator",data:=.fields #[.ref t,.int 0 0] }).push { cls:=.type "enumerate",data:=.fields #[.none,.bool false,.ref s.heap.objs.size,rawInt 0,.none,.none] } }) :=
 .of_wp fun prog w A R s h=>by
  obtain⟨hp,g,d,tk,os⟩:=s;obtain⟨hl,h⟩:=h
  have hsub:=sub_enumerate
  have hL:Heap.IsTuple (Shared.heap ⟨hp,g,d,tk,os⟩) t items:=⟨_,hl,rfl,n,rfl⟩
  wp_walk using wpAny_loadPart' hl
  refine wpAny_stack_any fun st=>wpAny_pure ?_
  split
  ·rename_i c _ _ _ _ _
   cases (c == Value.type "enumerate")
   ·wp_walk using wpAny_loadPart' hl,wpAny_pyIter_tuple hL
    exact⟨_,rfl,h⟩
   ·wp_walk using wpAny_loadPart' hl,wpAny_pyIter_tuple hL
    exact⟨_,rfl,h⟩
  ·wp_walk using wpAny_loadPart' hl,wpAny_pyIter_tuple hL
   exact⟨_,rfl,h⟩
section
variable {prog:Program} {w:World} {A:Around} {E:Value→Shared→Prop} {s:Shared}
theorem b3k {l:Addr} {items:Array Value} {Q:Value→Shared→Prop} (hL:s.heap.IsTuple l items)
  (h:∀ h',IsEnum h' (s.heap.objs.size+1) s.heap.objs.size 0 .none→h'.IsTupleIter s.heap.objs.size l 0→h'.objs.size=s.heap.objs.size+2 →
   (∀ b o,s.heap.get? b=some o→h'.get? b=some o)→Q (.ref (s.heap.objs.size+1)) { s with heap:=h' }) :
  wpAny (model prog w) A (call (.type "enumerate") [.ref l]) Q E s:=by
 obtain⟨⟨c,dct,dt,sl⟩,hl,hc,n,hd⟩:=hL
 replace hc:c=.type "tuple":=hc
 replace hd:dt=.seq items n:=hd
 subst hc hd
 refine callType_new F.called_enumerate (by decide) (F.typeCall_enumerate_1 _) (F.newCall_enumerate_1 _) (fun obj=>F.args_object_init_2 obj _) F.entry_enumerate_new
  (b1l l items n dct sl) ⟨hl,?_⟩
 have hz:(s.heap.push { cls:=.type "tuple_iterator",data:=.fields #[.ref l,.int 0 0] }).objs.size=s.heap.objs.size+1:=Heap.size_push ..
 show _∧_
 rw[hz]
 have he:IsEnum ((s.heap.push { cls:=.type "tuple_iterator",data:=.fields #[.ref l,.int 0 0] }).push
   { cls:=.type "enumerate",data:=.fields #[.none,.bool false,.ref s.heap.objs.size,rawInt 0,.none,.none] }) (s.heap.objs.size+1) s.heap.objs.size 0 .none:=by
  have:=Heap.get?_push_size (s.heap.push { cls:=.type "tuple_iterator",data:=.fields #[.ref l,.int 0 0] })
   (o:={ cls:=.type "enumerate",data:=.fields #[.none,.bool false,.ref s.heap.objs.size,rawInt 0,.none,.none] }) rfl
  rw[hz] at this;exact this
 refine⟨⟨_,he,rfl⟩,h _ he ⟨_,Heap.get?_push_of_some _ (Heap.get?_push_size _ rfl),rfl,rfl⟩ (by rw[Heap.size_push,hz]) fun b o x=>Heap.get?_push_of_some _ (Heap.get?_push_of_some _ x)⟩
theorem a7c {it l:Addr} {i:Nat} {items} {x:Value} {Q:Value→Shared→Prop} (hit:s.heap.IsTupleIter it l i)
  (hl:s.heap.IsTuple l items) (hx:items[i]?=some x)
  (hQ:∀ h',h'.IsTupleIter it l (i+1)→Heap.SameBut it s.heap h'→Q x { s with heap:=h' }) :
  wpAny (model prog w) A (Builtin.SmallTypes.nextOf (.ref it)) Q E s:=by
 obtain⟨o,ho,hc,hd⟩:=id hit
 obtain⟨ol,hol,_,nl,hdl⟩:=hl
 unfold Builtin.SmallTypes.nextOf
 refine wpAny_bind (wpAny_callSpecial?_slot (name:=Str.ofString "__next__") hit.typeIs F.slot_tuple_iterator_next
  (wpAny_call_entry F.slot_tuple_iterator_next hit.typeIs F.entry_tuple_iterator_next ?_ (F.args_tuple_iterator_next_1 _)))
 show wpAny _ _ (field (.ref it) 0 >>= _) _ _ s
 refine wpAny_bind (wpAny_field ho hd (x:=.ref l) rfl ?_)
 show wpAny _ _ (if (Value.ref l == Value.none)=true then _ else _) _ _ s
 rw[if_neg (show ¬((Value.ref l == Value.none)=true) from Bool.false_ne_true)]
 show wpAny _ _ (field (.ref it) 1 >>= _) _ _ s
 refine wpAny_bind (wpAny_field ho hd (x:=.int i 0) rfl ?_)
 show wpAny _ _ (seqItems? (.ref l) >>= _) _ _ s
 refine wpAny_bind (wpAny_seqItems hol hdl ?_)
 simp only[Int.toNat_natCast,hx]
 refine wpAny_bind (wpAny_setField ho hd (by simp) (wpAny_pure ⟨x,rfl,wpAny_pure (hQ _ ?_ (Heap.SameBut.update ..))⟩))
 exact⟨_,Heap.get?_update_self _ ho (Obj.isFreed_of_fields (Obj.data_mapFields hd _)),(Obj.cls_mapFields ..).trans hc,by
  rw[Obj.data_mapFields hd];simp [rawInt]⟩
theorem a7B {it l:Addr} {i:Nat} {items} {Q:Value→Shared→Prop} (hh:A.handled=none)
  (hit:s.heap.IsTupleIter it l i) (hl:s.heap.IsTuple l items) (hx:items[i]?=none)
  (hE:∀ h' e,Heap.ExtBut it s.heap h'→(∃ o,h'.get? e=some o∧o.cls=.type "StopIteration")→E (.ref e) { s with heap:=h' }) :
  wpAny (model prog w) A (Builtin.SmallTypes.nextOf (.ref it)) Q E s:=by
 obtain⟨o,ho,hc,hd⟩:=id hit
 obtain⟨ol,hol,_,nl,hdl⟩:=hl
 unfold Builtin.SmallTypes.nextOf
 refine wpAny_bind (wpAny_callSpecial?_slot (name:=Str.ofString "__next__") hit.typeIs F.slot_tuple_iterator_next
  (wpAny_call_entry F.slot_tuple_iterator_next hit.typeIs F.entry_tuple_iterator_next ?_ (F.args_tuple_iterator_next_1 _)))
 show wpAny _ _ (field (.ref it) 0 >>= _) _ _ s
 refine wpAny_bind (wpAny_field ho hd (x:=.ref l) rfl ?_)
 show wpAny _ _ (if (Value.ref l == Value.none)=true then _ else _) _ _ s
 rw[if_neg (show ¬((Value.ref l == Value.none)=true) from Bool.false_ne_true)]
 show wpAny _ _ (field (.ref it) 1 >>= _) _ _ s
 refine wpAny_bind (wpAny_field ho hd (x:=.int i 0) rfl ?_)
 show wpAny _ _ (seqItems? (.ref l) >>= _) _ _ s
 refine wpAny_bind (wpAny_seqItems hol hdl ?_)
 simp only[Int.toNat_natCast,hx]
 refine wpAny_bind (wpAny_rule (wpAny_bind (wpAny_setField ho hd (by simp) ?_)))
 show wpAny _ _ (newExc (.type "StopIteration") [] >>= _) _ _ _
 refine wpAny_bind ?_
 simp only[newExc,newTuple]
 refine wpAny_bind (wpAny_newObj_type ?_ (by size_fits))
 refine wpAny_bind (m:=firstArgMember _ _) (wpAny_of_eq (a:=Value.none) (by first | rfl | (simp only[firstArgMember];rfl)) ?_)
 refine wpAny_newObj_type ?_ (by size_fits)
 simp only[raiseNew]
 refine wpAny_bind (wpAny_handled ?_)
 first | rw[show A.in1.handled=none from hh] | rw[hh]
 refine wpAny_bind (wpAny_pure (wpAny_throw ?_))
 exact hE _ _ (((Heap.SameBut.update ..).extBut.push _).push _) ⟨_,Heap.get?_push_size _ rfl,rfl⟩
theorem b0i (hh:A.handled=none) (it l:Addr) (hne:l≠it) (items:Array Value) :
  Draws prog w A it [it,l] items.size (fun i v=>items[i]?=some v) (fun i h=>h.IsTupleIter it l i∧h.IsTuple l items) where
 live:=fun _ _ st=>let ⟨o,ho,_⟩:=st.1;⟨o,ho⟩
 frame:=fun _ _ _ st hk=>⟨st.1.at fun o e=>hk it (by simp) o e,st.2.at fun o e=>hk l (by simp) o e⟩
 item:=fun i s Q E hi st hQ=>by
  refine a7c st.1 st.2 (x:=items[i]) (by simp [hi]) fun h' hit' hs'=>?_
  exact hQ _ h' s.toks (by simp [hi]) ⟨hit',st.2.extBut hs'.extBut hne⟩ hs'
 done:=fun s Q E st hE=>a7B hh st.1 st.2 (by simp) hE
end
noncomputable def IttE (K:PySem.W.Frag) (a:Addr) (n:Nat):It :=
 ⟨fun i H=>i < n∧∃ xs,SqT K H a xs∧xs.length=n,fun i H x H'=>∃ T y,x=.ref T∧H T=none∧H'=upd H T (.tup [.int i,y])∧∀ xs,SqT K H a xs→xs[i]?=some y,fun i H=>i=n∧∃ xs,SqT K H a xs∧xs.length=n⟩
theorem b2s {P:Program} {w:World} {K:PySem.W.Frag} {es:List Expr} {x1} {tp:Pos} (a e it:Addr) (n:Nat) (hne:e≠it) (hai:a≠it) (hae:a≠e):Turn P w K (.Tuple es x1 tp) (IttE K a n) [e,it] e (fun i h=>(∃ old,IsEnum h e it (i:Int) old)∧Heap.IsTupleIter h it a i) where
 mem:=by simp
 obj:=fun i h st b hb=>by
  obtain⟨⟨old,he⟩,hit⟩:=st
  have z:b=e∨b=it:=by simpa using hb
  rcases z with rfl | rfl
  ·exact⟨_,he,fun v z=>by cases z⟩
  ·obtain⟨o,q,c,d⟩:=hit
   exact⟨o,q,fun v z=>by rw[d] at z;cases z⟩
 keep:=fun i h h' st k=>by
  obtain⟨⟨old,he⟩,hit⟩:=st
  exact⟨⟨old,k e (by simp) _ he⟩,hit.at fun o q=>k it (by simp) o q⟩
 item:=by
  intro X hP hw hK hc i pins s σ H E I hf st hg
  subst hP hw hK
  obtain⟨⟨old,he⟩,hit⟩:=st
  obtain⟨hi,xs,hq,hxn⟩:=hg
  subst hxn
  obtain⟨its,rv,p,hz⟩:=I.tuple hq
  obtain⟨x,hx⟩:∃ x,xs[i]?=some x:=⟨_,List.getElem?_eq_getElem hi⟩
  obtain⟨u,hu,ru⟩:=rv.get hx
  have fe:=hf e (by simp)
  have fi:=hf it (by simp)
  have hpt:s.heap.IsTuple a its.toArray:=p
  have hsz0:i < its.toArray.size:=by have:=rv.length;simp;lia
  refine wpAny_pyNext_enum_itemD (b0i (A:=X.A.in1) (show X.A.in1.handled=none from I.ok.hd hc) it a hai its.toArray) he ⟨hit,hpt⟩ hsz0 hne (by simp [hne,hae.symm]) fun x' h1 tk hx' ho hit1 hT hsz hk=>?_
  obtain rfl:u=x':=by
   have e1:its.toArray[i]?=some u:=by simpa using hu
   exact Option.some.inj (e1.symm.trans hx')
  refine⟨_,rfl,wpAny_letOwnedTupleGo_enum ho fun h2 he2 hs2=>?_⟩
  have neT:s.heap.objs.size≠e:=Nat.ne_of_gt (Heap.lt_size he)
  have k2:∀ b o,b≠e→b≠it→s.heap.get? b=some o→h2.get? b=some o:=fun b o h3 h4 q=>(hs2.2 b h3).trans (hk b o h3 h4 q)
  have hT2:h2.get? s.heap.objs.size=some { cls:=.type "tuple",data:=.seq #[.int i tk,u] }:=(hs2.2 _ neT).trans hT
  have hn:H s.heap.objs.size=none:=I.hok.fresh (Nat.le_refl _)
  have I2:Inv X pins σ (upd H s.heap.objs.size (.tup [.int i,x])) { s with heap:=h2,toks:=tk+1 }:=I.turnNew fe fi k2 (Nat.le_refl _)
   ⟨by simp only[List.length_cons,List.length_nil];rw[sizeLine_eq];decide,[.int i tk,u],.cons ⟨_,rfl⟩ (.cons ru .nil),_,hT2,rfl,rfl,_,rfl⟩
  refine⟨.ref s.heap.objs.size,_,I2,rfl,⟨_,x,rfl,hn,rfl,fun ys hy=>by rw[I.tuple_inj hy hq];exact hx⟩,⟨⟨_,he2⟩,hit1.1.at fun o q=>(hs2.2 it hne.symm).trans q⟩,fun b hb=>?_⟩
  have z:b=e∨b=it:=by simpa using hb
  have hb':b < s.heap.objs.size:=by
   rcases z with rfl | rfl
   ·exact Heap.lt_size he
   ·obtain⟨o,q,_⟩:=hit
    exact Heap.lt_size q
  rw[a0v (Nat.ne_of_lt hb')]
  exact (hf b hb).1
 done:=by
  intro X hP hw hK hc i pins s σ H E I hf st hg
  subst hP hw hK
  obtain⟨⟨old,he⟩,hit⟩:=st
  obtain⟨hi,xs,hq,hxn⟩:=hg
  subst hi
  obtain⟨its,rv,p,hz⟩:=I.tuple hq
  have hl:=rv.length
  obtain⟨f0,f1,f2,f3,f4,f5⟩:=hf it (by simp)
  have hpt:s.heap.IsTuple a its.toArray:=p
  have hn2:i=its.toArray.size:=by simp;lia
  rw[hn2] at hit
  exact wpAny_pyNext_enum_endD (b0i (A:=X.A.in1) (show X.A.in1.handled=none from I.ok.hd hc) it a hai its.toArray) he ⟨hit,hpt⟩ fun h' eb=>⟨rfl,I.turned (t':=s.toks) (fun b o hb e=>eb b o hb e) f0 f1 f3 f4 f5⟩
 self:=fun A i s Q E st h=>by
  obtain⟨⟨old,he⟩,_⟩:=st
  exact wpAny_pyIter_enum he h
section
variable {X:Cx}
theorem b3a {K:PySem.W.Frag} {H:Hp} {a:Addr} {xs:List V} {ts:List T} (h:SqT K H a xs) (r:Reps K H xs ts):ItOk K H (IttE K a ts.length) ⟨enT ts,fun _=>True⟩:=by
 refine⟨fun H' M' k hh _=>⟨by show (enT ts).length=_;rw[a3d],xs,k.tup _ _ h,r.length⟩,fun i x H' M' e k hh _=>?_⟩
 obtain⟨t,ht,rfl⟩:=a8Q e
 obtain⟨v,e1,r1⟩:=r.get ht
 refine⟨⟨(List.getElem?_eq_some_iff.mp ht).1,xs,k.tup _ _ h,r.length⟩,fun v' H'' y=>?_⟩
 obtain⟨p,y,rfl,hn,rfl,hy⟩:=y
 have e2:=hy xs (k.tup _ _ h)
 rw[e1] at e2
 cases e2
 refine⟨Kp.new hn,hh.keep hn,a2i (SqT.of a0B) ?_⟩
 unfold Reps
 refine⟨_,_,rfl,a0P,?_⟩
 unfold Reps
 refine⟨_,_,rfl,Rep.kp (Kp.new hn) _ _ (Rep.kp k _ _ r1),?_⟩
 unfold Reps
 rfl
noncomputable def b7j (tl:TE3):TI3:=fun ρ M R=>tl ρ M fun x M1=>match x with
 | .tup ts=>R ⟨enT ts,fun _=>True⟩ M1
 | _=>False
theorem b8J {es:List Expr} {x1} {tp pos:Pos} {l:Expr} {tl:TE3} {p:Pos} (hm:X.mg "enumerate"=none) (hl:HE X l tl) (hg:Gl X "enumerate":=by rfl) (hs:starEach [l] X.env=[(false,eval l X.env)]:=by rfl):HI X (.Tuple es x1 tp) (.Call (.Name "enumerate" p) [l] [] pos) (b7j tl):=by
 intro ρ M R h pins s σ H R2 I b
 obtain⟨hr,hh,en⟩:=b
 have pa:=b1b (X:=X) (hl.d (ρ:=ρ)) b4b hs
 refine Call_ (a6w I hg hm PyProof.Rows.boot_enumerate (PyProof.Rows.callWith_type1 (thn (pa pos pins s σ H (fun vs H1=>∃ v t M1,vs=[v]∧Kp X.K H H1∧HR X.K H1 M1∧Rep X.K H1 v t∧(match t with
  | .tup ts=>R ⟨enT ts,fun _=>True⟩ M1
  | _=>False)) I ⟨M,_,h,hr,hh,fun t v M1 H1 k1 h1 r1 q1=>⟨v,t,M1,rfl,k1,h1,r1,q1⟩⟩) fun us s1 ⟨vs,H1,I1,r1,v,t,M1,e,k1,h1,rt,q1⟩=>?_) hs rfl))
 subst e
 cases r1 with
 | cons r rr =>
   cases rr
   split at q1
   ·rename_i ts
    obtain⟨a,xs,rfl,g1,g2⟩:=a1g rt
    cases r
    obtain⟨its,rv,p,hz⟩:=I1.tuple g1
    have hpt:s1.heap.IsTuple a its.toArray:=p
    have ha:a < s1.heap.objs.size:=by obtain⟨o,ho,_⟩:=hpt;exact Heap.lt_size ho
    refine b3k hpt fun h' he hit hsz hk=>?_
    refine wpAny_pyIter_enum (s:={ s1 with heap:=h' }) he ?_
    refine⟨s1.heap.objs.size+1,[s1.heap.objs.size+1,s1.heap.objs.size],_,_,H1,rfl,I1.kept (t':=s1.toks) hk,b2s a _ _ ts.length (Nat.succ_ne_self _) (Nat.ne_of_lt ha) (Nat.ne_of_lt (Nat.lt_succ_of_lt ha)),⟨⟨_,he⟩,hit⟩,fun b hb=>?_,en _ _ M1 H1 k1 h1 (b3a g1 g2) q1⟩
    have z:b=s1.heap.objs.size+1∨b=s1.heap.objs.size:=by simpa using hb
    rcases z with rfl | rfl
    ·exact I1.fpOk (Nat.le_succ _) (I1.hok.fresh (Nat.le_succ _))
    ·exact I1.fpOk (Nat.le_refl _) (I1.hok.fresh (Nat.le_refl _))
   ·exact q1.elim
end
theorem a9j {es rest:List Expr} {x1} {pos:Pos} {env:Env}:starEach (.Tuple es x1 pos :: rest) env=(false,eval (.Tuple es x1 pos) env) :: starEach rest env:=rfl
theorem a4P {X:Cx} {es1 es:List Expr} {x1} {pos:Pos} {ta:TE3} {t:TA3} (ha:HE X (.Tuple es1 x1 pos) ta) (hr:HA X es t):HA X (.Tuple es1 x1 pos :: es) (b3t ta t):=a0a ha hr (hs:=a9j)
end L2
namespace L2
open PySem PySem.Spec PyProof.Rows
section
variable {prog:Program} {w:World} {A:Around} {E:Value→Shared→Prop} {s:Shared}
theorem b1x {l:Addr} {vs:List Value} {Q:List Value→Shared→Prop} (hl:s.heap.IsTuple l vs.toArray)
  (h:Q vs { s with heap:=(s.heap.push (seqObj "list" #[] 0)).update s.heap.objs.size (Obj.mapSeq (·++vs.toArray)) }) (hsz:vs.length≤sizeLine) :
  wpAny (model prog w) A (collect (.ref l)) Q E s:=by
 obtain⟨o,ho,hc,n,hd⟩:=id hl
 unfold collect
 refine wpAny_bind (wpAny_runValue (codeAny_builtin entry_proto_collect' ?_))
 show wpAny _ _ (do again (.builtin "list.__iadd__" ⟨[← newList [],.ref l],[]⟩)) _ _ s
 refine wpAny_bind (wpAny_newList (wpAny_pure ⟨Code.quiet_builtin _ (by decide +kernel),codeAny_builtin entry_list_iadd' ?_⟩))
 show wpAny _ _ (Builtin.List.listExtendWith (.ref s.heap.objs.size) (.ref l) (.ref s.heap.objs.size)) _ _ { s with heap:=s.heap.push (seqObj "list" #[] 0) }
 unfold Builtin.List.listExtendWith
 have ho':(s.heap.push (seqObj "list" #[] 0)).get? l=some o:=Heap.get?_push_of_some _ ho
 refine wpAny_bind (wpAny_typeOf (T:="tuple") ⟨o,ho',hc⟩ ?_)
 have ht:(Value.type "tuple" == Value.type "tuple")=true:=by rfl
 rw[if_pos (by rw[ht];simp)]
 refine wpAny_bind (listItems_at ho' hd ?_)
 refine wpAny_bind (listItems_at (xs:=#[]) (n:=0) (Heap.get?_push_size _ rfl) rfl ?_)
 rw[if_neg (by simp)]
 refine wpAny_bind (listUpdate_at (xs:=#[]) (n:=0) (Heap.get?_push_size _ rfl) rfl ?_ (Nat.zero_le _) (by show (#[]++vs.toArray).size≤sizeLine+1;simp only[Array.size_append,List.size_toArray,List.length_nil];lia))
 refine wpAny_pure ?_
 show wpAny (model prog w) A (do
   let o ← load s.heap.objs.size
   match o.data with
   | .seq xs _=>pure xs.toList
   | _=>unsupported "internal:collect") Q E { s with heap:=(s.heap.push (seqObj "list" #[] 0)).update s.heap.objs.size (Obj.mapSeq (·++vs.toArray)) }
 refine wpAny_bind (wpAny_load (get?_update_seq (Heap.get?_push_size _ rfl) _) ?_)
 show wpAny _ _ (pure ((#[]:Array Value)++vs.toArray).toList) Q E _
 rw[show ((#[]:Array Value)++vs.toArray).toList=vs by simp]
 exact wpAny_pure h
theorem a9l {l:Addr} {vs:List Value} {ns:List Int} {Q:Value→Shared→Prop} (hI:IntsAre vs ns) (h64:vs.length < 64)
  (hcol:∀ (Q':List Value→Shared→Prop),Q' vs { s with heap:=(s.heap.push (seqObj "list" #[] 0)).update s.heap.objs.size (Obj.mapSeq (·++vs.toArray)) }→wpAny (model prog w) A.in1 (collect (.ref l)) Q' E s)
  (h:∀ (out:Array Value) (ns':List Int),IntsAre out.toList ns'→ns'.Perm ns→ns'.Pairwise (·≤·)→Q (.ref (s.heap.objs.size+1)) { s with heap:=sortedAll s.heap vs out }) :
  wpAny (model prog w) A (call (.builtin "sorted") [.ref l]) Q E s:=by
 refine Calls.call_function_entry kind_sorted plain_sorted entry_sorted (args_sorted1 _) ?_
 unfold Builtin.«sorted»
 refine wpAny_bind (m:=checkCount "sorted" 1 1 _) (wpAny_pure ?_)
 refine wpAny_bind (hcol _ ?_)
 refine wpAny_bind (wpAny_newList ?_)
 have hsz:((s.heap.push (seqObj "list" #[] 0)).update s.heap.objs.size (Obj.mapSeq (·++vs.toArray))).objs.size=s.heap.objs.size+1:=by
  rw[Heap.size_update,size_push']
 have hoL:(((s.heap.push (seqObj "list" #[] 0)).update s.heap.objs.size (Obj.mapSeq (·++vs.toArray))).push (seqObj "list" vs.toArray 0)).get? (s.heap.objs.size+1)=some (seqObj "list" vs.toArray 0):=by
  rw[← hsz];exact Heap.get?_push_size _ rfl
 show wpAny _ _ _ _ _ { s with heap:=((s.heap.push (seqObj "list" #[] 0)).update s.heap.objs.size (Obj.mapSeq (·++vs.toArray))).push (seqObj "list" vs.toArray 0) }
 rw[hsz]
 refine wpAny_bind (wpAny_holding (wpAny_call_entry slot_list_sort ⟨_,hoL,rfl⟩ entry_list_sort (list_sort_tree hoL hI h64 fun out ns' a1 a2 a3=>⟨_,rfl,?_⟩) (args_list_sort _)))
 exact wpAny_pure ⟨_,rfl,h out ns' a1 a2 a3⟩
end
section
variable {X:Cx}
theorem a5n:a5V X (.builtin "sorted") (fun xs H Q=>∃ p ns,xs=[.ref p]∧(SqL X.K H p (ns.map V.int)∨SqT X.K H p (ns.map V.int))∧ns.length < 64∧∀ ms:List Int,ms.Perm ns→ms.Pairwise (·≤·)→∀ l,H l=none→Q (.ref l) (upd H l (.lst (ms.map V.int)))):=by
 intro pins s σ H xs us Q I r h
 obtain⟨p,ns,rfl,hq,h64,q⟩:=h
 obtain⟨u,rfl,rx⟩:=a5o r
 cases rx
 have fin:∀ (its:List Value),its.length=ns.length→∀ (out:Array Value) (ns':List Int),IntsAre out.toList ns'→ns'.Perm ns→ns'.Pairwise (·≤·)→EP X pins σ Q (.ref (s.heap.objs.size+1)) { s with heap:=sortedAll s.heap its out }:=by
  intro its hl out ns' h1 h2 h3
  obtain⟨e,he⟩:=sortedAll_at s.heap its out
  have hv:=a6O h1
  have hn:ns'.length≤sizeLine:=by rw[h2.length_eq,sizeLine_eq];lia
  refine⟨.ref (s.heap.objs.size+1),_,I.laid (t':=s.toks) (fun b o hb=>sortedAll_old hb) (Nat.le_succ _) (show a2a X.prog X.w _ (sortedAll s.heap its out) _ (.lst (ns'.map V.int)) from ⟨by rw[List.length_map];exact hn,out.toList,e,hv,by rw[Array.toArray_toList];exact he⟩),rfl,q ns' h2 h3 _ (I.hok.fresh (Nat.le_succ _))⟩
 rcases hq with hq | hq
 ·obtain⟨its,r',pl,hz⟩:=I.list hq
  have hlen:its.length=ns.length:=by have:=r'.length;rw[List.length_map] at this;lia
  have hl:=pl.isList
  exact a9l (vs:=its) (a7V r') (by lia) (fun Q' q'=>collect_list (by simpa using hl) q' (by rw[sizeLine_eq];lia)) (fin its hlen)
 ·obtain⟨its,r',pl,hz⟩:=I.tuple hq
  have hlen:its.length=ns.length:=by have:=r'.length;rw[List.length_map] at this;lia
  have hl:s.heap.IsTuple p its.toArray:=pl
  exact a9l (vs:=its) (a7V r') (by lia) (fun Q' q'=>b1x hl q' (by rw[sizeLine_eq];lia)) (fin its hlen)
noncomputable def a8t:List T→MH→VK3→Prop:=fun xs M Q=>match xs with
 | [.tup ts]=>∃ ns:List Int,ts=ns.map .int∧ns.length < 64∧∀ ms:List Int,ms.Perm ns→ms.Pairwise (·≤·)→∀ r,M r=none→Q (.adr r) (updM M r (.lst (ms.map .int)))
 | [.adr p]=>(match M p with | some (.lst ts)=>∃ ns:List Int,ts=ns.map .int∧ns.length < 64∧∀ ms:List Int,ms.Perm ns→ms.Pairwise (·≤·)→∀ r,M r=none→Q (.adr r) (updM M r (.lst (ms.map .int))) | _=>False)
 | _=>False
theorem a6U {K:PySem.W.Frag} {H:Hp}:∀ {ns:List Int} {vs:List V},Reps K H vs (ns.map .int)→vs=ns.map V.int
 | [],_,r=>by unfold Reps at r;exact r
 | n :: ns,_,r=>by
   rw[List.map_cons] at r
   unfold Reps at r
   obtain⟨v,w,rfl,r1,r2⟩:=r
   obtain rfl:=a0w r1
   rw[a6U r2]
   rfl
theorem a7h {K:PySem.W.Frag} {H:Hp}:∀ ns:List Int,Reps K H (ns.map V.int) (ns.map .int)
 | []=>by rw[List.map_nil,List.map_nil];unfold Reps;rfl
 | n :: ns=>by
   rw[List.map_cons,List.map_cons]
   unfold Reps
   exact⟨_,_,rfl,a0P,a7h ns⟩
theorem b0v:a3T X (.builtin "sorted") a8t:=by
 intro pins s σ H vs us Q2 I r h
 obtain⟨xs,M,Q,rr,hh,q,en⟩:=h
 unfold a8t at q
 split at q
 ·obtain⟨v,rfl,r1⟩:=a2m rr
  obtain⟨p,ys,rfl,g1,g2⟩:=a1g r1
  obtain⟨ns,rfl,h64,q⟩:=q
  obtain rfl:=a6U g2
  exact a5n pins s σ H _ us Q2 I r ⟨p,ns,rfl,.inr g1,h64,fun ms h1 h2 l hl=>en _ _ _ _ (Kp.new hl) (hh.newL hl (a7h ms)) a2j (q ms h1 h2 l (hh.free hl))⟩
 ·obtain⟨v,rfl,r1⟩:=a2m rr
  obtain rfl:=a0L r1
  split at q
  ·rename_i ts e0
   obtain⟨ns,rfl,h64,q⟩:=q
   obtain⟨ys,g1,g2⟩:=hh _ _ e0
   obtain rfl:=a6U g2
   exact a5n pins s σ H _ us Q2 I r ⟨_,ns,rfl,.inl (SqL.of g1),h64,fun ms h1 h2 l hl=>en _ _ _ _ (Kp.new hl) (hh.newL hl (a7h ms)) a2j (q ms h1 h2 l (hh.free hl))⟩
  ·exact q.elim
 ·exact q.elim
end
theorem c0s {α:Type} {us:List α} {P:List α→Prop} (hl:us.length=1) (h:∀ a:α,P [a]):P us:=by
 obtain⟨a,rfl⟩:=List.length_eq_one_iff.mp hl
 exact h a
theorem c0r {α:Type} {us:List α} {P:List α→Prop} (hl:us.length=2) (h:∀ a b:α,P [a,b]):P us:=by
 obtain⟨a,r,rfl⟩:=List.exists_cons_of_length_eq_add_one hl
 exact c0s (P:=fun r=>P (a :: r)) (Nat.succ.inj hl) (h a)
theorem c0q {α:Type} {us:List α} {P:List α→Prop} (hl:us.length=3) (h:∀ a b c:α,P [a,b,c]):P us:=by
 obtain⟨a,r,rfl⟩:=List.exists_cons_of_length_eq_add_one hl
 exact c0r (P:=fun r=>P (a :: r)) (Nat.succ.inj hl) (h a)
theorem c0p {α:Type} {us:List α} {P:List α→Prop} (hl:us.length=4) (h:∀ a b c d:α,P [a,b,c,d]):P us:=by
 obtain⟨a,r,rfl⟩:=List.exists_cons_of_length_eq_add_one hl
 exact c0q (P:=fun r=>P (a :: r)) (Nat.succ.inj hl) (h a)
theorem c0o {α:Type} {us:List α} {P:List α→Prop} (hl:us.length=5) (h:∀ a b c d e:α,P [a,b,c,d,e]):P us:=by
 obtain⟨a,r,rfl⟩:=List.exists_cons_of_length_eq_add_one hl
 exact c0p (P:=fun r=>P (a :: r)) (Nat.succ.inj hl) (h a)
theorem c1H {α:Type} {us:List α} {P:List α→Prop} (hl:us.length=6) (h:∀ a b c d e f:α,P [a,b,c,d,e,f]):P us:=by
 obtain⟨a,r,rfl⟩:=List.exists_cons_of_length_eq_add_one hl
 exact c0o (P:=fun r=>P (a :: r)) (Nat.succ.inj hl) (h a)
theorem c1I {α:Type} {us:List α} {P:List α→Prop} (hl:us.length=0) (h:P []):P us:=by obtain rfl:=List.eq_nil_of_length_eq_zero hl;exact h
section
variable {X:Cx}
end
section
variable {X:Cx}
theorem a7I:∀ {ns:List Int} {its:List Value},Vals (ns.map V.int) its→IntsAre its ns
 | [],_,h=>by cases h;exact .nil
 | n :: ns,_,h=>by
   cases h with
   | cons r h =>
     obtain⟨t,rfl⟩:=r
     exact .cons _ _ (a7I h)
theorem a8V (hc:X.calm=true):a5V X (.builtin "sum") (fun xs H Q=>∃ (p:Addr) (ns:List Int),xs=[.ref p]∧SqL X.K H p (ns.map V.int)∧Q (.int ns.sum) H):=by
 intro pins s σ H xs us Q I r h
 obtain⟨p,ns,rfl,hq,q⟩:=h
 obtain⟨u,rfl,rx⟩:=a5o r
 cases rx
 obtain⟨its,r',pl,hz⟩:=I.list hq
 have hi:=a7I r'
 obtain⟨ys,e⟩:=hi.allInts.items
 have hl:=pl.isList
 rw[e] at hl
 refine sum_intListG (I.ok.hd hc) hl fun h' tk t' hk=>?_
 have e2:preSum (numAt ys) ys.size=ns.sum:=by
  rw[preSum_eq,List.take_of_length_le (by simp),← nums_intItems,← e]
  show (numsOf its).sum=_
  rw[hi.numsOf]
 rw[e2]
 have I1:Inv X pins σ H { s with heap:=h',toks:=tk }:=I.kept hk
 exact⟨.int _,H,I1,⟨_,rfl⟩,q⟩
noncomputable def b7J:List T→MH→VK3→Prop:=fun xs M Q=>match xs with
 | [.adr p]=>(match M p with | some (.lst ts)=>(match a6D ts with | some ns=>Q (.int ns.sum) M | none=>False) | _=>False)
 | _=>False
theorem b5h (hc:X.calm=true):a3T X (.builtin "sum") b7J:=by
 intro pins s σ H vs us Q2 I r h
 obtain⟨xs,M,Q,rr,hh,q,en⟩:=h
 unfold b7J at q
 split at q
 ·obtain⟨v,rfl,r1⟩:=a2m rr
  obtain rfl:=a0L r1
  split at q
  ·rename_i ts e0
   obtain⟨ys,g1,g2⟩:=hh _ _ e0
   split at q
   ·rename_i ns eb
    obtain rfl:=a5b eb
    obtain rfl:=Reps.ints g2
    exact a8V hc pins s σ H _ us Q2 I r ⟨_,ns,rfl,SqL.of g1,en _ _ M H Kp.refl hh a0P q⟩
   ·exact q.elim
  ·exact q.elim
 ·exact q.elim
end
end L2
namespace L2
open PySem PySem.Spec PyProof.Rows LM
section
variable {κ:Type} [DecidableEq κ]
theorem b1D (k j:κ) (y:T):∀ kvs:List (κ × T),valT (kvs.map fun kv=>if kv.1=k then (kv.1,y) else kv) j=if j=k then (valT kvs j).map (fun _=>y) else valT kvs j
 | []=>by show (none:Option T)=_;split<;>rfl
 | p :: r=>by
   have ih:=b1D k j y r
   rw[List.map_cons,a2v,a2v,ih]
   by_cases c:p.1=k
   ·rw[if_pos c]
    by_cases d:p.1=j
    ·rw[if_pos d,if_pos d,if_pos (d.symm.trans c)];rfl
    ·rw[if_neg d,if_neg d]
   ·rw[if_neg c]
    by_cases d:p.1=j
    ·rw[if_pos d,if_pos d,if_neg (fun z=>c (d.trans z))]
    ·rw[if_neg d,if_neg d]
theorem a9b (k j:κ) (y:T):∀ kvs:List (κ × T),valT (kvs++[(k,y)]) j=match valT kvs j with | some t=>some t | none=>if k=j then some y else none
 | []=>by rw[List.nil_append,a2v];rfl
 | p :: r=>by
   rw[List.cons_append,a2v,a2v,a9b k j y r]
   by_cases d:p.1=j
   ·rw[if_pos d,if_pos d]
   ·rw[if_neg d,if_neg d]
theorem a5z (k:κ):∀ kvs:List (κ × T),(kvs.any fun kv=>decide (kv.1=k))=(valT kvs k).isSome
 | []=>rfl
 | p :: r=>by
   rw[List.any_cons,a2v,a5z k r]
   by_cases e:p.1=k
   ·rw[if_pos e,decide_eq_true e];rfl
   ·rw[if_neg e,decide_eq_false e];rfl
theorem b5r (kvs:List (κ × T)) (k j:κ) (y:T):valT (putT kvs k y) j=if j=k then some y else valT kvs j:=by
 unfold putT
 rw[a5z]
 by_cases c:(valT kvs k).isSome=true
 ·rw[if_pos c,b1D]
  by_cases d:j=k
  ·rw[if_pos d,if_pos d]
   subst d
   cases e:valT kvs j with
   | none=>rw[e] at c;cases c
   | some t=>rfl
  ·rw[if_neg d,if_neg d]
 ·rw[if_neg c,a9b]
  have hn:valT kvs k=none:=by
   cases e:valT kvs k with
   | none=>rfl
   | some t=>rw[e] at c;exact absurd rfl c
  by_cases d:j=k
  ·subst d
   rw[hn]
  ·rw[if_neg d]
   cases valT kvs j with
   | none=>rw[if_neg (fun z=>d z.symm)]
   | some t=>rfl
end
section
variable {X:Cx}
end
noncomputable def InM (m c:Int):Prop:=0≤c∧c < m
theorem b2D {m c:Int}:c∈a0j m↔InM m c:=⟨a0E,fun h=>a1e h.1 h.2⟩
theorem a8r {n p q:Int} (hp:LetOK n p) (hq:LetOK n q) (s:p*q > 0) (d:(p - q).natAbs=1):RelW n [p,q,-p] [-q,p,q]:=by
 have x1:=RelW.ctx (w:=[-q,- -q]) (v:=[]) [] [p,q,-p] .nil (.three hp hq hp.neg) (RelW.out hq.neg)
 have x2:=RelW.ctx (w:=[q,p,q]) (v:=[p,q,p]) [-q] [-p] (.one hq.neg) (.one hp.neg) (RelW.three hp hq s d).symm
 have x3:=RelW.ctx (w:=[p,-p]) (v:=[]) [-q,p,q] [] (.three hq.neg hp hq) .nil (RelW.out hp)
 rw[Int.neg_neg] at x1
 exact x1.symm.trans (x2.trans x3)
theorem a6a {a l:Int} (h:0 < l):sgnL a l=(a.natAbs:Int):=if_neg (by lia)
theorem a6b {a l:Int} (h:l < 0):sgnL a l=-(a.natAbs:Int):=if_pos h
theorem b0S {n p q r:Int} (hp:LetOK n p) (hq:LetOK n q) (hr:LetOK n r) (h:a7v p q r):RelW n [p,q,r] [sgnL q r,sgnL p q,sgnL q p]:=by
 obtain⟨h1,h2,h3⟩:=h
 have ne1:=hp.ne
 have ne2:=hq.ne
 have pos:∀ {x y:Int},0 < x→0 < y→x*y > 0:=fun a b=>Int.mul_pos a b
 have neg:∀ {x y:Int},x < 0→y < 0→x*y > 0:=fun a b=>Int.mul_pos_of_neg_of_neg a b
 rcases (show r=p∨r=-p by lia) with rfl | rfl
 ·have h3:=h3 rfl
  rcases Int.lt_or_le 0 r with z | z
  ·have z2:=h3.mp z
   rw[a6a z,a6a z2,show (q.natAbs:Int)=q by lia,show (r.natAbs:Int)=r by lia]
   exact .three hp hq (pos z z2) (by lia)
  ·have z2:q < 0:=by
    rcases Int.lt_or_le 0 q with y | y
    ·exact absurd (h3.mpr y) (by lia)
    ·lia
   rw[a6b (show r < 0 by lia),a6b z2,show -(q.natAbs:Int)=q by lia,show -(r.natAbs:Int)=r by lia]
   exact .three hp hq (neg (by lia) z2) (by lia)
 ·rcases Int.lt_or_le 0 p with z | z
  ·rw[a6b (show -p < 0 by lia),a6a z]
   rcases Int.lt_or_le 0 q with y | y
   ·rw[a6a y,show (q.natAbs:Int)=q by lia,show (p.natAbs:Int)=p by lia]
    exact a8r hp hq (pos z y) (by lia)
   ·rw[a6b (show q < 0 by lia)]
    have:=(a8r (p:=q) (q:=-p) hq hp.neg (neg (by lia) (by lia)) (by lia)).symm
    rw[Int.neg_neg] at this
    rw[show -(q.natAbs:Int)=q by lia,show -(p.natAbs:Int)=-p by lia,show (q.natAbs:Int)=-q by lia]
    exact this
  ·rw[a6a (show 0 < -p by lia),a6b (show p < 0 by lia)]
   rcases Int.lt_or_le 0 q with y | y
   ·rw[a6a y]
    have:=(a8r (p:=q) (q:=-p) hq hp.neg (pos (by lia) (by lia)) (by lia)).symm
    rw[Int.neg_neg] at this
    rw[show (q.natAbs:Int)=q by lia,show (p.natAbs:Int)=-p by lia]
    exact this
   ·rw[a6b (show q < 0 by lia)]
    rw[show (q.natAbs:Int)=-q by lia,show (p.natAbs:Int)=-p by lia,Int.neg_neg,Int.neg_neg]
    exact a8r hp hq (neg (by lia) (by lia)) (by lia)
theorem b0T {n:Int} {A B w v:List Int} (hA:WordOK n A) (hB:WordOK n B) (h:RelW n w v):RelW n (A++(w++B)) (A++(v++B)):=by
 have:=RelW.ctx A B hA hB h
 rwa [List.append_assoc,List.append_assoc] at this
theorem b5m {n:Int} {w r:List Int} {s:Stp} (hw:WordOK n w) (h:aft n w s=some r):RelW n w r:=by
 cases s with
 | far a =>
   replace h:(if a1c w a=true then some (a2w w a.toNat) else none)=some r:=h
   split at h
   ·rename_i c
    obtain rfl:=Option.some.inj h
    have c0:=c
    unfold a1c at c
    simp only[Bool.and_eq_true,decide_eq_true_eq] at c
    obtain⟨A,p,q,B,rfl,hA⟩:=cut2 c.1.1 c.1.2
    have c2:=c.2
    rw[a5m c.1.1 hA,a5v c.1.1 hA] at c2
    rw[a3H hA]
    have hp:=hw p (by simp)
    have hq:=hw q (by simp)
    exact b0T (w:=[p,q]) (v:=[q,p]) hw.appl (fun x hx=>hw x (by simp [hx])) (.far hp hq (by lia))
   ·cases h
 | three a =>
   replace h:(if a0F w a=true then some (a3k w a) else none)=some r:=h
   split at h
   ·rename_i c
    obtain rfl:=Option.some.inj h
    have hb:0≤a∧a < (w.length:Int) - 2:=by
     unfold a0F at c
     simp only[Bool.and_eq_true,decide_eq_true_eq] at c
     exact c.1
    obtain⟨A,p,q,r,B,rfl,hA⟩:=cut3 hb.1 hb.2
    have hp:=hw p (by simp)
    have hq:=hw q (by simp)
    have hr:=hw r (by simp)
    rw[a5U hb.1 hA hp.ne hq.ne] at c
    rw[a5p hb.1 hA]
    exact b0T (w:=[p,q,r]) (v:=[_,_,_]) hw.appl (fun x hx=>hw x (by simp [hx])) (b0S hp hq hr c)
   ·cases h
 | out a =>
   replace h:(if a1k w a=true then some (outL w a) else none)=some r:=h
   split at h
   ·rename_i c
    obtain rfl:=Option.some.inj h
    unfold a1k at c
    simp only[Bool.and_eq_true,decide_eq_true_eq] at c
    obtain⟨A,p,q,B,rfl,hA⟩:=cut2 c.1.1 c.1.2
    have c2:=c.2
    rw[a5m c.1.1 hA,a5v c.1.1 hA] at c2
    have e:outL (A++p :: q :: B) a=A++([]++B):=by
     unfold outL
     rw[← hA,show (a+2).toNat=A.length+2 by lia,List.take_left]
     congr 1
     rw[← List.drop_drop,List.drop_left];rfl
    rw[e]
    obtain rfl:q=-p:=by lia
    exact b0T (w:=[p,-p]) (v:=[]) hw.appl (fun x hx=>hw x (by simp [hx])) (.out (hw p (by simp)))
   ·cases h
 | inn a l =>
   replace h:(if inB n w a l=true then some (inL w a l) else none)=some r:=h
   split at h
   ·rename_i c
    obtain rfl:=Option.some.inj h
    unfold inB at c
    simp only[Bool.and_eq_true,decide_eq_true_eq,a3h] at c
    have:=(RelW.ctx (w:=[l,-l]) (v:=[]) (w.take a.toNat) (w.drop a.toNat) (WordOK.take hw _) (WordOK.drop hw _) (RelW.out c.2)).symm
    rw[List.append_nil,List.take_append_drop] at this
    exact this
   ·cases h
section
variable {X:Cx}
end
theorem a4o:∀ (l r:List Int),l.Nodup→(∀ x∈l,x∈r)→r.length≤l.length→l.Perm r
 | [],r,_,_,h=>by
   rw[List.length_nil] at h
   rw[List.eq_nil_of_length_eq_zero (by lia:r.length=0)]
 | x :: l,r,nd,hs,h=>by
   have hx:=hs x List.mem_cons_self
   have nd':=List.nodup_cons.mp nd
   refine (List.Perm.cons x (a4o l (r.erase x) nd'.2 (fun y hy=>?_) ?_)).trans (List.perm_cons_erase hx).symm
   ·exact (List.mem_erase_of_ne (fun z=>nd'.1 (by rw[← z];exact hy))).mpr (hs y (List.mem_cons_of_mem _ hy))
   ·rw[List.length_erase_of_mem hx]
    rw[List.length_cons] at h
    lia
theorem c1P {us:List Int} {m:Int} (hp:us.Perm (a0j m)) {a:Int} (ha:InM m a):InM m (gI us a)∧((us.idxOf (gI us a):Nat):Int)=a:=by
 have e:us.length=m.toNat:=by rw[hp.length_eq,a0l]
 have hl:a.toNat < us.length:=by have:=ha.1;have:=ha.2;lia
 have hg:gI us a=us[a.toNat]:=by
  unfold gI
  rw[List.getD_eq_getElem?_getD,List.getElem?_eq_getElem hl];rfl
 have nd:us.Nodup:=hp.nodup_iff.mpr (a1B m)
 rw[hg]
 refine⟨b2D.mp (hp.mem_iff.mp (List.getElem_mem hl)),?_⟩
 have hi:=List.idxOf_lt_length_of_mem (List.getElem_mem hl)
 have h2:us[us.idxOf us[a.toNat]]=us[a.toNat]:=List.getElem_idxOf hi
 have q:us.idxOf us[a.toNat]=a.toNat:=by
  have pw:=List.pairwise_iff_getElem.mp nd
  rcases Nat.lt_trichotomy (us.idxOf us[a.toNat]) a.toNat with z | z | z
  ·exact absurd h2 (pw _ _ hi hl z)
  ·exact z
  ·exact absurd h2.symm (pw _ _ hl hi z)
 rw[q]
 exact Int.toNat_of_nonneg ha.1
section
variable {prog:Program} {w:World} {A:Around} {E:Value→Shared→Prop} {s:Shared}
end
section
variable {X:Cx} {pos:Pos}
end
theorem b0f {α:Type} (f:α→Bool) {L:List α} {i:Nat} {x:α} (h:L[i]?=some x):(L.take (i+1)).filter f=(L.take i).filter f++if f x=true then [x] else []:=by
 rw[List.take_add_one,h,List.filter_append]
 congr 1
 show List.filter f [x]=_
 rw[List.filter_cons]
 rfl
section
variable {X:Cx} {Ha:Hp} {a b:Expr} {ta tb:TE3} {tA:TT3} {pos:Pos}
end
section
variable {X:Cx} {Ha:Hp}
end
section
variable {X:Cx} {pos:Pos}
end
section
variable {X:Cx}
end
section
variable {X:Cx}
end
section
variable {X:Cx} {e:Expr} {te:TE3} {p p2 pos pos2:Pos}
end
noncomputable def insA (x:Int):List Int→List (List Int)
 | []=>[[x]]
 | y :: l=>(x :: y :: l) :: (insA x l).map (y :: ·)
noncomputable def a9v:List Int→List (List Int)
 | []=>[[]]
 | x :: l=>(a9v l).flatMap (insA x)
theorem b1W (x:Int):∀ s t:List Int,s++x :: t∈insA x (s++t)
 | [],[]=>.head _
 | [],y :: t=>.head _
 | y :: s,t=>.tail _ (List.mem_map.mpr ⟨_,b1W x s t,rfl⟩)
theorem a4Z:∀ {l r:List Int},r.Perm l→r∈a9v l
 | [],r,h=>by rw[h.eq_nil];exact .head _
 | x :: l,r,h=>by
   obtain⟨s,t,rfl⟩:=List.append_of_mem (h.mem_iff.mpr (.head _))
   have h2:(s++t).Perm l:=(List.perm_middle.symm.trans h).cons_inv
   exact List.mem_flatMap.mpr ⟨_,a4Z h2,b1W x s t⟩
noncomputable def cyc (o:List Int) (b:Int):Nat→Int→List Int→Option (List Int)
 | 0,_,_=>none
 | f+1,a,acc=>if a=b then some acc else cyc o b f (gI o a) (acc++[a])
noncomputable def pcF (o:List Int) (n b:Int):List Int:=(a0j n).filter fun x=>((cyc o b 7 (gI o b) [b]).getD []).contains x
noncomputable def cycB (n:Nat):Bool:=(a9v (a0j n)).all fun o=>(a0j n).all fun b=>match cyc o b 7 (gI o b) [b] with
 | none=>false
 | some c=>decide (c.Perm (pcF o n b))
theorem b8X:cycB 1=true∧cycB 2=true∧cycB 3=true∧cycB 4=true∧cycB 5=true∧cycB 6=true:=by decide +kernel
theorem b7o {o:List Int} {n b:Int} (n1:1≤n) (n6:n≤6) (ho:IsP n o) (hb:b∈a0j n):∃ c,cyc o b 7 (gI o b) [b]=some c∧c.Perm (pcF o n b):=by
 have key:cycB n.toNat=true:=by
  obtain⟨h1,h2,h3,h4,h5,h6⟩:=b8X
  rcases (show n=1∨n=2∨n=3∨n=4∨n=5∨n=6 by lia) with rfl | rfl | rfl | rfl | rfl | rfl
  ·exact h1
  ·exact h2
  ·exact h3
  ·exact h4
  ·exact h5
  ·exact h6
 have e:((n.toNat:Nat):Int)=n:=by lia
 unfold cycB at key
 rw[e] at key
 have k2:=List.all_eq_true.mp (List.all_eq_true.mp key o (a4Z ho)) b hb
 cases q:cyc o b 7 (gI o b) [b] with
 | none=>rw[q] at k2;cases k2
 | some c=>rw[q] at k2;exact⟨c,rfl,of_decide_eq_true k2⟩
noncomputable def b6R (td:TE3) (t:TA3) (j:Nat) (f:Int→Int→Int):TS3:=fun D ρ M=>td ρ M fun x M1=>t ρ M1 fun ks M2=>ks.length≤sizeLine∧(match x with
 | .adr p=>(match M2 p with
   | some (.dt kvs)=>∃ (kk:List Key) (n z:Int),ks=kk.map keyT∧valT kvs kk=some (.int n)∧ρ[j]?=some (some (.int z))∧kvs.length < sizeLine∧D.nx ρ (updM M2 p (.dt (putT kvs kk (.int (f n z)))))
   | _=>False)
 | _=>False)
section
variable {X:Cx}
theorem b7C {o:Expr} {es:List Expr} {x1} {p1 pv:Pos} {x:Str} (j:Nat) {td:TE3} {t:TA3} {op:Operator} {f:Int→Int→Int} {pos tpos:Pos} (hu:X.A.units+64 < cLine) (hp:PIp X op (ipI f)) (ho:HE X o td) (hi:HA X es t)
  (hN:X.N[j]?=some x:=by rfl) (hv:Vis X.env.scope x:=by first | exact Or.inl rfl | exact Or.inr (Or.inl rfl) | exact Or.inr (Or.inr rfl)) (hd:(x == ("__debug__":Str))=false:=by decide) (hcd:(x == ("__classdict__":Str))=false:=by decide)
  (ha:∀ ov iv new,augStore (.Tuple es x1 p1) ov iv new=(do holding [new,ov,iv] (setItem ov iv new);release [new,ov,iv] [];pure .next):=by intros;rfl):HS X (.AugAssign (.Subscript o (.Tuple es x1 p1) tpos) op (.Name x pv) pos) (b6R td t j f):=fun D ρ M h =>
 (b8e (rd:=ipI f) (by lia) (ho.d (ρ:=ρ)) (b1Q (hi.d (ρ:=ρ))) (b6X hN hv hd hcd) (fun pins s σ H x y u v Q=>hp pins s σ H x y u v Q) ha).imp fun D2 σ H ⟨hr,hh,en⟩=>⟨M,_,h,hr,hh,fun x v M1 H1 k1 h1 r1 q1=>⟨M1,_,q1,hr.kp k1,h1,fun ks vs M2 H2 k2 h2 r2 q2=>by
  obtain⟨hz,q2⟩:=q2
  refine⟨by rw[r2.length];exact hz,fun b hb=>?_⟩
  cases x with
  | adr p =>
    cases r1
    dsimp only at q2
    split at q2
    ·rename_i kvs e
     obtain⟨kk,n,z,rfl,ev,ej,hl,q2⟩:=q2
     obtain rfl:=a6I r2
     obtain⟨xs,g1,g2⟩:=h2 _ _ e
     have hv:=g2.val kk
     rw[ev] at hv
     obtain⟨u,e1,e2⟩:=hv
     obtain rfl:=a0w e2
     obtain⟨y,ey,ry⟩:=hr.2 j _ ej
     obtain rfl:=a0w ry
     have np:p≠b:=fun z=>by rw[← z,g1] at hb;cases hb
     have kb:=Kp.new (K:=X.K) (o:=.tup (kk.map kV)) hb
     have g1':upd H2 b (.tup (kk.map kV)) p=some (.dT xs):=by rw[a0v np];exact g1
     have kk':=Kp.dict (K:=X.K) (u:=.dT (putK xs kk (.int (f n z)))) g1' (.inr ⟨_,rfl⟩)
     have kall:=(k1.trans k2).trans (kb.trans kk')
     exact⟨_,.int n,rfl,by rw[← e1];exact DGet.t g1' a0B,.int z,ey,n,z,rfl,rfl,_,DPut.t g1' a0B (by rw[g2.length];exact hl),en.nx _ _ _ _ kall (hr.kp kall) ((h2.keep hb).setT g1' (.inr ⟨_,rfl⟩) ((g2.kp kb).put kk a0P)) q2⟩
    ·exact q2.elim
  | _=>exact q2.elim⟩⟩
end
noncomputable def mkS (st m:List Int) (p:Int):List Int:=(m.set p.toNat (if gI m (gI st p) < gI m p then gI m (gI st p) else gI m p)).set (gI st p).toNat (if gI m (gI st p) < gI m p then gI m (gI st p) else gI m p)
noncomputable def mkR (st:List Int) (n:Int) (m:List Int):List Int:=(a0j n).foldl (mkS st) m
noncomputable def mkF (st:List Int) (n:Int):List Int:=(a0j n).foldl (fun m _=>mkR st n m) (a0j n)
noncomputable def lpF (st:List Int) (n:Int):List (List Int):=((a0j n).filter fun p=>decide (gI (mkF st n) p=p)).map fun p=>(a0j n).filter fun q=>decide (gI (mkF st n) q=p)
noncomputable def pcs (o:List Int) (n:Int):List (List Int):=((a0j n).filter fun b=>decide (gI (pcF o n b) 0=b)).map (pcF o n)
noncomputable def lpB (n:Nat):Bool:=(a9v (a0j n)).all fun st=>decide (lpF st n=pcs ((a0j n).map fun s=>((st.idxOf s:Nat):Int)) n)
theorem b8A:lpB 1=true∧lpB 2=true∧lpB 3=true∧lpB 4=true∧lpB 5=true:=by decide +kernel
theorem b8z:lpB 6=true:=by decide +kernel
theorem c1F {st:List Int} {n:Int} (n1:1≤n) (n6:n≤6) (h:IsP n st):lpF st n=pcs ((a0j n).map fun s=>((st.idxOf s:Nat):Int)) n:=by
 have key:lpB n.toNat=true:=by
  obtain⟨h1,h2,h3,h4,h5⟩:=b8A
  rcases (show n=1∨n=2∨n=3∨n=4∨n=5∨n=6 by lia) with rfl | rfl | rfl | rfl | rfl | rfl
  ·exact h1
  ·exact h2
  ·exact h3
  ·exact h4
  ·exact h5
  ·exact b8z
 have e:((n.toNat:Nat):Int)=n:=by lia
 unfold lpB at key
 rw[e] at key
 exact of_decide_eq_true (List.all_eq_true.mp key st (a4Z h))
theorem b7h {n:Int} {ws:List Int} (n1:1≤n) (n6:n≤6) (hw:WordOK n ws):lpF (a1x n ws) n=pcs (a0D n ws) n:=c1F n1 n6 (a3I n ws (by lia) hw)
section
variable {P:Program} {w:World} {A:Around} {E:Value→Shared→Prop} {s:Shared}
theorem a6x {d:Addr} {o:Obj} {es:Array DictEntry} {ep:Nat} {Q:Value→Shared→Prop} (hd:(d == sysModules)=false) (ho:s.heap.get? d=some o) (hc:o.ExactDict) (hdat:o.data=.dict es ep)
  (hQ:∀ s1 it,it=s.heap.objs.size→s1.toks=s.toks→s1.gens=s.gens→s1={ s with heap:=s.heap.push { cls:=.type "dict_keyiterator",data:=.fields #[.ref d,.int 0 0,.int es.size 0,.int ep 0] } }→Q (.ref it) s1):wpAny (model P w) A (pyIter (.ref d)) Q E s:=by
 have hT:s.TypeIs (.ref d) "dict":=⟨o,ho,hc.1⟩
 refine wpAny_pyIter_slot hT F.slot_dict_iter (wpAny_call_entry F.slot_dict_iter hT F.entry_dict_iter (by
  unfold Builtin.«dict.__iter__»;refine wpAny_bind ?_;unfold Builtin.Dict.dictSlotNone
  refine wpAny_bind (wpAny_notOrdered_dict hT (by
   show wpAny _ _ (pure (Value.ref d)) _ _ s;refine wpAny_pure ?_
   show wpAny _ _ (Builtin.Dict.showsAll d >>= _) _ _ s;unfold Builtin.Dict.showsAll;rw[if_neg (fun z=>by rw[hd] at z;cases z)]
   refine wpAny_bind (wpAny_pure (wpAny_bind (wpAny_dictEntries ho hdat (wpAny_bind (wpAny_dictEpoch ho hdat (wpAny_bind (wpAny_newObj_type (wpAny_pure ⟨_,rfl,"dict_keyiterator",_,⟨_,Heap.get?_push_size _ rfl,rfl⟩,F.slot_dict_keyiterator_next.lookup,?_⟩))))))))
   exact hQ _ _ rfl rfl rfl (by simp [rawInt])))) (F.args_dict_iter_1 _))
theorem b1p {it d:Addr} {o:Obj} {es:Array DictEntry} {ep i:Nat} {e:DictEntry} {Q:Option Value→Shared→Prop} (hit:s.heap.IsKeyIter it d i es.size ep) (ho:s.heap.get? d=some o) (hdat:o.data=.dict es ep) (hx:es[i]?=some e)
  (hQ:∀ h',h'.IsKeyIter it d (i+1) es.size ep→Heap.SameBut it s.heap h'→Q (some e.key) { s with heap:=h' }):wpAny (model P w) A (pyNext (.ref it)) Q E s:=by
 obtain⟨oi,hoi,hci,hdi⟩:=id hit;unfold pyNext
 refine wpAny_bind (wpAny_attempt (wpAny_callSpecial?_slot (name:=Str.ofString "__next__") hit.typeIs F.slot_dict_keyiterator_next (wpAny_call_entry F.slot_dict_keyiterator_next hit.typeIs F.entry_dict_keyiterator_next (wpAny_bind (wpAny_pure (wpAny_bind (wpAny_bind ?_)))) (F.args_dict_keyiterator_next_1 _))))
 first | refine wpAny_bind (wpAny_typeNameOfWhole_keyiter hit.typeIs (wpAny_pure (wpAny_fieldsOf hoi hdi ?_ |> wpAny_bind))) | refine wpAny_bind (wpAny_typeNameOf_keyiter hit.typeIs (wpAny_pure (wpAny_fieldsOf hoi hdi ?_ |> wpAny_bind)))
 simp only[show Builtin.Dict_items.ownsTuple "dict_keyiterator"=false by decide,Bool.false_eq_true,if_false]
 show wpAny _ _ (if (Value.ref d == Value.none)=true then _ else _) _ _ s;rw[if_neg (fun z=>by cases z)]
 refine wpAny_bind (wpAny_pure (wpAny_bind (wpAny_dictEntries ho hdat ?_)));rw[if_neg (by simp)]
 refine wpAny_bind (wpAny_pure (wpAny_bind (wpAny_dictEpoch ho hdat ?_)));rw[if_neg (by simp)];refine wpAny_pure ?_
 simp only[show ¬((i:Int) < 0) from by lia,if_false,Int.toNat_natCast,hx]
 refine wpAny_bind ?_
 first | refine wpAny_bind (wpAny_typeNameOfWhole_keyiter hit.typeIs (wpAny_pure (wpAny_bind (wpAny_isOneOf_keyiter hit.typeIs ?_)))) | refine wpAny_bind (wpAny_typeNameOf_keyiter hit.typeIs (wpAny_pure (wpAny_bind (wpAny_isOneOf_keyiter hit.typeIs ?_))))
 show wpAny _ _ (setField (.ref it) 1 (rawInt ((i:Int)+1)) >>= _) _ _ s;refine wpAny_bind (wpAny_setField hoi hdi (by simp) ?_)
 have hit':(s.heap.update it (Obj.mapFields (·.setIfInBounds 1 (rawInt ((i:Int)+1))))).IsKeyIter it d (i+1) es.size ep:=⟨_,Heap.get?_update_self _ hoi (Obj.isFreed_of_fields (Obj.data_mapFields hdi _)),(Obj.cls_mapFields ..).trans hci,by rw[Obj.data_mapFields hdi];simp [rawInt]⟩
 refine wpAny_bind (wpAny_holding (wpAny_bind (wpAny_isOneOf_keyiter (s:={ s with heap:=s.heap.update it (Obj.mapFields (·.setIfInBounds 1 (rawInt ((i:Int)+1)))) }) hit'.typeIs ?_)))
 show wpAny _ _ (pure e.key) _ _ _;exact wpAny_pure (wpAny_pure ⟨_,rfl,wpAny_pure (hQ _ hit' (Heap.SameBut.update ..))⟩)
theorem b1o {it d:Addr} {o:Obj} {es:Array DictEntry} {ep i:Nat} {Q:Option Value→Shared→Prop} (hh:A.handled=none) (hit:s.heap.IsKeyIter it d i es.size ep) (ho:s.heap.get? d=some o) (hdat:o.data=.dict es ep) (hx:es[i]?=none)
  (hQ:∀ h',Heap.ExtBut it s.heap h'→Q none { s with heap:=h' }):wpAny (model P w) A (pyNext (.ref it)) Q E s:=by
 obtain⟨oi,hoi,hci,hdi⟩:=id hit;unfold pyNext
 refine wpAny_bind (wpAny_attempt (wpAny_callSpecial?_slot (name:=Str.ofString "__next__") hit.typeIs F.slot_dict_keyiterator_next (wpAny_call_entry F.slot_dict_keyiterator_next hit.typeIs F.entry_dict_keyiterator_next (wpAny_bind (wpAny_pure (wpAny_bind (wpAny_bind ?_)))) (F.args_dict_keyiterator_next_1 _))))
 first | refine wpAny_bind (wpAny_typeNameOfWhole_keyiter hit.typeIs (wpAny_pure (wpAny_fieldsOf hoi hdi ?_ |> wpAny_bind))) | refine wpAny_bind (wpAny_typeNameOf_keyiter hit.typeIs (wpAny_pure (wpAny_fieldsOf hoi hdi ?_ |> wpAny_bind)))
 simp only[show Builtin.Dict_items.ownsTuple "dict_keyiterator"=false by decide,Bool.false_eq_true,if_false]
 show wpAny _ _ (if (Value.ref d == Value.none)=true then _ else _) _ _ s;rw[if_neg (fun z=>by cases z)]
 refine wpAny_bind (wpAny_pure (wpAny_bind (wpAny_dictEntries ho hdat ?_)));rw[if_neg (by simp)]
 refine wpAny_bind (wpAny_pure (wpAny_bind (wpAny_dictEpoch ho hdat ?_)));rw[if_neg (by simp)];refine wpAny_pure ?_
 simp only[show ¬((i:Int) < 0) from by lia,if_false,Int.toNat_natCast,hx]
 refine wpAny_bind ?_
 refine wpAny_bind (wpAny_typeNameOfWhole_keyiter hit.typeIs (wpAny_pure ?_))
 show wpAny _ _ (setField (.ref it) 0 .none >>= _) _ _ s;refine wpAny_bind (wpAny_setField hoi hdi (by simp) ?_)
 show wpAny _ _ (newExc (.type "StopIteration") [] >>= _) _ _ _;refine wpAny_bind ?_
 simp only[newExc,newTuple];refine wpAny_bind (wpAny_newObj_type ?_ (by size_fits))
 refine wpAny_bind (m:=firstArgMember _ _) (wpAny_of_eq (a:=Value.none) (by first | rfl | (simp only[firstArgMember];rfl)) (wpAny_newObj_type ?_ (by size_fits)))
 simp only[raiseNew];refine wpAny_bind (wpAny_handled ?_);rw[show A.in1.handled=none from hh]
 refine wpAny_bind (wpAny_pure (wpAny_throw ?_));refine wpAny_bind (wpAny_isInstance (T:="StopIteration") (b:=true) ⟨_,Heap.get?_push_size _ rfl,rfl⟩ isSubtype_stop (wpAny_pure (hQ _ (((Heap.SameBut.update ..).extBut.push _).push _))))
end
noncomputable def Itk (d:Addr) (o:Obj):It :=
 ⟨fun i H=>∃ kvs kv,H d=some (.frz o (.dT kvs))∧kvs[i]?=some kv,fun i H x H'=>H'=H∧∀ kvs kv,H d=some (.frz o (.dT kvs))→kvs[i]?=some kv→∃ b,x=.ref b∧H b=some (.tup (kv.1.map kV)),fun i H=>∃ kvs,H d=some (.frz o (.dT kvs))∧kvs.length≤i⟩
theorem a9x {α β:Type} {F:α→β→Prop}:∀ {xs:List α} {ys:List β} {i:Nat} {x:α},Paired F xs ys→xs[i]?=some x→∃ y,ys[i]?=some y∧F x y
 | _,_,_,_,.nil,e=>by simp at e
 | _,_,0,_,.cons r _,e=>by simp at e;subst e;exact⟨_,rfl,r⟩
 | _,_,i+1,x,.cons _ t,e=>by
   obtain⟨u,h1,h2⟩:=a9x (i:=i) (x:=x) t (by simpa using e)
   exact⟨u,by simpa using h1,h2⟩
theorem a7f {P:Program} {w:World} {H:Hp} {h:Heap} {d:Addr} {o:Obj} {kvs:List (List Key × V)} (ok:HOk P w H h) (e:H d=some (.frz o (.dT kvs))) :
  h.get? d=some o∧o.ExactDict∧∃ es ep,o.data=.dict es ep∧es.size=kvs.length∧∀ (i:Nat) kv,kvs[i]?=some kv→∃ en b,es[i]?=some en∧en.key=.ref b∧H b=some (.tup (kv.1.map kV)):=by
 obtain⟨g,z,y,xs,r,o',es,ep,h1,h2,h3,h4,h5⟩:=(show h.get? d=some o∧a2a P w H h d (.dT kvs) from ok d _ e)
 rw[g] at h1
 obtain rfl:=Option.some.inj h1
 refine⟨g,h2,es,ep,h3,?_,fun i kv hi=>?_⟩
 ·rw[← Array.length_toList,h4,List.length_map,Paired.length r]
 ·obtain⟨q,e1,e2,e3,e4⟩:=a9x r hi
  exact⟨entryOfKey (tupleKind (a1T P w)) q,q.2.1,by rw[← Array.getElem?_toList,h4,List.getElem?_map,e1];rfl,rfl,e3⟩
theorem a9c {P:Program} {w:World} {K:PySem.W.Frag} {tg:Expr} (d:Addr) (o:Obj) (it:Addr):Turn P w K tg (Itk d o) [it] it (fun i h=>∃ es ep,o.data=.dict es ep∧h.IsKeyIter it d i es.size ep) where
 mem:=by simp
 obj:=fun i h st b hb=>by
  have e:b=it:=by simpa using hb
  subst e
  obtain⟨_,_,_,o',e,c,d⟩:=st
  exact⟨o',e,fun v z=>by rw[d] at z;cases z⟩
 keep:=fun i h h' st k=>let ⟨es,ep,a,st⟩:=st;⟨es,ep,a,st.at fun o e=>k it (by simp) o e⟩
 item:=by
  intro X hP hw hK hc i pins s σ H E I hf st hg
  subst hP hw hK
  obtain⟨kvs,kv,hq,hx⟩:=hg
  obtain⟨es,ep,hdat,st⟩:=st
  obtain⟨g,_,es',ep',hdat',hsz,hat⟩:=a7f I.hok hq
  rw[hdat] at hdat'
  obtain⟨rfl,rfl⟩:es=es'∧ep=ep':=by injection hdat' with a b;exact⟨a,b⟩
  obtain⟨en,b,h1,h2,h3⟩:=hat i kv hx
  obtain⟨f0,f1,f2,f3,f4,f5⟩:=hf it (by simp)
  refine b1p st g hdat h1 fun h' st' sb=>?_
  have I1:Inv X pins σ H { s with heap:=h' }:=I.turned (t':=s.toks) (fun b o hb e=>(sb.2 b hb).trans e) f0 f1 f3 f4 f5
  obtain⟨oi,e,c,dd⟩:=id st'
  refine⟨en.key,rfl,b6o (s:={ s with heap:=h' }) e c dd (by decide) ⟨.ref b,H,I1,by rw[h2];exact rfl,⟨rfl,fun kvs2 kv2 q2 x2=>?_⟩,⟨es,ep,hdat,st'⟩,fun b hb=>(hf b hb).1⟩⟩
  rw[hq] at q2
  cases q2
  rw[hx] at x2
  cases x2
  exact⟨b,rfl,h3⟩
 done:=by
  intro X hP hw hK hc i pins s σ H E I hf st hg
  subst hP hw hK
  obtain⟨kvs,hq,hx⟩:=hg
  obtain⟨es,ep,hdat,st⟩:=st
  obtain⟨g,_,es',ep',hdat',hsz,hat⟩:=a7f I.hok hq
  rw[hdat] at hdat'
  obtain⟨rfl,rfl⟩:es=es'∧ep=ep':=by injection hdat' with a b;exact⟨a,b⟩
  obtain⟨f0,f1,f2,f3,f4,f5⟩:=hf it (by simp)
  exact b1o (I.ok.hd hc) st g hdat (Array.getElem?_eq_none (by lia)) fun h' eb=>⟨rfl,I.turned (t':=s.toks) (fun b o hb e=>eb b o hb e) f0 f1 f3 f4 f5⟩
 self:=fun _ _ _ _ _ st h=>let ⟨_,_,_,st⟩:=st;wpAny_pyIter_keyiter st h
noncomputable def a5i (kvs:List (List Key × T)):List T:=kvs.map fun kv=>.tup (kv.1.map keyT)
theorem a1E (kvs:List (List Key × T)):(a5i kvs).length=kvs.length:=List.length_map ..
theorem b4u {κ:Type} {K:PySem.W.Frag} {H:Hp}:∀ {xs:List (κ × V)} {kvs:List (κ × T)} {i:Nat} {kv:κ × T},KRep K H xs kvs→kvs[i]?=some kv→∃ x,xs[i]?=some x∧x.1=kv.1
 | [],[],_,_,_,e=>by simp at e
 | p :: r,q :: u,0,kv,h,e=>by simp at e;subst e;exact⟨p,rfl,h.1⟩
 | p :: r,q :: u,i+1,kv,h,e=>by
   obtain⟨x,a,b⟩:=b4u (i:=i) h.2.2 (by simpa using e)
   exact⟨x,by simpa using a,b⟩
 | [],q :: u,_,_,h,_=>h.elim
 | p :: r,[],_,_,h,_=>h.elim
theorem b1X {K:PySem.W.Frag} {H:Hp}:∀ ks:List Key,Reps K H (ks.map kV) (ks.map keyT)
 | []=>by rw[List.map_nil,List.map_nil];unfold Reps;rfl
 | k :: ks=>by
   rw[List.map_cons,List.map_cons]
   unfold Reps
   refine⟨_,_,rfl,?_,b1X ks⟩
   cases k with
   | inl i=>exact a0P
   | inr x=>exact a6V
theorem a9V {K:PySem.W.Frag} {H:Hp} {d:Addr} {o:Obj} {kvs:List (List Key × T)}:ItOk K H (Itk d o) ⟨a5i kvs,fun M'=>∃ xs,H d=some (.frz o (.dT xs))∧KRep K H xs kvs⟩:=by
 refine⟨fun H' M' k hh ⟨xs,g,r⟩=>⟨xs,k.frz _ _ _ g,?_⟩,fun i x H' M' e k hh ⟨xs,g,r⟩=>?_⟩
 ·show xs.length≤(a5i kvs).length
  rw[a1E,r.length];exact Nat.le_refl _
 ·unfold a5i at e
  rw[List.getElem?_map] at e
  obtain⟨kv,e1,rfl⟩:=Option.map_eq_some_iff.mp e
  obtain⟨xv,e2,e3⟩:=b4u r e1
  refine⟨⟨xs,xv,k.frz _ _ _ g,e2⟩,fun v H'' y=>?_⟩
  obtain⟨rfl,y⟩:=y
  obtain⟨b,rfl,hb⟩:=y xs xv (k.frz _ _ _ g) e2
  rw[e3] at hb
  exact⟨Kp.refl,hh,a2i (SqT.of hb) (b1X kv.1)⟩
noncomputable def c0E (tl:TE3):TI3:=fun ρ M R=>tl ρ M fun x M1=>match x with
 | .adr p=>(match M1 p with | some (.dt kvs)=>R ⟨a5i kvs,fun _=>True⟩ (updM M1 p (.fz kvs)) | _=>False)
 | _=>False
section
variable {X:Cx}
theorem c0B {tg l:Expr} {tl:TE3} (hl:HE X l tl):HI X tg l (c0E tl):=by
 intro ρ M R h pins s σ H R2 I b
 obtain⟨hr,hh,en⟩:=b
 refine thn (hl ρ M _ h pins s σ H (fun v H1=>∃ t M1,Kp X.K H H1∧HR X.K H1 M1∧Rep X.K H1 v t∧(match t with
  | .adr p=>(match M1 p with | some (.dt kvs)=>R ⟨a5i kvs,fun _=>True⟩ (updM M1 p (.fz kvs)) | _=>False)
  | _=>False)) I ⟨hr,hh,fun t v M1 H1 k1 h1 r1 q1=>⟨t,M1,k1,h1,r1,q1⟩⟩) fun v s1 ⟨x,H1,I1,rv,t,M1,k1,h1,r1,q1⟩=>?_
 split at q1
 ·rename_i a
  obtain rfl:=a0L r1
  cases rv
  split at q1
  ·rename_i kvs e0
   obtain⟨xs,g1,g2⟩:=h1 _ _ e0
   obtain⟨z,y,xs2,r,o,es,ep,h1',h2,h3,h4,h5⟩:=(show a2a X.prog X.w H1 s1.heap a (.dT xs) from I1.hok a _ g1)
   have kd:=Kp.dict (K:=X.K) (u:=.frz o (.dT xs)) g1 (.inr ⟨_,rfl⟩)
   have I2:Inv X pins σ (upd H1 a (.frz o (.dT xs))) s1:=I1.write (t':=s1.toks) (by rw[g1];trivial) (.inl rfl) (fun b u _ e=>e) ⟨o,h1'⟩
    ⟨h1',z,y,xs2,Paired.mapP r fun p q w=>⟨w.1,by rw[a0v (b8t w.2.1 g1 (by intro z;cases z))];exact w.2.1,w.2.2⟩,o,es,ep,h1',h2,h3,h4,h5⟩
   have gr:KRep X.K (upd H1 a (.frz o (.dT xs))) xs kvs:=g2.kp kd
   refine a6x y h1' h2 h3 fun s2 it hit ht hgn hs2=>?_
   subst hs2 hit
   refine⟨s1.heap.objs.size,[s1.heap.objs.size],_,_,_,rfl,I2.kept (t':=s1.toks) fun b o e=>Heap.get?_push_of_some _ e,a9c a o _,⟨es,ep,h3,_,Heap.get?_push_size _ rfl,rfl,rfl⟩,fun b hb=>?_,en ⟨a5i kvs,fun _=>True⟩ _ (updM M1 a (.fz kvs)) _ (k1.trans kd) (fun c u ec=>?_) ?_ q1⟩
   ·have e:b=s1.heap.objs.size:=by simpa using hb
    subst e
    exact I2.fpOk (Nat.le_refl _) (I2.hok.fresh (Nat.le_refl _))
   ·by_cases hc:c=a
    ·subst hc
     rw[a0f] at ec;cases ec
     exact⟨o,xs,a0B,gr⟩
    ·rw[a0t hc] at ec
     exact (h1 c u ec).kp kd fun u _ q=>by rw[a0v hc];exact q
   ·have base:=a9V (K:=X.K) (H:=upd H1 a (.frz o (.dT xs))) (d:=a) (o:=o) (kvs:=kvs)
    exact⟨fun H' M' k hh _=>base.stop H' M' k hh ⟨xs,a0B,gr⟩,fun i x H' M' e k hh _=>base.go i x H' M' e k hh ⟨xs,a0B,gr⟩⟩
  ·exact q1.elim
 ·exact q1.elim
noncomputable def tDGZ (td:TE3) (t:TA3):TE3:=fun ρ M Q=>td ρ M fun x M1=>t ρ M1 fun ks M2=>ks.length≤sizeLine∧(match x with
 | .adr p=>(match M2 p with
   | some (.fz kvs)=>∃ (kk:List Key) (t:T),ks=kk.map keyT∧valT kvs kk=some t∧Q t M2
   | _=>False)
 | _=>False)
theorem c0H {o:Expr} {es:List Expr} {x1} {p1:Pos} {td:TE3} {t:TA3} {pos:Pos} (hu:X.A.units+64 < cLine) (ho:HE X o td) (ha:HA X es t) (hs:NoSl (.Tuple es x1 p1):=by intro _ _;rfl):HE X (.Subscript o (.Tuple es x1 p1) pos) (tDGZ td t):=fun ρ M Q h =>
 (b3Y (by lia) (ho.d (ρ:=ρ)) (b1Q (ha.d (ρ:=ρ))) hs).imp fun σ H Q2 ⟨hr,hh,en⟩=>⟨M,_,h,hr,hh,fun x v M1 H1 k1 h1 r1 q1=>⟨M1,_,q1,hr.kp k1,h1,fun ks vs M2 H2 k2 h2 r2 q2=>by
  obtain⟨hz,q2⟩:=q2
  refine⟨by rw[r2.length];exact hz,fun b hb=>?_⟩
  cases x with
  | adr p =>
    cases r1
    dsimp only at q2
    split at q2
    ·rename_i kvs e
     obtain⟨kk,t,rfl,ev,q2⟩:=q2
     obtain rfl:=a6I r2
     obtain⟨ob,xs,g1,g2⟩:=h2 _ _ e
     have hv:=g2.val kk
     rw[ev] at hv
     obtain⟨u,e1,e2⟩:=hv
     have np:p≠b:=fun z=>by rw[← z,g1] at hb;cases hb
     exact⟨_,u,rfl,.inr ⟨xs,kk,b,.inr ⟨ob,by rw[a0v np];exact g1⟩,rfl,a0B,e1.symm⟩,en _ _ M2 _ ((k1.trans k2).trans (Kp.new hb)) (h2.keep hb) (Rep.kp (Kp.new hb) _ _ e2) q2⟩
    ·exact q2.elim
  | _=>exact q2.elim⟩⟩
end
noncomputable def mqB (n:Nat):Bool:=(a9v (a0j n)).all fun st=>(fun m:List Int=>(a0j n).all fun x=>(fun y:Int=>(decide (y∈a0j n) && decide (gI m y=y)) && decide (gI m (gI st x)=y)) (gI m x)) (mkF st n)
theorem b8y:mqB 1=true∧mqB 2=true∧mqB 3=true∧mqB 4=true∧mqB 5=true:=by decide +kernel
theorem b8x:mqB 6=true:=by decide +kernel
theorem c1E {st:List Int} {n x:Int} (n1:1≤n) (n6:n≤6) (h:IsP n st) (hx:x∈a0j n):gI (mkF st n) x∈a0j n∧gI (mkF st n) (gI (mkF st n) x)=gI (mkF st n) x∧gI (mkF st n) (gI st x)=gI (mkF st n) x:=by
 have key:mqB n.toNat=true:=by
  obtain⟨h1,h2,h3,h4,h5⟩:=b8y
  rcases (show n=1∨n=2∨n=3∨n=4∨n=5∨n=6 by lia) with rfl | rfl | rfl | rfl | rfl | rfl
  ·exact h1
  ·exact h2
  ·exact h3
  ·exact h4
  ·exact h5
  ·exact b8x
 have e:((n.toNat:Nat):Int)=n:=by lia
 unfold mqB at key
 rw[e] at key
 have k2:=List.all_eq_true.mp (List.all_eq_true.mp key st (a4Z h)) x hx
 obtain⟨ab,c⟩:=(Bool.and_eq_true _ _).mp k2
 obtain⟨a,b⟩:=(Bool.and_eq_true _ _).mp ab
 exact⟨of_decide_eq_true a,of_decide_eq_true b,of_decide_eq_true c⟩
noncomputable def numF (ls:List (List Int)):Nat→Int→Option Int
 | 0,_=>none
 | i+1,x=>if x∈ls.getD i [] then some (i:Int) else numF ls i x
theorem b4j {ls:List (List Int)} {x:Int} {i:Nat}:∀ k,i < k→(∀ j,j < k→(x∈ls.getD j []↔j=i))→numF ls k x=some (i:Int)
 | 0,h,_=>absurd h (Nat.not_lt_zero _)
 | k+1,h,u=>by
   show (if x∈ls.getD k [] then some (k:Int) else numF ls k x)=_
   by_cases c:k=i
   ·rw[if_pos ((u k (Nat.lt_succ_self _)).mpr c),c]
   ·rw[if_neg (fun z=>c ((u k (Nat.lt_succ_self _)).mp z))]
    exact b4j k (by lia) fun j hj=>u j (by lia)
theorem b4a {n:Int} {ws:List Int} (n1:1≤n) (n6:n≤6) (hw:WordOK n ws):(pcs (a0D n ws) n).length≤6∧(∀ l∈pcs (a0D n ws) n,l.length≤6) ∧
  ∃ nu:Int→Nat,(∀ x∈a0j n,nu x < (pcs (a0D n ws) n).length∧numF (pcs (a0D n ws) n) (pcs (a0D n ws) n).length x=some (nu x:Int)∧∀ i,i < (pcs (a0D n ws) n).length→(x∈(pcs (a0D n ws) n).getD i []↔i=nu x))∧∀ x∈a0j n,nu (gI (a1x n ws) x)=nu x:=by
 rw[← b7h n1 n6 hw]
 have hst:=a3I n ws (by lia) hw
 generalize hL:lpF (a1x n ws) n=ls
 unfold lpF at hL
 have hmk:=fun x (hx:x∈a0j n)=>c1E n1 n6 hst hx
 generalize mkF (a1x n ws) n=m at hL hmk
 generalize hR:((a0j n).filter fun p=>decide (gI m p=p))=reps at hL
 have hrl:reps.length≤6:=by
  rw[← hR]
  refine Nat.le_trans (List.length_filter_le _ _) ?_
  rw[a0l];lia
 have hnd:reps.Nodup:=by rw[← hR];exact List.Pairwise.filter _ (a1B n)
 have hll:ls.length=reps.length:=by rw[← hL,List.length_map]
 refine⟨by rw[hll];exact hrl,fun l hl=>?_,fun x=>reps.idxOf (gI m x),fun x hx=>?_,fun x hx=>by dsimp only;rw[(hmk x hx).2.2]⟩
 ·rw[← hL] at hl
  obtain⟨p,_,rfl⟩:=List.mem_map.mp hl
  refine Nat.le_trans (List.length_filter_le _ _) ?_
  rw[a0l];lia
 ·obtain⟨h1,h2,_⟩:=hmk x hx
  have hmem:gI m x∈reps:=by rw[← hR];exact List.mem_filter.mpr ⟨h1,decide_eq_true h2⟩
  have hlt:reps.idxOf (gI m x) < ls.length:=by rw[hll];exact List.idxOf_lt_length_of_mem hmem
  have hi:∀ i,i < ls.length→(x∈ls.getD i []↔i=reps.idxOf (gI m x)):=fun i hil=>by
   have hil2:i < reps.length:=by rw[← hll];exact hil
   have e:ls.getD i []=(a0j n).filter fun q=>decide (gI m q=reps[i]):=by
    rw[← hL,List.getD_eq_getElem?_getD,List.getElem?_map,List.getElem?_eq_getElem hil2];rfl
   rw[e,List.mem_filter]
   constructor
   ·rintro⟨_,b⟩
    have b2:gI m x=reps[i]:=of_decide_eq_true b
    rw[b2]
    exact (hnd.idxOf_getElem i hil2).symm
   ·intro z
    refine⟨hx,decide_eq_true ?_⟩
    subst z
    exact (List.getElem_idxOf hil2).symm
  exact⟨hlt,b4j _ hlt hi,hi⟩
noncomputable def winT (ls:List (List Int)) (a b:Nat) (x:Int × Int × Int):Int:=if (x.1∈ls.getD a []∧x.2.1∈ls.getD b [])∨(x.2.1∈ls.getD a []∧x.1∈ls.getD b []) then x.2.2 else 0
noncomputable def winS (ls:List (List Int)) (a b:Nat):List (Int × Int × Int)→Int
 | []=>0
 | x :: r=>winT ls a b x+winS ls a b r
theorem a8Z (ls:List (List Int)) (a b:Nat) (x:Int × Int × Int):∀ C,winS ls a b (C++[x])=winS ls a b C+winT ls a b x
 | []=>by show winT ls a b x+0=0+winT ls a b x;lia
 | y :: C=>by
   show winT ls a b y+winS ls a b (C++[x])=(winT ls a b y+winS ls a b C)+winT ls a b x
   rw[a8Z ls a b x C];lia
theorem a8Y {ls:List (List Int)} {a b:Nat} {C:List (Int × Int × Int)} {i:Nat} {x:Int × Int × Int} (h:C[i]?=some x):winS ls a b (C.take (i+1))=winS ls a b (C.take i)+winT ls a b x:=by
 rw[List.take_add_one,h]
 exact a8Z ls a b x _
noncomputable def prsI (m i:Nat):List (Nat × Nat):=(List.range (m - (i+1))).map fun k=>(i,i+1+k)
noncomputable def prsU (m i:Nat):List (Nat × Nat):=(List.range i).flatMap (prsI m)
noncomputable def prs (m:Nat):List (Nat × Nat):=prsU m m
theorem a9u (m i:Nat):prsU m (i+1)=prsU m i++prsI m i:=by
 unfold prsU
 rw[List.range_succ,List.flatMap_append,List.flatMap_cons,List.flatMap_nil,List.append_nil]
theorem a1w {m i a b:Nat}:(a,b)∈prsU m i↔a < i∧a < b∧b < m:=by
 unfold prsU prsI
 rw[List.mem_flatMap]
 constructor
 ·rintro⟨c,hc,h⟩
  obtain⟨k,hk,e⟩:=List.mem_map.mp h
  have h1:=List.mem_range.mp hc
  have h2:=List.mem_range.mp hk
  cases e
  exact⟨h1,by lia,by lia⟩
 ·rintro⟨h1,h2,h3⟩
  exact⟨a,List.mem_range.mpr h1,List.mem_map.mpr ⟨b - (a+1),List.mem_range.mpr (by lia),by show (a,a+1+(b - (a+1)))=(a,b);rw[show a+1+(b - (a+1))=b by lia]⟩⟩
theorem b1N (m i:Nat):(prsI m i).length=m - (i+1):=by unfold prsI;rw[List.length_map,List.length_range]
theorem a6J {m:Nat} (h:m≤6):∀ i,i≤m→(prsU m i).length≤6*i
 | 0,_=>Nat.le_refl _
 | i+1,hi=>by
   rw[a9u,List.length_append,b1N]
   have:=a6J h i (by lia)
   lia
noncomputable def kk2 (p:Nat × Nat):List Key:=[.inl (p.1:Int),.inl (p.2:Int)]
theorem b1n {p q:Nat × Nat} (h:kk2 p=kk2 q):p=q:=by
 unfold kk2 at h
 injection h with h1 h2
 injection h2 with h2 _
 injection h1 with h1
 injection h2 with h2
 exact Prod.ext (Int.ofNat_inj.mp h1) (Int.ofNat_inj.mp h2)
noncomputable def dKT (F:Nat→Nat→Int) (ps:List (Nat × Nat)):List (List Key × T):=ps.map fun p=>(kk2 p,T.int (F p.1 p.2))
theorem b0l {F G:Nat→Nat→Int} {ps:List (Nat × Nat)} (h:∀ a b,(a,b)∈ps→F a b=G a b):dKT F ps=dKT G ps:=by
 unfold dKT
 exact List.map_congr_left fun p hp=>by rw[h p.1 p.2 hp]
theorem a4Q {F:Nat→Nat→Int} {p:Nat × Nat}:∀ {ps:List (Nat × Nat)},p∈ps→valT (dKT F ps) (kk2 p)=some (.int (F p.1 p.2))
 | q :: ps,h=>by
   show valT ((kk2 q,T.int (F q.1 q.2)) :: dKT F ps) (kk2 p)=_
   rw[a2v]
   by_cases c:q=p
   ·rw[if_pos (by rw[c]),c]
   ·rw[if_neg (fun z=>c (b1n z))]
    exact a4Q ((List.mem_cons.mp h).resolve_left fun z=>c z.symm)
theorem a3U {F:Nat→Nat→Int} {p:Nat × Nat}:∀ {ps:List (Nat × Nat)},p ∉ ps→valT (dKT F ps) (kk2 p)=none
 | [],_=>rfl
 | q :: ps,h=>by
   show valT ((kk2 q,T.int (F q.1 q.2)) :: dKT F ps) (kk2 p)=_
   rw[a2v,if_neg (fun z=>h (by rw[b1n z];exact .head _))]
   exact a3U fun z=>h (.tail _ z)
theorem b5F {F:Nat→Nat→Int} {p:Nat × Nat} {v:Int} {ps:List (Nat × Nat)} (h:p∈ps):putT (dKT F ps) (kk2 p) (.int v)=dKT (fun a b=>if (a,b)=p then v else F a b) ps:=by
 unfold putT
 rw[a5z,a4Q h]
 rw[if_pos (show (some (T.int (F p.1 p.2))).isSome=true from rfl)]
 unfold dKT
 rw[List.map_map]
 refine List.map_congr_left fun q hq=>?_
 show (if kk2 q=kk2 p then (kk2 q,T.int v) else (kk2 q,T.int (F q.1 q.2)))=(kk2 q,T.int (if (q.1,q.2)=p then v else F q.1 q.2))
 by_cases c:q=p
 ·rw[if_pos (by rw[c]),if_pos (show (q.1,q.2)=p from c)]
 ·rw[if_neg (fun z=>c (b1n z)),if_neg (show ¬(q.1,q.2)=p from c)]
theorem b5G {p:Nat × Nat} {ps:List (Nat × Nat)} (h:p ∉ ps):putT (dKT (fun _ _=>0) ps) (kk2 p) (.int 0)=dKT (fun _ _=>0) (ps++[p]):=by
 unfold putT
 rw[a5z,a3U h,if_neg (by intro z;cases z)]
 unfold dKT
 rw[List.map_append];rfl
noncomputable def b5q (n:Int) (ws:List Int) (C:List (Int × Int × Int)):List (Int × Int × Int):=(prs (pcs (a0D n ws) n).length).map fun p=>((p.1:Int),(p.2:Int),winS (pcs (a0D n ws) n) p.1 p.2 C / 2)
section
variable {X:Cx}
end
noncomputable def sgI (l:Int):Int:=if l < 0 then -1 else 1
noncomputable def crL:List Int→List Int→List (Int × Int × Int)
 | _,[]=>[]
 | st,l :: w=>(gI st ((l.natAbs:Int) - 1),gI st (l.natAbs:Int),sgI l) :: crL (a2w st (l.natAbs - 1)) w
theorem b3B {st:List Int} {k:Nat} (h:k+1 < st.length):∃ A x y B,st=A++x :: y :: B∧A.length=k:=by
 refine⟨st.take k,st[k],st[k+1],st.drop (k+2),?_,by rw[List.length_take];lia⟩
 have e1:st.drop k=st[k] :: st.drop (k+1):=List.drop_eq_getElem_cons (by lia)
 have e2:st.drop (k+1)=st[k+1] :: st.drop (k+2):=List.drop_eq_getElem_cons (by lia)
 rw[← e2,← e1,List.take_append_drop]
section
variable {P:Program} {w:World} {A:Around} {E:Value→Shared→Prop} {s:Shared}
end
section
variable {P:Program} {w:World} {A:Around} {E:Value→Shared→Prop} {s:Shared} {K:Type} [DecidableEq K] {knd:KeyKind P w K}
end
section
variable {X:Cx}
end
section
variable {P:Program} {w:World} {A:Around} {E:Value→Shared→Prop} {s:Shared}
end
section
variable {X:Cx}
end
section
variable {X:Cx}
end
section
variable {X:Cx} {a b e:Expr} {pos:Pos}
end
section
variable {X:Cx} {Ha:Hp} {e:Expr} {te:TE3} {pos:Pos}
end
section
variable {X:Cx}
end
section
variable {X:Cx}
end
section
variable {X:Cx}
end
section
variable {X:Cx}
end
section
variable {P:Program} {w:World} {A:Around} {E:Value→Shared→Prop} {s:Shared}
end
section
variable {X:Cx}
end
theorem a5T {r:List Int} {n:Nat} (h:r.length=n+1):∃ q a,r=q++[a]∧q.length=n:=by
 have hne:r≠[]:=fun z=>by rw[z] at h;cases h
 exact⟨r.dropLast,r.getLast hne,(List.dropLast_concat_getLast hne).symm,by rw[List.length_dropLast];lia⟩
section
variable {R:Type} [Lean.Grind.CommRing R]
end
section
variable {P:Program} {w:World} {A:Around} {E:Value→Shared→Prop} {s:Shared}
end
section
variable {X:Cx} {e f:Expr}
end
section
variable {X:Cx} {e:Expr} {te:TE3} {p p2 pos pos2:Pos}
end
section
variable {X:Cx}
end
section
variable {X:Cx} {pos:Pos}
end
section
variable {X:Cx} {pos:Pos}
end
section
variable {P:Program} {w:World} {A:Around} {E:Value→Shared→Prop} {s:Shared}
end
section
variable {X:Cx}
end
section
variable {X:Cx}
end
section
end
section
end
section
end
section
end
section
variable {X:Cx}
end
section
variable {X:Cx} {Ha:Hp} {o i e:Expr} {es:List Expr} {tc:TE3} {t:TA3} {p2 pos:Pos}
end
theorem b9z {n:Int} {w v:List Int} (h:RelW n w v):(w.map sgI).sum=(v.map sgI).sum:=by
 induction h with
 | refl w=>rfl
 | symm _ ih=>exact ih.symm
 | trans _ _ i1 i2=>exact i1.trans i2
 | ctx a b ha hb _ ih=>simp only[List.map_append,List.sum_append,ih]
 | far a b h=>simp only[List.map_cons,List.map_nil,List.sum_cons,List.sum_nil];lia
 | three a b c d =>
   rename_i p q
   have e:sgI p=sgI q:=by
    unfold sgI
    rcases Int.lt_trichotomy p 0 with x | x | x
    ·have:q < 0:=by
      rcases Int.lt_trichotomy q 0 with y | y | y
      ·exact y
      ·subst y;simp at c
      ·have:=Int.mul_neg_of_neg_of_pos x y;lia
     rw[if_pos x,if_pos this]
    ·subst x;simp at c
    ·have:¬q < 0:=fun y=>by have:=Int.mul_neg_of_pos_of_neg x y;lia
     rw[if_neg (by lia),if_neg this]
   simp only[List.map_cons,List.map_nil,List.sum_cons,List.sum_nil,e]
 | out a =>
   rename_i l
   unfold LetOK at a
   have e:sgI l+sgI (-l)=0:=by unfold sgI;split<;>split<;>lia
   simp only[List.map_cons,List.map_nil,List.sum_cons,List.sum_nil];lia
theorem b3F {n:Int}:∀ {w:List Int},WordOK n w→((w.map (a1K n)).map sgI).sum=(w.map sgI).sum
 | [],_=>rfl
 | l :: w,h=>by
   have h1:=h l (.head _)
   have ih:=b3F (w:=w) fun x hx=>h x (.tail _ hx)
   have e:sgI (a1K n l)=sgI l:=by unfold LetOK at h1;unfold sgI a1K;split<;>split<;>lia
   rw[List.map_cons,List.map_cons,List.sum_cons,ih,e,List.map_cons,List.sum_cons]
section
variable {m:Nat} (h1:1≤m) (h5:m≤5)
include h1 h5
end
section
end
theorem a6R {c A B:List Int} {x y l:Int} (e:c=A++x :: y :: B) (h:A.length+1=l.natAbs):a1l c l=A++y :: x :: B:=by
 rw[← a3V c l (by lia),e]
 exact a3H (by lia)
theorem b7q {c A B:List Int} {x y:Int} {k:Nat} (e:c=A++x :: y :: B) (h:A.length=k):c.getD k 0=x∧c.getD (k+1) 0=y:=by
 subst e;subst h
 constructor
 ·rw[List.getD_eq_getElem?_getD,List.getElem?_append_right (Nat.le_refl _),Nat.sub_self];rfl
 ·rw[List.getD_eq_getElem?_getD,List.getElem?_append_right (Nat.le_succ _),show A.length.succ - A.length=1 by lia];rfl
noncomputable def cwt (a b x y s:Int):Int:=if (x=a∧y=b)∨(x=b∧y=a) then s else 0
noncomputable def cwA (a b:Int):List Int→List Int→Int
 | _,[]=>0
 | c,l :: w=>cwt a b (c.getD (l.natAbs - 1) 0) (c.getD l.natAbs 0) (sgI l)+cwA a b (a1l c l) w
theorem b2i (a b x y s:Int):cwt a b x y s=cwt a b y x s:=by unfold cwt;exact ite_congr (propext (by grind)) (fun _=>rfl) (fun _=>rfl)
theorem b8Y (a b x y s:Int):cwt a b x y (-s)=-cwt a b x y s:=by unfold cwt;split<;>lia
theorem b6y {a b x:Int} (h:a≠b) (s:Int):cwt a b x x s=0:=by unfold cwt;rw[if_neg];rintro (⟨p,q⟩ | ⟨p,q⟩)<;>exact h (by lia)
theorem a1U (a b:Int) (c:List Int):cwA a b c []=0:=by cases c<;>rfl
theorem a8S (a b:Int) (c:List Int) (l:Int) (w:List Int):cwA a b c (l :: w)=cwt a b (c.getD (l.natAbs - 1) 0) (c.getD l.natAbs 0) (sgI l)+cwA a b (a1l c l) w:=by cases c<;>rfl
theorem a0z {a b:Int} {c A B:List Int} {x y l:Int} (w:List Int) (e:c=A++x :: y :: B) (h:A.length+1=l.natAbs):cwA a b c (l :: w)=cwt a b x y (sgI l)+cwA a b (A++y :: x :: B) w∧(l :: w).foldl a1l c=w.foldl a1l (A++y :: x :: B):=by
 obtain⟨e1,e2⟩:=b7q e (k:=l.natAbs - 1) (by lia)
 rw[show l.natAbs - 1+1=l.natAbs by lia] at e2
 refine⟨?_,?_⟩
 ·rw[a8S,a6R e h,e1,e2]
 ·rw[List.foldl_cons,a6R e h]
theorem c0P {c:List Int} {k:Nat} (h:k+1 < c.length):∃ A x y B,c=A++x :: y :: B∧A.length=k:=b3B h
theorem a1Z (a b:Int):∀ (u v c:List Int),cwA a b c (u++v)=cwA a b c u+cwA a b (u.foldl a1l c) v
 | [],v,c=>by rw[a1U,List.nil_append,Int.zero_add];rfl
 | l :: u,v,c=>by
   rw[List.cons_append,a8S,a8S,a1Z a b u v,List.foldl_cons];lia
theorem a6v {c:List Int} {l:Int} (h:LetOK (c.length:Int) l):∃ A x y B,c=A++x :: y :: B∧A.length+1=l.natAbs:=by
 unfold LetOK at h
 obtain⟨A,x,y,B,e,hA⟩:=c0P (c:=c) (k:=l.natAbs - 1) (by lia)
 exact⟨A,x,y,B,e,by lia⟩
noncomputable def SmC (c w v:List Int):Prop:=w.foldl a1l c=v.foldl a1l c∧∀ a b,cwA a b c w=cwA a b c v
theorem SmC.symm {c w v:List Int} (h:SmC c w v):SmC c v w:=⟨h.1.symm,fun a b=>(h.2 a b).symm⟩
theorem b6M {c:List Int} {l m:Int} (hl:LetOK (c.length:Int) l) (hm:LetOK (c.length:Int) m) (h:l.natAbs+1 < m.natAbs):SmC c [l,m] [m,l]:=by
 obtain⟨A,x,y,R,e,hA⟩:=a6v hl
 have hR:R.length=c.length - (A.length+2):=by rw[e];simp;lia
 unfold LetOK at hm
 obtain⟨B,z,u,C,e2,hB⟩:=c0P (c:=R) (k:=m.natAbs - (A.length+3)) (by lia)
 subst e2
 have e1:c=(A++x :: y :: B)++z :: u :: C:=by rw[e];simp
 have e3:A++y :: x :: (B++z :: u :: C)=(A++y :: x :: B)++z :: u :: C:=by simp
 have e4:(A++x :: y :: B)++u :: z :: C=A++x :: y :: (B++u :: z :: C):=by simp
 have hB2:(A++x :: y :: B).length+1=m.natAbs:=by simp;lia
 have hB3:(A++y :: x :: B).length+1=m.natAbs:=by simp;lia
 have e5:(A++y :: x :: B)++u :: z :: C=A++y :: x :: (B++u :: z :: C):=by simp
 refine⟨?_,fun a b=>?_⟩
 ·rw[(a0z (a:=0) (b:=0) _ e hA).2,(a0z (a:=0) (b:=0) _ e3 hB3).2,(a0z (a:=0) (b:=0) _ e1 hB2).2,(a0z (a:=0) (b:=0) _ e4 hA).2,e5]
 ·rw[(a0z _ e hA).1,(a0z _ e3 hB3).1,(a0z _ e1 hB2).1,(a0z _ e4 hA).1,a1U,a1U];lia
theorem b1J {c:List Int} {p q:Int} (hp:LetOK (c.length:Int) p) (hq:LetOK (c.length:Int) q) (hs:p*q > 0) (h:p.natAbs+1=q.natAbs):SmC c [p,q,p] [q,p,q]:=by
 obtain⟨A,x,y,R,e,hA⟩:=a6v hp
 have hR:R.length=c.length - (A.length+2):=by rw[e];simp;lia
 unfold LetOK at hq
 obtain⟨z,B,rfl⟩:∃ z B,R=z :: B:=by
  cases R with
  | nil=>simp at hR;lia
  | cons z B=>exact⟨z,B,rfl⟩
 have sg:sgI p=sgI q:=by
  unfold sgI
  by_cases x:p < 0
  ·have:q < 0:=by
    rcases Int.lt_trichotomy q 0 with y | y | y
    ·exact y
    ·subst y;simp at hs
    ·have:=Int.mul_neg_of_neg_of_pos x y;lia
   rw[if_pos x,if_pos this]
  ·have:¬q < 0:=fun y=>by
    rcases Int.lt_trichotomy p 0 with z | z | z
    ·exact x z
    ·subst z;simp at hs
    ·have:=Int.mul_neg_of_pos_of_neg z y;lia
   rw[if_neg x,if_neg this]
 have k1:∀ x:Int,(A++[x]).length+1=q.natAbs:=fun x=>by simp;lia
 have s1:∀ x y z:Int,A++x :: y :: z :: B=(A++[x])++y :: z :: B:=fun x y z=>by simp
 refine⟨?_,fun a b=>?_⟩
 ·rw[(a0z (a:=0) (b:=0) _ e hA).2,(a0z (a:=0) (b:=0) _ (s1 y x z) (k1 y)).2,← s1,(a0z (a:=0) (b:=0) _ rfl hA).2,(a0z (a:=0) (b:=0) _ (e.trans (s1 x y z)) (k1 x)).2,← s1,(a0z (a:=0) (b:=0) _ rfl hA).2,(a0z (a:=0) (b:=0) _ (s1 z x y) (k1 z)).2,← s1]
 ·rw[(a0z _ e hA).1,(a0z _ (s1 y x z) (k1 y)).1,← s1,(a0z _ rfl hA).1,(a0z _ (e.trans (s1 x y z)) (k1 x)).1,← s1,(a0z _ rfl hA).1,(a0z _ (s1 z x y) (k1 z)).1,a1U,a1U,sg];lia
theorem b9w {c:List Int} {l:Int} (hl:LetOK (c.length:Int) l):SmC c [l,-l] []:=by
 obtain⟨A,x,y,B,e,hA⟩:=a6v hl
 have hA2:A.length+1=(-l).natAbs:=by rw[Int.natAbs_neg];exact hA
 have sg:sgI (-l)=-sgI l:=by unfold LetOK at hl;unfold sgI;split<;>split<;>lia
 refine⟨?_,fun a b=>?_⟩
 ·rw[(a0z (a:=0) (b:=0) _ e hA).2,(a0z (a:=0) (b:=0) _ rfl hA2).2,e]
 ·rw[(a0z _ e hA).1,(a0z _ rfl hA2).1,a1U,a1U,sg,b8Y,b2i a b y x];lia
theorem b9v {n:Int} {w v:List Int} (r:RelW n w v):∀ {c:List Int},(c.length:Int)=n→SmC c w v:=by
 induction r with
 | refl=>exact fun _=>⟨rfl,fun _ _=>rfl⟩
 | symm _ ih=>exact fun h=>(ih h).symm
 | trans _ _ i1 i2=>exact fun h=>⟨(i1 h).1.trans (i2 h).1,fun a b=>((i1 h).2 a b).trans ((i2 h).2 a b)⟩
 | ctx a b ha hb r ih =>
   intro c h
   have hc:((a.foldl a1l c).length:Int)=n:=by rw[a1h];exact h
   obtain⟨h1,h2⟩:=ih hc
   refine⟨by rw[List.foldl_append,List.foldl_append,List.foldl_append,List.foldl_append,h1],fun p q=>?_⟩
   rw[a1Z,a1Z,a1Z,a1Z,List.foldl_append,List.foldl_append,h1,h2]
 | far a b h =>
   intro c hc
   subst hc
   rcases h with h | h
   ·exact b6M a b h
   ·exact (b6M b a h).symm
 | three a b s d =>
   intro c hc
   subst hc
   rename_i p q
   have hs:(0 < p∧0 < q)∨(p < 0∧q < 0):=by
    rcases Int.lt_trichotomy p 0 with x | x | x
    ·rcases Int.lt_trichotomy q 0 with y | y | y
     ·exact .inr ⟨x,y⟩
     ·subst y;simp at s
     ·have:=Int.mul_neg_of_neg_of_pos x y;lia
    ·subst x;simp at s
    ·rcases Int.lt_trichotomy q 0 with y | y | y
     ·have:=Int.mul_neg_of_pos_of_neg x y;lia
     ·subst y;simp at s
     ·exact .inl ⟨x,y⟩
   rcases (show p.natAbs+1=q.natAbs∨q.natAbs+1=p.natAbs by lia) with z | z
   ·exact b1J a b s z
   ·exact (b1J b a (by rw[Int.mul_comm];exact s) z).symm
 | out a =>
   intro c hc
   subst hc
   exact b9w a
theorem b0N {n:Int}:∀ {w c:List Int},WordOK n w→(c.length:Int)=n→(w.map (a1K n)).foldl a1l c.reverse=(w.foldl a1l c).reverse∧∀ a b,cwA a b c.reverse (w.map (a1K n))=cwA a b c w
 | [],c,_,_=>⟨rfl,fun a b=>by rw[List.map_nil,a1U,a1U]⟩
 | l :: w,c,hw,h=>by
   have hl:=hw l (.head _)
   obtain⟨A,x,y,B,e,hA⟩:=a6v (c:=c) (l:=l) (by rw[h];exact hl)
   have er:c.reverse=B.reverse++y :: x :: A.reverse:=by rw[e];simp
   have hc:(c.length:Int)=(A.length+(B.length+2):Nat):=by rw[e];simp;lia
   unfold LetOK at hl
   have hB:B.reverse.length+1=(a1K n l).natAbs:=by
    rw[List.length_reverse];unfold a1K;split<;>lia
   have sg:sgI (a1K n l)=sgI l:=by unfold sgI a1K;split<;>split<;>lia
   have er2:B.reverse++x :: y :: A.reverse=(A++y :: x :: B).reverse:=by simp
   have ih:=b0N (w:=w) (c:=A++y :: x :: B) (fun z hz=>hw z (.tail _ hz)) (by rw[← h,hc];simp;lia)
   rw[List.map_cons]
   refine⟨?_,fun a b=>?_⟩
   ·rw[(a0z (a:=0) (b:=0) _ er hB).2,(a0z (a:=0) (b:=0) _ e hA).2,er2,ih.1]
   ·rw[(a0z _ er hB).1,(a0z _ e hA).1,er2,ih.2,sg,b2i]
theorem b0M (z:Int):∀ {w c:List Int},WordOK (c.length:Int) w→w.foldl a1l (c++[z])=w.foldl a1l c++[z]∧∀ a b,cwA a b (c++[z]) w=cwA a b c w
 | [],c,_=>⟨rfl,fun a b=>by rw[a1U,a1U]⟩
 | l :: w,c,hw=>by
   obtain⟨A,x,y,B,e,hA⟩:=a6v (hw l (.head _))
   have e2:c++[z]=A++x :: y :: (B++[z]):=by rw[e];simp
   have e3:A++y :: x :: (B++[z])=(A++y :: x :: B)++[z]:=by simp
   have hl:(A++y :: x :: B).length=c.length:=by rw[e];simp
   have ih:=b0M z (w:=w) (c:=A++y :: x :: B) (fun k hk=>by rw[hl];exact hw k (.tail _ hk))
   refine⟨?_,fun a b=>?_⟩
   ·rw[(a0z (a:=0) (b:=0) _ e2 hA).2,(a0z (a:=0) (b:=0) _ e hA).2,e3,ih.1]
   ·rw[(a0z _ e2 hA).1,(a0z _ e hA).1,e3,ih.2]
theorem b3D (f:Int→Int):∀ {w c:List Int},WordOK (c.length:Int) w→w.foldl a1l (c.map f)=(w.foldl a1l c).map f
 | [],c,_=>rfl
 | l :: w,c,hw=>by
   obtain⟨A,x,y,B,e,hA⟩:=a6v (hw l (.head _))
   have e2:c.map f=A.map f++f x :: f y :: B.map f:=by rw[e];simp
   have e3:A.map f++f y :: f x :: B.map f=(A++y :: x :: B).map f:=by simp
   have hl:(A++y :: x :: B).length=c.length:=by rw[e];simp
   rw[(a0z (a:=0) (b:=0) _ e2 (by rw[List.length_map];exact hA)).2,(a0z (a:=0) (b:=0) _ e hA).2,e3]
   exact b3D f (fun k hk=>by rw[hl];exact hw k (.tail _ hk))
noncomputable def BkC (n:Nat) (w c:List Int):Prop:=c.length=n∧w.foldl a1l c=c
noncomputable def FiC (n:Nat) (w c:List Int):Prop:=BkC n w c∧∀ d,BkC n w d→∃ f:Int→Int,d=c.map f
noncomputable def RlC (n:Nat) (w:List Int) (m:Nat) (v:List Int):Prop:=∀ c,FiC n w c→∃ c',FiC m v c'∧(∀ x,x∈c↔x∈c')∧∀ a b,a≠b→cwA a b c w=cwA a b c' v
theorem RlC.refl (n:Nat) (w:List Int):RlC n w n w:=fun c h=>⟨c,h,fun _=>Iff.rfl,fun _ _ _=>rfl⟩
theorem RlC.trans {n m k:Nat} {w v u:List Int} (h:RlC n w m v) (g:RlC m v k u):RlC n w k u:=fun c hc =>
 let ⟨c1,h1,h2,h3⟩:=h c hc
 let ⟨c2,g1,g2,g3⟩:=g c1 h1
 ⟨c2,g1,fun x=>(h2 x).trans (g2 x),fun a b ne=>(h3 a b ne).trans (g3 a b ne)⟩
theorem b9F {n:Nat} {w v:List Int} (r:RelW n w v):RlC n w n v:=fun c hc=>by
 have s:=fun (d:List Int) (h:d.length=n)=>b9v r (c:=d) (by rw[h])
 refine⟨c,⟨⟨hc.1.1,by rw[← (s c hc.1.1).1];exact hc.1.2⟩,fun d hd=>hc.2 d ⟨hd.1,by rw[(s d hd.1).1];exact hd.2⟩⟩,fun _=>Iff.rfl,fun a b _=>(s c hc.1.1).2 a b⟩
theorem b3L {n:Nat} {u v:List Int} (hu:WordOK n u):RlC n (u++v) n (v++u):=fun c ⟨⟨hl,hb⟩,hf⟩=>by
 rw[List.foldl_append] at hb
 refine⟨u.foldl a1l c,⟨⟨by rw[a1h];exact hl,by rw[List.foldl_append,hb]⟩,fun d ⟨dl,db⟩=>?_⟩,fun x=>?_,fun a b _=>?_⟩
 ·rw[List.foldl_append] at db
  obtain⟨f,e⟩:=hf (v.foldl a1l d) ⟨by rw[a1h];exact dl,by rw[List.foldl_append,db]⟩
  refine⟨f,?_⟩
  rw[← b3D f (by rw[hl];exact hu),← e,db]
 ·exact (a4L u c (by rw[hl];exact hu)).symm.mem_iff
 ·rw[a1Z,a1Z,hb];lia
theorem b7F {n:Nat} {w:List Int} (hw:WordOK n w):RlC n w n (w.map (a1K n)):=fun c ⟨⟨hl,hb⟩,hf⟩=>by
 have hw2:WordOK n (w.map (a1K n)):=fun x hx=>by
  obtain⟨l,hl,rfl⟩:=List.mem_map.mp hx
  exact (hw l hl).flip
 have s:=b0N hw (c:=c) (by rw[hl])
 refine⟨c.reverse,⟨⟨by rw[List.length_reverse];exact hl,by rw[s.1,hb]⟩,fun d ⟨dl,db⟩=>?_⟩,fun x=>List.mem_reverse.symm,fun a b _=>(s.2 a b).symm⟩
 have s2:=(b0N hw2 (c:=d) (by rw[dl])).1
 have e:(w.map (a1K n)).map (a1K n)=w:=by
  rw[List.map_map]
  refine (List.map_congr_left fun x hx=>?_).trans (List.map_id _)
  exact b3g _ _ (hw x hx)
 rw[e,db] at s2
 obtain⟨f,ef⟩:=hf d.reverse ⟨by rw[List.length_reverse];exact dl,s2⟩
 refine⟨f,?_⟩
 rw[List.map_reverse,← ef,List.reverse_reverse]
theorem b5k {n:Nat} {w:List Int} {l:Int} (hw:WordOK (n+1:Nat) w) (hl:l.natAbs=n+1) {d:List Int} (hd:BkC (n+2) (w++[l]) d):∃ q x,d=(q++[x])++[x]∧BkC (n+1) w (q++[x]):=by
 obtain⟨dl,db⟩:=hd
 obtain⟨c,z,rfl,hc⟩:=a5T (n:=n+1) dl
 rw[List.foldl_append,(b0M z (w:=w) (c:=c) (by rw[hc];exact hw)).1] at db
 have hr:(w.foldl a1l c).length=n+1:=by rw[a1h];exact hc
 generalize hR:w.foldl a1l c=r at db hr
 obtain⟨p,y,rfl,hp⟩:=a5T (n:=n) hr
 have e:(p++[y])++[z]=p++y :: z :: []:=by simp
 rw[(a0z (a:=0) (b:=0) _ e (by lia)).2] at db
 replace db:p++z :: y :: []=c++[z]:=db
 rw[show p++z :: y :: []=(p++[z])++[y] by simp] at db
 obtain⟨e1,e2⟩:=List.append_inj db (by simp;lia)
 injection e2 with e2 _
 subst e2
 exact⟨p,y,by rw[e1],by rw[← e1] at hc hR;exact⟨hc,hR⟩⟩
theorem b1i {n:Nat} {w:List Int} {l:Int} (hw:WordOK (n+1:Nat) w) (hl:l.natAbs=n+1) {q:List Int} {x:Int} (h:BkC (n+1) w (q++[x])):BkC (n+2) (w++[l]) ((q++[x])++[x])∧∀ a b,a≠b→cwA a b ((q++[x])++[x]) (w++[l])=cwA a b (q++[x]) w:=by
 obtain⟨ql,qb⟩:=h
 have s:=b0M x (w:=w) (c:=q++[x]) (by rw[ql];exact hw)
 have e:(q++[x])++[x]=q++x :: x :: []:=by simp
 have hq:q.length+1=l.natAbs:=by simp at ql;lia
 refine⟨⟨by simp at ql⊢;lia,?_⟩,fun a b ne=>?_⟩
 ·rw[List.foldl_append,s.1,qb,(a0z (a:=0) (b:=0) _ e hq).2,e];rfl
 ·rw[a1Z,s.2,s.1,qb,(a0z _ e hq).1,a1U,b6y ne];lia
theorem b7D {n:Nat} {w:List Int} {l:Int} (hw:WordOK (n+1:Nat) w) (hl:l.natAbs=n+1):RlC (n+1) w (n+2) (w++[l]):=fun c ⟨hb,hf⟩=>by
 obtain⟨q,x,rfl,hq⟩:=a5T (n:=n) hb.1
 obtain⟨h1,h2⟩:=b1i hw hl hb
 refine⟨(q++[x])++[x],⟨h1,fun d hd=>?_⟩,fun y=>by simp,fun a b ne=>(h2 a b ne).symm⟩
 obtain⟨p,y,rfl,hp⟩:=b5k hw hl hd
 obtain⟨f,e⟩:=hf _ hp
 refine⟨f,?_⟩
 rw[List.map_append] at e
 obtain⟨_,e2⟩:=List.append_inj' e rfl
 rw[List.map_append,List.map_append,← e,← e2]
theorem b7E {n:Nat} {w:List Int} {l:Int} (hw:WordOK (n+1:Nat) w) (hl:l.natAbs=n+1):RlC (n+2) (w++[l]) (n+1) w:=fun c ⟨hb,hf⟩=>by
 obtain⟨q,x,rfl,hq⟩:=b5k hw hl hb
 obtain⟨h1,h2⟩:=b1i hw hl hq
 refine⟨q++[x],⟨hq,fun d hd=>?_⟩,fun y=>by simp,fun a b ne=>h2 a b ne⟩
 obtain⟨p,y,rfl,hp⟩:=a5T (n:=n) hd.1
 obtain⟨h3,_⟩:=b1i hw hl hd
 obtain⟨f,e⟩:=hf _ h3
 refine⟨f,?_⟩
 rw[List.map_append] at e
 exact (List.append_inj' e rfl).1
theorem c1l {n:Int} {w:List Int} {m:Mv} (ok:PlOK n w) (hw:a2k n w m=.ok):RlC n.toNat w (mvTo n w m).1.toNat (mvTo n w m).2:=by
 obtain⟨n1,n6,hl,how⟩:=ok
 obtain⟨N,rfl⟩:=Int.eq_ofNat_of_zero_le (show 0≤n by lia)
 rw[Int.toNat_natCast]
 cases m with
 | step s =>
   rw[a3b] at hw
   rw[a4J]
   cases e:aft N w s with
   | none=>rw[e] at hw;cases hw
   | some r =>
     dsimp only[Option.getD_some]
     rw[Int.toNat_natCast]
     exact b9F (b5m how e)
 | round =>
   show RlC N w ((N:Int)).toNat (w.drop 1++w.take 1)
   rw[Int.toNat_natCast]
   have:=b3L (n:=N) (u:=w.take 1) (v:=w.drop 1) (fun x hx=>how x (List.mem_of_mem_take hx))
   rwa [List.take_append_drop] at this
 | back =>
   have hne:w≠[]:=fun z=>by rw[z] at hw;cases hw
   obtain⟨A,y,rfl⟩:=a4B hne
   show RlC N (A++[y]) ((N:Int)).toNat (a5h (A++[y])++(A++[y]).dropLast)
   rw[Int.toNat_natCast,a1Y,List.dropLast_concat]
   exact b3L (fun x hx=>how x (List.mem_append.mpr (.inl hx)))
 | less =>
   rw[a2o] at hw
   have hb:a6h N w=true:=by
    cases e:a6h N w with
    | true=>rfl
    | false=>rw[e] at hw;cases hw
   obtain⟨A,y,rfl,hy,hA⟩:=a3P.mp hb
   have hly:=how y (List.mem_append.mpr (.inr (.head _)))
   obtain⟨k,rfl⟩:∃ k:Nat,N=k+2:=⟨N - 2,by have:=hly.1;have:=hly.2;lia⟩
   show RlC (k+2) (A++[y]) (((k+2:Nat):Int) - 1).toNat (A++[y]).dropLast
   rw[List.dropLast_concat,show (((k+2:Nat):Int) - 1).toNat=k+1 by lia]
   refine b7E (fun x hx=>?_) (by lia)
   obtain⟨a,b⟩:=how x (List.mem_append.mpr (.inl hx))
   have:=hA x hx
   exact⟨a,by lia⟩
 | flip =>
   show RlC N w ((N:Int)).toNat (w.map (a1K N))
   rw[Int.toNat_natCast]
   exact b7F how
 | more k =>
   obtain⟨k0,rfl⟩:∃ k0:Nat,N=k0+1:=⟨N - 1,by lia⟩
   have hk:k=1∨k=-1:=by
    rw[a3c] at hw
    split at hw
    ·cases hw
    ·split at hw
     ·assumption
     ·cases hw
   show RlC (k0+1) w (((k0+1:Nat):Int)+1).toNat (w++[k*((k0+1:Nat):Int)])
   rw[show (((k0+1:Nat):Int)+1).toNat=k0+2 by lia]
   exact b7D how (by rcases hk with rfl | rfl<;>lia)
theorem b6T:∀ {L:List Mv} {n:Int} {w:List Int} {r:Int × List Int},PlOK n w→mvs n w L=some r→RlC n.toNat w r.1.toNat r.2
 | [],n,w,r,ok,e=>by obtain rfl:=Option.some.inj e;exact .refl _ _
 | m :: L,n,w,r,ok,e=>by
   rw[a2u] at e
   cases c:a2k n w m with
   | ok =>
     rw[c] at e
     exact (c1l ok c).trans (b6T (L:=L) (b5Z ok c).1 e)
   | step=>rw[c] at e;cases e
   | room=>rw[c] at e;cases e
theorem a9Y (m:List Int) (i j:Nat) (v:Int) (h:i < m.length):(m.set i v).getD j 0=if i=j then v else m.getD j 0:=by
 rw[List.getD_eq_getElem?_getD,List.getElem?_set]
 by_cases c:i=j
 ·rw[if_pos c,if_pos c,if_pos (by lia)];rfl
 ·rw[if_neg c,if_neg c,List.getD_eq_getElem?_getD]
noncomputable def FnC (n:Int) (d:Int→Int) (m:List Int):Prop:=m.length=n.toNat∧∀ x∈a0j n,d (gI m x)=d x
theorem c0L {st m:List Int} {n q:Int} {d:Int→Int} (hst:IsP n st) (hd:∀ x∈a0j n,d (gI st x)=d x) (hq:q∈a0j n) (h:FnC n d m):FnC n d (mkS st m q):=by
 obtain⟨hl,hm⟩:=h
 have q0:=a0E hq
 have s0:=a7m hst q0.1 q0.2
 have hs:gI st q∈a0j n:=a1e s0.1 s0.2
 have hlow:d (if gI m (gI st q) < gI m q then gI m (gI st q) else gI m q)=d q:=by
  split
  ·rw[hm _ hs,hd q hq]
  ·exact hm q hq
 unfold mkS
 generalize (if gI m (gI st q) < gI m q then gI m (gI st q) else gI m q)=low at hlow
 refine⟨by rw[List.length_set,List.length_set];exact hl,fun x hx=>?_⟩
 have x0:=a0E hx
 show d (List.getD _ x.toNat 0)=d x
 rw[a9Y _ _ _ _ (by rw[List.length_set];lia),a9Y _ _ _ _ (by lia)]
 by_cases c1:(gI st q).toNat=x.toNat
 ·rw[if_pos c1,hlow,← hd q hq,show gI st q=x by lia]
 ·rw[if_neg c1]
  by_cases c2:q.toNat=x.toNat
  ·rw[if_pos c2,hlow,show q=x by lia]
  ·rw[if_neg c2];exact hm x hx
theorem a8O {α β:Type} (P:α→Prop) (f:α→β→α):∀ (L:List β) (a:α),P a→(∀ a b,b∈L→P a→P (f a b))→P (L.foldl f a)
 | [],_,h,_=>h
 | b :: L,a,h,g=>a8O P f L _ (g a b (.head _) h) fun a' b' hb=>g a' b' (.tail _ hb)
theorem c0M {st:List Int} {n:Int} {d:Int→Int} (hst:IsP n st) (hd:∀ x∈a0j n,d (gI st x)=d x):FnC n d (mkF st n):=by
 unfold mkF
 refine a8O (FnC n d) _ _ _ ⟨a0l n,fun x hx=>?_⟩ fun m _ _ hm=>?_
 ·have:=a0E hx
  rw[b4L this.1 this.2]
 ·unfold mkR
  exact a8O (FnC n d) _ _ _ hm fun m q hq hm=>c0L hst hd hq hm
theorem b6Z {n:Int} {ws:List Int} (n1:1≤n) (n6:n≤6) (hw:WordOK n ws) {i:Nat} (hi:i < (pcs (a0D n ws) n).length) :
  ∃ r∈a0j n,r∈(pcs (a0D n ws) n).getD i []∧∀ x,x∈(pcs (a0D n ws) n).getD i []→x∈a0j n∧∀ d:Int→Int,(∀ y∈a0j n,d (gI (a1x n ws) y)=d y)→d x=d r:=by
 rw[← b7h n1 n6 hw] at hi⊢
 have hst:=a3I n ws (by lia) hw
 generalize a1x n ws=st at hi hst⊢
 unfold lpF at hi⊢
 rw[List.length_map] at hi
 obtain⟨r,hr⟩:∃ r,((a0j n).filter fun p=>decide (gI (mkF st n) p=p))[i]?=some r:=⟨_,List.getElem?_eq_getElem hi⟩
 have hm:=List.mem_filter.mp (List.mem_of_getElem? hr)
 have he:gI (mkF st n) r=r:=of_decide_eq_true hm.2
 have eg:(((a0j n).filter fun p=>decide (gI (mkF st n) p=p)).map fun p=>(a0j n).filter fun q=>decide (gI (mkF st n) q=p)).getD i []=(a0j n).filter fun q=>decide (gI (mkF st n) q=r):=by
  rw[List.getD_eq_getElem?_getD,List.getElem?_map,hr];rfl
 rw[eg]
 refine⟨r,hm.1,List.mem_filter.mpr ⟨hm.1,decide_eq_true he⟩,fun x hx=>?_⟩
 obtain⟨a,b⟩:=List.mem_filter.mp hx
 refine⟨a,fun d hd=>?_⟩
 rw[← (c0M hst hd).2 x a,of_decide_eq_true b]
theorem a8L {n:Int} {f:Int→Int} {x:Int} (h:x∈a0j n):gI ((a0j n).map f) x=f x:=by
 have x0:=a0E h
 show List.getD _ x.toNat 0=_
 rw[List.getD_eq_getElem?_getD,List.getElem?_map]
 have:(a0j n)[x.toNat]?=some x:=by
  unfold a0j
  rw[List.getElem?_map,List.getElem?_range (by lia)]
  show some ((x.toNat:Nat):Int)=some x
  rw[Int.toNat_of_nonneg x0.1]
 rw[this];rfl
theorem b7g {n:Int} {c:List Int} (h:c.length=n.toNat):(a0j n).map (gI c)=c:=by
 refine List.ext_getElem (by rw[List.length_map,a0l,h]) fun i h1 h2=>?_
 rw[List.getElem_map]
 have e:(a0j n)[i]'(by rw[a0l];lia)=(i:Int):=by unfold a0j;simp
 rw[e,b2d h2]
theorem c0S {n:Int} {ws:List Int} (n0:0≤n) (hw:WordOK n ws) (f:Int→Int):BkC n.toNat ws ((a0j n).map f)↔∀ x∈a0j n,f (gI (a1x n ws) x)=f x:=by
 have hl:((a0j n).length:Int)=n:=by rw[a0l];lia
 have e:ws.foldl a1l ((a0j n).map f)=(a1x n ws).map f:=b3D f (by rw[hl];exact hw)
 have hs:(a1x n ws).length=n.toNat:=by rw[(a3I n ws n0 hw).length_eq,a0l]
 have e2:=b7g hs
 constructor
 ·rintro⟨_,h⟩ x hx
  rw[e] at h
  have:=congrArg (fun l=>gI l x) h
  try dsimp only at this
  rw[a8L hx,← e2,List.map_map,a8L hx] at this
  exact this
 ·intro h
  refine⟨by rw[List.length_map,a0l],?_⟩
  rw[e,← e2,List.map_map]
  exact List.map_congr_left h
theorem b6Y {n:Int} {ws:List Int} (n1:1≤n) (n6:n≤6) (hw:WordOK n ws):∃ nu:Int→Nat,(∀ x∈a0j n,nu x < (pcs (a0D n ws) n).length∧∀ i,i < (pcs (a0D n ws) n).length→(x∈(pcs (a0D n ws) n).getD i []↔i=nu x)) ∧
  FiC n.toNat ws ((a0j n).map fun x=>(nu x:Int))∧∀ z:Int,z∈((a0j n).map fun x=>(nu x:Int))↔0≤z∧z < ((pcs (a0D n ws) n).length:Int):=by
 obtain⟨_,_,nu,hnu,hst⟩:=b4a n1 n6 hw
 refine⟨nu,fun x hx=>⟨(hnu x hx).1,(hnu x hx).2.2⟩,⟨(c0S (by lia) hw _).mpr fun x hx=>by rw[hst x hx],fun d hd=>?_⟩,fun z=>?_⟩
 ·have ed:=b7g hd.1
  rw[← ed] at hd
  have hc:=(c0S (by lia) hw _).mp hd
  refine⟨fun z=>gI d (((pcs (a0D n ws) n).getD z.toNat []).headD 0),?_⟩
  rw[List.map_map]
  refine ed.symm.trans (List.map_congr_left fun x hx=>?_)
  obtain⟨h1,_,h3⟩:=hnu x hx
  have hx2:=(h3 _ h1).mpr rfl
  obtain⟨r,_,hr,hall⟩:=b6Z n1 n6 hw h1
  show gI d x=gI d (((pcs (a0D n ws) n).getD ((nu x:Int)).toNat []).headD 0)
  rw[Int.toNat_natCast]
  generalize (pcs (a0D n ws) n).getD (nu x) []=L at hx2 hr hall
  cases L with
  | nil=>exact absurd hx2 List.not_mem_nil
  | cons y L =>
    show gI d x=gI d y
    rw[(hall x hx2).2 _ hc,(hall y (.head _)).2 _ hc]
 ·rw[List.mem_map]
  constructor
  ·rintro⟨x,hx,rfl⟩
   have:=(hnu x hx).1
   lia
  ·rintro⟨z0,z1⟩
   obtain⟨r,hr,hr2,_⟩:=b6Z n1 n6 hw (i:=z.toNat) (by lia)
   exact⟨r,hr,by rw[← ((hnu r hr).2.2 _ (by lia)).mp hr2];lia⟩
theorem b3n {ls:List (List Int)} {nu:Int→Nat} {n:Int} {a b:Nat} (ha:a < ls.length) (hb:b < ls.length) (hl:∀ x∈a0j n,∀ i,i < ls.length→(x∈ls.getD i []↔i=nu x)) :
  ∀ (ws st:List Int),IsP n st→WordOK n ws→0≤n→winS ls a b (crL st ws)=cwA (a:Int) (b:Int) (st.map fun x=>(nu x:Int)) ws
 | [],st,_,_,_=>by rw[show crL st []=[] by cases st<;>rfl,a1U];rfl
 | l :: w,st,hst,hw,h0=>by
   have hlen:st.length=n.toNat:=by rw[hst.length_eq,a0l]
   have hll:=hw l (.head _)
   obtain⟨A,x,y,B,e,eA⟩:=a6v (c:=st) (l:=l) (by rw[hlen];unfold LetOK at hll⊢;lia)
   obtain⟨g1,g2⟩:=b7q e (k:=l.natAbs - 1) (by lia)
   rw[show l.natAbs - 1+1=l.natAbs by lia] at g2
   have hP:IsP n (a1l st l):=(a5Z st l (by rw[hlen];unfold LetOK at hll⊢;lia)).trans hst
   have ih:=b3n ha hb hl w (a1l st l) hP (fun z hz=>hw z (.tail _ hz)) h0
   have hx:x∈a0j n:=hst.mem_iff.mp (by rw[e];simp)
   have hy:y∈a0j n:=hst.mem_iff.mp (by rw[e];simp)
   have e2:(st.map fun x=>(nu x:Int))=(A.map fun x=>(nu x:Int))++(nu x:Int) :: (nu y:Int) :: (B.map fun x=>(nu x:Int)):=by rw[e];simp
   rw[(a0z _ e2 (by rw[List.length_map];exact eA)).1]
   have e3:((A.map fun x=>(nu x:Int))++(nu y:Int) :: (nu x:Int) :: (B.map fun x=>(nu x:Int)))=(a1l st l).map fun x=>(nu x:Int):=by rw[a6R e eA];simp
   rw[e3,← ih]
   have k1:gI st ((l.natAbs:Int) - 1)=x:=by
    show st.getD ((l.natAbs:Int) - 1).toNat 0=x
    rw[show ((l.natAbs:Int) - 1).toNat=l.natAbs - 1 by lia];exact g1
   have k2:gI st (l.natAbs:Int)=y:=by
    show st.getD ((l.natAbs:Int)).toNat 0=y
    rw[Int.toNat_natCast];exact g2
   show winT ls a b (gI st ((l.natAbs:Int) - 1),gI st (l.natAbs:Int),sgI l)+winS ls a b (crL (a2w st (l.natAbs - 1)) w)=_
   rw[k1,k2,a3V st l (by unfold LetOK at hll;lia)]
   congr 1
   unfold winT cwt
   dsimp only
   refine ite_congr (propext ?_) (fun _=>rfl) (fun _=>rfl)
   rw[hl x hx a ha,hl y hy b hb,hl y hy a ha,hl x hx b hb]
   constructor
   ·rintro (⟨p,q⟩ | ⟨p,q⟩)
    ·exact .inl ⟨by lia,by lia⟩
    ·exact .inr ⟨by lia,by lia⟩
   ·rintro (⟨p,q⟩ | ⟨p,q⟩)
    ·exact .inl ⟨by lia,by lia⟩
    ·exact .inr ⟨by lia,by lia⟩
theorem b4W {f:Int→Int} {a b:Int}:∀ {w c:List Int},WordOK (c.length:Int) w→(∀ x∈c,(f x=f a↔x=a)∧(f x=f b↔x=b))→cwA (f a) (f b) (c.map f) w=cwA a b c w
 | [],c,_,_=>by rw[a1U,a1U]
 | l :: w,c,hw,h=>by
   obtain⟨A,x,y,B,e,hA⟩:=a6v (hw l (.head _))
   have e2:c.map f=A.map f++f x :: f y :: B.map f:=by rw[e];simp
   have e3:A.map f++f y :: f x :: B.map f=(A++y :: x :: B).map f:=by simp
   have hl:(A++y :: x :: B).length=c.length:=by rw[e];simp
   rw[(a0z _ e2 (by rw[List.length_map];exact hA)).1,(a0z _ e hA).1,e3,b4W (fun k hk=>by rw[hl];exact hw k (.tail _ hk)) (fun z hz=>h z (by rw[e];simp at hz⊢;grind))]
   congr 1
   obtain⟨p1,p2⟩:=h x (by rw[e];simp)
   obtain⟨q1,q2⟩:=h y (by rw[e];simp)
   unfold cwt
   exact ite_congr (propext (by rw[p1,p2,q1,q2])) (fun _=>rfl) (fun _=>rfl)
theorem b7r {n m:Int} {ws vs:List Int} (n1:1≤n) (n6:n≤6) (hw:WordOK n ws) (m1:1≤m) (m6:m≤6) (hv:WordOK m vs) (h:RlC n.toNat ws m.toNat vs) :
  (pcs (a0D m vs) m).length=(pcs (a0D n ws) n).length∧∃ row:List Int,IsP (pcs (a0D n ws) n).length row∧∀ a b:Nat,a < (pcs (a0D n ws) n).length→b < (pcs (a0D n ws) n).length→a≠b →
   winS (pcs (a0D m vs) m) (gI row a).toNat (gI row b).toNat (crL (a0j m) vs)=winS (pcs (a0D n ws) n) a b (crL (a0j n) ws):=by
 obtain⟨nu,hnu,hf,hz⟩:=b6Y n1 n6 hw
 obtain⟨mu,hmu,hg,hy⟩:=b6Y m1 m6 hv
 generalize hP:pcs (a0D n ws) n=P at hnu hz⊢
 generalize hR:pcs (a0D m vs) m=R at hmu hy⊢
 obtain⟨c,hc,hmem,hW⟩:=h _ hf
 obtain⟨f,ef⟩:=hc.2 _ hg.1
 obtain⟨g,eg⟩:=hg.2 _ hc.1
 have hc2:∀ z,z∈c↔0≤z∧z < (P.length:Int):=fun z=>(hmem z).symm.trans (hz z)
 have gf:∀ z∈c,g (f z)=z:=by
  have e:c.map (g ∘ f)=c:=by rw[← List.map_map,← ef,← eg]
  intro z hz
  obtain⟨i,hi,rfl⟩:=List.getElem_of_mem hz
  have:=congrArg (fun l=>l[i]?) e
  try dsimp only at this
  rw[List.getElem?_map,List.getElem?_eq_getElem hi] at this
  exact Option.some.inj this
 have fin:∀ z∈c,0≤f z∧f z < (R.length:Int):=fun z h=>(hy _).mp (by rw[ef];exact List.mem_map.mpr ⟨z,h,rfl⟩)
 have gin:∀ z,0≤z∧z < (R.length:Int)→g z∈c:=fun z h=>by rw[eg];exact List.mem_map.mpr ⟨z,(hy z).mpr h,rfl⟩
 have fg:∀ z,0≤z∧z < (R.length:Int)→f (g z)=z:=fun z h=>by
  have:=(hy z).mpr h
  rw[ef] at this
  obtain⟨x,hx,rfl⟩:=List.mem_map.mp this
  rw[gf x hx]
 have rnd:((a0j P.length).map f).Nodup:=by
  refine List.pairwise_map.mpr ((a1B _).imp_of_mem fun {a b} ha hb ne z=>ne ?_)
  rw[← gf a ((hc2 a).mpr (a0E ha)),z,gf b ((hc2 b).mpr (a0E hb))]
 have len:R.length=P.length:=by
  refine Nat.le_antisymm ?_ ?_
  ·have:=List.Nodup.length_le_of_subset (l₁:=(a0j R.length).map g) (l₂:=a0j P.length) (List.pairwise_map.mpr ((a1B _).imp_of_mem fun {a b} ha hb ne z=>ne (by rw[← fg a (a0E ha),z,fg b (a0E hb)]))) fun x hx=>by
    obtain⟨y,hy2,rfl⟩:=List.mem_map.mp hx
    have:=(hc2 _).mp (gin y (a0E hy2))
    exact a1e this.1 this.2
   rw[List.length_map,a0l,a0l] at this
   lia
  ·have:=List.Nodup.length_le_of_subset (l₁:=(a0j P.length).map f) (l₂:=a0j R.length) rnd fun x hx=>by
    obtain⟨y,hy2,rfl⟩:=List.mem_map.mp hx
    have:=fin y ((hc2 y).mpr (a0E hy2))
    exact a1e this.1 this.2
   rw[List.length_map,a0l,a0l] at this
   lia
 refine⟨len,(a0j P.length).map f,?_,fun a b ha hb ne=>?_⟩
 ·refine a4o _ _ rnd (fun x hx=>?_) (by rw[List.length_map];exact Nat.le_refl _)
  obtain⟨y,hy2,rfl⟩:=List.mem_map.mp hx
  have:=fin y ((hc2 y).mpr (a0E hy2))
  exact a1e this.1 (by rw[← len];exact this.2)
 ·have ia:((a:Nat):Int)∈c:=(hc2 _).mpr ⟨by lia,by lia⟩
  have ib:((b:Nat):Int)∈c:=(hc2 _).mpr ⟨by lia,by lia⟩
  have fa:=fin _ ia
  have fb:=fin _ ib
  rw[a8L (a1e (by lia) (by lia)),a8L (a1e (by lia) (by lia))]
  rw[b3n (n:=m) (nu:=mu) (by lia) (by lia) (fun x hx=>(hmu x hx).2) vs (a0j m) (List.Perm.refl _) hv (by lia)]
  rw[b3n (n:=n) (nu:=nu) ha hb (fun x hx=>(hnu x hx).2) ws (a0j n) (List.Perm.refl _) hw (by lia)]
  rw[hW a b (by lia),ef,Int.toNat_of_nonneg fa.1,Int.toNat_of_nonneg fb.1]
  refine b4W (by rw[hc.1.1];exact fun x hx=>by have:=hv x hx;unfold LetOK at this⊢;lia) fun x hx=>⟨⟨fun z=>?_,fun z=>by rw[z]⟩,⟨fun z=>?_,fun z=>by rw[z]⟩⟩
  ·rw[← gf x hx,z,gf _ ia]
  ·rw[← gf x hx,z,gf _ ib]
end L2
namespace L2
open PySem PySem.Spec PyProof.Rows
noncomputable def nA (k:Value→Int) (xs:Array Keyed) (i:Nat):Int:=((xs[i]?).map fun p=>k p.1).getD 0
noncomputable def Up (k:Value→Int) (xs:Array Keyed) (m:Nat):Prop:=∀ i j,i≤j→j < m→nA k xs i≤nA k xs j
noncomputable def Dn (k:Value→Int) (xs:Array Keyed) (m:Nat):Prop:=∀ i j,i≤j→j < m→nA k xs j≤nA k xs i
theorem b4k {k:Value→Int} {xs ys:Array Keyed} {i j:Nat} (h:xs[i]?=ys[j]?):nA k xs i=nA k ys j:=by unfold nA;rw[h]
theorem b7e {k:Value→Int} {xs:Array Keyed} {src d:Nat} (hs:src < xs.size) (hd:d≤src) (i:Nat) :
  nA k (bubble xs src d) i=if i=src - d then nA k xs src else if src - d < i∧i≤src then nA k xs (i - 1) else nA k xs i:=by
 have g:=getElem?_bubble hs d hd i
 by_cases c:i=src - d
 ·rw[if_pos c] at g⊢;exact b4k g
 ·by_cases e:src - d < i∧i≤src
  ·rw[if_neg c,if_pos e] at g⊢;exact b4k g
  ·rw[if_neg c,if_neg e] at g⊢;exact b4k g
theorem b4l {k:Value→Int} {xs:Array Keyed} {a b:Nat} (hb:b≤xs.size) (i:Nat) :
  nA k (mirror xs a b ((b - a) / 2)) i=if a≤i∧i < b then nA k xs (a+b - 1 - i) else nA k xs i:=by
 have g:=getElem?_mirror_all (i:=a) hb i
 by_cases c:a≤i∧i < b
 ·rw[if_pos c] at g⊢;exact b4k g
 ·rw[if_neg c] at g⊢;exact b4k g
theorem a4I {k:Value→Int} {xs:Array Keyed} {a b:Nat} (hb:b≤xs.size) (he:∀ i,a≤i→i < b→nA k xs i=nA k xs (b - 1)) (i:Nat):nA k (mirror xs a b ((b - a) / 2)) i=nA k xs i:=by
 rw[b4l hb]
 by_cases c:a≤i∧i < b
 ·rw[if_pos c,he _ (by lia) (by lia),he i c.1 c.2]
 ·rw[if_neg c]
structure Sb (c:SortKind) (z:Array Keyed) (st:SortSt):Prop where
 pm:(arrOf st).Perm z
 kd:kindOf st=c
 fl:failedOf st=none
 pd:pendingOf st=#[]
theorem Sb.sz {c:SortKind} {z:Array Keyed} {st:SortSt} (h:Sb c z st):(arrOf st).size=z.size:=h.pm.size_eq
theorem Sb.arr {c:SortKind} {z:Array Keyed} {st:SortSt} (h:Sb c z st) {xs:Array Keyed} (hp:xs.Perm (arrOf st)):Sb c z (setArr st xs):=⟨hp.trans h.pm,h.kd,h.fl,h.pd⟩
section
variable {prog:Program} {w:World} {A:Around} {E:Value→Shared→Prop} {s:Shared} {z:Array Keyed} {k:Value→Int} {c:SortKind}
noncomputable def Cmp (prog:Program) (w:World) (A:Around) (s:Shared) (k:Value→Int) (c:SortKind) (z:Array Keyed):Prop :=
 ∀ (E:Value→Shared→Prop) (p q:Keyed) (Q:Bool→Shared→Prop),p∈z.toList→q∈z.toList→Q (decide (k p.1 < k q.1)) s→wpAny (model prog w) A (keyLt' c p.1 q.1) Q E s
theorem Sb.here {st:SortSt} (h:Sb c z st) {i:Nat} (hi:i < z.size):∃ p,(arrOf st)[i]?=some p∧p∈z.toList∧nA k (arrOf st) i=k p.1:=by
 have hi2:i < (arrOf st).size:=by rw[h.sz];exact hi
 have e:(arrOf st)[i]?=some (arrOf st)[i]:=getElem?_pos _ i hi2
 refine⟨(arrOf st)[i],e,(Array.perm_iff_toList_perm.mp h.pm).mem_iff.mp (by simp),?_⟩
 unfold nA;rw[e];rfl
theorem b3K (hC:Cmp prog w A s k c z) {st:SortSt} (h:Sb c z st) {i j:Nat} (hi:i < z.size) (hj:j < z.size) {Q:Option Bool→SortSt→Prop}
  (q:Q (some (decide (nA k (arrOf st) i < nA k (arrOf st) j))) st):wpS (model prog w) A E s (ltAt' i j) Q st:=by
 obtain⟨a,e1,m1,n1⟩:=h.here (k:=k) hi
 obtain⟨b,e2,m2,n2⟩:=h.here (k:=k) hj
 rw[n1,n2] at q
 rw[ltAt'_eq]
 refine wpS_bind (wpS_get ?_)
 dsimp only
 rw[elem'_eq,elem'_eq,e1,e2]
 refine wpS_bind (wpS_pure (wpS_bind (wpS_pure ?_)))
 rw[lt'_eq]
 refine wpS_bind (wpS_get ?_)
 rw[h.kd]
 exact wpS_bind (wpS_lift (wpAny_attempt (hC _ a b _ m1 m2 ⟨rfl,wpS_pure q⟩)))
theorem b5z {st:SortSt} {i j:Nat} {Q:Unit→SortSt→Prop} (h:Q () (setArr st (mirror (arrOf st) i j ((j - i) / 2)))):wpS (model prog w) A E s (reverseSlice' i j) Q st:=wpS_reverse h
theorem b9D (hC:Cmp prog w A s k c z) {st:SortSt} (h:Sb c z st) {a m:Nat} (hm:m≤z.size) (a1:1≤a) (am:a≤m) (hu:Up k (arrOf st) a) {Q:AscSt→SortSt→Prop}
  (q:∀ n,a≤n→n≤m→Up k (arrOf st) n→(n≠m→nA k (arrOf st) n < nA k (arrOf st) (n - 1))→Q (none,n) st):wpS (model prog w) A E s (ascLoop a m) Q st:=by
 unfold ascLoop
 refine wpS_forRange (fun n r t=>t=st∧r=(none,n)∧Up k (arrOf st) n) (fun n r t l1 l2 g=>?_) (fun r t g=>?_) ⟨rfl,rfl,hu⟩
 ·obtain⟨rfl,rfl,hn⟩:=g
  dsimp only
  refine wpS_bind (b3K hC h (by lia) (by lia) ?_)
  by_cases d:nA k (arrOf t) n < nA k (arrOf t) (n - 1)
  ·rw[decide_eq_true d]
   exact wpS_pure (q n l1 (by lia) hn fun _=>d)
  ·rw[decide_eq_false d]
   refine wpS_pure ⟨rfl,rfl,fun i j hij hj=>?_⟩
   rcases (show j < n∨i=j∨(j=n∧i≤n - 1) by lia) with y | y | ⟨y,y2⟩
   ·exact hn i j hij y
   ·rw[y];exact Int.le_refl _
   ·have:=hn i (n - 1) y2 (by lia)
    rw[y];lia
 ·obtain⟨rfl,rfl,hn⟩:=g
  rw[show max a m=m by lia] at hn⊢
  exact q m am (Nat.le_refl _) hn fun y=>absurd rfl y
theorem b6O (hC:Cmp prog w A s k c z) {st:SortSt} (h:Sb c z st) {n m:Nat} (hm:m≤z.size) (n1:1≤n) (nm:n≤m) (hd:Dn k (arrOf st) n) {Q:Option Nat→SortSt→Prop}
  (q:∀ r t,Sb c z t→1≤r→r≤m→Up k (arrOf t) r→Q (some r) t):wpS (model prog w) A E s (tail3 n m) Q st:=by
 unfold tail3
 have hz:=h.sz
 have hB:=h.arr (mirror_perm (arrOf st) 0 n ((n - 0) / 2))
 refine wpS_bind (b5z (wpS_bind (b9D hC hB hm n1 nm (fun i j hij hj=>?_) fun r r1 r2 hu _=>wpS_pure (q r _ hB (by lia) r2 hu))))
 show nA k (mirror (arrOf st) 0 n ((n - 0) / 2)) i≤nA k (mirror (arrOf st) 0 n ((n - 0) / 2)) j
 rw[b4l (by lia),b4l (by lia),if_pos ⟨by lia,by lia⟩,if_pos ⟨by lia,by lia⟩]
 exact hd _ _ (by lia) (by lia)
theorem b9C (hC:Cmp prog w A s k c z) {st:SortSt} (h:Sb c z st) {n m:Nat} (hm:m≤z.size) (n1:1≤n) (nm:n≤m) (hd:Dn k (arrOf st) n) {Q:DescSt→SortSt→Prop}
  (q:∀ r e t,Sb c z t→n≤r→r≤m→Dn k (arrOf t) r→e+1≤r→(∀ i,r - (e+1)≤i→i < r→nA k (arrOf t) i=nA k (arrOf t) (r - 1))→Q (none,r,e) t):wpS (model prog w) A E s (descLoop n m) Q st:=by
 unfold descLoop
 refine wpS_forRange (fun r b t=>∃ e,b=(none,r,e)∧Sb c z t∧Dn k (arrOf t) r∧e+1≤r∧∀ i,r - (e+1)≤i→i < r→nA k (arrOf t) i=nA k (arrOf t) (r - 1)) (fun r b t l1 l2 g=>?_) (fun b t g=>?_) ⟨0,rfl,h,hd,n1,fun i x y=>by rw[show i=n - 1 by lia]⟩
 ·obtain⟨e,rfl,hB,hD,he,hq⟩:=g
  have hz:=hB.sz
  dsimp only
  refine wpS_bind (b3K hC hB (by lia) (by lia) ?_)
  by_cases d:nA k (arrOf t) r < nA k (arrOf t) (r - 1)
  ·rw[decide_eq_true d]
   have up:∀ xs:Array Keyed,(∀ i,nA k xs i=nA k (arrOf t) i)→Dn k xs (r+1):=fun xs hx i j hij hj=>by
    rw[hx,hx]
    rcases (show j < r∨i=j∨(j=r∧i≤r - 1) by lia) with y | y | ⟨y,y2⟩
    ·exact hD i j hij y
    ·rw[y];exact Int.le_refl _
    ·have:=hD i (r - 1) y2 (by lia)
     rw[y];lia
   show wpS _ _ _ _ (if e > 0 then _ else _) _ _
   by_cases e0:e > 0
   ·rw[if_pos e0]
    exact wpS_bind (b5z (wpS_pure ⟨0,rfl,hB.arr (mirror_perm _ _ _ _),up _ (a4I (by lia) hq),by lia,fun i x y=>by rw[show i=r+1 - 1 by lia]⟩))
   ·rw[if_neg e0]
    exact wpS_pure ⟨0,rfl,hB,up _ fun _=>rfl,by lia,fun i x y=>by rw[show i=r+1 - 1 by lia]⟩
  ·rw [decide_eq_false d]
   refine wpS_bind (b3K hC hB (by lia) (by lia) ?_)
   by_cases d2:nA k (arrOf t) (r - 1) < nA k (arrOf t) r
   ·rw[decide_eq_true d2]
    exact wpS_pure (q r e t hB l1 (by lia) hD he hq)
   ·rw[decide_eq_false d2]
    have same:nA k (arrOf t) r=nA k (arrOf t) (r - 1):=by lia
    refine wpS_pure ⟨e+1,rfl,hB,fun i j hij hj=>?_,by lia,fun i x y=>?_⟩
    ·rcases (show j < r∨i=j∨(j=r∧i≤r - 1) by lia) with y | y | ⟨y,y2⟩
     ·exact hD i j hij y
     ·rw[y];exact Int.le_refl _
     ·have:=hD i (r - 1) y2 (by lia)
      rw[y];lia
    ·rw[Nat.add_sub_cancel]
     rcases (show i=r∨i < r by lia) with v | v
     ·rw[v]
     ·rw[same];exact hq i (by lia) v
 ·obtain⟨e,rfl,hB,hD,he,hq⟩:=g
  rw[show max n m=m by lia] at hD he hq⊢
  exact q m e t hB nm (Nat.le_refl _) hD he hq
theorem b6Q (hC:Cmp prog w A s k c z) {st:SortSt} (h:Sb c z st) {n m:Nat} (hm:m≤z.size) (nm:n+1≤m) (hd:Dn k (arrOf st) (n+1)) {Q:Option Nat→SortSt→Prop}
  (q:∀ r t,Sb c z t→1≤r→r≤m→Up k (arrOf t) r→Q (some r) t):wpS (model prog w) A E s (descPart n m) Q st:=by
 unfold descPart
 refine wpS_bind (wpS_lift (wpAny_rule ⟨rfl,?_⟩))
 refine wpS_bind (b9C hC h hm (by lia) nm hd fun r e t hB r1 r2 hD he hq=>?_)
 have hz:=hB.sz
 show wpS _ _ _ _ (if e > 0 then _ else _) _ _
 by_cases e0:e > 0
 ·rw[if_pos e0]
  refine wpS_bind (b5z (b6O hC (hB.arr (mirror_perm _ _ _ _)) hm (by lia) r2 (fun i j hij hj=>?_) q))
  show nA k (mirror (arrOf t) (r - (e+1)) r ((r - (r - (e+1))) / 2)) j≤nA k (mirror (arrOf t) (r - (e+1)) r ((r - (r - (e+1))) / 2)) i
  rw[a4I (by lia) hq,a4I (by lia) hq]
  exact hD i j hij hj
 ·rw[if_neg e0]
  exact b6O hC hB hm (by lia) r2 hD q
theorem c1f (hC:Cmp prog w A s k c z) {st:SortSt} (h:Sb c z st) {m:Nat} (hm:m≤z.size) (m1:1≤m) {Q:Option Nat→SortSt→Prop}
  (q:∀ r t,Sb c z t→1≤r→r≤m→Up k (arrOf t) r→Q (some r) t):wpS (model prog w) A E s (countRun' 0 m) Q st:=by
 rw[countRun0_eq]
 have hz:=h.sz
 refine wpS_bind (b9D hC h hm (Nat.le_refl 1) m1 (fun i j hij hj=>by rw[show i=j by lia];exact Int.le_refl _) fun n n1 n2 hu hl=>?_)
 dsimp only
 by_cases e:n=m
 ·rw[if_pos (beq_iff_eq.mpr e)]
  exact wpS_pure (q n st h n1 n2 hu)
 ·rw [if_neg (fun y=>e (beq_iff_eq.mp y))]
  have hlt:=hl e
  by_cases g:n > 1
  ·rw[if_pos g]
   refine wpS_bind (b3K hC h (by lia) (by lia) ?_)
   by_cases d:nA k (arrOf st) 0 < nA k (arrOf st) (n - 1)
   ·rw[decide_eq_true d]
    exact wpS_pure (q n st h n1 n2 hu)
   ·rw[decide_eq_false d]
    have all:∀ i,0≤i→i < n→nA k (arrOf st) i=nA k (arrOf st) (n - 1):=fun i _ hi=>by
     have x:=hu 0 i (by lia) hi
     have y:=hu i (n - 1) (by lia) (by lia)
     lia
    refine wpS_bind (b5z (b6Q hC (h.arr (mirror_perm _ _ _ _)) hm (by lia) (fun i j hij hj=>?_) q))
    show nA k (mirror (arrOf st) 0 n ((n - 0) / 2)) j≤nA k (mirror (arrOf st) 0 n ((n - 0) / 2)) i
    rw[a4I (by lia) all,a4I (by lia) all]
    rcases (show j < n∨(j=n∧(i=n∨i < n)) by lia) with y | ⟨y,y2 | y2⟩
    ·rw[all i (by lia) (by lia),all j (by lia) y];exact Int.le_refl _
    ·rw[y,y2];exact Int.le_refl _
    ·rw[y,all i (by lia) y2];lia
  ·rw[if_neg g]
   obtain rfl:n=1:=by lia
   refine b6Q hC h hm (by lia) (fun i j hij hj=>?_) q
   rcases (show i=j∨(i=0∧j=1) by lia) with y | ⟨y,y2⟩
   ·rw[y];exact Int.le_refl _
   ·rw[y,y2];exact Int.le_of_lt hlt
theorem c1g (hC:Cmp prog w A s k c z) {st:SortSt} (h:Sb c z st) {n o:Nat} (hn:n≤z.size) (on:o≤n) (hu:Up k (arrOf st) o) {Q:Bool→SortSt→Prop}
  (q:∀ t,Sb c z t→Up k (arrOf t) n→Q true t):wpS (model prog w) A E s (binarySort' 0 n o) Q st:=by
 rw[binarySort'_eq]
 simp only[Nat.zero_add]
 refine wpS_bind (wpS_mono (wpS_forRange (fun i b t=>b=(none,())∧Sb c z t∧Up k (arrOf t) (min i n)) (Q:=fun b t=>b=(none,())∧Sb c z t∧Up k (arrOf t) n) (fun i b t i1 i2 g=>?_) (fun b t g=>?_) ⟨rfl,h,fun i j hij hj=>?_⟩) fun b t g=>?_)
 ·obtain⟨rfl,hB,hU⟩:=g
  have hz:=hB.sz
  rw[show min i n=i by lia] at hU
  refine wpS_bind (wpS_mono (wpS_forRange (fun x b t'=>t'=t∧∃ l r,b=(none,l,r)∧l≤r∧r≤i∧r≤l+(i - x)∧(∀ j,j < l→nA k (arrOf t) j≤nA k (arrOf t) i)∧∀ j,r≤j→j < i→nA k (arrOf t) i < nA k (arrOf t) j)
   (Q:=fun b t'=>t'=t∧∃ l,b=(none,l,l)∧l≤i∧(∀ j,j < l→nA k (arrOf t) j≤nA k (arrOf t) i)∧∀ j,l≤j→j < i→nA k (arrOf t) i < nA k (arrOf t) j) (fun x b t' x1 x2 g=>?_) (fun b t' g=>?_) ⟨rfl,0,i,rfl,by lia,by lia,by lia,fun j y=>by lia,fun j y y2=>by lia⟩) fun b t' g=>?_)
  ·obtain⟨rfl,l,r,rfl,lr,ri,hx,lo,hi⟩:=g
   dsimp only
   by_cases e:l ≥ r
   ·obtain rfl:l=r:=by lia
    rw[if_pos e]
    exact wpS_pure ⟨rfl,l,rfl,ri,lo,hi⟩
   ·rw[if_neg e]
    refine wpS_bind (b3K hC hB (by lia) (by lia) ?_)
    by_cases d:nA k (arrOf t') i < nA k (arrOf t') ((l+r) / 2)
    ·rw[decide_eq_true d]
     refine wpS_pure ⟨rfl,l,(l+r) / 2,rfl,by lia,by lia,by lia,lo,fun j y y2=>?_⟩
     have:=hU _ j y y2
     lia
    ·rw[decide_eq_false d]
     refine wpS_pure ⟨rfl,(l+r) / 2+1,r,rfl,by lia,by lia,by lia,fun j y=>?_,hi⟩
     have:=hU j ((l+r) / 2) (by lia) (by lia)
     lia
  ·obtain⟨rfl,l,r,rfl,lr,ri,hx,lo,hi⟩:=g
   obtain rfl:l=r:=by lia
   exact⟨rfl,l,rfl,ri,lo,hi⟩
  ·obtain⟨rfl,l,rfl,li,lo,hi⟩:=g
   show wpS _ _ _ _ (do moveDown' i l;pure (ForInStep.yield (none,()))) _ _
   rw[moveDown'_eq]
   refine wpS_bind (wpS_modify (wpS_pure ⟨rfl,hB.arr (bubble_perm _ _ _),fun a b ab hb=>?_⟩))
   rw[show min (i+1) n=i+1 by lia] at hb
   show nA k (bubble (arrOf t') i (i - l)) a≤nA k (bubble (arrOf t') i (i - l)) b
   rw[b7e (by lia) (by lia),b7e (by lia) (by lia),show i - (i - l)=l by lia]
   rcases (show a < l∨a=l∨l < a by lia) with x | x | x
   ·rw[if_neg (by lia),if_neg (by lia)]
    rcases (show b < l∨b=l∨l < b by lia) with y | y | y
    ·rw[if_neg (by lia),if_neg (by lia)];exact hU a b ab (by lia)
    ·rw[if_pos y];exact lo a x
    ·rw[if_neg (by lia),if_pos (by lia)];exact hU a (b - 1) (by lia) (by lia)
   ·rw[if_pos x]
    rcases (show b=l∨l < b by lia) with y | y
    ·rw[if_pos y];exact Int.le_refl _
    ·rw[if_neg (by lia),if_pos (by lia)]
     exact Int.le_of_lt (hi (b - 1) (by lia) (by lia))
   ·rw[if_neg (by lia),if_pos (by lia),if_neg (by lia),if_pos (by lia)]
    exact hU (a - 1) (b - 1) (by lia) (by lia)
 ·obtain⟨hb,hB,hU⟩:=g
  rw[show min (max (max o 1) n) n=n by lia] at hU
  exact⟨hb,hB,hU⟩
 ·rcases (show i=j∨j < o by lia) with y | y
  ·rw[y];exact Int.le_refl _
  ·exact hu i j hij y
 ·obtain⟨rfl,hB,hU⟩:=g
  exact wpS_pure (q t hB hU)
theorem c1i (hC:Cmp prog w A s k c z) {st:SortSt} (h:Sb c z st) (z64:z.size < 64) {Q:Unit→SortSt→Prop}
  (q:∀ t,(arrOf t).Perm z→failedOf t=none→Up k (arrOf t) z.size→Q () t):wpS (model prog w) A E s sortRuns' Q st:=by
 rw[sortRuns'_eq]
 refine wpS_bind (wpS_get ?_)
 dsimp only
 have mr:minRun' z.size z.size 0=z.size:=by
  rcases (show z.size=0∨∃ f,z.size=f+1 from by rcases hz:z.size with _ | f;exact .inl rfl;exact .inr ⟨f,rfl⟩) with e | ⟨f,e⟩
  ·rw[e];rfl
  ·have g:=minRun'_succ f z.size 0
   rw[if_pos z64,← e] at g
   exact g
 have hz:=h.sz
 simp only[hz,mr]
 refine wpS_bind (wpS_mono (wpS_forRange (fun x b t=>(x=0∧b=(none,0)∧Sb c z t)∨(1≤x∧b=(none,z.size)∧(arrOf t).Perm z∧failedOf t=none∧(pendingOf t).size≤1∧Up k (arrOf t) z.size))
  (Q:=fun b t=>b.1=none∧(arrOf t).Perm z∧failedOf t=none∧(pendingOf t).size≤1∧Up k (arrOf t) z.size) (fun x b t x0 x1 g=>?_) (fun b t g=>?_) (.inl ⟨rfl,rfl,h⟩)) fun b t g=>?_)
 ·have done:∀ t,Sb c z t→Up k (arrOf t) z.size→(arrOf (setPending t ((pendingOf t).push (0,z.size,0)))).Perm z∧failedOf (setPending t ((pendingOf t).push (0,z.size,0)))=none∧(pendingOf (setPending t ((pendingOf t).push (0,z.size,0)))).size≤1∧Up k (arrOf (setPending t ((pendingOf t).push (0,z.size,0)))) z.size :=
   fun t hB hU=>⟨hB.pm,hB.fl,by show ((pendingOf t).push _).size≤1;rw[hB.pd];exact Nat.le_refl 1,hU⟩
  rcases g with ⟨rfl,rfl,hB⟩ | ⟨y,rfl,g⟩
  ·dsimp only
   rw[if_neg (by lia)]
   simp only[Nat.sub_zero,Nat.min_self,Nat.zero_add]
   refine wpS_bind (c1f hC hB (Nat.le_refl _) (by lia) fun r t2 hB2 r1 r2 hU=>?_)
   dsimp only
   by_cases l:r < z.size
   ·rw[if_pos l]
    refine wpS_bind (wpS_lift (wpAny_rule ⟨rfl,?_⟩))
    refine wpS_bind (c1g hC hB2 (Nat.le_refl _) r2 hU fun t3 hB3 hU3=>?_)
    simp only[Bool.not_true,Bool.false_eq_true,if_false]
    refine wpS_bind (wpS_get ?_)
    rw[show (pendingOf t3).back?=none by rw[hB3.pd];rfl]
    dsimp only
    exact wpS_bind (wpS_modify (wpS_pure (.inr ⟨by lia,rfl,done t3 hB3 hU3⟩)))
   ·rw[if_neg l]
    obtain rfl:r=z.size:=by lia
    refine wpS_bind (wpS_get ?_)
    rw[show (pendingOf t2).back?=none by rw[hB2.pd];rfl]
    dsimp only
    exact wpS_bind (wpS_modify (wpS_pure (.inr ⟨by lia,rfl,done t2 hB2 hU⟩)))
  ·dsimp only
   rw[if_pos (Nat.le_refl _)]
   exact wpS_pure ⟨rfl,g⟩
 ·rcases g with ⟨y,rfl,hB⟩ | ⟨_,rfl,g⟩
  ·have z0:z.size=0:=by lia
   exact⟨rfl,hB.pm,hB.fl,by rw[hB.pd];exact Nat.zero_le 1,fun i j _ hj=>by lia⟩
  ·exact⟨rfl,g⟩
 ·obtain⟨r,l⟩:=b
  obtain⟨b1,g1,g2,g3,g4⟩:=g
  dsimp only at b1
  subst b1
  dsimp only
  refine wpS_bind (wpS_mono (wpS_forRange (fun _ b t'=>t'=t∧b=(none,())) (Q:=fun b t'=>t'=t∧b=(none,())) (fun x b t' _ _ e=>?_) (fun _ _ e=>e) ⟨rfl,rfl⟩) fun b t' e=>?_)
  ·obtain⟨rfl,rfl⟩:=e
   refine wpS_bind (wpS_get ?_)
   rw[if_pos g3]
   exact wpS_pure ⟨rfl,rfl⟩
  ·obtain⟨rfl,rfl⟩:=e
   exact wpS_pure (q _ g1 g2 g4)
end
theorem b5M {α β:Type} (f:α→β) {l m:List β} (h:l.Perm m):∀ {Z:List α},m=Z.map f→∃ Y:List α,Y.Perm Z∧Y.map f=l:=by
 induction h with
 | nil=>intro Z e;exact⟨Z,.refl _,e.symm⟩
 | cons x _ ih =>
   intro Z e
   cases Z with
   | nil=>cases e
   | cons z Z =>
     injection e with e1 e2
     obtain⟨Y,h1,h2⟩:=ih e2
     exact⟨z :: Y,h1.cons z,by rw[List.map_cons,h2,e1]⟩
 | swap x y l =>
   intro Z e
   match Z,e with
   | a :: b :: Z,e =>
     injection e with e1 e2
     injection e2 with e2 e3
     exact⟨b :: a :: Z,.swap a b Z,by rw[List.map_cons,List.map_cons,← e1,← e2,← e3]⟩
 | trans _ _ i1 i2 =>
   intro Z e
   obtain⟨Y,h1,h2⟩:=i2 e
   obtain⟨X,h3,h4⟩:=i1 h2.symm
   exact⟨X,h3.trans h1,h4⟩
theorem b2Y (b:Bool) (x y:Value):keyLt' (tuples' b) x y=(do
  let xs ← Builtin.List.listItems x
  let ys ← Builtin.List.listItems y
  for ((p,q),i) in (xs.toList.zip ys.toList).zipIdx do
   if !(← eqBool p q) then return ← oneLt' (b && i == 0) p q
  return xs.size < ys.size):=rfl
noncomputable def ltX (x y:Int × Int × Int):Bool:=decide (x.1 < y.1) || (decide (x.1=y.1) && (decide (x.2.1 < y.2.1) || (decide (x.2.1=y.2.1) && decide (x.2.2 < y.2.2))))
noncomputable def IsT3 (h:Heap) (v:Value) (x:Int × Int × Int):Prop:=∃ (p:Addr) (t1 t2 t3:Tok),v=.ref p∧IsTup h p #[.int x.1 t1,.int x.2.1 t2,.int x.2.2 t3]
theorem IsT3.keep {h h':Heap} {v:Value} {x:Int × Int × Int} (g:IsT3 h v x) (k:∀ b o,h.get? b=some o→o.cls=.type "tuple"→h'.get? b=some o):IsT3 h' v x:=by
 obtain⟨p,t1,t2,t3,e,o,ho,hc,n,hd⟩:=g
 exact⟨p,t1,t2,t3,e,o,k _ _ ho hc,hc,n,hd⟩
section
variable {prog:Program} {w:World} {A:Around} {E:Value→Shared→Prop} {s:Shared}
theorem a7a {b:Bool} {x y:Int} {t u:Tok} {Q:Bool→Shared→Prop} (h:Q (decide (x < y)) s):wpAny (model prog w) A (oneLt' b (.int x t) (.int y u)) Q E s:=by
 cases b with
 | true=>exact oneLt_int h
 | false =>
   rw[oneLt'_eq]
   simp only[Bool.false_eq_true,if_false]
   exact wpAny_bind (wpAny_lt_int (wpAny_truthy_bool h))
theorem c0Q {v u:Value} {x y:Int × Int × Int} (hv:IsT3 s.heap v x) (hu:IsT3 s.heap u y) {Q:Bool→Shared→Prop} (h:Q (ltX x y) s):wpAny (model prog w) A (keyLt' (tuples' true) v u) Q E s:=by
 obtain⟨p,t1,t2,t3,rfl,o,ho,_,n,hd⟩:=hv
 obtain⟨q,u1,u2,u3,rfl,o',ho',_,n',hd'⟩:=hu
 obtain⟨x1,x2,x3⟩:=x
 obtain⟨y1,y2,y3⟩:=y
 unfold ltX at h
 dsimp only at *
 rw[b2Y]
 refine wpAny_bind (listItems_at ho hd (wpAny_bind (listItems_at ho' hd' ?_)))
 simp only[List.zip_cons_cons,List.zip_nil_right,List.zipIdx_cons,List.zipIdx_nil,List.forIn_cons,List.forIn_nil,bind_assoc,List.size_toArray,List.length_cons,List.length_nil]
 refine wpAny_bind (wpAny_eqBool_int ?_)
 by_cases e1:x1=y1
 ·rw[beq_iff_eq.mpr e1]
  simp only[Bool.not_true,Bool.false_eq_true,if_false,pure_bind,bind_assoc]
  refine wpAny_bind (wpAny_eqBool_int ?_)
  by_cases e2:x2=y2
  ·rw[beq_iff_eq.mpr e2]
   simp only[Bool.not_true,Bool.false_eq_true,if_false,pure_bind,bind_assoc]
   refine wpAny_bind (wpAny_eqBool_int ?_)
   by_cases e3:x3=y3
   ·rw[beq_iff_eq.mpr e3]
    simp only[Bool.not_true,Bool.false_eq_true,if_false,pure_bind,bind_assoc]
    refine wpAny_pure ?_
    subst e1 e2 e3
    simpa using h
   ·rw[beq_eq_false_iff_ne.mpr e3]
    simp only[Bool.not_false,if_true,pure_bind,bind_assoc]
    refine wpAny_bind (a7a ?_)
    try simp only[pure_bind]
    refine wpAny_pure ?_
    subst e1 e2
    simpa using h
  ·rw[beq_eq_false_iff_ne.mpr e2]
   simp only[Bool.not_false,if_true,pure_bind,bind_assoc]
   refine wpAny_bind (a7a ?_)
   try simp only[pure_bind]
   refine wpAny_pure ?_
   subst e1
   simpa [e2] using h
 ·rw[beq_eq_false_iff_ne.mpr e1]
  simp only[Bool.not_false,if_true,pure_bind,bind_assoc]
  refine wpAny_bind (a7a ?_)
  try simp only[pure_bind]
  refine wpAny_pure ?_
  simpa [e1] using h
end
section
variable {prog:Program} {w:World} {A:Around} {E:Value→Shared→Prop} {s:Shared}
theorem b6t {v:Value} {x:Int × Int × Int} (h:IsT3 s.heap v x) {Q:Option Value→Shared→Prop} (q:∀ t,Q (some (.int x.1 t)) s):wpAny (model prog w) A (firstOfTuple' v) Q E s:=by
 obtain⟨p,t1,t2,t3,rfl,o,ho,hc,n,hd⟩:=h
 show wpAny _ _ (typeOf (.ref p) >>= fun c=>if (c != .type "tuple")=true then pure none else Builtin.List.listItems (.ref p) >>= fun xs=>pure xs[0]?) Q E s
 refine wpAny_bind (wpAny_typeOf (T:="tuple") ⟨o,ho,hc⟩ ?_)
 rw[show (Value.type "tuple" != Value.type "tuple")=false by rfl]
 exact wpAny_bind (listItems_at ho hd (wpAny_pure (q t1)))
theorem b0e:∀ {vs:List Value} {Q:List (Option Value)→Shared→Prop},(∀ v∈vs,∃ x,IsT3 s.heap v x)→(∀ us ns,IntsAre us ns→us.length=vs.length→Q (us.map some) s)→wpAny (model prog w) A (vs.mapM firstOfTuple') Q E s
 | [],Q,_,q=>by rw[List.mapM_nil];exact wpAny_pure (q [] [] .nil rfl)
 | v :: vs,Q,h,q=>by
   rw[List.mapM_cons]
   obtain⟨x,hx⟩:=h v (.head _)
   refine wpAny_bind (b6t hx fun t=>wpAny_bind (b0e (fun u hu=>h u (.tail _ hu)) fun us ns hI hl=>wpAny_pure ?_))
   exact q (.int x.1 t :: us) (x.1 :: ns) (.cons x.1 t hI) (by rw[List.length_cons,List.length_cons,hl])
theorem b8B {vs:List Value} (h:∀ v∈vs,∃ x,IsT3 s.heap v x) (h1:1≤vs.length) {Q:SortKind→Shared→Prop} (q:Q (tuples' true) s):wpAny (model prog w) A (keyKind' vs.toArray) Q E s:=by
 rw[keyKind'_eq,List.mapM_toArray]
 simp only[map_eq_pure_bind,bind_assoc,pure_bind]
 refine wpAny_bind (b0e h fun us ns hI hl=>?_)
 rw[if_pos (by simp)]
 refine wpAny_bind (wpAny_rule ?_)
 rw[show (us.map some).toArray.filterMap id=us.toArray by simp,oneTypeOnly'_eq,List.mapM_toArray,mapM_typeOf_ints hI]
 simp only[map_pure,pure_bind]
 have h0:(us.map fun _=>Value.type "int").toArray[0]?=some (Value.type "int"):=by
  cases us with
  | nil=>rw[List.length_nil] at hl;lia
  | cons u us=>rfl
 have ha:((us.map fun _=>Value.type "int").toArray.all fun x=>x == Value.type "int")=true:=by
  rw[List.all_toArray,List.all_map,List.all_eq_true]
  exact fun _ _=>rfl
 rw[h0]
 simp only[ha,if_true,pure_bind]
 exact wpAny_pure q
theorem b7a {k:Value→Int} {vs:List Value} {xs:Array Keyed} (hp:xs.Perm (pairsOf vs)) (hu:Up k xs (pairsOf vs).size):(xs.map (·.2)).toList.Perm vs∧((xs.map (·.2)).toList.map k).Pairwise (·≤·):=by
 have hl:xs.toList.Perm (vs.zip vs):=by rw[← pairsOf_toList];exact Array.perm_iff_toList_perm.mp hp
 have he:∀ p∈xs.toList,p.1=p.2:=fun p h=>(mem_zip_self (hl.mem_iff.mp h)).1
 rw[Array.toList_map]
 refine⟨?_,?_⟩
 ·have:=hl.map Prod.snd
  rwa [List.map_snd_zip (Nat.le_refl _)] at this
 ·rw[List.map_map,List.pairwise_map,List.pairwise_iff_getElem]
  intro i j hi hj hij
  have hs:=hp.size_eq
  have hi2:i < xs.size:=by simpa using hi
  have hj2:j < xs.size:=by simpa using hj
  have g:=hu i j (Nat.le_of_lt hij) (by rw[← hs];exact hj2)
  unfold nA at g
  rw[getElem?_pos xs i hi2,getElem?_pos xs j hj2] at g
  show k xs.toList[i].2≤k xs.toList[j].2
  rw[← he _ (List.getElem_mem hi),← he _ (List.getElem_mem hj)]
  exact g
noncomputable def srtH (h:Heap) (a:Addr) (vs:List Value):Heap:=((h.update a (Obj.mapSeq fun _=>#[])).push (seqObj "tuple" vs.toArray 0)).push (seqObj "list" #[] 0)
theorem b5v {h:Heap} {a:Addr} {vs:List Value} {b:Addr} {o:Obj} (ne:b≠a) (hb:h.get? b=some o):(srtH h a vs).get? b=some o:=by
 unfold srtH
 refine Heap.get?_push_of_some _ (Heap.get?_push_of_some _ ?_)
 rw[Heap.get?_update_ne _ _ _ _ ne];exact hb
theorem b6d {a:Addr} {vs:List Value} {n:Nat} {k:Value→Int} {c:SortKind} {P:Fin→Shared→Prop} (ho:s.heap.get? a=some (seqObj "list" vs.toArray n)) (h64:vs.length < 64)
  (hK:2≤vs.length→∀ (Q:SortKind→Shared→Prop),Q c { s with heap:=srtH s.heap a vs }→wpAny (model prog w) A (keyKind' vs.toArray) Q E { s with heap:=srtH s.heap a vs })
  (hC:Cmp prog w A { s with heap:=srtH s.heap a vs } k c (pairsOf vs))
  (h:∀ out:Array Value,out.toList.Perm vs→(out.toList.map k).Pairwise (·≤·)→P (.done (.ret .none)) { s with heap:=sortedHeap s.heap a vs out }) :
  wpAny (model prog w) A (Builtin.«list.sort» ⟨[.ref a],[]⟩) P E s:=by
 have la:a < s.heap.objs.size:=Heap.lt_size ho
 have hn:vs.toArray.size=vs.length:=by simp
 rw[list_sort_plain]
 refine wpAny_bind (listItems_at ho rfl (wpAny_bind (listUpdate_at ho rfl ?_)))
 obtain⟨e1,g1⟩:∃ e1,(s.heap.update a (Obj.mapSeq fun _=>#[])).get? a=some (seqObj "list" #[] e1):=⟨_,get?_update_seq ho (fun _=>#[])⟩
 refine wpAny_bind (seqEpoch_at g1 rfl (wpAny_bind (wpAny_newTuple (wpAny_bind (wpAny_newList (wpAny_holding ?_))))))
 have g6:(srtH s.heap a vs).get? a=some (seqObj "list" #[] e1):=Heap.get?_push_of_some _ (Heap.get?_push_of_some _ g1)
 show wpAny (model prog w) A _ P E { s with heap:=srtH s.heap a vs }
 dsimp only
 by_cases h2:vs.length < 2
 ·rw[if_pos (by rw[hn];exact h2),if_pos (by rw[hn];exact h2)]
  refine wpAny_bind (wpAny_pure ?_)
  rw[StateT.run_pure]
  refine wpAny_bind (wpAny_pure ?_)
  dsimp only
  refine wpAny_bind (seqEpoch_at g6 rfl (wpAny_bind (listUpdate_at g6 rfl ?_ (hsz2:=by rw[Array.size_map];show (pairsOf vs).size≤_;rw[pairsOf_size,sizeLine_eq];lia))))
  simp only[bne_self_eq_false,Bool.false_eq_true,if_false]
  obtain⟨o1,o2⟩:=b7a (k:=k) (vs:=vs) (xs:=pairsOf vs) (Array.Perm.refl _) fun i j hij hj=>by
   rw[pairsOf_size] at hj
   rw[show i=j by lia];exact Int.le_refl _
  exact wpAny_pure (h _ o1 o2)
 ·rw[if_neg (by rw[hn];exact h2),if_neg (by rw[hn];exact h2)]
  refine wpAny_bind (hK (by lia) _ ?_)
  refine wpAny_bind (wpAny_mono (c1i (z:=pairsOf vs) (k:=k) (st:=SortSt.mk' c (vs.toArray.zip vs.toArray) #[] 7 none) hC ⟨Array.Perm.refl _,rfl,rfl,rfl⟩ (by rw[pairsOf_size];exact h64)
   (Q:=fun _ t=>(arrOf t).Perm (pairsOf vs)∧failedOf t=none∧Up k (arrOf t) (pairsOf vs).size) fun t a1 a2 a3=>⟨a1,a2,a3⟩) ?_ fun _ _ e=>e)
  intro r s' hr
  obtain⟨e,b1,b2,b3⟩:=hr
  subst e
  obtain⟨u,t⟩:=r
  dsimp only at b1 b2 b3⊢
  refine wpAny_bind (seqEpoch_at g6 rfl (wpAny_bind (listUpdate_at g6 rfl ?_ (hsz2:=by rw[Array.size_map,b1.size_eq,pairsOf_size,sizeLine_eq];lia))))
  rw[b2]
  simp only[bne_self_eq_false,Bool.false_eq_true,if_false]
  obtain⟨o1,o2⟩:=b7a b1 b3
  exact wpAny_pure (h _ o1 o2)
theorem b3C {l:Addr} {vs:List Value} {k:Value→Int} {Q:Value→Shared→Prop} (h64:vs.length < 64)
  (hv:∀ v∈vs,∃ x,IsT3 s.heap v x) (hk:∀ v∈vs,∀ u∈vs,∀ x y,IsT3 s.heap v x→IsT3 s.heap u y→ltX x y=decide (k v < k u)) (hl:s.heap.IsList l vs.toArray)
  (h:∀ out:Array Value,out.toList.Perm vs→(out.toList.map k).Pairwise (·≤·)→Q (.ref (s.heap.objs.size+1)) { s with heap:=sortedAll s.heap vs out }) :
  wpAny (model prog w) A (call (.builtin "sorted") [.ref l]) Q E s:=by
 refine Calls.call_function_entry kind_sorted plain_sorted entry_sorted (args_sorted1 _) ?_
 unfold Builtin.«sorted»
 refine wpAny_bind (m:=checkCount "sorted" 1 1 _) (wpAny_pure ?_)
 refine wpAny_bind (collect_list hl ?_ (by rw[sizeLine_eq];lia))
 refine wpAny_bind (wpAny_newList ?_)
 have hs:((s.heap.push (seqObj "list" #[] 0)).update s.heap.objs.size (Obj.mapSeq (·++vs.toArray))).objs.size=s.heap.objs.size+1:=by rw[Heap.size_update,size_push']
 have hoL:(((s.heap.push (seqObj "list" #[] 0)).update s.heap.objs.size (Obj.mapSeq (·++vs.toArray))).push (seqObj "list" vs.toArray 0)).get? (s.heap.objs.size+1)=some (seqObj "list" vs.toArray 0):=by
  rw[← hs];exact Heap.get?_push_size _ rfl
 have old:∀ b o,s.heap.get? b=some o→(((s.heap.push (seqObj "list" #[] 0)).update s.heap.objs.size (Obj.mapSeq (·++vs.toArray))).push (seqObj "list" vs.toArray 0)).get? b=some o:=fun b o g=>by
  have lb:=Heap.lt_size g
  refine Heap.get?_push_of_some _ ?_
  rw[Heap.get?_update_ne _ _ _ _ (by lia)]
  exact Heap.get?_push_of_some _ g
 show wpAny _ _ _ _ _ { s with heap:=((s.heap.push (seqObj "list" #[] 0)).update s.heap.objs.size (Obj.mapSeq (·++vs.toArray))).push (seqObj "list" vs.toArray 0) }
 rw[hs]
 have fin:∀ out:Array Value,out.toList.Perm vs→(out.toList.map k).Pairwise (·≤·)→Q (.ref (s.heap.objs.size+1)) { s with heap:=sortedHeap (((s.heap.push (seqObj "list" #[] 0)).update s.heap.objs.size (Obj.mapSeq (·++vs.toArray))).push (seqObj "list" vs.toArray 0)) (s.heap.objs.size+1) vs out }:=h
 generalize ((s.heap.push (seqObj "list" #[] 0)).update s.heap.objs.size (Obj.mapSeq (·++vs.toArray))).push (seqObj "list" vs.toArray 0)=G at hoL old fin⊢
 have up:∀ v x,IsT3 s.heap v x→IsT3 (srtH G (s.heap.objs.size+1) vs) v x:=fun v x g=>g.keep fun b o hb _=>b5v (by have:=Heap.lt_size hb;lia) (old b o hb)
 refine wpAny_bind (wpAny_holding (wpAny_call_entry slot_list_sort ⟨_,hoL,rfl⟩ entry_list_sort ?_ (args_list_sort _)))
 refine b6d (k:=k) (c:=tuples' true) hoL h64 (fun h2 Q' q=>?_) ?_ fun out a1 a2=>⟨_,rfl,?_⟩
 ·refine b8B ?_ (by lia) q
  intro v m
  obtain⟨x,hx⟩:=hv v m
  exact⟨x,up v x hx⟩
 rotate_left
 ·exact wpAny_pure ⟨_,rfl,fin out a1 a2⟩
 intro E' p q Q' mp mq q'
 rw[pairsOf_toList] at mp mq
 have m1:=(mem_zip_self mp).2
 have m2:=(mem_zip_self mq).2
 obtain⟨x,hx⟩:=hv _ m1
 obtain⟨y,hy⟩:=hv _ m2
 refine c0Q (up _ _ hx) (up _ _ hy) ?_
 rw[hk _ m1 _ m2 x y hx hy];exact q'
end
noncomputable def t3T (x:Int × Int × Int):T:=.tup [.int x.1,.int x.2.1,.int x.2.2]
theorem IsT3.inj {h:Heap} {v:Value} {x y:Int × Int × Int} (g:IsT3 h v x) (g':IsT3 h v y):x=y:=by
 obtain⟨p,t1,t2,t3,rfl,o,ho,_,n,hd⟩:=g
 obtain⟨q,u1,u2,u3,e,o',ho',_,n',hd'⟩:=g'
 injection e with e
 subst e
 rw[ho] at ho'
 obtain rfl:=Option.some.inj ho'
 rw[hd] at hd'
 injection hd' with hd' _
 have:=congrArg Array.toList hd'
 injection this with a1 this
 injection this with a2 this
 injection this with a3 _
 injection a1 with a1 _
 injection a2 with a2 _
 injection a3 with a3 _
 exact Prod.ext a1 (Prod.ext a2 a3)
section
variable {X:Cx} {pins:List (Addr × Obj)} {σ:St} {H:Hp} {s:Shared}
theorem c1K (I:Inv X pins σ H s) {v:V} {u:Value} {x:Int × Int × Int} (r:Rep X.K H v (t3T x)) (g:RelV v u):IsT3 s.heap u x:=by
 obtain⟨p,xs,rfl,h1,h2⟩:=a1g r
 obtain⟨v1,w1,e1,r1,h2⟩:∃ a b,xs=a :: b∧Rep X.K H a (.int x.1)∧Reps X.K H b [.int x.2.1,.int x.2.2]:=by unfold Reps at h2;exact h2
 obtain⟨v2,v3,e2,r2,r3⟩:=b7G h2
 obtain rfl:=a0w r1
 obtain rfl:=a0w r2
 obtain rfl:=a0w r3
 subst e1 e2
 obtain⟨its,rv,ht,_⟩:=I.tuple h1
 cases g
 cases rv with
 | cons g1 rv =>
   cases rv with
   | cons g2 rv =>
     cases rv with
     | cons g3 rv =>
       cases rv
       obtain⟨t1,rfl⟩:=g1
       obtain⟨t2,rfl⟩:=g2
       obtain⟨t3,rfl⟩:=g3
       exact⟨p,t1,t2,t3,rfl,ht⟩
theorem b6F (I:Inv X pins σ H s):∀ {ns:List (Int × Int × Int)} {ys:List V} {its:List Value},Reps X.K H ys (ns.map t3T)→Vals ys its→∃ Z:List ((Int × Int × Int) × V × Value),Z.map (·.1)=ns∧Z.map (·.2.1)=ys∧Z.map (·.2.2)=its∧∀ z∈Z,IsT3 s.heap z.2.2 z.1∧Rep X.K H z.2.1 (t3T z.1)∧RelV z.2.1 z.2.2
 | [],ys,its,r,g=>by
   rw[List.map_nil] at r
   unfold Reps at r
   subst r
   cases g
   exact⟨[],rfl,rfl,rfl,fun z hz=>absurd hz List.not_mem_nil⟩
 | n :: ns,ys,its,r,g=>by
   rw[List.map_cons] at r
   unfold Reps at r
   obtain⟨v,ys,rfl,r1,r2⟩:=r
   cases g with
   | cons g1 g2 =>
     obtain⟨Z,a,b,c,d⟩:=b6F I r2 g2
     rename_i u us
     refine⟨(n,v,u) :: Z,by rw[List.map_cons,a],by rw[List.map_cons,b],by rw[List.map_cons,c],fun z hz=>?_⟩
     rcases List.mem_cons.mp hz with e | hz
     ·subst e;exact⟨c1K I r1 g1,r1,g1⟩
     ·exact d z hz
theorem b1L:∀ {Z:List ((Int × Int × Int) × V × Value)},(∀ z∈Z,Rep X.K H z.2.1 (t3T z.1))→Reps X.K H (Z.map (·.2.1)) ((Z.map (·.1)).map t3T)
 | [],_=>by rw[List.map_nil,List.map_nil,List.map_nil];unfold Reps;rfl
 | z :: Z,h=>by
   rw[List.map_cons,List.map_cons,List.map_cons]
   unfold Reps
   exact⟨_,_,rfl,h z (.head _),b1L fun y hy=>h y (.tail _ hy)⟩
theorem b1B:∀ {Z:List ((Int × Int × Int) × V × Value)},(∀ z∈Z,RelV z.2.1 z.2.2)→Vals (Z.map (·.2.1)) (Z.map (·.2.2))
 | [],_=>.nil
 | z :: Z,h=>.cons (h z (.head _)) (b1B fun y hy=>h y (.tail _ hy))
noncomputable def b0W:List T→MH→VK3→Prop:=fun xs M Q=>match xs with
 | [.adr p]=>(match M p with | some (.lst ts)=>∃ (ns:List (Int × Int × Int)) (k:Int × Int × Int→Int),ts=ns.map t3T∧ns.length < 64∧(∀ x∈ns,∀ y∈ns,ltX x y=decide (k x < k y))∧∀ ms:List (Int × Int × Int),ms.Perm ns→(ms.map k).Pairwise (·≤·)→∀ r,M r=none→Q (.adr r) (updM M r (.lst (ms.map t3T))) | _=>False)
 | _=>False
theorem b0w:a3T X (.builtin "sorted") b0W:=by
 classical
 intro pins s σ H vs us Q2 I r h
 obtain⟨xs,M,Q,rr,hh,q,en⟩:=h
 unfold b0W at q
 split at q
 ·rename_i p
  obtain⟨v,rfl,r1⟩:=a2m rr
  obtain rfl:=a0L r1
  split at q
  ·rename_i ts e0
   obtain⟨ns,κ,rfl,h64,hκ,q⟩:=q
   obtain⟨ys,g1,g2⟩:=hh _ _ e0
   obtain⟨u,rfl,ru⟩:=a5o r
   cases ru
   obtain⟨its,rv,pl,_⟩:=I.list (SqL.of g1)
   obtain⟨Z,z1,z2,z3,z4⟩:=b6F I g2 rv
   have hlen:its.length=ns.length:=by rw[← z3,← z1,List.length_map,List.length_map]
   let k:Value→Int:=fun v=>if h:∃ x,IsT3 s.heap v x then κ h.choose else 0
   have hk:∀ z∈Z,k z.2.2=κ z.1:=fun z hz=>by
    have hx:∃ x,IsT3 s.heap z.2.2 x:=⟨_,(z4 z hz).1⟩
    show (if h:∃ x,IsT3 s.heap z.2.2 x then κ h.choose else 0)=_
    rw[dif_pos hx,hx.choose_spec.inj (z4 z hz).1]
   refine b3C (k:=k) (vs:=its) (by lia) (fun v hv=>?_) (fun v hv u hu x y hx hy=>?_) pl.isList fun out a1 a2=>?_
   ·rw[← z3] at hv
    obtain⟨z,hz,rfl⟩:=List.mem_map.mp hv
    exact⟨_,(z4 z hz).1⟩
   ·rw[← z3] at hv hu
    obtain⟨z,hz,rfl⟩:=List.mem_map.mp hv
    obtain⟨z',hz',rfl⟩:=List.mem_map.mp hu
    rw[hk z hz,hk z' hz',hx.inj (z4 z hz).1,hy.inj (z4 z' hz').1]
    exact hκ _ (by rw[← z1];exact List.mem_map.mpr ⟨z,hz,rfl⟩) _ (by rw[← z1];exact List.mem_map.mpr ⟨z',hz',rfl⟩)
   ·rw[← z3] at a1
    obtain⟨Y,y1,y2⟩:=b5M _ a1 rfl
    have y4:=fun z (hz:z∈Y)=>z4 z (y1.mem_iff.mp hz)
    obtain⟨e,he⟩:=sortedAll_at s.heap its out
    have fr:=I.hok.fresh (Nat.le_succ s.heap.objs.size)
    have hY:(Y.map (·.2.1)).length≤sizeLine:=by
     rw[List.length_map,y1.length_eq]
     have:Z.length=ns.length:=by rw[← z1,List.length_map]
     rw[this,sizeLine_eq];lia
    refine⟨.ref (s.heap.objs.size+1),_,I.laid (t':=s.toks) (fun b o hb=>sortedAll_old hb) (Nat.le_succ _) (show a2a X.prog X.w _ (sortedAll s.heap its out) _ (.lst (Y.map (·.2.1))) from ⟨hY,out.toList,e,by rw[← y2];exact b1B fun z hz=>(y4 z hz).2.2,by rw[Array.toArray_toList];exact he⟩),rfl,?_⟩
    refine en _ _ _ _ (Kp.new fr) (hh.newL fr (b1L fun z hz=>(y4 z hz).2.1)) a2j (q (Y.map (·.1)) (by rw[← z1];exact y1.map _) ?_ _ (hh.free fr))
    rw[← y2,List.map_map] at a2
    rw[List.map_map]
    have:Y.map (k ∘ fun z=>z.2.2)=Y.map (κ ∘ fun z=>z.1):=List.map_congr_left fun z hz=>hk z (y1.mem_iff.mp hz)
    rwa [this] at a2
  ·exact q.elim
 ·exact q.elim
end
noncomputable def b7i (tl:TE3):TI3:=fun ρ M R=>tl ρ M fun x M1=>match x with
 | .adr p=>(match M1 p with | some (.fz kvs)=>R ⟨a5i kvs,fun _=>True⟩ M1 | some (.dt kvs)=>R ⟨a5i kvs,fun _=>True⟩ (updM M1 p (.fz kvs)) | _=>False)
 | _=>False
section
variable {X:Cx}
theorem b8I {tg l:Expr} {tl:TE3} (hl:HE X l tl):HI X tg l (b7i tl):=by
 intro ρ M R h pins s σ H R2 I b
 obtain⟨hr,hh,en⟩:=b
 refine thn (hl ρ M _ h pins s σ H (fun v H1=>∃ t M1,Kp X.K H H1∧HR X.K H1 M1∧Rep X.K H1 v t∧(match t with
  | .adr p=>(match M1 p with | some (.fz kvs)=>R ⟨a5i kvs,fun _=>True⟩ M1 | some (.dt kvs)=>R ⟨a5i kvs,fun _=>True⟩ (updM M1 p (.fz kvs)) | _=>False)
  | _=>False)) I ⟨hr,hh,fun t v M1 H1 k1 h1 r1 q1=>⟨t,M1,k1,h1,r1,q1⟩⟩) fun v s1 ⟨x,H1,I1,rv,t,M1,k1,h1,r1,q1⟩=>?_
 suffices hs:∃ (a:Addr) (o:Obj) (xs:List (List Key × V)) (kvs:List (List Key × T)) (H2:Hp) (M2:MH),Inv X pins σ H2 s1∧H2 a=some (.frz o (.dT xs))∧KRep X.K H2 xs kvs∧Kp X.K H H2∧HR X.K H2 M2∧R ⟨a5i kvs,fun _=>True⟩ M2∧RelV (V.ref a) v by
  obtain⟨a,o,xs,kvs,H2,M2,I2,g,gr,k2,hh2,q2,rx⟩:=hs
  cases rx
  obtain⟨e0,z,y,xs2,r,o',es,ep,h1',h2,h3,_⟩:=(show s1.heap.get? a=some o∧a2a X.prog X.w H2 s1.heap a (.dT xs) from I2.hok a _ g)
  rw[e0] at h1'
  obtain rfl:=Option.some.inj h1'
  refine a6x y e0 h2 h3 fun s2 it hit ht hgn hs2=>?_
  subst hs2 hit
  refine⟨s1.heap.objs.size,[s1.heap.objs.size],_,_,_,rfl,I2.kept (t':=s1.toks) fun b o e=>Heap.get?_push_of_some _ e,a9c a o _,⟨es,ep,h3,_,Heap.get?_push_size _ rfl,rfl,rfl⟩,fun b hb=>?_,en ⟨a5i kvs,fun _=>True⟩ _ M2 _ k2 hh2 ?_ q2⟩
  ·have e:b=s1.heap.objs.size:=by simpa using hb
   subst e
   exact I2.fpOk (Nat.le_refl _) (I2.hok.fresh (Nat.le_refl _))
  ·have base:=a9V (K:=X.K) (H:=H2) (d:=a) (o:=o) (kvs:=kvs)
   exact⟨fun H' M' k hh _=>base.stop H' M' k hh ⟨xs,g,gr⟩,fun i x H' M' e k hh _=>base.go i x H' M' e k hh ⟨xs,g,gr⟩⟩
 split at q1
 ·rename_i a
  obtain rfl:=a0L r1
  split at q1
  ·rename_i kvs e0
   obtain⟨o,xs,g1,g2⟩:=h1 _ _ e0
   exact⟨a,o,xs,kvs,H1,M1,I1,g1,g2,k1,h1,q1,rv⟩
  ·rename_i kvs e0
   obtain⟨xs,g1,g2⟩:=h1 _ _ e0
   obtain⟨z,y,xs2,r,o,es,ep,h1',h2,h3,h4,h5⟩:=(show a2a X.prog X.w H1 s1.heap a (.dT xs) from I1.hok a _ g1)
   have kd:=Kp.dict (K:=X.K) (u:=.frz o (.dT xs)) g1 (.inr ⟨_,rfl⟩)
   have I2:Inv X pins σ (upd H1 a (.frz o (.dT xs))) s1:=I1.write (t':=s1.toks) (by rw[g1];trivial) (.inl rfl) (fun b u _ e=>e) ⟨o,h1'⟩
    ⟨h1',z,y,xs2,Paired.mapP r fun p q w=>⟨w.1,by rw[a0v (b8t w.2.1 g1 (by intro z;cases z))];exact w.2.1,w.2.2⟩,o,es,ep,h1',h2,h3,h4,h5⟩
   refine⟨a,o,xs,kvs,_,updM M1 a (.fz kvs),I2,a0B,g2.kp kd,k1.trans kd,fun c u ec=>?_,q1,rv⟩
   by_cases hc:c=a
   ·subst hc
    rw[a0f] at ec;cases ec
    exact⟨o,xs,a0B,g2.kp kd⟩
   ·rw[a0t hc] at ec
    exact (h1 c u ec).kp kd fun u _ q=>by rw[a0v hc];exact q
  ·exact q1.elim
 ·exact q1.elim
end
end L2
namespace L2
open PySem PySem.Spec PyProof.Rows LM
noncomputable def pmX (m:Int) (row:List Int):List (List Int):=((a0j m).filter fun x=>!decide (x∈row)).map fun x=>row++[x]
noncomputable def pmL (m:Int):Nat→List (List Int)
 | 0=>[[]]
 | k+1=>(pmL m k).flatMap (pmX m)
theorem b9T:∀ m≤6,∀ k≤6,(pmL ((m:Nat):Int) k).length≤720:=by decide +kernel
theorem b6W {m:Int}:∀ (k:Nat) {row:List Int},row.length=k→row.Nodup→(∀ x∈row,x∈a0j m)→row∈pmL m k
 | 0,row,hl,_,_=>by
   rw[List.eq_nil_of_length_eq_zero hl]
   exact .head _
 | k+1,row,hl,hn,hm=>by
   obtain⟨q,a,rfl,hq⟩:=a5T (n:=k) hl
   have nd:=List.nodup_append.mp hn
   refine List.mem_flatMap.mpr ⟨q,b6W k hq nd.1 fun x hx=>hm x (List.mem_append.mpr (.inl hx)),?_⟩
   unfold pmX
   refine List.mem_map.mpr ⟨a,List.mem_filter.mpr ⟨hm a (by simp),?_⟩,rfl⟩
   have:a ∉ q:=fun z=>nd.2.2 a z a (.head _) rfl
   simp [this]
theorem c1s {m:Int} {row:List Int} (h:IsP m row):row∈pmL m m.toNat:=b6W _ h.len h.nodup fun x hx=>h.mem_iff.mp hx
theorem b3U {m:Int}:∀ (k:Nat) {row:List Int},row∈pmL m k→row.length=k∧row.Nodup∧∀ x∈row,x∈a0j m
 | 0,row,h=>by
   rw[List.mem_singleton.mp h]
   exact⟨rfl,.nil,fun x hx=>absurd hx List.not_mem_nil⟩
 | k+1,row,h=>by
   obtain⟨q,hq,h⟩:=List.mem_flatMap.mp h
   unfold pmX at h
   obtain⟨a,ha,rfl⟩:=List.mem_map.mp h
   obtain⟨ha1,ha2⟩:=List.mem_filter.mp ha
   obtain⟨h1,h2,h3⟩:=b3U k hq
   refine⟨by rw[List.length_append,h1];rfl,?_,fun x hx=>?_⟩
   ·refine List.nodup_append.mpr ⟨h2,List.pairwise_singleton _ _,fun x hx y hy e=>?_⟩
    rw[List.mem_singleton.mp hy] at e
    subst e
    simp [hx] at ha2
   ·rcases List.mem_append.mp hx with z | z
    ·exact h3 x z
    ·rw[List.mem_singleton.mp z];exact ha1
theorem b9U {m:Int} {row:List Int} (h:row∈pmL m m.toNat):IsP m row:=by
 obtain⟨h1,h2,h3⟩:=b3U _ h
 exact a4o _ _ h2 h3 (by rw[h1,a0l];exact Nat.le_refl _)
noncomputable def loR (row:List Int) (a b:Nat):Int:=if gI row b < gI row a then gI row b else gI row a
noncomputable def hiR (row:List Int) (a b:Nat):Int:=if gI row b > gI row a then gI row b else gI row a
noncomputable def renL (row:List Int) (F:Nat→Nat→Int) (ps:List (Nat × Nat)):List (Int × Int × Int):=ps.map fun p=>(loR row p.1 p.2,hiR row p.1 p.2,F p.1 p.2)
noncomputable def winP (F:Nat→Nat→Int) (ps:List (Nat × Nat)):List (Int × Int × Int):=ps.map fun p=>((p.1:Int),(p.2:Int),F p.1 p.2)
noncomputable def kyT (x:Int × Int × Int):Int:=x.1*8+x.2.1
theorem b3R:∀ m≤6,(prs m).Pairwise fun p q=>p.1*8+p.2 < q.1*8+q.2:=by decide +kernel
theorem b3S:∀ m≤6,(prs m).length=m*(m - 1) / 2∧(prs m).length≤15:=by decide +kernel
theorem a7n {n:Int} {row:List Int} (h:IsP n row) {a b:Nat} (ha:(a:Int) < n) (hb:(b:Int) < n) (e:gI row a=gI row b):a=b:=by
 have hl:=h.len
 have a2:a < row.length:=by lia
 have b2:b < row.length:=by lia
 rw[b2d a2,b2d b2] at e
 rw[← h.nodup.idxOf_getElem a a2,e,h.nodup.idxOf_getElem b b2]
theorem b2V {m:Nat} {row:List Int} (h:IsP m row) {p:Nat × Nat} (hp:p∈prs m):((loR row p.1 p.2).toNat,(hiR row p.1 p.2).toNat)∈prs m∧0≤loR row p.1 p.2∧0≤hiR row p.1 p.2:=by
 obtain⟨h1,h2,h3⟩:=a1w.mp hp
 have r1:=a7m h (k:=(p.1:Int)) (by lia) (by lia)
 have r2:=a7m h (k:=(p.2:Int)) (by lia) (by lia)
 have ne:gI row p.1≠gI row p.2:=fun e=>by have:=a7n h (by lia) (by lia) e;lia
 unfold loR hiR
 refine⟨a1w.mpr ?_,?_,?_⟩
 ·split<;>split<;>lia
 ·split<;>lia
 ·split<;>lia
theorem a9Q {m:Nat} {row:List Int} (h:IsP m row) {p q:Nat × Nat} (hp:p∈prs m) (hq:q∈prs m) (e1:loR row p.1 p.2=loR row q.1 q.2) (e2:hiR row p.1 p.2=hiR row q.1 q.2):p=q:=by
 obtain⟨a1,a2,a3⟩:=a1w.mp hp
 obtain⟨b1,b2,b3⟩:=a1w.mp hq
 unfold loR at e1
 unfold hiR at e2
 have key:(gI row p.1=gI row q.1∧gI row p.2=gI row q.2)∨(gI row p.1=gI row q.2∧gI row p.2=gI row q.1):=by
  split at e1<;>split at e1<;>split at e2<;>split at e2<;>lia
 rcases key with ⟨k1,k2⟩ | ⟨k1,k2⟩
 ·exact Prod.ext (a7n h (by lia) (by lia) k1) (a7n h (by lia) (by lia) k2)
 ·have:=a7n h (by lia) (by lia) k1
  have:=a7n h (by lia) (by lia) k2
  lia
theorem b6V {m:Nat} (m6:m≤6) {row:List Int} (h:IsP m row) (F:Nat→Nat→Int):∀ x∈renL row F (prs m),∀ y∈renL row F (prs m),ltX x y=decide (kyT x < kyT y):=by
 intro x hx y hy
 obtain⟨p,hp,rfl⟩:=List.mem_map.mp hx
 obtain⟨q,hq,rfl⟩:=List.mem_map.mp hy
 obtain⟨p1,p2,p3⟩:=b2V h hp
 obtain⟨q1,q2,q3⟩:=b2V h hq
 obtain⟨a1,a2,a3⟩:=a1w.mp p1
 obtain⟨b1,b2,b3⟩:=a1w.mp q1
 try dsimp only at a1 a2 a3 b1 b2 b3
 unfold ltX kyT
 dsimp only
 by_cases e:loR row p.1 p.2=loR row q.1 q.2∧hiR row p.1 p.2=hiR row q.1 q.2
 ·obtain rfl:=a9Q h hp hq e.1 e.2
  simp
 ·rw[Bool.eq_iff_iff]
  simp only[Bool.or_eq_true,Bool.and_eq_true,decide_eq_true_eq]
  lia
theorem a9w:∀ (l r:List (Nat × Nat)),l.Nodup→(∀ x∈l,x∈r)→r.length≤l.length→l.Perm r
 | [],r,_,_,h=>by
   rw[List.length_nil] at h
   rw[List.eq_nil_of_length_eq_zero (by lia:r.length=0)]
 | x :: l,r,nd,hs,h=>by
   have hx:=hs x List.mem_cons_self
   have nd':=List.nodup_cons.mp nd
   refine (List.Perm.cons x (a9w l (r.erase x) nd'.2 (fun y hy=>?_) ?_)).trans (List.perm_cons_erase hx).symm
   ·exact (List.mem_erase_of_ne (fun z=>nd'.1 (by rw[← z];exact hy))).mpr (hs y (List.mem_cons_of_mem _ hy))
   ·rw[List.length_erase_of_mem hx]
    rw[List.length_cons] at h
    lia
theorem b5B {m:Nat} (m6:m≤6) {row:List Int} (h:IsP m row) {F G:Nat→Nat→Int} (hg:∀ p∈prs m,G (loR row p.1 p.2).toNat (hiR row p.1 p.2).toNat=F p.1 p.2):(renL row F (prs m)).Perm (winP G (prs m)):=by
 have nd:(prs m).Nodup:=(b3R m m6).imp fun {p q} h e=>by subst e;exact Nat.lt_irrefl _ h
 have pp:((prs m).map fun p=>((loR row p.1 p.2).toNat,(hiR row p.1 p.2).toNat)).Perm (prs m):=by
  have n2:((prs m).map fun p=>((loR row p.1 p.2).toNat,(hiR row p.1 p.2).toNat)).Nodup:=by
   refine List.pairwise_map.mpr (nd.imp_of_mem fun {p q} hp hq ne e=>ne ?_)
   obtain⟨_,p2,p3⟩:=b2V h hp
   obtain⟨_,q2,q3⟩:=b2V h hq
   injection e with e1 e2
   exact a9Q h hp hq (by lia) (by lia)
  refine a9w _ _ n2 (fun x hx=>?_) (by rw[List.length_map];exact Nat.le_refl _)
  obtain⟨p,hp,rfl⟩:=List.mem_map.mp hx
  exact (b2V h hp).1
 have e:renL row F (prs m)=winP G ((prs m).map fun p=>((loR row p.1 p.2).toNat,(hiR row p.1 p.2).toNat)):=by
  unfold renL winP
  rw[List.map_map]
  refine List.map_congr_left fun p hp=>?_
  obtain⟨_,p2,p3⟩:=b2V h hp
  show _=((((loR row p.1 p.2).toNat:Nat):Int),(((hiR row p.1 p.2).toNat:Nat):Int),G (loR row p.1 p.2).toNat (hiR row p.1 p.2).toNat)
  rw[Int.toNat_of_nonneg p2,Int.toNat_of_nonneg p3,hg p hp]
 rw[e]
 exact pp.map fun p:Nat × Nat=>((p.1:Int),(p.2:Int),G p.1 p.2)
theorem a7M {m:Nat} (m6:m≤6) {row:List Int} (h:IsP m row) {F G:Nat→Nat→Int} (hg:∀ p∈prs m,G (loR row p.1 p.2).toNat (hiR row p.1 p.2).toNat=F p.1 p.2) {ms:List (Int × Int × Int)} (hp:ms.Perm (renL row F (prs m))) (hs:(ms.map kyT).Pairwise (·≤·)):ms=winP G (prs m):=by
 have q:=hp.trans (b5B m6 h hg)
 refine List.Perm.eq_of_pairwise (le:=fun x y=>kyT x≤kyT y) (fun x y hx hy l1 l2=>?_) (List.pairwise_map.mp hs) ?_ q
 ·have hx2:=q.mem_iff.mp hx
  obtain⟨a,ha,rfl⟩:=List.mem_map.mp hx2
  obtain⟨b,hb,rfl⟩:=List.mem_map.mp hy
  obtain⟨a1,a2,a3⟩:=a1w.mp ha
  obtain⟨b1,b2,b3⟩:=a1w.mp hb
  unfold kyT at l1 l2
  dsimp only at l1 l2
  have:a=b:=Prod.ext (by lia) (by lia)
  rw[this]
 ·unfold winP
  refine List.pairwise_map.mpr ((b3R m m6).imp fun {p q} h=>?_)
  unfold kyT
  dsimp only
  lia
local macro_rules | `(tactic| walk_at "3") => `(tactic| first | exact Or.inl rfl | exact Or.inr (Or.inl rfl) | exact Or.inr (Or.inr rfl))
local macro_rules | `(tactic| walk_at "2") => `(tactic| first | exact Or.inl rfl | exact Or.inr rfl)
local macro_rules | `(tactic| walk_at "4") => `(tactic| first | exact .inl rfl | exact .inr rfl | assumption)
local macro_rules | `(tactic| walk_at "ln") => `(tactic| (intro ts M Q h; first | (split at h <;> first | rfl | exact h.elim) | (obtain ⟨_, _, _, _, _, rfl, _⟩ := h; rfl) | (obtain ⟨_, _, _, _, rfl, _⟩ := h; rfl) | (obtain ⟨_, _, _, rfl, _⟩ := h; rfl) | (obtain ⟨_, _, rfl, _⟩ := h; rfl) | (obtain ⟨_, rfl, _⟩ := h; rfl)))
local macro_rules | `(tactic| walk_at "lnx") => `(tactic| (intro ts M Q E h; first | (split at h <;> first | rfl | exact h.elim) | (obtain ⟨_, _, _, _, _, rfl, _⟩ := h; rfl) | (obtain ⟨_, _, _, _, rfl, _⟩ := h; rfl) | (obtain ⟨_, _, _, rfl, _⟩ := h; rfl) | (obtain ⟨_, _, rfl, _⟩ := h; rfl) | (obtain ⟨_, rfl, _⟩ := h; rfl)))
local macro_rules | `(tactic| walk_at "b0") => `(tactic| exact fun _ _ _ _ _ _ us hl => c1I (P := fun us => bindArgs _ ⟨us, []⟩ = pure (List.zip _ us)) hl rfl)
local macro_rules | `(tactic| walk_at "b1") => `(tactic| exact fun _ _ _ _ _ _ us hl => c0s (P := fun us => bindArgs _ ⟨us, []⟩ = pure (List.zip _ us)) hl (fun _ => rfl))
local macro_rules | `(tactic| walk_at "b2") => `(tactic| exact fun _ _ _ _ _ _ us hl => c0r (P := fun us => bindArgs _ ⟨us, []⟩ = pure (List.zip _ us)) hl (fun _ _ => rfl))
local macro_rules | `(tactic| walk_at "b3") => `(tactic| exact fun _ _ _ _ _ _ us hl => c0q (P := fun us => bindArgs _ ⟨us, []⟩ = pure (List.zip _ us)) hl (fun _ _ _ => rfl))
local macro_rules | `(tactic| walk_at "b4") => `(tactic| exact fun _ _ _ _ _ _ us hl => c0p (P := fun us => bindArgs _ ⟨us, []⟩ = pure (List.zip _ us)) hl (fun _ _ _ _ => rfl))
local macro_rules | `(tactic| walk_at "b5") => `(tactic| exact fun _ _ _ _ _ _ us hl => c0o (P := fun us => bindArgs _ ⟨us, []⟩ = pure (List.zip _ us)) hl (fun _ _ _ _ _ => rfl))
local macro_rules | `(tactic| walk_at "b6") => `(tactic| exact fun _ _ _ _ _ _ us hl => c1H (P := fun us => bindArgs _ ⟨us, []⟩ = pure (List.zip _ us)) hl (fun _ _ _ _ _ _ => rfl))
local macro_rules | `(tactic| walk_at "sc") => `(tactic| exact ⟨rfl, rfl, rfl, by decide +kernel, rfl, by decide +kernel, by decide +kernel⟩)
local macro_rules | `(tactic| walk_at "rd") => `(tactic| (try simp only [b7i, b0W, b7J, rIn3, b1G, rInD, b7O, a8t, b7N, b9l, a8j, tCB3, b3t, b9o, b5t, tK, tOp3, tUn3, a1G, b7u, b6I, a9e, b6J, b9s, b3s, b9j, b9n, b9t, tOr3, b6L, b9m, b1F, b9i, b9p, b6K, tLM3, b6H, tLMS, b0X, b8F, b5D, b7x, tDGK, sDPK, sDPT, rIs3, b9K, b1Z, b8G, b9h,
 b0a,b0c,b8O,b4K,c0J,a9h,tSl3,tNo3,tPt3,c0D,c0E,tDGZ,c0F,b7j,b4G,b4F,b8K,b7U,b7K,b7M,b9L,b9J,b9I,rInt,b7L,rIx3,b7P,b7V,b0V,b3N,b7Q,b7T,b5E,a8u,rLt3,rLe3,rGt3,rGe3,b0Y,rEq3,rNe3,rEqv,b6R,truT,b6j,
 b0J,b0I,b2u,b2H,b2G,b3V,b4z,List.getElem?_cons_zero,List.getElem?_cons_succ,List.set_cons_zero,List.set_cons_succ,List.length_cons,List.length_nil,List.map_nil,List.isEmpty_cons,List.isEmpty_nil,a0f,a5A,c0T,c1V,c1U,c1J,b0z,a7j,
 a6X,b5H,a5J,a1S,b2E,b0Z,a5S,b8W,b2h,a2p,b4T,b3j,b1u,a3F,b4P,b6v,b4O,id,Bool.not_true,Bool.not_false,Bool.and_true,Bool.true_and,Bool.or_false,Bool.false_or,
 decide_eq_true_eq,Bool.not_eq_true',decide_eq_false_iff_not,Bool.false_eq_true,↓reduceIte,if_true,if_false,true_and,and_true,and_self,Nat.zero_le,not_true_eq_false,not_false_eq_true,List.length_map,List.length_append,List.length_singleton]))
noncomputable abbrev top (i:Nat):Stmt:=PySem.Challenge.pw_loopwright_k51_whole_what_moves_keep.main.body.getD i (.Pass ⟨0,0,0,0⟩)
noncomputable abbrev a4h:Stmt:=top 8
noncomputable abbrev a4E:Stmt:=top 9
noncomputable abbrev a4X:Stmt:=top 10
noncomputable abbrev a6H:Stmt:=top 11
noncomputable abbrev a4i:Stmt:=top 12
noncomputable abbrev a3f:Stmt:=top 13
noncomputable abbrev a1R:Stmt:=top 14
noncomputable abbrev a4F:Stmt:=top 15
noncomputable abbrev a4W:Stmt:=top 16
noncomputable abbrev a2T:Stmt:=top 19
noncomputable abbrev a5I:Stmt:=top 20
noncomputable abbrev a4k:Stmt:=top 21
noncomputable abbrev a5H:Stmt:=top 22
noncomputable abbrev a6G:Stmt:=top 24
noncomputable abbrev a3u:Stmt:=top 25
noncomputable abbrev a5E:Stmt:=top 26
noncomputable abbrev b1K:Stmt:=top 27
noncomputable abbrev a5F:Stmt:=top 28
noncomputable abbrev a3w:Stmt:=top 30
noncomputable abbrev a4V:Stmt:=top 31
noncomputable abbrev a5G:Stmt:=top 32
noncomputable abbrev a6T:Stmt:=top 33
noncomputable abbrev a4j:Stmt:=top 34
noncomputable abbrev a2e:Stmt:=top 35
noncomputable abbrev a3L:Stmt:=top 36
noncomputable abbrev a3v:Stmt:=top 37
noncomputable abbrev a4f:Stmt:=top 38
noncomputable abbrev a3e:Stmt:=top 39
noncomputable abbrev a4e:Stmt:=top 40
noncomputable abbrev a4d:Stmt:=top 41
noncomputable abbrev a8p:Stmt:=top 42
noncomputable abbrev a4g:Stmt:=top 43
noncomputable abbrev a3y:Stmt:=top 45
noncomputable abbrev a4l:Stmt:=top 46
noncomputable abbrev a2U:Stmt:=top 47
noncomputable abbrev a3z:Stmt:=top 48
noncomputable abbrev a4m:Stmt:=top 49
noncomputable abbrev a3x:Stmt:=top 50
noncomputable abbrev a3B:Stmt:=top 51
noncomputable abbrev a3M:Stmt:=top 52
noncomputable abbrev a2g:Stmt:=top 53
noncomputable abbrev a2z:Stmt:=top 55
noncomputable abbrev a1M:Stmt:=top 56
noncomputable abbrev a2h:Stmt:=top 57
noncomputable abbrev a3A:Stmt:=top 58
noncomputable abbrev a2V:Stmt:=top 59
noncomputable abbrev a2f:Stmt:=top 60
noncomputable abbrev a2A:Stmt:=top 61
noncomputable abbrev b0P:Stmt:=top 62
theorem a9p:FnScope ["strands","letter"] ["strands","letter"] (a0i a4h):=by walk_at "sc"
theorem b2y:FnScope ["strands","word","most"] ["strands","word","most"] (a0i a4E):=by walk_at "sc"
theorem b0O:FnScope ["plait"] ["plait"] (a0i a4X):=by walk_at "sc"
theorem b3I:FnScope ["plait"] ["plait"] (a0i a6H):=by walk_at "sc"
theorem a9q:FnScope ["row","at"] ["row","at"] (a0i a4i):=by walk_at "sc"
theorem a9o:FnScope ["order"] ["order"] (a0i a3f):=by walk_at "sc"
theorem a6c:FnScope ["strands","letter"] ["strands","letter"] (a0i a1R):=by walk_at "sc"
theorem a7L:FnScope ["plait","strands"] ["plait"] (a0i a4F):=by walk_at "sc"
theorem a4a:FnScope ["plait","standing","letter"] ["plait"] (a0i a4W):=by walk_at "sc"
theorem a7w:FnScope ["strands","word"] ["strands","word"] (a0i a2T):=by walk_at "sc"
theorem b2A:FnScope ["word","at"] ["word","at"] (a0i a5I):=by walk_at "sc"
theorem a3s:FnScope ["word","at","p","q","r"] ["word","at"] (a0i a4k):=by walk_at "sc"
theorem b2z:FnScope ["word","at"] ["word","at"] (a0i a5H):=by walk_at "sc"
theorem b3H:FnScope ["number","letter"] ["number","letter"] (a0i a6G):=by walk_at "sc"
theorem a2P:FnScope ["word","at","p","q","r"] ["word","at"] (a0i a3u):=by walk_at "sc"
theorem b2v:FnScope ["strands","word","at","letter"] ["strands","word","at","letter"] (a0i a5E):=by walk_at "sc"
theorem b3J:FnScope ["strands","word","step","at"] ["strands","word","step"] (a0i b1K):=by walk_at "sc"
theorem b2w:FnScope ["strands","word","step"] ["strands","word","step"] (a0i a5F):=by walk_at "sc"
theorem a2Q:FnScope ["order","begin","places","at"] ["order","begin"] (a0i a3w):=by walk_at "sc"
theorem a6S:FnScope ["plait","order","found"] ["plait"] (a0i a4V):=by walk_at "sc"
theorem b2x:FnScope ["letter"] ["letter"] (a0i a5G):=by walk_at "sc"
theorem b5x:FnScope ["plait"] ["plait"] (a0i a6T):=by walk_at "sc"
theorem a1X:FnScope ["plait","standing","found","letter","at"] ["plait"] (a0i a4j):=by walk_at "sc"
theorem a1q:FnScope ["parts","numbers","number","places","place"] ["parts"] (a0i a2e):=by walk_at "sc"
theorem a0X:FnScope ["plait","parts","sums","one","other","numbers","first","second","sign"] ["plait"] (a0i a3L):=by walk_at "sc"
theorem a8o:FnScope ["plait"] ["plait"] (a0i a3v):=by walk_at "sc"
theorem a9n:FnScope ["plait"] ["plait"] (a0i a4f):=by walk_at "sc"
theorem a4C:FnScope ["plait","greatest","found"] ["plait"] (a0i a3e):=by walk_at "sc"
theorem a6t:FnScope ["plait","sign","strands"] ["plait","sign"] (a0i a4e):=by walk_at "sc"
theorem a6s:FnScope ["plait","step","word"] ["plait","step"] (a0i a4d):=by walk_at "sc"
theorem b5y:FnScope ["plait","move"] ["plait","move"] (a0i a8p):=by walk_at "sc"
theorem a4D:FnScope ["plait","moves","move"] ["plait","moves"] (a0i a4g):=by walk_at "sc"
theorem a4b:FnScope ["script","k","cell"] ["script","k"] (a0i a3y):=by walk_at "sc"
theorem a3t:FnScope ["state","many","found","mixed"] ["state","many"] (a0i a4l):=by walk_at "sc"
theorem a5l:FnScope ["state","strands","number"] ["state","strands"] (a0i a2U):=by walk_at "sc"
theorem a2S:FnScope ["state","most","longest","strands","word","k"] ["state","most","longest"] (a0i a3z):=by walk_at "sc"
theorem a9r:FnScope ["letter"] ["letter"] (a0i a4m):=by walk_at "sc"
theorem a2R:FnScope ["part","p","q","r"] ["part"] (a0i a3x):=by walk_at "sc"
theorem a2d:FnScope ["strands","word","step","at","ahead","part","pair"] ["strands","word","step"] (a0i a3B):=by walk_at "sc"
theorem a5r:FnScope ["strands","word","found","kind"] ["strands","word"] (a0i a3M):=by walk_at "sc"
theorem a4x:FnScope ["state","strands","word","longest","some"] ["state","strands","word","longest"] (a0i a2g):=by walk_at "sc"
theorem a4c:FnScope ["plait","move","strands","word"] ["plait","move"] (a0i a2z):=by walk_at "sc"
theorem a1z:FnScope ["plait","move","strands","word","last","there"] ["plait","move"] (a0i a1M):=by walk_at "sc"
theorem a0R:FnScope ["state","plait","longest","strands","word","some","move","step"] ["state","plait","longest"] (a0i a2h):=by walk_at "sc"
theorem a1J:FnScope ["state","plait","many","most","longest","found","k","move","room"] ["state","plait","many","most","longest"] (a0i a3A):=by walk_at "sc"
theorem a1t:FnScope ["plait","moves","found","move"] ["plait","moves"] (a0i a2V):=by walk_at "sc"
theorem a1s:FnScope ["many","rows","k","longer","row"] ["many"] (a0i a2f):=by walk_at "sc"
theorem a1m:FnScope ["one","other","many","told","first","second","number","row","renamed"] ["one","other","many"] (a0i a2A):=by walk_at "sc"
theorem a6u:FnScope ["script","state","plait","moves","due","handed","there","many"] ["script"] (a0i b0P):=by walk_at "sc"
structure CanN (P:Program) (w:World) (K:PySem.W.Frag) (mg:Str→Option Value) (dC fC1 fC2 fC3:Addr):Prop where
 can:CanK K P w dC [("far",fC1),("three",fC2),("out",fC3)]
 mc:mg "CAN"=some (.ref dC)
 m1:mg "can_far"=some (.ref fC1)
 m2:mg "can_three"=some (.ref fC2)
 m3:mg "can_out"=some (.ref fC3)
 kp:∀ q∈([("far",fC1),("three",fC2),("out",fC3)]:List (Str × Addr)),PySem.W.keepIn K (.ref q.2)=true
structure Zs (mg:Str→Option Value):Prop where
 b_abs:mg "abs"=none
 b_all:mg "all"=none
 b_enumerate:mg "enumerate"=none
 b_int:mg "int"=none
 b_len:mg "len"=none
 b_list:mg "list"=none
 b_max:mg "max"=none
 b_min:mg "min"=none
 b_range:mg "range"=none
 b_sorted:mg "sorted"=none
 b_sum:mg "sum"=none
 b_tuple:mg "tuple"=none
 c_MOST_LETTERS:∃ tk,mg "MOST_LETTERS"=some (.int 16 tk)
 c_MOST_LETTERS_IN_STEPS:∃ tk,mg "MOST_LETTERS_IN_STEPS"=some (.int 4000 tk)
 c_MOST_STRANDS:∃ tk,mg "MOST_STRANDS"=some (.int 6 tk)
noncomputable def a1y:Sp3:=fun ts M Q=>match ts with
 | [.int n,.int l]=>Q (.bl (a5O n l)) M
 | _=>False
theorem a9I {P w K base f fd} {mg:Str→Option Value} {n:Nat}  (F:Fun K "is_letter" "is_letter" a4h f fd) (hm:mg "is_letter"=some (.ref f)) (hb:a0M K fd ["strands","letter"] []) (Z:Zs mg) :Df P w K mg base (n+1) "is_letter" ["strands","letter"] a1y:=by
 refine F.dfn hm hb a9p (by unfold a1y;walk_at "ln") ⟨_,fun cdv A outer s H E hr=>(@a0g _ _ _ (@a0u _ _ _ _ (@b8M _ _ _ _ _ _ _ _ _ _ _ _ a5L a3C a0e (@a0k _ _ _ _ _ _ _ _ _ a0x Z.b_abs PyProof.Rows.boot_abs (@a0a _ _ _ _ _ (hv 1) a0c (by rfl)) (by rfl) (by decide) (by decide) (by rfl) (by rfl)) (hv 0) (by with_unfolding_all rfl)))),fun ts M Q h=>?_⟩
 unfold a1y a5O at h
 split at h
 ·rename_i n l
  walk_at "rd"
  refine ite2 (fun c=>a0h ?_) (fun c=>a0h ?_)
  ·simpa [show 1≤l.natAbs by lia] using h
  ·simpa [show ¬1≤l.natAbs by lia] using h
 ·exact h.elim
noncomputable def a3K:Sp3:=fun ts M Q=>match ts with
 | [.int n,.tup w,.int k]=>∃ ws:List Int,w=ws.map .int∧ws.length < 10000∧Q (.bl (isWd n ws k)) M
 | _=>False
theorem b2N {P w K base f fd} {mg:Str→Option Value} {n:Nat}  (F:Fun K "is_word" "is_word" a4E f fd) (hm:mg "is_word"=some (.ref f)) (hb:a0M K fd ["strands","word","most"] []) (Z:Zs mg) (D_is_letter:Df P w K mg base n "is_letter" ["strands","letter"] a1y):Df P w K mg base (n+1) "is_word" ["strands","word","most"] a3K:=by
 obtain⟨tk_MOST_STRANDS,c_MOST_STRANDS⟩:=Z.c_MOST_STRANDS
 refine F.dfn hm hb b2y (by unfold a3K;walk_at "ln") ⟨_,fun cdv A outer s H E hr=>(@a0b _ _ _ _ _ (@s_if _ _ _ _ _ _ _ _ (@HW.ht _ _ _ (@w_or _ _ _ _ _ _ _ (@a7l _ _ _ _ (@a5P _ _ _ _ _ _ _ _ _ _ _ _ a5L a5L a0e (hv 0) (@a5u _ _ _ _ _ c_MOST_STRANDS (by rfl) (by decide)) (by with_unfolding_all rfl))) (@a5X _ _ _ _ (@a0o _ _ _ _ _ _ _ _ a3O (@a0k _ _ _ _ _ _ _ _ _ a0r Z.b_len PySem.boot_len (@a0a _ _ _ _ _ (hv 1) a0c (by rfl)) (by rfl) (by decide) (by decide) (by rfl) (by rfl)) (hv 2) (a0m _))))) (@a0g _ _ _ (@a0u _ _ _ _ h_bl)) a0s) (@a0g _ _ _ (@a0u _ _ _ _ (@a0k _ _ _ _ _ _ _ _ _ (@b5i _ rfl) Z.b_all PyProof.Rows.boot_all (@a0a _ _ _ _ _ (@a4K _ _ _ _ _ _ _ _ _ _ _ _ _ _ rfl (@a5s _ _ _ _ (hv 1)) (@a1i _ (a0i a4E) _ (["strands","word","most"]) (["letter","strands"]) ([none,some 0]) (by decide +kernel) rfl rfl) a3G (fun _ _ _ _ _=>@a1C _ _ 0 _ (show List.Nodup (["letter","strands"]:List Str) by decide +kernel) rfl (Or.inl rfl) (Or.inr rfl)) (fun _ _ _ _ _=>a6q) (fun _ _ _ _ _=>(@a0n _ _ _ _ _ _ _ _ _ _ D_is_letter hr (@a0a _ _ _ _ _ (hv 1) (@a0a _ _ _ _ _ (hv 0) a0c (by rfl)) (by rfl)) (by rfl) (by decide) (by rfl) (by rfl))) (by intro _;rfl)) a0c (by rfl)) (by rfl) (by decide) (by decide) (by rfl) (by rfl))))),fun ts M Q h=>?_⟩
 unfold a3K at h
 split at h
 ·rename_i n w k
  obtain⟨ws,rfl,hl,h⟩:=h
  unfold isWd at h
  walk_at "rd"
  refine ite2 (fun c1=>ite2 (fun c2=>?_) fun c2=>ite2 (fun c3=>?_) fun c3=>?_) fun c1=>?_
  ·rw[decide_eq_false c2,Bool.and_false,Bool.false_and] at h
   exact a0h h
  ·rw[decide_eq_false (show ¬(ws.length:Int)≤k by lia),Bool.and_false,Bool.false_and] at h
   exact a0h h
  ·rw[decide_eq_true c1,decide_eq_true (show n≤6 by lia),decide_eq_true (show (ws.length:Int)≤k by lia)] at h
   refine⟨fun i ys M'=>ys=((ws.take i).map (a5O n)).map T.bl∧M'=M,⟨rfl,rfl⟩,fun _ _ _ _=>trivial,Nat.lt_of_le_of_lt (by lia:ws.length≤10000) (by decide),?_,?_⟩
   ·rintro i x ys M' hx ⟨rfl,rfl⟩
    obtain⟨l,hl',rfl⟩:=a0N hx
    unfold a1y
    refine⟨?_,rfl⟩
    rw[← a1F (a5O n) hl',List.map_append];rfl
   ·rintro ys M' ⟨rfl,rfl⟩ p hp
    rw[List.take_length,b0z]
    refine a0y (M0:=M') ?_ (Sub.new hp)
    rw[List.all_map]
    exact h
  ·rw[decide_eq_false c1,Bool.false_and,Bool.false_and,Bool.false_and] at h
   exact a0h h
 ·exact h.elim
noncomputable def a3Y:Sp3:=fun ts M Q=>match ts with
 | [.tup [.int n,.tup w]]=>∃ ws:List Int,w=ws.map .int∧ws.length < 10000∧Q (.bl (isPl n ws)) M
 | _=>False
theorem b1f {P w K base f fd} {mg:Str→Option Value} {n:Nat}  (F:Fun K "is_plait" "is_plait" a4X f fd) (hm:mg "is_plait"=some (.ref f)) (hb:a0M K fd ["plait"] []) (Z:Zs mg) (D_is_word:Df P w K mg base n "is_word" ["strands","word","most"] a3K):Df P w K mg base (n+1) "is_plait" ["plait"] a3Y:=by
 obtain⟨tk_MOST_LETTERS,c_MOST_LETTERS⟩:=Z.c_MOST_LETTERS
 refine F.dfn hm hb b0O (by unfold a3Y;walk_at "ln") ⟨_,fun cdv A outer s H E hr=>(@a0g _ _ _ (@a0u _ _ _ _ (@a0n _ _ _ _ _ _ _ _ _ _ D_is_word hr (@a0a _ _ _ _ _ (@h_ix _ _ _ _ _ _ (hv 0) a0e (by intro _ _;rfl)) (@a0a _ _ _ _ _ (@h_ix _ _ _ _ _ _ (hv 0) a0e (by intro _ _;rfl)) (@a0a _ _ _ _ _ (@a5u _ _ _ _ _ c_MOST_LETTERS (by rfl) (by decide)) a0c (by rfl)) (by rfl)) (by rfl)) (by rfl) (by decide) (by rfl) (by rfl)))),fun ts M Q h=>?_⟩
 unfold a3Y at h
 split at h
 ·rename_i n w
  obtain⟨ws,rfl,hl,h⟩:=h
  walk_at "rd"
  refine⟨ws,rfl,hl,?_⟩
  rw[b8E]
  exact a0h h
 ·exact h.elim
noncomputable def a2y:Sp3:=fun ts M Q=>match ts with
 | [.tup [.int n,.tup w]]=>∃ ws:List Int,w=ws.map .int∧PlOK n ws∧Q (.int ws.length) M
 | _=>False
theorem b4h {P w K base f fd} {mg:Str→Option Value} {n:Nat}  (F:Fun K "looked" "looked" a6H f fd) (hm:mg "looked"=some (.ref f)) (hb:a0M K fd ["plait"] []) (Z:Zs mg) (D_is_plait:Df P w K mg base n "is_plait" ["plait"] a3Y):Df P w K mg base (n+1) "looked" ["plait"] a2y:=by
 refine F.dfn hm hb b3I (by unfold a2y;walk_at "ln") ⟨_,fun cdv A outer s H E hr=>(@a0b _ _ _ _ _ (@s_if _ _ _ _ _ _ _ _ (@a7l _ _ _ _ (@a5t _ _ _ (@a0n _ _ _ _ _ _ _ _ _ _ D_is_plait hr (@a0a _ _ _ _ _ (hv 0) a0c (by rfl)) (by rfl) (by decide) (by rfl) (by rfl)) (by intro _;rfl))) (@a0g _ _ _ a2n) a0s) (@a0g _ _ _ (@a0u _ _ _ _ (@a0k _ _ _ _ _ _ _ _ _ a0r Z.b_len PySem.boot_len (@a0a _ _ _ _ _ (@h_ix _ _ _ _ _ _ (hv 0) a0e (by intro _ _;rfl)) a0c (by rfl)) (by rfl) (by decide) (by decide) (by rfl) (by rfl))))),fun ts M Q h=>?_⟩
 unfold a2y at h
 split at h
 ·rename_i n w
  obtain⟨ws,rfl,ok,h⟩:=h
  walk_at "rd"
  refine⟨ws,rfl,by have:=ok.2.2.1;lia,?_⟩
  rw[ok.is]
  walk_at "rd"
  exact a0h (M:=M) h
 ·exact h.elim
noncomputable def a1V:Sp3:=fun ts M Q=>match ts with
 | [.tup w,.int k]=>∃ ws:List Int,w=ws.map .int∧0≤k∧k+1 < ws.length∧ws.length < 10000∧Q (.tup ((a2w ws k.toNat).map .int)) M
 | _=>False
theorem a9J {P w K base f fd} {mg:Str→Option Value} {n:Nat}  (F:Fun K "exchanged" "exchanged" a4i f fd) (hm:mg "exchanged"=some (.ref f)) (hb:a0M K fd ["row","at"] []) (Z:Zs mg) :Df P w K mg base (n+1) "exchanged" ["row","at"] a1V:=by
 refine F.dfn hm hb a9q (by unfold a1V;walk_at "ln") ⟨_,fun cdv A outer s H E hr=>(@a0g _ _ _ (@a0u _ _ _ _ (@a0q _ _ _ _ _ _ _ _ a0p (@a0q _ _ _ _ _ _ _ _ a0p (@a0S _ _ _ _ _ _ _ _ _ (hv 0) a1D (@a1f _ _ _ (hv 1))) (@a1j _ _ _ _ _ (@a0a _ _ _ _ _ (@h_ix _ _ _ _ _ _ (hv 0) (@a0q _ _ _ _ _ _ _ _ a0p (hv 1) a0e) (by intro _ _;rfl)) (@a0a _ _ _ _ _ (@h_ix _ _ _ _ _ _ (hv 0) (hv 1) (by intro _ _;rfl)) a0c (by rfl)) (by rfl)))) (@a0S _ _ _ _ _ _ _ _ _ (hv 0) (@a1f _ _ _ (@a0q _ _ _ _ _ _ _ _ a0p (hv 1) a0e)) a1D)))),fun ts M Q h=>?_⟩
 unfold a1V at h
 split at h
 ·rename_i w k
  obtain⟨ws,rfl,k0,k1,hl,h⟩:=h
  obtain⟨i,rfl⟩:=Int.eq_ofNat_of_zero_le k0
  walk_at "rd"
  have a1:atI (ws.map T.int) ((i:Int)+1)=some (.int (ws.getD (i+1) 0)):=by
   have:=a6L ws ((i:Int)+1) (by lia) (by lia)
   rwa [show ((i:Int)+1).toNat=i+1 by lia] at this
  have a2:atI (ws.map T.int) (i:Int)=some (.int (ws.getD i 0)):=by
   have:=a6L ws (i:Int) (by lia) (by lia)
   rwa [Int.toNat_natCast] at this
  have c1:cutT (ws.map T.int) none (some (i:Int))=(ws.take i).map T.int:=by
   rw[b8Z _ _ (by lia) (by rw[List.length_map];lia),Int.toNat_natCast,List.map_take]
  have c2:cutT (ws.map T.int) (some ((i:Int)+2)) none=(ws.drop (i+2)).map T.int:=by
   have k1':i+1 < ws.length:=by lia
   rw[b4Y _ _ (by lia) (by rw[List.length_map];lia),show ((i:Int)+2).toNat=i+2 by lia,List.map_drop]
  have l1:(ws.take i).length=i:=by rw[List.length_take];lia
  have l2:(ws.drop (i+2)).length=ws.length - (i+2):=List.length_drop ..
  simp only[a1,a2,c1,c2]
  walk_at "rd"
  refine⟨by decide,a0H (by lia),a0H (by lia),?_⟩
  have e:List.map T.int (List.take i ws)++[T.int (ws.getD (i+1) 0),T.int (ws.getD i 0)]++List.map T.int (List.drop (i+2) ws)=List.map T.int (a2w ws i):=by
   rw[← a9g ws i (by lia)]
   simp
  rw[e]
  exact a0h h
 ·exact h.elim
noncomputable def a3p:Sp3:=fun ts M Q=>match ts with
 | [.tup w]=>∃ ws:List Int,w=ws.map .int∧ws.length < 10000∧(∀ s:Int,0≤s→s < ws.length→s∈ws)∧Q (.tup (((a0j ws.length).map fun s=>((ws.idxOf s:Nat):Int)).map .int)) M
 | _=>False
theorem a9G {P w K base f fd} {mg:Str→Option Value} {n:Nat}  (F:Fun K "places_in" "places_in" a3f f fd) (hm:mg "places_in"=some (.ref f)) (hb:a0M K fd ["order"] []) (Z:Zs mg) :Df P w K mg base (n+1) "places_in" ["order"] a3p:=by
 refine F.dfn hm hb a9o (by unfold a3p;walk_at "ln") ⟨_,fun cdv A outer s H E hr=>(@a0g _ _ _ (@a0u _ _ _ _ (@a3i _ _ _ _ _ _ _ _ _ a4u Z.b_tuple PyProof.Rows.boot_tuple (@a0a _ _ _ _ _ (@a4K _ _ _ _ _ _ _ _ _ _ _ _ _ _ rfl (@a2X _ _ _ _ _ _ Z.b_range (@a0a _ _ _ _ _ (@a0k _ _ _ _ _ _ _ _ _ a0r Z.b_len PySem.boot_len (@a0a _ _ _ _ _ (hv 0) a0c (by rfl)) (by rfl) (by decide) (by decide) (by rfl) (by rfl)) a0c (by rfl)) (by rfl) (by rfl)) (@a1i _ (a0i a3f) _ ["order"] (["number","order"]) ([none,some 0]) (by decide +kernel) rfl rfl) a3G (fun _ _ _ _ _=>@a1C _ _ 0 _ (show List.Nodup (["number","order"]:List Str) by decide +kernel) rfl (Or.inl rfl) (Or.inr rfl)) (fun _ _ _ _ _=>a6q) (fun _ _ _ _ _=>(@b4I _ _ _ _ _ _ _ _ (hv 1) (@a0a _ _ _ _ _ (hv 0) a0c (by rfl)) (by rfl) (by rfl) (by rfl) (by rfl) (by rfl))) (by intro _;rfl)) a0c (by rfl)) (by rfl) (by decide) (by decide) (by rfl) (by rfl)))),fun ts M Q h=>?_⟩
 unfold a3p at h
 split at h
 ·rename_i w
  obtain⟨ws,rfl,hl,hmm,h⟩:=h
  walk_at "rd"
  have lm:(ws.map T.int).length=ws.length:=List.length_map ..
  refine⟨by lia,by lia,fun i ys M2=>ys=(((a0j ws.length).take i).map fun s=>((ws.idxOf s:Nat):Int)).map T.int∧M2=M,⟨rfl,rfl⟩,fun _ _ _ _=>trivial,by rw[a0J];exact Nat.lt_of_le_of_lt (by lia:(ws.length:Int).toNat≤10000) (by decide),?_,?_⟩
  ·rintro i x ys M2 hx ⟨rfl,rfl⟩
   rw[b7I] at hx
   obtain⟨s,hs,rfl⟩:=a0N hx
   obtain⟨s0,s1⟩:=a0E (List.mem_of_getElem? hs)
   walk_at "rd"
   refine⟨hmm s s0 s1,?_⟩
   rw[← a1F (fun s=>((ws.idxOf s:Nat):Int)) hs,List.map_append];rfl
  ·rintro ys M2 ⟨rfl,rfl⟩ q hq
   rw[a0J,List.take_of_length_le (by rw[a0l];exact Nat.le_refl _)]
   exact a0y (M0:=M2) h (Sub.new hq)
 ·exact h.elim
noncomputable def a1d:Sp3:=fun ts M Q=>match ts with
 | [.int n,.int l]=>n.natAbs < 1000000∧l.natAbs < 1000000∧Q (.int (a1K n l)) M
 | _=>False
theorem a6e {P w K base f fd} {mg:Str→Option Value} {n:Nat}  (F:Fun K "flipped_letter" "flipped_letter" a1R f fd) (hm:mg "flipped_letter"=some (.ref f)) (hb:a0M K fd ["strands","letter"] []) (Z:Zs mg) :Df P w K mg base (n+1) "flipped_letter" ["strands","letter"] a1d:=by
 refine F.dfn hm hb a6c (by unfold a1d;walk_at "ln") ⟨_,fun cdv A outer s H E hr=>(@a0b _ _ _ _ _ (@s_if _ _ _ _ _ _ _ _ (@a0o _ _ _ _ _ _ _ _ a3C (hv 1) a0e (a0m _)) (@a0g _ _ _ (@a0u _ _ _ _ (@h_un _ _ _ _ _ _ a0Y (@a0q _ _ _ _ _ _ _ _ a0p (hv 0) (hv 1))))) a0s) (@a0g _ _ _ (@a0u _ _ _ _ (@a0q _ _ _ _ _ _ _ _ a1b (hv 0) (hv 1))))),fun ts M Q h=>?_⟩
 unfold a1d at h
 split at h
 ·rename_i n l
  obtain⟨h1,h2,h⟩:=h
  unfold a1K at h
  walk_at "rd"
  refine ite2 (fun c1=>?_) (fun c1=>?_)
  ·rw[if_pos c1] at h
   exact a0h h
  ·rw[if_neg c1] at h
   exact a0h h
 ·exact h.elim
noncomputable def a4T:Sp3:=fun ts M Q=>match ts with
 | [.tup [.int n,.tup w]]=>∃ ws:List Int,w=ws.map .int∧PlOK n ws∧Q (.tup [.int n,.tup ((ws.map (a1K n)).map .int)]) M
 | _=>False
theorem b2O {P w K base f fd} {mg:Str→Option Value} {n:Nat}  (F:Fun K "flipped" "flipped" a4F f fd) (hm:mg "flipped"=some (.ref f)) (hb:a0M K fd ["plait"] []) (Z:Zs mg) (D_looked:Df P w K mg base n "looked" ["plait"] a2y) (D_flipped_letter:Df P w K mg base n "flipped_letter" ["strands","letter"] a1d):Df P w K mg base (n+1) "flipped" ["plait"] a4T:=by
 refine F.dfn hm hb a7L (by unfold a4T;walk_at "ln") ⟨_,fun cdv A outer s H E hr=>(@a0b _ _ _ _ _ (@a4y _ _ _ _ (@a0n _ _ _ _ _ _ _ _ _ _ D_looked hr (@a0a _ _ _ _ _ (hv 0) a0c (by rfl)) (by rfl) (by decide) (by rfl) (by rfl)) (by rfl)) (@a0b _ _ _ _ _ (@a0I _ _ _ _ 1 _ _ (@h_ix _ _ _ _ _ _ (hv 0) a0e (by intro _ _;rfl)) a7L.nd (by rfl) (by walk_at "2") (by rfl) (by walk_at "4")) (@a0g _ _ _ (@a0u _ _ _ _ (@a1j _ _ _ _ _ (@a0a _ _ _ _ _ (hv 1) (@a0a _ _ _ _ _ (@a3i _ _ _ _ _ _ _ _ _ a4u Z.b_tuple PyProof.Rows.boot_tuple (@a0a _ _ _ _ _ (@a4K _ _ _ _ _ _ _ _ _ _ _ _ _ _ rfl (@a5s _ _ _ _ (@h_ix _ _ _ _ _ _ (hv 0) a0e (by intro _ _;rfl))) (@a1i _ (a0i a4F) _ (["plait","strands"]) (["letter","strands"]) ([none,some 1]) (by decide +kernel) rfl rfl) a3G (fun _ _ _ _ _=>@a1C _ _ 0 _ (show List.Nodup (["letter","strands"]:List Str) by decide +kernel) rfl (Or.inl rfl) (Or.inr rfl)) (fun _ _ _ _ _=>a6q) (fun _ _ _ _ _=>(@a0n _ _ _ _ _ _ _ _ _ _ D_flipped_letter hr (@a0a _ _ _ _ _ (hv 1) (@a0a _ _ _ _ _ (hv 0) a0c (by rfl)) (by rfl)) (by rfl) (by decide) (by rfl) (by rfl))) (by intro _;rfl)) a0c (by rfl)) (by rfl) (by decide) (by decide) (by rfl) (by rfl)) a0c (by rfl)) (by rfl))))))),fun ts M Q h=>?_⟩
 unfold a4T at h
 split at h
 ·rename_i n w
  obtain⟨ws,rfl,ok,h⟩:=h
  have hl:ws.length < 10000:=by have:=ok.2.2.1;lia
  walk_at "rd"
  refine⟨ws,rfl,ok,?_⟩
  walk_at "rd"
  refine⟨fun i ys M'=>ys=((ws.take i).map (a1K n)).map T.int∧M'=M,⟨rfl,rfl⟩,fun _ _ _ _=>trivial,?_,?_,?_⟩
  ·exact Nat.lt_of_le_of_lt (by lia:ws.length≤10000) (by decide)
  ·rintro i x ys M' hx ⟨rfl,rfl⟩
   obtain⟨l,hl',rfl⟩:=a0N hx
   obtain⟨l1,l2⟩:=ok.2.2.2 l (List.mem_of_getElem? hl')
   have:=ok.1
   have:=ok.2.1
   unfold a1d
   refine⟨by lia,by lia,?_,rfl⟩
   rw[← a1F (a1K n) hl',List.map_append];rfl
  ·rintro ys M' ⟨rfl,rfl⟩ p hp
   rw[List.take_length]
   exact⟨by decide,a0y (M0:=M') h (Sub.new hp)⟩
 ·exact h.elim
noncomputable def a3X:Sp3:=fun ts M Q=>match ts with
 | [.tup [.int n,.tup w]]=>∃ ws:List Int,w=ws.map .int∧PlOK n ws∧Q (.tup ((a0D n ws).map .int)) M
 | _=>False
theorem b1e {P w K base f fd} {mg:Str→Option Value} {n:Nat}  (F:Fun K "order_of" "order_of" a4W f fd) (hm:mg "order_of"=some (.ref f)) (hb:a0M K fd ["plait"] []) (Z:Zs mg) (D_looked:Df P w K mg base n "looked" ["plait"] a2y) (D_exchanged:Df P w K mg base n "exchanged" ["row","at"] a1V) (D_places_in:Df P w K mg base n "places_in" ["order"] a3p):Df P w K mg base (n+1) "order_of" ["plait"] a3X:=by
 refine F.dfn hm hb a4a (by unfold a3X;walk_at "ln") ⟨_,fun cdv A outer s H E hr=>(@a0b _ _ _ _ _ (@a4y _ _ _ _ (@a0n _ _ _ _ _ _ _ _ _ _ D_looked hr (@a0a _ _ _ _ _ (hv 0) a0c (by rfl)) (by rfl) (by decide) (by rfl) (by rfl)) (by rfl)) (@a0b _ _ _ _ _ (@a0I _ _ _ _ 1 _ _ (@a7k _ _ _ _ _ _ _ Z.b_tuple Z.b_range (@a0a _ _ _ _ _ (@h_ix _ _ _ _ _ _ (hv 0) a0e (by intro _ _;rfl)) a0c (by rfl)) (by rfl) (by rfl) (by rfl) (by rfl) (by rfl)) a4a.nd (by rfl) (by walk_at "2") (by rfl) (by walk_at "4")) (@a0b _ _ _ _ _ (@a5g _ _ _ _ _ _ _ _ PassesOwn.never rfl (@a5s _ _ _ _ (@h_ix _ _ _ _ _ _ (hv 0) a0e (by intro _ _;rfl))) (a0V (i:=2) a4a.nd) (@a0g _ _ _ (@a0I _ _ _ _ 1 _ _ (@a0n _ _ _ _ _ _ _ _ _ _ D_exchanged hr (@a0a _ _ _ _ _ (hv 1) (@a0a _ _ _ _ _ (@a0q _ _ _ _ _ _ _ _ a1b (@a0k _ _ _ _ _ _ _ _ _ a0x Z.b_abs PyProof.Rows.boot_abs (@a0a _ _ _ _ _ (hv 2) a0c (by rfl)) (by rfl) (by decide) (by decide) (by rfl) (by rfl)) a0e) a0c (by rfl)) (by rfl)) (by rfl) (by decide) (by rfl) (by rfl)) a4a.nd (by rfl) (by walk_at "2") (by rfl) (by walk_at "4"))) (by intro _;rfl)) (@a0g _ _ _ (@a0u _ _ _ _ (@a0n _ _ _ _ _ _ _ _ _ _ D_places_in hr (@a0a _ _ _ _ _ (hv 1) a0c (by rfl)) (by rfl) (by decide) (by rfl) (by rfl))))))),fun ts M Q h=>?_⟩
 unfold a3X at h
 split at h
 ·rename_i n w
  obtain⟨ws,rfl,ok,h⟩:=h
  obtain⟨o1,o2,o3,o4⟩:=id ok
  walk_at "rd"
  refine⟨ws,rfl,ok,?_⟩
  walk_at "rd"
  refine⟨⟨by lia,by lia⟩,?_⟩
  refine⟨fun i ρ M'=>∃ a,ρ=[some (T.tup [T.int n,T.tup (ws.map T.int)]),some (T.tup ((a1x n (ws.take i)).map T.int)),a]∧Sub M M',
   ⟨none,by rw[a7N];rfl,Sub.refl⟩,fun _ _ _ _=>trivial,?_,?_⟩
  ·rintro i x ρ M' hx ⟨a,rfl,hS⟩
   obtain⟨l,hl,rfl⟩:=a0N hx
   have lk:LetOK n l:=o4 l (List.mem_of_getElem? hl)
   unfold LetOK at lk
   have sl:=a1H n (ws.take i)
   walk_at "rd"
   refine⟨_,rfl,by lia,by rw[sl];lia,by rw[sl];lia,some (.int l),?_,hS⟩
   rw[b0K hl,show ((l.natAbs:Int) - 1).toNat=l.natAbs - 1 by lia,a3V _ _ (by lia)]
  ·rintro ρ M' ⟨a,rfl,hS⟩
   rw[List.length_map,List.take_length]
   walk_at "rd"
   refine⟨_,rfl,by rw[a1H];lia,?_,?_⟩
   ·intro s s0 s1
    rw[a1H] at s1
    exact b3z n ws o4 s s0 (by lia)
   ·have e:(((a1x n ws).length:Nat):Int)=n:=by rw[a1H];lia
    rw[e]
    exact a0y h hS
 ·exact h.elim
theorem b8D {n k:Int} {w:List Int} (h1:1≤n) (h6:n≤6) (hl:(w.length:Int)≤k) (hw:WordOK n w):isWd n w k=true:=by
 unfold isWd
 rw[decide_eq_true h1,decide_eq_true h6,decide_eq_true hl,List.all_eq_true.mpr fun x hx=>?_]
 ·rfl
 ·have:=hw x hx
  unfold LetOK at this
  unfold a5O
  simp only[decide_eq_true_eq,Bool.and_eq_true]
  lia
noncomputable def a2r:Sp3:=fun ts M Q=>match ts with
 | [.int n,.tup w]=>∃ ws:List Int,w=ws.map .int∧ws.length≤4000∧1≤n∧n≤6∧WordOK n ws∧Q .non M
 | _=>False
theorem a7x {P w K base f fd} {mg:Str→Option Value} {n:Nat}  (F:Fun K "looked_word" "looked_word" a2T f fd) (hm:mg "looked_word"=some (.ref f)) (hb:a0M K fd ["strands","word"] []) (Z:Zs mg) (D_is_word:Df P w K mg base n "is_word" ["strands","word","most"] a3K):Df P w K mg base (n+1) "looked_word" ["strands","word"] a2r:=by
 obtain⟨tk_MOST_LETTERS_IN_STEPS,c_MOST_LETTERS_IN_STEPS⟩:=Z.c_MOST_LETTERS_IN_STEPS
 refine F.dfn hm hb a7w (by unfold a2r;walk_at "ln") ⟨_,fun cdv A outer s H E hr=>(@a0g _ _ _ (@s_if _ _ _ _ _ _ _ _ (@a7l _ _ _ _ (@a5t _ _ _ (@a0n _ _ _ _ _ _ _ _ _ _ D_is_word hr (@a0a _ _ _ _ _ (hv 0) (@a0a _ _ _ _ _ (hv 1) (@a0a _ _ _ _ _ (@a5u _ _ _ _ _ c_MOST_LETTERS_IN_STEPS (by rfl) (by decide)) a0c (by rfl)) (by rfl)) (by rfl)) (by rfl) (by decide) (by rfl) (by rfl)) (by intro _;rfl))) (@a0g _ _ _ a2n) a0s)),fun ts M Q h=>?_⟩
 unfold a2r at h
 split at h
 ·rename_i n w
  obtain⟨ws,rfl,hl,h1,h6,hw,h⟩:=h
  walk_at "rd"
  refine⟨ws,rfl,by lia,?_⟩
  rw[b8D h1 h6 (by lia) hw]
  walk_at "rd"
  exact a0h (M:=M) h
 ·exact h.elim
noncomputable def a3a:Sp3:=fun ts M Q=>match ts with
 | [.tup w,.int a]=>∃ ws:List Int,w=ws.map .int∧Sm ws∧Q (.bl (a1c ws a)) M
 | _=>False
theorem b2Q {P w K base f fd} {mg:Str→Option Value} {n:Nat}  (F:Fun K "can_far" "can_far" a5I f fd) (hm:mg "can_far"=some (.ref f)) (hb:a0M K fd ["word","at"] []) (Z:Zs mg) :Df P w K mg base (n+1) "can_far" ["word","at"] a3a:=by
 refine F.dfn hm hb b2A (by unfold a3a;walk_at "ln") ⟨_,fun cdv A outer s H E hr=>(@a0b _ _ _ _ _ (@s_if _ _ _ _ _ _ _ _ (@a7l _ _ _ _ (@a5P _ _ _ _ _ _ _ _ _ _ _ _ a5L a3C a0e (hv 1) (@a0q _ _ _ _ _ _ _ _ a1b (@a0k _ _ _ _ _ _ _ _ _ a0r Z.b_len PySem.boot_len (@a0a _ _ _ _ _ (hv 0) a0c (by rfl)) (by rfl) (by decide) (by decide) (by rfl) (by rfl)) a0e) (by with_unfolding_all rfl))) (@a0g _ _ _ (@a0u _ _ _ _ h_bl)) a0s) (@a0g _ _ _ (@a0u _ _ _ _ (@a5Q _ _ _ _ _ _ _ _ a3O (@a0k _ _ _ _ _ _ _ _ _ a0x Z.b_abs PyProof.Rows.boot_abs (@a0a _ _ _ _ _ (@a0q _ _ _ _ _ _ _ _ a1b (@a0k _ _ _ _ _ _ _ _ _ a0x Z.b_abs PyProof.Rows.boot_abs (@a0a _ _ _ _ _ (@h_ix _ _ _ _ _ _ (hv 0) (hv 1) (by intro _ _;rfl)) a0c (by rfl)) (by rfl) (by decide) (by decide) (by rfl) (by rfl)) (@a0k _ _ _ _ _ _ _ _ _ a0x Z.b_abs PyProof.Rows.boot_abs (@a0a _ _ _ _ _ (@h_ix _ _ _ _ _ _ (hv 0) (@a0q _ _ _ _ _ _ _ _ a0p (hv 1) a0e) (by intro _ _;rfl)) a0c (by rfl)) (by rfl) (by decide) (by decide) (by rfl) (by rfl))) a0c (by rfl)) (by rfl) (by decide) (by decide) (by rfl) (by rfl)) a0e (a0m _))))),fun ts M Q h=>?_⟩
 unfold a3a at h
 split at h
 ·rename_i w a
  obtain⟨ws,rfl,sm,h⟩:=h
  unfold a1c at h
  walk_at "rd"
  by_cases c:0≤a∧a < (ws.length:Int) - 1
  ·rw[decide_eq_true c,Bool.true_and] at h
   rw[if_pos c.1,if_neg (by lia)]
   simp only[a4z (w:=ws) (a:=a) c.1 (by lia),a4z (w:=ws) (a:=a+1) (by lia) (by lia)]
   exact a0h h
  ·rw[decide_eq_false c,Bool.false_and] at h
   exact ite2 (fun c1=>ite2 (fun c2=>a0h h) (fun c2=>absurd ⟨c1,by lia⟩ c)) (fun c1=>a0h h)
 ·exact h.elim
noncomputable def a1W:Sp3:=fun ts M Q=>match ts with
 | [.tup w,.int a]=>∃ ws:List Int,w=ws.map .int∧Sm ws∧Q (.bl (a0F ws a)) M
 | _=>False
theorem a9L {P w K base f fd} {mg:Str→Option Value} {n:Nat}  (F:Fun K "can_three" "can_three" a4k f fd) (hm:mg "can_three"=some (.ref f)) (hb:a0M K fd ["word","at"] []) (Z:Zs mg) :Df P w K mg base (n+1) "can_three" ["word","at"] a1W:=by
 refine F.dfn hm hb a3s (by unfold a1W;walk_at "ln") ⟨_,fun cdv A outer s H E hr=>(@a0b _ _ _ _ _ (@s_if _ _ _ _ _ _ _ _ (@a7l _ _ _ _ (@a5P _ _ _ _ _ _ _ _ _ _ _ _ a5L a3C a0e (hv 1) (@a0q _ _ _ _ _ _ _ _ a1b (@a0k _ _ _ _ _ _ _ _ _ a0r Z.b_len PySem.boot_len (@a0a _ _ _ _ _ (hv 0) a0c (by rfl)) (by rfl) (by decide) (by decide) (by rfl) (by rfl)) a0e) (by with_unfolding_all rfl))) (@a0g _ _ _ (@a0u _ _ _ _ h_bl)) a0s) (@a0b _ _ _ _ _ (@a0I _ _ _ _ 2 _ _ (@h_ix _ _ _ _ _ _ (hv 0) (hv 1) (by intro _ _;rfl)) a3s.nd (by rfl) (by walk_at "2") (by rfl) (by walk_at "4")) (@a0b _ _ _ _ _ (@a0I _ _ _ _ 3 _ _ (@h_ix _ _ _ _ _ _ (hv 0) (@a0q _ _ _ _ _ _ _ _ a0p (hv 1) a0e) (by intro _ _;rfl)) a3s.nd (by rfl) (by walk_at "2") (by rfl) (by walk_at "4")) (@a0b _ _ _ _ _ (@a0I _ _ _ _ 4 _ _ (@h_ix _ _ _ _ _ _ (hv 0) (@a0q _ _ _ _ _ _ _ _ a0p (hv 1) a0e) (by intro _ _;rfl)) a3s.nd (by rfl) (by walk_at "2") (by rfl) (by walk_at "4")) (@a0b _ _ _ _ _ (@s_if _ _ _ _ _ _ _ _ (@HW.ht _ _ _ (@w_or _ _ _ _ _ _ _ (@a0o _ _ _ _ _ _ _ _ (@a2G _ hr.units) (@a0k _ _ _ _ _ _ _ _ _ a0x Z.b_abs PyProof.Rows.boot_abs (@a0a _ _ _ _ _ (hv 2) a0c (by rfl)) (by rfl) (by decide) (by decide) (by rfl) (by rfl)) (@a0k _ _ _ _ _ _ _ _ _ a0x Z.b_abs PyProof.Rows.boot_abs (@a0a _ _ _ _ _ (hv 4) a0c (by rfl)) (by rfl) (by decide) (by decide) (by rfl) (by rfl)) (a0m _)) (@a5X _ _ _ _ (@a0o _ _ _ _ _ _ _ _ (@a2G _ hr.units) (@a0k _ _ _ _ _ _ _ _ _ a0x Z.b_abs PyProof.Rows.boot_abs (@a0a _ _ _ _ _ (@a0q _ _ _ _ _ _ _ _ a1b (@a0k _ _ _ _ _ _ _ _ _ a0x Z.b_abs PyProof.Rows.boot_abs (@a0a _ _ _ _ _ (hv 2) a0c (by rfl)) (by rfl) (by decide) (by decide) (by rfl) (by rfl)) (@a0k _ _ _ _ _ _ _ _ _ a0x Z.b_abs PyProof.Rows.boot_abs (@a0a _ _ _ _ _ (hv 3) a0c (by rfl)) (by rfl) (by decide) (by decide) (by rfl) (by rfl))) a0c (by rfl)) (by rfl) (by decide) (by decide) (by rfl) (by rfl)) a0e (a0m _))))) (@a0g _ _ _ (@a0u _ _ _ _ h_bl)) a0s) (@a0g _ _ _ (@a0u _ _ _ _ (@h_or _ _ _ _ _ _ _ (@a5Q _ _ _ _ _ _ _ _ (@a2G _ hr.units) (hv 2) (hv 4) (a0m _)) (@b6m _ _ _ _ _ (@a5Q _ _ _ _ _ _ _ _ a3O (@a0q _ _ _ _ _ _ _ _ a1n (hv 2) (hv 3)) a0e (a0m _))))))))))),fun ts M Q h=>?_⟩
 unfold a1W at h
 split at h
 ·rename_i w a
  obtain⟨ws,rfl,sm,h⟩:=h
  unfold a0F at h
  walk_at "rd"
  by_cases c:0≤a∧a < (ws.length:Int) - 2
  ·rw [decide_eq_true c,Bool.true_and] at h
   rw[if_pos c.1,if_neg (by lia)]
   simp only[a4z (w:=ws) (a:=a) c.1 (by lia),a4z (w:=ws) (a:=a+1) (by lia) (by lia),a4z (w:=ws) (a:=a+2) (by lia) (by lia)]
   have sp:=sm.at (a:=a) c.1 (by lia)
   refine ite2 (fun c1=>?_) (fun c1=>ite2 (fun c2=>?_) (fun c2=>⟨rfl,rfl,by rw[a5S];lia,?_⟩))
   ·rw[decide_eq_false c1,Bool.false_and,Bool.false_and] at h
    exact a0h h
   ·rw[decide_eq_false c2,Bool.and_false,Bool.false_and] at h
    exact a0h h
   ·rw[decide_eq_true (Decidable.not_not.mp c1),decide_eq_true (Decidable.not_not.mp c2),Bool.true_and,Bool.true_and] at h
    refine ite2 (fun c3=>?_) (fun c3=>⟨.inl ⟨by lia,by lia⟩,?_⟩)
    ·rw[show decide (gI ws a=gI ws (a+2))=false from c3] at h
     exact a0h h
    ·have c4:decide (gI ws a=gI ws (a+2))=true:=by
      cases e:decide (gI ws a=gI ws (a+2)) with
      | true=>rfl
      | false=>exact absurd e c3
     rw[c4,Bool.not_true,Bool.false_or] at h
     exact a0h h
  ·rw[decide_eq_false c,Bool.false_and] at h
   exact ite2 (fun c1=>ite2 (fun c2=>a0h h) (fun c2=>absurd ⟨c1,by lia⟩ c)) (fun c1=>a0h h)
 ·exact h.elim
noncomputable def a2Z:Sp3:=fun ts M Q=>match ts with
 | [.tup w,.int a]=>∃ ws:List Int,w=ws.map .int∧Sm ws∧Q (.bl (a1k ws a)) M
 | _=>False
theorem b2P {P w K base f fd} {mg:Str→Option Value} {n:Nat}  (F:Fun K "can_out" "can_out" a5H f fd) (hm:mg "can_out"=some (.ref f)) (hb:a0M K fd ["word","at"] []) (Z:Zs mg) :Df P w K mg base (n+1) "can_out" ["word","at"] a2Z:=by
 refine F.dfn hm hb b2z (by unfold a2Z;walk_at "ln") ⟨_,fun cdv A outer s H E hr=>(@a0b _ _ _ _ _ (@s_if _ _ _ _ _ _ _ _ (@a7l _ _ _ _ (@a5P _ _ _ _ _ _ _ _ _ _ _ _ a5L a3C a0e (hv 1) (@a0q _ _ _ _ _ _ _ _ a1b (@a0k _ _ _ _ _ _ _ _ _ a0r Z.b_len PySem.boot_len (@a0a _ _ _ _ _ (hv 0) a0c (by rfl)) (by rfl) (by decide) (by decide) (by rfl) (by rfl)) a0e) (by with_unfolding_all rfl))) (@a0g _ _ _ (@a0u _ _ _ _ h_bl)) a0s) (@a0g _ _ _ (@a0u _ _ _ _ (@a5Q _ _ _ _ _ _ _ _ (@a0G _ hr.units) (@h_ix _ _ _ _ _ _ (hv 0) (hv 1) (by intro _ _;rfl)) (@h_un _ _ _ _ _ _ a0Y (@h_ix _ _ _ _ _ _ (hv 0) (@a0q _ _ _ _ _ _ _ _ a0p (hv 1) a0e) (by intro _ _;rfl))) (a0m _))))),fun ts M Q h=>?_⟩
 unfold a2Z at h
 split at h
 ·rename_i w a
  obtain⟨ws,rfl,sm,h⟩:=h
  unfold a1k at h
  walk_at "rd"
  by_cases c:0≤a∧a < (ws.length:Int) - 1
  ·rw[decide_eq_true c,Bool.true_and] at h
   rw[if_pos c.1,if_neg (by lia)]
   simp only[a4z (w:=ws) (a:=a) c.1 (by lia),a4z (w:=ws) (a:=a+1) (by lia) (by lia)]
   exact⟨rfl,by rw[a5S];lia,a0h h⟩
  ·rw[decide_eq_false c,Bool.false_and] at h
   exact ite2 (fun c1=>ite2 (fun c2=>a0h h) (fun c2=>absurd ⟨c1,by lia⟩ c)) (fun c1=>a0h h)
 ·exact h.elim
noncomputable def a5D:Sp3:=fun ts M Q=>match ts with
 | [.int a,.int l]=>Q (.int (sgnL a l)) M
 | _=>False
theorem b4f {P w K base f fd} {mg:Str→Option Value} {n:Nat}  (F:Fun K "signed" "signed" a6G f fd) (hm:mg "signed"=some (.ref f)) (hb:a0M K fd ["number","letter"] []) (Z:Zs mg) :Df P w K mg base (n+1) "signed" ["number","letter"] a5D:=by
 refine F.dfn hm hb b3H (by unfold a5D;walk_at "ln") ⟨_,fun cdv A outer s H E hr=>(@a0b _ _ _ _ _ (@s_if _ _ _ _ _ _ _ _ (@a0o _ _ _ _ _ _ _ _ a3C (hv 1) a0e (a0m _)) (@a0g _ _ _ (@a0u _ _ _ _ (@h_un _ _ _ _ _ _ a0Y (@a0k _ _ _ _ _ _ _ _ _ a0x Z.b_abs PyProof.Rows.boot_abs (@a0a _ _ _ _ _ (hv 0) a0c (by rfl)) (by rfl) (by decide) (by decide) (by rfl) (by rfl))))) a0s) (@a0g _ _ _ (@a0u _ _ _ _ (@a0k _ _ _ _ _ _ _ _ _ a0x Z.b_abs PyProof.Rows.boot_abs (@a0a _ _ _ _ _ (hv 0) a0c (by rfl)) (by rfl) (by decide) (by decide) (by rfl) (by rfl))))),fun ts M Q h=>?_⟩
 unfold a5D at h
 split at h
 ·rename_i a l
  unfold sgnL at h
  walk_at "rd"
  refine ite2 (fun c=>?_) (fun c=>?_)
  ·rw[if_pos c] at h;exact a0h h
  ·rw[if_neg c] at h;exact a0h h
 ·exact h.elim
noncomputable def a2H:Sp3:=fun ts M Q=>match ts with
 | [.tup w,.int a]=>∃ ws:List Int,w=ws.map .int∧Sm ws∧0≤a∧a < (ws.length:Int) - 2∧Q (.tup ((a3k ws a).map .int)) M
 | _=>False
theorem a8z {P w K base f fd} {mg:Str→Option Value} {n:Nat}  (F:Fun K "with_three" "with_three" a3u f fd) (hm:mg "with_three"=some (.ref f)) (hb:a0M K fd ["word","at"] []) (Z:Zs mg) (D_signed:Df P w K mg base n "signed" ["number","letter"] a5D):Df P w K mg base (n+1) "with_three" ["word","at"] a2H:=by
 refine F.dfn hm hb a2P (by unfold a2H;walk_at "ln") ⟨_,fun cdv A outer s H E hr=>(@a0b _ _ _ _ _ (@a0I _ _ _ _ 2 _ _ (@h_ix _ _ _ _ _ _ (hv 0) (hv 1) (by intro _ _;rfl)) a2P.nd (by rfl) (by walk_at "2") (by rfl) (by walk_at "4")) (@a0b _ _ _ _ _ (@a0I _ _ _ _ 3 _ _ (@h_ix _ _ _ _ _ _ (hv 0) (@a0q _ _ _ _ _ _ _ _ a0p (hv 1) a0e) (by intro _ _;rfl)) a2P.nd (by rfl) (by walk_at "2") (by rfl) (by walk_at "4")) (@a0b _ _ _ _ _ (@a0I _ _ _ _ 4 _ _ (@h_ix _ _ _ _ _ _ (hv 0) (@a0q _ _ _ _ _ _ _ _ a0p (hv 1) a0e) (by intro _ _;rfl)) a2P.nd (by rfl) (by walk_at "2") (by rfl) (by walk_at "4")) (@a0g _ _ _ (@a0u _ _ _ _ (@a0q _ _ _ _ _ _ _ _ a0p (@a0q _ _ _ _ _ _ _ _ a0p (@a0S _ _ _ _ _ _ _ _ _ (hv 0) a1D (@a1f _ _ _ (hv 1))) (@a1j _ _ _ _ _ (@a0a _ _ _ _ _ (@a0n _ _ _ _ _ _ _ _ _ _ D_signed hr (@a0a _ _ _ _ _ (hv 3) (@a0a _ _ _ _ _ (hv 4) a0c (by rfl)) (by rfl)) (by rfl) (by decide) (by rfl) (by rfl)) (@a0a _ _ _ _ _ (@a0n _ _ _ _ _ _ _ _ _ _ D_signed hr (@a0a _ _ _ _ _ (hv 2) (@a0a _ _ _ _ _ (hv 3) a0c (by rfl)) (by rfl)) (by rfl) (by decide) (by rfl) (by rfl)) (@a0a _ _ _ _ _ (@a0n _ _ _ _ _ _ _ _ _ _ D_signed hr (@a0a _ _ _ _ _ (hv 3) (@a0a _ _ _ _ _ (hv 2) a0c (by rfl)) (by rfl)) (by rfl) (by decide) (by rfl) (by rfl)) a0c (by rfl)) (by rfl)) (by rfl)))) (@a0S _ _ _ _ _ _ _ _ _ (hv 0) (@a1f _ _ _ (@a0q _ _ _ _ _ _ _ _ a0p (hv 1) a0e)) a1D))))))),fun ts M Q h=>?_⟩
 unfold a2H at h
 split at h
 ·rename_i w a
  obtain⟨ws,rfl,sm,h0,h1,h⟩:=h
  walk_at "rd"
  simp only[a4z (w:=ws) (a:=a) h0 (by lia),a4z (w:=ws) (a:=a+1) (by lia) (by lia),a4z (w:=ws) (a:=a+2) (by lia) (by lia)]
  simp only[a5e _ _ h0,a2q _ _ (show 0≤a+3 by lia),← List.map_take,← List.map_drop,List.length_map]
  have hl:=sm.1
  refine⟨by decide,a0H (by rw[List.length_take];lia),a0H (by rw[List.length_take,List.length_drop];lia),?_⟩
  unfold a3k at h
  rw[List.map_append,List.map_append] at h
  exact a0h h
 ·exact h.elim
noncomputable def a4R:Sp3:=fun ts M Q=>match ts with
 | [.int n,.tup w,.int a,.int l]=>∃ ws:List Int,w=ws.map .int∧Sm ws∧0≤a∧a≤(ws.length:Int)∧LetOK n l∧ws.length+2≤4000∧Q (.tup ((inL ws a l).map .int)) M
 | _=>False
theorem b2K {P w K base f fd} {mg:Str→Option Value} {n:Nat}  (F:Fun K "with_in" "with_in" a5E f fd) (hm:mg "with_in"=some (.ref f)) (hb:a0M K fd ["strands","word","at","letter"] []) (Z:Zs mg) (D_is_letter:Df P w K mg base n "is_letter" ["strands","letter"] a1y):Df P w K mg base (n+1) "with_in" ["strands","word","at","letter"] a4R:=by
 obtain⟨tk_MOST_LETTERS_IN_STEPS,c_MOST_LETTERS_IN_STEPS⟩:=Z.c_MOST_LETTERS_IN_STEPS
 refine F.dfn hm hb b2v (by unfold a4R;walk_at "ln") ⟨_,fun cdv A outer s H E hr=>(@a0b _ _ _ _ _ (@s_if _ _ _ _ _ _ _ _ (@HW.ht _ _ _ (@w_or _ _ _ _ _ _ _ (@a7l _ _ _ _ (@a5P _ _ _ _ _ _ _ _ _ _ _ _ a5L a5L a0e (hv 2) (@a0k _ _ _ _ _ _ _ _ _ a0r Z.b_len PySem.boot_len (@a0a _ _ _ _ _ (hv 1) a0c (by rfl)) (by rfl) (by decide) (by decide) (by rfl) (by rfl)) (by with_unfolding_all rfl))) (@a5X _ _ _ _ (@a7l _ _ _ _ (@a5t _ _ _ (@a0n _ _ _ _ _ _ _ _ _ _ D_is_letter hr (@a0a _ _ _ _ _ (hv 0) (@a0a _ _ _ _ _ (hv 3) a0c (by rfl)) (by rfl)) (by rfl) (by decide) (by rfl) (by rfl)) (by intro _;rfl)))))) (@a0g _ _ _ a2n) a0s) (@a0b _ _ _ _ _ (@s_if _ _ _ _ _ _ _ _ (@a0o _ _ _ _ _ _ _ _ a3O (@a0q _ _ _ _ _ _ _ _ a0p (@a0k _ _ _ _ _ _ _ _ _ a0r Z.b_len PySem.boot_len (@a0a _ _ _ _ _ (hv 1) a0c (by rfl)) (by rfl) (by decide) (by decide) (by rfl) (by rfl)) a0e) (@a5u _ _ _ _ _ c_MOST_LETTERS_IN_STEPS (by rfl) (by decide)) (a0m _)) (@a0g _ _ _ a2n) a0s) (@a0g _ _ _ (@a0u _ _ _ _ (@a0q _ _ _ _ _ _ _ _ a0p (@a0q _ _ _ _ _ _ _ _ a0p (@a0S _ _ _ _ _ _ _ _ _ (hv 1) a1D (@a1f _ _ _ (hv 2))) (@a1j _ _ _ _ _ (@a0a _ _ _ _ _ (hv 3) (@a0a _ _ _ _ _ (@h_un _ _ _ _ _ _ a0Y (hv 3)) a0c (by rfl)) (by rfl)))) (@a0S _ _ _ _ _ _ _ _ _ (hv 1) (@a1f _ _ _ (hv 2)) a1D)))))),fun ts M Q h=>?_⟩
 unfold a4R at h
 split at h
 ·rename_i n w a l
  obtain⟨ws,rfl,sm,h0,h1,hl,h2,h⟩:=h
  have hlen:=sm.1
  have e:a5O n l=true:=by
   unfold LetOK at hl
   unfold a5O
   simp only[decide_eq_true_eq,Bool.and_eq_true]
   lia
  refine a0d fun K1 hK1=>?_
  walk_at "rd"
  rw[if_pos h0,if_neg (by lia)]
  unfold a1y
  dsimp only
  rw[e]
  suffices hK:K1 [some (.int n),some (.tup (ws.map .int)),some (.int a),some (.int l)] M by exact hK
  rw[hK1]
  refine a0d fun K2 hK2=>?_
  walk_at "rd"
  rw[if_neg (by lia),hK2]
  walk_at "rd"
  simp only[a5e _ _ h0,a2q _ _ h0,← List.map_take,← List.map_drop,List.length_map]
  unfold inL at h
  rw[List.map_append,List.map_append] at h
  exact⟨by decide,a0H (by rw[List.length_take];lia),a0H (by rw[List.length_take,List.length_drop];lia),a0h h⟩
 ·exact h.elim
theorem b0s (a b c:Addr):a7G [("far",a),("three",b),("out",c)] "far"=some a:=by rfl
theorem a7t (a b c:Addr):a7G [("far",a),("three",b),("out",c)] "three"=some b:=by rfl
theorem b0r (a b c:Addr):a7G [("far",a),("three",b),("out",c)] "out"=some c:=by rfl
noncomputable def a8l:Sp3:=fun ts M Q=>match ts with
 | [.int n,.tup w,.tup [.str z,.int a]]=>∃ ws:List Int,w=ws.map .int∧Sm ws∧((z="far"∧a1c ws a=true∧Q (.tup ((a2w ws a.toNat).map .int)) M)∨(z="three"∧a0F ws a=true∧Q (.tup ((a3k ws a).map .int)) M)∨(z="out"∧a1k ws a=true∧Q (.tup ((ws.take a.toNat++ws.drop (a+2).toNat).map .int)) M))
 | [.int n,.tup w,.tup [.str z,.int a,.int l]]=>z="in"∧∃ ws:List Int,w=ws.map .int∧Sm ws∧0≤a∧a≤(ws.length:Int)∧LetOK n l∧ws.length+2≤4000∧Q (.tup ((inL ws a l).map .int)) M
 | _=>False
theorem b8p {P w K base f fd} {mg:Str→Option Value} {n:Nat}  (F:Fun K "done" "done" b1K f fd) (hm:mg "done"=some (.ref f)) (hb:a0M K fd ["strands","word","step"] []) (Z:Zs mg) {dC fC1 fC2 fC3:Addr} (CN:CanN P w K mg dC fC1 fC2 fC3) (D_with_in:Df P w K mg base n "with_in" ["strands","word","at","letter"] a4R) (D_can_far:Df P w K mg base n "can_far" ["word","at"] a3a) (D_can_three:Df P w K mg base n "can_three" ["word","at"] a1W) (D_can_out:Df P w K mg base n "can_out" ["word","at"] a2Z) (D_exchanged:Df P w K mg base n "exchanged" ["row","at"] a1V) (D_with_three:Df P w K mg base n "with_three" ["word","at"] a2H):Df P w K mg base (n+1) "done" ["strands","word","step"] a8l:=by
 refine F.dfn hm hb b3J (by unfold a8l;walk_at "ln") ⟨_,fun cdv A outer s H E hr=>(@a0b _ _ _ _ _ (@s_if _ _ _ _ _ _ _ _ (@HW.ht _ _ _ (@a8d _ _ _ _ _ _ _ (@a0o _ _ _ _ _ _ _ _ (@a0G _ hr.units) (@a0k _ _ _ _ _ _ _ _ _ a0r Z.b_len PySem.boot_len (@a0a _ _ _ _ _ (hv 2) a0c (by rfl)) (by rfl) (by decide) (by decide) (by rfl) (by rfl)) a0e (a0m _)) (@a6p _ _ _ _ (@a0o _ _ _ _ _ _ _ _ (@a0G _ hr.units) (@h_ix _ _ _ _ _ _ (hv 2) a0e (by intro _ _;rfl)) a0W (a0m _))))) (@a0g _ _ _ (@a0u _ _ _ _ (@a0n _ _ _ _ _ _ _ _ _ _ D_with_in hr (@a0a _ _ _ _ _ (hv 0) (@a0a _ _ _ _ _ (hv 1) (@a0a _ _ _ _ _ (@h_ix _ _ _ _ _ _ (hv 2) a0e (by intro _ _;rfl)) (@a0a _ _ _ _ _ (@h_ix _ _ _ _ _ _ (hv 2) a0e (by intro _ _;rfl)) a0c (by rfl)) (by rfl)) (by rfl)) (by rfl)) (by rfl) (by decide) (by rfl) (by rfl)))) a0s) (@a0b _ _ _ _ _ (@s_if _ _ _ _ _ _ _ _ (@HW.ht _ _ _ (@w_or _ _ _ _ _ _ _ (@a0o _ _ _ _ _ _ _ _ (@a2G _ hr.units) (@a0k _ _ _ _ _ _ _ _ _ a0r Z.b_len PySem.boot_len (@a0a _ _ _ _ _ (hv 2) a0c (by rfl)) (by rfl) (by decide) (by decide) (by rfl) (by rfl)) a0e (a0m _)) (@a5X _ _ _ _ (@a0o _ _ _ _ _ _ _ _ (@a9B _ _ _ CN.can) (@h_ix _ _ _ _ _ _ (hv 2) a0e (by intro _ _;rfl)) (@b8L _ _ _ _ CN.mc (by rfl) (by decide)) rfl)))) (@a0g _ _ _ a2n) a0s) (@a0b _ _ _ _ _ (@a0I _ _ _ _ 3 _ _ (@h_ix _ _ _ _ _ _ (hv 2) a0e (by intro _ _;rfl)) b3J.nd (by rfl) (by walk_at "2") (by rfl) (by walk_at "4")) (@a0b _ _ _ _ _ (@s_if _ _ _ _ _ _ _ _ (@a7l _ _ _ _ (@a5t _ _ _ (@b4J _ _ _ ([(fC1,a3a),(fC2,a1W),(fC3,a2Z)]) _ _ _ _ _ _ _ _ _ _ _ CN.can CN.mc CN.kp (by intro q hq;simp only[List.mem_cons,List.not_mem_nil,or_false] at hq;rcases hq with rfl | rfl | rfl<;>first | exact D_can_far.fnAt CN.m1 | exact D_can_three.fnAt CN.m2 | exact D_can_out.fnAt CN.m3) hr (@h_ix _ _ _ _ _ _ (hv 2) a0e (by intro _ _;rfl)) (@a0a _ _ _ _ _ (hv 1) (@a0a _ _ _ _ _ (hv 3) a0c (by rfl)) (by rfl)) (by intro _ _;rfl) (by rfl) (by decide) (by rfl) (by rfl)) (by intro _;rfl))) (@a0g _ _ _ a2n) a0s) (@a0b _ _ _ _ _ (@s_if _ _ _ _ _ _ _ _ (@a0o _ _ _ _ _ _ _ _ (@a0G _ hr.units) (@h_ix _ _ _ _ _ _ (hv 2) a0e (by intro _ _;rfl)) a0W (a0m _)) (@a0g _ _ _ (@a0u _ _ _ _ (@a0n _ _ _ _ _ _ _ _ _ _ D_exchanged hr (@a0a _ _ _ _ _ (hv 1) (@a0a _ _ _ _ _ (hv 3) a0c (by rfl)) (by rfl)) (by rfl) (by decide) (by rfl) (by rfl)))) a0s) (@a0b _ _ _ _ _ (@s_if _ _ _ _ _ _ _ _ (@a0o _ _ _ _ _ _ _ _ (@a0G _ hr.units) (@h_ix _ _ _ _ _ _ (hv 2) a0e (by intro _ _;rfl)) a0W (a0m _)) (@a0g _ _ _ (@a0u _ _ _ _ (@a0n _ _ _ _ _ _ _ _ _ _ D_with_three hr (@a0a _ _ _ _ _ (hv 1) (@a0a _ _ _ _ _ (hv 3) a0c (by rfl)) (by rfl)) (by rfl) (by decide) (by rfl) (by rfl)))) a0s) (@a0g _ _ _ (@a0u _ _ _ _ (@a0q _ _ _ _ _ _ _ _ a0p (@a0S _ _ _ _ _ _ _ _ _ (hv 1) a1D (@a1f _ _ _ (hv 3))) (@a0S _ _ _ _ _ _ _ _ _ (hv 1) (@a1f _ _ _ (@a0q _ _ _ _ _ _ _ _ a0p (hv 3) a0e)) a1D)))))))))),fun ts M Q h=>?_⟩
 unfold a8l at h
 split at h
 ·rename_i n w z a
  obtain⟨ws,rfl,sm,h⟩:=h
  refine a0d fun K1 hK1=>?_
  walk_at "rd"
  rw[if_neg (by decide),hK1]
  refine a0d fun K2 hK2=>?_
  have key:∃ f,a7G [("far",fC1),("three",fC2),("out",fC3)] z=some f:=by
   rcases h with ⟨rfl,_⟩ | ⟨rfl,_⟩ | ⟨rfl,_⟩
   ·exact⟨_,b0s _ _ _⟩
   ·exact⟨_,a7t _ _ _⟩
   ·exact⟨_,b0r _ _ _⟩
  obtain⟨f0,hf0⟩:=key
  walk_at "rd"
  rw[if_neg (by decide),hf0,if_neg (by simp),hK2]
  refine a1Q fun K3 hK3=>?_
  rcases h with ⟨rfl,hc,h⟩ | ⟨rfl,hc,h⟩ | ⟨rfl,hc,h⟩
  ·walk_at "rd"
   refine⟨_,b0s _ _ _,a3a,.head _,ws,rfl,sm,?_⟩
   rw[hc]
   suffices hK:K3 [some (.int n),some (.tup (ws.map .int)),some (.tup [.str "far",.int a]),some (.int a)] M by exact hK
   rw[hK3]
   refine a0d fun K4 hK4=>?_
   walk_at "rd"
   have hb:0≤a∧a < (ws.length:Int) - 1:=by
    unfold a1c at hc
    exact of_decide_eq_true (Bool.and_eq_true_iff.mp hc).1
   have hlen:=sm.1
   refine⟨rfl,rfl,Nat.zero_le _,?_⟩
   rw[if_pos (a0O _ rfl)]
   exact⟨ws,rfl,hb.1,by lia,by lia,a0h h⟩
  ·walk_at "rd"
   refine⟨_,a7t _ _ _,a1W,.tail _ (.head _),ws,rfl,sm,?_⟩
   rw[hc]
   suffices hK:K3 [some (.int n),some (.tup (ws.map .int)),some (.tup [.str "three",.int a]),some (.int a)] M by exact hK
   rw[hK3]
   refine a0d fun K4 hK4=>?_
   walk_at "rd"
   have hb:0≤a∧a < (ws.length:Int) - 2:=by
    unfold a0F at hc
    exact of_decide_eq_true (Bool.and_eq_true_iff.mp hc).1
   refine⟨rfl,rfl,Nat.zero_le _,?_⟩
   rw[if_neg (by decide +kernel),hK4]
   refine a0d fun K5 hK5=>?_
   walk_at "rd"
   refine⟨rfl,rfl,Nat.zero_le _,?_⟩
   rw[if_pos (a0O _ rfl)]
   exact⟨ws,rfl,sm,hb.1,by lia,a0h h⟩
  ·walk_at "rd"
   refine⟨_,b0r _ _ _,a2Z,.tail _ (.tail _ (.head _)),ws,rfl,sm,?_⟩
   rw[hc]
   suffices hK:K3 [some (.int n),some (.tup (ws.map .int)),some (.tup [.str "out",.int a]),some (.int a)] M by exact hK
   rw[hK3]
   refine a0d fun K4 hK4=>?_
   walk_at "rd"
   have hb:0≤a∧a < (ws.length:Int) - 1:=by
    unfold a1k at hc
    exact of_decide_eq_true (Bool.and_eq_true_iff.mp hc).1
   have hlen:=sm.1
   refine⟨rfl,rfl,Nat.zero_le _,?_⟩
   rw[if_neg (by decide +kernel),hK4]
   refine a0d fun K5 hK5=>?_
   walk_at "rd"
   refine⟨rfl,rfl,Nat.zero_le _,?_⟩
   rw[if_neg (by decide +kernel),hK5]
   walk_at "rd"
   simp only[a5e _ _ hb.1,a2q _ _ (show 0≤a+2 by lia),← List.map_take,← List.map_drop,List.length_map]
   rw[List.map_append] at h
   exact⟨a0H (by rw[List.length_take,List.length_drop];lia),a0h h⟩
 ·rename_i n w z a l
  obtain⟨rfl,ws,rfl,sm,h0,h1,hl,h2,h⟩:=h
  refine a0d fun K1 hK1=>?_
  walk_at "rd"
  rw[if_pos (by decide)]
  refine⟨rfl,rfl,Nat.zero_le _,?_⟩
  rw[if_pos (a0O _ rfl)]
  exact⟨ws,rfl,sm,h0,h1,hl,h2,a0h h⟩
 ·exact h.elim
noncomputable def c0X (n:Int) (ws:List Int) (st:List T) (r:List Int):Prop :=
 (∃ a,st=[.str "far",.int a]∧a1c ws a=true∧r=a2w ws a.toNat)∨(∃ a,st=[.str "three",.int a]∧a0F ws a=true∧r=a3k ws a) ∨
 (∃ a,st=[.str "out",.int a]∧a1k ws a=true∧r=ws.take a.toNat++ws.drop (a+2).toNat)∨(∃ a l,st=[.str "in",.int a,.int l]∧0≤a∧a≤(ws.length:Int)∧LetOK n l∧ws.length+2≤4000∧r=inL ws a l)
noncomputable def a4S:Sp3:=fun ts M Q=>match ts with
 | [.int n,.tup w,.tup st]=>∃ ws r:List Int,w=ws.map .int∧ws.length≤4000∧1≤n∧n≤6∧WordOK n ws∧c0X n ws st r∧Q (.tup (r.map .int)) M
 | _=>False
theorem b2L {P w K base f fd} {mg:Str→Option Value} {n:Nat}  (F:Fun K "stepped" "stepped" a5F f fd) (hm:mg "stepped"=some (.ref f)) (hb:a0M K fd ["strands","word","step"] []) (Z:Zs mg) (D_looked_word:Df P w K mg base n "looked_word" ["strands","word"] a2r) (D_done:Df P w K mg base n "done" ["strands","word","step"] a8l):Df P w K mg base (n+1) "stepped" ["strands","word","step"] a4S:=by
 refine F.dfn hm hb b2w (by unfold a4S;walk_at "ln") ⟨_,fun cdv A outer s H E hr=>(@a0b _ _ _ _ _ (@a4y _ _ _ _ (@a0n _ _ _ _ _ _ _ _ _ _ D_looked_word hr (@a0a _ _ _ _ _ (hv 0) (@a0a _ _ _ _ _ (hv 1) a0c (by rfl)) (by rfl)) (by rfl) (by decide) (by rfl) (by rfl)) (by rfl)) (@a0g _ _ _ (@a0u _ _ _ _ (@a0n _ _ _ _ _ _ _ _ _ _ D_done hr (@a0a _ _ _ _ _ (hv 0) (@a0a _ _ _ _ _ (hv 1) (@a0a _ _ _ _ _ (hv 2) a0c (by rfl)) (by rfl)) (by rfl)) (by rfl) (by decide) (by rfl) (by rfl))))),fun ts M Q h=>?_⟩
 unfold a4S at h
 split at h
 ·rename_i n w st
  obtain⟨ws,r,rfl,hl,h1,h6,hw,hd,h⟩:=h
  have sm:Sm ws:=.of hl h6 hw
  walk_at "rd"
  refine⟨ws,rfl,hl,h1,h6,hw,?_⟩
  rcases hd with ⟨a,rfl,hc,rfl⟩ | ⟨a,rfl,hc,rfl⟩ | ⟨a,rfl,hc,rfl⟩ | ⟨a,l,rfl,h0,h2,hl,h3,rfl⟩
  ·exact⟨ws,rfl,sm,.inl ⟨rfl,hc,a0h h⟩⟩
  ·exact⟨ws,rfl,sm,.inr (.inl ⟨rfl,hc,a0h h⟩)⟩
  ·exact⟨ws,rfl,sm,.inr (.inr ⟨rfl,hc,a0h h⟩)⟩
  ·exact⟨rfl,ws,rfl,sm,h0,h2,hl,h3,a0h h⟩
 ·exact h.elim
theorem b3o {c:TT3} {b:TS3} {D:Ends3} {ρ:En} {M:MH} (h:∀ B:TS3,B=b→a8i c B D ρ M):a8i c b D ρ M:=h _ rfl
noncomputable def a2J:Sp3:=fun ts M Q=>match ts with
 | [.tup o,.int b]=>∃ (os:List Int) (n:Int),o=os.map .int∧1≤n∧n≤6∧IsP n os∧b∈a0j n∧∀ r,M r=none→Q (.adr r) (updM M r (.lst ((pcF os n b).map .int)))
 | _=>False
theorem b2e {n:Int} {os:List Int} (h:IsP n os) {a:Int} (ha:InM n a):atI (os.map T.int) a=some (.int (gI os a))∧InM n (gI os a) :=
 ⟨a4z ha.1 (by rw[h.length_eq,a0l];have:=ha.2;lia),(c1P h ha).1⟩
theorem a8B {P w K base f fd} {mg:Str→Option Value} {n:Nat}  (F:Fun K "piece_from" "piece_from" a3w f fd) (hm:mg "piece_from"=some (.ref f)) (hb:a0M K fd ["order","begin"] []) (Z:Zs mg) :Df P w K mg base (n+1) "piece_from" ["order","begin"] a2J:=by
 refine F.dfn hm hb a2Q (by unfold a2J;walk_at "ln") ⟨_,fun cdv A outer s H E hr=>(@a0b _ _ _ _ _ (@a0I _ _ _ _ 2 _ _ (@a2C _ _ _ _ (@a0a _ _ _ _ _ (hv 1) a0c (by rfl))) a2Q.nd (by rfl) (by walk_at "2") (by rfl) (by walk_at "4")) (@a0b _ _ _ _ _ (@a0I _ _ _ _ 3 _ _ (@h_ix _ _ _ _ _ _ (hv 0) (hv 1) (by intro _ _;rfl)) a2Q.nd (by rfl) (by walk_at "2") (by rfl) (by walk_at "4")) (@a0b _ _ _ _ _ (@b7B _ _ _ _ _ _ PassesOwn.never (@a0o _ _ _ _ _ _ _ _ (@a2G _ hr.units) (hv 3) (hv 1) (a0m _)) (@a0b _ _ _ _ _ (@a4y _ _ _ _ (@a5c _ _ _ _ _ _ _ _ (hv 2) (@a0a _ _ _ _ _ (hv 3) a0c (by rfl)) (by rfl) (by rfl) (by rfl) (by rfl) (by rfl)) (by rfl)) (@a0g _ _ _ (@a0I _ _ _ _ 3 _ _ (@h_ix _ _ _ _ _ _ (hv 0) (hv 3) (by intro _ _;rfl)) a2Q.nd (by rfl) (by walk_at "2") (by rfl) (by walk_at "4"))))) (@a0g _ _ _ (@a0u _ _ _ _ (@a0k _ _ _ _ _ _ _ _ _ b0v Z.b_sorted PyProof.Rows.boot_sorted (@a0a _ _ _ _ _ (hv 2) a0c (by rfl)) (by rfl) (by decide) (by decide) (by rfl) (by rfl))))))),fun ts M Q h=>?_⟩
 unfold a2J at h
 split at h
 ·rename_i o b
  obtain⟨os,n,rfl,n1,n6,ho,hb,h⟩:=h
  have hbm:InM n b:=a0E hb
  obtain⟨c,hc,hcp⟩:=b7o n1 n6 ho hb
  refine a4U fun K1 hK1=>?_
  walk_at "rd"
  refine⟨by decide,fun p hp=>?_⟩
  rw[(b2e ho hbm).1]
  dsimp only
  have hMp:(updM M p (MO.lst [T.int b])) p=some (.lst ([b].map .int)):=a0f
  have hS:=Sub.new hp (o:=MO.lst [T.int b])
  generalize updM M p (MO.lst [T.int b])=M1 at hMp hS⊢
  have ham:=(b2e ho hbm).2
  generalize gI os b=a0 at hc ham⊢
  refine b3o fun C hC=>?_
  unfold a8i
  refine⟨fun m ρ M'=>∃ (a:Int) (acc:List Int),ρ=[some (T.tup (os.map T.int)),some (T.int b),some (T.adr p),some (T.int a)]∧InM n a∧cyc os b m a acc=some c∧M' p=some (.lst (acc.map .int))∧acc.length+m≤8∧Sub M M',⟨7,a0,[b],rfl,ham,hc,hMp,Nat.le_refl _,hS⟩,?_⟩
  rintro m ρ M' ⟨a,acc,rfl,ha,hcy,hp1,hal,hS1⟩
  walk_at "rd"
  cases m with
  | zero=>cases hcy
  | succ f =>
    refine ite2 (fun ne=>?_) (fun eq=>?_)
    ·rw[hC]
     walk_at "rd"
     rw[hp1]
     dsimp only
     rw[(b2e ho ha).1]
     dsimp only
     refine⟨trivial,a0Q (by rw[List.length_map];lia),f,Nat.lt_succ_self _,gI os a,acc++[a],rfl,(b2e ho ha).2,?_,by rw[List.map_append];rfl,by rw[List.length_append,List.length_singleton];lia,hS1.updF hp⟩
     rw[← hcy]
     exact (if_neg ne).symm
    ·have:acc=c:=by
      have h2:(if a=b then some acc else cyc os b f (gI os a) (acc++[a]))=some c:=hcy
      rw[if_pos (Classical.not_not.mp eq)] at h2
      exact Option.some.inj h2
     subst this
     rw[hK1]
     walk_at "rd"
     rw[hp1]
     refine⟨acc,rfl,by lia,fun ms m1 m2 r hr=>?_⟩
     have:ms=pcF os n b:=by
      refine List.Perm.eq_of_pairwise (fun a b _ _ h1 h2=>Int.le_antisymm h1 h2) m2 ((a8s n).filter _) (m1.trans hcp)
     rw[this]
     exact a0y (h r (a4p hS1 hr)) ((hS1.newr hr).mk1 a0f)
 ·exact h.elim
noncomputable def a1u (M:MH) (as:List Addr) (ls:List (List Int)):Prop:=as.length=ls.length∧∀ (i:Nat) (a:Addr) (l:List Int),as[i]?=some a→ls[i]?=some l→M a=some (.lst (l.map .int))
noncomputable def Fr (M:MH) (as:List Addr):Prop:=∀ a∈as,M a=none
theorem a1u.sub {M M':MH} {as:List Addr} {ls:List (List Int)} (h:a1u M as ls) (s:Sub M M'):a1u M' as ls:=⟨h.1,fun i a l h1 h2=>s _ _ (h.2 i a l h1 h2)⟩
theorem a1u.nil {M:MH}:a1u M [] []:=⟨rfl,fun i a l z=>by simp at z⟩
theorem a1u.snoc {M:MH} {as:List Addr} {ls:List (List Int)} {a:Addr} {l:List Int} (h:a1u M as ls) (ha:M a=some (.lst (l.map .int))):a1u M (as++[a]) (ls++[l]):=by
 refine⟨by rw[List.length_append,List.length_append,h.1];rfl,fun i b k h1 h2=>?_⟩
 by_cases z:i < as.length
 ·rw[List.getElem?_append_left z] at h1
  rw[List.getElem?_append_left (by rw[← h.1];exact z)] at h2
  exact h.2 i b k h1 h2
 ·rw[List.getElem?_append_right (by lia)] at h1
  rw[List.getElem?_append_right (by rw[← h.1];lia),← h.1] at h2
  obtain⟨l1,e1⟩:=List.getElem?_eq_some_iff.mp h1
  have e:i - as.length=0:=by rw[List.length_singleton] at l1;lia
  rw[e] at h1 h2
  obtain rfl:=Option.some.inj h1
  obtain rfl:=Option.some.inj h2
  exact ha
theorem Fr.snoc {M:MH} {as:List Addr} {a:Addr} (h:Fr M as) (ha:M a=none):Fr M (as++[a]):=fun b hb=>by
 rcases List.mem_append.mp hb with z | z
 ·exact h b z
 ·rw[List.mem_singleton.mp z];exact ha
theorem b8l {n:Int} {w:List Int} (hw:WordOK n w):IsP n (a0D n w):=by
 refine a4o _ _ ?_ (fun x hx=>?_) (by rw[a5K,a0l];exact Nat.le_refl _)
 ·rw[a7Q n w hw]
  refine List.pairwise_map.mpr ((a1B n).imp_of_mem fun {a b} ha hb ne z=>ne ?_)
  have ia:=a0E ha
  have ib:=a0E hb
  have z2:=a7Z w a
  rw[z,a7Z w b] at z2
  exact z2.symm
 ·have:=b2I hw hx
  exact a1e this.1 this.2
theorem b4V {o:List Int} {b:Int}:∀ (f:Nat) (a:Int) (acc c:List Int),cyc o b f a acc=some c→acc.length≤c.length
 | 0,_,_,_,h=>by cases h
 | f+1,a,acc,c,h=>by
   have h2:(if a=b then some acc else cyc o b f (gI o a) (acc++[a]))=some c:=h
   by_cases e:a=b
   ·rw[if_pos e] at h2
    rw[Option.some.inj h2];exact Nat.le_refl _
   ·rw[if_neg e] at h2
    have:=b4V f _ _ _ h2
    rw[List.length_append,List.length_singleton] at this
    lia
theorem c0c {o:List Int} {n b:Int} (n1:1≤n) (n6:n≤6) (ho:IsP n o) (hb:b∈a0j n):1≤(pcF o n b).length:=by
 obtain⟨c,h1,h2⟩:=b7o n1 n6 ho hb
 rw[← h2.length_eq]
 exact b4V _ _ _ _ h1
noncomputable def a4A:Sp3:=fun ts M Q=>match ts with
 | [.tup [.int n,.tup w]]=>∃ ws:List Int,w=ws.map .int∧PlOK n ws∧∀ (r:Addr) (as:List Addr) (M':MH),M r=none→Sub M M'→M' r=some (.lst (as.map T.adr))→a1u M' as (pcs (a0D n ws) n)→Fr M as→Q (.adr r) M'
 | _=>False
theorem b4g {P w K base f fd} {mg:Str→Option Value} {n:Nat}  (F:Fun K "pieces" "pieces" a4V f fd) (hm:mg "pieces"=some (.ref f)) (hb:a0M K fd ["plait"] []) (Z:Zs mg) (D_order_of:Df P w K mg base n "order_of" ["plait"] a3X) (D_piece_from:Df P w K mg base n "piece_from" ["order","begin"] a2J):Df P w K mg base (n+1) "pieces" ["plait"] a4A:=by
 refine F.dfn hm hb a6S (by unfold a4A;walk_at "ln") ⟨_,fun cdv A outer s H E hr=>(@a0b _ _ _ _ _ (@a0I _ _ _ _ 1 _ _ (@a0n _ _ _ _ _ _ _ _ _ _ D_order_of hr (@a0a _ _ _ _ _ (hv 0) a0c (by rfl)) (by rfl) (by decide) (by rfl) (by rfl)) a6S.nd (by rfl) (by walk_at "2") (by rfl) (by walk_at "4")) (@a0b _ _ _ _ _ (@a0I _ _ _ _ 2 _ _ (@a4K _ _ _ _ _ _ _ _ _ _ _ _ _ _ rfl (@a2X _ _ _ _ _ _ Z.b_range (@a0a _ _ _ _ _ (@a0k _ _ _ _ _ _ _ _ _ a0r Z.b_len PySem.boot_len (@a0a _ _ _ _ _ (hv 1) a0c (by rfl)) (by rfl) (by decide) (by decide) (by rfl) (by rfl)) a0c (by rfl)) (by rfl) (by rfl)) (@a1i _ (a0i a4V) _ (["plait","order","found"]) (["begin","order"]) ([none,some 1]) (by decide +kernel) rfl rfl) a3G (fun _ _ _ _ _=>@a1C _ _ 0 _ (show List.Nodup (["begin","order"]:List Str) by decide +kernel) rfl (Or.inl rfl) (Or.inr rfl)) (fun _ _ _ _ _=>a6q) (fun _ _ _ _ _=>(@a0n _ _ _ _ _ _ _ _ _ _ D_piece_from hr (@a0a _ _ _ _ _ (hv 1) (@a0a _ _ _ _ _ (hv 0) a0c (by rfl)) (by rfl)) (by rfl) (by decide) (by rfl) (by rfl))) (by intro _;rfl)) a6S.nd (by rfl) (by walk_at "2") (by rfl) (by walk_at "4")) (@a0g _ _ _ (@a0u _ _ _ _ (@a4K _ _ _ _ _ _ _ _ _ _ _ _ _ _ rfl (@a2X _ _ _ _ _ _ Z.b_range (@a0a _ _ _ _ _ (@a0k _ _ _ _ _ _ _ _ _ a0r Z.b_len PySem.boot_len (@a0a _ _ _ _ _ (hv 1) a0c (by rfl)) (by rfl) (by decide) (by decide) (by rfl) (by rfl)) a0c (by rfl)) (by rfl) (by rfl)) (@a1i _ (a0i a4V) _ (["plait","order","found"]) (["place","found"]) ([none,some 2]) (by decide +kernel) rfl rfl) a3G (fun _ _ _ _ _=>@a1C _ _ 0 _ (show List.Nodup (["place","found"]:List Str) by decide +kernel) rfl (Or.inl rfl) (Or.inr rfl)) (fun _ _ _ _ _=>a9d (@a0o _ _ _ _ _ _ _ _ (@a0G _ hr.units) (@h_ix _ _ _ _ _ _ (@h_ix _ _ _ _ _ _ (hv 1) (hv 0) (by intro _ _;rfl)) a0e (by intro _ _;rfl)) (hv 0) (a0m _))) (fun _ _ _ _ _=>(@h_ix _ _ _ _ _ _ (hv 1) (hv 0) (by intro _ _;rfl))) (by intro _;rfl)))))),fun ts M Q h=>?_⟩
 unfold a4A at h
 split at h
 ·rename_i n w
  obtain⟨ws,rfl,ok,h⟩:=h
  obtain⟨n1,n6,hl,hw⟩:=id ok
  refine a1Q fun K1 hK1=>?_
  walk_at "rd"
  have ho:=b8l (n:=n) hw
  have hol:(a0D n ws).length=n.toNat:=a5K n ws
  refine⟨ws,rfl,ok,?_⟩
  dsimp only
  generalize a0D n ws=os at ho hol h⊢
  rw[List.length_map,hol,show ((n.toNat:Nat):Int).toNat=n.toNat by lia,a2W]
  have hrl:(a0j n).length=n.toNat:=a0l n
  refine⟨by lia,by lia,fun i ys M'=>∃ as:List Addr,ys=as.map T.adr∧a1u M' as (((a0j n).take i).map (pcF os n))∧Fr M as∧Sub M M',⟨[],rfl,.nil,fun _ z=>absurd z List.not_mem_nil,Sub.refl⟩,fun _ _ _ _=>trivial,by rw[List.length_map,hrl];exact a0Q (by lia),?_,?_⟩
  ·rintro i x ys M' hx ⟨as,rfl,hL,hF,hS⟩
   obtain⟨b,hb,rfl⟩:=a0N hx
   refine⟨os,n,rfl,n1,by lia,ho,List.mem_of_getElem? hb,fun r hr=>?_⟩
   refine⟨as++[r],by rw[List.map_append];rfl,?_,hF.snoc (a4p hS hr),hS.newr hr⟩
   rw[← a1F (pcF os n) hb]
   exact (hL.sub (Sub.new hr)).snoc a0f
  ·rintro ys M' ⟨as,rfl,hL,hF,hS⟩ q hq
   rw[List.length_map,List.take_length] at hL
   have hMq:(updM M' q (.lst (as.map T.adr))) q=some (.lst (as.map T.adr)):=a0f
   have hL2:=hL.sub (Sub.new hq (o:=.lst (as.map T.adr)))
   have hS2:=hS.newr hq (o:=.lst (as.map T.adr))
   generalize updM M' q (.lst (as.map T.adr))=M1 at hMq hL2 hS2⊢
   rw[hK1];clear hK1
   walk_at "rd"
   have hal:as.length=n.toNat:=by rw[hL2.1,List.length_map,hrl]
   rw[hol,show ((n.toNat:Nat):Int).toNat=n.toNat by lia,a2W]
   refine⟨by lia,by lia,fun i ys M2=>(∃ bs:List Addr,ys=bs.map T.adr∧a1u M1 bs ((((a0j n).take i).filter fun b=>decide (gI (pcF os n b) 0=b)).map (pcF os n))∧Fr M bs)∧M2=M1,⟨⟨[],rfl,.nil,fun _ z=>absurd z List.not_mem_nil⟩,rfl⟩,fun _ _ _ _=>trivial,by rw[List.length_map,hrl];exact a0Q (by lia),?_,?_⟩
   ·rintro i x ys M2 hx ⟨⟨bs,rfl,hB,hG⟩,rfl⟩
    obtain⟨b,hb,rfl⟩:=a0N hx
    have hbm:=List.mem_of_getElem? hb
    have hbi:b=(i:Int)∧i < n.toNat:=by
     have hl:=(List.getElem?_eq_some_iff.mp hb).1
     rw[hrl] at hl
     unfold a0j at hb
     rw[List.getElem?_map,List.getElem?_range hl] at hb
     exact⟨(Option.some.inj hb).symm,hl⟩
    obtain⟨a,ea⟩:∃ a,as[i]?=some a:=⟨_,List.getElem?_eq_getElem (by lia)⟩
    have ha:=hL2.2 i a (pcF os n b) ea (by rw[List.getElem?_map,hb];rfl)
    have aa:atI (as.map T.adr) b=some (.adr a):=by rw[hbi.1];exact a6m (by rw[List.getElem?_map,ea];rfl)
    have a0:atI ((pcF os n b).map T.int) 0=some (.int (gI (pcF os n b) 0)):=a4z (by decide) (by have:=c0c n1 (by lia) ho hbm;lia)
    dsimp only
    rw[hMq]
    dsimp only
    rw[aa]
    dsimp only
    rw[ha]
    dsimp only
    rw[a0]
    dsimp only
    rw[b0f (fun b=>decide (gI (pcF os n b) 0=b)) hb]
    refine⟨by rw[a6X],by rw[a6X],by rw[a5S];decide,?_⟩
    rw[a3F]
    by_cases z:gI (pcF os n b) 0=b
    ·rw[decide_eq_true z,if_pos rfl,if_pos rfl,List.map_append]
     exact⟨⟨bs++[a],by rw[List.map_append];rfl,hB.snoc ha,hG.snoc (hF a (List.mem_of_getElem? ea))⟩,rfl⟩
    ·rw[decide_eq_false z,if_neg (by decide),if_neg (by decide),List.append_nil]
     exact⟨⟨bs,rfl,hB,hG⟩,rfl⟩
   ·rintro ys M2 ⟨⟨bs,rfl,hB,hG⟩,rfl⟩ r hr
    rw[List.length_map,List.take_length] at hB
    exact a0h (h r bs _ (a4p hS2 hr) (hS2.newr hr) a0f (hB.sub (Sub.new hr)) hG)
 ·exact h.elim
noncomputable def a3J:Sp3:=fun ts M Q=>match ts with
 | [.int l]=>Q (.int (sgI l)) M
 | _=>False
theorem b2M {P w K base f fd} {mg:Str→Option Value} {n:Nat}  (F:Fun K "sign_of" "sign_of" a5G f fd) (hm:mg "sign_of"=some (.ref f)) (hb:a0M K fd ["letter"] []) (Z:Zs mg) :Df P w K mg base (n+1) "sign_of" ["letter"] a3J:=by
 refine F.dfn hm hb b2x (by unfold a3J;walk_at "ln") ⟨_,fun cdv A outer s H E hr=>(@a0b _ _ _ _ _ (@s_if _ _ _ _ _ _ _ _ (@a0o _ _ _ _ _ _ _ _ a3C (hv 0) a0e (a0m _)) (@a0g _ _ _ (@a0u _ _ _ _ (@h_un _ _ _ _ _ _ a0Y a0e))) a0s) (@a0g _ _ _ (@a0u _ _ _ _ a0e))),fun ts M Q h=>?_⟩
 unfold a3J at h
 split at h
 ·rename_i l
  unfold sgI at h
  walk_at "rd"
  refine ite2 (fun c=>?_) (fun c=>?_)
  ·rw[if_pos c] at h;exact a0h h
  ·rw[if_neg c] at h;exact a0h h
 ·exact h.elim
noncomputable def a6E:Sp3:=fun ts M Q=>match ts with
 | [.tup [.int n,.tup w]]=>∃ ws:List Int,w=ws.map .int∧PlOK n ws∧Q (.int ((ws.map sgI).sum)) M
 | _=>False
theorem b5W {P w K base f fd} {mg:Str→Option Value} {n:Nat}  (F:Fun K "turns" "turns" a6T f fd) (hm:mg "turns"=some (.ref f)) (hb:a0M K fd ["plait"] []) (Z:Zs mg) (D_looked:Df P w K mg base n "looked" ["plait"] a2y) (D_sign_of:Df P w K mg base n "sign_of" ["letter"] a3J):Df P w K mg base (n+1) "turns" ["plait"] a6E:=by
 refine F.dfn hm hb b5x (by unfold a6E;walk_at "ln") ⟨_,fun cdv A outer s H E hr=>(@a0b _ _ _ _ _ (@a4y _ _ _ _ (@a0n _ _ _ _ _ _ _ _ _ _ D_looked hr (@a0a _ _ _ _ _ (hv 0) a0c (by rfl)) (by rfl) (by decide) (by rfl) (by rfl)) (by rfl)) (@a0g _ _ _ (@a0u _ _ _ _ (@a0k _ _ _ _ _ _ _ _ _ (@b5h _ rfl) Z.b_sum PyProof.Rows.boot_sum (@a0a _ _ _ _ _ (@a4K _ _ _ _ _ _ _ _ _ _ _ _ _ _ rfl (@a5s _ _ _ _ (@h_ix _ _ _ _ _ _ (hv 0) a0e (by intro _ _;rfl))) (@a1i _ (a0i a6T) _ ["plait"] ["letter"] [none] (by decide +kernel) rfl rfl) a3G (fun _ _ _ _ _=>@a1C _ _ 0 _ (show List.Nodup (["letter"]:List Str) by decide +kernel) rfl (Or.inl rfl) (Or.inr rfl)) (fun _ _ _ _ _=>a6q) (fun _ _ _ _ _=>(@a0n _ _ _ _ _ _ _ _ _ _ D_sign_of hr (@a0a _ _ _ _ _ (hv 0) a0c (by rfl)) (by rfl) (by decide) (by rfl) (by rfl))) (by intro _;rfl)) a0c (by rfl)) (by rfl) (by decide) (by decide) (by rfl) (by rfl))))),fun ts M Q h=>?_⟩
 unfold a6E at h
 split at h
 ·rename_i n w
  obtain⟨ws,rfl,ok,h⟩:=h
  have hl:=ok.2.2.1
  walk_at "rd"
  refine⟨ws,rfl,ok,fun i ys M'=>ys=((ws.take i).map sgI).map T.int∧M'=M,⟨rfl,rfl⟩,fun _ _ _ _=>trivial,a0Q (by lia),?_,?_⟩
  ·rintro i x ys M' hx ⟨rfl,rfl⟩
   obtain⟨l,hx2,rfl⟩:=a0N hx
   refine⟨?_,rfl⟩
   rw[← a1F sgI hx2,List.map_append];rfl
  ·rintro ys M' ⟨rfl,rfl⟩ p hp
   rw[List.take_length,a7j]
   exact a0y h (Sub.new hp)
 ·exact h.elim
noncomputable def crT (x:Int × Int × Int):T:=.tup [.int x.1,.int x.2.1,.int x.2.2]
noncomputable def a3r:Sp3:=fun ts M Q=>match ts with
 | [.tup [.int n,.tup w]]=>∃ ws:List Int,w=ws.map .int∧PlOK n ws∧∀ r,M r=none→Q (.adr r) (updM M r (.lst ((crL (a0j n) ws).map crT)))
 | _=>False
theorem a9K {P w K base f fd} {mg:Str→Option Value} {n:Nat}  (F:Fun K "crossings" "crossings" a4j f fd) (hm:mg "crossings"=some (.ref f)) (hb:a0M K fd ["plait"] []) (Z:Zs mg) (D_sign_of:Df P w K mg base n "sign_of" ["letter"] a3J) (D_exchanged:Df P w K mg base n "exchanged" ["row","at"] a1V):Df P w K mg base (n+1) "crossings" ["plait"] a3r:=by
 refine F.dfn hm hb a1X (by unfold a3r;walk_at "ln") ⟨_,fun cdv A outer s H E hr=>(@a0b _ _ _ _ _ (@a0I _ _ _ _ 1 _ _ (@a7k _ _ _ _ _ _ _ Z.b_tuple Z.b_range (@a0a _ _ _ _ _ (@h_ix _ _ _ _ _ _ (hv 0) a0e (by intro _ _;rfl)) a0c (by rfl)) (by rfl) (by rfl) (by rfl) (by rfl) (by rfl)) a1X.nd (by rfl) (by walk_at "2") (by rfl) (by walk_at "4")) (@a0b _ _ _ _ _ (@a0I _ _ _ _ 2 _ _ (@a2C _ _ _ _ a0c) a1X.nd (by rfl) (by walk_at "2") (by rfl) (by walk_at "4")) (@a0b _ _ _ _ _ (@a5g _ _ _ _ _ _ _ _ PassesOwn.never rfl (@a5s _ _ _ _ (@h_ix _ _ _ _ _ _ (hv 0) a0e (by intro _ _;rfl))) (a0V (i:=3) a1X.nd) (@a0b _ _ _ _ _ (@a0I _ _ _ _ 4 _ _ (@a0q _ _ _ _ _ _ _ _ a1b (@a0k _ _ _ _ _ _ _ _ _ a0x Z.b_abs PyProof.Rows.boot_abs (@a0a _ _ _ _ _ (hv 3) a0c (by rfl)) (by rfl) (by decide) (by decide) (by rfl) (by rfl)) a0e) a1X.nd (by rfl) (by walk_at "2") (by rfl) (by walk_at "4")) (@a0b _ _ _ _ _ (@a4y _ _ _ _ (@a5c _ _ _ _ _ _ _ _ (hv 2) (@a4P _ _ _ _ _ _ _ (@a1j _ _ _ _ _ (@a0a _ _ _ _ _ (@h_ix _ _ _ _ _ _ (hv 1) (hv 4) (by intro _ _;rfl)) (@a0a _ _ _ _ _ (@h_ix _ _ _ _ _ _ (hv 1) (@a0q _ _ _ _ _ _ _ _ a0p (hv 4) a0e) (by intro _ _;rfl)) (@a0a _ _ _ _ _ (@a0n _ _ _ _ _ _ _ _ _ _ D_sign_of hr (@a0a _ _ _ _ _ (hv 3) a0c (by rfl)) (by rfl) (by decide) (by rfl) (by rfl)) a0c (by rfl)) (by rfl)) (by rfl))) a0c) (by rfl) (by rfl) (by rfl) (by rfl) (by rfl)) (by rfl)) (@a0g _ _ _ (@a0I _ _ _ _ 1 _ _ (@a0n _ _ _ _ _ _ _ _ _ _ D_exchanged hr (@a0a _ _ _ _ _ (hv 1) (@a0a _ _ _ _ _ (hv 4) a0c (by rfl)) (by rfl)) (by rfl) (by decide) (by rfl) (by rfl)) a1X.nd (by rfl) (by walk_at "2") (by rfl) (by walk_at "4"))))) (by intro _;rfl)) (@a0g _ _ _ (@a0u _ _ _ _ (hv 2)))))),fun ts M Q h=>?_⟩
 unfold a3r at h
 split at h
 ·rename_i n w
  obtain⟨ws,rfl,ok,h⟩:=h
  obtain⟨n1,n6,hl,hw⟩:=ok
  refine a1Q fun K1 hK1=>?_
  walk_at "rd"
  refine⟨by lia,fun p hp=>?_⟩
  rw[a2W]
  have hMp:(updM M p (MO.lst [])) p=some (.lst (([]:List (Int × Int × Int)).map crT)):=a0f
  have hS:=Sub.new hp (o:=MO.lst [])
  generalize updM M p (MO.lst [])=M1 at hMp hS⊢
  rw[hK1];clear hK1
  refine a0d fun K2 hK2=>?_
  refine a2l fun B hB=>?_
  unfold a5q
  walk_at "rd"
  refine⟨fun i ρ M'=>(∃ (st:List Int) (dn:List (Int × Int × Int)) (x3 x4:Option T),ρ=[some (T.tup [T.int n,T.tup (ws.map T.int)]),some (T.tup (st.map T.int)),some (T.adr p),x3,x4]∧st.length=n.toNat∧dn.length=i∧M' p=some (.lst (dn.map crT))∧dn++crL st (ws.drop i)=crL (a0j n) ws)∧Sub M M',⟨⟨a0j n,[],_,_,rfl,a0l n,rfl,hMp,rfl⟩,hS⟩,fun _ _ _ _=>trivial,?_,?_⟩
  ·rintro i x ρ M' hx ⟨⟨st,dn,x3,x4,rfl,hst,hdl,hpd,he⟩,hS2⟩
   obtain⟨l,hx2,rfl⟩:=a0N hx
   have hil:=(List.getElem?_eq_some_iff.mp hx2).1
   obtain⟨hl1,hl2⟩:=hw l (List.mem_of_getElem? hx2)
   obtain⟨k,hk⟩:∃ k:Nat,l.natAbs=k+1:=⟨l.natAbs - 1,by lia⟩
   rw[hB];clear hB
   refine a1Q fun K3 hK3=>?_
   walk_at "rd"
   have g0:=a4z (w:=st) (a:=(k:Int)) (by lia) (by lia)
   have g1:=a4z (w:=st) (a:=(k:Int)+1) (by lia) (by lia)
   rw[hk,show ((k+1:Nat):Int) - 1=(k:Int) by lia]
   rw[hpd,g0]
   dsimp only
   rw[g1]
   refine⟨trivial,?_⟩
   dsimp only
   show 0+1+1+1≤sizeLine∧match M' p with
    | some (MO.lst ts)=>ts.length < sizeLine∧K3 _ (updM M' p (MO.lst (ts++[T.tup [_,_,T.int (sgI l)]])))
    | _=>False
   rw[hpd]
   dsimp only
   refine⟨by decide,a0Q (by rw[List.length_map];lia),?_⟩
   rw[hK3];clear hK3
   walk_at "rd"
   refine⟨st,rfl,by lia,by lia,by lia,?_⟩
   dsimp only
   refine⟨⟨_,dn++[(gI st (k:Int),gI st ((k:Int)+1),sgI l)],_,_,rfl,by rw[a9f];exact hst,by rw[List.length_append,hdl];rfl,by rw[a0f,List.map_append];rfl,?_⟩,hS2.updF hp⟩
   rw[← he,List.append_assoc]
   congr 1
   have hdrop:ws.drop i=l :: ws.drop (i+1):=by
    rw[List.drop_eq_getElem_cons hil]
    congr 1
    exact (List.getElem?_eq_some_iff.mp hx2).2
   rw[hdrop]
   show _=(gI st ((l.natAbs:Int) - 1),gI st (l.natAbs:Int),sgI l) :: crL (a2w st (l.natAbs - 1)) (ws.drop (i+1))
   rw[hk,show ((k+1:Nat):Int) - 1=(k:Int) by lia]
   rfl
  ·rintro ρ M' ⟨⟨st,dn,x3,x4,rfl,hst,hdl,hpd,he⟩,hS2⟩
   rw[hK2]
   walk_at "rd"
   rw[List.drop_length] at he
   have e:crL st []=[]:=by cases st<;>rfl
   rw[e,List.append_nil] at he
   rw[he] at hpd
   exact a0y (h p hp) (hS2.mk1 hpd)
 ·exact h.elim
noncomputable def NumD (kvs:List (Key × T)) (F:Int→Option Int):Prop:=∀ x:Int,valT kvs (.inl x)=(F x).map T.int
theorem b3P (kvs:List (Key × T)) (k:Key) (v:T):(putT kvs k v).length≤kvs.length+1:=by
 unfold putT
 split
 ·rw[List.length_map];exact Nat.le_succ _
 ·rw[List.length_append];exact Nat.le_refl _
noncomputable def a1N:Sp3:=fun ts M Q=>match ts with
 | [.adr p]=>∃ (as:List Addr) (ls:List (List Int)),M p=some (.lst (as.map T.adr))∧a1u M as ls∧ls.length≤6∧(∀ l∈ls,l.length≤6)∧∀ r kvs,M r=none→NumD kvs (numF ls ls.length)→Q (.adr r) (updM M r (.dk kvs))
 | _=>False
theorem a6z {P w K base f fd} {mg:Str→Option Value} {n:Nat}  (F:Fun K "piece_numbers" "piece_numbers" a2e f fd) (hm:mg "piece_numbers"=some (.ref f)) (hb:a0M K fd ["parts"] []) (Z:Zs mg) :Df P w K mg base (n+1) "piece_numbers" ["parts"] a1N:=by
 refine F.dfn hm hb a1q (by unfold a1N;walk_at "ln") ⟨_,fun cdv A outer s H E hr=>(@a0b _ _ _ _ _ (@a0I _ _ _ _ 1 _ _ c0G a1q.nd (by rfl) (by walk_at "2") (by rfl) (by walk_at "4")) (@a0b _ _ _ _ _ (@a5g _ _ _ _ _ _ _ _ PassesOwn.never rfl (@c0C _ _ _ _ _ _ _ _ Z.b_enumerate (hv 0) (by rfl) (by rfl)) (@a9Z _ _ _ _ _ 2 rfl (@a1p _ _ _ _ _ (a0V (i:=2) a1q.nd) (@a1p _ _ _ _ _ (a0V (i:=3) a1q.nd) a6y (by rfl)) (by rfl)) (by rfl) (by rfl)) (@a0g _ _ _ (@a5g _ _ _ _ _ _ _ _ PassesOwn.never rfl (@a5s _ _ _ _ (hv 3)) (a0V (i:=4) a1q.nd) (@a0g _ _ _ (@c1h _ _ _ _ _ _ _ _ _ hr.units (hv 2) (hv 1) (hv 4) (by rfl))) (by intro _;rfl))) (by intro _;rfl)) (@a0g _ _ _ (@a0u _ _ _ _ (hv 1))))),fun ts M Q h=>?_⟩
 unfold a1N at h
 split at h
 ·rename_i p
  obtain⟨as,ls,hp,hL,h6,hl6,h⟩:=h
  refine a1Q fun K1 hK1=>?_
  walk_at "rd"
  intro d hd
  have hMd:(updM M d (MO.dk [])) d=some (.dk []):=a0f
  have hS:=Sub.new hd (o:=MO.dk [])
  generalize updM M d (MO.dk [])=M1 at hMd hS⊢
  refine a2l fun B hB=>?_
  unfold a5q
  walk_at "rd"
  rw[hS _ _ hp]
  dsimp only
  refine⟨fun i ρ M'=>(∃ (x2 x3 x4:Option T),ρ=[some (T.adr p),some (T.adr d),x2,x3,x4])∧(∃ kvs,M' d=some (.dk kvs)∧NumD kvs (numF ls i)∧kvs.length≤6*i)∧Sub M M',⟨⟨_,_,_,rfl⟩,⟨[],hMd,fun _=>rfl,Nat.le_refl _⟩,hS⟩,?_,?_,?_⟩
  ·rintro i ρ M' ⟨_,_,hS2⟩
   exact hS2 _ _ hp
  ·rintro i x ρ M' hx ⟨⟨x2,x3,x4,rfl⟩,⟨kvs,hk,hN,hkl⟩,hS2⟩
   obtain⟨t,hx2,rfl⟩:=a8Q hx
   obtain⟨a,ea,rfl⟩:∃ a,as[i]?=some a∧t=.adr a:=by
    rw[List.getElem?_map] at hx2
    cases e:as[i]? with
    | none=>rw[e] at hx2;cases hx2
    | some a=>rw[e] at hx2;exact⟨a,rfl,(Option.some.inj hx2).symm⟩
   have hil:=(List.getElem?_eq_some_iff.mp ea).1
   obtain⟨l,el⟩:∃ l,ls[i]?=some l:=⟨_,List.getElem?_eq_getElem (by rw[← hL.1];exact hil)⟩
   have ha:=hL.2 i a l ea el
   have hll:=hl6 l (List.mem_of_getElem? el)
   have hi6:i < 6:=by have:=hL.1;lia
   dsimp only
   refine⟨rfl,rfl,?_⟩
   rw[hB];clear hB
   refine a2l fun B2 hB2=>?_
   unfold a5q
   walk_at "rd"
   rw[hS2 _ _ ha]
   dsimp only
   refine⟨fun j ρ M2=>(∃ (x4:Option T),ρ=[some (T.adr p),some (T.adr d),some (T.int i),some (T.adr a),x4])∧(∃ kvs,M2 d=some (.dk kvs)∧NumD kvs (fun x=>if x∈l.take j then some (i:Int) else numF ls i x)∧kvs.length≤6*i+j)∧Sub M M2,⟨⟨_,rfl⟩,⟨kvs,hk,fun x=>by rw[hN x];rfl,hkl⟩,hS2⟩,?_,?_,?_⟩
   ·rintro j ρ M2 ⟨_,_,hS3⟩
    exact hS3 _ _ ha
   ·rintro j y ρ M2 hy ⟨⟨x4,rfl⟩,⟨kvs2,hk2,hN2,hkl2⟩,hS3⟩
    obtain⟨x,hy2,rfl⟩:=a0N hy
    have hjl:=(List.getElem?_eq_some_iff.mp hy2).1
    rw[hB2]
    walk_at "rd"
    rw[hk2]
    dsimp only
    refine⟨.inl x,rfl,a0Q (by lia),⟨_,rfl⟩,⟨_,rfl,fun z=>?_,by have:=b3P kvs2 (.inl x) (.int i);lia⟩,hS3.updF hd⟩
    rw[b5r,hN2 z]
    have ht:l.take (j+1)=l.take j++[x]:=by rw[List.take_add_one,hy2];rfl
    rw[ht]
    dsimp only
    by_cases c:z=x
    ·subst c
     rw[if_pos rfl,if_pos (List.mem_append.mpr (.inr (List.mem_singleton.mpr rfl)))];rfl
    ·rw[if_neg (fun q=>c (Sum.inl.inj q))]
     by_cases c2:z∈l.take j
     ·rw[if_pos c2,if_pos (List.mem_append.mpr (.inl c2))]
     ·rw[if_neg c2,if_neg (fun q=>(List.mem_append.mp q).elim c2 (fun q=>c (List.mem_singleton.mp q)))]
   ·rintro ρ M2 ⟨⟨x4,rfl⟩,⟨kvs2,hk2,hN2,hkl2⟩,hS3⟩
    rw[List.length_map,List.take_length] at hN2
    rw[List.length_map] at hkl2
    refine⟨⟨_,_,_,rfl⟩,⟨kvs2,hk2,fun z=>?_,by lia⟩,?_⟩
    ·rw[hN2 z]
     show _=Option.map T.int (if z∈ls.getD i [] then some (i:Int) else numF ls i z)
     rw[List.getD_eq_getElem?_getD,el];rfl
    ·exact hS3
  ·rintro ρ M' ⟨⟨x2,x3,x4,rfl⟩,⟨kvs,hk,hN,hkl⟩,hS2⟩
   rw[hK1]
   walk_at "rd"
   rw[a3d,List.length_map,hL.1] at hN
   exact a0y (h d kvs hd hN) (hS2.mk1 hk)
 ·exact h.elim
theorem b4Z {n:Int}:∀ (ws st:List Int),IsP n st→WordOK n ws→0≤n→∀ x∈crL st ws,x.1∈a0j n∧x.2.1∈a0j n
 | [],st,_,_,_,x,hx=>by
   have e:crL st []=[]:=by cases st<;>rfl
   rw[e] at hx;cases hx
 | l :: w,st,hst,hw,h0,x,hx=>by
   obtain⟨a,b⟩:=hw l (.head _)
   have hl:st.length=n.toNat:=by rw[hst.length_eq,a0l]
   have hx2:x∈(gI st ((l.natAbs:Int) - 1),gI st (l.natAbs:Int),sgI l) :: crL (a2w st (l.natAbs - 1)) w:=hx
   rcases List.mem_cons.mp hx2 with e | e
   ·subst e
    have g1:=a7m hst (k:=(l.natAbs:Int) - 1) (by lia) (by lia)
    have g2:=a7m hst (k:=(l.natAbs:Int)) (by lia) (by lia)
    exact⟨a1e g1.1 g1.2,a1e g2.1 g2.2⟩
   ·refine b4Z w _ ?_ (fun y hy=>hw y (.tail _ hy)) h0 x e
    rw[a3V st l (by lia)]
    exact (a5Z st l (by unfold LetOK;rw[hl];lia)).trans hst
theorem b5a:∀ (ws st:List Int),(crL st ws).length=ws.length
 | [],st=>by cases st<;>rfl
 | l :: w,st=>by
   show ((gI st ((l.natAbs:Int) - 1),gI st (l.natAbs:Int),sgI l) :: crL (a2w st (l.natAbs - 1)) w).length=_
   rw[List.length_cons,List.length_cons,b5a w]
theorem a1L {α:Type} {L:List α} {i:Nat} {x:α} (h:L[i]?=some x):L.take (i+1)=L.take i++[x]:=by rw[List.take_add_one,h];rfl
theorem b8U {M:MH} {d a:Addr} {kvs:List (List Key × T)} {ts:List T} (hd:M d=some (.dt kvs)) (ha:M a=some (.lst ts)):a≠d:=fun z=>by rw[z,hd] at ha;cases ha
theorem a1u.updT {M:MH} {as:List Addr} {ls:List (List Int)} {d:Addr} {o:MO} {kvs:List (List Key × T)} (h:a1u M as ls) (hd:M d=some (.dt kvs)):a1u (updM M d o) as ls:=⟨h.1,fun i a l h1 h2=>by
 rw[a0t (b8U hd (h.2 i a l h1 h2))]
 exact h.2 i a l h1 h2⟩
noncomputable def a3W:Sp3:=fun ts M Q=>match ts with
 | [.tup [.int n,.tup w]]=>∃ ws:List Int,w=ws.map .int∧PlOK n ws∧∀ (r:Addr) (M':MH),M r=none→Sub M M'→M' r=some (.lst ((b5q n ws (crL (a0j n) ws)).map crT))→Q (.adr r) M'
 | _=>False
theorem b1d {P w K base f fd} {mg:Str→Option Value} {n:Nat}  (F:Fun K "windings" "windings" a3L f fd) (hm:mg "windings"=some (.ref f)) (hb:a0M K fd ["plait"] []) (Z:Zs mg) (D_pieces:Df P w K mg base n "pieces" ["plait"] a4A) (D_piece_numbers:Df P w K mg base n "piece_numbers" ["parts"] a1N) (D_crossings:Df P w K mg base n "crossings" ["plait"] a3r):Df P w K mg base (n+1) "windings" ["plait"] a3W:=by
 refine F.dfn hm hb a0X (by unfold a3W;walk_at "ln") ⟨_,fun cdv A outer s H E hr=>(@a0b _ _ _ _ _ (@a0I _ _ _ _ 1 _ _ (@a0n _ _ _ _ _ _ _ _ _ _ D_pieces hr (@a0a _ _ _ _ _ (hv 0) a0c (by rfl)) (by rfl) (by decide) (by rfl) (by rfl)) a0X.nd (by rfl) (by walk_at "2") (by rfl) (by walk_at "4")) (@a0b _ _ _ _ _ (@a0I _ _ _ _ 2 _ _ b7k a0X.nd (by rfl) (by walk_at "2") (by rfl) (by walk_at "4")) (@a0b _ _ _ _ _ (@a5g _ _ _ _ _ _ _ _ PassesOwn.never rfl (@a2X _ _ _ _ _ _ Z.b_range (@a0a _ _ _ _ _ (@a0k _ _ _ _ _ _ _ _ _ a0r Z.b_len PySem.boot_len (@a0a _ _ _ _ _ (hv 1) a0c (by rfl)) (by rfl) (by decide) (by decide) (by rfl) (by rfl)) a0c (by rfl)) (by rfl) (by rfl)) (a0V (i:=3) a0X.nd) (@a0g _ _ _ (@a5g _ _ _ _ _ _ _ _ PassesOwn.never rfl (@b6k _ _ _ _ _ _ _ Z.b_range (@a0a _ _ _ _ _ (@a0q _ _ _ _ _ _ _ _ a0p (hv 3) a0e) (@a0a _ _ _ _ _ (@a0k _ _ _ _ _ _ _ _ _ a0r Z.b_len PySem.boot_len (@a0a _ _ _ _ _ (hv 1) a0c (by rfl)) (by rfl) (by decide) (by decide) (by rfl) (by rfl)) a0c (by rfl)) (by rfl)) (by rfl) (by rfl) (by rfl)) (a0V (i:=4) a0X.nd) (@a0g _ _ _ (@b9B _ _ _ _ _ _ _ _ _ _ _ hr.units a0e (hv 2) (@a0a _ _ _ _ _ (hv 3) (@a0a _ _ _ _ _ (hv 4) a0c (by rfl)) (by rfl)) (by rfl))) (by intro _;rfl))) (by intro _;rfl)) (@a0b _ _ _ _ _ (@a0I _ _ _ _ 5 _ _ (@a0n _ _ _ _ _ _ _ _ _ _ D_piece_numbers hr (@a0a _ _ _ _ _ (hv 1) a0c (by rfl)) (by rfl) (by decide) (by rfl) (by rfl)) a0X.nd (by rfl) (by walk_at "2") (by rfl) (by walk_at "4")) (@a0b _ _ _ _ _ (@a5g _ _ _ _ _ _ _ _ PassesOwn.never rfl (@a5s _ _ _ _ (@a0n _ _ _ _ _ _ _ _ _ _ D_crossings hr (@a0a _ _ _ _ _ (hv 0) a0c (by rfl)) (by rfl) (by decide) (by rfl) (by rfl))) (@a9Z _ _ _ _ _ 3 rfl (@a1p _ _ _ _ _ (a0V (i:=6) a0X.nd) (@a1p _ _ _ _ _ (a0V (i:=7) a0X.nd) (@a1p _ _ _ _ _ (a0V (i:=8) a0X.nd) a6y (by rfl)) (by rfl)) (by rfl)) (by rfl) (by rfl)) (@a0b _ _ _ _ _ (@a0I _ _ _ _ 3 _ _ (@a0k _ _ _ _ _ _ _ _ _ (@b0x _ rfl) Z.b_min PyProof.Rows.boot_min (@a0a _ _ _ _ _ (@b6n _ _ _ _ _ _ hr.units (hv 5) (hv 6) (by intro _ _;rfl)) (@a0a _ _ _ _ _ (@b6n _ _ _ _ _ _ hr.units (hv 5) (hv 7) (by intro _ _;rfl)) a0c (by rfl)) (by rfl)) (by rfl) (by decide) (by decide) (by rfl) (by rfl)) a0X.nd (by rfl) (by walk_at "2") (by rfl) (by walk_at "4")) (@a0b _ _ _ _ _ (@a0I _ _ _ _ 4 _ _ (@a0k _ _ _ _ _ _ _ _ _ (@b0y _ rfl) Z.b_max PyProof.Rows.boot_max (@a0a _ _ _ _ _ (@b6n _ _ _ _ _ _ hr.units (hv 5) (hv 6) (by intro _ _;rfl)) (@a0a _ _ _ _ _ (@b6n _ _ _ _ _ _ hr.units (hv 5) (hv 7) (by intro _ _;rfl)) a0c (by rfl)) (by rfl)) (by rfl) (by decide) (by decide) (by rfl) (by rfl)) a0X.nd (by rfl) (by walk_at "2") (by rfl) (by walk_at "4")) (@a0g _ _ _ (@s_if _ _ _ _ _ _ _ _ (@a0o _ _ _ _ _ _ _ _ (@a2G _ hr.units) (hv 3) (hv 4) (a0m _)) (@a0g _ _ _ (@b7C _ _ _ _ _ _ _ 8 _ _ _ _ _ _ hr.units c0A (hv 2) (@a0a _ _ _ _ _ (hv 3) (@a0a _ _ _ _ _ (hv 4) a0c (by rfl)) (by rfl)) (by rfl) (by walk_at "3") (by decide) (by decide) (by intros;rfl))) a0s)))) (by intro _;rfl)) (@a0g _ _ _ (@a0u _ _ _ _ (@a4K _ _ _ _ _ _ _ _ _ _ _ _ _ _ rfl (@c0B _ _ _ _ (hv 2)) (@a1i _ (a0i a3L) _ (["plait","parts","sums","one","other","numbers","first","second","sign"]) (["one","other","sums"]) ([none,none,some 2]) (by decide +kernel) rfl rfl) b1z (fun _ _ _ _ _=>b1P rfl (@a4n _ _ _ _ _ (@a1C _ _ 0 _ (show List.Nodup (["one","other","sums"]:List Str) by decide +kernel) rfl (Or.inl rfl) (Or.inr rfl)) (@a4n _ _ _ _ _ (@a1C _ _ 1 _ (show List.Nodup (["one","other","sums"]:List Str) by decide +kernel) rfl (Or.inl rfl) (Or.inr rfl)) a8w (by rfl)) (by rfl))) (fun _ _ _ _ _=>a6q) (fun _ _ _ _ _=>(@a1j _ _ _ _ _ (@a0a _ _ _ _ _ (hv 0) (@a0a _ _ _ _ _ (hv 1) (@a0a _ _ _ _ _ (@a0q _ _ _ _ _ _ _ _ a6d (@c0H _ _ _ _ _ _ _ _ hr.units (hv 2) (@a0a _ _ _ _ _ (hv 0) (@a0a _ _ _ _ _ (hv 1) a0c (by rfl)) (by rfl)) (by intro _ _;rfl)) a0e) a0c (by rfl)) (by rfl)) (by rfl)))) (by intro _;rfl))))))))),fun ts M Q h=>?_⟩
 unfold a3W at h
 split at h
 ·rename_i n w
  obtain⟨ws,rfl,ok,h⟩:=h
  obtain⟨n1,n6,hl,hw⟩:=id ok
  refine a1Q fun K1 hK1=>?_
  walk_at "rd"
  refine⟨ws,rfl,ok,fun r as M0 hr hS0 hr0 hL hF=>?_⟩
  intro d hd
  obtain⟨hm6,hl6,nu,hnu,_⟩:=b4a n1 n6 hw
  unfold b5q at h
  generalize pcs (a0D n ws) n=ls at hL h hm6 hl6 hnu
  have hdM:M d=none:=a4p hS0 hd
  have hMd:(updM M0 d (MO.dt [])) d=some (.dt (dKT (fun _ _=>0) (prsU ls.length 0))):=a0f
  have hS1:=Sub.new hd (o:=MO.dt [])
  generalize updM M0 d (MO.dt [])=M1 at hMd hS1⊢
  have hr1:=hS1 _ _ hr0
  have hL1:=hL.sub hS1
  have hS:=hS0.trans hS1
  have hlas:as.length=ls.length:=hL.1
  clear hS0 hS1 hd hr0 hL
  rw[hK1];clear hK1
  refine a0d fun K2 hK2=>?_
  refine a2l fun B hB=>?_
  unfold a5q
  walk_at "rd"
  rw[hr1]
  dsimp only
  rw[List.length_map,hlas]
  refine⟨by lia,by lia,?_⟩
  refine⟨fun i ρ M'=>(∃ (x3 x4:Option T),ρ=[some (T.tup [T.int n,T.tup (ws.map T.int)]),some (T.adr r),some (T.adr d),x3,x4,none,none,none,none])∧M' d=some (.dt (dKT (fun _ _=>0) (prsU ls.length i)))∧M' r=some (.lst (as.map T.adr))∧a1u M' as ls∧Sub M M',⟨⟨_,_,rfl⟩,hMd,hr1,hL1,hS⟩,fun _ _ _ _=>trivial,?_,?_⟩
  ·rintro i x ρ M' hx ⟨⟨x3,x4,rfl⟩,hd',hr',hL',hS'⟩
   obtain⟨hil,rfl⟩:=a3g hx
   have hil:i < ls.length:=by lia
   rw[hB];clear hB
   refine a2l fun B2 hB2=>?_
   unfold a5q
   walk_at "rd"
   rw[hr']
   dsimp only
   rw[List.length_map,hlas]
   refine⟨⟨by lia,by lia,by lia,by lia⟩,fun j ρ M2=>(∃ (x4:Option T),ρ=[some (T.tup [T.int n,T.tup (ws.map T.int)]),some (T.adr r),some (T.adr d),some (T.int i),x4,none,none,none,none])∧M2 d=some (.dt (dKT (fun _ _=>0) (prsU ls.length i++(prsI ls.length i).take j)))∧M2 r=some (.lst (as.map T.adr))∧a1u M2 as ls∧Sub M M2,⟨⟨_,rfl⟩,by rw[List.take_zero,List.append_nil];exact hd',hr',hL',hS'⟩,fun _ _ _ _=>trivial,?_,?_⟩
   ·rintro j y ρ M2 hy ⟨⟨x4,rfl⟩,hd2,hr2,hL2,hS2⟩
    obtain⟨hj,rfl⟩:=b2C hy
    rw[hB2]
    walk_at "rd"
    rw[hd2]
    dsimp only
    have hp:(prsI ls.length i)[j]?=some (i,i+1+j):=by
     unfold prsI
     rw[List.getElem?_map,List.getElem?_range (by lia)];rfl
    have ek:([T.int (i:Int),T.int ((i:Int)+1+(j:Int))]:List T)=(kk2 (i,i+1+j)).map keyT:=by
     show _=[T.int ((i:Nat):Int),T.int ((i+1+j:Nat):Int)]
     rw[show ((i+1+j:Nat):Int)=(i:Int)+1+(j:Int) by lia]
    have hn:(i,i+1+j) ∉ prsU ls.length i++(prsI ls.length i).take j:=fun z=>by
     rcases List.mem_append.mp z with z | z
     ·exact absurd (a1w.mp z).1 (Nat.lt_irrefl _)
     ·unfold prsI at z
      rw[← List.map_take,List.take_range] at z
      obtain⟨k,hk,e⟩:=List.mem_map.mp z
      have:=List.mem_range.mp hk
      injection e with _ e
      lia
    refine⟨by decide,kk2 (i,i+1+j),ek,?_,?_⟩
    ·unfold dKT
     rw[List.length_map,List.length_append]
     have h1:=a6J hm6 i (by lia)
     have h2:=List.length_take_le j (prsI ls.length i)
     exact a0Q (by lia)
    ·rw[b5G hn,List.append_assoc,← a1L hp]
     exact⟨⟨_,rfl⟩,rfl,by rw[a0t (b8U hd2 hr2)];exact hr2,hL2.updT hd2,hS2.updF hdM⟩
   ·rintro ρ M2 ⟨⟨x4,rfl⟩,hd2,hr2,hL2,hS2⟩
    refine⟨⟨_,_,rfl⟩,?_,hr2,hL2,hS2⟩
    rw[a9u,hd2]
    congr 4
    rw[a0J]
    exact List.take_of_length_le (by rw[b1N];lia)
  ·rintro ρ M' ⟨⟨x3,x4,rfl⟩,hd',hr',hL',hS'⟩
   rw[a0J,show ((ls.length:Nat):Int).toNat=ls.length by lia] at hd'
   change M' d=some (.dt (dKT (fun _ _=>0) (prs ls.length))) at hd'
   clear hB hMd hr1 hL1 hS
   rw[hK2];clear hK2
   refine a0d fun K3 hK3=>?_
   walk_at "rd"
   refine⟨as,ls,hr',hL',hm6,hl6,fun nd kvs hnd hN=>?_⟩
   have hndM:M nd=none:=a4p hS' hnd
   have hS1:=Sub.new hnd (o:=MO.dk kvs)
   have hMn:(updM M' nd (MO.dk kvs)) nd=some (.dk kvs):=a0f
   have hd2:=hS1 _ _ hd'
   have hS:=hS'.trans hS1
   generalize updM M' nd (MO.dk kvs)=M2 at hMn hd2 hS⊢
   clear hS1 hS' hd' hL' hr' hnd
   dsimp only
   rw[hK3];clear hK3
   refine a0d fun K4 hK4=>?_
   refine a2l fun B hB=>?_
   unfold a5q
   walk_at "rd"
   refine⟨ws,rfl,ok,fun c hc=>?_⟩
   have hcM:M c=none:=a4p hS hc
   have hS1:=Sub.new hc (o:=MO.lst ((crL (a0j n) ws).map crT))
   have hMc:(updM M2 c (MO.lst ((crL (a0j n) ws).map crT))) c=some (.lst ((crL (a0j n) ws).map crT)):=a0f
   have hMn:=hS1 _ _ hMn
   have hd2:=hS1 _ _ hd2
   have hS:=hS.trans hS1
   generalize updM M2 c (MO.lst ((crL (a0j n) ws).map crT))=M3 at hMc hMn hd2 hS⊢
   clear hS1
   have hCm:=b4Z (n:=n) ws (a0j n) (List.Perm.refl _) hw (by lia)
   have hCl:=b5a ws (a0j n)
   generalize crL (a0j n) ws=C at hMc hCm hCl h⊢
   dsimp only
   rw[hMc]
   dsimp only
   refine⟨fun i ρ M'=>(∃ (x3 x4 x6 x7 x8:Option T),ρ=[some (T.tup [T.int n,T.tup (ws.map T.int)]),some (T.adr r),some (T.adr d),x3,x4,some (T.adr nd),x6,x7,x8])∧M' d=some (.dt (dKT (fun a b=>winS ls a b (C.take i)) (prs ls.length)))∧M' nd=some (.dk kvs)∧M' c=some (.lst (C.map crT))∧Sub M M',⟨⟨_,_,_,_,_,rfl⟩,hd2,hMn,hMc,hS⟩,fun _ _ _ z=>z.2.2.2.1,?_,?_⟩
   ·rintro i x ρ M' hx ⟨⟨x3,x4,x6,x7,x8,rfl⟩,hd3,hn3,hc3,hS3⟩
    obtain⟨⟨f1,s1,g1⟩,hx2,rfl⟩:∃ y,C[i]?=some y∧crT y=x:=by
     rw[List.getElem?_map] at hx
     exact Option.map_eq_some_iff.mp hx
    obtain⟨m1,m2⟩:=hCm _ (List.mem_of_getElem? hx2)
    dsimp only at m1 m2
    obtain⟨l1,v1,u1⟩:=hnu f1 m1
    obtain⟨l2,v2,u2⟩:=hnu s1 m2
    unfold crT
    dsimp only
    refine⟨rfl,rfl,?_⟩
    rw[hB];clear hB
    refine a1Q fun K5 hK5=>?_
    walk_at "rd"
    rw[hn3]
    dsimp only
    have e1:valT kvs (.inl f1)=some (.int (nu f1)):=by rw[hN f1,v1];rfl
    have e2:valT kvs (.inl s1)=some (.int (nu s1)):=by rw[hN s1,v2];rfl
    refine⟨.inl f1,_,rfl,e1,.inl s1,_,rfl,e2,.inl f1,_,rfl,e1,.inl s1,_,rfl,e2,?_⟩
    have q1:(if (nu s1:Int) < nu f1 then (nu s1:Int) else nu f1)=((if nu s1 < nu f1 then nu s1 else nu f1:Nat):Int):=by split<;>split<;>lia
    have q2:(if (nu s1:Int) > nu f1 then (nu s1:Int) else nu f1)=((if nu s1 > nu f1 then nu s1 else nu f1:Nat):Int):=by split<;>split<;>lia
    rw[q1]
    dsimp only
    rw[q2]
    generalize ha:(if nu s1 < nu f1 then nu s1 else nu f1)=a
    generalize hb:(if nu s1 > nu f1 then nu s1 else nu f1)=b
    have hw2:∀ a' b':Nat,(a',b')∈prs ls.length→winT ls a' b' (f1,s1,g1)=if a≠b∧a'=a∧b'=b then g1 else 0:=fun a' b' hm=>by
     obtain⟨z1,z2,z3⟩:=a1w.mp hm
     unfold winT
     dsimp only
     have:(f1∈ls.getD a' []∧s1∈ls.getD b' []∨s1∈ls.getD a' []∧f1∈ls.getD b' [])↔(a≠b∧a'=a∧b'=b):=by
      rw[u1 a' (by lia),u2 b' z3,u2 a' (by lia),u1 b' z3,← ha,← hb]
      split<;>split<;>lia
     exact ite_congr (propext this) (fun _=>rfl) (fun _=>rfl)
    have hab:a≠b→(a,b)∈prs ls.length:=fun z=>a1w.mpr (by rw[← ha,← hb] at z⊢;split at z<;>split at z<;>(try (rename_i c1 c2;rw[if_pos c1,if_pos c2]))<;>(try (rename_i c1 c2;rw[if_pos c1,if_neg c2]))<;>(try (rename_i c1 c2;rw[if_neg c1,if_pos c2]))<;>(try (rename_i c1 c2;rw[if_neg c1,if_neg c2]))<;>lia)
    rw[hK5];clear hK5
    walk_at "rd"
    refine ite2 (fun c0=>?_) (fun c0=>?_)
    ·have hm:=hab (fun z=>c0 (by rw[z]))
     rw[hd3]
     dsimp only
     refine⟨by decide,kk2 (a,b),_,g1,rfl,a4Q hm,rfl,?_,⟨_,_,_,_,_,rfl⟩,?_,?_,?_,hS3.updF hdM⟩
     ·unfold dKT
      rw[List.length_map]
      have:=a6J hm6 ls.length (Nat.le_refl _)
      exact a0Q (by unfold prs;lia)
     ·rw[b5F hm]
      congr 2
      refine b0l fun a' b' hm'=>?_
      rw[a8Y hx2,hw2 a' b' hm']
      dsimp only
      by_cases e:(a',b')=(a,b)
      ·injection e with e3 e4
       rw[if_pos (by rw[e3,e4]),if_pos ⟨fun z=>c0 (by rw[z]),e3,e4⟩,e3,e4]
      ·rw[if_neg e,if_neg (fun z=>e (by rw[z.2.1,z.2.2]))]
       lia
     ·rw[a0t (fun z=>by rw[z,hd3] at hn3;cases hn3)];exact hn3
     ·rw[a0t (b8U hd3 hc3)];exact hc3
    ·have e0:a=b:=by
      by_cases z:a=b
      ·exact z
      ·exact absurd (fun y:(a:Int)=b=>z (by lia)) c0
     refine⟨⟨_,_,_,_,_,rfl⟩,?_,hn3,hc3,hS3⟩
     rw[hd3]
     congr 2
     refine b0l fun a' b' hm'=>?_
     rw[a8Y hx2,hw2 a' b' hm',if_neg (fun z=>z.1 e0)]
     lia
   ·rintro ρ M' ⟨⟨x3,x4,x6,x7,x8,rfl⟩,hd3,hn3,hc3,hS3⟩
    rw[hK4];clear hK4
    walk_at "rd"
    rw[hd3]
    dsimp only
    rw[List.length_map,List.take_length] at hd3⊢
    refine⟨fun j ys M2=>M2 d=some (.fz (dKT (fun a b=>winS ls a b C) (prs ls.length)))∧ys=((prs ls.length).take j).map (fun p=>crT ((p.1:Int),(p.2:Int),winS ls p.1 p.2 C / 2))∧Sub M M2,⟨a0f,rfl,hS3.updF hdM⟩,fun _ _ _ _=>trivial,?_,?_,?_⟩
    ·rw[a1E]
     unfold dKT
     rw[List.length_map]
     have:=a6J hm6 ls.length (Nat.le_refl _)
     exact a0Q (by unfold prs;lia)
    ·rintro j x ys M2 hx ⟨hz,rfl,hS4⟩
     obtain⟨p,hx2,rfl⟩:∃ p,(prs ls.length)[j]?=some p∧T.tup ((kk2 p).map keyT)=x:=by
      unfold a5i dKT at hx
      rw[List.map_map,List.getElem?_map] at hx
      exact Option.map_eq_some_iff.mp hx
     have hm:=List.mem_of_getElem? hx2
     have hv:=a4Q (F:=fun a b=>winS ls a b C) hm
     show [T.int p.1,T.int p.2].length=2∧_
     refine⟨rfl,rfl,by decide,?_⟩
     rw[hz]
     dsimp only
     refine⟨kk2 p,_,rfl,hv,?_⟩
     dsimp only
     refine⟨⟨by decide,by decide +kernel⟩,by decide,hz,?_,hS4⟩
     rw[a1L hx2,List.map_append];rfl
    ·rintro ys M2 ⟨hz,rfl,hS4⟩ p hp
     rw[a1E]
     unfold dKT
     rw[List.length_map,List.take_length]
     refine a0y (h p _ (a4p hS4 hp) (hS4.newr hp) ?_) Sub.refl
     rw[List.map_map]
     exact a0f
 ·exact h.elim
noncomputable def a2I:Sp3:=fun ts M Q=>match ts with
 | [.tup [.int n,.tup w]]=>∃ ws:List Int,w=ws.map .int∧ws.length≤16∧a2k n ws .round=.ok∧Q (ptT (mvTo n ws .round)) M
 | _=>False
theorem a8A {P w K base f fd} {mg:Str→Option Value} {n:Nat}  (F:Fun K "with_round" "with_round" a3v f fd) (hm:mg "with_round"=some (.ref f)) (hb:a0M K fd ["plait"] []) (Z:Zs mg) :Df P w K mg base (n+1) "with_round" ["plait"] a2I:=by
 refine F.dfn hm hb a8o (by unfold a2I;walk_at "ln") ⟨_,fun cdv A outer s H E hr=>(@a0b _ _ _ _ _ (@s_if _ _ _ _ _ _ _ _ (@a7l _ _ _ _ (@a5t _ _ _ (@h_ix _ _ _ _ _ _ (hv 0) a0e (by intro _ _;rfl)) (by intro _;rfl))) (@a0g _ _ _ a2n) a0s) (@a0g _ _ _ (@a0u _ _ _ _ (@a1j _ _ _ _ _ (@a0a _ _ _ _ _ (@h_ix _ _ _ _ _ _ (hv 0) a0e (by intro _ _;rfl)) (@a0a _ _ _ _ _ (@a0q _ _ _ _ _ _ _ _ a0p (@a0S _ _ _ _ _ _ _ _ _ (@h_ix _ _ _ _ _ _ (hv 0) a0e (by intro _ _;rfl)) (@a1f _ _ _ a0e) a1D) (@a0S _ _ _ _ _ _ _ _ _ (@h_ix _ _ _ _ _ _ (hv 0) a0e (by intro _ _;rfl)) a1D (@a1f _ _ _ a0e))) a0c (by rfl)) (by rfl)))))),fun ts M Q h=>?_⟩
 unfold a2I at h
 split at h
 ·rename_i n w
  obtain⟨ws,rfl,hl,hw,h⟩:=h
  walk_at "rd"
  have e:(List.map T.int ws).isEmpty=ws.isEmpty:=by cases ws<;>rfl
  rw[e]
  replace hw:(if ws.isEmpty=true then Why.step else Why.ok)=.ok:=hw
  replace h:Q (ptT (n,ws.drop 1++ws.take 1)) M:=h
  cases c:ws.isEmpty with
  | true=>rw[c] at hw;cases hw
  | false =>
    rw[a5e _ _ (by decide),a2q _ _ (by decide),← List.map_take,← List.map_drop,← List.map_append]
    show _∧_∧_
    exact⟨a0H (by rw[List.length_map,List.length_map,List.length_drop,List.length_take];lia),by decide,a0h h⟩
 ·exact h.elim
noncomputable def a3o:Sp3:=fun ts M Q=>match ts with
 | [.tup [.int n,.tup w]]=>∃ ws:List Int,w=ws.map .int∧ws.length≤16∧a2k n ws .back=.ok∧Q (ptT (mvTo n ws .back)) M
 | _=>False
theorem a9F {P w K base f fd} {mg:Str→Option Value} {n:Nat}  (F:Fun K "with_back" "with_back" a4f f fd) (hm:mg "with_back"=some (.ref f)) (hb:a0M K fd ["plait"] []) (Z:Zs mg) :Df P w K mg base (n+1) "with_back" ["plait"] a3o:=by
 refine F.dfn hm hb a9n (by unfold a3o;walk_at "ln") ⟨_,fun cdv A outer s H E hr=>(@a0b _ _ _ _ _ (@s_if _ _ _ _ _ _ _ _ (@a7l _ _ _ _ (@a5t _ _ _ (@h_ix _ _ _ _ _ _ (hv 0) a0e (by intro _ _;rfl)) (by intro _;rfl))) (@a0g _ _ _ a2n) a0s) (@a0g _ _ _ (@a0u _ _ _ _ (@a1j _ _ _ _ _ (@a0a _ _ _ _ _ (@h_ix _ _ _ _ _ _ (hv 0) a0e (by intro _ _;rfl)) (@a0a _ _ _ _ _ (@a0q _ _ _ _ _ _ _ _ a0p (@a0S _ _ _ _ _ _ _ _ _ (@h_ix _ _ _ _ _ _ (hv 0) a0e (by intro _ _;rfl)) (@a1f _ _ _ (@h_un _ _ _ _ _ _ a0Y a0e)) a1D) (@a0S _ _ _ _ _ _ _ _ _ (@h_ix _ _ _ _ _ _ (hv 0) a0e (by intro _ _;rfl)) a1D (@a1f _ _ _ (@h_un _ _ _ _ _ _ a0Y a0e)))) a0c (by rfl)) (by rfl)))))),fun ts M Q h=>?_⟩
 unfold a3o at h
 split at h
 ·rename_i n w
  obtain⟨ws,rfl,hl,hw,h⟩:=h
  walk_at "rd"
  have e:(List.map T.int ws).isEmpty=ws.isEmpty:=by cases ws<;>rfl
  rw[e]
  replace hw:(if ws.isEmpty=true then Why.step else Why.ok)=.ok:=hw
  replace h:Q (ptT (n,a5h ws++ws.dropLast)) M:=h
  cases c:ws.isEmpty with
  | true=>rw[c] at hw;cases hw
  | false =>
    obtain⟨A,y,rfl⟩:=a4B (w:=ws) (fun z=>by rw[z] at c;cases c)
    rw[a1Y,List.dropLast_concat] at h
    rw[a8a,a5f]
    rw[List.length_append,List.length_singleton] at hl
    show _∧_∧_
    exact⟨a0H (by rw[List.length_map,List.length_map,List.length_singleton];lia),by decide,by rw[← List.map_append];exact a0h h⟩
 ·exact h.elim
noncomputable def a3n:Sp3:=fun ts M Q=>match ts with
 | [.tup [.int n,.tup w]]=>∃ ws:List Int,w=ws.map .int∧ws.length≤16∧a2k n ws .less=.ok∧Q (ptT (mvTo n ws .less)) M
 | _=>False
theorem a9E {P w K base f fd} {mg:Str→Option Value} {n:Nat}  (F:Fun K "with_less" "with_less" a3e f fd) (hm:mg "with_less"=some (.ref f)) (hb:a0M K fd ["plait"] []) (Z:Zs mg) :Df P w K mg base (n+1) "with_less" ["plait"] a3n:=by
 refine F.dfn hm hb a4C (by unfold a3n;walk_at "ln") ⟨_,fun cdv A outer s H E hr=>(@a0b _ _ _ _ _ (@a0I _ _ _ _ 1 _ _ (@a0q _ _ _ _ _ _ _ _ a1b (@h_ix _ _ _ _ _ _ (hv 0) a0e (by intro _ _;rfl)) a0e) a4C.nd (by rfl) (by walk_at "2") (by rfl) (by walk_at "4")) (@a0b _ _ _ _ _ (@b6P _ _ _ _ _ _ _ _ _ _ _ _ _ _ 2 _ _ _ rfl (@b8J _ _ _ _ _ _ _ _ Z.b_enumerate (@h_ix _ _ _ _ _ _ (hv 0) a0e (by intro _ _;rfl)) (by rfl) (by rfl)) (@a1i _ (a0i a3e) _ (["plait","greatest","found"]) (["at","letter","greatest"]) ([none,none,some 1]) (by decide +kernel) rfl rfl) b1z (fun _ _ _ _ _=>b1P rfl (@a4n _ _ _ _ _ (@a1C _ _ 0 _ (show List.Nodup (["at","letter","greatest"]:List Str) by decide +kernel) rfl (Or.inl rfl) (Or.inr rfl)) (@a4n _ _ _ _ _ (@a1C _ _ 1 _ (show List.Nodup (["at","letter","greatest"]:List Str) by decide +kernel) rfl (Or.inl rfl) (Or.inr rfl)) a8w (by rfl)) (by rfl))) (fun _ _ _ _ _=>a9d (@a0o _ _ _ _ _ _ _ _ (@a0G _ hr.units) (@a0k _ _ _ _ _ _ _ _ _ a0x Z.b_abs PyProof.Rows.boot_abs (@a0a _ _ _ _ _ (hv 1) a0c (by rfl)) (by rfl) (by decide) (by decide) (by rfl) (by rfl)) (hv 2) (a0m _))) (fun _ _ _ _ _=>(hv 0)) a4C.nd (by rfl) (by walk_at "2") (by rfl) (by intro _;rfl) (by walk_at "4")) (@a0b _ _ _ _ _ (@s_if _ _ _ _ _ _ _ _ (@a0o _ _ _ _ _ _ _ _ (@a2G _ hr.units) (hv 2) (@a2C _ _ _ _ (@a0a _ _ _ _ _ (@a0q _ _ _ _ _ _ _ _ a1b (@a0k _ _ _ _ _ _ _ _ _ a0r Z.b_len PySem.boot_len (@a0a _ _ _ _ _ (@h_ix _ _ _ _ _ _ (hv 0) a0e (by intro _ _;rfl)) a0c (by rfl)) (by rfl) (by decide) (by decide) (by rfl) (by rfl)) a0e) a0c (by rfl))) (a0m _)) (@a0g _ _ _ a2n) a0s) (@a0g _ _ _ (@a0u _ _ _ _ (@a1j _ _ _ _ _ (@a0a _ _ _ _ _ (hv 1) (@a0a _ _ _ _ _ (@a0S _ _ _ _ _ _ _ _ _ (@h_ix _ _ _ _ _ _ (hv 0) a0e (by intro _ _;rfl)) a1D (@a1f _ _ _ (@h_un _ _ _ _ _ _ a0Y a0e))) a0c (by rfl)) (by rfl)))))))),fun ts M Q h=>?_⟩
 unfold a3n at h
 split at h
 ·rename_i n w
  obtain⟨ws,rfl,hl,hw,h⟩:=h
  walk_at "rd"
  refine⟨fun i ys M'=>ys=(a6g n (ws.take i)).map (fun i=>T.int (i:Nat))∧M'=M,⟨rfl,rfl⟩,fun _ _ _ _=>trivial,?_,?_,?_⟩
  ·rw[a3d,List.length_map];exact a0Q (by lia)
  ·rintro i x ys M' hx ⟨rfl,rfl⟩
   obtain⟨t,ht,rfl⟩:=a8Q hx
   obtain⟨l,hl',rfl⟩:=a0N ht
   have hi:=(List.getElem?_eq_some_iff.mp hl').1
   refine⟨rfl,rfl,?_⟩
   have e:a6g n (ws.take (i+1))=a6g n (ws.take i)++if (l.natAbs:Int)=n - 1 then [i] else []:=by
    rw[List.take_add_one,hl',Option.toList_some,a7R,List.length_take,Nat.min_eq_left (Nat.le_of_lt hi)]
   refine ite2 (fun c=>⟨?_,rfl⟩) (fun c=>⟨?_,rfl⟩)
   ·rw[e,if_pos c,List.map_append];rfl
   ·rw[e,if_neg c,List.append_nil]
  ·rintro ys M' ⟨rfl,rfl⟩ p hp
   rw[a3d,List.length_map,List.take_length]
   refine⟨by decide,fun p1 hp1=>?_⟩
   have n1:p≠p1:=fun z=>by rw[← z,a0f] at hp1;cases hp1
   have hS:Sub M' (updM (updM M' p (MO.lst (List.map (fun i=>T.int (i:Nat)) (a6g n ws)))) p1 (MO.lst [T.int ((ws.length:Int) - 1)])):=(Sub.new hp).newr hp1
   rw[a0t n1,a0f]
   dsimp only
   rw[← a9S]
   refine⟨b2W _,rfl,b4s _,?_⟩
   rw[a2o] at hw
   cases c:a6h n ws with
   | false=>rw[c] at hw;cases hw
   | true =>
     obtain⟨A,y,rfl,_,_⟩:=a3P.mp c
     rw[a5M,List.dropLast_concat] at h
     rw[a5f]
     show _∧_
     exact⟨by decide,a0y h hS⟩
 ·exact h.elim
noncomputable def a3m:Sp3:=fun ts M Q=>match ts with
 | [.tup [.int n,.tup w],.int k]=>∃ ws:List Int,w=ws.map .int∧ws.length≤16∧1≤n∧n≤6∧a2k n ws (.more k)=.ok∧Q (ptT (mvTo n ws (.more k))) M
 | _=>False
theorem a9D {P w K base f fd} {mg:Str→Option Value} {n:Nat}  (F:Fun K "with_more" "with_more" a4e f fd) (hm:mg "with_more"=some (.ref f)) (hb:a0M K fd ["plait","sign"] []) (Z:Zs mg) :Df P w K mg base (n+1) "with_more" ["plait","sign"] a3m:=by
 obtain⟨tk_MOST_STRANDS,c_MOST_STRANDS⟩:=Z.c_MOST_STRANDS
 obtain⟨tk_MOST_LETTERS,c_MOST_LETTERS⟩:=Z.c_MOST_LETTERS
 refine F.dfn hm hb a6t (by unfold a3m;walk_at "ln") ⟨_,fun cdv A outer s H E hr=>(@a0b _ _ _ _ _ (@a0I _ _ _ _ 2 _ _ (@h_ix _ _ _ _ _ _ (hv 0) a0e (by intro _ _;rfl)) a6t.nd (by rfl) (by walk_at "2") (by rfl) (by walk_at "4")) (@a0b _ _ _ _ _ (@s_if _ _ _ _ _ _ _ _ (@HW.ht _ _ _ (@w_or _ _ _ _ _ _ _ (@a0o _ _ _ _ _ _ _ _ (@a0G _ hr.units) (hv 2) (@a5u _ _ _ _ _ c_MOST_STRANDS (by rfl) (by decide)) (a0m _)) (@a5X _ _ _ _ (@a0o _ _ _ _ _ _ _ _ (@a0G _ hr.units) (@a0k _ _ _ _ _ _ _ _ _ a0r Z.b_len PySem.boot_len (@a0a _ _ _ _ _ (@h_ix _ _ _ _ _ _ (hv 0) a0e (by intro _ _;rfl)) a0c (by rfl)) (by rfl) (by decide) (by decide) (by rfl) (by rfl)) (@a5u _ _ _ _ _ c_MOST_LETTERS (by rfl) (by decide)) (a0m _))))) (@a0g _ _ _ a2n) a0s) (@a0b _ _ _ _ _ (@s_if _ _ _ _ _ _ _ _ (@a0o _ _ _ _ _ _ _ _ a6Z (hv 1) (@a1j _ _ _ _ _ (@a0a _ _ _ _ _ a0e (@a0a _ _ _ _ _ (@h_un _ _ _ _ _ _ a0Y a0e) a0c (by rfl)) (by rfl))) rfl) (@a0g _ _ _ a2n) a0s) (@a0g _ _ _ (@a0u _ _ _ _ (@a1j _ _ _ _ _ (@a0a _ _ _ _ _ (@a0q _ _ _ _ _ _ _ _ a0p (hv 2) a0e) (@a0a _ _ _ _ _ (@a0q _ _ _ _ _ _ _ _ a0p (@h_ix _ _ _ _ _ _ (hv 0) a0e (by intro _ _;rfl)) (@a1j _ _ _ _ _ (@a0a _ _ _ _ _ (@a0q _ _ _ _ _ _ _ _ a1n (hv 1) (hv 2)) a0c (by rfl)))) a0c (by rfl)) (by rfl)))))))),fun ts M Q h=>?_⟩
 unfold a3m at h
 split at h
 ·rename_i n w k
  obtain⟨ws,rfl,hl,h1,h6,hw,h⟩:=h
  walk_at "rd"
  rw[a3c] at hw
  have hk:¬(n=6∨ws.length=16)∧(k=1∨k=-1):=by
   split at hw
   ·cases hw
   ·split at hw
    ·exact⟨by assumption,by assumption⟩
    ·cases hw
  refine ite2 (fun c=>absurd (.inl c) hk.1) (fun c=>ite2 (fun c2=>absurd (.inr (by lia)) hk.1) (fun c2=>?_))
  refine⟨by decide,rfl,rfl,?_⟩
  have e:inT (T.int k) [T.int 1,T.int (-1)]=true:=by
   rcases hk.2 with rfl | rfl<;>rfl
  rw[e,if_neg (by decide)]
  refine⟨.inl ⟨by lia,by lia⟩,by decide,a0H (by lia),by decide,?_⟩
  have e5:List.map T.int ws++[T.int (k*n)]=(ws++[k*n]).map T.int:=by rw[List.map_append];rfl
  rw[e5]
  exact a0h h
 ·exact h.elim
theorem b5n {n:Int} {ws r:List Int} {s:Stp} (e:aft n ws s=some r) (hl:ws.length+2≤4000):c0X n ws s.t r:=by
 cases s with
 | far a =>
   rw[a6o] at e
   split at e
   ·rename_i c
    exact .inl ⟨a,rfl,c,(Option.some.inj e).symm⟩
   ·cases e
 | three a =>
   rw[a3S] at e
   split at e
   ·rename_i c
    exact .inr (.inl ⟨a,rfl,c,(Option.some.inj e).symm⟩)
   ·cases e
 | out a =>
   rw[a6n] at e
   split at e
   ·rename_i c
    exact .inr (.inr (.inl ⟨a,rfl,c,(Option.some.inj e).symm⟩))
   ·cases e
 | inn a l =>
   rw[a8X] at e
   split at e
   ·rename_i c
    unfold inB at c
    simp only[Bool.and_eq_true,decide_eq_true_eq,a3h] at c
    exact .inr (.inr (.inr ⟨a,l,rfl,c.1.1,c.1.2,c.2,hl,(Option.some.inj e).symm⟩))
   ·cases e
noncomputable def a3l:Sp3:=fun ts M Q=>match ts with
 | [.tup [.int n,.tup w],.tup st]=>∃ (ws:List Int) (s:Stp),w=ws.map .int∧st=s.t∧PlOK n ws∧a2k n ws (.step s)=.ok∧Q (ptT (mvTo n ws (.step s))) M
 | _=>False
theorem a9C {P w K base f fd} {mg:Str→Option Value} {n:Nat}  (F:Fun K "with_step" "with_step" a4d f fd) (hm:mg "with_step"=some (.ref f)) (hb:a0M K fd ["plait","step"] []) (Z:Zs mg) (D_stepped:Df P w K mg base n "stepped" ["strands","word","step"] a4S):Df P w K mg base (n+1) "with_step" ["plait","step"] a3l:=by
 obtain⟨tk_MOST_LETTERS,c_MOST_LETTERS⟩:=Z.c_MOST_LETTERS
 refine F.dfn hm hb a6s (by unfold a3l;walk_at "ln") ⟨_,fun cdv A outer s H E hr=>(@a0b _ _ _ _ _ (@a0I _ _ _ _ 2 _ _ (@a0n _ _ _ _ _ _ _ _ _ _ D_stepped hr (@a0a _ _ _ _ _ (@h_ix _ _ _ _ _ _ (hv 0) a0e (by intro _ _;rfl)) (@a0a _ _ _ _ _ (@h_ix _ _ _ _ _ _ (hv 0) a0e (by intro _ _;rfl)) (@a0a _ _ _ _ _ (hv 1) a0c (by rfl)) (by rfl)) (by rfl)) (by rfl) (by decide) (by rfl) (by rfl)) a6s.nd (by rfl) (by walk_at "2") (by rfl) (by walk_at "4")) (@a0b _ _ _ _ _ (@s_if _ _ _ _ _ _ _ _ (@a0o _ _ _ _ _ _ _ _ a3O (@a0k _ _ _ _ _ _ _ _ _ a0r Z.b_len PySem.boot_len (@a0a _ _ _ _ _ (hv 2) a0c (by rfl)) (by rfl) (by decide) (by decide) (by rfl) (by rfl)) (@a5u _ _ _ _ _ c_MOST_LETTERS (by rfl) (by decide)) (a0m _)) (@a0g _ _ _ a2n) a0s) (@a0g _ _ _ (@a0u _ _ _ _ (@a1j _ _ _ _ _ (@a0a _ _ _ _ _ (@h_ix _ _ _ _ _ _ (hv 0) a0e (by intro _ _;rfl)) (@a0a _ _ _ _ _ (hv 2) a0c (by rfl)) (by rfl))))))),fun ts M Q h=>?_⟩
 unfold a3l at h
 split at h
 ·rename_i n w st
  obtain⟨ws,s,rfl,rfl,ok,hw,h⟩:=h
  walk_at "rd"
  rw[a3b] at hw
  rw[a4J] at h
  obtain⟨h1,h6,hl,ho⟩:=ok
  cases e:aft n ws s with
  | none=>rw[e] at hw;cases hw
  | some r =>
  rw[e] at h hw
  refine⟨ws,r,rfl,by lia,h1,h6,ho,b5n e (by lia),?_⟩
  dsimp only at hw⊢
  rw[List.length_map]
  refine ite2 (fun c=>?_) (fun c=>⟨by decide,a0h h⟩)
  rw[if_pos (by lia)] at hw
  cases hw
 ·exact h.elim
noncomputable def a6F:Sp3:=fun ts M Q=>match ts with
 | [.tup [.int n,.tup w],.tup mt]=>∃ (ws:List Int) (m:Mv),w=ws.map .int∧mt=m.t∧PlOK n ws∧a2k n ws m=.ok∧Q (ptT (mvTo n ws m)) M
 | _=>False
theorem b5X {P w K base f fd} {mg:Str→Option Value} {n:Nat}  (F:Fun K "moved" "moved" a8p f fd) (hm:mg "moved"=some (.ref f)) (hb:a0M K fd ["plait","move"] []) (Z:Zs mg) (D_looked:Df P w K mg base n "looked" ["plait"] a2y) (D_with_more:Df P w K mg base n "with_more" ["plait","sign"] a3m) (D_with_step:Df P w K mg base n "with_step" ["plait","step"] a3l) (D_with_round:Df P w K mg base n "with_round" ["plait"] a2I) (D_with_back:Df P w K mg base n "with_back" ["plait"] a3o) (D_with_less:Df P w K mg base n "with_less" ["plait"] a3n) (D_flipped:Df P w K mg base n "flipped" ["plait"] a4T):Df P w K mg base (n+1) "moved" ["plait","move"] a6F:=by
 refine F.dfn hm hb b5y (by unfold a6F;walk_at "ln") ⟨_,fun cdv A outer s H E hr=>(@a0b _ _ _ _ _ (@a4y _ _ _ _ (@a0n _ _ _ _ _ _ _ _ _ _ D_looked hr (@a0a _ _ _ _ _ (hv 0) a0c (by rfl)) (by rfl) (by decide) (by rfl) (by rfl)) (by rfl)) (@a0b _ _ _ _ _ (@s_if _ _ _ _ _ _ _ _ (@HW.ht _ _ _ (@a8d _ _ _ _ _ _ _ (@a0o _ _ _ _ _ _ _ _ (@a0G _ hr.units) (@a0k _ _ _ _ _ _ _ _ _ a0r Z.b_len PySem.boot_len (@a0a _ _ _ _ _ (hv 1) a0c (by rfl)) (by rfl) (by decide) (by decide) (by rfl) (by rfl)) a0e (a0m _)) (@a6p _ _ _ _ (@a0o _ _ _ _ _ _ _ _ (@a0G _ hr.units) (@h_ix _ _ _ _ _ _ (hv 1) a0e (by intro _ _;rfl)) a0W (a0m _))))) (@a0g _ _ _ (@a0u _ _ _ _ (@a0n _ _ _ _ _ _ _ _ _ _ D_with_more hr (@a0a _ _ _ _ _ (hv 0) (@a0a _ _ _ _ _ (@h_ix _ _ _ _ _ _ (hv 1) a0e (by intro _ _;rfl)) a0c (by rfl)) (by rfl)) (by rfl) (by decide) (by rfl) (by rfl)))) a0s) (@a0b _ _ _ _ _ (@s_if _ _ _ _ _ _ _ _ (@HW.ht _ _ _ (@a8d _ _ _ _ _ _ _ (@a0o _ _ _ _ _ _ _ _ (@a0G _ hr.units) (@a0k _ _ _ _ _ _ _ _ _ a0r Z.b_len PySem.boot_len (@a0a _ _ _ _ _ (hv 1) a0c (by rfl)) (by rfl) (by decide) (by decide) (by rfl) (by rfl)) a0e (a0m _)) (@a6p _ _ _ _ (@a0o _ _ _ _ _ _ _ _ (@a0G _ hr.units) (@h_ix _ _ _ _ _ _ (hv 1) a0e (by intro _ _;rfl)) a0W (a0m _))))) (@a0g _ _ _ (@a0u _ _ _ _ (@a0n _ _ _ _ _ _ _ _ _ _ D_with_step hr (@a0a _ _ _ _ _ (hv 0) (@a0a _ _ _ _ _ (@h_ix _ _ _ _ _ _ (hv 1) a0e (by intro _ _;rfl)) a0c (by rfl)) (by rfl)) (by rfl) (by decide) (by rfl) (by rfl)))) a0s) (@a0b _ _ _ _ _ (@s_if _ _ _ _ _ _ _ _ (@a0o _ _ _ _ _ _ _ _ (@a0G _ hr.units) (hv 1) (@a1j _ _ _ _ _ (@a0a _ _ _ _ _ a0W a0c (by rfl))) (a0m _)) (@a0g _ _ _ (@a0u _ _ _ _ (@a0n _ _ _ _ _ _ _ _ _ _ D_with_round hr (@a0a _ _ _ _ _ (hv 0) a0c (by rfl)) (by rfl) (by decide) (by rfl) (by rfl)))) a0s) (@a0b _ _ _ _ _ (@s_if _ _ _ _ _ _ _ _ (@a0o _ _ _ _ _ _ _ _ (@a0G _ hr.units) (hv 1) (@a1j _ _ _ _ _ (@a0a _ _ _ _ _ a0W a0c (by rfl))) (a0m _)) (@a0g _ _ _ (@a0u _ _ _ _ (@a0n _ _ _ _ _ _ _ _ _ _ D_with_back hr (@a0a _ _ _ _ _ (hv 0) a0c (by rfl)) (by rfl) (by decide) (by rfl) (by rfl)))) a0s) (@a0b _ _ _ _ _ (@s_if _ _ _ _ _ _ _ _ (@a0o _ _ _ _ _ _ _ _ (@a0G _ hr.units) (hv 1) (@a1j _ _ _ _ _ (@a0a _ _ _ _ _ a0W a0c (by rfl))) (a0m _)) (@a0g _ _ _ (@a0u _ _ _ _ (@a0n _ _ _ _ _ _ _ _ _ _ D_with_less hr (@a0a _ _ _ _ _ (hv 0) a0c (by rfl)) (by rfl) (by decide) (by rfl) (by rfl)))) a0s) (@a0b _ _ _ _ _ (@s_if _ _ _ _ _ _ _ _ (@a0o _ _ _ _ _ _ _ _ (@a0G _ hr.units) (hv 1) (@a1j _ _ _ _ _ (@a0a _ _ _ _ _ a0W a0c (by rfl))) (a0m _)) (@a0g _ _ _ (@a0u _ _ _ _ (@a0n _ _ _ _ _ _ _ _ _ _ D_flipped hr (@a0a _ _ _ _ _ (hv 0) a0c (by rfl)) (by rfl) (by decide) (by rfl) (by rfl)))) a0s) (@a0g _ _ _ a2n)))))))),fun ts M Q h=>?_⟩
 unfold a6F at h
 split at h
 ·rename_i n w mt
  obtain⟨ws,m,rfl,rfl,ok,hw,h⟩:=h
  refine a0d fun K1 hK1=>?_
  walk_at "rd"
  refine⟨ws,rfl,ok,?_⟩
  rw[hK1]
  clear hK1
  cases m with
  | step s =>
    show a1G _ _ _ [some (.tup [.int n,.tup (ws.map .int)]),some (.tup [.str "step",.tup s.t])] M
    refine a0d fun K2 hK2=>?_
    walk_at "rd"
    rw[if_pos (by decide)]
    refine⟨rfl,rfl,by decide,?_⟩
    rw[if_neg (by decide +kernel),hK2]
    clear hK2
    refine a0d fun K3 hK3=>?_
    walk_at "rd"
    rw[if_pos (by decide)]
    refine⟨rfl,rfl,by decide,?_⟩
    rw[if_pos (a0O _ rfl)]
    exact⟨ws,s,rfl,rfl,ok,hw,a0h h⟩
  | round =>
    show a1G _ _ _ [some (.tup [.int n,.tup (ws.map .int)]),some (.tup [.str "round"])] M
    refine a0d fun K2 hK2=>?_
    walk_at "rd"
    rw[if_neg (by decide),hK2]
    clear hK2
    refine a0d fun K3 hK3=>?_
    walk_at "rd"
    rw[if_neg (by decide),hK3]
    clear hK3
    refine a0d fun K4 hK4=>?_
    walk_at "rd"
    refine⟨by decide,rfl,rfl,by decide,?_⟩
    rw[if_pos (by decide +kernel)]
    exact⟨ws,rfl,ok.2.2.1,hw,a0h h⟩
  | back =>
    show a1G _ _ _ [some (.tup [.int n,.tup (ws.map .int)]),some (.tup [.str "back"])] M
    refine a0d fun K2 hK2=>?_
    walk_at "rd"
    rw[if_neg (by decide),hK2]
    clear hK2
    refine a0d fun K3 hK3=>?_
    walk_at "rd"
    rw[if_neg (by decide),hK3]
    clear hK3
    refine a0d fun K4 hK4=>?_
    walk_at "rd"
    refine⟨by decide,rfl,rfl,by decide,?_⟩
    rw[if_neg (by decide +kernel),hK4]
    clear hK4
    refine a0d fun K5 hK5=>?_
    walk_at "rd"
    refine⟨by decide,rfl,rfl,by decide,?_⟩
    rw[if_pos (by decide +kernel)]
    exact⟨ws,rfl,ok.2.2.1,hw,a0h h⟩
  | less =>
    show a1G _ _ _ [some (.tup [.int n,.tup (ws.map .int)]),some (.tup [.str "less"])] M
    refine a0d fun K2 hK2=>?_
    walk_at "rd"
    rw[if_neg (by decide),hK2]
    clear hK2
    refine a0d fun K3 hK3=>?_
    walk_at "rd"
    rw[if_neg (by decide),hK3]
    clear hK3
    refine a0d fun K4 hK4=>?_
    walk_at "rd"
    refine⟨by decide,rfl,rfl,by decide,?_⟩
    rw[if_neg (by decide +kernel),hK4]
    clear hK4
    refine a0d fun K5 hK5=>?_
    walk_at "rd"
    refine⟨by decide,rfl,rfl,by decide,?_⟩
    rw[if_neg (by decide +kernel),hK5]
    clear hK5
    refine a0d fun K6 hK6=>?_
    walk_at "rd"
    refine⟨by decide,rfl,rfl,by decide,?_⟩
    rw[if_pos (by decide +kernel)]
    exact⟨ws,rfl,ok.2.2.1,hw,a0h h⟩
  | flip =>
    show a1G _ _ _ [some (.tup [.int n,.tup (ws.map .int)]),some (.tup [.str "flip"])] M
    refine a0d fun K2 hK2=>?_
    walk_at "rd"
    rw[if_neg (by decide),hK2]
    clear hK2
    refine a0d fun K3 hK3=>?_
    walk_at "rd"
    rw[if_neg (by decide),hK3]
    clear hK3
    refine a0d fun K4 hK4=>?_
    walk_at "rd"
    refine⟨by decide,rfl,rfl,by decide,?_⟩
    rw[if_neg (by decide +kernel),hK4]
    clear hK4
    refine a0d fun K5 hK5=>?_
    walk_at "rd"
    refine⟨by decide,rfl,rfl,by decide,?_⟩
    rw[if_neg (by decide +kernel),hK5]
    clear hK5
    refine a0d fun K6 hK6=>?_
    walk_at "rd"
    refine⟨by decide,rfl,rfl,by decide,?_⟩
    rw[if_neg (by decide +kernel),hK6]
    clear hK6
    refine a0d fun K7 hK7=>?_
    walk_at "rd"
    refine⟨by decide,rfl,rfl,by decide,?_⟩
    rw[if_pos (by decide +kernel)]
    exact⟨ws,rfl,ok,a0h h⟩
  | more k =>
    show a1G _ _ _ [some (.tup [.int n,.tup (ws.map .int)]),some (.tup [.str "more",.int k])] M
    refine a0d fun K2 hK2=>?_
    walk_at "rd"
    rw[if_pos (by decide)]
    refine⟨rfl,rfl,by decide,?_⟩
    rw[if_pos (a0O _ rfl)]
    exact⟨ws,rfl,ok.2.2.1,ok.1,ok.2.1,hw,a0h h⟩
 ·exact h.elim
noncomputable def b2B (p:Int × List Int):List Mv→Int × List Int
 | []=>p
 | m :: r=>b2B (mvTo p.1 p.2 m) r
noncomputable def okMv (p:Int × List Int):List Mv→Prop
 | []=>PlOK p.1 p.2
 | m :: r=>PlOK p.1 p.2∧a2k p.1 p.2 m=.ok∧okMv (mvTo p.1 p.2 m) r
theorem b8q {p:Int × List Int}:∀ {ms:List Mv},okMv p ms→PlOK p.1 p.2
 | [],h=>h
 | _ :: _,h=>h.1
noncomputable def a3q:Sp3:=fun ts M Q=>match ts with
 | [.tup [.int n,.tup w],.adr q]=>∃ (ws:List Int) (ms:List Mv),w=ws.map .int∧M q=some (.lst (ms.map mvT))∧okMv (n,ws) ms∧Q (ptT (b2B (n,ws) ms)) M
 | _=>False
theorem a9H {P w K base f fd} {mg:Str→Option Value} {n:Nat}  (F:Fun K "moved_all" "moved_all" a4g f fd) (hm:mg "moved_all"=some (.ref f)) (hb:a0M K fd ["plait","moves"] []) (Z:Zs mg) (D_looked:Df P w K mg base n "looked" ["plait"] a2y) (D_moved:Df P w K mg base n "moved" ["plait","move"] a6F):Df P w K mg base (n+1) "moved_all" ["plait","moves"] a3q:=by
 refine F.dfn hm hb a4D (by unfold a3q;walk_at "ln") ⟨_,fun cdv A outer s H E hr=>(@a0b _ _ _ _ _ (@a4y _ _ _ _ (@a0n _ _ _ _ _ _ _ _ _ _ D_looked hr (@a0a _ _ _ _ _ (hv 0) a0c (by rfl)) (by rfl) (by decide) (by rfl) (by rfl)) (by rfl)) (@a0b _ _ _ _ _ (@a5g _ _ _ _ _ _ _ _ PassesOwn.never rfl (@a5s _ _ _ _ (hv 1)) (a0V (i:=2) a4D.nd) (@a0g _ _ _ (@a0I _ _ _ _ 0 _ _ (@a0n _ _ _ _ _ _ _ _ _ _ D_moved hr (@a0a _ _ _ _ _ (hv 0) (@a0a _ _ _ _ _ (hv 2) a0c (by rfl)) (by rfl)) (by rfl) (by decide) (by rfl) (by rfl)) a4D.nd (by rfl) (by walk_at "2") (by rfl) (by walk_at "4"))) (by intro _;rfl)) (@a0g _ _ _ (@a0u _ _ _ _ (hv 0))))),fun ts M Q h=>?_⟩
 unfold a3q at h
 split at h
 ·rename_i n w q
  obtain⟨ws,ms,rfl,hq,ok,h⟩:=h
  refine a1Q fun K2 hK2=>?_
  walk_at "rd"
  refine⟨ws,rfl,b8q ok,?_⟩
  rw[hK2]
  dsimp only
  unfold a5q
  walk_at "rd"
  rw[hq]
  refine⟨fun i ρ M'=>M'=M∧∃ (a:Option T) (p:Int × List Int),ρ=[some (ptT p),some (T.adr q),a]∧okMv p (ms.drop i)∧b2B p (ms.drop i)=b2B (n,ws) ms,⟨rfl,none,(n,ws),rfl,ok,rfl⟩,?_,?_,?_⟩
  ·rintro i ρ M' ⟨rfl,_⟩
   exact hq
  ·rintro i x ρ M' hx ⟨rfl,a,p,rfl,ok1,e1⟩
   obtain⟨m,hm,rfl⟩:∃ m,ms[i]?=some m∧mvT m=x:=by
    rw[List.getElem?_map] at hx
    exact Option.map_eq_some_iff.mp hx
   have hil:=(List.getElem?_eq_some_iff.mp hm).1
   have ed:ms.drop i=m :: ms.drop (i+1):=by
    rw[List.drop_eq_getElem_cons hil]
    congr 1
    exact (List.getElem?_eq_some_iff.mp hm).2
   rw[ed] at ok1 e1
   obtain⟨o1,o2,o3⟩:=ok1
   exact⟨p.2,m,rfl,rfl,o1,o2,rfl,_,_,rfl,o3,e1⟩
  ·rintro ρ M' ⟨rfl,a,p,rfl,ok1,e1⟩
   rw[List.length_map,List.drop_length] at e1
   have e2:p=b2B (n,ws) ms:=e1
   rw[e2]
   exact a0h h
 ·exact h.elim
noncomputable def a2L:Sp3:=fun ts M Q=>match ts with
 | [.rd s,.int k]=>∃ ns:List Int,s=ns.map .int∧0≤k∧k < 100∧∀ p c f,M p=none→Q (.adr p) (updM M p (.lst [.int c,.int f]))
 | _=>False
theorem a8D {P w K base f fd} {mg:Str→Option Value} {n:Nat}  (F:Fun K "_law_state" "_law_state" a3y f fd) (hm:mg "_law_state"=some (.ref f)) (hb:a0M K fd ["script","k"] []) (Z:Zs mg) :Df P w K mg base (n+1) "_law_state" ["script","k"] a2L:=by
 refine F.dfn hm hb a4b (by unfold a2L;walk_at "ln") ⟨_,fun cdv A outer s H E hr=>(@a0b _ _ _ _ _ (@a0I _ _ _ _ 2 _ _ a0e a4b.nd (by rfl) (by walk_at "2") (by rfl) (by walk_at "4")) (@a0b _ _ _ _ _ (@s_if _ _ _ _ _ _ _ _ (@a0o _ _ _ _ _ _ _ _ a3C (hv 1) (@a0k _ _ _ _ _ _ _ _ _ a0r Z.b_len PySem.boot_len (@a0a _ _ _ _ _ (hv 0) a0c (by rfl)) (by rfl) (by decide) (by decide) (by rfl) (by rfl)) (a0m _)) (@a0g _ _ _ (@a0I _ _ _ _ 2 _ _ (@h_ix _ _ _ _ _ _ (hv 0) (hv 1) (by intro _ _;rfl)) a4b.nd (by rfl) (by walk_at "2") (by rfl) (by walk_at "4"))) a0s) (@a0b _ _ _ _ _ (@s_if _ _ _ _ _ _ _ _ (@a0o _ _ _ _ _ _ _ _ b7d (hv 2) (@a0q _ _ _ _ _ _ _ _ b4d a0e a0e) (a0m _)) (@a0g _ _ _ (@a0u _ _ _ _ (@a2C _ _ _ _ (@a0a _ _ _ _ _ (@a0q _ _ _ _ _ _ _ _ a1b (hv 2) (@a0q _ _ _ _ _ _ _ _ b4d a0e a0e)) (@a0a _ _ _ _ _ a0e a0c (by rfl)) (by rfl))))) a0s) (@a0g _ _ _ (@a0u _ _ _ _ (@a2C _ _ _ _ (@a0a _ _ _ _ _ (@a0q _ _ _ _ _ _ _ _ a4H (@a0q _ _ _ _ _ _ _ _ a0p (hv 2) (@a0q _ _ _ _ _ _ _ _ a1n a0e (hv 1))) a0e) (@a0a _ _ _ _ _ a0e a0c (by rfl)) (by rfl)))))))),fun ts M Q h=>?_⟩
 unfold a2L at h
 split at h
 ·rename_i s k
  obtain⟨ns,rfl,h0,h1,h⟩:=h
  walk_at "rd"
  refine ite2 (fun c=>?_) (fun c=>?_)
  ·rw[a6L ns k h0 c]
   refine⟨⟨by decide,by decide,by decide⟩,ite2 (fun _=>⟨⟨by decide,by decide,by decide⟩,by decide,fun p hp=>a0h (h _ _ _ hp)⟩) (fun _=>⟨.inl ⟨by decide,by decide⟩,by decide,by decide,fun p hp=>a0h (h _ _ _ hp)⟩)⟩
  ·refine⟨⟨by decide,by decide,by decide⟩,ite2 (fun _=>⟨⟨by decide,by decide,by decide⟩,by decide,fun p hp=>a0h (h _ _ _ hp)⟩) (fun _=>⟨.inl ⟨by decide,by decide⟩,by decide,by decide,fun p hp=>a0h (h _ _ _ hp)⟩)⟩
 ·exact h.elim
theorem b5e {x m:Int} (h0:0 < m) (h1:m < 2 ^ 100):b9c x m:=by
 refine⟨h0,?_⟩
 have:m.natAbs.log2 < 100:=(Nat.log2_lt (by lia)).mpr (by lia)
 lia
theorem b2l {x y k:Int} (hk:0 < k) (hk':k≤2 ^ 64):CMul (x % k) y:=by
 have h1:=Int.emod_nonneg x (Int.ne_of_gt hk)
 have h2:=Int.emod_lt_of_pos x hk
 exact .inl ⟨by lia,by lia⟩
noncomputable def a0Z:Sp3:=fun ts M Q=>match ts with
 | [.adr p,.int m]=>∃ s f,M p=some (.lst [.int s,.int f])∧0 < m∧m < 2 ^ 60∧∀ c s' f',0≤c→c < m→Q (.int c) (updM M p (.lst [.int s',.int f']))
 | _=>False
theorem a9M {P w K base f fd} {mg:Str→Option Value} {n:Nat}  (F:Fun K "_law_take" "_law_take" a4l f fd) (hm:mg "_law_take"=some (.ref f)) (hb:a0M K fd ["state","many"] []) (Z:Zs mg) :Df P w K mg base (n+1) "_law_take" ["state","many"] a0Z:=by
 refine F.dfn hm hb a3t (by unfold a0Z;walk_at "ln") ⟨_,fun cdv A outer s H E hr=>(@a0b _ _ _ _ _ (@s_if _ _ _ _ _ _ _ _ (@HW.ht _ _ _ (@a8d _ _ _ _ _ _ _ (@a0o _ _ _ _ _ _ _ _ (@a0G _ hr.units) (@h_ix _ _ _ _ _ _ (hv 0) a0e (by intro _ _;rfl)) a0e (a0m _)) (@a6p _ _ _ _ (@a0o _ _ _ _ _ _ _ _ a3O (@h_ix _ _ _ _ _ _ (hv 0) a0e (by intro _ _;rfl)) a0e (a0m _))))) (@a0b _ _ _ _ _ (@a0I _ _ _ _ 2 _ _ (@a0q _ _ _ _ _ _ _ _ a4H (@h_ix _ _ _ _ _ _ (hv 0) a0e (by intro _ _;rfl)) (hv 1)) a3t.nd (by rfl) (by walk_at "2") (by rfl) (by walk_at "4")) (@a0b _ _ _ _ _ (@a8q _ _ _ _ _ _ (@a0q _ _ _ _ _ _ _ _ a6d (@h_ix _ _ _ _ _ _ (hv 0) a0e (by intro _ _;rfl)) (hv 1)) (@b6q _ _ _ _ _ _ (hv 0) a0e (by intro _;rfl)) (by rfl) (by rfl) (by rfl)) (@a0g _ _ _ (@a0u _ _ _ _ (hv 2))))) a0s) (@a0b _ _ _ _ _ (@a8q _ _ _ _ _ _ a0e (@b6q _ _ _ _ _ _ (hv 0) a0e (by intro _;rfl)) (by rfl) (by rfl) (by rfl)) (@a0b _ _ _ _ _ (@a8q _ _ _ _ _ _ (@a0q _ _ _ _ _ _ _ _ a4H (@a0q _ _ _ _ _ _ _ _ a0p (@a0q _ _ _ _ _ _ _ _ a1n (@h_ix _ _ _ _ _ _ (hv 0) a0e (by intro _ _;rfl)) a0e) a0e) a0e) (@b6q _ _ _ _ _ _ (hv 0) a0e (by intro _;rfl)) (by rfl) (by rfl) (by rfl)) (@a0b _ _ _ _ _ (@a0I _ _ _ _ 3 _ _ (@a0q _ _ _ _ _ _ _ _ a4H (@a0q _ _ _ _ _ _ _ _ a0p (@a0q _ _ _ _ _ _ _ _ a1n (@h_ix _ _ _ _ _ _ (hv 0) a0e (by intro _ _;rfl)) (@h_ix _ _ _ _ _ _ (hv 0) a0e (by intro _ _;rfl))) (@a0q _ _ _ _ _ _ _ _ a1n a0e (@h_ix _ _ _ _ _ _ (hv 0) a0e (by intro _ _;rfl)))) a0e) a3t.nd (by rfl) (by walk_at "2") (by rfl) (by walk_at "4")) (@a0b _ _ _ _ _ (@a0I _ _ _ _ 3 _ _ (@a0q _ _ _ _ _ _ _ _ a4H (@a0q _ _ _ _ _ _ _ _ a0p (@a0q _ _ _ _ _ _ _ _ a1n (hv 3) (hv 3)) (@a0q _ _ _ _ _ _ _ _ a1n a0e (hv 3))) a0e) a3t.nd (by rfl) (by walk_at "2") (by rfl) (by walk_at "4")) (@a0g _ _ _ (@a0u _ _ _ _ (@a0q _ _ _ _ _ _ _ _ a4H (@a0q _ _ _ _ _ _ _ _ a6d (hv 3) a0e) (hv 1))))))))),fun ts M Q h=>?_⟩
 unfold a0Z at h
 split at h
 ·rename_i p m
  obtain⟨s,f,hM,h0,h1,h⟩:=h
  refine a0d fun K1 hK1=>?_
  have hk:K1 [some (.adr p),some (.int m),none,none] M:=by
   rw[hK1]
   clear hK1
   walk_at "rd"
   simp only[hM]
   walk_at "rd"
   have i1:ixN (0+1+1) 1=some 1:=by decide
   simp only[i1]
   exact⟨.inr ⟨by decide,by decide⟩,by decide,b2l (by decide) (by decide),.inl ⟨by decide,by decide⟩,by decide,b2l (by decide) (by decide),.inl ⟨by decide,by decide⟩,by decide,b5e (by decide) (by decide),h0,
    a0h (h _ _ _ (Int.emod_nonneg _ (Int.ne_of_gt h0)) (Int.emod_lt_of_pos _ h0))⟩
  walk_at "rd"
  simp only[hM]
  walk_at "rd"
  have i0:ixN 2 0=some 0:=by decide
  exact ite2 (fun c=>ite2 (fun c2=>⟨h0,b5e h0 (by lia),a0h (h _ _ _ (Int.emod_nonneg _ (Int.ne_of_gt h0)) (Int.emod_lt_of_pos _ h0))⟩) (fun c2=>hk)) (fun c=>hk)
 ·exact h.elim
noncomputable def a1r:Sp3:=fun ts M Q=>match ts with
 | [.adr p,.int n]=>∃ s f,M p=some (.lst [.int s,.int f])∧2≤n∧n≤6∧∀ l s' f',LetOK n l→Q (.int l) (updM M p (.lst [.int s',.int f']))
 | _=>False
theorem a7z {P w K base f fd} {mg:Str→Option Value} {n:Nat}  (F:Fun K "_law_letter" "_law_letter" a2U f fd) (hm:mg "_law_letter"=some (.ref f)) (hb:a0M K fd ["state","strands"] []) (Z:Zs mg) (D__law_take:Df P w K mg base n "_law_take" ["state","many"] a0Z):Df P w K mg base (n+1) "_law_letter" ["state","strands"] a1r:=by
 refine F.dfn hm hb a5l (by unfold a1r;walk_at "ln") ⟨_,fun cdv A outer s H E hr=>(@a0b _ _ _ _ _ (@a0I _ _ _ _ 2 _ _ (@a0n _ _ _ _ _ _ _ _ _ _ D__law_take hr (@a0a _ _ _ _ _ (hv 0) (@a0a _ _ _ _ _ (@a0q _ _ _ _ _ _ _ _ a1n a0e (@a0q _ _ _ _ _ _ _ _ a1b (hv 1) a0e)) a0c (by rfl)) (by rfl)) (by rfl) (by decide) (by rfl) (by rfl)) a5l.nd (by rfl) (by walk_at "2") (by rfl) (by walk_at "4")) (@a0g _ _ _ (@a0u _ _ _ _ (@a0q _ _ _ _ _ _ _ _ a1n (@h_ix _ _ _ _ _ _ (@a2C _ _ _ _ (@a0a _ _ _ _ _ a0e (@a0a _ _ _ _ _ (@h_un _ _ _ _ _ _ a0Y a0e) a0c (by rfl)) (by rfl))) (@a0q _ _ _ _ _ _ _ _ a4H (hv 2) a0e) (by intro _ _;rfl)) (@a0q _ _ _ _ _ _ _ _ a0p a0e (@a0q _ _ _ _ _ _ _ _ a6d (hv 2) a0e)))))),fun ts M Q h=>?_⟩
 unfold a1r at h
 split at h
 ·rename_i p n
  obtain⟨s,f,hM,h0,h1,h⟩:=h
  walk_at "rd"
  refine⟨.inl ⟨by lia,by lia⟩,s,f,hM,by lia,by lia,fun c s1 f1 c0 c1=>?_⟩
  walk_at "rd"
  refine⟨by decide,fun p1 hp1=>?_⟩
  have n1:p≠p1:=fun z=>by rw[← z,a0f] at hp1;cases hp1
  have e1:∃ b:Int,(b=1∨b=-1)∧atI [T.int 1,T.int (-1)] (c % 2)=some (.int b):=by
   rcases (show c % 2=0∨c % 2=1 by lia) with e | e
   ·rw[e];exact⟨1,.inl rfl,rfl⟩
   ·rw[e];exact⟨-1,.inr rfl,rfl⟩
  obtain⟨b,hb,e1⟩:=e1
  simp only[e1]
  have hl:LetOK n (b*(1+c / 2)):=by
   unfold LetOK
   rcases hb with rfl | rfl
   ·lia
   ·lia
  exact⟨by decide,⟨by decide,by decide⟩,.inl ⟨by lia,by lia⟩,a0y (h _ _ _ hl) (Sub.new hp1)⟩
 ·exact h.elim
noncomputable def a2M:Sp3:=fun ts M Q=>match ts with
 | [.adr p,.int most,.int longest]=>∃ s f,M p=some (.lst [.int s,.int f])∧1≤most∧most≤6∧0≤longest∧longest≤100∧∀ (n:Int) (w:List Int) s' f',1≤n→n≤most→(w.length:Int)≤longest→WordOK n w→Q (.tup [.int n,.tup (w.map .int)]) (updM M p (.lst [.int s',.int f']))
 | _=>False
theorem a8E {P w K base f fd} {mg:Str→Option Value} {n:Nat}  (F:Fun K "_law_plait" "_law_plait" a3z f fd) (hm:mg "_law_plait"=some (.ref f)) (hb:a0M K fd ["state","most","longest"] []) (Z:Zs mg) (D__law_take:Df P w K mg base n "_law_take" ["state","many"] a0Z) (D__law_letter:Df P w K mg base n "_law_letter" ["state","strands"] a1r):Df P w K mg base (n+1) "_law_plait" ["state","most","longest"] a2M:=by
 refine F.dfn hm hb a2S (by unfold a2M;walk_at "ln") ⟨_,fun cdv A outer s H E hr=>(@a0b _ _ _ _ _ (@a0I _ _ _ _ 3 _ _ (@a0q _ _ _ _ _ _ _ _ a0p a0e (@a0q _ _ _ _ _ _ _ _ a6d (@a0q _ _ _ _ _ _ _ _ a4H (@a0q _ _ _ _ _ _ _ _ a0p (@a0n _ _ _ _ _ _ _ _ _ _ D__law_take hr (@a0a _ _ _ _ _ (hv 0) (@a0a _ _ _ _ _ (@a0q _ _ _ _ _ _ _ _ a1n a0e (hv 1)) a0c (by rfl)) (by rfl)) (by rfl) (by decide) (by rfl) (by rfl)) a0e) (@a0q _ _ _ _ _ _ _ _ a1n a0e (hv 1))) a0e)) a2S.nd (by rfl) (by walk_at "2") (by rfl) (by walk_at "4")) (@a0b _ _ _ _ _ (@a0I _ _ _ _ 4 _ _ (@a2C _ _ _ _ a0c) a2S.nd (by rfl) (by walk_at "2") (by rfl) (by walk_at "4")) (@a0b _ _ _ _ _ (@a5g _ _ _ _ _ _ _ _ PassesOwn.never rfl (@a2X _ _ _ _ _ _ Z.b_range (@a0a _ _ _ _ _ (@a0q _ _ _ _ _ _ _ _ a1n (@a0n _ _ _ _ _ _ _ _ _ _ D__law_take hr (@a0a _ _ _ _ _ (hv 0) (@a0a _ _ _ _ _ (@a0q _ _ _ _ _ _ _ _ a0p (hv 2) a0e) a0c (by rfl)) (by rfl)) (by rfl) (by decide) (by rfl) (by rfl)) (@a3i _ _ _ _ _ _ _ _ _ a3R Z.b_int PyProof.Rows.boot_int (@a0a _ _ _ _ _ (@a5Q _ _ _ _ _ _ _ _ a3O (hv 3) a0e (a0m _)) a0c (by rfl)) (by rfl) (by decide) (by decide) (by rfl) (by rfl))) a0c (by rfl)) (by rfl) (by rfl)) (a0V (i:=5) a2S.nd) (@a0b _ _ _ _ _ (@a4y _ _ _ _ (@a5c _ _ _ _ _ _ _ _ (hv 4) (@a0a _ _ _ _ _ (@a0n _ _ _ _ _ _ _ _ _ _ D__law_letter hr (@a0a _ _ _ _ _ (hv 0) (@a0a _ _ _ _ _ (hv 3) a0c (by rfl)) (by rfl)) (by rfl) (by decide) (by rfl) (by rfl)) a0c (by rfl)) (by rfl) (by rfl) (by rfl) (by rfl) (by rfl)) (by rfl)) (@a0g _ _ _ (@s_if _ _ _ _ _ _ _ _ (@HW.ht _ _ _ (@a8d _ _ _ _ _ _ _ (@a0o _ _ _ _ _ _ _ _ (@a0G _ hr.units) (@a0n _ _ _ _ _ _ _ _ _ _ D__law_take hr (@a0a _ _ _ _ _ (hv 0) (@a0a _ _ _ _ _ a0e a0c (by rfl)) (by rfl)) (by rfl) (by decide) (by rfl) (by rfl)) a0e (a0m _)) (@a6p _ _ _ _ (@a0o _ _ _ _ _ _ _ _ a3O (@a0k _ _ _ _ _ _ _ _ _ a0r Z.b_len PySem.boot_len (@a0a _ _ _ _ _ (hv 4) a0c (by rfl)) (by rfl) (by decide) (by decide) (by rfl) (by rfl)) a0e (a0m _))))) (@a0g _ _ _ (@a8q _ _ _ _ _ _ (@h_ix _ _ _ _ _ _ (@a2C _ _ _ _ (@a0a _ _ _ _ _ (@h_ix _ _ _ _ _ _ (hv 4) (@h_un _ _ _ _ _ _ a0Y a0e) (by intro _ _;rfl)) (@a0a _ _ _ _ _ (@a0q _ _ _ _ _ _ _ _ a1b a0e (@h_ix _ _ _ _ _ _ (hv 4) (@h_un _ _ _ _ _ _ a0Y a0e) (by intro _ _;rfl))) a0c (by rfl)) (by rfl))) (@a0n _ _ _ _ _ _ _ _ _ _ D__law_take hr (@a0a _ _ _ _ _ (hv 0) (@a0a _ _ _ _ _ a0e a0c (by rfl)) (by rfl)) (by rfl) (by decide) (by rfl) (by rfl)) (by intro _ _;rfl)) (@b6q _ _ _ _ _ _ (hv 4) (@h_un _ _ _ _ _ _ a0Y a0e) (by intro _;rfl)) (by rfl) (by rfl) (by rfl))) a0s))) (by intro _;rfl)) (@a0g _ _ _ (@a0u _ _ _ _ (@a1j _ _ _ _ _ (@a0a _ _ _ _ _ (hv 3) (@a0a _ _ _ _ _ (@a3i _ _ _ _ _ _ _ _ _ a4u Z.b_tuple PyProof.Rows.boot_tuple (@a0a _ _ _ _ _ (hv 4) a0c (by rfl)) (by rfl) (by decide) (by decide) (by rfl) (by rfl)) a0c (by rfl)) (by rfl)))))))),fun ts M Q h=>?_⟩
 unfold a2M at h
 split at h
 ·rename_i p most longest
  obtain⟨s,f,hM,hm1,hm2,hl0,hl1,h⟩:=h
  refine a1Q fun K2 hK2=>?_
  walk_at "rd"
  refine⟨.inl ⟨by decide,by decide⟩,s,f,hM,by lia,by lia,fun c s1 f1 c0 c1=>?_⟩
  refine⟨.inl ⟨by decide,by decide⟩,by lia,⟨by decide,by decide⟩,fun r hr=>?_⟩
  have hn:1≤1+(c+1) % (12*most) / 12∧1+(c+1) % (12*most) / 12≤most:=by
   have e1:=Int.emod_nonneg (c+1) (show 12*most≠0 by lia)
   have e2:=Int.emod_lt_of_pos (c+1) (show 0 < 12*most by lia)
   lia
  generalize 1+(c+1) % (12*most) / 12=n at hn⊢
  have nr:p≠r:=fun z=>by rw[← z,a0f] at hr;cases hr
  have hrn:∀ x,updM M p x r=none:=fun x=>by
   rw[a0t nr.symm] at hr⊢;exact hr
  rw[hK2]
  refine a0d fun K3 hK3=>?_
  refine a2l fun B hB=>?_
  walk_at "rd"
  refine⟨s1,f1,by rw[a0t nr,a0f],by lia,by lia,fun c2 s2 f2 c20 c21=>?_⟩
  have hb:∃ k:Int,(if 1 < n then (1:Int) else 0)=k∧((k=0)∨(k=1∧2≤n)):=by
   by_cases c:1 < n
   ·exact⟨1,if_pos c,.inr ⟨rfl,by lia⟩⟩
   ·exact⟨0,if_neg c,.inl rfl⟩
  obtain⟨k,ek,hb⟩:=hb
  have hS0:Sub (updM M p (.lst [.int s2,.int f2])) (updM (updM (updM M p (MO.lst [T.int s1,T.int f1])) r (MO.lst [])) p (MO.lst [T.int s2,T.int f2])):=(Sub.new hr).set
  have hr0:updM (updM (updM M p (MO.lst [T.int s1,T.int f1])) r (MO.lst [])) p (MO.lst [T.int s2,T.int f2]) r=some (.lst []):=by rw[a0t nr.symm,a0f]
  generalize updM (updM (updM M p (MO.lst [T.int s1,T.int f1])) r (MO.lst [])) p (MO.lst [T.int s2,T.int f2])=M0 at hS0 hr0⊢
  walk_at "rd"
  rw[ek]
  have hck:0≤c2*k∧c2*k≤longest∧(0 < c2*k→2≤n):=by
   rcases hb with rfl | ⟨rfl,h2⟩
   ·rw[Int.mul_zero];lia
   ·rw[Int.mul_one];lia
  have hcm:CMul c2 k:=.inl ⟨by lia,by lia⟩
  generalize c2*k=cnt at hck⊢
  refine⟨hcm,by lia,by lia,fun i ρ M'=>∃ a w s' f',ρ=[some (T.adr p),some (T.int most),some (T.int longest),some (T.int n),some (T.adr r),a]∧M' r=some (.lst (List.map T.int w))∧Sub (updM M p (.lst [.int s',.int f'])) M'∧w.length=i∧WordOK n w,⟨none,[],s2,f2,rfl,hr0,hS0,rfl,WordOK.nil⟩,fun _ _ _ _=>trivial,?_,?_⟩
  ·rintro i x ρ M' hx ⟨a,w,s',f',rfl,hw,hS,hwl,hok⟩
   obtain⟨hi,rfl⟩:=a3g hx
   have hp':M' p=some (.lst [.int s',.int f']):=hS _ _ a0f
   rw[hB]
   refine a0d fun K4 hK4=>?_
   walk_at "rd"
   rw[hw]
   refine⟨trivial,s',f',hp',by lia,by lia,fun l s3 f3 hl=>?_⟩
   simp only[a0t nr.symm,hw]
   have e1:List.map T.int w++[T.int l]=(w++[l]).map T.int:=by rw[List.map_append];rfl
   rw[e1]
   have hS1:Sub (updM M p (.lst [.int s3,.int f3])) (updM (updM M' p (.lst [.int s3,.int f3])) r (.lst ((w++[l]).map T.int))):=hS.set.updF (hrn _)
   have hw1:updM (updM M' p (.lst [.int s3,.int f3])) r (.lst ((w++[l]).map T.int)) r=some (.lst ((w++[l]).map T.int)):=a0f
   generalize updM (updM M' p (.lst [.int s3,.int f3])) r (.lst ((w++[l]).map T.int))=M1 at hS1 hw1⊢
   have hp1:M1 p=some (.lst [.int s3,.int f3]):=hS1 _ _ a0f
   refine⟨by rw[List.length_map];exact a0Q (by lia),?_⟩
   have hok1:WordOK n (w++[l]):=hok.append fun x hx=>by rw[List.mem_singleton.mp hx];exact hl
   rw[hK4]
   walk_at "rd"
   refine⟨s3,f3,hp1,by decide,by decide,fun c4 s4 f4 c40 c41=>?_⟩
   have hr2:updM M1 p (.lst [.int s4,.int f4]) r=some (.lst ((w++[l]).map T.int)):=by rw[a0t nr.symm,hw1]
   have hS2:Sub (updM M p (.lst [.int s4,.int f4])) (updM M1 p (.lst [.int s4,.int f4])):=hS1.set
   generalize updM M1 p (.lst [.int s4,.int f4])=M2 at hr2 hS2⊢
   have hp2:M2 p=some (.lst [.int s4,.int f4]):=hS2 _ _ a0f
   have hlen:(w++[l]).length=i+1:=by rw[List.length_append,hwl];rfl
   refine⟨rfl,by rw[a5S];lia,ite2 (fun hc=>?_) (fun hc=>⟨_,_,s4,f4,rfl,hr2,hS2,hlen,hok1⟩)⟩
   simp only[hr2]
   refine ite2 (fun hc2=>?_) (fun hc2=>⟨_,_,s4,f4,rfl,rfl,hS2,hlen,hok1⟩)
   rw[List.length_map,hlen] at hc2
   obtain⟨w0,y,rfl⟩:∃ w0 y,w=w0++[y]:=by
    rcases List.eq_nil_or_concat w with e | ⟨w0,y,e⟩
    ·rw[e] at hwl;simp at hwl;lia
    ·exact⟨w0,y,by rw[e,List.concat_eq_append]⟩
   have e2:List.map T.int (w0++[y]++[l])=List.map T.int w0++[T.int y,T.int l]:=by simp
   have a2:atI (List.map T.int (w0++[y]++[l])) (-2)=some (T.int y):=by rw[e2];exact b5l _ _ _
   have hy:LetOK n y:=hok y (by simp)
   simp only[a2]
   refine⟨by decide,fun p3 hp3=>?_⟩
   have q1:p≠p3:=fun z=>by rw[← z,hp2] at hp3;cases hp3
   have q2:r≠p3:=fun z=>by rw[← z,hr2] at hp3;cases hp3
   refine⟨s4,f4,by rw[a0t q1,hp2],by decide,by decide,fun c5 s5 f5 c50 c51=>?_⟩
   have e5:∃ b:Int,LetOK n b∧atI [T.int y,T.int (0 - y)] c5=some (.int b):=by
    rcases (show c5=0∨c5=1 by lia) with rfl | rfl
    ·exact⟨y,hy,rfl⟩
    ·exact⟨0 - y,by unfold LetOK at hy⊢;lia,rfl⟩
   obtain⟨b,hbL,e5⟩:=e5
   simp only[a0t q1.symm,a0f,e5,a0t nr.symm,a0t q2,hr2]
   have ix:ixN (List.map T.int (w0++[y]++[l])).length (-1)=some (w0.length+1):=by
    unfold ixN
    rw[List.length_map]
    simp only[List.length_append,List.length_singleton]
    rw[if_neg (by decide),if_pos (by lia)]
    congr 1
    lia
   rw[ix]
   have e6:(List.map T.int (w0++[y]++[l])).set (w0.length+1) (T.int b)=List.map T.int (w0++[y]++[b]):=by
    rw[← List.map_set]
    congr 1
    rw[List.set_append_right _ _ (by simp)]
    simp
   dsimp only
   rw[e6]
   refine⟨_,w0++[y]++[b],s5,f5,rfl,rfl,?_,by rw[List.length_append,hwl];rfl,hok.append fun x hx=>by rw[List.mem_singleton.mp hx];exact hbL⟩
   exact ((hS2.newr hp3).set).updF (hrn _)
  ·rintro ρ M' ⟨a,w,s',f',rfl,hw,hS,hwl,hok⟩
   rw[a0J] at hwl
   rw[hK3]
   walk_at "rd"
   simp only[hw]
   exact⟨by decide,a0y (h n w s' f' hn.1 hn.2 (by lia) hok) hS⟩
 ·exact h.elim
noncomputable def a0U:Sp3:=fun ts M Q=>match ts with
 | [.int l]=>Q (.int (sg l)) M
 | _=>False
theorem a9N {P w K base f fd} {mg:Str→Option Value} {n:Nat}  (F:Fun K "_law_sign" "_law_sign" a4m f fd) (hm:mg "_law_sign"=some (.ref f)) (hb:a0M K fd ["letter"] []) (Z:Zs mg) :Df P w K mg base (n+1) "_law_sign" ["letter"] a0U:=by
 refine F.dfn hm hb a9r (by unfold a0U;walk_at "ln") ⟨_,fun cdv A outer s H E hr=>(@a0g _ _ _ (@a0u _ _ _ _ (@h_ix _ _ _ _ _ _ (@a2C _ _ _ _ (@a0a _ _ _ _ _ (@h_un _ _ _ _ _ _ a0Y a0e) (@a0a _ _ _ _ _ a0e a0c (by rfl)) (by rfl))) (@a3i _ _ _ _ _ _ _ _ _ a3R Z.b_int PyProof.Rows.boot_int (@a0a _ _ _ _ _ (@a5Q _ _ _ _ _ _ _ _ a3O (hv 0) a0e (a0m _)) a0c (by rfl)) (by rfl) (by decide) (by decide) (by rfl) (by rfl)) (by intro _ _;rfl)))),fun ts M Q h=>?_⟩
 unfold a0U at h
 split at h
 ·rename_i l
  walk_at "rd"
  refine⟨by decide,fun p hp=>?_⟩
  have e:atI [T.int (-1),T.int 1] (if 0 < l then 1 else 0)=some (.int (sg l)):=by
   unfold sg
   by_cases c:0 < l
   ·rw[if_pos c,if_pos c];rfl
   ·rw[if_neg c,if_neg c];rfl
  simp only[e]
  exact a0y h (Sub.new hp)
 ·exact h.elim
noncomputable def a2K:Sp3:=fun ts M Q=>match ts with
 | [.tup w]=>∃ p q r:Int,w=[.int p,.int q,.int r]∧p≠0∧q≠0∧r≠0∧p.natAbs < 7∧q.natAbs < 7∧r.natAbs < 7∧Q (if thrB p q r then .tup [.int (sgnL q r),.int (sgnL p q),.int (sgnL q p)] else .non) M
 | _=>False
theorem a8C {P w K base f fd} {mg:Str→Option Value} {n:Nat}  (F:Fun K "_law_three" "_law_three" a3x f fd) (hm:mg "_law_three"=some (.ref f)) (hb:a0M K fd ["part"] []) (Z:Zs mg) (D__law_sign:Df P w K mg base n "_law_sign" ["letter"] a0U):Df P w K mg base (n+1) "_law_three" ["part"] a2K:=by
 refine F.dfn hm hb a2R (by unfold a2K;walk_at "ln") ⟨_,fun cdv A outer s H E hr=>(@a0b _ _ _ _ _ (@a8q _ _ _ _ _ _ (hv 0) (@a9Z _ _ _ _ _ 3 rfl (@a1p _ _ _ _ _ (a0V (i:=1) a2R.nd) (@a1p _ _ _ _ _ (a0V (i:=2) a2R.nd) (@a1p _ _ _ _ _ (a0V (i:=3) a2R.nd) a6y (by rfl)) (by rfl)) (by rfl)) (by rfl) (by rfl)) (by rfl) (by rfl) (by rfl)) (@a0b _ _ _ _ _ (@s_if _ _ _ _ _ _ _ _ (@HW.ht _ _ _ (@w_or _ _ _ _ _ _ _ (@a0o _ _ _ _ _ _ _ _ (@a2G _ hr.units) (@a0k _ _ _ _ _ _ _ _ _ a0x Z.b_abs PyProof.Rows.boot_abs (@a0a _ _ _ _ _ (hv 1) a0c (by rfl)) (by rfl) (by decide) (by decide) (by rfl) (by rfl)) (@a0k _ _ _ _ _ _ _ _ _ a0x Z.b_abs PyProof.Rows.boot_abs (@a0a _ _ _ _ _ (hv 3) a0c (by rfl)) (by rfl) (by decide) (by decide) (by rfl) (by rfl)) (a0m _)) (@a5X _ _ _ _ (@a0o _ _ _ _ _ _ _ _ a6Z (@a0q _ _ _ _ _ _ _ _ a1b (@a0k _ _ _ _ _ _ _ _ _ a0x Z.b_abs PyProof.Rows.boot_abs (@a0a _ _ _ _ _ (hv 1) a0c (by rfl)) (by rfl) (by decide) (by decide) (by rfl) (by rfl)) (@a0k _ _ _ _ _ _ _ _ _ a0x Z.b_abs PyProof.Rows.boot_abs (@a0a _ _ _ _ _ (hv 2) a0c (by rfl)) (by rfl) (by decide) (by decide) (by rfl) (by rfl))) (@a2C _ _ _ _ (@a0a _ _ _ _ _ a0e (@a0a _ _ _ _ _ (@h_un _ _ _ _ _ _ a0Y a0e) a0c (by rfl)) (by rfl))) rfl)))) (@a0g _ _ _ (@a0u _ _ _ _ a6i)) a0s) (@a0b _ _ _ _ _ (@s_if _ _ _ _ _ _ _ _ (@HW.ht _ _ _ (@a8d _ _ _ _ _ _ _ (@a0o _ _ _ _ _ _ _ _ (@a0G _ hr.units) (@a0n _ _ _ _ _ _ _ _ _ _ D__law_sign hr (@a0a _ _ _ _ _ (hv 1) a0c (by rfl)) (by rfl) (by decide) (by rfl) (by rfl)) (@a0n _ _ _ _ _ _ _ _ _ _ D__law_sign hr (@a0a _ _ _ _ _ (hv 3) a0c (by rfl)) (by rfl) (by decide) (by rfl) (by rfl)) (a0m _)) (@a6p _ _ _ _ (@a0o _ _ _ _ _ _ _ _ (@a2G _ hr.units) (@a0n _ _ _ _ _ _ _ _ _ _ D__law_sign hr (@a0a _ _ _ _ _ (hv 1) a0c (by rfl)) (by rfl) (by decide) (by rfl) (by rfl)) (@a0n _ _ _ _ _ _ _ _ _ _ D__law_sign hr (@a0a _ _ _ _ _ (hv 2) a0c (by rfl)) (by rfl) (by decide) (by rfl) (by rfl)) (a0m _))))) (@a0g _ _ _ (@a0u _ _ _ _ a6i)) a0s) (@a0g _ _ _ (@a0u _ _ _ _ (@a1j _ _ _ _ _ (@a0a _ _ _ _ _ (@a0q _ _ _ _ _ _ _ _ a1n (@a0n _ _ _ _ _ _ _ _ _ _ D__law_sign hr (@a0a _ _ _ _ _ (hv 3) a0c (by rfl)) (by rfl) (by decide) (by rfl) (by rfl)) (@a0k _ _ _ _ _ _ _ _ _ a0x Z.b_abs PyProof.Rows.boot_abs (@a0a _ _ _ _ _ (hv 2) a0c (by rfl)) (by rfl) (by decide) (by decide) (by rfl) (by rfl))) (@a0a _ _ _ _ _ (@a0q _ _ _ _ _ _ _ _ a1n (@a0n _ _ _ _ _ _ _ _ _ _ D__law_sign hr (@a0a _ _ _ _ _ (hv 2) a0c (by rfl)) (by rfl) (by decide) (by rfl) (by rfl)) (@a0k _ _ _ _ _ _ _ _ _ a0x Z.b_abs PyProof.Rows.boot_abs (@a0a _ _ _ _ _ (hv 1) a0c (by rfl)) (by rfl) (by decide) (by decide) (by rfl) (by rfl))) (@a0a _ _ _ _ _ (@a0q _ _ _ _ _ _ _ _ a1n (@a0n _ _ _ _ _ _ _ _ _ _ D__law_sign hr (@a0a _ _ _ _ _ (hv 1) a0c (by rfl)) (by rfl) (by decide) (by rfl) (by rfl)) (@a0k _ _ _ _ _ _ _ _ _ a0x Z.b_abs PyProof.Rows.boot_abs (@a0a _ _ _ _ _ (hv 2) a0c (by rfl)) (by rfl) (by decide) (by decide) (by rfl) (by rfl))) a0c (by rfl)) (by rfl)) (by rfl)))))))),fun ts M Q h=>?_⟩
 unfold a2K at h
 split at h
 ·rename_i w
  obtain⟨p,q,r,rfl,hp,hq,hr,lp,lq,lr,h⟩:=h
  refine a1Q fun K1 hK1=>?_
  walk_at "rd"
  unfold thrB at h
  refine ite2 (fun c1=>?_) (fun c1=>⟨by decide,fun p1 hp1=>⟨rfl,rfl,?_⟩⟩)
  ·rw[decide_eq_false (by lia)] at h
   exact a0h h
  rw[decide_eq_true (show p.natAbs=r.natAbs by lia),Bool.true_and] at h
  have hS:Sub M (updM M p1 (.lst [.int 1,.int (-1)])):=Sub.new hp1
  generalize updM M p1 (.lst [.int 1,.int (-1)])=M1 at hS⊢
  have e2:inT (T.int (↑p.natAbs - ↑q.natAbs)) [T.int 1,T.int (-1)]=decide (p.natAbs+1=q.natAbs∨q.natAbs+1=p.natAbs):=by
   unfold inT
   simp only[List.any_cons,List.any_nil,a3F,Bool.or_false,← Bool.decide_or]
   exact decide_eq_decide.mpr (by lia)
  rw[e2]
  refine ite2 (fun c2=>?_) (fun c2=>?_)
  ·rw[c2] at h
   exact a0y h hS
  have c2':=(Bool.not_eq_false _).mp c2
  rw[c2',Bool.true_and] at h
  suffices hK:K1 [some (.tup [.int p,.int q,.int r]),some (.int p),some (.int q),some (.int r)] M1 by exact hK
  rw[hK1]
  refine a0d fun K2 hK2=>?_
  walk_at "rd"
  unfold a0U
  dsimp only
  rw[a3F,a3F]
  have hk:K2 [some (.tup [.int p,.int q,.int r]),some (.int p),some (.int q),some (.int r)] M1↔rt3 M Q (.tup [.int (sgnL q r),.int (sgnL p q),.int (sgnL q p)]) M1∨K2 [some (.tup [.int p,.int q,.int r]),some (.int p),some (.int q),some (.int r)] M1:=⟨.inr,fun z=>z.elim (fun z=>?_) id⟩
  ·refine⟨rfl,rfl,Nat.zero_le _,ite2 (fun c3=>⟨rfl,rfl,Nat.zero_le _,ite2 (fun c4=>?_) (fun c4=>?_)⟩) (fun c3=>?_)⟩
   ·have e3:sg p=sg r:=of_decide_eq_true c3
    have e4:¬sg p=sg q:=of_decide_eq_false c4
    rw[b9A] at e3 e4
    rw[decide_eq_false (fun z=>e4 (z (b4N (by lia) e3 hr)))] at h
    exact a0y h hS
   ·have e3:sg p=sg r:=of_decide_eq_true c3
    have e4:sg p=sg q:=by simpa using c4
    rw[b9A] at e3 e4
    rw[decide_eq_true (fun _=>e4)] at h
    exact hk.mpr (.inl (a0y h hS))
   ·have e3:¬sg p=sg r:=by simpa using c3
    rw[decide_eq_true (fun z=>absurd (by rw[z]) e3)] at h
    exact hk.mpr (.inl (a0y h hS))
  ·rw[hK2]
   walk_at "rd"
   unfold a0U
   dsimp only
   have cm:∀ x y:Int,y.natAbs < 7→CMul (sg x) ((y.natAbs:Nat):Int):=fun x y hy=>by
    have:=b6N x
    exact .inl ⟨by lia,by lia⟩
   refine⟨cm _ _ lq,cm _ _ lp,cm _ _ lq,by decide,?_⟩
   rw[b3E hr,b3E hq,b3E hp]
   exact z
 ·exact h.elim
noncomputable def a1I:Sp3:=fun ts M Q=>match ts with
 | [.int n,.tup w,.tup st]=>∃ (ws:List Int) (s:Stp),w=ws.map .int∧st=s.t∧ws.length≤1000∧n≤6∧WordOK n ws∧Q (optT (aft n ws s)) M
 | _=>False
theorem a8I {P w K base f fd} {mg:Str→Option Value} {n:Nat}  (F:Fun K "_law_after" "_law_after" a3B f fd) (hm:mg "_law_after"=some (.ref f)) (hb:a0M K fd ["strands","word","step"] []) (Z:Zs mg) (D__law_three:Df P w K mg base n "_law_three" ["part"] a2K):Df P w K mg base (n+1) "_law_after" ["strands","word","step"] a1I:=by
 refine F.dfn hm hb a2d (by unfold a1I;walk_at "ln") ⟨_,fun cdv A outer s H E hr=>(@a0b _ _ _ _ _ (@a0I _ _ _ _ 3 _ _ (@h_ix _ _ _ _ _ _ (hv 2) a0e (by intro _ _;rfl)) a2d.nd (by rfl) (by walk_at "2") (by rfl) (by walk_at "4")) (@a0b _ _ _ _ _ (@s_if _ _ _ _ _ _ _ _ (@HW.ht _ _ _ (@w_or _ _ _ _ _ _ _ (@a0o _ _ _ _ _ _ _ _ a3C (hv 3) a0e (a0m _)) (@a5X _ _ _ _ (@a0o _ _ _ _ _ _ _ _ a3O (hv 3) (@a0k _ _ _ _ _ _ _ _ _ a0r Z.b_len PySem.boot_len (@a0a _ _ _ _ _ (hv 1) a0c (by rfl)) (by rfl) (by decide) (by decide) (by rfl) (by rfl)) (a0m _))))) (@a0g _ _ _ (@a0u _ _ _ _ a6i)) a0s) (@a0b _ _ _ _ _ (@a0I _ _ _ _ 4 _ _ (@a0S _ _ _ _ _ _ _ _ _ (hv 1) a1D (@a1f _ _ _ (hv 3))) a2d.nd (by rfl) (by walk_at "2") (by rfl) (by walk_at "4")) (@a0b _ _ _ _ _ (@s_if _ _ _ _ _ _ _ _ (@a0o _ _ _ _ _ _ _ _ (@a0G _ hr.units) (@h_ix _ _ _ _ _ _ (hv 2) a0e (by intro _ _;rfl)) a0W (a0m _)) (@a0b _ _ _ _ _ (@s_if _ _ _ _ _ _ _ _ (@HW.ht _ _ _ (@w_or _ _ _ _ _ _ _ (@a0o _ _ _ _ _ _ _ _ (@a0G _ hr.units) (@h_ix _ _ _ _ _ _ (hv 2) a0e (by intro _ _;rfl)) a0e (a0m _)) (@a5X _ _ _ _ (@a0o _ _ _ _ _ _ _ _ b7d (@a0k _ _ _ _ _ _ _ _ _ a0x Z.b_abs PyProof.Rows.boot_abs (@a0a _ _ _ _ _ (@h_ix _ _ _ _ _ _ (hv 2) a0e (by intro _ _;rfl)) a0c (by rfl)) (by rfl) (by decide) (by decide) (by rfl) (by rfl)) (hv 0) (a0m _))))) (@a0g _ _ _ (@a0u _ _ _ _ a6i)) a0s) (@a0g _ _ _ (@a0u _ _ _ _ (@a0q _ _ _ _ _ _ _ _ a0p (@a0q _ _ _ _ _ _ _ _ a0p (hv 4) (@a1j _ _ _ _ _ (@a0a _ _ _ _ _ (@h_ix _ _ _ _ _ _ (hv 2) a0e (by intro _ _;rfl)) (@a0a _ _ _ _ _ (@a0q _ _ _ _ _ _ _ _ a1b a0e (@h_ix _ _ _ _ _ _ (hv 2) a0e (by intro _ _;rfl))) a0c (by rfl)) (by rfl)))) (@a0S _ _ _ _ _ _ _ _ _ (hv 1) (@a1f _ _ _ (hv 3)) a1D))))) a0s) (@a0b _ _ _ _ _ (@s_if _ _ _ _ _ _ _ _ (@a0o _ _ _ _ _ _ _ _ (@a0G _ hr.units) (@h_ix _ _ _ _ _ _ (hv 2) a0e (by intro _ _;rfl)) a0W (a0m _)) (@a0b _ _ _ _ _ (@a0I _ _ _ _ 5 _ _ (@a0S _ _ _ _ _ _ _ _ _ (hv 1) (@a1f _ _ _ (hv 3)) (@a1f _ _ _ (@a0q _ _ _ _ _ _ _ _ a0p (hv 3) a0e))) a2d.nd (by rfl) (by walk_at "2") (by rfl) (by walk_at "4")) (@a0b _ _ _ _ _ (@s_if _ _ _ _ _ _ _ _ (@HW.ht _ _ _ (@w_or _ _ _ _ _ _ _ (@a0o _ _ _ _ _ _ _ _ a3C (@a0k _ _ _ _ _ _ _ _ _ a0r Z.b_len PySem.boot_len (@a0a _ _ _ _ _ (hv 5) a0c (by rfl)) (by rfl) (by decide) (by decide) (by rfl) (by rfl)) a0e (a0m _)) (@a5X _ _ _ _ (@a0o _ _ _ _ _ _ _ _ b7b (@a0n _ _ _ _ _ _ _ _ _ _ D__law_three hr (@a0a _ _ _ _ _ (hv 5) a0c (by rfl)) (by rfl) (by decide) (by rfl) (by rfl)) a6i (a0m _))))) (@a0g _ _ _ (@a0u _ _ _ _ a6i)) a0s) (@a0g _ _ _ (@a0u _ _ _ _ (@a0q _ _ _ _ _ _ _ _ a0p (@a0q _ _ _ _ _ _ _ _ a0p (hv 4) (@a0n _ _ _ _ _ _ _ _ _ _ D__law_three hr (@a0a _ _ _ _ _ (hv 5) a0c (by rfl)) (by rfl) (by decide) (by rfl) (by rfl))) (@a0S _ _ _ _ _ _ _ _ _ (hv 1) (@a1f _ _ _ (@a0q _ _ _ _ _ _ _ _ a0p (hv 3) a0e)) a1D)))))) a0s) (@a0b _ _ _ _ _ (@a0I _ _ _ _ 6 _ _ (@a0S _ _ _ _ _ _ _ _ _ (hv 1) (@a1f _ _ _ (hv 3)) (@a1f _ _ _ (@a0q _ _ _ _ _ _ _ _ a0p (hv 3) a0e))) a2d.nd (by rfl) (by walk_at "2") (by rfl) (by walk_at "4")) (@a0b _ _ _ _ _ (@s_if _ _ _ _ _ _ _ _ (@a0o _ _ _ _ _ _ _ _ a3C (@a0k _ _ _ _ _ _ _ _ _ a0r Z.b_len PySem.boot_len (@a0a _ _ _ _ _ (hv 6) a0c (by rfl)) (by rfl) (by decide) (by decide) (by rfl) (by rfl)) a0e (a0m _)) (@a0g _ _ _ (@a0u _ _ _ _ a6i)) a0s) (@a0b _ _ _ _ _ (@s_if _ _ _ _ _ _ _ _ (@a0o _ _ _ _ _ _ _ _ (@a0G _ hr.units) (@h_ix _ _ _ _ _ _ (hv 2) a0e (by intro _ _;rfl)) a0W (a0m _)) (@a0b _ _ _ _ _ (@s_if _ _ _ _ _ _ _ _ (@a0o _ _ _ _ _ _ _ _ a3C (@a0k _ _ _ _ _ _ _ _ _ a0x Z.b_abs PyProof.Rows.boot_abs (@a0a _ _ _ _ _ (@a0q _ _ _ _ _ _ _ _ a1b (@a0k _ _ _ _ _ _ _ _ _ a0x Z.b_abs PyProof.Rows.boot_abs (@a0a _ _ _ _ _ (@h_ix _ _ _ _ _ _ (hv 6) a0e (by intro _ _;rfl)) a0c (by rfl)) (by rfl) (by decide) (by decide) (by rfl) (by rfl)) (@a0k _ _ _ _ _ _ _ _ _ a0x Z.b_abs PyProof.Rows.boot_abs (@a0a _ _ _ _ _ (@h_ix _ _ _ _ _ _ (hv 6) a0e (by intro _ _;rfl)) a0c (by rfl)) (by rfl) (by decide) (by decide) (by rfl) (by rfl))) a0c (by rfl)) (by rfl) (by decide) (by decide) (by rfl) (by rfl)) a0e (a0m _)) (@a0g _ _ _ (@a0u _ _ _ _ a6i)) a0s) (@a0g _ _ _ (@a0u _ _ _ _ (@a0q _ _ _ _ _ _ _ _ a0p (@a0q _ _ _ _ _ _ _ _ a0p (hv 4) (@a1j _ _ _ _ _ (@a0a _ _ _ _ _ (@h_ix _ _ _ _ _ _ (hv 6) a0e (by intro _ _;rfl)) (@a0a _ _ _ _ _ (@h_ix _ _ _ _ _ _ (hv 6) a0e (by intro _ _;rfl)) a0c (by rfl)) (by rfl)))) (@a0S _ _ _ _ _ _ _ _ _ (hv 1) (@a1f _ _ _ (@a0q _ _ _ _ _ _ _ _ a0p (hv 3) a0e)) a1D))))) a0s) (@a0b _ _ _ _ _ (@s_if _ _ _ _ _ _ _ _ (@a0o _ _ _ _ _ _ _ _ (@a2G _ hr.units) (@a0q _ _ _ _ _ _ _ _ a0p (@h_ix _ _ _ _ _ _ (hv 6) a0e (by intro _ _;rfl)) (@h_ix _ _ _ _ _ _ (hv 6) a0e (by intro _ _;rfl))) a0e (a0m _)) (@a0g _ _ _ (@a0u _ _ _ _ a6i)) a0s) (@a0g _ _ _ (@a0u _ _ _ _ (@a0q _ _ _ _ _ _ _ _ a0p (hv 4) (@a0S _ _ _ _ _ _ _ _ _ (hv 1) (@a1f _ _ _ (@a0q _ _ _ _ _ _ _ _ a0p (hv 3) a0e)) a1D))))))))))))),fun ts M Q h=>?_⟩
 unfold a1I at h
 split at h
 ·rename_i n w st
  obtain⟨ws,s,rfl,rfl,hl,h6,hw,h⟩:=h
  have bad:(s.at < 0∨(ws.length:Int) < s.at)→rt3 M Q .non M:=fun z=>by
   rw[b6E z] at h
   exact a0h h
  cases s with
  | inn a l =>
    show a1G _ _ _ [some (.int n),some (.tup (ws.map .int)),some (.tup [.str "in",.int a,.int l]),none,none,none,none] M
    refine a4U fun K1 hK1=>?_
    walk_at "rd"
    refine ite2 (fun c1=>bad (.inl c1)) (fun c1=>ite2 (fun c2=>bad (.inr c2)) (fun c2=>?_))
    clear bad
    obtain⟨A,R,rfl,hA⟩:=cutI (a:=a) (w:=ws) (by lia) (by lia)
    rw[b2j (by lia) hA]
    rw[hK1]
    refine a0d fun K2 hK2=>?_
    walk_at "rd"
    refine⟨rfl,rfl,Nat.zero_le _,?_⟩
    rw[if_pos (a0O _ rfl)]
    rw[a8X] at h
    have hb:inB n (A++R) a l=a5O n l:=by
     unfold inB
     rw[decide_eq_true (by lia)]
     rfl
    rw[hb] at h
    have bad:¬LetOK n l→rt3 M Q .non M:=fun z=>by
     rw[show a5O n l=false from Bool.eq_false_iff.mpr fun y=>z (a3h.mp y)] at h
     exact a0h h
    refine ite2 (fun c3=>bad (fun z=>z.ne c3)) (fun c3=>ite2 (fun c4=>bad (fun z=>by unfold LetOK at z;lia)) (fun c4=>?_))
    rw[a3h.mpr (by unfold LetOK;lia),if_pos rfl,a8K hA] at h
    rw[b6z (by lia) hA]
    rw[List.length_append] at hl
    refine⟨by decide,a0H (by lia),a0H (by rw[List.length_map];lia),?_⟩
    refine a0h ?_
    unfold optT at h
    simpa using h
  | three a =>
    show a1G _ _ _ [some (.int n),some (.tup (ws.map .int)),some (.tup [.str "three",.int a]),none,none,none,none] M
    refine a4U fun K1 hK1=>?_
    walk_at "rd"
    refine ite2 (fun c1=>bad (.inl c1)) (fun c1=>ite2 (fun c2=>bad (.inr c2)) (fun c2=>?_))
    clear bad
    obtain⟨A,R,rfl,hA⟩:=cutI (a:=a) (w:=ws) (by lia) (by lia)
    rw[b2j (by lia) hA]
    rw[hK1]
    refine a0d fun K2 hK2=>?_
    walk_at "rd"
    refine⟨rfl,rfl,Nat.zero_le _,?_⟩
    rw[if_neg (by decide +kernel),hK2]
    refine a0d fun K3 hK3=>?_
    walk_at "rd"
    refine⟨rfl,rfl,Nat.zero_le _,?_⟩
    rw[if_pos (a0O _ rfl)]
    rw[a3S] at h
    rw[b1w (by decide) (by lia) hA,a7q (by decide) (by lia) hA]
    rw[List.length_append] at hl c2
    have bad:R.length < 3→rt3 M Q .non M:=fun z=>by
     rw[a8b (by rw[List.length_append];lia)] at h
     exact a0h h
    cases R with
    | nil=>rw[if_pos (by simp)];exact bad (by simp)
    | cons p R =>
    cases R with
    | nil=>rw[if_pos (by simp)];exact bad (by simp)
    | cons q R =>
    cases R with
    | nil=>rw[if_pos (by simp)];exact bad (by simp)
    | cons r R =>
    clear bad
    have lp:=hw p (by simp)
    have lq:=hw q (by simp)
    have lr:=hw r (by simp)
    have e:a0F (A++p :: q :: r :: R) a=thrB p q r:=Bool.eq_iff_iff.mpr ((a5U (by lia) hA lp.ne lq.ne).trans b5s.symm)
    rw[e,a5p (by lia) hA] at h
    have s3:∀ x:Int,LetOK n x→x.natAbs < 7:=fun x hx=>by unfold LetOK at hx;lia
    rw[if_neg (by simp)]
    refine⟨p,q,r,rfl,lp.ne,lq.ne,lr.ne,s3 _ lp,s3 _ lq,s3 _ lr,?_⟩
    cases c:thrB p q r with
    | false =>
      rw[c] at h
      rw[if_pos (by simp)]
      exact a0h h
    | true =>
      rw[c] at h
      rw[if_neg (by simp)]
      refine⟨p,q,r,rfl,lp.ne,lq.ne,lr.ne,s3 _ lp,s3 _ lq,s3 _ lr,?_⟩
      rw[c,if_pos rfl]
      rw[show List.drop (Int.toNat 3) (p :: q :: r :: R)=R from rfl]
      rw[List.length_cons,List.length_cons,List.length_cons] at hl
      refine⟨a0H (by simp only[List.length_map,List.length_cons,List.length_nil];lia),a0H (by simp only[List.length_map,List.length_cons,List.length_nil];lia),a0h ?_⟩
      rw[if_pos rfl] at h
      unfold optT at h
      simpa using h
  | out a =>
    show a1G _ _ _ [some (.int n),some (.tup (ws.map .int)),some (.tup [.str "out",.int a]),none,none,none,none] M
    refine a4U fun K1 hK1=>?_
    walk_at "rd"
    refine ite2 (fun c1=>bad (.inl c1)) (fun c1=>ite2 (fun c2=>bad (.inr c2)) (fun c2=>?_))
    clear bad
    obtain⟨A,R,rfl,hA⟩:=cutI (a:=a) (w:=ws) (by lia) (by lia)
    rw[b2j (by lia) hA]
    rw[hK1]
    refine a0d fun K2 hK2=>?_
    walk_at "rd"
    refine⟨rfl,rfl,Nat.zero_le _,?_⟩
    rw[if_neg (by decide +kernel),hK2]
    refine a0d fun K3 hK3=>?_
    walk_at "rd"
    refine⟨rfl,rfl,Nat.zero_le _,?_⟩
    rw[if_neg (by decide +kernel),hK3]
    refine a1Q fun K4 hK4=>?_
    walk_at "rd"
    rw[b1w (by decide) (by lia) hA]
    rw[List.length_append] at hl c2
    rw[a6n] at h
    have bad:R.length < 2→rt3 M Q .non M:=fun z=>by
     rw[b2n (by rw[List.length_append];lia)] at h
     exact a0h h
    cases R with
    | nil=>rw[if_pos (by simp)];exact bad (by simp)
    | cons p R =>
    cases R with
    | nil=>rw[if_pos (by simp)];exact bad (by simp)
    | cons q R =>
    clear bad
    have lp:=hw p (by simp)
    have lq:=hw q (by simp)
    rw[if_neg (by simp),hK4,show List.map T.int (List.take (Int.toNat 2) (p :: q :: R))=[T.int p,T.int q] from rfl]
    walk_at "rd"
    refine⟨rfl,rfl,Nat.zero_le _,?_⟩
    rw[if_neg (by decide +kernel)]
    rw[b0o (by lia) hA] at h
    rw[List.length_cons,List.length_cons] at hl
    refine ite2 (fun c3=>?_) (fun c3=>?_)
    ·rw[decide_eq_false (by lia)] at h
     exact a0h h
    ·rw[decide_eq_true (by lia),if_pos rfl] at h
     rw[a7q (by decide) (by lia) hA,show List.drop (Int.toNat 2) (p :: q :: R)=R from rfl]
     unfold outL at h
     rw[a6Y (by lia) hA] at h
     refine⟨a0H (by rw[List.length_map];lia),a0h ?_⟩
     unfold optT at h
     simpa using h
  | far a =>
    show a1G _ _ _ [some (.int n),some (.tup (ws.map .int)),some (.tup [.str "far",.int a]),none,none,none,none] M
    refine a4U fun K1 hK1=>?_
    walk_at "rd"
    refine ite2 (fun c1=>bad (.inl c1)) (fun c1=>ite2 (fun c2=>bad (.inr c2)) (fun c2=>?_))
    clear bad
    obtain⟨A,R,rfl,hA⟩:=cutI (a:=a) (w:=ws) (by lia) (by lia)
    rw[b2j (by lia) hA]
    rw[hK1]
    refine a0d fun K2 hK2=>?_
    walk_at "rd"
    refine⟨rfl,rfl,Nat.zero_le _,?_⟩
    rw[if_neg (by decide +kernel),hK2]
    refine a0d fun K3 hK3=>?_
    walk_at "rd"
    refine⟨rfl,rfl,Nat.zero_le _,?_⟩
    rw[if_neg (by decide +kernel),hK3]
    refine a1Q fun K4 hK4=>?_
    walk_at "rd"
    rw[b1w (by decide) (by lia) hA]
    rw[List.length_append] at hl c2
    rw[a6o] at h
    have bad:R.length < 2→rt3 M Q .non M:=fun z=>by
     rw[b2o (by rw[List.length_append];lia)] at h
     exact a0h h
    cases R with
    | nil=>rw[if_pos (by simp)];exact bad (by simp)
    | cons p R =>
    cases R with
    | nil=>rw[if_pos (by simp)];exact bad (by simp)
    | cons q R =>
    clear bad
    have lp:=hw p (by simp)
    have lq:=hw q (by simp)
    rw[if_neg (by simp),hK4,show List.map T.int (List.take (Int.toNat 2) (p :: q :: R))=[T.int p,T.int q] from rfl]
    refine a0d fun K5 hK5=>?_
    walk_at "rd"
    refine⟨rfl,rfl,Nat.zero_le _,?_⟩
    rw[if_pos (a0O _ rfl)]
    rw[b0p (by lia) hA] at h
    rw[List.length_cons,List.length_cons] at hl
    refine ite2 (fun c3=>?_) (fun c3=>?_)
    ·rw[decide_eq_false (by lia)] at h
     exact a0h h
    ·rw[decide_eq_true (by lia),if_pos rfl,a3H hA] at h
     rw[a7q (by decide) (by lia) hA,show List.drop (Int.toNat 2) (p :: q :: R)=R from rfl]
     refine⟨by decide,a0H (by lia),a0H (by rw[List.length_map];lia),a0h ?_⟩
     unfold optT at h
     simpa using h
 ·exact h.elim
noncomputable def a3Z:Sp3:=fun ts M Q=>match ts with
 | [.int n,.tup w]=>∃ ws:List Int,w=ws.map .int∧ws.length≤1000∧WordOK n ws∧n≤6∧∀ p,M p=none→Q (.adr p) (updM M p (.lst ((chL ws).map stT)))
 | _=>False
theorem b1g {P w K base f fd} {mg:Str→Option Value} {n:Nat}  (F:Fun K "_law_can" "_law_can" a3M f fd) (hm:mg "_law_can"=some (.ref f)) (hb:a0M K fd ["strands","word"] []) (Z:Zs mg) (D__law_after:Df P w K mg base n "_law_after" ["strands","word","step"] a1I):Df P w K mg base (n+1) "_law_can" ["strands","word"] a3Z:=by
 refine F.dfn hm hb a5r (by unfold a3Z;walk_at "ln") ⟨_,fun cdv A outer s H E hr=>(@a0b _ _ _ _ _ (@a0I _ _ _ _ 2 _ _ (@a2C _ _ _ _ a0c) a5r.nd (by rfl) (by walk_at "2") (by rfl) (by walk_at "4")) (@a0b _ _ _ _ _ (@a5g _ _ _ _ _ _ _ _ PassesOwn.never rfl (@a5s _ _ _ _ (@a2C _ _ _ _ (@a0a _ _ _ _ _ a0W (@a0a _ _ _ _ _ a0W (@a0a _ _ _ _ _ a0W a0c (by rfl)) (by rfl)) (by rfl)))) (a0V (i:=3) a5r.nd) (@a0g _ _ _ (@a4y _ _ _ _ (@a7W _ _ _ _ _ _ _ _ (hv 2) (@a0a _ _ _ _ _ (@a4K _ _ _ _ _ _ _ _ _ _ _ _ _ _ rfl (@a2X _ _ _ _ _ _ Z.b_range (@a0a _ _ _ _ _ (@a0k _ _ _ _ _ _ _ _ _ a0r Z.b_len PySem.boot_len (@a0a _ _ _ _ _ (hv 1) a0c (by rfl)) (by rfl) (by decide) (by decide) (by rfl) (by rfl)) a0c (by rfl)) (by rfl) (by rfl)) (@a1i _ (a0i a3M) _ (["strands","word","found","kind"]) (["at","kind","strands","word"]) ([none,some 3,some 0,some 1]) (by decide +kernel) rfl rfl) a3G (fun _ _ _ _ _=>@a1C _ _ 0 _ (show List.Nodup (["at","kind","strands","word"]:List Str) by decide +kernel) rfl (Or.inl rfl) (Or.inr rfl)) (fun _ _ _ _ _=>a9d (@a0o _ _ _ _ _ _ _ _ a9A (@a0n _ _ _ _ _ _ _ _ _ _ D__law_after hr (@a0a _ _ _ _ _ (hv 2) (@a0a _ _ _ _ _ (hv 3) (@a4P _ _ _ _ _ _ _ (@a1j _ _ _ _ _ (@a0a _ _ _ _ _ (hv 1) (@a0a _ _ _ _ _ (hv 0) a0c (by rfl)) (by rfl))) a0c) (by rfl)) (by rfl)) (by rfl) (by decide) (by rfl) (by rfl)) a6i (a0m _))) (fun _ _ _ _ _=>(@a1j _ _ _ _ _ (@a0a _ _ _ _ _ (hv 1) (@a0a _ _ _ _ _ (hv 0) a0c (by rfl)) (by rfl)))) (by intro _;rfl)) a0c (by rfl)) (by rfl) (by rfl) (by rfl) (by rfl) (by rfl)) (by rfl))) (by intro _;rfl)) (@a0g _ _ _ (@a0u _ _ _ _ (hv 2))))),fun ts M Q h=>?_⟩
 unfold a3Z at h
 split at h
 ·rename_i n w
  obtain⟨ws,rfl,hl,hw,hn6,h⟩:=h
  refine a0d fun K1 hK1=>?_
  walk_at "rd"
  intro p hp
  rw[hK1]
  refine a0d fun K2 hK2=>?_
  refine a2l fun B hB=>?_
  walk_at "rd"
  refine⟨by decide,fun p2 hp2=>?_⟩
  have n2:p≠p2:=fun z=>by rw[← z,a0f] at hp2;cases hp2
  simp only[a0f]
  refine⟨fun i ρ M'=>∃ a,ρ=[some (T.int n),some (T.tup (List.map T.int ws)),some (T.adr p),a]∧Sub M M'∧M' p=some (.lst ((chP ws i).map stT))∧M' p2=some (.lst [.str "far",.str "three",.str "out"]),⟨none,rfl,(Sub.new hp).newr hp2,by rw[a0t n2,a0f];rfl,a0f⟩,fun i ρ M' z=>?_,?_,?_⟩
  ·obtain⟨a,e,hS,h1,h2⟩:=z
   exact h2
  ·rintro i x ρ M' hx ⟨a,rfl,hS,hM',hM2⟩
   have hk:∃ (z:Str) (c:Int→Bool) (f:Int→Stp),x=.str z∧(a9U ws)[i]?=some (z,c,f):=by
    have hi3:i < 3:=by have:=(List.getElem?_eq_some_iff.mp hx).1;simpa using this
    rcases (show i=0∨i=1∨i=2 by lia) with rfl | rfl | rfl
    ·exact⟨_,a1c ws,.far,by simpa using hx.symm,rfl⟩
    ·exact⟨_,a0F ws,.three,by simpa using hx.symm,rfl⟩
    ·exact⟨_,a1k ws,.out,by simpa using hx.symm,rfl⟩
   obtain⟨z,c,f,rfl,hkd⟩:=hk
   obtain⟨hi3,hch,hst,haf⟩:=b4v ws n hkd
   have hcl:=b5c ws i
   rw[hB]
   walk_at "rd"
   rw[hM']
   refine⟨trivial,by lia,by lia,fun j ys M2=>Sub M' M2∧ys=(chK c f j).map stT,⟨Sub.refl,rfl⟩,fun _ _ _ _=>trivial,by rw[a0J];exact a0Q (by lia),?_,?_⟩
   ·rintro j x1 ys M2 hx1 ⟨hS2,rfl⟩
    obtain⟨hj,rfl⟩:=a3g hx1
    refine⟨by decide,ws,f j,rfl,?_⟩
    have hst':(f (j:Nat)).t=[T.str z,T.int (j:Nat)]:=by have:=hst (j:Nat);unfold stT at this;exact T.tup.inj this
    refine⟨hst'.symm,hl,hn6,hw,?_⟩
    have hc:=haf (j:Nat)
    dsimp only
    rw[b6C]
    cases ha:aft n ws (f (j:Nat)) with
    | none =>
      rw[ha] at hc
      rw[if_neg (by simp [optT]),if_neg (by rw[← hc];decide),List.append_nil]
      exact⟨hS2,rfl⟩
    | some r =>
      rw[ha] at hc
      rw[if_pos (by simp [optT]),if_pos (by rw[← hc];rfl),List.map_append,List.map_singleton,hst]
      exact⟨by decide,hS2,rfl⟩
   ·rintro ys M2 ⟨hS2,rfl⟩ p1 hp1
    have n1:p≠p1:=fun z=>by rw[← z,hS2 _ _ hM'] at hp1;cases hp1
    have n3:p2≠p1:=fun z=>by rw[← z,hS2 _ _ hM2] at hp1;cases hp1
    rw[a0J,show ((ws.length:Nat):Int).toNat=ws.length by lia]
    have hcl2:=a8U c f ws.length
    rw[a0t n1,hS2 _ _ hM']
    refine⟨Nat.le_trans (by simp only[List.length_map];lia:_≤20000) (by rw[sizeLine_eq];decide),_,rfl,((hS.trans hS2).newr hp1).updF hp,?_,?_⟩
    ·rw[hch,List.map_append]
    ·rw[a0t n2.symm,a0t n3];exact hS2 _ _ hM2
  ·rintro ρ M' ⟨a,rfl,hS,hM',hM2⟩
   rw[hK2]
   walk_at "rd"
   refine a0y (h p hp) fun q v hq=>?_
   by_cases e:q=p
   ·subst e;rw[a0f] at hq;cases hq;exact hM'
   ·rw[a0t e] at hq;exact hS _ _ hq
 ·exact h.elim
noncomputable def a1O:Sp3:=fun ts M Q=>match ts with
 | [.adr p,.int n,.tup w,.int m]=>∃ (ws:List Int) (s f:Int),M p=some (.lst [.int s,.int f])∧w=ws.map .int∧1≤n∧n≤6∧ws.length≤100∧WordOK n ws∧(∀ s' f',Q .non (updM M p (.lst [.int s',.int f'])))∧∀ (st:Stp) (r:List Int) s' f',aft n ws st=some r→((r.length:Int)≤ws.length∨(r.length:Int)≤m)→Q (.tup st.t) (updM M p (.lst [.int s',.int f']))
 | _=>False
theorem a6A {P w K base f fd} {mg:Str→Option Value} {n:Nat}  (F:Fun K "_law_any_step" "_law_any_step" a2g f fd) (hm:mg "_law_any_step"=some (.ref f)) (hb:a0M K fd ["state","strands","word","longest"] []) (Z:Zs mg) (D__law_can:Df P w K mg base n "_law_can" ["strands","word"] a3Z) (D__law_take:Df P w K mg base n "_law_take" ["state","many"] a0Z) (D__law_letter:Df P w K mg base n "_law_letter" ["state","strands"] a1r):Df P w K mg base (n+1) "_law_any_step" ["state","strands","word","longest"] a1O:=by
 refine F.dfn hm hb a4x (by unfold a1O;walk_at "ln") ⟨_,fun cdv A outer s H E hr=>(@a0b _ _ _ _ _ (@a0I _ _ _ _ 4 _ _ (@a0n _ _ _ _ _ _ _ _ _ _ D__law_can hr (@a0a _ _ _ _ _ (hv 1) (@a0a _ _ _ _ _ (hv 2) a0c (by rfl)) (by rfl)) (by rfl) (by decide) (by rfl) (by rfl)) a4x.nd (by rfl) (by walk_at "2") (by rfl) (by walk_at "4")) (@a0b _ _ _ _ _ (@s_if _ _ _ _ _ _ _ _ (@HW.ht _ _ _ (@a8d _ _ _ _ _ _ _ (@a0o _ _ _ _ _ _ _ _ a3O (hv 1) a0e (a0m _)) (@a8d _ _ _ _ _ _ _ (@a0o _ _ _ _ _ _ _ _ a5L (@a0q _ _ _ _ _ _ _ _ a0p (@a0k _ _ _ _ _ _ _ _ _ a0r Z.b_len PySem.boot_len (@a0a _ _ _ _ _ (hv 2) a0c (by rfl)) (by rfl) (by decide) (by decide) (by rfl) (by rfl)) a0e) (hv 3) (a0m _)) (@a6p _ _ _ _ (@HW.ht _ _ _ (@w_or _ _ _ _ _ _ _ (@a0o _ _ _ _ _ _ _ _ (@a0G _ hr.units) (hv 4) (@a2C _ _ _ _ a0c) (a0m _)) (@a5X _ _ _ _ (@a0o _ _ _ _ _ _ _ _ (@a0G _ hr.units) (@a0n _ _ _ _ _ _ _ _ _ _ D__law_take hr (@a0a _ _ _ _ _ (hv 0) (@a0a _ _ _ _ _ a0e a0c (by rfl)) (by rfl)) (by rfl) (by decide) (by rfl) (by rfl)) a0e (a0m _))))))))) (@a0g _ _ _ (@a0u _ _ _ _ (@a1j _ _ _ _ _ (@a0a _ _ _ _ _ a0W (@a0a _ _ _ _ _ (@a0n _ _ _ _ _ _ _ _ _ _ D__law_take hr (@a0a _ _ _ _ _ (hv 0) (@a0a _ _ _ _ _ (@a0q _ _ _ _ _ _ _ _ a0p (@a0k _ _ _ _ _ _ _ _ _ a0r Z.b_len PySem.boot_len (@a0a _ _ _ _ _ (hv 2) a0c (by rfl)) (by rfl) (by decide) (by decide) (by rfl) (by rfl)) a0e) a0c (by rfl)) (by rfl)) (by rfl) (by decide) (by rfl) (by rfl)) (@a0a _ _ _ _ _ (@a0n _ _ _ _ _ _ _ _ _ _ D__law_letter hr (@a0a _ _ _ _ _ (hv 0) (@a0a _ _ _ _ _ (hv 1) a0c (by rfl)) (by rfl)) (by rfl) (by decide) (by rfl) (by rfl)) a0c (by rfl)) (by rfl)) (by rfl))))) a0s) (@a0b _ _ _ _ _ (@s_if _ _ _ _ _ _ _ _ (@a0o _ _ _ _ _ _ _ _ (@a0G _ hr.units) (hv 4) (@a2C _ _ _ _ a0c) (a0m _)) (@a0g _ _ _ (@a0u _ _ _ _ a6i)) a0s) (@a0g _ _ _ (@a0u _ _ _ _ (@h_ix _ _ _ _ _ _ (hv 4) (@a0n _ _ _ _ _ _ _ _ _ _ D__law_take hr (@a0a _ _ _ _ _ (hv 0) (@a0a _ _ _ _ _ (@a0k _ _ _ _ _ _ _ _ _ a0r Z.b_len PySem.boot_len (@a0a _ _ _ _ _ (hv 4) a0c (by rfl)) (by rfl) (by decide) (by decide) (by rfl) (by rfl)) a0c (by rfl)) (by rfl)) (by rfl) (by decide) (by rfl) (by rfl)) (by intro _ _;rfl))))))),fun ts M Q h=>?_⟩
 unfold a1O at h
 split at h
 ·rename_i p n w m
  obtain⟨ws,s,f,hM,rfl,h1,h6,hl,hw,h0,h⟩:=h
  refine a0d fun K1 hK1=>?_
  walk_at "rd"
  refine⟨ws,rfl,by lia,hw,h6,fun q hq=>?_⟩
  rw[hK1]
  refine a0d fun K2 hK2=>?_
  walk_at "rd"
  have n2:p≠q:=fun z=>by rw[← z,hM] at hq;cases hq
  have hin:∀ M2 s2 f2,2≤n→(ws.length:Int)+2≤m→Sub (updM M p (.lst [.int s2,.int f2])) M2→a0Z [T.adr p,T.int ((ws.length:Int)+1)] M2 fun x M1=>a1r [T.adr p,T.int n] M1 fun x_1 M1=>0+1+1+1≤sizeLine∧rt3 M Q (T.tup [T.str "in",x,x_1]) M1:=by
   intro M2 s2 f2 c1 c2 hS
   refine⟨s2,f2,hS _ _ a0f,by lia,by lia,fun c s3 f3 c30 c31=>⟨s3,f3,a0f,by lia,by lia,fun l s4 f4 hlt=>⟨by decide,?_⟩⟩⟩
   have hi:inB n ws c l=true:=by
    unfold inB
    rw[decide_eq_true (by lia),a3h.mpr hlt];rfl
   refine a0y (h (.inn c l) (inL ws c l) s4 f4 (by rw[a8X,hi,if_pos rfl]) (.inr (by rw[b3c hi];lia))) ?_
   rw[a5A]
   exact hS.set
  have hk:∀ M2 s2 f2,M2 q=some (.lst ((chL ws).map stT))→Sub (updM M p (.lst [.int s2,.int f2])) M2→K2 [some (.adr p),some (.int n),some (.tup (ws.map .int)),some (.int m),some (.adr q)] M2:=by
   intro M2 s2 f2 hq2 hS
   rw[hK2]
   clear hK2 hK1
   walk_at "rd"
   intro p1 hp1
   have n1:q≠p1:=fun z=>by rw[← z,hq2] at hp1;cases hp1
   simp only[a0t n1,hq2,a0f]
   have hS1:=hS.newr hp1 (o:=MO.lst [])
   have hq3:updM M2 p1 (MO.lst []) q=some (.lst ((chL ws).map stT)):=by rw[a0t n1,hq2]
   generalize updM M2 p1 (MO.lst [])=M3 at hS1 hq3⊢
   refine⟨a8k _,rfl,b0L _,?_⟩
   rw[b3A]
   refine ite2 (fun c=>a0y (h0 s2 f2) hS1) (fun c=>?_)
   have hne:0 < (chL ws).length:=by
    cases e:chL ws with
    | nil=>rw[e] at c;exact absurd rfl c
    | cons _ _=>exact Nat.succ_pos _
   have hb:=b5c ws 3
   have hb2:(chL ws).length≤300:=by unfold chL;lia
   refine⟨s2,f2,hS1 _ _ a0f,by rw[List.length_map];lia,by rw[List.length_map];lia,fun y s3 f3 y0 y1=>?_⟩
   rw[List.length_map] at y1
   obtain⟨st,hst,e⟩:=b9u y0 y1
   simp only[a0t n2.symm,hq3,e]
   have hsm:=b6A (n:=n) hst
   cases ha:aft n ws st with
   | none=>rw[ha] at hsm;cases hsm
   | some r =>
   refine a0y (h st r s3 f3 ha (.inl ?_)) hS1.set
   have:=b5d hst ha
   lia
  have hR:Sub (updM M p (.lst [.int s,.int f])) (updM M q (MO.lst (List.map stT (chL ws)))):=by rw[a6P hM];exact Sub.new hq
  have hq2:updM M q (MO.lst (List.map stT (chL ws))) q=some (MO.lst (List.map stT (chL ws))):=a0f
  generalize updM M q (MO.lst (List.map stT (chL ws)))=M1 at hR hq2⊢
  refine ite2 (fun c1=>ite2 (fun c2 p1 hp1=>?_) (fun c2=>hk _ s f hq2 hR)) (fun c1=>hk _ s f hq2 hR)
  have n1:q≠p1:=fun z=>by rw[← z,hq2] at hp1;cases hp1
  rw[a0t n1,hq2]
  refine⟨a8k _,rfl,b0L _,?_⟩
  rw[b3A]
  have hS1:=hR.newr hp1 (o:=MO.lst [])
  have hq3:updM M1 p1 (MO.lst []) q=some (.lst ((chL ws).map stT)):=by rw[a0t n1,hq2]
  generalize updM M1 p1 (MO.lst [])=M3 at hS1 hq3⊢
  refine ite2 (fun c=>hin _ s f (by lia) c2 hS1) (fun c=>?_)
  refine⟨s,f,hS1 _ _ a0f,by decide,by decide,fun x s2 f2 x0 x1=>⟨rfl,Nat.zero_le _,?_⟩⟩
  have hS2:=hS1.set (u:=MO.lst [.int s2,.int f2])
  refine ite2 (fun c=>hin _ s2 f2 (by lia) c2 hS2) (fun c=>hk _ s2 f2 (by rw[a0t n2.symm,hq3]) hS2)
 ·exact h.elim
noncomputable def a2c:Sp3:=fun ts M Q=>match ts with
 | [.tup [.int n,.tup w],.tup mt]=>∃ (ws:List Int) (m:Mv),w=ws.map .int∧mt=m.t∧PlOK n ws∧a2k n ws m=.ok∧Q (ptT (mvTo n ws m)) M
 | _=>False
theorem a8G {P w K base f fd} {mg:Str→Option Value} {n:Nat}  (F:Fun K "_law_moved" "_law_moved" a2z f fd) (hm:mg "_law_moved"=some (.ref f)) (hb:a0M K fd ["plait","move"] []) (Z:Zs mg) (D__law_sign:Df P w K mg base n "_law_sign" ["letter"] a0U) (D__law_after:Df P w K mg base n "_law_after" ["strands","word","step"] a1I):Df P w K mg base (n+1) "_law_moved" ["plait","move"] a2c:=by
 refine F.dfn hm hb a4c (by unfold a2c;walk_at "ln") ⟨_,fun cdv A outer s H E hr=>(@a0b _ _ _ _ _ (@a8q _ _ _ _ _ _ (hv 0) (@a9Z _ _ _ _ _ 2 rfl (@a1p _ _ _ _ _ (a0V (i:=2) a4c.nd) (@a1p _ _ _ _ _ (a0V (i:=3) a4c.nd) a6y (by rfl)) (by rfl)) (by rfl) (by rfl)) (by rfl) (by rfl) (by rfl)) (@a0b _ _ _ _ _ (@s_if _ _ _ _ _ _ _ _ (@a0o _ _ _ _ _ _ _ _ (@a0G _ hr.units) (@h_ix _ _ _ _ _ _ (hv 1) a0e (by intro _ _;rfl)) a0W (a0m _)) (@a0g _ _ _ (@a0u _ _ _ _ (@a1j _ _ _ _ _ (@a0a _ _ _ _ _ (@a0q _ _ _ _ _ _ _ _ a0p (hv 2) a0e) (@a0a _ _ _ _ _ (@a0q _ _ _ _ _ _ _ _ a0p (hv 3) (@a1j _ _ _ _ _ (@a0a _ _ _ _ _ (@a0q _ _ _ _ _ _ _ _ a1n (@h_ix _ _ _ _ _ _ (hv 1) a0e (by intro _ _;rfl)) (hv 2)) a0c (by rfl)))) a0c (by rfl)) (by rfl))))) a0s) (@a0b _ _ _ _ _ (@s_if _ _ _ _ _ _ _ _ (@a0o _ _ _ _ _ _ _ _ (@a0G _ hr.units) (@h_ix _ _ _ _ _ _ (hv 1) a0e (by intro _ _;rfl)) a0W (a0m _)) (@a0g _ _ _ (@a0u _ _ _ _ (@a1j _ _ _ _ _ (@a0a _ _ _ _ _ (@a0q _ _ _ _ _ _ _ _ a1b (hv 2) a0e) (@a0a _ _ _ _ _ (@a0S _ _ _ _ _ _ _ _ _ (hv 3) a1D (@a1f _ _ _ (@h_un _ _ _ _ _ _ a0Y a0e))) a0c (by rfl)) (by rfl))))) a0s) (@a0b _ _ _ _ _ (@s_if _ _ _ _ _ _ _ _ (@a0o _ _ _ _ _ _ _ _ (@a0G _ hr.units) (@h_ix _ _ _ _ _ _ (hv 1) a0e (by intro _ _;rfl)) a0W (a0m _)) (@a0g _ _ _ (@a0u _ _ _ _ (@a1j _ _ _ _ _ (@a0a _ _ _ _ _ (hv 2) (@a0a _ _ _ _ _ (@a3i _ _ _ _ _ _ _ _ _ a4u Z.b_tuple PyProof.Rows.boot_tuple (@a0a _ _ _ _ _ (@a4K _ _ _ _ _ _ _ _ _ _ _ _ _ _ rfl (@a5s _ _ _ _ (hv 3)) (@a1i _ (a0i a2z) _ (["plait","move","strands","word"]) (["letter","strands"]) ([none,some 2]) (by decide +kernel) rfl rfl) a3G (fun _ _ _ _ _=>@a1C _ _ 0 _ (show List.Nodup (["letter","strands"]:List Str) by decide +kernel) rfl (Or.inl rfl) (Or.inr rfl)) (fun _ _ _ _ _=>a6q) (fun _ _ _ _ _=>(@a0q _ _ _ _ _ _ _ _ a1n (@a0n _ _ _ _ _ _ _ _ _ _ D__law_sign hr (@a0a _ _ _ _ _ (hv 0) a0c (by rfl)) (by rfl) (by decide) (by rfl) (by rfl)) (@a0q _ _ _ _ _ _ _ _ a1b (hv 1) (@a0k _ _ _ _ _ _ _ _ _ a0x Z.b_abs PyProof.Rows.boot_abs (@a0a _ _ _ _ _ (hv 0) a0c (by rfl)) (by rfl) (by decide) (by decide) (by rfl) (by rfl))))) (by intro _;rfl)) a0c (by rfl)) (by rfl) (by decide) (by decide) (by rfl) (by rfl)) a0c (by rfl)) (by rfl))))) a0s) (@a0b _ _ _ _ _ (@s_if _ _ _ _ _ _ _ _ (@a0o _ _ _ _ _ _ _ _ (@a0G _ hr.units) (@h_ix _ _ _ _ _ _ (hv 1) a0e (by intro _ _;rfl)) a0W (a0m _)) (@a0g _ _ _ (@a0u _ _ _ _ (@a1j _ _ _ _ _ (@a0a _ _ _ _ _ (hv 2) (@a0a _ _ _ _ _ (@a0q _ _ _ _ _ _ _ _ a0p (@a0S _ _ _ _ _ _ _ _ _ (hv 3) (@a1f _ _ _ a0e) a1D) (@a0S _ _ _ _ _ _ _ _ _ (hv 3) a1D (@a1f _ _ _ a0e))) a0c (by rfl)) (by rfl))))) a0s) (@a0b _ _ _ _ _ (@s_if _ _ _ _ _ _ _ _ (@a0o _ _ _ _ _ _ _ _ (@a0G _ hr.units) (@h_ix _ _ _ _ _ _ (hv 1) a0e (by intro _ _;rfl)) a0W (a0m _)) (@a0g _ _ _ (@a0u _ _ _ _ (@a1j _ _ _ _ _ (@a0a _ _ _ _ _ (hv 2) (@a0a _ _ _ _ _ (@a0q _ _ _ _ _ _ _ _ a0p (@a0S _ _ _ _ _ _ _ _ _ (hv 3) (@a1f _ _ _ (@h_un _ _ _ _ _ _ a0Y a0e)) a1D) (@a0S _ _ _ _ _ _ _ _ _ (hv 3) a1D (@a1f _ _ _ (@h_un _ _ _ _ _ _ a0Y a0e)))) a0c (by rfl)) (by rfl))))) a0s) (@a0g _ _ _ (@a0u _ _ _ _ (@a1j _ _ _ _ _ (@a0a _ _ _ _ _ (hv 2) (@a0a _ _ _ _ _ (@a0n _ _ _ _ _ _ _ _ _ _ D__law_after hr (@a0a _ _ _ _ _ (hv 2) (@a0a _ _ _ _ _ (hv 3) (@a0a _ _ _ _ _ (@h_ix _ _ _ _ _ _ (hv 1) a0e (by intro _ _;rfl)) a0c (by rfl)) (by rfl)) (by rfl)) (by rfl) (by decide) (by rfl) (by rfl)) a0c (by rfl)) (by rfl))))))))))),fun ts M Q h=>?_⟩
 unfold a2c at h
 split at h
 ·rename_i n w mt
  obtain⟨ws,m,rfl,rfl,ok,hw,h⟩:=h
  obtain⟨h1,h6,hl,ho⟩:=ok
  refine a0d fun K1 hK1=>?_
  walk_at "rd"
  rw[hK1]
  clear hK1
  cases m with
  | more k =>
    show a1G _ _ _ [some (.tup [.int n,.tup (ws.map .int)]),some (.tup [.str "more",.int k]),some (.int n),some (.tup (ws.map .int))] M
    refine a0d fun K2 hK2=>?_
    walk_at "rd"
    refine⟨rfl,rfl,by decide,?_⟩
    rw[if_pos (a0O _ rfl)]
    rw[a3c] at hw
    have hk:k=1∨k=-1:=by
     split at hw
     ·cases hw
     ·split at hw
      ·assumption
      ·cases hw
    have e5:List.map T.int ws++[T.int (k*n)]=(ws++[k*n]).map T.int:=by rw[List.map_append];rfl
    rw[e5]
    exact⟨.inl ⟨by lia,by lia⟩,by decide,a0H (by lia),by decide,a0h h⟩
  | less =>
    show a1G _ _ _ [some (.tup [.int n,.tup (ws.map .int)]),some (.tup [.str "less"]),some (.int n),some (.tup (ws.map .int))] M
    refine a0d fun K2 hK2=>?_
    walk_at "rd"
    refine⟨rfl,rfl,by decide,?_⟩
    rw[if_neg (by decide +kernel),hK2]
    clear hK2
    refine a0d fun K3 hK3=>?_
    walk_at "rd"
    refine⟨rfl,rfl,by decide,?_⟩
    rw[if_pos (a0O _ rfl)]
    rw[a2o] at hw
    have hw2:a6h n ws=true:=by
     split at hw
     ·assumption
     ·cases hw
    obtain⟨A,y,rfl,_,_⟩:=a3P.mp hw2
    rw[a5M,List.dropLast_concat] at h
    rw[a5f]
    exact⟨by decide,a0h h⟩
  | flip =>
    show a1G _ _ _ [some (.tup [.int n,.tup (ws.map .int)]),some (.tup [.str "flip"]),some (.int n),some (.tup (ws.map .int))] M
    refine a0d fun K2 hK2=>?_
    walk_at "rd"
    refine⟨rfl,rfl,by decide,?_⟩
    rw[if_neg (by decide +kernel),hK2]
    clear hK2
    refine a0d fun K3 hK3=>?_
    walk_at "rd"
    refine⟨rfl,rfl,by decide,?_⟩
    rw[if_neg (by decide +kernel),hK3]
    clear hK3
    refine a0d fun K4 hK4=>?_
    walk_at "rd"
    refine⟨rfl,rfl,by decide,?_⟩
    rw[if_pos (a0O _ rfl)]
    refine⟨fun i ys M'=>ys=((ws.take i).map (a1K n)).map T.int∧M'=M,⟨rfl,rfl⟩,fun _ _ _ _=>trivial,a0Q (by lia),?_,?_⟩
    ·rintro i x ys M' hx ⟨rfl,rfl⟩
     obtain⟨l,hl',rfl⟩:=a0N hx
     have lo:=ho l (List.mem_of_getElem? hl')
     unfold a0U
     dsimp only
     have e:=b8Q n l lo
     rw[e]
     unfold LetOK at lo
     have s1:=b6N l
     refine⟨.inl ⟨by lia,by lia⟩,?_,rfl⟩
     rw[← a1F (a1K n) hl',List.map_append];rfl
    ·rintro ys M' ⟨rfl,rfl⟩ p hp
     rw[List.take_length]
     exact⟨by decide,a0y (M0:=M') h (Sub.new hp)⟩
  | round =>
    show a1G _ _ _ [some (.tup [.int n,.tup (ws.map .int)]),some (.tup [.str "round"]),some (.int n),some (.tup (ws.map .int))] M
    refine a0d fun K2 hK2=>?_
    walk_at "rd"
    refine⟨rfl,rfl,by decide,?_⟩
    rw[if_neg (by decide +kernel),hK2]
    clear hK2
    refine a0d fun K3 hK3=>?_
    walk_at "rd"
    refine⟨rfl,rfl,by decide,?_⟩
    rw[if_neg (by decide +kernel),hK3]
    clear hK3
    refine a0d fun K4 hK4=>?_
    walk_at "rd"
    refine⟨rfl,rfl,by decide,?_⟩
    rw[if_neg (by decide +kernel),hK4]
    clear hK4
    refine a0d fun K5 hK5=>?_
    walk_at "rd"
    refine⟨rfl,rfl,by decide,?_⟩
    rw[if_pos (a0O _ rfl)]
    rw[a5e _ _ (by decide),a2q _ _ (by decide),← List.map_take,← List.map_drop,← List.map_append]
    show _∧_∧_
    exact⟨a0H (by rw[List.length_map,List.length_map,List.length_drop,List.length_take];lia),by decide,a0h h⟩
  | back =>
    show a1G _ _ _ [some (.tup [.int n,.tup (ws.map .int)]),some (.tup [.str "back"]),some (.int n),some (.tup (ws.map .int))] M
    refine a0d fun K2 hK2=>?_
    walk_at "rd"
    refine⟨rfl,rfl,by decide,?_⟩
    rw[if_neg (by decide +kernel),hK2]
    clear hK2
    refine a0d fun K3 hK3=>?_
    walk_at "rd"
    refine⟨rfl,rfl,by decide,?_⟩
    rw[if_neg (by decide +kernel),hK3]
    clear hK3
    refine a0d fun K4 hK4=>?_
    walk_at "rd"
    refine⟨rfl,rfl,by decide,?_⟩
    rw[if_neg (by decide +kernel),hK4]
    clear hK4
    refine a0d fun K5 hK5=>?_
    walk_at "rd"
    refine⟨rfl,rfl,by decide,?_⟩
    rw[if_neg (by decide +kernel),hK5]
    clear hK5
    refine a0d fun K6 hK6=>?_
    walk_at "rd"
    refine⟨rfl,rfl,by decide,?_⟩
    rw[if_pos (a0O _ rfl)]
    replace hw:(if ws.isEmpty=true then Why.step else Why.ok)=.ok:=hw
    obtain⟨A,y,rfl⟩:=a4B (w:=ws) (fun z=>by rw[z] at hw;cases hw)
    replace h:Q (ptT (n,a5h (A++[y])++(A++[y]).dropLast)) M:=h
    rw[a1Y,List.dropLast_concat] at h
    rw[a8a,a5f]
    rw[List.length_append,List.length_singleton] at hl
    show _∧_∧_
    exact⟨a0H (by rw[List.length_map,List.length_map,List.length_singleton];lia),by decide,by rw[← List.map_append];exact a0h h⟩
  | step s =>
    show a1G _ _ _ [some (.tup [.int n,.tup (ws.map .int)]),some (.tup [.str "step",.tup s.t]),some (.int n),some (.tup (ws.map .int))] M
    refine a0d fun K2 hK2=>?_
    walk_at "rd"
    refine⟨rfl,rfl,by decide,?_⟩
    rw[if_neg (by decide +kernel),hK2]
    clear hK2
    refine a0d fun K3 hK3=>?_
    walk_at "rd"
    refine⟨rfl,rfl,by decide,?_⟩
    rw[if_neg (by decide +kernel),hK3]
    clear hK3
    refine a0d fun K4 hK4=>?_
    walk_at "rd"
    refine⟨rfl,rfl,by decide,?_⟩
    rw[if_neg (by decide +kernel),hK4]
    clear hK4
    refine a0d fun K5 hK5=>?_
    walk_at "rd"
    refine⟨rfl,rfl,by decide,?_⟩
    rw[if_neg (by decide +kernel),hK5]
    clear hK5
    refine a0d fun K6 hK6=>?_
    walk_at "rd"
    refine⟨rfl,rfl,by decide,?_⟩
    rw[if_neg (by decide +kernel),hK6]
    clear hK6
    walk_at "rd"
    rw[a3b] at hw
    rw[a4J] at h
    cases e:aft n ws s with
    | none=>rw[e] at hw;cases hw
    | some r =>
      rw[e] at h
      refine⟨ws,s,rfl,rfl,by lia,h6,ho,?_⟩
      rw[e]
      exact⟨by decide,a0h h⟩
 ·exact h.elim
noncomputable def a2b:Sp3:=fun ts M Q=>match ts with
 | [.tup [.int n,.tup w],.tup mt]=>∃ (ws:List Int) (m:Mv),w=ws.map .int∧mt=m.t∧PlOK n ws∧Q (.str (a2k n ws m).s) M
 | _=>False
theorem a7b {P w K base f fd} {mg:Str→Option Value} {n:Nat}  (F:Fun K "_law_why_not" "_law_why_not" a1M f fd) (hm:mg "_law_why_not"=some (.ref f)) (hb:a0M K fd ["plait","move"] []) (Z:Zs mg) (D__law_after:Df P w K mg base n "_law_after" ["strands","word","step"] a1I):Df P w K mg base (n+1) "_law_why_not" ["plait","move"] a2b:=by
 refine F.dfn hm hb a1z (by unfold a2b;walk_at "ln") ⟨_,fun cdv A outer s H E hr=>(@a0b _ _ _ _ _ (@a8q _ _ _ _ _ _ (hv 0) (@a9Z _ _ _ _ _ 2 rfl (@a1p _ _ _ _ _ (a0V (i:=2) a1z.nd) (@a1p _ _ _ _ _ (a0V (i:=3) a1z.nd) a6y (by rfl)) (by rfl)) (by rfl) (by rfl)) (by rfl) (by rfl) (by rfl)) (@a0b _ _ _ _ _ (@s_if _ _ _ _ _ _ _ _ (@a0o _ _ _ _ _ _ _ _ (@a0G _ hr.units) (@h_ix _ _ _ _ _ _ (hv 1) a0e (by intro _ _;rfl)) a0W (a0m _)) (@a0b _ _ _ _ _ (@s_if _ _ _ _ _ _ _ _ (@HW.ht _ _ _ (@w_or _ _ _ _ _ _ _ (@a0o _ _ _ _ _ _ _ _ (@a0G _ hr.units) (hv 2) a0e (a0m _)) (@a5X _ _ _ _ (@a0o _ _ _ _ _ _ _ _ (@a0G _ hr.units) (@a0k _ _ _ _ _ _ _ _ _ a0r Z.b_len PySem.boot_len (@a0a _ _ _ _ _ (hv 3) a0c (by rfl)) (by rfl) (by decide) (by decide) (by rfl) (by rfl)) a0e (a0m _))))) (@a0g _ _ _ (@a0u _ _ _ _ a0W)) a0s) (@a0g _ _ _ (@a0u _ _ _ _ (@h_ix _ _ _ _ _ _ (@a2C _ _ _ _ (@a0a _ _ _ _ _ a0W (@a0a _ _ _ _ _ a0W a0c (by rfl)) (by rfl))) (@a3i _ _ _ _ _ _ _ _ _ a3R Z.b_int PyProof.Rows.boot_int (@a0a _ _ _ _ _ (@a5Q _ _ _ _ _ _ _ _ b7c (@h_ix _ _ _ _ _ _ (hv 1) a0e (by intro _ _;rfl)) (@a2C _ _ _ _ (@a0a _ _ _ _ _ a0e (@a0a _ _ _ _ _ (@h_un _ _ _ _ _ _ a0Y a0e) a0c (by rfl)) (by rfl))) rfl) a0c (by rfl)) (by rfl) (by decide) (by decide) (by rfl) (by rfl)) (by intro _ _;rfl))))) a0s) (@a0b _ _ _ _ _ (@s_if _ _ _ _ _ _ _ _ (@a0o _ _ _ _ _ _ _ _ (@a0G _ hr.units) (@h_ix _ _ _ _ _ _ (hv 1) a0e (by intro _ _;rfl)) a0W (a0m _)) (@a0b _ _ _ _ _ (@b6P _ _ _ _ _ _ _ _ _ _ _ _ _ _ 4 _ _ _ rfl (@a5s _ _ _ _ (hv 3)) (@a1i _ (a0i a1M) _ (["plait","move","strands","word","last","there"]) (["letter","strands"]) ([none,some 2]) (by decide +kernel) rfl rfl) a3G (fun _ _ _ _ _=>@a1C _ _ 0 _ (show List.Nodup (["letter","strands"]:List Str) by decide +kernel) rfl (Or.inl rfl) (Or.inr rfl)) (fun _ _ _ _ _=>a9d (@a0o _ _ _ _ _ _ _ _ (@a0G _ hr.units) (@a0k _ _ _ _ _ _ _ _ _ a0x Z.b_abs PyProof.Rows.boot_abs (@a0a _ _ _ _ _ (hv 0) a0c (by rfl)) (by rfl) (by decide) (by decide) (by rfl) (by rfl)) (@a0q _ _ _ _ _ _ _ _ a1b (hv 1) a0e) (a0m _))) (fun _ _ _ _ _=>(hv 0)) a1z.nd (by rfl) (by walk_at "2") (by rfl) (by intro _;rfl) (by walk_at "4")) (@a0g _ _ _ (@a0u _ _ _ _ (@h_ix _ _ _ _ _ _ (@a2C _ _ _ _ (@a0a _ _ _ _ _ a0W (@a0a _ _ _ _ _ a0W a0c (by rfl)) (by rfl))) (@a3i _ _ _ _ _ _ _ _ _ a3R Z.b_int PyProof.Rows.boot_int (@a0a _ _ _ _ _ (@c0I _ _ _ _ _ _ _ (@a5Q _ _ _ _ _ _ _ _ (@a0G _ hr.units) (@a0k _ _ _ _ _ _ _ _ _ a0r Z.b_len PySem.boot_len (@a0a _ _ _ _ _ (hv 4) a0c (by rfl)) (by rfl) (by decide) (by decide) (by rfl) (by rfl)) a0e (a0m _)) (@b6m _ _ _ _ _ (@a5Q _ _ _ _ _ _ _ _ (@a0G _ hr.units) (@h_ix _ _ _ _ _ _ (hv 4) a0e (by intro _ _;rfl)) (@h_ix _ _ _ _ _ _ (hv 3) (@h_un _ _ _ _ _ _ a0Y a0e) (by intro _ _;rfl)) (a0m _)))) a0c (by rfl)) (by rfl) (by decide) (by decide) (by rfl) (by rfl)) (by intro _ _;rfl))))) a0s) (@a0b _ _ _ _ _ (@s_if _ _ _ _ _ _ _ _ (@a0o _ _ _ _ _ _ _ _ b7c (@h_ix _ _ _ _ _ _ (hv 1) a0e (by intro _ _;rfl)) (@a2C _ _ _ _ (@a0a _ _ _ _ _ a0W (@a0a _ _ _ _ _ a0W a0c (by rfl)) (by rfl))) rfl) (@a0g _ _ _ (@a0u _ _ _ _ (@h_ix _ _ _ _ _ _ (@a2C _ _ _ _ (@a0a _ _ _ _ _ a0W (@a0a _ _ _ _ _ a0W a0c (by rfl)) (by rfl))) (@a3i _ _ _ _ _ _ _ _ _ a3R Z.b_int PyProof.Rows.boot_int (@a0a _ _ _ _ _ (@a5Q _ _ _ _ _ _ _ _ a3O (@a0k _ _ _ _ _ _ _ _ _ a0r Z.b_len PySem.boot_len (@a0a _ _ _ _ _ (hv 3) a0c (by rfl)) (by rfl) (by decide) (by decide) (by rfl) (by rfl)) a0e (a0m _)) a0c (by rfl)) (by rfl) (by decide) (by decide) (by rfl) (by rfl)) (by intro _ _;rfl)))) a0s) (@a0b _ _ _ _ _ (@s_if _ _ _ _ _ _ _ _ (@a0o _ _ _ _ _ _ _ _ (@a0G _ hr.units) (@h_ix _ _ _ _ _ _ (hv 1) a0e (by intro _ _;rfl)) a0W (a0m _)) (@a0g _ _ _ (@a0u _ _ _ _ a0W)) a0s) (@a0b _ _ _ _ _ (@a0I _ _ _ _ 5 _ _ (@a0n _ _ _ _ _ _ _ _ _ _ D__law_after hr (@a0a _ _ _ _ _ (hv 2) (@a0a _ _ _ _ _ (hv 3) (@a0a _ _ _ _ _ (@h_ix _ _ _ _ _ _ (hv 1) a0e (by intro _ _;rfl)) a0c (by rfl)) (by rfl)) (by rfl)) (by rfl) (by decide) (by rfl) (by rfl)) a1z.nd (by rfl) (by walk_at "2") (by rfl) (by walk_at "4")) (@a0b _ _ _ _ _ (@s_if _ _ _ _ _ _ _ _ (@a0o _ _ _ _ _ _ _ _ b7b (hv 5) a6i (a0m _)) (@a0g _ _ _ (@a0u _ _ _ _ a0W)) a0s) (@a0g _ _ _ (@a0u _ _ _ _ (@h_ix _ _ _ _ _ _ (@a2C _ _ _ _ (@a0a _ _ _ _ _ a0W (@a0a _ _ _ _ _ a0W a0c (by rfl)) (by rfl))) (@a3i _ _ _ _ _ _ _ _ _ a3R Z.b_int PyProof.Rows.boot_int (@a0a _ _ _ _ _ (@a5Q _ _ _ _ _ _ _ _ a3O (@a0k _ _ _ _ _ _ _ _ _ a0r Z.b_len PySem.boot_len (@a0a _ _ _ _ _ (hv 5) a0c (by rfl)) (by rfl) (by decide) (by decide) (by rfl) (by rfl)) a0e (a0m _)) a0c (by rfl)) (by rfl) (by decide) (by decide) (by rfl) (by rfl)) (by intro _ _;rfl))))))))))),fun ts M Q h=>?_⟩
 unfold a2b at h
 split at h
 ·rename_i n w mt
  obtain⟨ws,m,rfl,rfl,ok,h⟩:=h
  obtain⟨h1,h6,hl,ho⟩:=ok
  refine a0d fun K1 hK1=>?_
  walk_at "rd"
  rw[hK1]
  clear hK1
  cases m with
  | more k =>
    show a1G _ _ _ [some (.tup [.int n,.tup (ws.map .int)]),some (.tup [.str "more",.int k]),some (.int n),some (.tup (ws.map .int)),none,none] M
    refine a0d fun K2 hK2=>?_
    walk_at "rd"
    refine⟨rfl,rfl,by decide,?_⟩
    rw[if_pos (a0O _ rfl)]
    rw[a3c] at h
    refine ite2 (fun c=>?_) (fun c=>ite2 (fun c2=>?_) (fun c2=>?_))
    ·rw[if_pos (.inl c)] at h;exact a0h h
    ·rw[if_pos (.inr (by lia))] at h;exact a0h h
    ·rw[if_neg (by lia)] at h
     refine⟨by decide,fun p hp=>⟨by decide,fun p1 hp1=>⟨rfl,rfl,?_⟩⟩⟩
     have n1:p≠p1:=fun z=>by rw[← z,a0f] at hp1;cases hp1
     have hS:Sub M (updM (updM M p (MO.lst [T.str "step",T.str ""])) p1 (MO.lst [T.int 1,T.int (-1)])):=(Sub.new hp).newr hp1
     have e:inT (T.int k) [T.int 1,T.int (-1)]=decide (k=1∨k=-1):=by
      unfold inT
      rw[List.any_cons,List.any_cons,List.any_nil,Bool.or_false,a3F,a3F,Bool.eq_iff_iff,Bool.or_eq_true,decide_eq_true_eq,decide_eq_true_eq,decide_eq_true_eq]
      constructor<;>(rintro (rfl | rfl)<;>simp)
     rw[a0t n1,a0f,e]
     by_cases c4:k=1∨k=-1
     ·rw[if_pos c4] at h
      rw[decide_eq_true c4]
      exact a0y h hS
     ·rw[if_neg c4] at h
      rw[decide_eq_false c4]
      exact a0y h hS
  | less =>
    show a1G _ _ _ [some (.tup [.int n,.tup (ws.map .int)]),some (.tup [.str "less"]),some (.int n),some (.tup (ws.map .int)),none,none] M
    refine a0d fun K2 hK2=>?_
    walk_at "rd"
    refine⟨rfl,rfl,by decide,?_⟩
    rw[if_neg (by decide +kernel),hK2]
    clear hK2
    refine a0d fun K3 hK3=>?_
    walk_at "rd"
    refine⟨rfl,rfl,by decide,?_⟩
    rw[if_pos (a0O _ rfl)]
    rw[a2o,a9T] at h
    refine⟨fun i ys M'=>ys=((ws.take i).filter fun l=>decide ((l.natAbs:Int)=n - 1)).map .int∧M'=M,⟨rfl,rfl⟩,fun _ _ _ _=>trivial,a0Q (by lia),?_,?_⟩
    ·rintro i x ys M' hx ⟨rfl,rfl⟩
     obtain⟨l,hl',rfl⟩:=a0N hx
     dsimp only
     have e:(ws.take (i+1)).filter (fun l=>decide ((l.natAbs:Int)=n - 1))=(ws.take i).filter (fun l=>decide ((l.natAbs:Int)=n - 1))++if (l.natAbs:Int)=n - 1 then [l] else []:=by
      rw[List.take_add_one,hl',Option.toList_some,List.filter_append,List.filter_cons,List.filter_nil]
      simp only[decide_eq_true_eq]
     refine ite2 (fun c=>⟨?_,rfl⟩) (fun c=>⟨?_,rfl⟩)
     ·rw[e,if_pos c,List.map_append];rfl
     ·rw[e,if_neg c,List.append_nil]
    ·rintro ys M' ⟨rfl,rfl⟩ p hp
     rw[List.take_length]
     refine⟨by decide,fun p1 hp1=>?_⟩
     have n1:p≠p1:=fun z=>by rw[← z,a0f] at hp1;cases hp1
     have hS:Sub M' (updM (updM M' p (MO.lst ((ws.filter fun l=>decide ((l.natAbs:Int)=n - 1)).map .int))) p1 (MO.lst [T.str "step",T.str ""])):=(Sub.new hp).newr hp1
     rw[a0t n1,a0f]
     cases hF:ws.filter fun l=>decide ((l.natAbs:Int)=n - 1) with
     | nil =>
       rw[hF] at h hS
       dsimp only
       rw[if_neg (by decide)]
       exact a0y h hS
     | cons x X =>
       have hx:x∈ws:=(List.mem_filter.mp (by rw[hF];exact List.mem_cons_self)).1
       obtain⟨A,y,e⟩:=a4B (w:=ws) (fun z=>by rw[z] at hx;cases hx)
       cases X with
       | nil =>
         rw[hF] at h hS
         have e2:atI (List.map T.int ws) (-1)=some (.int y):=by rw[e,List.map_append];exact b2p _ _
         have e3:a5h ws=[y]:=by rw[e,a1Y]
         have h2:Q (.str (if decide ([y]=[x])=true then Why.ok else Why.step).s) M':=by rw[← e3];exact h
         rw[show List.map T.int [x]=[T.int x] from rfl] at hS⊢
         dsimp only
         rw[if_pos (show ((([T.int x]:List T).length:Nat):Int)=1 from rfl),c0T,e2]
         dsimp only
         refine⟨rfl,rfl,Nat.zero_le _,?_⟩
         rw[a3F]
         by_cases c:x=y
         ·rw[decide_eq_true (by rw[c])] at h2
          rw[decide_eq_true c]
          exact a0y h2 hS
         ·rw[decide_eq_false (fun z=>c (List.cons.inj z).1.symm)] at h2
          rw[decide_eq_false c]
          exact a0y h2 hS
       | cons x2 X2 =>
         rw[hF] at h hS
         dsimp only
         rw[if_neg (by rw[List.length_map,List.length_cons,List.length_cons];lia)]
         exact a0y h hS
  | round =>
    show a1G _ _ _ [some (.tup [.int n,.tup (ws.map .int)]),some (.tup [.str "round"]),some (.int n),some (.tup (ws.map .int)),none,none] M
    refine a0d fun K2 hK2=>?_
    walk_at "rd"
    refine⟨rfl,rfl,by decide,?_⟩
    rw[if_neg (by decide +kernel),hK2]
    clear hK2
    refine a0d fun K3 hK3=>?_
    walk_at "rd"
    refine⟨rfl,rfl,by decide,?_⟩
    rw[if_neg (by decide +kernel),hK3]
    clear hK3
    refine a0d fun K4 hK4=>?_
    walk_at "rd"
    refine⟨by decide,fun p hp=>⟨rfl,rfl,?_⟩⟩
    rw[if_pos (by decide +kernel)]
    refine⟨by decide,fun p1 hp1=>?_⟩
    have hS:Sub M (updM (updM M p (MO.lst [T.str "round",T.str "back"])) p1 (MO.lst [T.str "step",T.str ""])):=(Sub.new hp).newr hp1
    replace h:Q (.str (if ws.isEmpty=true then Why.step else Why.ok).s) M:=h
    cases ws with
    | nil=>rw[if_neg (by decide)];exact a0y h hS
    | cons x B=>rw[if_pos (by rw[List.length_cons];lia)];exact a0y h hS
  | back =>
    show a1G _ _ _ [some (.tup [.int n,.tup (ws.map .int)]),some (.tup [.str "back"]),some (.int n),some (.tup (ws.map .int)),none,none] M
    refine a0d fun K2 hK2=>?_
    walk_at "rd"
    refine⟨rfl,rfl,by decide,?_⟩
    rw[if_neg (by decide +kernel),hK2]
    clear hK2
    refine a0d fun K3 hK3=>?_
    walk_at "rd"
    refine⟨rfl,rfl,by decide,?_⟩
    rw[if_neg (by decide +kernel),hK3]
    clear hK3
    refine a0d fun K4 hK4=>?_
    walk_at "rd"
    refine⟨by decide,fun p hp=>⟨rfl,rfl,?_⟩⟩
    rw[if_pos (by decide +kernel)]
    refine⟨by decide,fun p1 hp1=>?_⟩
    have hS:Sub M (updM (updM M p (MO.lst [T.str "round",T.str "back"])) p1 (MO.lst [T.str "step",T.str ""])):=(Sub.new hp).newr hp1
    replace h:Q (.str (if ws.isEmpty=true then Why.step else Why.ok).s) M:=h
    cases ws with
    | nil=>rw[if_neg (by decide)];exact a0y h hS
    | cons x B=>rw[if_pos (by rw[List.length_cons];lia)];exact a0y h hS
  | flip =>
    show a1G _ _ _ [some (.tup [.int n,.tup (ws.map .int)]),some (.tup [.str "flip"]),some (.int n),some (.tup (ws.map .int)),none,none] M
    refine a0d fun K2 hK2=>?_
    walk_at "rd"
    refine⟨rfl,rfl,by decide,?_⟩
    rw[if_neg (by decide +kernel),hK2]
    clear hK2
    refine a0d fun K3 hK3=>?_
    walk_at "rd"
    refine⟨rfl,rfl,by decide,?_⟩
    rw[if_neg (by decide +kernel),hK3]
    clear hK3
    refine a0d fun K4 hK4=>?_
    walk_at "rd"
    refine⟨by decide,fun p hp=>⟨rfl,rfl,?_⟩⟩
    rw[if_neg (by decide +kernel),hK4]
    clear hK4
    refine a0d fun K5 hK5=>?_
    walk_at "rd"
    refine⟨rfl,rfl,by decide,?_⟩
    rw[if_pos (a0O _ rfl)]
    exact a0y h (Sub.new hp)
  | step s =>
    show a1G _ _ _ [some (.tup [.int n,.tup (ws.map .int)]),some (.tup [.str "step",.tup s.t]),some (.int n),some (.tup (ws.map .int)),none,none] M
    refine a0d fun K2 hK2=>?_
    walk_at "rd"
    refine⟨rfl,rfl,by decide,?_⟩
    rw[if_neg (by decide +kernel),hK2]
    clear hK2
    refine a0d fun K3 hK3=>?_
    walk_at "rd"
    refine⟨rfl,rfl,by decide,?_⟩
    rw[if_neg (by decide +kernel),hK3]
    clear hK3
    refine a0d fun K4 hK4=>?_
    walk_at "rd"
    refine⟨by decide,fun p hp=>⟨rfl,rfl,?_⟩⟩
    rw[if_neg (by decide +kernel),hK4]
    clear hK4
    have hS:=Sub.new hp (o:=MO.lst [T.str "round",T.str "back"])
    generalize updM M p (MO.lst [T.str "round",T.str "back"])=M1 at hS⊢
    refine a0d fun K5 hK5=>?_
    walk_at "rd"
    refine⟨rfl,rfl,by decide,?_⟩
    rw[if_neg (by decide +kernel),hK5]
    clear hK5
    walk_at "rd"
    rw[a3b] at h
    refine⟨ws,s,rfl,rfl,by lia,h6,ho,?_⟩
    cases e:aft n ws s with
    | none =>
      rw[e] at h
      unfold optT
      dsimp only
      refine ite2 (fun _=>a0y h hS) (fun c=>absurd rfl c)
    | some r =>
      rw[e] at h
      unfold optT
      dsimp only at h⊢
      refine ite2 (fun c=>Bool.noConfusion (show false=true from c)) (fun _=>⟨by decide,fun p1 hp1=>?_⟩)
      rw[List.length_map]
      by_cases c:16 < r.length
      ·rw[if_pos c] at h
       rw[if_pos (by lia)]
       exact a0y h (hS.newr hp1)
      ·rw[if_neg c] at h
       rw[if_neg (by lia)]
       exact a0y h (hS.newr hp1)
 ·exact h.elim
noncomputable def a1P:Sp3:=fun ts M Q=>match ts with
 | [.adr p,.tup [.int n,.tup w],.int m]=>∃ (ws:List Int) (s f:Int),M p=some (.lst [.int s,.int f])∧w=ws.map .int∧1≤n∧n≤6∧ws.length≤100∧WordOK n ws∧∀ (mv:Mv) s' f',Q (mvT mv) (updM M p (.lst [.int s',.int f']))
 | _=>False
theorem a6B {P w K base f fd} {mg:Str→Option Value} {n:Nat}  (F:Fun K "_law_any_move" "_law_any_move" a2h f fd) (hm:mg "_law_any_move"=some (.ref f)) (hb:a0M K fd ["state","plait","longest"] []) (Z:Zs mg) (D__law_take:Df P w K mg base n "_law_take" ["state","many"] a0Z) (D__law_any_step:Df P w K mg base n "_law_any_step" ["state","strands","word","longest"] a1O):Df P w K mg base (n+1) "_law_any_move" ["state","plait","longest"] a1P:=by
 refine F.dfn hm hb a0R (by unfold a1P;walk_at "ln") ⟨_,fun cdv A outer s H E hr=>(@a0b _ _ _ _ _ (@a8q _ _ _ _ _ _ (hv 1) (@a9Z _ _ _ _ _ 2 rfl (@a1p _ _ _ _ _ (a0V (i:=3) a0R.nd) (@a1p _ _ _ _ _ (a0V (i:=4) a0R.nd) a6y (by rfl)) (by rfl)) (by rfl) (by rfl)) (by rfl) (by rfl) (by rfl)) (@a0b _ _ _ _ _ (@a0I _ _ _ _ 5 _ _ (@a2C _ _ _ _ (@a4P _ _ _ _ _ _ _ (@a1j _ _ _ _ _ (@a0a _ _ _ _ _ a0W a0c (by rfl))) (@a4P _ _ _ _ _ _ _ (@a1j _ _ _ _ _ (@a0a _ _ _ _ _ a0W a0c (by rfl))) (@a4P _ _ _ _ _ _ _ (@a1j _ _ _ _ _ (@a0a _ _ _ _ _ a0W a0c (by rfl))) (@a4P _ _ _ _ _ _ _ (@a1j _ _ _ _ _ (@a0a _ _ _ _ _ a0W a0c (by rfl))) (@a4P _ _ _ _ _ _ _ (@a1j _ _ _ _ _ (@a0a _ _ _ _ _ a0W (@a0a _ _ _ _ _ a0e a0c (by rfl)) (by rfl))) (@a4P _ _ _ _ _ _ _ (@a1j _ _ _ _ _ (@a0a _ _ _ _ _ a0W (@a0a _ _ _ _ _ (@h_un _ _ _ _ _ _ a0Y a0e) a0c (by rfl)) (by rfl))) a0c))))))) a0R.nd rfl (by first | exact Or.inl rfl | exact Or.inr rfl) rfl (by first | exact .inl rfl | exact .inr rfl | assumption)) (@a0b _ _ _ _ _ (@a0I _ _ _ _ 6 _ _ (@h_ix _ _ _ _ _ _ (hv 5) (@a0n _ _ _ _ _ _ _ _ _ _ D__law_take hr (@a0a _ _ _ _ _ (hv 0) (@a0a _ _ _ _ _ a0e a0c (by rfl)) (by rfl)) (by rfl) (by decide) (by rfl) (by rfl)) (by intro _ _;rfl)) a0R.nd (by rfl) (by walk_at "2") (by rfl) (by walk_at "4")) (@a0b _ _ _ _ _ (@s_if _ _ _ _ _ _ _ _ (@a0o _ _ _ _ _ _ _ _ (@a0G _ hr.units) (@a0n _ _ _ _ _ _ _ _ _ _ D__law_take hr (@a0a _ _ _ _ _ (hv 0) (@a0a _ _ _ _ _ a0e a0c (by rfl)) (by rfl)) (by rfl) (by decide) (by rfl) (by rfl)) a0e (a0m _)) (@a0b _ _ _ _ _ (@a0I _ _ _ _ 7 _ _ (@a0n _ _ _ _ _ _ _ _ _ _ D__law_any_step hr (@a0a _ _ _ _ _ (hv 0) (@a0a _ _ _ _ _ (hv 3) (@a0a _ _ _ _ _ (hv 4) (@a0a _ _ _ _ _ (hv 2) a0c (by rfl)) (by rfl)) (by rfl)) (by rfl)) (by rfl) (by decide) (by rfl) (by rfl)) a0R.nd (by rfl) (by walk_at "2") (by rfl) (by walk_at "4")) (@a0g _ _ _ (@s_if _ _ _ _ _ _ _ _ (@a0o _ _ _ _ _ _ _ _ a9A (hv 7) a6i (a0m _)) (@a0g _ _ _ (@a0I _ _ _ _ 6 _ _ (@a1j _ _ _ _ _ (@a0a _ _ _ _ _ a0W (@a0a _ _ _ _ _ (hv 7) a0c (by rfl)) (by rfl))) a0R.nd (by rfl) (by walk_at "2") (by rfl) (by walk_at "4"))) a0s))) a0s) (@a0g _ _ _ (@a0u _ _ _ _ (hv 6))))))),fun ts M Q h=>?_⟩
 unfold a1P at h
 split at h
 ·rename_i p n w m
  obtain⟨ws,s,f,hM,rfl,h1,h6,hl,hw,h⟩:=h
  refine a4U fun K3 hK3=>?_
  walk_at "rd"
  refine⟨by decide,by decide,by decide,by decide,by decide,by decide,by decide,fun p1 hp1=>?_⟩
  have n1:p≠p1:=fun z=>by rw[← z,hM] at hp1;cases hp1
  refine⟨s,f,by rw[a0t n1,hM],by decide,by decide,fun c s2 f2 c0 c1=>?_⟩
  obtain⟨mv,e⟩:∃ mv:Mv,atI [T.tup [T.str "flip"],T.tup [T.str "round"],T.tup [T.str "back"],T.tup [T.str "less"],T.tup [T.str "more",T.int 1],T.tup [T.str "more",T.int (-1)]] c=some (mvT mv):=by
   rcases (show c=0∨c=1∨c=2∨c=3∨c=4∨c=5 by lia) with rfl | rfl | rfl | rfl | rfl | rfl
   ·exact⟨.flip,rfl⟩
   ·exact⟨.round,rfl⟩
   ·exact⟨.back,rfl⟩
   ·exact⟨.less,rfl⟩
   ·exact⟨.more 1,rfl⟩
   ·exact⟨.more (-1),rfl⟩
  dsimp only
  rw[a0t n1.symm,a0f]
  dsimp only
  rw[e]
  dsimp only
  have hS:Sub (updM M p (.lst [.int s2,.int f2])) (updM (updM M p1 (MO.lst [T.tup [T.str "flip"],T.tup [T.str "round"],T.tup [T.str "back"],T.tup [T.str "less"],T.tup [T.str "more",T.int 1],T.tup [T.str "more",T.int (-1)]])) p (MO.lst [T.int s2,T.int f2])):=by
   have h0:Sub (updM M p (.lst [.int s,.int f])) (updM M p1 (MO.lst [T.tup [T.str "flip"],T.tup [T.str "round"],T.tup [T.str "back"],T.tup [T.str "less"],T.tup [T.str "more",T.int 1],T.tup [T.str "more",T.int (-1)]])):=by rw[a6P hM];exact Sub.new hp1
   exact h0.set
  generalize updM (updM M p1 (MO.lst [T.tup [T.str "flip"],T.tup [T.str "round"],T.tup [T.str "back"],T.tup [T.str "less"],T.tup [T.str "more",T.int 1],T.tup [T.str "more",T.int (-1)]])) p (MO.lst [T.int s2,T.int f2])=M2 at hS⊢
  rw[hK3]
  clear hK3
  refine a0d fun K4 hK4=>?_
  have hk:∀ (mv:Mv) (a:Option T) M4 s4 f4,Sub (updM M p (.lst [.int s4,.int f4])) M4→K4 [some (.adr p),some (.tup [.int n,.tup (ws.map .int)]),some (.int m),some (.int n),some (.tup (ws.map .int)),some (.adr p1),some (mvT mv),a] M4:=by
   intro mv a M4 s4 f4 hS4
   rw[hK4]
   clear hK4
   walk_at "rd"
   exact a0y (h mv s4 f4) hS4
  walk_at "rd"
  refine⟨s2,f2,hS _ _ a0f,by decide,by decide,fun d s3 f3 d0 d1=>⟨rfl,Nat.zero_le _,ite2 (fun hd=>?_) (fun hd=>hk mv _ _ s3 f3 hS.set)⟩⟩
  refine⟨ws,s3,f3,a0f,rfl,h1,h6,hl,hw,fun s5 f5=>?_,fun st r s5 f5 hst hr=>?_⟩
  ·simp only[a5A]
   refine ite2 (fun c=>Bool.noConfusion (show true=false from c)) (fun c=>hk mv _ _ s5 f5 hS.set)
  ·simp only[a5A]
   refine ite2 (fun c=>⟨by decide,hk (.step st) _ _ s5 f5 hS.set⟩) (fun c=>absurd trivial c)
 ·exact h.elim
noncomputable def okB (B:Int) (p:Int × List Int):List Mv→Prop
 | []=>p.1≤B
 | m :: L=>p.1≤B∧okB B (mvTo p.1 p.2 m) L
theorem b1T {B:Int} {m:Mv}:∀ {A:List Mv} {n:Int} {w:List Int} {p:Int × List Int},mvs n w A=some p→okB B (n,w) A→(mvTo p.1 p.2 m).1≤B→okB B (n,w) (A++[m])
 | [],n,w,p,h,a,b=>by obtain rfl:=Option.some.inj h;exact⟨a,b⟩
 | x :: A,n,w,p,h,a,b=>by
   rw[a2u] at h
   cases e:a2k n w x with
   | ok=>rw[e] at h;exact⟨a.1,b1T (A:=A) h a.2 b⟩
   | step=>rw[e] at h;cases h
   | room=>rw[e] at h;cases h
noncomputable def a2N:Sp3:=fun ts M Q=>match ts with
 | [.adr p,.tup [.int n,.tup w],.int k,.int mo,.int lo]=>∃ (ws:List Int) (s f:Int),M p=some (.lst [.int s,.int f])∧w=ws.map .int∧PlOK n ws∧0≤k∧k≤30∧∀ (L:List Mv) (r:Int × List Int) s' f',mvs n ws L=some r→okB (max n mo) (n,ws) L→(L.length:Int)≤k→r.1≤max n mo→∀ q,M q=none→Q (.tup [.adr q,ptT r]) (updM (updM M p (.lst [.int s',.int f'])) q (.lst (L.map mvT)))
 | _=>False
theorem b6a (mv:Mv):∃ z r,mvT mv=.tup (.str z :: r)∧(eqT (.str z) (.str "more")=true∨∀ n w,(mvTo n w mv).1≤n):=by
 cases mv with
 | more k=>exact⟨_,_,rfl,.inl (by decide +kernel)⟩
 | step s=>exact⟨_,_,rfl,.inr fun n w=>Int.le_refl _⟩
 | round=>exact⟨_,_,rfl,.inr fun n w=>Int.le_refl _⟩
 | back=>exact⟨_,_,rfl,.inr fun n w=>Int.le_refl _⟩
 | flip=>exact⟨_,_,rfl,.inr fun n w=>Int.le_refl _⟩
 | less=>exact⟨_,_,rfl,.inr fun n w=>show n - 1≤n by lia⟩
theorem c1D (n:Int) (w:List Int) (mv:Mv):(mvTo n w mv).1≤n+1:=by
 cases mv with
 | more k=>exact Int.le_refl _
 | less=>exact (show n - 1≤n+1 by lia)
 | _=>exact (show n≤n+1 by lia)
theorem b7f:∀ {L:List Mv} {n:Int} {w:List Int} {p:Int × List Int},PlOK n w→mvs n w L=some p→PlOK p.1 p.2
 | [],n,w,p,ok,h=>by obtain rfl:=Option.some.inj h;exact ok
 | m :: L,n,w,p,ok,h=>by
   rw[a2u] at h
   cases e:a2k n w m with
   | ok=>rw[e] at h;exact b7f (b5Z ok e).1 h
   | step=>rw[e] at h;cases h
   | room=>rw[e] at h;cases h
theorem b5Y {A:List Mv} {m:Mv} {n:Int} {w:List Int} {p:Int × List Int} (h:mvs n w A=some p) (hm:a2k p.1 p.2 m=.ok):mvs n w (A++[m])=some (mvTo p.1 p.2 m):=by
 rw[a6f,h]
 show mvs p.1 p.2 [m]=_
 rw[a2u,hm]
 rfl
theorem a8F {P w K base f fd} {mg:Str→Option Value} {n:Nat}  (F:Fun K "_law_moves" "_law_moves" a3A f fd) (hm:mg "_law_moves"=some (.ref f)) (hb:a0M K fd ["state","plait","many","most","longest"] []) (Z:Zs mg) (D__law_any_move:Df P w K mg base n "_law_any_move" ["state","plait","longest"] a1P) (D__law_why_not:Df P w K mg base n "_law_why_not" ["plait","move"] a2b) (D__law_moved:Df P w K mg base n "_law_moved" ["plait","move"] a2c):Df P w K mg base (n+1) "_law_moves" ["state","plait","many","most","longest"] a2N:=by
 refine F.dfn hm hb a1J (by unfold a2N;walk_at "ln") ⟨_,fun cdv A outer s H E hr=>(@a0b _ _ _ _ _ (@a0I _ _ _ _ 5 _ _ (@a2C _ _ _ _ a0c) a1J.nd (by rfl) (by walk_at "2") (by rfl) (by walk_at "4")) (@a0b _ _ _ _ _ (@a5g _ _ _ _ _ _ _ _ PassesOwn.never rfl (@a2X _ _ _ _ _ _ Z.b_range (@a0a _ _ _ _ _ (hv 2) a0c (by rfl)) (by rfl) (by rfl)) (a0V (i:=6) a1J.nd) (@a0b _ _ _ _ _ (@a0I _ _ _ _ 7 _ _ (@a0n _ _ _ _ _ _ _ _ _ _ D__law_any_move hr (@a0a _ _ _ _ _ (hv 0) (@a0a _ _ _ _ _ (hv 1) (@a0a _ _ _ _ _ (hv 4) a0c (by rfl)) (by rfl)) (by rfl)) (by rfl) (by decide) (by rfl) (by rfl)) a1J.nd (by rfl) (by walk_at "2") (by rfl) (by walk_at "4")) (@a0b _ _ _ _ _ (@a0I _ _ _ _ 8 _ _ (@h_or _ _ _ _ _ _ _ (@a5Q _ _ _ _ _ _ _ _ (@a2G _ hr.units) (@h_ix _ _ _ _ _ _ (hv 7) a0e (by intro _ _;rfl)) a0W (a0m _)) (@b6m _ _ _ _ _ (@c0I _ _ _ _ _ _ _ (@a5Q _ _ _ _ _ _ _ _ a3C (@h_ix _ _ _ _ _ _ (hv 1) a0e (by intro _ _;rfl)) (hv 3) (a0m _)) (@b6m _ _ _ _ _ (@a5Q _ _ _ _ _ _ _ _ a3C (@a0k _ _ _ _ _ _ _ _ _ a0r Z.b_len PySem.boot_len (@a0a _ _ _ _ _ (@h_ix _ _ _ _ _ _ (hv 1) a0e (by intro _ _;rfl)) a0c (by rfl)) (by rfl) (by decide) (by decide) (by rfl) (by rfl)) (hv 4) (a0m _)))))) a1J.nd (by rfl) (by walk_at "2") (by rfl) (by walk_at "4")) (@a0g _ _ _ (@s_if _ _ _ _ _ _ _ _ (@HW.ht _ _ _ (@a8d _ _ _ _ _ _ _ (@a5t _ _ _ (hv 8) (by intro _;rfl)) (@a6p _ _ _ _ (@a0o _ _ _ _ _ _ _ _ (@a0G _ hr.units) (@a0n _ _ _ _ _ _ _ _ _ _ D__law_why_not hr (@a0a _ _ _ _ _ (hv 1) (@a0a _ _ _ _ _ (hv 7) a0c (by rfl)) (by rfl)) (by rfl) (by decide) (by rfl) (by rfl)) a0W (a0m _))))) (@a0b _ _ _ _ _ (@a4y _ _ _ _ (@a5c _ _ _ _ _ _ _ _ (hv 5) (@a0a _ _ _ _ _ (hv 7) a0c (by rfl)) (by rfl) (by rfl) (by rfl) (by rfl) (by rfl)) (by rfl)) (@a0g _ _ _ (@a0I _ _ _ _ 1 _ _ (@a0n _ _ _ _ _ _ _ _ _ _ D__law_moved hr (@a0a _ _ _ _ _ (hv 1) (@a0a _ _ _ _ _ (hv 7) a0c (by rfl)) (by rfl)) (by rfl) (by decide) (by rfl) (by rfl)) a1J.nd (by rfl) (by walk_at "2") (by rfl) (by walk_at "4")))) a0s)))) (by intro _;rfl)) (@a0g _ _ _ (@a0u _ _ _ _ (@a1j _ _ _ _ _ (@a0a _ _ _ _ _ (hv 5) (@a0a _ _ _ _ _ (hv 1) a0c (by rfl)) (by rfl))))))),fun ts M Q h=>?_⟩
 unfold a2N at h
 split at h
 ·rename_i p n w k mo lo
  obtain⟨ws,s,f,hM,rfl,ok,hk0,hk,h⟩:=h
  refine a0d fun K1 hK1=>?_
  walk_at "rd"
  intro q hq
  have n2:p≠q:=fun z=>by rw[← z,hM] at hq;cases hq
  rw[hK1]
  refine a0d fun K2 hK2=>?_
  refine a2l fun B hB=>?_
  walk_at "rd"
  refine⟨by lia,by lia,fun i ρ M'=>∃ (L:List Mv) (r:Int × List Int) (s' f':Int) (a b c:Option T),mvs n ws L=some r∧okB (max n mo) (n,ws) L∧L.length≤i∧r.1≤max n mo∧ρ=[some (T.adr p),some (ptT r),some (T.int k),some (T.int mo),some (T.int lo),some (T.adr q),a,b,c]∧M' q=some (.lst (L.map mvT))∧Sub (updM M p (.lst [.int s',.int f'])) M',?_,fun _ _ _ _=>trivial,?_,?_⟩
  ·refine⟨[],(n,ws),s,f,none,none,none,rfl,show n≤max n mo by lia,Nat.zero_le _,by lia,rfl,a0f,?_⟩
   rw[a6P hM]
   exact Sub.new hq
  ·rintro i x ρ M' hx ⟨L,⟨n1,w1⟩,s',f',a,b,c,hL,hB0,hLi,hmo,rfl,hq',hS⟩
   obtain⟨hi,rfl⟩:=a3g hx
   have okr:=b7f ok hL
   obtain⟨o1,o2,o3,o4⟩:=id okr
   dsimp only at hmo o1 o2 o3 o4
   rw[hB]
   clear hB
   show a1G _ _ _ [_,some (.tup [.int n1,.tup (w1.map .int)]),_,_,_,_,_,_,_] M'
   refine a0d fun K3 hK3=>?_
   walk_at "rd"
   refine⟨w1,s',f',hS _ _ a0f,rfl,o1,o2,by lia,o4,fun mv s2 f2=>?_⟩
   obtain⟨z,rr,e,hz⟩:=b6a mv
   rw[hK3]
   clear hK3
   refine a0d fun K4 hK4=>?_
   rw[e]
   walk_at "rd"
   rw[← e]
   have hSS:=hS.set (u:=.lst [.int s2,.int f2])
   have hq2:updM M' p (.lst [.int s2,.int f2]) q=some (.lst (L.map mvT)):=by rw[a0t n2.symm,hq']
   generalize updM M' p (MO.lst [T.int s2,T.int f2])=M2 at hSS hq2⊢
   have hk4:∀ b:Bool,(b=true→(mvTo n1 w1 mv).1≤max n mo)→K4 [some (.adr p),some (.tup [.int n1,.tup (w1.map .int)]),some (.int k),some (.int mo),some (.int lo),some (.adr q),some (.int i),some (mvT mv),some (.bl b)] M2:=by
    intro b hb
    rw[hK4]
    clear hK4
    walk_at "rd"
    have stay:∀ bb:Option T,∃ (L:List Mv) (r:Int × List Int) (s' f':Int) (a b c:Option T),mvs n ws L=some r∧okB (max n mo) (n,ws) L∧L.length≤i+1∧r.1≤max n mo∧[some (.adr p),some (.tup [.int n1,.tup (w1.map .int)]),some (.int k),some (.int mo),some (.int lo),some (.adr q),some (.int i),some (mvT mv),bb]=[some (T.adr p),some (ptT r),some (T.int k),some (T.int mo),some (T.int lo),some (T.adr q),a,b,c]∧M2 q=some (.lst (L.map mvT))∧Sub (updM M p (.lst [.int s',.int f'])) M2:=fun bb=>⟨L,(n1,w1),s2,f2,_,_,_,hL,hB0,by lia,hmo,rfl,hq2,hSS⟩
    refine ite2 (fun cb=>?_) (fun _=>stay _)
    have hb':=hb cb
    refine⟨w1,mv,rfl,rfl,okr,rfl,rfl,Nat.zero_le _,ite2 (fun cw=>?_) (fun _=>stay _)⟩
    have hw:a2k n1 w1 mv=.ok:=by
     cases e:a2k n1 w1 mv with
     | ok=>rfl
     | step=>rw[e] at cw;exact absurd cw (by decide +kernel)
     | room=>rw[e] at cw;exact absurd cw (by decide +kernel)
    rw[hq2]
    refine⟨trivial,a0Q (by rw[List.length_map];lia),w1,mv,rfl,rfl,okr,hw,?_⟩
    refine⟨L++[mv],mvTo n1 w1 mv,s2,f2,_,_,_,b5Y hL hw,b1T hL hB0 hb',by rw[List.length_append,List.length_singleton];lia,hb',rfl,?_,?_⟩
    ·rw[a0f,List.map_append];rfl
    ·exact hSS.updF (by rw[a0t n2.symm];exact hq)
   refine⟨rfl,rfl,Nat.zero_le _,ite2 (fun c1=>hk4 true fun _=>?_) (fun c1=>ite2 (fun c2=>hk4 _ fun _=>?_) (fun c2=>hk4 _ fun z=>Bool.noConfusion z))⟩
   ·rcases hz with hz | hz
    ·rw[hz] at c1;cases c1
    ·have:=hz n1 w1;lia
   ·have:=c1D n1 w1 mv;lia
  ·rintro ρ M' ⟨L,r,s',f',a,b,c,hL,hB0,hLi,hmo,rfl,hq',hS⟩
   rw[hK2]
   walk_at "rd"
   rw[a0J] at hLi
   exact⟨by decide,a0y (h L r s' f' hL hB0 (by lia) hmo q hq) (hS.mk1 hq')⟩
 ·exact h.elim
noncomputable def chgL (w:List Int):Mv→Int
 | .more k=>k
 | .less=>-sg ((a5h w).headD 0)
 | _=>0
theorem b7t {n:Int} {w:List Int} {mv:Mv} (ok:PlOK n w) (hw:a2k n w mv=.ok):(((mvTo n w mv).2).map sgI).sum=(w.map sgI).sum+chgL w mv:=by
 obtain⟨h1,h6,hl,ho⟩:=id ok
 cases mv with
 | more k =>
   rw[a3c] at hw
   rw[a9P]
   have hk:k=1∨k=-1:=by
    split at hw
    ·cases hw
    ·split at hw
     ·assumption
     ·cases hw
   have es:sgI (k*n)=k:=by unfold sgI;rcases hk with rfl | rfl<;>split<;>lia
   show ((w++[k*n]).map sgI).sum=_+k
   rw[List.map_append,List.sum_append,List.map_cons,List.map_nil,List.sum_cons,List.sum_nil,es];lia
 | less =>
   rw[a2o] at hw
   have hw2:a6h n w=true:=by
    split at hw
    ·assumption
    ·cases hw
   obtain⟨A,y,rfl,hy,hA⟩:=a3P.mp hw2
   rw[a5M,List.dropLast_concat]
   have es:sgI y=sg y:=by
    have oy:=ho y (List.mem_append.mpr (.inr (.head _)))
    unfold LetOK at oy
    unfold sgI sg;split<;>split<;>lia
   show (A.map sgI).sum=_+-sg ((a5h (A++[y])).headD 0)
   rw[a1Y,List.map_append,List.sum_append,List.map_cons,List.map_nil,List.sum_cons,List.sum_nil,es]
   show _=_+-sg y
   lia
 | flip =>
   show ((w.map (a1K n)).map sgI).sum=_+0
   rw[b3F ho,Int.add_zero]
 | round =>
   show ((w.drop 1++w.take 1).map sgI).sum=_+0
   rw[List.map_append,List.sum_append,Int.add_comm,← List.sum_append,← List.map_append,List.take_append_drop,Int.add_zero]
 | back =>
   replace hw:(if w.isEmpty=true then Why.step else Why.ok)=.ok:=hw
   obtain⟨A,y,rfl⟩:=a4B (w:=w) (fun z=>by rw[z] at hw;cases hw)
   show ((a5h (A++[y])++(A++[y]).dropLast).map sgI).sum=_+0
   rw[a1Y,List.dropLast_concat,List.map_append,List.sum_append,Int.add_comm,← List.sum_append,← List.map_append,Int.add_zero]
 | step s =>
   rw[a3b] at hw
   rw[a4J]
   cases e:aft n w s with
   | none=>rw[e] at hw;cases hw
   | some r =>
     show (r.map sgI).sum=_+0
     rw[Int.add_zero]
     exact (b9z (b5m ho e)).symm
theorem c0n {L:List Mv} {n:Int} {w:List Int} {r:Int × List Int} {i:Nat} {m:Mv} (h:mvs n w L=some r) (hm:L[i]?=some m) {p:Int × List Int} (hp:mvs n w (L.take i)=some p):a2k p.1 p.2 m=.ok∧mvs n w (L.take (i+1))=some (mvTo p.1 p.2 m):=by
 have e:L=L.take i++m :: L.drop (i+1):=by
  obtain⟨hi,e2⟩:=List.getElem?_eq_some_iff.mp hm
  rw[← e2,List.getElem_cons_drop,List.take_append_drop]
 have h2:=h
 rw[e,a6f,hp] at h2
 have hk:a2k p.1 p.2 m=.ok:=by
  replace h2:mvs p.1 p.2 (m :: L.drop (i+1))=some r:=h2
  rw[a2u] at h2
  cases e:a2k p.1 p.2 m with
  | ok=>rfl
  | step=>rw[e] at h2;cases h2
  | room=>rw[e] at h2;cases h2
 refine⟨hk,?_⟩
 rw[List.take_add_one,hm,a6f,hp]
 show mvs p.1 p.2 [m]=_
 rw[a2u,hk];rfl
theorem b1h:∀ {L:List Mv} {n:Int} {w:List Int} {p:Int × List Int},PlOK n w→mvs n w L=some p→PlOK p.1 p.2
 | [],n,w,p,ok,h=>by obtain rfl:=Option.some.inj h;exact ok
 | m :: L,n,w,p,ok,h=>by
   rw[a2u] at h
   cases e:a2k n w m with
   | ok=>rw[e] at h;exact b1h (b5Z ok e).1 h
   | step=>rw[e] at h;cases h
   | room=>rw[e] at h;cases h
noncomputable def a2t:Sp3:=fun ts M Q=>match ts with
 | [.tup [.int n,.tup w],.adr q]=>∃ (ws:List Int) (L:List Mv) (r:Int × List Int),w=ws.map .int∧M q=some (.lst (L.map mvT))∧PlOK n ws∧mvs n ws L=some r∧Q (.int ((r.2.map sgI).sum - (ws.map sgI).sum)) M
 | _=>False
theorem a7A {P w K base f fd} {mg:Str→Option Value} {n:Nat}  (F:Fun K "_law_change" "_law_change" a2V f fd) (hm:mg "_law_change"=some (.ref f)) (hb:a0M K fd ["plait","moves"] []) (Z:Zs mg) (D__law_sign:Df P w K mg base n "_law_sign" ["letter"] a0U) (D__law_moved:Df P w K mg base n "_law_moved" ["plait","move"] a2c):Df P w K mg base (n+1) "_law_change" ["plait","moves"] a2t:=by
 refine F.dfn hm hb a1t (by unfold a2t;walk_at "ln") ⟨_,fun cdv A outer s H E hr=>(@a0b _ _ _ _ _ (@a0I _ _ _ _ 2 _ _ a0e a1t.nd (by rfl) (by walk_at "2") (by rfl) (by walk_at "4")) (@a0b _ _ _ _ _ (@a5g _ _ _ _ _ _ _ _ PassesOwn.never rfl (@a5s _ _ _ _ (hv 1)) (a0V (i:=3) a1t.nd) (@a0b _ _ _ _ _ (@s_if _ _ _ _ _ _ _ _ (@a0o _ _ _ _ _ _ _ _ (@a0G _ hr.units) (@h_ix _ _ _ _ _ _ (hv 3) a0e (by intro _ _;rfl)) a0W (a0m _)) (@a0g _ _ _ (@a0I _ _ _ _ 2 _ _ (@a0q _ _ _ _ _ _ _ _ a0p (hv 2) (@h_ix _ _ _ _ _ _ (hv 3) a0e (by intro _ _;rfl))) a1t.nd (by rfl) (by walk_at "2") (by rfl) (by walk_at "4"))) a0s) (@a0b _ _ _ _ _ (@s_if _ _ _ _ _ _ _ _ (@a0o _ _ _ _ _ _ _ _ (@a0G _ hr.units) (@h_ix _ _ _ _ _ _ (hv 3) a0e (by intro _ _;rfl)) a0W (a0m _)) (@a0g _ _ _ (@a0I _ _ _ _ 2 _ _ (@a0q _ _ _ _ _ _ _ _ a1b (hv 2) (@a0n _ _ _ _ _ _ _ _ _ _ D__law_sign hr (@a0a _ _ _ _ _ (@h_ix _ _ _ _ _ _ (@h_ix _ _ _ _ _ _ (hv 0) a0e (by intro _ _;rfl)) (@h_un _ _ _ _ _ _ a0Y a0e) (by intro _ _;rfl)) a0c (by rfl)) (by rfl) (by decide) (by rfl) (by rfl))) a1t.nd (by rfl) (by walk_at "2") (by rfl) (by walk_at "4"))) a0s) (@a0g _ _ _ (@a0I _ _ _ _ 0 _ _ (@a0n _ _ _ _ _ _ _ _ _ _ D__law_moved hr (@a0a _ _ _ _ _ (hv 0) (@a0a _ _ _ _ _ (hv 3) a0c (by rfl)) (by rfl)) (by rfl) (by decide) (by rfl) (by rfl)) a1t.nd (by rfl) (by walk_at "2") (by rfl) (by walk_at "4"))))) (by intro _;rfl)) (@a0g _ _ _ (@a0u _ _ _ _ (hv 2))))),fun ts M Q h=>?_⟩
 unfold a2t at h
 split at h
 ·rename_i n w q
  obtain⟨ws,L,r,rfl,hMq,ok,hr,h⟩:=h
  refine a0d fun K1 hK1=>?_
  walk_at "rd"
  rw[hK1];clear hK1
  refine a0d fun K2 hK2=>?_
  refine a2l fun B hB=>?_
  unfold a5q
  walk_at "rd"
  rw[hMq]
  dsimp only
  refine⟨fun i ρ M'=>(∃ (n':Int) (w':List Int) (x:Option T),mvs n ws (L.take i)=some (n',w')∧ρ=[some (T.tup [T.int n',T.tup (List.map T.int w')]),some (T.adr q),some (T.int ((w'.map sgI).sum - (ws.map sgI).sum)),x])∧M'=M,⟨⟨n,ws,none,rfl,by rw[Int.sub_self]⟩,rfl⟩,fun _ _ _ z=>by rw[z.2];exact hMq,?_,?_⟩
  ·rintro i x ρ M' hx ⟨⟨n',w',x',hmv,rfl⟩,rfl⟩
   rw[List.getElem?_map] at hx
   obtain⟨mv,hm,rfl⟩:=Option.map_eq_some_iff.mp hx
   have ok':=b1h ok hmv
   obtain⟨hwhy,hnx⟩:=c0n hr hm hmv
   dsimp only at hwhy hnx ok'
   have ht:=b7t ok' hwhy
   rw[hB];clear hB
   refine a0d fun K3 hK3=>?_
   cases mv with
   | more k =>
     show a9e _ _ _ _ [some (T.tup [T.int n',T.tup (List.map T.int w')]),some (T.adr q),some (T.int ((w'.map sgI).sum - (ws.map sgI).sum)),some (.tup [.str "more",.int k])] M'
     walk_at "rd"
     refine⟨rfl,rfl,by decide,?_⟩
     rw[if_pos (a0O _ rfl)]
     rw[hK3];clear hK3
     refine a0d fun K4 hK4=>?_
     walk_at "rd"
     refine⟨rfl,rfl,by decide,?_⟩
     rw[if_neg (by decide +kernel)]
     rw[hK4];clear hK4
     walk_at "rd"
     refine⟨w',.more k,rfl,rfl,ok',hwhy,?_⟩
     have ev:(w'.map sgI).sum - (ws.map sgI).sum+k=(((mvTo n' w' (.more k)).2).map sgI).sum - (ws.map sgI).sum:=by
      rw[ht]
      show _=_+k - _
      lia
     rw[ev]
     exact⟨⟨(mvTo n' w' (.more k)).1,(mvTo n' w' (.more k)).2,_,hnx,rfl⟩,rfl⟩
   | less =>
     show a9e _ _ _ _ [some (T.tup [T.int n',T.tup (List.map T.int w')]),some (T.adr q),some (T.int ((w'.map sgI).sum - (ws.map sgI).sum)),some (.tup [.str "less"])] M'
     walk_at "rd"
     refine⟨rfl,rfl,by decide,?_⟩
     rw[if_neg (by decide +kernel)]
     rw[hK3];clear hK3
     refine a0d fun K4 hK4=>?_
     walk_at "rd"
     refine⟨rfl,rfl,by decide,?_⟩
     rw[if_pos (a0O _ rfl)]
     have hw2:a6h n' w'=true:=by
      have hw3:=hwhy
      rw[a2o] at hw3
      split at hw3
      ·assumption
      ·cases hw3
     obtain⟨A,y,rfl,_,_⟩:=a3P.mp hw2
     have e0:atI (List.map T.int (A++[y])) (-1)=some (.int y):=by
      rw[List.map_append];exact b2p _ _
     rw[e0]
     unfold a0U
     dsimp only
     rw[hK4];clear hK4
     walk_at "rd"
     refine⟨(A++[y]),.less,rfl,rfl,ok',hwhy,?_⟩
     have ev:((A++[y]).map sgI).sum - (ws.map sgI).sum - sg y=(((mvTo n' (A++[y]) (.less)).2).map sgI).sum - (ws.map sgI).sum:=by
      rw[ht]
      show _=_+-sg ((a5h (A++[y])).headD 0) - _
      rw[a1Y]
      show _=_+-sg y - _
      lia
     rw[ev]
     exact⟨⟨(mvTo n' (A++[y]) (.less)).1,(mvTo n' (A++[y]) (.less)).2,_,hnx,rfl⟩,rfl⟩
   | flip =>
     show a9e _ _ _ _ [some (T.tup [T.int n',T.tup (List.map T.int w')]),some (T.adr q),some (T.int ((w'.map sgI).sum - (ws.map sgI).sum)),some (.tup [.str "flip"])] M'
     walk_at "rd"
     refine⟨rfl,rfl,by decide,?_⟩
     rw[if_neg (by decide +kernel)]
     rw[hK3];clear hK3
     refine a0d fun K4 hK4=>?_
     walk_at "rd"
     refine⟨rfl,rfl,by decide,?_⟩
     rw[if_neg (by decide +kernel)]
     rw[hK4];clear hK4
     walk_at "rd"
     refine⟨w',.flip,rfl,rfl,ok',hwhy,?_⟩
     have ev:(w'.map sgI).sum - (ws.map sgI).sum=(((mvTo n' w' (.flip)).2).map sgI).sum - (ws.map sgI).sum:=by
      rw[ht]
      show _=_+0 - _
      lia
     rw[ev]
     exact⟨⟨(mvTo n' w' (.flip)).1,(mvTo n' w' (.flip)).2,_,hnx,rfl⟩,rfl⟩
   | round =>
     show a9e _ _ _ _ [some (T.tup [T.int n',T.tup (List.map T.int w')]),some (T.adr q),some (T.int ((w'.map sgI).sum - (ws.map sgI).sum)),some (.tup [.str "round"])] M'
     walk_at "rd"
     refine⟨rfl,rfl,by decide,?_⟩
     rw[if_neg (by decide +kernel)]
     rw[hK3];clear hK3
     refine a0d fun K4 hK4=>?_
     walk_at "rd"
     refine⟨rfl,rfl,by decide,?_⟩
     rw[if_neg (by decide +kernel)]
     rw[hK4];clear hK4
     walk_at "rd"
     refine⟨w',.round,rfl,rfl,ok',hwhy,?_⟩
     have ev:(w'.map sgI).sum - (ws.map sgI).sum=(((mvTo n' w' (.round)).2).map sgI).sum - (ws.map sgI).sum:=by
      rw[ht]
      show _=_+0 - _
      lia
     rw[ev]
     exact⟨⟨(mvTo n' w' (.round)).1,(mvTo n' w' (.round)).2,_,hnx,rfl⟩,rfl⟩
   | back =>
     show a9e _ _ _ _ [some (T.tup [T.int n',T.tup (List.map T.int w')]),some (T.adr q),some (T.int ((w'.map sgI).sum - (ws.map sgI).sum)),some (.tup [.str "back"])] M'
     walk_at "rd"
     refine⟨rfl,rfl,by decide,?_⟩
     rw[if_neg (by decide +kernel)]
     rw[hK3];clear hK3
     refine a0d fun K4 hK4=>?_
     walk_at "rd"
     refine⟨rfl,rfl,by decide,?_⟩
     rw[if_neg (by decide +kernel)]
     rw[hK4];clear hK4
     walk_at "rd"
     refine⟨w',.back,rfl,rfl,ok',hwhy,?_⟩
     have ev:(w'.map sgI).sum - (ws.map sgI).sum=(((mvTo n' w' (.back)).2).map sgI).sum - (ws.map sgI).sum:=by
      rw[ht]
      show _=_+0 - _
      lia
     rw[ev]
     exact⟨⟨(mvTo n' w' (.back)).1,(mvTo n' w' (.back)).2,_,hnx,rfl⟩,rfl⟩
   | step st =>
     show a9e _ _ _ _ [some (T.tup [T.int n',T.tup (List.map T.int w')]),some (T.adr q),some (T.int ((w'.map sgI).sum - (ws.map sgI).sum)),some (.tup [.str "step",.tup st.t])] M'
     walk_at "rd"
     refine⟨rfl,rfl,by decide,?_⟩
     rw[if_neg (by decide +kernel)]
     rw[hK3];clear hK3
     refine a0d fun K4 hK4=>?_
     walk_at "rd"
     refine⟨rfl,rfl,by decide,?_⟩
     rw[if_neg (by decide +kernel)]
     rw[hK4];clear hK4
     walk_at "rd"
     refine⟨w',.step st,rfl,rfl,ok',hwhy,?_⟩
     have ev:(w'.map sgI).sum - (ws.map sgI).sum=(((mvTo n' w' (.step st)).2).map sgI).sum - (ws.map sgI).sum:=by
      rw[ht]
      show _=_+0 - _
      lia
     rw[ev]
     exact⟨⟨(mvTo n' w' (.step st)).1,(mvTo n' w' (.step st)).2,_,hnx,rfl⟩,rfl⟩
  ·rintro ρ M' ⟨⟨n',w',x',hmv,rfl⟩,rfl⟩
   rw[List.length_map,List.take_length,hr] at hmv
   obtain rfl:=Option.some.inj hmv
   rw[hK2];clear hK2
   walk_at "rd"
   exact a0h h
 ·exact h.elim
theorem a1u.updN {M:MH} {as:List Addr} {ls:List (List Int)} {d:Addr} {o:MO} (h:a1u M as ls) (hd:d ∉ as):a1u (updM M d o) as ls:=⟨h.1,fun i a l h1 h2=>by
 rw[a0t (fun z=>hd (by rw[← z];exact List.mem_of_getElem? h1))]
 exact h.2 i a l h1 h2⟩
theorem a1u.app {M:MH} {as bs:List Addr} {ls ks:List (List Int)} (h:a1u M as ls) (g:a1u M bs ks):a1u M (as++bs) (ls++ks):=by
 refine⟨by rw[List.length_append,List.length_append,h.1,g.1],fun i a l h1 h2=>?_⟩
 by_cases z:i < as.length
 ·rw[List.getElem?_append_left z] at h1
  rw[List.getElem?_append_left (by rw[← h.1];exact z)] at h2
  exact h.2 i a l h1 h2
 ·rw[List.getElem?_append_right (by lia)] at h1
  rw[List.getElem?_append_right (by rw[← h.1];lia),← h.1] at h2
  exact g.2 _ a l h1 h2
theorem a1u.none {M:MH} {as:List Addr} {ls:List (List Int)} {d:Addr} (h:a1u M as ls) (hd:M d=none):d ∉ as:=fun z=>by
 obtain⟨i,hi,e⟩:=List.getElem_of_mem z
 have h1:as[i]?=some d:=by rw[List.getElem?_eq_getElem hi,e]
 have hi2:i < ls.length:=by rw[← h.1];exact hi
 have:=h.2 i d (ls[i]'hi2) h1 (List.getElem?_eq_getElem hi2)
 rw[hd] at this;cases this
theorem b8P {L:List (List Int)} {f:List Int→List (List Int)} (j:Nat):((L.take j).flatMap f).length≤(L.flatMap f).length:=by
 have e:((L.take j++L.drop j).flatMap f).length=(L.flatMap f).length:=by rw[List.take_append_drop]
 rw[List.flatMap_append,List.length_append] at e
 lia
theorem b2b (x:Int):∀ l:List Int,inT (.int x) (l.map .int)=decide (x∈l)
 | []=>rfl
 | y :: l=>by
   have ih:=b2b x l
   unfold inT at ih⊢
   rw[List.map_cons,List.any_cons,ih,a3F,Bool.eq_iff_iff,Bool.or_eq_true,decide_eq_true_eq,decide_eq_true_eq,decide_eq_true_eq,List.mem_cons]
   exact or_congr eq_comm Iff.rfl
theorem b8S (l:List Int):(l.map T.int).all flT=true:=by rw[List.all_map,List.all_eq_true];intro _ _;rfl
noncomputable def a2s:Sp3:=fun ts M Q=>match ts with
 | [.int m]=>∃ k:Nat,m=(k:Int)∧k≤6∧∀ (R:Addr) (as:List Addr) (M':MH),M R=none→Sub M M'→M' R=some (.lst (as.map T.adr))→a1u M' as (pmL k k)→Q (.adr R) M'
 | _=>False
theorem a7y {P w K base f fd} {mg:Str→Option Value} {n:Nat}  (F:Fun K "_law_orders" "_law_orders" a2f f fd) (hm:mg "_law_orders"=some (.ref f)) (hb:a0M K fd ["many"] []) (Z:Zs mg) :Df P w K mg base (n+1) "_law_orders" ["many"] a2s:=by
 refine F.dfn hm hb a1s (by unfold a2s;walk_at "ln") ⟨_,fun cdv A outer s H E hr=>(@a0b _ _ _ _ _ (@a0I _ _ _ _ 1 _ _ (by exact (@a2C _ _ _ _ (@a0a _ _ _ _ _ (@a2C _ _ _ _ a0c) a0c (by rfl)))) a1s.nd (by rfl) (by walk_at "2") (by rfl) (by walk_at "4")) (@a0b _ _ _ _ _ (@a5g _ _ _ _ _ _ _ _ PassesOwn.never rfl (@a2X _ _ _ _ _ _ Z.b_range (@a0a _ _ _ _ _ (hv 0) a0c (by rfl)) (by rfl) (by rfl)) (a0V (i:=2) a1s.nd) (@a0b _ _ _ _ _ (@a0I _ _ _ _ 3 _ _ (@a2C _ _ _ _ a0c) a1s.nd (by rfl) (by walk_at "2") (by rfl) (by walk_at "4")) (@a0b _ _ _ _ _ (@a5g _ _ _ _ _ _ _ _ PassesOwn.never rfl (@a5s _ _ _ _ (hv 1)) (a0V (i:=4) a1s.nd) (@a0g _ _ _ (@a4y _ _ _ _ (@a7W _ _ _ _ _ _ _ _ (hv 3) (@a0a _ _ _ _ _ (@a4K _ _ _ _ _ _ _ _ _ _ _ _ _ _ rfl (@a2X _ _ _ _ _ _ Z.b_range (@a0a _ _ _ _ _ (hv 0) a0c (by rfl)) (by rfl) (by rfl)) (@a1i _ (a0i a2f) _ (["many","rows","k","longer","row"]) (["number","row"]) ([none,some 4]) (by decide +kernel) rfl rfl) a3G (fun _ _ _ _ _=>@a1C _ _ 0 _ (show List.Nodup (["number","row"]:List Str) by decide +kernel) rfl (Or.inl rfl) (Or.inr rfl)) (fun _ _ _ _ _=>a9d (@a0o _ _ _ _ _ _ _ _ a6Z (hv 0) (hv 1) rfl)) (fun _ _ _ _ _=>(@a0q _ _ _ _ _ _ _ _ a0p (hv 1) (@a2C _ _ _ _ (@a0a _ _ _ _ _ (hv 0) a0c (by rfl))))) (by intro _;rfl)) a0c (by rfl)) (by rfl) (by rfl) (by rfl) (by rfl) (by rfl)) (by rfl))) (by intro _;rfl)) (@a0g _ _ _ (@a0I _ _ _ _ 1 _ _ (hv 3) a1s.nd (by rfl) (by walk_at "2") (by rfl) (by walk_at "4"))))) (by intro _;rfl)) (@a0g _ _ _ (@a0u _ _ _ _ (hv 1))))),fun ts M Q h=>?_⟩
 unfold a2s at h
 split at h
 ·rename_i m
  obtain⟨k,rfl,k6,h⟩:=h
  refine a0d fun K1 hK1=>?_
  walk_at "rd"
  intro p hp
  refine⟨by decide,fun q hq=>?_⟩
  have npq:p≠q:=fun z=>by rw[← z,a0f] at hq;cases hq
  have hS0:=Sub.new hp (o:=MO.lst [])
  have hq0:=a4p hS0 hq
  have hS:=hS0.newr hq (o:=MO.lst [T.adr p])
  have hMq:(updM (updM M p (MO.lst [])) q (MO.lst [T.adr p])) q=some (.lst ([p].map T.adr)):=a0f
  have hL:a1u (updM (updM M p (MO.lst [])) q (MO.lst [T.adr p])) [p] (pmL k 0):=a1u.nil.snoc (l:=[]) (by rw[a0t npq,a0f];rfl)
  generalize updM (updM M p (MO.lst [])) q (MO.lst [T.adr p])=M1 at hS hMq hL⊢
  clear hS0 hq hp npq
  rw[hK1];clear hK1
  refine a0d fun K2 hK2=>?_
  refine a2l fun B1 hB1=>?_
  unfold a5q
  walk_at "rd"
  refine⟨by lia,by lia,fun i ρ M'=>(∃ (q:Addr) (as:List Addr) (x2 x3 x4:Option T),ρ=[some (T.int k),some (T.adr q),x2,x3,x4]∧M q=none∧M' q=some (.lst (as.map T.adr))∧a1u M' as (pmL k i))∧Sub M M',⟨⟨q,[p],_,_,_,rfl,hq0,hMq,hL⟩,hS⟩,fun _ _ _ _=>trivial,?_,?_⟩
  ·clear hS hMq hL hq0 q p
   rintro i x ρ M' hx ⟨⟨q,as,x2,x3,x4,rfl,hq0,hMq,hL⟩,hS⟩
   obtain⟨hi,rfl⟩:=a3g hx
   have hi6:i < 6:=by lia
   rw[hB1];clear hB1
   refine a0d fun K3 hK3=>?_
   walk_at "rd"
   intro r hr
   have hrM:=a4p hS hr
   have nqr:q≠r:=fun z=>by rw[z,hr] at hMq;cases hMq
   have nra:=hL.none hr
   have hSr:=Sub.new hr (o:=MO.lst [])
   have hMr:(updM M' r (MO.lst [])) r=some (.lst (([]:List Addr).map T.adr)):=a0f
   replace hMq:=hSr _ _ hMq
   replace hL:=hL.sub hSr
   replace hS:=hS.trans hSr
   generalize updM M' r (MO.lst [])=M2 at hMr hMq hL hS⊢
   clear hr hSr
   rw[hK3];clear hK3
   refine a0d fun K4 hK4=>?_
   refine a2l fun B2 hB2=>?_
   unfold a5q
   walk_at "rd"
   rw[hMq]
   dsimp only
   refine⟨fun j ρ M'=>(∃ (bs:List Addr) (x4:Option T),ρ=[some (T.int k),some (T.adr q),some (T.int i),some (T.adr r),x4]∧r ∉ bs∧M' r=some (.lst (bs.map T.adr))∧a1u M' bs (((pmL k i).take j).flatMap (pmX k)))∧M' q=some (.lst (as.map T.adr))∧a1u M' as (pmL k i)∧Sub M M',⟨⟨[],_,rfl,List.not_mem_nil,hMr,a1u.nil⟩,hMq,hL,hS⟩,fun _ _ _ z=>z.2.1,?_,?_⟩
   ·clear hMr hMq hL hS
    rintro j y ρ M3 hy ⟨⟨bs,x4,rfl,nrb,hMr,hB⟩,hMq,hL,hS⟩
    obtain⟨l,a,hl,ha,rfl⟩:∃ l a,(pmL k i)[j]?=some l∧as[j]?=some a∧T.adr a=y:=by
     rw[List.getElem?_map] at hy
     obtain⟨a,ha,e⟩:=Option.map_eq_some_iff.mp hy
     have hj:=(List.getElem?_eq_some_iff.mp ha).1
     have hj2:j < (pmL k i).length:=by rw[← hL.1];exact hj
     exact⟨_,a,List.getElem?_eq_getElem hj2,ha,e⟩
    have hla:=hL.2 j a l ha hl
    have hll:=(b3U i (List.mem_of_getElem? hl)).1
    have hsz:(((pmL k i).take (j+1)).flatMap (pmX k)).length≤720:=Nat.le_trans (b8P _) (b9T k k6 (i+1) (by lia))
    have hnx:((pmL k i).take (j+1)).flatMap (pmX k)=((pmL k i).take j).flatMap (pmX k)++pmX k l:=by
     rw[List.take_add_one,hl,List.flatMap_append]
     show _++(pmX k l++[])=_
     rw[List.append_nil]
    rw[hnx,List.length_append] at hsz
    rw[hB2];clear hB2
    walk_at "rd"
    rw[hMr]
    refine⟨trivial,by lia,by lia,fun t ys M'=>∃ cs:List Addr,ys=cs.map T.adr∧r ∉ cs∧a1u M' cs ((((a0j k).take t).filter fun x=>!decide (x∈l)).map fun x=>l++[x])∧Sub M3 M',⟨[],rfl,List.not_mem_nil,by rw[List.take_zero];exact a1u.nil,Sub.refl⟩,fun _ _ _ _=>trivial,by rw[a0J];exact a0Q (by lia),?_,?_⟩
    ·rintro t z ys M4 hz ⟨cs,rfl,nrc,hC,hS4⟩
     rw[a2W] at hz
     obtain⟨c,hc,rfl⟩:=a0N hz
     have hla4:=hS4 _ _ hla
     have ef:=b0f (fun x=>!decide (x∈l)) hc
     refine⟨rfl,?_⟩
     rw[hla4]
     dsimp only
     rw[b2b]
     refine⟨b8S l,?_⟩
     by_cases e:c∈l
     ·rw[decide_eq_true e,if_neg (by decide),List.append_nil] at ef
      rw[decide_eq_true e,if_neg (by decide)]
      exact⟨cs,rfl,nrc,by rw[ef];exact hC,hS4⟩
     ·rw[decide_eq_false e,if_pos (by decide)] at ef
      rw[decide_eq_false e,if_pos rfl]
      refine⟨by decide,fun d hd=>?_⟩
      have hSd:=Sub.new hd (o:=MO.lst [T.int c])
      rw[hSd _ _ hla4]
      dsimp only
      refine⟨a0H (by rw[List.length_map,hll];show i+1 < 10000;lia),fun g hg=>?_⟩
      have hSg:=Sub.new hg (o:=MO.lst (l.map T.int++[T.int c]))
      refine⟨cs++[g],by rw[List.map_append];rfl,fun z=>?_,?_,(hS4.trans hSd).trans hSg⟩
      ·rcases List.mem_append.mp z with z | z
       ·exact nrc z
       ·rw[← List.mem_singleton.mp z,(hSd _ _ (hS4 _ _ hMr))] at hg;cases hg
      ·rw[ef,List.map_append]
       exact ((hC.sub hSd).sub hSg).snoc (by rw[a0f,List.map_append];rfl)
    ·rintro ys M4 ⟨cs,rfl,nrc,hC,hS4⟩ d hd
     rw[a0J,show (k:Int).toNat=(a0j k).length by rw[a0l],List.take_length] at hC
     have hSd:=Sub.new hd (o:=MO.lst (cs.map T.adr))
     have hS5:=hS4.trans hSd
     replace hC:=hC.sub hSd
     have hMr5:=hS5 _ _ hMr
     have hB5:=hB.sub hS5
     have hMq5:=hS5 _ _ hMq
     have hL5:=hL.sub hS5
     generalize updM M4 d (MO.lst (cs.map T.adr))=M5 at hSd hS5 hC hMr5 hB5 hMq5 hL5⊢
     rw[hMr5]
     dsimp only
     have lc:cs.length=(pmX k l).length:=hC.1
     have lb:=hB.1
     have nrbc:r ∉ bs++cs:=fun z=>(List.mem_append.mp z).elim nrb nrc
     refine⟨a0H (by rw[List.length_map,List.length_map];lia),⟨bs++cs,_,rfl,nrbc,by rw[List.map_append],?_⟩,by rw[a0t nqr];exact hMq5,hL5.updN nra,(hS.trans hS5).updF hrM⟩
     rw[hnx]
     exact (hB5.app hC).updN nrbc
   ·rintro ρ M3 ⟨⟨bs,x4,rfl,nrb,hMr,hB⟩,hMq,hL,hS⟩
    rw[List.length_map,hL.1,List.take_length] at hB
    rw[hK4];clear hK4
    walk_at "rd"
    exact⟨⟨r,bs,_,_,_,rfl,hrM,hMr,hB⟩,hS⟩
  ·rintro ρ M' ⟨⟨q,as,x2,x3,x4,rfl,hq0,hMq,hL⟩,hS⟩
   rw[a0J] at hL
   rw[hK2];clear hK2
   walk_at "rd"
   exact a0y (h q as M' hq0 hS hMq (by rw[Int.toNat_natCast] at hL;exact hL)) Sub.refl
 ·exact h.elim
theorem b3O {F:Nat→Nat→Int} {p:Nat × Nat} {ps:List (Nat × Nat)} (h:p ∉ ps):putT (dKT F ps) (kk2 p) (.int (F p.1 p.2))=dKT F (ps++[p]):=by
 unfold putT
 rw[a5z,a3U h,if_neg (by intro z;cases z)]
 unfold dKT
 rw[List.map_append];rfl
theorem b8N {L:List (Int × Int × Int)} {i:Nat} {x:T} (h:(L.map crT)[i]?=some x):∃ y,L[i]?=some y∧x=.tup [.int y.1,.int y.2.1,.int y.2.2]:=by
 rw[List.getElem?_map] at h
 obtain⟨y,h1,h2⟩:=Option.map_eq_some_iff.mp h
 exact⟨y,h1,h2.symm⟩
theorem b8u {α:Type} {L:List α} (h:L.Nodup) {i:Nat} {x:α} (hx:L[i]?=some x):x ∉ L.take i:=fun z=>by
 obtain⟨hi,e⟩:=List.getElem?_eq_some_iff.mp hx
 have e2:L=L.take i++x :: L.drop (i+1):=by rw[← e,List.getElem_cons_drop,List.take_append_drop]
 rw[e2] at h
 exact (List.nodup_append.mp h).2.2 x z x (.head _) rfl
theorem a5Y:∀ l:List (Int × Int × Int),a1v (l.map t3T)=true
 | []=>rfl
 | x :: l=>by rw[List.map_cons,a1S,a5Y l,show t3T x=T.tup [T.int x.1,T.int x.2.1,T.int x.2.2] from rfl];rfl
theorem b3w:∀ l:List (Int × Int × Int),a4q (l.map t3T)≤1
 | []=>by decide
 | x :: l=>by
   rw[List.map_cons,a2p,show depT (t3T x)=1 from rfl]
   exact Nat.max_le.mpr ⟨Nat.le_refl 1,b3w l⟩
theorem b3v (l:List (Int × Int × Int)):eqTs (l.map t3T) (l.map t3T)=true:=by
 have:=a0O (T.tup (l.map t3T)) (by rw[a5J];exact a5Y l)
 rwa [b1u] at this
noncomputable def a2O:Sp3:=fun ts M Q=>match ts with
 | [.adr a,.adr b,.int m]=>∃ (k:Nat) (F G:Nat→Nat→Int) (row:List Int),m=(k:Int)∧k≤6∧M a=some (.lst ((winP F (prs k)).map crT))∧M b=some (.lst ((winP G (prs k)).map crT))∧IsP k row∧(∀ p∈prs k,G (loR row p.1 p.2).toNat (hiR row p.1 p.2).toNat=F p.1 p.2)∧∀ M',Sub M M'→Q (.bl true) M'
 | _=>False
theorem a8H {P w K base f fd} {mg:Str→Option Value} {n:Nat}  (F:Fun K "_law_alike" "_law_alike" a2A f fd) (hm:mg "_law_alike"=some (.ref f)) (hb:a0M K fd ["one","other","many"] []) (Z:Zs mg) (D__law_orders:Df P w K mg base n "_law_orders" ["many"] a2s):Df P w K mg base (n+1) "_law_alike" ["one","other","many"] a2O:=by
 refine F.dfn hm hb a1m (by unfold a2O;walk_at "ln") ⟨_,fun cdv A outer s H E hr=>(@a0b _ _ _ _ _ (@a0I _ _ _ _ 3 _ _ b7k a1m.nd (by rfl) (by walk_at "2") (by rfl) (by walk_at "4")) (@a0b _ _ _ _ _ (@a5g _ _ _ _ _ _ _ _ PassesOwn.never rfl (@a5s _ _ _ _ (hv 0)) (@a9Z _ _ _ _ _ 3 rfl (@a1p _ _ _ _ _ (a0V (i:=4) a1m.nd) (@a1p _ _ _ _ _ (a0V (i:=5) a1m.nd) (@a1p _ _ _ _ _ (a0V (i:=6) a1m.nd) a6y (by rfl)) (by rfl)) (by rfl)) (by rfl) (by rfl)) (@a0g _ _ _ (@b9B _ _ _ _ _ _ _ _ _ _ _ hr.units (hv 6) (hv 3) (@a0a _ _ _ _ _ (hv 4) (@a0a _ _ _ _ _ (hv 5) a0c (by rfl)) (by rfl)) (by rfl))) (by intro _;rfl)) (@a0b _ _ _ _ _ (@a5g _ _ _ _ _ _ _ _ PassesOwn.never rfl (@a5s _ _ _ _ (@a0n _ _ _ _ _ _ _ _ _ _ D__law_orders hr (@a0a _ _ _ _ _ (hv 2) a0c (by rfl)) (by rfl) (by decide) (by rfl) (by rfl))) (a0V (i:=7) a1m.nd) (@a0b _ _ _ _ _ (@a0I _ _ _ _ 8 _ _ (@a0k _ _ _ _ _ _ _ _ _ b0w Z.b_sorted PyProof.Rows.boot_sorted (@a0a _ _ _ _ _ (@a4K _ _ _ _ _ _ _ _ _ _ _ _ _ _ rfl (b8I (hv 3)) (@a1i _ (a0i a2A) _ (["one","other","many","told","first","second","number","row","renamed"]) (["a","b","row","told"]) ([none,none,some 7,some 3]) (by decide +kernel) rfl rfl) b1z (fun _ _ _ _ _=>b1P rfl (@a4n _ _ _ _ _ (@a1C _ _ 0 _ (show List.Nodup (["a","b","row","told"]:List Str) by decide +kernel) rfl (Or.inl rfl) (Or.inr rfl)) (@a4n _ _ _ _ _ (@a1C _ _ 1 _ (show List.Nodup (["a","b","row","told"]:List Str) by decide +kernel) rfl (Or.inl rfl) (Or.inr rfl)) a8w (by rfl)) (by rfl))) (fun _ _ _ _ _=>a6q) (fun _ _ _ _ _=>(@a1j _ _ _ _ _ (@a0a _ _ _ _ _ (@a0k _ _ _ _ _ _ _ _ _ (@b0x _ rfl) Z.b_min PyProof.Rows.boot_min (@a0a _ _ _ _ _ (@h_ix _ _ _ _ _ _ (hv 2) (hv 0) (by intro _ _;rfl)) (@a0a _ _ _ _ _ (@h_ix _ _ _ _ _ _ (hv 2) (hv 1) (by intro _ _;rfl)) a0c (by rfl)) (by rfl)) (by rfl) (by decide) (by decide) (by rfl) (by rfl)) (@a0a _ _ _ _ _ (@a0k _ _ _ _ _ _ _ _ _ (@b0y _ rfl) Z.b_max PyProof.Rows.boot_max (@a0a _ _ _ _ _ (@h_ix _ _ _ _ _ _ (hv 2) (hv 0) (by intro _ _;rfl)) (@a0a _ _ _ _ _ (@h_ix _ _ _ _ _ _ (hv 2) (hv 1) (by intro _ _;rfl)) a0c (by rfl)) (by rfl)) (by rfl) (by decide) (by decide) (by rfl) (by rfl)) (@a0a _ _ _ _ _ (@c0H _ _ _ _ _ _ _ _ hr.units (hv 3) (@a0a _ _ _ _ _ (hv 0) (@a0a _ _ _ _ _ (hv 1) a0c (by rfl)) (by rfl)) (by intro _ _;rfl)) a0c (by rfl)) (by rfl)) (by rfl)))) (by intro _;rfl)) a0c (by rfl)) (by rfl) (by decide) (by decide) (by rfl) (by rfl)) a1m.nd (by rfl) (by walk_at "2") (by rfl) (by walk_at "4")) (@a0g _ _ _ (@s_if _ _ _ _ _ _ _ _ (@a0o _ _ _ _ _ _ _ _ (@a0G _ hr.units) (hv 8) (hv 1) (a0m _)) (@a0g _ _ _ (@a0u _ _ _ _ h_bl)) a0s))) (by intro _;rfl)) (@a0g _ _ _ (@a0u _ _ _ _ h_bl))))),fun ts M Q h=>?_⟩
 unfold a2O at h
 split at h
 ·rename_i a b m
  obtain⟨k,F,G,row,rfl,k6,hMa,hMb,hrow,hFG,h⟩:=h
  refine a0d fun K1 hK1=>?_
  walk_at "rd"
  intro p hp
  have nap:a≠p:=fun z=>by rw[z,hp] at hMa;cases hMa
  have nbp:b≠p:=fun z=>by rw[z,hp] at hMb;cases hMb
  have hS:=Sub.new hp (o:=MO.dt [])
  have hMp:(updM M p (MO.dt [])) p=some (.dt (dKT F ((prs k).take 0))):=a0f
  generalize updM M p (MO.dt [])=M1 at hS hMp⊢
  rw[hK1];clear hK1
  refine a0d fun K2 hK2=>?_
  refine a2l fun B1 hB1=>?_
  unfold a5q
  walk_at "rd"
  have hMa1:=hS _ _ hMa
  have pk:=b3S k k6
  have pu:=b3R k k6
  rw[hMa1]
  dsimp only
  refine⟨fun i ρ M'=>(∃ (x4 x5 x6 x7 x8:Option T),ρ=[some (T.adr a),some (T.adr b),some (T.int k),some (T.adr p),x4,x5,x6,x7,x8])∧M' p=some (.dt (dKT F ((prs k).take i)))∧Sub M M',⟨⟨_,_,_,_,_,rfl⟩,hMp,hS⟩,fun _ _ _ z=>z.2.2 _ _ hMa,?_,?_⟩
  ·clear hMp hS hMa1
   rintro i x ρ M' hx ⟨⟨x4,x5,x6,x7,x8,rfl⟩,hMp,hS⟩
   obtain⟨y,hy,rfl⟩:=b8N hx
   unfold winP at hy
   rw[List.getElem?_map] at hy
   obtain⟨q,hq,rfl⟩:=Option.map_eq_some_iff.mp hy
   rw[hB1];clear hB1
   dsimp only
   refine⟨rfl,rfl,?_⟩
   walk_at "rd"
   have nd:(prs k).Nodup:=pu.imp fun {p q} h e=>by subst e;exact Nat.lt_irrefl _ h
   rw[hMp]
   dsimp only
   refine⟨by decide,kk2 q,rfl,?_,⟨_,_,_,_,_,rfl⟩,?_,hS.updF hp⟩
   ·unfold dKT
    rw[List.length_map]
    have:=List.length_take_le' i (prs k)
    exact a0Q (by lia)
   ·rw[b3O (b8u nd hq),a1L hq]
  ·clear hMp hS hMa1
   rintro ρ M' ⟨⟨x4,x5,x6,x7,x8,rfl⟩,hMp,hS⟩
   rw[List.length_map,show (winP F (prs k)).length=(prs k).length from List.length_map ..,List.take_length] at hMp
   rw[hK2];clear hK2
   refine a0d fun K3 hK3=>?_
   refine a2l fun B2 hB2=>?_
   unfold a5q
   walk_at "rd"
   refine⟨k,rfl,k6,fun R as M1 hR hS1 hMR hL=>?_⟩
   obtain⟨ix,hix⟩:=List.getElem?_of_mem (c1s hrow)
   rw[Int.toNat_natCast] at hix
   have hMp1:=hS1 _ _ hMp
   have hS2:=hS.trans hS1
   dsimp only
   rw[hMR]
   dsimp only
   have nRp:R≠p:=fun z=>by rw[z,hMp1] at hMR;cases hMR
   refine⟨fun i ρ M'=>i≤ix∧(∃ (x4 x5 x6 x7 x8:Option T),ρ=[some (T.adr a),some (T.adr b),some (T.int k),some (T.adr p),x4,x5,x6,x7,x8])∧(M' p=some (.dt (dKT F (prs k)))∨M' p=some (.fz (dKT F (prs k))))∧M' R=some (.lst (as.map T.adr))∧a1u M' as (pmL k k)∧Sub M M',⟨Nat.zero_le _,⟨_,_,_,_,_,rfl⟩,.inl hMp1,hMR,hL,hS2⟩,fun _ _ _ z=>z.2.2.2.1,?_,?_⟩
   ·clear hMp hS hMp1 hS2 hMR hL hS1 hR
    rintro i x ρ M' hx ⟨hi,⟨x4,x5,x6,x7,x8,rfl⟩,hMp,hMR,hL,hS⟩
    rw[hB2];clear hB2
    refine a0d fun K4 hK4=>?_
    walk_at "rd"
    obtain⟨l,c,hl,hc,rfl⟩:∃ l c,(pmL k k)[i]?=some l∧as[i]?=some c∧T.adr c=x:=by
     rw[List.getElem?_map] at hx
     obtain⟨c,hc,e⟩:=Option.map_eq_some_iff.mp hx
     have hj:=(List.getElem?_eq_some_iff.mp hc).1
     have hj2:i < (pmL k k).length:=by rw[← hL.1];exact hj
     exact⟨_,c,List.getElem?_eq_getElem hj2,hc,e⟩
    have hlP:IsP k l:=b9U (by rw[Int.toNat_natCast];exact List.mem_of_getElem? hl)
    have hll:=hlP.len
    have ncp:c≠p:=fun z=>by
     have:=hL.2 i c l hc hl
     rw[z] at this
     rcases hMp with e | e
     ·rw[e] at this;cases this
     ·rw[e] at this;cases this
    have npas:p ∉ as:=fun z=>by
     obtain⟨j,hj,e⟩:=List.getElem_of_mem z
     have hj2:j < (pmL k k).length:=by rw[← hL.1];exact hj
     have:=hL.2 j p _ (by rw[List.getElem?_eq_getElem hj,e]) (List.getElem?_eq_getElem hj2)
     rcases hMp with e | e
     ·rw[e] at this;cases this
     ·rw[e] at this;cases this
    rcases hMp with e | e
    ·rw [e]
     dsimp only
     have hp3:(updM M' p (.fz (dKT F (prs k)))) p=some (.fz (dKT F (prs k))):=a0f
     replace hMR:(updM M' p (.fz (dKT F (prs k)))) R=some (.lst (as.map T.adr)):=by rw[a0t nRp];exact hMR
     replace hL:a1u (updM M' p (.fz (dKT F (prs k)))) as (pmL k k):=hL.updN npas
     replace hS:Sub M (updM M' p (.fz (dKT F (prs k)))):=hS.updF hp
     clear e
     generalize updM M' p (.fz (dKT F (prs k)))=M3 at hp3 hMR hL hS⊢
     clear M'
     have hlc:=hL.2 i c l hc hl
     refine⟨fun j ys M4=>ys=(renL l F ((prs k).take j)).map t3T∧M4=M3,⟨rfl,rfl⟩,fun _ _ _ _=>trivial,?_,?_,?_⟩
     ·rw[a1E]
      unfold dKT
      rw[List.length_map]
      exact a0Q (by lia)
     ·rintro j x ys M4 hx ⟨rfl,rfl⟩
      obtain⟨q,hq,rfl⟩:∃ q,(prs k)[j]?=some q∧T.tup ((kk2 q).map keyT)=x:=by
       unfold a5i dKT at hx
       rw[List.map_map,List.getElem?_map] at hx
       exact Option.map_eq_some_iff.mp hx
      have hm:=List.mem_of_getElem? hq
      obtain⟨q1,q2,q3⟩:=a1w.mp hm
      have g1:=a4z (w:=l) (a:=(q.1:Int)) (by lia) (by lia)
      have g2:=a4z (w:=l) (a:=(q.2:Int)) (by lia) (by lia)
      show [T.int q.1,T.int q.2].length=2∧_
      refine⟨rfl,rfl,?_⟩
      dsimp only[keyT]
      rw[hlc]
      dsimp only
      rw[g1]
      dsimp only
      rw[g2]
      dsimp only
      rw[hp3]
      dsimp only
      refine⟨by decide,kk2 q,_,rfl,a4Q hm,by decide,?_,rfl⟩
      unfold renL
      rw[a1L hq,List.map_append,List.map_append];rfl
     ·rintro ys M4 ⟨rfl,rfl⟩ d hd
      rw[a1E,show (dKT F (prs k)).length=(prs k).length from List.length_map ..,List.take_length]
      have hrl:(renL l F (prs k)).length=(prs k).length:=List.length_map ..
      refine⟨_,kyT,rfl,by lia,b6V k6 hlP F,fun ms hperm hsort e he=>?_⟩
      have hSd:=Sub.new hd (o:=MO.lst (List.map t3T (renL l F (prs k))))
      have hSe:=Sub.new he (o:=MO.lst (List.map t3T ms))
      have hS5:=(hS.trans hSd).trans hSe
      have hL5:=(hL.sub hSd).sub hSe
      have hMR5:=hSe _ _ (hSd _ _ hMR)
      have hp5:=hSe _ _ (hSd _ _ hp3)
      have hMe:(updM (updM M4 d (MO.lst (List.map t3T (renL l F (prs k))))) e (MO.lst (List.map t3T ms))) e=some (.lst (ms.map t3T)):=a0f
      generalize updM (updM M4 d (MO.lst (List.map t3T (renL l F (prs k))))) e (MO.lst (List.map t3T ms))=M5 at hS5 hL5 hMR5 hp5 hMe⊢
      have hMb5:=hS5 _ _ hMb
      rw[hK4];clear hK4
      walk_at "rd"
      rw[hMe,hMb5]
      dsimp only
      refine⟨a5Y _,a5Y _,Nat.le_trans (b3w _) (by decide),?_⟩
      show (if eqTs (List.map t3T ms) (List.map t3T (winP G (prs k)))=true then _ else _)
      refine ite2 (fun cc=>?_) (fun cc=>?_)
      ·exact a0h (h M5 hS5)
      ·refine⟨?_,⟨_,_,_,_,_,rfl⟩,.inr hp5,hMR5,hL5,hS5⟩
       by_cases z:i=ix
       ·exfalso
        subst z
        rw[hix] at hl
        obtain rfl:=Option.some.inj hl
        refine cc ?_
        rw[a7M k6 hrow hFG hperm hsort]
        exact b3v _
       ·lia
    ·rw [e]
     dsimp only
     have hp3:=e
     clear e
     generalize M'=M3 at hp3 hMR hL hS⊢
     have hlc:=hL.2 i c l hc hl
     refine⟨fun j ys M4=>ys=(renL l F ((prs k).take j)).map t3T∧M4=M3,⟨rfl,rfl⟩,fun _ _ _ _=>trivial,?_,?_,?_⟩
     ·rw[a1E]
      unfold dKT
      rw[List.length_map]
      exact a0Q (by lia)
     ·rintro j x ys M4 hx ⟨rfl,rfl⟩
      obtain⟨q,hq,rfl⟩:∃ q,(prs k)[j]?=some q∧T.tup ((kk2 q).map keyT)=x:=by
       unfold a5i dKT at hx
       rw[List.map_map,List.getElem?_map] at hx
       exact Option.map_eq_some_iff.mp hx
      have hm:=List.mem_of_getElem? hq
      obtain⟨q1,q2,q3⟩:=a1w.mp hm
      have g1:=a4z (w:=l) (a:=(q.1:Int)) (by lia) (by lia)
      have g2:=a4z (w:=l) (a:=(q.2:Int)) (by lia) (by lia)
      show [T.int q.1,T.int q.2].length=2∧_
      refine⟨rfl,rfl,?_⟩
      dsimp only[keyT]
      rw[hlc]
      dsimp only
      rw[g1]
      dsimp only
      rw[g2]
      dsimp only
      rw[hp3]
      dsimp only
      refine⟨by decide,kk2 q,_,rfl,a4Q hm,by decide,?_,rfl⟩
      unfold renL
      rw[a1L hq,List.map_append,List.map_append];rfl
     ·rintro ys M4 ⟨rfl,rfl⟩ d hd
      rw[a1E,show (dKT F (prs k)).length=(prs k).length from List.length_map ..,List.take_length]
      have hrl:(renL l F (prs k)).length=(prs k).length:=List.length_map ..
      refine⟨_,kyT,rfl,by lia,b6V k6 hlP F,fun ms hperm hsort e he=>?_⟩
      have hSd:=Sub.new hd (o:=MO.lst (List.map t3T (renL l F (prs k))))
      have hSe:=Sub.new he (o:=MO.lst (List.map t3T ms))
      have hS5:=(hS.trans hSd).trans hSe
      have hL5:=(hL.sub hSd).sub hSe
      have hMR5:=hSe _ _ (hSd _ _ hMR)
      have hp5:=hSe _ _ (hSd _ _ hp3)
      have hMe:(updM (updM M4 d (MO.lst (List.map t3T (renL l F (prs k))))) e (MO.lst (List.map t3T ms))) e=some (.lst (ms.map t3T)):=a0f
      generalize updM (updM M4 d (MO.lst (List.map t3T (renL l F (prs k))))) e (MO.lst (List.map t3T ms))=M5 at hS5 hL5 hMR5 hp5 hMe⊢
      have hMb5:=hS5 _ _ hMb
      rw[hK4];clear hK4
      walk_at "rd"
      rw[hMe,hMb5]
      dsimp only
      refine⟨a5Y _,a5Y _,Nat.le_trans (b3w _) (by decide),?_⟩
      show (if eqTs (List.map t3T ms) (List.map t3T (winP G (prs k)))=true then _ else _)
      refine ite2 (fun cc=>?_) (fun cc=>?_)
      ·exact a0h (h M5 hS5)
      ·refine⟨?_,⟨_,_,_,_,_,rfl⟩,.inr hp5,hMR5,hL5,hS5⟩
       by_cases z:i=ix
       ·exfalso
        subst z
        rw[hix] at hl
        obtain rfl:=Option.some.inj hl
        refine cc ?_
        rw[a7M k6 hrow hFG hperm hsort]
        exact b3v _
       ·lia
   ·rintro ρ M' ⟨hi,_,_,_,hL,_⟩
    exfalso
    have:=(List.getElem?_eq_some_iff.mp hix).1
    rw[List.length_map,hL.1] at hi
    lia
 ·exact h.elim
theorem b4m:∀ {L:List Mv} {n:Int} {w:List Int} {r:Int × List Int},PlOK n w→mvs n w L=some r→okMv (n,w) L∧b2B (n,w) L=r
 | [],n,w,r,ok,h=>by obtain rfl:=Option.some.inj h;exact⟨ok,rfl⟩
 | m :: L,n,w,r,ok,h=>by
   rw[a2u] at h
   cases e:a2k n w m with
   | ok =>
     rw[e] at h
     obtain⟨a,b⟩:=b4m (L:=L) (n:=(mvTo n w m).1) (w:=(mvTo n w m).2) (b5Z ok e).1 h
     exact⟨⟨ok,e,a⟩,b⟩
   | step=>rw[e] at h;cases h
   | room=>rw[e] at h;cases h
theorem a6K:∀ L:List Mv,a1v (L.map mvT)=true
 | []=>rfl
 | m :: L=>by rw[List.map_cons,a1S,b6b,a6K L];rfl
theorem b4n:∀ L:List Mv,a4q (L.map mvT)≤30
 | []=>by decide
 | m :: L=>by
   rw[List.map_cons,a2p]
   exact Nat.max_le.mpr ⟨b8v m,b4n L⟩
theorem b6c (L:List Mv):eqTs (L.map mvT) (L.map mvT)=true:=by
 have:=a0O (T.tup (L.map mvT)) (by rw[a5J];exact a6K L)
 rwa [b1u] at this
theorem a9a (ls:List (List Int)) (a b:Nat):∀ C:List (Int × Int × Int),winS ls a b C=winS ls b a C
 | []=>rfl
 | x :: C=>by
   show winT ls a b x+winS ls a b C=winT ls b a x+winS ls b a C
   rw[a9a ls a b C]
   congr 1
   unfold winT
   exact ite_congr (propext ⟨fun z=>z.elim (fun y=>.inr ⟨y.2,y.1⟩) (fun y=>.inl ⟨y.2,y.1⟩),fun z=>z.elim (fun y=>.inr ⟨y.2,y.1⟩) (fun y=>.inl ⟨y.2,y.1⟩)⟩) (fun _=>rfl) (fun _=>rfl)
noncomputable def a7J:Sp3:=fun ts M Q=>match ts with
 | [.rd s]=>∃ ns:List Int,s=ns.map .int∧Q (.bl true) M
 | _=>False
theorem b2X (ns:List Int) (M:MH) (Q:VK3) (_:ns.length≤63) (h:Q (.bl true) M):a7J [.rd (ns.map .int)] M Q:=⟨ns,rfl,h⟩
theorem c0m {P w K base f fd} {mg:Str→Option Value} {n:Nat}  (F:Fun K "law" "law" b0P f fd) (Z:Zs mg) (D__law_state:Df P w K mg base n "_law_state" ["script","k"] a2L) (D__law_plait:Df P w K mg base n "_law_plait" ["state","most","longest"] a2M) (D__law_moves:Df P w K mg base n "_law_moves" ["state","plait","many","most","longest"] a2N) (D__law_take:Df P w K mg base n "_law_take" ["state","many"] a0Z) (D_moved_all:Df P w K mg base n "moved_all" ["plait","moves"] a3q) (D_turns:Df P w K mg base n "turns" ["plait"] a6E) (D__law_change:Df P w K mg base n "_law_change" ["plait","moves"] a2t) (D_pieces:Df P w K mg base n "pieces" ["plait"] a4A) (D_windings:Df P w K mg base n "windings" ["plait"] a3W) (D__law_alike:Df P w K mg base n "_law_alike" ["one","other","many"] a2O):FnOk P w K mg base CX0 (n+1) f fd ["script"] (dSp K a7J):=by
 refine F.fnk a6u (by unfold a7J;walk_at "ln") ⟨_,fun cdv A outer s H E hr=>(@a0b _ _ _ _ _ (@a0I _ _ _ _ 1 _ _ (@a0n _ _ _ _ _ _ _ _ _ _ D__law_state hr (@a0a _ _ _ _ _ (hv 0) (@a0a _ _ _ _ _ a0e a0c (by rfl)) (by rfl)) (by rfl) (by decide) (by rfl) (by rfl)) a6u.nd (by rfl) (by walk_at "2") (by rfl) (by walk_at "4")) (@a0b _ _ _ _ _ (@a0I _ _ _ _ 2 _ _ (@a0n _ _ _ _ _ _ _ _ _ _ D__law_plait hr (@a0a _ _ _ _ _ (hv 1) (@a0a _ _ _ _ _ a0e (@a0a _ _ _ _ _ a0e a0c (by rfl)) (by rfl)) (by rfl)) (by rfl) (by decide) (by rfl) (by rfl)) a6u.nd (by rfl) (by walk_at "2") (by rfl) (by walk_at "4")) (@a0b _ _ _ _ _ (@a8q _ _ _ _ _ _ (@a0n _ _ _ _ _ _ _ _ _ _ D__law_moves hr (@a0a _ _ _ _ _ (hv 1) (@a0a _ _ _ _ _ (hv 2) (@a0a _ _ _ _ _ (@a0n _ _ _ _ _ _ _ _ _ _ D__law_take hr (@a0a _ _ _ _ _ (hv 1) (@a0a _ _ _ _ _ a0e a0c (by rfl)) (by rfl)) (by rfl) (by decide) (by rfl) (by rfl)) (@a0a _ _ _ _ _ a0e (@a0a _ _ _ _ _ a0e a0c (by rfl)) (by rfl)) (by rfl)) (by rfl)) (by rfl)) (by rfl) (by decide) (by rfl) (by rfl)) (@a9Z _ _ _ _ _ 2 rfl (@a1p _ _ _ _ _ (a0V (i:=3) a6u.nd) (@a1p _ _ _ _ _ (a0V (i:=4) a6u.nd) a6y (by rfl)) (by rfl)) (by rfl) (by rfl)) (by rfl) (by rfl) (by rfl)) (@a0b _ _ _ _ _ (@a0I _ _ _ _ 5 _ _ (@a3i _ _ _ _ _ _ _ _ _ b3l Z.b_list PyProof.Rows.boot_list (@a0a _ _ _ _ _ (hv 3) a0c (by rfl)) (by rfl) (by decide) (by decide) (by rfl) (by rfl)) a6u.nd (by rfl) (by walk_at "2") (by rfl) (by walk_at "4")) (@a0b _ _ _ _ _ (@a0I _ _ _ _ 6 _ _ (@a0n _ _ _ _ _ _ _ _ _ _ D_moved_all hr (@a0a _ _ _ _ _ (hv 2) (@a0a _ _ _ _ _ (hv 5) a0c (by rfl)) (by rfl)) (by rfl) (by decide) (by rfl) (by rfl)) a6u.nd (by rfl) (by walk_at "2") (by rfl) (by walk_at "4")) (@a0b _ _ _ _ _ (@s_if _ _ _ _ _ _ _ _ (@HW.ht _ _ _ (@w_or _ _ _ _ _ _ _ (@a0o _ _ _ _ _ _ _ _ (@a2G _ hr.units) (hv 6) (hv 4) (a0m _)) (@w_or _ _ _ _ _ _ _ (@a0o _ _ _ _ _ _ _ _ (@a2G _ hr.units) (hv 5) (hv 3) (a0m _)) (@a5X _ _ _ _ (@a0o _ _ _ _ _ _ _ _ (@a2G _ hr.units) (@a0n _ _ _ _ _ _ _ _ _ _ D_turns hr (@a0a _ _ _ _ _ (hv 6) a0c (by rfl)) (by rfl) (by decide) (by rfl) (by rfl)) (@a0q _ _ _ _ _ _ _ _ a0p (@a0n _ _ _ _ _ _ _ _ _ _ D_turns hr (@a0a _ _ _ _ _ (hv 2) a0c (by rfl)) (by rfl) (by decide) (by rfl) (by rfl)) (@a0n _ _ _ _ _ _ _ _ _ _ D__law_change hr (@a0a _ _ _ _ _ (hv 2) (@a0a _ _ _ _ _ (hv 3) a0c (by rfl)) (by rfl)) (by rfl) (by decide) (by rfl) (by rfl))) (a0m _)))))) (@a0g _ _ _ (@a0u _ _ _ _ h_bl)) a0s) (@a0b _ _ _ _ _ (@a0I _ _ _ _ 7 _ _ (@a0k _ _ _ _ _ _ _ _ _ a0r Z.b_len PySem.boot_len (@a0a _ _ _ _ _ (@a0n _ _ _ _ _ _ _ _ _ _ D_pieces hr (@a0a _ _ _ _ _ (hv 2) a0c (by rfl)) (by rfl) (by decide) (by rfl) (by rfl)) a0c (by rfl)) (by rfl) (by decide) (by decide) (by rfl) (by rfl)) a6u.nd (by rfl) (by walk_at "2") (by rfl) (by walk_at "4")) (@a0b _ _ _ _ _ (@s_if _ _ _ _ _ _ _ _ (@HW.ht _ _ _ (@w_or _ _ _ _ _ _ _ (@a0o _ _ _ _ _ _ _ _ (@a2G _ hr.units) (@a0k _ _ _ _ _ _ _ _ _ a0r Z.b_len PySem.boot_len (@a0a _ _ _ _ _ (@a0n _ _ _ _ _ _ _ _ _ _ D_pieces hr (@a0a _ _ _ _ _ (hv 6) a0c (by rfl)) (by rfl) (by decide) (by rfl) (by rfl)) a0c (by rfl)) (by rfl) (by decide) (by decide) (by rfl) (by rfl)) (hv 7) (a0m _)) (@a5X _ _ _ _ (@a0o _ _ _ _ _ _ _ _ (@a2G _ hr.units) (@a0k _ _ _ _ _ _ _ _ _ a0r Z.b_len PySem.boot_len (@a0a _ _ _ _ _ (@a0n _ _ _ _ _ _ _ _ _ _ D_windings hr (@a0a _ _ _ _ _ (hv 6) a0c (by rfl)) (by rfl) (by decide) (by rfl) (by rfl)) a0c (by rfl)) (by rfl) (by decide) (by decide) (by rfl) (by rfl)) (@a0q _ _ _ _ _ _ _ _ a6d (@a0q _ _ _ _ _ _ _ _ a1n (hv 7) (@a0q _ _ _ _ _ _ _ _ a1b (hv 7) a0e)) a0e) (a0m _))))) (@a0g _ _ _ (@a0u _ _ _ _ h_bl)) a0s) (@a0g _ _ _ (@a0u _ _ _ _ (@a0n _ _ _ _ _ _ _ _ _ _ D__law_alike hr (@a0a _ _ _ _ _ (@a0n _ _ _ _ _ _ _ _ _ _ D_windings hr (@a0a _ _ _ _ _ (hv 2) a0c (by rfl)) (by rfl) (by decide) (by rfl) (by rfl)) (@a0a _ _ _ _ _ (@a0n _ _ _ _ _ _ _ _ _ _ D_windings hr (@a0a _ _ _ _ _ (hv 6) a0c (by rfl)) (by rfl) (by decide) (by rfl) (by rfl)) (@a0a _ _ _ _ _ (hv 7) a0c (by rfl)) (by rfl)) (by rfl)) (by rfl) (by decide) (by rfl) (by rfl)))))))))))),fun ts M Q h=>?_⟩
 unfold a7J at h
 split at h
 ·rename_i s
  obtain⟨ns,rfl,h⟩:=h
  refine a0d fun K1 hK1=>?_
  walk_at "rd"
  refine⟨ns,rfl,by decide,by decide,fun p k f hp=>?_⟩
  have hS:=Sub.new hp (o:=.lst [.int k,.int f])
  have hMp:(updM M p (.lst [.int k,.int f])) p=some (.lst [.int k,.int f]):=a0f
  generalize updM M p (.lst [.int k,.int f])=M0 at hS hMp⊢
  rw[hK1];clear hK1
  refine a0d fun K2 hK2=>?_
  walk_at "rd"
  refine⟨k,f,hMp,by decide,by decide,by decide,by decide,fun n w s1 f1 hn1 hn6 hwl hw=>?_⟩
  have hS1:=hS.updF hp (o:=.lst [.int s1,.int f1])
  have hMp1:(updM M0 p (.lst [.int s1,.int f1])) p=some (.lst [.int s1,.int f1]):=a0f
  generalize updM M0 p (.lst [.int s1,.int f1])=M1 at hS1 hMp1⊢
  clear hS hMp
  rw[hK2];clear hK2
  have ok:PlOK n w:=⟨hn1,by lia,by lia,hw⟩
  refine a0d fun K3 hK3=>?_
  walk_at "rd"
  refine⟨s1,f1,hMp1,by decide,by decide,fun c s4 f4 hc0 hc1=>?_⟩
  dsimp only
  have hS4:=hS1.updF hp (o:=.lst [.int s4,.int f4])
  have hMp4:(updM M1 p (.lst [.int s4,.int f4])) p=some (.lst [.int s4,.int f4]):=a0f
  generalize updM M1 p (.lst [.int s4,.int f4])=M4 at hS4 hMp4⊢
  clear hS1 hMp1
  refine⟨w,s4,f4,hMp4,rfl,ok,hc0,by lia,fun L r s5 f5 hL hB hLk hr q hq=>?_⟩
  have hqp:q≠p:=fun z=>by rw[z,hMp4] at hq;cases hq
  dsimp only
  have hq5:(updM M4 p (.lst [.int s5,.int f5])) q=none:=by rw[a0t hqp];exact hq
  have hS5:=(hS4.updF hp (o:=.lst [.int s5,.int f5])).newr hq5 (o:=.lst (L.map mvT))
  have hMq:(updM (updM M4 p (.lst [.int s5,.int f5])) q (.lst (L.map mvT))) q=some (.lst (L.map mvT)):=a0f
  generalize updM (updM M4 p (.lst [.int s5,.int f5])) q (.lst (L.map mvT))=M5 at hS5 hMq⊢
  clear hS4 hMp4 hq hqp hq5
  obtain⟨m,v⟩:=r
  have okr:=b1h ok hL
  dsimp only at okr
  obtain⟨okL,runL⟩:=b4m ok hL
  rw[hK3];clear hK3
  refine⟨rfl,rfl,?_⟩
  refine a0d fun K4 hK4=>?_
  walk_at "rd"
  rw[hMq]
  dsimp only
  intro g hg
  have hSg:=Sub.new hg (o:=MO.lst (L.map mvT))
  have hS6:=hS5.trans hSg
  have hMq6:=hSg _ _ hMq
  have hMg:(updM M5 g (MO.lst (L.map mvT))) g=some (.lst (L.map mvT)):=a0f
  generalize updM M5 g (MO.lst (L.map mvT))=M6 at hS6 hMq6 hMg⊢
  clear hSg hMq hS5 hg
  rw[hK4];clear hK4
  refine a0d fun K5 hK5=>?_
  walk_at "rd"
  refine⟨w,L,rfl,hMg,okL,?_⟩
  rw[runL,hK5];clear hK5
  refine a0d fun K6 hK6=>?_
  unfold ptT
  dsimp only
  walk_at "rd"
  rw[hMg,hMq6]
  dsimp only
  refine⟨by decide,?_⟩
  rw[if_neg (by simp)]
  refine⟨a6K L,a6K L,b4n L,?_⟩
  rw[b6c,if_neg (by decide)]
  refine⟨v,rfl,okr,w,rfl,ok,w,L,(m,v),rfl,hMq6,ok,hL,?_⟩
  dsimp only
  refine⟨rfl,Nat.zero_le _,?_⟩
  rw[a3F,decide_eq_true (by lia),if_neg (by decide)]
  rw[hK6];clear hK6
  refine a0d fun K7 hK7=>?_
  walk_at "rd"
  refine⟨w,rfl,ok,fun r1 as1 M7 hr1 hS7 hM1 hL1 hF1=>?_⟩
  dsimp only
  rw[hM1]
  dsimp only
  rw[List.length_map,hL1.1,hK7];clear hK7
  have hS8:=hS6.trans hS7
  clear hS6 hMq6 hMg hM1 hL1 hF1 hS7
  obtain⟨elen,row,hrow,hwind⟩:=b7r ok.1 ok.2.1 ok.2.2.2 okr.1 okr.2.1 okr.2.2.2 (b6T ok hL)
  obtain⟨k6,_⟩:=b4a ok.1 ok.2.1 ok.2.2.2
  refine a0d fun K8 hK8=>?_
  walk_at "rd"
  refine⟨v,rfl,okr,fun r2 as2 M9 hr2 hS9 hM2 hL2 hF2=>?_⟩
  dsimp only
  rw[hM2]
  dsimp only
  rw[List.length_map,hL2.1]
  have hS10:=hS8.trans hS9
  clear hS8 hS9 hM2 hL2 hF2 hr1 hr2
  rw[if_neg (fun z=>z (by rw[elen]))]
  have hwl:∀ (n:Int) (w:List Int),b5q n w (crL (a0j n) w)=winP (fun a b=>winS (pcs (a0D n w) n) a b (crL (a0j n) w) / 2) (prs (pcs (a0D n w) n).length):=fun _ _=>rfl
  obtain⟨pl1,pl2⟩:=b3S _ k6
  have hlen:((b5q m v (crL (a0j m) v)).length:Int)=((pcs (a0D n w) n).length:Int)*(((pcs (a0D n w) n).length:Int) - 1) / 2:=by
   rw[hwl,elen]
   show (((prs (pcs (a0D n w) n).length).map _).length:Int)=_
   rw[List.length_map,pl1]
   generalize (pcs (a0D n w) n).length=k at k6
   have:∀ k≤6,((k*(k - 1) / 2:Nat):Int)=(k:Int)*((k:Int) - 1) / 2:=by decide
   exact this k k6
  refine⟨v,rfl,okr,fun r3 M11 hr3 hS11 hM3=>?_⟩
  dsimp only
  rw[hM3]
  dsimp only
  rw[List.length_map]
  refine⟨.inl ⟨by lia,by lia⟩,⟨by decide,by decide⟩,?_⟩
  rw[if_neg (fun z=>z hlen),hK8];clear hK8
  have hS12:=hS10.trans hS11
  clear hS10 hS11 hM3
  walk_at "rd"
  refine⟨w,rfl,ok,fun a1 M13 ha1 hS13 hMa1=>?_⟩
  dsimp only
  refine⟨v,rfl,okr,fun a2 M14 ha2 hS14 hMa2=>?_⟩
  dsimp only
  refine⟨_,fun a b=>winS (pcs (a0D n w) n) a b (crL (a0j n) w) / 2,fun a b=>winS (pcs (a0D m v) m) a b (crL (a0j m) v) / 2,row,rfl,k6,hS14 _ _ hMa1,?_,hrow,?_,fun M15 hS15=>?_⟩
  ·rw[hMa2,hwl,elen]
  ·intro q hq
   obtain⟨q1,q2,q3⟩:=a1w.mp hq
   have e:=hwind q.1 q.2 (by lia) (by lia) (by lia)
   dsimp only
   rw[← e]
   congr 1
   unfold loR hiR
   split
   ·rw[if_neg (by lia),a9a]
   ·split
    ·rfl
    ·rw[show gI row q.1=gI row q.2 by lia]
  ·exact a0y h (((hS12.trans hS13).trans hS14).trans hS15)
 ·exact h.elim
theorem Df.u {P w K mg base n m x ps sp} (D:Df P w K mg base n x ps sp) (h:n≤m:=by decide):Df P w K mg base m x ps sp:=D.mono h
noncomputable abbrev RwA (K:PySem.W.Frag) (x:Str) (f:Addr):Prop:=PySem.W.nsIn K mainGlobals x=some (some (.ref f))
noncomputable abbrev RwL (K:PySem.W.Frag) (x:Str) (s:Stmt) (f:Addr) (oc:Value) (od:Option Addr) (kV dc pm:Value) (an:Option Addr) (cd ct:Value) (sl:Array (Option Value)):Prop:=K.lookup f=some ⟨oc,od,.func (PySem.W.fnOf x x (a6k s) (a4r s) (a0i s) .none kV dc pm an cd ct),sl⟩
noncomputable abbrev RwC (K:PySem.W.Frag) (cd:Value) (x:Str):Prop:=PySem.W.codeIn K cd x=true
noncomputable abbrev RwK (K:PySem.W.Frag) (f:Addr):Prop:=PySem.W.keepIn K (.ref f)=true
theorem c0U {l:PySem.W.OpenLaw} {w:World} {K:PySem.W.Frag} {h:Heap} {mg:Str→Option Value} {fa f1 f2 f3 f4 f5 f6 f7 f8 f9 f10 f11 f12 f13 f14 f15 f16 f17 f18 f19 f20 f21 f22 f23 f24 f25 f26 f27 f28 f29 f30 f31 f32 f33 f34 f35 f36 f37 f38 f39 f40 f41 f42 f43 f44 f45 f46 f47 f48 f49:Addr} (X:K.In h) (G:h.Ns mainGlobals mg) (hfa:mg "law"=some (.ref fa))
  {od1 od2 od3 od4 od5 od6 od7 od8 od9 od10 od11 od12 od13 od14 od15 od16 od17 od18 od19 od20 od21 od22 od23 od24 od25 od26 od27 od28 od29 od30 od31 od32 od33 od34 od35 od36 od37 od38 od39 od40 od41 od42 od43 od44 od45 od46 od47 od48 od49 an1 an2 an3 an4 an5 an6 an7 an8 an9 an10 an11 an12 an13 an14 an15 an16 an17 an18 an19 an20 an21 an22 an23 an24 an25 an26 an27 an28 an29 an30 an31 an32 an33 an34 an35 an36 an37 an38 an39 an40 an41 an42 an43 an44 an45 an46 an47 an48 an49:Option Addr} {sl1 sl2 sl3 sl4 sl5 sl6 sl7 sl8 sl9 sl10 sl11 sl12 sl13 sl14 sl15 sl16 sl17 sl18 sl19 sl20 sl21 sl22 sl23 sl24 sl25 sl26 sl27 sl28 sl29 sl30 sl31 sl32 sl33 sl34 sl35 sl36 sl37 sl38 sl39 sl40 sl41 sl42 sl43 sl44 sl45 sl46 sl47 sl48 sl49:Array (Option Value)} {oc1 oc2 oc3 oc4 oc5 oc6 oc7 oc8 oc9 oc10 oc11 oc12 oc13 oc14 oc15 oc16 oc17 oc18 oc19 oc20 oc21 oc22 oc23 oc24 oc25 oc26 oc27 oc28 oc29 oc30 oc31 oc32 oc33 oc34 oc35 oc36 oc37 oc38 oc39 oc40 oc41 oc42 oc43 oc44 oc45 oc46 oc47 oc48 oc49 kV1 kV2 kV3 kV4 kV5 kV6 kV7 kV8 kV9 kV10 kV11 kV12 kV13 kV14 kV15 kV16 kV17 kV18 kV19 kV20 kV21 kV22 kV23 kV24 kV25 kV26 kV27 kV28 kV29 kV30 kV31 kV32 kV33 kV34 kV35 kV36 kV37 kV38 kV39 kV40 kV41 kV42 kV43 kV44 kV45 kV46 kV47 kV48 kV49 dc1 dc2 dc3 dc4 dc5 dc6 dc7 dc8 dc9 dc10 dc11 dc12 dc13 dc14 dc15 dc16 dc17 dc18 dc19 dc20 dc21 dc22 dc23 dc24 dc25 dc26 dc27 dc28 dc29 dc30 dc31 dc32 dc33 dc34 dc35 dc36 dc37 dc38 dc39 dc40 dc41 dc42 dc43 dc44 dc45 dc46 dc47 dc48 dc49 pm1 pm2 pm3 pm4 pm5 pm6 pm7 pm8 pm9 pm10 pm11 pm12 pm13 pm14 pm15 pm16 pm17 pm18 pm19 pm20 pm21 pm22 pm23 pm24 pm25 pm26 pm27 pm28 pm29 pm30 pm31 pm32 pm33 pm34 pm35 pm36 pm37 pm38 pm39 pm40 pm41 pm42 pm43 pm44 pm45 pm46 pm47 pm48 pm49 cd1 cd2 cd3 cd4 cd5 cd6 cd7 cd8 cd9 cd10 cd11 cd12 cd13 cd14 cd15 cd16 cd17 cd18 cd19 cd20 cd21 cd22 cd23 cd24 cd25 cd26 cd27 cd28 cd29 cd30 cd31 cd32 cd33 cd34 cd35 cd36 cd37 cd38 cd39 cd40 cd41 cd42 cd43 cd44 cd45 cd46 cd47 cd48 cd49 ct1 ct2 ct3 ct4 ct5 ct6 ct7 ct8 ct9 ct10 ct11 ct12 ct13 ct14 ct15 ct16 ct17 ct18 ct19 ct20 ct21 ct22 ct23 ct24 ct25 ct26 ct27 ct28 ct29 ct30 ct31 ct32 ct33 ct34 ct35 ct36 ct37 ct38 ct39 ct40 ct41 ct42 ct43 ct44 ct45 ct46 ct47 ct48 ct49:Value}
  (a1:RwA K "is_letter" f1) (l1:RwL K "is_letter" a4h f1 oc1 od1 kV1 dc1 pm1 an1 cd1 ct1 sl1) (c1:RwC K cd1 "is_letter") (k1:RwK K f1)
  (a2:RwA K "is_word" f2) (l2:RwL K "is_word" a4E f2 oc2 od2 kV2 dc2 pm2 an2 cd2 ct2 sl2) (c2:RwC K cd2 "is_word") (k2:RwK K f2)
  (a3:RwA K "is_plait" f3) (l3:RwL K "is_plait" a4X f3 oc3 od3 kV3 dc3 pm3 an3 cd3 ct3 sl3) (c3:RwC K cd3 "is_plait") (k3:RwK K f3)
  (a4:RwA K "looked" f4) (l4:RwL K "looked" a6H f4 oc4 od4 kV4 dc4 pm4 an4 cd4 ct4 sl4) (c4:RwC K cd4 "looked") (k4:RwK K f4)
  (a5:RwA K "exchanged" f5) (l5:RwL K "exchanged" a4i f5 oc5 od5 kV5 dc5 pm5 an5 cd5 ct5 sl5) (c5:RwC K cd5 "exchanged") (k5:RwK K f5)
  (a6:RwA K "places_in" f6) (l6:RwL K "places_in" a3f f6 oc6 od6 kV6 dc6 pm6 an6 cd6 ct6 sl6) (c6:RwC K cd6 "places_in") (k6:RwK K f6)
  (a7:RwA K "flipped_letter" f7) (l7:RwL K "flipped_letter" a1R f7 oc7 od7 kV7 dc7 pm7 an7 cd7 ct7 sl7) (c7:RwC K cd7 "flipped_letter") (k7:RwK K f7)
  (a8:RwA K "flipped" f8) (l8:RwL K "flipped" a4F f8 oc8 od8 kV8 dc8 pm8 an8 cd8 ct8 sl8) (c8:RwC K cd8 "flipped") (k8:RwK K f8)
  (a9:RwA K "order_of" f9) (l9:RwL K "order_of" a4W f9 oc9 od9 kV9 dc9 pm9 an9 cd9 ct9 sl9) (c9:RwC K cd9 "order_of") (k9:RwK K f9)
  (a10:RwA K "looked_word" f10) (l10:RwL K "looked_word" a2T f10 oc10 od10 kV10 dc10 pm10 an10 cd10 ct10 sl10) (c10:RwC K cd10 "looked_word") (k10:RwK K f10)
  (a11:RwA K "can_far" f11) (l11:RwL K "can_far" a5I f11 oc11 od11 kV11 dc11 pm11 an11 cd11 ct11 sl11) (c11:RwC K cd11 "can_far") (k11:RwK K f11)
  (a12:RwA K "can_three" f12) (l12:RwL K "can_three" a4k f12 oc12 od12 kV12 dc12 pm12 an12 cd12 ct12 sl12) (c12:RwC K cd12 "can_three") (k12:RwK K f12)
  (a13:RwA K "can_out" f13) (l13:RwL K "can_out" a5H f13 oc13 od13 kV13 dc13 pm13 an13 cd13 ct13 sl13) (c13:RwC K cd13 "can_out") (k13:RwK K f13)
  (a14:RwA K "signed" f14) (l14:RwL K "signed" a6G f14 oc14 od14 kV14 dc14 pm14 an14 cd14 ct14 sl14) (c14:RwC K cd14 "signed") (k14:RwK K f14)
  (a15:RwA K "with_three" f15) (l15:RwL K "with_three" a3u f15 oc15 od15 kV15 dc15 pm15 an15 cd15 ct15 sl15) (c15:RwC K cd15 "with_three") (k15:RwK K f15)
  (a16:RwA K "with_in" f16) (l16:RwL K "with_in" a5E f16 oc16 od16 kV16 dc16 pm16 an16 cd16 ct16 sl16) (c16:RwC K cd16 "with_in") (k16:RwK K f16)
  (a17:RwA K "done" f17) (l17:RwL K "done" b1K f17 oc17 od17 kV17 dc17 pm17 an17 cd17 ct17 sl17) (c17:RwC K cd17 "done") (k17:RwK K f17)
  (a18:RwA K "stepped" f18) (l18:RwL K "stepped" a5F f18 oc18 od18 kV18 dc18 pm18 an18 cd18 ct18 sl18) (c18:RwC K cd18 "stepped") (k18:RwK K f18)
  (a19:RwA K "piece_from" f19) (l19:RwL K "piece_from" a3w f19 oc19 od19 kV19 dc19 pm19 an19 cd19 ct19 sl19) (c19:RwC K cd19 "piece_from") (k19:RwK K f19)
  (a20:RwA K "pieces" f20) (l20:RwL K "pieces" a4V f20 oc20 od20 kV20 dc20 pm20 an20 cd20 ct20 sl20) (c20:RwC K cd20 "pieces") (k20:RwK K f20)
  (a21:RwA K "sign_of" f21) (l21:RwL K "sign_of" a5G f21 oc21 od21 kV21 dc21 pm21 an21 cd21 ct21 sl21) (c21:RwC K cd21 "sign_of") (k21:RwK K f21)
  (a22:RwA K "turns" f22) (l22:RwL K "turns" a6T f22 oc22 od22 kV22 dc22 pm22 an22 cd22 ct22 sl22) (c22:RwC K cd22 "turns") (k22:RwK K f22)
  (a23:RwA K "crossings" f23) (l23:RwL K "crossings" a4j f23 oc23 od23 kV23 dc23 pm23 an23 cd23 ct23 sl23) (c23:RwC K cd23 "crossings") (k23:RwK K f23)
  (a24:RwA K "piece_numbers" f24) (l24:RwL K "piece_numbers" a2e f24 oc24 od24 kV24 dc24 pm24 an24 cd24 ct24 sl24) (c24:RwC K cd24 "piece_numbers") (k24:RwK K f24)
  (a25:RwA K "windings" f25) (l25:RwL K "windings" a3L f25 oc25 od25 kV25 dc25 pm25 an25 cd25 ct25 sl25) (c25:RwC K cd25 "windings") (k25:RwK K f25)
  (a26:RwA K "with_round" f26) (l26:RwL K "with_round" a3v f26 oc26 od26 kV26 dc26 pm26 an26 cd26 ct26 sl26) (c26:RwC K cd26 "with_round") (k26:RwK K f26)
  (a27:RwA K "with_back" f27) (l27:RwL K "with_back" a4f f27 oc27 od27 kV27 dc27 pm27 an27 cd27 ct27 sl27) (c27:RwC K cd27 "with_back") (k27:RwK K f27)
  (a28:RwA K "with_less" f28) (l28:RwL K "with_less" a3e f28 oc28 od28 kV28 dc28 pm28 an28 cd28 ct28 sl28) (c28:RwC K cd28 "with_less") (k28:RwK K f28)
  (a29:RwA K "with_more" f29) (l29:RwL K "with_more" a4e f29 oc29 od29 kV29 dc29 pm29 an29 cd29 ct29 sl29) (c29:RwC K cd29 "with_more") (k29:RwK K f29)
  (a30:RwA K "with_step" f30) (l30:RwL K "with_step" a4d f30 oc30 od30 kV30 dc30 pm30 an30 cd30 ct30 sl30) (c30:RwC K cd30 "with_step") (k30:RwK K f30)
  (a31:RwA K "moved" f31) (l31:RwL K "moved" a8p f31 oc31 od31 kV31 dc31 pm31 an31 cd31 ct31 sl31) (c31:RwC K cd31 "moved") (k31:RwK K f31)
  (a32:RwA K "moved_all" f32) (l32:RwL K "moved_all" a4g f32 oc32 od32 kV32 dc32 pm32 an32 cd32 ct32 sl32) (c32:RwC K cd32 "moved_all") (k32:RwK K f32)
  (a33:RwA K "_law_state" f33) (l33:RwL K "_law_state" a3y f33 oc33 od33 kV33 dc33 pm33 an33 cd33 ct33 sl33) (c33:RwC K cd33 "_law_state") (k33:RwK K f33)
  (a34:RwA K "_law_take" f34) (l34:RwL K "_law_take" a4l f34 oc34 od34 kV34 dc34 pm34 an34 cd34 ct34 sl34) (c34:RwC K cd34 "_law_take") (k34:RwK K f34)
  (a35:RwA K "_law_letter" f35) (l35:RwL K "_law_letter" a2U f35 oc35 od35 kV35 dc35 pm35 an35 cd35 ct35 sl35) (c35:RwC K cd35 "_law_letter") (k35:RwK K f35)
  (a36:RwA K "_law_plait" f36) (l36:RwL K "_law_plait" a3z f36 oc36 od36 kV36 dc36 pm36 an36 cd36 ct36 sl36) (c36:RwC K cd36 "_law_plait") (k36:RwK K f36)
  (a37:RwA K "_law_sign" f37) (l37:RwL K "_law_sign" a4m f37 oc37 od37 kV37 dc37 pm37 an37 cd37 ct37 sl37) (c37:RwC K cd37 "_law_sign") (k37:RwK K f37)
  (a38:RwA K "_law_three" f38) (l38:RwL K "_law_three" a3x f38 oc38 od38 kV38 dc38 pm38 an38 cd38 ct38 sl38) (c38:RwC K cd38 "_law_three") (k38:RwK K f38)
  (a39:RwA K "_law_after" f39) (l39:RwL K "_law_after" a3B f39 oc39 od39 kV39 dc39 pm39 an39 cd39 ct39 sl39) (c39:RwC K cd39 "_law_after") (k39:RwK K f39)
  (a40:RwA K "_law_can" f40) (l40:RwL K "_law_can" a3M f40 oc40 od40 kV40 dc40 pm40 an40 cd40 ct40 sl40) (c40:RwC K cd40 "_law_can") (k40:RwK K f40)
  (a41:RwA K "_law_any_step" f41) (l41:RwL K "_law_any_step" a2g f41 oc41 od41 kV41 dc41 pm41 an41 cd41 ct41 sl41) (c41:RwC K cd41 "_law_any_step") (k41:RwK K f41)
  (a42:RwA K "_law_moved" f42) (l42:RwL K "_law_moved" a2z f42 oc42 od42 kV42 dc42 pm42 an42 cd42 ct42 sl42) (c42:RwC K cd42 "_law_moved") (k42:RwK K f42)
  (a43:RwA K "_law_why_not" f43) (l43:RwL K "_law_why_not" a1M f43 oc43 od43 kV43 dc43 pm43 an43 cd43 ct43 sl43) (c43:RwC K cd43 "_law_why_not") (k43:RwK K f43)
  (a44:RwA K "_law_any_move" f44) (l44:RwL K "_law_any_move" a2h f44 oc44 od44 kV44 dc44 pm44 an44 cd44 ct44 sl44) (c44:RwC K cd44 "_law_any_move") (k44:RwK K f44)
  (a45:RwA K "_law_moves" f45) (l45:RwL K "_law_moves" a3A f45 oc45 od45 kV45 dc45 pm45 an45 cd45 ct45 sl45) (c45:RwC K cd45 "_law_moves") (k45:RwK K f45)
  (a46:RwA K "_law_change" f46) (l46:RwL K "_law_change" a2V f46 oc46 od46 kV46 dc46 pm46 an46 cd46 ct46 sl46) (c46:RwC K cd46 "_law_change") (k46:RwK K f46)
  (a47:RwA K "_law_orders" f47) (l47:RwL K "_law_orders" a2f f47 oc47 od47 kV47 dc47 pm47 an47 cd47 ct47 sl47) (c47:RwC K cd47 "_law_orders") (k47:RwK K f47)
  (a48:RwA K "_law_alike" f48) (l48:RwL K "_law_alike" a2A f48 oc48 od48 kV48 dc48 pm48 an48 cd48 ct48 sl48) (c48:RwC K cd48 "_law_alike") (k48:RwK K f48)
  (a49:RwA K "law" f49) (l49:RwL K "law" b0P f49 oc49 od49 kV49 dc49 pm49 an49 cd49 ct49 sl49) (c49:RwC K cd49 "law") (k49:RwK K f49)
  (z_abs:PySem.W.nsIn K mainGlobals "abs"=some none)
  (z_all:PySem.W.nsIn K mainGlobals "all"=some none)
  (z_enumerate:PySem.W.nsIn K mainGlobals "enumerate"=some none)
  (z_int:PySem.W.nsIn K mainGlobals "int"=some none)
  (z_len:PySem.W.nsIn K mainGlobals "len"=some none)
  (z_list:PySem.W.nsIn K mainGlobals "list"=some none)
  (z_max:PySem.W.nsIn K mainGlobals "max"=some none)
  (z_min:PySem.W.nsIn K mainGlobals "min"=some none)
  (z_range:PySem.W.nsIn K mainGlobals "range"=some none)
  (z_sorted:PySem.W.nsIn K mainGlobals "sorted"=some none)
  (z_sum:PySem.W.nsIn K mainGlobals "sum"=some none)
  (z_tuple:PySem.W.nsIn K mainGlobals "tuple"=some none)
  {tk_MOST_LETTERS:Tok} (g_MOST_LETTERS:PySem.W.nsIn K mainGlobals "MOST_LETTERS"=some (some (.int 16 tk_MOST_LETTERS)))
  {tk_MOST_LETTERS_IN_STEPS:Tok} (g_MOST_LETTERS_IN_STEPS:PySem.W.nsIn K mainGlobals "MOST_LETTERS_IN_STEPS"=some (some (.int 4000 tk_MOST_LETTERS_IN_STEPS)))
  {tk_MOST_STRANDS:Tok} (g_MOST_STRANDS:PySem.W.nsIn K mainGlobals "MOST_STRANDS"=some (some (.int 6 tk_MOST_STRANDS)))
  {dC:Addr} {e_can:Nat} {t_can1 t_can2 t_can3:Tok} (n_can:PySem.W.nsIn K mainGlobals "CAN"=some (some (.ref dC))) (l_can:K.lookup dC=some ⟨.type "dict",none,.dict #[⟨PyData.keyHash w.params "far",.str "far" t_can1,.ref f11⟩,⟨PyData.keyHash w.params "three",.str "three" t_can2,.ref f12⟩,⟨PyData.keyHash w.params "out",.str "out" t_can3,.ref f13⟩] e_can,#[]⟩) (s_can:(dC == sysModules)=false)
  : ∃ fd:FuncData,(∀ (s:Shared) (v:Value),BindsTo s fd ⟨[v],[]⟩ [("script",v)])∧∀ base:Heap,K.In base→base.Ns mainGlobals mg→FnOk l.prog w K mg base CX0 8 fa fd ["script"] (dSp K a7J):=by
 have e:=hfa.symm.trans (PySem.W.mg_of X G a49)
 cases e
 have mo:∀ {x:Str} {f:Addr},RwA K x f→mg x=some (.ref f):=fun a=>PySem.W.mg_of X G a
 have Z:Zs mg:=⟨PySem.W.mg_none_of X G z_abs,PySem.W.mg_none_of X G z_all,PySem.W.mg_none_of X G z_enumerate,PySem.W.mg_none_of X G z_int,PySem.W.mg_none_of X G z_len,PySem.W.mg_none_of X G z_list,PySem.W.mg_none_of X G z_max,PySem.W.mg_none_of X G z_min,PySem.W.mg_none_of X G z_range,PySem.W.mg_none_of X G z_sorted,PySem.W.mg_none_of X G z_sum,PySem.W.mg_none_of X G z_tuple,⟨tk_MOST_LETTERS,PySem.W.mg_of X G g_MOST_LETTERS⟩,⟨tk_MOST_LETTERS_IN_STEPS,PySem.W.mg_of X G g_MOST_LETTERS_IN_STEPS⟩,⟨tk_MOST_STRANDS,PySem.W.mg_of X G g_MOST_STRANDS⟩⟩
 have F1:=a0C (st:=a4h) l1 c1 k1
 have b1:=F1.binds (ps:=["strands","letter"]) (by walk_at "b2")
 have F2:=a0C (st:=a4E) l2 c2 k2
 have b2:=F2.binds (ps:=["strands","word","most"]) (by walk_at "b3")
 have F3:=a0C (st:=a4X) l3 c3 k3
 have b3:=F3.binds (ps:=["plait"]) (by walk_at "b1")
 have F4:=a0C (st:=a6H) l4 c4 k4
 have b4:=F4.binds (ps:=["plait"]) (by walk_at "b1")
 have F5:=a0C (st:=a4i) l5 c5 k5
 have b5:=F5.binds (ps:=["row","at"]) (by walk_at "b2")
 have F6:=a0C (st:=a3f) l6 c6 k6
 have b6:=F6.binds (ps:=["order"]) (by walk_at "b1")
 have F7:=a0C (st:=a1R) l7 c7 k7
 have b7:=F7.binds (ps:=["strands","letter"]) (by walk_at "b2")
 have F8:=a0C (st:=a4F) l8 c8 k8
 have b8:=F8.binds (ps:=["plait"]) (by walk_at "b1")
 have F9:=a0C (st:=a4W) l9 c9 k9
 have b9:=F9.binds (ps:=["plait"]) (by walk_at "b1")
 have F10:=a0C (st:=a2T) l10 c10 k10
 have b10:=F10.binds (ps:=["strands","word"]) (by walk_at "b2")
 have F11:=a0C (st:=a5I) l11 c11 k11
 have b11:=F11.binds (ps:=["word","at"]) (by walk_at "b2")
 have F12:=a0C (st:=a4k) l12 c12 k12
 have b12:=F12.binds (ps:=["word","at"]) (by walk_at "b2")
 have F13:=a0C (st:=a5H) l13 c13 k13
 have b13:=F13.binds (ps:=["word","at"]) (by walk_at "b2")
 have F14:=a0C (st:=a6G) l14 c14 k14
 have b14:=F14.binds (ps:=["number","letter"]) (by walk_at "b2")
 have F15:=a0C (st:=a3u) l15 c15 k15
 have b15:=F15.binds (ps:=["word","at"]) (by walk_at "b2")
 have F16:=a0C (st:=a5E) l16 c16 k16
 have b16:=F16.binds (ps:=["strands","word","at","letter"]) (by walk_at "b4")
 have F17:=a0C (st:=b1K) l17 c17 k17
 have b17:=F17.binds (ps:=["strands","word","step"]) (by walk_at "b3")
 have F18:=a0C (st:=a5F) l18 c18 k18
 have b18:=F18.binds (ps:=["strands","word","step"]) (by walk_at "b3")
 have F19:=a0C (st:=a3w) l19 c19 k19
 have b19:=F19.binds (ps:=["order","begin"]) (by walk_at "b2")
 have F20:=a0C (st:=a4V) l20 c20 k20
 have b20:=F20.binds (ps:=["plait"]) (by walk_at "b1")
 have F21:=a0C (st:=a5G) l21 c21 k21
 have b21:=F21.binds (ps:=["letter"]) (by walk_at "b1")
 have F22:=a0C (st:=a6T) l22 c22 k22
 have b22:=F22.binds (ps:=["plait"]) (by walk_at "b1")
 have F23:=a0C (st:=a4j) l23 c23 k23
 have b23:=F23.binds (ps:=["plait"]) (by walk_at "b1")
 have F24:=a0C (st:=a2e) l24 c24 k24
 have b24:=F24.binds (ps:=["parts"]) (by walk_at "b1")
 have F25:=a0C (st:=a3L) l25 c25 k25
 have b25:=F25.binds (ps:=["plait"]) (by walk_at "b1")
 have F26:=a0C (st:=a3v) l26 c26 k26
 have b26:=F26.binds (ps:=["plait"]) (by walk_at "b1")
 have F27:=a0C (st:=a4f) l27 c27 k27
 have b27:=F27.binds (ps:=["plait"]) (by walk_at "b1")
 have F28:=a0C (st:=a3e) l28 c28 k28
 have b28:=F28.binds (ps:=["plait"]) (by walk_at "b1")
 have F29:=a0C (st:=a4e) l29 c29 k29
 have b29:=F29.binds (ps:=["plait","sign"]) (by walk_at "b2")
 have F30:=a0C (st:=a4d) l30 c30 k30
 have b30:=F30.binds (ps:=["plait","step"]) (by walk_at "b2")
 have F31:=a0C (st:=a8p) l31 c31 k31
 have b31:=F31.binds (ps:=["plait","move"]) (by walk_at "b2")
 have F32:=a0C (st:=a4g) l32 c32 k32
 have b32:=F32.binds (ps:=["plait","moves"]) (by walk_at "b2")
 have F33:=a0C (st:=a3y) l33 c33 k33
 have b33:=F33.binds (ps:=["script","k"]) (by walk_at "b2")
 have F34:=a0C (st:=a4l) l34 c34 k34
 have b34:=F34.binds (ps:=["state","many"]) (by walk_at "b2")
 have F35:=a0C (st:=a2U) l35 c35 k35
 have b35:=F35.binds (ps:=["state","strands"]) (by walk_at "b2")
 have F36:=a0C (st:=a3z) l36 c36 k36
 have b36:=F36.binds (ps:=["state","most","longest"]) (by walk_at "b3")
 have F37:=a0C (st:=a4m) l37 c37 k37
 have b37:=F37.binds (ps:=["letter"]) (by walk_at "b1")
 have F38:=a0C (st:=a3x) l38 c38 k38
 have b38:=F38.binds (ps:=["part"]) (by walk_at "b1")
 have F39:=a0C (st:=a3B) l39 c39 k39
 have b39:=F39.binds (ps:=["strands","word","step"]) (by walk_at "b3")
 have F40:=a0C (st:=a3M) l40 c40 k40
 have b40:=F40.binds (ps:=["strands","word"]) (by walk_at "b2")
 have F41:=a0C (st:=a2g) l41 c41 k41
 have b41:=F41.binds (ps:=["state","strands","word","longest"]) (by walk_at "b4")
 have F42:=a0C (st:=a2z) l42 c42 k42
 have b42:=F42.binds (ps:=["plait","move"]) (by walk_at "b2")
 have F43:=a0C (st:=a1M) l43 c43 k43
 have b43:=F43.binds (ps:=["plait","move"]) (by walk_at "b2")
 have F44:=a0C (st:=a2h) l44 c44 k44
 have b44:=F44.binds (ps:=["state","plait","longest"]) (by walk_at "b3")
 have F45:=a0C (st:=a3A) l45 c45 k45
 have b45:=F45.binds (ps:=["state","plait","many","most","longest"]) (by walk_at "b5")
 have F46:=a0C (st:=a2V) l46 c46 k46
 have b46:=F46.binds (ps:=["plait","moves"]) (by walk_at "b2")
 have F47:=a0C (st:=a2f) l47 c47 k47
 have b47:=F47.binds (ps:=["many"]) (by walk_at "b1")
 have F48:=a0C (st:=a2A) l48 c48 k48
 have b48:=F48.binds (ps:=["one","other","many"]) (by walk_at "b3")
 have F49:=a0C (st:=b0P) l49 c49 k49
 refine⟨PySem.W.fnOf "law" "law" (a6k b0P) (a4r b0P) (a0i b0P) .none kV49 dc49 pm49 an49 cd49 ct49,fun s v=>.of_eq rfl,fun base _ _=>?_⟩
 have CN:CanN l.prog w K mg dC f11 f12 f13:=⟨b9a [("far",t_can1,f11),("three",t_can2,f12),("out",t_can3,f13)] l_can (by show (["far","three","out"]:List Str).Nodup;decide) s_can,PySem.W.mg_of X G n_can,PySem.W.mg_of X G a11,PySem.W.mg_of X G a12,PySem.W.mg_of X G a13,fun q hq=>by
  simp only[List.mem_cons,List.not_mem_nil,or_false] at hq
  rcases hq with rfl | rfl | rfl
  ·exact k11
  ·exact k12
  ·exact k13
  ⟩
 have D1:=a9I (P:=l.prog) (w:=w) (base:=base) (n:=0) F1 (mo a1) b1 Z 
 have D2:=b2N (P:=l.prog) (w:=w) (base:=base) (n:=1) F2 (mo a2) b2 Z D1.u
 have D3:=b1f (P:=l.prog) (w:=w) (base:=base) (n:=2) F3 (mo a3) b3 Z D2.u
 have D4:=b4h (P:=l.prog) (w:=w) (base:=base) (n:=3) F4 (mo a4) b4 Z D3.u
 have D5:=a9J (P:=l.prog) (w:=w) (base:=base) (n:=0) F5 (mo a5) b5 Z 
 have D6:=a9G (P:=l.prog) (w:=w) (base:=base) (n:=0) F6 (mo a6) b6 Z 
 have D7:=a6e (P:=l.prog) (w:=w) (base:=base) (n:=0) F7 (mo a7) b7 Z 
 have D8:=b2O (P:=l.prog) (w:=w) (base:=base) (n:=4) F8 (mo a8) b8 Z D4.u D7.u
 have D9:=b1e (P:=l.prog) (w:=w) (base:=base) (n:=4) F9 (mo a9) b9 Z D4.u D5.u D6.u
 have D10:=a7x (P:=l.prog) (w:=w) (base:=base) (n:=2) F10 (mo a10) b10 Z D2.u
 have D11:=b2Q (P:=l.prog) (w:=w) (base:=base) (n:=0) F11 (mo a11) b11 Z 
 have D12:=a9L (P:=l.prog) (w:=w) (base:=base) (n:=0) F12 (mo a12) b12 Z 
 have D13:=b2P (P:=l.prog) (w:=w) (base:=base) (n:=0) F13 (mo a13) b13 Z 
 have D14:=b4f (P:=l.prog) (w:=w) (base:=base) (n:=0) F14 (mo a14) b14 Z 
 have D15:=a8z (P:=l.prog) (w:=w) (base:=base) (n:=1) F15 (mo a15) b15 Z D14.u
 have D16:=b2K (P:=l.prog) (w:=w) (base:=base) (n:=1) F16 (mo a16) b16 Z D1.u
 have D17:=b8p (P:=l.prog) (w:=w) (base:=base) (n:=2) F17 (mo a17) b17 Z CN D16.u D11.u D12.u D13.u D5.u D15.u
 have D18:=b2L (P:=l.prog) (w:=w) (base:=base) (n:=3) F18 (mo a18) b18 Z D10.u D17.u
 have D19:=a8B (P:=l.prog) (w:=w) (base:=base) (n:=0) F19 (mo a19) b19 Z 
 have D20:=b4g (P:=l.prog) (w:=w) (base:=base) (n:=5) F20 (mo a20) b20 Z D9.u D19.u
 have D21:=b2M (P:=l.prog) (w:=w) (base:=base) (n:=0) F21 (mo a21) b21 Z 
 have D22:=b5W (P:=l.prog) (w:=w) (base:=base) (n:=4) F22 (mo a22) b22 Z D4.u D21.u
 have D23:=a9K (P:=l.prog) (w:=w) (base:=base) (n:=1) F23 (mo a23) b23 Z D21.u D5.u
 have D24:=a6z (P:=l.prog) (w:=w) (base:=base) (n:=0) F24 (mo a24) b24 Z 
 have D25:=b1d (P:=l.prog) (w:=w) (base:=base) (n:=6) F25 (mo a25) b25 Z D20.u D24.u D23.u
 have D26:=a8A (P:=l.prog) (w:=w) (base:=base) (n:=0) F26 (mo a26) b26 Z 
 have D27:=a9F (P:=l.prog) (w:=w) (base:=base) (n:=0) F27 (mo a27) b27 Z 
 have D28:=a9E (P:=l.prog) (w:=w) (base:=base) (n:=0) F28 (mo a28) b28 Z 
 have D29:=a9D (P:=l.prog) (w:=w) (base:=base) (n:=0) F29 (mo a29) b29 Z 
 have D30:=a9C (P:=l.prog) (w:=w) (base:=base) (n:=4) F30 (mo a30) b30 Z D18.u
 have D31:=b5X (P:=l.prog) (w:=w) (base:=base) (n:=5) F31 (mo a31) b31 Z D4.u D29.u D30.u D26.u D27.u D28.u D8.u
 have D32:=a9H (P:=l.prog) (w:=w) (base:=base) (n:=6) F32 (mo a32) b32 Z D4.u D31.u
 have D33:=a8D (P:=l.prog) (w:=w) (base:=base) (n:=0) F33 (mo a33) b33 Z 
 have D34:=a9M (P:=l.prog) (w:=w) (base:=base) (n:=0) F34 (mo a34) b34 Z 
 have D35:=a7z (P:=l.prog) (w:=w) (base:=base) (n:=1) F35 (mo a35) b35 Z D34.u
 have D36:=a8E (P:=l.prog) (w:=w) (base:=base) (n:=2) F36 (mo a36) b36 Z D34.u D35.u
 have D37:=a9N (P:=l.prog) (w:=w) (base:=base) (n:=0) F37 (mo a37) b37 Z 
 have D38:=a8C (P:=l.prog) (w:=w) (base:=base) (n:=1) F38 (mo a38) b38 Z D37.u
 have D39:=a8I (P:=l.prog) (w:=w) (base:=base) (n:=2) F39 (mo a39) b39 Z D38.u
 have D40:=b1g (P:=l.prog) (w:=w) (base:=base) (n:=3) F40 (mo a40) b40 Z D39.u
 have D41:=a6A (P:=l.prog) (w:=w) (base:=base) (n:=4) F41 (mo a41) b41 Z D40.u D34.u D35.u
 have D42:=a8G (P:=l.prog) (w:=w) (base:=base) (n:=3) F42 (mo a42) b42 Z D37.u D39.u
 have D43:=a7b (P:=l.prog) (w:=w) (base:=base) (n:=3) F43 (mo a43) b43 Z D39.u
 have D44:=a6B (P:=l.prog) (w:=w) (base:=base) (n:=5) F44 (mo a44) b44 Z D34.u D41.u
 have D45:=a8F (P:=l.prog) (w:=w) (base:=base) (n:=6) F45 (mo a45) b45 Z D44.u D43.u D42.u
 have D46:=a7A (P:=l.prog) (w:=w) (base:=base) (n:=4) F46 (mo a46) b46 Z D37.u D42.u
 have D47:=a7y (P:=l.prog) (w:=w) (base:=base) (n:=0) F47 (mo a47) b47 Z 
 have D48:=a8H (P:=l.prog) (w:=w) (base:=base) (n:=1) F48 (mo a48) b48 Z D47.u
 exact c0m (n:=7) F49 Z D33.u D36.u D45.u D34.u D32.u D22.u D46.u D20.u D25.u D48.u
end L2
namespace PySem.W.Fast
theorem tw6780252299667913440:True:=⟨⟩
theorem tw12364400692266014002:True:=⟨⟩
theorem tw8385145423091441250:True:=⟨⟩
theorem tw3541084103584465414:True:=⟨⟩
theorem tw6619632641016422883:True:=⟨⟩
theorem tw3284272151800779523:True:=⟨⟩
theorem tw16611532095035348061:True:=⟨⟩
theorem tw7697664202384414170:True:=⟨⟩
theorem tw13262099962721340950:True:=⟨⟩
theorem tw17605584750730169627:True:=⟨⟩
theorem tw7959969186858037527:True:=⟨⟩
theorem tw4295697073413008949:True:=⟨⟩
theorem tw10871161110170469152:True:=⟨⟩
theorem tw224927711999584187:True:=⟨⟩
theorem tw17268258558475999081:True:=⟨⟩
theorem tw8232963492317796655:True:=⟨⟩
theorem tw3265048070880278688:True:=⟨⟩
theorem tw15902528136516270032:True:=⟨⟩
theorem tw3744066969215121216:True:=⟨⟩
theorem tw13212912457120625394:True:=⟨⟩
theorem tw3780746778195714907:True:=⟨⟩
theorem tw12534051429902426992:True:=⟨⟩
theorem tw8331816069325007111:True:=⟨⟩
theorem tw8558298317943751708:True:=⟨⟩
theorem tw13599246932600091746:True:=⟨⟩
theorem tw1492051290279804675:True:=⟨⟩
theorem tw15171130002854970714:True:=⟨⟩
theorem tw11349282457388243240:True:=⟨⟩
theorem tw976290765219702983:True:=⟨⟩
theorem tw12154124107870800017:True:=⟨⟩
theorem tw15344836806218905365:True:=⟨⟩
theorem tw5356801851836674819:True:=⟨⟩
theorem tw5188507483647329505:True:=⟨⟩
theorem tw3665132759315060405:True:=⟨⟩
theorem tw13401471310680122904:True:=⟨⟩
theorem tw12319484412278042747:True:=⟨⟩
theorem tw5402508688752576068:True:=⟨⟩
theorem tw16530084655598000432:True:=⟨⟩
theorem tw1704939992981918682:True:=⟨⟩
theorem tw3331432271220953106:True:=⟨⟩
theorem tw7108027046570579728:True:=⟨⟩
theorem tw8010011381404340730:True:=⟨⟩
theorem tw14777359951689406120:True:=⟨⟩
theorem tw12311929713049887102:True:=⟨⟩
theorem tw15044920293615241874:True:=⟨⟩
theorem tw3489559663563378810:True:=⟨⟩
theorem tw12692540581105941808:True:=⟨⟩
theorem tw5598579177350160799:True:=⟨⟩
theorem tw15840889731312205227:True:=⟨⟩
theorem tw13500867541598311601:True:=⟨⟩
theorem tw6987204536358429351:True:=⟨⟩
theorem tw1763367429862266260:True:=⟨⟩
theorem tw11443680092905753084:True:=⟨⟩
theorem tw11100703696388731893:True:=⟨⟩
theorem tw1262611975081388267:True:=⟨⟩
theorem tw12943788127404297270:True:=⟨⟩
theorem tw6129269543096364335:True:=⟨⟩
theorem tw3585244486630776953:True:=⟨⟩
theorem tw12881574508956371925:True:=⟨⟩
theorem tw378291568710310640:True:=⟨⟩
theorem tw11366711957018200508:True:=⟨⟩
theorem tw3161371981953918495:True:=⟨⟩
theorem tw9121894711423690261:True:=⟨⟩
theorem tw1148492123819102216:True:=⟨⟩
theorem tw5705404663642144962:True:=⟨⟩
theorem tw12237115329461779446:True:=⟨⟩
theorem tw9869666019212648975:True:=⟨⟩
theorem tw15645439398623897946:True:=⟨⟩
theorem tw6503018579656179823:True:=⟨⟩
theorem tw2268817601253124001:True:=⟨⟩
theorem tw6247870223180595704:True:=⟨⟩
theorem tw7521337899470272867:True:=⟨⟩
theorem tw8940585285130091382:True:=⟨⟩
theorem tw17584005620499382051:True:=⟨⟩
theorem tw1134201212015579665:True:=⟨⟩
theorem tw2866627351576967614:True:=⟨⟩
theorem tw1498861998818198932:True:=⟨⟩
theorem tw18009094817658515325:True:=⟨⟩
theorem tw5634884239390160436:True:=⟨⟩
theorem tw12862172226422726979:True:=⟨⟩
theorem tw8376549597278257292:True:=⟨⟩
theorem tw7432913297739289538:True:=⟨⟩
theorem tw11344760062601618735:True:=⟨⟩
theorem tw3902482778038627985:True:=⟨⟩
theorem tw10722922280196540367:True:=⟨⟩
theorem tw1872719790841550511:True:=⟨⟩
theorem tw11801874842059834220:True:=⟨⟩
theorem tw8165319166945360236:True:=⟨⟩
theorem tw4982127099242627714:True:=⟨⟩
theorem tw15231566257165521035:True:=⟨⟩
theorem tw5013825318852994326:True:=⟨⟩
theorem tw3415374920823321596:True:=⟨⟩
theorem tw17936707462691284133:True:=⟨⟩
theorem tw1896142383315188398:True:=⟨⟩
theorem tw13928674688781440336:True:=⟨⟩
theorem tw18157409335867188459:True:=⟨⟩
theorem tw17914490263338014226:True:=⟨⟩
theorem tw16472179341865592587:True:=⟨⟩
theorem tw16943995844094596944:True:=⟨⟩
theorem tw11774998647119820464:True:=⟨⟩
theorem tw9430089167292845539:True:=⟨⟩
theorem tw15713607183637176287:True:=⟨⟩
theorem tw6962809210192361477:True:=⟨⟩
theorem tw3993215344967301308:True:=⟨⟩
theorem tw2633163599100417972:True:=⟨⟩
theorem tw960475419890004515:True:=⟨⟩
theorem tw11082288984737593518:True:=⟨⟩
theorem tw3494848828024944221:True:=⟨⟩
theorem tw412039226607696770:True:=⟨⟩
theorem tw7186721294193228100:True:=⟨⟩
theorem tw15245773288469117719:True:=⟨⟩
theorem tw12065448756701935072:True:=⟨⟩
theorem tw3341713026620255745:True:=⟨⟩
theorem tw1618138068756253393:True:=⟨⟩
theorem tw5980514141928311054:True:=⟨⟩
theorem tw270671420837372602:True:=⟨⟩
theorem tw9968045978035435067:True:=⟨⟩
theorem tw6213502183520736946:True:=⟨⟩
theorem tw12205318781956953013:True:=⟨⟩
theorem tw9698233350035767524:True:=⟨⟩
theorem tw2458326759474489219:True:=⟨⟩
theorem tw18042597243035961926:True:=⟨⟩
theorem tw6707393525084774633:True:=⟨⟩
theorem tw10682107132566687994:True:=⟨⟩
theorem tw6549866879816079869:True:=⟨⟩
theorem tw233614826029171125:True:=⟨⟩
theorem tw10285415352747555754:True:=⟨⟩
theorem tw8529974519314895598:True:=⟨⟩
theorem tw11535271359020964910:True:=⟨⟩
theorem tw12553005850475556394:True:=⟨⟩
theorem tw12340708348169874136:True:=⟨⟩
theorem tw12362258342168314814:True:=⟨⟩
theorem tw5056809062122217390:True:=⟨⟩
theorem tw15756760293259074306:True:=⟨⟩
theorem tw13258604084610371132:True:=⟨⟩
theorem tw13503469213886777944:True:=⟨⟩
theorem tw9185549127335712419:True:=⟨⟩
theorem tw4761118530088572611:True:=⟨⟩
theorem tw12906839737663333511:True:=⟨⟩
theorem tw9652694241772862127:True:=⟨⟩
theorem tw8492048085658167537:True:=⟨⟩
theorem tw17583262805597670510:True:=⟨⟩
theorem tw6547066446318518427:True:=⟨⟩
theorem tw6149978245361896377:True:=⟨⟩
theorem tw305834141346981877:True:=⟨⟩
theorem tw3087286486160029085:True:=⟨⟩
theorem tw13342466840745091208:True:=⟨⟩
theorem tw16625182410533556300:True:=⟨⟩
theorem tw13631398977342288180:True:=⟨⟩
theorem tw15189801241080694772:True:=⟨⟩
theorem tw6685469115580144265:True:=⟨⟩
theorem tw6877536749063042341:True:=⟨⟩
theorem tw7588056577761483852:True:=⟨⟩
theorem tw8509968590142965442:True:=⟨⟩
theorem tw5096663450228662394:True:=⟨⟩
theorem tw11460819887613486794:True:=⟨⟩
theorem tw4247814166899613299:True:=⟨⟩
theorem tw11656015334960791235:True:=⟨⟩
theorem tw10806793305712304086:True:=⟨⟩
theorem tw9132610958469865169:True:=⟨⟩
theorem tw11397523192856469363:True:=⟨⟩
theorem tw2773717199620208052:True:=⟨⟩
theorem tw4840914628741221966:True:=⟨⟩
theorem tw17367860517189643452:True:=⟨⟩
theorem tw2785214981813434531:True:=⟨⟩
theorem tw18219575066059047437:True:=⟨⟩
theorem tw2923942115789066506:True:=⟨⟩
theorem tw9152053265825798957:True:=⟨⟩
theorem tw463035516830496799:True:=⟨⟩
theorem tw13331226971229174282:True:=⟨⟩
theorem tw4732137018264786614:True:=⟨⟩
theorem tw3132324066152313674:True:=⟨⟩
theorem tw5505576825626196167:True:=⟨⟩
theorem tw15956503149936942491:True:=⟨⟩
theorem tw9908983312025108478:True:=⟨⟩
theorem tw2217615863849219450:True:=⟨⟩
theorem tw1475324097989489521:True:=⟨⟩
theorem tw15709165481215796469:True:=⟨⟩
theorem tw12687702142381041515:True:=⟨⟩
theorem tw8120532209626132016:True:=⟨⟩
theorem tw17010446826639462000:True:=⟨⟩
theorem tw9019195950865309:True:=⟨⟩
theorem tw9275262162037976340:True:=⟨⟩
theorem tw11287078028496062660:True:=⟨⟩
theorem tw3133521354097933413:True:=⟨⟩
theorem tw3109859215465005281:True:=⟨⟩
theorem tw7458222127836356454:True:=⟨⟩
theorem tw16152773082293315496:True:=⟨⟩
theorem tw2547797174994173763:True:=⟨⟩
theorem tw6973859964353701277:True:=⟨⟩
theorem tw14604536958609248606:True:=⟨⟩
theorem tw14977096448517126512:True:=⟨⟩
theorem tw10183637347447492453:True:=⟨⟩
theorem tw4675495001116590277:True:=⟨⟩
theorem tw12341521289732422823:True:=⟨⟩
theorem tw3811453849235260435:True:=⟨⟩
theorem tw15742277870698981758:True:=⟨⟩
theorem tw4951083829368459554:True:=⟨⟩
theorem tw17560572781457018648:True:=⟨⟩
theorem tw16355159871089376303:True:=⟨⟩
theorem tw13306449740974800430:True:=⟨⟩
theorem tw13146710838922391728:True:=⟨⟩
theorem tw9945548960346646944:True:=⟨⟩
theorem tw2857061447987239151:True:=⟨⟩
theorem tw13734028224711206575:True:=⟨⟩
theorem tw6105926638449858019:True:=⟨⟩
theorem tw3653655466670178072:True:=⟨⟩
theorem tw13944209297226156973:True:=⟨⟩
theorem tw2185446030684064690:True:=⟨⟩
theorem tw3677857270475936817:True:=⟨⟩
theorem tw2749020721085024309:True:=⟨⟩
theorem tw9352217531085346995:True:=⟨⟩
theorem tw440777282035940823:True:=⟨⟩
theorem tw6839973582131448859:True:=⟨⟩
theorem tw1007657529121122235:True:=⟨⟩
theorem tw8535109401180299178:True:=⟨⟩
theorem tw12812625218506303330:True:=⟨⟩
theorem tw2928694846278262881:True:=⟨⟩
theorem tw3420134257061959122:True:=⟨⟩
theorem tw16000246705170578519:True:=⟨⟩
theorem tw1314511368965461019:True:=⟨⟩
theorem tw12415187667477901755:True:=⟨⟩
theorem tw14563311951566131766:True:=⟨⟩
theorem tw15020318945158993650:True:=⟨⟩
theorem tw4901309260242170334:True:=⟨⟩
theorem tw11601828858486700986:True:=⟨⟩
theorem tw5146103146452967372:True:=⟨⟩
theorem tw5746687282310193698:True:=⟨⟩
theorem tw8498243221172311042:True:=⟨⟩
theorem tw1278614014888967723:True:=⟨⟩
theorem tw10366755958536309833:True:=⟨⟩
theorem tw14483628131651735522:True:=⟨⟩
theorem tw17196704506951069784:True:=⟨⟩
theorem tw10156208270688562684:True:=⟨⟩
theorem tw12993771417170970921:True:=⟨⟩
theorem tw3914677527747190987:True:=⟨⟩
theorem tw12624049581775915475:True:=⟨⟩
theorem tw18170457598085052867:True:=⟨⟩
theorem tw1764556966170095170:True:=⟨⟩
theorem tw11609534371960528099:True:=⟨⟩
theorem tw4444550132907310875:True:=⟨⟩
theorem tw4952545093337199982:True:=⟨⟩
theorem tw3528301643151533662:True:=⟨⟩
theorem tw9420130866186659933:True:=⟨⟩
theorem tw3142537078998732390:True:=⟨⟩
theorem tw10638018837775945853:True:=⟨⟩
theorem tw926318202067954841:True:=⟨⟩
theorem tw6380196570091598261:True:=⟨⟩
theorem tw17028005885202776511:True:=⟨⟩
theorem tw15600471625676473863:True:=⟨⟩
theorem tw17626160105789577672:True:=⟨⟩
theorem tw10138968991573019978:True:=⟨⟩
theorem tw6214243166171177588:True:=⟨⟩
theorem tw9949997238362673477:True:=⟨⟩
theorem tw8102197364591860499:True:=⟨⟩
theorem tw13629259912858242683:True:=⟨⟩
theorem tw15899842177543839692:True:=⟨⟩
theorem tw7292812802123008450:True:=⟨⟩
theorem tw4083168583440561786:True:=⟨⟩
theorem tw7040610248350729580:True:=⟨⟩
theorem tw9892244569832539535:True:=⟨⟩
theorem tw364160148186199363:True:=⟨⟩
theorem tw883599529883853811:True:=⟨⟩
theorem tw12164255546930741182:True:=⟨⟩
theorem tw5774583564655041419:True:=⟨⟩
theorem tw6656495890724284262:True:=⟨⟩
theorem tw8108114254332738758:True:=⟨⟩
theorem tw13032583255973396968:True:=⟨⟩
theorem tw54965924286763073:True:=⟨⟩
theorem tw6296702016686434885:True:=⟨⟩
theorem tw2488518712713579947:True:=⟨⟩
theorem tw2282475877599193647:True:=⟨⟩
theorem tw15896602722052696749:True:=⟨⟩
theorem tw4452927598941358222:True:=⟨⟩
theorem tw10035842921498668429:True:=⟨⟩
theorem tw14666831793068399082:True:=⟨⟩
theorem tw2217803279217849507:True:=⟨⟩
theorem tw11969743045057189638:True:=⟨⟩
theorem tw11288104819244101647:True:=⟨⟩
theorem tw12912713787997368469:True:=⟨⟩
theorem tw10480235860819638213:True:=⟨⟩
theorem tw16365205815065126052:True:=⟨⟩
theorem tw628283887691208854:True:=⟨⟩
theorem tw13256765303213068719:True:=⟨⟩
theorem tw5079874060253306940:True:=⟨⟩
theorem tw15201757677303470581:True:=⟨⟩
theorem tw12776311308576736117:True:=⟨⟩
theorem tw15411327393190050961:True:=⟨⟩
theorem tw12961130280228524984:True:=⟨⟩
theorem tw17504544785519322677:True:=⟨⟩
theorem tw3404433733636659586:True:=⟨⟩
theorem tw4424795133243319352:True:=⟨⟩
theorem tw12755658045771890115:True:=⟨⟩
theorem tw12958335957546470718:True:=⟨⟩
theorem tw1899454700786965918:True:=⟨⟩
theorem tw747226247718007146:True:=⟨⟩
theorem tw16212255723627264691:True:=⟨⟩
theorem tw11285716642128553874:True:=⟨⟩
theorem tw8197504255279102364:True:=⟨⟩
theorem tw16320902908381870401:True:=⟨⟩
theorem tw18131697786907335288:True:=⟨⟩
theorem tw6500338708552860365:True:=⟨⟩
theorem tw7152619268602625487:True:=⟨⟩
theorem tw17171476559281080093:True:=⟨⟩
theorem tw13171685786636976193:True:=⟨⟩
theorem tw9002196016801377792:True:=⟨⟩
theorem tw14515859339574511634:True:=⟨⟩
theorem tw7749385926530386320:True:=⟨⟩
theorem tw7459425741324591349:True:=⟨⟩
theorem tw3295401022209773340:True:=⟨⟩
theorem tw13960141658849295655:True:=⟨⟩
theorem tw2524770687395189631:True:=⟨⟩
theorem tw17079206673691969821:True:=⟨⟩
theorem tw4468126617320187978:True:=⟨⟩
theorem tw6131211410608664074:True:=⟨⟩
theorem tw4892038913027673577:True:=⟨⟩
theorem tw8585921339747693219:True:=⟨⟩
theorem tw4691794314448434831:True:=⟨⟩
theorem tw12760501232475186024:True:=⟨⟩
theorem tw12419540744228908791:True:=⟨⟩
theorem tw2099384131565121055:True:=⟨⟩
theorem tw11791559906927944129:True:=⟨⟩
theorem tw1950961712254418157:True:=⟨⟩
theorem tw5993769734075875992:True:=⟨⟩
theorem tw7356023273753136314:True:=⟨⟩
theorem tw7772118130995923000:True:=⟨⟩
theorem tw11086143722863191051:True:=⟨⟩
theorem tw14964289672225429370:True:=⟨⟩
theorem tw13748158204081866179:True:=⟨⟩
theorem tw15380937469782112360:True:=⟨⟩
theorem tw3669207154626172021:True:=⟨⟩
theorem tw15827006312859464210:True:=⟨⟩
theorem tw6671763164897863115:True:=⟨⟩
theorem tw14550280955380139961:True:=⟨⟩
theorem tw13839859766087389147:True:=⟨⟩
theorem tw17530636384413155591:True:=⟨⟩
theorem tw287806746656036334:True:=⟨⟩
theorem tw18290090916525351664:True:=⟨⟩
theorem tw1733950436383181449:True:=⟨⟩
theorem tw14088472849404782637:True:=⟨⟩
theorem tw17696976470243684657:True:=⟨⟩
theorem tw12476588105768272509:True:=⟨⟩
theorem tw15612623566560625497:True:=⟨⟩
theorem tw4539261390583305167:True:=⟨⟩
theorem tw8204755177188450894:True:=⟨⟩
theorem tw17239375369438353100:True:=⟨⟩
theorem tw14414078092614229414:True:=⟨⟩
theorem tw12410289049282357047:True:=⟨⟩
theorem tw18021654732029507153:True:=⟨⟩
theorem tw12954607048008201281:True:=⟨⟩
theorem tw5887964377002064009:True:=⟨⟩
theorem tw13927624844033407196:True:=⟨⟩
theorem tw3299504848928147028:True:=⟨⟩
theorem tw14358114996658630062:True:=⟨⟩
theorem tw5296643342945401899:True:=⟨⟩
theorem tw12721358432766961829:True:=⟨⟩
theorem tw16170229873317573174:True:=⟨⟩
theorem tw11576723158783590228:True:=⟨⟩
theorem tw5581561502417397731:True:=⟨⟩
theorem tw8979886967885744798:True:=⟨⟩
theorem tw14990851512817795782:True:=⟨⟩
theorem tw16586072603406829097:True:=⟨⟩
theorem tw2186739543245461437:True:=⟨⟩
theorem tw18222410629684508783:True:=⟨⟩
theorem tw2874322363163079606:True:=⟨⟩
theorem tw11878610022263246730:True:=⟨⟩
theorem tw4059500228953833090:True:=⟨⟩
theorem tw18194267760319749923:True:=⟨⟩
theorem tw12997408423551455234:True:=⟨⟩
theorem tw11862331687691102036:True:=⟨⟩
theorem tw14913142943629273750:True:=⟨⟩
theorem tw5644335384465402289:True:=⟨⟩
theorem tw6040180726906958133:True:=⟨⟩
theorem tw7305238845042809169:True:=⟨⟩
theorem tw8758212959043162129:True:=⟨⟩
theorem tw3072446132221589937:True:=⟨⟩
theorem tw13597848104887219140:True:=⟨⟩
theorem tw11824513249750119056:True:=⟨⟩
theorem tw12247869330430371354:True:=⟨⟩
theorem tw16574600117904465004:True:=⟨⟩
theorem tw1635978937873426853:True:=⟨⟩
theorem tw5085042589848343062:True:=⟨⟩
theorem tw3097603635662213340:True:=⟨⟩
theorem tw8552486058813509280:True:=⟨⟩
theorem tw14701674119600043823:True:=⟨⟩
theorem tw751222228929056025:True:=⟨⟩
theorem tw9293647855804452462:True:=⟨⟩
theorem tw4555044902286397333:True:=⟨⟩
theorem tw15480801117328176062:True:=⟨⟩
theorem tw13981009180740200026:True:=⟨⟩
theorem tw17318322961307091712:True:=⟨⟩
theorem tw5883559208572813262:True:=⟨⟩
theorem tw14322150230183419344:True:=⟨⟩
theorem tw17001618240233391890:True:=⟨⟩
theorem tw2816938918442477763:True:=⟨⟩
theorem tw9969134142879186126:True:=⟨⟩
theorem tw8148408550251427425:True:=⟨⟩
theorem tw14895350918752307881:True:=⟨⟩
theorem tw3414603673147198314:True:=⟨⟩
theorem tw15020976111204653877:True:=⟨⟩
theorem tw3693602054455113691:True:=⟨⟩
theorem tw14024364985263135122:True:=⟨⟩
theorem tw2983258704792897141:True:=⟨⟩
theorem tw1428590296363585212:True:=⟨⟩
theorem tw9595060826099365832:True:=⟨⟩
theorem tw8044846816762800851:True:=⟨⟩
theorem tw9917642977933752215:True:=⟨⟩
theorem tw9419736953091226835:True:=⟨⟩
theorem tw13685372302590132708:True:=⟨⟩
theorem tw5607964110740904714:True:=⟨⟩
theorem tw16292968713357600015:True:=⟨⟩
theorem tw11437941490033856265:True:=⟨⟩
theorem tw14891381221449084358:True:=⟨⟩
theorem tw2267558264359253315:True:=⟨⟩
theorem tw940531780917221663:True:=⟨⟩
theorem tw1785168035589857491:True:=⟨⟩
theorem tw2595611507578594764:True:=⟨⟩
theorem tw10044223734365947506:True:=⟨⟩
theorem tw14531665644243172091:True:=⟨⟩
theorem tw15507001205644790277:True:=⟨⟩
theorem tw14774047712042476761:True:=⟨⟩
theorem tw4909170576280407280:True:=⟨⟩
end PySem.W.Fast
open PySem PySem.W PyProof.Rows
set_option maxRecDepth 100000 in
set_option maxHeartbeats 0 in
theorem PySem.Challenge.cw_loopwright_k51_whole_what_moves_keep_holds : PySem.Challenge.rw_loopwright_k51_whole_what_moves_keep.Holds := by
 w_on;o_law;k_head;(case hw=>w_witness2)
 k_fill
 refine L2.b6f (l:=PySem.Challenge.rw_loopwright_k51_whole_what_moves_keep) (k:=8) (sp:=L2.a7J) rfl rfl ⟨rfl,by decide,by decide⟩ (fun w h Y=>PySem.W.kIn_of Y) L2.b2X ?F
 case F =>
  intro w mg fa h KX G hmg
  refine' L2.c0U KX G hmg ?a1 ?l1 ?c1 ?k1 ?a2 ?l2 ?c2 ?k2 ?a3 ?l3 ?c3 ?k3 ?a4 ?l4 ?c4 ?k4 ?a5 ?l5 ?c5 ?k5 ?a6 ?l6 ?c6 ?k6 ?a7 ?l7 ?c7 ?k7 ?a8 ?l8 ?c8 ?k8 ?a9 ?l9 ?c9 ?k9 ?a10 ?l10 ?c10 ?k10 ?a11 ?l11 ?c11 ?k11 ?a12 ?l12 ?c12 ?k12 ?a13 ?l13 ?c13 ?k13 ?a14 ?l14 ?c14 ?k14 ?a15 ?l15 ?c15 ?k15 ?a16 ?l16 ?c16 ?k16 ?a17 ?l17 ?c17 ?k17 ?a18 ?l18 ?c18 ?k18 ?a19 ?l19 ?c19 ?k19 ?a20 ?l20 ?c20 ?k20 ?a21 ?l21 ?c21 ?k21 ?a22 ?l22 ?c22 ?k22 ?a23 ?l23 ?c23 ?k23 ?a24 ?l24 ?c24 ?k24 ?a25 ?l25 ?c25 ?k25 ?a26 ?l26 ?c26 ?k26 ?a27 ?l27 ?c27 ?k27 ?a28 ?l28 ?c28 ?k28 ?a29 ?l29 ?c29 ?k29 ?a30 ?l30 ?c30 ?k30 ?a31 ?l31 ?c31 ?k31 ?a32 ?l32 ?c32 ?k32 ?a33 ?l33 ?c33 ?k33 ?a34 ?l34 ?c34 ?k34 ?a35 ?l35 ?c35 ?k35 ?a36 ?l36 ?c36 ?k36 ?a37 ?l37 ?c37 ?k37 ?a38 ?l38 ?c38 ?k38 ?a39 ?l39 ?c39 ?k39 ?a40 ?l40 ?c40 ?k40 ?a41 ?l41 ?c41 ?k41 ?a42 ?l42 ?c42 ?k42 ?a43 ?l43 ?c43 ?k43 ?a44 ?l44 ?c44 ?k44 ?a45 ?l45 ?c45 ?k45 ?a46 ?l46 ?c46 ?k46 ?a47 ?l47 ?c47 ?k47 ?a48 ?l48 ?c48 ?k48 ?a49 ?l49 ?c49 ?k49 ?z_abs ?z_all ?z_enumerate ?z_int ?z_len ?z_list ?z_max ?z_min ?z_range ?z_sorted ?z_sum ?z_tuple ?g_MOST_LETTERS ?g_MOST_LETTERS_IN_STEPS ?g_MOST_STRANDS ?n_can ?l_can ?s_can
  (case a1|l1|c1|k1|a2|l2|c2|k2|a3|l3|c3|k3|a4|l4|c4|k4|a5|l5|c5|k5|a6|l6|c6|k6|a7|l7|c7|k7|a8|l8|c8|k8|a9|l9|c9|k9|a10|l10|c10|k10|a11|l11|c11|k11|a12|l12|c12|k12|a13|l13|c13|k13|a14|l14|c14|k14|a15|l15|c15|k15|a16|l16|c16|k16|a17|l17|c17|k17|a18|l18|c18|k18|a19|l19|c19|k19|a20|l20|c20|k20|a21|l21|c21|k21|a22|l22|c22|k22|a23|l23|c23|k23|a24|l24|c24|k24|a25|l25|c25|k25|a26|l26|c26|k26|a27|l27|c27|k27|a28|l28|c28|k28|a29|l29|c29|k29|a30|l30|c30|k30|a31|l31|c31|k31|a32|l32|c32|k32|a33|l33|c33|k33|a34|l34|c34|k34|a35|l35|c35|k35|a36|l36|c36|k36|a37|l37|c37|k37|a38|l38|c38|k38|a39|l39|c39|k39|a40|l40|c40|k40|a41|l41|c41|k41|a42|l42|c42|k42|a43|l43|c43|k43|a44|l44|c44|k44|a45|l45|c45|k45|a46|l46|c46|k46|a47|l47|c47|k47|a48|l48|c48|k48|a49|l49|c49|k49|z_abs|z_all|z_enumerate|z_int|z_len|z_list|z_max|z_min|z_range|z_sorted|z_sum|z_tuple|g_MOST_LETTERS|g_MOST_LETTERS_IN_STEPS|g_MOST_STRANDS|n_can|l_can=>change _=_;k_is)
  (case s_can=>kernel_rfl)
