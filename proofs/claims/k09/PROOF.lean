import PyProof.Rows.All
import Wide.All
import OpenK.AllK
import Wide.FinOn
import Lean
import PyProof.EqAt
import PyProof.EqKinds
import PyProof.TupleCall
import PySem.Challenge.RW_loopwright_k09_texts_that_write_no_plait
open PySem renaming Shared->b4U,wpAny_bind->b4V,Value->b5c,Program->b5i,wpAny_pure->b5k,Around->b5s,World->b5B,wpAny_mono->b5I,wpAny_truthy_bool->b6a,wpAny_execs_nil->b6e,FuncData->b6g,wpAny_standAt->b6j,wpAny_noRaise->b6k,wpAny_newObj_type->b6m,NameKind->b6q,wpAny_holding->b6t,wpAny_Call_Name_kw->b6u,wpAny_field->b6H,wpAny_getItem_str_slice->b6J,call_meets->b6V,wpAny_newFunctionEnv_cells->b6Y,Scope->b6Z,wpAny_passesOwn->b7j,ExceptHandler->b7m,Model->b7r,wpAny_loadPart_at->b7x,typeIs_str->b7J,pushCells_keeps->b7O,post_val_or_str->b7S,arm_eval_Call_Name'->b7T,wpAny_binaryOp_repeat_ref->b8o,Builtin->b8p,wpAny_setField->b8q,Result->b8r,wpAny_callSpecial?_slot->b8A,wpAny_list_append_plain->b8C,wpAny_execs_cons->b8F,noFill_tuple_add->b8G,codeAny_call_function->b8N,typeIs_int->b8Y,codeAny_call_builtin->b9c,isSubtype_type->b9g,BindsTo->b9h,wpAny_throw->b9l,seq_tuple_add->b9p,IsPart->b9q,Comprehension->b9u,wpAny_assign_Name->b9A,wpAny_sequenceKey->b9E,slot_list_getitem->b9F,wpAny_pyIter_list->b9J,name_of_addr->b9N,concat_meets->b9O,wpAny_typeOf->b9P,seqIndex_neg->b9Q,wpAny_call_entry->b9W,Arguments->c0i,seqIndex_of->c0j,wpAny_tests_nil->c0l,codeAny_builtin->c0o,wpAny_point->c0p,wpAny_looks_onW->c0q,wpAny_Name->c0u,GenState->c0w,Keyword->c0x,CmpOp->c0H
open Nat renaming lt_of_lt_of_le->b4W,le_refl->b5h,le_trans->b5l,ne_of_lt->b5y,lt_of_le_of_lt->b5E,zero_le->b6b,lt_irrefl->b6c,lt_succ_self->b6r,le_of_lt->b6s,ne_of_gt->b6E,lt_trans->b6G,sub_lt_sub_left->b7P,mul_comm->b8a,mul_le_mul_right->b9d,le_succ->b9j,le_of_eq->b9R,min_eq_right->c0d,min_eq_left->c0n,not_lt->c0v,succ_mul->c0I,sub_zero->c0J,log2_lt->c0P
open List renaming mem_cons_of_mem->b4X,length_map->b4Y,mem_append_right->b4Z,size_toArray->b5a,mem_cons->b5b,replicate->b5e,getElem?_eq_getElem->b5g,length_cons->b5j,mem_cons_self->b5m,getElem?_map->b5n,getElem?_eq_some_iff->b5q,length_append->b5r,mem_append_left->b5v,map_cons->b5z,exists_cons_of_length_eq_add_one->b5F,mem_append->b5J,getElem?_set_ne->b5K,getElem?_set_self->b5L,replicate_succ->b5N,map_append->b5O,map->b5Q,range->b5S,length_set->b5U,mem_of_getElem?->b5W,filterMap_cons->b5Z,mem_singleton->b6h,all_eq_true->b6i,append_nil->b6o,getElem?_append_left->b6y,flatten_cons->b6C,any_cons->b6I,eq_nil_of_length_eq_zero->b6K,take_length->b6L,take_of_length_le->b6N,lookup_append->b6O,length->b6Q,length_singleton->b6R,all_cons->b6U,getElem?_append_right->b6X,getElem?_range->b7c,take_succ_cons->b7d,getElem?_take_of_lt->b7f,of_mem_zip->b7k,getElem?_replicate->b7l,find?_cons->b7o,reverse_cons->b7t,foldl->b7u,flatMap_cons->b7A,length_take->b7C,not_mem_nil->b7D,mem_of_mem_take->b7G,mem_of_mem_drop->b7H,nodup_cons->b7K,foldl_cons->b7L,nil_append->b7M,length_reverse->b7Q,length_nil->b7R,getD_eq_getElem?_getD->b7Y,mem_map->b8b,map_map->b8f,pairwise_cons->b8h,mem_range->b8m,append_assoc->b8t,take_add_one->b8w,length_range->b8z,pairwise_singleton->b8B,length_drop->b8H,filter_cons->b8I,lookup_cons->b8J,length_replicate->b8M,map_nil->b8O,zip->b9a,any_eq_false->b9B,take_sublist->b9D,isEmpty_cons->b9L,all_map->b9S,getElem_mem->c0a,mem_reverse->c0b,cons_append->c0c,isEmpty_nil->c0g,mem_filter->c0h,forIn_nil->c0r,map_take->c0D,any_map->c0K
open PySem.Heap renaming lt_size->b5d,get?_push_of_some->b5f,get?_push_size->b5C,get?_update_other->b5D,get?_update_self->b5T,size_push->b6M,SameBut->b7e,MadeExc->b7i,get?_none_of_le->b7E,MadeExcOf->b9f,FlyingW->b9U
open Bool renaming and_eq_true->b5o,false_ne_true->b5x,false_and->b6l,or_eq_true->b6p,not_eq_true'->b7w,false_eq_true->b8j,eq_false_iff->b9H,noConfusion->c0f,and_false->c0t,or_false->c0y,and_true->c0A,true_and->c0C
open Option.some renaming inj->b5p
open Classical renaming byContradiction->b5t
open Array renaming length_toList->b5u,getElem?_eq_some_iff->b5X,mem_toList_iff->b9e,append_assoc->b9o,foldl_toList->b9w,size_append->b9M,toList_inj->c0e,toList->c0G
open PySem.Str renaming ofString->b5w
open False renaming elim->b5A
open PyProof.Rows renaming slot_tuple_getitem->b5G,boot_tuple->b5P,boot_str->b6x,callWith_builtin1->b6F,callWith_type1->b6P,AllBare->b8n,subscriptTail_builtinR->b8L,boot_abs->b8S,boot_all->b8T,boot_int->b8U,entry_tuple_getitem->b9i,args_tuple_getitem->b9r,boot_isinstance->c0m,IntsAre->c0z
open PySem.Obj renaming data_mapFields->b5H,mapFields->b6d,isFreed_of_fields->b6f,mapSeq->b8X
open PySem.Value renaming ref->b5M,none->b5R,bool->b7q,type->b7I,builtin->b8D,int->c0E,str->c0F,float->c0M
open PySem.Txt renaming slice->b5V,split->b6w,join->b6A,slice_le->b9T
open Option renaming map_eq_some_iff->b5Y,bind_eq_some_iff->b8E,getD_none->b9X
open Ne renaming symm->b6n
open PySem.NameKind renaming free->b6v,cell->b6W
open PySem.Builtin.Slice renaming slicePlaces->b6z,sliceAdjust->b7a,sliceApplied->b7V
open PySem.Builtin.Tuple renaming tupleExact->b6B,tupleItemsOf->b7W,tupleTooMany->b7X
open Pure renaming pure->b6D
open ForInStep renaming yield->b6S
open PySem.StrLaws renaming glued_eq_join->b6T,join_split->b8k
open PySem.F renaming slot_tuple_mul->b7b,typeOf_object_class->b7B,slot_int_rmul->b7N,args_tuple_mul_2->b8d,args_str_split_2->b8e,entry_tuple_mul->b8v,entry_str_split->b8y,slot_str_split->b8K,args_int_rmul_2->b9G,slot_tuple_rmul->b9I,slot_int_index->b9Y,entry_int_rmul->b9Z,fills_int_mul->c0k
open PySem.Builtin.List renaming listTooLong->b7g
open Or renaming inl->b7h,inr->b8u
open PySem.Builtin.Str renaming occurrences->b7n,glued->b7y,partsBetween->b8x,strKind->b9k,subAt->b9K
open Int renaming eq_ofNat_of_zero_le->b7p,emod_lt_of_pos->b8l,toNat_natCast->b8s,ne_of_gt->b8P,emod_nonneg->b8V,natAbs_natCast->b9v,lt_of_le_of_lt->b9x,toNat->c0L
open PySem.SeqAt renaming EqAt->b7s,RcNeAt->b8c,RcAt->b8Z
open List.Pairwise renaming nil->b7v
open PySem.Sem renaming wp_mono->b7z,wp_bind'->b8i,wp_stack->b8Q
open PySem.Calls renaming evalArgs_plain->b7F,Name_function_global->b7U,spliced_cons->b7Z,spliced_nil->b9C
open Nat.succ renaming inj->b8g
open PySem.Shared renaming asleep_of_life->b8R
open True renaming intro->b8W
open PySem.Around renaming frames_deeper->b9b
open PySem.SeqAt.EqAt renaming int_str->b9m,str_int->b9n
open PySem.Code renaming quiet_builtin->b9s,isCaller->c0B
open And renaming intro->b9t
open Sum renaming inl->b9y,inr->b9z
open PySem.NumText renaming step->b9V
open PySem.Manifest renaming find?->c0s
open PySem.Heap.Ns renaming new->c0N
open Prod.mk renaming inj->c0O
set_option Elab.async false
set_option linter.all false
set_option maxRecDepth 100000
noncomputable abbrev VPR:=PySem.Value->PySem.Shared->Prop
noncomputable abbrev SOV:=PySem.Str->Option PySem.Value
noncomputable abbrev PNS:=List (PySem.Addr×PySem.Obj)
noncomputable abbrev AOV:=Array (Option PySem.Value)
noncomputable abbrev OVA:=Option PySem.Value
noncomputable abbrev LLI:=List (List Int)
noncomputable abbrev LSI:=List Int
noncomputable abbrev LSS:=List PySem.Str
noncomputable abbrev LSV:=List PySem.Value
noncomputable abbrev LSE:=List PySem.Expr
namespace L2
open PySem PySem.Spec PyProof.Rows
noncomputable abbrev Key:=Sum Int Str
noncomputable def b3E:Key->b5c->Bool
 |.inl k,v=>Value.isInt k v
 |.inr x,v=>Value.isStrOf x v
noncomputable def keyH(w:b5B):Key->Int
 |.inl k=>hashInt k
 |.inr x=>hashStr w x
theorem a0y:∀{k:Key} {v:b5c},b3E k v=true->(∃i t,k=b9y i/\v=c0E i t)\/(∃x t,k=b9z x/\v=c0F x t)
 | .inl i,v,h=>by
   obtain⟨t,e⟩:=Value.isInt_shape (k:=i) (v:=v) h;exact .inl ⟨i,t,rfl,e⟩
 | .inr x,v,h=>by
   obtain⟨t,e⟩:=Value.isStrOf_shape (x:=x) (v:=v) h;exact .inr ⟨x,t,rfl,e⟩
theorem b3D(a b:Int):decide ((b9y a:Key)=b9y b)=(a==b):=by
 by_cases e:a=b
 ·subst e;simp
 ·have h:¬(b9y a:Key)=b9y b:=fun q=>e (Sum.inl.inj q);rw[decide_eq_false h];exact(beq_eq_false_iff_ne.mpr e).symm
theorem b3A(a b:Str):decide ((b9z a:Key)=b9z b)=decide (a=b):=by
 by_cases e:a=b
 ·subst e;simp
 ·have h:¬(b9z a:Key)=b9z b:=fun q=>e (Sum.inr.inj q);rw[decide_eq_false h,decide_eq_false e]
theorem b3C(a:Int)(b:Str):decide ((b9y a:Key)=b9z b)=false:=decide_eq_false (fun q=>nomatch q)
theorem b3B(a:Str)(b:Int):decide ((b9z a:Key)=b9y b)=false:=decide_eq_false (fun q=>nomatch q)
noncomputable def a6F(prog:b5i)(w:b5B):PySem.KeyKind prog w Key where
 is:=b3E
 hash:=keyH w
 inj:=fun v a b ha hb=>by
  rcases a0y ha with ⟨i,t,rfl,rfl⟩|⟨x,t,rfl,rfl⟩
  ·rcases a0y hb with ⟨j,u,rfl,e⟩|⟨y,u,rfl,e⟩
   ·injection e with e1 _;rw[e1]
   ·exact nomatch e
  ·rcases a0y hb with ⟨j,u,rfl,e⟩|⟨y,u,rfl,e⟩
   ·exact nomatch e
   ·injection e with e1 _;rw[e1]
 byValue:=fun k v h=>by
  rcases a0y h with ⟨i,t,rfl,rfl⟩|⟨x,t,rfl,rfl⟩<;>rfl
 pyHash:=fun hv h=>by
  rcases a0y hv with ⟨i,t,rfl,rfl⟩|⟨x,t,rfl,rfl⟩
  ·exact wpAny_pyHash_int h
  ·exact wpAny_pyHash_str h
 eqBool:=fun hu hv h=>by
  rcases a0y hu with ⟨i,t,rfl,rfl⟩|⟨x,t,rfl,rfl⟩
  ·rcases a0y hv with ⟨j,u,rfl,rfl⟩|⟨y,u,rfl,rfl⟩
   ·rw[b3D] at h;exact wpAny_eqBool_int h
   ·rw[b3C] at h;exact b9m i t y u _ _ _ _ h
  ·rcases a0y hv with ⟨j,u,rfl,rfl⟩|⟨y,u,rfl,rfl⟩
   ·rw[b3B] at h;exact b9n x t j u _ _ _ _ h
   ·rw[b3A] at h;exact wpAny_eqBool_str h
 «strs»:=fun k x t v h=>by
  rcases a0y h with ⟨i,u,rfl,e⟩|⟨y,u,rfl,e⟩
  ·exact nomatch e
  ·injection e with e1 _;subst e1;cases v<;>rfl
inductive V where
 |non|bl (b:Bool)|int (i:Int)|str (x:Str)|byt (b:Array UInt8)|flt (b:UInt64)|ref (a:Addr)|ty (n:String)
 deriving DecidableEq
noncomputable def RelV:V->b5c->Prop
 |.non,u=>u=b5R
 |.bl b,u=>u=b7q b
 |.int i,u=>∃t,u=c0E i t
 |.str x,u=>∃t,u=c0F x t
 |.byt b,u=>∃t,u=Value.bytes b t
 |.flt b,u=>∃t,u=c0M b t
 |.ref a,u=>u=b5M a
 |.ty n,u=>u=b7I n
noncomputable abbrev Vals:List V->LSV->Prop:=Paired RelV
theorem Vals.length{xs:List V}{us:LSV}(r:Vals xs us):xs.length=us.length:=Paired.length r
theorem Vals.get:∀{xs:List V} {us:LSV} {i:Nat} {x:V},Vals xs us->xs[i]?=some x->∃u,us[i]?=some u/\RelV x u
 |_,_,_,_,.nil,e=>by simp at e
 |_,_,0,_,.cons r _,e=>by simp at e;subst e;exact⟨_,rfl,r⟩
 | _,_,i+1,x,.cons _ t,e=>by
   obtain⟨u,h1,h2⟩:=Vals.get (i:=i) (x:=x) t (by simpa using e);exact⟨u,by simpa using h1,h2⟩
theorem Vals.set{x:V}{u:b5c}(r:RelV x u):∀{xs:List V} {us:LSV} (i:Nat),Vals xs us->Vals (xs.set i x) (us.set i u)
 |_,_,_,.nil=>.nil
 |_,_,0,.cons _ t=>.cons r t
 |_,_,i+1,.cons q t=>.cons q (Vals.set r i t)
theorem Vals.append:∀{xs ys:List V} {us ws:LSV},Vals xs us->Vals ys ws->Vals (xs++ys) (us++ws)
 |_,_,_,_,.nil,s=>s
 |_,_,_,_,.cons r t,s=>.cons r (Vals.append t s)
theorem Vals.take:∀{xs:List V} {us:LSV} (n:Nat),Vals xs us->Vals (xs.take n) (us.take n)
 |_,_,0,_=>.nil
 |_,_,_+1,.nil=>.nil
 |_,_,n+1,.cons r t=>.cons r (Vals.take n t)
theorem Vals.drop:∀{xs:List V} {us:LSV} (n:Nat),Vals xs us->Vals (xs.drop n) (us.drop n)
 |_,_,0,r=>r
 |_,_,_+1,.nil=>.nil
 |_,_,n+1,.cons _ t=>Vals.drop n t
noncomputable def RelO:Option V->OVA->Prop
 |some v,some u=>RelV v u
 |none,none=>True
 |_,_=>False
noncomputable def KV{κ:Type}:List (κ×V)->List (κ×b5c)->Prop:=Paired fun(p:κ×V) (q:κ×b5c)=>p.1=q.1/\RelV p.2 q.2
noncomputable def kV:Key->V
 |.inl i=>.int i
 |.inr x=>.str x
inductive HO where
 /-- a list -/
 |lst (xs:List V)
 /-- a tuple (never changes) -/
 |tup (xs:List V)
 /-- a dict whose keys are ints and texts;one whose keys are tuples of ints and texts (the empty one is both) -/
 |dK (kvs:List (Key×V))|dT (kvs:List (List Key×V))
 /-- a set of ints: its members,its size -/
 |set (S:Int->Bool) (n:Nat)
 /-- an instance of the class at C,its dict at dx,its attributes -/
 |ins (C dx:Addr) (fs:List (Str×V))
 /-- the dict of the instance at x -/
 |own (x:Addr)
 /-- the dict of an exception -/
 |xd (fs:List (Str×V))
 /-- a bound method,f of x -/
 |met (f x:Addr)
 /-- a range object lo,lo+1,.. below hi -/
 |rng (lo hi:Int)
 /-- a thing that is known to the object (the script;a dict while a loop walks it): read,never written while it is so -/
 |frz (o:Obj) (u:HO)
 /-- a code object's table -/
 |tbl (ps:Array b5c)
 /-- any other thing,by what is true of its one object (a def of one's own: SetO a S n:=HO.ext fun h=>..) -/
 |ext (φ:Heap->Prop)
noncomputable abbrev Hp:=Addr->Option HO
noncomputable def a1Y(h:Heap)(a:Addr)(items:Array b5c):Prop:=∃o,h.get? a=some o/\o.cls=.type "tuple"/\o.dict=none/\∃n,o.data=.seq items n
theorem a1Y.t{h:Heap}{a:Addr}{items:Array b5c}(x:a1Y h a items):IsTup h a items:=let ⟨o,e,c,_,n,d⟩:=x;⟨o,e,c,n,d⟩
theorem a1Y.lt{h:Heap}{a:Addr}{items:Array b5c}(x:a1Y h a items):a<h.objs.size:=x.t.lt
theorem a1Y.new(h:Heap)(items:Array b5c):a1Y (h.push { cls:=.type "tuple",data:=.seq items }) h.objs.size items:=⟨_,b5C _ rfl,rfl,rfl,0,rfl⟩
noncomputable def upd(H:Hp)(a:Addr)(o:HO):Hp:=fun b=>if b=a then some o else H b
theorem a0t{H:Hp}{a:Addr}{o:HO}:upd H a o a=some o:=by unfold upd;rw[if_pos rfl]
theorem a0h{H:Hp}{a b:Addr}{o:HO}(h:b≠a):upd H a o b=H b:=by unfold upd;rw[if_neg h]
theorem a0k{H:Hp}{a b:Addr}{o:HO}(h:H a=some o)(h':H b=none):a≠b:=by
 intro e;subst e;rw[h] at h';cases h'
section
variable(P:b5i)(w:b5B)
noncomputable def a1C(H:Hp)(h:Heap)(a:Addr):HO->Prop
 |.lst xs=>xs.length<=sizeLine/\∃(its:LSV) (n:Nat),Vals xs its/\h.get? a=some { cls:=.type "list",data:=.seq its.toArray n }
 |.tup xs=>xs.length<=sizeLine/\∃its:LSV,Vals xs its/\a1Y h a its.toArray
 |.dK kvs=>kvs.length<=sizeLine/\(a==sysModules)=false/\∃vs,KV kvs vs/\h.DictOf (a6F P w) a vs
 | .dT kvs=>kvs.length<=sizeLine/\(a==sysModules)=false/\∃xs:List (List Key×Addr×b5c),
   Paired (fun(p:List Key×V) (q:List Key×Addr×b5c)=>p.1=q.1/\H q.2.1=some (.tup (p.1.map kV))/\RelV p.2 q.2.2) kvs xs /\
   ∃o es ep,h.get? a=some o/\o.ExactDict/\o.data=.dict es ep/\es.toList=xs.map (entryOfKey (tupleKind (a6F P w)))/\(xs.map (·.1)).Nodup
 |.set S n=>h.SetOf (intKind P w) a S n
 | .ins C dx fs=>H dx=some (.own a)/\fs.length<=1000/\dx≠a/\h.get? a=some (PySem.W.instObj C dx) /\
   ∃mA,h.Ns1 dx mA/\(∀f,RelO (fs.lookup f) (mA f))/\PySem.Within mA (fs.map (·.1))
 |.own _=>∃o,h.get? a=some o
 |.xd fs=>∃mA,h.Ns1 a mA/\∀f,RelO (fs.lookup f) (mA f)
 |.rng lo hi=>∃t u v,h.get? a=some { cls:=.type "range",data:=.fields #[.int lo t,.int hi u,.int 1 v] }
 |.frz o u=>h.get? a=some o/\a1C H h a u
 |.tbl ps=>h.get? a=some { cls:=.none,data:=.fields ps }
 |.met f x=>h.get? a=some (PySem.W.methodObj (.ref f) (.ref x))
 |.ext φ=>φ h/\(∃o,h.get? a=some o)/\∀h1 h2:Heap,φ h1->(∀o,h1.get? a=some o->h2.get? a=some o)->φ h2
noncomputable def HOk(H:Hp)(h:Heap):Prop:=∀a o,H a=some o->a1C P w H h a o
end
section
variable{P:b5i}{w:b5B}{H H':Hp}{h h':Heap}{a:Addr}{o:HO}
theorem a1C.lt(x:a1C P w H h a o):a<h.objs.size:=by
 cases o with
 |lst xs=>obtain⟨_,_,_,_,e⟩:=x;exact b5d e
 |tup xs=>obtain⟨_,_,_,p⟩:=x;exact p.lt
 |dK kvs=>obtain⟨_,_,_,_,o,_,_,e,_⟩:=x;exact b5d e
 |dT kvs=>obtain⟨_,_,_,_,o,_,_,e,_⟩:=x;exact b5d e
 |set S n=>obtain⟨o,_,_,_,e,_⟩:=x;exact b5d e
 |ins C dx fs=>obtain⟨_,_,_,e,_⟩:=x;exact b5d e
 |own y=>obtain⟨_,e⟩:=x;exact b5d e
 |xd fs=>obtain⟨_,⟨_,_,_,e,_⟩,_⟩:=x;exact b5d e
 |rng lo hi=>obtain⟨_,_,_,e⟩:=x;exact b5d e
 |frz ob u=>obtain⟨e,_⟩:=x;exact b5d e
 |tbl ps=>exact b5d (show h.get? a=some _ from x)
 |met f y=>exact b5d (show h.get? a=some _ from x)
 |ext φ=>obtain⟨_,⟨_,e⟩,_⟩:=x;exact b5d e
theorem Paired.mapP{α β:Type}{F G:α->β->Prop}:∀{l₁:List α} {l₂:List β},Paired F l₁ l₂->(∀a b,F a b->G a b)->Paired G l₁ l₂
 |_,_,.nil,_=>.nil
 |_,_,.cons r t,f=>.cons (f _ _ r) (Paired.mapP t f)
theorem a1C.stay(x:a1C P w H h a o)(k:∀b u,(b=a\/H b=some (.own a))->h.get? b=some u->h'.get? b=some u)
  (ho:∀b,H b=some (.own a)->H' b=some (.own a)) (ht:∀b xs,H b=some (.tup xs)->H' b=some (.tup xs)):a1C P w H' h' a o:=by
 induction o with
 |lst xs=>obtain⟨z,its,n,r,e⟩:=x;exact⟨z,its,n,r,k _ _ (.inl rfl) e⟩
 |tup xs=>obtain⟨z,its,r,ob,e,c⟩:=x;exact⟨z,its,r,ob,k _ _ (.inl rfl) e,c⟩
 |dK kvs=>obtain⟨z,y,vs,r,ob,es,ep,e,c⟩:=x;exact⟨z,y,vs,r,ob,es,ep,k _ _ (.inl rfl) e,c⟩
 | dT kvs =>
   obtain⟨z,y,xs,r,ob,es,ep,e,c⟩:=x;exact⟨z,y,xs,Paired.mapP r fun p q z=>⟨z.1,ht _ _ z.2.1,z.2.2⟩,ob,es,ep,k _ _ (.inl rfl) e,c⟩
 |set S n=>obtain⟨ob,es,ep,t,e,c⟩:=x;exact⟨ob,es,ep,t,k _ _ (.inl rfl) e,c⟩
 | ins C dx fs =>
   obtain⟨d,z,ne,e,mA,⟨od,es,ep,e2,c⟩,r⟩:=x;exact⟨ho _ d,z,ne,k _ _ (.inl rfl) e,mA,⟨od,es,ep,k _ _ (.inr d) e2,c⟩,r⟩
 |own y=>obtain⟨ob,e⟩:=x;exact⟨ob,k _ _ (.inl rfl) e⟩
 |xd fs=>obtain⟨mA,⟨od,es,ep,e,c⟩,r⟩:=x;exact⟨mA,⟨od,es,ep,k _ _ (.inl rfl) e,c⟩,r⟩
 |rng lo hi=>obtain⟨t,u,v,e⟩:=x;exact⟨t,u,v,k _ _ (.inl rfl) e⟩
 |frz ob u ih=>obtain⟨e,q⟩:=x;exact⟨k _ _ (.inl rfl) e,ih q⟩
 | tbl ps =>
   have e:h.get? a=some { cls:=.none,data:=.fields ps }:=x;show h'.get? a=some { cls:=.none,data:=.fields ps };exact k a _ (.inl rfl) e
 | met f y =>
   have e:h.get? a=some (PySem.W.methodObj (.ref f) (.ref y)):=x;show h'.get? a=some (PySem.W.methodObj (.ref f) (.ref y));exact k a _ (.inl rfl) e
 |ext φ=>obtain⟨p,⟨o,e⟩,st⟩:=x;exact⟨st _ _ p fun o q=>k _ _ (.inl rfl) q,⟨o,k _ _ (.inl rfl) e⟩,st⟩
theorem HOk.lt(x:HOk P w H h)(e:H a=some o):a<h.objs.size:=(x a o e).lt
theorem HOk.fresh(x:HOk P w H h)(e:h.objs.size<=a):H a=none:=by
 cases q:H a with
 |none=>rfl
 |some u=>exact absurd (b4W (x.lt q) e) (b6c _)
theorem HOk.kept(x:HOk P w H h)(k:∀b u,h.get? b=some u->h'.get? b=some u):HOk P w H h':=fun a o e =>
 (x a o e).stay (fun b u _ q=>k b u q) (fun _ q=>q) fun _ _ q=>q
theorem HOk.laid(x:HOk P w H h)(k:∀b u,h.get? b=some u->h'.get? b=some u)(hp:h.objs.size<=a)(new:a1C P w (upd H a o) h' a o):HOk P w (upd H a o) h':=fun b u e=>by
 have hn:=x.fresh hp;by_cases hb:b=a
 ·subst hb;rw[a0t] at e;cases e;exact new
 ·rw[a0h hb] at e;exact(x b u e).stay (fun c v _ q=>k c v q) (fun c q=>by rw[a0h (a0k q hn)];exact q) fun c xs q=>by rw[a0h (a0k q hn)];exact q
end
noncomputable def Rd(H:Hp)(a:Addr)(u:HO):Prop:=H a=some u\/∃o,H a=some (.frz o u)
theorem Rd.of{H:Hp}{a:Addr}{u:HO}(h:H a=some u):Rd H a u:=.inl h
theorem Rd.ok{P:b5i}{w:b5B}{H:Hp}{h:Heap}{a:Addr}{u:HO}(r:Rd H a u)(x:HOk P w H h):a1C P w H h a u:=by
 rcases r with r|⟨o,r⟩
 ·exact x a u r
 ·obtain⟨_,q⟩:=x a _ r;exact q
noncomputable def Mut:Option HO->Prop
 |some (.lst _)=>True
 |some (.dK _)=>True
 |some (.dT _)=>True
 |some (.set _ _)=>True
 |some (.ins _ _ _)=>True
 |some (.ext _)=>True
 |_=>False
section
variable{P:b5i}{w:b5B}{H:Hp}{h h':Heap}{x e:Addr}{o':HO}
theorem HOk.write(ok:HOk P w H h)(mu:Mut (H x))(he:e=x\/H e=some (.own x))(k:∀b u,b≠e->h.get? b=some u->h'.get? b=some u)(heo:∃u,h'.get? e=some u)
  (new:a1C P w (upd H x o') h' x o'):HOk P w (upd H x o') h':=fun b u q=>by
 have nown:∀c y,H c=some (.own y)->c≠x:=fun c y r z=>by subst z;rw[r] at mu;exact mu
 have ntup:∀c xs,H c=some (.tup xs)->c≠x:=fun c xs r z=>by subst z;rw[r] at mu;exact mu
 by_cases hb:b=x
 ·subst hb;rw[a0t] at q;cases q;exact new
 ·rw[a0h hb] at q;by_cases hbe:b=e
  ·have q':H b=some (.own x):=by
    rcases he with z|z
    ·exact absurd (hbe.trans z) hb
    ·rw[hbe];exact z
   rw[q] at q';cases q';obtain⟨v,hv⟩:=heo;exact⟨v,by rw[hbe];exact hv⟩
  ·refine(ok b u q).stay (fun c v hc r=>k c v ?_ r) (fun c r=>by rw[a0h (nown c b r)];exact r) fun c xs r=>by rw[a0h (ntup c xs r)];exact r
   rcases hc with rfl|hc
   ·exact hbe
   ·rintro rfl;rcases he with z|z
    ·exact nown c b hc z
    ·rw[hc] at z;cases z;exact hb rfl
end
structure Un(fs ex:List Addr)(H H':Hp)(h h':Heap):Prop where
 keep:∀b o,h.get? b=some o->H b=none->b∉fs->b∉ex->h'.get? b=some o
 slot:∀b o,h.get? b=some o->H b=none->b∈fs->b∉ex->∃sl,h'.get? b=some { o with slots:=sl }
 free:∀b o,h.get? b=some o->H b=none->b∉ex->H' b=none
 there:∀b o,h.get? b=some o->b∉ex->∃o',h'.get? b=some o'
 tups:∀b xs,H b=some (.tup xs)->H' b=some (.tup xs)
 frzs:∀b o u,H b=some (.frz o u)->H' b=some (.frz o u)
 tbls:∀b ps,H b=some (.tbl ps)->∃more,H' b=some (.tbl (ps++more))
section
variable{fs fs' ex ex':List Addr}{H H1 H2:Hp}{h h1 h2 h':Heap}{a x e:Addr}{o:HO}
theorem Un.any(u:Un fs ex H H1 h h1){b:Addr}{ob:Obj}(q:h.get? b=some ob)(n:H b=none)(hx:b∉ex):∃sl,h1.get? b=some { ob with slots:=sl }:=by
 by_cases hb:b∈fs
 ·exact u.slot b ob q n hb hx
 ·exact⟨ob.slots,u.keep b ob q n hb hx⟩
theorem Un.trans(a:Un fs ex H H1 h h1)(b:Un fs ex H1 H2 h1 h2):Un fs ex H H2 h h2 where
 keep:=fun c ob q n hc hx=>b.keep c ob (a.keep c ob q n hc hx) (a.free c ob q n hx) hc hx
 slot:=fun c ob q n hc hx=>by
  obtain⟨sl,e1⟩:=a.slot c ob q n hc hx;obtain⟨sl',e2⟩:=b.slot c _ e1 (a.free c ob q n hx) hc hx;exact⟨sl',e2⟩
 free:=fun c ob q n hx=>by
  obtain⟨o',e1⟩:=a.there c ob q hx;exact b.free c o' e1 (a.free c ob q n hx) hx
 there:=fun c ob q hx=>by
  obtain⟨o',e1⟩:=a.there c ob q hx;exact b.there c o' e1 hx
 tups:=fun c xs q=>b.tups c xs (a.tups c xs q)
 frzs:=fun c ob xs q=>b.frzs c ob xs (a.frzs c ob xs q)
 tbls:=fun c ps q=>by
  obtain⟨m1,e1⟩:=a.tbls c ps q;obtain⟨m2,e2⟩:=b.tbls c _ e1;exact⟨m1++m2,by rw[e2,b9o]⟩
theorem Un.kept(k:∀b u,h.get? b=some u->h'.get? b=some u):Un fs ex H H h h' :=
 ⟨fun b ob q _ _ _=>k b ob q,fun b ob q _ _ _=>⟨ob.slots,k b ob q⟩,fun _ _ _ n _=>n,fun b ob q _=>⟨ob,k b ob q⟩,fun _ _ q=>q,fun _ _ _ q=>q,fun _ ps q=>⟨#[],by rw[q];simp⟩⟩
theorem Un.refl:Un fs ex H H h h:=Un.kept fun _ _ q=>q
theorem Un.laid(k:∀b u,h.get? b=some u->h'.get? b=some u)(hp:h.objs.size<=a)(hn:H a=none):Un fs ex H (upd H a o) h h' where
 keep:=fun b u q _ _ _=>k b u q
 slot:=fun b u q _ _ _=>⟨u.slots,k b u q⟩
 free:=fun b u q n _=>by rw[a0h (b5y (b4W (b5d q) hp))];exact n
 there:=fun b u q _=>⟨u,k b u q⟩
 tups:=fun b xs q=>by rw[a0h (a0k q hn)];exact q
 frzs:=fun b u xs q=>by rw[a0h (a0k q hn)];exact q
 tbls:=fun b ps q=>⟨#[],by rw[a0h (a0k q hn),q];simp⟩
theorem Un.write(mu:Mut (H x))(he:e=x\/H e=some (.own x))(k:∀b u,b≠e->h.get? b=some u->h'.get? b=some u)(heo:∃u,h'.get? e=some u):Un fs ex H (upd H x o) h h':=by
 have hx:∀b,H b=none->b≠x:=fun b n z=>by subst z;rw[n] at mu;exact mu
 have hb:∀b,H b=none->b≠e:=fun b n z=>by
  subst z;rcases he with r|r
  ·exact hx b n r
  ·rw[n] at r;cases r
 have hm:∀b u,H b=some u->¬Mut (some u)->b≠x:=fun b u q nm z=>by subst z;rw[q] at mu;exact nm mu
 refine⟨fun b u q n _ _=>k b u (hb b n) q,fun b u q n _ _=>⟨u.slots,k b u (hb b n) q⟩,fun b u q n _=>by rw[a0h (hx b n)];exact n,fun b u q _=>?_,
  fun b xs q=>by rw[a0h (hm b _ q fun z=>z)];exact q,fun b u xs q=>by rw[a0h (hm b _ q fun z=>z)];exact q,fun b ps q=>⟨#[],by rw[a0h (hm b _ q fun z=>z),q];simp⟩⟩
 by_cases hbe:b=e
 ·subst hbe;exact heo
 ·exact⟨u,k b u hbe q⟩
end
noncomputable def trk(h:Heap)(H:Hp):List Addr:=(b5S h.objs.size).filter fun a=>(H a).isSome
noncomputable def hidT(h:Heap)(H:Hp):Heap:=PySem.W.hideAll h (trk h H)
theorem a8Z(h:Heap)(H:Hp):(hidT h H).objs.size=h.objs.size:=PySem.W.hideAll_size _ _
theorem b0t{h:Heap}{H:Hp}{b:Addr}{o:Obj}(e:h.get? b=some o)(n:H b=none):(hidT h H).get? b=some o :=
 PySem.W.hideAll_get _ e fun hm=>by
  have q:(H b).isSome=true:=(c0h.mp hm).2;rw[n] at q;simp at q
theorem b1T{h:Heap}{H:Hp}{b:Addr}{o:Obj}(e:(hidT h H).get? b=some o):h.get? b=some o/\H b=none:=by
 have e':h.get? b=some o:=PySem.W.of_hideAll (trk h H) e;refine⟨e',?_⟩;cases q:H b with
 |none=>rfl
 | some x =>
   have hm:b∈trk h H:=List.mem_filter.mpr ⟨b8m.mpr (b5d e'),by simp[q]⟩;have z:(hidT h H).get? b=none:=PySem.W.hideAll_none (trk h H) hm;rw[z] at e;cases e
structure Mod(K:PySem.W.Frag)(mg:SOV)(base:Heap):Prop where
 kin:K.In base
 glob:base.Ns mainGlobals mg
 blt:∃mb,base.Ns builtinsNs mb/\∀x:Str,x≠"__name__"->mb x=bootBuiltins x
 nolimit:base.NoLimit
structure Cx where
 prog:b5i
 w:b5B
 K:PySem.W.Frag
 mg:SOV
 base:Heap
 A:b5s
 N:LSS
 s₀:b4U
 H₀:Hp
 env:Env
 outer:List Env
 stack:List Env
 ex:List Addr
 fn:Str->Bool
 calm:Bool
 pn:PNS
 xe:VPR
noncomputable def frs(l:List Env):List Addr:=l.filterMap (·.frame)
noncomputable abbrev Cx.fs(X:Cx):List Addr:=frs X.outer
noncomputable def Vis(sc:b6Z)(x:Str):Prop:=sc.names.lookup x=some .local\/sc.names.lookup x=some .cell\/sc.names.lookup x=some .free
noncomputable def Loc(sc:b6Z)(x:Str):Prop:=sc.names.lookup x=some .local\/sc.names.lookup x=some .cell
noncomputable def Look(env:Env)(h:Heap)(m:SOV)(x:Str)(u:b5c):Prop :=
 (env.kindOf x=some .local/\m x=some u)\/((env.kindOf x=some .cell\/env.kindOf x=some .free)/\∃c,env.cells.lookup x=some c/\h.IsCell c (some u))
structure Cx.Ok(X:Cx):Prop where
 mod:Mod X.K X.mg X.base
 kind:X.env.scope.kind=.function
 glob:X.env.globals=mainGlobals
 blt:X.env.builtins=builtinsNs
 above:X.s₀.heap.objs.size<=X.env.locals
 inj:∀x y c,X.env.cells.lookup x=some c->X.env.cells.lookup y=some c->x=y
 has:∀x,(X.env.kindOf x=some .cell\/X.env.kindOf x=some .free)->∃c,X.env.cells.lookup x=some c
 cab:∀x c,X.fn x=true->X.env.cells.lookup x=some c->X.s₀.heap.objs.size<=c
 hd:X.calm=true->X.A.handled=none
 frames:X.A.frames=some X.stack
 stk:X.stack=X.outer\/(X.stack=X.env::X.outer/\X.env.frame=some X.env.locals)
 exf:∀b∈X.ex,b≠X.env.locals/\∀x c,X.env.cells.lookup x=some c->c≠b
 bs:∀b o,X.base.get? b=some o->X.s₀.heap.get? b=some o/\X.H₀ b=none
 bsz:X.base.objs.size<=X.s₀.heap.objs.size
 noex:∀b o,X.base.get? b=some o->b∉X.ex
 exfs:∀b∈X.ex,b∉X.fs
 funs:X.s₀.heap.FunFrames X.base X.outer
 frf:∀b∈X.fs,X.H₀ b=none
structure Inv(X:Cx)(pins:PNS)(σ:List (Option V))(H:Hp)(s:b4U):Prop where
 ok:X.Ok
 os:s.os=X.s₀.os
 bare:b8n s.gens
 base:Un X.fs X.ex X.H₀ H X.s₀.heap s.heap
 loc:∃m,s.heap.Ns X.env.locals m/\∀(i:Nat) (x:Str) (v:V),X.N[i]?=some x->σ[i]?=some (some v)->Vis X.env.scope x->∃u,RelV v u/\Look X.env s.heap m x u
 cell:∀x c,X.env.cells.lookup x=some c->∃v,s.heap.IsCell c v
 free:H X.env.locals=none
 freeC:∀x c,X.env.cells.lookup x=some c->H c=none
 pin:∀p∈X.pn++pins,s.heap.get? p.1=some p.2/\H p.1=none/\p.1≠X.env.locals/\p.1∉X.fs/\∀v,p.2.data≠.cell v
 hok:HOk X.prog X.w H s.heap
 len:σ.length=X.N.length
section
variable{X:Cx}{pins:PNS}{σ:List (Option V)}{H H':Hp}{s:b4U}{h':Heap}
theorem Cx.Ok.nofr(ok:X.Ok){b:Addr}{o:Obj}(e:X.base.get? b=some o):b∉X.fs:=fun hb=>by
 have:=(ok.funs.mem hb).1;rw[e] at this;cases this
theorem Inv.bs(I:Inv X pins σ H s):∀b o,X.base.get? b=some o->s.heap.get? b=some o/\H b=none:=fun b o e =>
 ⟨I.base.keep b o (I.ok.bs b o e).1 (I.ok.bs b o e).2 (I.ok.nofr e) (I.ok.noex b o e),I.base.free b o (I.ok.bs b o e).1 (I.ok.bs b o e).2 (I.ok.noex b o e)⟩
theorem Inv.bk(I:Inv X pins σ H s):∀b o,X.base.get? b=some o->s.heap.get? b=some o:=fun b o e=>(I.bs b o e).1
theorem Inv.mod(I:Inv X pins σ H s):Mod X.K X.mg X.base:=I.ok.mod
theorem Inv.kIn(I:Inv X pins σ H s):X.K.In s.heap:=I.ok.mod.kin.keeps I.bk
theorem Inv.lt(I:Inv X pins σ H s):X.env.locals<s.heap.objs.size:=let ⟨_,hn,_⟩:=I.loc;hn.lt
theorem Inv.sz(I:Inv X pins σ H s):X.s₀.heap.objs.size<=s.heap.objs.size:=b5l I.ok.above (b6s I.lt)
theorem Inv.nofs(I:Inv X pins σ H s){a:Addr}(h:s.heap.objs.size<=a):a∉X.fs:=fun hb=>by
 obtain⟨_,o,ho,_⟩:=I.ok.funs.mem hb;exact absurd (b4W (b5d ho) (b5l I.sz h)) (b6c _)
theorem Inv.cne(I:Inv X pins σ H s):∀x c,X.env.cells.lookup x=some c->c≠X.env.locals:=fun x c e z=>by
 obtain⟨v,o,ho,hd⟩:=I.cell x c e;obtain⟨m,⟨o',es,ep,ho',hd',_⟩,_⟩:=I.loc;rw[z,ho'] at ho;cases ho;rw[hd'] at hd;cases hd
theorem Inv.funs(I:Inv X pins σ H s):s.heap.FunFrames X.base X.outer:=by
 have all:∀(l:List Env),(∀b∈frs l,b∈X.fs)->X.s₀.heap.FunFrames X.base l->s.heap.FunFrames X.base l:=by
  intro l
  induction l with
  |nil=>intro _ _;trivial
  | cons env r ih =>
    intro hs hl;obtain⟨hk,⟨L,o,hf,hn,ho,hd⟩,hr⟩:=hl;have hL:L∈X.fs:=hs L (by unfold frs;rw[b5Z,hf];exact b5m);obtain⟨sl,e⟩:=I.base.slot L o ho (I.ok.frf L hL) hL fun z=>I.ok.exfs L z hL;exact⟨hk,⟨L,_,hf,hn,e,hd⟩,ih (fun b hb=>hs b (by unfold frs;rw[b5Z,hf];exact b4X _ hb)) hr⟩
 exact all X.outer (fun _ hb=>hb) I.ok.funs
theorem Inv.stack(I:Inv X pins σ H s):s.heap.FunFrames X.base X.stack:=by
 rcases I.ok.stk with e|⟨e,hf⟩
 ·rw[e];exact I.funs
 ·rw[e];obtain⟨m,hn,_⟩:=I.loc;refine .cons (by rw[I.ok.kind];decide) hf hn ?_ I.funs;exact b7E (b5l I.ok.bsz I.ok.above)
theorem Inv.stkSub(I:Inv X pins σ H s):∀b∈frs X.stack,b∈X.env.locals::X.fs:=fun b hb=>by
 rcases I.ok.stk with e|⟨e,hf⟩
 ·rw[e] at hb;exact b4X _ hb
 ·rw[e] at hb;unfold frs at hb;rw[b5Z,hf] at hb;exact hb
theorem Inv.stkFree(I:Inv X pins σ H s):∀b∈frs X.stack,H b=none:=fun b hb=>by
 rcases b5b.mp (I.stkSub b hb) with e|hb
 ·rw[e];exact I.free
 ·obtain⟨_,o,ho,_⟩:=I.ok.funs.mem hb;exact I.base.free b o ho (I.ok.frf b hb) fun z=>I.ok.exfs b z hb
theorem Inv.step{g':Array c0w}{t':Nat}{d':Drawn}{ch:List Addr}(I:Inv X pins σ H s)
  (hch:∀b∈ch,(b∈X.ex\/X.s₀.heap.objs.size<=b)/\b≠X.env.locals/\(∀x c,X.env.cells.lookup x=some c->c≠b)/\∀p∈X.pn++pins,p.1≠b)
  (keep:∀b o,b≠X.env.locals->b∉X.fs->b∉ch->s.heap.get? b=some o->H b=none->h'.get? b=some o)
  (slot:∀b o,b≠X.env.locals->b∈X.fs->b∉ch->s.heap.get? b=some o->H b=none->∃sl,h'.get? b=some { o with slots:=sl }) (free:∀b o,b∉ch->s.heap.get? b=some o->H b=none->H' b=none)
  (there:∀b o,b∉ch->s.heap.get? b=some o->∃o',h'.get? b=some o')
  (tups:∀b xs,H b=some (.tup xs)->H' b=some (.tup xs)) (frzs:∀b o u,H b=some (.frz o u)->H' b=some (.frz o u)) (tbls:∀b ps,H b=some (.tbl ps)->∃more,H' b=some (.tbl (ps++more)))
  (ns:∀m,s.heap.Ns X.env.locals m->h'.Ns X.env.locals m) (hok:HOk X.prog X.w H' h') (hg:b8n g') :
  Inv X pins σ H' { s with heap:=h',gens:=g',drawn:=d',toks:=t' }:=by
 have neL:∀b o,X.s₀.heap.get? b=some o->b≠X.env.locals:=fun b o e=>b5y (b4W (b5d e) I.ok.above)
 have neC:∀b o,X.s₀.heap.get? b=some o->b∉X.ex->b∉ch:=fun b o e hx hb=>by
  rcases (hch b hb).1 with z|z
  ·exact hx z
  ·exact absurd (b4W (b5d e) z) (b6c _)
 have cellK:∀x c,X.env.cells.lookup x=some c->∀v,s.heap.IsCell c v->h'.IsCell c v:=fun x c e v ⟨o,ho,hd⟩=>by
  have nch:c∉ch:=fun z=>(hch c z).2.2.1 x c e rfl;by_cases hc:c∈X.fs
  ·obtain⟨sl,q⟩:=slot c o (I.cne x c e) hc nch ho (I.freeC x c e);exact⟨_,q,hd⟩
  ·exact⟨o,keep c o (I.cne x c e) hc nch ho (I.freeC x c e),hd⟩
 refine⟨I.ok,I.os,hg,⟨fun b o e n hb hx=>?_,fun b o e n hb hx=>?_,fun b o e n hx=>?_,fun b o e hx=>?_,fun b xs e=>tups b xs (I.base.tups b xs e),fun b o xs e=>frzs b o xs (I.base.frzs b o xs e),fun b ps e=>?_⟩,?_,fun x c e=>?_,?_,fun x c e=>?_,fun p hp=>?_,hok,I.len⟩
 ·exact keep b o (neL b o e) hb (neC b o e hx) (I.base.keep b o e n hb hx) (I.base.free b o e n hx)
 ·obtain⟨sl,e1⟩:=I.base.slot b o e n hb hx;obtain⟨sl',e2⟩:=slot b _ (neL b o e) hb (neC b o e hx) e1 (I.base.free b o e n hx);exact⟨sl',e2⟩
 ·obtain⟨o',e1⟩:=I.base.there b o e hx;exact free b o' (neC b o e hx) e1 (I.base.free b o e n hx)
 ·obtain⟨o',e1⟩:=I.base.there b o e hx;exact there b o' (neC b o e hx) e1
 ·obtain⟨m1,e1⟩:=I.base.tbls b ps e;obtain⟨m2,e2⟩:=tbls b _ e1;exact⟨m1++m2,by rw[e2,b9o]⟩
 ·obtain⟨m,hn,hl⟩:=I.loc;refine⟨m,ns m hn,fun i x v e1 e2 e3=>?_⟩;obtain⟨u,r,l⟩:=hl i x v e1 e2 e3;refine⟨u,r,?_⟩;rcases l with l|⟨k,c,e,z⟩
  ·exact .inl l
  ·exact .inr ⟨k,c,e,cellK x c e _ z⟩
 ·obtain⟨v,z⟩:=I.cell x c e;exact⟨v,cellK x c e v z⟩
 ·obtain⟨m,⟨o,_,_,ho,_⟩,_⟩:=I.loc;exact free _ o (fun z=>(hch _ z).2.1 rfl) ho I.free
 ·obtain⟨v,o,ho,hd⟩:=I.cell x c e;exact free c o (fun z=>(hch c z).2.2.1 x c e rfl) ho (I.freeC x c e)
 ·obtain⟨e,n,ne,nf,d⟩:=I.pin p hp;have nch:p.1∉ch:=fun z=>(hch p.1 z).2.2.2 p hp rfl;exact⟨keep p.1 p.2 ne nf nch e n,free p.1 p.2 nch e n,ne,nf,d⟩
theorem Inv.un{t':Nat}(I:Inv X pins σ H s)(u:Un X.fs [] H H' s.heap h')(hok:HOk X.prog X.w H' h'):Inv X pins σ H' { s with heap:=h',toks:=t' }:=by
 obtain⟨m,⟨o,es,ep,ho,r⟩,_⟩:=id I.loc;obtain⟨sl,hL⟩:=u.any ho I.free (by simp)
 exact I.step (g':=s.gens) (d':=s.drawn) (ch:=[]) (fun _ z=>nomatch z) (fun b o _ hb _ e n=>u.keep b o e n hb (by simp)) (fun b o _ hb _ e n=>u.slot b o e n hb (by simp)) (fun b o _ e n=>u.free b o e n (by simp)) (fun b o _ e=>u.there b o e (by simp)) u.tups u.frzs u.tbls (fun m' hm=>by
  obtain⟨o',es',ep',ho',r'⟩:=hm;rw[ho] at ho';cases ho'
  exact⟨_,es',ep',hL,r'⟩) hok I.bare
theorem Inv.call{g':Array c0w}{t':Nat}{d':Drawn}{ch:List Addr}(I:Inv X pins σ H s)(u:Un (frs X.stack) ch H H' s.heap h')(hok:HOk X.prog X.w H' h')(hg:b8n g')
  (hch:∀b∈ch,(b∈X.ex\/X.s₀.heap.objs.size<=b)/\b≠X.env.locals/\(∀x c,X.env.cells.lookup x=some c->c≠b)/\∀p∈X.pn++pins,p.1≠b) :
  Inv X pins σ H' { s with heap:=h',gens:=g',drawn:=d',toks:=t' }:=by
 obtain⟨m,⟨o,es,ep,ho,r⟩,_⟩:=id I.loc;obtain⟨sl,hL⟩:=u.any ho I.free fun z=>(hch _ z).2.1 rfl
 exact I.step (ch:=ch) hch (fun b o hL hb hc e n=>u.keep b o e n (fun z=>(b5b.mp (I.stkSub b z)).elim hL hb) hc) (fun b o _ _ hc e n=>u.any e n hc) (fun b o hc e n=>u.free b o e n hc) (fun b o hc e=>u.there b o e hc) u.tups u.frzs u.tbls (fun m' hm=>by
  obtain⟨o',es',ep',ho',r'⟩:=hm;rw[ho] at ho';cases ho'
  exact⟨_,es',ep',hL,r'⟩) hok hg
theorem Inv.turned{t':Nat}{it:Addr}(I:Inv X pins σ H s)(k:∀b o,b≠it->s.heap.get? b=some o->h'.get? b=some o)(hn:H it=none)(hL:it≠X.env.locals)
  (h1:it∈X.ex\/X.s₀.heap.objs.size<=it) (h2:∀x c,X.env.cells.lookup x=some c->c≠it) (h3:∀p∈X.pn++pins,p.1≠it):Inv X pins σ H { s with heap:=h',toks:=t' }:=by
 have nit:∀b u,H b=some u->b≠it:=fun b u e z=>by rw[z,hn] at e;cases e
 refine I.step (g':=s.gens) (d':=s.drawn) (ch:=[it]) (fun b hb=>?_) (fun b o _ _ hc e _=>k b o (fun z=>hc (by simp[z])) e) (fun b o _ _ hc e _=>⟨o.slots,k b o (fun z=>hc (by simp[z])) e⟩) (fun _ _ _ _ n=>n)
  (fun b o hc e=>⟨o,k b o (fun z=>hc (by simp[z])) e⟩) (fun _ _ e=>e) (fun _ _ _ e=>e) (fun b ps e=>⟨#[],by rw[e];simp⟩) (fun m hm=>?_) (fun b u e=>?_) I.bare
 ·have e:b=it:=by simpa using hb
  subst e;exact⟨h1,hL,h2,h3⟩
 ·obtain⟨o,es,ep,ho,r⟩:=hm;exact⟨o,es,ep,k _ o (b6n hL) ho,r⟩
 ·refine(I.hok b u e).stay (fun c v hc q=>k c v ?_ q) (fun _ q=>q) fun _ _ q=>q;rcases hc with z|z
  ·rw[z];exact nit b u e
  ·exact nit c _ z
theorem Inv.tok(I:Inv X pins σ H s)(t:Nat):Inv X pins σ H { s with toks:=t }:=I.un (h':=s.heap) (t':=t) Un.refl I.hok
theorem Inv.kept{t':Nat}(I:Inv X pins σ H s)(k:∀b u,s.heap.get? b=some u->h'.get? b=some u):Inv X pins σ H { s with heap:=h',toks:=t' }:=I.un (Un.kept k) (I.hok.kept k)
theorem Inv.laid{a:Addr}{o:HO}{t':Nat}(I:Inv X pins σ H s)(k:∀b u,s.heap.get? b=some u->h'.get? b=some u)(hp:s.heap.objs.size<=a)(new:a1C X.prog X.w (upd H a o) h' a o) :
  Inv X pins σ (upd H a o) { s with heap:=h',toks:=t' }:=I.un (Un.laid k hp (I.hok.fresh hp)) (I.hok.laid k hp new)
theorem Inv.write{x e:Addr}{o:HO}{t':Nat}(I:Inv X pins σ H s)(mu:Mut (H x))(he:e=x\/H e=some (.own x))(k:∀b u,b≠e->s.heap.get? b=some u->h'.get? b=some u)(heo:∃u,h'.get? e=some u)
  (new:a1C X.prog X.w (upd H x o) h' x o):Inv X pins σ (upd H x o) { s with heap:=h',toks:=t' }:=I.un (Un.write mu he k heo) (I.hok.write mu he k heo new)
theorem Inv.weak{σ':List (Option V)}(I:Inv X pins σ H s)(hl:σ'.length=σ.length)(w:∀(i:Nat) v,σ'[i]?=some (some v)->σ[i]?=some (some v)):Inv X pins σ' H s :=
 ⟨I.ok,I.os,I.bare,I.base,let ⟨m,hn,hl'⟩:=I.loc;⟨m,hn,fun i x v e1 e2 e3=>hl' i x v e1 (w i v e2) e3⟩,I.cell,I.free,I.freeC,I.pin,I.hok,hl.trans I.len⟩
theorem Inv.pins_of{pins':PNS}(I:Inv X pins σ H s)(h:∀p∈pins',s.heap.get? p.1=some p.2/\H p.1=none/\p.1≠X.env.locals/\p.1∉X.fs/\∀v,p.2.data≠.cell v):Inv X pins' σ H s :=
 ⟨I.ok,I.os,I.bare,I.base,I.loc,I.cell,I.free,I.freeC,fun p hp=>(b5J.mp hp).elim (fun z=>I.pin p (b5v _ z)) (h p),I.hok,I.len⟩
theorem a4T{N:LSS}(hN:N.Nodup){i j:Nat}{x:Str}(a:N[i]?=some x)(b:N[j]?=some x):i=j:=by
 obtain⟨h1,e1⟩:=b5q.mp a;obtain⟨h2,e2⟩:=b5q.mp b;exact(List.getElem_inj hN).mp (e1.trans e2.symm)
noncomputable abbrev QXX(X:Cx)(x:Str):Prop:=X.fn x=true\/X.env.scope.names.lookup x=some .local
theorem a5o{M:b7r}{A:b5s}{E:VPR}{i:Nat}{x:Str}{v:V}{u:b5c}{Q:Unit->b4U->Prop}(I:Inv X pins σ H s)(hN:X.N.Nodup)(hi:X.N[i]?=some x)(hx:Loc X.env.scope x)(r:RelV v u)
  (h:∀s',Inv X pins (σ.set i (some v)) H s'->(∃a,b7e a s.heap s'.heap/\(a=X.env.locals\/X.env.cells.lookup x=some a))->Q () s') (hf:QXX X x:=by first|exact .inl rfl|exact .inr rfl|assumption):wpAny M A (storeName X.env x u) Q E s:=by
 obtain⟨m,hn,hl⟩:=id I.loc
 have hcls:(X.env.scope.kind==.class||(X.env.scope.kind==.module&&X.env.locals != X.env.globals))=false:=by rw[I.ok.kind];rfl
 have hiσ:i<σ.length:=by rw[I.len];exact(b5q.mp hi).1
 have cne:=I.cne
 have tracked:∀{a:Addr} {h':Heap},(∃o,s.heap.get? a=some o/\H a=none)->b7e a s.heap h'->HOk X.prog X.w H h':=fun {a h'} ha hs b ob e=>by
  obtain⟨_,_,hfree⟩:=ha;refine(I.hok b ob e).stay (fun c w' hc q=>(hs.2 c ?_).trans q) (fun _ q=>q) fun _ _ q=>q;rintro rfl;rcases hc with rfl|hc
  ·rw[hfree] at e;cases e
  ·rw[hfree] at hc;cases hc
 rcases hx with hk|hk
 ·refine wpAny_storeName_local hk hn (fun h' hn' hs=>?_) hcls;obtain⟨oL,_,_,hoL,_⟩:=id hn;refine h _ ⟨I.ok,I.os,I.bare,⟨fun b o e n hb hx=>?_,fun b o e n hb hx=>?_,I.base.free,fun b o e hx=>?_,I.base.tups,I.base.frzs,I.base.tbls⟩,⟨_,hn',fun j y v' e1 e2 e3=>?_⟩,fun y c e=>?_,I.free,I.freeC,fun p hp=>?_,tracked ⟨oL,hoL,I.free⟩ hs,by simpa using I.len⟩ ⟨_,hs,.inl rfl⟩
  ·exact(hs.2 b (b5y (b4W (b5d e) I.ok.above))).trans (I.base.keep b o e n hb hx)
  ·obtain⟨sl,e1⟩:=I.base.slot b o e n hb hx;exact⟨sl,(hs.2 b (b5y (b4W (b5d e) I.ok.above))).trans e1⟩
  ·obtain⟨o',e1⟩:=I.base.there b o e hx;exact⟨o',(hs.2 b (b5y (b4W (b5d e) I.ok.above))).trans e1⟩
  ·by_cases hj:j=i
   ·subst hj;rw[hi] at e1;cases e1;rw[b5L hiσ] at e2;cases e2;exact⟨u,r,.inl ⟨hk,by simp⟩⟩
   ·rw[b5K (b6n hj)] at e2;obtain⟨u',r',q⟩:=hl j y v' e1 e2 e3;refine⟨u',r',?_⟩;rcases q with ⟨k,e⟩|⟨k,c,e,z⟩
    ·refine .inl ⟨k,?_⟩;have:y≠x:=fun e=>hj (a4T hN e1 (e▸hi));simp[this,e]
    ·exact .inr ⟨k,c,e,z.sameBut hs (cne y c e)⟩
  ·obtain⟨w',z⟩:=I.cell y c e;exact⟨w',z.sameBut hs (cne y c e)⟩
  ·obtain⟨e,n,ne,nf,d⟩:=I.pin p hp;exact⟨(hs.2 p.1 ne).trans e,n,ne,nf,d⟩
 ·have hfn:X.fn x=true:=by
   rcases hf with z|z
   ·exact z
   ·rw[z] at hk;cases hk
  obtain⟨c,hc⟩:=I.ok.has x (.inl hk);obtain⟨w',z⟩:=I.cell x c hc;refine wpAny_storeName_cell I.ok.kind hk hc z (fun h' hc' hs=>?_);obtain⟨oc,hoc,hocd⟩:=id z;refine h { s with heap:=h' } ⟨I.ok,I.os,I.bare,⟨fun b o e n hb hx=>?_,fun b o e n hb hx=>?_,I.base.free,fun b o e hx=>?_,I.base.tups,I.base.frzs,I.base.tbls⟩,⟨m,hn.sameBut hs (b6n (cne x c hc)),fun j y v' e1 e2 e3=>?_⟩,fun y c' e=>?_,I.free,I.freeC,fun p hp=>?_,tracked ⟨oc,hoc,I.freeC x c hc⟩ hs,by simpa using I.len⟩ ⟨c,hs,.inr hc⟩
  ·exact(hs.2 b (b5y (b4W (b5d e) (I.ok.cab x c hfn hc)))).trans (I.base.keep b o e n hb hx)
  ·obtain⟨sl,e1⟩:=I.base.slot b o e n hb hx;exact⟨sl,(hs.2 b (b5y (b4W (b5d e) (I.ok.cab x c hfn hc)))).trans e1⟩
  ·obtain⟨o',e1⟩:=I.base.there b o e hx;exact⟨o',(hs.2 b (b5y (b4W (b5d e) (I.ok.cab x c hfn hc)))).trans e1⟩
  ·by_cases hj:j=i
   ·subst hj;rw[hi] at e1;cases e1;rw[b5L hiσ] at e2;cases e2;exact⟨u,r,.inr ⟨.inl hk,c,hc,hc'⟩⟩
   ·rw[b5K (b6n hj)] at e2;obtain⟨u',r',q⟩:=hl j y v' e1 e2 e3;refine⟨u',r',?_⟩;rcases q with q|⟨k,c',e,z'⟩
    ·exact .inl q
    ·refine .inr ⟨k,c',e,z'.sameBut hs ?_⟩;rintro rfl;exact hj (a4T hN e1 (I.ok.inj _ _ _ e hc▸hi))
  ·by_cases hcc:c'=c
   ·subst hcc;exact⟨_,hc'⟩
   ·obtain⟨w2,z2⟩:=I.cell y c' e;exact⟨w2,z2.sameBut hs hcc⟩
  ·obtain⟨e,n,ne,nf,d⟩:=I.pin p hp;refine⟨(hs.2 p.1 ?_).trans e,n,ne,nf,d⟩;intro q;rw[q,hoc] at e;have q':oc=p.2:=b5p e;exact d w' (by rw[<- q'];exact hocd)
theorem a2p{M:b7r}{A:b5s}{E:VPR}{i:Nat}{x:Str}{v:V}{u:b5c}{Q:Unit->b4U->Prop}(I:Inv X pins σ H s)(hN:X.N.Nodup)(hi:X.N[i]?=some x)(hx:Loc X.env.scope x)(r:RelV v u)
  (h:∀s',Inv X pins (σ.set i (some v)) H s'->Q () s') (hf:QXX X x:=by first|exact .inl rfl|exact .inr rfl|assumption):wpAny M A (storeName X.env x u) Q E s :=
 a5o I hN hi hx r (fun s' I' _=>h s' I') hf
theorem Inv.call'{s':b4U}{ch:List Addr}(I:Inv X pins σ H s)(ho:s'.os=s.os)(u:Un (frs X.stack) ch H H' s.heap s'.heap)(hok:HOk X.prog X.w H' s'.heap)(hg:b8n s'.gens)
  (hch:∀b∈ch,(b∈X.ex\/X.s₀.heap.objs.size<=b)/\b≠X.env.locals/\(∀x c,X.env.cells.lookup x=some c->c≠b)/\∀p∈X.pn++pins,p.1≠b):Inv X pins σ H' s':=by
 obtain⟨h',g',d',t',o'⟩:=s';have e:o'=s.os:=ho;subst e;exact I.call (g':=g') (t':=t') (d':=d') u hok hg hch
end
noncomputable abbrev XK:=b5c->Option Addr->Hp->Prop
noncomputable abbrev St:=List (Option V)
noncomputable abbrev VK:=V->Hp->Prop
noncomputable abbrev TE:=St->Hp->VK->Prop
noncomputable abbrev TT:=St->Hp->(Bool->Hp->Prop)->Prop
noncomputable abbrev TA:=St->Hp->(List V->Hp->Prop)->Prop
structure Ends where
 nx:St->Hp->Prop
 rt:VK
 bk:St->Hp->Prop:=fun _ _=>False
 ct:St->Hp->Prop:=fun _ _=>False
noncomputable abbrev TS:=Ends->St->Hp->Prop
noncomputable def EP(X:Cx)(pins:PNS)(σ:St)(Q:VK)(u:b5c)(s':b4U):Prop:=∃v H',Inv X pins σ H' s'/\RelV v u/\Q v H'
noncomputable def TP(X:Cx)(pins:PNS)(σ:St)(Q:Bool->Hp->Prop)(b:Bool)(s':b4U):Prop:=∃H',Inv X pins σ H' s'/\Q b H'
noncomputable def AP(X:Cx)(pins:PNS)(σ:St)(Q:List V->Hp->Prop)(us:LSV)(s':b4U):Prop:=∃vs H',Inv X pins σ H' s'/\Vals vs us/\Q vs H'
noncomputable def SP(X:Cx)(pins:PNS)(D:Ends)(f:Flow)(s':b4U):Prop :=
 match f with
 |.next=>∃σ' H',Inv X pins σ' H' s'/\D.nx σ' H'
 |.brk=>∃σ' H',Inv X pins σ' H' s'/\D.bk σ' H'
 |.cont=>∃σ' H',Inv X pins σ' H' s'/\D.ct σ' H'
 |.ret u=>∃v σ' H',Inv X pins σ' H' s'/\RelV v u/\D.rt v H'
noncomputable def PE(X:Cx)(e:Expr)(t:TE):Prop :=
 ∀pins s σ H (Q:VK),Inv X pins σ H s->t σ H Q->wpAny (model X.prog X.w) X.A (eval e X.env) (EP X pins σ Q) X.xe s
noncomputable def PT(X:Cx)(e:Expr)(t:TT):Prop :=
 ∀pins s σ H (Q:Bool->Hp->Prop),Inv X pins σ H s->t σ H Q->wpAny (model X.prog X.w) X.A (isTrue e X.env (eval e X.env)) (TP X pins σ Q) X.xe s
noncomputable def PW(X:Cx)(e:Expr)(t:TT):Prop :=
 ∀(whole:Sem b5c) (pins:PNS) (s:b4U) (σ:St) (H:Hp) (Q:Bool->Hp->Prop),Inv X pins σ H s->t σ H Q->wpAny (model X.prog X.w) X.A (isTrue e X.env whole) (TP X pins σ Q) X.xe s
theorem PW.pt{X:Cx}{e:Expr}{t:TT}(h:PW X e t):PT X e t:=h _
noncomputable def PA(X:Cx)(es:LSE)(t:TA):Prop :=
 ∀(pos:Pos) (pins:PNS) (s:b4U) (σ:St) (H:Hp) (Q:List V->Hp->Prop),Inv X pins σ H s->t σ H Q->wpAny (model X.prog X.w) X.A (spliced (backTo pos (starEach es X.env))) (AP X pins σ Q) X.xe s
noncomputable def PS(X:Cx)(st:Stmt)(t:TS):Prop :=
 ∀pins s σ H (D:Ends),Inv X pins σ H s->t D σ H->wpAny (model X.prog X.w) X.A (exec st X.env) (SP X pins D) X.xe s
noncomputable def PSs(X:Cx)(st:List Stmt)(t:TS):Prop :=
 ∀pins s σ H (D:Ends),Inv X pins σ H s->t D σ H->wpAny (model X.prog X.w) X.A (execs st X.env) (SP X pins D) X.xe s
theorem thn{α:Type}{t:Sem α}{Q Q':α->b4U->Prop}{M:b7r}{A:b5s}{E:VPR}{s:b4U}(h:wpAny M A t Q E s)(hQ:∀a s,Q a s->Q' a s):wpAny M A t Q' E s:=b5I h hQ fun _ _ x=>x
section
variable{X:Cx}
noncomputable def tVar(i:Nat):TE:=fun σ H Q=>∃v,σ[i]?=some (some v)/\Q v H
noncomputable def tC(v:V):TE:=fun _ H Q=>Q v H
noncomputable abbrev QDD(x:Str):Prop:=(x==("__debug__":Str))=false
theorem a7b{i:Nat}{x:Str}{pos:Pos}(hN:X.N[i]?=some x)(hv:Vis X.env.scope x)(hd:QDD x:=by decide)(hcd:(x==("__classdict__":Str))=false:=by decide):PE X (.Name x pos) (tVar i):=by
 intro pins s σ H Q I h;obtain⟨v,e,h⟩:=h;obtain⟨m,hn,hl⟩:=I.loc;obtain⟨u,r,l⟩:=hl i x v hN e hv;have fin:EP X pins σ Q u s:=⟨v,H,I,r,h⟩;rcases l with ⟨hk,hm⟩|⟨hk,c,hc,hcell⟩
 ·exact c0u (wpAny_loadName_local I.ok.kind hk hn hm fin) hd
 ·rcases hk with hk|hk
  ·exact c0u (wpAny_loadName_cell I.ok.kind hk hc hcell fin) hd
  ·exact c0u (wpAny_loadName_free I.ok.kind hk hc hcell fin hcd) hd
theorem b3i{i j pos}:PE X (.Constant (.int i) j pos) (tC (.int i)):=fun _ _ _ H _ I h=>wpAny_Constant_int ⟨.int i,H,I.tok _,⟨_,rfl⟩,h⟩
theorem b4y{b j pos}:PE X (.Constant (.bool b) j pos) (tC (.bl b)):=fun _ _ _ H _ I h=>Constant_bool ⟨.bl b,H,I,rfl,h⟩
theorem b3h{j pos}:PE X (.Constant .none j pos) (tC .non):=fun _ _ _ H _ I h=>Constant_none ⟨.non,H,I,rfl,h⟩
theorem b3d{x j pos}:PE X (.Constant (.str x) j pos) (tC (.str x)):=fun _ _ _ H _ I h=>Calls.Constant_str ⟨.str x,H,I.tok _,⟨_,rfl⟩,h⟩
noncomputable def Gl(X:Cx)(x:Str):Prop:=X.env.kindOf x=some .globalImplicit
theorem a0X{E:VPR}{pins:PNS}{s:b4U}{σ:St}{H:Hp}{x:Str}{u:b5c}{pos:Pos}{Q:VPR}(I:Inv X pins σ H s)(hg:Gl X x)(hm:X.mg x=some u)(h:Q u s)
  (hd:QDD x:=by decide):wpAny (model X.prog X.w) X.A (eval (.Name x pos) X.env) Q E s :=
 b7U I.ok.kind hg (Calls.loadGlobal_global (by rw[I.ok.glob];exact I.mod.glob.keeps I.bk) hm h) hd
theorem a2l{E:VPR}{pins:PNS}{s:b4U}{σ:St}{H:Hp}{x:Str}{u:b5c}{pos:Pos}{Q:VPR}(I:Inv X pins σ H s)(hg:Gl X x)(hm:X.mg x=none)(hv:bootBuiltins x=some u)(h:Q u s)
  (hn:x≠"__name__":=by decide) (hd:QDD x:=by decide):wpAny (model X.prog X.w) X.A (eval (.Name x pos) X.env) Q E s:=by
 obtain⟨mb,h1,h2⟩:=I.mod.blt;exact b7U I.ok.kind hg (Calls.loadGlobal_builtin (by rw[I.ok.glob];exact I.mod.glob.keeps I.bk) hm (by rw[I.ok.blt];exact h1.keeps I.bk) ((h2 x hn).trans hv) h) hd
theorem b1I{x:Str}{v:V}{u:b5c}{pos:Pos}(hg:Gl X x)(hm:X.mg x=some u)(r:RelV v u)(hd:QDD x:=by decide):PE X (.Name x pos) (tC v) :=
 fun _ _ _ H _ I h=>a0X I hg hm ⟨v,H,I,r,h⟩ hd
theorem b1M{x:Str}{v:V}{u:b5c}{pos:Pos}(hg:Gl X x)(hm:X.mg x=none)(hv:bootBuiltins x=some u)(r:RelV v u)(hn:x≠"__name__":=by decide)(hd:QDD x:=by decide):PE X (.Name x pos) (tC v) :=
 fun _ _ _ H _ I h=>a2l I hg hm hv ⟨v,H,I,r,h⟩ hn hd
variable{a b:Expr}{ta tb:TE}{pos:Pos}
variable{tA tB':TT}{rest:LSE}
noncomputable def tOr(t u:TT):TT:=fun σ H Q=>t σ H fun c H1=>if c=true then Q true H1 else u σ H1 Q
noncomputable def tNot(t:TT):TT:=fun σ H Q=>t σ H fun c H1=>Q (!c) H1
theorem b2V(ha:PT X a tA):PW X (.BoolOp .Or [a] pos) tA:=by
 intro wh pins s σ H Q I h;refine isTrue_or (thn (ha pins s σ H Q I h) fun c s1 e=>?_);cases c with
 |false=>exact isTrue_or_nil e
 |true=>exact e
theorem b4v(ha:PT X a tA)(hb:PW X (.BoolOp .Or (b::rest) pos) tB'):PW X (.BoolOp .Or (a::b::rest) pos) (tOr tA tB'):=by
 intro wh pins s σ H Q I h;refine isTrue_or (thn (ha pins s σ H _ I h) fun c s1 ⟨H1,I1,q1⟩=>?_);cases c with
 |true=>exact⟨H1,I1,q1⟩
 |false=>exact hb wh pins s1 σ H1 Q I1 q1
theorem b2W(ha:PT X a tA):PT X (.UnaryOp .Not a pos) (tNot tA):=by
 intro pins s σ H Q I h;exact isTrue_not (ha pins s σ H (fun c H1=>Q (!c) H1) I h)
noncomputable def b4m(ta tb:TE):TE:=fun σ H Q=>ta σ H fun x H1=>∃c,x=.bl c/\if c=true then tb σ H1 Q else Q (.bl false) H1
noncomputable def b4i(ta:TE):TE:=fun σ H Q=>ta σ H fun x H1=>∃c,x=.bl c/\Q (.bl (!c)) H1
theorem b3f{op}{t:TE}(h:PE X a t):PE X (.BoolOp op [a] pos) t:=fun pins s σ H Q I hw=>BoolOp_one (h pins s σ H Q I hw)
theorem b3k(ha:PE X a ta)(hb:PE X (.BoolOp .And (b::rest) pos) tb):PE X (.BoolOp .And (a::b::rest) pos) (b4m ta tb):=by
 intro pins s σ H Q I h;refine BoolOp_and (thn (ha pins s σ H _ I h) fun v s1 ⟨x,H1,I1,r1,q1⟩=>?_);obtain⟨c,rfl,q1⟩:=q1;cases r1;refine b6a ?_;cases c with
 |true=>exact hb pins s1 σ H1 Q I1 q1
 |false=>exact⟨.bl false,H1,I1,rfl,q1⟩
theorem b3g(ha:PE X a ta):PE X (.UnaryOp .Not a pos) (b4i ta):=by
 intro pins s σ H Q I h;refine UnaryOp_ (thn (ha pins s σ H _ I h) fun v s1 ⟨x,H1,I1,r1,q1⟩=>?_);obtain⟨c,rfl,q1⟩:=q1;cases r1;exact not_of (b6a ⟨.bl (!c),H1,I1,rfl,q1⟩)
end
noncomputable def SqL(K:PySem.W.Frag)(H:Hp)(a:Addr)(xs:List V):Prop :=
 Rd H a (.lst xs) \/
  ∃(o:Obj) (its:Array b5c) (n:Nat),K.lookup a=some o/\o.cls=.type "list"/\o.dict=none/\o.data=.seq its n/\its.size<=sizeLine/\Vals xs its.toList
noncomputable def SqT(K:PySem.W.Frag)(H:Hp)(a:Addr)(xs:List V):Prop :=
 Rd H a (.tup xs) \/
  ∃(o:Obj) (its:Array b5c) (n:Nat),K.lookup a=some o/\o.cls=.type "tuple"/\o.dict=none/\o.data=.seq its n/\its.size<=sizeLine/\Vals xs its.toList
noncomputable def absV:b5c->Option V
 |.none=>some .non
 |.bool b=>some (.bl b)
 |.int i _=>some (.int i)
 |.str x _=>some (.str x)
 |.bytes b _=>some (.byt b)
 |.float b _=>some (.flt b)
 |.ref a=>some (.ref a)
 |.type n=>some (.ty n)
 |_=>none
theorem RelV.abs{x:V}{u:b5c}(r:RelV x u):absV u=some x:=by
 cases x with
 |non=>cases r;rfl
 |bl _=>cases r;rfl
 |int _=>obtain⟨t,rfl⟩:=r;rfl
 |str _=>obtain⟨t,rfl⟩:=r;rfl
 |byt _=>obtain⟨t,rfl⟩:=r;rfl
 |flt _=>obtain⟨t,rfl⟩:=r;rfl
 |ref _=>cases r;rfl
 |ty _=>cases r;rfl
theorem RelV.inj{x y:V}{u:b5c}(r:RelV x u)(q:RelV y u):x=y:=b5p (r.abs.symm.trans q.abs)
theorem Vals.inj:∀{xs ys:List V} {us:LSV},Vals xs us->Vals ys us->xs=ys
 |_,_,_,.nil,.nil=>rfl
 |_,_,_,.cons r t,.cons r' t'=>by rw[r.inj r',Vals.inj t t']
section
variable{X:Cx}{pins:PNS}{σ:St}{H:Hp}{s:b4U}{a:Addr}{xs ys:List V}
theorem SqL.of{K:PySem.W.Frag}(h:H a=some (.lst xs)):SqL K H a xs:=.inl (.inl h)
theorem SqT.of{K:PySem.W.Frag}(h:H a=some (.tup xs)):SqT K H a xs:=.inl (.inl h)
theorem Inv.list(I:Inv X pins σ H s)(h:SqL X.K H a xs):∃its:LSV,Vals xs its/\PlainL s.heap a its.toArray/\xs.length<=sizeLine:=by
 rcases h with h|⟨o,its,n,hk,hc,hd,hs,hz,r⟩
 ·obtain⟨z,its,n,r,e⟩:=h.ok I.hok;exact⟨its,r,⟨_,n,e,rfl,rfl,rfl⟩,z⟩
 ·refine⟨its.toList,r,⟨o,n,I.kIn a o hk,hc,hd,by simpa using hs⟩,?_⟩;have e:=r.length;simp only[b5u] at e;lia
theorem Inv.tuple(I:Inv X pins σ H s)(h:SqT X.K H a xs):∃its:LSV,Vals xs its/\IsTup s.heap a its.toArray/\xs.length<=sizeLine:=by
 rcases h with h|⟨o,its,n,hk,hc,hd,hs,hz,r⟩
 ·obtain⟨z,its,r,p⟩:=h.ok I.hok;exact⟨its,r,p.t,z⟩
 ·refine⟨its.toList,r,⟨o,I.kIn a o hk,hc,n,by simpa using hs⟩,?_⟩;have e:=r.length;simp only[b5u] at e;lia
theorem Inv.list_inj(I:Inv X pins σ H s)(h:SqL X.K H a xs)(h':SqL X.K H a ys):xs=ys:=by
 obtain⟨its,r,⟨o,n,e,_,_,d⟩,_⟩:=I.list h;obtain⟨its',r',⟨o',n',e',_,_,d'⟩,_⟩:=I.list h';rw[e] at e';cases e';rw[d] at d';injection d' with d1 _;have:its=its':=by simpa using congrArg c0G d1
 subst this;exact r.inj r'
theorem Inv.tuple_inj(I:Inv X pins σ H s)(h:SqT X.K H a xs)(h':SqT X.K H a ys):xs=ys:=by
 obtain⟨its,r,⟨o,e,_,n,d⟩,_⟩:=I.tuple h;obtain⟨its',r',⟨o',e',_,n',d'⟩,_⟩:=I.tuple h';rw[e] at e';cases e';rw[d] at d';injection d' with d1 _;have:its=its':=by simpa using congrArg c0G d1
 subst this;exact r.inj r'
end
noncomputable abbrev Cx.wish(X:Cx)(E:VPR):Cx:={ X with xe:=E }
noncomputable abbrev Cx.nox(X:Cx):Cx:=X.wish fun _ _=>False
theorem Cx.Ok.wish{X:Cx}(ok:X.Ok)(E:VPR):(X.wish E).Ok :=
 ⟨ok.mod,ok.kind,ok.glob,ok.blt,ok.above,ok.inj,ok.has,ok.cab,ok.hd,ok.frames,ok.stk,ok.exf,ok.bs,ok.bsz,ok.noex,ok.exfs,ok.funs,ok.frf⟩
theorem Cx.Ok.unwish{X:Cx}{E:VPR}(ok:(X.wish E).Ok):X.Ok :=
 ⟨ok.mod,ok.kind,ok.glob,ok.blt,ok.above,ok.inj,ok.has,ok.cab,ok.hd,ok.frames,ok.stk,ok.exf,ok.bs,ok.bsz,ok.noex,ok.exfs,ok.funs,ok.frf⟩
section
variable{X:Cx}{pins:PNS}{σ:St}{H:Hp}{s:b4U}{E:VPR}
theorem Inv.wish(I:Inv X pins σ H s)(E:VPR):Inv (X.wish E) pins σ H s:=⟨I.ok.wish E,I.os,I.bare,I.base,I.loc,I.cell,I.free,I.freeC,I.pin,I.hok,I.len⟩
theorem Inv.unwish(I:Inv (X.wish E) pins σ H s):Inv X pins σ H s:=⟨I.ok.unwish,I.os,I.bare,I.base,I.loc,I.cell,I.free,I.freeC,I.pin,I.hok,I.len⟩
theorem SP.unwish{D:Ends}{f:Flow}{s':b4U}(h:SP (X.wish E) pins D f s'):SP X pins D f s':=by
 cases f with
 |next=>obtain⟨σ',H',I,q⟩:=h;exact⟨σ',H',I.unwish,q⟩
 |brk=>obtain⟨σ',H',I,q⟩:=h;exact⟨σ',H',I.unwish,q⟩
 |cont=>obtain⟨σ',H',I,q⟩:=h;exact⟨σ',H',I.unwish,q⟩
 |ret u=>obtain⟨v,σ',H',I,r,q⟩:=h;exact⟨v,σ',H',I.unwish,r,q⟩
theorem PT.nox{e:Expr}{t:TT}(h:PT X.nox e t):PT X e t:=fun pins s σ H Q I hw =>
 b5I (h pins s σ H Q (I.wish _) hw) (fun _ _ ⟨H',I',q⟩=>⟨H',I'.unwish,q⟩) fun _ _ z=>b5A z
theorem PSs.nox{st:List Stmt}{t:TS}(h:PSs X.nox st t):PSs X st t:=fun pins s σ H D I hw =>
 b5I (h pins s σ H D (I.wish _) hw) (fun _ _ q=>q.unwish) fun _ _ z=>b5A z
end
section
variable{X:Cx}{st:Stmt}{rest:List Stmt}{t u:TS}{e:Expr}{te:TE}{pos:Pos}
noncomputable def b4j:TS:=fun D σ H=>D.nx σ H
noncomputable def tSeq(t u:TS):TS:=fun D σ H=>t { D with nx:=u D } σ H
theorem b1B:PSs X [] b4j:=fun _ _ σ H _ I h=>b6e ⟨σ,H,I,h⟩
theorem a7a(h1:PS X st t)(h2:PSs X rest u):PSs X (st::rest) (tSeq t u):=by
 intro pins s σ H D I h;refine b8F (thn (h1 pins s σ H { D with nx:=u D } I h) fun f s1 q=>?_);cases f with
 | next =>
   obtain⟨σ',H',I',q⟩:=q;exact h2 pins s1 σ' H' D I' q
 |ret v=>exact q
 |brk=>exact q
 |cont=>exact q
theorem a4I(h1:PS X st t):PSs X [st] t:=by
 intro pins s σ H D I h;refine b8F (thn (h1 pins s σ H D I h) fun f s1 q=>?_);cases f with
 |next=>exact b6e q
 |ret v=>exact q
 |brk=>exact q
 |cont=>exact q
theorem Inv.quiet{pins:PNS}{σ:St}{H:Hp}{s:b4U}(I:Inv X pins σ H s):interactive X.env=false:=by simp[interactive,I.ok.kind]
noncomputable def b4k(te:TE):TS:=fun D σ H=>te σ H fun _ H1=>D.nx σ H1
theorem b1E(he:PE X e te)(hs:swapsWith e none pos.line X.env=pure false:=by rfl):PS X (.Expr e pos) (b4k te):=by
 intro pins s σ H D I h;exact wpAny_Expr_any (thn (he pins s σ H _ I h) fun v s1 ⟨x,H1,I1,r1,q1⟩=>⟨σ,H1,I1,q1⟩) I.quiet hs
noncomputable def tRet(te:TE):TS:=fun D σ H=>te σ H D.rt
theorem b0L(he:PE X e te):PS X (.Return (some e) pos) (tRet te):=by
 intro pins s σ H D I h;exact wpAny_Return_some (thn (he pins s σ H _ I h) fun v s1 ⟨x,H1,I1,r1,q1⟩=>⟨x,σ,H1,I1,r1,q1⟩)
noncomputable def tIfS(c:TT)(t u:TS):TS:=fun D σ H=>c σ H fun b H1=>if b=true then t D σ H1 else u D σ H1
theorem b2X{c:Expr}{a b:List Stmt}{tc:TT}(hc:PT X c tc)(ha:PSs X a t)(hb:PSs X b u):PS X (.If c a b pos) (tIfS tc t u):=by
 intro pins s σ H D I h;refine wpAny_If (thn (hc pins s σ H _ I h) fun d s1 ⟨H1,I1,q1⟩=>?_);cases d with
 |true=>exact ha pins s1 σ H1 D I1 q1
 |false=>exact hb pins s1 σ H1 D I1 q1
end
noncomputable abbrev TG:=V->St->Hp->(St->Hp->Prop)->Prop
noncomputable abbrev TGs:=List V->St->Hp->(St->Hp->Prop)->Prop
noncomputable def PG(X:Cx)(target:Expr)(t:TG):Prop :=
 ∀ pins s σ H (v:V) (u:b5c) (Q:St->Hp->Prop),Inv X pins σ H s->RelV v u->t v σ H Q ->
   wpAny (model X.prog X.w) X.A (assign target X.env u) (fun _ s'=>∃σ' H',Inv X pins σ' H' s'/\Q σ' H') X.xe s
noncomputable def PGs(X:Cx)(ts:LSE)(t:TGs):Prop :=
 ∀ pins s σ H (vs:List V) (us:LSV) (Q:St->Hp->Prop),Inv X pins σ H s->Vals vs us->t vs σ H Q ->
   wpAny (model X.prog X.w) X.A (assignInOrder ((assignEach ts X.env).map (·.2)) us) (fun _ s'=>∃σ' H',Inv X pins σ' H' s'/\Q σ' H') X.xe s
noncomputable abbrev TSet:=V->V->V->Hp->(Hp->Prop)->Prop
noncomputable def PSet(X:Cx)(t:TSet):Prop :=
 ∀ pins s σ H (o i v:V) (ov iv u:b5c) (Q:Hp->Prop),Inv X pins σ H s->RelV o ov->RelV i iv->RelV v u->t o i v H Q ->
   wpAny (model X.prog X.w) X.A (setItem ov iv u) (fun _ s'=>∃H',Inv X pins σ H' s'/\Q H') X.xe s
section
variable{X:Cx}{pos:Pos}
noncomputable def a6L(i:Nat):TG:=fun v σ H Q=>Q (σ.set i (some v)) H
theorem a8w{i:Nat}{x:Str}(hN:X.N.Nodup)(hi:X.N[i]?=some x)(hx:Loc X.env.scope x)(hf:QXX X x:=by first|exact .inl rfl|exact .inr rfl|assumption):PG X (.Name x pos) (a6L i):=by
 intro pins s σ H v u Q I r h;exact b9A (a2p I hN hi hx r (fun s' I'=>⟨_,H,I',h⟩) hf)
noncomputable def gNil:TGs:=fun vs σ H Q=>vs=[]/\Q σ H
noncomputable def b4O(t:TG)(u:TGs):TGs:=fun vs σ H Q=>∃v r,vs=v::r/\t v σ H fun σ' H'=>u r σ' H' Q
theorem b1H:PGs X [] gNil:=by
 intro pins s σ H vs us Q I r h;obtain⟨e,h⟩:=h;subst e;cases r;exact assignInOrder_nil ⟨σ,H,I,h⟩
theorem a9Y{e:Expr}{es:LSE}{t:TG}{u:TGs}(h1:PG X e t)(h2:PGs X es u)
  (hs:(assignEach (e::es) X.env).map (·.2)=assign e X.env::(assignEach es X.env).map (·.2):=by rfl):PGs X (e::es) (b4O t u):=by
 intro pins s σ H vs us Q I r h;obtain⟨v,vr,e1,h⟩:=h;subst e1;cases r with
 | cons r rr =>
   rw[hs];refine assignInOrder_cons (thn (h1 pins s σ H _ _ _ I r h) fun _ s1 ⟨σ1,H1,I1,q1⟩=>?_);exact h2 pins s1 σ1 H1 _ _ Q I1 rr q1
noncomputable def gTup(K:PySem.W.Frag)(n:Nat)(t:TGs):TG:=fun v σ H Q=>∃a xs,v=.ref a/\SqT K H a xs/\xs.length=n/\t xs σ H Q
theorem b3a{es:LSE}{k:Nat}{t:TGs}{n:Nat}(hc:X.calm=true)(h:PGs X es t)
  (hn:(assignEach es X.env).length=n:=by rfl) (hst:(assignEach es X.env).findIdx? (·.1)=none:=by rfl):PG X (.Tuple es k pos) (gTup X.K n t):=by
 intro pins s σ H v u Q I r hw;obtain⟨a,xs,e1,hq,hl,hw⟩:=hw;subst e1;cases r;obtain⟨its,rv,ht,hz⟩:=I.tuple hq;refine assign_Tuple_tuple (I.ok.hd hc) ht (by simp[hn,<- hl,rv.length]) hst fun h' hx=>?_;have I1:Inv X pins σ H { s with heap:=h' }:=I.kept (t':=s.toks) fun b o e=>hx b o (b5y (b5d e)) e;exact h pins _ σ H xs _ Q I1 (by simpa using rv) hw
noncomputable def gSub(to ti:TE)(t:TSet):TG:=fun v σ H Q=>to σ H fun o H1=>ti σ H1 fun i H2=>t o i v H2 fun H3=>Q σ H3
theorem b3b{o i:Expr}{to ti:TE}{t:TSet}(ho:PE X o to)(hi:PE X i ti)(hs:PSet X t)
  (ha:∀v,assign (.Subscript o i pos) X.env v=(do
   let ov <- holding [v] (eval o X.env)
   let iv <- holding [v,ov] (eval i X.env)
   standAt pos
   holding [v,ov,iv] (setItem ov iv v)
   release [v,ov,iv] []):=by intro _;rfl):PG X (.Subscript o i pos) (gSub to ti t):=by
 intro pins s σ H v u Q I r h;rw[ha];refine b4V (b6t (thn (ho pins s σ H _ I h) fun ov s1 ⟨x,H1,I1,r1,q1⟩=>?_));refine b4V (b6t (thn (hi pins s1 σ H1 _ I1 q1) fun iv s2 ⟨y,H2,I2,r2,q2⟩=>?_));refine b4V (b6j (b4V (b6t (thn (hs pins s2 σ H2 x y v ov iv u _ I2 r1 r2 r q2) fun _ s3 ⟨H3,I3,q3⟩=>?_))));exact wpAny_release ⟨σ,H3,I3,q3⟩
noncomputable def tAsg(te:TE)(g:TG):TS:=fun D σ H=>te σ H fun x H1=>g x σ H1 D.nx
theorem b2Z{tg e:Expr}{te:TE}{g:TG}(he:PE X e te)(hg:PG X tg g)(hs:swapsWithSole [tg] e pos.line X.env=pure false:=by rfl)(hw:swappedStores [tg] e X.env=pure none:=by rfl)
  (h1:(assignEach [tg] X.env).map (·.2)=[assign tg X.env]:=by rfl):PS X (.Assign [tg] e pos) (tAsg te g):=by
 intro pins s σ H D I h;refine wpAny_Assign_stores (thn (he pins s σ H _ I h) fun v s1 ⟨x,H1,I1,r1,q1⟩=>?_) hs hw;rw[h1];exact thn (hg pins s1 σ H1 x v _ I1 r1 q1) fun _ s2 q=>q
theorem a8r{i:Nat}{x:Str}{e:Expr}{te:TE}{pos':Pos}(hN:X.N.Nodup)(hi:X.N[i]?=some x)(hx:Loc X.env.scope x)(he:PE X e te)(hs:swapsWith e (some (.Name x pos')) pos.line X.env=pure false:=by rfl)(hf:QXX X x:=by first|exact .inl rfl|exact .inr rfl|assumption) :
  PS X (.Assign [.Name x pos'] e pos) (tAsg te (a6L i)):=by
 intro pins s σ H D I h;refine wpAny_Assign_Name (thn (he pins s σ H _ I h) fun v s1 ⟨y,H1,I1,r1,q1⟩=>?_) hs;exact a2p I1 hN hi hx r1 (fun s2 I2=>⟨_,H1,I2,q1⟩) hf
end
section
variable{X:Cx}{pos:Pos}
end
structure It where
 go:Nat->Hp->Prop
 yld:Nat->Hp->V->Hp->Prop
 stop:Nat->Hp->Prop
noncomputable def FpOk(X:Cx)(pins:PNS)(H:Hp)(b:Addr):Prop :=
 H b=none/\b≠X.env.locals/\b∉X.fs/\(b∈X.ex\/X.s₀.heap.objs.size<=b)/\(∀x c,X.env.cells.lookup x=some c->c≠b)/\∀p∈X.pn++pins,p.1≠b
theorem Inv.fpOk{X:Cx}{pins:PNS}{σ:St}{H H':Hp}{s:b4U}{b:Addr}(I:Inv X pins σ H s)(hb:s.heap.objs.size<=b)(hn:H' b=none):FpOk X pins H' b:=by
 refine⟨hn,b6E (b4W I.lt hb),I.nofs hb,.inr (b5l I.sz hb),fun x c e z=>?_,fun p hp z=>?_⟩
 ·obtain⟨v,q⟩:=I.cell x c e;exact absurd (b4W q.lt (by rw[z];exact hb)) (b6c _)
 ·exact absurd (b4W (b5d (I.pin p hp).1) (by rw[z];exact hb)) (b6c _)
structure Turn(P:b5i)(w:b5B)(K:PySem.W.Frag)(tg:Expr)(J:It)(fp:List Addr)(it:Addr)(tn:Nat->Heap->Prop):Prop where
 mem:it∈fp
 obj:∀i h,tn i h->∀b∈fp,∃o,h.get? b=some o/\∀v,o.data≠.cell v
 keep:∀i h h',tn i h->(∀b∈fp,∀o,h.get? b=some o->h'.get? b=some o)->tn i h'
 item:∀(X:Cx),X.prog=P->X.w=w->X.K=K->X.calm=true->∀(i:Nat) (pins:PNS) (s:b4U) (σ:St) (H:Hp) (E:VPR),Inv X pins σ H s->(∀b∈fp,FpOk X pins H b)->tn i s.heap->J.go i H ->
  wpAny (model P w) X.A (pyNext (.ref it)) (fun r s1=>∃u,r=some u /\
   wpAny (model P w) X.A (letOwnedTupleGo tg (.ref it) u) (fun _ s2=>∃x H',Inv X pins σ H' s2/\RelV x u/\J.yld i H x H'/\tn (i+1) s2.heap/\∀b∈fp,H' b=none) E s1) E s
 done:∀(X:Cx),X.prog=P->X.w=w->X.K=K->X.calm=true->∀(i:Nat) (pins:PNS) (s:b4U) (σ:St) (H:Hp) (E:VPR),Inv X pins σ H s->(∀b∈fp,FpOk X pins H b)->tn i s.heap->J.stop i H ->
  wpAny (model P w) X.A (pyNext (.ref it)) (fun r s1=>r=none/\Inv X pins σ H s1) E s
 self:∀(A:b5s) (i:Nat) (s:b4U) (Q:VPR) (E:VPR),tn i s.heap->Q (.ref it) s->wpAny (model P w) A (pyIter (.ref it)) Q E s
noncomputable abbrev TI:=St->Hp->(It->Hp->Prop)->Prop
noncomputable def PIE(X:Cx)(pins:PNS)(σ:St)(tg:Expr)(R:It->Hp->Prop)(itv:b5c)(s2:b4U):Prop :=
 ∃(it:Addr) (fp:List Addr) (tn:Nat->Heap->Prop) (J:It) (H':Hp),itv=.ref it/\Inv X pins σ H' s2/\Turn X.prog X.w X.K tg J fp it tn/\tn 0 s2.heap/\(∀b∈fp,FpOk X pins H' b)/\R J H'
noncomputable def PI(X:Cx)(tg iter:Expr)(wi:TI):Prop :=
 ∀ pins s σ H (R:It->Hp->Prop),Inv X pins σ H s->wi σ H R ->
   wpAny (model X.prog X.w) X.A (eval iter X.env) (fun v s1=>wpAny (model X.prog X.w) X.A (pyIter v) (PIE X pins σ tg R) X.xe s1) X.xe s
theorem b2g{M:b7r}{A:b5s}{E:VPR}{s:b4U}{tg:Expr}{it:Addr}{u:b5c}{o:Obj}{n:String}{vs:Array b5c}{Q:Unit->b4U->Prop}(ho:s.heap.get? it=some o)(hc:o.cls=.type n)(hd:o.data=.fields vs)
  (hn:["enumerate","zip","dict_itemiterator","dict_reverseitemiterator","odict_iterator","itertools.zip_longest","itertools.pairwise"].contains n=false) (hQ:Q () s):wpAny M A (letOwnedTupleGo tg (.ref it) u) Q E s:=by
 unfold letOwnedTupleGo
 cases tg<;>first
  |exact b5k hQ
  | (cases u<;>first
    |exact b5k hQ
    | (refine b4V (wpAny_load ho ?_)
       rw[hc,hd]
       show wpAny M A (if (["enumerate","zip","dict_itemiterator","dict_reverseitemiterator","odict_iterator","itertools.zip_longest","itertools.pairwise"].contains n&&vs[0]?==some (rawInt _))=true then _ else _) Q E s
       rw[if_neg (by intro h;rw[hn,b6l] at h;cases h)]
       exact b5k hQ))
noncomputable def Itl(K:PySem.W.Frag)(a:Addr):It :=
 ⟨fun i H=>∃xs x,SqL K H a xs/\xs[i]?=some x,fun i H x H'=>H'=H/\∀xs,SqL K H a xs->xs[i]?=some x,fun i H=>∃xs,SqL K H a xs/\xs.length<=i⟩
noncomputable def Itt(K:PySem.W.Frag)(a:Addr):It :=
 ⟨fun i H=>∃xs x,SqT K H a xs/\xs[i]?=some x,fun i H x H'=>H'=H/\∀xs,SqT K H a xs->xs[i]?=some x,fun i H=>∃xs,SqT K H a xs/\xs.length<=i⟩
noncomputable def Itr(lo:Int)(n:Nat):It:=⟨fun i _=>i<n,fun i H x H'=>H'=H/\x=.int (lo+i),fun i _=>n<=i⟩
theorem a8c{P:b5i}{w:b5B}{K:PySem.W.Frag}{tg:Expr}(a it:Addr):Turn P w K tg (Itl K a) [it] it (fun i h=>h.IsListIter it a i) where
 mem:=by simp
 obj:=fun i h st b hb=>by
  have e:b=it:=by simpa using hb
  subst e;obtain⟨o,e,c,d⟩:=st;exact⟨o,e,fun v z=>by rw[d] at z;cases z⟩
 keep:=fun i h h' st k=>st.at fun o e=>k it (by simp) o e
 item:=by
  intro X hP hw hK hc i pins s σ H E I hf st hg;subst hP hw hK;obtain⟨xs,x,hq,hx⟩:=hg;obtain⟨its,rv,p,hz⟩:=I.list hq;obtain⟨u,hu,ru⟩:=rv.get hx;obtain⟨f0,f1,f2,f3,f4,f5⟩:=hf it (by simp);refine wpAny_pyNext_list_item st p.isList (x:=u) (by simpa using hu) fun h' st' sb=>?_;have I1:Inv X pins σ H { s with heap:=h' }:=I.turned (t':=s.toks) (fun b o hb e=>(sb.2 b hb).trans e) f0 f1 f3 f4 f5;obtain⟨o,e,c,d⟩:=id st';exact⟨u,rfl,b2g (s:={ s with heap:=h' }) e c d (by decide) ⟨x,H,I1,ru,⟨rfl,fun ys hy=>by rw[I.list_inj hy hq];exact hx⟩,st',fun b hb=>(hf b hb).1⟩⟩
 done:=by
  intro X hP hw hK hc i pins s σ H E I hf st hg;subst hP hw hK;obtain⟨xs,hq,hx⟩:=hg;obtain⟨its,rv,p,hz⟩:=I.list hq;obtain⟨f0,f1,f2,f3,f4,f5⟩:=hf it (by simp);have hl:=rv.length;exact wpAny_pyNext_list_end (I.ok.hd hc) st p.isList (by simp;lia) fun h' eb=>⟨rfl,I.turned (t':=s.toks) (fun b o hb e=>eb b o hb e) f0 f1 f3 f4 f5⟩
 self:=fun _ _ _ _ _ st h=>wpAny_pyIter_listiter st h
theorem a7w{P:b5i}{w:b5B}{K:PySem.W.Frag}{tg:Expr}(a it:Addr):Turn P w K tg (Itt K a) [it] it (fun i h=>h.IsTupleIter it a i) where
 mem:=by simp
 obj:=fun i h st b hb=>by
  have e:b=it:=by simpa using hb
  subst e;obtain⟨o,e,c,d⟩:=st;exact⟨o,e,fun v z=>by rw[d] at z;cases z⟩
 keep:=fun i h h' st k=>st.at fun o e=>k it (by simp) o e
 item:=by
  intro X hP hw hK hc i pins s σ H E I hf st hg;subst hP hw hK;obtain⟨xs,x,hq,hx⟩:=hg;obtain⟨its,rv,p,hz⟩:=I.tuple hq;obtain⟨u,hu,ru⟩:=rv.get hx;obtain⟨f0,f1,f2,f3,f4,f5⟩:=hf it (by simp);refine wpAny_pyNext_tuple_item st (show s.heap.IsTuple a its.toArray from p) (x:=u) (by simpa using hu) fun h' st' sb=>?_;have I1:Inv X pins σ H { s with heap:=h' }:=I.turned (t':=s.toks) (fun b o hb e=>(sb.2 b hb).trans e) f0 f1 f3 f4 f5;obtain⟨o,e,c,d⟩:=id st';exact⟨u,rfl,b2g (s:={ s with heap:=h' }) e c d (by decide) ⟨x,H,I1,ru,⟨rfl,fun ys hy=>by rw[I.tuple_inj hy hq];exact hx⟩,st',fun b hb=>(hf b hb).1⟩⟩
 done:=by
  intro X hP hw hK hc i pins s σ H E I hf st hg;subst hP hw hK;obtain⟨xs,hq,hx⟩:=hg;obtain⟨its,rv,p,hz⟩:=I.tuple hq;obtain⟨f0,f1,f2,f3,f4,f5⟩:=hf it (by simp);have hl:=rv.length;exact wpAny_pyNext_tuple_end (I.ok.hd hc) st (show s.heap.IsTuple a its.toArray from p) (by simp;lia) fun h' eb=>⟨rfl,I.turned (t':=s.toks) (fun b o hb e=>eb b o hb e) f0 f1 f3 f4 f5⟩
 self:=fun _ _ _ _ _ st h=>wpAny_pyIter_tupleiter st h
theorem a7x{P:b5i}{w:b5B}{K:PySem.W.Frag}{tg:Expr}(it:Addr)(lo:Int)(n:Nat):Turn P w K tg (Itr lo n) [it] it (fun i h=>IsRangeIter h it (lo+(i:Nat)*1) ((n:Int)-(i:Nat)) 1) where
 mem:=by simp
 obj:=fun i h st b hb=>by
  have e:b=it:=by simpa using hb
  subst e
  exact⟨_,st,fun v z=>by
   have z':Data.fields _=Data.cell v:=z
   cases z'⟩
 keep:=fun i h h' st k=>k it (by simp) _ st
 item:=by
  intro X hP hw hK hc i pins s σ H E I hf st hg;subst hP hw hK;obtain⟨f0,f1,f2,f3,f4,f5⟩:=hf it (by simp);have W:=Walks.range (prog:=X.prog) (w:=X.w) (I.ok.hd hc) it lo 1 n;refine W.item i s _ _ hg st fun v h' tk hv st' kk=>?_;obtain⟨t,rfl⟩:=hv;have I1:Inv X pins σ H { s with heap:=h',toks:=tk }:=I.turned (fun b o hb e=>kk b o (by simpa using hb) e) f0 f1 f3 f4 f5;refine⟨_,rfl,b2g (s:={ s with heap:=h',toks:=tk }) (n:="range_iterator") st' rfl rfl (by decide) ⟨.int (lo+i),H,I1,⟨t,?_⟩,⟨rfl,rfl⟩,st',fun b hb=>(hf b hb).1⟩⟩;rw[Int.mul_one]
 done:=by
  intro X hP hw hK hc i pins s σ H E I hf st hg;subst hP hw hK;obtain⟨f0,f1,f2,f3,f4,f5⟩:=hf it (by simp);exact wpAny_pyNext_range_end (I.ok.hd hc) st (by have:n<=i:=hg;lia) fun h' eb=>⟨rfl,I.turned (t':=s.toks) (fun b o hb e=>eb b o hb e) f0 f1 f3 f4 f5⟩
 self:=fun _ _ _ _ _ st h=>wpAny_pyIter_rangeiter st h
section
variable{X:Cx}{tg:Expr}
theorem a6X{pins:PNS}{σ:St}{H:Hp}{s:b4U}{R:It->Hp->Prop}{E:VPR}{lo hi:Int}{t u v:Tok}{tk:Nat}(I:Inv X pins σ H s)(h1:-(2^62)<=lo)(h2:lo<2^62)(h3:-(2^62)<=hi)(h4:hi<2^62)
  (q:R (Itr lo (hi-lo).toNat) H):wpAny (model X.prog X.w) X.A (pyIter (.ref s.heap.objs.size)) (PIE X pins σ tg R) E { s with heap:=s.heap.push { cls:=.type "range",data:=.fields #[.int lo t,.int hi u,.int 1 v] },toks:=tk }:=by
 refine wpAny_pyIter_range (IsRange.new ..) (small_one h1 h2 h3 h4) ?_;have I1:Inv X pins σ H { s with heap:=s.heap.push { cls:=.type "range",data:=.fields #[.int lo t,.int hi u,.int 1 v] },toks:=tk }:=I.kept fun b o e=>b5f _ e
 refine⟨(s.heap.push { cls:=.type "range",data:=.fields #[.int lo t,.int hi u,.int 1 v] }).objs.size,[(s.heap.push { cls:=.type "range",data:=.fields #[.int lo t,.int hi u,.int 1 v] }).objs.size],_,_,H,rfl,
  I1.kept (t':=tk) fun b o e=>b5f _ e,a7x _ lo (hi-lo).toNat,?_,fun b hb=>?_,q⟩
 ·have e1:lo+((0:Nat):Int)*1=lo:=by simp
  have e2:(((hi-lo).toNat:Nat):Int)-((0:Nat):Int)=Builtin.Range.rangeSize lo hi 1:=by rw[rangeSize_one];split<;>lia
  show IsRangeIter _ _ (lo+((0:Nat):Int)*1) ((((hi-lo).toNat:Nat):Int)-((0:Nat):Int)) 1;rw[e1,e2];exact b5C _ rfl
 ·have e:b=(s.heap.push { cls:=.type "range",data:=.fields #[.int lo t,.int hi u,.int 1 v] }).objs.size:=by simpa using hb
  subst e;exact I1.fpOk (b5h _) (I1.hok.fresh (b5h _))
noncomputable def b4L(ta:TA):TI:=fun σ H R=>ta σ H fun vs H1=>∃j:Int,vs=[.int j]/\-(2^62)<=j/\j<2^62/\R (Itr 0 j.toNat) H1
noncomputable def b4K(ta:TA):TI:=fun σ H R=>ta σ H fun vs H1=>∃i j:Int,vs=[.int i,.int j]/\(-(2^62)<=i/\i<2^62/\-(2^62)<=j/\j<2^62)/\R (Itr i (j-i).toNat) H1
theorem a8v{a:Expr}{ta:TA}{p pos:Pos}(hg:Gl X "range")(hm:X.mg "range"=none)(ha:PA X [a] ta)(hs:starEach [a] X.env=[(false,eval a X.env)]:=by rfl):PI X tg (.Call (.Name "range" p) [a] [] pos) (b4L ta):=by
 intro pins s σ H R I h;refine Call_ (a2l I hg hm boot_range (b6P (thn (ha pos pins s σ H _ I h) fun us s1 ⟨vs,H1,I1,r1,q1⟩=>?_) hs rfl));obtain⟨j,e,q1,q2,q⟩:=q1;subst e;cases r1 with
 | cons r rr =>
   cases rr;obtain⟨t,rfl⟩:=r;exact call_range_1 (a6X I1 (by lia) (by lia) q1 q2 (by simpa using q))
theorem a8u{a b:Expr}{ta:TA}{p pos:Pos}(hg:Gl X "range")(hm:X.mg "range"=none)(ha:PA X [a,b] ta)(hs:starEach [a,b] X.env=[(false,eval a X.env),(false,eval b X.env)]:=by rfl)(hs2:starEach [b] X.env=[(false,eval b X.env)]:=by rfl) :
  PI X tg (.Call (.Name "range" p) [a,b] [] pos) (b4K ta):=by
 intro pins s σ H R I h;refine Call_ (a2l I hg hm boot_range (b6P (thn (ha pos pins s σ H _ I h) fun us s1 ⟨vs,H1,I1,r1,q1⟩=>?_) (by rw[hs,hs2]) (by rw[hs2];rfl)));obtain⟨i,j,e,⟨q1,q2,q3,q4⟩,q⟩:=q1;subst e;cases r1 with
 | cons r rr =>
   cases rr with
   | cons r' rr =>
     cases rr;obtain⟨t,rfl⟩:=r;obtain⟨t',rfl⟩:=r';exact call_range_2 (a6X I1 q1 q2 q3 q4 q)
noncomputable def tFor(wi:TI)(g:TG)(tb:TS):TS:=fun D σ H=>wi σ H fun J H1=>∃W:Nat->Nat->St->Hp->Prop,(∃m,W 0 m σ H1)/\∀i m σ H,W i m σ H ->
 (J.stop i H/\D.nx σ H)\/(J.go i H/\∃N:St->Hp->Prop,(∀σ' H',N σ' H'->∃m',m'<m/\W (i+1) m' σ' H')/\∀x H',J.yld i H x H'->g x σ H' fun σ2 H2=>tb { D with nx:=N,ct:=N,bk:=D.nx } σ2 H2)
noncomputable def a2k(fp:List Addr)(h:Heap):PNS:=fp.filterMap fun b=>(h.get? b).map fun o=>(b,o)
theorem a0H{fp:List Addr}{h:Heap}{b:Addr}{o:Obj}(hb:b∈fp)(e:h.get? b=some o):(b,o)∈a2k fp h:=List.mem_filterMap.mpr ⟨b,hb,by rw[e];rfl⟩
theorem a8E{fp:List Addr}{h:Heap}{p:Addr×Obj}(hp:p∈a2k fp h):p.1∈fp/\h.get? p.1=some p.2:=by
 obtain⟨b,hb,e⟩:=List.mem_filterMap.mp hp;cases q:h.get? b with
 |none=>rw[q] at e;cases e
 | some o =>
   rw[q] at e;have e':(b,o)=p:=b5p e;subst e';exact⟨hb,q⟩
theorem Inv.pinned{pins:PNS}{σ:St}{H:Hp}{s:b4U}{fp:List Addr}(I:Inv X pins σ H s)(hf:∀b∈fp,FpOk X pins H b)(ho:∀b∈fp,∃o,s.heap.get? b=some o/\∀v,o.data≠.cell v):Inv X (pins++a2k fp s.heap) σ H s :=
 I.pins_of fun p hp=>(b5J.mp hp).elim (fun z=>I.pin p (b4Z _ z)) fun z=>by
  obtain⟨hb,e⟩:=a8E z;obtain⟨f0,f1,f2,_⟩:=hf p.1 hb;obtain⟨o,e',d⟩:=ho p.1 hb;rw[e] at e';cases e';exact⟨e,f0,f1,f2,d⟩
theorem Inv.unpinned{pins pl:PNS}{σ:St}{H:Hp}{s:b4U}(I:Inv X (pins++pl) σ H s):Inv X pins σ H s:=I.pins_of fun p hp=>I.pin p (b4Z _ (b5v _ hp))
theorem b2Y{iter:Expr}{body:List Stmt}{wi:TI}{g:TG}{tb:TS}{pos:Pos}(hp:PassesOwn (model X.prog X.w) X.A X.env X.xe)(hc:X.calm=true)(hi:PI X tg iter wi)(hg:PG X tg g)(hb:PSs X body tb)
  (hs:∀x,foldedSetIterable iter X.env x=pure x:=by intro _;rfl):PS X (.For tg iter body [] pos) (tFor wi g tb):=by
 intro pins s σ H D I h;refine wpAny_For (thn (hi pins s σ H _ I h) fun v s1 h1=>thn h1 fun itv s2 h2=>?_) hs;obtain⟨it,fp,tn,J,H2,e,I2,T,st2,f2,W,⟨m0,w0⟩,turn⟩:=h2;subst e
 -- what stays true of the iterator's objects through the loop
 have stat:∀{H':Hp},(∀b∈fp,H' b=none)->∀b∈fp,FpOk X pins H' b:=fun hn b hb=>⟨hn b hb,(f2 b hb).2⟩;refine codeAny_forLoop_any (fun n s'=>∃i σ' H',Inv X pins σ' H' s'/\tn i s'.heap/\(∀b∈fp,H' b=none)/\W i n σ' H') ?_ m0 ⟨0,σ,H2,I2,st2,fun b hb=>(f2 b hb).1,w0⟩;rintro n s3 ⟨i,σ3,H3,I3,st3,fr3,w3⟩;rcases turn i n σ3 H3 w3 with ⟨stop,qn⟩|⟨go,N,hN,step⟩
 ·refine b7j hp (thn (T.done X rfl rfl rfl hc i pins s3 σ3 H3 X.xe I3 (stat fr3) st3 stop) fun r s4 ⟨hr,I4⟩=>?_);subst hr;exact b6e ⟨σ3,H3,I4,qn⟩
 ·refine b7j hp (thn (T.item X rfl rfl rfl hc i pins s3 σ3 H3 X.xe I3 (stat fr3) st3 go) fun r s4 ⟨u,hr,h4⟩=>?_);subst hr;refine b7j hp (thn h4 fun _ s5 ⟨x,H5,I5,r5,y5,st5,fr5⟩=>?_);have I5':=I5.pinned (stat fr5) (T.obj _ _ st5);refine b7j hp (thn (hg _ s5 σ3 H5 x u _ I5' r5 (step x H5 y5)) fun _ s6 ⟨σ6,H6,I6,q6⟩=>?_);refine b7j hp (thn (hb _ s6 σ6 H6 _ I6 q6) fun f s7 q7=>?_)
  have again:∀{σ7:St} {H7:Hp},Inv X (pins++a2k fp s5.heap) σ7 H7 s7->N σ7 H7->∃m,m<n/\∃i σ' H',Inv X pins σ' H' s7/\tn i s7.heap/\(∀b∈fp,H' b=none)/\W i m σ' H':=fun {σ7 H7} I7 n7=>by
   obtain⟨m',hm,w7⟩:=hN σ7 H7 n7;refine⟨m',hm,i+1,σ7,H7,I7.unpinned,T.keep _ _ _ st5 fun b hb o e=>(I7.pin (b,o) (b4Z _ (b4Z _ (a0H hb e)))).1,fun b hb=>?_,w7⟩;obtain⟨o,e,d⟩:=T.obj _ _ st5 b hb;exact(I7.pin (b,o) (b4Z _ (b4Z _ (a0H hb e)))).2.1
  cases f with
  |next=>obtain⟨σ7,H7,I7,n7⟩:=q7;exact again I7 n7
  |cont=>obtain⟨σ7,H7,I7,n7⟩:=q7;exact again I7 n7
  |brk=>obtain⟨σ7,H7,I7,q7⟩:=q7;exact⟨σ7,H7,I7.unpinned,q7⟩
  |ret v=>obtain⟨x7,σ7,H7,I7,r7,q7⟩:=q7;exact⟨x7,σ7,H7,I7.unpinned,r7,q7⟩
end
noncomputable abbrev R2:=V->V->Hp->VK->Prop
noncomputable def OpR(X:Cx)(f:b5c->b5c->Sem b5c)(r:R2):Prop :=
 ∀ pins s σ H (x y:V) (v u:b5c) (Q:VK),Inv X pins σ H s->RelV x v->RelV y u->r x y H Q ->
   wpAny (model X.prog X.w) X.A (f v u) (EP X pins σ Q) X.xe s
noncomputable def UnR(X:Cx)(f:b5c->Sem b5c)(r:V->Hp->VK->Prop):Prop :=
 ∀ pins s σ H (x:V) (v:b5c) (Q:VK),Inv X pins σ H s->RelV x v->r x H Q ->
   wpAny (model X.prog X.w) X.A (f v) (EP X pins σ Q) X.xe s
noncomputable def a5f(X:Cx)(f:b5c)(r:List V->Hp->VK->Prop):Prop :=
 ∀ pins s σ H (xs:List V) (us:LSV) (Q:VK),Inv X pins σ H s->Vals xs us->r xs H Q ->
   wpAny (model X.prog X.w) X.A (call f us) (EP X pins σ Q) X.xe s
noncomputable def TruR(X:Cx)(r:V->Hp->(Bool->Hp->Prop)->Prop):Prop :=
 ∀ pins s σ H (x:V) (v:b5c) (Q:Bool->Hp->Prop),Inv X pins σ H s->RelV x v->r x H Q ->
   wpAny (model X.prog X.w) X.A (truthy v) (TP X pins σ Q) X.xe s
noncomputable def tOp(r:R2)(ta tb:TE):TE:=fun σ H Q=>ta σ H fun x H1=>tb σ H1 fun y H2=>r x y H2 Q
noncomputable def tUn(r:V->Hp->VK->Prop)(ta:TE):TE:=fun σ H Q=>ta σ H fun x H1=>r x H1 Q
noncomputable def rI(C:Int->Int->Prop)(g:Int->Int->V):R2:=fun x y H Q=>∃i j,x=.int i/\y=.int j/\C i j/\Q (g i j) H
noncomputable def rI0(g:Int->Int->V):R2:=fun x y H Q=>∃i j,x=.int i/\y=.int j/\Q (g i j) H
noncomputable def rU(g:Int->V):V->Hp->VK->Prop:=fun x H Q=>∃i,x=.int i/\Q (g i) H
section
variable{X:Cx}{a b c:Expr}{ta tb tc:TE}{pos:Pos}
theorem binT(ha:PE X a ta)(hb:PE X b tb){pins:PNS}{s:b4U}{σ:St}{H:Hp}{R:V->V->Hp->Prop}(I:Inv X pins σ H s)
  (h:ta σ H fun x H1=>tb σ H1 fun y H2=>R x y H2) {Q:VPR} {f:b5c->b5c->Sem b5c}
  (hf:∀v u s2 x y H2,Inv X pins σ H2 s2->RelV x v->RelV y u->R x y H2->wpAny (model X.prog X.w) X.A (f v u) Q X.xe s2) :
  wpAny (model X.prog X.w) X.A (eval a X.env) (fun v s₁=>wpAny (model X.prog X.w) X.A (eval b X.env) (fun u s₂=>wpAny (model X.prog X.w) X.A (f v u) Q X.xe s₂) X.xe s₁) X.xe s:=by
 refine thn (ha pins s σ H _ I h) fun v s1 ⟨x,H1,I1,r1,q1⟩=>?_;refine thn (hb pins s1 σ H1 _ I1 q1) fun u s2 ⟨y,H2,I2,r2,q2⟩=>?_;exact hf v u s2 x y H2 I2 r1 r2 q2
theorem b3e{op:Operator}{r:R2}(ho:OpR X (binaryOp op) r)(ha:PE X a ta)(hb:PE X b tb):PE X (.BinOp a op b pos) (tOp r ta tb):=by
 intro pins s σ H Q I h;exact wpAny_BinOp (binT ha hb I h fun v u s2 x y H2 I2 rx ry q=>ho pins s2 σ H2 x y v u Q I2 rx ry q)
theorem b4w{op:UnaryOp}{r:V->Hp->VK->Prop}(ho:UnR X (unaryOp op) r)(ha:PE X a ta):PE X (.UnaryOp op a pos) (tUn r ta):=by
 intro pins s σ H Q I h;exact UnaryOp_ (thn (ha pins s σ H _ I h) fun v s1 ⟨x,H1,I1,r1,q1⟩=>ho pins s1 σ H1 x v Q I1 r1 q1)
theorem opI{f:b5c->b5c->Sem b5c}{C:Int->Int->Prop}{g:Int->Int->Int}
  (rule:∀(i j:Int) (t u:Tok) (s:b4U) (Q:VPR) (E:VPR),C i j->Q (.int (g i j) s.toks) { s with toks:=s.toks+1 }->wpAny (model X.prog X.w) X.A (f (.int i t) (.int j u)) Q E s) :
  OpR X f (rI C fun i j=>.int (g i j)):=by
 intro pins s σ H x y v u Q I rx ry h;obtain⟨i,j,rfl,rfl,hc,q⟩:=h;obtain⟨t,rfl⟩:=rx;obtain⟨t',rfl⟩:=ry;exact rule i j t t' s _ _ hc ⟨.int (g i j),H,I.tok _,⟨_,rfl⟩,q⟩
theorem opI0{f:b5c->b5c->Sem b5c}{g:Int->Int->Int}
  (rule:∀(i j:Int) (t u:Tok) (s:b4U) (Q:VPR) (E:VPR),Q (.int (g i j) s.toks) { s with toks:=s.toks+1 }->wpAny (model X.prog X.w) X.A (f (.int i t) (.int j u)) Q E s) :
  OpR X f (rI0 fun i j=>.int (g i j)):=by
 intro pins s σ H x y v u Q I rx ry h;obtain⟨i,j,rfl,rfl,q⟩:=h;obtain⟨t,rfl⟩:=rx;obtain⟨t',rfl⟩:=ry;exact rule i j t t' s _ _ ⟨.int (g i j),H,I.tok _,⟨_,rfl⟩,q⟩
theorem opB0{f:b5c->b5c->Sem b5c}{g:Int->Int->Bool}
  (rule:∀(i j:Int) (t u:Tok) (s:b4U) (Q:VPR) (E:VPR),Q (.bool (g i j)) s->wpAny (model X.prog X.w) X.A (f (.int i t) (.int j u)) Q E s) :
  OpR X f (rI0 fun i j=>.bl (g i j)):=by
 intro pins s σ H x y v u Q I rx ry h;obtain⟨i,j,rfl,rfl,q⟩:=h;obtain⟨t,rfl⟩:=rx;obtain⟨t',rfl⟩:=ry;exact rule i j t t' s _ _ ⟨.bl (g i j),H,I,rfl,q⟩
noncomputable def CPow(i j:Int):Prop:=0<=j/\j<=1000000/\i.natAbs<2^64
noncomputable def CMul(i j:Int):Prop:=(-(2^64)<i/\i<2^64)\/(-(2^64)<j/\j<2^64)
theorem CMul.ok{i j:Int}(h:CMul i j):IntMulOk i j:=by
 rcases h with ⟨h1,h2⟩|⟨h1,h2⟩
 ·exact .of_left (intBits_le_64 h1 h2)
 ·exact .of_right (intBits_le_64 h1 h2)
theorem b3r:OpR X (binaryOp .Add) (rI0 fun i j=>.int (i+j)):=opI0 fun _ _ _ _ _ _ _ q=>add_int q
theorem b3l:OpR X (binaryOp .Sub) (rI0 fun i j=>.int (i-j)):=opI0 fun _ _ _ _ _ _ _ q=>sub_int q
theorem b3o:OpR X (binaryOp .Mult) (rI CMul fun i j=>.int (i*j)):=opI fun _ _ _ _ _ _ _ hc q=>mul_int q hc.ok
theorem b3p:OpR X (binaryOp .Mod) (rI (fun _ j=>0<j) fun i j=>.int (i%j)):=opI fun i j _ _ _ _ _ hc q=>by
 have h1:(0:Int)<j:=hc;exact mod_int' (by lia) (by rw[Int.fmod_eq_emod_of_nonneg i (by lia)];exact q)
theorem b3n:OpR X (binaryOp .Pow) (rI CPow fun i j=>.int (i^j.toNat)):=opI fun _ _ _ _ _ _ _ hc q=>pow_int_small hc.1 hc.2.1 hc.2.2 q
theorem unI{f:b5c->Sem b5c}{g:Int->Int}
  (rule:∀(i:Int) (t:Tok) (s:b4U) (Q:VPR) (E:VPR),Q (.int (g i) s.toks) { s with toks:=s.toks+1 }->wpAny (model X.prog X.w) X.A (f (.int i t)) Q E s) :
  UnR X f (rU fun i=>.int (g i)):=by
 intro pins s σ H x v Q I rx h;obtain⟨i,rfl,q⟩:=h;obtain⟨t,rfl⟩:=rx;exact rule i t s _ _ ⟨.int (g i),H,I.tok _,⟨_,rfl⟩,q⟩
theorem b2r:UnR X (unaryOp .USub) (rU fun i=>.int (-i)):=unI fun _ _ _ _ _ q=>neg_int q
end
section
variable{X:Cx}{a b c:Expr}{ta tb tc:TE}{pos:Pos}
theorem b3T{pins:PNS}{σ:St}{H:Hp}{s:b4U}{Q:VK}{k k':Bool}(I:Inv X pins σ H s)(q:Q (.bl k) H)(e:k=k'):EP X pins σ Q (.bool k') s:=by
 subst e;exact⟨.bl k,H,I,rfl,q⟩
theorem b4A:OpR X (compareOp .Lt) (rI0 fun i j=>.bl (decide (i<j))):=opB0 fun _ _ _ _ _ _ _ q=>lt_int q
theorem b4B:OpR X (compareOp .LtE) (rI0 fun i j=>.bl (decide (i<=j))):=opB0 fun _ _ _ _ _ _ _ q=>le_int q
theorem b4C:OpR X (compareOp .Gt) (rI0 fun i j=>.bl (decide (j<i))):=opB0 fun _ _ _ _ _ _ _ q=>gt_int q
theorem b4D:OpR X (compareOp .GtE) (rI0 fun i j=>.bl (decide (j<=i))):=opB0 fun _ _ _ _ _ _ _ q=>ge_int q
theorem b3q:OpR X (compareOp .Is) (fun x y H Q=>y=.non/\Q (.bl (decide (x=.non))) H):=by
 intro pins s σ H x y v u Q I rx ry h;obtain⟨rfl,q⟩:=h;cases ry;refine is_none_gen (b3T I q ?_)
 cases x<;>first
  |(cases rx;rfl)
  |(obtain⟨t,rfl⟩:=rx;rfl)
theorem a0E(b:Expr){op:c0H}(h:op≠.In:=by decide)(h2:op≠.NotIn:=by decide):behindInMarks op b=false:=by
 have e1:(op==CmpOp.In)=false:=by cases op<;>first|rfl|exact absurd rfl h
 have e2:(op==CmpOp.NotIn)=false:=by cases op<;>first|rfl|exact absurd rfl h2
 cases b<;>simp[behindInMarks,e1,e2]
theorem b1K{op:c0H}{r:R2}(ho:OpR X (compareOp op) r)(ha:PE X a ta)(hb:PE X b tb)(hm:behindInMarks op b=false):PE X (.Compare a [op] [b] pos) (tOp r ta tb):=by
 intro pins s σ H Q I h;exact wpAny_Compare1 (binT ha hb I h fun v u s2 x y H2 I2 rx ry q=>ho pins s2 σ H2 x y v u Q I2 rx ry q) hm
noncomputable def b2A(t:TE):TT:=fun σ H Q=>t σ H fun x H'=>∃k,x=.bl k/\Q k H'
theorem b1A{op:c0H}{r:R2}(ho:OpR X (compareOp op) r)(ha:PE X a ta)(hb:PE X b tb)(hm:behindInMarks op b=false):PT X (.Compare a [op] [b] pos) (b2A (tOp r ta tb)):=by
 intro pins s σ H Q I h
 refine wpAny_isTrue_Compare1 (thn (ha pins s σ H _ I h) fun v s1 ⟨x,H1,I1,r1,q1⟩=>thn (hb pins s1 σ H1 _ I1 q1) fun u s2 ⟨y,H2,I2,r2,q2⟩ =>
  thn (ho pins s2 σ H2 x y v u _ I2 r1 r2 q2) fun c s3 ⟨z,H3,I3,r3,k,e,q3⟩=>?_) hm
 subst e;cases r3;exact b6a ⟨H3,I3,q3⟩
noncomputable def a8i(r r':R2)(ta tb tc:TE):TE:=fun σ H Q=>ta σ H fun x H1=>tb σ H1 fun y H2=>r x y H2 fun z H3=>∃k,z=.bl k /\
 (if k=true then tc σ H3 fun w' H4=>r' y w' H4 Q else Q (.bl false) H3)
theorem b0a{op op':c0H}{r r':R2}(ho:OpR X (compareOp op) r)(ho':OpR X (compareOp op') r')(ha:PE X a ta)(hb:PE X b tb)(hc:PE X c tc)
  (hm:lastMarks [op,op'] [b,c]=false:=by with_unfolding_all rfl):PE X (.Compare a [op,op'] [b,c] pos) (a8i r r' ta tb tc):=by
 intro pins s σ H Q I h
 refine Compare_chain (thn (ha pins s σ H _ I h) fun v s1 ⟨x,H1,I1,r1,q1⟩=>chain_link (thn (hb pins s1 σ H1 _ I1 q1) fun u s2 ⟨y,H2,I2,r2,q2⟩ =>
  thn (ho pins s2 σ H2 x y v u _ I2 r1 r2 q2) fun d s3 ⟨z,H3,I3,r3,k,e,q3⟩=>?_)) hm
 subst e;cases r3;refine b6a ?_;cases k with
 |false=>exact ite_ff ⟨.bl false,H3,I3,rfl,q3⟩
 |true=>exact ite_tt (chain_last (thn (hc pins s3 σ H3 _ I3 q3) fun w' s4 ⟨z',H4,I4,r4,q4⟩=>ho' pins s4 σ H4 y z' u w' Q I4 r2 r4 q4))
theorem a9V{op op':c0H}{r r':R2}(ho:OpR X (compareOp op) r)(ho':OpR X (compareOp op') r')(ha:PE X a ta)(hb:PE X b tb)(hc:PE X c tc)
  (hm:lastMarks [op,op'] [b,c]=false:=by with_unfolding_all rfl):PT X (.Compare a [op,op'] [b,c] pos) (b2A (a8i r r' ta tb tc)):=by
 intro pins s σ H Q I h
 refine isTrue_chain (thn (ha pins s σ H _ I h) fun v s1 ⟨x,H1,I1,r1,q1⟩=>test_link (thn (hb pins s1 σ H1 _ I1 q1) fun u s2 ⟨y,H2,I2,r2,q2⟩ =>
  thn (ho pins s2 σ H2 x y v u _ I2 r1 r2 q2) fun d s3 ⟨z,H3,I3,r3,k,e,q3⟩=>?_)) hm
 subst e;cases r3;refine b6a ?_;cases k with
 | false =>
   obtain⟨k',e',q'⟩:=q3;cases e';exact ite_ff ⟨H3,I3,q'⟩
 | true =>
   refine ite_tt (test_last (thn (hc pins s3 σ H3 _ I3 q3) fun w' s4 ⟨z',H4,I4,r4,q4⟩=>thn (ho' pins s4 σ H4 y z' u w' _ I4 r2 r4 q4) fun d' s5 ⟨z2,H5,I5,r5,k2,e2,q5⟩=>?_));subst e2;cases r5;exact b6a ⟨H5,I5,q5⟩
noncomputable def TruV(K:PySem.W.Frag)(x:V)(H:Hp)(k:Bool):Prop :=
 match x with
 |.non=>k=false
 |.bl b=>k=b
 |.int i=>k=(i != 0)
 |.str y=>y.length<=sizeLine/\k=((y.length:Int) != 0)
 |.byt y=>y.size<=sizeLine/\k=((y.size:Int) != 0)
 |.ref p=>(∃xs,SqL K H p xs/\k=!xs.isEmpty)\/(∃xs,SqT K H p xs/\k=!xs.isEmpty)\/∃kvs,H p=some (.dK kvs)/\k=!kvs.isEmpty
 |_=>False
theorem a7P{κ:Type}{kvs:List (κ×V)}{vs:List (κ×b5c)}(r:KV kvs vs):(!vs.isEmpty)=!kvs.isEmpty:=by
 cases r<;>rfl
theorem a4p{xs:List V}{its:LSV}(r:Vals xs its):(!its.toArray.isEmpty)=!xs.isEmpty:=by
 cases r<;>simp
theorem a3C:(sizeLine:Nat)<2^63:=by rw[sizeLine_eq];decide
theorem b2u:TruR X (fun x H Q=>∃k,TruV X.K x H k/\Q k H):=by
 intro pins s σ H x v Q I rx h;obtain⟨k,e,q⟩:=h;have hl:=a3C;have hs:sizeLine=16777216:=sizeLine_eq;cases x with
 | non =>
   cases rx;have e':k=false:=e;subst e';exact truthy_none ⟨H,I,q⟩
 | bl b =>
   cases rx;have e':k=b:=e;subst e';exact b6a ⟨H,I,q⟩
 | int i =>
   obtain⟨t,rfl⟩:=rx;have e':k=(i != 0):=e;subst e';exact PySem.P.truthy_int ⟨H,I,q⟩
 | str y =>
   obtain⟨t,rfl⟩:=rx;obtain⟨hy,e'⟩:y.length<=sizeLine/\k=((y.length:Int) != 0):=e;subst e';exact PySem.P.truthy_str (by lia) ⟨H,I.tok _,q⟩
 | byt y =>
   obtain⟨t,rfl⟩:=rx;obtain⟨hy,e'⟩:y.size<=sizeLine/\k=((y.size:Int) != 0):=e;subst e';exact PySem.W.truthy_bytes (by lia) ⟨H,I.tok _,q⟩
 | ref p =>
   cases rx;have e':(∃xs,SqL X.K H p xs/\k=!xs.isEmpty)\/(∃xs,SqT X.K H p xs/\k=!xs.isEmpty)\/∃kvs,H p=some (.dK kvs)/\k=!kvs.isEmpty:=e;rcases e' with ⟨xs,hx,e'⟩|⟨xs,hx,e'⟩|⟨kvs,hx,e'⟩
   ·subst e';obtain⟨its,r,pl,hz⟩:=I.list hx;have hlen:=r.length;exact wpAny_truthy_list pl.isList (by simp only[b5a];lia) ⟨H,I.tok _,by rw[a4p r];exact q⟩
   ·subst e';obtain⟨its,r,pl,hz⟩:=I.tuple hx;have hlen:=r.length;exact truthy_tuple pl (by simp only[b5a];lia) ⟨H,I.tok _,by rw[a4p r];exact q⟩
   ·subst e';obtain⟨hz,hS,vs,r,m⟩:kvs.length<=sizeLine/\(p==sysModules)=false/\∃vs,KV kvs vs/\s.heap.DictOf (a6F X.prog X.w) p vs:=I.hok p _ hx;have hlen:kvs.length=vs.length:=Paired.length r;exact wpAny_truthy_dict hS m (by lia) ⟨H,I.tok _,by rw[a7P r];exact q⟩
 |_=>exact(show False from e).elim
theorem a9U(ha:PE X a ta)(he:∀whole,isTrue a X.env whole=(do let v <- whole;standAt a.pos;holding [v] (truthy v))) :
  PT X a (fun σ H Q=>ta σ H fun x H'=>∃k,TruV X.K x H' k/\Q k H'):=by
 intro pins s σ H Q I h;exact isTrue_plain (thn (ha pins s σ H _ I h) fun v s1 ⟨x,H1,I1,r1,q1⟩=>b2u pins s1 σ H1 x v Q I1 r1 q1) (he _)
theorem a7I:OpR X (binaryOp .Add) (fun x y H Q=>∃i j,x=.str i/\y=.str j/\i.length+j.length<=sizeLine/\Q (.str (i++j)) H):=by
 intro pins s σ H x y v u Q I rx ry h;obtain⟨i,j,rfl,rfl,hz,q⟩:=h;obtain⟨t,rfl⟩:=rx;obtain⟨t',rfl⟩:=ry;exact add_str (fun t' tk=>⟨.str (i++j),H,I.tok _,⟨_,rfl⟩,q⟩) hz
theorem a2Y{x:V}{us:LSV}(r:Vals [x] us):∃u,us=[u]/\RelV x u:=by
 cases r with
 |cons r1 r2=>cases r2;exact⟨_,rfl,r1⟩
theorem b4g{x y:V}{us:LSV}(r:Vals [x,y] us):∃u w',us=[u,w']/\RelV x u/\RelV y w':=by
 cases r with
 | cons r1 r2 =>
   cases r2 with
   |cons r3 r4=>cases r4;exact⟨_,_,rfl,r1,r3⟩
theorem b0z:a5f X (.builtin "abs") (fun xs H Q=>∃i,xs=[.int i]/\Q (.int (if i<0 then -i else i)) H):=by
 intro pins s σ H xs us Q I r h;obtain⟨i,rfl,q⟩:=h;obtain⟨u,rfl,t,rfl⟩:=a2Y r
 exact call_abs_int fun u tk=>⟨.int (if i<0 then -i else i),H,I.tok _,⟨_,rfl⟩,q⟩
theorem a5Z:a5f X (.type "int") (fun xs H Q=>(∃i,xs=[.int i]/\Q (.int i) H)\/∃k,xs=[.bl k]/\Q (.int (if k then 1 else 0)) H):=by
 intro pins s σ H xs us Q I r h;rcases h with ⟨i,rfl,q⟩|⟨k,rfl,q⟩
 ·obtain⟨u,rfl,t,rfl⟩:=a2Y r;exact call_int_int ⟨.int i,H,I,⟨_,rfl⟩,q⟩
 ·obtain⟨u,rfl,r1⟩:=a2Y r;cases r1
  exact call_int_bool ⟨.int (if k then 1 else 0),H,I.tok _,⟨_,rfl⟩,q⟩
end
structure ObjM(h:Heap)(x dx C:Addr)(mA:SOV):Prop where
 obj:h.get? x=some (PySem.W.instObj C dx)
 ns:h.Ns1 dx mA
 ne:dx≠x
theorem a8L{h:Heap}{dx:Addr}{mA:SOV}(n:h.Ns1 dx mA):∃od,h.get? dx=some od/\∀name,PySem.W.lookIn name od=some (mA name):=by
 obtain⟨o,es,ep,ho,hd,hk,_,hm⟩:=n;refine⟨o,ho,fun name=>?_⟩;have e:=hm name;unfold nsFind findBy at e;rw[<- Array.find?_toList] at e;unfold PySem.W.lookIn;rw[hd];dsimp only;split
 ·rename_i y q;rw[q] at e;exact congrArg some e
 ·rename_i q;rw[q] at e
  have a:es.toList.any (·.refKey)=false:=by
   rw[b9B];intro y hy;obtain⟨z,t,hkey⟩:=hk y (Array.mem_toList_iff.mp hy);simp[DictEntry.refKey,hkey]
  have a':¬es.toList.any (·.refKey)=true:=by rw[a];exact b5x
  rw[if_neg a'];exact congrArg some e
theorem ObjM.look{h:Heap}{x dx C:Addr}{mA:SOV}(I:ObjM h x dx C mA):∃od,PySem.W.InstAt h x (PySem.W.instObj C dx) C (some od)/\∀name,PySem.W.lookIn name od=some (mA name) :=
 let ⟨od,ho,hl⟩:=a8L I.ns
 ⟨od,⟨I.obj,rfl,rfl,ho⟩,hl⟩
section
variable{prog:b5i}{w:b5B}{A:b5s}{E:VPR}{s:b4U}{K:PySem.W.Frag}{x dx C f:Addr}{mA:SOV}{name:Str}{v:b5c}
end
section
variable{P:b5i}{w:b5B}{H H':Hp}{h h':Heap}{a C dx:Addr}{fs fs':List (Str×V)}
theorem b2b(hok:HOk P w H h)(e:H a=some (.ins C dx fs)):∃mA,ObjM h a dx C mA/\(∀f,RelO (fs.lookup f) (mA f))/\PySem.Within mA (fs.map (·.1))/\fs.length<=1000/\H dx=some (.own a):=by
 obtain⟨d,z,ne,ob,mA,n,r,q⟩:=(show a1C P w H h a (.ins C dx fs) from hok a _ e);exact⟨mA,⟨ob,n,ne⟩,r,q,z,d⟩
end
structure Cls(K:PySem.W.Frag)(C:Addr):Prop where
 pg:PySem.W.plainGet K C Str.empty=true
 hd:PySem.W.hasDictIn K C=true
 po:PySem.W.plainOver K C=true
 sa:PySem.W.findIn K (.ref C) "__setattr__"=some (some (.builtin "object.__setattr__"))
theorem Cls.get{K:PySem.W.Frag}{C:Addr}(c:Cls K C)(f:Str):PySem.W.plainGet K C f=true:=c.pg
section
variable{X:Cx}{pins:PNS}{σ:St}{H:Hp}{s:b4U}{a C dx:Addr}{fs:List (Str×V)}{f:Str}{v:V}{A:b5s}{E:VPR}
end
section
variable{X:Cx}{o e value:Expr}{f:Str}{pos pos' tpos:Pos}{ta tv:TE}
end
section
variable{X:Cx}{pins:PNS}{σ:St}{H:Hp}{s:b4U}{A:b5s}{E:VPR}{Q:VPR}{c:b5c}{b:Bool}
inductive TyOf (K:PySem.W.Frag) (H:Hp):V->b5c->Prop where
 |non:TyOf K H .non (.type "NoneType")
 |bl (x:Bool):TyOf K H (.bl x) (.type "bool")
 |int (i:Int):TyOf K H (.int i) (.type "int")
 |str (x:Str):TyOf K H (.str x) (.type "str")
 |flt (x:UInt64):TyOf K H (.flt x) (.type "float")
 |lst {a:Addr} {xs:List V} (e:H a=some (.lst xs)):TyOf K H (.ref a) (.type "list")
 |frz {a:Addr} {o:Obj} {xs:List V} (e:H a=some (.frz o (.lst xs))):TyOf K H (.ref a) (.type "list")
 |tup {a:Addr} {xs:List V} (e:H a=some (.tup xs)):TyOf K H (.ref a) (.type "tuple")
 |dK {a:Addr} {kvs:List (Key×V)} (e:H a=some (.dK kvs)):TyOf K H (.ref a) (.type "dict")
 |dT {a:Addr} {kvs:List (List Key×V)} (e:H a=some (.dT kvs)):TyOf K H (.ref a) (.type "dict")
 | ins {a C dx:Addr} {fs:List (Str×V)} (e:H a=some (.ins C dx fs)) (cl:Cls K C) (ha:PySem.W.findIn K (.ref C) "__class__"=some (some (.builtin "object.__class__")))
   (hn:PySem.W.specialIn K (.builtin "object.__class__") "__get__"=some (some (.builtin "getset_descriptor.__get__"))) (htk:PySem.W.takesIn K (.builtin "object.__class__")=some true)
   (hm:PySem.W.mroIn K C (.type "object")=some true):TyOf K H (.ref a) (.ref C)
theorem a1s{x:V}{u t:b5c}(I:Inv X pins σ H s)(rx:RelV x u)(ty:TyOf X.K H x t)(e:PySem.W.kitOne X.K t c=some b)(h:∀tk,Q (.bool b) { s with toks:=tk }) :
  wpAny (model X.prog X.w) A (call (.builtin "isinstance") [u,c]) Q E s:=by
 cases ty with
 |non=>cases (show u=b5R from rx);exact PySem.W.kia_one PySem.W.kitx_none I.kIn b8W e (fun z=>nomatch z) h
 |bl y=>cases (show u=b7q y from rx);exact PySem.W.kia_one PySem.W.kitx_bool I.kIn b8W e (fun z=>nomatch z) h
 |int i=>obtain⟨t,q⟩:=(show ∃t,u=c0E i t from rx);cases q;exact PySem.W.kia_one PySem.W.kitx_int I.kIn b8W e (fun z=>nomatch z) h
 |str y=>obtain⟨t,q⟩:=(show ∃t,u=c0F y t from rx);cases q;exact PySem.W.kia_one PySem.W.kitx_str I.kIn b8W e (fun z=>nomatch z) h
 |flt y=>obtain⟨t,q⟩:=(show ∃t,u=c0M y t from rx);cases q;exact PySem.W.kia_one PySem.W.kitx_float I.kIn b8W e (fun z=>nomatch z) h
 | @lst a xs ea =>
   cases (show u=b5M a from rx);obtain⟨_,_,n,_,h1⟩:=(show a1C X.prog X.w H s.heap a (.lst xs) from I.hok a _ ea);exact PySem.W.kia_one PySem.W.kitx_list I.kIn ⟨_,h1,rfl⟩ e (fun z=>nomatch z) h
 | @frz a ob xs ea =>
   cases (show u=b5M a from rx);obtain⟨_,_,_,n,_,h1⟩:=(show a1C X.prog X.w H s.heap a (.frz ob (.lst xs)) from I.hok a _ ea);exact PySem.W.kia_one PySem.W.kitx_list I.kIn ⟨_,h1,rfl⟩ e (fun z=>nomatch z) h
 | @tup a xs ea =>
   cases (show u=b5M a from rx);obtain⟨_,_,_,p⟩:=(show a1C X.prog X.w H s.heap a (.tup xs) from I.hok a _ ea);obtain⟨o,h1,h2,_⟩:=p;exact PySem.W.kia_one PySem.W.kitx_tuple I.kIn ⟨o,h1,h2⟩ e (fun z=>nomatch z) h
 | @dK a kvs ea =>
   cases (show u=b5M a from rx);obtain⟨_,_,vs,_,p⟩:=(show a1C X.prog X.w H s.heap a (.dK kvs) from I.hok a _ ea);obtain⟨o,es,ep,h1,h2,_⟩:=p;exact PySem.W.kia_one PySem.W.kitx_dict I.kIn ⟨o,h1,h2.1⟩ e (fun z=>nomatch z) h
 | @dT a kvs ea =>
   cases (show u=b5M a from rx);obtain⟨_,_,xs,_,o,es,ep,h1,h2,_⟩:=(show a1C X.prog X.w H s.heap a (.dT kvs) from I.hok a _ ea);exact PySem.W.kia_one PySem.W.kitx_dict I.kIn ⟨o,h1,h2.1⟩ e (fun z=>nomatch z) h
 | @ins a C dx fs ea cl ha hn htk hm =>
   cases (show u=b5M a from rx);obtain⟨mA,O,_⟩:=b2b I.hok ea;obtain⟨od,J,_⟩:=O.look;exact PySem.W.kia_one (PySem.W.kitx_own (cl.get _) cl.hd ha hn htk hm) I.kIn J e (fun z=>nomatch z) h
end
structure Room(k:Nat)(A:b5s):Prop where
 hd:A.handled=none
 dp:A.depth+3*k+5<recursionLimit
 un:A.units+16*k+200<cLine
theorem Room.mono{j k:Nat}{A:b5s}(r:Room k A)(h:j<=k):Room j A:=⟨r.hd,by have:=r.dp;lia,by have:=r.un;lia⟩
theorem Room.deeper{k:Nat}{A:b5s}(r:Room (k+1) A)(env:Env):Room k (A.deeper env) :=
 ⟨r.hd,by have:=r.dp;show A.depth+1+3*k+5<_;lia,by have:=r.un;show A.units+3+16*k+200<_;lia⟩
theorem Room.depth{k:Nat}{A:b5s}(r:Room k A):A.depth<recursionLimit:=by have:=r.dp;lia
theorem Room.units{k:Nat}{A:b5s}(r:Room k A):A.units+64<cLine:=by have:=r.un;lia
noncomputable def tNil:TA:=fun _ H Q=>Q [] H
noncomputable def a5l(ta:TE)(tr:TA):TA:=fun σ H Q=>ta σ H fun x H1=>tr σ H1 fun xs H2=>Q (x::xs) H2
section
variable{X:Cx}{e:Expr}{es:LSE}{te:TE}{t:TA}{pos:Pos}
theorem a5w:PA X [] tNil:=fun _ _ _ _ H Q I h=>b9C ⟨[],H,I,.nil,h⟩
noncomputable abbrev QSS(X:Cx)(e:Expr)(es:LSE):Prop:=starEach (e::es) X.env=(false,eval e X.env)::starEach es X.env
theorem a1r(ha:PE X e te)(hr:PA X es t)(hs:QSS X e es:=by rfl):PA X (e::es) (a5l te t):=by
 intro pos pins s σ H Q I h;rw[hs];show wpAny _ _ (spliced ((false,eval e X.env)::backTo pos (starEach es X.env))) _ _ s;refine b7Z (thn (ha pins s σ H _ I h) fun u s1 ⟨x,H1,I1,r1,q1⟩=>?_);exact thn (hr pos pins s1 σ H1 _ I1 q1) fun us s2 ⟨xs,H2,I2,r2,q2⟩=>⟨x::xs,H2,I2,.cons r1 r2,q2⟩
noncomputable def tTup(t:TA):TE:=fun σ H Q=>t σ H fun xs H1=>xs.length<=sizeLine/\∀p,H1 p=none->Q (.ref p) (upd H1 p (.tup xs))
noncomputable def tLst(t:TA):TE:=fun σ H Q=>t σ H fun xs H1=>xs.length<=sizeLine/\∀p,H1 p=none->Q (.ref p) (upd H1 p (.lst xs))
theorem b3c{x1}(h:PA X es t):PE X (.Tuple es x1 pos) (tTup t):=by
 intro pins s σ H Q I hq;refine wpAny_Tuple_spliced (thn (h pos pins s σ H _ I hq) fun us s1 ⟨xs,H1,I1,r,z,q⟩=>⟨by rw[<- r.length];exact z,?_⟩);have hf:H1 s1.heap.objs.size=none:=I1.hok.fresh (b5h _);refine⟨.ref s1.heap.objs.size,upd H1 s1.heap.objs.size (.tup xs),I1.laid (t':=s1.toks) (fun b u e=>b5f _ e) (b5h _) ?_,rfl,q _ hf⟩;exact⟨z,us,r,⟨_,b5C _ rfl,rfl,rfl,_,rfl⟩⟩
theorem a8x(h:PA X es t):PE X (.List es pos) (tLst t):=by
 intro pins s σ H Q I hq;refine wpAny_List_spliced (thn (h pos pins s σ H _ I hq) fun us s1 ⟨xs,H1,I1,r,z,q⟩=>⟨by rw[<- r.length];exact z,?_⟩);have hf:H1 s1.heap.objs.size=none:=I1.hok.fresh (b5h _);refine⟨.ref s1.heap.objs.size,upd H1 s1.heap.objs.size (.lst xs),I1.laid (t':=s1.toks) (fun b u e=>b5f _ e) (b5h _) ?_,rfl,q _ hf⟩;exact⟨z,us,0,r,b5C _ rfl⟩
end
noncomputable abbrev Sp:=List V->Hp->VK->XK->Prop
noncomputable abbrev CXT:=List Env->Hp->b4U->XK->VPR
structure Env0(P:b5i)(w:b5B)(K:PySem.W.Frag)(mg:SOV)(base:Heap)(A:b5s)(outer:List Env)(s:b4U)(H:Hp):Prop where
 frames:A.frames=some outer
 mod:Mod K mg base
 bs:∀b o,base.get? b=some o->s.heap.get? b=some o/\H b=none
 bsz:base.objs.size<=s.heap.objs.size
 funs:s.heap.FunFrames base outer
 frf:∀b∈frs outer,H b=none
 hok:HOk P w H s.heap
 bare:b8n s.gens
noncomputable def CE(outer:List Env)(P:b5i)(w:b5B)(H:Hp)(s:b4U)(Q:VK)(u:b5c)(s':b4U):Prop :=
 ∃v H',s'.os=s.os/\b8n s'.gens/\Un (frs outer) [] H H' s.heap s'.heap/\HOk P w H' s'.heap/\RelV v u/\Q v H'
noncomputable def CR(CX:CXT)(outer:List Env)(P:b5i)(w:b5B)(H:Hp)(s:b4U)(Q:VK)(E:XK)(r:b8r)(s':b4U):Prop :=
 match r with
 |.ok (.ret u)=>CE outer P w H s Q u s'
 |.ok _=>False
 |.error e=>CX outer H s E e s'
structure FnOk(P:b5i)(w:b5B)(K:PySem.W.Frag)(mg:SOV)(base:Heap)(CX:CXT)(k:Nat)(f:Addr)(fd:b6g)(ps:LSS)(sp:Sp):Prop where
 len:∀vs H Q E,sp vs H Q E->vs.length=ps.length
 run:∀(A:b5s) (outer:List Env) (s:b4U) (H:Hp) (args:Args) (us:LSV) (vs:List V) (Q:VK) (E:XK),Room k A->Env0 P w K mg base A outer s H->b9h s fd args (ps.zip us)->Vals vs us->sp vs H Q E ->
  codeAny (model P w) A (.call (.ref f) args) (CR CX outer P w H s Q E) s
theorem FnOk.mono{P:b5i}{w:b5B}{K:PySem.W.Frag}{mg:SOV}{base:Heap}{CX:CXT}{j k:Nat}{f:Addr}{fd:b6g}{ps:LSS}{sp:Sp}(F:FnOk P w K mg base CX j f fd ps sp)(h:j<=k) :
  FnOk P w K mg base CX k f fd ps sp:=⟨F.len,fun A outer s H args us vs Q E hr=>F.run A outer s H args us vs Q E (hr.mono h)⟩
section
variable{X:Cx}{pins:PNS}{σ:St}{H:Hp}{s s':b4U}
theorem Inv.env0(I:Inv X pins σ H s):Env0 X.prog X.w X.K X.mg X.base X.A X.stack s H :=
 ⟨I.ok.frames,I.ok.mod,I.bs,b5l I.ok.bsz I.sz,I.stack,I.stkFree,I.hok,I.bare⟩
theorem Inv.after{Q:VK}{u:b5c}(I:Inv X pins σ H s)(h:CE X.stack X.prog X.w H s Q u s'):EP X pins σ Q u s':=by
 obtain⟨v,H',os,bare,un,hok,r,q⟩:=h;obtain⟨hh,g,d,t,os'⟩:=s';obtain rfl:os'=s.os:=os;exact⟨v,H',I.call (h':=hh) (g':=g) (d':=d) (t':=t) (ch:=[]) un hok bare (fun b z=>absurd z (by simp)),r,q⟩
end
noncomputable def b4l(sp:Sp)(dvs:List V)(E:XK)(t:TA):TE:=fun σ H Q=>t σ H fun vs H1=>sp (vs++dvs) H1 Q E
noncomputable def a3Y(K:PySem.W.Frag)(fd:b6g)(ps:LSS)(ds:LSV):Prop :=
 ∀(s:b4U) (us:LSV),K.In s.heap->(us++ds).length=ps.length->b9h s fd ⟨us,[]⟩ (ps.zip (us++ds))
theorem a3Y.all{K:PySem.W.Frag}{fd:b6g}{ps:LSS}(h:∀us:LSV,us.length=ps.length->bindArgs fd ⟨us,[]⟩=pure (ps.zip us)):a3Y K fd ps []:=fun s us _ hl=>by
 rw[b6o] at hl|-
 exact .of_eq (h us hl)
noncomputable def a9B(CX:CXT)(X:Cx)(E:XK):Prop:=∀(pins:PNS) (σ:St) (H:Hp) (s:b4U) (e:b5c) (s':b4U),Inv X pins σ H s->CX X.stack H s E e s'->X.xe e s'
section
variable{X:Cx}{CX:CXT}{k:Nat}{f C:Addr}{fd:b6g}{ps:LSS}{sp:Sp}{dvs:List V}{ds:LSV}{E:XK}{x m:Str}{p pos apos:Pos}{e o:Expr}{es:LSE}{ta:TE}{t:TA}
theorem b2O{pins:PNS}{σ:St}{H:Hp}{s:b4U}{Q:VK}{us:LSV}{vs:List V}(F:FnOk X.prog X.w X.K X.mg X.base CX k f fd ps sp)(hr:Room k X.A)(hb:a3Y X.K fd ps ds)(hd:Vals dvs ds)(hx:a9B CX X E)
  (I:Inv X pins σ H s) (r:Vals vs us) (h:sp (vs++dvs) H Q E):wpAny (model X.prog X.w) X.A (call (.ref f) us) (EP X pins σ Q) X.xe s:=by
 have r2:Vals (vs++dvs) (us++ds):=r.append hd;have hl:(us++ds).length=ps.length:=by rw[<- r2.length];exact F.len _ _ _ _ h
 refine wpAny_call (codeAny_mono (F.run X.A X.stack s H ⟨us,[]⟩ (us++ds) (vs++dvs) Q E hr I.env0 (hb s us I.kIn hl) r2 h) fun r s' hq=>?_);cases r with
 |error e=>exact hx pins σ H s e s' I hq
 | ok fl =>
   cases fl with
   |ret u=>exact I.after hq
   |next=>exact b5A hq
   |brk=>exact b5A hq
   |cont=>exact b5A hq
noncomputable abbrev QPP(X:Cx)(pos:Pos)(es:LSE):Prop:=(backTo pos (starEach es X.env)).any (·.1)=false
theorem b1L(F:FnOk X.prog X.w X.K X.mg X.base CX k f fd ps sp)(hr:Room k X.A)(hg:Gl X x)(hm:X.mg x=some (.ref f))(hk:PySem.W.keepIn X.K (.ref f)=true)(hb:a3Y X.K fd ps ds)(hd:Vals dvs ds)(hx:a9B CX X E)
  (ha:PA X (e::es) t) (hdb:QDD x:=by decide) (he:QSS X e es:=by rfl) (hpl:QPP X pos es:=by rfl) :
  PE X (.Call (.Name x p) (e::es) [] pos) (b4l sp dvs E t):=by
 intro pins s σ H Q I h;refine b6u (a0X I hg hm ?_ hdb);refine PySem.W.callWith_K (h₀:=X.base) I.ok.mod.kin hk (thn (ha pos pins s σ H _ I h) fun us s1 ⟨vs,H1,I1,r,q⟩=>⟨I1.kIn,?_⟩) he hpl;exact b2O F hr hb hd hx I1 r q
end
section
variable{X:Cx}{CX:CXT}{k:Nat}{f C:Addr}{fd:b6g}{ps ks:LSS}{sp:Sp}{E:XK}{x m:Str}{p pos apos kpos:Pos}{e o:Expr}{es:LSE}{kws:List c0x}{te ta:TE}{t tk:TA}{nm:Option Str}
variable{g:LSV->LSV->LSV}{gV:List V->List V->List V}
end
structure FnScope(N P:LSS)(sc:b6Z):Prop where
 kind:sc.kind=.function
 co:sc.isCoroutine=false
 gen:sc.isGenerator=false
 nd:N.Nodup
 pre:N.take P.length=P
 par:∀x∈P,sc.names.lookup x=some .local\/sc.names.lookup x=some .cell
 nofree:∀y∈sc.names,y.2≠.free
theorem a6d{kindOf:Str->Option b6q}{x:Str}:∀{binds:List (Str×b5c)} {m:SOV},(∀v,(x,v)∉binds)->bindL kindOf binds m x=m x
 |[],_,_=>rfl
 | (n,v)::r,m,h=>by
   unfold bindL;rw[a6d fun w hw=>h w (b4X _ hw)];split
   ·have:x≠n:=by rintro rfl;exact h v b5m
    simp[this]
   ·rfl
theorem a6e{kindOf:Str->Option b6q}{x:Str}:∀{binds:List (Str×b5c)} {m:SOV},(∀v,(x,v)∉binds)->bindC kindOf binds m x=m x
 |[],_,_=>rfl
 | (n,v)::r,m,h=>by
   unfold bindC;rw[a6e fun w hw=>h w (b4X _ hw)];split
   ·rfl
   ·have:x≠n:=by rintro rfl;exact h v b5m
    simp[this]
theorem a3W{kindOf:Str->Option b6q}{x:Str}{v:b5c}:∀{P:LSS} {vs:LSV} {i:Nat} {m:SOV},P.Nodup->P[i]?=some x->vs[i]?=some v->kindOf x=some .local ->
  bindL kindOf (P.zip vs) m x=some v
 |[],_,_,_,_,h,_,_=>by simp at h
 |_::_,[],_,_,_,_,h,_=>by simp at h
 | p::P,w::vs,0,m,nd,h1,h2,hk=>by
   simp at h1 h2;subst h1;subst h2;show bindL kindOf ((p,w)::P.zip vs) m p=_;unfold bindL;rw[a6d fun v hv=>(b7K.mp nd).1 (b7k hv).1,if_pos hk];simp
 | p::P,w::vs,i+1,m,nd,h1,h2,hk=>by
   show bindL kindOf ((p,w)::P.zip vs) m x=_;unfold bindL;exact a3W (i:=i) (b7K.mp nd).2 (by simpa using h1) (by simpa using h2) hk
theorem a3X{kindOf:Str->Option b6q}{x:Str}{v:b5c}:∀{P:LSS} {vs:LSV} {i:Nat} {m:SOV},P.Nodup->P[i]?=some x->vs[i]?=some v->kindOf x≠some .local ->
  bindC kindOf (P.zip vs) m x=some v
 |[],_,_,_,_,h,_,_=>by simp at h
 |_::_,[],_,_,_,_,h,_=>by simp at h
 | p::P,w::vs,0,m,nd,h1,h2,hk=>by
   simp at h1 h2;subst h1;subst h2;show bindC kindOf ((p,w)::P.zip vs) m p=_;unfold bindC;rw[a6e fun v hv=>(b7K.mp nd).1 (b7k hv).1,if_neg hk];simp
 | p::P,w::vs,i+1,m,nd,h1,h2,hk=>by
   show bindC kindOf ((p,w)::P.zip vs) m x=_;unfold bindC;exact a3X (i:=i) (b7K.mp nd).2 (by simpa using h1) (by simpa using h2) hk
noncomputable def start(N:LSS)(vs:List V):St:=vs.map some++b5e (N.length-vs.length) none
noncomputable def cxOf(CX:CXT)(P:b5i)(w:b5B)(K:PySem.W.Frag)(mg:SOV)(base:Heap)(N:LSS)(qual:Str)(scope:b6Z)(f:Addr)(cd:b5c)(A:b5s)(outer:List Env)(s:b4U)(H:Hp)(E:XK):Cx where
 prog:=P
 w:=w
 K:=K
 mg:=mg
 base:=base
 A:=A.deeper (envOfC qual scope s.heap.objs.size f cd)
 N:=N
 s₀:=s
 H₀:=H
 env:=envOfC qual scope s.heap.objs.size f cd
 outer:=outer
 stack:=envOfC qual scope s.heap.objs.size f cd::outer
 ex:=[]
 calm:=true
 fn:=fun _=>true
 pn:=[]
 xe:=fun e s'=>wpAny (model P w) (A.deeper (envOfC qual scope s.heap.objs.size f cd)) (leaving (envOfC qual scope s.heap.objs.size f cd) e) (fun _ s''=>CX outer H s E e s'') (fun e' s''=>CX outer H s E e' s'') s'
theorem a3r{sc:b6Z}{n:Nat}{x:Str}(h:sc.names.lookup x=some .cell):∃c,(cellsFrom n sc.names []).lookup x=some c:=by
 have q:=PySem.W.cellsFrom_some sc.names n [] (.inl h);exact Option.isSome_iff_exists.mp q
theorem a5J{CX:CXT}{P:b5i}{w:b5B}{K:PySem.W.Frag}{mg:SOV}{base:Heap}{N ps:LSS}{qual:Str}{scope:b6Z}{f:Addr}{cd:b5c}{A:b5s}{outer:List Env}{s s1:b4U}{H:Hp}{E:XK}{us:LSV}{vs:List V}
  (S:FnScope N ps scope) (hd:A.handled=none) (e0:Env0 P w K mg base A outer s H) (hl:vs.length=ps.length) (r:Vals vs us)
  (x:InCallC s s.heap.objs.size (bindL (envOfC qual scope s.heap.objs.size f cd).kindOf (ps.zip us) fun _=>none) (cellsFrom (s.heap.objs.size+1) scope.names []) (bindC (envOfC qual scope s.heap.objs.size f cd).kindOf (ps.zip us) fun _=>none) s1) :
  Inv (cxOf CX P w K mg base N qual scope f cd A outer s H E) [] (start N vs) H s1:=by
 have hpl:ps.length<=N.length:=by have:=congrArg b6Q S.pre;rw[b7C] at this;lia
 obtain⟨h1,tk,rfl,hk⟩:=x.done;have noA:∀b:Addr,b∉(cxOf CX P w K mg base N qual scope f cd A outer s H E).ex:=fun b z=>absurd (show b∈([]:List Addr) from z) (by simp)
 refine⟨⟨e0.mod,S.kind,rfl,rfl,b5h _,fun y z c h1 h2=>?_,fun y hy=>?_,fun y c _ h=>?_,fun _=>hd,b9b e0.frames,.inr ⟨rfl,rfl⟩,fun b z=>absurd z (noA b),e0.bs,e0.bsz,fun b _ _=>noA b,fun b z=>absurd z (noA b),e0.funs,e0.frf⟩,
  rfl,e0.bare,Un.kept hk,⟨_,x.toInCall.ns,fun i y v h1 h2 h3=>?_⟩,fun y c h=>⟨_,x.cell y c h⟩,e0.hok.fresh (b5h _),fun y c h=>?_,fun p hp=>absurd (show p∈([]:PNS) from hp) (by simp),e0.hok.kept hk,?_⟩
 ·exact b9N x.apart (PySem.mem_of_lookup h1) (PySem.mem_of_lookup h2)
 ·have hy:scope.names.lookup y=some .cell\/scope.names.lookup y=some .free:=hy;rcases hy with hy|hy
  ·exact a3r hy
  ·exact absurd rfl (S.nofree _ (PySem.mem_of_lookup hy))
 ·exact b6s (x.above y c (PySem.mem_of_lookup h))
 ·have hi:i<vs.length:=by
   unfold start at h2;by_cases hi:i<vs.length
   ·exact hi
   ·rw[b6X (by simpa using hi)] at h2;rw[b7l] at h2;split at h2<;>cases h2
  have ha:vs[i]?=some v:=by
   unfold start at h2;rw[b6y (by simpa using hi),b5n] at h2;cases e:vs[i]? with
   |none=>rw[e] at h2;cases h2
   |some a=>rw[e] at h2;cases h2;rfl
  obtain⟨u,hu,rv⟩:=r.get ha
  have hp:ps[i]?=some y:=by
   rw[<- S.pre,b7f (by lia)];exact h1
  have ndP:ps.Nodup:=by rw[<- S.pre];exact S.nd.sublist (b9D _ _)
  refine⟨u,rv,?_⟩;rcases S.par y (b5W hp) with k|k
  ·exact .inl ⟨k,a3W ndP hp hu k⟩
  ·obtain⟨c,e⟩:=a3r (n:=s.heap.objs.size+1) k;refine .inr ⟨.inl k,c,e,?_⟩;have q:=x.cell y c e;rw[a3X ndP hp hu (by show scope.names.lookup y≠_;rw[k];decide)] at q;exact q
 ·exact e0.hok.fresh (b6s (x.above y c (PySem.mem_of_lookup h)))
 ·unfold start;show _=N.length;rw[b5r,b4Y,b8M];lia
theorem b4P{CX:CXT}{P:b5i}{w:b5B}{K:PySem.W.Frag}{mg:SOV}{base:Heap}{k:Nat}{f:Addr}{name qual:Str}{params:c0i}{body:List Stmt}{scope:b6Z}{dV kV doc pm cdv ct oc:b5c}{an od:Option Addr}
  {osl:AOV} {N ps:LSS} {sp:Sp} (lk:K.lookup f=some ⟨oc,od,.func (PySem.W.fnOf name qual params body scope dV kV doc pm an cdv ct),osl⟩) (hcd:PySem.W.codeIn K cdv qual=true) (S:FnScope N ps scope)
  (len:∀vs H Q E,sp vs H Q E->vs.length=ps.length)
  (hbody:∀(A:b5s) (outer:List Env) (s:b4U) (H:Hp) (vs:List V) (Q:VK) (E:XK),Room k (A.deeper (envOfC qual scope s.heap.objs.size f cdv))->sp vs H Q E ->
   ∃t,PSs (cxOf CX P w K mg base N qual scope f cdv A outer s H E) body t/\t { nx:=fun _ H'=>Q .non H',rt:=Q } (start N vs) H) :
  FnOk P w K mg base CX (k+1) f (PySem.W.fnOf name qual params body scope dV kV doc pm an cdv ct) ps sp:=by
 refine⟨len,fun A outer s H args us vs Q E hr e0 hb r hsp=>?_⟩;have hl:=len _ _ _ _ hsp;have KX:K.In s.heap:=e0.mod.kin.keeps fun b o e=>(e0.bs b o e).1;have lim:s.heap.NoLimit:=e0.mod.nolimit.keeps fun b o e=>(e0.bs b o e).1
 have hkind:∀y∈ps.zip us,scope.names.lookup y.1=some .local\/(scope.names.lookup y.1=some .cell/\((cellsFrom (s.heap.objs.size+1) scope.names []).lookup y.1).isSome=true):=fun⟨n,v⟩ hy=>by
  rcases S.par n (b7k hy).1 with q|q
  ·exact .inl q
  ·exact .inr ⟨q,PySem.W.cellsFrom_some _ _ _ (.inl q)⟩
 refine b8N hr.depth (KX _ _ lk) rfl S.co S.gen rfl (PySem.W.codeRec_of KX hcd) (hb _ _ _ _ ?_);refine b6Y S.kind hkind fun env he s1 x=>?_;subst he;refine⟨lim.keeps x.toInCall.keep,codeAny_func ?_⟩;obtain⟨t,ht,hq⟩:=hbody A outer s H vs Q E (hr.deeper _) hsp;have I:Inv (cxOf CX P w K mg base N qual scope f cdv A outer s H E) [] (start N vs) H s1:=a5J S hr.hd e0 hl r x;refine b5I (ht [] s1 (start N vs) H _ I hq) (fun fl s' hs=>?_) fun e s' hs=>hs
 have fin:∀{σ':St} {H':Hp} {v:V} {u:b5c},Inv (cxOf CX P w K mg base N qual scope f cdv A outer s H E) [] σ' H' s'->RelV v u->Q v H'->CE outer P w H s Q u s' :=
  fun {σ' H' v u} J rv q=>⟨v,H',J.os,J.bare,J.base,J.hok,rv,q⟩
 cases fl with
 | ret u =>
   obtain⟨v,σ',H',J,rv,q⟩:=hs;exact fin J rv q
 | next =>
   obtain⟨σ',H',J,q⟩:=hs;exact fin (v:=V.non) (u:=b5R) J rfl q
 | brk =>
   obtain⟨_,_,_,q⟩:=hs;exact b5A q
 | cont =>
   obtain⟨_,_,_,q⟩:=hs;exact b5A q
section
variable{X:Cx}{x:Str}{p pos:Pos}{e:Expr}{es:LSE}{t:TA}{id T:String}{r:List V->Hp->VK->Prop}
noncomputable def tCB(r:List V->Hp->VK->Prop)(t:TA):TE:=fun σ H Q=>t σ H fun vs H1=>r vs H1 Q
theorem b0c(hc:a5f X (.builtin id) r)(hg:Gl X x)(hm:X.mg x=none)(hv:bootBuiltins x=some (.builtin id))(ha:PA X (e::es) t)(hn:x≠"__name__":=by decide)(hdb:QDD x:=by decide)
  (he:QSS X e es:=by rfl) (hpl:QPP X pos es:=by rfl):PE X (.Call (.Name x p) (e::es) [] pos) (tCB r t):=by
 intro pins s σ H Q I h;refine b6u (a2l I hg hm hv ?_ hn hdb);exact b6F (thn (ha pos pins s σ H _ I h) fun us s1 ⟨vs,H1,I1,r1,q1⟩=>hc pins s1 σ H1 vs us Q I1 r1 q1) he hpl
theorem a8y(hc:a5f X (.type T) r)(hg:Gl X x)(hm:X.mg x=none)(hv:bootBuiltins x=some (.type T))(ha:PA X (e::es) t)(hn:x≠"__name__":=by decide)(hdb:QDD x:=by decide)
  (he:QSS X e es:=by rfl) (hpl:QPP X pos es:=by rfl):PE X (.Call (.Name x p) (e::es) [] pos) (tCB r t):=by
 intro pins s σ H Q I h;refine b6u (a2l I hg hm hv ?_ hn hdb);exact b6P (thn (ha pos pins s σ H _ I h) fun us s1 ⟨vs,H1,I1,r1,q1⟩=>hc pins s1 σ H1 vs us Q I1 r1 q1) he hpl
end
end L2
namespace HT
open PySem PyProof.Rows
section
open PySem.SeqAt
open PySem.AutoSeq1 (wpAny_loadPart')
open PySem.MeetsSeq PySem.MeetsSeq2 PySem.MeetsSeq3
end
section
variable{prog:b5i}{w:b5B}{A:b5s}{E:VPR}{s:b4U}
theorem cat_tup{t b:Addr}{vs ws:LSV}{Q:VPR}(ht:IsTup s.heap t vs.toArray)(hb:IsTup s.heap b ws.toArray)(hv:vs≠[])
  (h1:ws=[]->Q (.ref t) s) (h2:ws≠[]->Q (.ref s.heap.objs.size) { s with heap:=s.heap.push { cls:=.type "tuple",data:=.seq (vs++ws).toArray } })
  (hsz:vs.length+ws.length<=sizeLine):wpAny (model prog w) A (binaryOp .Add (.ref t) (.ref b)) Q E s:=by
 obtain⟨⟨cls,dd,data,sl⟩,ho,hc,n,hd⟩:=id ht;obtain⟨⟨cls2,dd2,data2,sl2⟩,ho2,hc2,n2,hd2⟩:=id hb;simp only at hc hd hc2 hd2;subst hc hd hc2 hd2;have e:vs.toArray++ws.toArray=(vs++ws).toArray:=by simp
 by_cases hw:ws=[]
 ·exact b9O ⟨_,ho,rfl⟩ ⟨_,ho2,rfl⟩ b8G b9p PySem.F.slot_tuple_add PySem.F.entry_tuple_add (PySem.F.args_tuple_add_2 _ _)
   (tuple_addW1 t b vs.toArray ws.toArray n n2 dd dd2 sl sl2 (by simpa using hv) (by simp[hw])) ⟨ho,ho2,h1 hw⟩
 ·refine b9O ⟨_,ho,rfl⟩ ⟨_,ho2,rfl⟩ b8G b9p PySem.F.slot_tuple_add PySem.F.entry_tuple_add (PySem.F.args_tuple_add_2 _ _)
   (tuple_addW2 t b vs.toArray ws.toArray n n2 dd dd2 sl sl2 (by simpa using hv) (by simpa using hw) (by rw[b5a,b5a];exact hsz)) ⟨ho,ho2,?_⟩
  rw[e];exact h2 hw
noncomputable def sIx(n d:Nat):Option Int->Nat
 |none=>d
 |some v=>if v<0 then (v+(n:Int)).toNat else min v.toNat n
theorem sIx_none(n d:Nat):sIx n d none=d:=rfl
theorem sIx_nat(n d k:Nat):sIx n d (some (k:Int))=min k n:=by
 show(if (k:Int)<0 then ((k:Int)+(n:Int)).toNat else min (k:Int).toNat n)=min k n
 rw[if_neg (by lia),b8s]
theorem b2N(n d:Nat)(hd:d<=n)(o:Option Int):sIx n d o<=n:=by
 cases o with
 |none=>exact hd
 | some v =>
   show(if v<0 then (v+(n:Int)).toNat else min v.toNat n)<=n
   by_cases hv:v<0
   ·rw[if_pos hv];lia
   ·rw[if_neg hv];exact Nat.min_le_right _ _
theorem a9s(v:Int)(n d:Nat):(if v<0 then max (v+(n:Int)) 0 else min v (n:Int))=((sIx n d (some v):Nat):Int):=by
 show(if v<0 then max (v+(n:Int)) 0 else min v (n:Int))=(((if v<0 then (v+(n:Int)).toNat else min v.toNat n):Nat):Int)
 by_cases hv:v<0
 ·simp only[if_pos hv];lia
 ·simp only[if_neg hv];lia
theorem a8a(lo hi:Option Int)(n:Nat):b7a lo hi 1 (n:Int)=(((sIx n 0 lo:Nat):Int),((sIx n n hi:Nat):Int)):=by
 have h1:¬((1:Int)<0):=by lia
 unfold b7a;simp only[h1,if_false];refine Prod.ext ?_ ?_
 ·cases lo with
  |none=>rfl
  |some v=>exact a9s v n 0
 ·cases hi with
  |none=>rfl
  |some v=>exact a9s v n n
theorem a7F(i j:Nat):b6z (i:Int) (j:Int) 1=j-i:=by
 unfold b6z;have h1:(1:Int)>0:=by lia
 simp only[h1,if_true,Int.ediv_one];split<;>lia
theorem a4k{v:b5c}{o:Option Int}{Q:Option Int->b4U->Prop}(p:b9q v o)(h:Q o s):wpAny (model prog w) A (Builtin.Slice.slicePartIndex v) Q E s:=by
 cases p with
 |none=>exact slicePart_none h
 |int i t=>exact slicePart_int h
theorem a1X{sl:Addr}{vl vu:b5c}{lo hi:Option Int}{n:Nat}{Q:Int×Int×Nat->b4U->Prop}(hs:s.heap.IsSliceOf sl vl vu .none)(pl:b9q vl lo)(pu:b9q vu hi)
  (h:Q (((sIx n 0 lo:Nat):Int),1,sIx n n hi-sIx n 0 lo) s):wpAny (model prog w) A (b7V (.ref sl) (pure (n:Int))) Q E s:=by
 obtain⟨os,hos,hcs,hds⟩:=id hs;unfold b7V Builtin.Slice.sliceFields;refine b4V (b4V (b6H hos hds (x:=vl) rfl (b4V (b6H hos hds (x:=vu) rfl (b4V (b6H hos hds (x:=.none) rfl (b5k ?_)))))));refine b4V (slicePart_none ?_)
 show wpAny _ _ (if ((1:Int)==0)=true then _ else _) _ _ s
 rw[if_neg (by decide)];refine b4V (a4k pl (b4V (a4k pu (b4V (b5k ?_)))))
 show wpAny _ _ (match b7a lo hi 1 (n:Int) with|(lo,hi)=>pure (lo,(1:Int),b6z lo hi 1)) _ _ s
 rw[a8a lo hi n];show wpAny _ _ (pure (((sIx n 0 lo:Nat):Int),(1:Int),b6z ((sIx n 0 lo:Nat):Int) ((sIx n n hi:Nat):Int) 1)) _ _ s;rw[a7F];exact b5k h
theorem a9X(xs:Array b5c)(i k:Nat):((b5S k).filterMap fun(m:Nat)=>xs[((i:Int)+(m:Int)*1).toNat]?).toArray=((xs.toList.drop i).take k).toArray:=by
 have e:(fun(m:Nat)=>xs[((i:Int)+(m:Int)*1).toNat]?)=fun m=>xs[i+m]?:=by
  funext m
  have:((i:Int)+(m:Int)*1).toNat=i+m:=by lia
  rw[this]
 rw[e];have:=pick_run xs i k;rw[List.filterMap_map] at this;have e2:((fun x=>xs[x]?)∘fun x=>i+x)=fun m=>xs[i+m]?:=rfl;rw[e2] at this;rw[this]
theorem getItem_tuple_cut{t sl:Addr}{items:Array b5c}{vl vu:b5c}{lo hi:Option Int}{Q:VPR}(ht:IsTup s.heap t items)(hs:s.heap.IsSliceOf sl vl vu .none)(pl:b9q vl lo)(pu:b9q vu hi)
  (hw:¬(sIx items.size 0 lo=0/\sIx items.size items.size hi=items.size))
  (h:Q (.ref s.heap.objs.size) { s with heap:=s.heap.push { cls:=.type "tuple",data:=.seq ((items.toList.drop (sIx items.size 0 lo)).take (sIx items.size items.size hi-sIx items.size 0 lo)).toArray } })
  (hsz:items.size<=sizeLine):wpAny (model prog w) A (getItem (.ref t) (.ref sl)) Q E s:=by
 have htake:sizeOk (.seq ((items.toList.drop (sIx items.size 0 lo)).take (sIx items.size items.size hi-sIx items.size 0 lo)).toArray):=by
  show((items.toList.drop (sIx items.size 0 lo)).take (sIx items.size items.size hi-sIx items.size 0 lo)).toArray.size<=sizeLine;rw[b5a,b7C,b8H,b5u];lia
 have hj:sIx items.size items.size hi<=items.size:=b2N _ _ (b5h _) hi;obtain⟨os,hos,hcs,hds⟩:=id hs;have hTs:s.TypeIs (.ref sl) "slice":=⟨os,hos,hcs⟩;unfold getItem
 try with_reducible refine b6t ?_
 first|refine b4V (b5k ?_)|skip
 refine b4V (b9E ht.typeIs (by decide) ?_)
 refine b4V (b8A (name:=b5w "__getitem__") ht.typeIs b5G
  (b9W b5G ht.typeIs b9i ?_ (b9r _ _)))
 show wpAny _ _ (b7W (.ref t) >>= _) _ _ s;refine b4V (tupleItemsOf_ ht ?_);refine b4V (b9P hTs ?_);rw[if_pos (by decide)];refine b4V (a1X hs pl pu ?_)
 have hno:¬((((sIx items.size 0 lo:Nat):Int)==0&&(1:Int)==1&&(sIx items.size items.size hi-sIx items.size 0 lo)==items.size)=true):=by
  intro q;rw[b5o,b5o] at q;have q1:((sIx items.size 0 lo:Nat):Int)=0:=eq_of_beq q.1.1;have q2:sIx items.size items.size hi-sIx items.size 0 lo=items.size:=eq_of_beq q.2;exact hw ⟨by lia,by lia⟩
 show wpAny _ _ (if (((sIx items.size 0 lo:Nat):Int)==0&&(1:Int)==1&&(sIx items.size items.size hi-sIx items.size 0 lo)==items.size)=true then _ else _) _ _ s
 rw[if_neg hno,a9X]
 first
  |exact b4V (m:=b6B _) (b6m (b5k ⟨_,rfl,b5k h⟩) htake)
  |exact b4V (m:=b6B _) (b6m (b4V (b5k (b5k ⟨_,rfl,b5k h⟩))) htake)
  |exact b4V (b4V (m:=b6B _) (b6m (b5k (b5k ⟨_,rfl,b5k h⟩)) htake))
  |exact b4V (b4V (m:=b6B _) (b6m (b5k ⟨_,rfl,b5k h⟩) htake))
end
end HT
namespace L2
open PySem PySem.Spec PyProof.Rows
noncomputable abbrev TO:=St->Hp->(Option Int->Hp->Prop)->Prop
noncomputable def PO(X:Cx)(e:Option Expr)(t:TO):Prop :=
 ∀ pins s σ H (Q:Option Int->Hp->Prop),Inv X pins σ H s->t σ H Q ->
   wpAny (model X.prog X.w) X.A (evalPart e X.env) (fun u s'=>∃o H',Inv X pins σ H' s'/\b9q u o/\Q o H') X.xe s
noncomputable def b0Z:TO:=fun _ H Q=>Q none H
noncomputable def b4h(t:TE):TO:=fun σ H Q=>t σ H fun x H1=>∃i,x=.int i/\Q (some i) H1
section
variable{X:Cx}{e:Expr}{te:TE}{lo hi:Option Expr}{tl th:TO}{pos p2:Pos}
theorem b1G:PO X none b0Z:=by
 intro pins s σ H Q I h;rw[evalPart_none];exact b5k ⟨none,H,I,.none,h⟩
theorem b1F(h:PE X e te):PO X (some e) (b4h te):=by
 intro pins s σ H Q I hw;rw[evalPart_some];refine thn (h pins s σ H _ I hw) fun u s1 ⟨x,H1,I1,r1,q1⟩=>?_;obtain⟨i,rfl,q⟩:=q1;obtain⟨t,rfl⟩:=r1;exact⟨some i,H1,I1,.int i t,q⟩
noncomputable def SlR(X:Cx)(r:V->Option Int->Option Int->Hp->VK->Prop):Prop :=
 ∀ pins s σ H (x:V) (v vl vu:b5c) (lo hi:Option Int) (sl:Addr) (Q:VK),Inv X pins σ H s->RelV x v->s.heap.IsSliceOf sl vl vu .none->b9q vl lo->b9q vu hi->r x lo hi H Q ->
   ∃T id,typeLookup (.type T) "__getitem__"=pure (some (.builtin id))/\s.TypeIs v T/\wpAny (model X.prog X.w) X.A (getItem v (.ref sl)) (EP X pins σ Q) X.xe s
theorem SlR.or{r r':V->Option Int->Option Int->Hp->VK->Prop}(h:SlR X r)(h':SlR X r'):SlR X (fun x lo hi H Q=>r x lo hi H Q\/r' x lo hi H Q):=by
 intro pins s σ H x v vl vu lo hi sl Q I rx hs pl pu q;rcases q with q|q
 ·exact h pins s σ H x v vl vu lo hi sl Q I rx hs pl pu q
 ·exact h' pins s σ H x v vl vu lo hi sl Q I rx hs pl pu q
noncomputable def tSl(r:V->Option Int->Option Int->Hp->VK->Prop)(te:TE)(tl th:TO):TE:=fun σ H Q=>te σ H fun x H1=>tl σ H1 fun l H2=>th σ H2 fun u H3=>r x l u H3 Q
theorem a9Z{r:V->Option Int->Option Int->Hp->VK->Prop}(hr:SlR X r)(he:PE X e te)(hl:PO X lo tl)(hu:PO X hi th):PE X (.Subscript e (.Slice lo hi none p2) pos) (tSl r te tl th):=by
 intro pins s σ H Q I h;refine Subscript_ (thn (he pins s σ H _ I h) fun v s1 ⟨x,H1,I1,r1,q1⟩=>?_);refine wpAny_Slice (thn (hl pins s1 σ H1 _ I1 q1) fun vl s2 ⟨l,H2,I2,pl,q2⟩=>thn (hu pins s2 σ H2 _ I2 q2) fun vu s3 ⟨u,H3,I3,pu,q3⟩=>?_);rw[evalPart_none];refine b5k ?_;have I4:Inv X pins σ H3 { s3 with heap:=s3.heap.push { cls:=.type "slice",data:=.fields #[vl,vu,.none] } }:=I3.kept (t':=s3.toks) fun b ob q=>b5f _ q;obtain⟨T,id,hT,ht,hg⟩:=hr pins { s3 with heap:=s3.heap.push { cls:=.type "slice",data:=.fields #[vl,vu,.none] } } σ H3 x v vl vu l u s3.heap.objs.size Q I4 r1 (Heap.IsSliceOf.new ..) pl pu q3;show wpAny (model X.prog X.w) X.A (subscriptTail e (.Slice lo hi none p2) v (.ref s3.heap.objs.size)) (EP X pins σ Q) X.xe { s3 with heap:=s3.heap.push { cls:=.type "slice",data:=.fields #[vl,vu,.none] } };exact tail_any (ops:=[.ref s3.heap.objs.size,v]) ht hT hg (by with_unfolding_all rfl)
noncomputable def cutV(xs:List V)(lo hi:Option Int):List V:=(xs.drop (HT.sIx xs.length 0 lo)).take (HT.sIx xs.length xs.length hi-HT.sIx xs.length 0 lo)
theorem a3S(xs:List V)(lo hi:Option Int):(cutV xs lo hi).length<=xs.length:=by
 unfold cutV;rw[b7C,b8H];lia
noncomputable def rSlT(K:PySem.W.Frag):V->Option Int->Option Int->Hp->VK->Prop:=fun x lo hi H Q=>∃a xs,x=.ref a/\SqT K H a xs /\
 ¬(HT.sIx xs.length 0 lo=0/\HT.sIx xs.length xs.length hi=xs.length)/\∀p,H p=none->Q (.ref p) (upd H p (.tup (cutV xs lo hi)))
theorem b2H:SlR X (rSlT X.K):=by
 intro pins s σ H x v vl vu lo hi sl Q I rx hs pl pu h;obtain⟨a,xs,rfl,hx,hw,q⟩:=h;cases rx;obtain⟨its,r,ht,hz⟩:=I.tuple hx;have hlen:its.toArray.size=xs.length:=by rw[b5a];exact r.length.symm
 refine⟨"tuple",_,b5G.lookup,ht.typeIs,?_⟩;refine HT.getItem_tuple_cut ht hs pl pu (by rw[hlen];exact hw) ?_ (by rw[hlen];exact hz);rw[hlen];refine⟨.ref s.heap.objs.size,_,I.laid (t':=s.toks) (o:=.tup (cutV xs lo hi)) (fun b ob q=>b5f _ q) (b5h _) ?_,rfl,q _ (I.hok.fresh (b5h _))⟩;exact⟨b5l (a3S xs lo hi) hz,_,(r.drop (HT.sIx xs.length 0 lo)).take (HT.sIx xs.length xs.length hi-HT.sIx xs.length 0 lo),a1Y.new _ _⟩
noncomputable def b4u(K:PySem.W.Frag):R2:=fun x y H Q=>∃a b xs ys,x=.ref a/\y=.ref b/\SqT K H a xs/\SqT K H b ys/\xs≠[]/\xs.length+ys.length<=sizeLine /\
 (ys=[]->Q (.ref a) H)/\(ys≠[]->∀p,H p=none->Q (.ref p) (upd H p (.tup (xs++ys))))
theorem Vals.nil_iff{xs:List V}{us:LSV}(r:Vals xs us):us=[]<->xs=[]:=by
 cases r with
 |nil=>simp
 |cons _ _=>simp
theorem b1O:OpR X (binaryOp .Add) (b4u X.K):=by
 intro pins s σ H x y v u Q I rx ry h;obtain⟨a,b,xs,ys,rfl,rfl,ha,hb,hx,hz,q1,q2⟩:=h;cases rx;cases ry;obtain⟨its,r1,p1,_⟩:=I.tuple ha;obtain⟨its2,r2,p2,_⟩:=I.tuple hb;refine HT.cat_tup p1 p2 (fun z=>hx (r1.nil_iff.mp z)) (fun z=>⟨.ref a,H,I,rfl,q1 (r2.nil_iff.mp z)⟩) (fun z=>?_) (by rw[<- r1.length,<- r2.length];exact hz);refine⟨.ref s.heap.objs.size,_,I.laid (t':=s.toks) (o:=.tup (xs++ys)) (fun b ob q=>b5f _ q) (b5h _) ?_,rfl,q2 (fun w=>z (r2.nil_iff.mpr w)) _ (I.hok.fresh (b5h _))⟩;exact⟨by rw[b5r];exact hz,_,r1.append r2,a1Y.new _ _⟩
end
noncomputable def ixN(n:Nat)(i:Int):Option Nat:=if 0<=i then (if i<n then some i.toNat else none) else if -(n:Int)<=i then some (i+n).toNat else none
noncomputable def atI{α:Type}(xs:List α)(i:Int):Option α:=(ixN xs.length i).bind fun j=>xs[j]?
theorem a8U{n:Nat}{i:Int}{j:Nat}(h:ixN n i=some j):seqIndex? i n=some j/\j<n/\-(n:Int)<=i/\i<n:=by
 unfold ixN at h;by_cases h0:0<=i
 ·rw[if_pos h0] at h;by_cases h1:i<n
  ·rw[if_pos h1] at h;have e:i.toNat=j:=b5p h;exact⟨by rw[c0j h0 h1,e],by lia,by lia,h1⟩
  ·rw[if_neg h1] at h;cases h
 ·rw[if_neg h0] at h;by_cases h1:-(n:Int)<=i
  ·rw[if_pos h1] at h;have e:(i+n).toNat=j:=b5p h;exact⟨by rw[b9Q (by lia) h1,e],by lia,h1,by lia⟩
  ·rw[if_neg h1] at h;cases h
theorem a6P{α:Type}{xs:List α}{i:Int}{v:α}(h:atI xs i=some v):∃j,seqIndex? i xs.length=some j/\xs[j]?=some v/\j<xs.length/\-(xs.length:Int)<=i/\i<xs.length:=by
 unfold atI at h;cases e:ixN xs.length i with
 |none=>rw[e] at h;cases h
 | some j =>
   rw[e] at h;obtain⟨h1,h2,h3,h4⟩:=a8U e;exact⟨j,h1,h,h2,h3,h4⟩
theorem a3f{α:Type}{xs:List α}{j:Nat}{v:α}(h:xs[j]?=some v):atI xs (j:Int)=some v:=by
 have hj:j<xs.length:=(b5q.mp h).1
 have e:ixN xs.length (j:Int)=some j:=by
  unfold ixN;rw[if_pos (by lia),if_pos (by lia)];simp
 unfold atI;rw[e];exact h
noncomputable def a9A(b:Expr):Prop:=∀o i,subscripted b false o i=operate [o,i] (getItem o i)
noncomputable def IxR(X:Cx)(r:R2):Prop :=
 ∀ (value slice:Expr) (pins:PNS) (s:b4U) (σ:St) (H:Hp) (x y:V) (v u:b5c) (Q:VK),Inv X pins σ H s->RelV x v->RelV y u->r x y H Q ->
   subscripted slice false v u=operate [v,u] (getItem v u)->wpAny (model X.prog X.w) X.A (subscriptTail value slice v u) (EP X pins σ Q) X.xe s
noncomputable def MtR(X:Cx)(id:String)(r:V->List V->Hp->VK->Prop):Prop :=
 ∀ pins s σ H (x:V) (xs:List V) (v:b5c) (us:LSV) (Q:VK),Inv X pins σ H s->RelV x v->Vals xs us->r x xs H Q ->
   wpAny (model X.prog X.w) X.A (call (.builtin id) (v::us)) (EP X pins σ Q) X.xe s
section
variable{X:Cx}{a b:Expr}{ta tb:TE}{pos:Pos}
theorem b4x{r:R2}(hr:IxR X r)(ha:PE X a ta)(hb:PE X b tb)(hs:a9A b):PE X (.Subscript a b pos) (tOp r ta tb):=by
 intro pins s σ H Q I h;exact Subscript_ (binT ha hb I h fun v u s2 x y H2 I2 rx ry q=>hr a b pins s2 σ H2 x y v u Q I2 rx ry q (hs _ _))
noncomputable def rIxL(K:PySem.W.Frag):R2:=fun x y H Q=>∃p xs i v,x=.ref p/\y=.int i/\SqL K H p xs/\atI xs i=some v/\Q v H
noncomputable def rIxT(K:PySem.W.Frag):R2:=fun x y H Q=>∃p xs i v,x=.ref p/\y=.int i/\SqT K H p xs/\atI xs i=some v/\Q v H
noncomputable def rIxS:R2:=fun x y H Q=>∃z i c,x=.str z/\y=.int i/\z.length<=sizeLine/\atI z.cps.toList i=some c/\Q (.str ⟨#[c]⟩) H
theorem a8T:IxR X (rIxL X.K):=by
 intro value slice pins s σ H x y v u Q I rx ry h hs;obtain⟨p,xs,i,z,rfl,rfl,hq,he,q⟩:=h;cases rx;obtain⟨t,rfl⟩:=ry;obtain⟨its,r,pl,hz⟩:=I.list hq;obtain⟨j,h1,h2,h3,h4,h5⟩:=a6P he;obtain⟨w,ew,rw'⟩:=r.get h2;have hl:=r.length;have hn:=a3C;have fin:EP X pins σ Q w s:=⟨z,H,I,rw',q⟩;by_cases h0:0<=i
 ·have hj:i.toNat=j:=by
   rw[c0j h0 h5] at h1;exact b5p h1
  exact item_listR pl.isList h0 (by lia) (by rw[hj];simpa using ew) fin hs
 ·have hj:(i+(its.toArray.size:Int)).toNat=j:=by
   rw[b9Q (by lia) h4] at h1;rw[b5a,<- hl];exact b5p h1
  exact b8L (x:=w) pl.isList.typeIs b9F.lookup
   (wpAny_getItem_list_neg (Q:=fun r s'=>r=w/\EP X pins σ Q r s') pl.isList (by lia) (by rw[b5a]<;>lia) (by lia) (by rw[hj];simpa using ew) ⟨rfl,fin⟩) hs
theorem b3F:IxR X (rIxT X.K):=by
 intro value slice pins s σ H x y v u Q I rx ry h hs;obtain⟨p,xs,i,z,rfl,rfl,hq,he,q⟩:=h;cases rx;obtain⟨t,rfl⟩:=ry;obtain⟨its,r,pl,hz⟩:=I.tuple hq;obtain⟨j,h1,h2,h3,h4,h5⟩:=a6P he;obtain⟨w,ew,rw'⟩:=r.get h2;have hl:=r.length;have hn:=a3C;have fin:EP X pins σ Q w s:=⟨z,H,I,rw',q⟩;exact b8L (x:=w) pl.typeIs slot_tuple_getitem.lookup
  (getItem_tuple (j:=j) (Q:=fun r s'=>r=w/\EP X pins σ Q r s') pl (by lia) (by lia) (by rw[b5a,<- hl];exact h1) (by simpa using ew) ⟨rfl,fin⟩) hs
theorem b3G:IxR X rIxS:=by
 intro value slice pins s σ H x y v u Q I rx ry h hs;obtain⟨z,i,c,rfl,rfl,hz,he,q⟩:=h;obtain⟨t,rfl⟩:=rx;obtain⟨t',rfl⟩:=ry;obtain⟨j,h1,h2,h3,h4,h5⟩:=a6P he;have hl:z.cps.toList.length=z.length:=by simp[Str.length]
 rw[hl] at h1 h4 h5;have hn:=a3C
 exact tail_any (b7J s z t) slot_str_getitem.lookup (getItem_str (c:=c) (by
  have e1:decide (i < -(2^63:Int))=false:=decide_eq_false (by lia);have e2:decide (i >= 2^63)=false:=decide_eq_false (by lia)
  rw[e1,e2,c0y]) (by rw[h1];simpa using h2) ⟨.str ⟨#[c]⟩,H,I.tok _,⟨_,rfl⟩,q⟩) hs
theorem a7M(its:LSV)(n j:Nat)(u:b5c):b8X (·.setIfInBounds j u) { cls:=.type "list",data:=.seq its.toArray n }={ cls:=.type "list",data:=.seq (its.set j u).toArray n }:=by
 simp[b8X]
theorem Inv.lst{pins:PNS}{σ:St}{H:Hp}{s:b4U}{p:Addr}{xs:List V}(I:Inv X pins σ H s)(h:H p=some (.lst xs)) :
  ∃(its:LSV) (n:Nat),Vals xs its/\s.heap.get? p=some { cls:=.type "list",data:=.seq its.toArray n }/\xs.length<=sizeLine:=by
 obtain⟨z,its,n,r,e⟩:=I.hok p _ h;exact⟨its,n,r,e,z⟩
theorem Inv.lstUpd{pins:PNS}{σ:St}{H:Hp}{s:b4U}{p:Addr}{xs ys:List V}{its its':LSV}{n n':Nat}{f:Obj->Obj}(I:Inv X pins σ H s)(h:H p=some (.lst xs))
  (ho:s.heap.get? p=some { cls:=.type "list",data:=.seq its.toArray n }) (hf:f { cls:=.type "list",data:=.seq its.toArray n }={ cls:=.type "list",data:=.seq its'.toArray n' }) (r:Vals ys its') (hz:ys.length<=sizeLine) (t:Nat) :
  Inv X pins σ (upd H p (.lst ys)) { s with heap:=s.heap.update p f,toks:=t }:=by
 have e:(s.heap.update p f).get? p=some { cls:=.type "list",data:=.seq its'.toArray n' }:=by
  rw[b5T f ho (by rw[hf]<;>rfl),hf]
 refine I.write (x:=p) (e:=p) (by rw[h];trivial) (.inl rfl) (fun b u hb q=>(b5D _ _ (b6n hb)).trans q) ⟨_,e⟩ ?_;exact⟨hz,its',n',r,e⟩
noncomputable def b4s:V->V->V->Hp->(Hp->Prop)->Prop:=fun o i v H Q=>∃p xs k j,o=.ref p/\i=.int k/\H p=some (.lst xs)/\ixN xs.length k=some j/\Q (upd H p (.lst (xs.set j v)))
theorem a9N:PSet X b4s:=by
 intro pins s σ H o i v ov iv u Q I ro ri rv h;obtain⟨p,xs,k,j,rfl,rfl,hp,hj,q⟩:=h;cases ro;obtain⟨t,rfl⟩:=ri;obtain⟨its,n,r,ho,hz⟩:=I.lst hp;obtain⟨h1,h2,h3,h4⟩:=a8U hj;have hl:=r.length;have hn:=a3C
 have I':Inv X pins σ (upd H p (.lst (xs.set j v))) { s with heap:=s.heap.update p (b8X (·.setIfInBounds j u)) } :=
  I.lstUpd hp ho (a7M its n j u) (r.set rv j) (by rw[b5U];exact hz) s.toks
 by_cases h0:0<=k
 ·have hk:k.toNat=j:=by
   rw[c0j h0 h4] at h1;exact b5p h1
  exact PySem.W.ki_setAt ho h0 (by lia) (by rw[b5a,<- hl];exact h4) (by rw[hk];exact⟨_,I',q⟩)
 ·have hk:(k+(its.toArray.size:Int)).toNat=j:=by
   rw[b9Q (by lia) h3] at h1;rw[b5a,<- hl];exact b5p h1
  exact PySem.W.ki_setBack ho (by lia) (by rw[b5a,<- hl];exact h3) (by lia) (by rw[hk];exact⟨_,I',q⟩)
theorem a5p(lo hi:Option Int)(n:Nat):(sliceBounds lo hi none n).1=((HT.sIx n 0 lo:Nat):Int)/\(sliceBounds lo hi none n).2.1=((HT.sIx n n hi:Nat):Int)/\(sliceBounds lo hi none n).2.2=1:=by
 refine⟨?_,?_,rfl⟩
 ·cases lo with
  |none=>simp[sliceBounds,HT.sIx]
  | some i =>
    simp only[sliceBounds,HT.sIx,b9X,show(1:Int)>0 by decide,if_true];by_cases h:i<0
    ·simp only[h,if_true]<;>lia
    ·simp only[h,if_false]<;>lia
 ·cases hi with
  |none=>simp[sliceBounds,HT.sIx]
  | some i =>
    simp only[sliceBounds,HT.sIx,b9X,show(1:Int)>0 by decide,if_true];by_cases h:i<0
    ·simp only[h,if_true]<;>lia
    ·simp only[h,if_false]<;>lia
theorem a4E(its:LSV)(lo hi:Option Int):slicePick its.toArray lo hi none=((its.drop (HT.sIx its.length 0 lo)).take (HT.sIx its.length its.length hi-HT.sIx its.length 0 lo)).toArray:=by
 obtain⟨h1,h2,h3⟩:=a5p lo hi its.toArray.size;unfold slicePick;rw[h1,h2,h3];simp only[sliceRange_one,pick_run,b5a]<;>rfl
noncomputable def rSlL(K:PySem.W.Frag):V->Option Int->Option Int->Hp->VK->Prop:=fun x lo hi H Q=>∃a xs,x=.ref a/\SqL K H a xs/\∀p,H p=none->Q (.ref p) (upd H p (.lst (cutV xs lo hi)))
theorem b1d:SlR X (rSlL X.K):=by
 intro pins s σ H x v vl vu lo hi sl Q I rx hs pl pu h;obtain⟨a,xs,rfl,hx,q⟩:=h;cases rx;obtain⟨its,r,ht,hz⟩:=I.list hx;have hlen:=r.length;refine⟨"list",_,b9F.lookup,ht.isList.typeIs,?_⟩;refine wpAny_getItem_list_slice ht.isList hs pl pu .none (by simp) ?_ (by rw[b5a]<;>lia);rw[a4E,<- hlen];refine⟨.ref s.heap.objs.size,_,I.laid (t':=s.toks) (o:=.lst (cutV xs lo hi)) (fun b ob q=>b5f _ q) (b5h _) ?_,rfl,q _ (I.hok.fresh (b5h _))⟩;exact⟨b5l (a3S xs lo hi) hz,_,0,(r.drop (HT.sIx xs.length 0 lo)).take (HT.sIx xs.length xs.length hi-HT.sIx xs.length 0 lo),b5C _ rfl⟩
noncomputable def a4g:V->Bool
 |.non=>true
 |.bl _=>true
 |.int _=>true
 |.str _=>true
 |_=>false
noncomputable def eqV:V->V->Bool
 |.non,.non=>true
 |.bl a,.bl b=>a==b
 |.bl a,.int b=>(if a then 1 else 0)==b
 |.int a,.bl b=>a==(if b then 1 else 0)
 |.int a,.int b=>a==b
 |.str a,.str b=>a==b
 |_,_=>false
theorem b3U{A:b5s}{s:b4U}{y x:V}{u v:b5c}(ry:RelV y u)(rx:RelV x v)(fy:a4g y=true)(fx:a4g x=true):b7s A s u v (eqV y x):=by
 cases y with
 | non =>
   cases ry;cases x with
   |non=>cases rx;exact SeqAt.EqAt.same _
   |bl b=>cases rx;exact SeqAt.EqAt.none_bool b
   |int b=>obtain⟨t,rfl⟩:=rx;exact SeqAt.EqAt.none_int b t
   |str b=>obtain⟨t,rfl⟩:=rx;exact SeqAt.EqAt.none_str b t
   |_=>exact absurd (show false=true from fx) b5x
 | bl a =>
   cases ry;cases x with
   |non=>cases rx;exact SeqAt.EqAt.bool_none a
   |bl b=>cases rx;exact SeqAt.EqAt.bool_bool a b
   |int b=>obtain⟨t,rfl⟩:=rx;exact SeqAt.EqAt.bool_int a b t
   |str b=>obtain⟨t,rfl⟩:=rx;exact SeqAt.EqAt.bool_str a b t
   |_=>exact absurd (show false=true from fx) b5x
 | int a =>
   obtain⟨t',rfl⟩:=ry;cases x with
   |non=>cases rx;exact SeqAt.EqAt.int_none a t'
   |bl b=>cases rx;exact SeqAt.EqAt.int_bool a t' b
   |int b=>obtain⟨t,rfl⟩:=rx;exact SeqAt.EqAt.int_int a t' b t
   |str b=>obtain⟨t,rfl⟩:=rx;exact b9m a t' b t
   |_=>exact absurd (show false=true from fx) b5x
 | str a =>
   obtain⟨t',rfl⟩:=ry;cases x with
   |non=>cases rx;exact SeqAt.EqAt.str_none a t'
   |bl b=>cases rx;exact SeqAt.EqAt.str_bool a t' b
   |int b=>obtain⟨t,rfl⟩:=rx;exact b9n a t' b t
   |str b=>obtain⟨t,rfl⟩:=rx;exact SeqAt.EqAt.str_str a t' b t
   |_=>exact absurd (show false=true from fx) b5x
 |_=>exact absurd (show false=true from fy) b5x
noncomputable def eqU(x:V)(u:b5c):Bool:=match u with
 |.none=>eqV .non x
 |.bool b=>eqV (.bl b) x
 |.int i _=>eqV (.int i) x
 |.str z _=>eqV (.str z) x
 |_=>false
theorem b0Q{x y:V}{u:b5c}(r:RelV y u)(f:a4g y=true):eqU x u=eqV y x:=by
 cases y with
 |non=>cases r;rfl
 |bl b=>cases r;rfl
 |int i=>obtain⟨t,rfl⟩:=r;rfl
 |str z=>obtain⟨t,rfl⟩:=r;rfl
 |_=>exact absurd (show false=true from f) b5x
theorem a6Q{x:V}:∀{xs:List V} {us:LSV},Vals xs us->xs.all a4g=true->us.any (eqU x)=xs.any fun y=>eqV y x
 |_,_,.nil,_=>rfl
 | y::xs,u::us,.cons r t,f=>by
   rw[b6U,b5o] at f;rw[b6I,b6I,b0Q r f.1,a6Q t f.2]
theorem a4U{A:b5s}{s:b4U}{x:V}{v:b5c}(rx:RelV x v)(fx:a4g x=true):∀{xs:List V} {us:LSV},Vals xs us->xs.all a4g=true->∀u∈us,b7s A s u v (eqU x u)
 |_,_,.nil,_=>fun u hu=>by cases hu
 | y::xs,u::us,.cons r t,f=>fun u' hu=>by
   rw[b6U,b5o] at f;rcases b5b.mp hu with rfl|hu
   ·rw[b0Q r f.1];exact b3U r rx f.1 fx
   ·exact a4U rx fx t f.2 u' hu
noncomputable def inV(x:V)(xs:List V):Bool:=xs.any fun y=>eqV y x
noncomputable def rIn(K:PySem.W.Frag)(neg:Bool):R2:=fun x y H Q=>∃p xs,y=.ref p/\(SqL K H p xs\/SqT K H p xs)/\a4g x=true/\xs.all a4g=true/\Q (.bl (if neg then !inV x xs else inV x xs)) H
theorem a8z:OpR X (compareOp .In) (rIn X.K false):=by
 intro pins s σ H x y v u Q I rx ry h;obtain⟨p,xs,rfl,hq,fx,fs,q⟩:=h;cases ry;rcases hq with hq|hq
 ·obtain⟨its,r,pl,hz⟩:=I.list hq;refine SeqAt.in_listAt (eqU x) pl.isList (fun w hw=>a4U rx fx r fs w (by simpa using hw)) ⟨.bl _,H,I,rfl,?_⟩;rw[show its.toArray.any (eqU x)=its.any (eqU x) by simp,a6Q r fs];exact q
 ·obtain⟨its,r,pl,hz⟩:=I.tuple hq;refine SeqAt.in_tupleAt (eqU x) pl (fun w hw=>a4U rx fx r fs w (by simpa using hw)) ⟨.bl _,H,I,rfl,?_⟩;rw[show its.toArray.any (eqU x)=its.any (eqU x) by simp,a6Q r fs];exact q
theorem a2n:a5f X (.builtin "len") (fun xs H Q=>∃p ys,xs=[.ref p]/\(SqL X.K H p ys\/SqT X.K H p ys)/\Q (.int ys.length) H):=by
 intro pins s σ H xs us Q I r h;obtain⟨p,ys,rfl,hq,q⟩:=h;obtain⟨u,rfl,rx⟩:=a2Y r;cases rx;have hn:=a3C;rcases hq with hq|hq
 ·obtain⟨its,r',pl,hz⟩:=I.list hq;have hlen:=r'.length;exact Calls.call_len_list pl.isList (by simp only[b5a]<;>lia) ⟨.int ys.length,H,I.tok _,⟨s.toks+1,by rw[b5a,hlen]⟩,q⟩
 ·obtain⟨its,r',pl,hz⟩:=I.tuple hq;have hlen:=r'.length;exact len_tuple pl (by simp only[b5a]<;>lia) ⟨.int ys.length,H,I.tok _,⟨s.toks+1,by rw[b5a,hlen]⟩,q⟩
theorem a5Y:a5f X (.builtin "len") (fun xs H Q=>∃z,xs=[.str z]/\z.length<=sizeLine/\Q (.int z.length) H):=by
 intro pins s σ H xs us Q I r h;obtain⟨z,rfl,hz,q⟩:=h;obtain⟨u,rfl,t,rfl⟩:=a2Y r;have hn:=a3C;exact len_str (by lia) ⟨.int z.length,H,I.tok _,⟨_,rfl⟩,q⟩
theorem a1V:a5f X (.type "tuple") (fun xs H Q=>∃p ys,xs=[.ref p]/\((SqL X.K H p ys/\∀l,H l=none->Q (.ref l) (upd H l (.tup ys)))\/(SqT X.K H p ys/\Q (.ref p) H))):=by
 intro pins s σ H xs us Q I r h;obtain⟨p,ys,rfl,h⟩:=h;obtain⟨u,rfl,rx⟩:=a2Y r;cases rx;rcases h with ⟨hq,q⟩|⟨hq,q⟩
 ·obtain⟨its,r',pl,hz⟩:=I.list hq;have hlen:=r'.length;refine call_tuple_list pl.isList (fun h' kp=>?_) (by simp only[b5a]<;>lia);have I1:Inv X pins σ H { s with heap:=h' }:=I.kept (t':=s.toks) kp
  have I2:Inv X pins σ (upd H h'.objs.size (.tup ys)) { s with heap:=h'.push { cls:=.type "tuple",data:=.seq its.toArray } } :=
   I1.laid (t':=s.toks) (fun b o e=>b5f _ e) (b5h _) (show a1C X.prog X.w _ _ _ (.tup ys) from ⟨hz,its,r',a1Y.new _ _⟩)
  exact⟨.ref h'.objs.size,_,I2,rfl,q _ (I1.hok.fresh (b5h _))⟩
 ·obtain⟨its,r',pl,hz⟩:=I.tuple hq;exact call_tuple_same pl ⟨.ref p,H,I,rfl,q⟩
noncomputable def tyV(K:PySem.W.Frag)(T:String)(x:V)(H:Hp):Prop:=match x with
 |.str _=>T="str"
 |.int _=>T="int"
 | .ref p=>(T="list"/\∃xs,SqL K H p xs)\/(T="tuple"/\∃o,K.lookup p=some o/\o.cls=.type "tuple"/\o.dict=none) \/
   (T="dict"/\((∃kvs,H p=some (.dK kvs))\/∃kvs,H p=some (.dT kvs)))\/(T="set"/\∃S n,H p=some (.set S n))
 |_=>False
theorem b2s{pins:PNS}{σ:St}{H:Hp}{s:b4U}{T:String}{x:V}{v:b5c}(I:Inv X pins σ H s)(r:RelV x v)(ty:tyV X.K T x H) :
  s.TypeIs v T/\∀a,v=.ref a->∃ob,s.heap.get? a=some ob/\ob.dict=none:=by
 cases x with
 | str z =>
   obtain⟨t,rfl⟩:=r;cases (show T="str" from ty);exact⟨b7J s z t,fun _ e=>nomatch e⟩
 | int i =>
   obtain⟨t,rfl⟩:=r;cases (show T="int" from ty);exact⟨b8Y s i t,fun _ e=>nomatch e⟩
 | ref p =>
   cases r;rcases ty with ⟨rfl,xs,hq⟩|⟨rfl,o,hk,hc,hd⟩|⟨rfl,hk⟩|⟨rfl,S,n,hk⟩
   ·obtain⟨its,_,pl,_⟩:=I.list hq;refine⟨pl.isList.typeIs,fun a e=>?_⟩;cases e;obtain⟨o,n,e,c,hd,_⟩:=pl;exact⟨o,e,hd⟩
   ·refine⟨⟨o,I.kIn p o hk,hc⟩,fun a e=>?_⟩;cases e;exact⟨o,I.kIn _ o hk,hd⟩
   ·have z:∃o,s.heap.get? p=some o/\o.ExactDict:=by
     rcases hk with ⟨kvs,hk⟩|⟨kvs,hk⟩
     ·obtain⟨_,_,_,_,o,_,_,e,ex,_⟩:=I.hok p _ hk;exact⟨o,e,ex⟩
     ·obtain⟨_,_,_,_,o,_,_,e,ex,_⟩:=I.hok p _ hk;exact⟨o,e,ex⟩
    obtain⟨o,e,ex⟩:=z;refine⟨⟨o,e,ex.1⟩,fun a e2=>?_⟩;cases e2;exact⟨o,e,ex.2.1⟩
   ·obtain⟨o,_,_,_,e,ex,_⟩:=I.hok p _ hk;refine⟨⟨o,e,ex.1⟩,fun a e2=>?_⟩;cases e2;exact⟨o,e,ex.2.1⟩
 |_=>exact b5A ty
noncomputable def tBM(K:PySem.W.Frag)(T:String)(r:V->List V->Hp->VK->Prop)(to:TE)(t:TA):TE:=fun σ H Q=>to σ H fun x H1=>tyV K T x H1/\t σ H1 fun xs H2=>r x xs H2 Q
variable{o e:Expr}{es:LSE}{to:TE}{t:TA}{name:Str}{apos cpos:Pos}{T id:String}{r:V->List V->Hp->VK->Prop}
noncomputable abbrev QLL(apos cpos:Pos):Prop:=(apos.endLine==cpos.line)=true
noncomputable abbrev QFF(X:Cx)(cpos:Pos)(e:Expr)(es:LSE):Prop:=((backTo cpos (starEach (e::es) X.env)).all (fun x=>!x.1)&&(backToKw cpos (keywordEach [] X.env)).all (fun x=>x.1.isSome)
   && decide ((e::es).length+([]:List c0x).length+(if ([]:List c0x).isEmpty then 0 else 1)<30))=true
theorem b3j(pa:PlainAttrs T)(slot:Slot T name id)(hty:typeOf (.builtin id)=pure (.type "method_descriptor"))(hm:MtR X id r)(ho:PE X o to)(ha:PA X (e::es) t)
  (hbase:attributeBase o name X.env (eval o X.env)=eval o X.env:=by rfl)
  (hfew:QFF X cpos e es:=by rfl)
  (hline:QLL apos cpos:=by rfl) (hs:QSS X e es:=by rfl) (hplain:QPP X cpos es:=by rfl) :
  PE X (.Call (.Attribute o name apos) (e::es) [] cpos) (tBM X.K T r to t):=by
 intro pins s σ H Q I h;refine wpAny_Call_method_late hbase hfew hline rfl (thn (ho pins s σ H _ I h) fun v s1 ⟨x,H1,I1,r1,ty,q1⟩=>?_);obtain⟨h1,h2⟩:=b2s I1 r1 ty;refine⟨T,id,pa,slot,hty,h1,h2,?_⟩;have hA:=ha cpos pins s1 σ H1 _ I1 q1
 rw[hs] at hA|-
 refine Calls.callWith_builtin (by show(false||(backTo cpos (starEach es X.env)).any (·.1))=false;rw[hplain]<;>rfl) (b7F ?_)
 exact thn hA fun us s2 ⟨vs,H2,I2,r2,q2⟩=>hm pins s2 σ H2 x vs v us Q I2 r1 r2 q2
end
noncomputable def MtM(X:Cx)(id:String)(r:V->List V->Hp->VK->Prop):Prop :=
 ∀ pins s σ H (x:V) (xs:List V) (v:b5c) (us:LSV) (Q:VK),Inv X pins σ H s->RelV x v->Vals xs us->r x xs H Q ->
   wpAny (model X.prog X.w) X.A (call (.builtin id) (v::us)) (EP X pins σ Q) X.xe s
theorem Vals.one:∀{x:V} {us:LSV},Vals [x] us->∃u,us=[u]/\RelV x u
 |_,_,.cons r .nil=>⟨_,rfl,r⟩
theorem Vals.reverse{xs:List V}{us:LSV}(h:Vals xs us):Vals xs.reverse us.reverse:=by
 induction h with
 |nil=>exact .nil
 |cons r t ih=>rw[b7t,b7t];exact Vals.append ih (.cons r .nil)
theorem Vals.rep{xs:List V}{us:LSV}(h:Vals xs us):∀k:Nat,Vals (b5e k xs).flatten (b5e k us).flatten
 |0=>.nil
 | k+1=>by
   rw[b5N,b5N,b6C,b6C];exact Vals.append h (Vals.rep h k)
theorem a3L(its:LSV):∀(k:Nat) (acc:LSV),
  b7u (fun x1 x2=>x1++x2) acc.toArray (b5e k its.toArray)=(acc++(b5e k its).flatten).toArray
 |0,acc=>by simp
 | k+1,acc=>by
   have e:acc.toArray++its.toArray=(acc++its).toArray:=by simp
   have e2:(acc++its)++(b5e k its).flatten=acc++(b5e (k+1) its).flatten:=by
    rw[b5N,b6C,b8t]
   rw[<- e2,<- a3L its k (acc++its),<- e,b5N,b7L]
section
variable{X:Cx}{pins:PNS}{σ:St}{H:Hp}{s:b4U}{l b:Addr}{xs ys zs:List V}
theorem Inv.lset{its its':LSV}{n:Nat}{f:Array b5c->Array b5c}{t':Nat}(I:Inv X pins σ H s)(hH:H l=some (.lst xs))
  (e:s.heap.get? l=some { cls:=.type "list",data:=.seq its.toArray n }) (hf:f its.toArray=its'.toArray) (hv:Vals ys its') (hz:ys.length<=sizeLine) :
  Inv X pins σ (upd H l (.lst ys)) { s with heap:=s.heap.update l (b8X f),toks:=t' }:=by
 have q:=PySem.IsL.update e f;rw[hf] at q;refine I.write (x:=l) (e:=l) (by rw[hH];exact trivial) (.inl rfl) (fun b' u hb hu=>(b5D s.heap (b8X f) (b6n hb)).trans hu) ⟨_,q⟩ ?_;exact⟨hz,its',_,hv,q⟩
theorem Inv.lnew{its:LSV}{t':Nat}(I:Inv X pins σ H s)(hv:Vals ys its)(hz:ys.length<=sizeLine) :
  Inv X pins σ (upd H s.heap.objs.size (.lst ys)) { s with heap:=s.heap.push { cls:=.type "list",data:=.seq its.toArray },toks:=t' } :=
 I.laid (fun _ _ q=>b5f _ q) (b5h _) ⟨hz,its,0,hv,b5C _ rfl⟩
theorem Inv.fresh(I:Inv X pins σ H s):H s.heap.objs.size=none:=I.hok.fresh (b5h _)
theorem Inv.lstM(I:Inv X pins σ H s)(hH:H l=some (.lst xs)):xs.length<=sizeLine/\∃(its:LSV) (n:Nat),Vals xs its/\xs.length=its.length/\s.heap.get? l=some { cls:=.type "list",data:=.seq its.toArray n }:=by
 obtain⟨z,its,n,r,e⟩:=I.hok l _ hH;exact⟨z,its,n,r,r.length,e⟩
theorem b0i{n:Nat}(h:n<=sizeLine):b7g n=false:=by
 unfold b7g;exact decide_eq_false (by lia)
end
section
variable{X:Cx}
noncomputable def b1u:V->List V->Hp->VK->Prop:=fun x vs H Q=>∃l xs y,x=.ref l/\vs=[y]/\H l=some (.lst xs)/\xs.length<sizeLine/\Q .non (upd H l (.lst (xs++[y])))
theorem a8J:MtM X "list.append" b1u:=by
 intro pins s σ H x vs v us Q I rx rv h;obtain⟨l,xs,y,rfl,rfl,hH,hz,q⟩:=h;cases rx;obtain⟨u,rfl,ru⟩:=rv.one;obtain⟨z,its,n,r,hl,e⟩:=I.lstM hH;refine b6V F.slot_list_append ⟨_,e,rfl⟩ F.entry_list_append (F.args_list_append_2 _ _) (PySem.list_append l its.toArray n u (by rw[b5a];lia)) ⟨e,?_⟩;refine⟨.non,_,I.lset (its':=its++[u]) hH e (by simp) (r.append (.cons ru .nil)) ?_,rfl,q⟩;rw[b5r,b6R];lia
noncomputable def rCat:R2:=fun x y H Q=>∃l b xs zs,x=.ref l/\y=.ref b/\H l=some (.lst xs)/\H b=some (.lst zs)/\xs.length+zs.length<=sizeLine/\∀p,H p=none->Q (.ref p) (upd H p (.lst (xs++zs)))
theorem b0M:OpR X (binaryOp .Add) rCat:=by
 intro pins s σ H x y v u Q I rx ry h;obtain⟨l,b,xs,zs,rfl,rfl,hH,hB,hz,q⟩:=h;cases rx;cases ry;obtain⟨z,its,n,r,hl,e⟩:=I.lstM hH;obtain⟨z2,its2,n2,r2,hl2,e2⟩:=I.lstM hB;refine PySem.P.add_list e e2 ?_ (by rw[b5a,b5a];lia);have ea:its.toArray++its2.toArray=(its++its2).toArray:=by simp
 rw[ea];exact⟨.ref _,_,I.lnew (t':=s.toks) (r.append r2) (by rw[b5r];lia),rfl,q _ I.fresh⟩
noncomputable def rRep:R2:=fun x y H Q=>∃l k xs,x=.ref l/\y=.int k/\H l=some (.lst xs)/\-(2^63)<=k/\k<2^63/\xs.length*k.toNat<=sizeLine /\
 ∀p,H p=none->Q (.ref p) (upd H p (.lst (b5e k.toNat xs).flatten))
theorem a6G{α:Type}(xs:List α)(k:Nat):(b5e k xs).flatten.length=k*xs.length:=by
 induction k with
 |zero=>simp
 |succ k ih=>rw[b5N,b6C,b5r,ih,c0I,Nat.add_comm]
theorem b3m:OpR X (binaryOp .Mult) rRep:=by
 intro pins s σ H x y v u Q I rx ry h;obtain⟨l,k,xs,rfl,rfl,hH,h1,h2,hz,q⟩:=h;cases rx;obtain⟨t,rfl⟩:=ry;obtain⟨z,its,n,r,hl,e⟩:=I.lstM hH;have hlen:its.toArray.size*k.toNat<=sizeLine:=by rw[b5a,<- hl];exact hz
 have hcap:¬its.toArray.size*k.toNat>(2^63-1) / 8:=by
  have:(sizeLine:Nat)<=(2^63-1) / 8:=by decide
  lia
 have hfit:¬(!Builtin.List.listFitsIndex k)=true:=by
  rw[fitsIndex_both h1 h2];exact b5x
 have hlong:¬b7g (its.toArray.size*k.toNat)=true:=by
  rw[b0i hlen];exact b5x
 have hnew:b7u (fun x1 x2=>x1++x2) #[] (b5e (if its.toArray.isEmpty=true then 0 else k.toNat) its.toArray)=(b5e k.toNat its).flatten.toArray:=by
  have f0:∀m:Nat,b7u (fun x1 x2=>x1++x2) #[] (b5e m its.toArray)=(b5e m its).flatten.toArray:=fun m=>by
   have:=a3L its m [];rw[b7M] at this;exact this
  rw[f0];cases its with
  |nil=>simp
  |cons a r'=>rw[if_neg (by simp)]
 refine b8o (T:="list") (U:="int") (by decide) ⟨_,e,rfl⟩ (fun s'=>b8Y s' k t) noFill_list_mul c0k b7N repeat_list b9Y.lookup
  (b6V b7N (b8Y s k t) b9Z (b9G _ _) (int___rmul___int_list k t l its.toArray n)
   ⟨e,rfl,⟨_,e,rfl⟩,b6V F.slot_list_mul ⟨_,e,rfl⟩ F.entry_list_mul (F.args_list_mul_2 _ _) (AutoListH.list___mul___list_int_3 l its.toArray n k t hfit hcap hlong) ⟨e,?_⟩⟩)
 rw[hnew];exact⟨.ref _,_,I.lnew (t':=s.toks) (r.rep k.toNat) (by rw[a6G,b8a];exact hz),rfl,q _ I.fresh⟩
end
section
variable{prog:b5i}{w:b5B}{A:b5s}{E:VPR}{s:b4U}
end
section
variable{X:Cx}
end
end L2
namespace Att
open PySem PySem.W PySem.Calls PyProof.Rows
theorem a3I{P:Params}{h:Heap}:∀(ns:LSI) (vs:LSV),WellAll P h vs (ns.map WData.int)->c0z vs ns:=by
 intro ns
 induction ns with
 | nil =>
   intro vs w;rw[b8O] at w;cases w;exact .nil
 | cons n ns ih =>
   intro vs w;rw[b5z] at w;cases w with
   | cons a b =>
     cases a;exact .cons _ _ (ih _ b)
theorem a8m{l:OpenLaw}{n:Nat}(hn:l.most=some n){P:Params}{h:Heap}{args:List WData}{vals:LSV}
  (hpre:l.row.toRowW.claim.pre args=true) (hwl:WellAll P h vals args) :
  ∃a vs ns,vals=[b5M a]/\args=[WData.list (ns.map WData.int)]/\h.get? a=some { cls:=.type "list",data:=.seq vs.toArray }/\c0z vs ns/\ns.length<=n:=by
 have hsh:WShape.hasAll [] args [.list .int]=true:=(pre_splitW hpre).1;have hc:l.pre.holds [] { args:=args }=true:=(pre_splitW hpre).2;obtain⟨d,r,rfl,h1,h2⟩:=hasAllW_cons hsh;obtain rfl:=hasAllW_nil h2;obtain⟨xs,rfl,h3⟩:=hasW_list h1;obtain⟨ns,rfl⟩:=items_int h3
 have hlen:ns.length<=n:=by
  unfold OpenLaw.pre at hc
  have h4:(WTm.not (.lt (.lit (.int (n:Int))) (.len (.arg 0)))).holds [] { args:=[.list (ns.map .int)] }=true:=by
   have h4:=(holds_andW hc).1;rw[hn] at h4;exact h4
  have h5:=condW_of h4 (w_not (w_lt w_lit (w_len_list (w_arg rfl))));rw[b4Y] at h5;refine Nat.le_of_not_lt fun q=>?_;have q':(n:Int)<((ns.length:Nat):Int):=by lia
  first
   |(rw[decide_eq_true q'] at h5;exact absurd h5 (by decide))
   |(simp at h5;lia)
 cases hwl with
 | cons w1 w2 =>
   cases w2;cases w1 with
   |list ho hall=>exact⟨_,_,ns,rfl,rfl,ho,a3I ns _ hall,hlen⟩
theorem a8s(l:OpenLaw)(args:List WData):l.row.toRowW.claim.post args (.bool true) args=true :=
 postW_of (r:=l.row.toRowW) (X:=(true==true))
  (show WShape.has [] (.bool true) .bool=true by first|rfl|decide|simp[WShape.has,WShape.arms,WShape.armsAll])
  (show(WTm.eq .res (.lit (.bool true))).value [] { args:=args,res:=some (.bool true),after:=args }=some (.bool (true==true)) from w_eq_bool (w_res rfl) w_lit) rfl
section
variable{prog:b5i}{w:b5B}{A:b5s}{E:VPR}{s:b4U}{K:Frag}
end
end Att
namespace L2
open PySem PySem.Spec PyProof.Rows
theorem a5h:∀{vs:LSV} {ns:LSI},c0z vs ns->Vals (ns.map V.int) vs
 |_,_,.nil=>.nil
 |_,_,.cons n t h=>.cons ⟨t,rfl⟩ (a5h h)
noncomputable def Only(H:Hp):Prop:=∀b,H b=none\/∃o xs,H b=some (.frz o (.lst xs))
noncomputable def a2I(s:Stmt):c0i:=match s with
 |.FunctionDef _ a _ _ _ _ _ _ _ _=>a
 |_=>{ posonlyargs:=[],args:=[],vararg:=none,kwonlyargs:=[],kw_defaults:=[],kwarg:=none,defaults:=[] }
noncomputable def a0Z(s:Stmt):List Stmt:=match s with
 |.FunctionDef _ _ b _ _ _ _ _ _ _=>b
 |_=>[]
noncomputable def a0b(s:Stmt):b6Z:=match s with
 |.FunctionDef _ _ _ _ _ _ sc _ _ _=>sc
 |_=>{ kind:=.function,names:=[],isGenerator:=false,isCoroutine:=false }
noncomputable abbrev CX0:CXT:=fun _ _ _ _ _ _=>False
noncomputable abbrev E0:XK:=fun _ _ _=>False
theorem b4z{X:Cx}:a9B CX0 X E0:=fun _ _ _ _ _ _ _ h=>h.elim
structure Fun(K:PySem.W.Frag)(x qual:Str)(st:Stmt)(f:Addr)(fd:b6g):Prop where
 ex:∃(oc:b5c) (od:Option Addr) (kV doc pm:b5c) (an:Option Addr) (cdv ct:b5c) (osl:AOV),
  fd=PySem.W.fnOf x qual (a2I st) (a0Z st) (a0b st) .none kV doc pm an cdv ct/\K.lookup f=some ⟨oc,od,.func fd,osl⟩/\PySem.W.codeIn K cdv qual=true
 kp:PySem.W.keepIn K (.ref f)=true
section
variable{P:b5i}{w:b5B}{K:PySem.W.Frag}{mg:SOV}{base:Heap}
theorem Fun.ok{x qual:Str}{st:Stmt}{f:Addr}{fd:b6g}{N ps:LSS}{k:Nat}{sp:Sp}(F:Fun K x qual st f fd)(S:FnScope N ps (a0b st))(len:∀vs H Q E,sp vs H Q E->vs.length=ps.length)
  (hbody:∀(cdv:b5c) (A:b5s) (outer:List Env) (s:b4U) (H:Hp) (vs:List V) (Q:VK) (E:XK),Room k (A.deeper (envOfC qual (a0b st) s.heap.objs.size f cdv))->sp vs H Q E ->
   ∃t,PSs (cxOf CX0 P w K mg base N qual (a0b st) f cdv A outer s H E).nox (a0Z st) t/\t { nx:=fun _ H'=>Q .non H',rt:=Q } (start N vs) H):FnOk P w K mg base CX0 (k+1) f fd ps sp:=by
 obtain⟨oc,od,kV,doc,pm,an,cdv,ct,osl,rfl,lk,hcd⟩:=F.ex;refine b4P lk hcd S len fun A outer s H vs Q E hr hsp=>?_;obtain⟨t,h,q⟩:=hbody cdv A outer s H vs Q E hr hsp;exact⟨t,h.nox,q⟩
theorem Fun.binds{x qual:Str}{st:Stmt}{f:Addr}{fd:b6g}{ps:LSS}(F:Fun K x qual st f fd)
  (h:∀(kV doc pm:b5c) (an:Option Addr) (cdv ct:b5c) (us:LSV),us.length=ps.length->bindArgs (PySem.W.fnOf x qual (a2I st) (a0Z st) (a0b st) .none kV doc pm an cdv ct) ⟨us,[]⟩=pure (ps.zip us)):a3Y K fd ps []:=by
 obtain⟨oc,od,kV,doc,pm,an,cdv,ct,osl,rfl,lk,hcd⟩:=F.ex;exact .all (h kV doc pm an cdv ct)
theorem b3R{x qual:Str}{st:Stmt}{f:Addr}{oc:b5c}{od an:Option Addr}{osl:AOV}{kV doc pm cdv ct:b5c}(l:K.lookup f=some ⟨oc,od,.func (PySem.W.fnOf x qual (a2I st) (a0Z st) (a0b st) .none kV doc pm an cdv ct),osl⟩)
  (c:PySem.W.codeIn K cdv qual=true) (k:PySem.W.keepIn K (.ref f)=true):Fun K x qual st f (PySem.W.fnOf x qual (a2I st) (a0Z st) (a0b st) .none kV doc pm an cdv ct):=⟨⟨oc,od,kV,doc,pm,an,cdv,ct,osl,rfl,l,c⟩,k⟩
end
section
variable{X:Cx}
end
theorem ite2{c A B:Prop}[Decidable c](h1:c->A)(h2:¬c->B):if c then A else B:=by
 by_cases h:c
 ·rw[if_pos h];exact h1 h
 ·rw[if_neg h];exact h2 h
noncomputable def Same(H H':Hp):Prop:=∀b o,H b=some o->H' b=some o
theorem Same.refl(H:Hp):Same H H:=fun _ _ h=>h
theorem Same.trans{H H1 H2:Hp}(a:Same H H1)(b:Same H1 H2):Same H H2:=fun c o h=>b c o (a c o h)
end L2
set_option maxHeartbeats 0
namespace L2
open PySem PySem.Spec PyProof.Rows
section
variable{κ:Type}[DecidableEq κ]
noncomputable def b3V(kvs:List (κ×V))(k:κ):List (κ×V):=kvs.filter fun kv=>decide (kv.1≠k)
theorem RelO.getD{o:Option V}{u:OVA}{d:V}{d':b5c}(r:RelO o u)(rd:RelV d d'):RelV (o.getD d) (u.getD d'):=by
 cases o with
 | none=>cases u with
   |none=>exact rd
   |some _=>exact(show False from r).elim
 | some _=>cases u with
   |none=>exact(show False from r).elim
   |some _=>exact r
theorem KV.drop{kvs:List (κ×V)}{vs:List (κ×b5c)}(r:KV kvs vs)(k:κ):KV (b3V kvs k) (without vs k):=by
 unfold KV at r|-
 unfold b3V without
 induction r with
 |nil=>exact .nil
 | @cons p q ps qs h t ih =>
   obtain⟨h1,h2⟩:=h;rw[b8I,b8I];by_cases e:p.1=k
   ·have a:¬decide (p.1≠k)=true:=by simp[e]
    have b:¬decide (q.1≠k)=true:=by simp[h1.symm.trans e]
    rw[if_neg a,if_neg b];exact ih
   ·have e':¬q.1=k:=fun z=>e (h1.trans z);have a:decide (p.1≠k)=true:=by simp[e]
    have b:decide (q.1≠k)=true:=by simp[e']
    rw[if_pos a,if_pos b];exact .cons ⟨h1,h2⟩ ih
theorem KV.length{kvs:List (κ×V)}{vs:List (κ×b5c)}(r:KV kvs vs):kvs.length=vs.length:=Paired.length r
end
section
variable{P:b5i}{w:b5B}{H:Hp}{h:Heap}{a:Addr}
end
section
variable{X:Cx}{pins:PNS}{σ:St}{H:Hp}{s:b4U}{a:Addr}{y v:V}{u r:b5c}{o:Option V}{A:b5s}{E:VPR}
end
section
variable{X:Cx}{pins:PNS}{σ:St}{H:Hp}{s:b4U}{a:Addr}{kvs:List (Key×V)}{k:Key}{u:b5c}{A:b5s}{E:VPR}
end
section
variable{X:Cx}{o i e value:Expr}{pos pos' tpos:Pos}{td ty tv:TE}
end
section
variable{X:Cx}{pos:Pos}
end
structure M1(X:Cx)(o:Expr)(m:Str)(apos:Pos)(e:Expr)(cpos:Pos):Prop where
 base:attributeBase o m X.env (eval o X.env)=eval o X.env
 few:((backTo cpos (starEach [e] X.env)).all (fun x=>!x.1)&&(backToKw cpos (keywordEach [] X.env)).all (fun x=>x.1.isSome)
  && decide (([e]:LSE).length+([]:List c0x).length+(if ([]:List c0x).isEmpty then 0 else 1)<30))=true
 line:QLL apos cpos
 trees:backTo cpos (starEach [e] X.env)=[(false,eval e X.env)]
section
variable{X:Cx}{pins:PNS}{σ:St}{H:Hp}{s:b4U}{a:Addr}{y d:V}{u r:b5c}{o:Option V}{A:b5s}{E:VPR}
end
section
variable{X:Cx}{o e f:Expr}{apos cpos:Pos}{td ty tx:TE}
end
noncomputable def a2w(env:Env):List (Str×b6q)->List (Str×Addr)->List (Str×Addr)
 |[],acc=>acc
 |(n,k)::r,acc=>a2w env r (if k==.free then (n,(env.cells.lookup n).getD 0)::acc else acc)
theorem a1I(env:Env)(n:Str)(k:b6q)(r:List (Str×b6q))(acc:List (Str×Addr)):a2w env ((n,k)::r) acc=a2w env r (if k==.free then (n,(env.cells.lookup n).getD 0)::acc else acc):=rfl
theorem a1U(env:Env)(f:Str×b6q->List (Str×Addr)->Sem (ForInStep (List (Str×Addr))))
  (hf:∀n k cs,f (n,k) cs=if (k==.free)=true then (do let a <- cellOf env n;pure (.yield ((n,a)::cs))) else pure (.yield cs)) :
  ∀(names:List (Str×b6q)) (acc:List (Str×Addr)),(∀y∈names,y.2=.free->∃c,env.cells.lookup y.1=some c)->forIn names acc f=(pure (a2w env names acc):Sem _)
 |[],acc,_=>by rw[c0r];rfl
 | (n,k)::r,acc,h=>by
   rw[List.forIn_cons,hf];have hr:∀y∈r,y.2=.free->∃c,env.cells.lookup y.1=some c:=fun y hy=>h y (b4X _ hy);by_cases hk:(k==b6v)=true
   ·rw[if_pos hk];obtain⟨c,hc⟩:=h (n,k) b5m (by simpa using hk);have hc':env.cells.lookup n=some c:=hc;have e:cellOf env n=pure c:=by unfold cellOf;rw[hc']
    rw[e];simp only[pure_bind];rw[a1U env f hf r _ hr];rw[a1I,if_pos hk,hc'];rfl
   ·rw[if_neg hk];simp only[pure_bind];rw[a1U env f hf r _ hr];rw[a1I,if_neg hk]
theorem a2W(scope:b6Z)(env:Env)(h:∀y∈scope.names,y.2=.free->∃c,env.cells.lookup y.1=some c):closureFor scope env=pure (a2w env scope.names []):=by
 unfold closureFor;dsimp only;rw[a1U env _ (fun n k cs=>by cases hk:(k==b6v)<;>simp[hk]<;>rfl) scope.names [] h];rfl
theorem a2m(env:Env):∀(names:List (Str×b6q)) (acc:List (Str×Addr)) (x:Str) (c:Addr),(a2w env names acc).lookup x=some c ->
  (acc.lookup x=some c\/((x,.free)∈names/\c=(env.cells.lookup x).getD 0))
 |[],acc,x,c,h=>.inl h
 | (n,k)::r,acc,x,c,h=>by
   rw[a1I] at h;rcases a2m env r _ x c h with q|⟨q1,q2⟩
   ·split at q
    ·rename_i hk;have hk':k=.free:=by simpa using hk
     subst hk';rw[b8J] at q;split at q
     ·rename_i hx;have:x=n:=by simpa using hx
      subst this;cases q;exact .inr ⟨b5m,rfl⟩
     ·exact .inl q
    ·exact .inl q
   ·exact .inr ⟨b4X _ q1,q2⟩
theorem a5V(env:Env):∀(names:List (Str×b6q)) (acc:List (Str×Addr)) (x:Str),(∃c,acc.lookup x=some c)->∃c,(a2w env names acc).lookup x=some c
 |[],acc,x,h=>h
 | (n,k)::r,acc,x,h=>by
   rw[a1I];refine a5V env r _ x ?_;split
   ·rw[b8J];split
    ·exact⟨_,rfl⟩
    ·exact h
   ·exact h
theorem a3T(env:Env):∀(names:List (Str×b6q)) (acc:List (Str×Addr)) (x:Str),(x,b6v)∈names->∃c,(a2w env names acc).lookup x=some c
 |[],acc,x,h=>by simp at h
 | (n,k)::r,acc,x,h=>by
   rw[a1I];rcases b5b.mp h with e|h
   ·cases e;refine a5V env r _ _ ?_;rw[if_pos (by decide),b8J];simp
   ·exact a3T env r _ x h
noncomputable def ownB(names:List (Str×b6q))(x:Str):Bool:=names.any fun y=>y.1==x&&y.2==.cell
theorem a7c{names:List (Str×b6q)}{x:Str}:ownB names x=true<->(x,b6W)∈names:=by
 unfold ownB;rw[List.any_eq_true];constructor
 ·rintro⟨⟨n,k⟩,h,e⟩;simp only[b5o,beq_iff_eq] at e;obtain⟨rfl,rfl⟩:=e;exact h
 ·intro h;exact⟨_,h,by simp⟩
theorem a0v:∀(names:List (Str×b6q)) (n:Nat) (acc:List (Str×Addr)),cellsFrom n names acc=cellsFrom n names []++acc
 |[],_,_=>rfl
 | (x,k)::r,n,acc=>by
   unfold cellsFrom;split
   ·rw[a0v r (n+1) ((x,n)::acc),a0v r (n+1) [(x,n)],b8t];rfl
   ·exact a0v r n acc
theorem a1h:∀(names:List (Str×b6q)) (n:Nat) {x:Str} {c:Addr},(x,c)∈cellsFrom n names []->n<=c/\(x,b6W)∈names
 |[],_,_,_,h=>nomatch h
 | (y,k)::r,n,x,c,h=>by
   unfold cellsFrom at h;split at h
   ·rename_i hk;have hk':k=.cell:=by simpa using hk
    subst hk';rw[a0v] at h;rcases b5J.mp h with h|h
    ·have:=a1h r (n+1) h;exact⟨by lia,b4X _ this.2⟩
    ·cases b6h.mp h;exact⟨b5h _,b5m⟩
   ·have:=a1h r n h;exact⟨this.1,b4X _ this.2⟩
theorem a1o:∀(names:List (Str×b6q)) (n:Nat) {x:Str},(x,b6W)∈names->((cellsFrom n names []).lookup x).isSome=true
 |[],_,_,h=>nomatch h
 | (y,k)::r,n,x,h=>by
   unfold cellsFrom;rcases b5b.mp h with e|h
   ·cases e;rw[if_pos (by decide),a0v,b6O];cases hh:(cellsFrom (n+1) r []).lookup y with
    |some c=>rfl
    |none=>simp
   ·have i0:=a1o r n h;have i1:=a1o r (n+1) h;split
    ·rw[a0v,b6O];cases hh:(cellsFrom (n+1) r []).lookup x with
     |some c=>rfl
     |none=>rw[hh] at i1;cases i1
    ·exact i0
theorem a1t:∀(names:List (Str×b6q)) (n:Nat),(cellsFrom n names []).Pairwise fun x y=>x.2≠y.2
 |[],_=>b7v
 | (y,k)::r,n=>by
   unfold cellsFrom;split
   ·rw[a0v];refine List.pairwise_append.mpr ⟨a1t r (n+1),b8B _ _,fun a ha b hb=>?_⟩;rw[b6h.mp hb];have:=(a1h r (n+1) (x:=a.1) (c:=a.2) ha).1;show a.2≠n;exact b6E (Nat.lt_of_succ_le this)
   ·exact a1t r n
theorem a1D{M:b7r}{A:b5s}{E:VPR}{s:b4U}{scope:b6Z}{globals:Addr}{closure:List (Str×Addr)}{qual:Str}{func:Option Addr}{code:b5c}{around:Env}{builtins:Addr}{Q:Env->b4U->Prop}
  (hQ:∀h',h'=pushCells (s.heap.push { cls:=.type "dict",data:=.dict #[] }) scope.names->Q (newEnv scope s.heap.objs.size globals (cellsFrom (s.heap.objs.size+1) scope.names []++closure) qual func code (some around) builtins) { s with heap:=h' }) :
  wpAny M A (newFunctionEnv scope globals closure [] qual func code (some around) builtins) Q E s:=by
 simp only[newFunctionEnv,Option.isSome_some,if_true];refine b4V (wpAny_alloc ?_);refine b4V (wpAny_layCells _ (fun name kind cells=>by cases hkc:kind==b6W<;>simp[hkc]) _ _ _ _ ?_);rw[a0v,show({ s with heap:=s.heap.push { cls:=.type "dict",data:=.dict #[] } }:b4U).heap.objs.size=s.heap.objs.size+1 from b6M ..];refine b4V ?_;rw[c0r];exact b5k (b5k (hQ _ rfl))
section
variable{prog:b5i}{w:b5B}{A:b5s}{R:b8r->b4U->Prop}{s:b4U}
theorem a2v{elt target iter:Expr}{ifs:LSE}{scope:b6Z}{pos:Pos}{it acc:b5c}{env:Env}(I:Nat->b4U->Prop)
  (turn:∀n s,I n s->wpAny (model prog w) A (pyNext it) (fun r s₁=>match r with
   |none=>R (.ok .next) s₁
   | some v=>wpAny (model prog w) A (letOwnedTupleGo target it v) (fun _ s₁'=>wpAny (model prog w) A (assign target env v) (fun _ s₂ =>
     wpAny (model prog w) A (forIn ifs true fun c r=>if r=true then do let ok <- isTrue c env (eval c env);pure (b6S ok) else pure (b6S r)) (fun ok s₃ =>
      if ok=true then wpAny (model prog w) A (eval elt env) (fun x s₄ =>
       wpAny (model prog w) A (call (.builtin "list.append") [acc,x]) (fun _ s₅=>∃m,m<n/\I m s₅) (notedBy (model prog w) A env fun e s'=>R (.error e) s') s₄) (notedBy (model prog w) A env fun e s'=>R (.error e) s') s₃
      else ∃m,m<n/\I m s₃) (notedBy (model prog w) A env fun e s'=>R (.error e) s') s₂) (notedBy (model prog w) A env fun e s'=>R (.error e) s') s₁') (notedBy (model prog w) A env fun e s'=>R (.error e) s') s₁) (notedBy (model prog w) A env fun e s'=>R (.error e) s') s)
  (n:Nat) (h:I n s) :
  codeAny (model prog w) A (.compLoop (.ListComp elt [⟨target,iter,ifs,0⟩] scope pos) 0 it acc env) R s:=by
 refine codeAny_loop rfl I (fun n s hI=>?_) n h
 show wpAny _ A ((compTurn (.ListComp elt [⟨target,iter,ifs,0⟩] scope pos) 0 it acc env).onRaise (fun x=>do noteFrame x env;theTreesLotGoes x)) _ _ s
 refine wpAny_noted ?_;rw[compTurn_list];refine b4V (b6j (b4V (b5I (turn n s hI) (fun r s₁ h₁=>?_) fun _ _ h'=>h')));cases r with
 |none=>exact b5k h₁
 | some v =>
   refine b4V (b5I h₁ (fun _ s₁' h₁'=>b4V (b5I h₁' (fun _ s₂ h₂=>b4V (b5I h₂ (fun ok s₃ h₃=>?_) fun _ _ h'=>h')) fun _ _ h'=>h')) fun _ _ h'=>h');cases ok with
   |false=>exact b5k ⟨rfl,h₃⟩
   | true =>
     exact b4V (b4V (b5I h₃ (fun x s₄ h₄=>b4V (b5I h₄ (fun _ s₅ h₅=>b5k (b5k ⟨rfl,h₅⟩)) fun _ _ h'=>h')) fun _ _ h'=>h'))
end
noncomputable def blk(X:Cx)(N':LSS)(scope:b6Z)(C:Addr)(s:b4U)(H:Hp)(fp:List Addr)(pins:PNS):Cx where
 prog:=X.prog
 w:=X.w
 K:=X.K
 mg:=X.mg
 base:=X.base
 A:=X.A
 N:=N'
 s₀:=s
 H₀:=H
 env:=compEnvC scope (cellsFrom (C+1) scope.names []++a2w X.env scope.names []) C X.env
 outer:=X.stack
 stack:=X.stack
 ex:=fp
 fn:=ownB scope.names
 calm:=X.calm
 pn:=X.pn++pins
 xe:=fun _ _=>False
structure BlkScope(X:Cx)(N':LSS)(ix:List (Option Nat))(scope:b6Z):Prop where
 kind:scope.kind=.function
 locs:∀y∈scope.names,y.2=.local->scope.names.lookup y.1=some .local
 frees:∀y∈scope.names,y.2=.free->(X.env.kindOf y.1=some .cell\/X.env.kindOf y.1=some .free)
 look:∀x k,(relabel scope X.env).names.lookup x=some k->(k=.cell\/k=.free)->(x,b6v)∈scope.names\/(x,b6W)∈scope.names
 lenI:ix.length=N'.length
 at_:∀(i j:Nat) (x:Str),ix[i]?=some (some j)->N'[i]?=some x->X.N[j]?=some x/\(x,b6v)∈scope.names/\ownB scope.names x=false/\(relabel scope X.env).names.lookup x=X.env.kindOf x
variable{X:Cx}{pins:PNS}{σ:St}{H:Hp}{s:b4U}{N':LSS}{ix:List (Option Nat)}{scope:b6Z}
noncomputable def pick(ix:List (Option Nat))(σ:St):St:=ix.map fun o=>match o with|some j=>(σ[j]?).join|none=>none
theorem a4J{i:Nat}{v:V}(e:(pick ix σ)[i]?=some (some v)):∃j,ix[i]?=some (some j)/\σ[j]?=some (some v):=by
 unfold pick at e;rw[b5n] at e;cases h:ix[i]? with
 |none=>rw[h] at e;cases e
 | some o =>
   rw[h] at e;cases o with
   | none =>
     have e':(none:Option V)=some v:=b5p e;cases e'
   | some j =>
     have e':(σ[j]?).join=some v:=b5p e;refine⟨j,rfl,?_⟩;cases hj:σ[j]? with
     |none=>rw[hj] at e';cases e'
     |some u=>rw[hj] at e';exact congrArg some e'
theorem a0K(I:Inv X pins σ H s)(S:BlkScope X N' ix scope)(C:Addr){x:Str}{c:Addr}(e:(cellsFrom (C+1) scope.names []++a2w X.env scope.names []).lookup x=some c) :
  (C<c/\(cellsFrom (C+1) scope.names []).lookup x=some c)\/(ownB scope.names x=false/\X.env.cells.lookup x=some c):=by
 rw[b6O] at e;cases h:(cellsFrom (C+1) scope.names []).lookup x with
 | some c' =>
   rw[h] at e;cases e;exact .inl ⟨(a1h _ _ (mem_of_lookup h)).1,rfl⟩
 | none =>
   rw[h] at e;refine .inr ⟨b9H.mpr fun z=>?_,?_⟩
   ·have:=a1o scope.names (C+1) (a7c.mp z);rw[h] at this;cases this
   ·have e':(a2w X.env scope.names []).lookup x=some c:=e;rcases a2m X.env scope.names [] x c e' with q|⟨q,rfl⟩
    ·cases q
    ·obtain⟨c,hc⟩:=I.ok.has x (S.frees _ q rfl);rw[hc]<;>rfl
theorem b3Y{fp:List Addr}{C:Addr}(I:Inv X pins σ H s)(hf:∀b∈fp,FpOk X pins H b)(S:BlkScope X N' ix scope)(hC:s.heap.objs.size<=C)(hfo:∀b∈fp,∃o,s.heap.get? b=some o) :
  (blk X N' scope C s H fp pins).Ok:=by
 have lt:∀x c,X.env.cells.lookup x=some c->c<C:=fun x c e=>by
  obtain⟨v,z⟩:=I.cell x c e;exact b4W z.lt hC
 refine⟨I.ok.mod,?_,I.ok.glob,I.ok.blt,hC,fun x y c h1 h2=>?_,fun x hx=>?_,fun x c hf' e=>?_,I.ok.hd,I.ok.frames,.inl rfl,fun b hb=>?_,I.bs,b5l I.ok.bsz I.sz,fun b o e hb=>?_,fun b hb hs=>?_,I.stack,I.stkFree⟩
 ·exact S.kind
 ·rcases a0K I S C h1 with ⟨a1,a2⟩|⟨a1,a2⟩<;>rcases a0K I S C h2 with ⟨b1,b2⟩|⟨b1,b2⟩
  ·exact b9N (a1t _ _) (mem_of_lookup a2) (mem_of_lookup b2)
  ·exact absurd (b6G (lt _ _ b2) a1) (b6c _)
  ·exact absurd (b6G (lt _ _ a2) b1) (b6c _)
  ·exact I.ok.inj x y c a2 b2
 ·have hx':(relabel scope X.env).names.lookup x=some .cell\/(relabel scope X.env).names.lookup x=some .free:=hx
  have key:(x,b6v)∈scope.names\/(x,b6W)∈scope.names:=by
   rcases hx' with hx'|hx'
   ·exact S.look x _ hx' (.inl rfl)
   ·exact S.look x _ hx' (.inr rfl)
  show ∃c,(cellsFrom (C+1) scope.names []++a2w X.env scope.names []).lookup x=some c;rw[b6O];cases h:(cellsFrom (C+1) scope.names []).lookup x with
  |some c=>exact⟨c,rfl⟩
  | none =>
    rcases key with k|k
    ·obtain⟨c,hc⟩:=a3T X.env scope.names [] x k;exact⟨c,by rw[hc];rfl⟩
    ·have:=a1o scope.names (C+1) k;rw[h] at this;cases this
 ·rcases a0K I S C e with ⟨a1,a2⟩|⟨a1,a2⟩
  ·exact b6s (b5E hC a1)
  ·have hf2:ownB scope.names x=true:=hf';rw[a1] at hf2;cases hf2
 ·obtain⟨f0,f1,f2,f3,f4,f5⟩:=hf b hb;obtain⟨o,ho⟩:=hfo b hb;refine⟨b5y (b4W (b5d ho) hC),fun x c e=>?_⟩;rcases a0K I S C e with ⟨a1,a2⟩|⟨a1,a2⟩
  ·exact b6E (b6G (b4W (b5d ho) hC) a1)
  ·exact f4 x c a2
 ·obtain⟨f0,f1,f2,f3,f4,f5⟩:=hf b hb;have:=(I.ok.bs b o e).1;rcases f3 with z|z
  ·exact I.ok.noex b o e z
  ·exact absurd (b4W (b5d this) z) (b6c _)
 ·obtain⟨f0,f1,f2,f3,f4,f5⟩:=hf b hb;rcases b5b.mp (I.stkSub b hs) with e|e
  ·exact f1 e
  ·exact f2 e
theorem a6c{fp:List Addr}{C:Addr}{h₁:Heap}{tk:Nat}(I:Inv X pins σ H s)(hf:∀b∈fp,FpOk X pins H b)(S:BlkScope X N' ix scope)(hC:s.heap.objs.size<=C)(hfo:∀b∈fp,∃o,s.heap.get? b=some o)
  (hns:h₁.Ns C (fun _=>none)) (hk:∀b o,s.heap.get? b=some o->h₁.get? b=some o) (hown:∀x c,(x,c)∈cellsFrom (C+1) scope.names []->h₁.IsCell c none) :
  Inv (blk X N' scope C s H fp pins) [] (pick ix σ) H { s with heap:=h₁,toks:=tk }:=by
 have nC:∀b o,s.heap.get? b=some o->b≠C:=fun b o e=>b5y (b4W (b5d e) hC);refine⟨b3Y I hf S hC hfo,rfl,I.bare,Un.kept hk,⟨_,hns,fun i x v h1 h2 h3=>?_⟩,fun x c e=>?_,I.hok.fresh hC,fun x c e=>?_,fun p hp=>?_,I.hok.kept hk,?_⟩
 ·obtain⟨j,e1,e2⟩:=a4J h2;obtain⟨a1,a2,a4,a3⟩:=S.at_ i j x e1 h1;have kd:=S.frees _ a2 rfl
  have vis:Vis X.env.scope x:=by
   rcases kd with k|k
   ·exact .inr (.inl k)
   ·exact .inr (.inr k)
  obtain⟨m,hn,hl⟩:=I.loc;obtain⟨u,r,l⟩:=hl j x v a1 e2 vis;refine⟨u,r,.inr ?_⟩;have kd':X.env.kindOf x=some .cell\/X.env.kindOf x=some .free:=kd;rcases l with ⟨k,_⟩|⟨k,c,ec,z⟩
  ·rcases kd' with q|q<;>(rw[q] at k;cases k)
  ·refine⟨?_,c,?_,z.keeps hk⟩
   ·show(relabel scope X.env).names.lookup x=some .cell\/(relabel scope X.env).names.lookup x=some .free;rw[a3];exact kd'
   ·obtain⟨c',hc'⟩:=a3T X.env scope.names [] x a2;show(cellsFrom (C+1) scope.names []++a2w X.env scope.names []).lookup x=some c
    have hn:(cellsFrom (C+1) scope.names []).lookup x=none:=by
     cases h:(cellsFrom (C+1) scope.names []).lookup x with
     |none=>rfl
     | some c2 =>
       have:=a7c.mpr (a1h _ _ (mem_of_lookup h)).2;rw[a4] at this;cases this
    rw[b6O,hn];show(a2w X.env scope.names []).lookup x=some c;rcases a2m X.env scope.names [] x c' hc' with q|⟨q,q2⟩
    ·cases q
    ·rw[hc',q2,ec];rfl
 ·rcases a0K I S C e with ⟨a1,a2⟩|⟨a1,a2⟩
  ·exact⟨none,hown x c (mem_of_lookup a2)⟩
  ·obtain⟨v,z⟩:=I.cell x c a2;exact⟨v,z.keeps hk⟩
 ·rcases a0K I S C e with ⟨a1,a2⟩|⟨a1,a2⟩
  ·exact I.hok.fresh (b6s (b5E hC a1))
  ·exact I.freeC x c a2
 ·have hp':p∈X.pn++pins:=by
   have:p∈(X.pn++pins)++[]:=hp
   simpa using this
  obtain⟨e,n,ne,nf,d⟩:=I.pin p hp';refine⟨hk _ _ e,n,nC _ _ e,fun hb=>?_,d⟩;rcases b5b.mp (I.stkSub _ hb) with z|z
  ·exact ne z
  ·exact nf z
 ·show(pick ix σ).length=N'.length;unfold pick;rw[b4Y,S.lenI]
theorem b2l{fp:List Addr}{C D:Addr}{h':Heap}{H':Hp}{σ':St}{s':b4U}{ys:List V}{its:LSV}{cap:Nat}(I:Inv X pins σ H s)(hf:∀b∈fp,FpOk X pins H b)(hC:s.heap.objs.size<=C)(hD:s.heap.objs.size<=D)(hDC:D≠C)
  (J:Inv (blk X N' scope C s H fp pins) [] σ' H' s') (hDn:H' D=none) (ho:s'.heap.get? D=some { cls:=.type "list",data:=.seq its.toArray cap }) (r:Vals ys its) (hz:ys.length<=sizeLine) (sb:b7e C s'.heap h') :
  Inv X pins σ (upd H' D (.lst ys)) { s' with heap:=h' }:=by
 have sb':∀b o,b≠C->s'.heap.get? b=some o->h'.get? b=some o:=sb.extBut;have nC:∀b o,s.heap.get? b=some o->b≠C:=fun b o e=>b5y (b4W (b5d e) hC);have nD:∀b o,s.heap.get? b=some o->b≠D:=fun b o e=>b5y (b4W (b5d e) hD);have hCn:H' C=none:=J.free;have u:=J.base;refine I.call' (ch:=fp) (s':={ s' with heap:=h' }) J.os ⟨fun b o e n hb hx=>?_,fun b o e n hb hx=>?_,fun b o e n hx=>?_,fun b o e hx=>?_,fun b xs e=>?_,fun b o v e=>?_,fun b ps e=>?_⟩ (fun b o e=>?_) J.bare (fun b hb=>?_)
 ·exact sb' _ _ (nC b o e) (u.keep b o e n hb hx)
 ·obtain⟨sl,q⟩:=u.slot b o e n hb hx;exact⟨sl,sb' _ _ (nC b o e) q⟩
 ·rw[a0h (nD b o e)];exact u.free b o e n hx
 ·obtain⟨o',q⟩:=u.there b o e hx;exact⟨o',sb' _ _ (nC b o e) q⟩
 ·have q:=u.tups b xs e;rw[a0h (a0k q hDn)];exact q
 ·have q:=u.frzs b o v e;rw[a0h (a0k q hDn)];exact q
 ·obtain⟨m,q⟩:=u.tbls b ps e;exact⟨m,by rw[a0h (a0k q hDn)];exact q⟩
 ·by_cases hb:b=D
  ·subst hb;rw[a0t] at e;cases e;exact⟨hz,its,cap,r,sb' _ _ hDC ho⟩
  ·rw[a0h hb] at e;refine(J.hok b o e).stay (fun c v hc q=>sb' c v ?_ q) (fun c q=>by rw[a0h (a0k q hDn)];exact q) fun c xs q=>by rw[a0h (a0k q hDn)];exact q
   rcases hc with rfl|hc
   ·exact a0k e hCn
   ·exact a0k hc hCn
 ·obtain⟨f0,f1,f2,f3,f4,f5⟩:=hf b hb;exact⟨f3,f1,f4,f5⟩
noncomputable def a9K(wi:TI)(ix:List (Option Nat))(g:TG)(tt:TT)(te:TE):TE:=fun σ H Q=>wi σ H fun J H1=>∃W:Nat->Nat->List V->Hp->Prop,(∃m,W 0 m [] H1)/\∀i m ys H,W i m ys H ->
 (J.stop i H/\ys.length<=sizeLine/\∀p,H p=none->Q (.ref p) (upd H p (.lst ys))) \/
 (J.go i H/\ys.length<sizeLine/\∀x H',J.yld i H x H'->g x (pick ix σ) H' fun σ2 H2=>tt σ2 H2 fun ok H3 =>
  if ok=true then te σ2 H3 fun y H4=>∃m',m'<m/\W (i+1) m' (ys++[y]) H4 else ∃m',m'<m/\W (i+1) m' ys H3)
noncomputable def PTs(X:Cx)(ifs:LSE)(t:TT):Prop :=
 ∀ pins s σ H (Q:Bool->Hp->Prop),Inv X pins σ H s->t σ H Q ->
   wpAny (model X.prog X.w) X.A (forIn ifs true fun c r=>if r=true then do let ok <- isTrue c X.env (eval c X.env);pure (b6S ok) else pure (b6S r)) (TP X pins σ Q) X.xe s
noncomputable def tYes:TT:=fun _ H Q=>Q true H
theorem b1z:PTs X [] tYes:=fun _ _ _ H _ I h=>c0l ⟨H,I,h⟩
theorem b1y{c:Expr}{t:TT}(h:PT X c t):PTs X [c] t:=fun pins s σ H Q I hw=>wpAny_tests_one (h pins s σ H Q I hw)
noncomputable def Agr(ix:List (Option Nat))(σ σ2:St):Prop:=σ2.length=σ.length/\∀(k j:Nat),ix[k]?=some (some j)->σ2[k]?=σ[k]?
noncomputable def Own(ix:List (Option Nat))(g:TG):Prop:=∀(x:V) (σ0 σ:St) (H:Hp) (Q:St->Hp->Prop),Agr ix σ0 σ->g x σ H Q->g x σ H fun σ2 H2=>Q σ2 H2/\Agr ix σ0 σ2
theorem b0d{ix:List (Option Nat)}{i:Nat}(h:ix[i]?=some none):Own ix (a6L i):=by
 intro x σ0 σ H Q a q;refine⟨q,by rw[b5U];exact a.1,fun k j hk=>?_⟩;rw[b5K]
 ·exact a.2 k j hk
 ·rintro rfl;rw[h] at hk;cases hk
theorem a5T {elt iter tg:Expr} {ifs:LSE} {pos posc:Pos} {wi:TI} {g:TG} {tt:TT} {te:TE} (use:Option (b5c->Sem Unit)) (QQ:VPR) (hc:X.calm=true) (hi:PI X tg iter wi) (S:BlkScope X N' ix scope) (ow:Own ix g)
  (hg:∀C s H fp pins,PG (blk X N' scope C s H fp pins) tg g) (ht:∀C s H fp pins,PTs (blk X N' scope C s H fp pins) ifs tt) (he:∀C s H fp pins,PE (blk X N' scope C s H fp pins) elt te)
  (hs:∀x,foldedSetIterable iter X.env x=pure x) (pins:PNS) (s:b4U) (σ:St) (H:Hp) (Q:VK) (I:Inv X pins σ H s) (h:a9K wi ix g tt te σ H Q)
  (hpost:∀(C D:Addr) (H5:Hp) (s4:b4U) (m:SOV),s4.heap.Ns C m->FpOk X pins H5 C->(∀h',b7e C s4.heap h'->Inv X pins σ H5 { s4 with heap:=h' })->Q (.ref D) H5 ->
   compPost (model X.prog X.w) X.A X.xe use QQ (.ref D) C (.ok .next) s4) :
  wpAny (model X.prog X.w) X.A (comprehension (.ListComp elt [⟨tg,iter,ifs,0⟩] scope pos) scope X.env posc (newList []) false (eval iter X.env) use) QQ X.xe s:=by
 refine wpAny_comprehension_free (use:=use) rfl hs (a2W scope X.env fun y hy hk=>I.ok.has y.1 (S.frees y hy hk)) S.kind S.locs (thn (hi pins s σ H _ I h) fun v s1 h1=>thn h1 fun itv s2 h2=>?_);obtain⟨it,fp,tn,J,H2,e,I2,T,st2,f2,W,⟨m0,w0⟩,turn⟩:=h2;subst e
 have hfo:∀b∈fp,∃o,s2.heap.get? b=some o:=fun b hb=>let ⟨o,e,_⟩:=T.obj _ _ st2 b hb;⟨o,e⟩
 refine b6m (a1D (fun h₁ eh₁=>?_))
 dsimp only at eh₁|-
 generalize hH2:s2.heap.push { cls:=.type "list",dict:=none,data:=.seq ([]:LSV).toArray }=Hp2 at eh₁|-
 have hC:Hp2.objs.size=s2.heap.objs.size+1:=by rw[<- hH2,b6M]
 have old1:∀b o,Hp2.get? b=some o->h₁.get? b=some o:=fun b o e=>by rw[eh₁];exact b7O _ _ _ _ (b5f _ e)
 have hns:h₁.Ns Hp2.objs.size (fun _=>none):=by rw[eh₁];exact(c0N Hp2 (.type "dict")).keeps (b7O _ _)
 have hown:∀x c,(x,c)∈cellsFrom (Hp2.objs.size+1) scope.names []->h₁.IsCell c none:=fun x c hm=>by
  have ok:=cellsFrom_ok scope.names (Hp2.push { cls:=.type "dict",data:=.dict #[] }) (Hp2.objs.size+1) [] ⟨fun _ _ hm=>(nomatch hm),b7v⟩ (by rw[b6M];exact b5h _);rw[b6M] at ok;rw[eh₁];exact(ok.empty x c hm).1
 generalize hCC:Hp2.objs.size=C at hns hown hC|-
 generalize hDD:s2.heap.objs.size=D at hC;have hCge:s2.heap.objs.size<=C:=by rw[hDD,hC];exact b9j _
 have hDge:s2.heap.objs.size<=D:=b9R hDD;have hDC:D≠C:=by rw[hC];exact b5y (b6r _)
 have hDlt:D<C:=by rw[hC];exact b6r _
 have old:∀b o,s2.heap.get? b=some o->h₁.get? b=some o:=fun b o e=>old1 b o (hH2▸b5f _ e);have hacc:h₁.get? D=some { cls:=.type "list",data:=.seq ([]:LSV).toArray 0 }:=old1 _ _ (hH2▸hDD▸b5C _ rfl)
 have stat:∀{H':Hp},(∀b∈fp,H' b=none)->∀b∈fp,FpOk (blk X N' scope C s2 H2 fp pins) [] H' b:=fun hn b hb=>by
  obtain⟨f0,f1,f2,f3,f4,f5⟩:=f2 b hb;obtain⟨o,ho⟩:=hfo b hb;refine⟨hn b hb,b5y (b4W (b5d ho) hCge),fun z=>?_,.inl hb,fun x c e=>?_,fun p hp=>?_⟩
  ·rcases b5b.mp (I2.stkSub _ z) with e|e
   ·exact f1 e
   ·exact f2 e
  ·rcases a0K I2 S C e with ⟨a1,a2⟩|⟨a1,a2⟩
   ·exact b6E (b6G (b4W (b5d ho) hCge) a1)
   ·exact f4 x c a2
  ·have:p∈(X.pn++pins)++[]:=hp;exact f5 p (by simpa using this)
 have hDs:D∉(blk X N' scope C s2 H2 fp pins).fs:=fun hb=>by
  rcases b5b.mp (I2.stkSub _ hb) with e|e
  ·rw[e] at hDge;exact absurd (b4W I2.lt hDge) (b6c _)
  ·exact I2.nofs hDge e
 have loop:∀s₃:b4U,s₃={ s2 with heap:=h₁ } ->
   codeAny (model X.prog X.w) X.A (.compLoop (.ListComp elt [⟨tg,iter,ifs,0⟩] scope pos) 0 (.ref it) (.ref D) (compEnvC scope (cellsFrom (C+1) scope.names []++a2w X.env scope.names []) C X.env))
    (compPost (model X.prog X.w) X.A X.xe use QQ (.ref D) C) s₃:=by
  rintro s₃ rfl
  refine a2v (fun n s'=>∃i ys its cap H',Inv (blk X N' scope C s2 H2 fp pins) [] (pick ix σ) H' s'/\tn i s'.heap/\(∀b∈fp,H' b=none)/\H' D=none /\
    s'.heap.get? D=some { cls:=.type "list",data:=.seq (its:LSV).toArray cap }/\Vals ys its/\W i n ys H') ?_ m0
   ⟨0,[],[],0,H2,a6c I2 f2 S hCge hfo hns old hown,T.keep _ _ _ st2 fun b _ o e=>old b o e,fun b hb=>(f2 b hb).1,I2.hok.fresh hDge,hacc,.nil,w0⟩
  rintro n s3 ⟨i,ys,its,cap,H3,I3,st3,fr3,hD3,ho3,r3,w3⟩
  have I3d:Inv (blk X N' scope C s2 H2 fp pins) [(D,{ cls:=.type "list",data:=.seq its.toArray cap })] (pick ix σ) H3 s3:=I3.pins_of fun p hp=>by
   have e:p=(D,{ cls:=.type "list",data:=.seq its.toArray cap }):=by simpa using hp
   subst e;exact⟨ho3,hD3,hDC,hDs,fun v z=>nomatch z⟩
  have statD:∀{H':Hp},(∀b∈fp,H' b=none)->∀b∈fp,FpOk (blk X N' scope C s2 H2 fp pins) [(D,({ cls:=.type "list",data:=.seq its.toArray cap }:Obj))] H' b:=fun hn b hb=>by
   obtain⟨f0,f1,f2,f3,f4,f5⟩:=stat hn b hb;obtain⟨o,ho⟩:=hfo b hb;refine⟨f0,f1,f2,f3,f4,fun p hp=>?_⟩;rcases b5J.mp hp with z|z
   ·exact f5 p (b5v _ z)
   ·have e:p=(D,({ cls:=.type "list",data:=.seq its.toArray cap }:Obj)):=by simpa using z
    subst e;exact b6E (b4W (b5d ho) hDge)
  rcases turn i n ys H3 w3 with ⟨stop,hz,qn⟩|⟨go,hz,step⟩
  ·refine b6k (thn (T.done (blk X N' scope C s2 H2 fp pins) rfl rfl rfl hc i _ s3 (pick ix σ) H3 (fun _ _=>False) I3d (statD fr3) st3 stop) fun r s4 ⟨hr,I4⟩=>?_);subst hr;obtain⟨e4,n4,_⟩:=I4.pin (D,_) (b4Z _ (b6h.mpr rfl));obtain⟨m,hn,_⟩:=id I4.loc;have hC4:H3 C=none:=I4.free;exact hpost C D _ _ m hn (I2.fpOk hCge (by rw[a0h (b6n hDC)];exact hC4)) (fun h' sb=>b2l I2 f2 hCge hDge hDC (Inv.unpinned (pl:=[(D,_)]) (pins:=[]) I4) n4 e4 r3 hz sb) (qn D n4)
  ·refine b6k (thn (T.item (blk X N' scope C s2 H2 fp pins) rfl rfl rfl hc i _ s3 (pick ix σ) H3 (fun _ _=>False) I3d (statD fr3) st3 go) fun r s4 ⟨u,hr,h4⟩=>?_);subst hr;refine b6k (thn h4 fun _ s5 ⟨x,H5,I5,r5,y5,st5,fr5⟩=>?_);have I5':=I5.pinned (statD fr5) (T.obj _ _ st5);have again:∀{σ7:St} {H7:Hp} {s7:b4U},Inv (blk X N' scope C s2 H2 fp pins) ([(D,({ cls:=.type "list",data:=.seq its.toArray cap }:Obj))]++a2k fp s5.heap) σ7 H7 s7 ->
     H7 D=none/\s7.heap.get? D=some { cls:=.type "list",data:=.seq its.toArray cap }/\tn (i+1) s7.heap/\∀b∈fp,H7 b=none:=fun {σ7 H7 s7} I7=>by
    obtain⟨e7,n7,_⟩:=I7.pin (D,_) (b4Z _ (b5v _ (b6h.mpr rfl)));refine⟨n7,e7,T.keep _ _ _ st5 fun b hb o e=>(I7.pin (b,o) (b4Z _ (b4Z _ (a0H hb e)))).1,fun b hb=>?_⟩;obtain⟨o,e,d⟩:=T.obj _ _ st5 b hb;exact(I7.pin (b,o) (b4Z _ (b4Z _ (a0H hb e)))).2.1
   have forget:∀{σ7:St} {H7:Hp} {s7:b4U},Inv (blk X N' scope C s2 H2 fp pins) ([(D,({ cls:=.type "list",data:=.seq its.toArray cap }:Obj))]++a2k fp s5.heap) σ7 H7 s7 ->
     (∀(k:Nat) v,(pick ix σ)[k]?=some (some v)->σ7[k]?=some (some v))->σ7.length=(pick ix σ).length->Inv (blk X N' scope C s2 H2 fp pins) [] (pick ix σ) H7 s7:=fun {σ7 H7 s7} I7 hk hl =>
    (I7.pins_of (pins':=[]) fun _ z=>nomatch z).weak hl.symm hk
   refine b6k (thn (hg C s2 H2 fp pins _ s5 (pick ix σ) H5 x u _ I5' r5 (ow _ _ _ _ _ ⟨rfl,fun _ _ _=>rfl⟩ (step x H5 y5))) fun _ s6 ⟨σ6,H6,I6,q6,l6,k6⟩=>?_)
   have back:∀(k:Nat) v,(pick ix σ)[k]?=some (some v)->σ6[k]?=some (some v):=fun k v e=>by
    obtain⟨j,e1,_⟩:=a4J e;rw[k6 k j e1];exact e
   refine b6k (thn (ht C s2 H2 fp pins _ s6 σ6 H6 _ I6 q6) fun ok s7 ⟨H7,I7,q7⟩=>?_);cases ok with
   | false =>
     rw[if_neg b5x];rw[if_neg b5x] at q7;obtain⟨m',hm,w7⟩:=q7;obtain⟨a1,a2,a3,a4⟩:=again I7;exact⟨m',hm,i+1,ys,its,cap,H7,forget I7 back l6,a3,a4,a1,a2,r3,w7⟩
   | true =>
     rw[if_pos rfl];rw[if_pos rfl] at q7;refine b6k (thn (he C s2 H2 fp pins _ s7 σ6 H7 _ I7 q7) fun z s8 ⟨y,H8,I8,r8,m',hm,w8⟩=>?_);obtain⟨a1,a2,a3,a4⟩:=again I8;have hl:=r3.length;refine b6k (b8C ⟨_,a2⟩ (fun h9 ⟨cap9,p9⟩ sb9=>?_) (by rw[b5a,<- hl];exact b6s hz))
     have I9:Inv (blk X N' scope C s2 H2 fp pins) [] (pick ix σ) H8 { s8 with heap:=h9 } :=
      (forget I8 back l6).turned (t':=s8.toks) (it:=D) (fun b o hb e=>sb9.extBut b o hb e) a1 hDC (.inr hDge) (fun x c e=>by
       rcases a0K I2 S C e with ⟨a1,a2⟩|⟨a1,a2⟩
       ·exact b6E (b6G hDlt a1)
       ·obtain⟨v,z⟩:=I2.cell x c a2
        exact b5y (b4W z.lt hDge)) (fun p hp=>by
       have hp':p∈(X.pn++pins)++[]:=hp
       exact b5y (b4W (b5d (I2.pin p (by simpa using hp')).1) hDge))
     refine⟨m',hm,i+1,ys++[y],its++[z],cap9,H8,I9,?_,a4,a1,?_,r3.append (.cons r8 .nil),w8⟩
     ·refine T.keep _ _ _ a3 fun b hb o e=>sb9.extBut b o ?_ e;obtain⟨o',ho'⟩:=hfo b hb;exact b5y (b4W (b5d ho') hDge)
     ·rw[p9];simp
 exact codeAny_compStart_list (loop _ rfl) (T.self _ _ _ _ _ (T.keep _ _ _ st2 fun b _ o e=>old b o e) (loop _ rfl))
theorem b1J{elt iter tg:Expr}{ifs:LSE}{pos:Pos}{wi:TI}{g:TG}{tt:TT}{te:TE}(hc:X.calm=true)(hi:PI X tg iter wi)(S:BlkScope X N' ix scope)(ow:Own ix g)
  (hg:∀C s H fp pins,PG (blk X N' scope C s H fp pins) tg g) (ht:∀C s H fp pins,PTs (blk X N' scope C s H fp pins) ifs tt) (he:∀C s H fp pins,PE (blk X N' scope C s H fp pins) elt te)
  (hs:∀x,foldedSetIterable iter X.env x=pure x:=by intro _;rfl) :
  PE X (.ListComp elt [⟨tg,iter,ifs,0⟩] scope pos) (a9K wi ix g tt te):=by
 intro pins s σ H Q I h;rw[eval_ListComp];exact a5T none (EP X pins σ Q) hc hi S ow hg ht he hs pins s σ H Q I h fun C D H5 s4 m hn _ inv q=>⟨m,hn,fun h' sb=>⟨.ref D,H5,inv h' sb,rfl,q⟩⟩
theorem b1C{i:Nat}{x:Str}{elt iter tg:Expr}{ifs:LSE}{pos pos' spos:Pos}{wi:TI}{g:TG}{tt:TT}{te:TE}(hN:X.N.Nodup)(hi':X.N[i]?=some x)(hx:Loc X.env.scope x)(hc:X.calm=true)(hi:PI X tg iter wi)(S:BlkScope X N' ix scope)(ow:Own ix g)
  (hg:∀C s H fp pins,PG (blk X N' scope C s H fp pins) tg g) (ht:∀C s H fp pins,PTs (blk X N' scope C s H fp pins) ifs tt) (he:∀C s H fp pins,PE (blk X N' scope C s H fp pins) elt te)
  (hsw:swapsWith (.ListComp elt [⟨tg,iter,ifs,0⟩] scope pos) (some (.Name x pos')) spos.line X.env=pure true)
  (hs:∀x,foldedSetIterable iter X.env x=pure x:=by intro _;rfl) (hf:QXX X x:=by first|exact .inl rfl|exact .inr rfl|assumption) :
  PS X (.Assign [.Name x pos'] (.ListComp elt [⟨tg,iter,ifs,0⟩] scope pos) spos) (tAsg (a9K wi ix g tt te) (a6L i)):=by
 intro pins s σ H D I h;rw[exec_Assign_Name_used _ _ _ _ hsw];refine b4V (b6j (b4V ?_))
 show wpAny _ X.A (do let _ <- comprehension (.ListComp elt [⟨tg,iter,ifs,0⟩] scope pos) scope X.env _ (newList []) false (eval iter X.env) (some (assign (.Name x pos') X.env))) _ _ s
 refine b4V (thn (a5T (some (assign (.Name x pos') X.env)) (fun _ s'=>SP X pins D .next s') hc hi S ow hg ht he hs pins s σ H _ I h ?_) fun _ s' hq=>b5k (b5k hq));intro C D2 H5 s4 m hn fp inv q;have I5:Inv X pins σ H5 s4:=inv s4.heap (Heap.SameBut.refl _ _);refine b9A (a5o I5 hN hi' hx (v:=.ref D2) rfl (fun s5 I6 ⟨a,sb,ha⟩=>?_) hf);obtain⟨f0,f1,f2,f3,f4,f5⟩:=fp
 have hac:a≠C:=by
  rcases ha with rfl|ha
  ·exact b6n f1
  ·exact f4 x a ha
 refine⟨m,hn.sameBut sb (b6n hac),fun h' sb'=>⟨_,H5,I6.turned (t':=s5.toks) (it:=C) (fun b o hb e=>sb'.extBut b o hb e) f0 f1 f3 f4 f5,q⟩⟩
noncomputable def a9R(scope outer:b6Z):b6Z :=
 { scope with names:=scope.names.map fun(n,k)=>if (k==.free&&outer.kind==.function&&outer.names.lookup n==some .cell) then (n,.cell) else (n,k) }
theorem a5u{scope:b6Z}{env:Env}{x:Str}{k:b6q}(h:(relabel scope env).names.lookup x=some k)(hk:k=.cell\/k=.free):(x,b6v)∈scope.names\/(x,b6W)∈scope.names:=by
 have hm:(x,k)∈(relabel scope env).names:=PySem.mem_of_lookup h;unfold relabel at hm;obtain⟨⟨n,k0⟩,h1,h2⟩:=b8b.mp hm;dsimp only at h2;split at h2
 ·rename_i hc;have e1:n=x:=(c0O h2).1;subst e1
  have:k0=b6v:=by
   simp only[b5o,beq_iff_eq] at hc;exact hc.1.1
  rw[this] at h1;exact .inl h1
 ·have e1:=c0O h2;obtain⟨rfl,rfl⟩:=e1;rcases hk with rfl|rfl
  ·exact .inr h1
  ·exact .inl h1
noncomputable def blkB(outer:b6Z)(N N':LSS)(ix:List (Option Nat))(scope:b6Z):Bool :=
 decide (scope.kind=.function)&&decide (outer.kind=.function)&&scope.names.all (fun y=>decide (y.2=.local->scope.names.lookup y.1=some .local)) &&
 scope.names.all (fun y=>decide (y.2=.free->(outer.names.lookup y.1=some .cell\/outer.names.lookup y.1=some .free)))&&decide (ix.length=N'.length) &&
 (b5S ix.length).all fun i=>match ix[i]?,N'[i]? with
  | some (some j),some x=>decide (N[j]?=some x)&&decide ((x,b6v)∈scope.names)&&!ownB scope.names x &&
    decide ((a9R scope outer).names.lookup x=outer.names.lookup x)
  |_,_=>true
theorem a3V{X:Cx}{outer scope:b6Z}{N N':LSS}{ix:List (Option Nat)}(h:blkB outer N N' ix scope=true)(ho:X.env.scope=outer)(hN:X.N=N):BlkScope X N' ix scope:=by
 unfold blkB at h;simp only[b5o,decide_eq_true_eq,b6i] at h;obtain⟨⟨⟨⟨⟨h1,h2⟩,h4⟩,h5⟩,h6⟩,h7⟩:=h;subst ho hN;refine⟨h1,h4,h5,fun x k hl hk=>a5u hl hk,h6,fun i j x e1 e2=>?_⟩;have hi:i<ix.length:=(b5q.mp e1).1;have q:=h7 i (b8m.mpr hi);rw[e1,e2] at q;simp only[b5o,decide_eq_true_eq,b7w] at q;exact⟨q.1.1.1,q.1.1.2,q.1.2,q.2⟩
theorem PE.imp{X:Cx}{e:Expr}{t t':TE}(h:PE X e t)(f:∀σ H Q,t' σ H Q->t σ H Q):PE X e t':=fun pins s σ H Q I q=>h pins s σ H Q I (f σ H Q q)
theorem PT.imp{X:Cx}{e:Expr}{t t':TT}(h:PT X e t)(f:∀σ H Q,t' σ H Q->t σ H Q):PT X e t':=fun pins s σ H Q I q=>h pins s σ H Q I (f σ H Q q)
theorem PA.imp{X:Cx}{e:LSE}{t t':TA}(h:PA X e t)(f:∀σ H Q,t' σ H Q->t σ H Q):PA X e t':=fun pos pins s σ H Q I q=>h pos pins s σ H Q I (f σ H Q q)
theorem PS.imp{X:Cx}{e:Stmt}{t t':TS}(h:PS X e t)(f:∀D σ H,t' D σ H->t D σ H):PS X e t':=fun pins s σ H D I q=>h pins s σ H D I (f D σ H q)
theorem PSs.imp{X:Cx}{e:List Stmt}{t t':TS}(h:PSs X e t)(f:∀D σ H,t' D σ H->t D σ H):PSs X e t':=fun pins s σ H D I q=>h pins s σ H D I (f D σ H q)
inductive T where
 |non|bl (b:Bool)|int (i:Int)|str (x:Str)|tup (ts:List T)|adr (a:Addr)
 /-- a list that never changes (the script;a module's own) -/
 |rd (ts:List T)
 /-- a tuple of whole numbers that can be a dict's key -/
 |dic (ks:LSI) (ts:List T)
noncomputable def FzL(K:PySem.W.Frag)(H:Hp)(a:Addr)(xs:List V):Prop :=
 (∃o,H a=some (.frz o (.lst xs))) \/
  ∃(o:Obj) (its:Array b5c) (n:Nat),K.lookup a=some o/\o.cls=.type "list"/\o.dict=none/\o.data=.seq its n/\its.size<=sizeLine/\Vals xs its.toList
theorem FzL.sq{K:PySem.W.Frag}{H:Hp}{a:Addr}{xs:List V}(h:FzL K H a xs):SqL K H a xs:=by
 rcases h with ⟨o,h⟩|h
 ·exact .inl (.inr ⟨o,h⟩)
 ·exact .inr h
mutual
noncomputable def Rep(K:PySem.W.Frag)(H:Hp):V->T->Prop
 |v,.non=>v=.non
 |v,.bl b=>v=.bl b
 |v,.int i=>v=.int i
 |v,.str x=>v=.str x
 |v,.adr a=>v=.ref a
 |v,.tup ts=>∃a xs,v=.ref a/\SqT K H a xs/\Reps K H xs ts
 |v,.rd ts=>∃a xs,v=.ref a/\FzL K H a xs/\Reps K H xs ts
 |v,.dic ks _=>∃b,v=.ref b/\H b=some (.tup (ks.map V.int))
noncomputable def Reps(K:PySem.W.Frag)(H:Hp):List V->List T->Prop
 |vs,[]=>vs=[]
 |vs,t::ts=>∃v r,vs=v::r/\Rep K H v t/\Reps K H r ts
end
structure Kp(K:PySem.W.Frag)(H H':Hp):Prop where
 tup:∀a xs,SqT K H a xs->SqT K H' a xs
 frz:∀a o u,H a=some (.frz o u)->H' a=some (.frz o u)
 tr:∀a xs,H a=some (.tup xs)->H' a=some (.tup xs)
theorem Kp.refl{K:PySem.W.Frag}{H:Hp}:Kp K H H:=⟨fun _ _ h=>h,fun _ _ _ h=>h,fun _ _ h=>h⟩
theorem Kp.trans{K:PySem.W.Frag}{H H1 H2:Hp}(a:Kp K H H1)(b:Kp K H1 H2):Kp K H H2:=⟨fun _ _ h=>b.tup _ _ (a.tup _ _ h),fun _ _ _ h=>b.frz _ _ _ (a.frz _ _ _ h),fun _ _ h=>b.tr _ _ (a.tr _ _ h)⟩
structure KpW(K:PySem.W.Frag)(H H':Hp):Prop where
 tup:∀a xs,SqT K H a xs->SqT K H' a xs
 frz:∀a o u,H a=some (.frz o u)->H' a=some (.frz o u)
 tr:∀a xs,H a=some (.tup xs)->H' a=some (.tup xs)
theorem Kp.w{K:PySem.W.Frag}{H H':Hp}(k:Kp K H H'):KpW K H H':=⟨k.tup,k.frz,k.tr⟩
theorem KpW.fz{K:PySem.W.Frag}{H H':Hp}{a:Addr}{xs:List V}(k:KpW K H H')(h:FzL K H a xs):FzL K H' a xs:=by
 rcases h with ⟨o,h⟩|h
 ·exact .inl ⟨o,k.frz _ _ _ h⟩
 ·exact .inr h
mutual
theorem Rep.kw{K:PySem.W.Frag}{H H':Hp}(k:KpW K H H'):∀(v:V) (t:T),Rep K H v t->Rep K H' v t
 |v,.non,h=>h
 |v,.bl b,h=>h
 |v,.int i,h=>h
 |v,.str x,h=>h
 |v,.adr a,h=>h
 | v,.tup ts,h=>by
   unfold Rep at h|-
   obtain⟨a,xs,e,h1,h2⟩:=h;exact⟨a,xs,e,k.tup _ _ h1,Reps.kw k xs ts h2⟩
 | v,.rd ts,h=>by
   unfold Rep at h|-
   obtain⟨a,xs,e,h1,h2⟩:=h;exact⟨a,xs,e,k.fz h1,Reps.kw k xs ts h2⟩
 | v,.dic ks ts,h=>by
   unfold Rep at h|-
   obtain⟨b,e,h1⟩:=h;exact⟨b,e,k.tr _ _ h1⟩
theorem Reps.kw{K:PySem.W.Frag}{H H':Hp}(k:KpW K H H'):∀(vs:List V) (ts:List T),Reps K H vs ts->Reps K H' vs ts
 |vs,[],h=>h
 | vs,t::ts,h=>by
   unfold Reps at h|-
   obtain⟨v,r,e,h1,h2⟩:=h;exact⟨v,r,e,Rep.kw k v t h1,Reps.kw k r ts h2⟩
end
theorem Rep.kp{K:PySem.W.Frag}{H H':Hp}(k:Kp K H H')(v:V)(t:T)(h:Rep K H v t):Rep K H' v t:=Rep.kw k.w v t h
theorem Reps.kp{K:PySem.W.Frag}{H H':Hp}(k:Kp K H H')(vs:List V)(ts:List T)(h:Reps K H vs ts):Reps K H' vs ts:=Reps.kw k.w vs ts h
section
variable{K:PySem.W.Frag}{H:Hp}
theorem Reps.cons{v:V}{t:T}{vs:List V}{ts:List T}(h:Rep K H v t)(r:Reps K H vs ts):Reps K H (v::vs) (t::ts):=by
 unfold Reps;exact⟨v,vs,rfl,h,r⟩
theorem Reps.nil:Reps K H [] []:=by unfold Reps;rfl
theorem Reps.length:∀{vs:List V} {ts:List T},Reps K H vs ts->vs.length=ts.length
 |vs,[],h=>by unfold Reps at h;subst h;rfl
 | vs,t::ts,h=>by
   unfold Reps at h;obtain⟨v,r,rfl,_,h2⟩:=h;rw[b5j,b5j,Reps.length h2]
theorem Reps.get:∀{vs:List V} {ts:List T} {i:Nat} {t:T},Reps K H vs ts->ts[i]?=some t->∃v,vs[i]?=some v/\Rep K H v t
 |_,[],_,_,_,e=>by simp at e
 | vs,t::ts,0,u,h,e=>by
   unfold Reps at h;obtain⟨v,r,rfl,h1,_⟩:=h;simp at e;subst e;exact⟨v,rfl,h1⟩
 | vs,t::ts,i+1,u,h,e=>by
   unfold Reps at h;obtain⟨v,r,rfl,_,h2⟩:=h;obtain⟨w,q1,q2⟩:=Reps.get (i:=i) h2 (by simpa using e);exact⟨w,by simpa using q1,q2⟩
theorem Reps.append:∀{vs:List V} {ts:List T} {ws:List V} {us:List T},Reps K H vs ts->Reps K H ws us->Reps K H (vs++ws) (ts++us)
 |vs,[],_,_,h,g=>by unfold Reps at h;subst h;exact g
 | vs,t::ts,_,_,h,g=>by
   unfold Reps at h;obtain⟨v,r,rfl,h1,h2⟩:=h;exact .cons h1 (Reps.append h2 g)
theorem Reps.take:∀{vs:List V} {ts:List T} (n:Nat),Reps K H vs ts->Reps K H (vs.take n) (ts.take n)
 |_,_,0,_=>.nil
 |vs,[],n+1,h=>by unfold Reps at h;subst h;exact .nil
 | vs,t::ts,n+1,h=>by
   unfold Reps at h;obtain⟨v,r,rfl,h1,h2⟩:=h;exact .cons h1 (Reps.take n h2)
theorem Reps.drop:∀{vs:List V} {ts:List T} (n:Nat),Reps K H vs ts->Reps K H (vs.drop n) (ts.drop n)
 |_,_,0,h=>h
 |vs,[],n+1,h=>by unfold Reps at h;subst h;exact .nil
 | vs,t::ts,n+1,h=>by
   unfold Reps at h;obtain⟨v,r,rfl,h1,h2⟩:=h;exact Reps.drop n h2
theorem Reps.set{v:V}{t:T}(g:Rep K H v t):∀{vs:List V} {ts:List T} (n:Nat),Reps K H vs ts->Reps K H (vs.set n v) (ts.set n t)
 |vs,[],n,h=>by unfold Reps at h;subst h;exact .nil
 | vs,u::ts,0,h=>by
   unfold Reps at h;obtain⟨v,r,rfl,h1,h2⟩:=h;exact .cons g h2
 | vs,u::ts,n+1,h=>by
   unfold Reps at h;obtain⟨v,r,rfl,h1,h2⟩:=h;exact .cons h1 (Reps.set g n h2)
theorem Reps.reverse:∀{vs:List V} {ts:List T},Reps K H vs ts->Reps K H vs.reverse ts.reverse
 |vs,[],h=>by unfold Reps at h;subst h;exact .nil
 | vs,u::ts,h=>by
   unfold Reps at h;obtain⟨v,r,rfl,h1,h2⟩:=h;rw[b7t,b7t];exact(Reps.reverse h2).append (.cons h1 .nil)
theorem Reps.of_ints:∀(ns:LSI),Reps K H (ns.map V.int) (ns.map T.int)
 |[]=>.nil
 |n::ns=>.cons (by unfold Rep;rfl) (Reps.of_ints ns)
end
inductive MO where
 /-- a list that may be written -/
 |lst (ts:List T)
 /-- a dict that may be written: keys whole numbers or texts -/
 |dk (kvs:List (Key×T))
 /-- the same,keys tuples of such -/
 |dt (kvs:List (List Key×T))
 /-- the same,walked: it may not be written any more -/
 |fz (kvs:List (List Key×T))
 /-- a dict with keys whole numbers or texts that may not be written any more (a walk may go over it) -/
 |fk (kvs:List (Key×T))
 /-- an object of an own class,its fields -/
 |ob (C:Addr) (fs:List (Str×T))
noncomputable abbrev MH:=Addr->Option MO
noncomputable def updM(M:MH)(a:Addr)(o:MO):MH:=fun b=>if b=a then some o else M b
theorem a0c{M:MH}{a:Addr}{o:MO}:updM M a o a=some o:=if_pos rfl
theorem a0C{M:MH}{a b:Addr}{o:MO}(h:b≠a):updM M a o b=M b:=if_neg h
noncomputable def Sub(M M':MH):Prop:=∀a o,M a=some o->M' a=some o
theorem Sub.refl{M:MH}:Sub M M:=fun _ _ h=>h
theorem Sub.trans{M M1 M2:MH}(a:Sub M M1)(b:Sub M1 M2):Sub M M2:=fun _ _ h=>b _ _ (a _ _ h)
theorem Sub.new{M:MH}{p:Addr}{o:MO}(h:M p=none):Sub M (updM M p o):=fun b u q=>by
 rw[a0C]
 ·exact q
 ·rintro rfl;rw[h] at q;cases q
noncomputable def KRep{κ:Type}(K:PySem.W.Frag)(H:Hp):List (κ×V)->List (κ×T)->Prop
 |[],[]=>True
 |p::r,q::u=>p.1=q.1/\Rep K H p.2 q.2/\KRep K H r u
 |_,_=>False
theorem KRep.kp{κ:Type}{K:PySem.W.Frag}{H H':Hp}(k:Kp K H H'):∀{xs:List (κ×V)} {kvs:List (κ×T)},KRep K H xs kvs->KRep K H' xs kvs
 |[],[],_=>trivial
 |p::r,q::u,h=>⟨h.1,Rep.kp k _ _ h.2.1,KRep.kp k h.2.2⟩
 |[],q::u,h=>h.elim
 |p::r,[],h=>h.elim
theorem KRep.length{κ:Type}{K:PySem.W.Frag}{H:Hp}:∀{xs:List (κ×V)} {kvs:List (κ×T)},KRep K H xs kvs->xs.length=kvs.length
 |[],[],_=>rfl
 |p::r,q::u,h=>by rw[b5j,b5j,KRep.length h.2.2]
 |[],q::u,h=>h.elim
 |p::r,[],h=>h.elim
noncomputable def MOk(K:PySem.W.Frag)(H:Hp)(a:Addr):MO->Prop
 |.lst ts=>∃xs,H a=some (.lst xs)/\Reps K H xs ts
 |.dk kvs=>∃xs,H a=some (.dK xs)/\KRep K H xs kvs
 |.dt kvs=>∃xs,H a=some (.dT xs)/\KRep K H xs kvs
 |.fz kvs=>∃o xs,H a=some (.frz o (.dT xs))/\KRep K H xs kvs
 |.fk kvs=>∃xs,Rd H a (.dK xs)/\KRep K H xs kvs
 |.ob C fs=>∃dx xs,H a=some (.ins C dx xs)/\KRep K H xs fs
noncomputable def HR(K:PySem.W.Frag)(H:Hp)(M:MH):Prop:=∀a o,M a=some o->MOk K H a o
theorem HR.sub{K:PySem.W.Frag}{H:Hp}{M M':MH}(h:HR K H M')(s:Sub M M'):HR K H M:=fun a o e=>h a o (s a o e)
noncomputable abbrev En:=List (Option T)
noncomputable def RhoR(K:PySem.W.Frag)(σ:St)(H:Hp)(ρ:En):Prop:=σ.length=ρ.length/\∀(i:Nat) (t:T),ρ[i]?=some (some t)->∃v,σ[i]?=some (some v)/\Rep K H v t
theorem RhoR.kp{K:PySem.W.Frag}{σ:St}{H H':Hp}{ρ:En}(h:RhoR K σ H ρ)(k:Kp K H H'):RhoR K σ H' ρ:=⟨h.1,fun i t e=>let ⟨v,a,b⟩:=h.2 i t e;⟨v,a,Rep.kp k _ _ b⟩⟩
theorem RhoR.set{K:PySem.W.Frag}{σ:St}{H:Hp}{ρ:En}{v:V}{t:T}(h:RhoR K σ H ρ)(i:Nat)(r:Rep K H v t):RhoR K (σ.set i (some v)) H (ρ.set i (some t)):=by
 refine⟨by rw[b5U,b5U,h.1],fun j u e=>?_⟩;by_cases hj:i=j
 ·subst hj
  have hi:i<ρ.length:=by
   have:=(b5q.mp e).1
   rwa [b5U] at this
  rw[b5L hi] at e;cases e;exact⟨v,b5L (show i<b6Q σ by rw[h.1];exact hi),r⟩
 ·rw[b5K hj] at e;rw[b5K hj];exact h.2 j u e
noncomputable abbrev VK3:=T->MH->Prop
noncomputable abbrev TE3:=En->MH->VK3->Prop
noncomputable abbrev TT3:=En->MH->(Bool->MH->Prop)->Prop
noncomputable abbrev TA3:=En->MH->(List T->MH->Prop)->Prop
structure Ends3 where
 nx:En->MH->Prop
 rt:VK3
 bk:En->MH->Prop:=fun _ _=>False
 ct:En->MH->Prop:=fun _ _=>False
noncomputable abbrev TS3:=Ends3->En->MH->Prop
noncomputable def EndE(K:PySem.W.Frag)(H:Hp)(Q:VK3)(Q2:VK):Prop:=∀t v M' H',Kp K H H'->HR K H' M'->Rep K H' v t->Q t M'->Q2 v H'
theorem EndE.kp{K:PySem.W.Frag}{H H':Hp}{Q:VK3}{Q2:VK}(h:EndE K H Q Q2)(k:Kp K H H'):EndE K H' Q Q2:=fun t v M' H1 k1=>h t v M' H1 (k.trans k1)
noncomputable def bE(K:PySem.W.Frag)(ρ:En)(M:MH)(Q:VK3):TE:=fun σ H Q2=>RhoR K σ H ρ/\HR K H M/\EndE K H Q Q2
noncomputable def HE(X:Cx)(e:Expr)(t:TE3):Prop:=∀ρ M Q,t ρ M Q->PE X e (bE X.K ρ M Q)
noncomputable def EndT(K:PySem.W.Frag)(H:Hp)(Q:Bool->MH->Prop)(Q2:Bool->Hp->Prop):Prop:=∀b M' H',Kp K H H'->HR K H' M'->Q b M'->Q2 b H'
noncomputable def bT(K:PySem.W.Frag)(ρ:En)(M:MH)(Q:Bool->MH->Prop):TT:=fun σ H Q2=>RhoR K σ H ρ/\HR K H M/\EndT K H Q Q2
noncomputable def HT(X:Cx)(e:Expr)(t:TT3):Prop:=∀ρ M Q,t ρ M Q->PT X e (bT X.K ρ M Q)
noncomputable def EndA(K:PySem.W.Frag)(H:Hp)(Q:List T->MH->Prop)(Q2:List V->Hp->Prop):Prop:=∀ts vs M' H',Kp K H H'->HR K H' M'->Reps K H' vs ts->Q ts M'->Q2 vs H'
noncomputable def bA(K:PySem.W.Frag)(ρ:En)(M:MH)(Q:List T->MH->Prop):TA:=fun σ H Q2=>RhoR K σ H ρ/\HR K H M/\EndA K H Q Q2
noncomputable def HA(X:Cx)(es:LSE)(t:TA3):Prop:=∀ρ M Q,t ρ M Q->PA X es (bA X.K ρ M Q)
structure EndS(K:PySem.W.Frag)(H:Hp)(D:Ends3)(D2:Ends):Prop where
 nx:∀ρ' M' σ' H',Kp K H H'->RhoR K σ' H' ρ'->HR K H' M'->D.nx ρ' M'->D2.nx σ' H'
 rt:EndE K H D.rt D2.rt
 bk:∀ρ' M' σ' H',Kp K H H'->RhoR K σ' H' ρ'->HR K H' M'->D.bk ρ' M'->D2.bk σ' H'
 ct:∀ρ' M' σ' H',Kp K H H'->RhoR K σ' H' ρ'->HR K H' M'->D.ct ρ' M'->D2.ct σ' H'
theorem EndS.kp{K:PySem.W.Frag}{H H':Hp}{D:Ends3}{D2:Ends}(h:EndS K H D D2)(k:Kp K H H'):EndS K H' D D2 :=
 ⟨fun a b c d k1=>h.nx a b c d (k.trans k1),h.rt.kp k,fun a b c d k1=>h.bk a b c d (k.trans k1),fun a b c d k1=>h.ct a b c d (k.trans k1)⟩
noncomputable def bS(K:PySem.W.Frag)(D:Ends3)(ρ:En)(M:MH):TS:=fun D2 σ H=>RhoR K σ H ρ/\HR K H M/\EndS K H D D2
noncomputable def HS(X:Cx)(st:Stmt)(t:TS3):Prop:=∀D ρ M,t D ρ M->PS X st (bS X.K D ρ M)
noncomputable def HSs(X:Cx)(st:List Stmt)(t:TS3):Prop:=∀D ρ M,t D ρ M->PSs X st (bS X.K D ρ M)
noncomputable def dE(K:PySem.W.Frag)(ρ:En)(t:TE3):TE:=fun σ H Q2=>∃M Q,t ρ M Q/\bE K ρ M Q σ H Q2
noncomputable def dT(K:PySem.W.Frag)(ρ:En)(t:TT3):TT:=fun σ H Q2=>∃M Q,t ρ M Q/\bT K ρ M Q σ H Q2
noncomputable def dA(K:PySem.W.Frag)(ρ:En)(t:TA3):TA:=fun σ H Q2=>∃M Q,t ρ M Q/\bA K ρ M Q σ H Q2
noncomputable def dS(K:PySem.W.Frag)(t:TS3):TS:=fun D2 σ H=>∃D ρ M,t D ρ M/\bS K D ρ M D2 σ H
section
variable{X:Cx}{e:Expr}{es:LSE}{st:Stmt}{sts:List Stmt}{ρ:En}
theorem HE.d{t:TE3}(h:HE X e t):PE X e (dE X.K ρ t):=fun pins s σ H Q I ⟨M,Q3,q,b⟩=>h ρ M Q3 q pins s σ H Q I b
theorem HT.d{t:TT3}(h:HT X e t):PT X e (dT X.K ρ t):=fun pins s σ H Q I ⟨M,Q3,q,b⟩=>h ρ M Q3 q pins s σ H Q I b
theorem HA.d{t:TA3}(h:HA X es t):PA X es (dA X.K ρ t):=fun pos pins s σ H Q I ⟨M,Q3,q,b⟩=>h ρ M Q3 q pos pins s σ H Q I b
theorem HS.d{t:TS3}(h:HS X st t):PS X st (dS X.K t):=fun pins s σ H D I ⟨D3,ρ,M,q,b⟩=>h D3 ρ M q pins s σ H D I b
theorem HSs.d{t:TS3}(h:HSs X sts t):PSs X sts (dS X.K t):=fun pins s σ H D I ⟨D3,ρ,M,q,b⟩=>h D3 ρ M q pins s σ H D I b
end
mutual
noncomputable def eqT:T->T->Bool
 |.non,.non=>true
 |.bl a,.bl b=>a==b
 |.bl a,.int b=>(if a then 1 else 0)==b
 |.int a,.bl b=>a==(if b then 1 else 0)
 |.int a,.int b=>a==b
 |.str a,.str b=>a==b
 |.tup a,.tup b=>eqTs a b
 |_,_=>false
noncomputable def eqTs:List T->List T->Bool
 |[],[]=>true
 |x::xs,y::ys=>eqT x y&&eqTs xs ys
 |_,_=>false
end
mutual
noncomputable def a0j:T->Bool
 |.adr _=>false
 |.rd _=>false
 |.dic _ _=>false
 |.tup ts=>a0N ts
 |_=>true
noncomputable def a0N:List T->Bool
 |[]=>true
 |t::ts=>a0j t&&a0N ts
end
mutual
noncomputable def depT:T->Nat
 |.tup ts=>a2H ts+1
 |_=>0
noncomputable def a2H:List T->Nat
 |[]=>0
 |t::ts=>max (depT t) (a2H ts)
end
theorem a1G:∀{ts:List T} {j:Nat} {t:T},a0N ts=true->ts[j]?=some t->a0j t=true
 |[],_,_,_,e=>by simp at e
 |x::ts,0,t,h,e=>by simp at e;subst e;unfold a0N at h;exact(b5o _ _▸h).1
 | x::ts,j+1,t,h,e=>by
   unfold a0N at h;exact a1G (j:=j) (b5o _ _▸h).2 (by simpa using e)
theorem a3M:∀{ts:List T} {j:Nat} {t:T},ts[j]?=some t->depT t<=a2H ts
 |[],_,_,e=>by simp at e
 |x::ts,0,t,e=>by simp at e;subst e;unfold a2H;exact Nat.le_max_left _ _
 | x::ts,j+1,t,e=>by
   have:=a3M (ts:=ts) (j:=j) (t:=t) (by simpa using e);unfold a2H;exact b5l this (Nat.le_max_right _ _)
noncomputable def eqJ(xs ys:List T)(j:Nat):Bool:=match xs[j]?,ys[j]? with
 |some x,some y=>eqT x y
 |_,_=>true
theorem a2t:∀(xs ys:List T),(((b5S (min xs.length ys.length)).all (eqJ xs ys))&&(xs.length==ys.length))=eqTs xs ys
 |[],[]=>by unfold eqTs;rfl
 |[],y::ys=>by unfold eqTs;simp
 |x::xs,[]=>by unfold eqTs;simp
 | x::xs,y::ys=>by
   unfold eqTs;rw[<- a2t xs ys];rw[b5j,b5j,Nat.succ_min_succ,List.range_succ_eq_map,b6U,b9S];have e1:eqJ (x::xs) (y::ys) 0=eqT x y:=rfl
   have e2:(eqJ (x::xs) (y::ys))∘Nat.succ=eqJ xs ys:=by
    funext j;simp[eqJ]
   rw[e1,e2,Bool.and_assoc];congr 2;simp
theorem a7m:∀{xs ys:List T},eqTs xs ys=true->xs.length=ys.length
 |[],[],_=>rfl
 |[],y::ys,h=>by unfold eqTs at h;cases h
 |x::xs,[],h=>by unfold eqTs at h;cases h
 | x::xs,y::ys,h=>by
   unfold eqTs at h;rw[b5o] at h;rw[b5j,b5j,a7m h.2]
mutual
theorem b0v:∀(x:T),a0j x=true->eqT x x=true
 |.non,_=>rfl
 |.bl b,_=>by simp[eqT]
 |.int i,_=>by simp[eqT]
 |.str x,_=>by simp[eqT]
 |.adr a,h=>by unfold a0j at h;cases h
 |.rd a,h=>by unfold a0j at h;cases h
 |.dic ks a,h=>by unfold a0j at h;cases h
 |.tup ts,h=>by unfold a0j at h;unfold eqT;exact a5O ts h
theorem a5O:∀(xs:List T),a0N xs=true->eqTs xs xs=true
 |[],_=>by unfold eqTs;rfl
 | x::xs,h=>by
   unfold a0N at h;rw[b5o] at h;unfold eqTs;rw[b0v x h.1,a5O xs h.2];rfl
end
section
variable{X:Cx}{pins:PNS}{σ:St}{H:Hp}{s:b4U}
theorem b1j (I:Inv X pins σ H s):∀(x y:T) (v:V),a0j x=true->a0j y=true->Rep X.K H v x->Rep X.K H v y->eqT x y=true:=by
 have key:∀n (x y:T) (v:V),depT x<=n->a0j x=true->a0j y=true->Rep X.K H v x->Rep X.K H v y->eqT x y=true:=by
  intro n
  induction n with
  | zero =>
    intro x y v hd px py rx ry;cases x with
    |tup ts=>unfold depT at hd;lia
    |adr a=>unfold a0j at px;cases px
    |rd a=>unfold a0j at px;cases px
    |dic ks a=>unfold a0j at px;cases px
    |_=>unfold Rep at rx;subst rx;cases y<;>unfold Rep at ry<;>first|(obtain⟨_,_,e,_⟩:=ry;cases e;done)|(unfold a0j at py;cases py;done)|(cases ry<;>simp[eqT])
  | succ n ih =>
    intro x y v hd px py rx ry;cases x with
    |adr a=>unfold a0j at px;cases px
    |rd a=>unfold a0j at px;cases px
    |dic ks a=>unfold a0j at px;cases px
    | tup ts =>
      unfold Rep at rx;obtain⟨a,xs,rfl,h1,h2⟩:=rx;cases y with
      |adr a=>unfold a0j at py;cases py
      |rd a=>unfold a0j at py;cases py
      |dic ks a=>unfold a0j at py;cases py
      | tup us =>
        unfold Rep at ry;obtain⟨a',ys,e,g1,g2⟩:=ry;cases e;obtain rfl:=I.tuple_inj h1 g1;unfold a0j at px py;unfold depT at hd;unfold eqT;have hl:=h2.length;have hl2:=g2.length;rw[<- a2t];rw[<- hl,<- hl2];simp only[Nat.min_self,beq_self_eq_true,c0A,b6i,b8m];intro j hj;have e1:ts[j]?=some ts[j]:=b5g (by lia);have e2:us[j]?=some us[j]:=b5g (by lia);obtain⟨v1,q1,r1⟩:=h2.get e1;obtain⟨v2,q2,r2⟩:=g2.get e2;rw[q1] at q2;cases q2;unfold eqJ;rw[e1,e2];have:=a3M e1;exact ih _ _ _ (by lia) (a1G px e1) (a1G py e2) r1 r2
      |_=>unfold Rep at ry;cases ry
    |_=>unfold Rep at rx;subst rx;cases y<;>unfold Rep at ry<;>first|(obtain⟨_,_,e,_⟩:=ry;cases e;done)|(unfold a0j at py;cases py;done)|(cases ry<;>simp[eqT])
 exact fun x y v=>key (depT x) x y v (b5h _)
open SeqAt in
theorem a9k{A:b5s}(x y:T)(v u:V)(a b:b5c)(px:a0j x=true)(py:a0j y=true)(rx:Rep X.K H v x)(ry:Rep X.K H u y)(ra:RelV v a)(rb:RelV u b)(nx:∀ts,x≠.tup ts)(ny:∀ts,y≠.tup ts) :
  b7s A s a b (eqT x y)/\b8Z A s a b (eqT x y)/\b8c A s a b (!(eqT x y)):=by
 cases x with
 |tup ts=>exact absurd rfl (nx ts)
 |adr p=>unfold a0j at px;cases px
 |rd p=>unfold a0j at px;cases px
 |dic ks p=>unfold a0j at px;cases px
 | non =>
   unfold Rep at rx;subst rx;cases ra;cases y with
   |tup ts=>exact absurd rfl (ny ts)
   |adr p=>unfold a0j at py;cases py
   |rd p=>unfold a0j at py;cases py
   |dic ks p=>unfold a0j at py;cases py
   | non =>
     unfold Rep at ry;subst ry;cases rb;have e:eqT .non .non=true:=rfl;rw[e];exact⟨EqAt.same _,RcAt.none_none,RcNeAt.none_none⟩
   | bl c0 =>
     unfold Rep at ry;subst ry;cases rb;have e:eqT .non (.bl c0)=false:=rfl;rw[e];exact⟨EqAt.none_bool _,RcAt.none_bool _,RcNeAt.none_bool _⟩
   | int c0 =>
     unfold Rep at ry;subst ry;obtain⟨t_rb,rfl⟩:=rb;have e:eqT .non (.int c0)=false:=rfl;rw[e];exact⟨EqAt.none_int _ _,RcAt.none_int _ _,RcNeAt.none_int _ _⟩
   | str c0 =>
     unfold Rep at ry;subst ry;obtain⟨t_rb,rfl⟩:=rb;have e:eqT .non (.str c0)=false:=rfl;rw[e];exact⟨EqAt.none_str _ _,RcAt.none_str _ _,RcNeAt.none_str _ _⟩
 | bl b0 =>
   unfold Rep at rx;subst rx;cases ra;cases y with
   |tup ts=>exact absurd rfl (ny ts)
   |adr p=>unfold a0j at py;cases py
   |rd p=>unfold a0j at py;cases py
   |dic ks p=>unfold a0j at py;cases py
   | non =>
     unfold Rep at ry;subst ry;cases rb;have e:eqT (.bl b0) .non=false:=rfl;rw[e];exact⟨EqAt.bool_none _,RcAt.bool_none _,RcNeAt.bool_none _⟩
   | bl c0 =>
     unfold Rep at ry;subst ry;cases rb;have e:eqT (.bl b0) (.bl c0)=(b0==c0):=rfl;rw[e];exact⟨EqAt.bool_bool _ _,RcAt.bool_bool _ _,RcNeAt.bool_bool _ _⟩
   | int c0 =>
     unfold Rep at ry;subst ry;obtain⟨t_rb,rfl⟩:=rb
     have e:eqT (.bl b0) (.int c0)=((if b0 then 1 else 0)==c0):=rfl
     rw[e];exact⟨EqAt.bool_int _ _ _,RcAt.bool_int _ _ _,RcNeAt.bool_int _ _ _⟩
   | str c0 =>
     unfold Rep at ry;subst ry;obtain⟨t_rb,rfl⟩:=rb;have e:eqT (.bl b0) (.str c0)=false:=rfl;rw[e];exact⟨EqAt.bool_str _ _ _,RcAt.bool_str _ _ _,RcNeAt.bool_str _ _ _⟩
 | int b0 =>
   unfold Rep at rx;subst rx;obtain⟨t_ra,rfl⟩:=ra;cases y with
   |tup ts=>exact absurd rfl (ny ts)
   |adr p=>unfold a0j at py;cases py
   |rd p=>unfold a0j at py;cases py
   |dic ks p=>unfold a0j at py;cases py
   | non =>
     unfold Rep at ry;subst ry;cases rb;have e:eqT (.int b0) .non=false:=rfl;rw[e];exact⟨EqAt.int_none _ _,RcAt.int_none _ _,RcNeAt.int_none _ _⟩
   | bl c0 =>
     unfold Rep at ry;subst ry;cases rb
     have e:eqT (.int b0) (.bl c0)=(b0==(if c0 then 1 else 0)):=rfl
     rw[e];exact⟨EqAt.int_bool _ _ _,RcAt.int_bool _ _ _,RcNeAt.int_bool _ _ _⟩
   | int c0 =>
     unfold Rep at ry;subst ry;obtain⟨t_rb,rfl⟩:=rb;have e:eqT (.int b0) (.int c0)=(b0==c0):=rfl;rw[e];exact⟨EqAt.int_int _ _ _ _,RcAt.int_int _ _ _ _,RcNeAt.int_int _ _ _ _⟩
   | str c0 =>
     unfold Rep at ry;subst ry;obtain⟨t_rb,rfl⟩:=rb;have e:eqT (.int b0) (.str c0)=false:=rfl;rw[e];exact⟨EqAt.int_str _ _ _ _,RcAt.int_str _ _ _ _,RcNeAt.int_str _ _ _ _⟩
 | str b0 =>
   unfold Rep at rx;subst rx;obtain⟨t_ra,rfl⟩:=ra;cases y with
   |tup ts=>exact absurd rfl (ny ts)
   |adr p=>unfold a0j at py;cases py
   |rd p=>unfold a0j at py;cases py
   |dic ks p=>unfold a0j at py;cases py
   | non =>
     unfold Rep at ry;subst ry;cases rb;have e:eqT (.str b0) .non=false:=rfl;rw[e];exact⟨EqAt.str_none _ _,RcAt.str_none _ _,RcNeAt.str_none _ _⟩
   | bl c0 =>
     unfold Rep at ry;subst ry;cases rb;have e:eqT (.str b0) (.bl c0)=false:=rfl;rw[e];exact⟨EqAt.str_bool _ _ _,RcAt.str_bool _ _ _,RcNeAt.str_bool _ _ _⟩
   | int c0 =>
     unfold Rep at ry;subst ry;obtain⟨t_rb,rfl⟩:=rb;have e:eqT (.str b0) (.int c0)=false:=rfl;rw[e];exact⟨EqAt.str_int _ _ _ _,RcAt.str_int _ _ _ _,RcNeAt.str_int _ _ _ _⟩
   | str c0 =>
     unfold Rep at ry;subst ry;obtain⟨t_rb,rfl⟩:=rb;have e:eqT (.str b0) (.str c0)=(b0==c0):=rfl;rw[e];exact⟨EqAt.str_str _ _ _ _,RcAt.str_str _ _ _ _,RcNeAt.str_str _ _ _ _⟩
theorem b4Q{x:T}(h:∀ts,x≠.tup ts):depT x=0:=by
 cases x with
 |tup ts=>exact absurd rfl (h ts)
 |_=>rfl
open SeqAt in
/-- a tuple against what is none -/
theorem a7T{A:b5s}{p:Addr}{its:Array b5c}(ht:s.heap.IsTuple p its)(hu:A.units<cLine)(x:T)(us:List T)(v:V)(a:b5c)(px:a0j x=true)(rx:Rep X.K H v x)(ra:RelV v a)(nx:∀ts,x≠.tup ts) :
  b7s A s a (.ref p) (eqT x (.tup us))/\b8Z A s a (.ref p) (eqT x (.tup us))/\b8c A s a (.ref p) (!(eqT x (.tup us))):=by
 cases x with
 |tup ts=>exact absurd rfl (nx ts)
 |adr q=>unfold a0j at px;cases px
 |rd q=>unfold a0j at px;cases px
 |dic ks q=>unfold a0j at px;cases px
 | non =>
   unfold Rep at rx;subst rx;cases ra;have e:eqT .non (.tup us)=false:=rfl;rw[e];exact⟨.none_tuple ht hu,.none_tuple ht hu,.none_tuple ht hu⟩
 | bl b0 =>
   unfold Rep at rx;subst rx;cases ra;have e:eqT (.bl b0) (.tup us)=false:=rfl;rw[e];exact⟨.bool_tuple _ ht hu,.bool_tuple _ ht hu,.bool_tuple _ ht hu⟩
 | int b0 =>
   unfold Rep at rx;subst rx;obtain⟨t,rfl⟩:=ra;have e:eqT (.int b0) (.tup us)=false:=rfl;rw[e];exact⟨.int_tuple _ _ ht hu,.int_tuple _ _ ht hu,.int_tuple _ _ ht hu⟩
 | str b0 =>
   unfold Rep at rx;subst rx;obtain⟨t,rfl⟩:=ra;have e:eqT (.str b0) (.tup us)=false:=rfl;rw[e];exact⟨.str_tuple _ _ ht hu,.str_tuple _ _ ht hu,.str_tuple _ _ ht hu⟩
open SeqAt in
theorem a7U{A:b5s}{p:Addr}{its:Array b5c}(ht:s.heap.IsTuple p its)(hu:A.units<cLine)(x:T)(us:List T)(v:V)(a:b5c)(px:a0j x=true)(rx:Rep X.K H v x)(ra:RelV v a)(nx:∀ts,x≠.tup ts) :
  b7s A s (.ref p) a (eqT (.tup us) x)/\b8Z A s (.ref p) a (eqT (.tup us) x)/\b8c A s (.ref p) a (!(eqT (.tup us) x)):=by
 cases x with
 |tup ts=>exact absurd rfl (nx ts)
 |adr q=>unfold a0j at px;cases px
 |rd q=>unfold a0j at px;cases px
 |dic ks q=>unfold a0j at px;cases px
 | non =>
   unfold Rep at rx;subst rx;cases ra;have e:eqT (.tup us) .non=false:=rfl;rw[e];exact⟨.tuple_none ht hu,.tuple_none ht hu,.tuple_none ht hu⟩
 | bl b0 =>
   unfold Rep at rx;subst rx;cases ra;have e:eqT (.tup us) (.bl b0)=false:=rfl;rw[e];exact⟨.tuple_bool _ ht hu,.tuple_bool _ ht hu,.tuple_bool _ ht hu⟩
 | int b0 =>
   unfold Rep at rx;subst rx;obtain⟨t,rfl⟩:=ra;have e:eqT (.tup us) (.int b0)=false:=rfl;rw[e];exact⟨.tuple_int _ _ ht hu,.tuple_int _ _ ht hu,.tuple_int _ _ ht hu⟩
 | str b0 =>
   unfold Rep at rx;subst rx;obtain⟨t,rfl⟩:=ra;have e:eqT (.tup us) (.str b0)=false:=rfl;rw[e];exact⟨.tuple_str _ _ ht hu,.tuple_str _ _ ht hu,.tuple_str _ _ ht hu⟩
theorem a6U(x:T):(∃ts,x=.tup ts)\/∀ts,x≠.tup ts:=by
 cases x with
 |tup ts=>exact .inl ⟨ts,rfl⟩
 |_=>exact .inr fun ts e=>by cases e
theorem a7h{A:b5s}{n:Nat}{ts us:List T}{xs ys:List V}{its its2:LSV}(px:a0N ts=true)(py:a0N us=true)(hd:a2H ts<=n)(h2:Reps X.K H xs ts)(g2:Reps X.K H ys us)(r1:Vals xs its)(r2:Vals ys its2)
  (ih:∀(x y:T) (v u:V) (a b:b5c),depT x<=n->a0j x=true->a0j y=true->Rep X.K H v x->Rep X.K H u y->RelV v a->RelV u b->b7s A s a b (eqT x y)) (j:Nat) (hj1:j<its.toArray.size) (hj2:j<its2.toArray.size) :
  b7s A s its.toArray[j] its2.toArray[j] (eqJ ts us j):=by
 have l1:=h2.length;have l2:=g2.length;have m1:=r1.length;have m2:=r2.length;have hj1':j<its.length:=by simpa using hj1
 have hj2':j<its2.length:=by simpa using hj2
 have e1:ts[j]?=some (ts[j]'(by lia)):=b5g (by lia);have e2:us[j]?=some (us[j]'(by lia)):=b5g (by lia);obtain⟨v1,a1,b1⟩:=h2.get e1;obtain⟨v2,a2,b2⟩:=g2.get e2;obtain⟨w1,c1,d1⟩:=r1.get a1;obtain⟨w2,c2,d2⟩:=r2.get a2
 have f1:its.toArray[j]=w1:=by
  have:its[j]?=some (its[j]'hj1'):=b5g hj1';rw[c1] at this
  simpa using (b5p this).symm
 have f2:its2.toArray[j]=w2:=by
  have:its2[j]?=some (its2[j]'hj2'):=b5g hj2';rw[c2] at this
  simpa using (b5p this).symm
 have e3:eqJ ts us j=eqT (ts[j]'(by lia)) (us[j]'(by lia)):=by unfold eqJ;rw[e1,e2]
 rw[f1,f2,e3];have:=a3M e1;exact ih _ _ v1 v2 w1 w2 (by lia) (a1G px e1) (a1G py e2) b1 b2 d1 d2
open SeqAt in
/--==(by identity first),==,!= of two values,by their trees -/
theorem a9l(I:Inv X pins σ H s):∀n (A:b5s) (x y:T) (v u:V) (a b:b5c),depT x<=n->A.units+n+1<cLine->a0j x=true->a0j y=true->Rep X.K H v x->Rep X.K H u y->RelV v a->RelV u b ->
  b7s A s a b (eqT x y)/\b8Z A s a b (eqT x y)/\b8c A s a b (!(eqT x y)):=by
 intro n
 induction n with
 | zero =>
   intro A x y v u a b hd hu px py rx ry ra rb;rcases a6U x with ⟨ts,rfl⟩|nx
   ·unfold depT at hd;lia
   ·rcases a6U y with ⟨us,rfl⟩|ny
    ·unfold Rep at ry;obtain⟨p,ys,rfl,g1,g2⟩:=ry;obtain⟨its,r',ht,_⟩:=I.tuple g1;have ht':s.heap.IsTuple p its.toArray:=ht;cases rb;exact a7T ht' (by lia) x us v a px rx ra nx
    ·exact a9k x y v u a b px py rx ry ra rb nx ny
 | succ n ih =>
   intro A x y v u a b hd hu px py rx ry ra rb;have hu':A.units<cLine:=by lia
   rcases a6U x with ⟨ts,rfl⟩|nx
   ·have rx':=rx;unfold Rep at rx;obtain⟨p,xs,rfl,h1,h2⟩:=rx;cases ra;obtain⟨its,r1,ht,_⟩:=I.tuple h1;have ht':s.heap.IsTuple p its.toArray:=ht;rcases a6U y with ⟨us,rfl⟩|ny
    ·have ry':=ry;unfold Rep at ry;obtain⟨q,ys,rfl,g1,g2⟩:=ry;cases rb;obtain⟨its2,r2,ht2,_⟩:=I.tuple g1;have ht2':s.heap.IsTuple q its2.toArray:=ht2;have px':=px;have py':=py;unfold a0j at px py;unfold depT at hd;have he:=a7h (A:=A.in1) (s:=s) (n:=n) px py (by lia) h2 g2 r1 r2 fun x y v u a b hx px py rx ry ra rb=>(ih A.in1 x y v u a b hx (by show A.units+1+n+1<cLine;lia) px py rx ry ra rb).1
     have ee:((b5S (min its.toArray.size its2.toArray.size)).all (eqJ ts us)&&its.toArray.size==its2.toArray.size)=eqT (.tup ts) (.tup us):=by
      have l1:=h2.length;have l2:=g2.length;have m1:=r1.length;have m2:=r2.length;unfold eqT;rw[<- a2t,b5a,b5a,<- m1,<- m2,l1,l2]
     have rc:=RcAt.tuples (A:=A) (e:=eqJ ts us) ht' ht2' hu' he;have rn:=RcNeAt.tuples (A:=A) (e:=eqJ ts us) ht' ht2' hu' he;rw[ee] at rc rn;refine⟨?_,rc,rn⟩;by_cases hpq:p=q
     ·subst hpq;have e:eqT (.tup ts) (.tup us)=true:=b1j I (.tup ts) (.tup us) (.ref p) px' py' rx' ry';rw[e];exact .same _
     ·exact .of_refs hpq rc
    ·exact a7U ht' hu' y ts u b py ry rb ny
   ·exact ih A x y v u a b (by rw[b4Q nx];exact b6b _) (by lia) px py rx ry ra rb
end
noncomputable abbrev R3:=T->T->MH->VK3->Prop
noncomputable def dR(K:PySem.W.Frag)(r:R3):R2:=fun v u H Q2=>∃x y M Q,Rep K H v x/\Rep K H u y/\HR K H M/\r x y M Q/\EndE K H Q Q2
noncomputable def dU(K:PySem.W.Frag)(r:T->MH->VK3->Prop):V->Hp->VK->Prop:=fun v H Q2=>∃x M Q,Rep K H v x/\HR K H M/\r x M Q/\EndE K H Q Q2
noncomputable def dL(K:PySem.W.Frag)(r:List T->MH->VK3->Prop):List V->Hp->VK->Prop:=fun vs H Q2=>∃xs M Q,Reps K H vs xs/\HR K H M/\r xs M Q/\EndE K H Q Q2
theorem Kp.new{K:PySem.W.Frag}{H:Hp}{p:Addr}{o:HO}(h:H p=none):Kp K H (upd H p o):=by
 refine⟨fun a xs q=>?_,fun a ob u q=>by rw[a0h (a0k q h)];exact q,fun a xs q=>by rw[a0h (a0k q h)];exact q⟩;rcases q with (q|⟨ob,q⟩)|q
 ·exact .inl (.inl (by rw[a0h (a0k q h)];exact q))
 ·exact .inl (.inr ⟨ob,by rw[a0h (a0k q h)];exact q⟩)
 ·exact .inr q
theorem Kp.lst{K:PySem.W.Frag}{H:Hp}{p:Addr}{xs ys:List V}(h:H p=some (.lst xs)):Kp K H (upd H p (.lst ys)):=by
 have ne:∀{a:Addr} {o:HO},H a=some o->o≠.lst xs->a≠p:=fun {a o} q hn e=>by
  subst e;rw[h] at q;cases q;exact hn rfl
 refine⟨fun a zs q=>?_,fun a ob u q=>by rw[a0h (ne q (by intro z;cases z))];exact q,fun a xs q=>by rw[a0h (ne q (by intro z;cases z))];exact q⟩;rcases q with (q|⟨ob,q⟩)|q
 ·exact .inl (.inl (by rw[a0h (ne q (by intro z;cases z))];exact q))
 ·exact .inl (.inr ⟨ob,by rw[a0h (ne q (by intro z;cases z))];exact q⟩)
 ·exact .inr q
section
variable{K:PySem.W.Frag}{H:Hp}{M:MH}
noncomputable def Wr:HO->Prop
 |.lst _=>True
 |.dK _=>True
 |.dT _=>True
 |.frz _ _=>True
 |.ins _ _ _=>True
 |_=>False
theorem MOk.kp{H':Hp}{a:Addr}{o:MO}(h:MOk K H a o)(k:Kp K H H')(ha:∀u,Wr u->H a=some u->H' a=some u):MOk K H' a o:=by
 cases o with
 |lst ts=>obtain⟨xs,e,r⟩:=h;exact⟨xs,ha _ trivial e,Reps.kp k _ _ r⟩
 |dk kvs=>obtain⟨xs,e,r⟩:=h;exact⟨xs,ha _ trivial e,r.kp k⟩
 |dt kvs=>obtain⟨xs,e,r⟩:=h;exact⟨xs,ha _ trivial e,r.kp k⟩
 |fz kvs=>obtain⟨ob,xs,e,r⟩:=h;exact⟨ob,xs,k.frz _ _ _ e,r.kp k⟩
 | fk kvs =>
   obtain⟨xs,e,r⟩:=h;rcases e with e|⟨ob,e⟩
   ·exact⟨xs,.inl (ha _ trivial e),r.kp k⟩
   ·exact⟨xs,.inr ⟨ob,k.frz _ _ _ e⟩,r.kp k⟩
 |ob C fs=>obtain⟨dx,xs,e,r⟩:=h;exact⟨dx,xs,ha _ trivial e,r.kp k⟩
theorem MOk.some{a:Addr}{o:MO}(h:MOk K H a o):∃u,H a=Option.some u/\Wr u:=by
 cases o with
 |lst ts=>obtain⟨xs,e,r⟩:=h;exact⟨_,e,trivial⟩
 |dk kvs=>obtain⟨xs,e,r⟩:=h;exact⟨_,e,trivial⟩
 |dt kvs=>obtain⟨xs,e,r⟩:=h;exact⟨_,e,trivial⟩
 |fz kvs=>obtain⟨ob,xs,e,r⟩:=h;exact⟨_,e,trivial⟩
 | fk kvs =>
   obtain⟨xs,e,r⟩:=h;rcases e with e|⟨ob,e⟩
   ·exact⟨_,e,trivial⟩
   ·exact⟨_,e,trivial⟩
 |ob C fs=>obtain⟨dx,xs,e,r⟩:=h;exact⟨_,e,trivial⟩
theorem HR.free{p:Addr}(h:HR K H M)(hp:H p=none):M p=none:=by
 cases q:M p with
 |none=>rfl
 | some o =>
   obtain⟨u,e,_⟩:=(h p o q).some;rw[hp] at e;cases e
theorem HR.keep{p:Addr}{o:HO}(h:HR K H M)(hp:H p=none):HR K (upd H p o) M:=fun a u e =>
 (h a u e).kp (Kp.new hp) fun u _ q=>by rw[a0h (a0k q hp)];exact q
theorem HR.newL{p:Addr}{xs:List V}{ts:List T}(h:HR K H M)(hp:H p=none)(r:Reps K H xs ts):HR K (upd H p (.lst xs)) (updM M p (.lst ts)):=fun a u e=>by
 by_cases ha:a=p
 ·subst ha;rw[a0c] at e;cases e;exact⟨xs,a0t,Reps.kp (Kp.new hp) _ _ r⟩
 ·rw[a0C ha] at e;exact(h.keep hp) a u e
theorem HR.setL{p:Addr}{xs ys:List V}{us:List T}(h:HR K H M)(hp:H p=some (.lst xs))(r:Reps K H ys us):HR K (upd H p (.lst ys)) (updM M p (.lst us)):=fun a u e=>by
 by_cases ha:a=p
 ·subst ha;rw[a0c] at e;cases e;exact⟨ys,a0t,Reps.kp (Kp.lst hp) _ _ r⟩
 ·rw[a0C ha] at e;exact(h a u e).kp (Kp.lst hp) fun u _ q=>by rw[a0h ha];exact q
end
noncomputable def OpR3(X:Cx)(f:b5c->b5c->Sem b5c)(r:R3):Prop:=OpR X f (dR X.K r)
noncomputable def UnR3(X:Cx)(f:b5c->Sem b5c)(r:T->MH->VK3->Prop):Prop:=UnR X f (dU X.K r)
noncomputable def a3m(X:Cx)(f:b5c)(r:List T->MH->VK3->Prop):Prop:=a5f X f (dL X.K r)
noncomputable def IxR3(X:Cx)(r:R3):Prop:=IxR X (dR X.K r)
noncomputable def tOp3(r:R3)(ta tb:TE3):TE3:=fun ρ M Q=>ta ρ M fun x M1=>tb ρ M1 fun y M2=>r x y M2 Q
noncomputable def tUn3(r:T->MH->VK3->Prop)(ta:TE3):TE3:=fun ρ M Q=>ta ρ M fun x M1=>r x M1 Q
noncomputable def a9H(i:Nat):TE3:=fun ρ M Q=>match ρ[i]? with
 |some (some t)=>Q t M
 |_=>False
noncomputable def tK(t:T):TE3:=fun _ M Q=>Q t M
section
variable{X:Cx}{a b c e:Expr}{es:LSE}{ta tb tc te:TE3}{pos:Pos}
theorem dOp{ρ:En}{M:MH}{Q:VK3}{r:R3}(h:tOp3 r ta tb ρ M Q){σ:St}{H:Hp}{Q2:VK}(b:bE X.K ρ M Q σ H Q2):tOp (dR X.K r) (dE X.K ρ ta) (dE X.K ρ tb) σ H Q2:=by
 obtain⟨hr,hh,en⟩:=b;refine⟨M,_,h,hr,hh,fun t v M1 H1 k1 h1 r1 q1=>⟨M1,_,q1,hr.kp k1,h1,fun t2 v2 M2 H2 k2 h2 r2 q2=>⟨t,t2,M2,Q,Rep.kp k2 _ _ r1,r2,h2,q2,en.kp (k1.trans k2)⟩⟩⟩
theorem a0q{op:Operator}{r:R3}(ho:OpR3 X (binaryOp op) r)(ha:HE X a ta)(hb:HE X b tb):HE X (.BinOp a op b pos) (tOp3 r ta tb):=fun ρ M Q h =>
 (b3e ho (ha.d (ρ:=ρ)) (hb.d (ρ:=ρ))).imp fun σ H Q2 b=>dOp h b
theorem h_un{op:UnaryOp}{r:T->MH->VK3->Prop}(ho:UnR3 X (unaryOp op) r)(ha:HE X a ta):HE X (.UnaryOp op a pos) (tUn3 r ta):=fun ρ M Q h =>
 (b4w ho (ha.d (ρ:=ρ))).imp fun σ H Q2 ⟨hr,hh,en⟩=>⟨M,_,h,hr,hh,fun t v M1 H1 k1 h1 r1 q1=>⟨t,M1,Q,r1,h1,q1,en.kp k1⟩⟩
theorem b4M{i:Nat}{x:Str}(hN:X.N[i]?=some x)(hv:Vis X.env.scope x)(hd:QDD x:=by decide)(hcd:(x==("__classdict__":Str))=false:=by decide):HE X (.Name x pos) (a9H i):=fun ρ M Q h =>
 (a7b hN hv hd hcd).imp fun σ H Q2 ⟨hr,hh,en⟩=>by
  unfold a9H at h;split at h
  ·rename_i t e;obtain⟨v,e1,r⟩:=hr.2 i t e;exact⟨v,e1,en t v M H Kp.refl hh r h⟩
  ·exact h.elim
theorem hv(i:Nat){x:Str}{pos:Pos}(hN:X.N[i]?=some x:=by rfl)(hv:Vis X.env.scope x:=by first|exact b7h rfl|exact b8u (b7h rfl)|exact b8u (b8u rfl))(hd:QDD x:=by decide)
  (hcd:(x==("__classdict__":Str))=false:=by decide):HE X (.Name x pos) (a9H i):=b4M hN hv hd hcd
theorem a0F{K:PySem.W.Frag}{H:Hp}{i:Int}:Rep K H (.int i) (.int i):=by unfold Rep;rfl
theorem a1g{K:PySem.W.Frag}{H:Hp}{i:Bool}:Rep K H (.bl i) (.bl i):=by unfold Rep;rfl
theorem a2i{K:PySem.W.Frag}{H:Hp}{i:Str}:Rep K H (.str i) (.str i):=by unfold Rep;rfl
theorem a3x{K:PySem.W.Frag}{H:Hp}:Rep K H .non .non:=by unfold Rep;rfl
theorem a2G{K:PySem.W.Frag}{H:Hp}{a:Addr}:Rep K H (.ref a) (.adr a):=by unfold Rep;rfl
theorem a1z{K:PySem.W.Frag}{H:Hp}{a:Addr}{xs:List V}{ts:List T}(h:SqT K H a xs)(r:Reps K H xs ts):Rep K H (.ref a) (.tup ts):=by unfold Rep;exact⟨a,xs,rfl,h,r⟩
theorem a3J{v:V}{t:T}(h:PE X e (tC v))(r:∀K H,Rep K H v t):HE X e (tK t):=fun ρ M Q q=>h.imp fun σ H Q2 ⟨hr,hh,en⟩=>en t v M H Kp.refl hh (r _ _) q
theorem a0e{i j pos}:HE X (.Constant (.int i) j pos) (tK (.int i)):=a3J b3i fun _ _=>a0F
theorem h_bl{b j pos}:HE X (.Constant (.bool b) j pos) (tK (.bl b)):=a3J b4y fun _ _=>a1g
theorem a6J{j pos}:HE X (.Constant .none j pos) (tK .non):=a3J b3h fun _ _=>a3x
theorem a0p{x j pos}:HE X (.Constant (.str x) j pos) (tK (.str x)):=a3J b3d fun _ _=>a2i
theorem a9a{x:Str}{i:Int}{tk:Tok}{pos:Pos}(hm:X.mg x=some (.int i tk))(hg:Gl X x:=by rfl)(hd:QDD x:=by decide):HE X (.Name x pos) (tK (.int i)):=a3J (v:=.int i) (b1I hg hm ⟨tk,rfl⟩ hd) fun _ _=>a0F
theorem a0l{K:PySem.W.Frag}{H:Hp}{v:V}{i:Int}(r:Rep K H v (.int i)):v=.int i:=by unfold Rep at r;exact r
theorem a0z{K:PySem.W.Frag}{H:Hp}{v:V}{i:Str}(r:Rep K H v (.str i)):v=.str i:=by unfold Rep at r;exact r
theorem a1H{K:PySem.W.Frag}{H:Hp}{v:V}{i:Bool}(r:Rep K H v (.bl i)):v=.bl i:=by unfold Rep at r;exact r
theorem a3H{K:PySem.W.Frag}{H:Hp}{v:V}(r:Rep K H v .non):v=.non:=by unfold Rep at r;exact r
theorem a0w{K:PySem.W.Frag}{H:Hp}{v:V}{a:Addr}(r:Rep K H v (.adr a)):v=.ref a:=by unfold Rep at r;exact r
theorem a0Y{K:PySem.W.Frag}{H:Hp}{v:V}{ts:List T}(r:Rep K H v (.tup ts)):∃a xs,v=.ref a/\SqT K H a xs/\Reps K H xs ts:=by unfold Rep at r;exact r
noncomputable def rInt(C:Int->Int->Prop)(g:Int->Int->Int):R3:=fun x y M Q=>match x,y with
 |.int i,.int j=>C i j/\Q (.int (g i j)) M
 |_,_=>False
theorem a6B{f:b5c->b5c->Sem b5c}{C:Int->Int->Prop}{g:Int->Int->Int}(h:OpR X f (rI C fun i j=>.int (g i j))):OpR3 X f (rInt C g):=by
 intro pins s σ H x y v u Q2 I rx ry q;obtain⟨a,b,M,Q,r1,r2,hh,q,en⟩:=q;unfold rInt at q;split at q
 ·obtain rfl:=a0l r1;obtain rfl:=a0l r2;exact h pins s σ H _ _ v u Q2 I rx ry ⟨_,_,rfl,rfl,q.1,en _ _ M H Kp.refl hh a0F q.2⟩
 ·exact q.elim
noncomputable def b1n:R3:=fun x y M Q=>match x,y with
 |.int i,.int j=>Q (.int (i-j)) M
 |_,_=>False
theorem a6A:OpR3 X (binaryOp .Sub) b1n:=by
 intro pins s σ H x y v u Q2 I rx ry q;obtain⟨a,b,M,Q,r1,r2,hh,q,en⟩:=q;unfold b1n at q;split at q
 ·obtain rfl:=a0l r1;obtain rfl:=a0l r2;exact b3l pins s σ H _ _ v u Q2 I rx ry ⟨_,_,rfl,rfl,en _ _ M H Kp.refl hh a0F q⟩
 ·exact q.elim
noncomputable def b2n(i j:Int):Prop:=0<j/\j.natAbs.log2<9000
theorem b0f:OpR X (binaryOp .FloorDiv) (rI b2n fun i j=>.int (i / j)):=opI fun i j _ _ _ _ _ hc q=>by
 have e:i.fdiv j=i / j:=Int.fdiv_eq_ediv_of_nonneg i (Int.le_of_lt hc.1);exact floordiv_int (b8P hc.1) (by rw[e];exact q) (.inl (PyProof.noPylong_of_log2 hc.2))
noncomputable def b2U:R3:=rInt b2n fun i j=>i / j
noncomputable def b2T:R3:=rInt (fun _ j=>0<j) fun i j=>i%j
noncomputable def b2S:R3:=rInt CPow fun i j=>i^j.toNat
theorem a8D:OpR3 X (binaryOp .FloorDiv) b2U:=a6B b0f
theorem a3e:OpR3 X (binaryOp .Mod) b2T:=a6B b3p
theorem a8A:OpR3 X (binaryOp .Pow) b2S:=a6B b3n
noncomputable def b1p:T->MH->VK3->Prop:=fun x M Q=>match x with
 |.int i=>Q (.int (-i)) M
 |_=>False
theorem a2B:UnR3 X (unaryOp .USub) b1p:=by
 intro pins s σ H x v Q2 I rx q;obtain⟨a,M,Q,r1,hh,q,en⟩:=q;unfold b1p at q;split at q
 ·obtain rfl:=a0l r1;exact b2r pins s σ H _ v Q2 I rx ⟨_,rfl,en _ _ M H Kp.refl hh a0F q⟩
 ·exact q.elim
theorem b0g:OpR X (binaryOp .Add) (fun x y H Q=>∃a b ys,x=.ref a/\y=.ref b/\SqT X.K H a []/\SqT X.K H b ys/\Q (.ref b) H):=by
 intro pins s σ H x y v u Q I rx ry h;obtain⟨a,b,ys,rfl,rfl,hx,hy,q⟩:=h;cases rx;cases ry;obtain⟨its,r,ht,hz⟩:=I.tuple hx;obtain⟨its2,r2,ht2,hz2⟩:=I.tuple hy;have e:its=[]:=r.nil_iff.mpr rfl;subst e;obtain⟨⟨cls,dd,data,sl⟩,ho,hc,n,hd⟩:=id ht;obtain⟨⟨cls2,dd2,data2,sl2⟩,ho2,hc2,n2,hd2⟩:=id ht2;simp only at hc hd hc2 hd2;subst hc hd hc2 hd2;exact b9O ⟨_,ho,rfl⟩ ⟨_,ho2,rfl⟩ b8G b9p PySem.F.slot_tuple_add PySem.F.entry_tuple_add (PySem.F.args_tuple_add_2 _ _)
   (tuple_addW0 a b _ its2.toArray n n2 dd dd2 sl sl2 (by simp)) ⟨ho,ho2,⟨.ref b,H,I,rfl,q⟩⟩
noncomputable def b1w:R3:=fun x y M Q=>match x,y with
 |.int i,.int j=>Q (.int (i+j)) M
 |.str a,.str b=>a.length+b.length<=sizeLine/\Q (.str (a++b)) M
 |.tup a,.tup b=>a.length+b.length<=sizeLine/\Q (.tup (a++b)) M
 | .adr p,.adr q=>match M p,M q with
   |some (.lst a),some (.lst b)=>a.length+b.length<=sizeLine/\∀r,M r=none->Q (.adr r) (updM M r (.lst (a++b)))
   |_,_=>False
 |_,_=>False
theorem a0n:OpR3 X (binaryOp .Add) b1w:=by
 intro pins s σ H x y v u Q2 I rx ry q;obtain⟨a,b,M,Q,r1,r2,hh,q,en⟩:=q;unfold b1w at q;split at q
 ·obtain rfl:=a0l r1;obtain rfl:=a0l r2;exact b3r pins s σ H _ _ v u Q2 I rx ry ⟨_,_,rfl,rfl,en _ _ M H Kp.refl hh a0F q⟩
 ·obtain rfl:=a0z r1;obtain rfl:=a0z r2;exact a7I pins s σ H _ _ v u Q2 I rx ry ⟨_,_,rfl,rfl,q.1,en _ _ M H Kp.refl hh a2i q.2⟩
 ·rename_i ts us;obtain⟨p,xs,rfl,h1,h2⟩:=a0Y r1;obtain⟨p',ys,rfl,g1,g2⟩:=a0Y r2;have l1:=h2.length;have l2:=g2.length;by_cases hx:xs=[]
  ·subst hx;have ht:ts=[]:=b6K (by rw[<- l1];rfl);subst ht;exact b0g pins s σ H _ _ v u Q2 I rx ry ⟨_,_,ys,rfl,rfl,h1,g1,en _ _ M H Kp.refl hh (a1z g1 g2) q.2⟩
  ·refine b1O pins s σ H _ _ v u Q2 I rx ry ⟨_,_,xs,ys,rfl,rfl,h1,g1,hx,by rw[l1,l2];exact q.1,fun hy=>?_,fun hy r hr=>?_⟩
   ·subst hy;have ht:us=[]:=b6K (by rw[<- l2];rfl);subst ht;have q2:=q.2;rw[b6o] at q2;exact en _ _ M H Kp.refl hh (a1z h1 h2) q2
   ·refine en _ _ M _ (Kp.new hr) (hh.keep hr) (a1z (SqT.of a0t) ?_) q.2;exact Reps.kp (Kp.new hr) _ _ (h2.append g2)
 ·rename_i p p';obtain rfl:=a0w r1;obtain rfl:=a0w r2;split at q
  ·rename_i ts us e1 e2;obtain⟨xs,h1,h2⟩:=hh _ _ e1;obtain⟨ys,g1,g2⟩:=hh _ _ e2;refine b0M pins s σ H _ _ v u Q2 I rx ry ⟨_,_,xs,ys,rfl,rfl,h1,g1,by rw[h2.length,g2.length];exact q.1,fun r hr=>?_⟩;exact en _ _ _ _ (Kp.new hr) (hh.newL hr (h2.append g2)) a2G (q.2 r (hh.free hr))
  ·exact q.elim
 ·exact q.elim
end
theorem a3p:fillsNumberSlot (.type "tuple") "mul"=pure false :=
 PySem.fillsNumberSlot_seq (id:="tuple.__mul__") (r:=some (.builtin "tuple.__rmul__")) b7b.lookup (by decide +kernel) b9I.lookup (by decide +kernel)
theorem a5t:seqRepeat? (.type "tuple")=pure (some (.builtin "tuple.__mul__")):=by
 unfold seqRepeat?;rw[PySem.seqSlot_of (T:="tuple") (name:="__mul__") (id:="tuple.__mul__") b7b.lookup (by decide +kernel),PySem.seqSlot_of (T:="tuple") (name:="__rmul__") (id:="tuple.__rmul__") b9I.lookup (by decide +kernel)];rfl
section
variable(l:Addr)(items:Array b5c)(n:Nat)(x:Int)(u:Tok)(dd:Option Addr)(sl:AOV)
theorem a4d:Meets (b8p.«int.__rmul__» ⟨[.int x u,.ref l],[]⟩) (fun _ R s=>s.heap.get? l=some { cls:=.type "tuple",dict:=dd,data:=.seq items n,slots:=sl }/\R (.ok (.ret Value.notImplemented)) s) :=
 .of_wp fun prog w A R s h=>by obtain⟨hp,g,d,tk,os⟩:=s;obtain⟨hl,h⟩:=h;wp_walk;exact⟨_,rfl,h⟩
theorem a6i(h0:-(2^63)<=x)(h1:x<2^63)(hc:(items.isEmpty||x==1)=true) :
  Meets (b8p.«tuple.__mul__» ⟨[.ref l,.int x u],[]⟩) (fun _ R s=>s.heap.get? l=some { cls:=.type "tuple",dict:=dd,data:=.seq items n,slots:=sl }/\R (.ok (.ret (b5M l))) s) :=
 .of_wp fun prog w A R s h=>by
  obtain⟨hp,g,d,tk,os⟩:=s;obtain⟨hl,h⟩:=h
  have hb:¬(decide (x < -2^63)||decide (x >= 2^63))=true:=by simp;lia
  wp_walk
  rw[if_neg hb]
  wp_walk
  first|exact⟨_,rfl,h⟩|(rw[if_pos hc];wp_walk;exact⟨_,rfl,h⟩)
theorem a6h(h0:-(2^63)<=x)(h1:x<2^63)(hc:¬(items.isEmpty||x==1)=true)(hn:(decide (x<=0)||items.isEmpty)=true) :
  Meets (b8p.«tuple.__mul__» ⟨[.ref l,.int x u],[]⟩) (fun _ R s=>s.heap.get? l=some { cls:=.type "tuple",dict:=dd,data:=.seq items n,slots:=sl }/\R (.ok (.ret (b5M s.heap.objs.size))) { s with heap:=s.heap.push { cls:=.type "tuple",data:=.seq #[] },toks:=s.toks }) :=
 .of_wp fun prog w A R s h=>by
  obtain⟨hp,g,d,tk,os⟩:=s;obtain⟨hl,h⟩:=h
  have hb:¬(decide (x < -2^63)||decide (x >= 2^63))=true:=by simp;lia
  wp_walk
  rw[if_neg hb]
  wp_walk
  first|exact⟨_,rfl,h⟩|(rw[if_neg hc,if_pos hn];wp_walk;exact⟨_,rfl,h⟩)
theorem a6g(h0:-(2^63)<=x)(h1:x<2^63)(hc:¬(items.isEmpty||x==1)=true)(hn:¬(decide (x<=0)||items.isEmpty)=true)(hm:¬items.size*x>(2^63-1) / 8)(hz:¬b7X (items.size*x)=true)(hf:sizeOk (.seq (b7u (fun x1 x2=>x1++x2) #[] (b5e x.toNat items)))) :
  Meets (b8p.«tuple.__mul__» ⟨[.ref l,.int x u],[]⟩) (fun _ R s=>s.heap.get? l=some { cls:=.type "tuple",dict:=dd,data:=.seq items n,slots:=sl }/\R (.ok (.ret (b5M s.heap.objs.size))) { s with heap:=s.heap.push { cls:=.type "tuple",data:=.seq (b7u (fun x1 x2=>x1++x2) #[] (b5e x.toNat items)) },toks:=s.toks }) :=
 .of_wp fun prog w A R s h=>by
  obtain⟨hp,g,d,tk,os⟩:=s;obtain⟨hl,h⟩:=h
  have hb:¬(decide (x < -2^63)||decide (x >= 2^63))=true:=by simp;lia
  wp_walk
  rw[if_neg hb]
  wp_walk
  rw[if_neg hm]
  wp_walk
  first|exact⟨_,rfl,h⟩|(rw[if_neg (c0v.mpr hf)];wp_walk;exact⟨_,rfl,h⟩)
end
section
variable{X:Cx}
noncomputable def b4t(K:PySem.W.Frag):R2:=fun x y H Q=>∃a k xs,x=.ref a/\y=.int k/\SqT K H a xs/\-(2^63)<=k/\k<2^63/\xs.length*k.toNat<=sizeLine /\
 ∀p H',SqT K H' p (b5e k.toNat xs).flatten->(H'=H\/H p=none/\H'=upd H p (.tup (b5e k.toNat xs).flatten))->Q (.ref p) H'
theorem a4s(its:LSV)(m:Nat):b7u (fun x1 x2=>x1++x2) #[] (b5e m its.toArray)=(b5e m its).flatten.toArray:=by
 have:=a3L its m [];rw[b7M] at this;exact this
theorem b1N:OpR X (binaryOp .Mult) (b4t X.K):=by
 intro pins s σ H x y v u Q I rx ry h;obtain⟨a,k,xs,rfl,rfl,hx,h1,h2,hz,q⟩:=h;cases rx;obtain⟨t,rfl⟩:=ry;obtain⟨its,r,p,hl⟩:=I.tuple hx;have hlen:=r.length;obtain⟨⟨cls,dd,data,sl⟩,ho,hc,n,hd⟩:=id p;simp only at hc hd;subst hc hd;refine b8o (T:="tuple") (U:="int") (by decide) ⟨_,ho,rfl⟩ (fun s'=>b8Y s' k t) a3p c0k b7N a5t b9Y.lookup
  (b6V b7N (b8Y s k t) b9Z (b9G _ _) (a4d a its.toArray n k t dd sl) ⟨ho,rfl,⟨_,ho,rfl⟩,?_⟩)
 by_cases hc:(its.toArray.isEmpty||k==1)=true
 ·refine b6V b7b ⟨_,ho,rfl⟩ b8v (b8d _ _) (a6i a its.toArray n k t dd sl h1 h2 hc) ⟨ho,?_⟩
  have e:(b5e k.toNat xs).flatten=xs:=by
   simp only[b6p,beq_iff_eq] at hc;rcases hc with hc|hc
   ·have:its=[]:=by simpa using hc
    subst this;cases r;simp
   ·subst hc;simp
  exact⟨.ref a,H,I,rfl,q a H (by rw[e];exact hx) (.inl rfl)⟩
 ·by_cases hn:(decide (k<=0)||its.toArray.isEmpty)=true
  ·refine b6V b7b ⟨_,ho,rfl⟩ b8v (b8d _ _) (a6h a its.toArray n k t dd sl h1 h2 hc hn) ⟨ho,?_⟩
   have hk:k.toNat=0:=by
    simp only[b6p,decide_eq_true_eq] at hn hc;rcases hn with hn|hn
    ·lia
    ·exact absurd (.inl hn) hc
   have e:(b5e k.toNat xs).flatten=[]:=by rw[hk];rfl
   refine⟨.ref s.heap.objs.size,_,I.laid (t':=s.toks) (o:=.tup []) (fun b ob q=>b5f _ q) (b5h _) ?_,rfl,q _ _ ?_ (.inr ⟨I.hok.fresh (b5h _),by rw[e]⟩)⟩
   ·exact⟨b6b _,[],.nil,a1Y.new _ _⟩
   ·rw[e];exact SqT.of a0t
  ·have hm:(its.toArray.size:Int)*k<=sizeLine:=by
    have:its.toArray.size=xs.length:=by rw[hlen];simp
    rw[this]
    have hk:(0:Int)<=k:=by
     simp only[b6p,decide_eq_true_eq] at hn;lia
    have e2:k=((k.toNat:Nat):Int):=by lia
    rw[e2,<- Int.natCast_mul]
    exact_mod_cast hz
   have hz2:((b5e k.toNat its).flatten).length<=sizeLine:=by rw[a6G,b8a,<- hlen];exact hz
   refine b6V b7b ⟨_,ho,rfl⟩ b8v (b8d _ _) (a6g a its.toArray n k t dd sl h1 h2 hc hn ?_ ?_ ?_) ⟨ho,?_⟩
   ·have:(sizeLine:Int)<=(2^63-1) / 8:=by decide
    lia
   ·unfold b7X;simp only[decide_eq_true_eq];lia
   ·rw[a4s];show(b5e k.toNat its).flatten.toArray.size<=sizeLine;rw[b5a];exact hz2
   ·rw[a4s];refine⟨.ref s.heap.objs.size,_,I.laid (t':=s.toks) (o:=.tup (b5e k.toNat xs).flatten) (fun b ob q=>b5f _ q) (b5h _) ?_,rfl,q _ _ (SqT.of a0t) (.inr ⟨I.hok.fresh (b5h _),rfl⟩)⟩;exact⟨by rw[a6G,b8a];exact hz,_,r.rep k.toNat,a1Y.new _ _⟩
end
theorem Reps.atI{K:PySem.W.Frag}{H:Hp}{vs:List V}{ts:List T}{i:Int}{t:T}(h:Reps K H vs ts)(e:atI ts i=some t):∃v,L2.atI vs i=some v/\Rep K H v t:=by
 unfold L2.atI at e|-
 rw[h.length];cases q:ixN ts.length i with
 |none=>rw[q] at e;cases e
 |some j=>rw[q] at e;exact h.get e
section
variable{X:Cx}{a b c e:Expr}{es:LSE}{ta tb tc te:TE3}{pos:Pos}
noncomputable def rIx3:R3:=fun x y M Q=>match x,y with
 |.tup ts,.int i=>(match atI ts i with|some t=>Q t M|none=>False)
 |.rd ts,.int i=>(match atI ts i with|some t=>Q t M|none=>False)
 |.adr p,.int i=>(match M p with|some (.lst ts)=>(match atI ts i with|some t=>Q t M|none=>False)|_=>False)
 |.str z,.int i=>z.length<=sizeLine/\(match atI z.cps.toList i with|some c=>Q (.str ⟨#[c]⟩) M|none=>False)
 |_,_=>False
theorem a4q{K:PySem.W.Frag}{H:Hp}{v:V}{ts:List T}(r:Rep K H v (.rd ts)):∃a xs,v=.ref a/\FzL K H a xs/\Reps K H xs ts:=by unfold Rep at r;exact r
theorem ix3:IxR3 X rIx3:=by
 intro value slice pins s σ H x y v u Q2 I rx ry q hs;obtain⟨a,b,M,Q,r1,r2,hh,q,en⟩:=q;unfold rIx3 at q;split at q
 ·obtain rfl:=a0l r2;obtain⟨p,xs,rfl,h1,h2⟩:=a0Y r1;split at q
  ·rename_i t e;obtain⟨w,ew,rw'⟩:=h2.atI e;exact b3F value slice pins s σ H _ _ v u Q2 I rx ry ⟨_,_,_,w,rfl,rfl,h1,ew,en _ _ M H Kp.refl hh rw' q⟩ hs
  ·exact q.elim
 ·obtain rfl:=a0l r2;obtain⟨p,xs,rfl,h1,h2⟩:=a4q r1;split at q
  ·rename_i t e;obtain⟨w,ew,rw'⟩:=h2.atI e;exact a8T value slice pins s σ H _ _ v u Q2 I rx ry ⟨_,_,_,w,rfl,rfl,h1.sq,ew,en _ _ M H Kp.refl hh rw' q⟩ hs
  ·exact q.elim
 ·obtain rfl:=a0l r2;obtain rfl:=a0w r1;split at q
  ·rename_i ts e0;obtain⟨xs,h1,h2⟩:=hh _ _ e0;split at q
   ·rename_i t e;obtain⟨w,ew,rw'⟩:=h2.atI e;exact a8T value slice pins s σ H _ _ v u Q2 I rx ry ⟨_,_,_,w,rfl,rfl,SqL.of h1,ew,en _ _ M H Kp.refl hh rw' q⟩ hs
   ·exact q.elim
  ·exact q.elim
 ·obtain rfl:=a0l r2;obtain rfl:=a0z r1;obtain⟨hz,q⟩:=q;split at q
  ·rename_i c e;exact b3G value slice pins s σ H _ _ v u Q2 I rx ry ⟨_,_,c,rfl,rfl,hz,e,en _ _ M H Kp.refl hh a2i q⟩ hs
  ·exact q.elim
 ·exact q.elim
theorem h_ix(ha:HE X a ta)(hb:HE X b tb)(hs:a9A b:=by intro _ _;rfl):HE X (.Subscript a b pos) (tOp3 rIx3 ta tb):=fun ρ M Q h =>
 (b4x ix3 (ha.d (ρ:=ρ)) (hb.d (ρ:=ρ)) hs).imp fun σ H Q2 b=>dOp h b
noncomputable def b1r:R3:=fun x y M Q=>match x,y with
 |.int i,.int j=>CMul i j/\Q (.int (i*j)) M
 | .adr p,.int k=>(match M p with
   |some (.lst ts)=>-(2^63)<=k/\k<2^63/\ts.length*k.toNat<=sizeLine/\∀r,M r=none->Q (.adr r) (updM M r (.lst (b5e k.toNat ts).flatten))
   |_=>False)
 |.tup ts,.int k=>-(2^63)<=k/\k<2^63/\ts.length*k.toNat<=sizeLine/\Q (.tup (b5e k.toNat ts).flatten) M
 |_,_=>False
theorem Reps.rep{K:PySem.W.Frag}{H:Hp}{vs:List V}{ts:List T}(h:Reps K H vs ts):∀k:Nat,Reps K H (b5e k vs).flatten (b5e k ts).flatten
 |0=>.nil
 | k+1=>by
   rw[b5N,b5N,b6C,b6C];exact Reps.append h (Reps.rep h k)
theorem a3d:OpR3 X (binaryOp .Mult) b1r:=by
 intro pins s σ H x y v u Q2 I rx ry q;obtain⟨a,b,M,Q,r1,r2,hh,q,en⟩:=q;unfold b1r at q;split at q
 ·obtain rfl:=a0l r1;obtain rfl:=a0l r2;exact b3o pins s σ H _ _ v u Q2 I rx ry ⟨_,_,rfl,rfl,q.1,en _ _ M H Kp.refl hh a0F q.2⟩
 ·obtain rfl:=a0w r1;obtain rfl:=a0l r2;split at q
  ·rename_i ts e0;obtain⟨xs,h1,h2⟩:=hh _ _ e0;obtain⟨q1,q2,q3,q4⟩:=q;refine b3m pins s σ H _ _ v u Q2 I rx ry ⟨_,_,xs,rfl,rfl,h1,q1,q2,by rw[h2.length];exact q3,fun r hr=>?_⟩;exact en _ _ _ _ (Kp.new hr) (hh.newL hr (h2.rep _)) a2G (q4 r (hh.free hr))
  ·exact q.elim
 ·obtain⟨l,xs,rfl,g1,g2⟩:=a0Y r1;obtain rfl:=a0l r2;obtain⟨q1,q2,q3,q4⟩:=q;refine b1N pins s σ H _ _ v u Q2 I rx ry ⟨_,_,xs,rfl,rfl,g1,q1,q2,by rw[g2.length];exact q3,fun r H' h' c=>?_⟩;rcases c with rfl|⟨c1,rfl⟩
  ·exact en _ _ _ _ Kp.refl hh (a1z h' (g2.rep _)) q4
  ·exact en _ _ _ _ (Kp.new c1) (hh.keep c1) (a1z h' (Reps.kp (Kp.new c1) _ _ (g2.rep _))) q4
 ·exact q.elim
noncomputable def a6x(g:Int->Int->Bool):R3:=fun x y M Q=>match x,y with
 |.int i,.int j=>Q (.bl (g i j)) M
 |_,_=>False
theorem a4K{f:b5c->b5c->Sem b5c}{g:Int->Int->Bool}(h:OpR X f (rI0 fun i j=>.bl (g i j))):OpR3 X f (a6x g):=by
 intro pins s σ H x y v u Q2 I rx ry q;obtain⟨a,b,M,Q,r1,r2,hh,q,en⟩:=q;unfold a6x at q;split at q
 ·obtain rfl:=a0l r1;obtain rfl:=a0l r2;exact h pins s σ H _ _ v u Q2 I rx ry ⟨_,_,rfl,rfl,en _ _ M H Kp.refl hh a1g q⟩
 ·exact q.elim
noncomputable def rLt3:R3:=a6x fun i j=>decide (i<j)
noncomputable def rLe3:R3:=a6x fun i j=>decide (i<=j)
noncomputable def rGt3:R3:=a6x fun i j=>decide (j<i)
noncomputable def rGe3:R3:=a6x fun i j=>decide (j<=i)
theorem a8B:OpR3 X (compareOp .Lt) rLt3:=a4K b4A
theorem a5y:OpR3 X (compareOp .LtE) rLe3:=a4K b4B
theorem a8C:OpR3 X (compareOp .Gt) rGt3:=a4K b4C
theorem b0O:OpR3 X (compareOp .GtE) rGe3:=a4K b4D
noncomputable def rEqv(g:Bool->Bool):R3:=fun x y M Q=>match x,y with
 | .adr p,.adr q=>(match M p,M q with
   |some (.lst a),some (.lst b)=>a0N a=true/\a0N b=true/\a2H a<=30/\Q (.bl (g (eqTs a b))) M
   |_,_=>False)
 |x,y=>a0j x=true/\a0j y=true/\depT x<=30/\Q (.bl (g (eqT x y))) M
noncomputable def rEq3:R3:=rEqv id
noncomputable def rNe3:R3:=rEqv not
theorem a5F{pins:PNS}{σ:St}{H:Hp}{s:b4U}(I:Inv X pins σ H s)(hu:X.A.units+64<cLine){p p':Addr}{xs ys:List V}{ts us:List T}(h1:H p=some (.lst xs))(h2:Reps X.K H xs ts)(g1:H p'=some (.lst ys))(g2:Reps X.K H ys us)
  (px:a0N ts=true) (py:a0N us=true) (hd:a2H ts<=30) :
  b8Z X.A s (.ref p) (.ref p') (eqTs ts us)/\b8c X.A s (.ref p) (.ref p') (!(eqTs ts us)):=by
 obtain⟨its,r1,pl,_⟩:=I.list (SqL.of h1);obtain⟨its2,r2,pl2,_⟩:=I.list (SqL.of g1);have l1:=h2.length;have l2:=g2.length;have m1:=r1.length;have m2:=r2.length;have hu':X.A.units<cLine:=by lia
 by_cases hl:its.length=its2.length
 ·have he:=a7h (X:=X) (A:=X.A.in1) (s:=s) (n:=30) px py hd h2 g2 r1 r2 fun x y v u a b hx px py rx ry ra rb=>(a9l I 30 X.A.in1 x y v u a b hx (by show X.A.units+1+30+1<cLine;lia) px py rx ry ra rb).1;have hsz:its.toArray.size=its2.toArray.size:=by simpa using hl
  have rc:=SeqAt.RcAt.lists (A:=X.A) pl.isList pl2.isList hsz hu' he;have rn:=SeqAt.RcNeAt.lists (A:=X.A) pl.isList pl2.isList hsz hu' he
  have ee:(b5S its.toArray.size).all (eqJ ts us)=eqTs ts us:=by
   rw[<- a2t,b5a,<- l1,<- l2,m1,m2,<- hl];simp
  rw[ee] at rc rn;exact⟨rc,rn⟩
 ·have hne:eqTs ts us=false:=by
   cases q:eqTs ts us with
   |false=>rfl
   |true=>have:=a7m q;lia
  have hsz:(its.toArray.size != its2.toArray.size)=true:=by simpa using hl
  rw[hne];exact⟨SeqAt.RcAt.lists_lengths pl.isList pl2.isList hsz hu',SeqAt.RcNeAt.lists_lengths pl.isList pl2.isList hsz hu'⟩
theorem a2z(hu:X.A.units+64<cLine):OpR3 X (compareOp .Eq) rEq3:=by
 intro pins s σ H x y v u Q2 I rx ry q;obtain⟨a,b,M,Q,r1,r2,hh,q,en⟩:=q;unfold rEq3 rEqv at q;split at q
 ·rename_i p p';split at q
  ·rename_i ts us e1 e2;obtain⟨xs,h1,h2⟩:=hh _ _ e1;obtain⟨ys,g1,g2⟩:=hh _ _ e2;obtain rfl:=a0w r1;obtain rfl:=a0w r2;cases rx;cases ry;exact(a5F I hu h1 h2 g1 g2 q.1 q.2.1 q.2.2.1).1 _ _ _ _ ⟨.bl _,H,I,rfl,en _ _ M H Kp.refl hh a1g q.2.2.2⟩
  ·exact q.elim
 ·obtain⟨q1,q2,q3,q⟩:=q;exact(a9l I 30 X.A a b x y v u q3 (by lia) q1 q2 r1 r2 rx ry).2.1 _ _ _ _ ⟨.bl _,H,I,rfl,en _ _ M H Kp.refl hh a1g q⟩
theorem a5x(hu:X.A.units+64<cLine):OpR3 X (compareOp .NotEq) rNe3:=by
 intro pins s σ H x y v u Q2 I rx ry q;obtain⟨a,b,M,Q,r1,r2,hh,q,en⟩:=q;unfold rNe3 rEqv at q;split at q
 ·rename_i p p';split at q
  ·rename_i ts us e1 e2;obtain⟨xs,h1,h2⟩:=hh _ _ e1;obtain⟨ys,g1,g2⟩:=hh _ _ e2;obtain rfl:=a0w r1;obtain rfl:=a0w r2;cases rx;cases ry;exact(a5F I hu h1 h2 g1 g2 q.1 q.2.1 q.2.2.1).2 _ _ _ _ ⟨.bl _,H,I,rfl,en _ _ M H Kp.refl hh a1g q.2.2.2⟩
  ·exact q.elim
 ·obtain⟨q1,q2,q3,q⟩:=q;exact(a9l I 30 X.A a b x y v u q3 (by lia) q1 q2 r1 r2 rx ry).2.2 _ _ _ _ ⟨.bl _,H,I,rfl,en _ _ M H Kp.refl hh a1g q⟩
theorem b2e{op:c0H}{r:R3}(ho:OpR3 X (compareOp op) r)(ha:HE X a ta)(hb:HE X b tb)(hm:behindInMarks op b=false):HE X (.Compare a [op] [b] pos) (tOp3 r ta tb):=fun ρ M Q h =>
 (b1K ho (ha.d (ρ:=ρ)) (hb.d (ρ:=ρ)) hm).imp fun σ H Q2 b=>dOp h b
noncomputable def a8f(t:TE3):TT3:=fun ρ M Q=>t ρ M fun x M1=>match x with
 |.bl k=>Q k M1
 |_=>False
theorem a7n{K:PySem.W.Frag}{H:Hp}{Q:Bool->MH->Prop}{Q2:Bool->Hp->Prop}(en:EndT K H Q Q2):EndE K H (fun x M1=>match x with|.bl k=>Q k M1|_=>False) (fun x H'=>∃k,x=.bl k/\Q2 k H'):=by
 intro t v M' H' k h r q;split at q
 ·obtain rfl:=a1H r;exact⟨_,rfl,en _ M' H' k h q⟩
 ·exact q.elim
theorem a0I{op:c0H}{r:R3}(ho:OpR3 X (compareOp op) r)(ha:HE X a ta)(hb:HE X b tb)(hm:behindInMarks op b=false):HT X (.Compare a [op] [b] pos) (a8f (tOp3 r ta tb)):=fun ρ M Q h =>
 (b1A ho (ha.d (ρ:=ρ)) (hb.d (ρ:=ρ)) hm).imp fun σ H Q2 ⟨hr,hh,en⟩=>dOp (ta:=ta) (tb:=tb) (r:=r) h ⟨hr,hh,a7n en⟩
noncomputable def a4B(r r':R3)(ta tb tc:TE3):TE3:=fun ρ M Q=>ta ρ M fun x M1=>tb ρ M1 fun y M2=>r x y M2 fun z M3=>match z with
 |.bl k=>(if k=true then tc ρ M3 fun w M4=>r' y w M4 Q else Q (.bl false) M3)
 |_=>False
theorem b0R{ρ:En}{M:MH}{Q:VK3}{r r':R3}(h:a4B r r' ta tb tc ρ M Q){σ:St}{H:Hp}{Q2:VK}(b:bE X.K ρ M Q σ H Q2):a8i (dR X.K r) (dR X.K r') (dE X.K ρ ta) (dE X.K ρ tb) (dE X.K ρ tc) σ H Q2:=by
 obtain⟨hr,hh,en⟩:=b;refine⟨M,_,h,hr,hh,fun t v M1 H1 k1 h1 r1 q1=>⟨M1,_,q1,hr.kp k1,h1,fun t2 v2 M2 H2 k2 h2 r2 q2=>⟨t,t2,M2,_,Rep.kp k2 _ _ r1,r2,h2,q2,fun z v3 M3 H3 k3 h3 r3 q3=>?_⟩⟩⟩;split at q3
 ·rename_i k;obtain rfl:=a1H r3;refine⟨k,rfl,?_⟩;have kk:=k1.trans (k2.trans k3);split
  ·rename_i hk;rw[if_pos hk] at q3;exact⟨M3,_,q3,hr.kp kk,h3,fun t4 v4 M4 H4 k4 h4 r4 q4=>⟨t2,t4,M4,Q,Rep.kp (k3.trans k4) _ _ r2,r4,h4,q4,en.kp (kk.trans k4)⟩⟩
  ·rename_i hk;rw[if_neg hk] at q3;exact en _ _ M3 H3 kk h3 a1g q3
 ·exact q3.elim
theorem b2f{op op':c0H}{r r':R3}(ho:OpR3 X (compareOp op) r)(ho':OpR3 X (compareOp op') r')(ha:HE X a ta)(hb:HE X b tb)(hc:HE X c tc)
  (hm:lastMarks [op,op'] [b,c]=false:=by with_unfolding_all rfl):HE X (.Compare a [op,op'] [b,c] pos) (a4B r r' ta tb tc):=fun ρ M Q h =>
 (b0a ho ho' (ha.d (ρ:=ρ)) (hb.d (ρ:=ρ)) (hc.d (ρ:=ρ)) hm).imp fun σ H Q2 b=>b0R h b
theorem a7j{op op':c0H}{r r':R3}(ho:OpR3 X (compareOp op) r)(ho':OpR3 X (compareOp op') r')(ha:HE X a ta)(hb:HE X b tb)(hc:HE X c tc)
  (hm:lastMarks [op,op'] [b,c]=false:=by with_unfolding_all rfl):HT X (.Compare a [op,op'] [b,c] pos) (a8f (a4B r r' ta tb tc)):=fun ρ M Q h =>
 (a9V ho ho' (ha.d (ρ:=ρ)) (hb.d (ρ:=ρ)) (hc.d (ρ:=ρ)) hm).imp fun σ H Q2 ⟨hr,hh,en⟩=>b0R (ta:=ta) (tb:=tb) (tc:=tc) (r:=r) (r':=r') h ⟨hr,hh,a7n en⟩
noncomputable def truT(M:MH):T->Option Bool
 |.non=>some false
 |.bl b=>some b
 |.int i=>some (i != 0)
 |.str y=>if y.length<=sizeLine then some (decide (y.length≠0)) else none
 |.tup ts=>some (!ts.isEmpty)
 |.rd ts=>some (!ts.isEmpty)
 |.dic _ _=>none
 | .adr p=>match M p with
   |some (.lst ts)=>some (!ts.isEmpty)
   |_=>none
noncomputable def b2z(te:TE3):TT3:=fun ρ M Q=>te ρ M fun x M1=>match truT M1 x with
 |some k=>Q k M1
 |none=>False
theorem a4Z{K:PySem.W.Frag}{H:Hp}{xs:List V}{ts:List T}(h:Reps K H xs ts):(!xs.isEmpty)=!ts.isEmpty:=by
 have:=h.length
 cases xs<;>cases ts<;>first|rfl|(simp at this)
theorem a1T (ha:HE X a ta) (he:∀whole,isTrue a X.env whole=(do let v <- whole;standAt a.pos;holding [v] (truthy v)):=by intro _;rfl):HT X a (b2z ta):=fun ρ M Q h =>
 (a9U (ha.d (ρ:=ρ)) he).imp fun σ H Q2 ⟨hr,hh,en⟩=>⟨M,_,h,hr,hh,fun t v M1 H1 k1 h1 r1 q1=>by
  have fin:∀k,truT M1 t=some k->Q2 k H1:=fun k e=>by
   have q:(match truT M1 t with|some k=>Q k M1|none=>False):=q1
   rw[e] at q;exact en k M1 H1 k1 h1 q
  cases t with
  |non=>obtain rfl:=a3H r1;exact⟨false,rfl,fin _ rfl⟩
  |bl b=>obtain rfl:=a1H r1;exact⟨b,rfl,fin _ rfl⟩
  |int i=>obtain rfl:=a0l r1;exact⟨_,rfl,fin _ rfl⟩
  | str y =>
    obtain rfl:=a0z r1;by_cases hy:y.length<=sizeLine
    ·refine⟨_,⟨hy,rfl⟩,fin _ ?_⟩
     show(if y.length<=sizeLine then some (decide (y.length≠0)) else none)=_
     rw[if_pos hy];congr 1;by_cases h0:y.length=0
     ·rw[h0];rfl
     ·have:((y.length:Int) != 0)=true:=by simpa using h0
      rw[this];simpa using h0
    ·have q:(match truT M1 (.str y) with|some k=>Q k M1|none=>False):=q1
     have e:truT M1 (.str y)=none:=if_neg hy;rw[e] at q;exact q.elim
  | tup ts =>
    obtain⟨p,xs,rfl,g1,g2⟩:=a0Y r1;exact⟨!xs.isEmpty,.inr (.inl ⟨xs,g1,rfl⟩),fin _ (by rw[a4Z g2];rfl)⟩
  | rd ts =>
    obtain⟨p,xs,rfl,g1,g2⟩:=a4q r1;exact⟨!xs.isEmpty,.inl ⟨xs,g1.sq,rfl⟩,fin _ (by rw[a4Z g2];rfl)⟩
  | dic ks ts =>
    have q:(match truT M1 (.dic ks ts) with|some k=>Q k M1|none=>False):=q1
    exact q.elim
  | adr p =>
    obtain rfl:=a0w r1;cases e0:M1 p with
    | none =>
      have q:(match truT M1 (.adr p) with|some k=>Q k M1|none=>False):=q1
      have e:truT M1 (.adr p)=none:=by show(match M1 p with|some (.lst ts)=>some (!ts.isEmpty)|_=>none)=none;rw[e0]
      rw[e] at q;exact q.elim
    | some o =>
      cases o with
      | lst ts =>
        obtain⟨xs,g1,g2⟩:=h1 _ _ e0
        exact⟨!xs.isEmpty,.inl ⟨xs,SqL.of g1,rfl⟩,fin _ (by show(match M1 p with|some (.lst ts)=>some (!ts.isEmpty)|_=>none)=_;rw[e0,a4Z g2])⟩
      | dk kvs =>
        have q:(match truT M1 (.adr p) with|some k=>Q k M1|none=>False):=q1
        have e:truT M1 (.adr p)=none:=by show(match M1 p with|some (.lst ts)=>some (!ts.isEmpty)|_=>none)=none;rw[e0]
        rw[e] at q;exact q.elim
      | dt kvs =>
        have q:(match truT M1 (.adr p) with|some k=>Q k M1|none=>False):=q1
        have e:truT M1 (.adr p)=none:=by show(match M1 p with|some (.lst ts)=>some (!ts.isEmpty)|_=>none)=none;rw[e0]
        rw[e] at q;exact q.elim
      | fz kvs =>
        have q:(match truT M1 (.adr p) with|some k=>Q k M1|none=>False):=q1
        have e:truT M1 (.adr p)=none:=by show(match M1 p with|some (.lst ts)=>some (!ts.isEmpty)|_=>none)=none;rw[e0]
        rw[e] at q;exact q.elim
      | fk kvs =>
        have q:(match truT M1 (.adr p) with|some k=>Q k M1|none=>False):=q1
        have e:truT M1 (.adr p)=none:=by show(match M1 p with|some (.lst ts)=>some (!ts.isEmpty)|_=>none)=none;rw[e0]
        rw[e] at q;exact q.elim
      | ob C fs =>
        have q:(match truT M1 (.adr p) with|some k=>Q k M1|none=>False):=q1
        have e:truT M1 (.adr p)=none:=by show(match M1 p with|some (.lst ts)=>some (!ts.isEmpty)|_=>none)=none;rw[e0]
        rw[e] at q
        exact q.elim⟩
end
section
variable{X:Cx}{a b c e:Expr}{es rest:LSE}{ta tb tc te:TE3}{tA tB:TT3}{t:TA3}{pos:Pos}
noncomputable def HW(X:Cx)(e:Expr)(t:TT3):Prop:=∀ρ M Q,t ρ M Q->PW X e (bT X.K ρ M Q)
theorem HW.d{t:TT3}{ρ:En}(h:HW X e t):PW X e (dT X.K ρ t):=fun wh pins s σ H Q I ⟨M,Q3,q,b⟩=>h ρ M Q3 q wh pins s σ H Q I b
theorem PW.imp{t t':TT}(h:PW X e t)(f:∀σ H Q,t' σ H Q->t σ H Q):PW X e t':=fun wh pins s σ H Q I q=>h wh pins s σ H Q I (f σ H Q q)
theorem HW.ht{t:TT3}(h:HW X e t):HT X e t:=fun ρ M Q q=>(h ρ M Q q).pt
noncomputable def tOr3(t u:TT3):TT3:=fun ρ M Q=>t ρ M fun c M1=>if c=true then Q true M1 else u ρ M1 Q
noncomputable def b2C(t:TT3):TT3:=fun ρ M Q=>t ρ M fun c M1=>Q (!c) M1
theorem a4e(ha:HT X a tA):HT X (.UnaryOp .Not a pos) (b2C tA):=fun ρ M Q h =>
 (b2W (ha.d (ρ:=ρ))).imp fun σ H Q2 ⟨hr,hh,en⟩=>⟨M,_,h,hr,hh,fun b M1 H1 k1 h1 q1=>en _ M1 H1 k1 h1 q1⟩
theorem a8b(ha:HT X a tA):HW X (.BoolOp .Or [a] pos) tA:=fun ρ M Q h=>(b2V (ha.d (ρ:=ρ))).imp fun σ H Q2 b=>⟨M,Q,h,b⟩
theorem w_or(ha:HT X a tA)(hb:HW X (.BoolOp .Or (b::rest) pos) tB):HW X (.BoolOp .Or (a::b::rest) pos) (tOr3 tA tB):=fun ρ M Q h =>
 (b4v (ha.d (ρ:=ρ)) (hb.d (ρ:=ρ))).imp fun σ H Q2 ⟨hr,hh,en⟩=>⟨M,_,h,hr,hh,fun b M1 H1 k1 h1 q1=>by
  dsimp only at q1|-
  split
  ·rename_i hb;rw[if_pos hb] at q1;exact en _ M1 H1 k1 h1 q1
  ·rename_i hb;rw[if_neg hb] at q1
   exact⟨M1,Q,q1,hr.kp k1,h1,fun b' M2 H2 k2=>en b' M2 H2 (k1.trans k2)⟩⟩
noncomputable def b0I(ta tb:TE3):TE3:=fun ρ M Q=>ta ρ M fun x M1=>match x with
 |.bl c=>(if c=true then tb ρ M1 Q else Q (.bl false) M1)
 |_=>False
noncomputable def b0D(ta:TE3):TE3:=fun ρ M Q=>ta ρ M fun x M1=>match x with
 |.bl c=>Q (.bl (!c)) M1
 |_=>False
theorem b3K{op}(ha:HE X a ta):HE X (.BoolOp op [a] pos) ta:=fun ρ M Q h=>b3f (ha ρ M Q h)
theorem b3M(ha:HE X a ta)(hb:HE X (.BoolOp .And (b::rest) pos) tb):HE X (.BoolOp .And (a::b::rest) pos) (b0I ta tb):=fun ρ M Q h =>
 (b3k (ha.d (ρ:=ρ)) (hb.d (ρ:=ρ))).imp fun σ H Q2 ⟨hr,hh,en⟩=>⟨M,_,h,hr,hh,fun x v M1 H1 k1 h1 r1 q1=>by
  dsimp only at q1|-
  split at q1
  ·rename_i c;obtain rfl:=a1H r1;refine⟨c,rfl,?_⟩;split
   ·rename_i hc;rw[if_pos hc] at q1;exact⟨M1,Q,q1,hr.kp k1,h1,en.kp k1⟩
   ·rename_i hc;rw[if_neg hc] at q1;exact en _ _ M1 H1 k1 h1 a1g q1
  ·exact q1.elim⟩
theorem b3L(ha:HE X a ta):HE X (.UnaryOp .Not a pos) (b0D ta):=fun ρ M Q h =>
 (b3g (ha.d (ρ:=ρ))).imp fun σ H Q2 ⟨hr,hh,en⟩=>⟨M,_,h,hr,hh,fun x v M1 H1 k1 h1 r1 q1=>by
  dsimp only at q1|-
  split at q1
  ·rename_i c;obtain rfl:=a1H r1;exact⟨c,rfl,en _ _ M1 H1 k1 h1 a1g q1⟩
  ·exact q1.elim⟩
noncomputable def b2D:TA3:=fun _ M Q=>Q [] M
noncomputable def b0F(ta:TE3)(tr:TA3):TA3:=fun ρ M Q=>ta ρ M fun x M1=>tr ρ M1 fun xs M2=>Q (x::xs) M2
theorem a0d:HA X [] b2D:=fun ρ M Q h=>a5w.imp fun σ H Q2 ⟨hr,hh,en⟩=>en [] [] M H Kp.refl hh .nil h
theorem a0a(ha:HE X a ta)(hr:HA X es t)(hs:starEach (a::es) X.env=(false,eval a X.env)::starEach es X.env:=by rfl):HA X (a::es) (b0F ta t):=fun ρ M Q h =>
 (a1r (ha.d (ρ:=ρ)) (hr.d (ρ:=ρ)) hs).imp fun σ H Q2 ⟨hr,hh,en⟩=>⟨M,_,h,hr,hh,fun x v M1 H1 k1 h1 r1 q1=>⟨M1,_,q1,hr.kp k1,h1,fun ts vs M2 H2 k2 h2 r2 q2 =>
  en _ _ M2 H2 (k1.trans k2) h2 (.cons (Rep.kp k2 _ _ r1) r2) q2⟩⟩
noncomputable def b2x(t:TA3):TE3:=fun ρ M Q=>t ρ M fun xs M1=>xs.length<=sizeLine/\Q (.tup xs) M1
noncomputable def b2F(t:TA3):TE3:=fun ρ M Q=>t ρ M fun xs M1=>xs.length<=sizeLine/\∀p,M1 p=none->Q (.adr p) (updM M1 p (.lst xs))
theorem a5M{x1}(h:HA X es t):HE X (.Tuple es x1 pos) (b2x t):=fun ρ M Q q =>
 (b3c (h.d (ρ:=ρ))).imp fun σ H Q2 ⟨hr,hh,en⟩=>⟨M,_,q,hr,hh,fun ts vs M1 H1 k1 h1 r1 q1 =>
  ⟨by rw[r1.length];exact q1.1,fun p hp=>en _ _ M1 _ (k1.trans (Kp.new hp)) (h1.keep hp) (a1z (SqT.of a0t) (Reps.kp (Kp.new hp) _ _ r1)) q1.2⟩⟩
theorem a4f(h:HA X es t):HE X (.List es pos) (b2F t):=fun ρ M Q q =>
 (a8x (h.d (ρ:=ρ))).imp fun σ H Q2 ⟨hr,hh,en⟩=>⟨M,_,q,hr,hh,fun ts vs M1 H1 k1 h1 r1 q1 =>
  ⟨by rw[r1.length];exact q1.1,fun p hp=>en _ _ _ _ (k1.trans (Kp.new hp)) (h1.newL hp r1) a2G (q1.2 p (h1.free hp))⟩⟩
noncomputable abbrev Sp3:=List T->MH->VK3->Prop
noncomputable def dSp(K:PySem.W.Frag)(sp:Sp3):Sp:=fun vs H Q2 _=>∃ts M Q,Reps K H vs ts/\HR K H M/\sp ts M Q/\EndE K H Q Q2
structure Df(P:b5i)(w:b5B)(K:PySem.W.Frag)(mg:SOV)(base:Heap)(n:Nat)(x:Str)(ps:LSS)(sp:Sp3):Prop where
 out:∃f fd,FnOk P w K mg base CX0 n f fd ps (dSp K sp)/\mg x=some (.ref f)/\PySem.W.keepIn K (.ref f)=true/\a3Y K fd ps []
theorem Df.mono{P:b5i}{w:b5B}{K:PySem.W.Frag}{mg:SOV}{base:Heap}{n m:Nat}{x:Str}{ps:LSS}{sp:Sp3}(D:Df P w K mg base n x ps sp)(h:n<=m):Df P w K mg base m x ps sp:=by
 obtain⟨f,fd,F,a,b,c⟩:=D.out;exact⟨f,fd,F.mono h,a,b,c⟩
noncomputable def b0H(sp:Sp3)(t:TA3):TE3:=fun ρ M Q=>t ρ M fun ts M1=>sp ts M1 Q
theorem a0s{n:Nat}{x:Str}{ps:LSS}{sp:Sp3}{p:Pos}(D:Df X.prog X.w X.K X.mg X.base n x ps sp)(hr:Room n X.A)(ha:HA X (e::es) t)(hg:Gl X x:=by rfl)(hdb:QDD x:=by decide)
  (he:QSS X e es:=by rfl) (hpl:QPP X pos es:=by rfl) :
  HE X (.Call (.Name x p) (e::es) [] pos) (b0H sp t):=fun ρ M Q h=>by
 obtain⟨f,fd,F,hm,hk,hb⟩:=D.out
 exact(b1L F hr hg hm hk hb .nil b4z (ha.d (ρ:=ρ)) hdb he hpl).imp fun σ H Q2 ⟨hr,hh,en⟩=>⟨M,_,h,hr,hh,fun ts vs M1 H1 k1 h1 r1 q1 =>
  ⟨ts,M1,Q,by rw[b6o];exact r1,h1,q1,en.kp k1⟩⟩
noncomputable def tCB3(r:List T->MH->VK3->Prop)(t:TA3):TE3:=fun ρ M Q=>t ρ M fun ts M1=>r ts M1 Q
theorem a1j{x:Str}{id:String}{r:List T->MH->VK3->Prop}{p:Pos}(hc:a3m X (.builtin id) r)(hm:X.mg x=none)(hv:bootBuiltins x=some (.builtin id))(ha:HA X (e::es) t)(hg:Gl X x:=by rfl)(hn:x≠"__name__":=by decide)(hdb:QDD x:=by decide)
  (he:QSS X e es:=by rfl) (hpl:QPP X pos es:=by rfl):HE X (.Call (.Name x p) (e::es) [] pos) (tCB3 r t):=fun ρ M Q h =>
 (b0c hc hg hm hv (ha.d (ρ:=ρ)) hn hdb he hpl).imp fun σ H Q2 ⟨hr,hh,en⟩=>⟨M,_,h,hr,hh,fun ts vs M1 H1 k1 h1 r1 q1=>⟨ts,M1,Q,r1,h1,q1,en.kp k1⟩⟩
theorem a1A{x:Str}{ty:String}{r:List T->MH->VK3->Prop}{p:Pos}(hc:a3m X (.type ty) r)(hm:X.mg x=none)(hv:bootBuiltins x=some (.type ty))(ha:HA X (e::es) t)(hg:Gl X x:=by rfl)(hn:x≠"__name__":=by decide)(hdb:QDD x:=by decide)
  (he:QSS X e es:=by rfl) (hpl:QPP X pos es:=by rfl):HE X (.Call (.Name x p) (e::es) [] pos) (tCB3 r t):=fun ρ M Q h =>
 (a8y hc hg hm hv (ha.d (ρ:=ρ)) hn hdb he hpl).imp fun σ H Q2 ⟨hr,hh,en⟩=>⟨M,_,h,hr,hh,fun ts vs M1 H1 k1 h1 r1 q1=>⟨ts,M1,Q,r1,h1,q1,en.kp k1⟩⟩
end
section
variable{X:Cx}
theorem a1F{K:PySem.W.Frag}{H:Hp}{vs:List V}{x:T}(r:Reps K H vs [x]):∃v,vs=[v]/\Rep K H v x:=by
 unfold Reps at r;obtain⟨v,w,rfl,h,r⟩:=r;unfold Reps at r;subst r;exact⟨v,rfl,h⟩
theorem b4p{K:PySem.W.Frag}{H:Hp}{vs:List V}{x y:T}(r:Reps K H vs [x,y]):∃v w,vs=[v,w]/\Rep K H v x/\Rep K H w y:=by
 unfold Reps at r;obtain⟨v,r',rfl,h,r⟩:=r;obtain⟨w,rfl,h'⟩:=a1F r;exact⟨v,w,rfl,h,h'⟩
noncomputable def b1s:List T->MH->VK3->Prop:=fun xs M Q=>match xs with
 |[.tup ts]=>Q (.int ts.length) M
 |[.rd ts]=>Q (.int ts.length) M
 |[.adr p]=>(match M p with|some (.lst ts)=>Q (.int ts.length) M|_=>False)
 |[.str z]=>z.length<=sizeLine/\Q (.int z.length) M
 |_=>False
theorem a1i:a3m X (.builtin "len") b1s:=by
 intro pins s σ H vs us Q2 I r h;obtain⟨xs,M,Q,rr,hh,q,en⟩:=h;unfold b1s at q;split at q
 ·obtain⟨v,rfl,r1⟩:=a1F rr;obtain⟨p,ys,rfl,g1,g2⟩:=a0Y r1;exact a2n pins s σ H _ us Q2 I r ⟨p,ys,rfl,.inr g1,by rw[g2.length];exact en _ _ M H Kp.refl hh a0F q⟩
 ·obtain⟨v,rfl,r1⟩:=a1F rr;obtain⟨p,ys,rfl,g1,g2⟩:=a4q r1;exact a2n pins s σ H _ us Q2 I r ⟨p,ys,rfl,.inl g1.sq,by rw[g2.length];exact en _ _ M H Kp.refl hh a0F q⟩
 ·obtain⟨v,rfl,r1⟩:=a1F rr;obtain rfl:=a0w r1;split at q
  ·rename_i ts e0;obtain⟨ys,g1,g2⟩:=hh _ _ e0;exact a2n pins s σ H _ us Q2 I r ⟨_,ys,rfl,.inl (SqL.of g1),by rw[g2.length];exact en _ _ M H Kp.refl hh a0F q⟩
  ·exact q.elim
 ·obtain⟨v,rfl,r1⟩:=a1F rr;obtain rfl:=a0z r1;exact a5Y pins s σ H _ us Q2 I r ⟨_,rfl,q.1,en _ _ M H Kp.refl hh a0F q.2⟩
 ·exact q.elim
noncomputable def b1x:List T->MH->VK3->Prop:=fun xs M Q=>match xs with
 |[.int i]=>Q (.int i.natAbs) M
 |_=>False
theorem a6b:a3m X (.builtin "abs") b1x:=by
 intro pins s σ H vs us Q2 I r h;obtain⟨xs,M,Q,rr,hh,q,en⟩:=h;unfold b1x at q;split at q
 ·rename_i i;obtain⟨v,rfl,r1⟩:=a1F rr;obtain rfl:=a0l r1;refine b0z pins s σ H _ us Q2 I r ⟨_,rfl,en _ _ M H Kp.refl hh ?_ q⟩
  have e:(if i<0 then -i else i)=(i.natAbs:Int):=by split<;>lia
  rw[e];exact a0F
 ·exact q.elim
noncomputable def a6w:List T->MH->VK3->Prop:=fun xs M Q=>match xs with
 |[.tup ts]=>Q (.tup ts) M
 |[.rd ts]=>Q (.tup ts) M
 |[.adr p]=>(match M p with|some (.lst ts)=>Q (.tup ts) M|_=>False)
 |_=>False
theorem a1W:a3m X (.type "tuple") a6w:=by
 intro pins s σ H vs us Q2 I r h;obtain⟨xs,M,Q,rr,hh,q,en⟩:=h;unfold a6w at q;split at q
 ·obtain⟨v,rfl,r1⟩:=a1F rr;obtain⟨p,ys,rfl,g1,g2⟩:=a0Y r1;exact a1V pins s σ H _ us Q2 I r ⟨p,ys,rfl,.inr ⟨g1,en _ _ M H Kp.refl hh r1 q⟩⟩
 ·obtain⟨v,rfl,r1⟩:=a1F rr;obtain⟨p,ys,rfl,g1,g2⟩:=a4q r1;exact a1V pins s σ H _ us Q2 I r ⟨p,ys,rfl,.inl ⟨g1.sq,fun l hl=>en _ _ M _ (Kp.new hl) (hh.keep hl) (a1z (SqT.of a0t) (Reps.kp (Kp.new hl) _ _ g2)) q⟩⟩
 ·obtain⟨v,rfl,r1⟩:=a1F rr;obtain rfl:=a0w r1;split at q
  ·rename_i ts e0;obtain⟨ys,g1,g2⟩:=hh _ _ e0;exact a1V pins s σ H _ us Q2 I r ⟨_,ys,rfl,.inl ⟨SqL.of g1,fun l hl=>en _ _ M _ (Kp.new hl) (hh.keep hl) (a1z (SqT.of a0t) (Reps.kp (Kp.new hl) _ _ g2)) q⟩⟩
  ·exact q.elim
 ·exact q.elim
noncomputable def b1t:List T->MH->VK3->Prop:=fun xs M Q=>match xs with
 |[.int i]=>Q (.int i) M
 |[.bl k]=>Q (.int (if k=true then 1 else 0)) M
 |[.str x]=>∃n,PySem.intText? x=some n/\x.length<=640/\Q (.int n) M
 |_=>False
theorem a9v:a3m X (.type "int") b1t:=by
 intro pins s σ H vs us Q2 I r h;obtain⟨xs,M,Q,rr,hh,q,en⟩:=h;unfold b1t at q;split at q
 ·obtain⟨v,rfl,r1⟩:=a1F rr;obtain rfl:=a0l r1;exact a5Z pins s σ H _ us Q2 I r (.inl ⟨_,rfl,en _ _ M H Kp.refl hh a0F q⟩)
 ·obtain⟨v,rfl,r1⟩:=a1F rr;obtain rfl:=a1H r1;exact a5Z pins s σ H _ us Q2 I r (.inr ⟨_,rfl,en _ _ M H Kp.refl hh a0F q⟩)
 ·obtain⟨n,hn,hl,q⟩:=q;obtain⟨v,rfl,r1⟩:=a1F rr;obtain rfl:=a0z r1;obtain⟨u,rfl,ru⟩:=a2Y r;obtain⟨t,rfl⟩:=ru;exact PySem.W.KIN.call_text hn hl ⟨.int n,H,I.kept fun b o e=>e,⟨_,rfl⟩,en _ _ M H Kp.refl hh a0F q⟩
 ·exact q.elim
theorem a4i(hc:X.calm=true):a5f X (.builtin "all") (fun xs H Q=>∃(p:Addr) (bs:List Bool),xs=[.ref p]/\SqL X.K H p (bs.map V.bl)/\Q (.bl (bs.all id)) H):=by
 intro pins s σ H xs us Q I r h;obtain⟨p,bs,rfl,hq,q⟩:=h;obtain⟨u,rfl,rx⟩:=a2Y r;cases rx;obtain⟨its,r',pl,hz⟩:=I.list hq;have hlen:=r'.length;refine call_all_walk (b9J pl.isList ?_);have hp:p<s.heap.objs.size:=by obtain⟨o,n,e,_⟩:=pl;exact b5d e
 refine⟨s.heap.objs.size,_,_,_,_,_,fun i=>(bs[i]?).getD true,rfl,Walks.list (A:=X.A.in1) (I.ok.hd hc) s.heap.objs.size p (b5y hp) its.toArray,⟨⟨_,b5C _ rfl,rfl,rfl⟩,pl.isList.push _⟩,?_,fun h' tk hk=>?_⟩
 ·intro i v s' Q' E' hP hQ;have hP':its[i]?=some v:=by simpa using hP
  have hi:i<bs.length:=by
   have:=(b5q.mp hP').1;rw[b4Y] at hlen;lia
  obtain⟨w,hw,rw'⟩:=r'.get (i:=i) (x:=.bl bs[i]) (by rw[b5n,b5g hi]<;>rfl);rw[hP'] at hw;cases hw;obtain rfl:v=b7q bs[i]:=rw';refine b6a ?_;have e:(bs[i]?).getD true=bs[i]:=by rw[b5g hi]<;>rfl
  dsimp only at hQ;rw[e] at hQ;exact hQ
 ·have e:(b5S its.toArray.size).all (fun i=>(bs[i]?).getD true)=bs.all id:=by
   rw[b4Y] at hlen;rw[b5a,<- hlen];rw[Bool.eq_iff_iff];simp only[b6i,b8m,id];constructor
   ·intro h b hb;obtain⟨i,hi,rfl⟩:=List.getElem_of_mem hb;have:=h i hi;rw[b5g hi] at this;exact this
   ·intro h i hi;rw[b5g hi];exact h _ (c0a hi)
  rw[e]
  have I1:Inv X pins σ H { s with heap:=h',toks:=tk }:=I.kept fun b o eb=>hk b o (by
   intro hm;have:b=s.heap.objs.size:=by simpa using hm
   rw[this] at eb
   exact absurd (b5d eb) (b6c _)) (b5f _ eb)
  exact⟨.bl _,H,I1,rfl,q⟩
noncomputable def a5c:List T->Option (List Bool)
 |[]=>some []
 |.bl b::ts=>(a5c ts).map (b::·)
 |_::_=>none
theorem a4y{K:PySem.W.Frag}{H:Hp}:∀{vs:List V} {ts:List T} {bs:List Bool},Reps K H vs ts->a5c ts=some bs->vs=bs.map V.bl
 |vs,[],bs,h,e=>by unfold a5c at e;cases e;unfold Reps at h;exact h
 | vs, t::ts,bs,h,e=>by
   unfold Reps at h;obtain⟨v,r,rfl,h1,h2⟩:=h;cases t with
   | bl b =>
     unfold a5c at e;cases q:a5c ts with
     |none=>rw[q] at e;cases e
     | some cs =>
       rw[q] at e;cases e;obtain rfl:=a1H h1;rw[a4y h2 q];rfl
   |_=>unfold a5c at e;cases e
noncomputable def b1v:List T->MH->VK3->Prop:=fun xs M Q=>match xs with
 |[.adr p]=>(match M p with|some (.lst ts)=>(match a5c ts with|some bs=>Q (.bl (bs.all id)) M|none=>False)|_=>False)
 |_=>False
theorem a6a(hc:X.calm=true):a3m X (.builtin "all") b1v:=by
 intro pins s σ H vs us Q2 I r h;obtain⟨xs,M,Q,rr,hh,q,en⟩:=h;unfold b1v at q;split at q
 ·obtain⟨v,rfl,r1⟩:=a1F rr;obtain rfl:=a0w r1;split at q
  ·rename_i ts e0;obtain⟨ys,g1,g2⟩:=hh _ _ e0;split at q
   ·rename_i bs eb;obtain rfl:=a4y g2 eb;exact a4i hc pins s σ H _ us Q2 I r ⟨_,bs,rfl,SqL.of g1,en _ _ M H Kp.refl hh a1g q⟩
   ·exact q.elim
  ·exact q.elim
 ·exact q.elim
inductive Ki where
 |non|bool|int|str|tup|list|dict
noncomputable def a3G:Ki->String
 |.non=>"NoneType"|.bool=>"bool"|.int=>"int"|.str=>"str"|.tup=>"tuple"|.list=>"list"|.dict=>"dict"
noncomputable def isiK:Ki->Ki->Bool
 |.bool,.int=>true
 |.non,.non=>true
 |.bool,.bool=>true
 |.int,.int=>true
 |.str,.str=>true
 |.tup,.tup=>true
 |.list,.list=>true
 |.dict,.dict=>true
 |_,_=>false
theorem b3z(K:PySem.W.Frag)(a b:Ki)(hb:b≠.non):PySem.W.kitOne K (.type (a3G a)) (.type (a3G b))=some (isiK a b):=by
 cases b with
 |non=>exact absurd rfl hb
 |_=>cases a<;>rfl
noncomputable def tyK:MH->T->Option Ki
 |_,.non=>some .non
 |_,.bl _=>some .bool
 |_,.int _=>some .int
 |_,.str _=>some .str
 |_,.tup _=>some .tup
 |_,.rd _=>some .list
 |_,.dic _ _=>none
 | M,.adr p=>match M p with
   |some (.lst _)=>some .list
   |some (.dk _)=>some .dict
   |some (.dt _)=>some .dict
   |some (.fz _)=>none
   |some (.fk _)=>none
   |some (.ob _ _)=>none
   |none=>none
theorem a2C(M:MH)(p:Addr):tyK M (.adr p)=(match M p with|some (.lst _)=>some Ki.list|some (.dk _)=>some Ki.dict|some (.dt _)=>some Ki.dict|some (.fz _)=>none|some (.fk _)=>none|some (.ob _ _)=>none|none=>none):=rfl
theorem isi3{pins:PNS}{σ:St}{H:Hp}{s:b4U}{M:MH}{x:T}{v:V}{u:b5c}{n c:Ki}{Q:VPR}(I:Inv X pins σ H s)(hh:HR X.K H M)(r:Rep X.K H v x)(rv:RelV v u)(ht:tyK M x=some n)(hc:c≠.non)
  (h:∀tk,Q (.bool (isiK n c)) { s with toks:=tk }):wpAny (model X.prog X.w) X.A (call (.builtin "isinstance") [u,.type (a3G c)]) Q X.xe s:=by
 have e:=b3z X.K n c hc;cases x with
 |non=>obtain rfl:=a3H r;cases ht;exact a1s I rv .non e h
 |bl k=>obtain rfl:=a1H r;cases ht;exact a1s I rv (.bl k) e h
 |int i=>obtain rfl:=a0l r;cases ht;exact a1s I rv (.int i) e h
 |str z=>obtain rfl:=a0z r;cases ht;exact a1s I rv (.str z) e h
 | tup ts =>
   obtain⟨p,xs,rfl,g1,g2⟩:=a0Y r;cases ht;cases rv;obtain⟨its,_,pt,_⟩:=I.tuple g1;obtain⟨o,h1,h2,_⟩:=pt;exact PySem.W.kia_one PySem.W.kitx_tuple I.kIn ⟨o,h1,h2⟩ e (fun z=>nomatch z) h
 | rd ts =>
   obtain⟨p,xs,rfl,g1,g2⟩:=a4q r;cases ht;cases rv;obtain⟨its,_,pl,_⟩:=I.list g1.sq;obtain⟨o,n,h1,h2,_⟩:=pl;exact PySem.W.kia_one PySem.W.kitx_list I.kIn ⟨o,h1,h2⟩ e (fun z=>nomatch z) h
 |dic ks ts=>cases ht
 | adr p =>
   obtain rfl:=a0w r;cases e0:M p with
   | none =>
     have q:tyK M (.adr p)=none:=by rw[a2C,e0]
     rw[q] at ht;cases ht
   | some o =>
     cases o with
     | lst ts =>
       have q:tyK M (.adr p)=some .list:=by rw[a2C,e0]
       rw[q] at ht;cases ht;obtain⟨xs,g1,_⟩:=hh _ _ e0;exact a1s I rv (.lst g1) e h
     | dk kvs =>
       have q:tyK M (.adr p)=some .dict:=by rw[a2C,e0]
       rw[q] at ht;cases ht;obtain⟨xs,g1,_⟩:=hh _ _ e0;exact a1s I rv (.dK g1) e h
     | dt kvs =>
       have q:tyK M (.adr p)=some .dict:=by rw[a2C,e0]
       rw[q] at ht;cases ht;obtain⟨xs,g1,_⟩:=hh _ _ e0;exact a1s I rv (.dT g1) e h
     | fz kvs =>
       have q:tyK M (.adr p)=none:=by rw[a2C,e0]
       rw[q] at ht;cases ht
     | fk kvs =>
       have q:tyK M (.adr p)=none:=by rw[a2C,e0]
       rw[q] at ht;cases ht
     | ob C fs =>
       have q:tyK M (.adr p)=none:=by rw[a2C,e0]
       rw[q] at ht;cases ht
noncomputable def tIsi(c:Ki)(ta:TE3):TE3:=fun ρ M Q=>ta ρ M fun x M1=>match tyK M1 x with
 |some n=>Q (.bl (isiK n c)) M1
 |none=>False
theorem b0u{e:Expr}{te:TE3}{y:Str}{p p' pos:Pos}(c:Ki)(he:HE X e te)(hm:X.mg "isinstance"=none)(hm':X.mg y=none)(hv:bootBuiltins y=some (.type (a3G c)))(hc:c≠.non:=by intro z;cases z)(hg:Gl X "isinstance":=by rfl)(hg':Gl X y:=by rfl)(hn:y≠"__name__":=by decide)
  (hdb:(y==("__debug__":Str))=false:=by decide) (hs:starEach [e,.Name y p'] X.env=(false,eval e X.env)::starEach [.Name y p'] X.env:=by rfl) (hs2:starEach [.Name y p'] X.env=(false,eval (.Name y p') X.env)::starEach [] X.env:=by rfl)
  (hpl:(backTo pos (starEach [.Name y p'] X.env)).any (·.1)=false:=by rfl) :
  HE X (.Call (.Name "isinstance" p) [e,.Name y p'] [] pos) (tIsi c te):=by
 intro ρ M Q h pins s σ H Q2 I b;obtain⟨hr,hh,en⟩:=b;have pa:=a1r (X:=X) (he.d (ρ:=ρ)) (a1r (b1M (v:=.ty (a3G c)) (pos:=p') hg' hm' hv rfl hn hdb) a5w hs2) hs;refine b6u (a2l I hg hm c0m ?_ (by decide) (by decide))
 refine b6F (thn (pa pos pins s σ H (fun vs H1=>∃v t M1,vs=[v,.ty (a3G c)]/\Rep X.K H1 v t/\HR X.K H1 M1/\Kp X.K H H1/\(match tyK M1 t with
 |some n=>Q (.bl (isiK n c)) M1
 |none=>False)) I ⟨M,_,h,hr,hh,fun t v M1 H1 k1 h1 r1 q1=>⟨v,t,M1,rfl,r1,h1,k1,q1⟩⟩) fun us s1 ⟨vs,H1,I1,rv,v,t,M1,ev,r1,h1,k1,q1⟩=>?_) hs hpl
 subst ev;obtain⟨u,w',rfl,ru,rw'⟩:=b4g rv;obtain rfl:w'=b7I (a3G c):=rw';split at q1
 ·rename_i n e1;exact isi3 I1 h1 r1 ru e1 hc fun tk=>⟨.bl _,H1,I1.tok _,rfl,en _ _ M1 H1 k1 h1 a1g q1⟩
 ·exact q1.elim
end
section
variable{X:Cx}{a b c e:Expr}{st:Stmt}{rest ba bb body:List Stmt}{ta tb te:TE3}{tA:TT3}{t u:TS3}{pos:Pos}
noncomputable def a8h:TS3:=fun D ρ M=>D.nx ρ M
noncomputable def a9J(t u:TS3):TS3:=fun D ρ M=>t { D with nx:=u D } ρ M
theorem EndS.nx'{K:PySem.W.Frag}{H:Hp}{D:Ends3}{D2:Ends}{t:TS3}(h:EndS K H D D2):EndS K H { D with nx:=t D } { D2 with nx:=dS K t D2 } :=
 ⟨fun ρ' M' σ' H' k r hh q=>⟨D,ρ',M',q,r,hh,h.kp k⟩,h.rt,h.bk,h.ct⟩
theorem a0M:HSs X [] a8h:=fun D ρ M h=>b1B.imp fun D2 σ H ⟨hr,hh,en⟩=>en.nx ρ M σ H Kp.refl hr hh h
theorem a0f(h1:HS X st t)(h2:HSs X rest u):HSs X (st::rest) (a9J t u):=fun D ρ M h =>
 (a7a h1.d h2.d).imp fun D2 σ H ⟨hr,hh,en⟩=>⟨{ D with nx:=u D },ρ,M,h,hr,hh,en.nx'⟩
theorem a0m(h1:HS X st t):HSs X [st] t:=fun D ρ M h=>a4I (h1 D ρ M h)
noncomputable def b2B(te:TE3):TS3:=fun D ρ M=>te ρ M D.rt
theorem a0D(he:HE X e te):HS X (.Return (some e) pos) (b2B te):=fun D ρ M h =>
 (b0L (he.d (ρ:=ρ))).imp fun D2 σ H ⟨hr,hh,en⟩=>⟨M,_,h,hr,hh,en.rt⟩
noncomputable def b1b(c:TT3)(t u:TS3):TS3:=fun D ρ M=>c ρ M fun b M1=>if b=true then t D ρ M1 else u D ρ M1
theorem s_if(hc:HT X c tA)(ha:HSs X ba t)(hb:HSs X bb u):HS X (.If c ba bb pos) (b1b tA t u):=fun D ρ M h =>
 (b2X (hc.d (ρ:=ρ)) ha.d hb.d).imp fun D2 σ H ⟨hr,hh,en⟩=>⟨M,_,h,hr,hh,fun b M1 H1 k1 h1 q1=>by
  dsimp only at q1|-
  split
  ·rename_i hb;rw[if_pos hb] at q1;exact⟨D,ρ,M1,q1,hr.kp k1,h1,en.kp k1⟩
  ·rename_i hb;rw[if_neg hb] at q1
   exact⟨D,ρ,M1,q1,hr.kp k1,h1,en.kp k1⟩⟩
noncomputable def b1a:TS3:=fun _ _ _=>False
theorem a6s:HS X st b1a:=fun _ _ _ h=>h.elim
noncomputable def b0E(te:TE3):TS3:=fun D ρ M=>te ρ M fun _ M1=>D.nx ρ M1
theorem b2M(he:HE X e te)(hs:swapsWith e none pos.line X.env=pure false:=by rfl):HS X (.Expr e pos) (b0E te):=fun D ρ M h =>
 (b1E (he.d (ρ:=ρ)) hs).imp fun D2 σ H ⟨hr,hh,en⟩=>⟨M,_,h,hr,hh,fun x v M1 H1 k1 h1 r1 q1=>en.nx ρ M1 σ H1 k1 (hr.kp k1) h1 q1⟩
noncomputable def a9I(i:Nat)(te:TE3):TS3:=fun D ρ M=>te ρ M fun x M1=>D.nx (ρ.set i (some x)) M1
theorem a0V{i:Nat}{x:Str}{pos':Pos}(he:HE X e te)(hN:X.N.Nodup)(hi:X.N[i]?=some x:=by rfl)(hx:Loc X.env.scope x:=by first|exact b7h rfl|exact b8u rfl)(hs:swapsWith e (some (.Name x pos')) pos.line X.env=pure false:=by rfl)
  (hf:QXX X x:=by first|exact .inl rfl|exact .inr rfl|assumption):HS X (.Assign [.Name x pos'] e pos) (a9I i te):=fun D ρ M h =>
 (a8r hN hi hx (he.d (ρ:=ρ)) hs hf).imp fun D2 σ H ⟨hr,hh,en⟩=>⟨M,_,h,hr,hh,fun t v M1 H1 k1 h1 r1 q1=>en.nx _ M1 _ H1 k1 ((hr.kp k1).set i r1) h1 q1⟩
noncomputable abbrev TG3:=T->En->MH->(En->MH->Prop)->Prop
noncomputable abbrev TGs3:=List T->En->MH->(En->MH->Prop)->Prop
noncomputable def EndG(K:PySem.W.Frag)(H:Hp)(Q:En->MH->Prop)(Q2:St->Hp->Prop):Prop:=∀ρ' M' σ' H',Kp K H H'->RhoR K σ' H' ρ'->HR K H' M'->Q ρ' M'->Q2 σ' H'
noncomputable def dG(K:PySem.W.Frag)(g:TG3):TG:=fun v σ H Q2=>∃t ρ M Q,g t ρ M Q/\Rep K H v t/\RhoR K σ H ρ/\HR K H M/\EndG K H Q Q2
noncomputable def dGs(K:PySem.W.Frag)(g:TGs3):TGs:=fun vs σ H Q2=>∃ts ρ M Q,g ts ρ M Q/\Reps K H vs ts/\RhoR K σ H ρ/\HR K H M/\EndG K H Q Q2
noncomputable def HG(X:Cx)(tg:Expr)(g:TG3):Prop:=PG X tg (dG X.K g)
noncomputable def HGs(X:Cx)(tgs:LSE)(g:TGs3):Prop:=PGs X tgs (dGs X.K g)
noncomputable def a9c(i:Nat):TG3:=fun t ρ M Q=>Q (ρ.set i (some t)) M
theorem PG.imp{tg:Expr}{g g':TG}(h:PG X tg g)(f:∀v σ H Q,g' v σ H Q->g v σ H Q):PG X tg g':=fun pins s σ H v u Q I r q=>h pins s σ H v u Q I r (f v σ H Q q)
theorem PGs.imp{tg:LSE}{g g':TGs}(h:PGs X tg g)(f:∀v σ H Q,g' v σ H Q->g v σ H Q):PGs X tg g':=fun pins s σ H v u Q I r q=>h pins s σ H v u Q I r (f v σ H Q q)
theorem a7k{i:Nat}{x:Str}(hN:X.N.Nodup)(hi:X.N[i]?=some x:=by rfl)(hx:Loc X.env.scope x:=by first|exact b7h rfl|exact b8u rfl)(hf:QXX X x:=by first|exact .inl rfl|exact .inr rfl|assumption):HG X (.Name x pos) (a9c i) :=
 (a8w hN hi hx hf).imp fun v σ H Q2 ⟨t,ρ,M,Q,q,r,hr,hh,en⟩=>en _ M _ H Kp.refl (hr.set i r) hh q
noncomputable def b3Q:TGs3:=fun ts ρ M Q=>ts=[]/\Q ρ M
noncomputable def a9d(g:TG3)(gs:TGs3):TGs3:=fun ts ρ M Q=>match ts with
 |t::r=>g t ρ M fun ρ1 M1=>gs r ρ1 M1 Q
 |[]=>False
theorem b3N:HGs X [] b3Q:=b1H.imp fun v σ H Q2 ⟨ts,ρ,M,Q,⟨e,q⟩,r,hr,hh,en⟩=>by
 subst e;unfold Reps at r;exact⟨r,en ρ M σ H Kp.refl hr hh q⟩
theorem a9b{es:LSE}{g:TG3}{gs:TGs3}(h1:HG X e g)(h2:HGs X es gs)(hs:(assignEach (e::es) X.env).map (·.2)=assign e X.env::(assignEach es X.env).map (·.2):=by rfl):HGs X (e::es) (a9d g gs) :=
 (a9Y h1 h2 hs).imp fun vs σ H Q2 ⟨ts,ρ,M,Q,q,r,hr,hh,en⟩=>by
  unfold a9d at q;split at q
  ·rename_i t r';unfold Reps at r;obtain⟨v,vr,rfl,r1,r2⟩:=r;exact⟨v,vr,rfl,t,ρ,M,_,q,r1,hr,hh,fun ρ' M' σ' H' k hr' hh' q'=>⟨r',ρ',M',Q,q',Reps.kp k _ _ r2,hr',hh',fun ρ2 M2 σ2 H2 k2=>en ρ2 M2 σ2 H2 (k.trans k2)⟩⟩
  ·exact q.elim
noncomputable def b2h(n:Nat)(gs:TGs3):TG3:=fun t ρ M Q=>match t with
 |.tup ts=>ts.length=n/\gs ts ρ M Q
 |_=>False
theorem b4N{es:LSE}{k:Nat}{gs:TGs3}{n:Nat}(hc:X.calm=true)(h:HGs X es gs)(hn:(assignEach es X.env).length=n:=by rfl)(hst:(assignEach es X.env).findIdx? (·.1)=none:=by rfl):HG X (.Tuple es k pos) (b2h n gs) :=
 (b3a hc h hn hst).imp fun v σ H Q2 ⟨t,ρ,M,Q,q,r,hr,hh,en⟩=>by
  unfold b2h at q;split at q
  ·rename_i ts;obtain⟨a,xs,rfl,g1,g2⟩:=a0Y r;exact⟨a,xs,rfl,g1,by rw[g2.length];exact q.1,ts,ρ,M,Q,q.2,g2,hr,hh,en⟩
  ·exact q.elim
noncomputable def b3P(to ti:TE3):TG3:=fun v ρ M Q=>to ρ M fun o M1=>ti ρ M1 fun i M2=>match o,i with
 | .adr p,.int k=>(match M2 p with
   |some (.lst ts)=>(match ixN ts.length k with|some j=>Q ρ (updM M2 p (.lst (ts.set j v)))|none=>False)
   |_=>False)
 |_,_=>False
theorem b3O{o i:Expr}{to ti:TE3}(ho:HE X o to)(hi:HE X i ti)
  (ha:∀v,assign (.Subscript o i pos) X.env v=(do
   let ov <- holding [v] (eval o X.env)
   let iv <- holding [v,ov] (eval i X.env)
   standAt pos
   holding [v,ov,iv] (setItem ov iv v)
   release [v,ov,iv] []):=by intro _;rfl):HG X (.Subscript o i pos) (b3P to ti):=by
 intro pins s σ H v u Q2 I r h;obtain⟨t,ρ,M,Q,q,rt,hr,hh,en⟩:=h;refine b3b (ho.d (ρ:=ρ)) (hi.d (ρ:=ρ)) a9N ha pins s σ H v u Q2 I r ?_;refine⟨M,_,q,hr,hh,fun ot ov M1 H1 k1 h1 r1 q1=>⟨M1,_,q1,hr.kp k1,h1,fun it iv M2 H2 k2 h2 r2 q2=>?_⟩⟩;dsimp only at q2;split at q2
 ·obtain rfl:=a0w r1;obtain rfl:=a0l r2;split at q2
  ·rename_i ts e0;obtain⟨xs,g1,g2⟩:=h2 _ _ e0;split at q2
   ·rename_i j ej;have kk:=k1.trans k2;refine⟨_,xs,_,j,rfl,rfl,g1,by rw[g2.length];exact ej,en _ _ σ _ (kk.trans (Kp.lst g1)) (hr.kp (kk.trans (Kp.lst g1))) (h2.setL g1 (g2.set (Rep.kp kk _ _ rt) j)) q2⟩
   ·exact q2.elim
  ·exact q2.elim
 ·exact q2.elim
noncomputable def b2G(te:TE3)(g:TG3):TS3:=fun D ρ M=>te ρ M fun x M1=>g x ρ M1 D.nx
theorem b1h{tg:Expr}{g:TG3}(he:HE X e te)(hg:HG X tg g)(hs:swapsWithSole [tg] e pos.line X.env=pure false:=by rfl)(hw:swappedStores [tg] e X.env=pure none:=by rfl)
  (h1:(assignEach [tg] X.env).map (·.2)=[assign tg X.env]:=by rfl):HS X (.Assign [tg] e pos) (b2G te g):=fun D ρ M h =>
 (b2Z (he.d (ρ:=ρ)) hg hs hw h1).imp fun D2 σ H ⟨hr,hh,en⟩=>⟨M,_,h,hr,hh,fun t v M1 H1 k1 h1 r1 q1=>⟨t,ρ,M1,D.nx,q1,r1,hr.kp k1,h1,fun ρ' M' σ' H' k r hh' q=>en.nx ρ' M' σ' H' (k1.trans k) r hh' q⟩⟩
structure It3 where
 items:List T
 stay:MH->Prop:=fun _=>True
noncomputable abbrev TI3:=En->MH->(It3->MH->Prop)->Prop
structure ItOk(K:PySem.W.Frag)(H:Hp)(J2:It)(J:It3):Prop where
 stop:∀H' M',Kp K H H'->HR K H' M'->J.stay M'->J2.stop J.items.length H'
 go:∀(i:Nat) (x:T) H' M',J.items[i]?=some x->Kp K H H'->HR K H' M'->J.stay M'->J2.go i H'/\∀v H'',J2.yld i H' v H''->Kp K H' H''/\HR K H'' M'/\Rep K H'' v x
noncomputable def HI(X:Cx)(tg iter:Expr)(wi:TI3):Prop:=∀ρ M R,wi ρ M R->PI X tg iter (fun σ H R2=>RhoR X.K σ H ρ/\HR X.K H M/\∀J J2 M' H',Kp X.K H H'->HR X.K H' M'->ItOk X.K H' J2 J->R J M'->R2 J2 H')
noncomputable def dI(K:PySem.W.Frag)(ρ:En)(wi:TI3):TI:=fun σ H R2=>∃M R,wi ρ M R/\RhoR K σ H ρ/\HR K H M/\∀J J2 M' H',Kp K H H'->HR K H' M'->ItOk K H' J2 J->R J M'->R2 J2 H'
theorem HI.d{tg iter:Expr}{wi:TI3}{ρ:En}(h:HI X tg iter wi):PI X tg iter (dI X.K ρ wi):=fun pins s σ H R I ⟨M,R3,q,b⟩=>h ρ M R3 q pins s σ H R I b
theorem PI.imp{tg iter:Expr}{w w':TI}(h:PI X tg iter w)(f:∀σ H R,w' σ H R->w σ H R):PI X tg iter w':=fun pins s σ H R I q=>h pins s σ H R I (f σ H R q)
noncomputable def b3J(tl:TE3):TI3:=fun ρ M R=>tl ρ M fun x M1=>match x with
 |.tup ts=>R ⟨ts,fun _=>True⟩ M1
 |.adr p=>(match M1 p with|some (.lst ts)=>R ⟨ts,fun M'=>M' p=some (.lst ts)⟩ M1|_=>False)
 |_=>False
theorem b0m{K:PySem.W.Frag}{H:Hp}{a:Addr}{xs:List V}{ts:List T}(h:SqT K H a xs)(r:Reps K H xs ts):ItOk K H (Itt K a) ⟨ts,fun _=>True⟩:=by
 refine⟨fun H' M' k hh _=>⟨xs,k.tup _ _ h,by rw[r.length];exact b5h _⟩,fun i x H' M' e k hh _=>?_⟩;obtain⟨v,e1,r1⟩:=r.get e;refine⟨⟨xs,v,k.tup _ _ h,e1⟩,fun v' H'' y=>?_⟩;obtain⟨rfl,y⟩:=y;have:=y xs (k.tup _ _ h);rw[e1] at this;cases this;exact⟨Kp.refl,hh,Rep.kp k _ _ r1⟩
theorem b0n{K:PySem.W.Frag}{H:Hp}{a:Addr}{ts:List T}:ItOk K H (Itl K a) ⟨ts,fun M'=>M' a=some (.lst ts)⟩:=by
 refine⟨fun H' M' k hh st=>?_,fun i x H' M' e k hh st=>?_⟩
 ·obtain⟨xs,g1,g2⟩:=hh _ _ st;exact⟨xs,SqL.of g1,by rw[g2.length];exact b5h _⟩
 ·obtain⟨xs,g1,g2⟩:=hh _ _ st;obtain⟨v,e1,r1⟩:=g2.get e;refine⟨⟨xs,v,SqL.of g1,e1⟩,fun v' H'' y=>?_⟩;obtain⟨rfl,y⟩:=y;have:=y xs (SqL.of g1);rw[e1] at this;cases this;exact⟨Kp.refl,hh,r1⟩
noncomputable def a1k(lo:Int)(n:Nat):List T:=(b5S n).map fun i=>T.int (lo+(i:Nat))
theorem a4o{K:PySem.W.Frag}{H:Hp}{lo:Int}{n:Nat}:ItOk K H (Itr lo n) ⟨a1k lo n,fun _=>True⟩:=by
 have hl:(a1k lo n).length=n:=by unfold a1k;simp
 refine⟨fun H' M' k hh _=>by show n<=(a1k lo n).length;rw[hl];exact b5h _,fun i x H' M' e k hh _=>?_⟩;have hi:i<n:=by have:=(b5q.mp e).1;rwa [hl] at this
 have ex:x=.int (lo+(i:Nat)):=by
  unfold a1k at e;rw[b5n,b7c hi] at e;exact(b5p e).symm
 subst ex;refine⟨hi,fun v H'' y=>?_⟩;obtain⟨rfl,rfl⟩:=y;exact⟨Kp.refl,hh,a0F⟩
theorem a5L{tg l:Expr}{tl:TE3}(hl:HE X l tl):HI X tg l (b3J tl):=by
 intro ρ M R h pins s σ H R2 I b;obtain⟨hr,hh,en⟩:=b
 refine thn (hl ρ M _ h pins s σ H (fun v H1=>∃t M1,Kp X.K H H1/\HR X.K H1 M1/\Rep X.K H1 v t/\(match t with
  |.tup ts=>R ⟨ts,fun _=>True⟩ M1
  |.adr p=>(match M1 p with|some (.lst ts)=>R ⟨ts,fun M'=>M' p=some (.lst ts)⟩ M1|_=>False)
  |_=>False)) I ⟨hr,hh,fun t v M1 H1 k1 h1 r1 q1=>⟨t,M1,k1,h1,r1,q1⟩⟩) fun v s1 ⟨x,H1,I1,rv,t,M1,k1,h1,r1,q1⟩=>?_
 split at q1
 ·rename_i ts;obtain⟨a,xs,rfl,g1,g2⟩:=a0Y r1;cases rv;obtain⟨its,rv,p,hz⟩:=I1.tuple g1;refine wpAny_pyIter_tuple (show s1.heap.IsTuple a its.toArray from p) ?_;refine⟨s1.heap.objs.size,[s1.heap.objs.size],_,_,H1,rfl,I1.kept (t':=s1.toks) fun b o e=>b5f _ e,a7w a _,⟨_,b5C _ rfl,rfl,rfl⟩,fun b hb=>?_,en _ _ M1 H1 k1 h1 (b0m g1 g2) q1⟩;have e:b=s1.heap.objs.size:=by simpa using hb
  subst e;exact I1.fpOk (b5h _) (I1.hok.fresh (b5h _))
 ·rename_i a;obtain rfl:=a0w r1;cases rv;split at q1
  ·rename_i ts e0;obtain⟨xs,g1,g2⟩:=h1 _ _ e0;obtain⟨its,rv,p,hz⟩:=I1.list (SqL.of g1);refine b9J p.isList ?_;refine⟨s1.heap.objs.size,[s1.heap.objs.size],_,_,H1,rfl,I1.kept (t':=s1.toks) fun b o e=>b5f _ e,a8c a _,⟨_,b5C _ rfl,rfl,rfl⟩,fun b hb=>?_,en _ _ M1 H1 k1 h1 b0n q1⟩;have e:b=s1.heap.objs.size:=by simpa using hb
   subst e;exact I1.fpOk (b5h _) (I1.hok.fresh (b5h _))
  ·exact q1.elim
 ·exact q1.elim
noncomputable def a8Y(t:TA3):TI3:=fun ρ M R=>t ρ M fun xs M1=>match xs with
 |[.int j]=>-(2^62)<=j/\j<2^62/\R ⟨a1k 0 j.toNat,fun _=>True⟩ M1
 |_=>False
noncomputable def a8X(t:TA3):TI3:=fun ρ M R=>t ρ M fun xs M1=>match xs with
 |[.int i,.int j]=>(-(2^62)<=i/\i<2^62/\-(2^62)<=j/\j<2^62)/\R ⟨a1k i (j-i).toNat,fun _=>True⟩ M1
 |_=>False
theorem a4V{tg:Expr}{t:TA3}{p:Pos}(hm:X.mg "range"=none)(ha:HA X [a] t)(hg:Gl X "range":=by rfl)(hs:starEach [a] X.env=[(false,eval a X.env)]:=by rfl):HI X tg (.Call (.Name "range" p) [a] [] pos) (a8Y t):=fun ρ M R h =>
 (a8v hg hm (ha.d (ρ:=ρ)) hs).imp fun σ H R2 ⟨hr,hh,en⟩=>⟨M,_,h,hr,hh,fun ts vs M1 H1 k1 h1 r1 q1=>by
  dsimp only at q1;split at q1
  ·rename_i j;obtain⟨v,rfl,rv⟩:=a1F r1;obtain rfl:=a0l rv;exact⟨j,rfl,q1.1,q1.2.1,en _ _ M1 H1 k1 h1 a4o q1.2.2⟩
  ·exact q1.elim⟩
theorem b0r{tg:Expr}{t:TA3}{p:Pos}(hm:X.mg "range"=none)(ha:HA X [a,b] t)(hg:Gl X "range":=by rfl)(hs:starEach [a,b] X.env=[(false,eval a X.env),(false,eval b X.env)]:=by rfl)(hs2:starEach [b] X.env=[(false,eval b X.env)]:=by rfl):HI X tg (.Call (.Name "range" p) [a,b] [] pos) (a8X t):=fun ρ M R h =>
 (a8u hg hm (ha.d (ρ:=ρ)) hs hs2).imp fun σ H R2 ⟨hr,hh,en⟩=>⟨M,_,h,hr,hh,fun ts vs M1 H1 k1 h1 r1 q1=>by
  dsimp only at q1;split at q1
  ·rename_i i j;obtain⟨v,w',rfl,rv,rw'⟩:=b4p r1;obtain rfl:=a0l rv;obtain rfl:=a0l rw';exact⟨i,j,rfl,q1.1,en _ _ M1 H1 k1 h1 a4o q1.2⟩
  ·exact q1.elim⟩
noncomputable def a7y(wi:TI3)(g:TG3)(tb:TS3):TS3:=fun D ρ M=>wi ρ M fun J M1=>∃W:Nat->En->MH->Prop,W 0 ρ M1/\(∀i ρ M,W i ρ M->J.stay M) /\
 (∀i x ρ M,J.items[i]?=some x->W i ρ M->g x ρ M fun ρ2 M2=>tb { D with nx:=W (i+1),ct:=W (i+1),bk:=D.nx } ρ2 M2)/\∀ρ M,W J.items.length ρ M->D.nx ρ M
theorem b4o{tg iter:Expr}{wi:TI3}{g:TG3}{tb:TS3}(hp:PassesOwn (model X.prog X.w) X.A X.env X.xe)(hc:X.calm=true)(hi:HI X tg iter wi)(hg:HG X tg g)(hb:HSs X body tb)
  (hs:∀x,foldedSetIterable iter X.env x=pure x:=by intro _;rfl):HS X (.For tg iter body [] pos) (a7y wi g tb):=fun D ρ0 M0 h =>
 (b2Y hp hc (hi.d (ρ:=ρ0)) hg hb.d hs).imp fun D2 σ0 H0 ⟨hr0,hh0,en⟩=>⟨M0,_,h,hr0,hh0,fun J J2 M1 H1 k1 h1 ok q1=>by
  obtain⟨W,w0,wst,turn,fin⟩:=q1;refine⟨fun i m σ H=>m=J.items.length-i/\i<=J.items.length/\Kp X.K H1 H/\∃ρ M,RhoR X.K σ H ρ/\HR X.K H M/\W i ρ M,⟨_,rfl,b6b _,Kp.refl,ρ0,M1,hr0.kp k1,h1,w0⟩,?_⟩;rintro i m σ H ⟨rfl,hi,kk,ρ,M,hr,hh,w⟩;have st:=wst i ρ M w;by_cases hlt:i<J.items.length
  ·have e:J.items[i]?=some J.items[i]:=b5g hlt;obtain⟨go,yl⟩:=ok.go i _ H M e kk hh st;refine .inr ⟨go,fun σ' H'=>i+1<=J.items.length/\Kp X.K H1 H'/\∃ρ M,RhoR X.K σ' H' ρ/\HR X.K H' M/\W (i+1) ρ M,fun σ' H' ⟨a,b,c⟩=>⟨_,by lia,rfl,a,b,c⟩,fun v H' y=>?_⟩;obtain⟨k2,h2,r2⟩:=yl v H' y;refine⟨J.items[i],ρ,M,_,turn i _ ρ M e w,r2,hr.kp k2,h2,fun ρ3 M3 σ3 H3 k3 hr3 hh3 q3=>⟨_,ρ3,M3,q3,hr3,hh3,?_⟩⟩;have kall:=kk.trans (k2.trans k3);refine⟨fun ρ4 M4 σ4 H4 k4 hr4 hh4 q4=>⟨hlt,kall.trans k4,ρ4,M4,hr4,hh4,q4⟩,fun t v M4 H4 k4 h4 r4 q4=>en.rt t v M4 H4 (k1.trans (kall.trans k4)) h4 r4 q4,fun ρ4 M4 σ4 H4 k4 hr4 hh4 q4=>en.nx ρ4 M4 σ4 H4 (k1.trans (kall.trans k4)) hr4 hh4 q4,fun ρ4 M4 σ4 H4 k4 hr4 hh4 q4=>⟨hlt,kall.trans k4,ρ4,M4,hr4,hh4,q4⟩⟩
  ·have e:i=J.items.length:=by lia
   subst e
   exact .inl ⟨ok.stop H M kk hh st,en.nx ρ M σ H (k1.trans kk) hr hh (fin ρ M w)⟩⟩
noncomputable def a3Z(ix:List (Option Nat))(ρ:En):En:=ix.map fun o=>match o with|some j=>(ρ[j]?).join|none=>none
theorem a6W{K:PySem.W.Frag}{σ:St}{H:Hp}{ρ:En}(ix:List (Option Nat))(h:RhoR K σ H ρ):RhoR K (pick ix σ) H (a3Z ix ρ):=by
 refine⟨by unfold pick a3Z;simp,fun i t e=>?_⟩;unfold a3Z at e;unfold pick
 rw[b5n] at e|-
 cases hx:ix[i]? with
 |none=>rw[hx] at e;cases e
 | some o =>
   rw[hx] at e;cases o with
   | none =>
     have e':(none:Option T)=some t:=b5p e;cases e'
   | some j =>
     have e':(ρ[j]?).join=some t:=b5p e;cases hj:ρ[j]? with
     |none=>rw[hj] at e';cases e'
     | some u =>
       rw[hj] at e';have e2:u=some t:=e';subst e2;obtain⟨v,a,b⟩:=h.2 j t hj;exact⟨v,by show some ((σ[j]?).join)=some (some v);rw[a]<;>rfl,b⟩
noncomputable def a6V(wi:TI3)(ix:List (Option Nat))(g:TG3)(tt:TT3)(te:TE3):TE3:=fun ρ M Q=>wi ρ M fun J M1=>∃W:Nat->List T->MH->Prop,W 0 [] M1/\(∀i ys M,W i ys M->J.stay M)/\J.items.length<sizeLine /\
 (∀i x ys M,J.items[i]?=some x->W i ys M->g x (a3Z ix ρ) M fun ρ2 M2=>tt ρ2 M2 fun ok M3=>if ok=true then te ρ2 M3 fun y M4=>W (i+1) (ys++[y]) M4 else W (i+1) ys M3) /\
 ∀ys M,W J.items.length ys M->∀p,M p=none->Q (.adr p) (updM M p (.lst ys))
noncomputable def HTs(X:Cx)(ifs:LSE)(t:TT3):Prop:=∀ρ M Q,t ρ M Q->PTs X ifs (bT X.K ρ M Q)
noncomputable def b2w:TT3:=fun _ M Q=>Q true M
theorem a3g:HTs X [] b2w:=fun ρ M Q h pins s σ H Q2 I ⟨hr,hh,en⟩=>b1z pins s σ H Q2 I (en true M H Kp.refl hh h)
theorem b2t{c:Expr}{t:TT3}(h:HT X c t):HTs X [c] t:=fun ρ M Q q=>b1y (h ρ M Q q)
end
noncomputable def dEx(K:PySem.W.Frag)(t:TE3):TE:=fun σ H Q2=>∃ρ M Q,t ρ M Q/\bE K ρ M Q σ H Q2
noncomputable def dTx(K:PySem.W.Frag)(t:TT3):TT:=fun σ H Q2=>∃ρ M Q,t ρ M Q/\bT K ρ M Q σ H Q2
section
variable{X:Cx}{e:Expr}
theorem HE.dx{t:TE3}(h:HE X e t):PE X e (dEx X.K t):=fun pins s σ H Q I ⟨ρ,M,Q3,q,b⟩=>h ρ M Q3 q pins s σ H Q I b
theorem HTs.dx{ifs:LSE}{t:TT3}(h:HTs X ifs t):PTs X ifs (dTx X.K t):=fun pins s σ H Q I ⟨ρ,M,Q3,q,b⟩=>h ρ M Q3 q pins s σ H Q I b
structure BTg(K:PySem.W.Frag)(ix:List (Option Nat))(g2:TG)(g3:TG3):Prop where
 own:Own ix g2
 br:∀(t:T) (v:V) (ρ:En) (M:MH) (σ:St) (H:Hp) (Q3:En->MH->Prop) (Q2:St->Hp->Prop),Rep K H v t->RhoR K σ H ρ->HR K H M->g3 t ρ M Q3->EndG K H Q3 Q2->g2 v σ H Q2
theorem a1B{K:PySem.W.Frag}{ix:List (Option Nat)}{i:Nat}(h:ix[i]?=some none:=by rfl):BTg K ix (a6L i) (a9c i) :=
 ⟨b0d h,fun t v ρ M σ H Q3 Q2 r hr hh q en=>en _ M _ H Kp.refl (hr.set i r) hh q⟩
variable{elt iter tg:Expr}{ifs:LSE}{pos:Pos}{scope:b6Z}{N':LSS}{ix:List (Option Nat)}{wi:TI3}{g2:TG}{g3:TG3}{tt:TT3}{te:TE3}
theorem a7q{X:Cx}{N':LSS}{ix:List (Option Nat)}{wi:TI3}{g2:TG}{g3:TG3}{tt:TT3}{te:TE3}(bt:BTg X.K ix g2 g3)(ρ0:En)(M0:MH)(Q:VK3)(h:a6V wi ix g3 tt te ρ0 M0 Q)(σ0:St)(H0:Hp)(Q2:VK)(bb:bE X.K ρ0 M0 Q σ0 H0 Q2) :
  a9K (dI X.K ρ0 wi) ix g2 (dTx X.K tt) (dEx X.K te) σ0 H0 Q2:=by
 obtain⟨hr0,hh0,en⟩:=bb
 exact⟨M0,_,h,hr0,hh0,fun J J2 M1 H1 k1 h1 ok q1=>by
  obtain⟨W,w0,wst,hsz,turn,fin⟩:=q1;refine⟨fun i m ys H=>m=J.items.length-i/\i<=J.items.length/\ys.length<=i/\Kp X.K H1 H/\∃ts M,Reps X.K H ys ts/\HR X.K H M/\W i ts M,⟨_,rfl,b6b _,b6b _,Kp.refl,[],M1,.nil,h1,w0⟩,?_⟩;rintro i m ys H ⟨rfl,hi,hy,kk,ts,M,rts,hh,w⟩;have st:=wst i ts M w;by_cases hlt:i<J.items.length
  ·have e:J.items[i]?=some J.items[i]:=b5g hlt;obtain⟨go,yl⟩:=ok.go i _ H M e kk hh st;refine .inr ⟨go,by lia,fun v H' y=>?_⟩;obtain⟨k2,h2,r2⟩:=yl v H' y;have kk2:=kk.trans k2;refine bt.br J.items[i] v _ M _ H' _ _ r2 (a6W ix (hr0.kp (k1.trans kk2))) h2 (turn i _ ts M e w) fun ρ3 M3 σ3 H3 k3 hr3 hh3 q3=>⟨ρ3,M3,_,q3,hr3,hh3,fun b M4 H4 k4 h4 q4=>?_⟩;have kk4:=kk2.trans (k3.trans k4)
   dsimp only at q4|-
   cases b with
   | true =>
     rw[if_pos rfl] at q4|-
     refine⟨ρ3,M4,_,q4,hr3.kp k4,h4,fun t5 v5 M5 H5 k5 h5 r5 q5=>⟨_,b7P hlt (b6r i),rfl,hlt,?_,kk4.trans k5,ts++[t5],M5,?_,h5,q5⟩⟩
     ·rw[b5r,b6R];lia
     ·exact(Reps.kp (k2.trans (k3.trans (k4.trans k5))) _ _ rts).append (.cons r5 .nil)
   | false =>
     rw[if_neg b5x] at q4|-
     exact⟨_,b7P hlt (b6r i),rfl,hlt,by lia,kk4,ts,M4,Reps.kp (k2.trans (k3.trans k4)) _ _ rts,h4,q4⟩
  ·have e:i=J.items.length:=by lia
   subst e;refine .inl ⟨ok.stop H M kk hh st,by lia,fun p hp=>?_⟩
   exact en _ _ _ _ (k1.trans (kk.trans (Kp.new hp))) (hh.newL hp rts) a2G (fin ts M w p (hh.free hp))⟩
theorem a3j(hc:X.calm=true)(hi:HI X tg iter wi)(S:BlkScope X N' ix scope)(bt:BTg X.K ix g2 g3)(hg:∀C s H fp pins,PG (blk X N' scope C s H fp pins) tg g2)
  (ht:∀C s H fp pins,HTs (blk X N' scope C s H fp pins) ifs tt) (he:∀C s H fp pins,HE (blk X N' scope C s H fp pins) elt te)
  (hs:∀x,foldedSetIterable iter X.env x=pure x:=by intro _;rfl) :
  HE X (.ListComp elt [⟨tg,iter,ifs,0⟩] scope pos) (a6V wi ix g3 tt te):=fun ρ0 M0 Q h =>
 (b1J (tt:=dTx X.K tt) (te:=dEx X.K te) hc (hi.d (ρ:=ρ0)) S bt.own hg (fun C s H fp pins=>(ht C s H fp pins).dx) (fun C s H fp pins=>(he C s H fp pins).dx) hs).imp fun σ0 H0 Q2 bb=>a7q (X:=X) (N':=N') bt ρ0 M0 Q h σ0 H0 Q2 bb
theorem b2K{i:Nat}{x:Str}{pos' spos:Pos}(hc:X.calm=true)(hi:HI X tg iter wi)(S:BlkScope X N' ix scope)(bt:BTg X.K ix g2 g3)(hg:∀C s H fp pins,PG (blk X N' scope C s H fp pins) tg g2)
  (ht:∀C s H fp pins,HTs (blk X N' scope C s H fp pins) ifs tt) (he:∀C s H fp pins,HE (blk X N' scope C s H fp pins) elt te) (hN:X.N.Nodup) (hi':X.N[i]?=some x:=by rfl) (hx:Loc X.env.scope x:=by first|exact b7h rfl|exact b8u rfl)
  (hsw:swapsWith (.ListComp elt [⟨tg,iter,ifs,0⟩] scope pos) (some (.Name x pos')) spos.line X.env=pure true:=by rfl)
  (hs:∀x,foldedSetIterable iter X.env x=pure x:=by intro _;rfl) (hf:QXX X x:=by first|exact .inl rfl|exact .inr rfl|assumption) :
  HS X (.Assign [.Name x pos'] (.ListComp elt [⟨tg,iter,ifs,0⟩] scope pos) spos) (a9I i (a6V wi ix g3 tt te)):=fun D ρ M h =>
 (b1C (tt:=dTx X.K tt) (te:=dEx X.K te) hN hi' hx hc (hi.d (ρ:=ρ)) S bt.own hg (fun C s H fp pins=>(ht C s H fp pins).dx) (fun C s H fp pins=>(he C s H fp pins).dx) hsw hs hf).imp fun D2 σ H ⟨hr,hh,en⟩ =>
  a7q (X:=X) (N':=N') bt ρ M (fun x M1=>D.nx (ρ.set i (some x)) M1) h σ H _ ⟨hr,hh,fun t v M1 H1 k1 h1 r1 q1=>en.nx _ M1 _ H1 k1 ((hr.kp k1).set i r1) h1 q1⟩
noncomputable def a1p(N:LSS)(ts:List T):En:=ts.map some++b5e (N.length-ts.length) none
theorem a3w{K:PySem.W.Frag}{H:Hp}{N:LSS}{vs:List V}{ts:List T}(r:Reps K H vs ts):RhoR K (start N vs) H (a1p N ts):=by
 have hl:=r.length;refine⟨by unfold start a1p;simp[hl],fun i t e=>?_⟩;unfold a1p at e;unfold start;by_cases hi:i<ts.length
 ·rw[b6y (by simpa using hi),b5n] at e;cases q:ts[i]? with
  |none=>rw[q] at e;cases e
  | some u =>
    rw[q] at e;cases e;obtain⟨v,a,b⟩:=r.get q;refine⟨v,?_,b⟩;rw[b6y (by simpa [hl] using hi),b5n,a];rfl
 ·rw[b6X (by simpa using hi),b7l] at e;split at e<;>cases e
noncomputable def rt3(M:MH)(Q:VK3):VK3:=fun t M'=>∃M0,Sub M0 M'/\Q t M0
end
section
variable{P:b5i}{w:b5B}{K:PySem.W.Frag}{mg:SOV}{base:Heap}
theorem Fun.fnk{x qual:Str}{st:Stmt}{f:Addr}{fd:b6g}{N ps:LSS}{n:Nat}{sp:Sp3}(F:Fun K x qual st f fd)(S:FnScope N ps (a0b st))(len:∀ts M Q,sp ts M Q->ts.length=ps.length)
  (hbody:∃t:TS3,(∀(cdv:b5c) (A:b5s) (outer:List Env) (s:b4U) (H:Hp) (E:XK),Room n (A.deeper (envOfC qual (a0b st) s.heap.objs.size f cdv)) ->
   HSs (cxOf CX0 P w K mg base N qual (a0b st) f cdv A outer s H E).nox (a0Z st) t) /\
   ∀ts M Q,sp ts M Q->t { nx:=fun _ M'=>rt3 M Q .non M',rt:=rt3 M Q } (a1p N ts) M):FnOk P w K mg base CX0 (n+1) f fd ps (dSp K sp):=by
 obtain⟨t,hbody,rd⟩:=hbody;refine F.ok S (fun vs H Q E ⟨ts,M,Q3,r,_,q,_⟩=>by rw[r.length];exact len _ _ _ q) (fun cdv A outer s H vs Q E hr ⟨ts,M,Q3,r,hh,q,en⟩=>?_);refine⟨_,hbody cdv A outer s H E hr _ _ _ (rd ts M Q3 q),a3w r,hh,⟨?_,?_,fun _ _ _ _ _ _ _ z=>z.elim,fun _ _ _ _ _ _ _ z=>z.elim⟩⟩
 ·rintro ρ' M' σ' H' k hr' hh' ⟨M0,hs,q'⟩;exact en .non .non M0 H' k (hh'.sub hs) a3x q'
 ·rintro t' v' M' H' k hh' r' ⟨M0,hs,q'⟩;exact en t' v' M0 H' k (hh'.sub hs) r' q'
theorem Fun.dfn{x qual:Str}{st:Stmt}{f:Addr}{fd:b6g}{N ps:LSS}{n:Nat}{sp:Sp3}(F:Fun K x qual st f fd)(hm:mg x=some (.ref f))(hb:a3Y K fd ps [])(S:FnScope N ps (a0b st))(len:∀ts M Q,sp ts M Q->ts.length=ps.length)
  (hbody:∃t:TS3,(∀(cdv:b5c) (A:b5s) (outer:List Env) (s:b4U) (H:Hp) (E:XK),Room n (A.deeper (envOfC qual (a0b st) s.heap.objs.size f cdv)) ->
   HSs (cxOf CX0 P w K mg base N qual (a0b st) f cdv A outer s H E).nox (a0Z st) t) /\
   ∀ts M Q,sp ts M Q->t { nx:=fun _ M'=>rt3 M Q .non M',rt:=rt3 M Q } (a1p N ts) M):Df P w K mg base (n+1) x ps sp :=
 ⟨f,fd,F.fnk S len hbody,hm,F.kp,hb⟩
end
section
variable{X:Cx}{a b e:Expr}{es:LSE}{ta te:TE3}{t:TA3}{pos:Pos}
noncomputable def b0q(M:MH)(x:T):Prop:=match x with
 |.adr p=>(match M p with|some (.lst _)=>True|_=>False)
 |_=>False
noncomputable abbrev RM3:=T->List T->MH->VK3->Prop
noncomputable def dM(K:PySem.W.Frag)(r:RM3):V->List V->Hp->VK->Prop:=fun v vs H Q2=>∃x xs M Q,Rep K H v x/\Reps K H vs xs/\HR K H M/\r x xs M Q/\EndE K H Q Q2
noncomputable def MtR3(X:Cx)(id:String)(r:RM3):Prop:=MtR X id (dM X.K r)
noncomputable def tLM3(r:RM3)(to:TE3)(t:TA3):TE3:=fun ρ M Q=>to ρ M fun x M1=>b0q M1 x/\t ρ M1 fun xs M2=>r x xs M2 Q
theorem b0p{K:PySem.W.Frag}{H:Hp}{M:MH}{x:T}{v:V}(hh:HR K H M)(r:Rep K H v x)(h:b0q M x):tyV K "list" v H:=by
 unfold b0q at h;split at h
 ·rename_i p;split at h
  ·rename_i ts e;obtain⟨xs,g1,_⟩:=hh _ _ e;obtain rfl:=a0w r;exact .inl ⟨rfl,xs,SqL.of g1⟩
  ·exact h.elim
 ·exact h.elim
theorem h_lm{o:Expr}{to:TE3}{name:Str}{apos cpos:Pos}{id:String}{r:RM3}(slot:Slot "list" name id)(hty:typeOf (.builtin id)=pure (.type "method_descriptor"))(hm:MtR3 X id r)(ho:HE X o to)(ha:HA X (e::es) t)
  (hbase:attributeBase o name X.env (eval o X.env)=eval o X.env:=by rfl)
  (hfew:QFF X cpos e es:=by rfl)
  (hline:QLL apos cpos:=by rfl) (hs:QSS X e es:=by rfl) (hplain:QPP X cpos es:=by rfl) :
  HE X (.Call (.Attribute o name apos) (e::es) [] cpos) (tLM3 r to t):=fun ρ M Q h =>
 (b3j PySem.F.plainAttrs_list slot hty hm (ho.d (ρ:=ρ)) (ha.d (ρ:=ρ)) hbase hfew hline hs hplain).imp fun σ H Q2 ⟨hr,hh,en⟩=>⟨M,_,h,hr,hh,fun x v M1 H1 k1 h1 r1 q1=>⟨b0p h1 r1 q1.1,M1,_,q1.2,hr.kp k1,h1,fun ts vs M2 H2 k2 h2 r2 q2 =>
  ⟨x,ts,M2,Q,Rep.kp k2 _ _ r1,r2,h2,q2,en.kp (k1.trans k2)⟩⟩⟩
noncomputable def a9S:RM3:=fun x xs M Q=>match x,xs with
 |.adr p,[y]=>(match M p with|some (.lst ts)=>ts.length<sizeLine/\Q .non (updM M p (.lst (ts++[y])))|_=>False)
 |_,_=>False
theorem a7K:MtR3 X "list.append" a9S:=by
 intro pins s σ H v vs u us Q2 I rv rvs h;obtain⟨x,xs,M,Q,r1,r2,hh,q,en⟩:=h;unfold a9S at q;split at q
 ·rename_i p y;split at q
  ·rename_i ts e0;obtain⟨ys,g1,g2⟩:=hh _ _ e0;obtain rfl:=a0w r1;obtain⟨w,rfl,rw'⟩:=a1F r2;exact a8J pins s σ H _ _ u us Q2 I rv rvs ⟨_,ys,w,rfl,rfl,g1,by rw[g2.length];exact q.1,en _ _ _ _ (Kp.lst g1) (hh.setL g1 (g2.append (.cons rw' .nil))) a3x q.2⟩
  ·exact q.elim
 ·exact q.elim
noncomputable def b2a:List T->Option (LSI)
 |[]=>some []
 |.int i::ts=>(b2a ts).map (i::·)
 |_::_=>none
theorem a5K:∀(ns:LSI),b2a (ns.map T.int)=some ns
 |[]=>rfl
 |n::ns=>by show(b2a (ns.map T.int)).map (n::·)=_;rw[a5K ns];rfl
theorem a7S{o:Expr}{to:TE3}{apos cpos:Pos}(ho:HE X o to)(ha:HA X (e::es) t)
  (hbase:attributeBase o "append" X.env (eval o X.env)=eval o X.env:=by rfl)
  (hfew:QFF X cpos e es:=by rfl)
  (hline:QLL apos cpos:=by rfl) (hs:QSS X e es:=by rfl) (hplain:QPP X cpos es:=by rfl) :
  HE X (.Call (.Attribute o "append" apos) (e::es) [] cpos) (tLM3 a9S to t):=h_lm PySem.F.slot_list_append PySem.F.type_list_append a7K ho ha hbase hfew hline hs hplain
end
end L2
namespace LM
noncomputable def a2X(n l:Int):Prop:=1<=(l.natAbs:Int)/\(l.natAbs:Int)<n
noncomputable def a0O(n:Int)(w:LSI):Prop:=∀l∈w,a2X n l
noncomputable def a5I(n l:Int):Bool:=decide (1<=l.natAbs)&&decide ((l.natAbs:Int)<n)
noncomputable def isPl(n:Int)(w:LSI):Bool:=decide (1<=n)&&decide (n<=6)&&decide (w.length<=16)&&w.all (a5I n)
noncomputable def PlOK(n:Int)(w:LSI):Prop:=1<=n/\n<=6/\w.length<=16/\a0O n w
theorem a5H{n l:Int}:a5I n l=true<->a2X n l:=by
 unfold a5I a2X;simp only[b5o,decide_eq_true_eq];lia
theorem PlOK.is{n:Int}{w:LSI}(h:PlOK n w):isPl n w=true:=by
 obtain⟨h1,h2,h3,h4⟩:=h;unfold isPl;simp only[b5o,decide_eq_true_eq,b6i];exact⟨⟨⟨h1,h2⟩,h3⟩,fun l hl=>a5H.mpr (h4 l hl)⟩
theorem a2s{n:Int}{w:LSI}:isPl n w=true<->PlOK n w:=by
 refine⟨fun h=>?_,PlOK.is⟩;unfold isPl at h;simp only[b5o,decide_eq_true_eq,b6i] at h;exact⟨h.1.1.1,h.1.1.2,h.1.2,fun l hl=>a5H.mp (h.2 l hl)⟩
theorem a0O.nil{n:Int}:a0O n []:=fun _ z=>nomatch z
theorem a0P{α β:Type}(f:α->β){L:List α}{i:Nat}{x:α}(h:L[i]?=some x):(L.take i).map f++[f x]=(L.take (i+1)).map f:=by
 rw[b8w,h];simp
theorem a3K{α β:Type}{f:α->β}{L:List α}{i:Nat}{y:β}(h:(L.map f)[i]?=some y):∃x,L[i]?=some x/\f x=y:=by
 rw[b5n] at h;cases q:L[i]? with
 |none=>rw[q] at h;cases h
 |some x=>rw[q] at h;exact⟨x,rfl,b5p h⟩
noncomputable def a2Q(n:Int):LSI:=(b5S n.toNat).map fun i=>((i:Nat):Int)
theorem a5d(n:Nat):(b5e n true).all id=true:=by
 rw[b6i];intro b hb;rw[List.eq_of_mem_replicate hb];rfl
noncomputable def b0S(w:LSI):LSI:=w.reverse.map fun l=>-l
theorem a0O.map{n:Int}{w:LSI}{f:Int->Int}(hf:∀l,a2X n l->a2X n (f l))(h:a0O n w):a0O n (w.map f):=fun l hl=>by
 obtain⟨k,hk,rfl⟩:=b8b.mp hl;exact hf k (h k hk)
theorem a0O.reverse{n:Int}{w:LSI}(h:a0O n w):a0O n w.reverse:=fun l hl=>h l (c0b.mp hl)
theorem PlOK.map{n:Int}{w:LSI}{f:Int->Int}(hf:∀l,a2X n l->a2X n (f l))(h:PlOK n w):PlOK n (w.map f):=⟨h.1,h.2.1,by rw[b4Y];exact h.2.2.1,h.2.2.2.map hf⟩
noncomputable def b4n(st:LSI)(l:Int):LSI:=match st with
 |[]=>[l]
 |x::t=>if x=-l then t else l::x::t
noncomputable def redS(st w:LSI):LSI:=w.foldl b4n st
noncomputable def redL(w:LSI):LSI:=(redS [] w).reverse
noncomputable def Red:LSI->Prop
 |[]=>True
 |[_]=>True
 |x::y::t=>x≠-y/\Red (y::t)
theorem Red.tail{x:Int}{t:LSI}(h:Red (x::t)):Red t:=by
 cases t with
 |nil=>trivial
 |cons y t=>exact h.2
theorem Red.get:∀{s:LSI} (j:Nat),Red s->j+1<s.length->s.getD j 0+s.getD (j+1) 0≠0
 |[],_,_,h=>by simp at h
 |[_],j,_,h=>by simp at h
 | x::y::t,0,h,_=>by
   have:=h.1;show x+y≠0;lia
 | x::y::t,j+1,h,hj=>by
   have:=Red.get (s:=y::t) j h.2 (by simpa using hj);exact this
theorem a3k(s:LSI)(k:Nat)(h:k<s.length):s.reverse.getD k 0=s.getD (s.length-1-k) 0:=by
 rw[b7Y,b7Y,List.getElem?_reverse h]
theorem Red.of_get:∀{s:LSI},(∀j,j+1<s.length->s.getD j 0+s.getD (j+1) 0≠0)->Red s
 |[],_=>trivial
 |[_],_=>trivial
 | x::y::t,h=>by
   refine⟨?_,Red.of_get fun j hj=>h (j+1) (by simpa using hj)⟩;have:x+y≠0:=h 0 (by simp);lia
theorem Red.reverse{s:LSI}(h:Red s):Red s.reverse:=Red.of_get fun j hj=>by
 rw[b7Q] at hj;rw[a3k s j (by lia),a3k s (j+1) hj];have:=Red.get (s:=s) (s.length-1-(j+1)) h (by lia);have e2:s.length-1-(j+1)+1=s.length-1-j:=by lia
 rw[e2] at this;lia
noncomputable def Eqv(u v:LSI):Prop:=redL u=redL v
theorem Eqv.refl{u:LSI}:Eqv u u:=rfl
theorem Eqv.of{u v:LSI}(h:u=v):Eqv u v:=by rw[h];rfl
noncomputable def mkL(l:Int)(x:Int):LSI :=
 let i:Int:=l.natAbs
 let a:LSI:=if l>0 then [i,i+1,-i] else [i+1]
 let b:LSI:=if l>0 then [i] else [-(i+1),i,i+1]
 if x=i then a else if x=i+1 then b else if x=-i then b0S a else if x=-(i+1) then b0S b else [x]
noncomputable def subW(w:LSI)(u:LSI):LSI:=w.foldl (fun u l=>u.flatMap (mkL l)) u
noncomputable def NZ(w:LSI):Prop:=∀l∈w,l≠0
theorem NZ.tail{l:Int}{w:LSI}(h:NZ (l::w)):NZ w:=fun x hx=>h x (b4X _ hx)
theorem NZ.head{l:Int}{w:LSI}(h:NZ (l::w)):l≠0:=h l b5m
noncomputable def imgL(w:LSI)(j:Int):LSI:=redL (subW w [j])
noncomputable def b4c(w v:LSI):Prop:=∀u,Eqv (subW w u) (subW v u)
theorem b4c.refl{w:LSI}:b4c w w:=fun _=>Eqv.refl
end LM
namespace L2
open PySem PySem.Spec PyProof.Rows LM
theorem a6m(x:Str)(N:LSS)(t:T)(ts:List T):a1p (x::N) (t::ts)=some t::a1p N ts:=by
 unfold a1p;simp only[b5z,b5j,Nat.add_sub_add_right,c0c]
theorem a6l(x:Str)(N:LSS):a1p (x::N) []=none::a1p N []:=by
 unfold a1p;simp only[b8O,b5j,b7R,c0J,b7M,b5N]
theorem a7z:a1p [] []=[]:=rfl
theorem a7H(ix:List (Option Nat))(ρ:En):a3Z (none::ix) ρ=none::a3Z ix ρ:=rfl
theorem a7G(j:Nat)(ix:List (Option Nat))(ρ:En):a3Z (some j::ix) ρ=(ρ[j]?).join::a3Z ix ρ:=rfl
theorem a8t(ρ:En):a3Z [] ρ=[]:=rfl
theorem a8S{α:Type}(a:Option α):(some a).join=a:=rfl
theorem a0i{M:MH}{Q:VK3}{t:T}{M':MH}(h:Q t M'):rt3 M Q t M':=⟨M',Sub.refl,h⟩
theorem a7Z{α:Type}(x:α)(xs:List α):atI (x::xs) 0=some x:=by
 have:=a3f (xs:=x::xs) (j:=0) (v:=x) rfl
 simpa using this
theorem b4S{α:Type}(x y:α)(xs:List α):atI (x::y::xs) 1=some y:=by
 have:=a3f (xs:=x::y::xs) (j:=1) (v:=y) rfl
 simpa using this
theorem b4R{α:Type}(x y z:α)(xs:List α):atI (x::y::z::xs) 2=some z:=by
 have:=a3f (xs:=x::y::z::xs) (j:=2) (v:=z) rfl
 simpa using this
theorem b4I(n:Nat):ixN (n+1) 0=some 0:=by
 unfold ixN;rw[if_pos (by lia),if_pos (by lia)];rfl
theorem a5i{M:MH}{a:Addr}{o u:MO}:updM (updM M a o) a u=updM M a u:=by
 funext b;unfold updM;split<;>rfl
theorem b0B(ns:LSI)(i:Int)(h0:0<=i)(h:i<ns.length):atI (ns.map T.int) i=some (.int (ns.getD i.toNat 0)):=by
 have e:i=((i.toNat:Nat):Int):=by lia
 have hl:i.toNat<ns.length:=by lia
 have:=a3f (xs:=ns.map T.int) (j:=i.toNat) (v:=.int (ns.getD i.toNat 0)) (by
  rw[b5n,b5g hl]
  simp[List.getD,b5g hl])
 rw[<- e] at this;exact this
theorem a3U(bs:List Bool):a5c (bs.map T.bl)=some bs:=by
 induction bs with
 |nil=>rfl
 |cons b bs ih=>show(a5c (bs.map T.bl)).map (b::·)=_;rw[ih];rfl
theorem a6y(ns:LSI):a0N (ns.map T.int)=true:=by
 induction ns with
 |nil=>rfl
 |cons n ns ih=>show(a0j (.int n)&&a0N (ns.map T.int))=true;rw[ih];rfl
theorem a7W(ns:LSI):a2H (ns.map T.int)=0:=by
 induction ns with
 |nil=>rfl
 |cons n ns ih=>show max (depT (.int n)) (a2H (ns.map T.int))=0;rw[ih];rfl
theorem a9i(a b:LSI):eqTs (a.map T.int) (b.map T.int)=decide (a=b):=by
 induction a generalizing b with
 |nil=>cases b<;>simp[eqTs]
 | cons x a ih =>
   cases b with
   |nil=>simp[eqTs]
   | cons y b =>
     show(eqT (.int x) (.int y)&&eqTs (a.map T.int) (b.map T.int))=_;rw[ih];have:eqT (.int x) (.int y)=(x==y):=rfl;rw[this];by_cases h1:x=y<;>by_cases h2:a=b<;>simp[h1,h2]
theorem b2i(a b:List T):eqT (.tup a) (.tup b)=eqTs a b:=rfl
theorem a6O(a b:Int):eqT (.int a) (.int b)=decide (a=b):=by
 show(a==b)=_;by_cases h:a=b<;>simp[h]
theorem a5P(x y:T)(a b:List T):eqTs (x::a) (y::b)=(eqT x y&&eqTs a b):=rfl
theorem a4X:eqTs [] []=true:=rfl
theorem a3y(x:T)(a:List T):a0N (x::a)=(a0j x&&a0N a):=rfl
theorem a7E:a0N []=true:=rfl
theorem a5v(i:Int):a0j (.int i)=true:=rfl
theorem a9T(i:Bool):a0j (.bl i)=true:=rfl
theorem a8p(i:List T):a0j (.tup i)=a0N i:=rfl
theorem a5a(i:Int):depT (.int i)=0:=rfl
theorem b2j(i:Bool):depT (.bl i)=0:=rfl
theorem b0w(i:List T):depT (.tup i)=a2H i+1:=rfl
theorem a4v(x:T)(a:List T):a2H (x::a)=max (depT x) (a2H a):=rfl
theorem a9m:a2H []=0:=rfl
theorem a5j{M:MH}{p:Addr}{o:MO}(h:M p=some o):updM M p o=M:=by
 funext b;unfold updM;split
 ·rename_i e;rw[e,h]
 ·rfl
theorem b1X{M:MH}{p q:Addr}{o:MO}(h:M p=some o)(h':M q=none):p≠q:=by
 rintro rfl;rw[h] at h';cases h'
theorem Sub.set{M M':MH}{p:Addr}{o u:MO}(h:Sub (updM M p o) M'):Sub (updM M p u) (updM M' p u):=fun a v e=>by
 by_cases ha:a=p
 ·subst ha;rw[a0c] at e|-;exact e
 ·rw[a0C ha] at e|-
  exact h a v (by rw[a0C ha];exact e)
theorem Sub.newr{M M':MH}{r:Addr}{o:MO}(h:Sub M M')(hr:M' r=none):Sub M (updM M' r o):=h.trans (Sub.new hr)
theorem a0W{M:MH}{Q:VK3}{t:T}{M0 M':MH}(h:Q t M0)(s:Sub M0 M'):rt3 M Q t M':=⟨M0,s,h⟩
theorem a2P(a:Int)(n:Nat):(a1k a n).length=n:=by unfold a1k;simp
theorem Sub.updF{M M':MH}{p:Addr}{o:MO}(h:Sub M M')(hp:M p=none):Sub M (updM M' p o):=fun a v e=>by
 have ha:a≠p:=by rintro rfl;rw[hp] at e;cases e
 rw[a0C ha];exact h a v e
end L2
namespace L2
open PySem PySem.Spec PyProof.Rows
section
variable{prog:b5i}{w:b5B}{A:b5s}{E:VPR}{s:b4U}
end
section
variable{X:Cx}
end
theorem a6v{n i:Nat}{x:T}(h:(a1k 0 n)[i]?=some x):i<n/\x=.int i:=by
 have hl:=(b5q.mp h).1;rw[a2P] at hl;unfold a1k at h;rw[b5n,b7c hl] at h;have e:=b5p h;refine⟨hl,?_⟩;rw[<- e];simp
theorem a1S{n:Nat}(h:n<10000):n<sizeLine:=b5E (by lia:n<=10000) (by decide)
theorem a0o{n:Nat}(h:n<10000):n<=sizeLine:=b6s (a1S h)
end L2
namespace HT
open PySem PySem.Spec PyProof.Rows
section
variable{prog:b5i}{w:b5B}{A:b5s}{E:VPR}{s:b4U}
theorem getItem_tuple_all{t sl:Addr}{items:Array b5c}{vl vu:b5c}{lo hi:Option Int}{Q:VPR}(ht:IsTup s.heap t items)(hs:s.heap.IsSliceOf sl vl vu .none)(pl:b9q vl lo)(pu:b9q vu hi)
  (hw:sIx items.size 0 lo=0/\sIx items.size items.size hi=items.size) (h:Q (.ref t) s)
  (hsz:items.size<=sizeLine):wpAny (model prog w) A (getItem (.ref t) (.ref sl)) Q E s:=by
 obtain⟨os,hos,hcs,hds⟩:=id hs;have hTs:s.TypeIs (.ref sl) "slice":=⟨os,hos,hcs⟩;unfold getItem
 try with_reducible refine b6t ?_
 first|refine b4V (b5k ?_)|skip
 refine b4V (b9E ht.typeIs (by decide) ?_)
 refine b4V (b8A (name:=b5w "__getitem__") ht.typeIs b5G
  (b9W b5G ht.typeIs b9i ?_ (b9r _ _)))
 show wpAny _ _ (b7W (.ref t) >>= _) _ _ s;refine b4V (tupleItemsOf_ ht ?_);refine b4V (b9P hTs ?_);rw[if_pos (by decide)];refine b4V (a1X hs pl pu ?_)
 have hyes:(((sIx items.size 0 lo:Nat):Int)==0&&(1:Int)==1&&(sIx items.size items.size hi-sIx items.size 0 lo)==items.size)=true:=by
  rw[hw.1,hw.2];simp
 show wpAny _ _ (if (((sIx items.size 0 lo:Nat):Int)==0&&(1:Int)==1&&(sIx items.size items.size hi-sIx items.size 0 lo)==items.size)=true then _ else _) _ _ s
 rw[if_pos hyes];refine b4V (m:=Builtin.Tuple.tupleIsExact (.ref t)) (b4V (b9P ht.typeIs (b5k ?_)));rw[if_pos (by decide)];refine b4V (wpAny_rule ?_)
 first
  |exact b5k ⟨_,rfl,b5k h⟩
  |exact b4V (b5k (b5k ⟨_,rfl,b5k h⟩))
end
end HT
namespace L2
open PySem PySem.Spec PyProof.Rows
section
variable{X:Cx}
noncomputable def cutT(xs:List T)(lo hi:Option Int):List T:=(xs.drop (HT.sIx xs.length 0 lo)).take (HT.sIx xs.length xs.length hi-HT.sIx xs.length 0 lo)
noncomputable def b4r(K:PySem.W.Frag):V->Option Int->Option Int->Hp->VK->Prop:=fun x lo hi H Q=>∃a xs,x=.ref a/\SqT K H a xs /\
 ∀p H',SqT K H' p (cutV xs lo hi)->(H'=H\/H p=none/\H'=upd H p (.tup (cutV xs lo hi)))->Q (.ref p) H'
theorem b1c:SlR X (b4r X.K):=by
 intro pins s σ H x v vl vu lo hi sl Q I rx hs pl pu h;obtain⟨a,xs,rfl,hx,q⟩:=h;by_cases hw:HT.sIx xs.length 0 lo=0/\HT.sIx xs.length xs.length hi=xs.length
 ·cases rx;obtain⟨its,r,ht,hz⟩:=I.tuple hx;have hlen:its.toArray.size=xs.length:=by rw[b5a];exact r.length.symm
  refine⟨"tuple",_,b5G.lookup,ht.typeIs,?_⟩;refine HT.getItem_tuple_all ht hs pl pu (by rw[hlen];exact hw) ?_ (by rw[hlen];exact hz)
  have e:cutV xs lo hi=xs:=by
   unfold cutV;rw[hw.1,hw.2];simp
  exact⟨.ref a,H,I,rfl,q a H (by rw[e];exact hx) (.inl rfl)⟩
 ·exact b2H pins s σ H _ v vl vu lo hi sl Q I rx hs pl pu ⟨a,xs,rfl,hx,hw,fun p hp=>q p _ (SqT.of a0t) (.inr ⟨hp,rfl⟩)⟩
theorem Reps.cut{K:PySem.W.Frag}{H:Hp}{xs:List V}{ts:List T}(r:Reps K H xs ts)(lo hi:Option Int):Reps K H (cutV xs lo hi) (cutT ts lo hi):=by
 unfold cutV cutT;rw[r.length];exact(r.drop _).take _
noncomputable abbrev TO3:=En->MH->(Option Int->MH->Prop)->Prop
noncomputable def HPo(X:Cx)(e:Option Expr)(t:TO3):Prop:=∀ρ M Q,t ρ M Q->PO X e (fun σ H Q2=>RhoR X.K σ H ρ/\HR X.K H M/\∀o M' H',Kp X.K H H'->HR X.K H' M'->Q o M'->Q2 o H')
noncomputable def dPo(K:PySem.W.Frag)(ρ:En)(t:TO3):TO:=fun σ H Q2=>∃M Q,t ρ M Q/\RhoR K σ H ρ/\HR K H M/\∀o M' H',Kp K H H'->HR K H' M'->Q o M'->Q2 o H'
theorem HPo.d{e:Option Expr}{t:TO3}{ρ:En}(h:HPo X e t):PO X e (dPo X.K ρ t):=fun pins s σ H Q I ⟨M,Q3,q,b⟩=>h ρ M Q3 q pins s σ H Q I b
theorem PO.imp{e:Option Expr}{w w':TO}(h:PO X e w)(f:∀σ H Q,w' σ H Q->w σ H Q):PO X e w':=fun pins s σ H Q I q=>h pins s σ H Q I (f σ H Q q)
noncomputable def tNo3:TO3:=fun ρ M Q=>Q none M
noncomputable def tPt3(t:TE3):TO3:=fun ρ M Q=>t ρ M fun x M1=>match x with
 |.int i=>Q (some i) M1
 |_=>False
theorem a0T:HPo X none tNo3:=fun ρ M Q h=>b1G.imp fun σ H Q2 ⟨hr,hh,en⟩=>en _ _ _ Kp.refl hh h
theorem a0S{e:Expr}{t:TE3}(he:HE X e t):HPo X (some e) (tPt3 t):=fun ρ M Q h=>(b1F (he.d (ρ:=ρ))).imp fun σ H Q2 ⟨hr,hh,en⟩ =>
 ⟨M,_,h,hr,hh,fun x v M1 H1 k1 h1 r1 q1=>by
  dsimp only at q1;split at q1
  ·obtain rfl:=a0l r1;exact⟨_,rfl,en _ _ _ k1 h1 q1⟩
  ·exact q1.elim⟩
noncomputable def rSlS:V->Option Int->Option Int->Hp->VK->Prop:=fun x lo hi H Q=>∃z,x=.str z/\z.length<=sizeLine/\Q (.str (b5V z lo hi)) H
theorem b2I:SlR X rSlS:=by
 intro pins s σ H x v vl vu lo hi sl Q I rx hs pl pu h;obtain⟨z,rfl,hz,q⟩:=h;obtain⟨t,rfl⟩:=rx;refine⟨"str",_,F.slot_str_getitem.lookup,b7J _ _ _,?_⟩;have fin:∀t' k,EP X pins σ Q (.str (b5V z lo hi) t') { s with toks:=k }:=fun t' k=>⟨.str _,H,I.kept fun b o e=>e,⟨_,rfl⟩,q⟩;have hl:(b5V z lo hi).length<=sizeLine:=b5l (b9T z _ _) hz;cases pl with
 | none=>cases pu with
   |none=>exact b6J (l:=none) (u:=none) (st:=none) hs rfl (b7S ⟨hl,fin⟩)
   |int j uj=>exact b6J (l:=none) (u:=some (j,uj)) (st:=none) hs rfl (b7S ⟨hl,fin⟩)
 | int i ui=>cases pu with
   |none=>exact b6J (l:=some (i,ui)) (u:=none) (st:=none) hs rfl (b7S ⟨hl,fin⟩)
   |int j uj=>exact b6J (l:=some (i,ui)) (u:=some (j,uj)) (st:=none) hs rfl (b7S ⟨hl,fin⟩)
noncomputable def tSl3(te:TE3)(tl th:TO3):TE3:=fun ρ M Q=>te ρ M fun x M1=>tl ρ M1 fun l M2=>th ρ M2 fun u M3=>match x with
 |.tup ts=>Q (.tup (cutT ts l u)) M3
 | .adr p=>(match M3 p with
   |some (.lst ts)=>∀r,M3 r=none->Q (.adr r) (updM M3 r (.lst (cutT ts l u)))
   |_=>False)
 |.str z=>z.length<=sizeLine/\Q (.str (b5V z l u)) M3
 |_=>False
theorem a0A{e:Expr}{lo hi:Option Expr}{te:TE3}{tl th:TO3}{pos p2:Pos}(he:HE X e te)(hl:HPo X lo tl)(hu:HPo X hi th):HE X (.Subscript e (.Slice lo hi none p2) pos) (tSl3 te tl th):=fun ρ M Q h =>
 (a9Z ((b1c.or b1d).or b2I) (he.d (ρ:=ρ)) (hl.d (ρ:=ρ)) (hu.d (ρ:=ρ))).imp fun σ H Q2 ⟨hr,hh,en⟩ =>
  ⟨M,_,h,hr,hh,fun x v M1 H1 k1 h1 r1 q1=>⟨M1,_,q1,hr.kp k1,h1,fun l M2 H2 k2 h2 q2=>⟨M2,_,q2,hr.kp (k1.trans k2),h2,fun u M3 H3 k3 h3 q3=>by
   have r3:=Rep.kp (k2.trans k3) _ _ r1;have k13:=(k1.trans k2).trans k3;split at q3
   ·rename_i ts;obtain⟨a,xs,rfl,g1,g2⟩:=a0Y r3;refine .inl (.inl ⟨a,xs,rfl,g1,fun p H' h' c=>?_⟩);rcases c with rfl|⟨c1,rfl⟩
    ·exact en _ _ _ _ k13 h3 (a1z h' (g2.cut l u)) q3
    ·exact en _ _ _ _ (k13.trans (Kp.new c1)) (h3.keep c1) (a1z h' (Reps.kp (Kp.new c1) _ _ (g2.cut l u))) q3
   ·obtain rfl:=a0w r3;split at q3
    ·rename_i ts e0;obtain⟨xs,g1,g2⟩:=h3 _ _ e0;refine .inl (.inr ⟨_,xs,rfl,SqL.of g1,fun p hp=>?_⟩);exact en _ _ _ _ (k13.trans (Kp.new hp)) (h3.newL hp (g2.cut l u)) a2G (q3 p (h3.free hp))
    ·exact q3.elim
   ·obtain rfl:=a0z r3;exact .inr ⟨_,rfl,q3.1,en _ _ _ _ k13 h3 a2i q3.2⟩
   ·exact q3.elim⟩⟩⟩
end
end L2
namespace HT
open PySem PySem.Spec PyProof.Rows
section
variable{prog:b5i}{w:b5B}{A:b5s}{E:VPR}{s:b4U}
end
end HT
namespace L2
open PySem PySem.Spec PyProof.Rows
section
variable{X:Cx}
end
section
variable{X:Cx}
theorem b2J{body:List Stmt}{h0:b7m}{hs:List b7m}{pos:Pos}{tb:TS3}(hb:HSs X.nox body tb):HS X (.Try body (h0::hs) [] [] pos) tb:=fun D ρ M h=>by
 intro pins s σ H D2 I b;refine wpAny_Try_except ?_;have q:=hb D ρ M h pins s σ H D2 (I.wish _) b;refine b5I q (fun f s1 h1=>?_) fun _ _ z=>z.elim;cases f with
 | next =>
   obtain⟨σ',H',I',q'⟩:=h1;exact b6e ⟨σ',H',I'.unwish,q'⟩
 |brk=>obtain⟨σ',H',I',q'⟩:=h1;exact⟨σ',H',I'.unwish,q'⟩
 |cont=>obtain⟨σ',H',I',q'⟩:=h1;exact⟨σ',H',I'.unwish,q'⟩
 |ret u=>obtain⟨v,σ',H',I',q'⟩:=h1;exact⟨v,σ',H',I'.unwish,q'⟩
end
section
variable{X:Cx}
noncomputable def a0u(i:Int):Str:=b5w (toString i)
noncomputable def b1o:List T->MH->VK3->Prop:=fun xs M Q=>match xs with
 |[.int i]=>i.natAbs<10^400/\Q (.str (a0u i)) M
 |_=>False
theorem a7N{i:Int}(h:i.natAbs<10^400):i.natAbs.log2<1920:=by
 by_cases h0:i.natAbs=0
 ·rw[h0];decide
 ·exact(c0P h0).mpr (b6G h (by decide +kernel))
theorem a2o:a3m X (.type "str") b1o:=by
 intro pins s σ H vs us Q2 I r h;obtain⟨xs,M,Q,rr,hh,q,en⟩:=h;unfold b1o at q;split at q
 ·rename_i i;obtain⟨v,rfl,r1⟩:=a1F rr;obtain rfl:=a0l r1;obtain⟨u,rfl,ru⟩:=a2Y r;obtain⟨t,rfl⟩:=ru;refine PySem.P.str_of_int (a7N q.1) ?_;exact⟨.str (a0u i),H,I.kept fun b o e=>e,⟨_,rfl⟩,en _ _ M H Kp.refl hh a2i q.2⟩
 ·exact q.elim
end
section
variable{X:Cx}
end
section
variable{X:Cx}{es:LSE}{e:Expr}{t:TA3}
noncomputable def a7i(x:T):Prop:=match x with
 |.str _=>True
 |_=>False
noncomputable def tSM3(r:RM3)(to:TE3)(t:TA3):TE3:=fun ρ M Q=>to ρ M fun x M1=>a7i x/\t ρ M1 fun xs M2=>r x xs M2 Q
theorem b0o{K:PySem.W.Frag}{H:Hp}{x:T}{v:V}(r:Rep K H v x)(h:a7i x):tyV K "str" v H:=by
 unfold a7i at h;split at h
 ·obtain rfl:=a0z r;rfl
 ·exact h.elim
theorem h_sm{o:Expr}{to:TE3}{name:Str}{apos cpos:Pos}{id:String}{r:RM3}(slot:Slot "str" name id)(hty:typeOf (.builtin id)=pure (.type "method_descriptor"))(hm:MtR3 X id r)(ho:HE X o to)(ha:HA X (e::es) t)
  (hbase:attributeBase o name X.env (eval o X.env)=eval o X.env:=by rfl)
  (hfew:QFF X cpos e es:=by rfl)
  (hline:QLL apos cpos:=by rfl) (hs:QSS X e es:=by rfl) (hplain:QPP X cpos es:=by rfl) :
  HE X (.Call (.Attribute o name apos) (e::es) [] cpos) (tSM3 r to t):=fun ρ M Q h =>
 (b3j PySem.F.plainAttrs_str slot hty hm (ho.d (ρ:=ρ)) (ha.d (ρ:=ρ)) hbase hfew hline hs hplain).imp fun σ H Q2 ⟨hr,hh,en⟩=>⟨M,_,h,hr,hh,fun x v M1 H1 k1 h1 r1 q1=>⟨b0o r1 q1.1,M1,_,q1.2,hr.kp k1,h1,fun ts vs M2 H2 k2 h2 r2 q2 =>
  ⟨x,ts,M2,Q,Rep.kp k2 _ _ r1,r2,h2,q2,en.kp (k1.trans k2)⟩⟩⟩
noncomputable def a3q(x y:Str):Bool:=decide (0+y.length<=x.length)&&b9K x y (x.length-y.length)
noncomputable def a6Z:RM3:=fun x xs M Q=>match x,xs with
 |.str x,[.str y]=>Q (.bl (a3q x y)) M
 |_,_=>False
theorem a5E:MtR3 X "str.endswith" a6Z:=by
 intro pins s σ H v vs u us Q2 I rv rvs h;obtain⟨x,xs,M,Q,r1,r2,hh,q,en⟩:=h;unfold a6Z at q;split at q
 ·rename_i x y;obtain rfl:=a0z r1;obtain⟨t,rfl⟩:=rv;obtain⟨w,rfl,rw'⟩:=a1F r2;obtain rfl:=a0z rw';obtain⟨w',rfl,ru⟩:=a2Y rvs;obtain⟨t',rfl⟩:=ru;refine call_gives F.slot_str_endswith (b7J _ _ _) F.entry_str_endswith (F.args_str_endswith_2 _ _) (gives_str_endswith x y t t') ?_;exact⟨.bl (a3q x y),H,I,rfl,en _ _ M H Kp.refl hh a1g q⟩
 ·exact q.elim
theorem a3i{o:Expr}{to:TE3}{apos cpos:Pos}(ho:HE X o to)(ha:HA X (e::es) t)
  (hbase:attributeBase o "endswith" X.env (eval o X.env)=eval o X.env:=by rfl)
  (hfew:QFF X cpos e es:=by rfl)
  (hline:QLL apos cpos:=by rfl) (hs:QSS X e es:=by rfl) (hplain:QPP X cpos es:=by rfl) :
  HE X (.Call (.Attribute o "endswith" apos) (e::es) [] cpos) (tSM3 a6Z to t):=h_sm PySem.F.slot_str_endswith PySem.F.type_str_endswith a5E ho ha hbase hfew hline hs hplain
end
section
variable{X:Cx}{es:LSE}{e:Expr}{t:TA3}
noncomputable def a4C:List T->Option (LSS)
 |[]=>some []
 |.str i::ts=>(a4C ts).map (i::·)
 |_::_=>none
theorem a2a:∀(ns:LSS),a4C (ns.map T.str)=some ns
 |[]=>rfl
 |n::ns=>by show(a4C (ns.map T.str)).map (n::·)=_;rw[a2a ns];rfl
theorem a4j:∀{ts:List T} {ns:LSS},a4C ts=some ns->ts=ns.map T.str
 |[],ns,e=>by unfold a4C at e;cases e;rfl
 | t :: ts,ns,e=>by
   cases t with
   | str i =>
     unfold a4C at e;cases q:a4C ts with
     |none=>rw[q] at e;cases e
     |some cs=>rw[q] at e;cases e;rw[a4j q];rfl
   |_=>unfold a4C at e;cases e
theorem a5s{K:PySem.W.Frag}{H:Hp}:∀{xs:List V} {ns:LSS},Reps K H xs (ns.map T.str)->xs=ns.map V.str
 |xs,[],h=>by unfold Reps at h;subst h;rfl
 | xs,n::ns,h=>by
   rw[b5z] at h;unfold Reps at h;obtain⟨v,r,rfl,h1,h2⟩:=h;obtain rfl:=a0z h1;rw[a5s h2];rfl
theorem a5n{K:PySem.W.Frag}{H:Hp}:∀(ns:LSS),Reps K H (ns.map V.str) (ns.map T.str)
 |[]=>.nil
 |n::ns=>.cons a2i (a5n ns)
theorem a5g:∀{ns:LSS} {its:LSV},Vals (ns.map V.str) its->∃l:List (Str×Tok),its=strValues l/\l.map (·.1)=ns
 |[],its,r=>by cases r;exact⟨[],rfl,rfl⟩
 | n :: ns,its,r=>by
   cases r with
   | cons r rr =>
     obtain⟨t,rfl⟩:=r;obtain⟨l,rfl,rfl⟩:=a5g rr;exact⟨(n,t)::l,rfl,rfl⟩
theorem a5m:∀(tk:Nat) (ns:LSS),Vals (ns.map V.str) (strsFrom tk ns)
 |_,[]=>.nil
 |tk,n::ns=>.cons ⟨tk,rfl⟩ (a5m (tk+1) ns)
noncomputable def a6Y:RM3:=fun x xs M Q=>match x,xs with
 | .str x,[.adr p]=>(match M p with
   | some (.lst ts)=>(match a4C ts with
     |some ns=>JoinOk x ns=true/\Q (.str (b6A x ns)) M
     |none=>False)
   |_=>False)
 |_,_=>False
theorem b0j:MtR3 X "str.join" a6Y:=by
 intro pins s σ H v vs u us Q2 I rv rvs h;obtain⟨x,xs,M,Q,r1,r2,hh,q,en⟩:=h;unfold a6Y at q;split at q
 ·rename_i x p;split at q
  ·rename_i ts e0;split at q
   ·rename_i ns en0;obtain rfl:=a4j en0;obtain⟨ys,g1,g2⟩:=hh _ _ e0;obtain rfl:=a5s g2;obtain rfl:=a0z r1;obtain⟨t,rfl⟩:=rv;obtain⟨w,rfl,rw'⟩:=a1F r2;obtain rfl:=a0w rw';obtain⟨w',rfl,ru⟩:=a2Y rvs;cases ru;obtain⟨its,r,pl,hz⟩:=I.list (SqL.of g1);obtain⟨l,rfl,hl⟩:=a5g r;refine SC.join pl.isList hl q.1 fun t' k=>?_;exact⟨.str _,H,I.kept fun b o e=>e,⟨_,rfl⟩,en _ _ M H Kp.refl hh a2i q.2⟩
   ·exact q.elim
  ·exact q.elim
 ·exact q.elim
noncomputable def a4H:RM3:=fun x xs M Q=>match x,xs with
 | .str x,[.str y]=>(y.length==0)=false/\x.length<=sizeLine/\(b8x x (b7n x y 0 x.length (x.length+1)) y.length).length<=sizeLine /\
   ∀r,M r=none->Q (.adr r) (updM M r (.lst ((b6w x y).map T.str)))
 |_,_=>False
theorem a8K:MtR3 X "str.split" a4H:=by
 intro pins s σ H v vs u us Q2 I rv rvs h;obtain⟨x,xs,M,Q,r1,r2,hh,q,en⟩:=h;unfold a4H at q;split at q
 ·rename_i x y;obtain⟨hy,hsz,hsz2,q⟩:=q;obtain rfl:=a0z r1;obtain⟨t,rfl⟩:=rv;obtain⟨w,rfl,rw'⟩:=a1F r2;obtain rfl:=a0z rw';obtain⟨w',rfl,ru⟩:=a2Y rvs;obtain⟨t',rfl⟩:=ru;have hf:=I.hok.fresh (b5h _)
  have fin:∀ns:LSS,b6w x y=ns->ns.length<=sizeLine->∀(its:LSV) (tk:Nat),Vals (ns.map V.str) its->EP X pins σ Q2 (.ref s.heap.objs.size) { s with toks:=tk,heap:=s.heap.push { cls:=.type "list",data:=.seq its.toArray } }:=by
   rintro ns rfl hns its tk rr;exact⟨.ref _,_,I.lnew (t':=tk) rr (by rw[b4Y];exact hns),rfl,en _ _ _ _ (Kp.new hf) (hh.newL hf (a5n _)) a2G (q _ (hh.free hf))⟩
  cases h1:(decide (x.length<y.length)||decide (b9k x<b9k y))
  ·cases hc:(b7n x y 0 x.length (x.length+1)).isEmpty
   ·refine b6V b8K (b7J _ _ _) b8y (b8e _ _) (meets_str_split_sep x y t t' h1 hy hc hsz hsz2) ?_;exact fin _ ((if_neg (ne_true_of_eq_false h1)).trans (if_neg (ne_true_of_eq_false hc))) hsz2 _ _ (a5m _ _)
   ·refine b6V b8K (b7J _ _ _) b8y (b8e _ _) (meets_str_split_not_found x y t t' h1 hy hc) ?_;exact fin [x] ((if_neg (ne_true_of_eq_false h1)).trans (if_pos hc)) (show 1<=sizeLine by decide) [.str x t] s.toks (.cons ⟨t,rfl⟩ .nil)
  ·refine b6V b8K (b7J _ _ _) b8y (b8e _ _) (meets_str_split_cannot_occur x y t t' h1) ?_;exact fin [x] (if_pos h1) (show 1<=sizeLine by decide) [.str x t] s.toks (.cons ⟨t,rfl⟩ .nil)
 ·exact q.elim
theorem a4W{o:Expr}{to:TE3}{apos cpos:Pos}(ho:HE X o to)(ha:HA X (e::es) t)
  (hbase:attributeBase o "join" X.env (eval o X.env)=eval o X.env:=by rfl)
  (hfew:QFF X cpos e es:=by rfl)
  (hline:QLL apos cpos:=by rfl) (hs:QSS X e es:=by rfl) (hplain:QPP X cpos es:=by rfl) :
  HE X (.Call (.Attribute o "join" apos) (e::es) [] cpos) (tSM3 a6Y to t):=h_sm PySem.F.slot_str_join PySem.F.type_str_join b0j ho ha hbase hfew hline hs hplain
theorem a2U{o:Expr}{to:TE3}{apos cpos:Pos}(ho:HE X o to)(ha:HA X (e::es) t)
  (hbase:attributeBase o "split" X.env (eval o X.env)=eval o X.env:=by rfl)
  (hfew:QFF X cpos e es:=by rfl)
  (hline:QLL apos cpos:=by rfl) (hs:QSS X e es:=by rfl) (hplain:QPP X cpos es:=by rfl) :
  HE X (.Call (.Attribute o "split" apos) (e::es) [] cpos) (tSM3 a4H to t):=h_sm PySem.F.slot_str_split PySem.F.type_str_split a8K ho ha hbase hfew hline hs hplain
end
end L2
namespace L2
open PySem PySem.Spec PyProof.Rows LM
theorem sI(l:Int)(h0:-6<=l)(h1:l<=6):32∉(a0u l).cps.toList/\(a0u l).length<=3/\PySem.intText? (a0u l)=some l:=by
 have:l=-6\/l=-5\/l=-4\/l=-3\/l=-2\/l=-1\/l=0\/l=1\/l=2\/l=3\/l=4\/l=5\/l=6:=by lia
 rcases this with rfl|rfl|rfl|rfl|rfl|rfl|rfl|rfl|rfl|rfl|rfl|rfl|rfl<;>decide +kernel
theorem a9o(a b:Str):(a++b).cps.toList=a.cps.toList++b.cps.toList:=by
 show(a.cps++b.cps).toList=_;simp
theorem a3D(a b:Str):(a++b).length=a.length+b.length:=strLen_append a b
theorem a7p(s:Str):∀(xs:LSS) (x:Str),(Str.join s (x::xs)).cps.toList=x.cps.toList++xs.flatMap fun y=>s.cps.toList++y.cps.toList
 |[],x=>by show x.cps.toList=_;simp
 | y::ys,x=>by
   show(x++s++Str.join s (y::ys)).cps.toList=_;rw[a9o,a9o,a7p s ys y];simp[b8t]
theorem a8e{α:Type}(f:α->Str){L:List α}{i:Nat}{x:α}(h:L[i]?=some x):((L.take i).map f).map T.str++[T.str (f x)]=((L.take (i+1)).map f).map T.str:=by
 rw[<- LM.a0P f h,b5O];rfl
theorem a2S(x:Str)(h:x.length<1000):(b8x x (b7n x (" ":Str) 0 x.length (x.length+1)) (" ":Str).length).length<=sizeLine:=by
 rw[len_partsBetween];have:=StrLaws.occ_length_le_len x (" ":Str) 0 x.length (x.length+1);exact b5l (by lia:_<=1002) (by decide)
end L2
namespace L2
open PySem PySem.Spec PyProof.Rows
section
variable{prog:b5i}{w:b5B}{A:b5s}{E:VPR}{s:b4U}
end
section
open AutoSeq1 (wpAny_loadPart')
open SeqAt (EqAt)
end
section
variable{X:Cx}{a b e:Expr}{es:LSE}{ta te:TE3}{t:TA3}{pos:Pos}
end
section
open AutoSeq1
end
section
variable{X:Cx}{a b e f:Expr}{es:LSE}{ta te:TE3}{t:TA3}{pos:Pos}
noncomputable def a8W(x:T):Bool:=match x with
 |.non=>true
 |_=>false
theorem a8V{K:PySem.W.Frag}{H:Hp}{v:V}{x:T}(r:Rep K H v x):decide (v=.non)=a8W x:=by
 cases x with
 |non=>obtain rfl:=a3H r;rfl
 |bl b=>obtain rfl:=a1H r;rfl
 |int i=>obtain rfl:=a0l r;rfl
 |str y=>obtain rfl:=a0z r;rfl
 |adr a=>obtain rfl:=a0w r;rfl
 |tup ts=>obtain⟨p,xs,rfl,_,_⟩:=a0Y r;rfl
 |rd ts=>obtain⟨p,xs,rfl,_,_⟩:=a4q r;rfl
 |dic ks ts=>unfold Rep at r;obtain⟨b,rfl,_⟩:=r;rfl
noncomputable def b3I(x:T)(c:Bool):Option Bool:=match x with
 |.bl b=>some (b==c)
 |_=>none
noncomputable def rIs3:R3:=fun x y M Q=>match y with
 |.non=>Q (.bl (a8W x)) M
 |.bl c=>(match b3I x c with|some b=>Q (.bl b) M|none=>False)
 |_=>False
theorem b3H{M:b7r}{A:b5s}{E:VPR}{s:b4U}{Q:VPR}{b c:Bool}(h:Q (.bool (b==c)) s):wpAny M A (compareOp .Is (.bool b) (.bool c)) Q E s:=by
 cases b<;>cases c<;>exact b5k h
theorem b0N:OpR3 X (compareOp .Is) rIs3:=by
 intro pins s σ H x y v u Q2 I rx ry q;obtain⟨a,b,M,Q,r1,r2,hh,q,en⟩:=q;cases b with
 | non =>
   obtain rfl:=a3H r2;refine b3q pins s σ H _ _ v u Q2 I rx ry ⟨rfl,?_⟩;rw[a8V r1];exact en _ _ M H Kp.refl hh a1g q
 | bl c =>
   cases a with
   | bl b =>
     obtain rfl:=a1H r1;obtain rfl:=a1H r2;cases rx;cases ry;exact b3H ⟨.bl _,H,I,rfl,en _ _ M H Kp.refl hh a1g q⟩
   |_=>exact q.elim
 |_=>exact q.elim
end
end L2
namespace L2
open PySem PySem.Spec PyProof.Rows LM
noncomputable def isWd(n:Int)(w:LSI)(k:Int):Bool:=decide (1<=n)&&decide (n<=6)&&decide ((w.length:Int)<=k)&&w.all (a5I n)
theorem b1Y(n:Int)(w:LSI):isWd n w 16=isPl n w:=by
 unfold isWd isPl;rw[show decide ((w.length:Int)<=16)=decide (w.length<=16) from decide_eq_decide.mpr (by lia)]
theorem b1V{M M':MH}{p:Addr}(h:Sub M M')(hp:M' p=none):M p=none:=by
 cases q:M p with
 |none=>rfl
 |some o=>have:=h p o q;rw[hp] at this;cases this
theorem a4m{a:Int}{n i:Nat}{x:T}(h:(a1k a n)[i]?=some x):i<n/\x=.int (a+(i:Nat)):=by
 unfold a1k at h;rw[b5n] at h;cases q:(b5S n)[i]? with
 |none=>rw[q] at h;cases h
 | some k =>
   rw[q] at h;have hi:=(b5q.mp q).1;rw[b8z] at hi;rw[b7c hi] at q;cases q;exact⟨hi,(b5p h).symm⟩
theorem a7o(xs:List T)(k:Int)(h0:0<=k):cutT xs none (some k)=xs.take k.toNat:=by
 unfold cutT;have e:k=((k.toNat:Nat):Int):=by lia
 rw[e,HT.sIx_nat,HT.sIx_none,List.drop_zero,c0J,b8s];by_cases h:k.toNat<=xs.length
 ·rw[c0n h]
 ·rw[c0d (by lia),b6N (b5h _),b6N (by lia)]
theorem a0O.take{n:Int}{w:LSI}(h:a0O n w)(k:Nat):a0O n (w.take k):=fun l hl=>h l (b7G hl)
theorem a0O.drop{n:Int}{w:LSI}(h:a0O n w)(k:Nat):a0O n (w.drop k):=fun l hl=>h l (b7H hl)
theorem a2u(xs:List T)(k:Int)(h0:0<=k):cutT xs (some k) none=xs.drop k.toNat:=by
 unfold cutT;have e:k=((k.toNat:Nat):Int):=by lia
 rw[e,HT.sIx_nat,HT.sIx_none,b8s];by_cases h:k.toNat<=xs.length
 ·rw[c0n h,b6N (by rw[b8H];lia)]
 ·rw[c0d (by lia),Nat.sub_self,List.take_zero,List.drop_of_length_le (by lia)]
end L2
namespace LM
noncomputable def AL(n:Int)(w v:LSI):Prop:=∀j:Int,1<=j->j<=n->imgL w j=imgL v j
theorem AL.refl{n:Int}{w:LSI}:AL n w w:=fun _ _ _=>rfl
end LM
namespace L2
open PySem PySem.Spec PyProof.Rows LM
noncomputable def gI(w:LSI)(k:Int):Int:=w.getD k.toNat 0
noncomputable def Sm(w:LSI):Prop:=w.length<=4000/\∀x∈w,x.natAbs<7
theorem Sm.of{n:Int}{ws:LSI}(hl:ws.length<=4000)(h6:n<=6)(hw:a0O n ws):Sm ws:=⟨hl,fun x hx=>by
 have:=hw x hx;unfold a2X at this
 lia⟩
noncomputable def sw(l x:Int):Int:=if x=l-1 then l else if x=l then l-1 else x
noncomputable def IsP(n:Int)(r:LSI):Prop:=r.Perm (a2Q n)
noncomputable def mvC(one other:LSI)(l:Nat):Bool:=decide (gI other ((l:Int)-1)>gI other l)&&decide (one.idxOf ((l:Int)-1)<one.idxOf (l:Int))
noncomputable def mvS(one other:LSI)(m:Nat):List Nat:=(b5S m).filter fun i=>mvC one other (i+1)
noncomputable def mvL(one other:LSI):Nat:=match mvS one other (one.length-1) with
 |[]=>0
 |i::_=>i+1
noncomputable def begL(row:LSI)(l:Nat):LSI:=row.take (l-1)++[gI row l,gI row ((l:Int)-1)]++row.drop (l+1)
noncomputable def a8l(R:LLI):Bool:=(b5S (R.length-1)).all fun i=>decide (mvL (R.getD i []) (R.getD (i+1) [])=0)
theorem a0g{a b:TS3}{D:Ends3}{ρ:En}{M:MH}(h:∀K:En->MH->Prop,K=b D->a { D with nx:=K } ρ M):a9J a b D ρ M:=h _ rfl
noncomputable def setp(R:LLI)(i:Nat)(a b:LSI):LLI:=(R.set i a).set (i+1) b
noncomputable def b4T(n:Int)(R R':LLI):Prop:=∃(i l:Nat) (a b:LSI),R[i]?=some a/\R[i+1]?=some b/\1<=l/\(l:Int)<n/\mvC a b l=true/\R'=setp R i (a.map (sw l)) (begL b l)
inductive Go (n:Int):LLI->LLI->Prop where
 |refl (R:LLI):Go n R R
 |head {R R1 R2:LLI} (h:b4T n R R1) (g:Go n R1 R2):Go n R R2
noncomputable def okR(n:Int)(R:LLI):Prop:=∀r∈R,IsP n r
structure Hd(n:Int)(S R:LLI)(c:Nat):Prop where
 ok:okR n R
 st:a8l R=true
 dr:S.drop c=R
 ct:S.count (a2Q n).reverse=c+R.count (a2Q n).reverse
theorem Hd.nil{n:Int}{S:LLI}{c:Nat}(h:Hd n S [] c):S.count (a2Q n).reverse=c:=by
 rw[h.ct,List.count_nil,Nat.add_zero]
structure FS(n:Int)(R S:LLI):Prop where
 ok:okR n S
 st:a8l S=true
 np:∀r∈S,r≠a2Q n
 go:∃k,Go n R (S++b5e k (a2Q n))
theorem FS.self{n:Int}{S:LLI}(ok:okR n S)(st:a8l S=true)(np:∀r∈S,r≠a2Q n):FS n S S:=⟨ok,st,np,0,by rw[List.replicate_zero,b6o];exact .refl _⟩
noncomputable abbrev PR:=Int×List (LSI)
noncomputable def Fo(n:Int)(x f:PR):Prop:=∃S,FS n x.2 S/\f=(x.1+(S.count (a2Q n).reverse:Nat),S.drop (S.count (a2Q n).reverse))
theorem b1S(n:Int):okR n []:=fun r hr=>by cases hr
section
variable{n:Int}(h6:n<=6)
include h6
end
theorem Fo.nil{n p:Int}:Fo n (p,[]) (p,[]):=⟨[],FS.self (b1S n) rfl (fun r hr=>by cases hr),by show(p,[])=(p+((0:Nat):Int),[]);rw[Int.natCast_zero,Int.add_zero]⟩
section
variable{n:Int}
end
section
variable{n:Int}
end
section
variable{n:Int}
end
end L2
namespace L2
open PySem PySem.Spec PyProof.Rows
noncomputable def b2P(hi:Int)(n:Nat):List T:=(b5S n).map fun i=>T.int (hi-(i:Nat))
section
variable{X:Cx}{a b c:Expr}{t:TA3}{pos:Pos}
noncomputable def b2d(t:TA3):TI3:=fun ρ M R=>t ρ M fun xs M1=>match xs with
 |[.int i,.int j,.int s]=>(s=-1/\-(2^62)<=i/\i<2^62/\-(2^62)<=j/\j<2^62)/\R ⟨b2P i (i-j).toNat,fun _=>True⟩ M1
 |_=>False
end
section
variable{X:Cx}
end
theorem a9f{i:TI3}{g:TG3}{b:TS3}{D:Ends3}{ρ:En}{M:MH}(h:∀B:TS3,B=b->a7y i g B D ρ M):a7y i g b D ρ M:=h _ rfl
section
variable{X:Cx}
end
theorem a1C.has{P:b5i}{w:b5B}{H:Hp}{h:Heap}{a:Addr}{o:HO}(x:a1C P w H h a o):∃ob,h.get? a=some ob:=by
 cases o with
 |lst xs=>obtain⟨_,_,_,_,e⟩:=x;exact⟨_,e⟩
 |tup xs=>obtain⟨_,_,_,o,e,_⟩:=x;exact⟨_,e⟩
 |dK kvs=>obtain⟨_,_,_,_,o,_,_,e,_⟩:=x;exact⟨_,e⟩
 |dT kvs=>obtain⟨_,_,_,_,o,_,_,e,_⟩:=x;exact⟨_,e⟩
 |set S n=>obtain⟨o,_,_,_,e,_⟩:=x;exact⟨_,e⟩
 |ins C dx fs=>obtain⟨_,_,_,e,_⟩:=x;exact⟨_,e⟩
 |own y=>obtain⟨_,e⟩:=x;exact⟨_,e⟩
 |xd fs=>obtain⟨_,⟨_,_,_,e,_⟩,_⟩:=x;exact⟨_,e⟩
 |rng lo hi=>obtain⟨_,_,_,e⟩:=x;exact⟨_,e⟩
 |frz ob u=>obtain⟨e,_⟩:=x;exact⟨_,e⟩
 |tbl ps=>exact⟨_,(show h.get? a=some _ from x)⟩
 |met f y=>exact⟨_,(show h.get? a=some _ from x)⟩
 |ext φ=>obtain⟨_,e,_⟩:=x;exact e
structure Fly(H:Hp)(h0 h:Heap)(a:Addr)(C:b5c):Prop where
 un:H a=none
 new:h0.get? a=none
 obj:∃oe vs a0,h.get? a=some oe/\oe.cls=C/\oe.data=.fields vs/\vs[0]?=some a0 /\
  ∃T oT ts,vs[1]?=some (.ref T)/\T≠a/\H T=none/\h0.get? T=none/\h.get? T=some oT/\oT.data=.fields ts/\ts[3]?=some .none
noncomputable def CXE(P:b5i)(w:b5B):CXT:=fun outer H s E e s'=>∃a C H',e=.ref a/\s'.os=s.os/\b8n s'.gens/\Un (frs outer) [] H H' s.heap s'.heap/\HOk P w H' s'.heap/\Fly H' s.heap s'.heap a C/\E C none H'
theorem a0G{h base B:Heap}:∀{l:List Env},h.FunFrames base l->(∀b∈frs l,B.get? b=none)->h.FunFrames B l
 |[],_,_=>trivial
 | env::rest,⟨hk,⟨L,o,hf,hn,ho,hd⟩,hr⟩,hb=>by
   have e:frs (env::rest)=L::frs rest:=by unfold frs;rw[b5Z,hf]
   exact⟨hk,⟨L,o,hf,hb L (by rw[e];exact b5m),ho,hd⟩,a0G hr fun b hm=>hb b (by rw[e];exact b4X _ hm)⟩
section
variable{X:Cx}{pins:PNS}{σ:St}{H:Hp}{s:b4U}
structure Leaves(X:Cx)(E:XK):Prop where
 ex:X.ex=[]
 stk:X.stack=X.env::X.outer
 fr:X.env.frame=some X.env.locals
 xe:∀e s',wpAny (model X.prog X.w) X.A (leaving X.env e) (fun _ s''=>CXE X.prog X.w X.outer X.H₀ X.s₀ E e s'') (fun e' s''=>CXE X.prog X.w X.outer X.H₀ X.s₀ E e' s'') s'->X.xe e s'
theorem a9e{E:XK}(L:Leaves X E):frs X.stack=X.env.locals::X.fs:=by
 rw[L.stk];unfold frs;rw[b5Z,L.fr];rfl
theorem Inv.old(I:Inv X pins σ H s)(hx:X.ex=[]){b:Addr}(h:X.s₀.heap.get? b≠none):∃o,s.heap.get? b=some o:=by
 cases q:X.s₀.heap.get? b with
 |none=>exact absurd q h
 |some o=>exact I.base.there b o q (by rw[hx];simp)
theorem a3E{E:XK}{B h2:Heap}{a:Addr}{C a0:b5c}(L:Leaves X E)(I:Inv X pins σ H s)(ha:H a=none)(ha0:X.s₀.heap.get? a=none)
  (hB:∀b o,s.heap.get? b=some o->b∉frs X.stack->b≠a->(H b≠none\/X.s₀.heap.get? b≠none)->B.get? b=some o)
  (k1:B.StaysIn h2) (k3:h2.TracedW B a C a0) (k4:s.heap.UpToSlots h2) (hE:E C none H):CXE X.prog X.w X.outer X.H₀ X.s₀ E (.ref a) { s with heap:=h2 }:=by
 have fs:=a9e L
 have nL:∀b,X.s₀.heap.get? b≠none->b≠X.env.locals:=fun b hb z=>by
  cases q:X.s₀.heap.get? b with
  |none=>exact hb q
  |some o=>exact absurd (b5d q) (c0v.mpr (by rw[z];exact I.ok.above))
 have stay:∀b o,s.heap.get? b=some o->b∉frs X.stack->(H b≠none\/X.s₀.heap.get? b≠none)->h2.get? b=some o:=fun b o q hf hc=>by
  refine k1 b o (hB b o q hf ?_ hc);rintro rfl;rcases hc with z|z
  ·exact z ha
  ·exact z ha0
 have noT:∀b,(H b≠none\/X.s₀.heap.get? b≠none)->∃o,s.heap.get? b=some o:=fun b hc=>by
  rcases hc with z|z
  ·cases q:H b with
   |none=>exact absurd q z
   |some u=>exact(I.hok b u q).has
  ·exact I.old L.ex z
 have dfr:∀b∈frs X.stack,∃o,s.heap.get? b=some o/\∀vs,o.data≠.fields vs:=fun b hb=>(I.stack.mem hb).2;obtain⟨oe,vs,T,oT,ts,t1,⟨t2,t3⟩,t4,t5,t6,t7,t8,t9,t10⟩:=k3
 have hT:T∉frs X.stack:=fun hm=>by
  obtain⟨o,e1,e2⟩:=dfr T hm;obtain⟨sl,e3⟩:=k4 T o e1 e2;rw[t8] at e3;cases e3;exact e2 ts t9
 have key:¬(H T≠none\/X.s₀.heap.get? T≠none):=fun hc=>by
  obtain⟨o,e1⟩:=noT T hc;have:=hB T o e1 hT t7 hc;rw[t6] at this;cases this
 have hT1:H T=none:=b5t fun z=>key (.inl z);have hT2:X.s₀.heap.get? T=none:=b5t fun z=>key (.inr z);refine⟨a,C,H,rfl,I.os,I.bare,⟨fun b o q n hf _=>?_,fun b o q n hf _=>?_,fun b o q n _=>I.base.free b o q n (by rw[L.ex];simp),fun b o q _=>?_,I.base.tups,I.base.frzs,I.base.tbls⟩,fun b u q=>?_,⟨ha,ha0,oe,vs,a0,t1,t2,t4,t3,T,oT,ts,t5,t7,hT1,hT2,t8,t9,t10⟩,hE⟩
 ·have e1:=I.base.keep b o q n hf (by rw[L.ex];simp);refine stay b o e1 ?_ (.inr (by rw[q];simp));rw[fs];intro hm;rcases b5b.mp hm with z|z
  ·exact nL b (by rw[q];simp) z
  ·exact hf z
 ·obtain⟨sl,e1⟩:=I.base.slot b o q n hf (by rw[L.ex];simp);have hm:b∈frs X.stack:=by rw[fs];exact b4X _ hf
  obtain⟨o2,e2,e3⟩:=dfr b hm;rw[e1] at e2;cases e2;obtain⟨sl',e4⟩:=k4 b _ e1 e3;exact⟨sl',e4⟩
 ·obtain⟨o',e1⟩:=I.base.there b o q (by rw[L.ex];simp);by_cases hm:b∈frs X.stack
  ·obtain⟨o2,e2,e3⟩:=dfr b hm;obtain⟨sl,e4⟩:=k4 b o2 e2 e3;exact⟨_,e4⟩
  ·exact⟨_,stay b o' e1 hm (.inr (by rw[q];simp))⟩
 ·refine(I.hok b u q).stay (fun c v hc r=>?_) (fun _ r=>r) fun _ _ r=>r
  have hne:H c≠none:=by
   rcases hc with rfl|hc
   ·rw[q];simp
   ·rw[hc];simp
  refine stay c v r (fun hm=>hne ?_) (.inl hne);exact I.stkFree c hm
theorem a7O{E:XK}{h':Heap}{a:Addr}{C:b5c}{args:LSV}(L:Leaves X E)(I:Inv X pins σ H s)(hx:b9f s.heap h' a C args)(hE:E C none H):X.xe (.ref a) { s with heap:=h' }:=by
 refine L.xe _ _ ?_;have hfr:=I.ok.frames;rw[L.stk] at hfr
 have hl:s.heap.FunFrames (PySem.W.hideAll s.heap (frs X.stack)) (X.env::X.outer):=by
  rw[<- L.stk];exact a0G I.stack fun b hb=>PySem.W.hideAll_none _ hb
 have st:(PySem.W.hideAll s.heap (frs X.stack)).StaysIn s.heap:=fun b o q=>PySem.W.of_hideAll _ q;refine wpAny_leaves_madeW (s:={ s with heap:=h' }) hfr L.fr st hl hx fun h2 t hfl ht htn hsm=>?_;obtain⟨f1,f2,f3,f4⟩:=hfl;have I1:Inv X pins σ H { s with heap:=h',toks:=s.toks }:=I.kept (t':=s.toks) hx.keeps
 have ha:H a=none:=by
  cases q:H a with
  |none=>rfl
  |some u=>obtain⟨ob,e⟩:=(I.hok a u q).has;rw[hx.new] at e;cases e
 have ha0:X.s₀.heap.get? a=none:=b5t fun z=>by
  obtain⟨o,e⟩:=I.old L.ex z;rw[hx.new] at e;cases e
 refine a3E (B:=PySem.W.hideAll s.heap (frs X.stack)) (s:={ s with heap:=h',toks:=s.toks }) L I1 ha ha0 (fun b o q hf hb hc=>?_) f1 f4 hsm hE
 have:∃o',s.heap.get? b=some o':=by
  rcases hc with z|z
  ·cases r:H b with
   |none=>exact absurd r z
   |some u=>exact(I.hok b u r).has
  ·exact I.old L.ex z
 obtain⟨o',e⟩:=this;have e2:=hx.keeps b o' e;have q':h'.get? b=some o:=q;rw[e2] at q';cases q';exact PySem.W.hideAll_get _ e hf
theorem a8N{E:XK}{a:Addr}{C:b5c}(L:Leaves X E)(I:Inv X pins σ H s)(F:Fly H X.s₀.heap s.heap a C)(hE:E C none H):X.xe (.ref a) s:=by
 refine L.xe _ _ ?_;obtain⟨ha,ha0,oe,vs,a0,t1,t2,t3,t4,T,oT,ts,t5,t6,t7,t8,t9,t10,t11⟩:=F;have hfr:=I.ok.frames;rw[L.stk] at hfr
 have nfr:∀b vs' o,s.heap.get? b=some o->o.data=.fields vs'->b∉frs X.stack:=fun b vs' o e d hm=>by
  obtain⟨o',e',d'⟩:=(I.stack.mem hm).2;rw[e] at e';cases e';exact d' _ d
 have hl:s.heap.FunFrames (PySem.W.hideAll s.heap (a::T::frs X.stack)) (X.env::X.outer):=by
  rw[<- L.stk];exact a0G I.stack fun b hb=>PySem.W.hideAll_none _ (b4X _ (b4X _ hb))
 have hfl:b9U (PySem.W.hideAll s.heap (a::T::frs X.stack)) (X.env::X.outer) a C a0 s.heap :=
  ⟨fun b o q=>PySem.W.of_hideAll _ q,PySem.W.hideAll_none _ b5m,hl,oe,vs,T,oT,ts,t1,⟨t2,t4⟩,t3,t5,PySem.W.hideAll_none _ (b4X _ b5m),t6,t9,t10,t11⟩
 refine wpAny_leaves_onW hfr L.fr hfl fun h2 hfl2 hsm=>?_;obtain⟨f1,f2,f3,f4⟩:=hfl2;refine a3E (B:=PySem.W.hideAll s.heap (a::T::frs X.stack)) L I ha ha0 (fun b o q hf hb hc=>PySem.W.hideAll_get _ q fun hm=>?_) f1 f4 hsm hE;rcases b5b.mp hm with z|z
 ·exact hb z
 ·rcases b5b.mp z with z|z
  ·subst z;rcases hc with c|c
   ·exact c t7
   ·exact c t8
  ·exact hf z
end
noncomputable abbrev EK3:=Str->En->MH->Prop
theorem Fly.older{H:Hp}{g h0 h:Heap}{a:Addr}{C:b5c}(F:Fly H h0 h a C)(k:∀b,g.get? b≠none->h0.get? b≠none):Fly H g h a C:=by
 obtain⟨f1,f2,oe,vs,a0,t1,t2,t3,t4,T,oT,ts,t5,t6,t7,t8,t9,t10,t11⟩:=F;exact⟨f1,b5t fun z=>k a z f2,oe,vs,a0,t1,t2,t3,t4,T,oT,ts,t5,t6,t7,b5t fun z=>k T z t8,t9,t10,t11⟩
structure Older(X:Cx)(pins:PNS)(h0:Heap):Prop where
 start:∀b,X.s₀.heap.get? b≠none->h0.get? b≠none
 pins:∀p∈X.pn++pins,h0.get? p.1≠none
 loc:h0.get? X.env.locals≠none
 cells:∀x c,X.env.cells.lookup x=some c->h0.get? c≠none
noncomputable def Acc(X:Cx)(Ha:Hp)(E:EK3):Prop:=∀(pins:PNS) (σ:St) (H:Hp) (s:b4U) (h0:Heap) (a C:Addr) (nm:Str) (ρ:En) (M:MH),
 Inv X pins σ H s->Fly H h0 s.heap a (.ref C)->Older X pins h0->X.mg nm=some (.ref C)->Kp X.K Ha H->RhoR X.K σ H ρ->HR X.K H M->E nm ρ M->X.xe (.ref a) s
noncomputable def AccN(X:Cx)(Ha:Hp)(E:EK3):Prop:=∀(pins:PNS) (σ:St) (H:Hp) (s:b4U) (h':Heap) (a C:Addr) (vs:LSV) (nm:Str) (ρ:En) (M:MH),
 Inv X pins σ H s->b9f s.heap h' a (.ref C) vs->X.mg nm=some (.ref C)->Kp X.K Ha H->RhoR X.K σ H ρ->HR X.K H M->E nm ρ M->X.xe (.ref a) { s with heap:=h' }
noncomputable def HEX(X:Cx)(Ha:Hp)(e:Expr)(t:TE3):Prop:=∀ρ M Q,t ρ M Q->PE X e (fun σ H Q2=>Kp X.K Ha H/\bE X.K ρ M Q σ H Q2)
noncomputable def HTX(X:Cx)(Ha:Hp)(e:Expr)(t:TT3):Prop:=∀ρ M Q,t ρ M Q->PT X e (fun σ H Q2=>Kp X.K Ha H/\bT X.K ρ M Q σ H Q2)
noncomputable def HSX(X:Cx)(Ha:Hp)(st:Stmt)(t:TS3):Prop:=∀D ρ M,t D ρ M->PS X st (fun D2 σ H=>Kp X.K Ha H/\bS X.K D ρ M D2 σ H)
noncomputable def HSsX(X:Cx)(Ha:Hp)(st:List Stmt)(t:TS3):Prop:=∀D ρ M,t D ρ M->PSs X st (fun D2 σ H=>Kp X.K Ha H/\bS X.K D ρ M D2 σ H)
noncomputable def dEX(K:PySem.W.Frag)(Ha:Hp)(ρ:En)(t:TE3):TE:=fun σ H Q2=>∃M Q,t ρ M Q/\Kp K Ha H/\bE K ρ M Q σ H Q2
noncomputable def dTX(K:PySem.W.Frag)(Ha:Hp)(ρ:En)(t:TT3):TT:=fun σ H Q2=>∃M Q,t ρ M Q/\Kp K Ha H/\bT K ρ M Q σ H Q2
noncomputable def dSX(K:PySem.W.Frag)(Ha:Hp)(t:TS3):TS:=fun D2 σ H=>∃D ρ M,t D ρ M/\Kp K Ha H/\bS K D ρ M D2 σ H
section
variable{X:Cx}{Ha:Hp}{a b c e:Expr}{es:LSE}{st:Stmt}{rest ba bb body:List Stmt}{ta tb te:TE3}{tA:TT3}{t u:TS3}{pos:Pos}
theorem HTX.d{ρ:En}(h:HTX X Ha e tA):PT X e (dTX X.K Ha ρ tA):=fun pins s σ H Q I ⟨M,Q3,q,b⟩=>h ρ M Q3 q pins s σ H Q I b
theorem HSsX.d(h:HSsX X Ha body t):PSs X body (dSX X.K Ha t):=fun pins s σ H D I ⟨D3,ρ,M,q,b⟩=>h D3 ρ M q pins s σ H D I b
theorem HE.x(h:HE X e te):HEX X Ha e te:=fun ρ M Q q=>(h ρ M Q q).imp fun σ H Q2 b=>b.2
theorem HT.x(h:HT X e tA):HTX X Ha e tA:=fun ρ M Q q=>(h ρ M Q q).imp fun σ H Q2 b=>b.2
theorem HS.x(h:HS X st t):HSX X Ha st t:=fun D ρ M q=>(h D ρ M q).imp fun D2 σ H b=>b.2
theorem HSs.x(h:HSs X body t):HSsX X Ha body t:=fun D ρ M q=>(h D ρ M q).imp fun D2 σ H b=>b.2
theorem PS.nox{s:Stmt}{t:TS}(h:PS X.nox s t):PS X s t:=fun pins s σ H D I hw =>
 b5I (h pins s σ H D (I.wish _) hw) (fun _ _ q=>q.unwish) fun _ _ z=>b5A z
theorem HT.n(h:HT X.nox e tA):HT X e tA:=fun ρ M Q q=>(h ρ M Q q).nox
theorem HS.n(h:HS X.nox st t):HS X st t:=fun D ρ M q=>(h D ρ M q).nox
theorem EndS.nxX{K:PySem.W.Frag}{H:Hp}{D:Ends3}{D2:Ends}{t:TS3}(h:EndS K H D D2)(ka:Kp K Ha H):EndS K H { D with nx:=t D } { D2 with nx:=dSX K Ha t D2 } :=
 ⟨fun ρ' M' σ' H' k r hh q=>⟨D,ρ',M',q,ka.trans k,r,hh,h.kp k⟩,h.rt,h.bk,h.ct⟩
theorem a6n(h1:HSX X Ha st t):HSsX X Ha [st] t:=fun D ρ M h=>a4I (h1 D ρ M h)
theorem a6o:HSsX X Ha [] a8h:=a0M.x
theorem b1g(hc:HTX X Ha c tA)(ha:HSsX X Ha ba t)(hb:HSsX X Ha bb u):HSX X Ha (.If c ba bb pos) (b1b tA t u):=fun D ρ M h =>
 (b2X (hc.d (ρ:=ρ)) ha.d hb.d).imp fun D2 σ H ⟨ka,hr,hh,en⟩=>⟨M,_,h,ka,hr,hh,fun b M1 H1 k1 h1 q1=>by
  dsimp only at q1|-
  split
  ·rename_i hb;rw[if_pos hb] at q1;exact⟨D,ρ,M1,q1,ka.trans k1,hr.kp k1,h1,en.kp k1⟩
  ·rename_i hb;rw[if_neg hb] at q1
   exact⟨D,ρ,M1,q1,ka.trans k1,hr.kp k1,h1,en.kp k1⟩⟩
end
noncomputable abbrev Sp3X:=List T->MH->VK3->(Str->MH->Prop)->Prop
noncomputable def dSpX(K:PySem.W.Frag)(mg:SOV)(sp:Sp3X):Sp:=fun vs H Q2 E2=>∃ts M Q E,Reps K H vs ts/\HR K H M/\sp ts M Q E/\EndE K H Q Q2 /\
 ∀nm C M' H',Kp K H H'->HR K H' M'->mg nm=some (.ref C)->E nm M'->E2 (.ref C) none H'
section
variable{X:Cx}{Ha:Hp}{e:Expr}{es:LSE}{t:TA3}{pos:Pos}
noncomputable def a8j(E:EK3)(sp:Sp3X)(t:TA3):TE3:=fun ρ M Q=>t ρ M fun ts M1=>sp ts M1 Q fun nm M2=>E nm ρ M2
end
noncomputable abbrev bmVE:LSV:=[.type "ValueError",.type "Exception",.type "BaseException",.type "object"]
noncomputable def XCl(K:PySem.W.Frag)(mg:SOV)(nm:Str):Prop:=∃C,mg nm=some (.ref C)/\PySem.W.excIn K C bmVE "ValueError.__new__"=true
theorem a9h{K:PySem.W.Frag}{h:Heap}{C:Addr}(X:K.In h)(q:PySem.W.excIn K C bmVE "ValueError.__new__"=true) :
  ∃bm N nm qn bs hd sn sub ab col dd k0 k1 k2 k3 k5 mN,h.get? C=some (excClassObj nm qn C N bs bm hd sn sub ab col dd k0 k1 k2 k3 k5 "ValueError.__new__")/\h.Ns N mN/\mN "__init__"=none/\OwnTail h bmVE bm:=by
 unfold PySem.W.excIn at q;split at q
 case h_2=>cases q
 rename_i dd cd sl ho;split at q
 case h_2=>cases q
 rename_i C' bm k0 k1 k2 k3 n k5 hm hs;simp only[b5o,beq_iff_eq,b7w] at q;obtain⟨⟨⟨⟨⟨e1,e2⟩,e3⟩,e4⟩,e5⟩,e6⟩:=q;subst e1 e2;refine⟨bm,cd.ns,cd.name,cd.qualname,cd.bases,cd.hasDict,cd.slotNames,cd.subclasses,cd.abstract,cd.collection,dd,k0,k1,k2,k3,k5,_,?_,.of_isNs (PySem.W.isNs_of_in X e5),PySem.W.nsMap_none_of_in X e5 e6,PySem.W.tail_of_in X e4⟩;have es:sl=#[k0,k1,k2,k3,some (.builtin "ValueError.__new__"),k5]:=c0e.mp (by simpa using hs);rw[X _ _ ho,es];cases cd;simp only at hm e3;subst hm e3;rfl
section
variable{X:Cx}{Ha:Hp}{e:Expr}{te:TE3}{pos:Pos}
noncomputable def a8g(E:EK3)(nm:Str)(te:TE3):TS3:=fun _ ρ M=>te ρ M fun _ M1=>E nm ρ M1
theorem a4G{E:EK3}{x:Str}{np cpos:Pos}(A:AccN X Ha E)(hc:XCl X.K X.mg x)(ha:HE X e te)(hcalm:X.calm=true:=by rfl)(hg:Gl X x:=by rfl)(hdb:QDD x:=by decide)
  (he:starEach [e] X.env=(false,eval e X.env)::starEach [] X.env:=by rfl):HSX X Ha (.Raise (some (.Call (.Name x np) [e] [] cpos)) none pos) (a8g E x te):=by
 intro D ρ M h pins s σ H D2 I bb;obtain⟨ka,hr,hh,en⟩:=bb;obtain⟨C,hm,hx⟩:=hc;obtain⟨bm,N,nm,qn,bs,hd,sn,sub,ab,col,dd,k0,k1,k2,k3,k5,mN,hC,hN,hni,TL⟩:=a9h I.ok.mod.kin hx;refine wpAny_Raise_call_subU (C:=C) (nm:=nm) (q:=qn) (N:=N) (bs:=bs) (bm:=bm) (hdct:=hd) (sn:=sn) (sub:=sub) (ab:=ab) (col:=col) (dd:=dd) (k0:=k0) (k1:=k1) (k2:=k2) (k3:=k3) (k5:=k5)
  PySem.F.excBase_ValueError (by decide) PySem.F.excBase_ValueError (mN:=mN) (TL.hasType (by decide)) (I.ok.hd hcalm) (by rw[he];rfl) hni (a0X I hg hm ⟨rfl,?_⟩ hdb)
 have w1:=(a0a ha a0d he) ρ M (fun ts M1=>ts.length<=1/\E x ρ M1) (show te ρ M (fun y M1=>([y]:List T).length<=1/\E x ρ M1) from by
  have h':te ρ M fun _ M1=>E x ρ M1:=h
  simpa using h') cpos pins s σ H (fun vs H1=>∃M1,vs.length<=1/\Kp X.K H H1/\HR X.K H1 M1/\E x ρ M1) I ⟨hr,hh,fun ts vs M1 H1 k1 h1 r1 q1=>⟨M1,by rw[r1.length];exact q1.1,k1,h1,q1.2⟩⟩
 rw[he] at w1|-
 refine b7F (b5I w1 (fun us s1 ⟨vs,H1,I1,r,M1,hl,kk,h1,q1⟩=>?_) fun _ _ z=>z);refine⟨rfl,?_,I1.bk _ _ hC,hN.keeps I1.bk,TL.keeps I1.bk,fun h' a hmade=>A pins σ H1 s1 h' a C us x ρ M1 I1 hmade hm (ka.trans kk) (hr.kp kk) h1 q1⟩;have:us.length<=1:=by rw[<- r.length];exact hl
 exact b5l this (by decide)
end
theorem a8M{P:b5i}{w:b5B}{K:PySem.W.Frag}{mg:SOV}{base:Heap}{N:LSS}{qual:Str}{scope:b6Z}{f:Addr}{cd:b5c}{A:b5s}{outer:List Env}{s:b4U}{H:Hp}{E:XK} :
  Leaves (cxOf (CXE P w) P w K mg base N qual scope f cd A outer s H E) E:=⟨rfl,rfl,rfl,fun _ _ h=>h⟩
section
variable{P:b5i}{w:b5B}{K:PySem.W.Frag}{mg:SOV}{base:Heap}
end
structure XLook(K:PySem.W.Frag)(C:Addr):Prop where
 ga:PySem.W.findIn K (.ref C) "__getattribute__"=some (some (.builtin "BaseException.__getattribute__"))
 cl:PySem.W.findIn K (.ref C) "__class__"=some (some (.builtin "object.__class__"))
 na:PySem.W.findIn K (.ref C) "__getattr__"=some none
 ob:PySem.W.subIn K (.ref C) (.type "object")=some true
 be:PySem.W.subIn K (.ref C) (.type "BaseException")=some true
 is:(PySem.W.clsIn K C).isSome=true
section
variable{prog:b5i}{w:b5B}{A:b5s}{E:VPR}{s:b4U}{h:Heap}{g:Array c0w}{d:Drawn}{t:Nat}{os:OsState}{a C:Addr}{o:Obj}{K:PySem.W.Frag}
theorem b4d{M:b7r}(hx:h.get? a=some o)(hc:o.cls=.ref C):PySem.W.Looks M h (typeOf (.ref a)) (.ref C):=hc▸(PySem.W.Looks.ld hx).andThen .now
local macro_rules | `(tactic| walk_at "xc") => `(tactic| (repeat any_goals (first | wp_step | assumption)))
theorem b2o{R:b8r->b4U->Prop}(X:K.In h)(L:XLook K C)(hx:h.get? a=some o)(hc:o.cls=.ref C)(hq:R (.ok (.ret (.ref C))) ⟨h,g,d,t,os⟩) :
  codeAny (model prog w) A (.call (.builtin "getset_descriptor.__get__") ⟨[.builtin "object.__class__",.ref a,.ref C],[]⟩) R ⟨h,g,d,t,os⟩:=by
 have k5:(⟨h,g,d,t,os⟩:b4U).TypeIs (.builtin "object.__class__") "getset_descriptor":=b7B;have k6:=PySem.W.looks_subIn (M:=model prog w) X L.ob;obtain⟨oc,od,dt,sl⟩:=o;have hc':oc=.ref C:=hc;subst hc';refine b9c F.slot_gs_get.plain F.entry_gs_get (F.slot_gs_get.check _ _ _ _ _ _ _ _ k5 (F.args_gs_get _ _ _) ?_);walk_at "xc";rw[F.owner_object_class];refine k6.at ?_;walk_at "xc";refine⟨b9s _ (by decide +kernel),c0o F.entry_object_class ?_⟩;walk_at "xc"
theorem a9E{M:b7r}{nameV:b5c}{Q:Unit->b4U->Prop}(X:K.In h)(L:XLook K C)(hx:h.get? a=some o)(hc:o.cls=.ref C)(hq:Q () ⟨h,g,d,t,os⟩) :
  wpAny M A (checkBuiltinCall "BaseException.__getattribute__" ⟨[.ref a,nameV],[]⟩) Q E ⟨h,g,d,t,os⟩:=by
 have e1:builtinKind "BaseException.__getattribute__"=some .slot:=by decide +kernel
 have e2:splitId "BaseException.__getattribute__"=some ("BaseException","__getattribute__"):=by decide +kernel
 have k6:=PySem.W.looks_subIn (M:=M) X L.be;have e3:=F.args_bexc_ga (.ref a) nameV;obtain⟨oc,od,dt,sl⟩:=o;have hc':oc=.ref C:=hc;subst hc';simp only[checkBuiltinCall,e1,e2];refine b4V ?_;unfold isInstance;walk_at "xc";refine k6.at ?_;walk_at "xc"
theorem a9D{tk:Tok}{Q:Fin->b4U->Prop}(X:K.In h)(L:XLook K C)(hx:h.get? a=some o)(hc:o.cls=.ref C)(hq:Q (.done (.ret (.ref C))) ⟨h,g,d,t,os⟩) :
  wpAny (model prog w) A (b8p.«object.__getattribute__» ⟨[.ref a,.str "__class__" tk],[]⟩) Q E ⟨h,g,d,t,os⟩:=by
 have k5:(⟨h,g,d,t,os⟩:b4U).TypeIs (.builtin "object.__class__") "getset_descriptor":=b7B;have f5:=b7B;have f6:=F.slot_gs_get.lookup;have f7:=F.slot_gs_set.lookup;have k6:=PySem.W.looks_findIn (M:=model prog w) X L.cl;obtain⟨oc,od,dt,sl⟩:=o;have hc':oc=.ref C:=hc;subst hc';walk_at "xc";refine k6.at ?_;walk_at "xc";refine b2o X L hx rfl ?_;walk_at "xc"
theorem b0T{tk:Tok}{R:b8r->b4U->Prop}(X:K.In h)(L:XLook K C)(hx:h.get? a=some o)(hc:o.cls=.ref C)(hq:R (.ok (.ret (.ref C))) ⟨h,g,d,t,os⟩) :
  codeAny (model prog w) A (.call (.builtin "BaseException.__getattribute__") ⟨[.ref a,.str "__class__" tk],[]⟩) R ⟨h,g,d,t,os⟩ :=
 b9c F.attr_ValueError.ga.plain F.entry_bexc_ga (a9E X L hx hc (a9D X L hx hc hq))
theorem b4e{tk:Tok}{Q:VPR}(X:K.In h)(L:XLook K C)(hx:h.get? a=some o)(hc:o.cls=.ref C)(hq:Q (.ref C) ⟨h,g,d,t,os⟩) :
  wpAny (model prog w) A (getAttrBy (.ref a) (.str "__class__" tk) false) Q E ⟨h,g,d,t,os⟩:=by
 have f3:=F.attr_ValueError.ga.bind (.ref a);have k7:=PySem.W.looks_findIn (M:=model prog w) X L.ga;have hx2:(b8D "BaseException.__getattribute__"==b8D "object.__getattribute__")=false:=by decide +kernel
 have hx1:(onTheHeap (b5M C)&&b8D "BaseException.__getattribute__"==b8D "object.__getattribute__")=false:=by rw[hx2];rfl
 obtain⟨oc,od,dt,sl⟩:=o;have hc':oc=.ref C:=hc;subst hc';walk_at "xc";refine k7.at ?_;walk_at "xc";refine(PySem.W.looks_findIn (M:=model prog w) X L.na).at ?_;walk_at "xc";refine b0T X L hx rfl ?_;walk_at "xc"
theorem b0U{Q:OVA->b4U->Prop}(X:K.In h)(L:XLook K C)(hx:h.get? a=some o)(hc:o.cls=.ref C)(hq:Q (some (.ref C)) ⟨h,g,d,t+1,os⟩) :
  wpAny (model prog w) A (getAttr? (.ref a) "__class__") Q E ⟨h,g,d,t,os⟩:=by
 unfold getAttr? getAttrBy?
 repeat any_goals (first|with_reducible apply b4e X L hx hc|wp_step|assumption)
end
noncomputable def XAt(a C:Addr)(h:Heap):Prop:=∃o,h.get? a=some o/\o.cls=.ref C
theorem b0l{K:PySem.W.Frag}{a C:Addr}(L:XLook K C):PySem.W.KitX K (.ref a) (.ref C) (XAt a C) where
 ty:=fun M h _ ⟨o,h1,h2⟩=>b4d h1 h2
 it:=fun M h X _=>by
  have hcl:=L.is;unfold PySem.W.clsIn at hcl;split at hcl
  ·rename_i c' d' cd' sl' ho;intro A' Q' E' s' k q;unfold isType loadHead;refine b4V (wpAny_loadPart (k _ _ (X _ _ ho)) ?_);exact b5k q
  ·simp at hcl
 ne:=fun h tp dd its n sl X htp=>by
  refine b9H.mpr fun q=>?_;have e:=Value.ref.inj (beq_iff_eq.mp q);subst e;have hcl:=L.is;unfold PySem.W.clsIn at hcl;split at hcl
  ·rename_i c' d' cd' sl' ho;cases (X _ _ ho).symm.trans htp
  ·simp at hcl
 ca:=fun {prog w A E Q s} X ⟨o,h1,h2⟩ k=>by
  obtain⟨h,g,d,t,os⟩:=s;exact b0U X L h1 h2 k
noncomputable abbrev CX0':CXT:=fun _ _ _ _ _ _=>False
structure RoomH(k:Nat)(A:b5s):Prop where
 dp:A.depth+3*k+5<recursionLimit
 un:A.units+16*k+200<cLine
theorem RoomH.depth{k:Nat}{A:b5s}(r:RoomH k A):A.depth<recursionLimit:=by have:=r.dp;lia
theorem RoomH.deeper{k:Nat}{A:b5s}(r:RoomH (k+1) A)(env:Env):RoomH k (A.deeper env) :=
 ⟨by have:=r.dp;show A.depth+1+3*k+5<_;lia,by have:=r.un;show A.units+3+16*k+200<_;lia⟩
structure FnOkH(P:b5i)(w:b5B)(K:PySem.W.Frag)(mg:SOV)(base:Heap)(k:Nat)(f:Addr)(fd:b6g)(ps:LSS)(sp:Sp):Prop where
 len:∀vs H Q E,sp vs H Q E->vs.length=ps.length
 run:∀(A:b5s) (outer:List Env) (s:b4U) (H:Hp) (args:Args) (us:LSV) (vs:List V) (Q:VK) (E:XK),RoomH k A->Env0 P w K mg base A outer s H->b9h s fd args (ps.zip us)->Vals vs us->sp vs H Q E ->
  codeAny (model P w) A (.call (.ref f) args) (CR CX0' outer P w H s Q E) s
noncomputable def a9n(CX:CXT)(P:b5i)(w:b5B)(K:PySem.W.Frag)(mg:SOV)(base:Heap)(N:LSS)(qual:Str)(scope:b6Z)(f:Addr)(cd:b5c)(A:b5s)(outer:List Env)(s:b4U)(H:Hp)(E:XK):Cx where
 prog:=P
 w:=w
 K:=K
 mg:=mg
 base:=base
 A:=A.deeper (envOfC qual scope s.heap.objs.size f cd)
 N:=N
 s₀:=s
 H₀:=H
 env:=envOfC qual scope s.heap.objs.size f cd
 outer:=outer
 stack:=envOfC qual scope s.heap.objs.size f cd::outer
 ex:=[]
 calm:=false
 fn:=fun _=>true
 pn:=[]
 xe:=fun _ _=>False
theorem a7Q{P:b5i}{w:b5B}{K:PySem.W.Frag}{mg:SOV}{base:Heap}{N ps:LSS}{qual:Str}{scope:b6Z}{f:Addr}{cd:b5c}{A:b5s}{outer:List Env}{s s1:b4U}{H:Hp}{E:XK}{us:LSV}{vs:List V}
  (S:FnScope N ps scope) (e0:Env0 P w K mg base A outer s H) (hl:vs.length=ps.length) (r:Vals vs us)
  (x:InCallC s s.heap.objs.size (bindL (envOfC qual scope s.heap.objs.size f cd).kindOf (ps.zip us) fun _=>none) (cellsFrom (s.heap.objs.size+1) scope.names []) (bindC (envOfC qual scope s.heap.objs.size f cd).kindOf (ps.zip us) fun _=>none) s1) :
  Inv (a9n CX0' P w K mg base N qual scope f cd A outer s H E) [] (start N vs) H s1:=by
 have hpl:ps.length<=N.length:=by have:=congrArg b6Q S.pre;rw[b7C] at this;lia
 obtain⟨h1,tk,rfl,hk⟩:=x.done;have noA:∀b:Addr,b∉(a9n CX0' P w K mg base N qual scope f cd A outer s H E).ex:=fun b z=>absurd (show b∈([]:List Addr) from z) (by simp)
 refine⟨⟨e0.mod,S.kind,rfl,rfl,b5h _,fun y z c h1 h2=>?_,fun y hy=>?_,fun y c _ h=>?_,fun z=>c0f z,b9b e0.frames,.inr ⟨rfl,rfl⟩,fun b z=>absurd z (noA b),e0.bs,e0.bsz,fun b _ _=>noA b,fun b z=>absurd z (noA b),e0.funs,e0.frf⟩,
  rfl,e0.bare,Un.kept hk,⟨_,x.toInCall.ns,fun i y v h1 h2 h3=>?_⟩,fun y c h=>⟨_,x.cell y c h⟩,e0.hok.fresh (b5h _),fun y c h=>?_,fun p hp=>absurd (show p∈([]:PNS) from hp) (by simp),e0.hok.kept hk,?_⟩
 ·exact b9N x.apart (PySem.mem_of_lookup h1) (PySem.mem_of_lookup h2)
 ·have hy:scope.names.lookup y=some .cell\/scope.names.lookup y=some .free:=hy;rcases hy with hy|hy
  ·exact a3r hy
  ·exact absurd rfl (S.nofree _ (PySem.mem_of_lookup hy))
 ·exact b6s (x.above y c (PySem.mem_of_lookup h))
 ·have hi:i<vs.length:=by
   unfold start at h2;by_cases hi:i<vs.length
   ·exact hi
   ·rw[b6X (by simpa using hi)] at h2;rw[b7l] at h2;split at h2<;>cases h2
  have ha:vs[i]?=some v:=by
   unfold start at h2;rw[b6y (by simpa using hi),b5n] at h2;cases e:vs[i]? with
   |none=>rw[e] at h2;cases h2
   |some a=>rw[e] at h2;cases h2;rfl
  obtain⟨u,hu,rv⟩:=r.get ha
  have hp:ps[i]?=some y:=by
   rw[<- S.pre,b7f (by lia)];exact h1
  have ndP:ps.Nodup:=by rw[<- S.pre];exact S.nd.sublist (b9D _ _)
  refine⟨u,rv,?_⟩;rcases S.par y (b5W hp) with k|k
  ·exact .inl ⟨k,a3W ndP hp hu k⟩
  ·obtain⟨c,e⟩:=a3r (n:=s.heap.objs.size+1) k;refine .inr ⟨.inl k,c,e,?_⟩;have q:=x.cell y c e;rw[a3X ndP hp hu (by show scope.names.lookup y≠_;rw[k];decide)] at q;exact q
 ·exact e0.hok.fresh (b6s (x.above y c (PySem.mem_of_lookup h)))
 ·unfold start;show _=N.length;rw[b5r,b4Y,b8M];lia
theorem b3S{P:b5i}{w:b5B}{K:PySem.W.Frag}{mg:SOV}{base:Heap}{k:Nat}{f:Addr}{name qual:Str}{params:c0i}{body:List Stmt}{scope:b6Z}{dV kV doc pm cdv ct oc:b5c}{an od:Option Addr}
  {osl:AOV} {N ps:LSS} {sp:Sp} (lk:K.lookup f=some ⟨oc,od,.func (PySem.W.fnOf name qual params body scope dV kV doc pm an cdv ct),osl⟩) (hcd:PySem.W.codeIn K cdv qual=true) (S:FnScope N ps scope)
  (len:∀vs H Q E,sp vs H Q E->vs.length=ps.length)
  (hbody:∀(A:b5s) (outer:List Env) (s:b4U) (H:Hp) (vs:List V) (Q:VK) (E:XK),RoomH k (A.deeper (envOfC qual scope s.heap.objs.size f cdv))->sp vs H Q E ->
   ∃t,PSs (a9n CX0' P w K mg base N qual scope f cdv A outer s H E) body t/\t { nx:=fun _ H'=>Q .non H',rt:=Q } (start N vs) H) :
  FnOkH P w K mg base (k+1) f (PySem.W.fnOf name qual params body scope dV kV doc pm an cdv ct) ps sp:=by
 refine⟨len,fun A outer s H args us vs Q E hr e0 hb r hsp=>?_⟩;have hl:=len _ _ _ _ hsp;have KX:K.In s.heap:=e0.mod.kin.keeps fun b o e=>(e0.bs b o e).1;have lim:s.heap.NoLimit:=e0.mod.nolimit.keeps fun b o e=>(e0.bs b o e).1
 have hkind:∀y∈ps.zip us,scope.names.lookup y.1=some .local\/(scope.names.lookup y.1=some .cell/\((cellsFrom (s.heap.objs.size+1) scope.names []).lookup y.1).isSome=true):=fun⟨n,v⟩ hy=>by
  rcases S.par n (b7k hy).1 with q|q
  ·exact .inl q
  ·exact .inr ⟨q,PySem.W.cellsFrom_some _ _ _ (.inl q)⟩
 refine b8N hr.depth (KX _ _ lk) rfl S.co S.gen rfl (PySem.W.codeRec_of KX hcd) (hb _ _ _ _ ?_);refine b6Y S.kind hkind fun env he s1 x=>?_;subst he;refine⟨lim.keeps x.toInCall.keep,codeAny_func ?_⟩;obtain⟨t,ht,hq⟩:=hbody A outer s H vs Q E (hr.deeper _) hsp;have I:Inv (a9n CX0' P w K mg base N qual scope f cdv A outer s H E) [] (start N vs) H s1:=a7Q S e0 hl r x;refine b5I (ht [] s1 (start N vs) H _ I hq) (fun fl s' hs=>?_) fun e s' hs=>hs.elim
 have fin:∀{σ':St} {H':Hp} {v:V} {u:b5c},Inv (a9n CX0' P w K mg base N qual scope f cdv A outer s H E) [] σ' H' s'->RelV v u->Q v H'->CE outer P w H s Q u s' :=
  fun {σ' H' v u} J rv q=>⟨v,H',J.os,J.bare,J.base,J.hok,rv,q⟩
 cases fl with
 | ret u =>
   obtain⟨v,σ',H',J,rv,q⟩:=hs;exact fin J rv q
 | next =>
   obtain⟨σ',H',J,q⟩:=hs;exact fin (v:=V.non) (u:=b5R) J rfl q
 | brk =>
   obtain⟨_,_,_,q⟩:=hs;exact b5A q
 | cont =>
   obtain⟨_,_,_,q⟩:=hs;exact b5A q
structure XOne(K:PySem.W.Frag)(mg:SOV)(P C:Addr)(nm:Str):Prop where
 mg:mg nm=some (.ref C)
 ok:PySem.W.excIn K C bmVE "ValueError.__new__"=true
 lk:XLook K C
 up:PySem.W.subIn K (.ref C) (.ref P)=some true
 ve:PySem.W.kitOne K (.ref C) (.type "ValueError")=some true
section
variable{X:Cx}{pos:Pos}
noncomputable def tIsX(i:Nat)(D:b5c)(K:PySem.W.Frag):TE:=fun σ H Q=>∃a C b,σ[i]?=some (some (.ref a))/\(∃φ,H a=some (.ext φ)/\∀h,φ h->XAt a C h)/\XLook K C/\PySem.W.kitOne K (.ref C) D=some b/\Q (.bl b) H
theorem a3z{i:Nat}{x y:Str}{D:b5c}{p p1 p2:Pos}(hN:X.N[i]?=some x)(hv:Vis X.env.scope x)(hm:X.mg "isinstance"=none)(hD:∀pins s σ H (Q:VPR) (E:VPR),Inv X pins σ H s->Q D s->wpAny (model X.prog X.w) X.A (eval (.Name y p2) X.env) Q E s)
  (hx1:QDD x) (hx2:(x==("__classdict__":Str))=false) (hg:Gl X "isinstance":=by rfl)
  (he:starEach [.Name x p1,.Name y p2] X.env=(false,eval (.Name x p1) X.env)::(false,eval (.Name y p2) X.env)::[]:=by rfl) :
  PE X (.Call (.Name "isinstance" p) [.Name x p1,.Name y p2] [] pos) (tIsX i D X.K):=by
 intro pins s σ H Q I ⟨a,C,b,e1,⟨φ,e2,e3⟩,L,e4,q⟩;refine b6u (a2l I hg hm c0m ?_ (by decide) (by decide))
 have hpl:(backTo pos (starEach [.Name y p2] X.env)).any (·.1)=false:=by
  have:starEach [Expr.Name y p2] X.env=[(false,eval (.Name y p2) X.env)]:=rfl;rw[this];rfl
 refine b6F ?_ (by rfl) hpl;rw[he];refine b7Z (thn ((a7b hN hv hx1 hx2) pins s σ H (fun v H1=>v=.ref a/\H1=H) I ⟨.ref a,e1,rfl,rfl⟩) fun u s1 ⟨v,H1,I1,r,ev,eh⟩=>?_);subst ev eh;obtain rfl:u=b5M a:=r;refine b7Z (hD pins s1 σ H1 _ _ I1 (b9C ?_));obtain⟨hφ,_,_⟩:=I1.hok a _ e2;exact PySem.W.kia_one (b0l L) I1.kIn (e3 _ hφ) e4 (fun z=>nomatch z) fun tk=>⟨.bl b,H1,I1.tok _,rfl,q⟩
end
section
variable{X:Cx}{pins:PNS}{σ:St}{H:Hp}{s:b4U}
theorem Inv.flown{B h2:Heap}{a T:Addr}(I:Inv X pins σ H s)(hx:X.ex=[])(hst:X.stack=X.env::X.outer)(hfr:X.env.frame=some X.env.locals)
  (hB:∀b o,s.heap.get? b=some o->b∉frs X.stack->b≠a->b≠T->B.get? b=some o) (k1:B.StaysIn h2) (k4:s.heap.UpToSlots h2)
  (na:H a=none/\X.s₀.heap.get? a=none/\∀p∈X.pn++pins,p.1≠a) (nT:H T=none/\X.s₀.heap.get? T=none/\∀p∈X.pn++pins,p.1≠T):Inv X pins σ H { s with heap:=h2 }:=by
 have fs:frs X.stack=X.env.locals::X.fs:=by
  rw[hst];unfold frs;rw[b5Z,hfr];rfl
 have nL:∀b,X.s₀.heap.get? b≠none->b≠X.env.locals:=fun b hb z=>by
  cases q:X.s₀.heap.get? b with
  |none=>exact hb q
  |some o=>exact absurd (b5d q) (c0v.mpr (by rw[z];exact I.ok.above))
 have stay:∀b o,s.heap.get? b=some o->b∉frs X.stack->b≠a->b≠T->h2.get? b=some o:=fun b o q hf h1 h2=>k1 b o (hB b o q hf h1 h2)
 have ne0:∀b o,X.s₀.heap.get? b=some o->b≠a/\b≠T:=fun b o q =>
  ⟨fun z=>(by rw[z,na.2.1] at q;cases q),fun z=>(by rw[z,nT.2.1] at q;cases q)⟩
 have dfr:∀b∈frs X.stack,∃o,s.heap.get? b=some o/\∀vs,o.data≠.fields vs:=fun b hb=>(I.stack.mem hb).2;obtain⟨m,hn,hl⟩:=I.loc
 have cellk:∀c v,s.heap.IsCell c v->h2.IsCell c v:=fun c v hc=>by
  obtain⟨o,ho,hd⟩:=hc;obtain⟨sl,e⟩:=k4 c o ho fun vs q=>by rw[hd] at q;cases q
  exact⟨_,e,hd⟩
 refine⟨I.ok,I.os,I.bare,⟨fun b o q n hf hb=>?_,fun b o q n hf hb=>?_,fun b o q n hb=>I.base.free b o q n hb,fun b o q hb=>?_,I.base.tups,I.base.frzs,I.base.tbls⟩,⟨m,k4.ns hn,fun i x v e1 e2 e3=>?_⟩,fun x c e=>?_,I.free,I.freeC,fun p hp=>?_,fun b u q=>?_,I.len⟩
 ·have e1:=I.base.keep b o q n hf hb;refine stay b o e1 ?_ (ne0 b o q).1 (ne0 b o q).2;rw[fs];intro hm;rcases b5b.mp hm with z|z
  ·exact nL b (by rw[q];simp) z
  ·exact hf z
 ·obtain⟨sl,e1⟩:=I.base.slot b o q n hf hb;obtain⟨o2,e2,e3⟩:=dfr b (by rw[fs];exact b4X _ hf);rw[e1] at e2;cases e2;obtain⟨sl',e4⟩:=k4 b _ e1 e3;exact⟨sl',e4⟩
 ·obtain⟨o',e1⟩:=I.base.there b o q hb;by_cases hm:b∈frs X.stack
  ·obtain⟨o2,e2,e3⟩:=dfr b hm;obtain⟨sl,e4⟩:=k4 b o2 e2 e3;exact⟨_,e4⟩
  ·exact⟨_,stay b o' e1 hm (ne0 b o q).1 (ne0 b o q).2⟩
 ·obtain⟨u,r,q⟩:=hl i x v e1 e2 e3;refine⟨u,r,?_⟩;rcases q with q|⟨k,c,e,z⟩
  ·exact .inl q
  ·exact .inr ⟨k,c,e,cellk _ _ z⟩
 ·obtain⟨v,z⟩:=I.cell x c e;exact⟨v,cellk _ _ z⟩
 ·obtain⟨e,n,ne,nf,d⟩:=I.pin p hp;refine⟨stay p.1 p.2 e ?_ (na.2.2 p hp) (nT.2.2 p hp),n,ne,nf,d⟩;rw[fs];intro hm;rcases b5b.mp hm with z|z
  ·exact ne z
  ·exact nf z
 ·refine(I.hok b u q).stay (fun c v hc r=>?_) (fun _ r=>r) fun _ _ r=>r
  have hne:H c≠none:=by
   rcases hc with rfl|hc
   ·rw[q];simp
   ·rw[hc];simp
  refine stay c v r (fun hm=>hne (I.stkFree c hm)) ?_ ?_
  ·rintro rfl;exact hne na.1
  ·rintro rfl;exact hne nT.1
theorem Inv.tag{a:Addr}{φ:Heap->Prop}(I:Inv X pins σ H s)(ha:H a=none)(ha0:X.s₀.heap.get? a=none)(hp:∀p∈X.pn++pins,p.1≠a)(hL:a≠X.env.locals)(hc:∀x c,X.env.cells.lookup x=some c->c≠a)
  (h1:φ s.heap) (h2:∃o,s.heap.get? a=some o) (h3:∀g1 g2:Heap,φ g1->(∀o,g1.get? a=some o->g2.get? a=some o)->φ g2):Inv X pins σ (upd H a (.ext φ)) s:=by
 have old:∀b o,X.s₀.heap.get? b=some o->b≠a:=fun b o q z=>by rw[z,ha0] at q;cases q
 have had:∀b u,H b=some u->b≠a:=fun b u q z=>by rw[z,ha] at q;cases q
 refine⟨I.ok,I.os,I.bare,⟨I.base.keep,I.base.slot,fun b o q n hb=>by rw[a0h (old b o q)];exact I.base.free b o q n hb,I.base.there,fun b xs q=>?_,fun b o u q=>?_,fun b ps q=>?_⟩,I.loc,I.cell,by rw[a0h (b6n hL)];exact I.free,
  fun x c e=>by rw[a0h (hc x c e)];exact I.freeC x c e,fun p hpp=>?_,fun b u q=>?_,I.len⟩
 ·have e:=I.base.tups b xs q;rw[a0h (had b _ e)];exact e
 ·have e:=I.base.frzs b o u q;rw[a0h (had b _ e)];exact e
 ·obtain⟨more,e⟩:=I.base.tbls b ps q;exact⟨more,by rw[a0h (had b _ e)];exact e⟩
 ·obtain⟨e,n,ne,nf,d⟩:=I.pin p hpp;exact⟨e,by rw[a0h (hp p hpp)];exact n,ne,nf,d⟩
 ·by_cases hb:b=a
  ·subst hb;rw[a0t] at q;cases q;exact⟨h1,h2,h3⟩
  ·rw[a0h hb] at q;exact(I.hok b u q).stay (fun c v _ r=>r) (fun c r=>by rw[a0h (had c _ r)];exact r) fun c xs r=>by rw[a0h (had c _ r)];exact r
end
local macro_rules | `(tactic| walk_at "xc") => `(tactic| (repeat any_goals (first | wp_step | assumption)))
theorem a9C{M:b7r}{A:b5s}{E:VPR}{h:Heap}{g:Array c0w}{d:Drawn}{t:Nat}{os:OsState}{a C P:Addr}{o:Obj}{K:PySem.W.Frag}{Q:Bool->b4U->Prop}
  (X:K.In h) (hx:h.get? a=some o) (hc:o.cls=.ref C) (up:PySem.W.subIn K (.ref C) (.ref P)=some true) (pb:PySem.W.subIn K (.ref P) (.type "BaseException")=some true) (hP:PySem.W.excIn K P bmVE "ValueError.__new__"=true)
  (hq:Q true ⟨h,g,d,t,os⟩):wpAny M A (excMatches (.ref a) (.ref P)) Q E ⟨h,g,d,t,os⟩:=by
 obtain⟨bm,N,nm,qn,bs,hd,sn,sub,ab,col,dd,k0,k1,k2,k3,k5,mN,hC,_⟩:=a9h X hP;have f1:=tc_notTuple;have f2:=PySem.W.looks_subIn (M:=M) X pb;have f3:=PySem.W.looks_subIn (M:=M) X up;obtain⟨oc,od,dt,sl⟩:=o;have hc':oc=.ref C:=hc;subst hc';unfold excMatches;walk_at "xc"
 repeat (first|refine f2.at ?_|refine f3.at ?_|(with_reducible refine b7x hC ?_)|(with_reducible refine b7x hx ?_)|wp_step)
 exact hq
noncomputable def spM(K:PySem.W.Frag)(Ds:LSV):Sp:=fun vs H Q _=>∃a C φ bs,vs=[.ref a]/\H a=some (.ext φ)/\(∀h,φ h->XAt a C h)/\XLook K C/\Ds.map (PySem.W.kitOne K (.ref C))=(bs:List Bool).map some /\
 ∀ l1 l2 r,H l1=none->upd H l1 (.lst ((bs.take 4).map V.bl)) l2=none->upd (upd H l1 (.lst ((bs.take 4).map V.bl))) l2 (.lst ((bs.drop 4).map V.bl)) r=none ->
   Q (.ref r) (upd (upd (upd H l1 (.lst ((bs.take 4).map V.bl))) l2 (.lst ((bs.drop 4).map V.bl))) r (.lst (bs.map V.bl)))
structure DfM(P:b5i)(w:b5B)(K:PySem.W.Frag)(mg:SOV)(base:Heap)(n:Nat)(x:Str)(Ds:LSV):Prop where
 out:∃f fd,FnOkH P w K mg base n f fd ["e"] (spM K Ds)/\mg x=some (.ref f)/\PySem.W.keepIn K (.ref f)=true/\a3Y K fd ["e"] []
theorem DfM.mono{P:b5i}{w:b5B}{K:PySem.W.Frag}{mg:SOV}{base:Heap}{n m:Nat}{x:Str}{Ds:LSV}(D:DfM P w K mg base n x Ds)(h:n<=m):DfM P w K mg base m x Ds:=by
 obtain⟨f,fd,F,a,b,c⟩:=D.out;exact⟨f,fd,⟨F.len,fun A outer s H args us vs Q E hr=>F.run A outer s H args us vs Q E ⟨by have:=hr.dp;lia,by have:=hr.un;lia⟩⟩,a,b,c⟩
section
variable{X:Cx}{pos:Pos}
theorem b0b{n:Nat}{x y:Str}{i:Nat}{p p1:Pos}{Ds:LSV}(D:DfM X.prog X.w X.K X.mg X.base n x Ds)(hr:RoomH n X.A)(hN:X.N[i]?=some y)(hv:Vis X.env.scope y)(hg:Gl X x)(hx1:(y==("__debug__":Str))=false)(hx2:(y==("__classdict__":Str))=false)(hdb:QDD x)
  (he:starEach [.Name y p1] X.env=(false,eval (.Name y p1) X.env)::starEach [] X.env:=by rfl) (hpl:(backTo pos (starEach [] X.env)).any (·.1)=false:=by rfl) :
  PE X (.Call (.Name x p) [.Name y p1] [] pos) (fun σ H Q=>∃v,σ[i]?=some (some v)/\spM X.K Ds [v] H Q fun _ _ _=>False):=by
 intro pins s σ H Q I ⟨v,ev,q⟩;obtain⟨f,fd,F,hm,hk,hb⟩:=D.out;refine b6u (a0X I hg hm ?_ hdb);have pa:=a1r (a7b (X:=X) (pos:=p1) hN hv hx1 hx2) a5w he;refine PySem.W.callWith_K (h₀:=X.base) I.ok.mod.kin hk (thn (pa pos pins s σ H (fun vs H1=>vs=[v]/\H1=H) I ⟨v,ev,rfl,rfl⟩) fun us s1 ⟨vs,H1,I1,r,e1,e2⟩=>⟨I1.kIn,?_⟩) he hpl;subst e1 e2;have r2:Vals ([v]++[]) (us++[]):=r.append .nil;have hl:(us++[]).length=["e"].length:=by rw[<- r2.length];rfl
 refine wpAny_call (codeAny_mono (F.run X.A X.stack s1 H1 ⟨us,[]⟩ (us++[]) ([v]++[]) Q _ hr I1.env0 (hb s1 us I1.kIn hl) r2 q) fun r s' hq=>?_);cases r with
 |error e=>exact hq.elim
 | ok fl =>
   cases fl with
   |ret u=>exact I1.after hq
   |next=>exact b5A hq
   |brk=>exact b5A hq
   |cont=>exact b5A hq
end
section
variable{X:Cx}{pins:PNS}{σ σ':St}{H:Hp}{s:b4U}
theorem Inv.names{h':Heap}{m':SOV}(I:Inv X pins σ H s)(hs:b7e X.env.locals s.heap h')(hn:h'.Ns X.env.locals m')
  (hl:∀(i:Nat) (x:Str) (v:V),X.N[i]?=some x->σ'[i]?=some (some v)->Vis X.env.scope x->∃u,RelV v u/\Look X.env h' m' x u) (len:σ'.length=X.N.length):Inv X pins σ' H { s with heap:=h' }:=by
 have cne:=I.cne;have hL0:X.s₀.heap.get? X.env.locals=none:=b7E I.ok.above;have stay:∀b,b≠X.env.locals->h'.get? b=s.heap.get? b:=fun b hb=>hs.2 b hb;have old:∀b o,X.s₀.heap.get? b=some o->b≠X.env.locals:=fun b o q z=>by rw[z,hL0] at q;cases q
 refine⟨I.ok,I.os,I.bare,⟨fun b o q n hf hb=>(stay b (old b o q)).trans (I.base.keep b o q n hf hb),fun b o q n hf hb=>?_,I.base.free,fun b o q hb=>?_,I.base.tups,I.base.frzs,I.base.tbls⟩,⟨m',hn,hl⟩,fun x c e=>?_,I.free,I.freeC,fun p hp=>?_,fun b u q=>?_,len⟩
 ·obtain⟨sl,e⟩:=I.base.slot b o q n hf hb;exact⟨sl,(stay b (old b o q)).trans e⟩
 ·obtain⟨o',e⟩:=I.base.there b o q hb;exact⟨o',(stay b (old b o q)).trans e⟩
 ·obtain⟨v,o,e1,e2⟩:=I.cell x c e;exact⟨v,o,(stay c (cne x c e)).trans e1,e2⟩
 ·obtain⟨e,n,ne,nf,d⟩:=I.pin p hp;exact⟨(stay p.1 ne).trans e,n,ne,nf,d⟩
 ·refine(I.hok b u q).stay (fun c v hc r=>(stay c ?_).trans r) (fun _ r=>r) fun _ _ r=>r;rintro rfl;rcases hc with rfl|hc
  ·rw[I.free] at q;cases q
  ·rw[I.free] at hc;cases hc
theorem a9t{h h':Heap}{L c:Addr}{v:OVA}(hs:b7e L h h')(hc:c≠L)(z:h.IsCell c v):h'.IsCell c v:=by
 obtain⟨o,e1,e2⟩:=z;exact⟨o,(hs.2 c hc).trans e1,e2⟩
theorem a8I{E:VPR}{i:Nat}{x:Str}{pos:Pos}{v:V}{Q:Unit->b4U->Prop}(I:Inv X pins σ H s)(hN:X.N.Nodup)(hi:X.N[i]?=some x)(hx:X.env.scope.names.lookup x=some .local)
  (h:∀s',Inv X pins (σ.set i none) H s'->Q () s'):wpAny (model X.prog X.w) X.A (do bindName X.env x .none;unbindBehindTheSuite X.env x pos) Q E s:=by
 refine b4V (wpAny_bindName (a2p I hN hi (.inl hx) (v:=.non) (u:=.none) rfl (fun s1 I1=>?_) (.inr hx)));have hiσ:i<σ.length:=by rw[I.len];exact(b5q.mp hi).1
 obtain⟨m,hn,hl⟩:=id I1.loc;obtain⟨u,ru,lk⟩:=hl i x .non hi (b5L hiσ) (.inl hx)
 have hm:m x=some u:=by
  rcases lk with ⟨_,e⟩|⟨z|z,_⟩
  ·exact e
  ·exact absurd (hx.symm.trans z) (by simp)
  ·exact absurd (hx.symm.trans z) (by simp)
 have hcls:(X.env.scope.kind==.class||(X.env.scope.kind==.module&&X.env.locals != X.env.globals))=false:=by rw[I.ok.kind];rfl
 unfold unbindBehindTheSuite;refine wpAny_onRaise ?_;refine wpAny_unbindName_local hx hn hm hcls fun h2 w hn2 hs2=>h _ ?_;refine(I1.names (σ':=σ.set i none) hs2 hn2 (fun j y v' e1 e2 e3=>?_) (by rw[b5U];exact I.len));by_cases hj:i=j
 ·subst hj;rw[b5L hiσ] at e2;cases e2
 ·rw[b5K hj] at e2;obtain⟨u',r',lk'⟩:=hl j y v' e1 (by rw[b5K hj];exact e2) e3;refine⟨u',r',?_⟩;have hne:y≠x:=fun e=>hj (a4T hN hi (e▸e1));rcases lk' with ⟨k,e⟩|⟨k,c,e,z⟩
  ·exact .inl ⟨k,(if_neg hne).trans e⟩
  ·exact .inr ⟨k,c,e,a9t hs2 (I1.cne y c e) z⟩
theorem RhoR.unset{K:PySem.W.Frag}{ρ:En}(h:RhoR K σ H ρ)(i:Nat):RhoR K (σ.set i none) H (ρ.set i none):=by
 refine⟨by rw[b5U,b5U];exact h.1,fun j t e=>?_⟩;by_cases hj:i=j
 ·subst hj;by_cases hl:i<ρ.length
  ·rw[b5L hl] at e;cases e
  ·rw[List.getElem?_eq_none (by rw[b5U];lia)] at e;cases e
 ·rw[b5K hj] at e;rw[b5K hj];exact h.2 j t e
end
section
variable{X:Cx}{body:List Stmt}
noncomputable def b2y(tb:EK3->TS3)(im ie:Nat)(names:LSS)(mk:Str->List Bool):TS3:=fun D ρ M=>tb (fun nm ρ' M'=>nm∈names/\∀p,M' p=none->D.nx ((ρ'.set im (some (.adr p))).set ie none) (updM M' p (.lst ((mk nm).map T.bl)))) D ρ M
noncomputable abbrev Cx.tried(X:Cx)(pn:PNS)(xe:VPR):Cx:={ X with pn:=pn,xe:=xe }
noncomputable abbrev Cx.held(X:Cx)(a:Addr):Cx:={ X with A:=X.A.mark (some (.ref a)),calm:=false,xe:=fun _ _=>False }
theorem Cx.Ok.tried{X:Cx}(ok:X.Ok)(pn:PNS)(xe:VPR):(X.tried pn xe).Ok :=
 ⟨ok.mod,ok.kind,ok.glob,ok.blt,ok.above,ok.inj,ok.has,ok.cab,ok.hd,ok.frames,ok.stk,ok.exf,ok.bs,ok.bsz,ok.noex,ok.exfs,ok.funs,ok.frf⟩
theorem Cx.Ok.held{X:Cx}(ok:X.Ok)(a:Addr):(X.held a).Ok :=
 ⟨ok.mod,ok.kind,ok.glob,ok.blt,ok.above,ok.inj,ok.has,ok.cab,fun z=>c0f z,ok.frames,ok.stk,ok.exf,ok.bs,ok.bsz,ok.noex,ok.exfs,ok.funs,ok.frf⟩
theorem RelV.ref{a:Addr}:RelV (.ref a) (.ref a):=rfl
theorem a4l{K:PySem.W.Frag}{H:Hp}:∀bs:List Bool,Reps K H (bs.map V.bl) (bs.map T.bl)
 |[]=>by unfold Reps;rfl
 | b::bs=>by
   unfold Reps;exact⟨_,_,rfl,a1g,a4l bs⟩
theorem set3{α:Type}(l:List α){i j:Nat}(h:i≠j)(x y z:α):((l.set j x).set i y).set j z=(l.set i y).set j z:=by
 apply List.ext_getElem?;intro k;simp only[List.getElem?_set,b5U];by_cases h1:j=k
 ·simp[h1]
 ·simp[h1]
end
noncomputable def xAll(K:PySem.W.Frag)(P:Addr)(cs:List (Str×Addr)):Bool :=
 PySem.W.excIn K P bmVE "ValueError.__new__"&&(PySem.W.subIn K (.ref P) (.type "BaseException")==some true)&&cs.all fun c =>
  PySem.W.excIn K c.2 bmVE "ValueError.__new__"&&(PySem.W.findIn K (.ref c.2) "__getattribute__"==some (some (.builtin "BaseException.__getattribute__")))&&(PySem.W.findIn K (.ref c.2) "__class__"==some (some (.builtin "object.__class__")))
   && (PySem.W.findIn K (.ref c.2) "__getattr__"==some none)&&(PySem.W.subIn K (.ref c.2) (.type "object")==some true)&&(PySem.W.subIn K (.ref c.2) (.type "BaseException")==some true)&&(PySem.W.clsIn K c.2).isSome
   && (PySem.W.subIn K (.ref c.2) (.ref P)==some true)&&(PySem.W.kitOne K (.ref c.2) (.type "ValueError")==some true)&&cs.all fun d=>PySem.W.kitOne K (.ref c.2) (.ref d.2)==some (c.1==d.1)
structure Xs(K:PySem.W.Frag)(mg:SOV)(P:Addr)(cs:List (Str×Addr)):Prop where
 pe:mg "PlaitError"=some (.ref P)
 mg:∀c∈cs,mg c.1=some (.ref c.2)
 all:xAll K P cs=true
section
variable{K:PySem.W.Frag}{mg:SOV}{P:Addr}{cs:List (Str×Addr)}
theorem Xs.one(Z:Xs K mg P cs){c:Str×Addr}(hc:c∈cs):XOne K mg P c.2 c.1/\∀d∈cs,PySem.W.kitOne K (.ref c.2) (.ref d.2)=some (c.1==d.1):=by
 have h:=Z.all;unfold xAll at h;simp only[b5o,b6i,beq_iff_eq] at h;obtain⟨⟨h1,h2⟩,h3⟩:=h;obtain⟨⟨⟨⟨⟨⟨⟨⟨⟨a1,a2⟩,a3⟩,a4⟩,a5⟩,a6⟩,a7⟩,a8⟩,a9⟩,a10⟩:=h3 c hc;exact⟨⟨Z.mg c hc,a1,⟨a2,a3,a4,a5,a6,a7⟩,a8,a9⟩,fun d hd=>a10 d hd⟩
theorem Xs.p(Z:Xs K mg P cs):PySem.W.excIn K P bmVE "ValueError.__new__"=true/\PySem.W.subIn K (.ref P) (.type "BaseException")=some true:=by
 have h:=Z.all;unfold xAll at h;simp only[b5o,beq_iff_eq] at h;exact h.1
noncomputable def xDs(cs:List (Str×Addr)):LSV:=cs.map (fun c=>.ref c.2)++[.type "ValueError"]
noncomputable def xMk(ns:LSS)(nm:Str):List Bool:=ns.map (fun n=>nm==n)++[true]
theorem Xs.names(Z:Xs K mg P cs){ns:LSS}(hns:cs.map (·.1)=ns):∀nm∈ns,∃C,XOne K mg P C nm/\(xDs cs).map (PySem.W.kitOne K (.ref C))=(xMk ns nm).map some:=by
 subst hns;intro nm h;obtain⟨c,hc,rfl⟩:=b8b.mp h;obtain⟨o,k⟩:=Z.one hc;refine⟨c.2,o,?_⟩;unfold xDs xMk;rw[b5O,b5O,b8f,b8f,b8f];congr 1
 ·exact List.map_congr_left fun d hd=>k d hd
 ·show [PySem.W.kitOne K (.ref c.2) (.type "ValueError")]=[some true];rw[o.ve]
end
section
variable{X:Cx}
noncomputable def b2E(K:PySem.W.Frag)(D1 D2 D3 D4 D5 D6 D7:b5c):TS :=
 tSeq (tAsg (tLst (a5l (tIsX 0 D1 K) (a5l (tIsX 0 D2 K) (a5l (tIsX 0 D3 K) (a5l (tIsX 0 D4 K) tNil))))) (a6L 1))
  (tRet (tOp rCat (tVar 1) (tLst (a5l (tIsX 0 D5 K) (a5l (tIsX 0 D6 K) (a5l (tIsX 0 D7 K) tNil))))))
theorem a7L{K:PySem.W.Frag}{x y:Str}{D1 D2 D3 D4 D5 D6 D7:b5c}{vs:List V}{H:Hp}{Q:VK}{E:XK}(h:spM K [D1,D2,D3,D4,D5,D6,D7] vs H Q E) :
  b2E K D1 D2 D3 D4 D5 D6 D7 { nx:=fun _ H'=>Q .non H',rt:=Q } (start [x,y] vs) H:=by
 obtain⟨a,C,φ,bs,rfl,e,hφ,L,hk,q⟩:=h
 obtain⟨b1,b2,b3,b4,b5,b6,b7,rfl⟩:∃b1 b2 b3 b4 b5 b6 b7:Bool,bs=[b1,b2,b3,b4,b5,b6,b7]:=by
  have hl:=congrArg b6Q hk;simp only[b4Y,b5j,b7R] at hl
  match bs,hl with
  |[b1,b2,b3,b4,b5,b6,b7],_=>exact⟨_,_,_,_,_,_,_,rfl⟩
 simp only[b5z,b8O,List.cons.injEq,and_true] at hk;obtain⟨k1,k2,k3,k4,k5,k6,k7⟩:=hk
 have ne:∀(H':Hp) (l:Addr) (o:HO),(∃ψ,H' a=some (.ext ψ)/\∀h,ψ h->XAt a C h)->H' l=none->∃ψ,upd H' l o a=some (.ext ψ)/\∀h,ψ h->XAt a C h:=fun H' l o ⟨ψ,e1,e2⟩ hl =>
  ⟨ψ,by rw[a0h (fun z=>by rw[z,hl] at e1;cases e1)];exact e1,e2⟩
 have i0:∃ψ,H a=some (.ext ψ)/\∀h,ψ h->XAt a C h:=⟨φ,e,hφ⟩;have z7:(7:Nat)<=sizeLine:=by decide
 refine⟨a,C,b1,rfl,i0,L,k1,a,C,b2,rfl,i0,L,k2,a,C,b3,rfl,i0,L,k3,a,C,b4,rfl,i0,L,k4,b5l (show 4<=7 by lia) z7,fun l1 h1=>?_⟩;have i1:=ne H l1 (.lst [.bl b1,.bl b2,.bl b3,.bl b4]) i0 h1;refine⟨.ref l1,rfl,a,C,b5,rfl,i1,L,k5,a,C,b6,rfl,i1,L,k6,a,C,b7,rfl,i1,L,k7,b5l (show 3<=7 by lia) z7,fun l2 h2=>⟨l1,l2,[.bl b1,.bl b2,.bl b3,.bl b4],[.bl b5,.bl b6,.bl b7],rfl,rfl,?_,a0t,z7,fun r h3=>q l1 l2 r h1 h2 h3⟩⟩;rw[a0h (fun z=>by rw[<- z,a0t] at h2;cases h2)];exact a0t
end
section
variable{X:Cx}
end
section
variable{X:Cx}{d:Addr}{ks:List (Str×Addr)}
end
section
variable{X:Cx}{d:Addr}{ks:List (Str×Addr)}
end
noncomputable def flT:T->Bool
 |.non=>true
 |.bl _=>true
 |.int _=>true
 |.str _=>true
 |_=>false
noncomputable def toV:T->V
 |.bl b=>.bl b
 |.int i=>.int i
 |.str z=>.str z
 |_=>.non
theorem b0J{K:PySem.W.Frag}{H:Hp}{v:V}{t:T}(f:flT t=true)(r:Rep K H v t):v=toV t:=by
 cases t with
 |non=>exact a3H r
 |bl b=>exact a1H r
 |int i=>exact a0l r
 |str z=>exact a0z r
 |_=>cases f
theorem a6u{K:PySem.W.Frag}{H:Hp}:∀{vs:List V} {ts:List T},ts.all flT=true->Reps K H vs ts->vs=ts.map toV
 |vs,[],_,r=>by unfold Reps at r;exact r
 | vs,t::ts,f,r=>by
   unfold Reps at r;obtain⟨v,w,rfl,r1,r2⟩:=r;rw[b6U,b5o] at f;rw[b0J f.1 r1,a6u f.2 r2];rfl
theorem a4A{t:T}(f:flT t=true):a4g (toV t)=true:=by
 cases t<;>first|rfl|cases f
theorem a3s:∀{ts:List T},ts.all flT=true->(ts.map toV).all a4g=true
 |[],_=>rfl
 | t::ts,f=>by
   rw[b6U,b5o] at f;rw[b5z,b6U,a4A f.1,a3s f.2];rfl
theorem b2v{x y:T}(f:flT x=true)(g:flT y=true):eqV (toV x) (toV y)=eqT x y:=by
 cases x with
 |tup _=>cases f
 |adr _=>cases f
 |rd _=>cases f
 |dic _ _=>cases f
 | _ =>
   cases y with
   |tup _=>cases g
   |adr _=>cases g
   |rd _=>cases g
   |dic _ _=>cases g
   |_=>rfl
noncomputable def inT(x:T)(ts:List T):Bool:=ts.any fun y=>eqT y x
theorem a8d{x:T}(f:flT x=true):∀{ts:List T},ts.all flT=true->inV (toV x) (ts.map toV)=inT x ts
 |[],_=>rfl
 | t::ts,g=>by
   rw[b6U,b5o] at g;have:=a8d f g.2
   unfold inV inT at this|-
   rw[b5z,b6I,b6I,b2v g.1 f,this]
noncomputable def rIn3(neg:Bool):R3:=fun x y M Q=>flT x=true/\match y with
 |.tup ts=>ts.all flT=true/\Q (.bl (if neg then !inT x ts else inT x ts)) M
 | .adr p=>match M p with
   |some (.lst ts)=>ts.all flT=true/\Q (.bl (if neg then !inT x ts else inT x ts)) M
   |_=>False
 |_=>False
section
variable{X:Cx}
theorem b1P{neg:Bool}{f:b5c->b5c->Sem b5c}(ho:OpR X f (rIn X.K neg)):OpR3 X f (rIn3 neg):=by
 intro pins s σ H x y v u Q2 I rx ry q;obtain⟨a,b,M,Q,r1,r2,hh,q,en⟩:=q;unfold rIn3 at q;obtain⟨fa,q⟩:=q;obtain rfl:=b0J fa r1;split at q
 ·obtain⟨p,xs,rfl,h1,h2⟩:=a0Y r2;obtain rfl:=a6u q.1 h2;refine ho pins s σ H _ _ v u Q2 I rx ry ⟨p,_,rfl,.inr h1,a4A fa,a3s q.1,?_⟩;rw[a8d fa q.1];exact en _ _ M H Kp.refl hh a1g q.2
 ·rename_i p;split at q
  ·rename_i ts e;obtain⟨xs,h1,h2⟩:=hh _ _ e;obtain rfl:=a0w r2;obtain rfl:=a6u q.1 h2;refine ho pins s σ H _ _ v u Q2 I rx ry ⟨p,_,rfl,(.inl (.inl (.inl h1))),a4A fa,a3s q.1,?_⟩;rw[a8d fa q.1];exact en _ _ M H Kp.refl hh a1g q.2
  ·exact q.elim
 ·exact q.elim
theorem b3s:OpR3 X (compareOp .In) (rIn3 false):=b1P a8z
end
section
variable{X:Cx}{Ha:Hp}{body:List Stmt}{pos:Pos}
end
end L2
namespace L2
open PySem PySem.Spec PyProof.Rows
open AutoSeq1 (wpAny_loadPart')
section
variable{prog:b5i}{w:b5B}{A:b5s}{E:VPR}{s:b4U}
end
section
variable{X:Cx}
end
end L2
namespace L2
open PySem PySem.Spec PyProof.Rows
section
variable{prog:b5i}{w:b5B}{A:b5s}{E:VPR}{s:b4U}
end
section
variable{X:Cx}
end
theorem b3y{α:Type}{us:List α}{P:List α->Prop}(hl:us.length=1)(h:∀a:α,P [a]):P us:=by
 obtain⟨a,rfl⟩:=List.length_eq_one_iff.mp hl;exact h a
theorem b3x{α:Type}{us:List α}{P:List α->Prop}(hl:us.length=2)(h:∀a b:α,P [a,b]):P us:=by
 obtain⟨a,r,rfl⟩:=b5F hl;exact b3y (P:=fun r=>P (a::r)) (b8g hl) (h a)
theorem b3w{α:Type}{us:List α}{P:List α->Prop}(hl:us.length=3)(h:∀a b c:α,P [a,b,c]):P us:=by
 obtain⟨a,r,rfl⟩:=b5F hl;exact b3x (P:=fun r=>P (a::r)) (b8g hl) (h a)
theorem b3v{α:Type}{us:List α}{P:List α->Prop}(hl:us.length=4)(h:∀a b c d:α,P [a,b,c,d]):P us:=by
 obtain⟨a,r,rfl⟩:=b5F hl;exact b3w (P:=fun r=>P (a::r)) (b8g hl) (h a)
theorem b3u{α:Type}{us:List α}{P:List α->Prop}(hl:us.length=5)(h:∀a b c d e:α,P [a,b,c,d,e]):P us:=by
 obtain⟨a,r,rfl⟩:=b5F hl;exact b3v (P:=fun r=>P (a::r)) (b8g hl) (h a)
theorem b4G{α:Type}{us:List α}{P:List α->Prop}(hl:us.length=6)(h:∀a b c d e f:α,P [a,b,c,d,e,f]):P us:=by
 obtain⟨a,r,rfl⟩:=b5F hl;exact b3u (P:=fun r=>P (a::r)) (b8g hl) (h a)
theorem b4H{α:Type}{us:List α}{P:List α->Prop}(hl:us.length=0)(h:P []):P us:=by obtain rfl:=b6K hl;exact h
section
variable{X:Cx}
end
section
variable{X:Cx}
end
end L2
namespace L2
open PySem PySem.Spec PyProof.Rows LM
section
variable{κ:Type}[DecidableEq κ]
end
section
variable{X:Cx}
end
section
variable{X:Cx}
end
section
variable{prog:b5i}{w:b5B}{A:b5s}{E:VPR}{s:b4U}
end
section
variable{X:Cx}{pos:Pos}
end
section
variable{X:Cx}{Ha:Hp}{a b:Expr}{ta tb:TE3}{tA:TT3}{pos:Pos}
end
section
variable{X:Cx}{Ha:Hp}
end
section
variable{X:Cx}{pos:Pos}
end
section
variable{X:Cx}
end
section
variable{X:Cx}
end
section
variable{X:Cx}{e:Expr}{te:TE3}{p p2 pos pos2:Pos}
end
section
variable{X:Cx}
end
section
variable{P:b5i}{w:b5B}{A:b5s}{E:VPR}{s:b4U}
end
section
variable{X:Cx}
end
section
variable{X:Cx}
end
section
variable{P:b5i}{w:b5B}{A:b5s}{E:VPR}{s:b4U}
end
section
variable{P:b5i}{w:b5B}{A:b5s}{E:VPR}{s:b4U}{K:Type}[DecidableEq K]{knd:KeyKind P w K}
end
section
variable{X:Cx}
end
section
variable{P:b5i}{w:b5B}{A:b5s}{E:VPR}{s:b4U}
end
section
variable{X:Cx}
end
noncomputable abbrev Po:=List (Int×Int)
noncomputable def co:Po->Int->Int
 |[],_=>0
 |x::r,k=>(if x.1=k then x.2 else 0)+co r k
noncomputable def CanP(p:Po):Prop:=p.Pairwise (fun a b=>a.1<b.1)/\∀x∈p,x.2≠0
theorem b2k{p:Po}{k:Int}(h:∀x∈p,x.1≠k):co p k=0:=by
 induction p with
 |nil=>rfl
 | cons x r ih =>
   show(if x.1=k then x.2 else 0)+co r k=0
   rw[if_neg (h x (.head _)),ih fun y hy=>h y (.tail _ hy)];rfl
noncomputable def putP(k c:Int):Po->Po
 |[]=>if c=0 then [] else [(k,c)]
 |x::r=>if k<x.1 then (if c=0 then x::r else (k,c)::x::r) else if k=x.1 then (if x.2+c=0 then r else (k,x.2+c)::r) else x::putP k c r
noncomputable def norm:Po->Po
 |[]=>[]
 |x::r=>putP x.1 x.2 (norm r)
theorem a9q(k c:Int):∀(p:Po) (j:Int),co (putP k c p) j=(if k=j then c else 0)+co p j
 | [],j=>by
   show co (if c=0 then [] else [(k,c)]) j=(if k=j then c else 0)+0
   by_cases h:c=0
   ·rw[if_pos h,h]
    show 0=(if k=j then 0 else 0)+0
    split<;>rfl
   ·rw[if_neg h];rfl
 | x :: r,j=>by
   show co (if k<x.1 then (if c=0 then x::r else (k,c)::x::r) else if k=x.1 then (if x.2+c=0 then r else (k,x.2+c)::r) else x::putP k c r) j=(if k=j then c else 0)+((if x.1=j then x.2 else 0)+co r j)
   by_cases h1:k<x.1
   ·rw[if_pos h1];by_cases h:c=0
    ·rw[if_pos h,h]
     show(if x.1=j then x.2 else 0)+co r j=_
     split<;>split<;>lia
    ·rw[if_neg h];rfl
   ·rw[if_neg h1];by_cases h2:k=x.1
    ·rw[if_pos h2];by_cases h:x.2+c=0
     ·rw[if_pos h];split<;>split<;>lia
     ·rw[if_neg h]
      show(if k=j then x.2+c else 0)+co r j=_
      split<;>split<;>lia
    ·rw[if_neg h2]
     show(if x.1=j then x.2 else 0)+co (putP k c r) j=_
     rw[a9q k c r j];lia
theorem a8o{k c m:Int}(hk:m<k):∀{p:Po},(∀x∈p,m<x.1)->∀x∈putP k c p,m<x.1
 | [],_,x,hx=>by
   have hx:x∈(if c=0 then [] else [(k,c)]):=hx
   split at hx
   ·cases hx
   ·rw[b6h.mp hx];exact hk
 | y :: r,h,x,hx=>by
   have hx:x∈(if k<y.1 then (if c=0 then y::r else (k,c)::y::r) else if k=y.1 then (if y.2+c=0 then r else (k,y.2+c)::r) else y::putP k c r):=hx
   split at hx
   ·split at hx
    ·exact h x hx
    ·rcases b5b.mp hx with e|e
     ·rw[e];exact hk
     ·exact h x e
   ·split at hx
    ·split at hx
     ·exact h x (.tail _ hx)
     ·rcases b5b.mp hx with e|e
      ·rw[e];exact hk
      ·exact h x (.tail _ e)
    ·rcases b5b.mp hx with e|e
     ·rw[e];exact h y (.head _)
     ·exact a8o hk (fun z hz=>h z (.tail _ hz)) x e
theorem a5W(k c:Int):∀{p:Po},CanP p->CanP (putP k c p)
 | [],_=>by
   show CanP (if c=0 then [] else [(k,c)])
   split
   ·exact⟨.nil,fun _ h=>absurd h b7D⟩
   ·rename_i h;exact⟨b8B _ _,fun x hx=>by rw[b6h.mp hx];exact h⟩
 | y :: r,h=>by
   obtain⟨h1,h2⟩:=List.pairwise_cons.mp h.1
   show CanP (if k<y.1 then (if c=0 then y::r else (k,c)::y::r) else if k=y.1 then (if y.2+c=0 then r else (k,y.2+c)::r) else y::putP k c r)
   split
   ·rename_i a;split
    ·exact h
    ·rename_i b;refine⟨b8h.mpr ⟨fun z hz=>?_,h.1⟩,fun z hz=>?_⟩
     ·rcases b5b.mp hz with e|e
      ·rw[e];exact a
      ·exact Int.lt_trans a (h1 z e)
     ·rcases b5b.mp hz with e|e
      ·rw[e];exact b
      ·exact h.2 z e
   ·split
    ·rename_i a b;split
     ·exact⟨h2,fun z hz=>h.2 z (.tail _ hz)⟩
     ·rename_i d;refine⟨b8h.mpr ⟨fun z hz=>by rw[b];exact h1 z hz,h2⟩,fun z hz=>?_⟩;rcases b5b.mp hz with e|e
      ·rw[e];exact d
      ·exact h.2 z (.tail _ e)
    ·rename_i a b;have ih:=a5W k c (p:=r) ⟨h2,fun z hz=>h.2 z (.tail _ hz)⟩;refine⟨b8h.mpr ⟨fun z hz=>a8o (by lia) h1 z hz,ih.1⟩,fun z hz=>?_⟩;rcases b5b.mp hz with e|e
     ·rw[e];exact h.2 y (.head _)
     ·exact ih.2 z e
theorem a9r:∀(p:Po) (k:Int),co (norm p) k=co p k
 |[],_=>rfl
 | x::r,k=>by
   show co (putP x.1 x.2 (norm r)) k=(if x.1=k then x.2 else 0)+co r k
   rw[a9q,a9r r]
theorem a5X:∀p:Po,CanP (norm p)
 |[]=>⟨.nil,fun _ h=>absurd h b7D⟩
 |x::r=>a5W x.1 x.2 (a5X r)
section
variable{X:Cx}
end
section
variable{X:Cx}{a b e:Expr}{pos:Pos}
end
section
variable{X:Cx}{Ha:Hp}{e:Expr}{te:TE3}{pos:Pos}
end
section
variable{X:Cx}
end
section
variable{X:Cx}
end
section
variable{X:Cx}
end
section
variable{X:Cx}
end
noncomputable abbrev Lp:={p:Po // CanP p}
noncomputable def toL(p:Po):Lp:=⟨norm p,a5X p⟩
theorem co_L(p:Po)(c:Int):co (toL p).1 c=co p c:=a9r p c
section
variable{P:b5i}{w:b5B}{A:b5s}{E:VPR}{s:b4U}
end
section
variable{X:Cx}
end
section
variable{R:Type}[Lean.Grind.CommRing R]
end
noncomputable def b4b(a b:Int)(x:Lp):Prop:=∀c,co x.1 c≠0->a<=c/\c<=b
theorem b4b.of{a b:Int}{p:Po}(h:∀z∈p,a<=z.1/\z.1<=b):b4b a b (toL p):=fun c hc=>by
 rw[co_L] at hc;by_cases z:∃y∈p,y.1=c
 ·obtain⟨y,hy,rfl⟩:=z;exact h y hy
 ·exact absurd (b2k fun y hy e=>z ⟨y,hy,e⟩) hc
section
variable{P:b5i}{w:b5B}{A:b5s}{E:VPR}{s:b4U}
end
section
variable{X:Cx}{e f:Expr}
end
section
variable{X:Cx}{e:Expr}{te:TE3}{p p2 pos pos2:Pos}
end
section
variable{X:Cx}
end
section
variable{X:Cx}{pos:Pos}
end
section
variable{X:Cx}{pos:Pos}
end
section
variable{P:b5i}{w:b5B}{A:b5s}{E:VPR}{s:b4U}
end
section
variable{X:Cx}
end
section
variable{X:Cx}
end
section
end
section
end
section
end
section
end
section
variable{X:Cx}{Ha:Hp}{o i e:Expr}{es:LSE}{tc:TE3}{t:TA3}{p2 pos:Pos}
end
end L2
namespace L2
open PySem PySem.Spec PyProof.Rows
section
variable{prog:b5i}{w:b5B}{A:b5s}{E:VPR}{s:b4U}{z:Array Keyed}{k:b5c->Int}{c:SortKind}
end
section
variable{prog:b5i}{w:b5B}{A:b5s}{E:VPR}{s:b4U}
end
section
variable{prog:b5i}{w:b5B}{A:b5s}{E:VPR}{s:b4U}
end
section
variable{X:Cx}{pins:PNS}{σ:St}{H:Hp}{s:b4U}
end
section
variable{X:Cx}
end
section
variable{X:Cx}{o value:Expr}{f:Str}{pos pos':Pos}{to tv:TE3}{C:Addr}
end
section
variable{X:Cx}{o e:Expr}{es:LSE}{m:Str}{pos apos:Pos}{to:TE3}{t:TA3}{C g:Addr}{n:Nat}{ps:LSS}{sp:Sp3}
end
local macro_rules | `(tactic| walk_at "xc") => `(tactic| (repeat any_goals (first | wp_step | assumption)))
section
variable{X:Cx}{body:List Stmt}
end
section
variable{P:b5i}{w:b5B}{K:PySem.W.Frag}{mg:SOV}{base:Heap}
end
section
variable{X:Cx}{Ha:Hp}{o e:Expr}{es:LSE}{m:Str}{pos apos:Pos}{to:TE3}{t:TA3}{C g:Addr}{n:Nat}{ps:LSS}{sp:Sp3X}
end
end L2
namespace L2
open PySem PySem.Spec PyProof.Rows LM
section
variable{P:b5i}{w:b5B}{A:b5s}{E:VPR}{s:b4U}
end
section
variable{X:Cx}
end
section
variable{X:Cx}
end
section
variable{X:Cx}
end
theorem b3X:((" ":Str)).cps.toList=[32]:=by decide +kernel
theorem a1Z(x:Str)(xs:LSS):(b6A (" ":Str) (x::xs)).cps.toList=x.cps.toList++xs.flatMap fun y=>32::y.cps.toList:=by
 show(b7y (" ":Str) _).cps.toList=_;rw[b6T,a7p,b3X];rfl
theorem a9g(k b:Nat)(ns:LSS)(h:∀y∈ns,y.length<=b):∀acc:Nat,ns.foldl (fun a y=>a+y.length+k) acc<=acc+(b+k)*ns.length:=by
 induction ns with
 |nil=>intro acc;exact b5h _
 | cons y ns ih =>
   intro acc;have h1:=ih (fun z hz=>h z (b4X _ hz)) (acc+y.length+k);have h2:=h y (b5m ..);rw[b7L,b5j,Nat.mul_succ];lia
theorem a7g{e:Str}{ns:LSS}{b:Nat}(he:e.length<=1)(h:∀y∈ns,y.length<=b)(hn:(b+1)*ns.length<=10000):JoinOk e ns=true:=by
 unfold JoinOk Builtin.Str.tooLong;have h1:=a9g e.length b ns h 0;have h2:(b+e.length)*ns.length<=(b+1)*ns.length:=b9d _ (by lia);have h3:(10000:Nat)<=sizeLine:=by decide
 have h4:ns.toArray.foldl (fun a y=>a+y.length+e.length) 0=ns.foldl (fun a y=>a+y.length+e.length) 0:=by simp
 rw[h4];simp only[b7w,decide_eq_false_iff_not];lia
section
variable{lo hi lo' hi' B C:Nat}{p q:Po}
end
section
variable{X:Cx}{Ha:Hp}
end
noncomputable abbrev Pl:=Int×List Int
noncomputable abbrev Dk:=List (Str×Pl)
section
variable{k nm:Str}{p q:Pl}{D:Dk}
end
theorem a2R(a:Str):a0j (.str a)=true:=by unfold a0j;rfl
theorem b0x(a:Str):depT (.str a)<=30:=by unfold depT;decide
theorem a6N(a b:Str):eqT (.str a) (.str b)=decide (a=b):=by
 unfold eqT;by_cases c:a=b
 ·simp[c]
 ·simp[c]
theorem Sub.up{M M':MH}{p:Addr}{u:MO}(h:Sub M M'):Sub (updM M p u) (updM M' p u):=fun a v e=>by
 by_cases c:a=p
 ·subst c
  rw[a0c] at e|-;exact e
 ·rw[a0C c] at e|-
  exact h a v e
end L2
namespace L2
open PySem PySem.Spec PyProof.Rows
structure FD0(K:PySem.W.Frag)(mg:SOV)(x:Str)(st:Stmt):Prop where
 e:∃f fd,Fun K x x st f fd/\mg x=some (.ref f)
structure FD(K:PySem.W.Frag)(mg:SOV)(x:Str)(st:Stmt)(ps:LSS):Prop where
 e:∃f fd,Fun K x x st f fd/\mg x=some (.ref f)/\a3Y K fd ps []
section
variable{P:b5i}{w:b5B}{K:PySem.W.Frag}{mg:SOV}{base:Heap}{x:Str}{st:Stmt}{ps:LSS}
theorem FD0.of{h:Heap}{f:Addr}{oc:b5c}{od an:Option Addr}{osl:AOV}{kV doc pm cdv ct:b5c}(X:K.In h)(G:h.Ns mainGlobals mg)
  (a:PySem.W.nsIn K mainGlobals x=some (some (.ref f))) (l:K.lookup f=some ⟨oc,od,.func (PySem.W.fnOf x x (a2I st) (a0Z st) (a0b st) .none kV doc pm an cdv ct),osl⟩)
  (c:PySem.W.codeIn K cdv x=true) (k:PySem.W.keepIn K (.ref f)=true):FD0 K mg x st:=⟨f,_,b3R l c k,PySem.W.mg_of X G a⟩
theorem FD0.b(d:FD0 K mg x st)
  (hb:∀(kV doc pm:b5c) (an:Option Addr) (cdv ct:b5c) (us:LSV),us.length=ps.length->bindArgs (PySem.W.fnOf x x (a2I st) (a0Z st) (a0b st) .none kV doc pm an cdv ct) ⟨us,[]⟩=pure (ps.zip us)):FD K mg x st ps:=by
 obtain⟨f,fd,F,m⟩:=d.e;exact⟨f,fd,F,m,F.binds hb⟩
theorem FD.dfn{N:LSS}{n:Nat}{sp:Sp3}{t:TS3}(F:FD K mg x st ps)(S:FnScope N ps (a0b st))(len:∀ts M Q,sp ts M Q->ts.length=ps.length)
  (h:∀{f:Addr} {cdv:b5c} {A:b5s} {outer:List Env} {s:b4U} {H:Hp} {E:XK},Room n (A.deeper (envOfC x (a0b st) s.heap.objs.size f cdv)) ->
   HSs (cxOf CX0 P w K mg base N x (a0b st) f cdv A outer s H E).nox (a0Z st) t)
  (rd:∀ts M Q,sp ts M Q->t { nx:=fun _ M'=>rt3 M Q .non M',rt:=rt3 M Q } (a1p N ts) M):Df P w K mg base (n+1) x ps sp:=by
 obtain⟨f,fd,F,hm,hb⟩:=F.e;exact F.dfn hm hb S len ⟨t,fun _ _ _ _ _ _=>h,rd⟩
theorem bkS{X:Cx}{scope:b6Z}(outer:b6Z)(N N':LSS)(ix:List (Option Nat))(h:blkB outer N N' ix scope=true:=by decide +kernel)(ho:X.env.scope=outer:=by rfl)(hN:X.N=N:=by rfl):BlkScope X N' ix scope:=a3V h ho hN
noncomputable abbrev DfD(x:Str)(ps:LSS)(sp:Sp3)(P w K mg base n):=Df P w K mg base n x ps sp
end
noncomputable def CalG(Γ:PySem.Ctx):Prop:=Γ.code.isCaller=true\/(Γ.below.any fun x=>x.1.isCaller)=true
noncomputable def wpC{α:Type}(M:b7r)(A:b5s)(t:Sem α)(Q:α->b4U->Prop)(E:VPR)(s:b4U):Prop :=
 ∀Γ p,Γ.In A->CalG Γ->Sem.wp M Γ t (fun a _ s'=>Q a s') (fun e _ s'=>E e s') p s
noncomputable def a0r(M:b7r)(A:b5s)(c:Code)(R:b8r->b4U->Prop)(s:b4U):Prop :=
 ∀Γ p,Γ.code=c->Γ.Below A->(Γ.below.any fun x=>x.1.isCaller)=true->wpCode M Γ R p s
section
variable{α β:Type}{M:b7r}{A:b5s}{E E':VPR}{s:b4U}
theorem wpC.of{t:Sem α}{Q:α->b4U->Prop}(h:wpAny M A t Q E s):wpC M A t Q E s:=fun Γ p i _=>h Γ p i
theorem a0r.of{c:Code}{R:b8r->b4U->Prop}(h:codeAny M A c R s):a0r M A c R s:=fun Γ p e i _=>h Γ p e i
theorem wpC.mono{t:Sem α}{Q Q':α->b4U->Prop}(h:wpC M A t Q E s)(hQ:∀a s,Q a s->Q' a s)(hE:∀e s,E e s->E' e s):wpC M A t Q' E' s :=
 fun Γ p i k=>b7z M Γ t (fun a _ s=>hQ a s) (fun e _ s=>hE e s) p s (h Γ p i k)
theorem a0r.mono{c:Code}{R R':b8r->b4U->Prop}(h:a0r M A c R s)(hR:∀r s,R r s->R' r s):a0r M A c R' s :=
 fun Γ p e i k=>wpCode_mono hR (h Γ p e i k)
theorem wpC.bind{m:Sem α}{f:α->Sem β}{Q:β->b4U->Prop}(h:wpC M A m (fun a s'=>wpC M A (f a) Q E s') E s):wpC M A (m >>= f) Q E s:=fun Γ p i k=>by
 rw[b8i];exact b7z M Γ m (fun a p' s' q=>q Γ p' i k) (fun _ _ _ q=>q) p s (h Γ p i k)
theorem wpC.pure{a:α}{Q:α->b4U->Prop}(h:Q a s):wpC M A (pure a) Q E s:=.of (b5k h)
theorem wpC.hold{vs:LSV}{m:Sem α}{Q:α->b4U->Prop}(h:wpC M A m Q E s):wpC M A (holding vs m) Q E s:=fun Γ p i k=>by
 rw[Sem.wp_holding];exact h Γ p i k
theorem wpC.onRaise{m:Sem α}{k:b5c->Sem Unit}{Q:α->b4U->Prop}(h:wpC M A m Q (fun e s'=>wpAny M A (k e) (fun _ s2=>E e s2) E s') s):wpC M A (m.onRaise k) Q E s:=fun Γ p i c=>by
 rw[Sem.wp_onRaise];exact b7z M Γ m (fun _ _ _ q=>q) (fun e p' s' q=>q Γ p' i) p s (h Γ p i c)
theorem wpC.attempt{m:Sem α}{Q:Except b5c α->b4U->Prop}(h:wpC M A m (fun a=>Q (.ok a)) (fun e=>Q (.error e)) s):wpC M A m.attempt Q E s:=fun Γ p i c=>by
 rw[Sem.wp_attempt];exact h Γ p i c
theorem wpC.standAt{pos:Pos}{f:Unit->Sem β}{Q:β->b4U->Prop}(h:wpC M A (f ()) Q E s):wpC M A (PySem.standAt pos >>= f) Q E s:=.bind (.of (b6j h))
theorem CalG.enter{Γ:PySem.Ctx}(h:CalG Γ)(c:Code)(hd:OVA)(p:Pos):((Γ.enter c hd p).below.any fun x=>x.1.isCaller)=true:=by
 show(((Γ.code,p)::Γ.below).any fun x=>x.1.isCaller)=true;rw[b6I,b6p];exact h
theorem wpC.runValue{c:Code}{Q:VPR}(hc:a0r M A c (fun r s'=>match r with|.ok (.ret v)=>Q v s'|.ok _=>False|.error e=>E e s') s):wpC M A (runValue c) Q E s:=fun Γ p i k=>by
 rw[Sem.wp_runValue];exact hc _ p rfl (i.enter c none p (by intro x;cases x)) (k.enter c none p)
theorem wpC.call{f:b5c}{pos:LSV}{kw:List (Str×b5c)}{Q:VPR}
  (hc:a0r M A (.call f ⟨pos,kw⟩) (fun r s'=>match r with|.ok (.ret v)=>Q v s'|.ok _=>False|.error e=>E e s') s):wpC M A (call f pos kw) Q E s:=wpC.runValue hc
theorem a0r.tree{c:Code}{R:b8r->b4U->Prop}
  (h:wpC M (A.under c) (M.den c) (fun fin s'=>match fin with|.done f=>R (.ok f) s'|.again c'=>c'.quiet=true/\a0r M A c' R s') (fun e s'=>R (.error e) s') s):a0r M A c R s:=fun Γ p e i k=>by
 rw[wpCode_iff_wp,e];refine b7z M Γ _ (fun fin p' s' q=>?_) (fun _ _ _ q=>q) p s (h Γ p (e▸i.in) (.inr k));cases fin with
 |done f=>exact q
 |again c'=>exact⟨q.1,q.2 (Γ.goto c') p' rfl (i.goto c') k⟩
theorem wpC.mark{own:List String}{e:b5c}{Q:Unit->b4U->Prop}(h:Q () s):wpC M A (markTheRefusal own e) Q E s:=fun Γ p i k=>by
 have hc:(((Γ.code,p)::Γ.below).map (·.1)).any c0B=true:=by
  rw[c0K,b6I,b6p];exact k
 have hp:pythonCodeMadeTheCall own (((Γ.code,p)::Γ.below).map (·.1))=false:=by
  generalize (((Γ.code,p)::Γ.below).map (·.1))=l at hc;show(!(l.any c0B)&&_&&_)=false;rw[hc];rfl
 unfold markTheRefusal;rw[b8i]
 show Sem.wp M Γ (if pythonCodeMadeTheCall own (((Γ.code,p)::Γ.below).map (·.1)) then _ else _) _ _ p s
 rw[hp];exact h
end
section
variable{M:b7r}{A:b5s}{E:VPR}{s:b4U}{env:Env}
theorem wpC.rows{st:Stmt}{rest:List Stmt}{Q:Flow->b4U->Prop}(h:wpC M A (exec st env) (fun f s1=>match f with|.next=>wpC M A (execs rest env) Q E s1|f=>Q f s1) E s):wpC M A (execs (st::rest) env) Q E s:=by
 rw[execs_cons];refine .bind (h.mono (fun f s1 q=>?_) fun _ _ q=>q)
 cases f<;>first|exact q|exact .pure q
theorem wpC.set{x:Str}{pos' pos:Pos}{value:Expr}{Q:Flow->b4U->Prop}(h:wpC M A (eval value env) (fun v s1=>wpAny M A (storeName env x v) (fun _=>Q .next) E s1) E s)
  (hs:swapsWith value (some (.Name x pos')) pos.line env=b6D false:=by rfl):wpC M A (exec (.Assign [.Name x pos'] value pos) env) Q E s:=fun Γ p i k=>by
 simp only[exec_Assign_Name env x pos' value pos hs,b8i,Sem.wp_cmd_standAt,Sem.wp_bindName,Sem.wp_pure'];exact b7z M Γ _ (fun v _ s1 q=>q Γ _ i) (fun _ _ _ q=>q) _ _ (h Γ _ i k)
theorem wpC.sp{x:Sem b5c}{rest:List (Bool×Sem b5c)}{Q:LSV->b4U->Prop}(h:wpC M A x (fun v s1=>wpC M A (spliced rest) (fun vs s2=>Q (v::vs) s2) E s1) E s):wpC M A (spliced ((false,x)::rest)) Q E s:=by
 rw[spliced];refine .bind (h.mono (fun v s1 q=>?_) fun _ _ q=>q);simp only[b8j,if_false];exact .bind (.pure (.bind (.hold (q.mono (fun vs s2 q2=>.pure q2) fun _ _ q=>q))))
theorem wpC.spE{e:Expr}{rest:LSE}{pos:Pos}{Q:LSV->b4U->Prop}(h:wpC M A (eval e env) (fun v s1=>wpC M A (spliced (backTo pos (starEach rest env))) (fun vs s2=>Q (v::vs) s2) E s1) E s)
  (he:starEach (e::rest) env=(false,eval e env)::starEach rest env:=by rfl):wpC M A (spliced (backTo pos (starEach (e::rest) env))) Q E s:=by
 rw[he];exact .sp h
theorem wpC.args{f:b5c}{x:Sem b5c}{rest:List (Bool×Sem b5c)}{Q:Args->b4U->Prop}(h:wpC M A (spliced ((false,x)::rest)) (fun vs s1=>Q ⟨vs,[]⟩ s1) E s):wpC M A (evalArgs f true ((false,x)::rest) []) Q E s:=by
 unfold evalArgs;show wpC M A (spliced ((false,x)::rest) >>= _) Q E s;exact .bind (h.mono (fun vs s1 q=>.hold (.bind (.pure (.bind (.pure (.pure q)))))) fun _ _ q=>q)
theorem wpC.tup{prog:b5i}{w:b5B}{elts:LSE}{x1}{pos:Pos}{Q:VPR}
  (h:wpC (model prog w) A (spliced (backTo pos (starEach elts env))) (fun vs s1=>vs.length<=sizeLine/\Q (.ref s1.heap.objs.size) { s1 with heap:=s1.heap.push { cls:=.type "tuple",data:=.seq vs.toArray } }) E s) :
  wpC (model prog w) A (eval (.Tuple elts x1 pos) env) Q E s:=by
 rw[arm_eval_Tuple];exact .standAt (.bind (h.mono (fun vs s1 q=>.of (wpAny_newTuple q.2 q.1)) fun _ _ q=>q))
theorem wpC.tryB{body orelse:Sem Flow}{h0:b7m}{hs:List b7m}{Q:Flow->b4U->Prop}
  (h:wpC M A body (fun f s1=>match f with|.next=>wpC M A orelse Q E s1|f=>Q f s1)
   (fun e s1=>wpAny M A (noteFrame e env) (fun _ s2=>wpAny M A (setFlight e none) (fun _ s3=>wpAny M A (handleBy e env (h0::hs)) Q E s3) E s2) E s1) s):wpC M A (tryStmt false body (h0::hs) orelse [] env) Q E s:=by
 unfold tryStmt;simp only[c0g,if_true,b9L,b6l,b8j,if_false];refine .bind (.attempt (h.mono (fun f s1 q=>?_) fun e s1 q=>?_))
 ·cases f<;>first|exact q|exact .pure q
 ·exact .of (b4V (b5I q (fun _ _ q2=>b4V q2) fun _ _ q=>q))
theorem wpC.try_{prog:b5i}{w:b5B}{body orelse:List Stmt}{h0:b7m}{hs:List b7m}{pos:Pos}{Q:Flow->b4U->Prop}
  (h:wpC (model prog w) A (execs body env) (fun f s1=>match f with|.next=>wpC (model prog w) A (execs orelse env) Q E s1|f=>Q f s1)
   (fun e s1=>wpAny (model prog w) A (noteFrame e env) (fun _ s2=>wpAny (model prog w) A (setFlight e none) (fun _ s3=>wpAny (model prog w) A (handleBy e env (h0::hs)) Q E s3) E s2) E s1) s) :
  wpC (model prog w) A (exec (.Try body (h0::hs) orelse [] pos) env) Q E s:=by
 rw[arm_exec_Try];exact .standAt (.tryB h)
end
section
variable{α:Type}{M:b7r}{A:b5s}{E:VPR}{s:b4U}{env:Env}
theorem wpC.keep{vs:LSV}{m:Sem α}{Q:α->b4U->Prop}(h:wpC M A m Q E s):wpC M A (m.keep vs) Q E s:=fun Γ p i k=>by
 rw[Sem.wp_keep];exact h Γ p i k
theorem wpC.noted{m:Sem α}{Q:α->b4U->Prop}(h:wpC M A m Q (notedBy M A env E) s):wpC M A (m.onRaise fun x=>do noteFrame x env;theTreesLotGoes x) Q E s :=
 .onRaise (h.mono (fun _ _ q=>q) fun _ _ q=>b4V (b5I q (fun _ _ e=>wpAny_theTreesLotGoes e) fun _ _ e=>e))
theorem wpC.run{c:Code}{hd:OVA}{Q:Flow->b4U->Prop}(hc:a0r M (A.mark hd) c (fun r s1=>match r with|.ok f=>Q f s1|.error e=>E e s1) s)(hnb:hd≠some byPass:=by intro x;cases x):wpC M A (run c hd) Q E s:=fun Γ p i k=>by
 rw[Sem.wp_run];exact hc _ p rfl (i.enter c hd p hnb) (k.enter c hd p)
theorem wpC.runOwn{c:Code}{hd:OVA}{Q:Flow->b4U->Prop}(hc:a0r M (A.mark hd) c (fun r s1=>match r with|.ok f=>Q f s1|.error e=>cameBackBy M A env E e s1) s)(hnb:hd≠some byPass:=by intro x;cases x) :
  wpC M A (PySem.runOwn c env hd) Q E s:=by
 unfold PySem.runOwn;exact .onRaise (.run hc hnb)
theorem a0r.loop{c:Code}{R:b8r->b4U->Prop}(hq:c.quiet=true)(I:Nat->b4U->Prop)
  (turn:∀n s,I n s->wpC M (A.under c) (M.den c) (fun fin s1=>match fin with
   |.done f=>R (.ok f) s1
   |.again c'=>(c'=c/\∃m,m<n/\I m s1)\/(c'.quiet=true/\a0r M A c' R s1)) (fun e s1=>R (.error e) s1) s):∀(n:Nat) (s:b4U),I n s->a0r M A c R s:=by
 intro n
 induction n using Nat.strongRecOn with
 | ind n ih =>
   intro s h;refine .tree ((turn n s h).mono (fun fin s1 q=>?_) fun _ _ q=>q);cases fin with
   |done f=>exact q
   | again c' =>
     rcases q with ⟨rfl,m,hm,hI⟩|q
     ·exact⟨hq,ih m hm s1 hI⟩
     ·exact q
end
section
variable{prog:b5i}{w:b5B}{A:b5s}{E:VPR}{s:b4U}{env:Env}{R:b8r->b4U->Prop}
noncomputable abbrev NB(prog:b5i)(w:b5B)(A:b5s)(env:Env)(R:b8r->b4U->Prop):VPR:=notedBy (model prog w) A env fun e s1=>R (.error e) s1
theorem a0r.forL{target:Expr}{it:b5c}{body orelse:List Stmt}(I:Nat->b4U->Prop)
  (turn:∀n s,I n s->wpAny (model prog w) A (pyNext it) (fun r s1=>match r with
   |none=>wpAny (model prog w) A (execs orelse env) (fun f s2=>R (.ok f) s2) (NB prog w A env R) s1
   | some v=>wpAny (model prog w) A (letOwnedTupleGo target it v) (fun _ s2=>wpAny (model prog w) A (assign target env v) (fun _ s3=>wpC (model prog w) A (execs body env) (fun f s4=>match f with
     |.next|.cont=>∃m,m<n/\I m s4
     |.brk=>R (.ok .next) s4
     |.ret v=>R (.ok (.ret v)) s4) (NB prog w A env R) s3) (NB prog w A env R) s2) (NB prog w A env R) s1) (NB prog w A env R) s)
  (n:Nat) (h:I n s):a0r (model prog w) A (.forLoop target it body orelse env) R s:=by
 refine a0r.loop rfl I (fun n s hI=>?_) n s h
 show wpC _ A ((forTurn target it body orelse env).onRaise (fun x=>do noteFrame x env;theTreesLotGoes x)) _ _ s
 refine .noted ?_;simp only[forTurn];refine .standAt (.bind ((wpC.of (wpAny_onRaise (b5I (turn n s hI) (fun r s1 q=>q) fun _ _ q=>b6j q))).mono (fun r s1 q=>?_) fun _ _ q=>q));cases r with
 |none=>exact .pure (.inr ⟨rfl,.of (codeAny_block q)⟩)
 | some v =>
   refine .bind ((wpC.of q).mono (fun _ s2 q2=>?_) fun _ _ q=>q);refine .bind ((wpC.of q2).mono (fun _ s3 q3=>?_) fun _ _ q=>q);refine .bind (q3.mono (fun f s4 q4=>?_) fun _ _ q=>q);cases f with
   |next=>exact .pure (.inl ⟨rfl,q4⟩)
   |cont=>exact .pure (.inl ⟨rfl,q4⟩)
   |brk=>exact .pure q4
   |ret v=>exact .pure q4
theorem wpC.for_{M:b7r}{target iter:Expr}{body orelse:List Stmt}{pos:Pos}{Q:Flow->b4U->Prop}
  (h:wpAny M A (eval iter env) (fun x s1=>wpAny M A (pyIter x) (fun it s2=>a0r M A (.forLoop target it body orelse env) (fun r s3=>match r with|.ok f=>Q f s3|.error e=>cameBackBy M A env E e s3) s2) E s1) E s)
  (hs:∀x,foldedSetIterable iter env x=b6D x:=by intro _;rfl):wpC M A (exec (.For target iter body orelse pos) env) Q E s:=by
 rw[exec_For];refine .standAt (.bind ((wpC.of h).mono (fun x s1 q=>?_) fun _ _ q=>q));rw[hs x];refine .bind (.pure (.standAt (.bind (.hold ((wpC.of q).mono (fun it s2 q2=>?_) fun _ _ q=>q)))));exact .runOwn q2
theorem wpC.with{M:b7r}{P:Heap->Prop}{f:b5c}{first:LSV}{pos:Pos}{args:List (Bool×Sem b5c)}{kws:List (Option Str×Sem b5c)}{Q:VPR}(hp:(args.any (·.1)||kws.any (·.1.isNone))=false)
  (hk:∀h,P h->∃k,(k=Keeper.frame\/k=Keeper.machine\/k=Keeper.boundFrame)/\PySem.W.Looks M h (keeperOf f) k)
  (h:wpC M A (evalArgs f true args kws) (fun a s1=>P s1.heap/\wpC M A (PySem.call f (first++a.pos) a.kw) Q E s1) E s):wpC M A (callWith pos f first args kws) Q E s:=by
 unfold callWith;refine .bind (.hold (h.mono (fun a s1 q=>.standAt ?_) fun _ _ q=>q));obtain⟨k,hk',L⟩:=hk _ q.1;simp only[hp];refine .bind (.of (L.here ?_))
 have tail:∀{t:Sem b5c},wpC M A t Q E s1->wpC M A (t >>= fun r=>holding [r] point >>= fun _=>b6D r) Q E s1 :=
  fun ht=>.bind (ht.mono (fun r s2 q2=>.bind (.hold (.of (c0p (wpC.pure q2))))) fun _ _ q=>q)
 have marked (mk:b5c):wpC M A (callMarked mk f (first++a.pos) a.kw) Q E s1:=by unfold callMarked;exact .keep q.2
 rcases hk' with rfl|rfl|rfl<;>dsimp only<;>first|exact tail q.2|(split<;>first|exact tail q.2|exact tail (marked _))
theorem a0r.func{body:List Stmt}(h:wpC (model prog w) (A.deeper env) (execs body env) (fun f s1=>R (.ok (.ret (match f with|.ret v=>v|_=>.none))) s1)
   (fun e s1=>wpAny (model prog w) (A.deeper env) (leaving env e) (fun _ s2=>R (.error e) s2) (fun e' s2=>R (.error e') s2) s1) s):a0r (model prog w) A (.func body env) R s:=by
 refine .tree ?_
 show wpC _ (A.deeper env) (do point;match <- (execs body env).onRaise (leaving env) with|.ret v=>ret v|_=>ret .none) _ _ s
 refine .bind (.of (c0p ?_));refine .bind (.onRaise (h.mono (fun f s1 q=>?_) fun _ _ q=>q));cases f<;>exact .pure q
theorem a0r.enter{a:Addr}{args:Args}{o:Obj}{fd:b6g}{body:List Stmt}(hroom:A.depth<recursionLimit)(ho:s.heap.get? a=some o)
  (hd:o.data=.func fd) (hco:fd.scope.isCoroutine=false) (hgen:fd.scope.isGenerator=false) (hbody:fd.body=.stmts body) (hcd:s.heap.CodeRec fd.code fd.qualname)
  (h:wpAny (model prog w) A.in1 (bindArgs fd args) (fun binds s1=>wpAny (model prog w) A.in1 (newFunctionEnv fd.scope fd.globals fd.closure binds (fd.qualname++".<locals>.") (some a) fd.code none fd.builtins)
    (fun env s2=>s2.heap.NoLimit/\a0r (model prog w) A (.func body env) R s2) (fun e s2=>R (.error e) s2) s1) (fun e s1=>R (.error e) s1) s):a0r (model prog w) A (.call (.ref a) args) R s:=by
 refine .tree ?_;show wpC _ A.in1 (callAny (.ref a) args) _ _ s;simp only[callAny];refine .bind (.of (wpAny_load ho ?_));obtain⟨c,oc,vs,tq,hc,hoc,hdc,hq⟩:=hcd;simp only[hd,callFunction,hco,hgen,hbody,hc];rw[hc] at h;refine .bind (m:=field (.ref c) 1) (.of (b6H hoc hdc hq ?_));refine .bind (.pure (.bind ((wpC.of h).mono (fun binds s1 q=>?_) fun _ _ q=>q)));refine .bind ((wpC.of q).mono (fun env s2 q2=>?_) fun _ _ q=>q);exact .bind (.of (wpAny_enterFrame q2.1 hroom (wpC.pure (b9t rfl q2.2))))
end
end L2
namespace L2
open PySem PySem.Spec PyProof.Rows LM
noncomputable def PEc(X:Cx)(e:Expr)(t:TE):Prop :=
 ∀pins s σ H (Q:VK),Inv X pins σ H s->t σ H Q->wpC (model X.prog X.w) X.A (eval e X.env) (EP X pins σ Q) X.xe s
noncomputable def PSc(X:Cx)(st:Stmt)(t:TS):Prop :=
 ∀pins s σ H (D:Ends),Inv X pins σ H s->t D σ H->wpC (model X.prog X.w) X.A (exec st X.env) (SP X pins D) X.xe s
noncomputable def PSsc(X:Cx)(st:List Stmt)(t:TS):Prop :=
 ∀pins s σ H (D:Ends),Inv X pins σ H s->t D σ H->wpC (model X.prog X.w) X.A (execs st X.env) (SP X pins D) X.xe s
theorem thC{α:Type}{t:Sem α}{Q Q':α->b4U->Prop}{M:b7r}{A:b5s}{E:VPR}{s:b4U}(h:wpC M A t Q E s)(hQ:∀a s,Q a s->Q' a s):wpC M A t Q' E s:=h.mono hQ fun _ _ x=>x
section
variable{X:Cx}{e cnd:Expr}{st:Stmt}{rest a b:List Stmt}{te:TE}{tc:TT}{t u:TS}{pos:Pos}
theorem PE.c(h:PE X e te):PEc X e te:=fun pins s σ H Q I q=>.of (h pins s σ H Q I q)
theorem PS.c(h:PS X st t):PSc X st t:=fun pins s σ H D I q=>.of (h pins s σ H D I q)
theorem PSc.imp{t':TS}(h:PSc X st t)(f:∀D σ H,t' D σ H->t D σ H):PSc X st t':=fun pins s σ H D I q=>h pins s σ H D I (f D σ H q)
theorem PSsc.imp{t':TS}(h:PSsc X rest t)(f:∀D σ H,t' D σ H->t D σ H):PSsc X rest t':=fun pins s σ H D I q=>h pins s σ H D I (f D σ H q)
theorem a8q(h1:PSc X st t)(h2:PSsc X rest u):PSsc X (st::rest) (tSeq t u):=by
 intro pins s σ H D I h;refine .rows (thC (h1 pins s σ H { D with nx:=u D } I h) fun f s1 q=>?_);cases f with
 | next =>
   obtain⟨σ',H',I',q⟩:=q;exact h2 pins s1 σ' H' D I' q
 |ret v=>exact q
 |brk=>exact q
 |cont=>exact q
theorem a9W{i:Nat}{x:Str}{pos':Pos}(hN:X.N.Nodup)(hi:X.N[i]?=some x)(hx:Loc X.env.scope x)(he:PEc X e te)(hs:swapsWith e (some (.Name x pos')) pos.line X.env=pure false:=by rfl)
  (hf:QXX X x:=by first|exact .inl rfl|exact .inr rfl|assumption):PSc X (.Assign [.Name x pos'] e pos) (tAsg te (a6L i)):=by
 intro pins s σ H D I h;refine .set (thC (he pins s σ H _ I h) fun v s1 ⟨y,H1,I1,r1,q1⟩=>?_) hs;exact a2p I1 hN hi hx r1 (fun s2 I2=>⟨_,H1,I2,q1⟩) hf
end
noncomputable def HEXc(X:Cx)(Ha:Hp)(e:Expr)(t:TE3):Prop:=∀ρ M Q,t ρ M Q->PEc X e (fun σ H Q2=>Kp X.K Ha H/\bE X.K ρ M Q σ H Q2)
noncomputable def HSXc(X:Cx)(Ha:Hp)(st:Stmt)(t:TS3):Prop:=∀D ρ M,t D ρ M->PSc X st (fun D2 σ H=>Kp X.K Ha H/\bS X.K D ρ M D2 σ H)
noncomputable def a5e(X:Cx)(Ha:Hp)(st:List Stmt)(t:TS3):Prop:=∀D ρ M,t D ρ M->PSsc X st (fun D2 σ H=>Kp X.K Ha H/\bS X.K D ρ M D2 σ H)
section
variable{X:Cx}{Ha:Hp}{a b cnd e:Expr}{es:LSE}{st:Stmt}{rest ba bb body:List Stmt}{ta tb te:TE3}{tA:TT3}{t u:TS3}{pos:Pos}
theorem HEX.c(h:HEX X Ha e te):HEXc X Ha e te:=fun ρ M Q q=>(h ρ M Q q).c
theorem HSX.c(h:HSX X Ha st t):HSXc X Ha st t:=fun D ρ M q=>(h D ρ M q).c
theorem HEXc.d{ρ:En}(h:HEXc X Ha e te):PEc X e (dEX X.K Ha ρ te):=fun pins s σ H Q I ⟨M,Q3,q,b⟩=>h ρ M Q3 q pins s σ H Q I b
theorem HSXc.d(h:HSXc X Ha st t):PSc X st (dSX X.K Ha t):=fun pins s σ H D I ⟨D3,ρ,M,q,b⟩=>h D3 ρ M q pins s σ H D I b
theorem a5e.d(h:a5e X Ha body t):PSsc X body (dSX X.K Ha t):=fun pins s σ H D I ⟨D3,ρ,M,q,b⟩=>h D3 ρ M q pins s σ H D I b
theorem a0x(h1:HSXc X Ha st t)(h2:a5e X Ha rest u):a5e X Ha (st::rest) (a9J t u):=fun D ρ M h =>
 (a8q h1.d h2.d).imp fun D2 σ H ⟨ka,hr,hh,en⟩=>⟨{ D with nx:=u D },ρ,M,h,ka,hr,hh,en.nxX ka⟩
theorem a2Z(h1:HSXc X Ha st t):a5e X Ha [st] t:=fun D ρ M h=>by
 intro pins s σ H D2 I bb;refine .rows (thC (h1 D ρ M h pins s σ H D2 I bb) fun f s1 q=>?_);cases f with
 |next=>exact .of (b6e q)
 |ret v=>exact q
 |brk=>exact q
 |cont=>exact q
theorem b1f{i:Nat}{x:Str}{pos':Pos}(he:HEXc X Ha e te)(hN:X.N.Nodup)(hi:X.N[i]?=some x:=by rfl)(hx:Loc X.env.scope x:=by first|exact b7h rfl|exact b8u rfl)(hs:swapsWith e (some (.Name x pos')) pos.line X.env=pure false:=by rfl)
  (hf:QXX X x:=by first|exact .inl rfl|exact .inr rfl|assumption):HSXc X Ha (.Assign [.Name x pos'] e pos) (a9I i te):=fun D ρ M h =>
 (a9W hN hi hx (he.d (ρ:=ρ)) hs hf).imp fun D2 σ H ⟨ka,hr,hh,en⟩=>⟨M,_,h,ka,hr,hh,fun t v M1 H1 k1 h1 r1 q1=>en.nx _ M1 _ H1 k1 ((hr.kp k1).set i r1) h1 q1⟩
end
structure FnOkC(P:b5i)(w:b5B)(K:PySem.W.Frag)(mg:SOV)(base:Heap)(CX:CXT)(k:Nat)(f:Addr)(fd:b6g)(ps:LSS)(sp:Sp):Prop where
 len:∀vs H Q E,sp vs H Q E->vs.length=ps.length
 run:∀(A:b5s) (outer:List Env) (s:b4U) (H:Hp) (args:Args) (us:LSV) (vs:List V) (Q:VK) (E:XK),Room k A->Env0 P w K mg base A outer s H->b9h s fd args (ps.zip us)->Vals vs us->sp vs H Q E ->
  a0r (model P w) A (.call (.ref f) args) (CR CX outer P w H s Q E) s
theorem FnOkC.mono{P:b5i}{w:b5B}{K:PySem.W.Frag}{mg:SOV}{base:Heap}{CX:CXT}{j k:Nat}{f:Addr}{fd:b6g}{ps:LSS}{sp:Sp}(F:FnOkC P w K mg base CX j f fd ps sp)(h:j<=k):FnOkC P w K mg base CX k f fd ps sp :=
 ⟨F.len,fun A outer s H args us vs Q E hr=>F.run A outer s H args us vs Q E (hr.mono h)⟩
theorem b0P{CX:CXT}{P:b5i}{w:b5B}{K:PySem.W.Frag}{mg:SOV}{base:Heap}{k:Nat}{f:Addr}{name qual:Str}{params:c0i}{body:List Stmt}{scope:b6Z}{dV kV doc pm cdv ct oc:b5c}{an od:Option Addr}
  {osl:AOV} {N ps:LSS} {sp:Sp} (lk:K.lookup f=some ⟨oc,od,.func (PySem.W.fnOf name qual params body scope dV kV doc pm an cdv ct),osl⟩) (hcd:PySem.W.codeIn K cdv qual=true) (S:FnScope N ps scope)
  (len:∀vs H Q E,sp vs H Q E->vs.length=ps.length)
  (hbody:∀(A:b5s) (outer:List Env) (s:b4U) (H:Hp) (vs:List V) (Q:VK) (E:XK),Room k (A.deeper (envOfC qual scope s.heap.objs.size f cdv))->sp vs H Q E ->
   ∃t,PSsc (cxOf CX P w K mg base N qual scope f cdv A outer s H E) body t/\t { nx:=fun _ H'=>Q .non H',rt:=Q } (start N vs) H) :
  FnOkC P w K mg base CX (k+1) f (PySem.W.fnOf name qual params body scope dV kV doc pm an cdv ct) ps sp:=by
 refine⟨len,fun A outer s H args us vs Q E hr e0 hb r hsp=>?_⟩;have hl:=len _ _ _ _ hsp;have KX:K.In s.heap:=e0.mod.kin.keeps fun b o e=>(e0.bs b o e).1;have lim:s.heap.NoLimit:=e0.mod.nolimit.keeps fun b o e=>(e0.bs b o e).1
 have hkind:∀y∈ps.zip us,scope.names.lookup y.1=some .local\/(scope.names.lookup y.1=some .cell/\((cellsFrom (s.heap.objs.size+1) scope.names []).lookup y.1).isSome=true):=fun⟨n,v⟩ hy=>by
  rcases S.par n (b7k hy).1 with q|q
  ·exact .inl q
  ·exact .inr ⟨q,PySem.W.cellsFrom_some _ _ _ (.inl q)⟩
 refine a0r.enter hr.depth (KX _ _ lk) rfl S.co S.gen rfl (PySem.W.codeRec_of KX hcd) (hb _ _ _ _ ?_);refine b6Y S.kind hkind fun env he s1 x=>?_;subst he;refine⟨lim.keeps x.toInCall.keep,a0r.func ?_⟩;obtain⟨t,ht,hq⟩:=hbody A outer s H vs Q E (hr.deeper _) hsp;have I:Inv (cxOf CX P w K mg base N qual scope f cdv A outer s H E) [] (start N vs) H s1:=a5J S hr.hd e0 hl r x;refine(ht [] s1 (start N vs) H _ I hq).mono (fun fl s' hs=>?_) fun e s' hs=>hs
 have fin:∀{σ':St} {H':Hp} {v:V} {u:b5c},Inv (cxOf CX P w K mg base N qual scope f cdv A outer s H E) [] σ' H' s'->RelV v u->Q v H'->CE outer P w H s Q u s' :=
  fun {σ' H' v u} J rv q=>⟨v,H',J.os,J.bare,J.base,J.hok,rv,q⟩
 cases fl with
 | ret u =>
   obtain⟨v,σ',H',J,rv,q⟩:=hs;exact fin J rv q
 | next =>
   obtain⟨σ',H',J,q⟩:=hs;exact fin (v:=V.non) (u:=b5R) J rfl q
 | brk =>
   obtain⟨_,_,_,q⟩:=hs;exact b5A q
 | cont =>
   obtain⟨_,_,_,q⟩:=hs;exact b5A q
structure DfXC(P:b5i)(w:b5B)(K:PySem.W.Frag)(mg:SOV)(base:Heap)(n:Nat)(x:Str)(ps:LSS)(sp:Sp3X):Prop where
 out:∃f fd,FnOkC P w K mg base (CXE P w) n f fd ps (dSpX K mg sp)/\mg x=some (.ref f)/\PySem.W.keepIn K (.ref f)=true/\a3Y K fd ps []
section
variable{P:b5i}{w:b5B}{K:PySem.W.Frag}{mg:SOV}{base:Heap}
end
section
variable{X:Cx}{Ha:Hp}{e:Expr}{es:LSE}{t:TA3}{pos:Pos}
noncomputable def Cx.exP(X:Cx):Prop:=∀b∈X.ex,∃p∈X.pn,p.1=b
theorem a6M(h:X.ex=[]):X.exP:=fun b hb=>by rw[h] at hb;cases hb
theorem Inv.olderP{pins:PNS}{σ:St}{H:Hp}{s:b4U}(I:Inv X pins σ H s)(hex:X.exP):Older X pins s.heap:=by
 refine⟨fun b hb z=>?_,fun p hp z=>?_,fun z=>?_,fun x c e z=>?_⟩
 ·by_cases hm:b∈X.ex
  ·obtain⟨p,hp,rfl⟩:=hex b hm;have e:=(I.pin p (b5v _ hp)).1;rw[z] at e;cases e
  ·cases q:X.s₀.heap.get? b with
   |none=>exact hb q
   | some o =>
     obtain⟨o',e⟩:=I.base.there b o q hm;rw[z] at e;cases e
 ·have e:=(I.pin p hp).1;rw[z] at e;cases e
 ·obtain⟨m,⟨o,_,_,e,_⟩,_⟩:=I.loc;rw[z] at e;cases e
 ·obtain⟨v,o,e1,_⟩:=I.cell x c e;rw[z] at e1;cases e1
theorem a6K{n:Nat}{x:Str}{ps:LSS}{sp:Sp3X}{p:Pos}{E:EK3}(A:Acc X Ha E)(hex:X.exP)(D:DfXC X.prog X.w X.K X.mg X.base n x ps sp)(hr:Room n X.A)(ha:HA X (e::es) t)(hg:Gl X x:=by rfl)(hdb:QDD x:=by decide)
  (he:QSS X e es:=by rfl) (hpl:QPP X pos es:=by rfl) :
  HEXc X Ha (.Call (.Name x p) (e::es) [] pos) (a8j E sp t):=by
 intro ρ M Q h pins s σ H Q2 I bb;obtain⟨ka,hrr,hh,en⟩:=bb;obtain⟨f,fd,F,hm,hk,hb⟩:=D.out;rw[b7T];refine .bind (.of (a0X I hg hm ?_ hdb));have main:wpC (model X.prog X.w) X.A (spliced (backTo pos (starEach (e::es) X.env))) (fun us s1=>X.K.In s1.heap/\wpC (model X.prog X.w) X.A (PySem.call (.ref f) ([]++us)) (EP X pins σ Q2) X.xe s1) X.xe s:=?_
 ·rw[he] at main|-
  exact .with (by show((false||(backTo pos (starEach es X.env)).any (·.1))||false)=false;rw[hpl];rfl) (PySem.W.keeps_K hk) (.args main)
 refine .of (thn (ha ρ M _ h pos pins s σ H (fun vs H1=>∃ts M1,Kp X.K H H1/\HR X.K H1 M1/\Reps X.K H1 vs ts/\sp ts M1 Q fun nm M2=>E nm ρ M2) I ⟨hrr,hh,fun ts vs M1 H1 k1 h1 r1 q1=>⟨ts,M1,k1,h1,r1,q1⟩⟩) fun us s1 ⟨vs,H1,I1,r,ts,M1,k1,h1,r1,q1⟩=>?_);refine⟨I1.kIn,?_⟩;have r2:Vals (vs++[]) (us++[]):=r.append .nil
 have q2:dSpX X.K X.mg sp (vs++[]) H1 Q2 (fun C _ H'=>∃c nm M',C=.ref c/\X.mg nm=some (.ref c)/\Kp X.K H1 H'/\HR X.K H' M'/\E nm ρ M') :=
  ⟨ts,M1,Q,_,by rw[b6o];exact r1,h1,q1,en.kp k1,fun nm C M' H' k' h' m' e'=>⟨C,nm,M',rfl,m',k',h',e'⟩⟩
 have hl:(us++[]).length=ps.length:=by rw[<- r2.length];exact F.len _ _ _ _ q2
 refine wpC.call ((F.run X.A X.stack s1 H1 ⟨us,[]⟩ (us++[]) (vs++[]) Q2 _ hr I1.env0 (hb s1 us I1.kIn hl) r2 q2).mono fun r s' hq=>?_);cases r with
 | error e =>
   obtain⟨a,C,H',rfl,os,bare,un,hok,fly,c,nm,M',rfl,m',k',h',e'⟩:=hq;have J:=I1.call' (H':=H') (ch:=[]) os un hok bare (fun b z=>absurd z (by simp));exact A pins σ H' s' s1.heap a c nm ρ M' J fly (I1.olderP hex) m' (ka.trans (k1.trans k')) (hrr.kp (k1.trans k')) h' e'
 | ok fl =>
   cases fl with
   |ret u=>exact I1.after hq
   |next=>exact b5A hq
   |brk=>exact b5A hq
   |cont=>exact b5A hq
end
noncomputable abbrev NoV{α:Type}:α->b4U->Prop:=fun _ _=>False
noncomputable def RE(X:Cx)(e:Expr)(t:St->Hp->Prop):Prop:=∀pins s σ H,Inv X pins σ H s->t σ H->wpC (model X.prog X.w) X.A (eval e X.env) NoV X.xe s
noncomputable def RS(X:Cx)(st:Stmt)(t:St->Hp->Prop):Prop:=∀pins s σ H,Inv X pins σ H s->t σ H->wpC (model X.prog X.w) X.A (exec st X.env) NoV X.xe s
noncomputable def HER(X:Cx)(Ha:Hp)(e:Expr)(t:En->MH->Prop):Prop:=∀ρ M,t ρ M->RE X e fun σ H=>Kp X.K Ha H/\RhoR X.K σ H ρ/\HR X.K H M
noncomputable def HSR(X:Cx)(Ha:Hp)(st:Stmt)(t:En->MH->Prop):Prop:=∀ρ M,t ρ M->RS X st fun σ H=>Kp X.K Ha H/\RhoR X.K σ H ρ/\HR X.K H M
section
variable{X:Cx}{Ha:Hp}{a e o i:Expr}{es:LSE}{st:Stmt}{t:En->MH->Prop}{pos:Pos}
theorem HSR.c(h:HSR X Ha st t):HSXc X Ha st (fun _ ρ M=>t ρ M):=fun D ρ M q pins s σ H D2 I ⟨ka,hr,hh,en⟩ =>
 (h ρ M q pins s σ H I ⟨ka,hr,hh⟩).mono (fun _ _ z=>z.elim) fun _ _ z=>z
theorem b1l{x:Str}{pos':Pos}(he:HER X Ha e t)(hs:swapsWith e (some (.Name x pos')) pos.line X.env=pure false:=by rfl):HSR X Ha (.Assign [.Name x pos'] e pos) t:=fun ρ M q pins s σ H I b =>
 .set ((he ρ M q pins s σ H I b).mono (fun _ _ z=>z.elim) fun _ _ z=>z) hs
theorem b2Q{ta:TE3}{x1}(ha:HE X a ta)(he:HER X Ha e t)(h1:starEach [a,e] X.env=(false,eval a X.env)::starEach [e] X.env:=by rfl)(h2:starEach [e] X.env=(false,eval e X.env)::starEach [] X.env:=by rfl) :
  HER X Ha (.Tuple [a,e] x1 pos) (fun ρ M=>ta ρ M fun _ M1=>t ρ M1):=fun ρ M q pins s σ H I b=>by
 obtain⟨ka,hr,hh⟩:=b;refine .tup (.spE (.of (thn (ha ρ M _ q pins s σ H (fun v H1=>∃M1,Kp X.K H H1/\HR X.K H1 M1/\t ρ M1) I ⟨hr,hh,fun y v M1 H1 k1 h1 r1 q1=>⟨M1,k1,h1,q1⟩⟩) fun v s1 ⟨y,H1,I1,r1,M1,k1,h1,q1⟩=>?_)) h1);exact .spE ((he ρ M1 q1 pins s1 σ H1 I1 ⟨ka.trans k1,hr.kp k1,h1⟩).mono (fun _ _ z=>z.elim) fun _ _ z=>z) h2
theorem b1m{x:Str}{ty:String}{p:Pos}(he:HER X Ha e t)(hm:X.mg x=none)(hv:bootBuiltins x=some (.type ty))(hg:Gl X x:=by rfl)(hn:x≠"__name__":=by decide)(hdb:QDD x:=by decide)
  (h1:starEach [e] X.env=(false,eval e X.env)::starEach [] X.env:=by rfl):HER X Ha (.Call (.Name x p) [e] [] pos) t:=fun ρ M q pins s σ H I b=>by
 rw[b7T];refine .bind (.of (a2l I hg hm hv ?_ hn hdb));unfold callWith;have main:wpC (model X.prog X.w) X.A (spliced (backTo pos (starEach [e] X.env))) NoV X.xe s:=.spE ((he ρ M q pins s σ H I b).mono (fun _ _ z=>z.elim) fun _ _ z=>z) h1
 rw[h1] at main|-
 exact wpC.bind (wpC.hold (wpC.args (main.mono (fun _ _ z=>b5A z) fun _ _ z=>z)))
theorem b0K{n:Nat}{x:Str}{ps:LSS}{sp:Sp3X}{p:Pos}{E:EK3}{ta:TA3}(A:Acc X Ha E)(hex:X.exP)(D:DfXC X.prog X.w X.K X.mg X.base n x ps sp)(hr:Room n X.A)(ha:HA X (e::es) ta)(hg:Gl X x:=by rfl)(hdb:QDD x:=by decide)
  (he:QSS X e es:=by rfl) (hpl:QPP X pos es:=by rfl) :
  HER X Ha (.Call (.Name x p) (e::es) [] pos) (fun ρ M=>a8j E sp ta ρ M fun _ _=>False):=fun ρ M q pins s σ H I ⟨ka,hrr,hh⟩ =>
 (a6K A hex D hr ha hg hdb he hpl ρ M (fun _ _=>False) q pins s σ H (fun _ _=>False) I ⟨ka,hrr,hh,fun _ _ _ _ _ _ _ z=>z.elim⟩).mono (fun _ _ ⟨_,_,_,_,z⟩=>z.elim) fun _ _ z=>z
end
theorem a5D{e:b5c}{env env':Env}(h:env'.frame=env.frame):noteFrame e env'=noteFrame e env:=by
 unfold noteFrame PySem.frameOf;rw[h]
theorem a2x{M:b7r}{A:b5s}{E:VPR}{s:b4U}{base:Heap}{e L:Addr}{cls a0 fl:b5c}{Q:Unit->b4U->Prop}(R:s.heap.TracedAtW base e cls a0 fl)
  (h:∀h' T,h'.TracedAtW base e cls a0 (rawInt L)->base.get? T=none->(∃o ts,s.heap.get? T=some o/\o.data=.fields ts)->(∀b,b≠T->h'.get? b=s.heap.get? b)->Q () { s with heap:=h' }):wpAny M A (setFlight (.ref e) (some L)) Q E s:=by
 obtain⟨oe,vs,T,oT,ts,he,hcls,hd,h1,hnT,hTe,hT,hdT,h3⟩:=R;have hsz:3<ts.size:=(b5X.mp h3).1;have other:∀b,b≠T->(s.heap.update T (b6d (·.setIfInBounds 3 ((some L).elim b5R fun f=>rawInt f)))).get? b=s.heap.get? b:=fun b hb=>b5D _ _ (b6n hb);unfold setFlight;refine b4V (b6H he hd h1 ?_);rw[if_pos (show(b5M T != b5R)=true by simp)];refine b8q hT hdT hsz (h _ T ?_ hnT ⟨oT,ts,hT,hdT⟩ other);exact⟨oe,vs,T,_,_,(other e (b6n hTe)).trans he,hcls,hd,h1,hnT,hTe,b5T _ hT (b6f (b5H hdT _)),b5H hdT _,by simp[hsz]⟩
theorem a6z{α:Type}{M:b7r}{A:b5s}{E:VPR}{s:b4U}{base:Heap}{e L:Addr}{cls a0 fl:b5c}{what:String}{env:Env}{Q:α->b4U->Prop}(hf:env.frame=some L)(R:s.heap.TracedAtW base e cls a0 fl)
  (h:∀h' T,h'.TracedAtW base e cls a0 (rawInt L)->base.get? T=none->(∃o ts,s.heap.get? T=some o/\o.data=.fields ts)->(∀b,b≠T->h'.get? b=s.heap.get? b)->E (.ref e) { s with heap:=h' }):wpAny M A (PySem.passOn what (.ref e) env:Sem α) Q E s:=by
 obtain⟨oe,vs,T,oT,ts,he,hcls,hd,h1,r⟩:=id R;unfold PySem.passOn;refine b4V (b6H he hd h1 ?_);rw[if_neg (show ¬((b5M T==b5R)=true) by simp),hf]
 first
  |exact b4V (b5k (b4V (a2x R fun h' T a b c d=>b9l (h h' T a b c d))))
  |exact b4V (a2x R fun h' T a b c d=>b9l (h h' T a b c d))
structure FlyH(H:Hp)(h0 h:Heap)(a:Addr)(C:b5c)(L:Addr):Prop where
 un:H a=none
 new:h0.get? a=none
 obj:∃oe vs a0,h.get? a=some oe/\oe.cls=C/\oe.data=.fields vs/\vs[0]?=some a0 /\
  ∃T oT ts,vs[1]?=some (.ref T)/\T≠a/\H T=none/\h0.get? T=none/\h.get? T=some oT/\oT.data=.fields ts/\ts[3]?=some (rawInt L)
noncomputable def AccH(X:Cx)(Ha:Hp)(E:EK3):Prop:=∀(pins:PNS) (σ:St) (H:Hp) (s:b4U) (a C:Addr) (nm:Str) (ρ:En) (M:MH),
 Inv X pins σ H s->FlyH H X.s₀.heap s.heap a (.ref C) X.env.locals->X.mg nm=some (.ref C)->Kp X.K Ha H->RhoR X.K σ H ρ->HR X.K H M->E nm ρ M->X.xe (.ref a) s
section
variable{X:Cx}{pins:PNS}{σ:St}{H:Hp}{s:b4U}
theorem a6H{E:XK}{a:Addr}{C:b5c}(L:Leaves X E)(I:Inv X pins σ H s)(F:FlyH H X.s₀.heap s.heap a C X.env.locals)(hE:E C none H):X.xe (.ref a) s:=by
 refine L.xe _ _ ?_;obtain⟨ha,ha0,oe,vs,a0,t1,t2,t3,t4,T,oT,ts,t5,t6,t7,t8,t9,t10,t11⟩:=F;have hfr:=I.ok.frames;rw[L.stk] at hfr
 have hl:s.heap.FunFrames (PySem.W.hideAll s.heap (a::T::frs X.stack)) (X.env::X.outer):=by
  rw[<- L.stk];exact a0G I.stack fun b hb=>PySem.W.hideAll_none _ (b4X _ (b4X _ hb))
 have hh:Heap.HeldW (PySem.W.hideAll s.heap (a::T::frs X.stack)) (X.env::X.outer) a C a0 X.env.locals s.heap :=
  ⟨fun b o q=>PySem.W.of_hideAll _ q,PySem.W.hideAll_none _ b5m,hl,oe,vs,T,oT,ts,t1,⟨t2,t4⟩,t3,t5,PySem.W.hideAll_none _ (b4X _ b5m),t6,t9,t10,t11⟩
 unfold leaving;refine b4V (wpAny_noteFrame_againW L.fr hh.2.2.2 ?_);refine wpAny_landsW hh fun h2 hfl hsm=>?_;obtain⟨k1,k2,⟨_,_,k3⟩,k4⟩:=hfl;refine a3E (B:=PySem.W.hideAll s.heap (a::T::frs X.stack)) L I ha ha0 (fun b o q hf hb hc=>PySem.W.hideAll_get _ q fun hm=>?_) k1 k4 hsm hE;rcases b5b.mp hm with z|z
 ·exact hb z
 ·rcases b5b.mp z with z|z
  ·subst z;rcases hc with c|c
   ·exact c t7
   ·exact c t8
  ·exact hf z
end
end L2
namespace L2
open PySem PySem.Spec PyProof.Rows
noncomputable def under{α:Type}(t u:Sem α):Sem α:=Sem.stack fun acts=>if (acts.any fun x=>x.1.isCaller)=true then t else u
theorem a9y{α:Type}{M:b7r}{A:b5s}{t u:Sem α}{Q:α->b4U->Prop}{E:VPR}{s:b4U}(h:wpC M A t Q E s)(h2:wpAny M A u Q E s):wpAny M A (under t u) Q E s:=fun Γ p i=>by
 unfold under;rw[b8Q];by_cases c:(((Γ.code,p)::Γ.below).any fun x=>x.1.isCaller)=true
 ·rw[if_pos c];refine h Γ p i ?_;rw[b6I,b6p] at c;exact c
 ·rw[if_neg c];exact h2 Γ p i
theorem a6q{den:Code->Sem Fin}{prog:b5i}{w:b5B}{s s':b4U}{t u:Sem Fin}{n:Nat}{o:Outcome}(hz:s.asleep)(h:schedN den prog w n (.single s ⟨under t u,.builtin "claim.caller" {},default,[]⟩)=.halted o s') :
  ∃m,schedN den prog w m (.single s ⟨t,.builtin "claim.caller" {},default,[]⟩)=.halted o s':=by
 cases n with
 |zero=>cases h
 | succ n =>
   have st:step den prog w s ⟨under t u,.builtin "claim.caller" {},default,[]⟩=.go s ⟨t,.builtin "claim.caller" {},default,[]⟩:=by
    unfold under;rfl
   simp only[schedN] at h;rcases sstep_single (den:=den) (prog:=prog) (w:=w) s ⟨under t u,.builtin "claim.caller" {},default,[]⟩ rfl hz with e|e
   ·rw[e,st] at h;exact⟨n,h⟩
   ·rw[st] at e;cases e
theorem b0s{M:b7r}{name:Str}{f:b5c}{vs:LSV}{mg:SOV}{Q:Fin->b4U->Prop}{E:VPR}{s:b4U}(hg:s.heap.Ns mainGlobals mg)(hf:mg name=some f)
  (h:wpAny M callerA (under (PySem.call f vs) (b6D (.bool true))) (fun v s'=>Q (.done (.ret v)) s') E s) :
  wpAny M callerA (under (do match <- nsGet mainNs name with
   |some g=>do ret (<- PySem.call g vs)
   |none=>unsupported "claim.caller:no-such-global") (ret (.bool true))) Q E s:=fun Γ p i=>by
 have hh:=h Γ
 unfold under at hh|-
 rw[b8Q];by_cases c:(((Γ.code,p)::Γ.below).any fun x=>x.1.isCaller)=true
 ·rw[if_pos c,b8i];refine b7z M Γ _ (fun v p1 s1 q=>?_) (fun _ _ _ q=>q) _ _ (wpAny_nsGet (Q:=fun v s1=>v=mg name/\s1=s) hg ⟨rfl,rfl⟩ Γ p i);obtain⟨rfl,rfl⟩:=q;rw[hf]
  have c1:(((Γ.code,p1)::Γ.below).any fun x=>x.1.isCaller)=true:=by
   rw[b6I] at c|-
   exact c
  have q:=hh p1 i;rw[b8Q,if_pos c1] at q;show Sem.wp M Γ (PySem.call f vs >>= fun v=>ret v) _ _ p1 s1;rw[b8i];exact b7z M Γ _ (fun v p2 s2 q2=>q2) (fun _ _ _ q=>q) _ _ q
 ·rw[if_neg c];have q:=hh p i;rw[b8Q,if_neg c] at q;exact q
end L2
namespace CC
open PySem PySem.W PySem.Spec PyProof.Rows
theorem PySem.W.holds_open{r:OpenRow}{q:b5i}{loose:LSS}{Xt:b4U->Bool}{XP:(SOV)->Heap->Prop}{α:Type}{Yf:b4U->α}{Ya:b5B->α}{YP:b5B->Heap->Prop}{d:DefRec}{kwd:List (Str×Expr)}{N:Nat}
  (left:LeftO r.prog q loose Xt Yf Ya N) (hY:∀w s,Yf s=Ya w->YP w s.heap)
  (hYk:∀w h h',YP w h->(∀b o,h.get? b=some o->h'.get? b=some o)->YP w h') (hX:∀s,Xt s=true->XP (s.heap.nsMap mainGlobals) s.heap)
  (hXk:∀mg h h',XP mg h->(∀b o,h.get? b=some o->h'.get? b=some o)->XP mg h') (hdef:defOf q r.name=some (d,kwd))
  (hp:r.prog.theDef r.name=some (d.params,d.body,d.scope)) (hk:kwWritten? d.params.kwonlyargs d.params.kw_defaults=some kwd)
  (hRf:∀s,Xt s=true->RecFacts r.records s.heap) (hwr:(!r.writes||r.records.isEmpty)=true) (k1:r.wellSaid=true)
  (ok:(chainsOk q&&opensWell r.prog&&(frees r.toRowW&&r.within.isEmpty))=true) (hb:r.prog.bare) (hw:r.toRowW.promised)
  (call:WalkO q loose XP YP r.toRowW d kwd fun f vs=>L2.under (PySem.call f vs) (b6D (.bool true))):r.Holds:=by
 have hch:chainsOk q=true:=by
  simp only[b5o] at ok;exact ok.1.1
 have pins:∀w s,s.heap.isNs mainGlobals=true->Ground q loose [] XP w s (s.heap.nsMap mainGlobals) (s.heap.nsMap builtinsNs) s.heap->∀n∈(if r.pinned then [r.name] else []),isTheDefsW r.prog s.heap n:=by
  intro w s hg G n hn;have e:n=r.name:=by split at hn<;>simp_all
  rw[e];exact pinned_of_view hg G hdef hp hk
 have H:=open_anyG (r:=r.toRowW) (kps:=r.keeps) (tree:=fun vs=>L2.under (do match <- nsGet mainNs r.name with
   |some g=>do ret (<- PySem.call g vs)
   |none=>unsupported "claim.caller:no-such-global") (ret (.bool true))) (writes:=r.writes) left hY hYk hX hXk hRf hwr ok hb hw (fun vs w s mg f Q E hg hf h=>L2.b0s hg hf h) pins
  (by
   intro w s0 s1 mg mb G Y args vs as hpre hlay L low;obtain⟨a,o,pm,cd,doc,dV,kV,h1,h2,h3,h4,h5⟩:=G.fn hdef;refine⟨.ref a,h1,?_⟩
   exact call w s0 s1 mg mb G Y a o pm cd doc dV kV h2 h3 h4 h5 (defOf_name hdef▸h1) L.gens args vs as hpre hlay L.reads L.well (L.low low))
 obtain⟨H1,H2,H3⟩:=H;refine⟨k1,hw,H1,H2,fun w=>⟨(H3 w).1,fun s hs=>?_⟩⟩;obtain⟨s0,f1,f2,s1,top,rest⟩:=(H3 w).2 s hs;refine⟨s0,f1,f2,s1,top,rest.1,rest.2.1,rest.2.2.1,fun args hpre hlay ord hord=>?_⟩;obtain⟨vs,s2,hl,n,o,s',hs',tail⟩:=rest.2.2.2 args hpre hlay ord hord;obtain⟨s0',f1',_,s1',top',z,_⟩:=(left.behind hX hch w).2 s hs;have e0:s0'=s0:=b5p (f1'.symm.trans f1);have z1:s1.asleep:=b8R (top.2.1.trans (e0▸top'.2.1.symm)) z;have z2:s2.asleep:=b8R (layAllW_rest _ _ _ hl).2.2.2 z1;obtain⟨m,hm⟩:=L2.a6q z2 hs';exact⟨vs,s2,hl,m,o,s',hm,tail⟩
end CC
namespace Att
open PySem PySem.W PySem.Calls PyProof.Rows
theorem attach_callC{l:OpenLaw}{n:Nat}{q:b5i}{loose:LSS}{XP:(SOV)->Heap->Prop}{YP:b5B->Heap->Prop}{d:DefRec}
  (hn:l.most=some n) (hdf:d.params.defaults=[])
  (call:∀(w:b5B) (s₀ s₁:b4U) (mg mb:SOV) (fa:Addr) (o:Obj) (pm cd doc:b5c) (a:Addr) (vs:LSV) (ns:LSI),
   Ground q loose [] XP w s₀ mg mb s₁.heap->YP w s₁.heap ->
   s₁.heap.get? fa=some o->o.data=.func (docDef d.name d.params d.body d.scope pm cd doc)->s₁.heap.CodeRec cd d.name->mg d.name=some (.ref fa) ->
   s₁.heap.get? a=some { cls:=.type "list",data:=.seq vs.toArray }->c0z vs ns->ns.length<=n->s₁.gens=#[] ->
   L2.a0r (model l.prog w) callerA (.call (.ref fa) ⟨[.ref a],[]⟩) (fun r s'=>r=.ok (.ret (.bool true))/\OldK s₁.heap s'.heap/\s'.os=s₁.os/\b8n s'.gens) s₁) :
  WalkO q loose XP YP l.row.toRowW d [] (fun f vs=>L2.under (PySem.call f vs) (b6D (.bool true))):=by
 intro w s₀ s₁ mg mb G Y fa o pm cd doc dV kV ho hd hcd hD hmg hg args vals as hpre hlay hrd hwl hlo;obtain rfl:dV=.none:=Dflts.none hD hdf;obtain rfl:kV=.none:=Dflts.noKw hD;obtain⟨a,vs,ns,rfl,rfl,hobj,hints,hlen⟩:=a8m hn hpre hwl
 have good:∀s':b4U,OldK s₁.heap s'.heap->s'.os=s₁.os->b8n s'.gens->GoodWG l.row.toRowW.claim (classAt s₀.heap) (ExcName.means s₀.heap) [.list (ns.map .int)] s₁ (.ok (.ret (.bool true))) s':=fun s' h2 h3 h4 =>
  ⟨.inl ⟨.bool true,.bool true,[],rfl,fun _=>rfl,.bool true,a8s l _,fun _=>⟨b7v,fun _ hm=>(nomatch hm)⟩⟩,h2,h3,h4⟩
 refine L2.a9y (L2.wpC.call ((call w s₀ s₁ mg mb fa o pm cd doc a vs ns G Y ho (fd_plain hd) hcd hmg hobj hints hlen hg).mono fun r s' hq=>?_)) (b5k (good _ (.refl _) rfl (.of_eq hg)));obtain⟨rfl,h2,h3,h4⟩:=hq;exact good s' h2 h3 h4
end Att
namespace L2
open PySem PySem.Spec PyProof.Rows
theorem a8P {P:b5i} {w:b5B} {K:PySem.W.Frag} {mg mb:SOV} {CX:CXT} {k:Nat} {fa a:Addr} {fd:b6g} {x:Str} {sp:Sp} {s₁:b4U} {vs:LSV} {ns:LSI}
  (KX:K.In s₁.heap) (hns:s₁.heap.Ns mainGlobals mg) (hb:s₁.heap.Ns builtinsNs mb) (hbb:∀x:Str,x≠"__name__"->mb x=bootBuiltins x) (hlim:s₁.heap.NoLimit) (hg:s₁.gens=#[])
  (ha:s₁.heap.get? a=some { cls:=.type "list",data:=.seq vs.toArray }) (hi:c0z vs ns) (hl:ns.length<=sizeLine) (hr:Room k callerA)
  (F:∀base:Heap,K.In base->base.Ns mainGlobals mg->FnOkC P w K mg base CX k fa fd [x] sp) (hbind:∀(s:b4U) (u:b5c),b9h s fd ⟨[u],[]⟩ [(x,u)])
  (hsp:∀H:Hp,Only H->SqL K H a (ns.map V.int)->sp [.ref a] H (fun v _=>v=.bl true) fun _ _ _=>False)
  (hCX:∀H e s',CX [] H s₁ (fun _ _ _=>False) e s'->False) :
  a0r (model P w) callerA (.call (.ref fa) ⟨[.ref a],[]⟩) (fun r s'=>r=.ok (.ret (.bool true))/\OldK s₁.heap s'.heap/\s'.os=s₁.os/\b8n s'.gens) s₁:=by
 have rv:=a5h hi;have lenV:=hi.length
 -- from an abstract heap in which nothing but the script may be tracked
 have core:∀H:Hp,Only H->SqL K H a (ns.map V.int)->HOk P w H s₁.heap->(∀b,H b≠none->b=a)->(H a≠none->K.lookup a=none) ->
   a0r (model P w) callerA (.call (.ref fa) ⟨[.ref a],[]⟩) (fun r s'=>r=.ok (.ret (.bool true))/\OldK s₁.heap s'.heap/\s'.os=s₁.os/\b8n s'.gens) s₁:=by
  intro H hO hS hok hA hK;have base_of:∀{b:Addr} {o:Obj},s₁.heap.get? b=some o->H b=none->(hidT s₁.heap H).get? b=some o:=fun e n=>b0t e n
  have noA:∀{b:Addr} {o:Obj} {es:Array DictEntry} {ep:Nat},s₁.heap.get? b=some o->o.data=.dict es ep->H b=none:=fun {b o es ep} e d=>by
   cases q:H b with
   |none=>rfl
   | some u =>
     have e':b=a:=hA b (by rw[q];simp);subst e';rw[ha] at e;cases e;have d':Data.seq vs.toArray _=Data.dict es ep:=d;cases d'
  have nsK:∀{b:Addr} {m:SOV},s₁.heap.Ns b m->(hidT s₁.heap H).Ns b m:=fun {b m} ⟨o,es,ep,e,d,r⟩=>⟨o,es,ep,base_of e (noA e d),d,r⟩
  have hKb:K.In (hidT s₁.heap H):=fun b o e=>base_of (KX b o e) (by
   cases q:H b with
   |none=>rfl
   | some u =>
     have e':b=a:=hA b (by rw[q];simp);subst e'
     rw[hK (by rw[q];simp)] at e;cases e)
  have hM:Mod K mg (hidT s₁.heap H):=⟨hKb,nsK hns,⟨mb,nsK hb,hbb⟩,let ⟨mc,h1,h2⟩:=hlim;⟨mc,nsK h1,h2⟩⟩
  have e0:Env0 P w K mg (hidT s₁.heap H) callerA [] s₁ H:=⟨rfl,hM,fun b o e=>b1T e,b9R (a8Z _ _),trivial,fun b hb=>absurd (show b∈([]:List Addr) from hb) (by simp),hok,.of_eq hg⟩;refine((F _ hKb (nsK hns)).run callerA [] s₁ H ⟨[.ref a],[]⟩ [.ref a] [.ref a] _ _ hr e0 (hbind s₁ (.ref a)) (.cons rfl .nil) (hsp H hO hS)).mono fun r s' h=>?_;cases r with
  |error e=>exact(hCX H e s' h).elim
  | ok fl =>
    cases fl with
    |next=>exact b5A h
    |brk=>exact b5A h
    |cont=>exact b5A h
    | ret u =>
      obtain⟨v,H',os,bare,un,hok',r',q⟩:=h;have q':v=.bl true:=q;subst q';obtain rfl:u=b7q true:=r';refine⟨rfl,OldK.of_keep fun b o e=>?_,os,bare⟩;cases q:H b with
      |none=>exact un.keep b o e q (by intro z;exact absurd (show b∈([]:List Addr) from z) (by simp)) (by simp)
      | some u =>
        rcases hO b with z|⟨ob,xs,z⟩
        ·rw[q] at z;cases z
        ·have z2:=un.frzs b ob _ z;obtain⟨e1,_⟩:=hok b _ z;obtain⟨e2,_⟩:=hok' b _ z2;rw[e] at e1;cases e1;exact e2
 cases hk:K.lookup a with
 | some o =>
   -- the script is one of the module's own objects
   have e:=KX a o hk;rw[ha] at e;cases e;refine core (fun _=>none) (fun _=>.inl rfl) (.inr ⟨_,vs.toArray,_,hk,rfl,rfl,rfl,by rw[b5a,lenV];exact hl,by simpa using rv⟩) (fun b u z=>by have z':(none:Option HO)=some u:=z;cases z') (fun b z=>absurd rfl z) fun z=>absurd rfl z
 | none =>
   refine core (fun b=>if b=a then some (.frz { cls:=.type "list",data:=.seq vs.toArray } (.lst (ns.map V.int))) else none) (fun b=>?_) (.inl (.inr ⟨{ cls:=.type "list",data:=.seq vs.toArray },if_pos rfl⟩)) (fun b u z=>?_) (fun b z=>?_) fun _=>hk
   ·by_cases hb:b=a
    ·exact .inr ⟨_,_,if_pos hb⟩
    ·exact .inl (if_neg hb)
   ·by_cases hb:b=a
    ·have z':=(if_pos hb).symm.trans z;cases z';subst hb;exact⟨ha,by rw[b4Y];exact hl,vs,_,rv,ha⟩
    ·have z':=(if_neg hb).symm.trans z;cases z'
   ·by_cases hb:b=a
    ·exact hb
    ·exact absurd (if_neg hb) z
theorem a9G{l:PySem.W.OpenLaw}{n k:Nat}{q:b5i}{loose:LSS}{XP:(SOV)->Heap->Prop}{YP:b5B->Heap->Prop}{d:DefRec}{K:Params->PySem.W.Frag}{CX:b5B->CXT}{sp:b5B->Sp}{x:Str}
  (hn:l.most=some n) (hn2:n<=sizeLine) (hdf:d.params.defaults=[]) (hr:Room k callerA)
  (hY:∀(w:b5B) (h:Heap),YP w h->(K w.params).In h)
  (F : ∀(w:b5B) (mg:SOV) (fa:Addr) (h:Heap),(K w.params).In h->h.Ns mainGlobals mg->mg d.name=some (.ref fa) ->
   ∃ fd:b6g,(∀(s:b4U) (u:b5c),b9h s fd ⟨[u],[]⟩ [(x,u)]) /\
     ∀base:Heap,(K w.params).In base->base.Ns mainGlobals mg->FnOkC l.prog w (K w.params) mg base (CX w) k fa fd [x] (sp w))
  (hsp:∀(w:b5B) (H:Hp) (a:Addr) (ns:LSI),ns.length<=n->Only H->SqL (K w.params) H a (ns.map V.int)->sp w [.ref a] H (fun v _=>v=.bl true) fun _ _ _=>False)
  (hCX:∀(w:b5B) (H:Hp) (s:b4U) (e:b5c) (s':b4U),CX w [] H s (fun _ _ _=>False) e s'->False) :
  PySem.W.WalkO q loose XP YP l.row.toRowW d [] (fun f vs=>L2.under (PySem.call f vs) (b6D (.bool true))):=by
 refine Att.attach_callC hn hdf fun w s₀ s₁ mg mb fa o pm cd doc a vs ns G Y ho hd hcd hmg hobj hints hlen hg=>?_;have KX:=hY w _ Y;obtain⟨fd,hb,hF⟩:=F w mg fa _ KX G.T.g hmg;exact a8P KX G.T.g G.T.b G.T.builtins G.T.nolimit hg hobj hints (b5l hlen hn2) hr hF hb (fun H hO hS=>hsp w H a ns hlen hO hS) fun H e s'=>hCX w H s₁ e s'
theorem a8O{l:PySem.W.OpenLaw}{k:Nat}{q:b5i}{loose:LSS}{XP:(SOV)->Heap->Prop}{YP:b5B->Heap->Prop}{d:DefRec}{K:Params->PySem.W.Frag}{sp:Sp3}
  (hn:l.most=some 63) (hdf:d.params.defaults=[]) (hr:Room k callerA) (hY:∀(w:b5B) (h:Heap),YP w h->(K w.params).In h)
  (hs:∀(ns:LSI) M Q,ns.length<=63->Q (.bl true) M->sp [.rd (ns.map .int)] M Q)
  (F:∀(w:b5B) (mg:SOV) (fa:Addr) (h:Heap),(K w.params).In h->h.Ns mainGlobals mg->mg d.name=some (.ref fa) ->
   ∃fd:b6g,(∀(s:b4U) (u:b5c),b9h s fd ⟨[u],[]⟩ [("script",u)])/\∀base:Heap,(K w.params).In base->base.Ns mainGlobals mg->FnOkC l.prog w (K w.params) mg base CX0 k fa fd ["script"] (dSp (K w.params) sp)) :
  PySem.W.WalkO q loose XP YP l.row.toRowW d [] (fun f vs=>L2.under (PySem.call f vs) (b6D (.bool true))):=by
 refine L2.a9G (n:=63) (k:=k) (x:="script") (CX:=fun _=>CX0) (sp:=fun w=>dSp (K w.params) sp) hn (by decide) hdf hr hY F (fun w H a ns hl hO hS=>?_) fun _ _ _ _ _ z=>z
 have fz:FzL (K w.params) H a (ns.map V.int):=by
  rcases hS with (h|⟨o,h⟩)|h
  ·rcases hO a with z|⟨ob,xs,z⟩
   ·rw[h] at z;cases z
   ·rw[h] at z;cases z
  ·exact .inl ⟨o,h⟩
  ·exact .inr h
 refine⟨[.rd (ns.map .int)],fun _=>none,fun t _=>t=.bl true,.cons ?_ .nil,(fun _ _ z=>by cases z),hs ns _ (fun t _=>t=.bl true) hl rfl,fun t v M' H' _ _ r e=>?_⟩
 ·unfold Rep;exact⟨a,_,rfl,fz,Reps.of_ints ns⟩
 ·subst e;exact a1H r
theorem PSsc.nox{X:Cx}{sts:List Stmt}{t:TS}(h:PSsc X.nox sts t):PSsc X sts t:=fun pins s σ H D I hw =>
 (h pins s σ H D (I.wish _) hw).mono (fun _ _ q=>q.unwish) fun _ _ z=>b5A z
theorem Fun.fnkC{P:b5i}{w:b5B}{K:PySem.W.Frag}{mg:SOV}{base:Heap}{x qual:Str}{st:Stmt}{f:Addr}{fd:b6g}{N ps:LSS}{n:Nat}{sp:Sp3}{t:TS3}(F:Fun K x qual st f fd)(S:FnScope N ps (a0b st))(len:∀ts M Q,sp ts M Q->ts.length=ps.length)
  (hbody:∀{cdv:b5c} {A:b5s} {outer:List Env} {s:b4U} {H:Hp} {E:XK},Room n (A.deeper (envOfC qual (a0b st) s.heap.objs.size f cdv)) ->
   a5e (cxOf CX0 P w K mg base N qual (a0b st) f cdv A outer s H E).nox H (a0Z st) t)
  (rd:∀ts M Q,sp ts M Q->t { nx:=fun _ M'=>rt3 M Q .non M',rt:=rt3 M Q } (a1p N ts) M):FnOkC P w K mg base CX0 (n+1) f fd ps (dSp K sp):=by
 obtain⟨oc,od,kV,doc,pm,an,cdv,ct,osl,rfl,lk,hcd⟩:=F.ex;refine b0P lk hcd S (fun vs H Q E ⟨ts,M,Q3,r,_,q,_⟩=>by rw[r.length];exact len _ _ _ q) fun A outer s H vs Q E hr ⟨ts,M,Q3,r,hh,q,en⟩=>?_;refine⟨_,(hbody hr _ _ _ (rd ts M Q3 q)).nox,Kp.refl,a3w r,hh,⟨?_,?_,fun _ _ _ _ _ _ _ z=>z.elim,fun _ _ _ _ _ _ _ z=>z.elim⟩⟩
 ·rintro ρ' M' σ' H' k hr' hh' ⟨M0,hs,q'⟩;exact en .non .non M0 H' k (hh'.sub hs) a3x q'
 ·rintro t' v' M' H' k hh' r' ⟨M0,hs,q'⟩;exact en t' v' M0 H' k (hh'.sub hs) r' q'
end L2
namespace L2
open PySem PySem.Spec PyProof.Rows LM
noncomputable def a4t(M:b7r)(A:b5s)(E:VPR)(cenv:Env)(r:b8r)(s':b4U):Prop :=
 match r with
 |.ok _=>False
 |.error x=>∃m,s'.heap.Ns cenv.locals m/\∀h',b7e cenv.locals s'.heap h'->wpAny M A (PySem.passOn "comprehension.variables-let-go" x cenv:Sem b5c) NoV E { s' with heap:=h' }
section
variable{M:b7r}{A:b5s}{E:VPR}{s:b4U}{env:Env}
theorem wpC.standIf{α:Type}{c:Prop}[Decidable c]{pos:Pos}{k:PUnit->Sem α}{Q:α->b4U->Prop}(h:wpC M A (k ()) Q E s):wpC M A (if c then (PySem.standAt pos >>= k) else k ()) Q E s:=by
 split
 ·exact .standAt h
 ·exact h
theorem wpC.compR{e:Expr}{scope:b6Z}{pos:Pos}{newAcc first:Sem b5c}{g:b9u}{gs:List b9u}{cl:List (Str×Addr)}
  (hcl:clausesOf e=g::gs) (hs:∀x,foldedSetIterable g.iter env x=b6D x) (hclos:closureFor scope env=b6D cl) (hkind:scope.kind=.function)
  (hnames:∀x∈scope.names,x.2=.local->scope.names.lookup x.1=some .local)
  (h:wpAny M A first (fun x s1=>wpAny M A (pyIter x) (fun it s2=>wpAny M A newAcc (fun acc s3=>wpAny M A (newFunctionEnv scope env.globals cl [] env.qual none .none (some env))
   (fun cenv s4=>a0r M A (.compStart e 0 it acc { cenv with scope:=relabel scope env }) (a4t M A E { cenv with scope:=relabel scope env }) s4) E s3) E s2) E s1) E s) :
  wpC M A (comprehension e scope env pos newAcc false first none) NoV E s:=by
 unfold comprehension;rw[hclos,hcl];refine .bind ((wpC.of h).mono (fun x s1 q=>.standAt ?_) fun _ _ q=>q);refine .bind (.of (wpAny_of_eq (hs x) ?_));refine .bind (.hold ((wpC.of q).mono (fun it s2 q2=>?_) fun _ _ q=>q));refine .standIf (.bind ((wpC.of q2).mono (fun acc s3 q3=>?_) fun _ _ q=>q));refine .bind (.pure (.bind ((wpC.of q3).mono (fun cenv s4 q4=>?_) fun _ _ q=>q)));dsimp only
 have hv:∀x∈(scope.names.filter fun x=>(x.2==.local||x.2==.cell)&&x.1 != (".0":Str)).reverse,x.2=.local->Env.kindOf { cenv with scope:=relabel scope env } x.1=some .local :=
  fun x hx hl=>lookup_relabel_local (hnames x (c0h.mp (c0b.mp hx)).1 hl)
 refine .hold (.bind (.attempt (.hold (.run (q4.mono fun r s' hr=>?_)))));cases r with
 |ok f=>exact hr.elim
 | error x =>
   obtain⟨m,hn,hr⟩:=hr;exact .bind (.hold (.of (wpAny_comp_letGo (cenv:={ cenv with scope:=relabel scope env }) hkind _ s' m hv hn fun h' m' _ sb=>wpC.of (hr h' sb))))
end
section
variable{prog:b5i}{w:b5B}{A:b5s}{E:VPR}{s:b4U}{env:Env}{R:b8r->b4U->Prop}
theorem a0r.compL{elt target iter:Expr}{ifs:LSE}{scope:b6Z}{pos:Pos}{it acc:b5c}(I:Nat->b4U->Prop)
  (turn:∀n s,I n s->wpAny (model prog w) A (pyNext it) (fun r s1=>match r with
   |none=>R (.ok .next) s1
   | some v=>wpAny (model prog w) A (letOwnedTupleGo target it v) (fun _ s2=>wpAny (model prog w) A (assign target env v) (fun _ s3 =>
     wpAny (model prog w) A (forIn ifs true fun c r=>if r=true then do let ok <- isTrue c env (eval c env);b6D (b6S ok) else b6D (b6S r)) (fun ok s4 =>
      if ok=true then wpC (model prog w) A (eval elt env) (fun x s5=>wpAny (model prog w) A (PySem.call (.builtin "list.append") [acc,x]) (fun _ s6=>∃m,m<n/\I m s6) (NB prog w A env R) s5) (NB prog w A env R) s4
      else ∃m,m<n/\I m s4) (NB prog w A env R) s3) (NB prog w A env R) s2) (NB prog w A env R) s1) (NB prog w A env R) s)
  (n:Nat) (h:I n s):a0r (model prog w) A (.compLoop (.ListComp elt [⟨target,iter,ifs,0⟩] scope pos) 0 it acc env) R s:=by
 refine a0r.loop rfl I (fun n s hI=>?_) n s h
 show wpC _ A ((compTurn (.ListComp elt [⟨target,iter,ifs,0⟩] scope pos) 0 it acc env).onRaise (fun x=>do noteFrame x env;theTreesLotGoes x)) _ _ s
 refine .noted ?_;rw[compTurn_list];refine .standAt (.bind ((wpC.of (turn n s hI)).mono (fun r s1 q=>?_) fun _ _ q=>q));cases r with
 |none=>exact .pure q
 | some v =>
   refine .bind ((wpC.of q).mono (fun _ s2 q2=>.bind ((wpC.of q2).mono (fun _ s3 q3=>.bind ((wpC.of q3).mono (fun ok s4 q4=>?_) fun _ _ q=>q)) fun _ _ q=>q)) fun _ _ q=>q);cases ok with
   |false=>exact .pure (.inl ⟨rfl,q4⟩)
   |true=>exact .bind (.bind (wpC.mono q4 (fun x s5 q5=>.bind ((wpC.of q5).mono (fun _ s6 q6=>.pure (.pure (.inl ⟨rfl,q6⟩))) fun _ _ q=>q)) fun _ _ q=>q))
theorem wpC.notedAt{α:Type}{M:b7r}{m:Sem α}{Q:α->b4U->Prop}(h:wpC M A m Q (notedBy M A env E) s):wpC M A (m.onRaise fun x=>do noteFrame x env;PySem.standAt theWindowsPlace) Q E s :=
 .onRaise (h.mono (fun _ _ q=>q) fun _ _ q=>b4V (b5I q (fun _ _ e=>b6j e) fun _ _ e=>e))
theorem a0r.compS{elt target iter:Expr}{ifs:LSE}{rest:List b9u}{scope:b6Z}{pos:Pos}{it acc:b5c}
  (h0:a0r (model prog w) A (.compLoop (.ListComp elt (⟨target,iter,ifs,0⟩::rest) scope pos) 0 it acc env) R s)
  (h:wpAny (model prog w) A (pyIter it) (fun it' s'=>a0r (model prog w) A (.compLoop (.ListComp elt (⟨target,iter,ifs,0⟩::rest) scope pos) 0 it' acc env) R s') (NB prog w A env R) s) :
  a0r (model prog w) A (.compStart (.ListComp elt (⟨target,iter,ifs,0⟩::rest) scope pos) 0 it acc env) R s:=by
 refine .tree ?_
 show wpC _ _ ((compStart (.ListComp elt (⟨target,iter,ifs,0⟩::rest) scope pos) 0 it acc env).onRaise (fun x=>do noteFrame x env;PySem.standAt theWindowsPlace)) _ _ s
 refine .notedAt ?_;unfold compStart;show wpC _ _ (ask >>= _) _ _ s;refine .bind (.of (wpAny_askSetting ?_));split
 ·exact .bind (.pure (.pure (b9t rfl h0)))
 ·show wpC _ _ (PySem.standAt iter.pos >>= fun _=>pyIter it >>= fun r=>PySem.again (.compLoop (.ListComp elt (⟨target,iter,ifs,0⟩::rest) scope pos) 0 r acc env)) _ _ s;exact .standAt (.bind (wpC.mono (wpC.of h) (fun it' s' h'=>.pure (b9t rfl h')) fun _ _ x=>x))
end
section
variable{X:Cx}{pins:PNS}{σ:St}{H:Hp}
theorem a7C{H1:Hp}{s2 s8:b4U}{h0:Heap}{a C0 C:Addr}{cenv:Env}{m:SOV}(hex:X.ex=[])(hst:X.stack=X.env::X.outer)(hfr:X.env.frame=some X.env.locals)(I2:Inv X pins σ H s2)(I8:Inv X pins σ H1 s8)
  (F:Fly H1 h0 s8.heap a (.ref C0)) (old:∀b,s2.heap.get? b≠none->h0.get? b≠none) (fC:FpOk X pins H1 C) (hn:s8.heap.Ns C m) (hcf:cenv.frame=X.env.frame) (hcl:cenv.locals=C)
  (acc:∀s6,Inv X pins σ H1 s6->FlyH H1 X.s₀.heap s6.heap a (.ref C0) X.env.locals->X.xe (.ref a) s6) :
  NB X.prog X.w X.A cenv (a4t (model X.prog X.w) X.A X.xe cenv) (.ref a) s8:=by
 obtain⟨na,na0,oe,vs,a0,t1,t2,t3,t4,T5,oT,ts,t5,t6,t7,t8,t9,t10,t11⟩:=F
 have hold:∀{b:Addr},h0.get? b=none->X.s₀.heap.get? b=none/\∀p∈X.pn++pins,p.1≠b:=fun {b} z=>by
  have z2:s2.heap.get? b=none:=b5t fun q=>old b q z;refine⟨b5t fun q=>?_,fun p hp q=>?_⟩
  ·obtain⟨o,e⟩:=I2.old hex q;rw[z2] at e;cases e
  ·have e:=(I2.pin p hp).1;rw[q,z2] at e;cases e
 have fA:H1 a=none/\X.s₀.heap.get? a=none/\∀p∈X.pn++pins,p.1≠a:=⟨na,hold na0⟩;have fT:H1 T5=none/\X.s₀.heap.get? T5=none/\∀p∈X.pn++pins,p.1≠T5:=⟨t7,hold t8⟩;have frames:=I8.ok.frames;rw[hst] at frames;obtain⟨base,hbase⟩:∃b,b=PySem.W.hideAll s8.heap (a::T5::frs X.stack):=⟨_,rfl⟩
 have hl:s8.heap.FunFrames base (X.env::X.outer):=by
  rw[<- hst,hbase];exact a0G I8.stack fun b hb=>PySem.W.hideAll_none _ (b4X _ (b4X _ hb))
 have hfl:b9U base (X.env::X.outer) a (.ref C0) a0 s8.heap:=by
  rw[hbase] at hl|-
  exact⟨fun b o q=>PySem.W.of_hideAll _ q,PySem.W.hideAll_none _ b5m,hl,oe,vs,T5,oT,ts,t1,⟨t2,t4⟩,t3,t5,PySem.W.hideAll_none _ (b4X _ b5m),t6,t9,t10,t11⟩
 have hB:∀b o,s8.heap.get? b=some o->b∉frs X.stack->b≠a->b≠T5->base.get? b=some o:=fun b o q hf g1 g2=>hbase▸PySem.W.hideAll_get _ q fun hm=>by
  rcases b5b.mp hm with z|z
  ·exact g1 z
  ·rcases b5b.mp z with z|z
   ·exact g2 z
   ·exact hf z
 have fresh:∀T,base.get? T=none->T≠a->T∉frs X.stack->H1 T=none/\X.s₀.heap.get? T=none/\∀p∈X.pn++pins,p.1≠T:=fun T e1 e2 e3=>by
  by_cases h5:T=T5
  ·rw[h5];exact fT
  ·have z8:s8.heap.get? T=none:=by
    cases q:s8.heap.get? T with
    |none=>rfl
    |some o=>rw[hB T o q e3 e2 h5] at e1;cases e1
   refine⟨?_,b5t fun q=>?_,fun p hp q=>?_⟩
   ·cases q:H1 T with
    |none=>rfl
    |some u=>obtain⟨o,e⟩:=(I8.hok T u q).has;rw[z8] at e;cases e
   ·obtain⟨o,e⟩:=I8.old hex q;rw[z8] at e;cases e
   ·have e:=(I8.pin p hp).1;rw[q,z8] at e;cases e
 show wpAny (model X.prog X.w) X.A (noteFrame (.ref a) cenv) (fun _ s''=>a4t (model X.prog X.w) X.A X.xe cenv (.error (.ref a)) s'') (fun e s''=>a4t (model X.prog X.w) X.A X.xe cenv (.error e) s'') s8;rw[a5D hcf];refine c0q frames hfr hfl fun h4 hheld hsm4=>?_;have I4:=I8.flown hex hst hfr hB hheld.1 hsm4 fA fT;have hn4:h4.Ns C m:=hsm4.ns hn;refine⟨m,by rw[hcl];exact hn4,fun h5 sb5=>?_⟩;rw[hcl] at sb5;obtain⟨f0,f1,f2,f3,f4,f5⟩:=fC;have I5:Inv X pins σ H1 { s8 with heap:=h5 }:=Inv.turned (s:={ s8 with heap:=h4 }) (t':=s8.toks) I4 (fun b o hb e=>sb5.extBut b o hb e) f0 f1 f3 f4 f5;obtain⟨oC,esC,epC,hoC,hdC,_⟩:=hn4
 have nf:∀b o vs,h4.get? b=some o->o.data=.fields vs->b≠C:=fun b o vs e d z=>by
  rw[z,hoC] at e;cases e;rw[hdC] at d;cases d
 obtain⟨k1,k2,k3,oe4,vs4,T4,oT4,ts4,r1,r2,r3,r4,r5,r6,r7,r8,r9⟩:=hheld
 have tr5:h5.TracedAtW base a (.ref C0) a0 (rawInt X.env.locals) :=
  ⟨oe4,vs4,T4,oT4,ts4,(sb5.2 a (nf a _ _ r1 r3)).trans r1,r2,r3,r4,r5,r6,(sb5.2 T4 (nf T4 _ _ r7 r8)).trans r7,r8,r9⟩
 have dfr5:∀b∈frs X.stack,∃o,h5.get? b=some o/\∀vs,o.data≠.fields vs:=fun b hb=>(I5.stack.mem hb).2;refine a6z (s:={ s8 with heap:=h5 }) (hcf.trans hfr) tr5 fun h6 T6 tr6 n6 ⟨oT6,ts6,g1,g2⟩ other=>?_
 have nfr:∀{h:Heap} {T:Addr} {o:Obj} {ts:Array b5c},(∀b∈frs X.stack,∃o,h.get? b=some o/\∀vs,o.data≠.fields vs)->h.get? T=some o->o.data=.fields ts->T∉frs X.stack:=fun {h T o ts} d e1 e2 hm=>by
  obtain⟨o',e,d'⟩:=d T hm;rw[e1] at e;cases e;exact d' _ e2
 have T6f:T6∉frs X.stack:=nfr dfr5 g1 g2;obtain⟨oe6,vs6,T7,oT7,ts7,q1,q2,q3,q4,q5,q6,q7,q8,q9⟩:=tr6
 have T7f:T7∉frs X.stack:=fun hm=>by
  by_cases z:T7=T6
  ·exact T6f (z▸hm)
  ·rw[other T7 z] at q7;exact nfr dfr5 q7 q8 hm
 have fT7:=fresh T7 q5 q6 T7f
 have up6:h5.UpToSlots h6:=fun b o e d=>⟨o.slots,by
  have:b≠T6:=fun z=>by rw[z,g1] at e;cases e;exact d _ g2
  exact(other b this).trans e⟩
 by_cases hT6a:T6=a
 ·have I6:Inv X pins σ H1 { s8 with heap:=h6 }:=Inv.flown (s:={ s8 with heap:=h5 }) I5 (B:=PySem.W.hideAll h5 (a::a::frs X.stack)) (a:=a) (T:=a) hex hst hfr (fun b o q hf g1 g2=>PySem.W.hideAll_get _ q fun hm=>by
   rcases b5b.mp hm with z|z
   ·exact g1 z
   ·rcases b5b.mp z with z|z
    ·exact g2 z
    ·exact hf z) (fun b o q=>by
   have hb:b≠T6:=fun z=>by
    have:=PySem.W.hideAll_none (a::a::frs X.stack) (h:=h5) (b:=b) (by rw[z,hT6a];exact b5m);rw[this] at q;cases q
   exact(other b hb).trans (PySem.W.of_hideAll _ q)) up6 fA fA
  exact acc _ I6 ⟨na,fA.2.1,oe6,vs6,a0,q1,q2.1,q3,q2.2,T7,oT7,ts7,q4,q6,fT7.1,fT7.2.1,q7,q8,q9⟩
 ·have fT6:=fresh T6 n6 hT6a T6f
  have I6:Inv X pins σ H1 { s8 with heap:=h6 }:=Inv.flown (s:={ s8 with heap:=h5 }) I5 (B:=PySem.W.hideAll h5 (a::T6::frs X.stack)) (a:=a) (T:=T6) hex hst hfr (fun b o q hf g1 g2=>PySem.W.hideAll_get _ q fun hm=>by
   rcases b5b.mp hm with z|z
   ·exact g1 z
   ·rcases b5b.mp z with z|z
    ·exact g2 z
    ·exact hf z) (fun b o q=>by
   have hb:b≠T6:=fun z=>by
    have:=PySem.W.hideAll_none (a::T6::frs X.stack) (h:=h5) (b:=b) (by rw[z];exact b4X _ b5m);rw[this] at q;cases q
   exact(other b hb).trans (PySem.W.of_hideAll _ q)) up6 fA fT6
  exact acc _ I6 ⟨na,fA.2.1,oe6,vs6,a0,q1,q2.1,q3,q2.2,T7,oT7,ts7,q4,q6,fT7.1,fT7.2.1,q7,q8,q9⟩
end
noncomputable def AccV(Y:Cx)(EV:Str->Hp->Prop):Prop:=∀(pins:PNS) (σ:St) (H:Hp) (s:b4U) (h0:Heap) (a C:Addr) (nm:Str),
 Inv Y pins σ H s->Fly H h0 s.heap a (.ref C)->Older Y pins h0->Y.mg nm=some (.ref C)->EV nm H->Y.xe (.ref a) s
noncomputable def b0G(wi:TI)(ix:List (Option Nat))(g:TG)(te:TE):St->Hp->Prop:=fun σ H=>wi σ H fun J H1=>∃W:Nat->Nat->List V->Hp->Prop,(∃m,W 0 m [] H1)/\∀i m ys H,W i m ys H ->
 (J.go i H/\ys.length<sizeLine/\∀x H',J.yld i H x H'->g x (pick ix σ) H' fun σ2 H2=>te σ2 H2 fun y H4=>∃m',m'<m/\W (i+1) m' (ys++[y]) H4)
section
variable{X:Cx}{N':LSS}{ix:List (Option Nat)}{scope:b6Z}
theorem a7Y{elt iter tg:Expr}{pos posc:Pos}{wi:TI}{g:TG}{te:TE}{EV:Str->Hp->Prop}(hc:X.calm=true)(hex:X.ex=[])(hst:X.stack=X.env::X.outer)(hfr:X.env.frame=some X.env.locals)(hi:PI X tg iter wi)(S:BlkScope X N' ix scope)(ow:Own ix g)
  (hg:∀C s H fp pins,PG (blk X N' scope C s H fp pins) tg g)
  (he:∀C s H fp pins pn xe,(∀b∈fp,∃p∈pn,p.1=b)->AccV ((blk X N' scope C s H fp pins).tried pn xe) EV->PEc ((blk X N' scope C s H fp pins).tried pn xe) elt te)
  (hs:∀x,foldedSetIterable iter X.env x=pure x) (pins:PNS) (s:b4U) (σ:St) (H:Hp) (I:Inv X pins σ H s) (h:b0G wi ix g te σ H)
  (acc:∀H1 s6 a C nm,Inv X pins σ H1 s6->FlyH H1 X.s₀.heap s6.heap a (.ref C) X.env.locals->X.mg nm=some (.ref C)->EV nm H1->X.xe (.ref a) s6) :
  wpC (model X.prog X.w) X.A (comprehension (.ListComp elt [⟨tg,iter,[],0⟩] scope pos) scope X.env posc (newList []) false (eval iter X.env) none) NoV X.xe s:=by
 refine .compR rfl hs (a2W scope X.env fun y hy hk=>I.ok.has y.1 (S.frees y hy hk)) S.kind S.locs (thn (hi pins s σ H _ I h) fun v s1 h1=>thn h1 fun itv s2 h2=>?_);obtain⟨it,fp,tn,J,H2,e,I2,T,st2,f2,W,⟨m0,w0⟩,turn⟩:=h2;subst e
 have hfo:∀b∈fp,∃o,s2.heap.get? b=some o:=fun b hb=>let ⟨o,e,_⟩:=T.obj _ _ st2 b hb;⟨o,e⟩
 refine b6m (a1D (fun h₁ eh₁=>?_))
 dsimp only at eh₁|-
 generalize hH2:s2.heap.push { cls:=.type "list",dict:=none,data:=.seq ([]:LSV).toArray }=Hp2 at eh₁|-
 have hC:Hp2.objs.size=s2.heap.objs.size+1:=by rw[<- hH2,b6M]
 have old1:∀b o,Hp2.get? b=some o->h₁.get? b=some o:=fun b o e=>by rw[eh₁];exact b7O _ _ _ _ (b5f _ e)
 have hns:h₁.Ns Hp2.objs.size (fun _=>none):=by rw[eh₁];exact(c0N Hp2 (.type "dict")).keeps (b7O _ _)
 have hown:∀x c,(x,c)∈cellsFrom (Hp2.objs.size+1) scope.names []->h₁.IsCell c none:=fun x c hm=>by
  have ok:=cellsFrom_ok scope.names (Hp2.push { cls:=.type "dict",data:=.dict #[] }) (Hp2.objs.size+1) [] ⟨fun _ _ hm=>(nomatch hm),b7v⟩ (by rw[b6M];exact b5h _);rw[b6M] at ok;rw[eh₁];exact(ok.empty x c hm).1
 generalize hCC:Hp2.objs.size=C at hns hown hC|-
 generalize hDD:s2.heap.objs.size=D at hC;have hCge:s2.heap.objs.size<=C:=by rw[hDD,hC];exact b9j _
 have hDge:s2.heap.objs.size<=D:=b9R hDD;have hDC:D≠C:=by rw[hC];exact b5y (b6r _)
 have hDlt:D<C:=by rw[hC];exact b6r _
 have old:∀b o,s2.heap.get? b=some o->h₁.get? b=some o:=fun b o e=>old1 b o (hH2▸b5f _ e);have hacc:h₁.get? D=some { cls:=.type "list",data:=.seq ([]:LSV).toArray 0 }:=old1 _ _ (hH2▸hDD▸b5C _ rfl)
 have stat:∀{H':Hp},(∀b∈fp,H' b=none)->∀b∈fp,FpOk (blk X N' scope C s2 H2 fp pins) [] H' b:=fun hn b hb=>by
  obtain⟨f0,f1,f2,f3,f4,f5⟩:=f2 b hb;obtain⟨o,ho⟩:=hfo b hb;refine⟨hn b hb,b5y (b4W (b5d ho) hCge),fun z=>?_,.inl hb,fun x c e=>?_,fun p hp=>?_⟩
  ·rcases b5b.mp (I2.stkSub _ z) with e|e
   ·exact f1 e
   ·exact f2 e
  ·rcases a0K I2 S C e with ⟨a1,a2⟩|⟨a1,a2⟩
   ·exact b6E (b6G (b4W (b5d ho) hCge) a1)
   ·exact f4 x c a2
  ·have:p∈(X.pn++pins)++[]:=hp;exact f5 p (by simpa using this)
 have hDs:D∉(blk X N' scope C s2 H2 fp pins).fs:=fun hb=>by
  rcases b5b.mp (I2.stkSub _ hb) with e|e
  ·rw[e] at hDge;exact absurd (b4W I2.lt hDge) (b6c _)
  ·exact I2.nofs hDge e
 obtain⟨cenv,hcenv⟩:∃cenv,cenv=compEnvC scope (cellsFrom (C+1) scope.names []++a2w X.env scope.names []) C X.env:=⟨_,rfl⟩;have loop:∀s₃:b4U,s₃={ s2 with heap:=h₁ } ->
   a0r (model X.prog X.w) X.A (.compLoop (.ListComp elt [⟨tg,iter,[],0⟩] scope pos) 0 (.ref it) (.ref D) cenv) (a4t (model X.prog X.w) X.A X.xe cenv) s₃:=by
  rintro s₃ rfl
  refine a0r.compL (fun n s'=>∃i ys its cap H',Inv (blk X N' scope C s2 H2 fp pins) [] (pick ix σ) H' s'/\tn i s'.heap/\(∀b∈fp,H' b=none)/\H' D=none /\
    s'.heap.get? D=some { cls:=.type "list",data:=.seq (its:LSV).toArray cap }/\Vals ys its/\W i n ys H') ?_ m0
   ⟨0,[],[],0,H2,a6c I2 f2 S hCge hfo hns old hown,T.keep _ _ _ st2 fun b _ o e=>old b o e,fun b hb=>(f2 b hb).1,I2.hok.fresh hDge,hacc,.nil,w0⟩
  rintro n s3 ⟨i,ys,its,cap,H3,I3,st3,fr3,hD3,ho3,r3,w3⟩
  have I3d:Inv (blk X N' scope C s2 H2 fp pins) [(D,{ cls:=.type "list",data:=.seq its.toArray cap })] (pick ix σ) H3 s3:=I3.pins_of fun p hp=>by
   have e:p=(D,{ cls:=.type "list",data:=.seq its.toArray cap }):=by simpa using hp
   subst e;exact⟨ho3,hD3,hDC,hDs,fun v z=>nomatch z⟩
  have statD:∀{H':Hp},(∀b∈fp,H' b=none)->∀b∈fp,FpOk (blk X N' scope C s2 H2 fp pins) [(D,({ cls:=.type "list",data:=.seq its.toArray cap }:Obj))] H' b:=fun hn b hb=>by
   obtain⟨f0,f1,f2,f3,f4,f5⟩:=stat hn b hb;obtain⟨o,ho⟩:=hfo b hb;refine⟨f0,f1,f2,f3,f4,fun p hp=>?_⟩;rcases b5J.mp hp with z|z
   ·exact f5 p (b5v _ z)
   ·have e:p=(D,({ cls:=.type "list",data:=.seq its.toArray cap }:Obj)):=by simpa using z
    subst e;exact b6E (b4W (b5d ho) hDge)
  obtain⟨go,hz,step⟩:=turn i n ys H3 w3;refine thn (T.item (blk X N' scope C s2 H2 fp pins) rfl rfl rfl hc i _ s3 (pick ix σ) H3 _ I3d (statD fr3) st3 go) fun r s4 ⟨u,hr,h4⟩=>?_;subst hr;refine thn h4 fun _ s5 ⟨x,H5,I5,r5,y5,st5,fr5⟩=>?_;have I5':=I5.pinned (statD fr5) (T.obj _ _ st5);have again:∀{σ7:St} {H7:Hp} {s7:b4U},Inv (blk X N' scope C s2 H2 fp pins) ([(D,({ cls:=.type "list",data:=.seq its.toArray cap }:Obj))]++a2k fp s5.heap) σ7 H7 s7 ->
    H7 D=none/\s7.heap.get? D=some { cls:=.type "list",data:=.seq its.toArray cap }/\tn (i+1) s7.heap/\∀b∈fp,H7 b=none:=fun {σ7 H7 s7} I7=>by
   obtain⟨e7,n7,_⟩:=I7.pin (D,_) (b4Z _ (b5v _ (b6h.mpr rfl)));refine⟨n7,e7,T.keep _ _ _ st5 fun b hb o e=>(I7.pin (b,o) (b4Z _ (b4Z _ (a0H hb e)))).1,fun b hb=>?_⟩;obtain⟨o,e,d⟩:=T.obj _ _ st5 b hb;exact(I7.pin (b,o) (b4Z _ (b4Z _ (a0H hb e)))).2.1
  have forget:∀{σ7:St} {H7:Hp} {s7:b4U},Inv (blk X N' scope C s2 H2 fp pins) ([(D,({ cls:=.type "list",data:=.seq its.toArray cap }:Obj))]++a2k fp s5.heap) σ7 H7 s7 ->
    (∀(k:Nat) v,(pick ix σ)[k]?=some (some v)->σ7[k]?=some (some v))->σ7.length=(pick ix σ).length->Inv (blk X N' scope C s2 H2 fp pins) [] (pick ix σ) H7 s7:=fun {σ7 H7 s7} I7 hk hl =>
   (I7.pins_of (pins':=[]) fun _ z=>nomatch z).weak hl.symm hk
  rw[hcenv];refine b6k (thn (hg C s2 H2 fp pins _ s5 (pick ix σ) H5 x u _ I5' r5 (ow _ _ _ _ _ ⟨rfl,fun _ _ _=>rfl⟩ (step x H5 y5))) fun _ s6 ⟨σ6,H6,I6,q6,l6,k6⟩=>?_)
  have back:∀(k:Nat) v,(pick ix σ)[k]?=some (some v)->σ6[k]?=some (some v):=fun k v e=>by
   obtain⟨j,e1,_⟩:=a4J e;rw[k6 k j e1];exact e
  refine c0l ?_;rw[if_pos rfl];obtain⟨pn,hpn⟩:∃pn,pn=(X.pn++pins)++([(D,({ cls:=.type "list",data:=.seq its.toArray cap }:Obj))]++a2k fp s5.heap):=⟨_,rfl⟩;obtain⟨xeB,hxe⟩:∃xe,xe=NB X.prog X.w X.A cenv (a4t (model X.prog X.w) X.A X.xe cenv):=⟨_,rfl⟩
  have IY:Inv ((blk X N' scope C s2 H2 fp pins).tried pn xeB) [] σ6 H6 s6 :=
   ⟨I6.ok.tried _ _,I6.os,I6.bare,I6.base,I6.loc,I6.cell,I6.free,I6.freeC,fun p hp=>I6.pin p (by
    have hp':p∈pn++[]:=hp;rw[b6o,hpn] at hp'
    exact hp'),I6.hok,I6.len⟩
  have hpins:∀b∈fp,∃p∈pn,p.1=b:=fun b hb=>by
   obtain⟨o,e,d⟩:=T.obj _ _ st5 b hb;rw[hpn];exact⟨(b,o),b4Z _ (b4Z _ (a0H hb e)),rfl⟩
  have hA:AccV ((blk X N' scope C s2 H2 fp pins).tried pn xeB) EV:=by
   intro pins' σ1 H1 s8 h0 a C0 nm J F old8 m ev
   have I8:Inv X pins σ H1 s8:=I2.call' (ch:=fp) J.os J.base J.hok J.bare fun b hb=>by
    obtain⟨f0,f1,f2,f3,f4,f5⟩:=f2 b hb;exact⟨f3,f1,f4,f5⟩
   obtain⟨mm,hn8,_⟩:=J.loc;have hC8:H1 C=none:=J.free;show xeB (.ref a) s8;rw[hxe];exact a7C hex hst hfr I2 I8 F old8.start (I2.fpOk hCge hC8) hn8 (by rw[hcenv];rfl) (by rw[hcenv];rfl) fun s6 I6 fly=>acc H1 s6 a C0 nm I6 fly m ev
  refine((he C s2 H2 fp pins pn xeB hpins hA [] s6 σ6 H6 _ IY q6).mono (fun z s8 ⟨y,H8,IY8,r8,m',hm,w8⟩=>?_) fun e s' q=>?_)
  ·have I8:Inv (blk X N' scope C s2 H2 fp pins) ([(D,({ cls:=.type "list",data:=.seq its.toArray cap }:Obj))]++a2k fp s5.heap) σ6 H8 s8 :=
    ⟨I6.ok,IY8.os,IY8.bare,IY8.base,IY8.loc,IY8.cell,IY8.free,IY8.freeC,fun p hp=>IY8.pin p (by
     show p∈pn++[];rw[b6o,hpn]
     exact hp),IY8.hok,IY8.len⟩
   obtain⟨a1,a2,a3,a4⟩:=again I8;have hl:=r3.length;refine b6k (b8C ⟨_,a2⟩ (fun h9 ⟨cap9,p9⟩ sb9=>?_) (by rw[b5a,<- hl];exact b6s hz))
   have I9:Inv (blk X N' scope C s2 H2 fp pins) [] (pick ix σ) H8 { s8 with heap:=h9 } :=
    (forget I8 back l6).turned (t':=s8.toks) (it:=D) (fun b o hb e=>sb9.extBut b o hb e) a1 hDC (.inr hDge) (fun x c e=>by
     rcases a0K I2 S C e with ⟨a1,a2⟩|⟨a1,a2⟩
     ·exact b6E (b6G hDlt a1)
     ·obtain⟨v,z⟩:=I2.cell x c a2
      exact b5y (b4W z.lt hDge)) (fun p hp=>by
     have hp':p∈(X.pn++pins)++[]:=hp
     exact b5y (b4W (b5d (I2.pin p (by simpa using hp')).1) hDge))
   refine⟨m',hm,i+1,ys++[y],its++[z],cap9,H8,I9,?_,a4,a1,?_,r3.append (.cons r8 .nil),w8⟩
   ·refine T.keep _ _ _ a3 fun b hb o e=>sb9.extBut b o ?_ e;obtain⟨o',ho'⟩:=hfo b hb;exact b5y (b4W (b5d ho') hDge)
   ·rw[p9];simp
  ·have q':xeB e s':=q;rw[hxe,hcenv] at q';exact q'
 have hl:=loop;rw[hcenv] at hl;exact a0r.compS (hl _ rfl) (T.self _ _ _ _ _ (T.keep _ _ _ st2 fun b _ o e=>old b o e) (hl _ rfl))
end
noncomputable def a6k(wi:TI3)(ix:List (Option Nat))(g:TG3)(te:TE3):En->MH->Prop:=fun ρ M=>wi ρ M fun J M1=>∃W:Nat->List T->MH->Prop,W 0 [] M1/\(∀i ys M,W i ys M->J.stay M/\i<J.items.length)/\J.items.length<sizeLine /\
 (∀i x ys M,J.items[i]?=some x->W i ys M->g x (a3Z ix ρ) M fun ρ2 M2=>te ρ2 M2 fun y M4=>W (i+1) (ys++[y]) M4)
noncomputable def dExK(K:PySem.W.Frag)(H0:Hp)(t:TE3):TE:=fun σ H Q2=>∃ρ M Q,t ρ M Q/\Kp K H0 H/\bE K ρ M Q σ H Q2
theorem HEXc.dxK{X:Cx}{H0:Hp}{e:Expr}{t:TE3}(h:HEXc X H0 e t):PEc X e (dExK X.K H0 t):=fun pins s σ H Q I ⟨ρ,M,Q3,q,k,b⟩=>h ρ M Q3 q pins s σ H Q I ⟨k,b⟩
theorem a9p{X:Cx}{ix:List (Option Nat)}{wi:TI3}{g2:TG}{g3:TG3}{te:TE3}(bt:BTg X.K ix g2 g3)(ρ0:En)(M0:MH)(h:a6k wi ix g3 te ρ0 M0)(σ0:St)(H0:Hp)(hr0:RhoR X.K σ0 H0 ρ0)(hh0:HR X.K H0 M0) :
  b0G (dI X.K ρ0 wi) ix g2 (dExK X.K H0 te) σ0 H0:=by
 exact⟨M0,_,h,hr0,hh0,fun J J2 M1 H1 k1 h1 ok q1=>by
  obtain⟨W,w0,wst,hsz,turn⟩:=q1;refine⟨fun i m ys H=>m=J.items.length-i/\i<=J.items.length/\ys.length<=i/\Kp X.K H1 H/\∃ts M,Reps X.K H ys ts/\HR X.K H M/\W i ts M,⟨_,rfl,b6b _,b6b _,Kp.refl,[],M1,.nil,h1,w0⟩,?_⟩;rintro i m ys H ⟨rfl,hi,hy,kk,ts,M,rts,hh,w⟩;obtain⟨st,hlt⟩:=wst i ts M w;have e:J.items[i]?=some J.items[i]:=b5g hlt;obtain⟨go,yl⟩:=ok.go i _ H M e kk hh st;refine⟨go,by lia,fun v H' y=>?_⟩;obtain⟨k2,h2,r2⟩:=yl v H' y;have kk2:=kk.trans k2;refine bt.br J.items[i] v _ M _ H' _ _ r2 (a6W ix (hr0.kp (k1.trans kk2))) h2 (turn i _ ts M e w) fun ρ3 M3 σ3 H3 k3 hr3 hh3 q3=>⟨ρ3,M3,_,q3,k1.trans (kk2.trans k3),hr3,hh3,fun t5 v5 M5 H5 k5 h5 r5 q5=>?_⟩;refine⟨_,b7P hlt (b6r i),rfl,hlt,?_,kk2.trans (k3.trans k5),ts++[t5],M5,?_,h5,q5⟩
  ·rw[b5r,b6R];lia
  ·exact(Reps.kp (k2.trans (k3.trans k5)) _ _ rts).append (.cons r5 .nil)⟩
section
variable{X:Cx}{Ha:Hp}{N':LSS}{ix:List (Option Nat)}{scope:b6Z}{elt iter tg:Expr}{pos:Pos}{wi:TI3}{g2:TG}{g3:TG3}{te:EK3->TE3}{E:EK3}
theorem b2R(A:AccH X Ha E)(hc:X.calm=true)(hex:X.ex=[])(hst:X.stack=X.env::X.outer)(hfr:X.env.frame=some X.env.locals)(hi:HI X tg iter wi)(S:BlkScope X N' ix scope)(bt:BTg X.K ix g2 g3)
  (hg:∀C s H fp pins,PG (blk X N' scope C s H fp pins) tg g2)
  (he:∀C s H fp pins pn xe H0 E3,Cx.exP ((blk X N' scope C s H fp pins).tried pn xe)->Acc ((blk X N' scope C s H fp pins).tried pn xe) H0 E3->HEXc ((blk X N' scope C s H fp pins).tried pn xe) H0 elt (te E3))
  (hs:∀x,foldedSetIterable iter X.env x=pure x:=by intro _;rfl) :
  HER X Ha (.ListComp elt [⟨tg,iter,[],0⟩] scope pos) (fun ρ M=>a6k wi ix g3 (te fun nm _ M'=>E nm ρ M') ρ M):=fun ρ0 M0 q pins s σ H I ⟨ka,hr,hh⟩=>by
 rw[eval_ListComp];refine a7Y (te:=dExK X.K H (te fun nm _ M'=>E nm ρ0 M')) (EV:=fun nm H'=>∃M,Kp X.K H H'/\HR X.K H' M/\E nm ρ0 M) hc hex hst hfr (hi.d (ρ:=ρ0)) S bt.own hg ?_ hs pins s σ H I (a9p bt ρ0 M0 q σ H hr hh) ?_
 ·intro C s1 H1 fp pins1 pn xe hp av;exact(he C s1 H1 fp pins1 pn xe H _ hp fun pins2 σ2 H2 s2 h0 a C0 nm ρ2 M2 J F old m k r2 hh2 e2=>av pins2 σ2 H2 s2 h0 a C0 nm J F old m ⟨M2,k,hh2,e2⟩).dxK
 ·intro H1 s6 a C nm I6 fly m ⟨M,k,hh1,e1⟩;exact A pins σ H1 s6 a C nm ρ0 M I6 fly m (ka.trans k) (hr.kp k) hh1 e1
end
end L2
namespace L2
open PySem PySem.Spec PyProof.Rows LM PySem.Calls PySem.NumText PySem.W
section
variable{M:b7r}{A:b5s}{E:VPR}{s:b4U}
theorem wpC.iteT{α:Type}{c:Prop}[Decidable c]{a b:Sem α}{Q:α->b4U->Prop}(h:c)(k:wpC M A a Q E s):wpC M A (if c then a else b) Q E s:=by rw[if_pos h];exact k
theorem wpC.iteF{α:Type}{c:Prop}[Decidable c]{a b:Sem α}{Q:α->b4U->Prop}(h:¬c)(k:wpC M A b Q E s):wpC M A (if c then a else b) Q E s:=by rw[if_neg h];exact k
theorem wpC.pureB{α β:Type}{a:α}{f:α->Sem β}{Q:β->b4U->Prop}(h:wpC M A (f a) Q E s):wpC M A ((b6D a:Sem α) >>= f) Q E s:=.bind (.pure h)
theorem wpC.eqB{α β:Type}{m:Sem α}{a:α}{f:α->Sem β}{Q:β->b4U->Prop}(e:m=b6D a)(h:wpC M A (f a) Q E s):wpC M A (m >>= f) Q E s:=by rw[e];exact .pureB h
theorem wpC.ruleB{β:Type}{n:String}{f:Unit->Sem β}{Q:β->b4U->Prop}(h:wpC M A (f ()) Q E s):wpC M A (PySem.rule n >>= f) Q E s:=.bind (.of (wpAny_rule h))
end
section
variable{prog:b5i}{w:b5B}{A:b5s}{E:VPR}{s:b4U}
theorem a7t{msg:Str}(hA:A.handled=none)(hm:msg.length<=sizeLine)(h:∀h' tk a args,b7i s.heap h' a "ValueError" args->E (.ref a) { s with heap:=h',toks:=tk }) :
  wpC (model prog w) A (PySem.mkStr msg >>= fun l=>PySem.newExc (b7I "ValueError") [l] >>= fun refusal=>PySem.markTheRefusal ["int.__new__"] refusal >>= fun _=>(PySem.raiseNew refusal:Sem b5c)) NoV E s:=by
 refine wpC.bind (wpC.of (wpAny_mkStr (Q:=fun l s1=>wpC (model prog w) A (PySem.newExc (b7I "ValueError") [l] >>= fun refusal=>PySem.markTheRefusal ["int.__new__"] refusal >>= fun _=>(PySem.raiseNew refusal:Sem b5c)) NoV E s1) ?_ hm));refine wpC.bind (wpC.of (wpAny_newExc_plain plainExc_ValueError (fun h' e made=>?_) (show 1<=sizeLine by decide)));refine wpC.bind (wpC.mark ?_);refine wpC.of ?_;unfold PySem.raiseNew;refine b4V (wpAny_handled_none hA ?_);dsimp only;exact b4V (b5k (b9l (h h' _ e _ made)))
theorem a7f:(b5w (toString "invalid literal for int() with base "++toString 10++toString ": ")).cps.size<=100:=by decide +kernel
theorem b0k(p:Str)(y:Array Nat)(h:p.cps.size<=100):(p++({ cps:=y.extract 0 200 }:Str)).length<=sizeLine:=by
 show(p.cps++y.extract 0 200).size<=sizeLine;rw[b9M,Array.size_extract];have h2:300<=sizeLine:=by decide
 lia
theorem a6R{p x:Str}{u:Tok}(hp:p.cps.size<=100)(hA:A.handled=none)(hx:(reprText x).length<=sizeLine)(h:∀h' tk a args,b7i s.heap h' a "ValueError" args->E (.ref a) { s with heap:=h',toks:=tk }) :
  wpC (model prog w) A (PySem.rule "int.__new__.invalid-literal" >>= fun _=>PySem.pyRepr (.str x u) >>= fun shown=>PySem.mkStr (p++{ cps:=shown.cps.extract 0 200 }) >>= fun l =>
   PySem.newExc (b7I "ValueError") [l] >>= fun refusal=>PySem.markTheRefusal ["int.__new__"] refusal >>= fun _=>(PySem.raiseNew refusal:Sem b5c)) NoV E s:=by
 refine wpC.ruleB (wpC.bind (wpC.of (wpAny_pyRepr_str ?_ hx)));exact a7t hA (b0k _ _ hp) fun h' tk a args made=>h h' tk a args made
theorem a9F{x:Str}{u:Tok}{text:List Nat}(hA:A.handled=none)(hx:(reprText x).length<=sizeLine)(hs:(text.takeWhile (· != 0)).length<=640)
  (hr:(int_private% "readNumeral") 0 10 (text.takeWhile (· != 0))=(int_private% "Numeral.invalid")\/∃i,(int_private% "readNumeral") 0 10 (text.takeWhile (· != 0))=(int_private% "Numeral.value") i/\¬((text.takeWhile (· != 0)).length==text.length)=true)
  (h:∀h' tk a args,b7i s.heap h' a "ValueError" args->E (.ref a) { s with heap:=h',toks:=tk }) :
  wpC (model prog w) A ((int_private% "intFromText") (.str x u) text 10) NoV E s:=by
 refine wpC.iteT hs ?_;refine wpC.pureB ?_;dsimp only;rcases hr with hr|⟨i,hr,hne⟩
 ·rw[hr];dsimp only;refine .eqB rfl (.iteF ?_ ?_)
  ·show ¬(false&&_)=true;rw[b6l];exact b5x
  ·exact a6R a7f hA hx h
 ·rw[hr];dsimp only;exact .iteF hne (a6R a7f hA hx h)
end
section
variable{prog:b5i}{w:b5B}{A:b5s}{E:VPR}{s:b4U}
theorem b4E{x:Str}{u:Tok}{Q:OVA->b4U->Prop}(h:Q none s):wpAny (model prog w) A (PySem.callSpecial? (.str x u) "__int__") Q E s:=by
 obtain⟨hp,g,d,tk,os⟩:=s;have f3:=KIN.str_int;have f6:typeOf (.str x u)=pure (.type "str"):=rfl
 repeat (any_goals (first|assumption|wp_step))
theorem b4F{x:Str}{u:Tok}{Q:OVA->b4U->Prop}(h:Q none s):wpAny (model prog w) A (PySem.specialOf (.str x u) "__index__") Q E s:=by
 obtain⟨hp,g,d,tk,os⟩:=s;have f3:=KIN.str_idx;have f6:typeOf (.str x u)=pure (.type "str"):=rfl
 repeat (any_goals (first|assumption|wp_step))
theorem b1W{x:Str}{u:Tok}{Q:OVA->b4U->Prop}(h:Q none s):wpAny (model prog w) A (PySem.specialOf (.str x u) "__trunc__") Q E s:=by
 obtain⟨hp,g,d,tk,os⟩:=s;have f3:=KIN.str_trunc;have f6:typeOf (.str x u)=pure (.type "str"):=rfl
 repeat (any_goals (first|assumption|wp_step))
theorem b4J{x:Str}{u:Tok}{Q:Option (List Nat)->b4U->Prop}(h:Q (some (numTextOf x)) s):wpAny (model prog w) A ((int_private% "numeralText?") (.str x u)) Q E s:=by
 obtain⟨hp,g,d,tk,os⟩:=s;have f6:typeOf (.str x u)=pure (.type "str"):=rfl
 repeat (any_goals (first|assumption|wp_step))
theorem a7u{x:Str}{u:Tok}(hA:A.handled=none)(hx:(reprText x).length<=sizeLine)(hl:x.length<=640)(hn:PySem.intText? x=none)
  (h:∀h' tk a args,b7i s.heap h' a "ValueError" args->E (.ref a) { s with heap:=h',toks:=tk }) :
  wpC (model prog w) A ((int_private% "intFromObject") (.str x u)) NoV E s:=by
 have hs:(numSeenOf x).length<=640:=b5l (seen_length x) hl;refine wpC.bind (wpC.of (b4E ?_));dsimp only;refine wpC.bind (wpC.of (b4F ?_));refine wpC.iteF (by decide) ?_;refine wpC.bind (wpC.of (b1W ?_));dsimp only;refine wpC.bind (wpC.of (b4J ?_));dsimp only;refine a9F hA hx hs ?_ h;rcases read0 x hs with ⟨m,h1,h2,h3⟩|⟨_,h1⟩
 ·rw[hn] at h1;cases h1
 ·exact h1
end
section
variable{prog:b5i}{w:b5B}{A:b5s}{E:VPR}{s:b4U}{R:b8r->b4U->Prop}
theorem a7v{x:Str}{u:Tok}{Q:Fin->b4U->Prop}(hA:A.handled=none)(hx:(reprText x).length<=sizeLine)(hl:x.length<=640)(hn:PySem.intText? x=none)
  (h:∀h' tk a args,b7i s.heap h' a "ValueError" args->E (.ref a) { s with heap:=h',toks:=tk }) :
  wpC (model prog w) A (b8p.«int.__new__» ⟨[.type "int",.str x u],[]⟩) Q E s:=by
 refine wpC.eqB (a:=true) rfl ?_;refine wpC.iteF (by decide) ?_;refine wpC.eqB (a:=true) F.conv_sub_int ?_;refine wpC.iteF (by decide) ?_;refine wpC.eqB F.madeHere_int ?_;refine wpC.iteF (show ¬((true&&(false:Bool))=true) by decide) ?_;refine wpC.iteF (show ¬(1+0>2) by decide) ?_;refine wpC.eqB (a:=PUnit.unit) rfl ?_;dsimp only;refine wpC.bind ((a7u hA hx hl hn h).mono (fun _ _ z=>b5A z) fun _ _ z=>z)
theorem a0r.builtin{id:String}{args:Args}{b:b8p}(hb:entryFor table id=some b)
  (h:wpC (model prog w) (A.under (.builtin id args)) (b args) (fun fin s'=>match fin with|.done f=>R (.ok f) s'|.again c'=>c'.quiet=true/\a0r (model prog w) A c' R s') (fun e s'=>R (.error e) s') s) :
  a0r (model prog w) A (.builtin id args) R s:=by
 refine .tree ?_
 show wpC _ _ (match entryFor table id with|some b=>b args|none=>unsupported ((withoutEnding? id "#data").getD id)) _ _ s
 rw[hb];exact h
theorem a0r.callBuiltin{id:String}{args:Args}{b:b8p}(hq:plainId id=true)(hb:entryFor table id=some b)(hc:checkBuiltinCall id args=pure ())
  (h:wpC (model prog w) A.in1 (b args) (fun fin s'=>match fin with|.done f=>R (.ok f) s'|.again c'=>c'.quiet=true/\a0r (model prog w) A c' R s') (fun e s'=>R (.error e) s') s):a0r (model prog w) A (.call (.builtin id) args) R s:=by
 refine .tree ?_
 show wpC _ A.in1 (do checkBuiltinCall id args;again (.builtin id args)) _ _ s
 rw[hc];refine .pureB (.pure (b9t (plainId_quiet hq _) (.builtin hb ?_)));rw[Around.under_plainId hq _];exact h
theorem a6f{x:Str}{u:Tok}{Q:VPR}(hA:A.handled=none)(hx:(reprText x).length<=sizeLine)(hl:x.length<=640)(hn:PySem.intText? x=none)
  (h:∀h' tk a args,b7i s.heap h' a "ValueError" args->E (.ref a) { s with heap:=h',toks:=tk }) :
  wpC (model prog w) A (PySem.call (.type "int") [.str x u]) Q E s:=by
 obtain⟨c,tl,hmro⟩:=F.called_int.mro;refine .call (.tree ?_);show wpC _ _ (callAny (.type "int") _) _ _ _;refine .pure ⟨b9s _ (by decide +kernel),.builtin F.entry_type_call ?_⟩;rw[Around.under_plain (weight_type_call_type "int" [.str x u] []) (units_type_call_type "int" [.str x u] [])];unfold b8p.«type.__call__»;dsimp only;rw[if_neg (show ¬((b7I "int"==b7I "type")=true) by decide +kernel)];refine wpC.iteF (fun z=>b5x (F.called_int.canCreate.symm.trans z)) ?_;refine wpC.eqB (F.typeCall_int_1 _) ?_;refine wpC.eqB hmro ?_;refine wpC.iteF (show ¬((false:Bool)=true) by decide) ?_;refine wpC.eqB F.called_int.made ?_;dsimp only;refine wpC.pureB ?_;refine wpC.bind (wpC.hold (wpC.call (a0r.callBuiltin F.called_int.plain F.entry_int_new (F.newCall_int_1 _) (a7v hA hx hl hn h))))
end
end L2
namespace L2
open PySem PySem.Spec PyProof.Rows LM PySem.W
section
variable{M:b7r}{A:b5s}{E:VPR}{s:b4U}
theorem a8H{base:Heap}{env:Env}{outer:List Env}{L e:Addr}{oe:Obj}{vs:Array b5c}{Q:Unit->b4U->Prop}
  (hfr:A.frames=some (env::outer)) (hf:env.frame=some L) (hl:s.heap.FunFrames base (env::outer)) (he:s.heap.get? e=some oe) (hd:oe.data=.fields vs) (h1:vs[1]?=some .none)
  (h:∀h' T oT ts,h'.get? e=some (b6d (·.setIfInBounds 1 (.ref T)) oe)->s.heap.get? T=none->T≠e->h'.get? T=some oT->oT.data=.fields ts->ts[3]?=some (rawInt L) ->
   (∀b o,b≠e->b∉(env::outer).filterMap (·.frame)->s.heap.get? b=some o->h'.get? b=some o)->s.heap.UpToSlots h'->Q () { s with heap:=h' }):wpAny M A (noteFrame (.ref e) env) Q E s:=by
 have hsz:1<vs.size:=(b5X.mp h1).1
 have hne:∀b o,s.heap.get? b=some o->(∀ws,o.data≠.fields ws)->b≠e:=fun b o e1 d z=>by
  rw[z,he] at e1;cases e1;exact d _ hd
 have hnf:e∉(env::outer).filterMap (·.frame):=fun hm=>by
  obtain⟨_,o,ho,d⟩:=hl.mem hm;rw[he] at ho;cases ho;exact d _ hd
 unfold noteFrame;simp only[hf];refine b4V (b6H he hd h1 ?_);rw[if_neg (by decide)];refine b4V (wpAny_frameOf_fun hfr hl hf fun h₁ hs₁=>?_);refine b4V (wpAny_entryPlaceOf fun pl hpl=>?_);unfold EntryCells.newEntry newFields;refine b4V (b6m ?_ (hpl.sizeOk5 _ _ _ _ _));have he₁:h₁.get? e=some oe:=(hs₁.2.1 e hnf).trans he;obtain⟨T,hT⟩:∃T,T=h₁.objs.size:=⟨_,rfl⟩;have hTn:h₁.get? T=none:=hT▸b7E (b5h _);have hTe:T≠e:=fun z=>by rw[z,he₁] at hTn;cases hTn
 obtain⟨oT,hoT⟩:∃oT:Obj,oT={ cls:=.type "traceback",dict:=none,data:=.fields ([b5R,.ref L,.none,rawInt L,.none]++(if pl.isEmpty then b5e 6 b5R else pl)).toArray }:=⟨_,rfl⟩
 have k1:∀b o,h₁.get? b=some o->(h₁.push oT).get? b=some o:=fun b o q=>b5f _ q;have he2:(h₁.push oT).get? e=some oe:=k1 _ _ he₁;have hT2:(h₁.push oT).get? T=some oT:=by rw[hT];exact b5C h₁ (by rw[hoT];rfl)
 rw[<- hT,<- hoT];refine b8q (s:={ s with heap:=h₁.push oT }) he2 hd hsz (h _ T oT _ (b5T _ he2 (b6f (b5H hd _))) ?_ hTe ?_ (by rw[hoT]) ?_ ?_ ?_)
 ·cases q:s.heap.get? T with
  |none=>rfl
  | some o =>
    obtain⟨sl,e2⟩:=hs₁.2.2 T o q;rw[hTn] at e2;cases e2
 ·rw[b5D _ _ (b6n hTe)];exact hT2
 ·first
   |(simp;done)
   |(rcases hpl with rfl|⟨_,_,_,_,_,_,_,rfl⟩<;>simp)
 ·intro b o hb hf' q;rw[b5D _ _ (b6n hb)];exact k1 _ _ ((hs₁.2.1 b hf').trans q)
 ·intro b o q d;obtain⟨sl,e2⟩:=hs₁.2.2 b o q;refine⟨sl,?_⟩;rw[b5D _ _ (b6n (hne b o q d))];exact k1 _ _ e2
theorem a2c{e T:Addr}{oe oT:Obj}{vs ts:Array b5c}{fr:Option Addr}{Q:Unit->b4U->Prop}(he:s.heap.get? e=some oe)(hd:oe.data=.fields vs)(h1:vs[1]?=some (.ref T))(hT:s.heap.get? T=some oT)(hdT:oT.data=.fields ts)(h3:3<ts.size)
  (h:∀h',h'.get? T=some (b6d (·.setIfInBounds 3 (fr.elim b5R fun f=>rawInt f)) oT)->(∀b,b≠T->h'.get? b=s.heap.get? b)->Q () { s with heap:=h' }):wpAny M A (setFlight (.ref e) fr) Q E s:=by
 unfold setFlight;refine b4V (b6H he hd h1 ?_);rw[if_pos (show(b5M T != b5R)=true by simp)];exact b8q hT hdT h3 (h _ (b5T _ hT (b6f (b5H hdT _))) fun b hb=>b5D _ _ (b6n hb))
end
section
variable{prog:b5i}{w:b5B}{A:b5s}{E:VPR}{s:b4U}{env:Env}
theorem a4Y:entryFor table "proto.unchain"=some b8p.«proto.unchain»:=entryFor_of_tree (by kernel_rfl)
theorem a5k{a e:Addr}{oa:Obj}{va:Array b5c}{Q:VPR}(ha:s.heap.get? a=some oa)(hd:oa.data=.fields va)(h2:va[2]?=some .none)(hq:Q .none s) :
  wpAny (model prog w) A (runValue (.builtin "proto.unchain" ⟨[.ref e,.ref a,.ref a,.bool false],[]⟩)) Q E s:=by
 obtain⟨hp,g,d,tk,os⟩:=s;refine wpAny_runValue (c0o a4Y ?_);unfold b8p.«proto.unchain»;dsimp only;refine b4V (b6H ha hd h2 ?_);rw[if_pos (by rfl)];exact b5k hq
variable{nm q:Str}{C N:Addr}{bs bm:LSV}{hdct:Bool}{sn:LSS}{sub:LSV}{ab:Bool}{col:Option Bool}{dd:Option Addr}{k0 k1 k2 k3 k5:OVA}{newId:String}
theorem a8n{x c:Sem b5c}{a:Addr}{Q:Flow->b4U->Prop}(hbase:bm.contains (.type "BaseException")=true)(hh:A.handled=some (.ref a))(hc:∀{s:b4U} {Q:VPR},Q .none s->wpAny (model prog w) A c Q E s)
  (h:wpAny (model prog w) A x (fun v s₁=>∃e t oa va,v=.ref e/\e≠a/\s₁.heap.get? C=some (excClassObj nm q C N bs bm hdct sn sub ab col dd k0 k1 k2 k3 k5 newId)/\C≠e /\
   s₁.heap.get? e=some { cls:=.ref C,data:=.fields #[.ref t,.none,.none,.none,.bool false,.none] }/\s₁.heap.get? a=some oa/\oa.data=.fields va/\va[2]?=some .none /\
   ∀h',h'.get? e=some { cls:=.ref C,data:=.fields #[.ref t,.none,.ref a,.none,.bool true,.none] }->(∀b,b≠e->h'.get? b=s₁.heap.get? b)->E (.ref e) { s₁ with heap:=h' }) E s) :
  wpAny (model prog w) A (raiseStmt env (some x) (some c)) Q E s:=by
 have hcB:(b5M C::bm).contains (.type "BaseException")=true:=by rw[List.contains_cons,hbase,Bool.or_true]
 unfold raiseStmt;refine b4V (b5I h (fun v s₁ h₁=>?_) fun _ _ x=>x);obtain⟨e,t,oa,va,rfl,hea,hC,hCe,he,ha,hda,h2,hE⟩:=h₁;obtain⟨hp,g,d,tk,os⟩:=s₁
 dsimp only at hC he ha hE|-
 refine b4V (b6t (hc ?_));refine b4V (b5k ?_)
 repeat (first|with_reducible refine b7x he ?_|with_reducible refine b7x hC ?_|(with_reducible refine wpAny_isSubtype_exc hC ?_;rw[hcB])|wp_step)
 clear h hc
 have ae:∀b,b≠e->((hp.update e (b6d fun x=>x.setIfInBounds 3 b5R)).update e (b6d fun x=>x.setIfInBounds 4 (b7q true))).get? b=hp.get? b:=fun b hb=>by
  rw[b5D _ _ (b6n hb),b5D _ _ (b6n hb)]
 have e1:=b5T (b6d fun x=>x.setIfInBounds 3 b5R) he (b6f (b5H rfl _));have e2:=b5T (b6d fun x=>x.setIfInBounds 4 (b7q true)) e1 (b6f (b5H (b5H rfl _) _))
 generalize (hp.update e (b6d fun x=>x.setIfInBounds 3 b5R)).update e (b6d fun x=>x.setIfInBounds 4 (b7q true))=h4 at ae e2|-
 have d2:(b6d (fun x=>x.setIfInBounds 4 (b7q true)) (b6d (fun x=>x.setIfInBounds 3 b5R) ({ cls:=.ref C,data:=.fields #[.ref t,.none,.none,.none,.bool false,.none] }:Obj)))=({ cls:=.ref C,data:=.fields #[.ref t,.none,.none,.none,.bool true,.none] }:Obj):=rfl;rw[d2] at e2;unfold PySem.raiseNew;refine b4V (wpAny_handled ?_);rw[hh];dsimp only;rw[if_pos (show(b5M a != b5M e)=true by simp[b6n hea])];refine b4V (b6t (a5k (s:=⟨h4,g,d,tk,os⟩) ((ae a (b6n hea)).trans ha) hda h2 ?_));refine b4V ?_;have w:=b8q (M:=model prog w) (A:=A) (E:=E) (s:=⟨h4,g,d,tk,os⟩) (x:=.ref a) (i:=2) (Q:=fun _ s'=>wpAny (model prog w) A (throw (b5M e):Sem Flow) Q E s') e2 rfl (show 2<6 by decide) (b9l (hE _ ?_ fun b hb=>?_))
 ·exact w
 ·exact b5T _ e2 (b6f (b5H rfl _))
 ·exact(b5D _ _ (b6n hb)).trans (ae b hb)
end
section
variable{X:Cx}{e:Expr}{te:TE3}{pos:Pos}
theorem a7D{x:Str}{np cpos npos:Pos}{nk:Nat}{pins:PNS}{σ:St}{H:Hp}{s:b4U}{ρ:En}{M:MH}{C a:Addr}{E':VPR}{Q:Flow->b4U->Prop}{R:MH->Prop}
  (hm:X.mg x=some (.ref C)) (hx:PySem.W.excIn X.K C bmVE "ValueError.__new__"=true) (hxe:∀v s,¬X.xe v s) (ha:HE X e te) (hh:X.A.handled=some (.ref a)) (I:Inv X pins σ H s) (hr:RhoR X.K σ H ρ) (hM:HR X.K H M) (ht:te ρ M fun _ M1=>R M1)
  (hra:∃oa,s.heap.get? a=some oa/\(∃va,oa.data=.fields va/\va[2]?=some .none)/\(a,oa)∈X.pn++pins)
  (hE:∀s1 H1 M1 hm' e2 vs t h',Inv X pins σ H1 s1->Kp X.K H H1->HR X.K H1 M1->R M1->b9f s1.heap hm' e2 (.ref C) vs->h'.get? e2=some { cls:=.ref C,data:=.fields #[.ref t,.none,.ref a,.none,.bool true,.none] }->(∀b,b≠e2->h'.get? b=hm'.get? b)->E' (.ref e2) { s1 with heap:=h' })
  (hg:Gl X x:=by rfl) (hdb:QDD x:=by decide)
  (he:starEach [e] X.env=(false,eval e X.env)::starEach [] X.env:=by rfl) :
  wpAny (model X.prog X.w) X.A (exec (.Raise (some (.Call (.Name x np) [e] [] cpos)) (some (.Constant .none nk npos)) pos) X.env) Q E' s:=by
 obtain⟨bm,N,nm,qn,bs,hd,sn,sub,ab,col,dd,k0,k1,k2,k3,k5,mN,hC,hN,hni,TL⟩:=a9h I.ok.mod.kin hx;rw[arm_exec_Raise];refine b4V (b6j ?_);refine a8n (C:=C) (nm:=nm) (q:=qn) (N:=N) (bs:=bs) (bm:=bm) (hdct:=hd) (sn:=sn) (sub:=sub) (ab:=ab) (col:=col) (dd:=dd) (k0:=k0) (k1:=k1) (k2:=k2) (k3:=k3) (k5:=k5) (newId:="ValueError.__new__") (TL.hasType (by decide)) hh ?_ ?_
 ·intro s1 Q1 h1;exact b4V (b5k (b4V (b6j (b5k h1))))
 ·refine b4V (wpAny_Call_ofName (b6k (a0X (X:={ X with xe:=fun _ _=>False }) (I.wish _) hg hm ?_ hdb)));unfold callWith
  have w1:=(a0a ha a0d he) ρ M (fun ts M1=>ts.length<=1/\R M1) (show te ρ M (fun y M1=>([y]:List T).length<=1/\R M1) from by
   have h':te ρ M fun _ M1=>R M1:=ht
   simpa using h') cpos pins s σ H (fun vs H1=>∃M1,vs.length<=1/\Kp X.K H H1/\HR X.K H1 M1/\R M1) I ⟨hr,hM,fun ts vs M1 H1 k1 h1 r1 q1=>⟨M1,by rw[r1.length];exact q1.1,k1,h1,q1.2⟩⟩
  rw[he] at w1|-
  refine b4V (b6t (b7F (b5I w1 (fun us s1 ⟨vs,H1,I1,r,M1,hl,kk,h1,q1⟩=>?_) fun v s z=>absurd z (hxe v s))));refine b4V (b6j ?_);obtain⟨hp,g,d,tk,os⟩:=s1;have C1:=I1.bk _ _ hC
  have hlen:us.length<=sizeLine:=by
   have:us.length<=1:=by rw[<- r.length];exact hl
   exact b5l this (by decide)
  obtain⟨oa,ha0,⟨va,hda,h2⟩,hpin⟩:=hra;have ha1:=(I1.pin _ hpin).1;refine b4V (wpAny_keeperOf_exc C1 ?_);refine b4V (wpAny_call_exc_subU (hrest:=hlen) PySem.F.excBase_ValueError (by decide) PySem.F.excBase_ValueError (TL.keeps I1.bk) (mN:=mN) C1 (hN.keeps I1.bk) hni fun h' e2 hmd=>b4V (b6t (c0p (b5k (b4V (b6j (b5k ?_)))))));obtain⟨t,ht2,htn,_⟩:=hmd.there
  have hea:e2≠a:=fun z=>by
   have:=hmd.new;rw[z] at this;rw[show hp.get? a=some oa from ha1] at this;cases this
  have hCe:C≠e2:=fun z=>by
   have:=hmd.new;rw[<- z,C1] at this;cases this
  exact⟨e2,t,oa,va,rfl,hea,hmd.keeps _ _ C1,hCe,ht2,hmd.keeps _ _ ha1,hda,h2,fun h'' g1 g2=>hE ⟨hp,g,d,tk,os⟩ H1 M1 h' e2 us t h'' I1 kk h1 q1 hmd g1 g2⟩
end
section
variable{X:Cx}{pins:PNS}{σ:St}{H:Hp}{s:b4U}
theorem Inv.flown1{h2:Heap}{T:Addr}(I:Inv X pins σ H s)(hex:X.ex=[])(hst:X.stack=X.env::X.outer)(hfr:X.env.frame=some X.env.locals)
  (k:∀b o,b≠T->b∉frs X.stack->s.heap.get? b=some o->h2.get? b=some o) (up:s.heap.UpToSlots h2) (nT:H T=none/\X.s₀.heap.get? T=none/\∀p∈X.pn++pins,p.1≠T):Inv X pins σ H { s with heap:=h2 }:=by
 refine I.flown (B:=PySem.W.hideAll s.heap (T::frs X.stack)) (a:=T) (T:=T) hex hst hfr (fun b o q hf g1 _=>PySem.W.hideAll_get _ q fun hm=>?_) (fun b o q=>?_) up nT nT
 ·rcases b5b.mp hm with z|z
  ·exact g1 z
  ·exact hf z
 ·refine k b o (fun z=>?_) (fun z=>?_) (PySem.W.of_hideAll _ q)
  ·rw[PySem.W.hideAll_none _ (by rw[z];exact b5m)] at q;cases q
  ·rw[PySem.W.hideAll_none _ (b4X _ z)] at q;cases q
theorem Inv.newAt{T:Addr}(I:Inv X pins σ H s)(hex:X.ex=[])(e:s.heap.get? T=none):H T=none/\X.s₀.heap.get? T=none/\∀p∈X.pn++pins,p.1≠T:=by
 refine⟨?_,b5t fun q=>?_,fun p hp q=>?_⟩
 ·cases q:H T with
  |none=>rfl
  |some u=>obtain⟨o,e'⟩:=(I.hok T u q).has;rw[e] at e';cases e'
 ·obtain⟨o,e'⟩:=I.old hex q;rw[e] at e';cases e'
 ·have e':=(I.pin p hp).1;rw[q,e] at e';cases e'
theorem Inv.setT{h2:Heap}{T:Addr}{oT:Obj}{ts:Array b5c}(I:Inv X pins σ H s)(hex:X.ex=[])(hst:X.stack=X.env::X.outer)(hfr:X.env.frame=some X.env.locals)
  (hT:s.heap.get? T=some oT) (hd:oT.data=.fields ts) (k:∀b,b≠T->h2.get? b=s.heap.get? b) (nT:H T=none/\X.s₀.heap.get? T=none/\∀p∈X.pn++pins,p.1≠T):Inv X pins σ H { s with heap:=h2 } :=
 I.flown1 hex hst hfr (fun b o hb _ q=>(k b hb).trans q) (fun b o q d=>⟨o.slots,by
  have hb:b≠T:=fun z=>by rw[z,hT] at q;cases q;exact d _ hd
  exact(k b hb).trans q⟩) nT
theorem Inv.frames1{T:Addr}{oe:Obj}{vs:Array b5c}(I:Inv X pins σ H s)(hst:X.stack=X.env::X.outer):s.heap.FunFrames (PySem.W.hideAll s.heap (T::frs X.stack)) (X.env::X.outer):=by
 rw[<- hst];exact a0G I.stack fun b hb=>PySem.W.hideAll_none _ (b4X _ hb)
end
section
variable{X:Cx}{pins:PNS}{σ:St}{H:Hp}{s:b4U}
theorem b0e{e2 C:Addr}{h':Heap}{o2:Obj}{vs:Array b5c}{t:b5c}(I:Inv X pins σ H s)(hex:X.ex=[])(hst:X.stack=X.env::X.outer)(hfr:X.env.frame=some X.env.locals)(hA:X.A.frames=some (X.env::X.outer)){A':b5s}(hA':A'.frames=some (X.env::X.outer))
  (hn:s.heap.get? e2=none) {hm:Heap} (hk:∀b o,s.heap.get? b=some o->hm.get? b=some o) (he:h'.get? e2=some o2) (hc:o2.cls=.ref C) (hd:o2.data=.fields vs) (h0:vs[0]?=some t) (h1:vs[1]?=some .none) (hob:∀b,b≠e2->h'.get? b=hm.get? b)
  (acc:∀s6,Inv X pins σ H s6->FlyH H X.s₀.heap s6.heap e2 (.ref C) X.env.locals->X.xe (.ref e2) s6) :
  notedBy (model X.prog X.w) A' X.env (cameBackBy (model X.prog X.w) X.A X.env X.xe) (.ref e2) { s with heap:=h' }:=by
 have nE:=I.newAt hex hn;have ne:∀b o,s.heap.get? b=some o->b≠e2:=fun b o q z=>by rw[z,hn] at q;cases q
 have I1:Inv X pins σ H { s with heap:=h' }:=I.kept (t':=s.toks) fun b o q=>(hob b (ne b o q)).trans (hk b o q);have hfx:frs (X.env::X.outer)=frs X.stack:=by rw[hst]
 refine a8H (s:={ s with heap:=h' }) hA' hfr (I1.frames1 (T:=e2) (oe:=o2) (vs:=vs) hst) he hd h1 fun h8 T oT ts g1 g2 g3 g4 g5 g6 g7 up=>?_;have g7':∀b o,b≠e2->b∉frs X.stack->h'.get? b=some o->h8.get? b=some o:=fun b o x y z=>g7 b o x (by rw[<- hfx] at y;exact y) z;have I8:Inv X pins σ H { s with heap:=h8 }:=Inv.flown1 (s:={ s with heap:=h' }) I1 hex hst hfr g7' up nE;have nT:=I1.newAt hex g2;have hsz:1<vs.size:=(b5X.mp h1).1;have dE:=b5H hd (·.setIfInBounds 1 (b5M T));have v1:(vs.setIfInBounds 1 (b5M T))[1]?=some (.ref T):=by simp[hsz]
 have v0:(vs.setIfInBounds 1 (b5M T))[0]?=some t:=by rw[Array.getElem?_setIfInBounds_ne (by decide)];exact h0
 have h3:3<ts.size:=(b5X.mp g6).1;unfold cameBackBy;refine b4V (b6H (s:={ s with heap:=h8 }) g1 dE v1 ?_);rw[if_neg (show ¬((b5M T==b5R)=true) by simp)];refine a2c (s:={ s with heap:=h8 }) g1 dE v1 g4 g5 h3 fun h9 k1 k2=>?_;have I9:Inv X pins σ H { s with heap:=h9 }:=Inv.setT (s:={ s with heap:=h8 }) I8 hex hst hfr g4 g5 k2 nT;refine acc _ I9 ⟨nE.1,nE.2.1,_,_,t,(k2 e2 (b6n g3)).trans g1,(Obj.cls_mapFields ..).trans hc,dE,v0,T,_,_,v1,g3,nT.1,nT.2.1,k1,b5H g5 _,?_⟩;rw[hfr];simp[h3]
end
theorem b2q:isSubtype (.type "ValueError") (.type "BaseException")=pure true:=by rw[b9g];kernel_rfl
theorem b2p:isSubtype (.type ((c0s "ValueError").elim "type" fun x=>x.metatype)) (.type "tuple")=pure false:=by
 rw[show((c0s "ValueError").elim "type" fun x=>x.metatype)="type" by decide +kernel,b9g];kernel_rfl
theorem b4f:isSubtype (.type "ValueError") (.type "ValueError")=pure true:=by rw[b9g];kernel_rfl
section
variable{X:Cx}{Ha:Hp}{pins:PNS}{σ:St}{H:Hp}{s:b4U}{E:EK3}
theorem a7R{x:Str}{m:Expr}{tx:TE3}{vp bp bcp np rp hpos:Pos}{nk tk:Nat}{a C:Addr}{h':Heap}{args:LSV}{ρ:En}{M:MH}{Q:Flow->b4U->Prop}(A:AccH X Ha E)(hex:X.ex=[])(hst:X.stack=X.env::X.outer)(hfr:X.env.frame=some X.env.locals)
  (hm:X.mg x=some (.ref C)) (hx:PySem.W.excIn X.K C bmVE "ValueError.__new__"=true) (hmsg:∀a,HE (X.held a) m tx) (hVE:X.mg "ValueError"=none) (I:Inv X pins σ H s) (made:b7i s.heap h' a "ValueError" args) (ka:Kp X.K Ha H) (hr:RhoR X.K σ H ρ) (hh:HR X.K H M)
  (q:tx ρ M fun _ M2=>E x ρ M2) (hgV:Gl X "ValueError") (hg:Gl X x) (hdb:QDD x) (he:starEach [m] X.env=(false,eval m X.env)::starEach [] X.env) :
  wpAny (model X.prog X.w) X.A (noteFrame (.ref a) X.env) (fun _ s2=>wpAny (model X.prog X.w) X.A (setFlight (.ref a) none) (fun _ s3=>wpAny (model X.prog X.w) X.A (handleBy (.ref a) X.env
   [.ExceptHandler (some (.Name "ValueError" vp)) none [.Raise (some (.Call (.Name x bp) [m] [] bcp)) (some (.Constant .none nk np)) rp] hpos]) Q X.xe s3) X.xe s2) X.xe { s with heap:=h',toks:=tk }:=by
 have hA:X.A.frames=some (X.env::X.outer):=by rw[<- hst];exact I.ok.frames
 have nA:=I.newAt hex made.new;have I1:Inv X pins σ H { s with heap:=h',toks:=tk }:=I.kept (t':=tk) made.keeps;obtain⟨t,hea,htn,_⟩:=made.there;have hfx:frs (X.env::X.outer)=frs X.stack:=by rw[hst]
 generalize hs1:({ s with heap:=h',toks:=tk }:b4U)=s1 at I1|-
 have hp1:s1.heap=h':=by rw[<- hs1]
 rw[<- hp1] at hea;clear made htn hs1 hp1;refine a8H hA hfr (I1.frames1 (T:=a) (oe:={ cls:=.type "ValueError",data:=.fields #[.ref t,.none,.none,.none,.bool false,.none] }) (vs:=#[]) hst) hea rfl rfl fun h3 T oT ts g1 g2 g3 g4 g5 g6 g7 up=>?_;have I3:Inv X pins σ H { s1 with heap:=h3 }:=I1.flown1 hex hst hfr (fun b o x y z=>g7 b o x (by rw[<- hfx] at y;exact y) z) up nA;have nT:=I1.newAt hex g2;have g1':h3.get? a=some { cls:=.type "ValueError",data:=.fields #[.ref t,.ref T,.none,.none,.bool false,.none] }:=g1;have h3s:3<ts.size:=(b5X.mp g6).1;refine a2c (s:={ s1 with heap:=h3 }) g1' rfl rfl g4 g5 h3s fun h4 k1 k2=>?_;have I4:Inv X pins σ H { s1 with heap:=h4 }:=Inv.setT (s:={ s1 with heap:=h3 }) I3 hex hst hfr g4 g5 k2 nT;have e4:=(k2 a (b6n g3)).trans g1';have g5':=b5H g5 (·.setIfInBounds 3 (((none:Option Addr)).elim b5R fun f=>rawInt f));have h4s:3<(ts.setIfInBounds 3 (((none:Option Addr)).elim b5R fun f=>rawInt f)).size:=by rw[Array.size_setIfInBounds];exact h3s
 have J4:Inv (X.held a) pins σ H { s1 with heap:=h4 }:=⟨I4.ok.held a,I4.os,I4.bare,I4.base,I4.loc,I4.cell,I4.free,I4.freeC,I4.pin,I4.hok,I4.len⟩;have hgV':Gl (X.held a) "ValueError":=hgV;refine wpAny_handleBy_builtin b2q b2p b4f (a2l (X:=X.held a) J4 hgV' hVE rfl ⟨rfl,⟨_,e4,rfl⟩,?_⟩ (by decide) (by decide));rw[if_pos rfl];refine a2c (s:={ s1 with heap:=h4 }) e4 rfl rfl k1 g5' h4s fun h5 j1 j2=>?_;have I5:Inv X pins σ H { s1 with heap:=h5 }:=Inv.setT (s:={ s1 with heap:=h4 }) I4 hex hst hfr k1 g5' j2 nT;have e5:=(j2 a (b6n g3)).trans e4
 have J5:Inv (X.held a) ((a,({ cls:=.type "ValueError",data:=.fields #[.ref t,.ref T,.none,.none,.bool false,.none] }:Obj))::pins) σ H { s1 with heap:=h5 }:=by
  have J:Inv (X.held a) pins σ H { s1 with heap:=h5 }:=⟨I5.ok.held a,I5.os,I5.bare,I5.base,I5.loc,I5.cell,I5.free,I5.freeC,I5.pin,I5.hok,I5.len⟩;refine⟨J.ok,J.os,J.bare,J.base,J.loc,J.cell,J.free,J.freeC,fun p hp=>?_,J.hok,J.len⟩;rcases b5J.mp hp with z|z
  ·exact J.pin p (b5v _ z)
  ·rcases b5b.mp z with z|z
   ·subst z;refine⟨e5,nA.1,fun z=>?_,fun z=>?_,fun v z=>nomatch z⟩
    ·obtain⟨m0,⟨o,es,ep,ho,hd,_⟩,_⟩:=I5.loc;have z':a=X.env.locals:=z;rw[<- z',e5] at ho;cases ho;cases hd
    ·have hm2:a∈frs X.outer:=z;have hm3:a∈frs X.stack:=by rw[hst];unfold frs;rw[b5Z,hfr];exact b4X _ hm2
     obtain⟨o,ho,hd⟩:=(I5.stack.mem hm3).2;rw[e5] at ho;cases ho;exact hd _ rfl
   ·exact J.pin p (b4Z _ z)
 refine b8F ?_;refine a7D (X:=X.held a) hm hx (fun _ _ z=>z) (hmsg a) rfl J5 hr hh q ⟨_,e5,⟨_,rfl,rfl⟩,b4Z _ b5m⟩ (fun s6 H6 M6 hm' e2 vs t2 h7 J6 kk hh6 ex made2 w1 w2=>?_) hg hdb he
 have I6:Inv X pins σ H6 s6:=⟨I.ok,J6.os,J6.bare,J6.base,J6.loc,J6.cell,J6.free,J6.freeC,fun p hp=>J6.pin p (by
  rcases b5J.mp hp with z|z
  ·exact b5v _ z
  ·exact b4Z _ (b4X _ z)),J6.hok,J6.len⟩
 exact b0e (A':=X.A.mark (some (.ref a))) I6 hex hst hfr hA hA made2.new made2.keeps w1 rfl rfl rfl rfl w2 fun s8 I8 fly=>A pins σ H6 s8 e2 C x ρ M6 I8 fly hm (ka.trans kk) (hr.kp kk) hh6 ex
end
noncomputable def a6j(E:EK3)(nm:Str)(i:Nat)(te tx:TE3):TS3:=fun D ρ M=>te ρ M fun t M1=>∃x,t=.str x/\x.length<=640 /\
 ((∃n,PySem.intText? x=some n/\D.nx (ρ.set i (some (.int n))) M1)\/(PySem.intText? x=none/\(reprText x).length<=sizeLine/\tx ρ M1 fun _ M2=>E nm ρ M2))
section
variable{X:Cx}{Ha:Hp}{E:EK3}{e m:Expr}{te tx:TE3}{pos:Pos}
theorem a9P{i:Nat}{nv x:Str}{np ip cpos apos vp bp bcp npos rp hpos:Pos}{nk:Nat}(A:AccH X Ha E)(hcalm:X.calm=true)(hex:X.ex=[])(hst:X.stack=X.env::X.outer)(hfr:X.env.frame=some X.env.locals)
  (hx:XCl X.K X.mg x) (hint:X.mg "int"=none) (hVE:X.mg "ValueError"=none) (he:∀pn xe,HE (X.tried pn xe) e te) (hmsg:∀a,HE (X.held a) m tx) (hN:X.N.Nodup) (hi:X.N[i]?=some nv:=by rfl) (hl:Loc X.env.scope nv:=by first|exact b7h rfl|exact b8u rfl)
  (hgI:Gl X "int":=by rfl) (hgV:Gl X "ValueError":=by rfl) (hg:Gl X x:=by rfl) (hdb:QDD x:=by decide) (hem:starEach [m] X.env=(false,eval m X.env)::starEach [] X.env:=by rfl) (hee:starEach [e] X.env=(false,eval e X.env)::starEach [] X.env:=by rfl)
  (hs:swapsWith (.Call (.Name "int" ip) [e] [] cpos) (some (.Name nv np)) apos.line X.env=pure false:=by rfl)
  (hf:X.fn nv=true\/X.env.scope.names.lookup nv=some .local:=by first|exact .inl rfl|exact .inr rfl|assumption) :
  HSXc X Ha (.Try [.Assign [.Name nv np] (.Call (.Name "int" ip) [e] [] cpos) apos] [.ExceptHandler (some (.Name "ValueError" vp)) none [.Raise (some (.Call (.Name x bp) [m] [] bcp)) (some (.Constant .none nk npos)) rp] hpos] [] [] pos) (a6j E x i te tx):=by
 intro D ρ M q pins s σ H D2 I ⟨ka,hr,hh,en⟩;obtain⟨C,hm,hxc⟩:=hx;refine .try_ ?_
 obtain⟨xe0,hxe⟩:∃xe0:VPR,xe0=fun e s1=>wpAny (model X.prog X.w) X.A (noteFrame e X.env) (fun _ s2=>wpAny (model X.prog X.w) X.A (setFlight e none) (fun _ s3=>wpAny (model X.prog X.w) X.A (handleBy e X.env
   [.ExceptHandler (some (.Name "ValueError" vp)) none [.Raise (some (.Call (.Name x bp) [m] [] bcp)) (some (.Constant .none nk npos)) rp] hpos]) (SP X pins D2) X.xe s3) X.xe s2) X.xe s1:=⟨_,rfl⟩
 rw[<- hxe];have I':Inv (X.tried X.pn xe0) pins σ H s:=⟨I.ok.tried _ _,I.os,I.bare,I.base,I.loc,I.cell,I.free,I.freeC,I.pin,I.hok,I.len⟩;have back:∀{H1 s1},Inv (X.tried X.pn xe0) pins σ H1 s1->Inv X pins σ H1 s1:=fun J=>⟨I.ok,J.os,J.bare,J.base,J.loc,J.cell,J.free,J.freeC,J.pin,J.hok,J.len⟩;refine .rows (.set ?_ hs);rw[b7T];refine .bind (.of (a2l I hgI hint rfl ?_ (by decide) (by decide)));have w1:=(a0a (he X.pn xe0) a0d hee) ρ M (fun ts M1=>∃x0,ts=[.str x0]/\x0.length<=640/\((∃n,PySem.intText? x0=some n/\D.nx (ρ.set i (some (.int n))) M1)\/(PySem.intText? x0=none/\(reprText x0).length<=sizeLine/\tx ρ M1 fun _ M2=>E x ρ M2)))
  (show te ρ M (fun t M1=>∃x0,([t]:List T)=[.str x0]/\_) from by simpa [a6j] using q) cpos pins s σ H
  (fun vs H1=>∃M1 x0,vs=[.str x0]/\Kp X.K H H1/\HR X.K H1 M1/\x0.length<=640/\((∃n,PySem.intText? x0=some n/\D.nx (ρ.set i (some (.int n))) M1)\/(PySem.intText? x0=none/\(reprText x0).length<=sizeLine/\tx ρ M1 fun _ M2=>E x ρ M2))) I'
  ⟨hr,hh,fun ts vs M1 H1 k1 h1 r1 ⟨x0,e0,q1⟩=>⟨M1,x0,by
   subst e0;obtain⟨v,rfl,rv⟩:=a1F r1;obtain rfl:=a0z rv
   rfl,k1,h1,q1⟩⟩
 have main:wpC (model X.prog X.w) X.A (spliced (backTo cpos (starEach [e] X.env))) (fun us s1=>True/\wpC (model X.prog X.w) X.A (PySem.call (.type "int") ([]++us)) (fun v s2=>wpAny (model X.prog X.w) X.A (storeName X.env nv v) (fun _ s3=>wpC (model X.prog X.w) X.A (execs [] X.env)
   (fun f s1=>match f with|.next=>wpC (model X.prog X.w) X.A (execs [] X.env) (SP X pins D2) X.xe s1|f=>SP X pins D2 f s1) xe0 s3) xe0 s2) xe0 s1) xe0 s:=by
  refine .of (b5I w1 (fun us s1 ⟨vs,H1,I1,r,M1,x0,e0,kk,h1,hl0,q1⟩=>⟨trivial,?_⟩) fun _ _ z=>z);subst e0;obtain⟨u,rfl,ru⟩:=a2Y r;obtain⟨tk,rfl⟩:=ru;have J1:=back I1;rcases q1 with ⟨n,hn,q1⟩|⟨hn,hrp,q1⟩
  ·refine .of (PySem.W.KIN.call_text hn hl0 ?_);refine a2p (J1.kept (t':=s1.toks+1) fun b o e=>e) hN hi hl (v:=.int n) ⟨_,rfl⟩ (fun s2 I2=>?_) hf;exact .of (b6e (.of (b6e ⟨_,H1,I2,en.nx _ M1 _ H1 kk ((hr.kp kk).set i a0F) h1 q1⟩)))
  ·refine a6f (I.ok.hd hcalm) hrp hl0 hn fun h' tk' a args made=>?_;rw[hxe];exact a7R A hex hst hfr hm hxc hmsg hVE J1 made (ka.trans kk) (hr.kp kk) h1 q1 hgV hg hdb hem
 rw[hee] at main|-
 exact .with (P:=fun _=>True) (by rfl) (fun h _=>⟨.machine,.inr (.inl rfl),PySem.W.Looks.of_pure rfl⟩) (.args main)
end
end L2
namespace L2
open PySem PySem.Spec PyProof.Rows LM
section
variable{P:b5i}{w:b5B}{K:PySem.W.Frag}{mg:SOV}{base:Heap}
theorem FD.dfnXCH{x:Str}{st:Stmt}{ps N:LSS}{n:Nat}{sp:Sp3X}{t:EK3->TS3}(F:FD K mg x st ps)(S:FnScope N ps (a0b st))(len:∀ts M Q E,sp ts M Q E->ts.length=ps.length)
  (h:∀{f:Addr} {cdv:b5c} {A:b5s} {outer:List Env} {s:b4U} {H:Hp} {E:XK} {E3:EK3},Room n (A.deeper (envOfC x (a0b st) s.heap.objs.size f cdv)) ->
   Acc (cxOf (CXE P w) P w K mg base N x (a0b st) f cdv A outer s H E) H E3->AccN (cxOf (CXE P w) P w K mg base N x (a0b st) f cdv A outer s H E) H E3->AccH (cxOf (CXE P w) P w K mg base N x (a0b st) f cdv A outer s H E) H E3 ->
   a5e (cxOf (CXE P w) P w K mg base N x (a0b st) f cdv A outer s H E) H (a0Z st) (t E3))
  (rd:∀ts M Q E,sp ts M Q E->t (fun nm _ M'=>∃M0,Sub M0 M'/\E nm M0) { nx:=fun _ M'=>rt3 M Q .non M',rt:=rt3 M Q } (a1p N ts) M):DfXC P w K mg base (n+1) x ps sp:=by
 obtain⟨f,fd,F,hm,hb⟩:=F.e;refine⟨f,fd,?_,hm,F.kp,hb⟩;obtain⟨oc,od,kV,doc,pm,an,cdv,ct,osl,rfl,lk,hcd⟩:=F.ex;refine b0P lk hcd S (fun vs H Q E ⟨ts,M,Q3,E3,r,_,q,_⟩=>by rw[r.length];exact len _ _ _ _ q) fun A outer s H vs Q E hr ⟨ts,M,Q3,Ex,r,hh,q,en,ex⟩=>?_;have L:=a8M (P:=P) (w:=w) (K:=K) (mg:=mg) (base:=base) (N:=N) (qual:=x) (scope:=a0b st) (f:=f) (cd:=cdv) (A:=A) (outer:=outer) (s:=s) (H:=H) (E:=E);refine⟨_,h (E3:=fun nm _ M'=>∃M0,Sub M0 M'/\Ex nm M0) hr (fun pins σ H' s' h0 a C nm ρ M' I fly old m k _ hh' q'=>?_) (fun pins σ H' s' h' a C vs' nm ρ M' I made m k _ hh' q'=>?_) (fun pins σ H' s' a C nm ρ M' I fly m k _ hh' q'=>?_) _ _ _ (rd ts M Q3 Ex q),Kp.refl,a3w r,hh,⟨?_,?_,fun _ _ _ _ _ _ _ z=>z.elim,fun _ _ _ _ _ _ _ z=>z.elim⟩⟩
 ·obtain⟨M0,hs,q2⟩:=q';exact a8N L I (fly.older old.start) (ex nm C M0 H' k (hh'.sub hs) m q2)
 ·obtain⟨M0,hs,q2⟩:=q';exact a7O L I made (ex nm C M0 H' k (hh'.sub hs) m q2)
 ·obtain⟨M0,hs,q2⟩:=q';exact a6H L I fly (ex nm C M0 H' k (hh'.sub hs) m q2)
 ·rintro ρ' M' σ' H' k hr' hh' ⟨M0,hs,q'⟩;exact en .non .non M0 H' k (hh'.sub hs) a3x q'
 ·rintro t' v' M' H' k hh' r' ⟨M0,hs,q'⟩;exact en t' v' M0 H' k (hh'.sub hs) r' q'
end
section
variable{X:Cx}{Ha:Hp}{e:Expr}{st:Stmt}{body:List Stmt}{t u:TS3}{te tf:TE3}
theorem HSXc.or(h1:HSXc X Ha st t)(h2:HSXc X Ha st u):HSXc X Ha st (fun D ρ M=>t D ρ M\/u D ρ M):=fun D ρ M q=>q.elim (h1 D ρ M) (h2 D ρ M)
theorem HEXc.or(h1:HEXc X Ha e te)(h2:HEXc X Ha e tf):HEXc X Ha e (fun ρ M Q=>te ρ M Q\/tf ρ M Q):=fun ρ M Q q=>q.elim (h1 ρ M Q) (h2 ρ M Q)
structure XOneC(K:PySem.W.Frag)(mg:SOV)(n1:Str):Prop where
 out:∃C1,mg n1=some (.ref C1)/\PySem.W.excIn K C1 bmVE "ValueError.__new__"=true/\PySem.W.subIn K (.ref C1) (.type "BaseException")=some true/\PySem.W.subIn K (.ref C1) (.ref C1)=some true
end
theorem DfXC.u{P w K mg base n m f ps sp}(D:DfXC P w K mg base n f ps sp)(h:n<=m:=by decide):DfXC P w K mg base m f ps sp:=by
 obtain⟨f,fd,F,a,b,c⟩:=D.out;exact⟨f,fd,F.mono h,a,b,c⟩
section
variable{P:b5i}{w:b5B}{K:PySem.W.Frag}{mg:SOV}{base:Heap}
end
section
variable{X:Cx}{Ha:Hp}{o e:Expr}{es:LSE}{m:Str}{pos apos:Pos}{to:TE3}{t:TA3}{C g:Addr}{n:Nat}{ps:LSS}{sp:Sp3}
end
section
variable{M:b7r}{A:b5s}{E:VPR}{s:b4U}{env:Env}
end
section
variable{X:Cx}{Ha:Hp}{a b:Expr}{ta tb:TE3}{tA tB:TT3}{pos:Pos}
end
section
variable{X:Cx}{Ha:Hp}{body:List Stmt}{pos:Pos}{tg iter:Expr}
theorem b1D{wi:TI}{g:TG}{tb:TS}(hxe:∀e s,¬X.xe e s)(hc:X.calm=true)(hi:PI X tg iter wi)(hg:PG X tg g)(hb:PSsc X body tb)
  (hs:∀x,foldedSetIterable iter X.env x=pure x:=by intro _;rfl):PSc X (.For tg iter body [] pos) (tFor wi g tb):=by
 intro pins s σ H D I h;have no:∀{α:Type} {m:Sem α} {Q:α->b4U->Prop} {E:VPR} {s:b4U},wpAny (model X.prog X.w) X.A m Q X.xe s->wpAny (model X.prog X.w) X.A m Q E s:=fun h=>b5I h (fun _ _ q=>q) fun e s z=>absurd z (hxe e s);refine wpC.for_ (thn (hi pins s σ H _ I h) fun v s1 h1=>thn h1 fun itv s2 h2=>?_) hs;obtain⟨it,fp,tn,J,H2,e,I2,T,st2,f2,W,⟨m0,w0⟩,turn⟩:=h2;subst e;have stat:∀{H':Hp},(∀b∈fp,H' b=none)->∀b∈fp,FpOk X pins H' b:=fun hn b hb=>⟨hn b hb,(f2 b hb).2⟩;refine a0r.forL (fun n s'=>∃i σ' H',Inv X pins σ' H' s'/\tn i s'.heap/\(∀b∈fp,H' b=none)/\W i n σ' H') ?_ m0 ⟨0,σ,H2,I2,st2,fun b hb=>(f2 b hb).1,w0⟩;rintro n s3 ⟨i,σ3,H3,I3,st3,fr3,w3⟩;rcases turn i n σ3 H3 w3 with ⟨stop,qn⟩|⟨go,N,hN,step⟩
 ·refine no (thn (T.done X rfl rfl rfl hc i pins s3 σ3 H3 X.xe I3 (stat fr3) st3 stop) fun r s4 ⟨hr,I4⟩=>?_);subst hr;exact b6e ⟨σ3,H3,I4,qn⟩
 ·refine no (thn (T.item X rfl rfl rfl hc i pins s3 σ3 H3 X.xe I3 (stat fr3) st3 go) fun r s4 ⟨u,hr,h4⟩=>?_);subst hr;refine no (thn h4 fun _ s5 ⟨x,H5,I5,r5,y5,st5,fr5⟩=>?_);have I5':=I5.pinned (stat fr5) (T.obj _ _ st5);refine no (thn (hg _ s5 σ3 H5 x u _ I5' r5 (step x H5 y5)) fun _ s6 ⟨σ6,H6,I6,q6⟩=>?_);refine(hb _ s6 σ6 H6 _ I6 q6).mono (fun f s7 q7=>?_) fun e s z=>absurd z (hxe e s)
  have again:∀{σ7:St} {H7:Hp},Inv X (pins++a2k fp s5.heap) σ7 H7 s7->N σ7 H7->∃m,m<n/\∃i σ' H',Inv X pins σ' H' s7/\tn i s7.heap/\(∀b∈fp,H' b=none)/\W i m σ' H':=fun {σ7 H7} I7 n7=>by
   obtain⟨m',hm,w7⟩:=hN σ7 H7 n7;refine⟨m',hm,i+1,σ7,H7,I7.unpinned,T.keep _ _ _ st5 fun b hb o e=>(I7.pin (b,o) (b4Z _ (b4Z _ (a0H hb e)))).1,fun b hb=>?_,w7⟩;obtain⟨o,e,d⟩:=T.obj _ _ st5 b hb;exact(I7.pin (b,o) (b4Z _ (b4Z _ (a0H hb e)))).2.1
  cases f with
  |next=>obtain⟨σ7,H7,I7,n7⟩:=q7;exact again I7 n7
  |cont=>obtain⟨σ7,H7,I7,n7⟩:=q7;exact again I7 n7
  |brk=>obtain⟨σ7,H7,I7,q7⟩:=q7;exact⟨σ7,H7,I7.unpinned,q7⟩
  |ret v=>obtain⟨x7,σ7,H7,I7,r7,q7⟩:=q7;exact⟨x7,σ7,H7,I7.unpinned,r7,q7⟩
theorem b2L{wi:TI3}{g:TG3}{tb:TS3}(hxe:∀e s,¬X.xe e s)(hc:X.calm=true)(hi:HI X tg iter wi)(hg:HG X tg g)(hb:a5e X Ha body tb)
  (hs:∀x,foldedSetIterable iter X.env x=pure x:=by intro _;rfl):HSXc X Ha (.For tg iter body [] pos) (a7y wi g tb):=fun D ρ0 M0 h =>
 (b1D hxe hc (hi.d (ρ:=ρ0)) hg hb.d hs).imp fun D2 σ0 H0 ⟨ka,hr0,hh0,en⟩=>⟨M0,_,h,hr0,hh0,fun J J2 M1 H1 k1 h1 ok q1=>by
  obtain⟨W,w0,wst,turn,fin⟩:=q1;refine⟨fun i m σ H=>m=J.items.length-i/\i<=J.items.length/\Kp X.K H1 H/\∃ρ M,RhoR X.K σ H ρ/\HR X.K H M/\W i ρ M,⟨_,rfl,b6b _,Kp.refl,ρ0,M1,hr0.kp k1,h1,w0⟩,?_⟩;rintro i m σ H ⟨rfl,hi,kk,ρ,M,hr,hh,w⟩;have st:=wst i ρ M w;by_cases hlt:i<J.items.length
  ·have e:J.items[i]?=some J.items[i]:=b5g hlt;obtain⟨go,yl⟩:=ok.go i _ H M e kk hh st;refine .inr ⟨go,fun σ' H'=>i+1<=J.items.length/\Kp X.K H1 H'/\∃ρ M,RhoR X.K σ' H' ρ/\HR X.K H' M/\W (i+1) ρ M,fun σ' H' ⟨a,b,c⟩=>⟨_,by lia,rfl,a,b,c⟩,fun v H' y=>?_⟩;obtain⟨k2,h2,r2⟩:=yl v H' y;refine⟨J.items[i],ρ,M,_,turn i _ ρ M e w,r2,hr.kp k2,h2,fun ρ3 M3 σ3 H3 k3 hr3 hh3 q3=>⟨_,ρ3,M3,q3,ka.trans (k1.trans (kk.trans (k2.trans k3))),hr3,hh3,?_⟩⟩;have kall:=kk.trans (k2.trans k3);refine⟨fun ρ4 M4 σ4 H4 k4 hr4 hh4 q4=>⟨hlt,kall.trans k4,ρ4,M4,hr4,hh4,q4⟩,fun t v M4 H4 k4 h4 r4 q4=>en.rt t v M4 H4 (k1.trans (kall.trans k4)) h4 r4 q4,fun ρ4 M4 σ4 H4 k4 hr4 hh4 q4=>en.nx ρ4 M4 σ4 H4 (k1.trans (kall.trans k4)) hr4 hh4 q4,fun ρ4 M4 σ4 H4 k4 hr4 hh4 q4=>⟨hlt,kall.trans k4,ρ4,M4,hr4,hh4,q4⟩⟩
  ·have e:i=J.items.length:=by lia
   subst e
   exact .inl ⟨ok.stop H M kk hh st,en.nx ρ M σ H (k1.trans kk) hr hh (fin ρ M w)⟩⟩
end
noncomputable def b0W(K:PySem.W.Frag)(C1:Addr):Bool :=
 PySem.W.excIn K C1 bmVE "ValueError.__new__"&&((PySem.W.subIn K (.ref C1) (.type "BaseException")==some true)&&(PySem.W.subIn K (.ref C1) (.ref C1)==some true))
theorem b0V{K:PySem.W.Frag}{mg:SOV}{n1:Str}{C1:Addr}(h:b0W K C1=true)(m1:mg n1=some (.ref C1)):XOneC K mg n1:=by
 unfold b0W at h;simp only[b5o,beq_iff_eq] at h;obtain⟨h1,h2,h3⟩:=h;exact⟨C1,m1,h1,h2,h3⟩
theorem XOneC.cl{K:PySem.W.Frag}{mg:SOV}{n1:Str}(h:XOneC K mg n1):XCl K mg n1:=by
 obtain⟨C1,m1,h1,_⟩:=h;exact⟨C1,m1,h1⟩
noncomputable def repS(x:Str)(n:Nat):Str:=⟨(b5e n x.cps).foldl (·++·) #[]⟩
theorem a9Q(x:Str)(n:Nat):(repS x n).length=n*x.length:=by
 have:∀(n:Nat) (a:Array Nat),((b5e n x.cps).foldl (·++·) a).size=a.size+n*x.cps.size:=by
  intro n
  induction n with
  |zero=>intro a;simp
  | succ n ih =>
    intro a;rw[b5N,b7L,ih,b9M,c0I];lia
 have h:=this n #[];show((b5e n x.cps).foldl (·++·) #[]).size=n*x.cps.size;rw[h];simp
noncomputable def b1q:R3:=fun a b M Q=>match a,b with
 |.str x,.int n=>2<=n/\n<=100/\1<=x.length/\x.length<=10/\Q (.str (repS x n.toNat)) M
 |_,_=>False
theorem a7d{X:Cx}:OpR3 X (binaryOp .Mult) b1q:=by
 intro pins s σ H x y v u Q2 I rx ry q;obtain⟨a,b,M,Q,r1,r2,hh,q,en⟩:=q;unfold b1q at q;split at q
 ·rename_i z n;obtain⟨h1,h2,h3,h4,q⟩:=q;obtain rfl:=a0z r1;obtain rfl:=a0l r2;obtain⟨t,rfl⟩:=rx;obtain⟨t2,rfl⟩:=ry;have e1:¬n<1:=by lia
  have e2:(n==1||z.length==0)=false:=by
   rw[Bool.or_eq_false_iff];constructor
   ·simp;lia
   ·simp;lia
  have hz:z.length*n.toNat<=1000:=by
   have:n.toNat<=100:=by lia
   exact b5l (Nat.mul_le_mul h4 this) (by decide)
  refine PySem.P.mul_str (by rw[decide_eq_false (by lia),decide_eq_false (by lia)];rfl) (fun _ _=>?_) (fun _ _=>?_) ?_
  ·have:(2^63-1) / n >= 10:=by
    refine Int.le_ediv_of_mul_le (by lia) (by lia)
   lia
  ·have:1000<=sizeLine:=by decide
   exact decide_eq_false (show ¬(z.length*n.toNat>sizeLine) by lia)
  ·rw[if_neg e1,e2,if_neg b5x];refine⟨?_,.str (repS z n.toNat),H,I.kept (t':=s.toks+1) fun b o e=>e,⟨_,rfl⟩,en _ _ M H Kp.refl hh a2i q⟩;show(repS z n.toNat).length<=sizeLine;rw[a9Q,b8a];exact b5l hz (by decide)
 ·exact q.elim
section
variable{M:b7r}{A:b5s}{E:VPR}{s:b4U}{env:Env}
end
section
variable{X:Cx}{Ha:Hp}{e a b:Expr}{te ta tb:TE3}{tA tB:TT3}{pos:Pos}
end
section
variable{X:Cx}{body:List Stmt}
theorem b1e{Ha0:Hp}{tb:EK3->TS3}{im ie n:Nat}{names:LSS}{mk:Str->List Bool}{Ds:LSV}{tgt helper:Str}{P:Addr}{np tp hp ep cpos apos hpos pos:Pos}
  (hcalm:X.calm=true) (hex:X.ex=[]) (hst:X.stack=X.env::X.outer) (hfr:X.env.frame=some X.env.locals)
  (hb:∀(pn:PNS) (xe:VPR) (Ha:Hp) (E3:EK3),Acc (X.tried pn xe) Ha E3->a5e (X.tried pn xe) Ha body (tb E3))
  (hP:X.mg "PlaitError"=some (.ref P)) (hPx:PySem.W.excIn X.K P bmVE "ValueError.__new__"=true) (pb:PySem.W.subIn X.K (.ref P) (.type "BaseException")=some true)
  (hn:∀nm∈names,∃C,XOne X.K X.mg P C nm/\Ds.map (PySem.W.kitOne X.K (.ref C))=(mk nm).map some)
  (D:DfM X.prog X.w X.K X.mg X.base n helper Ds) (hr:Room n X.A) (hN:X.N.Nodup) (hne:im≠ie:=by decide)
  (hi:X.N[im]?=some tgt:=by rfl) (hxi:Loc X.env.scope tgt:=by first|exact b7h rfl|exact b8u rfl) (hj:X.N[ie]?=some ("e":Str):=by rfl) (hje:X.env.scope.names.lookup ("e":Str)=some .local:=by rfl)
  (hgP:Gl X "PlaitError":=by rfl) (hgh:Gl X helper:=by rfl) (hdb:(helper==("__debug__":Str))=false:=by decide) (hfi:X.fn tgt=true\/X.env.scope.names.lookup tgt=some .local:=by first|exact .inl rfl|exact .inr rfl)
  (he:∀(env:Env),starEach [.Name "e" ep] env=(false,eval (.Name "e" ep) env)::starEach [] env:=by intro _;rfl)
  (hsw:∀(env:Env),swapsWith (.Call (.Name helper hp) [.Name "e" ep] [] cpos) (some (.Name tgt tp)) apos.line env=pure false:=by intro _;rfl) :
  HSXc X Ha0 (.Try body [.ExceptHandler (some (.Name "PlaitError" np)) (some "e") [.Assign [.Name tgt tp] (.Call (.Name helper hp) [.Name "e" ep] [] cpos) apos] hpos] [] [] pos) (b2y tb im ie names mk):=by
 intro D3 ρ M h pins s σ H D2 I ⟨ka,hrr,hh,en⟩;refine .try_ ?_
 obtain⟨xe0,hxe⟩:∃xe0:VPR,xe0=fun e s1=>wpAny (model X.prog X.w) X.A (noteFrame e X.env) (fun _ s2=>wpAny (model X.prog X.w) X.A (setFlight e none) (fun _ s3=>wpAny (model X.prog X.w) X.A (handleBy e X.env
   [.ExceptHandler (some (.Name "PlaitError" np)) (some "e") [.Assign [.Name tgt tp] (.Call (.Name helper hp) [.Name "e" ep] [] cpos) apos] hpos]) (SP X pins D2) X.xe s3) X.xe s2) X.xe s1:=⟨_,rfl⟩
 rw[<- hxe]
 have I':Inv (X.tried (X.pn++pins) xe0) [] σ H s :=
  ⟨I.ok.tried _ _,I.os,I.bare,I.base,I.loc,I.cell,I.free,I.freeC,fun p hp=>I.pin p (by simpa using hp),I.hok,I.len⟩
 refine wpC.mono (hb (X.pn++pins) xe0 H _ ?_ D3 ρ M h [] s σ H D2 I' ⟨Kp.refl,hrr,hh,en⟩) (fun f s1 q=>?_) fun _ _ z=>z
 ·intro pins' σ1 H1 s1 h0 a C nm ρ1 M1 J F old m k r1 h1 ⟨hnm,q⟩;have J1:Inv X pins σ1 H1 s1:=⟨I.ok,J.os,J.bare,J.base,J.loc,J.cell,J.free,J.freeC,fun p hp=>J.pin p (b5v _ hp),J.hok,J.len⟩;obtain⟨C',x1,hmk⟩:=hn nm hnm
  have hCC:C'=C:=by
   have:=x1.mg.symm.trans m;injection this with e;injection e
  subst hCC;obtain⟨na,na0,oe,vs,a0,t1,t2,t3,t4,T5,oT,ts,t5,t6,t7,t8,t9,t10,t11⟩:=F;have fA:H1 a=none/\X.s₀.heap.get? a=none/\∀p∈X.pn++pins,p.1≠a:=⟨na,b5t fun z=>old.start a z na0,fun p hp z=>old.pins p (b5v _ hp) (by rw[z];exact na0)⟩;have fT:H1 T5=none/\X.s₀.heap.get? T5=none/\∀p∈X.pn++pins,p.1≠T5:=⟨t7,b5t fun z=>old.start T5 z t8,fun p hp z=>old.pins p (b5v _ hp) (by rw[z];exact t8)⟩;have hLa:a≠X.env.locals:=fun z=>old.loc (by show h0.get? X.env.locals=none;rw[<- z];exact na0);have hCa:∀x c,X.env.cells.lookup x=some c->c≠a:=fun x c e z=>old.cells x c e (by rw[z];exact na0);have frames:=I.ok.frames;rw[hst] at frames
  have hl:s1.heap.FunFrames (PySem.W.hideAll s1.heap (a::T5::frs X.stack)) (X.env::X.outer):=by
   rw[<- hst];exact a0G J1.stack fun b hb=>PySem.W.hideAll_none _ (b4X _ (b4X _ hb))
  have hfl:b9U (PySem.W.hideAll s1.heap (a::T5::frs X.stack)) (X.env::X.outer) a (.ref C') a0 s1.heap :=
   ⟨fun b o q=>PySem.W.of_hideAll _ q,PySem.W.hideAll_none _ b5m,hl,oe,vs,T5,oT,ts,t1,⟨t2,t4⟩,t3,t5,PySem.W.hideAll_none _ (b4X _ b5m),t6,t9,t10,t11⟩
  have hB:∀b o,s1.heap.get? b=some o->b∉frs X.stack->b≠a->b≠T5->(PySem.W.hideAll s1.heap (a::T5::frs X.stack)).get? b=some o:=fun b o q hf g1 g2=>PySem.W.hideAll_get _ q fun hm=>by
   rcases b5b.mp hm with z|z
   ·exact g1 z
   ·rcases b5b.mp z with z|z
    ·exact g2 z
    ·exact hf z
  show xe0 (.ref a) s1;rw[hxe];refine c0q frames hfr hfl fun h4 hheld hsm4=>?_;refine wpAny_landsW (s:={ s1 with heap:=h4 }) hheld fun h5 hfl5 hsm5=>?_;have hsm:s1.heap.UpToSlots h5:=hsm4.trans hsm5
  have J5:Inv (X.held a) pins σ1 H1 { s1 with heap:=h5 }:=by
   have:=J1.flown hex hst hfr hB hfl5.1 hsm fA fT;exact⟨this.ok.held a,this.os,this.bare,this.base,this.loc,this.cell,this.free,this.freeC,this.pin,this.hok,this.len⟩
  obtain⟨ob5,hob5,hcl5⟩:=hfl5.there;refine wpAny_handleBy_cons (codeAny_handlers_test (a0X (X:=X.held a) J5 hgP hP ?_)) (by intro q;cases q);refine a9C J5.kIn hob5 hcl5 x1.up pb hPx ?_;refine codeAny_handlers_suite_as ?_;refine lands_againW (s:={ s1 with heap:=h5 }) hfl5 fun h6 hfl6 hsm6=>?_
  have J6:Inv (X.held a) pins σ1 H1 { s1 with heap:=h6 }:=by
   have:=J1.flown hex hst hfr hB hfl6.1 (hsm.trans hsm6) fA fT;exact⟨this.ok.held a,this.os,this.bare,this.base,this.loc,this.cell,this.free,this.freeC,this.pin,this.hok,this.len⟩
  obtain⟨ob6,hob6,hcl6⟩:=hfl6.there
  have J7:Inv (X.held a) pins σ1 (upd H1 a (.ext (XAt a C'))) { s1 with heap:=h6 } :=
   J6.tag (φ:=XAt a C') na fA.2.1 fA.2.2 hLa hCa ⟨ob6,hob6,hcl6⟩ ⟨ob6,hob6⟩ fun g1 g2 ⟨o,e1,e2⟩ k=>⟨o,k o e1,e2⟩
  refine a2p (X:=X.held a) J7 hN hj (.inl hje) RelV.ref (fun s8 J8=>?_) (.inr hje);have hie:ie<σ1.length:=by rw[J1.len];exact(b5q.mp hj).1
  have hrh:RoomH n (X.held a).A:=⟨hr.dp,hr.un⟩;have w:=(a4I (a8r (X:=X.held a) (i:=im) (pos:=apos) hN hi hxi (b0b (X:=X.held a) (i:=ie) (pos:=cpos) (p:=hp) (p1:=ep) D hrh hj (.inl hje) hgh (by decide) (by decide) hdb (he _) (by rfl)) (hsw _) hfi)) pins s8 (σ1.set ie (some (.ref a))) (upd H1 a (.ext (XAt a C')))
   { nx:=fun σ' H'=>∃p,σ'=(σ1.set ie (some (.ref a))).set im (some (.ref p))/\Kp X.K H1 H'/\M1 p=none/\HR X.K H' (updM M1 p (.lst ((mk nm).map T.bl))),rt:=fun _ _=>False } J8
   ⟨.ref a,b5L hie,a,C',XAt a C',mk nm,rfl,a0t,fun _ z=>z,x1.lk,hmk,fun l1 l2 r e1 e2 e3=>?_⟩
  ·refine b5I w (fun f s9 q9=>?_) fun _ _ z=>z.elim;cases f with
   |brk=>obtain⟨_,_,_,z⟩:=q9;exact b5A z
   |cont=>obtain⟨_,_,_,z⟩:=q9;exact b5A z
   |ret u=>obtain⟨_,_,_,_,_,z⟩:=q9;exact b5A z
   | next =>
     obtain⟨σ9,H9,J9,p,rfl,kp9,mp,hr9⟩:=q9;have K9:Inv X pins ((σ1.set ie (some (.ref a))).set im (some (.ref p))) H9 s9:=⟨I.ok,J9.os,J9.bare,J9.base,J9.loc,J9.cell,J9.free,J9.freeC,J9.pin,J9.hok,J9.len⟩;refine a8I (v:=.non) K9 hN hj hje fun s10 K10=>⟨_,H9,K10,?_⟩
     have es:((σ1.set ie (some (V.ref a))).set im (some (V.ref p))).set ie none=((σ1.set ie none).set im (some (V.ref p))).set ie none:=by
      rw[set3 _ hne,set3 _ hne]
     rw[es];refine en.nx _ _ _ _ (k.trans kp9) ?_ hr9 (q p mp);have z:=(((r1.kp kp9).unset ie).set im (a2G (a:=p))).unset ie;rw[set3 ρ1 hne] at z;exact z
  ·have c1:H1 l1=none:=by
    by_cases z:l1=a
    ·rw[z,a0t] at e1;cases e1
    ·rwa [a0h z] at e1
   refine⟨r,rfl,?_,?_,?_⟩
   ·exact(Kp.new na).trans ((Kp.new e1).trans ((Kp.new e2).trans (Kp.new e3)))
   ·refine HR.free (h1.keep na |>.keep e1 |>.keep e2) e3
   ·refine((h1.keep na).keep e1).keep e2 |>.newL e3 (a4l _)
 ·have bk:∀{σ' H'},Inv (X.tried (X.pn++pins) xe0) [] σ' H' s1->Inv X pins σ' H' s1:=fun J=>⟨I.ok,J.os,J.bare,J.base,J.loc,J.cell,J.free,J.freeC,fun p hp=>J.pin p (b5v _ hp),J.hok,J.len⟩;cases f with
  | next =>
    obtain⟨σ',H',J,q⟩:=q;exact .of (b6e ⟨σ',H',bk J,q⟩)
  | brk =>
    obtain⟨σ',H',J,q⟩:=q;exact⟨σ',H',bk J,q⟩
  | cont =>
    obtain⟨σ',H',J,q⟩:=q;exact⟨σ',H',bk J,q⟩
  | ret u =>
    obtain⟨v,σ',H',J,r,q⟩:=q;exact⟨v,σ',H',bk J,r,q⟩
end
end L2
namespace L2
open PySem PySem.Spec PyProof.Rows LM PySem.NumText
noncomputable def Asc(x:Str):Prop:=∀c∈x.cps.toList,c<128
noncomputable def Tx(n:Nat)(x:Str):Prop:=x.length<=n/\Asc x
instance (x:Str):Decidable (Asc x):=by unfold Asc;infer_instance
instance (n:Nat) (x:Str):Decidable (Tx n x):=by unfold Tx;infer_instance
theorem Tx.up{n m:Nat}{x:Str}(h:Tx n x)(k:n<=m):Tx m x:=⟨b5l h.1 k,h.2⟩
theorem a9x{x:Str}(h:Asc x)(l u:Option Int):Asc (b5V x l u):=by
 unfold b5V;split
 ·exact h
 ·intro c hc;rw[List.mem_filterMap] at hc;obtain⟨i,_,hi⟩:=hc;exact h c (b9e.mpr (Array.mem_of_getElem? hi))
theorem Tx.slice{n:Nat}{x:Str}(h:Tx n x)(l u:Option Int):Tx n (b5V x l u):=⟨b5l (b9T x l u) h.1,a9x h.2 l u⟩
theorem b2m(x y:Str):(x++y).cps.toList=x.cps.toList++y.cps.toList:=by
 show(x.cps++y.cps).toList=_;rw[Array.toList_append]
theorem Tx.app{n m:Nat}{x y:Str}(h:Tx n x)(k:Tx m y):Tx (n+m) (x++y):=by
 refine⟨by rw[a3D];exact Nat.add_le_add h.1 k.1,fun c hc=>?_⟩;rw[b2m,b5J] at hc;exact hc.elim (h.2 c) (k.2 c)
theorem a6I {ps:LSS} {p:Str} (h:p∈ps):p.length<=(b6A (" ":Str) ps).length/\∀c∈p.cps.toList,c∈(b6A (" ":Str) ps).cps.toList:=by
 cases ps with
 |nil=>cases h
 | cons q qs =>
   have e:=a1Z q qs;have el:(b6A (" ":Str) (q::qs)).length=((b6A (" ":Str) (q::qs)).cps.toList).length:=by rw[b5u];rfl
   rw[el,e,b5r];rcases b5b.mp h with rfl|h
   ·exact⟨by rw[b5u];exact Nat.le_add_right _ _,fun c hc=>b5v _ hc⟩
   ·constructor
    ·have:p.length<=(qs.flatMap fun y=>32::y.cps.toList).length:=by
      clear e el
      induction qs with
      |nil=>cases h
      | cons r rs ih =>
        rw[b7A,b5r,b5j,b5u];rcases b5b.mp h with rfl|h
        ·show p.cps.size<=_;lia
        ·have:=ih (b4X _ h) h;lia
     lia
    ·exact fun c hc=>b4Z _ (List.mem_flatMap.mpr ⟨p,h,b4X _ hc⟩)
theorem Tx.parts{n:Nat}{x:Str}(h:Tx n x):∀p∈b6w x (" ":Str),Tx n p:=fun p hp=>by
 have hj:b6A (" ":Str) (b6w x (" ":Str))=x:=by
  show b7y (" ":Str) _=x;rw[b6T];exact b8k x (" ":Str)
 obtain⟨h1,h2⟩:=a6I hp;rw[hj] at h1 h2;exact⟨b5l h1 h.1,fun c hc=>h.2 c (h2 c hc)⟩
theorem a2q(x:Str):∃p ps,b6w x (" ":Str)=p::ps:=by
 have hp:=split_pos x (" ":Str);cases h:b6w x (" ":Str) with
 |nil=>rw[h] at hp;cases hp
 |cons p ps=>exact⟨p,ps,rfl⟩
theorem a2J{x p:Str}{ps:LSS}(h:b6w x (" ":Str)=p::ps):ps.length<=x.length:=by
 have hj:b6A (" ":Str) (b6w x (" ":Str))=x:=by
  show b7y (" ":Str) _=x;rw[b6T];exact b8k x (" ":Str)
 rw[h] at hj;have e:=congrArg b6Q (a1Z p ps);rw[hj,b5r,b5u] at e
 have g:∀ys:LSS,ys.length<=(ys.flatMap fun y=>32::y.cps.toList).length:=by
  intro ys
  induction ys with
  |nil=>exact b6b _
  |cons y ys ih=>rw[b7A,b5r,b5j,b5j];lia
 have:=g ps;show ps.length<=x.cps.size;lia
theorem b0C{ps:LSS}(h:∀p∈ps,Asc p):Asc (b6A (" ":Str) ps):=by
 cases ps with
 |nil=>intro c hc;cases hc
 | cons q qs =>
   intro c hc;rw[a1Z,b5J,List.mem_flatMap] at hc;rcases hc with hc|⟨y,hy,hc⟩
   ·exact h q (.head _) c hc
   ·rcases b5b.mp hc with rfl|hc
    ·decide
    ·exact h y (.tail _ hy) c hc
theorem a5U:(":":Str)=⟨#[58]⟩:=by decide +kernel
theorem a4n(p:Str):(b5V p (some (-1)) none=(":":Str))<->a3q p (":":Str)=true:=by
 by_cases h0:p.length=0
 ·have e1:a3q p (":":Str)=false:=by
   unfold a3q;rw[decide_eq_false (by rw[a5U,h0];decide),b6l]
  rw[e1];constructor
  ·intro h;have:=congrArg Str.length h;have hl:=b9T p (some (-1)) none;rw[this,h0] at hl;exact absurd hl (by decide)
  ·intro h;cases h
 ·have h1:1<=p.length:=by lia
  have e:=PyProof.Rows.slice_closes_from_neg (x:=p) (i:=-1) (a:=-1+(p.length:Int)) (b:=(p.length:Int)) (by decide) (by lia) rfl rfl;have e:=eq_of_beq e;rw[e];have ea:((p.length:Int)-(-1+(p.length:Int))).toNat=1:=by lia
  have eb:(-1+(p.length:Int)).toNat=p.length-1:=by lia
  rw[ea,eb];unfold a3q b9K;have el:(":":Str).length=1:=by decide
  rw[el,decide_eq_true (by lia),c0C,a5U,beq_iff_eq]
  have ex:(p.cps.extract (p.length-1) (p.length-1+1))=((p.cps.toList.drop (p.length-1)).take 1).toArray:=by
   apply c0e.mp;rw[Array.toList_extract,List.extract_eq_take_drop];congr 1;lia
  rw[ex];constructor
  ·intro h;exact congrArg Str.cps h
  ·intro h;exact congrArg Str.mk h
theorem a9L{p q:Array Nat×Bool}{c:Nat}(h:b9V 10 p c=some q)(hp:∀d∈p.1.toList,d<10):∀d∈q.1.toList,d<10:=by
 unfold b9V at h;split at h
 ·split at h
  ·cases h;exact hp
  ·cases h
 ·split at h
  ·rename_i d _;split at h
   ·rename_i hd;cases h;intro y hy;simp only[Array.toList_push,b5J,List.mem_singleton] at hy;rcases hy with hy|rfl
    ·exact hp y hy
    ·exact hd
   ·cases h
  ·cases h
theorem a7l:∀(cs:List Nat) {p q:Array Nat×Bool},List.foldlM (b9V 10) p cs=some q->(∀d∈p.1.toList,d<10)->∀d∈q.1.toList,d<10
 | [],p,q,h,hp=>by
   rw[List.foldlM_nil] at h;cases h;exact hp
 | c::cs,p,q,h,hp=>by
   rw[List.foldlM_cons] at h;obtain⟨r,h1,h2⟩:=b8E.mp h;exact a7l cs h2 (a9L h1 hp)
theorem a7V{cs:List Nat}{ds:Array Nat}(h:digits? 10 cs=some ds):∀d∈ds.toList,d<10:=by
 unfold digits? at h;obtain⟨p,h1,h2⟩:=b8E.mp h;split at h2
 ·cases h2;exact a7l cs h1 (fun d hd=>by cases hd)
 ·cases h2
theorem a6S:∀(l:List Nat) (a:Nat),(∀d∈l,d<10)->b7u (fun acc d=>acc*10+d) a l<(a+1)*10^l.length
 |[],a,_=>by rw[List.foldl_nil,b7R,Nat.pow_zero];lia
 | d::l,a,h=>by
   rw[b7L,b5j,Nat.pow_succ];have h1:=a6S l (a*10+d) fun y hy=>h y (.tail _ hy);have h2:=h d (.head _);have h3:(a*10+d+1)*10^l.length<=((a+1)*10)*10^l.length:=b9d _ (by lia);have h4:((a+1)*10)*10^l.length=(a+1)*(10^l.length*10):=by rw[Nat.mul_assoc,b8a 10]
   lia
theorem a2T{f:Nat->Bool}(l:List Nat):(l.dropWhile f).length<=l.length:=(List.dropWhile_sublist f).length_le
theorem b0y(l:List Nat):(core l).length<=l.length:=by
 unfold core;rw[b7Q];refine b5l (a2T _) ?_;rw[b7Q];refine b5l ?_ (a2T (f:=blank) l);unfold sign;split
 ·rename_i h;rw[h,b5j];exact b9j _
 ·rename_i h;rw[h,b5j];exact b9j _
 ·exact b5h _
theorem a9O{x:Str}(h:Asc x):(numSeenOf x).length<=x.length:=by
 have e:numTextOf x=x.cps.toList:=by
  show(if (x.cps.all fun c=>decide (c<128))=true then x.cps.toList else _)=_
  rw[if_pos];rw[Array.all_eq_true'];exact fun c hc=>decide_eq_true (h c (b9e.mpr hc))
 show(List.takeWhile (fun c=>c != 0) (numTextOf x)).length<=_;rw[e];exact b5l (List.takeWhile_sublist _).length_le (by rw[b5u];exact b5h _)
theorem a4r{x:Str}{n:Int}(h:intText? x=some n)(ha:Tx 300 x):n.natAbs<10^400:=by
 unfold intText? at h;split at h
 ·split at h
  ·rename_i ds hd;split at h
   ·have e:=b5p h;have h1:ds.size<=300:=b5l (digits_size hd) (b5l (b0y _) (b5l (a9O ha.2) ha.1));have h2:=a6S ds.toList 0 (a7V hd)
    have h3:n.natAbs=b7u (fun acc d=>acc*10+d) 0 ds.toList:=by
     rw[<- e];unfold worth;split
     ·rw[Int.natAbs_neg,b9v,<- b9w]
     ·rw[b9v,<- b9w]
    rw[h3];refine b4W h2 ?_;rw[b5u,Nat.zero_add,Nat.one_mul];exact Nat.pow_le_pow_right (by decide) (by lia)
   ·cases h
  ·cases h
 ·cases h
theorem b1i{x:Str}(h:Tx 300 x):(reprText x).length<=sizeLine:=by
 refine b5l (StrLaws.reprText_len x fun c hc=>b6G (h.2 c hc) (by decide)) ?_;have:=h.1;exact b5l (show 10*x.length+2<=3002 by lia) (by decide)
end L2
namespace L2
open PySem PySem.Spec PyProof.Rows LM
noncomputable def wlen(ps:LSS):Nat:=(ps.map fun y=>y.length+1).sum
theorem a4z(a b:LSS):wlen (a++b)=wlen a+wlen b:=by
 unfold wlen;rw[b5O,List.sum_append]
theorem a6T(ps:LSS)(k:Nat):wlen (ps.take k)+wlen (ps.drop k)=wlen ps:=by
 rw[<- a4z,List.take_append_drop]
theorem b0X{ps:LSS}:ps.length<=wlen ps:=by
 unfold wlen
 induction ps with
 |nil=>exact b5h _
 |cons y ys ih=>rw[b5z,List.sum_cons,b5j];lia
theorem a8R(ps:LSS):(b6A (" ":Str) ps).length<=wlen ps:=by
 cases ps with
 |nil=>exact b5h _
 | cons p ps =>
   have e:=congrArg b6Q (a1Z p ps);rw[b5r,b5u,b5u] at e
   have g:∀ys:LSS,(ys.flatMap fun y=>32::y.cps.toList).length=wlen ys:=by
    intro ys
    induction ys with
    |nil=>rfl
    | cons y ys ih =>
      rw[b7A,b5r,b5j,b5u,ih];rfl
   rw[g] at e;show(b6A (" ":Str) (p::ps)).cps.size<=(p.length+1)+wlen ps;have:p.cps.size=p.length:=rfl;lia
theorem a7A(x:Str):wlen (b6w x (" ":Str))=x.length+1:=by
 have hj:b6A (" ":Str) (b6w x (" ":Str))=x:=by
  show b7y (" ":Str) _=x;rw[b6T];exact b8k x (" ":Str)
 obtain⟨p,ps,hs⟩:=a2q x
 rw[hs] at hj|-
 have e:=congrArg b6Q (a1Z p ps);rw[hj,b5r,b5u,b5u] at e
 have g:∀ys:LSS,(ys.flatMap fun y=>32::y.cps.toList).length=wlen ys:=by
  intro ys
  induction ys with
  |nil=>rfl
  | cons y ys ih =>
    rw[b7A,b5r,b5j,b5u,ih];rfl
 rw[g] at e;show(p.length+1)+wlen ps=x.cps.size+1;have:p.cps.size=p.length:=rfl;lia
theorem Tx.join{n m:Nat}{ps:LSS}(h:∀p∈ps,Tx n p)(hw:wlen ps<=m):Tx m (b6A (" ":Str) ps) :=
 ⟨b5l (a8R ps) hw,b0C fun p hp=>(h p hp).2⟩
local macro_rules | `(tactic| walk_at "3") => `(tactic| first | exact b7h rfl | exact b8u (b7h rfl) | exact b8u (b8u rfl))
local macro_rules | `(tactic| walk_at "2") => `(tactic| first | exact b7h rfl | exact b8u rfl)
local macro_rules | `(tactic| walk_at "4") => `(tactic| first | exact .inl rfl | exact .inr rfl | assumption)
local macro_rules | `(tactic| walk_at "ln") => `(tactic| (intro ts M Q h; first | (split at h <;> first | rfl | exact h.elim) | (obtain ⟨_, _, _, _, _, rfl, _⟩ := h; rfl) | (obtain ⟨_, _, _, _, rfl, _⟩ := h; rfl) | (obtain ⟨_, _, _, rfl, _⟩ := h; rfl) | (obtain ⟨_, _, rfl, _⟩ := h; rfl) | (obtain ⟨_, rfl, _⟩ := h; rfl)))
local macro_rules | `(tactic| walk_at "lnx") => `(tactic| (intro ts M Q E h; first | (split at h <;> first | rfl | exact h.elim) | (obtain ⟨_, _, _, _, _, rfl, _⟩ := h; rfl) | (obtain ⟨_, _, _, _, rfl, _⟩ := h; rfl) | (obtain ⟨_, _, _, rfl, _⟩ := h; rfl) | (obtain ⟨_, _, rfl, _⟩ := h; rfl) | (obtain ⟨_, rfl, _⟩ := h; rfl)))
local macro_rules | `(tactic| walk_at "b0") => `(tactic| exact fun _ _ _ _ _ _ us hl => b4H (P := fun us => bindArgs _ ⟨us, []⟩ = pure (b9a _ us)) hl rfl)
local macro_rules | `(tactic| walk_at "b1") => `(tactic| exact fun _ _ _ _ _ _ us hl => b3y (P := fun us => bindArgs _ ⟨us, []⟩ = pure (b9a _ us)) hl (fun _ => rfl))
local macro_rules | `(tactic| walk_at "b2") => `(tactic| exact fun _ _ _ _ _ _ us hl => b3x (P := fun us => bindArgs _ ⟨us, []⟩ = pure (b9a _ us)) hl (fun _ _ => rfl))
local macro_rules | `(tactic| walk_at "b3") => `(tactic| exact fun _ _ _ _ _ _ us hl => b3w (P := fun us => bindArgs _ ⟨us, []⟩ = pure (b9a _ us)) hl (fun _ _ _ => rfl))
local macro_rules | `(tactic| walk_at "b4") => `(tactic| exact fun _ _ _ _ _ _ us hl => b3v (P := fun us => bindArgs _ ⟨us, []⟩ = pure (b9a _ us)) hl (fun _ _ _ _ => rfl))
local macro_rules | `(tactic| walk_at "b5") => `(tactic| exact fun _ _ _ _ _ _ us hl => b3u (P := fun us => bindArgs _ ⟨us, []⟩ = pure (b9a _ us)) hl (fun _ _ _ _ _ => rfl))
local macro_rules | `(tactic| walk_at "b6") => `(tactic| exact fun _ _ _ _ _ _ us hl => b4G (P := fun us => bindArgs _ ⟨us, []⟩ = pure (b9a _ us)) hl (fun _ _ _ _ _ _ => rfl))
local macro_rules | `(tactic| walk_at "sc") => `(tactic| exact ⟨rfl, rfl, rfl, by decide +kernel, rfl, by decide +kernel, by decide +kernel⟩)
local macro_rules | `(tactic| walk_at "rd") => `(tactic| (try simp only [b1q, rIn3, b2B, a8g, a8j, a4B, tCB3, b0F, b2D, a9H, tK, tOp3, tUn3, a9J, a9I, a8h, b1b, b0E, b2G, a8f, b2z, b2C, tOr3, b0I, b0D, a6V, b2x, b2F, b0H, tLM3, rIs3, a8W, b3I, b2w,
 a9c,a9d,b3Q,b2h,b3P,tSM3,a7i,a6Z,a6Y,a4H,b1o,a2a,tSl3,tNo3,tPt3,b3J,a8Y,a8X,b2d,b1w,b1n,b1r,b2U,b2T,b2S,rInt,b1p,rIx3,b1s,b1x,a6w,b1t,b1v,a9S,rLt3,rLe3,rGt3,rGe3,a6x,rEq3,rNe3,rEqv,truT,b0q,tyK,tIsi,isiK,
 a6m,a6l,a7z,a7H,a7G,a8t,a8S,List.getElem?_cons_zero,List.getElem?_cons_succ,List.set_cons_zero,List.set_cons_succ,b5j,b7R,b8O,b9L,c0g,a0c,a5i,a7Z,b4S,b4R,b4I,a3U,a5K,
 a5v,a9T,a8p,a3y,a7E,a6y,a5a,b2j,b0w,a4v,a9m,a7W,b2i,a6O,a5P,a4X,a9i,id,Bool.not_true,Bool.not_false,c0A,c0C,c0y,Bool.false_or,
 decide_eq_true_eq,b7w,decide_eq_false_iff_not,b8j,↓reduceIte,if_true,if_false,true_and,and_true,and_self,b6b,not_true_eq_false,not_false_eq_true,b4Y,b5r,b6R]))
local macro_rules | `(tactic| walk_at "g") => `(tactic| exact fun _ _ _ _ _ => a8w (i := 0) (by dsimp only [blk]; decide +kernel) rfl (b7h rfl) (b8u rfl))
variable{P:b5i}{w:b5B}{K:PySem.W.Frag}{base:Heap}{mg:SOV}{n:Nat}
noncomputable abbrev top(i:Nat):Stmt:=PySem.Challenge.pw_loopwright_k09_texts_that_write_no_plait.main.body.getD i (.Pass ⟨0,0,0,0⟩)
noncomputable abbrev a2E:Stmt:=top 11
noncomputable abbrev a2O:Stmt:=top 12
noncomputable abbrev a3b:Stmt:=top 13
noncomputable abbrev a1N:Stmt:=top 15
noncomputable abbrev a3v:Stmt:=top 16
noncomputable abbrev a1y:Stmt:=top 18
noncomputable abbrev a2e:Stmt:=top 19
noncomputable abbrev a2f:Stmt:=top 20
noncomputable abbrev a1R:Stmt:=top 21
noncomputable abbrev a1O:Stmt:=top 22
noncomputable abbrev a2g:Stmt:=top 23
noncomputable abbrev a2h:Stmt:=top 24
noncomputable abbrev a1e:Stmt:=top 25
noncomputable abbrev a0R:Stmt:=top 26
noncomputable abbrev a1Q:Stmt:=top 27
noncomputable abbrev a1E:Stmt:=top 28
noncomputable abbrev a3c:Stmt:=top 29
noncomputable abbrev a1P:Stmt:=top 30
noncomputable abbrev a2F:Stmt:=top 31
noncomputable abbrev a6t:Stmt:=top 32
theorem a5q:FnScope ["strands","letter"] ["strands","letter"] (a0b a2E):=by walk_at "sc"
theorem a7B:FnScope ["strands","word","most"] ["strands","word","most"] (a0b a2O):=by walk_at "sc"
theorem a6r:FnScope ["plait"] ["plait"] (a0b a3b):=by walk_at "sc"
theorem a1w:FnScope ["figures","number"] ["figures"] (a0b a1N):=by walk_at "sc"
theorem a2d:FnScope ["text","parts","strands","plait"] ["text"] (a0b a3v):=by walk_at "sc"
theorem a3u:FnScope ["script","k"] ["script","k"] (a0b a1y):=by walk_at "sc"
theorem a4F:FnScope ["found"] ["found"] (a0b a2e):=by walk_at "sc"
theorem a2L:FnScope ["script","k","cell"] ["script","k"] (a0b a2f):=by walk_at "sc"
theorem a1d:FnScope ["state","many","found","mixed"] ["state","many"] (a0b a1R):=by walk_at "sc"
theorem a5r:FnScope ["state","strands","count"] ["state","strands","count"] (a0b a1O):=by walk_at "sc"
theorem a2M:FnScope ["state","least","most","letters","strands"] ["state","least","most","letters"] (a0b a2g):=by walk_at "sc"
theorem a2N:FnScope ["e","marks"] ["e"] (a0b a2h):=by walk_at "sc"
theorem a3t:FnScope ["marks","which"] ["marks","which"] (a0b a1e):=by walk_at "sc"
theorem a3n:FnScope ["found","strands","word"] ["found","strands","word"] (a0b a0R):=by walk_at "sc"
theorem a2y:FnScope ["word","number"] ["word"] (a0b a1Q):=by walk_at "sc"
theorem a1M:FnScope ["text","words","head","row"] ["text"] (a0b a1E):=by walk_at "sc"
theorem a1L:FnScope ["state","some"] ["state"] (a0b a3c):=by walk_at "sc"
theorem a0B:FnScope ["state","text","way","at","sign","words","spot"] ["state","text"] (a0b a1P):=by walk_at "sc"
theorem a1f:FnScope ["text","found","marks","e"] ["text"] (a0b a2F):=by walk_at "sc"
theorem a3h:FnScope ["script","strands","word","text","k","spoilt","due","told"] ["script"] (a0b a6t):=by walk_at "sc"
structure Zs(K:PySem.W.Frag)(P_ z1 z2 z3 z4 z5 z6:Addr)(mg:SOV):Prop where
 xs:Xs K mg P_ [("NoPlait",z1),("NoRoom",z2),("NoStep",z3),("NoNumber",z4),("NoTable",z5),("BadNote",z6)]
 b_ValueError:mg "ValueError"=none
 b_abs:mg "abs"=none
 b_all:mg "all"=none
 b_bool:mg "bool"=none
 b_int:mg "int"=none
 b_isinstance:mg "isinstance"=none
 b_len:mg "len"=none
 b_range:mg "range"=none
 b_str:mg "str"=none
 b_tuple:mg "tuple"=none
 x_one:XOneC K mg "BadNote"
 c_MOST_LETTERS:∃tk,mg "MOST_LETTERS"=some (.int 16 tk)
 c_MOST_STRANDS:∃tk,mg "MOST_STRANDS"=some (.int 6 tk)
noncomputable def a1v:Sp3:=fun ts M Q=>match ts with
 |[.int n,.int l]=>Q (.bl (a5I n l)) M
 |_=>False
noncomputable abbrev a3P:=DfD "is_letter" ["strands","letter"] a1v
theorem a5A{P_ z1 z2 z3 z4 z5 z6:Addr}(Z:Zs K P_ z1 z2 z3 z4 z5 z6 mg)(F:FD K mg "is_letter" a2E ["strands","letter"]):a3P P w K mg base (n+1):=by
 refine F.dfn a5q (by unfold a1v;walk_at "ln") (fun hr=>(a0m (a0D (b2f a5y a8B a0e (a1j a6b Z.b_abs b8S (a0a (hv 1) a0d)) (hv 0))))) fun ts M Q h=>?_;unfold a1v a5I at h;split at h
 ·rename_i n l;walk_at "rd";refine ite2 (fun c=>a0i ?_) (fun c=>a0i ?_)
  ·simpa [show 1<=l.natAbs by lia] using h
  ·simpa [show ¬1<=l.natAbs by lia] using h
 ·exact h.elim
noncomputable def a3a:Sp3:=fun ts M Q=>match ts with
 |[.int n,.tup w,.int k]=>∃ws:LSI,w=ws.map .int/\ws.length<10000/\Q (.bl (isWd n ws k)) M
 |_=>False
noncomputable abbrev a5Q:=DfD "is_word" ["strands","word","most"] a3a
theorem a7J{P_ z1 z2 z3 z4 z5 z6:Addr}(Z:Zs K P_ z1 z2 z3 z4 z5 z6 mg)(D_10:a3P P w K mg base n)(F:FD K mg "is_word" a2O ["strands","word","most"]):a5Q P w K mg base (n+1):=by
 obtain⟨tk_MOST_STRANDS,c_MOST_STRANDS⟩:=Z.c_MOST_STRANDS;refine F.dfn a7B (by unfold a3a;walk_at "ln") (fun hr=>(a0f (s_if (HW.ht (w_or (a4e (a7j a5y a5y a0e (hv 0) (a9a c_MOST_STRANDS))) (a8b (a0I a8C (a1j a1i Z.b_len PySem.boot_len (a0a (hv 1) a0d)) (hv 2) (a0E _))))) (a0m (a0D h_bl)) a0M) (a0m (a0D (a1j (a6a rfl) Z.b_all b8T (a0a (a3j rfl (a5L (hv 1)) (bkS (a0b a2O) ["strands","word","most"] ["letter","strands"] [none,some 0]) (a1B (i:=0)) (by walk_at "g") (fun _ _ _ _ _=>a3g) (fun _ _ _ _ _=>(a0s D_10 hr (a0a (hv 1) (a0a (hv 0) a0d))))) a0d)))))) fun ts M Q h=>?_;unfold a3a at h;split at h
 ·rename_i n w k;obtain⟨ws,rfl,hl,h⟩:=h;unfold isWd at h;walk_at "rd";refine ite2 (fun c1=>ite2 (fun c2=>?_) fun c2=>ite2 (fun c3=>?_) fun c3=>?_) fun c1=>?_
  ·rw[decide_eq_false c2,c0t,b6l] at h;exact a0i h
  ·rw[decide_eq_false (show ¬(ws.length:Int)<=k by lia),c0t,b6l] at h;exact a0i h
  ·rw[decide_eq_true c1,decide_eq_true (show n<=6 by lia),decide_eq_true (show(ws.length:Int)<=k by lia)] at h;refine⟨fun i ys M'=>ys=((ws.take i).map (a5I n)).map T.bl/\M'=M,⟨rfl,rfl⟩,fun _ _ _ _=>trivial,b5E (by lia:ws.length<=10000) (by decide),?_,?_⟩
   ·rintro i x ys M' hx ⟨rfl,rfl⟩;obtain⟨l,hl',rfl⟩:=a3K hx;unfold a1v;refine⟨?_,rfl⟩;rw[<- a0P (a5I n) hl',b5O];rfl
   ·rintro ys M' ⟨rfl,rfl⟩ p hp;rw[b6L,a3U];refine a0W (M0:=M') ?_ (Sub.new hp);rw[b9S];exact h
  ·rw[decide_eq_false c1,b6l,b6l,b6l] at h;exact a0i h
 ·exact h.elim
noncomputable def a1J:Sp3:=fun ts M Q=>match ts with
 |[.tup [.int n,.tup w]]=>∃ws:LSI,w=ws.map .int/\ws.length<10000/\Q (.bl (isPl n ws)) M
 |_=>False
noncomputable abbrev a4w:=DfD "is_plait" ["plait"] a1J
theorem a6C{P_ z1 z2 z3 z4 z5 z6:Addr}(Z:Zs K P_ z1 z2 z3 z4 z5 z6 mg)(D_17:a5Q P w K mg base n)(F:FD K mg "is_plait" a3b ["plait"]):a4w P w K mg base (n+1):=by
 obtain⟨tk_MOST_LETTERS,c_MOST_LETTERS⟩:=Z.c_MOST_LETTERS;refine F.dfn a6r (by unfold a1J;walk_at "ln") (fun hr=>(a0m (a0D (a0s D_17 hr (a0a (h_ix (hv 0) a0e) (a0a (h_ix (hv 0) a0e) (a0a (a9a c_MOST_LETTERS) a0d))))))) fun ts M Q h=>?_;unfold a1J at h;split at h
 ·rename_i n w;obtain⟨ws,rfl,hl,h⟩:=h;walk_at "rd";refine⟨ws,rfl,hl,?_⟩;rw[b1Y];exact a0i h
 ·exact h.elim
noncomputable def numI(x:Str):Option Int:=match PySem.intText? x with
 |some v=>if a0u v=x then some v else none
 |none=>none
theorem a5C{x:Str}{v:Int}(h:numI x=some v):PySem.intText? x=some v/\a0u v=x:=by
 unfold numI at h;split at h
 ·rename_i u hu;split at h
  ·rename_i hx;cases h;exact⟨hu,hx⟩
  ·cases h
 ·cases h
theorem a8G{x:Str}(h:numI x=none):PySem.intText? x=none\/∃v,PySem.intText? x=some v/\a0u v≠x:=by
 unfold numI at h;split at h
 ·rename_i u hu;split at h
  ·cases h
  ·rename_i hx;exact .inr ⟨u,hu,hx⟩
 ·rename_i hu;exact .inl hu
noncomputable def a1u:Sp3:=fun ts M Q=>match ts with
 |[.str x]=>Tx 300 x/\∃i:Int,numI x=some i/\Q (.int i) M
 |_=>False
noncomputable abbrev a3O:=DfD "number_in" ["figures"] a1u
theorem a5z{P_ z1 z2 z3 z4 z5 z6:Addr}(Z:Zs K P_ z1 z2 z3 z4 z5 z6 mg)(F:FD K mg "number_in" a1N ["figures"]):a3O P w K mg base (n+1):=by
 refine F.dfn a1w (by unfold a1u;walk_at "ln") (fun hr=>(a0f (b2J (a0m (a0V (i:=1) (a1A a9v Z.b_int b8U (a0a (hv 0) a0d)) a1w.nd))) (a0f (s_if (a0I (a5x hr.units) (a1A a2o Z.b_str b6x (a0a (hv 1) a0d)) (hv 0) (a0E _)) (a0m a6s) a0M) (a0m (a0D (hv 1)))))) fun ts M Q h=>?_;unfold a1u at h;split at h
 ·rename_i x;obtain⟨hx,i,hi,h⟩:=h;obtain⟨h1,h2⟩:=a5C hi;walk_at "rd";refine⟨i,h1,b5l hx.1 (by decide),?_⟩;walk_at "rd";rw[h2];have e:eqT (T.str x) (T.str x)=true:=by show(x==x)=true;simp
  rw[e];refine⟨a4r h1 hx,rfl,rfl,b6b _,?_⟩;rw[if_neg (by decide)];exact a0i h
 ·exact h.elim
noncomputable def a1a:Sp3X:=fun ts M Q E=>match ts with
 |[.str x]=>Tx 300 x/\numI x=none/\E "BadNote" M
 |_=>False
theorem a4L{P_ z1 z2 z3 z4 z5 z6:Addr}(Z:Zs K P_ z1 z2 z3 z4 z5 z6 mg)(F:FD K mg "number_in" a1N ["figures"]):DfXC P w K mg base (n+1) "number_in" ["figures"] a1a:=by
 refine F.dfnXCH a1w (by unfold a1a;walk_at "lnx") (fun hr acc accN accH=>a0x (a9P (i:=1) accH rfl rfl rfl rfl Z.x_one.cl Z.b_int Z.b_ValueError (fun _ _=>hv 0) (fun _=>a0p) a1w.nd)
  (a0x (HSX.c (b1g (HT.x (HT.n (a0I (a5x hr.units) (a1A a2o Z.b_str b6x (a0a (hv 1) a0d)) (hv 0) (a0E _)))) (a6n (a4G accN Z.x_one.cl a0p)) a6o))
   (a2Z (HSX.c (HS.x (HS.n (a0D (hv 1)))))))) fun ts M Q E h=>?_
 unfold a1a at h;split at h
 ·rename_i x;obtain⟨hx,hn,h⟩:=h;refine a0g fun K1 hK1=>?_;unfold a6j;walk_at "rd";refine⟨x,rfl,b5l hx.1 (by decide),?_⟩;rcases a8G hn with e|⟨v,e,hv⟩
  ·exact .inr ⟨e,b1i hx,M,Sub.refl,h⟩
  ·refine .inl ⟨v,e,?_⟩;rw[hK1];clear hK1;walk_at "rd";refine⟨a4r e hx,rfl,rfl,b6b _,?_⟩;rw[a6N,decide_eq_false hv,if_pos rfl];exact⟨M,Sub.refl,h⟩
 ·exact h.elim
noncomputable def RdS(x:Str)(n:Int)(ws:LSI):Prop:=∃p ps,b6w x (b5w " ")=p::ps/\a3q p (b5w ":")=true/\numI (b5V p none (some (-1)))=some n/\ps.map numI=ws.map some/\isPl n ws=true
noncomputable def RdN(x:Str):Prop:=∃p ps,b6w x (b5w " ")=p::ps/\(a3q p (b5w ":")=false\/a3q p (b5w ":")=true/\(numI (b5V p none (some (-1)))=none\/∃n,numI (b5V p none (some (-1)))=some n /\
 ((∃(k:Nat) (q:Str) (ws:LSI),ps[k]?=some q/\numI q=none/\(ps.take k).map numI=ws.map some)\/∃ws:LSI,ps.map numI=ws.map some/\isPl n ws=false)))
theorem a8F:∀ps:LSS,(∃ws:LSI,ps.map numI=ws.map some)\/∃(k:Nat) (q:Str) (ws:LSI),ps[k]?=some q/\numI q=none/\(ps.take k).map numI=ws.map some
 |[]=>.inl ⟨[],rfl⟩
 | q :: ps=>by
   cases h:numI q with
   |none=>exact .inr ⟨0,q,[],rfl,h,rfl⟩
   | some v =>
     rcases a8F ps with ⟨ws,e⟩|⟨k,r,ws,e1,e2,e3⟩
     ·exact .inl ⟨v::ws,by rw[b5z,h,e];rfl⟩
     ·exact .inr ⟨k+1,r,v::ws,e1,e2,by rw[b7d,b5z,h,e3];rfl⟩
theorem b4q(x:Str):(∃n ws,RdS x n ws)\/RdN x:=by
 obtain⟨p,ps,hs⟩:=a2q x;cases he:a3q p (b5w ":") with
 |false=>exact .inr ⟨p,ps,hs,.inl he⟩
 | true =>
   cases hn:numI (b5V p none (some (-1))) with
   |none=>exact .inr ⟨p,ps,hs,.inr ⟨he,.inl hn⟩⟩
   | some n =>
     rcases a8F ps with ⟨ws,e⟩|h
     ·cases hp:isPl n ws with
      |true=>exact .inl ⟨n,ws,p,ps,hs,he,hn,e,hp⟩
      |false=>exact .inr ⟨p,ps,hs,.inr ⟨he,.inr ⟨n,hn,.inr ⟨ws,e,hp⟩⟩⟩⟩
     ·exact .inr ⟨p,ps,hs,.inr ⟨he,.inr ⟨n,hn,.inl h⟩⟩⟩
theorem a4S{ps:LSS}{ws:LSI}(h:ps.map numI=ws.map some){i:Nat}{q:Str}(hq:ps[i]?=some q):∃v,ws[i]?=some v/\numI q=some v:=by
 have e:=congrArg (fun l=>l[i]?) h;rw[b5n,b5n,hq] at e;cases hw:ws[i]? with
 |none=>rw[hw] at e;cases e
 | some v =>
   rw[hw] at e;exact⟨v,rfl,b5p e⟩
theorem a4R{ps:LSS}{ws:LSI}(h:ps.map numI=ws.map some):ps.length=ws.length:=by
 have e:=congrArg b6Q h
 rwa [b4Y,b4Y] at e
noncomputable def a4D:Sp3:=fun ts M Q=>match ts with
 |[.str x]=>Tx 200 x/\∃n ws,RdS x n ws/\Q (.tup [.int n,.tup (ws.map .int)]) M
 |_=>False
noncomputable abbrev b3W:=DfD "read" ["text"] a4D
theorem b1R{P_ z1 z2 z3 z4 z5 z6:Addr}(Z:Zs K P_ z1 z2 z3 z4 z5 z6 mg)(D_11:a3O P w K mg base n)(D_14:a4w P w K mg base n)(F:FD K mg "read" a3v ["text"]):b3W P w K mg base (n+1):=by
 refine F.dfn a2d (by unfold a4D;walk_at "ln") (fun hr=>(a0f (a0V (i:=1) (a2U (hv 0) (a0a a0p a0d)) a2d.nd) (a0f (s_if (a4e (a1T (a3i (h_ix (hv 1) a0e) (a0a a0p a0d)))) (a0m a6s) a0M) (a0f (a0V (i:=2) (a0s D_11 hr (a0a (a0A (h_ix (hv 1) a0e) a0T (a0S (h_un a2B a0e))) a0d)) a2d.nd) (a0f (a0V (i:=3) (a5M (a0a (hv 2) (a0a (a1A a1W Z.b_tuple b5P (a0a (a3j rfl (a5L (a0A (hv 1) (a0S a0e) a0T)) (bkS (a0b a3v) ["text","parts","strands","plait"] ["part"] [none]) (a1B (i:=0)) (by walk_at "g") (fun _ _ _ _ _=>a3g) (fun _ _ _ _ _=>(a0s D_11 hr (a0a (hv 0) a0d)))) a0d)) a0d))) a2d.nd) (a0f (s_if (a4e (a1T (a0s D_14 hr (a0a (hv 3) a0d)))) (a0m a6s) a0M) (a0m (a0D (hv 3))))))))) fun ts M Q h=>?_;unfold a4D at h;split at h
 ·rename_i x;obtain⟨hx,n,ws,⟨p,ps,hs,he,hn,hm,hp⟩,h⟩:=h;have hps:=hx.parts;rw[hs] at hps;have hpx:=hps p (.head _);have hl:=a4R hm;have hc:=a2J hs;have hx1:=hx.1;refine a0g fun K1 hK1=>?_;walk_at "rd";refine⟨by decide +kernel,a0o (by lia),a2S _ (by lia),fun r hr=>?_⟩;rw[hs];have hS0:=Sub.new hr (o:=MO.lst ((p::ps).map T.str));have hM0:updM M r (MO.lst ((p::ps).map T.str)) r=some (MO.lst ((p::ps).map T.str)):=a0c
  generalize updM M r (MO.lst ((p::ps).map T.str))=M0 at hS0 hM0|-
  rw[hK1];clear hK1;walk_at "rd";rw[hM0];dsimp only;rw[b5z,a7Z];dsimp only;rw[he];rw[if_neg (by decide)];refine⟨trivial,a0o (b5E hpx.1 (by decide)),(hpx.slice _ _).up (by decide),n,hn,?_⟩;dsimp only;rw[hM0];dsimp only;rw[b5z];intro r1 hr1
  have ec:cutT (T.str p::b5Q T.str ps) (some 1) none=b5Q T.str ps:=by
   rw[a2u _ _ (by decide)];rfl
  rw[ec];have hS1:=hS0.newr (o:=.lst (b5Q T.str ps)) hr1;have hM1:updM M0 r1 (.lst (b5Q T.str ps)) r1=some (.lst (b5Q T.str ps)):=a0c
  generalize updM M0 r1 (.lst (b5Q T.str ps))=M1 at hS1 hM1|-
  refine⟨fun i ys M'=>ys=(ws.take i).map T.int/\M'=M1,⟨rfl,rfl⟩,?_,a1S (by rw[b4Y];lia),?_,?_⟩
  ·rintro i ys M' ⟨_,rfl⟩;exact hM1
  ·rintro i x ys M' hx ⟨rfl,rfl⟩;rw[b5n] at hx;obtain⟨q,hq,rfl⟩:=b5Y.mp hx;obtain⟨v,hv,hnv⟩:=a4S hm hq;refine⟨(hps q (.tail _ (b5W hq))).up (by decide),v,hnv,?_,rfl⟩;rw[<- a0P T.int hv]
  ·rintro ys M' ⟨rfl,rfl⟩ u hu;rw[b4Y,hl,b6L];refine⟨by decide,ws,rfl,by lia,?_⟩;rw[hp];walk_at "rd";rw[if_neg (by decide)];exact a0W h (hS1.newr hu)
 ·exact h.elim
noncomputable def a2K:Sp3X:=fun ts M Q E=>match ts with
 |[.str x]=>Tx 200 x/\RdN x/\E "BadNote" M
 |_=>False
theorem b0h{P_ z1 z2 z3 z4 z5 z6:Addr}(Z:Zs K P_ z1 z2 z3 z4 z5 z6 mg)(D_14:DfD "is_plait" ["plait"] a1J P w K mg base n)(D_11:DfD "number_in" ["figures"] a1u P w K mg base n)(Dc:DfXC P w K mg base n "number_in" ["figures"] a1a)(F:FD K mg "read" a3v ["text"]):DfXC P w K mg base (n+1) "read" ["text"] a2K:=by
 refine F.dfnXCH a2d (by unfold a2K;walk_at "lnx") (fun hr acc accN accH=>a0x (HSX.c (HS.x (HS.n (a0V (i:=1) (a2U (hv 0) (a0a a0p a0d)) a2d.nd))))
  (a0x (HSX.c (b1g (HT.x (HT.n (a4e (a1T (a3i (h_ix (hv 1) a0e) (a0a a0p a0d)))))) (a6n (a4G accN Z.x_one.cl a0p)) a6o))
  (a0x (HSXc.or (HSX.c (HS.x (HS.n (a0V (i:=2) (a0s D_11 hr (a0a (a0A (h_ix (hv 1) a0e) a0T (a0S (h_un a2B a0e))) a0d)) a2d.nd))))
   (HSR.c (b1l (b0K acc (a6M rfl) Dc hr (a0a (a0A (h_ix (hv 1) a0e) a0T (a0S (h_un a2B a0e))) a0d)))))
  (a0x (HSXc.or (HSX.c (HS.x (HS.n (a0V (i:=3) (a5M (a0a (hv 2) (a0a (a1A a1W Z.b_tuple b5P (a0a (a3j rfl (a5L (a0A (hv 1) (a0S a0e) a0T)) (a3V (outer:=a0b a3v) (N:=["text","parts","strands","plait"]) (N':=["part"]) (ix:=[none]) (by decide +kernel) rfl rfl) (a1B (i:=0)) (by walk_at "g") (fun _ _ _ _ _=>a3g) (fun _ _ _ _ _=>(a0s D_11 hr (a0a (hv 0) a0d)))) a0d)) a0d))) a2d.nd))))
   (HSR.c (b1l (b2Q (hv 2) (b1m (b2R accH rfl rfl rfl rfl (a5L (a0A (hv 1) (a0S a0e) a0T)) (a3V (outer:=a0b a3v) (N:=["text","parts","strands","plait"]) (N':=["part"]) (ix:=[none]) (by decide +kernel) rfl rfl) (a1B (i:=0)) (by walk_at "g")
    (fun C s1 H1 fp pins pn xe H0 E3 hp ac=>HEXc.or (HEX.c (HE.x (a0s D_11 hr (a0a (hv 0) a0d)))) (a6K ac hp Dc hr (a0a (hv 0) a0d)))) Z.b_tuple b5P)))))
  (a0x (HSX.c (b1g (HT.x (HT.n (a4e (a1T (a0s D_14 hr (a0a (hv 3) a0d)))))) (a6n (a4G accN Z.x_one.cl a0p)) a6o))
  (a2Z (HSX.c (HS.x (HS.n (a0D (hv 3)))))))))) ) fun ts M Q E h=>?_
 unfold a2K at h;split at h
 ·rename_i x;obtain⟨hx,⟨p,ps,hs,hc⟩,h⟩:=h;have hps:=hx.parts;rw[hs] at hps;have hpx:=hps p (.head _);have hct:=a2J hs;have hx1:=hx.1;refine a0g fun K1 hK1=>?_;walk_at "rd";refine⟨by decide +kernel,a0o (by lia),a2S _ (by lia),fun r hr=>?_⟩;rw[hs];have hS0:=Sub.new hr (o:=MO.lst ((p::ps).map T.str));have hM0:updM M r (MO.lst ((p::ps).map T.str)) r=some (MO.lst ((p::ps).map T.str)):=a0c
  generalize updM M r (MO.lst ((p::ps).map T.str))=M0 at hS0 hM0|-
  rw[hK1];clear hK1;refine a0g fun K2 hK2=>?_;walk_at "rd";rw[hM0];dsimp only;rw[b5z,a7Z];dsimp only;rcases hc with he|⟨he,hc⟩
  ·rw[he,if_pos rfl];exact⟨trivial,M,hS0,h⟩
  rw[he,if_neg (by decide)];refine⟨trivial,?_⟩;rw[hK2];clear hK2;refine a0g fun K3 hK3=>?_;walk_at "rd";rw[hM0];dsimp only;rw[b5z,a7Z];dsimp only;have hlz:p.length<=sizeLine:=a0o (b5E hpx.1 (by decide));have hsl:Tx 300 (b5V p none (some (-1))):=(hpx.slice _ _).up (by decide);rcases hc with hn|⟨n,hn,hc⟩
  ·exact .inr ⟨hlz,hsl,hn,M,hS0,h⟩
  refine .inl ⟨hlz,hsl,n,hn,?_⟩;rw[b5z] at hM0;rw[hK3];clear hK3;refine a0g fun K4 hK4=>?_
  have ec:cutT (T.str p::b5Q T.str ps) (some 1) none=b5Q T.str ps:=by
   rw[a2u _ _ (by decide)];rfl
  rcases hc with ⟨k,q,ws,hq,hqn,hm⟩|⟨ws,hm,hp⟩
  ·clear hK4;refine .inr ?_;unfold a6k;walk_at "rd";rw[hM0];dsimp only;intro r1 hr1;rw[ec];have hS1:=hS0.newr (o:=.lst (b5Q T.str ps)) hr1;have hM1:updM M0 r1 (.lst (b5Q T.str ps)) r1=some (.lst (b5Q T.str ps)):=a0c
   generalize updM M0 r1 (.lst (b5Q T.str ps))=M1 at hS1 hM1|-
   have hk:=(b5q.mp hq).1;refine⟨fun i ys M'=>i<=k/\M'=M1,⟨b6b _,rfl⟩,?_,a1S (by rw[b4Y];lia),?_⟩
   ·rintro i ys M' ⟨hi,rfl⟩;exact⟨hM1,by rw[b4Y];lia⟩
   ·rintro i x ys M' hx2 ⟨hi,rfl⟩;rw[b5n] at hx2;obtain⟨y,hy,rfl⟩:=b5Y.mp hx2;have hty:Tx 300 y:=(hps y (.tail _ (b5W hy))).up (by decide);by_cases c:i=k
    ·subst c;have:q=y:=b5p (hq.symm.trans hy);subst this;exact .inr ⟨hty,hqn,M,hS1,h⟩
    ·have hi2:i<k:=by lia
     obtain⟨v,_,hv⟩:=a4S hm (i:=i) (q:=y) (by rw[b7f hi2];exact hy);exact .inl ⟨hty,v,hv,by lia,rfl⟩
  ·have hl:=a4R hm;refine .inl ?_;walk_at "rd";rw[hM0];dsimp only;intro r1 hr1;rw[ec];have hS1:=hS0.newr (o:=.lst (b5Q T.str ps)) hr1;have hM1:updM M0 r1 (.lst (b5Q T.str ps)) r1=some (.lst (b5Q T.str ps)):=a0c
   generalize updM M0 r1 (.lst (b5Q T.str ps))=M1 at hS1 hM1|-
   refine⟨fun i ys M'=>ys=(ws.take i).map T.int/\M'=M1,⟨rfl,rfl⟩,?_,a1S (by rw[b4Y];lia),?_,?_⟩
   ·rintro i ys M' ⟨_,rfl⟩;exact hM1
   ·rintro i x ys M' hx2 ⟨rfl,rfl⟩;rw[b5n] at hx2;obtain⟨y,hy,rfl⟩:=b5Y.mp hx2;obtain⟨v,hv,hnv⟩:=a4S hm hy;refine⟨(hps y (.tail _ (b5W hy))).up (by decide),v,hnv,?_,rfl⟩;rw[<- a0P T.int hv]
   ·rintro ys M' ⟨rfl,rfl⟩ u hu;rw[b4Y,hl,b6L];refine⟨by decide,?_⟩;have hS2:=hS1.newr (o:=MO.lst (ws.map T.int)) hu
    generalize updM M' u (MO.lst (ws.map T.int))=M2 at hS2|-
    rw[hK4];clear hK4;walk_at "rd";refine⟨ws,rfl,by lia,?_⟩;rw[hp];walk_at "rd";exact⟨M,hS2,h⟩
 ·exact h.elim
noncomputable def a1q:Sp3:=fun ts M Q=>match ts with
 |[.rd s,.int k]=>∃ns:LSI,s=ns.map .int/\0<=k/\∀c,Q (.int c) M
 |_=>False
noncomputable abbrev a2A:=DfD "_law_cell_at" ["script","k"] a1q
theorem a3B{P_ z1 z2 z3 z4 z5 z6:Addr}(Z:Zs K P_ z1 z2 z3 z4 z5 z6 mg)(F:FD K mg "_law_cell_at" a1y ["script","k"]):a2A P w K mg base (n+1):=by
 refine F.dfn a3u (by unfold a1q;walk_at "ln") (fun hr=>(a0f (s_if (a0I a8B (hv 1) (a1j a1i Z.b_len PySem.boot_len (a0a (hv 0) a0d)) (a0E _)) (a0m (a0D (h_ix (hv 0) (hv 1)))) a0M) (a0m (a0D a0e)))) fun ts M Q h=>?_;unfold a1q at h;split at h
 ·rename_i s k;obtain⟨ns,rfl,h0,h⟩:=h;walk_at "rd";refine ite2 (fun c=>?_) (fun c=>a0i (h _));rw[b0B ns k h0 c];exact a0i (h _)
 ·exact h.elim
noncomputable def a1l:Sp3:=fun ts M Q=>match ts with
 |[.int _]=>Q (.bl true) M
 |_=>False
noncomputable abbrev a3l:=DfD "_law_whole" ["found"] a1l
theorem a4N{P_ z1 z2 z3 z4 z5 z6:Addr}(Z:Zs K P_ z1 z2 z3 z4 z5 z6 mg)(F:FD K mg "_law_whole" a2e ["found"]):a3l P w K mg base (n+1):=by
 refine F.dfn a4F (by unfold a1l;walk_at "ln") (fun hr=>(a0m (a0D (b3M (b0u .int (hv 0) Z.b_isinstance Z.b_int b8U) (b3K (b3L (b0u .bool (hv 0) Z.b_isinstance Z.b_bool PyProof.Rows.boot_bool))))))) fun ts M Q h=>?_;unfold a1l at h;split at h
 ·walk_at "rd";exact a0i h
 ·exact h.elim
noncomputable def a1m:Sp3:=fun ts M Q=>match ts with
 |[.rd s,.int k]=>∃ns:LSI,s=ns.map .int/\0<=k/\∀p n f,M p=none->Q (.adr p) (updM M p (.lst [.int n,.bl f]))
 |_=>False
noncomputable abbrev a5R:=DfD "_law_state" ["script","k"] a1m
theorem a4O{P_ z1 z2 z3 z4 z5 z6:Addr}(Z:Zs K P_ z1 z2 z3 z4 z5 z6 mg)(D_1:a2A P w K mg base n)(F:FD K mg "_law_state" a2f ["script","k"]):a5R P w K mg base (n+1):=by
 refine F.dfn a2L (by unfold a1m;walk_at "ln") (fun hr=>(a0f (a0V (i:=2) (a0s D_1 hr (a0a (hv 0) (a0a (hv 1) a0d))) a2L.nd) (a0f (s_if (a0I b0O (hv 2) (a0q a8A a0e a0e) (a0E _)) (a0m (a0D (a4f (a0a (a0q a6A (hv 2) (a0q a8A a0e a0e)) (a0a h_bl a0d))))) a0M) (a0m (a0D (a4f (a0a (a0q a3e (hv 2) a0e) (a0a h_bl a0d)))))))) fun ts M Q h=>?_;unfold a1m at h;split at h
 ·rename_i s k;obtain⟨ns,rfl,h0,h⟩:=h;walk_at "rd";refine⟨ns,rfl,h0,fun c=>?_⟩;walk_at "rd";refine⟨⟨by decide,by decide,by decide⟩,?_⟩;refine ite2 (fun _=>⟨⟨by decide,by decide,by decide⟩,by decide,fun p hp=>a0i (h _ _ _ hp)⟩) (fun _=>⟨by decide,by decide,fun p hp=>a0i (h _ _ _ hp)⟩)
 ·exact h.elim
theorem a7r{x y k:Int}(hk:0<k)(hk':k<=2^64):CMul (x%k) y:=by
 have h1:=b8V x (b8P hk);have h2:=b8l x hk;exact .inl ⟨by lia,by lia⟩
theorem a9u{x m:Int}(h0:0<m)(h1:m<2^100):b2n x m:=by
 refine⟨h0,?_⟩;have:m.natAbs.log2<100:=(c0P (by lia)).mpr (by lia);lia
noncomputable def a1x:Sp3:=fun ts M Q=>match ts with
 |[.adr p,.int m]=>∃s f,M p=some (.lst [.int s,.bl f])/\0<m/\m<2^100/\∀c s',0<=c->c<m->Q (.int c) (updM M p (.lst [.int s',.bl f]))
 |_=>False
noncomputable abbrev a0U:=DfD "_law_choice" ["state","many"] a1x
theorem a4c{P_ z1 z2 z3 z4 z5 z6:Addr}(Z:Zs K P_ z1 z2 z3 z4 z5 z6 mg)(F:FD K mg "_law_choice" a1R ["state","many"]):a0U P w K mg base (n+1):=by
 refine F.dfn a1d (by unfold a1x;walk_at "ln") (fun hr=>(a0f (s_if (a1T (h_ix (hv 0) a0e)) (a0f (a0V (i:=2) (a0q a3e (h_ix (hv 0) a0e) (hv 1)) a1d.nd) (a0f (b1h (a0q a8D (h_ix (hv 0) a0e) (hv 1)) (b3O (hv 0) a0e)) (a0m (a0D (hv 2))))) a0M) (a0f (b1h (a0q a3e (a0q a0n (a0q a3d (h_ix (hv 0) a0e) a0e) a0e) a0e) (b3O (hv 0) a0e)) (a0f (a0V (i:=3) (a0q a3e (a0q a0n (a0q a0n (a0q a3d (h_ix (hv 0) a0e) (h_ix (hv 0) a0e)) (a0q a3d a0e (h_ix (hv 0) a0e))) a0e) a0e) a1d.nd) (a0f (a0V (i:=3) (a0q a3e (a0q a0n (a0q a3d (hv 3) (hv 3)) (a0q a3d a0e (hv 3))) a0e) a1d.nd) (a0m (a0D (a0q a3e (a0q a8D (hv 3) a0e) (hv 1))))))))) fun ts M Q h=>?_;unfold a1x at h;split at h
 ·rename_i p m;obtain⟨s,f,hM,h0,h1,h⟩:=h;refine a0g fun K1 hK1=>?_
  have hk:K1 [some (.adr p),some (.int m),none,none] M:=by
   rw[hK1];clear hK1;refine a0g fun K2 hK2=>?_;walk_at "rd";simp only[hM];walk_at "rd";refine⟨.inr ⟨by decide,by decide⟩,by decide,?_⟩;have hM2:updM M p (.lst [.int ((s*48271+29)%2147483647),.bl f]) p=some (.lst [.int ((s*48271+29)%2147483647),.bl f]):=a0c;have b0:CMul ((s*48271+29)%2147483647) ((s*48271+29)%2147483647):=a7r (by decide) (by decide)
   generalize (s*48271+29)%2147483647=s1 at hM2 b0|-
   rw[hK2];clear hK2;refine a0g fun K3 hK3=>?_;walk_at "rd";refine⟨b0,.inl ⟨by decide,by decide⟩,by decide,?_⟩;have b1:∀y,CMul ((s1*s1+39373*s1+7)%2147483629) y:=fun y=>a7r (by decide) (by decide)
   generalize (s1*s1+39373*s1+7)%2147483629=mx at b1|-
   rw[hK3];clear hK3;walk_at "rd";refine⟨b1 _,.inl ⟨by decide,by decide⟩,by decide,a9u (by decide) (by decide),h0,?_⟩;have hh:=h (((mx*mx+16807*mx)%2147483587) / 8%m) s1 (b8V _ (b8P h0)) (b8l _ h0);refine a0W hh ?_;exact Sub.refl
  walk_at "rd";simp only[hM];walk_at "rd";exact ite2 (fun c=>⟨h0,a9u h0 h1,a0i (h _ _ (b8V _ (b8P h0)) (b8l _ h0))⟩) (fun c=>hk)
 ·exact h.elim
noncomputable def a2b:Sp3:=fun ts M Q=>match ts with
 |[.adr p,.int n,.int c]=>∃s f,M p=some (.lst [.int s,.bl f])/\n<2^60/\0<=c/\c<=1000/\∀(w:LSI) s',a0O n w->(w.length:Int)<=c->(2<=n->(w.length:Int)=c)->Q (.tup (w.map .int)) (updM M p (.lst [.int s',.bl f]))
 |_=>False
noncomputable abbrev a3Q:=DfD "_law_word" ["state","strands","count"] a2b
theorem a5B{P_ z1 z2 z3 z4 z5 z6:Addr}(Z:Zs K P_ z1 z2 z3 z4 z5 z6 mg)(D_3:a0U P w K mg base n)(F:FD K mg "_law_word" a1O ["state","strands","count"]):a3Q P w K mg base (n+1):=by
 refine F.dfn a5r (by unfold a2b;walk_at "ln") (fun hr=>(a0f (s_if (a0I a8B (hv 1) a0e (a0E _)) (a0m (a0D (a5M a0d))) a0M) (a0m (a0D (a1A a1W Z.b_tuple b5P (a0a (a3j rfl (a4V Z.b_range (a0a (hv 2) a0d)) (bkS (a0b a1O) ["state","strands","count"] ["k","state","strands"] [none,some 0,some 1]) (a1B (i:=0)) (by walk_at "g") (fun _ _ _ _ _=>a3g) (fun _ _ _ _ _=>(a0q a3d (h_ix (a4f (a0a a0e (a0a (h_un a2B a0e) a0d))) (a0s D_3 hr (a0a (hv 1) (a0a a0e a0d)))) (a0q a0n a0e (a0s D_3 hr (a0a (hv 1) (a0a (a0q a6A (hv 2) a0e) a0d))))))) a0d)))))) fun ts M Q h=>?_;unfold a2b at h;split at h
 ·rename_i p n c;obtain⟨s,f,hM,hn,h0,h1,h⟩:=h;walk_at "rd";refine ite2 (fun hc=>?_) (fun hc=>⟨by lia,by lia,?_⟩)
  ·have:=h [] s (fun _ z=>nomatch z) (by simpa using h0) (by lia);rw[a5j hM] at this;exact a0i this
  ·refine⟨fun i ys M'=>∃w s',ys=w.map T.int/\w.length=i/\a0O n w/\Sub (updM M p (.lst [.int s',.bl f])) M',⟨[],s,rfl,rfl,(fun _ z=>nomatch z),by rw[a5j hM];exact Sub.refl⟩,fun _ _ _ _=>trivial,?_,?_,?_⟩
   ·unfold a1k;rw[b4Y,b8z];exact b5E (by lia:c.toNat<=1000) (by decide)
   ·rintro i x ys M' hx ⟨w,s',rfl,rfl,hw,hS⟩;walk_at "rd";refine⟨by decide,fun r hr=>?_⟩;have hM':=hS p _ a0c;have hpr:p≠r:=b1X hM' hr;refine⟨s',f,by rw[a0C hpr,hM'],by decide,by decide,fun c1 s1 hc0 hc1=>?_⟩;simp only[a0C hpr.symm,a0c];have hcc:c1=0\/c1=1:=by lia
    have fin:∀g:Int,(g=1\/g=-1)->∀c2 s2:Int,0<=c2->c2<n-1->CMul g (1+c2)/\∃w' s'',b5Q T.int w++[T.int (g*(1+c2))]=b5Q T.int w'/\w'.length=w.length+1/\a0O n w' /\
      Sub (updM M p (.lst [.int s'',.bl f])) (updM (updM M' r (.lst [.int 1,.int (-1)])) p (.lst [.int s2,.bl f])):=by
     intro g hg c2 s2 h20 h21;refine⟨.inl ⟨by lia,by lia⟩,w++[g*(1+c2)],s2,by simp,by simp,fun l hl=>?_,(hS.newr hr).set⟩;rcases b5J.mp hl with z|z
     ·exact hw l z
     ·have e:l=g*(1+c2):=by simpa using z
      subst e;unfold a2X;rcases hg with rfl|rfl
      ·rw[Int.one_mul];lia
      ·rw[Int.neg_one_mul];lia
    rcases hcc with rfl|rfl
    ·walk_at "rd";exact⟨s1,f,a0c,by lia,by lia,fun c2 s2 h20 h21=>by walk_at "rd";exact fin 1 (.inl rfl) c2 s2 h20 h21⟩
    ·walk_at "rd";exact⟨s1,f,a0c,by lia,by lia,fun c2 s2 h20 h21=>by walk_at "rd";exact fin (-1) (.inr rfl) c2 s2 h20 h21⟩
   ·rintro ys M' ⟨w,s',rfl,hl,hw,hS⟩ q hq
    have hlen:(w.length:Int)=c:=by
     rw[hl];unfold a1k;rw[b4Y,b8z];lia
    exact a0W (h w s' hw (by lia) (fun _=>hlen)) (hS.newr hq)
 ·exact h.elim
noncomputable def a1n:Sp3:=fun ts M Q=>match ts with
 |[.adr p,.int a,.int b,.int c]=>∃s f,M p=some (.lst [.int s,.bl f])/\a<=b/\0<=a/\b<=1000/\0<=c/\c<1000/\∀(n:Int) (w:LSI) s',a<=n->n<=b->a0O n w->(w.length:Int)<=c->Q (.tup [.int n,.tup (w.map .int)]) (updM M p (.lst [.int s',.bl f]))
 |_=>False
noncomputable abbrev a5S:=DfD "_law_plait" ["state","least","most","letters"] a1n
theorem a4P{P_ z1 z2 z3 z4 z5 z6:Addr}(Z:Zs K P_ z1 z2 z3 z4 z5 z6 mg)(D_3:a0U P w K mg base n)(D_12:a3Q P w K mg base n)(F:FD K mg "_law_plait" a2g ["state","least","most","letters"]):a5S P w K mg base (n+1):=by
 refine F.dfn a2M (by unfold a1n;walk_at "ln") (fun hr=>(a0f (a0V (i:=4) (a0q a0n (hv 1) (a0s D_3 hr (a0a (hv 0) (a0a (a0q a0n (a0q a6A (hv 2) (hv 1)) a0e) a0d)))) a2M.nd) (a0m (a0D (a5M (a0a (hv 4) (a0a (a0s D_12 hr (a0a (hv 0) (a0a (hv 4) (a0a (a0s D_3 hr (a0a (hv 0) (a0a (a0q a0n (hv 3) a0e) a0d))) a0d)))) a0d))))))) fun ts M Q h=>?_;unfold a1n at h;split at h
 ·rename_i p a b c;obtain⟨s,f,hM,h1,h2,h3,h4,h5,h⟩:=h;walk_at "rd";refine⟨s,f,hM,by lia,by lia,fun c1 s1 h10 h11=>?_⟩;walk_at "rd";refine⟨s1,f,a0c,by lia,by lia,fun c2 s2 h20 h21=>?_⟩;walk_at "rd";refine⟨s2,f,by simp only[a0c],by lia,by lia,by lia,fun w s3 hw hl _=>?_⟩;walk_at "rd";exact⟨by decide,a0i (h _ _ _ (by lia) (by lia) hw (by lia))⟩
 ·exact h.elim
theorem a4Q{P:b5i}{w:b5B}{K:PySem.W.Frag}{mg:SOV}{base:Heap}{f:Addr}{fd:b6g}{n:Nat}{P_ z1 z2 z3 z4 z5 z6:Addr}(F:Fun K "_law_marks" "_law_marks" a2h f fd)(hm:mg "_law_marks"=some (.ref f))(hb:a3Y K fd ["e"] [])(Z:Zs K P_ z1 z2 z3 z4 z5 z6 mg):DfM P w K mg base (n+1) "_law_marks" (xDs [("NoPlait",z1),("NoRoom",z2),("NoStep",z3),("NoNumber",z4),("NoTable",z5),("BadNote",z6)]):=by
 refine⟨f,fd,?_,hm,F.kp,hb⟩;obtain⟨oc,od,kV,doc,pm,an,cdv,ct,osl,rfl,lk,hcd⟩:=F.ex;exact b3S lk hcd a2N (fun vs H Q E ⟨a,C,φ,bs,e,_⟩=>by rw[e];rfl) fun A outer s H vs Q E hr hsp=>⟨_,a7a (a8r (i:=1) a2N.nd rfl (b7h rfl) (a8x (a1r (a3z (i:=0) rfl (b7h rfl) Z.b_isinstance (fun pins s σ H Q E I q=>a0X I rfl (Z.xs.mg ("NoPlait",z1) (.head _)) q) (by decide) (by decide)) (a1r (a3z (i:=0) rfl (b7h rfl) Z.b_isinstance (fun pins s σ H Q E I q=>a0X I rfl (Z.xs.mg ("NoRoom",z2) (.tail _ (.head _))) q) (by decide) (by decide)) (a1r (a3z (i:=0) rfl (b7h rfl) Z.b_isinstance (fun pins s σ H Q E I q=>a0X I rfl (Z.xs.mg ("NoStep",z3) (.tail _ (.tail _ (.head _)))) q) (by decide) (by decide)) (a1r (a3z (i:=0) rfl (b7h rfl) Z.b_isinstance (fun pins s σ H Q E I q=>a0X I rfl (Z.xs.mg ("NoNumber",z4) (.tail _ (.tail _ (.tail _ (.head _))))) q) (by decide) (by decide)) a5w)))))) (a4I (b0L (b3e b0M (a7b (i:=1) rfl (b7h rfl)) (a8x (a1r (a3z (i:=0) rfl (b7h rfl) Z.b_isinstance (fun pins s σ H Q E I q=>a0X I rfl (Z.xs.mg ("NoTable",z5) (.tail _ (.tail _ (.tail _ (.tail _ (.head _)))))) q) (by decide) (by decide)) (a1r (a3z (i:=0) rfl (b7h rfl) Z.b_isinstance (fun pins s σ H Q E I q=>a0X I rfl (Z.xs.mg ("BadNote",z6) (.tail _ (.tail _ (.tail _ (.tail _ (.tail _ (.head _))))))) q) (by decide) (by decide)) (a1r (a3z (i:=0) rfl (b7h rfl) Z.b_isinstance (fun pins s σ H Q E I q=>a2l I rfl Z.b_ValueError rfl q) (by decide) (by decide)) a5w))))))),a7L (D1:=.ref z1) (D2:=.ref z2) (D3:=.ref z3) (D4:=.ref z4) (D5:=.ref z5) (D6:=.ref z6) (D7:=.type "ValueError") hsp⟩
noncomputable def refL(j:Int):List Bool:=((b5S 6).map fun k=>decide (((k:Nat):Int)=j))++[true]
theorem a4u:∀(a b:List Bool),eqTs (a.map T.bl) (b.map T.bl)=decide (a=b)
 |[],[]=>by simp[a4X]
 |[],u::L'=>by simp[eqTs]
 |u::L,[]=>by simp[eqTs]
 | u::L,v::L'=>by
   rw[b5z,b5z,a5P,a4u L L'];cases u<;>cases v<;>simp[eqT]
theorem a2j:∀a:List Bool,a0N (a.map T.bl)=true
 |[]=>rfl
 |u::L=>by rw[b5z,a3y,a2j L];rfl
theorem a3N:∀a:List Bool,a2H (a.map T.bl)=0
 |[]=>rfl
 |u::L=>by rw[b5z,a4v,a3N L];rfl
noncomputable def a0Q:Sp3:=fun ts M Q=>match ts with
 |[.adr p,.int j]=>∃bs:List Bool,M p=some (.lst (bs.map .bl))/\Q (.bl (decide (bs=refL j))) M
 |_=>False
noncomputable abbrev a4h:=DfD "_law_refused" ["marks","which"] a0Q
theorem a3A{P_ z1 z2 z3 z4 z5 z6:Addr}(Z:Zs K P_ z1 z2 z3 z4 z5 z6 mg)(F:FD K mg "_law_refused" a1e ["marks","which"]):a4h P w K mg base (n+1):=by
 refine F.dfn a3t (by unfold a0Q;walk_at "ln") (fun hr=>(a0m (a0D (b2e (a2z hr.units) (hv 0) (a0q a0n (a3j rfl (a4V Z.b_range (a0a a0e a0d)) (bkS (a0b a1e) ["marks","which"] ["k","which"] [none,some 1]) (a1B (i:=0)) (by walk_at "g") (fun _ _ _ _ _=>a3g) (fun _ _ _ _ _=>(b2e (a2z hr.units) (hv 0) (hv 1) (a0E _)))) (a4f (a0a h_bl a0d))) (a0E _))))) fun ts M Q h=>?_;unfold a0Q at h;split at h
 ·rename_i p j;obtain⟨bs,hM,h⟩:=h;walk_at "rd";refine⟨by decide,by decide,fun i ys M'=>ys=(((b5S 6).map fun k=>decide (((k:Nat):Int)=j)).take i).map T.bl/\M'=M,⟨rfl,rfl⟩,fun _ _ _ _=>trivial,by decide,?_,?_⟩
  ·rintro i x ys M' hx ⟨rfl,rfl⟩;obtain⟨hi,rfl⟩:=a6v hx
   have hg:((b5S 6).map fun k=>decide (((k:Nat):Int)=j))[i]?=some (decide (((i:Nat):Int)=j)):=by
    rw[b5n,b7c (by lia)];rfl
   refine⟨rfl,by rw[a5a];lia,?_,rfl⟩;rw[b8w,hg,b5O,a6O];rfl
  ·rintro ys M' ⟨rfl,rfl⟩ r hr;have e:(((b5S 6).map fun k=>decide (((k:Nat):Int)=j)).take (a1k 0 (c0L 6)).length)=(b5S 6).map fun k=>decide (((k:Nat):Int)=j):=b6N (by rw[a2P];simp);rw[e];refine⟨by decide,fun p1 hp1=>?_⟩
   generalize hL:((b5S 6).map fun k=>decide (((k:Nat):Int)=j))=L at hp1|-
   have hLl:L.length=6:=by rw[<- hL];simp
   have n1:r≠p1:=fun z=>by rw[<- z,a0c] at hp1;cases hp1
   rw[a0C n1];simp only[a0c];refine⟨by rw[b4Y,hLl];decide,fun r1 hr1=>?_⟩;have hS:Sub M' (updM (updM (updM M' r (.lst (L.map T.bl))) p1 (.lst [T.bl true])) r1 (.lst (L.map T.bl++[T.bl true]))):=((Sub.new hr).newr hp1).newr hr1;have hp:updM (updM (updM M' r (.lst (L.map T.bl))) p1 (.lst [T.bl true])) r1 (.lst (L.map T.bl++[T.bl true])) p=some (.lst (bs.map T.bl)):=hS _ _ hM;simp only[hp,a0c];have e2:L.map T.bl++[T.bl true]=(L++[true]).map T.bl:=by rw[b5O];rfl
   rw[e2] at hS|-
   refine⟨a2j _,a2j _,by rw[a3N];lia,?_⟩;rw[a4u];have e3:refL j=L++[true]:=by unfold refL;rw[hL]
   rw[<- e3];exact a0W h (by rw[e3];exact hS)
 ·exact h.elim
noncomputable def a0L:Sp3:=fun ts M Q=>match ts with
 |[.tup [.int a,.tup u],.int n,.tup w]=>∃us ws:LSI,u=us.map .int/\w=ws.map .int/\us.length<10000/\ws.length<10000/\Q (.bl (decide (a=n)&&decide (us=ws))) M
 |_=>False
noncomputable abbrev a3R:=DfD "_law_is_plait" ["found","strands","word"] a0L
theorem a3o{P_ z1 z2 z3 z4 z5 z6:Addr}(Z:Zs K P_ z1 z2 z3 z4 z5 z6 mg)(D_6:a3l P w K mg base n)(F:FD K mg "_law_is_plait" a0R ["found","strands","word"]):a3R P w K mg base (n+1):=by
 refine F.dfn a3n (by unfold a0L;walk_at "ln") (fun hr=>(a0f (s_if (HW.ht (w_or (a4e (a1T (b0u .tup (hv 0) Z.b_isinstance Z.b_tuple b5P))) (w_or (a0I (a5x hr.units) (a1j a1i Z.b_len PySem.boot_len (a0a (hv 0) a0d)) a0e (a0E _)) (a8b (a4e (a1T (b0u .tup (h_ix (hv 0) a0e) Z.b_isinstance Z.b_tuple b5P))))))) (a0m (a0D h_bl)) a0M) (a0m (a0D (b3M (a1j (a6a rfl) Z.b_all b8T (a0a (a3j rfl (a5L (a0q a0n (a5M (a0a (h_ix (hv 0) a0e) a0d)) (h_ix (hv 0) a0e))) (bkS (a0b a0R) ["found","strands","word"] ["letter"] [none]) (a1B (i:=0)) (by walk_at "g") (fun _ _ _ _ _=>a3g) (fun _ _ _ _ _=>(a0s D_6 hr (a0a (hv 0) a0d)))) a0d)) (b3K (b2e (a2z hr.units) (hv 0) (a5M (a0a (hv 1) (a0a (hv 2) a0d))) (a0E _)))))))) fun ts M Q h=>?_;unfold a0L at h;split at h
 ·rename_i a u n w;obtain⟨us,ws,rfl,rfl,hu,hw,h⟩:=h;walk_at "rd";rw[if_neg (by decide)];have e0:T.int a::us.map T.int=(a::us).map T.int:=rfl
  try simp only[List.singleton_append,c0c,b7M,e0]
  refine⟨by decide,b5l (by lia:0+1+us.length<=10001) (by decide),fun i ys M'=>ys=(b5e i true).map T.bl/\M'=M,⟨rfl,rfl⟩,fun _ _ _ _=>trivial,b5E (by lia:0+1+us.length<=10001) (by decide),?_,?_⟩
  ·rintro i x ys M' hx ⟨rfl,rfl⟩;obtain⟨l,hl',rfl⟩:=a3K hx;unfold a1l;refine⟨?_,rfl⟩;rw[List.replicate_succ',b5O];rfl
  ·rintro ys M' ⟨rfl,rfl⟩ r hr;simp only[a3U,a5d];walk_at "rd";exact⟨by decide,by decide,a0W h (Sub.new hr)⟩
 ·exact h.elim
noncomputable def NUMS:LSI:=[-6,-5,-4,-3,-2,-1,0,1,2,3,4,5,6]
noncomputable def lawO(x:Str):Option Int:=NUMS.find? fun v=>decide (a0u v=x)
noncomputable def oiT:Option Int->T
 |some v=>.int v
 |none=>.non
noncomputable def a0J:Sp3:=fun ts M Q=>match ts with
 |[.str x]=>Q (oiT (lawO x)) M
 |_=>False
theorem b3t{i:Nat}(h:i<13):NUMS[i]?=some (-6+(i:Int)):=by
 have:i=0\/i=1\/i=2\/i=3\/i=4\/i=5\/i=6\/i=7\/i=8\/i=9\/i=10\/i=11\/i=12:=by lia
 rcases this with rfl|rfl|rfl|rfl|rfl|rfl|rfl|rfl|rfl|rfl|rfl|rfl|rfl<;>rfl
theorem a5N{α:Type}{f:α->Bool}:∀{L:List α} {i:Nat} {x:α},L[i]?=some x->(L.take i).find? f=none->(f x=true->L.find? f=some x)/\(f x=false->(L.take (i+1)).find? f=none)
 | y::L,0,x,h,_=>by
   cases h;exact⟨fun e=>by rw[b7o,e],fun e=>by rw[b7d,b7o,e];rfl⟩
 | y :: L,i+1,x,h,hn=>by
   rw[b7d,b7o] at hn;cases e:f y with
   |true=>rw[e] at hn;cases hn
   | false =>
     rw[e] at hn;obtain⟨h1,h2⟩:=a5N (L:=L) (i:=i) h hn;exact⟨fun k=>by rw[b7o,e];exact h1 k,fun k=>by rw[b7d,b7o,e];exact h2 k⟩
noncomputable abbrev a2V:=DfD "_law_number" ["word"] a0J
theorem a4b{P_ z1 z2 z3 z4 z5 z6:Addr}(Z:Zs K P_ z1 z2 z3 z4 z5 z6 mg)(F:FD K mg "_law_number" a1Q ["word"]):a2V P w K mg base (n+1):=by
 refine F.dfn a2y (by unfold a0J;walk_at "ln") (fun hr=>(a0f (b4o PassesOwn.never rfl (b0r Z.b_range (a0a (h_un a2B a0e) (a0a a0e a0d))) (a7k (i:=1) a2y.nd) (a0m (s_if (a0I (a2z hr.units) (a1A a2o Z.b_str b6x (a0a (hv 1) a0d)) (hv 0) (a0E _)) (a0m (a0D (hv 1))) a0M))) (a0m (a0D a6J)))) fun ts M Q h=>?_;unfold a0J at h;split at h
 ·rename_i x;refine a0g fun K1 hK1=>?_;refine a9f fun C hC=>?_;unfold a7y;walk_at "rd";refine⟨by decide,fun i ρ M'=>∃x1,ρ=[some (T.str x),x1]/\M'=M/\(NUMS.take i).find? (fun v=>decide (a0u v=x))=none,⟨none,rfl,rfl,rfl⟩,fun _ _ _ _=>trivial,?_,?_⟩
  ·rintro i y ρ M' hx ⟨x1,rfl,rfl,hn⟩;obtain⟨hi,rfl⟩:=a4m hx;rw[hC];clear hC;walk_at "rd";have hi13:i<13:=hi;obtain⟨h1,h2⟩:=a5N (b3t hi13) hn;refine⟨b4W (show(-6+(i:Int)).natAbs<10 by lia) (by decide),a2R _,a2R _,b6b _,?_⟩;rw[a6N];by_cases c:a0u (-6+(i:Int))=x
   ·rw[decide_eq_true c,if_pos rfl];have e:lawO x=some (-6+(i:Int)):=h1 (decide_eq_true c);rw[e] at h;exact a0i h
   ·rw[decide_eq_false c,if_neg (by decide)];exact⟨_,rfl,h2 (decide_eq_false c)⟩
  ·rintro ρ M' ⟨x1,rfl,rfl,hn⟩;rw[hK1];clear hK1;walk_at "rd";have e:lawO x=none:=hn;rw[e] at h;exact a0i h
 ·exact h.elim
theorem a3F{x:Str}{v:Int}(h:lawO x=some v):-6<=v/\v<=6/\numI x=some v:=by
 have h1:a0u v=x:=by
  have z:=List.find?_some (show NUMS.find? (fun v=>decide (a0u v=x))=some v from h);exact of_decide_eq_true z
 have h2:v∈NUMS:=List.mem_of_find?_eq_some h;have h3:-6<=v/\v<=6:=(show ∀v∈NUMS,-6<=v/\v<=6 by decide) v h2;refine⟨h3.1,h3.2,?_⟩;have h4:=(sI v h3.1 h3.2).2.2;rw[h1] at h4;unfold numI;rw[h4];dsimp only;rw[if_pos h1]
theorem a8Q{x:Str}{v:Int}(h:numI x=some v)(h0:-6<=v)(h1:v<=6):lawO x=some v:=by
 cases e:lawO x with
 | some u =>
   have:=(a3F e).2.2;rw[h] at this;exact this.symm
 | none =>
   have e2:=List.find?_eq_none.mp e v ((show ∀i:Nat,i<13->(-6+(i:Int))∈NUMS by decide) (v+6).toNat (by lia) |> fun z=>by
    rw[show(-6+((v+6).toNat:Int))=v by lia] at z;exact z)
   exact absurd (decide_eq_true (a5C h).2) e2
theorem b1Z{n:Int}{ws:LSI}(h:isPl n ws=true):1<=n/\n<=6/\∀l∈ws,-6<=l/\l<=6:=by
 obtain⟨h1,h2,h3,h4⟩:=a2s.mp h;refine⟨h1,h2,fun l hl=>?_⟩;have:=h4 l hl;unfold a2X at this;lia
theorem b1k{x p:Str}{ps:LSS}{n:Int}{ws:LSI}(hs:b6w x (b5w " ")=p::ps)(h:RdS x n ws):lawO (b5V p none (some (-1)))=some n/\∀q∈ps,lawO q≠none:=by
 obtain⟨p',ps',hs',he,hn,hm,hp⟩:=h;obtain⟨rfl,rfl⟩:=List.cons.inj (hs.symm.trans hs');obtain⟨h1,h2,h3⟩:=b1Z hp;refine⟨a8Q hn (by lia) (by lia),fun q hq z=>?_⟩;obtain⟨i,hi⟩:=List.getElem?_of_mem hq;obtain⟨v,hv,hnv⟩:=a4S hm hi;obtain⟨h4,h5⟩:=h3 v (b5W hv);rw[a8Q hnv h4 h5] at z;cases z
theorem a7s:∀ps:LSS,(∀q∈ps,lawO q≠none)->∃ws:LSI,ps.map lawO=ws.map some/\ps.map numI=ws.map some
 |[],_=>⟨[],rfl,rfl⟩
 | q::ps,h=>by
   obtain⟨ws,e1,e2⟩:=a7s ps fun y hy=>h y (.tail _ hy);cases hq:lawO q with
   |none=>exact absurd hq (h q (.head _))
   |some v=>exact⟨v::ws,by rw[b5z,hq,e1];rfl,by rw[b5z,(a3F hq).2.2,e2];rfl⟩
theorem a9j(o:Option Int):eqT (oiT o) T.non=decide (o=none):=by
 cases o with
 |none=>rfl
 |some v=>rfl
theorem b2c(ps:LSS):inT T.non (ps.map fun q=>oiT (lawO q))=decide (∃q∈ps,lawO q=none):=by
 unfold inT;rw[c0K];by_cases c:∃q∈ps,lawO q=none
 ·rw[decide_eq_true c];obtain⟨q,hq,e⟩:=c;exact List.any_eq_true.mpr ⟨q,hq,by show eqT (oiT (lawO q)) T.non=true;rw[a9j,e];rfl⟩
 ·rw[decide_eq_false c,b9B];intro q hq z;refine c ⟨q,hq,?_⟩;have z:eqT (oiT (lawO q)) T.non=true:=z;rw[a9j] at z;exact of_decide_eq_true z
noncomputable def badL(n:Int)(ws:LSI):LSI:=ws.filter fun l=>decide (l=0)||decide (n<=(l.natAbs:Int))
theorem a9w{n:Int}{ws:LSI}{i:Nat}{l:Int}(h:ws[i]?=some l):badL n (ws.take (i+1))=badL n (ws.take i)++(if l=0\/n<=(l.natAbs:Int) then [l] else []):=by
 unfold badL;rw[b8w,h,Option.toList_some,List.filter_append];congr 1;rw[b8I,List.filter_nil];simp only[b6p,decide_eq_true_eq]
theorem b0A{n:Int}{ws:LSI}(h1:1<=n)(h2:n<=6)(h3:ws.length<=16):isPl n ws=decide ((badL n ws).length=0):=by
 have e:(badL n ws).length=0<->∀l∈ws,a2X n l:=by
  unfold badL;rw[List.length_eq_zero_iff,List.filter_eq_nil_iff];refine forall_congr' fun l=>forall_congr' fun _=>?_;unfold a2X;simp only[b6p,decide_eq_true_eq];lia
 by_cases c:∀l∈ws,a2X n l
 ·rw[decide_eq_true (e.mpr c)];exact a2s.mpr ⟨h1,h2,h3,c⟩
 ·rw[decide_eq_false fun z=>c (e.mp z)];cases e:isPl n ws with
  |false=>rfl
  |true=>exact absurd (a2s.mp e).2.2.2 c
noncomputable def a1K:Sp3:=fun ts M Q=>match ts with
 |[.str x]=>Tx 200 x/\(∀n ws,RdS x n ws->Q (.tup [.int n,.tup (ws.map .int)]) M)/\(RdN x->Q .non M)
 |_=>False
noncomputable abbrev a7X:=DfD "_law_due" ["text"] a1K
theorem a6E {P_ z1 z2 z3 z4 z5 z6:Addr} (Z:Zs K P_ z1 z2 z3 z4 z5 z6 mg) (D_4:a2V P w K mg base n) (F:FD K mg "_law_due" a1E ["text"]):a7X P w K mg base (n+1):=by
 refine F.dfn a1M (by unfold a1K;walk_at "ln") (fun hr=>(a0f (a0V (i:=1) (a2U (hv 0) (a0a a0p a0d)) a1M.nd) (a0f (a0V (i:=2) (a0s D_4 hr (a0a (a0A (h_ix (hv 1) a0e) a0T (a0S (h_un a2B a0e))) a0d)) a1M.nd) (a0f (b2K (i:=3) rfl (a5L (a0A (hv 1) (a0S a0e) a0T)) (bkS (a0b a1E) ["text","words","head","row"] ["word"] [none]) (a1B (i:=0)) (by walk_at "g") (fun _ _ _ _ _=>a3g) (fun _ _ _ _ _=>(a0s D_4 hr (a0a (hv 0) a0d))) a1M.nd) (a0f (s_if (HW.ht (w_or (a0I (a5x hr.units) (a0A (h_ix (hv 1) a0e) (a0S (h_un a2B a0e)) a0T) a0p (a0E _)) (w_or (a0I b0N (hv 2) a6J (a0E _)) (w_or (a0I b3s a6J (hv 3) rfl) (w_or (a4e (a7j a5y a5y a0e (hv 2) a0e)) (a8b (a0I a8C (a1j a1i Z.b_len PySem.boot_len (a0a (hv 3) a0d)) a0e (a0E _)))))))) (a0m (a0D a6J)) a0M) (a0f (s_if (a0I a8C (a1j a1i Z.b_len PySem.boot_len (a0a (a3j rfl (a5L (hv 3)) (bkS (a0b a1E) ["text","words","head","row"] ["letter","head"] [none,some 2]) (a1B (i:=0)) (by walk_at "g") (fun _ _ _ _ _=>b2t (HW.ht (w_or (a0I (a2z hr.units) (hv 0) a0e (a0E _)) (a8b (a0I b0O (a1j a6b Z.b_abs b8S (a0a (hv 0) a0d)) (hv 1) (a0E _)))))) (fun _ _ _ _ _=>(hv 0))) a0d)) a0e (a0E _)) (a0m (a0D a6J)) a0M) (a0m (a0D (a5M (a0a (hv 2) (a0a (a1A a1W Z.b_tuple b5P (a0a (hv 3) a0d)) a0d))))))))))) fun ts M Q h=>?_;unfold a1K at h;split at h
 ·rename_i x;obtain⟨hx,hS,hN⟩:=h;obtain⟨p,ps,hs⟩:=a2q x;have hps:=hx.parts;rw[hs] at hps;have hpx:=hps p (.head _);have hct:=a2J hs;have hx1:=hx.1;refine a0g fun K1 hK1=>?_;walk_at "rd";refine⟨by decide +kernel,a0o (by lia),a2S _ (by lia),fun r hr=>?_⟩;rw[show b6w x (b5w " ")=p::ps from hs];have hS0:=Sub.new hr (o:=MO.lst ((p::ps).map T.str));have hM0:updM M r (MO.lst ((p::ps).map T.str)) r=some (MO.lst ((p::ps).map T.str)):=a0c
  generalize updM M r (MO.lst ((p::ps).map T.str))=M0 at hS0 hM0|-
  rw[b5z] at hM0;rw[hK1];clear hK1;refine a0g fun K2 hK2=>?_;walk_at "rd";rw[hM0];dsimp only;rw[a7Z];dsimp only;have hlz:p.length<=sizeLine:=a0o (b5E hpx.1 (by decide));refine⟨hlz,?_⟩;unfold a0J;dsimp only;rw[hK2];clear hK2;refine a0g fun K3 hK3=>?_;walk_at "rd";rw[hM0];dsimp only
  have ec:cutT (T.str p::b5Q T.str ps) (some 1) none=b5Q T.str ps:=by
   rw[a2u _ _ (by decide)];rfl
  rw[ec];intro r1 hr1;have hS1:=hS0.newr (o:=.lst (b5Q T.str ps)) hr1;have hM1:updM M0 r1 (.lst (b5Q T.str ps)) r1=some (.lst (b5Q T.str ps)):=a0c;have hM1':=Sub.new hr1 (o:=.lst (b5Q T.str ps)) _ _ hM0
  generalize updM M0 r1 (.lst (b5Q T.str ps))=M1 at hS1 hM1 hM1'|-
  refine⟨fun i ys M'=>ys=(ps.take i).map (fun q=>oiT (lawO q))/\M'=M1,⟨rfl,rfl⟩,?_,a1S (by rw[b4Y];lia),?_,?_⟩
  ·rintro i ys M' ⟨_,rfl⟩;exact hM1
  ·rintro i y ys M' hy ⟨rfl,rfl⟩;rw[b5n] at hy;obtain⟨q,hq,rfl⟩:=b5Y.mp hy;unfold a0J;refine⟨?_,rfl⟩;rw[<- a0P (fun q=>oiT (lawO q)) hq]
  ·rintro ys M' ⟨rfl,rfl⟩ u hu;rw[b4Y,b6L];have hS2:=hS1.newr (o:=MO.lst (ps.map (fun q=>oiT (lawO q)))) hu;have hM2:=Sub.new hu (o:=MO.lst (ps.map (fun q=>oiT (lawO q)))) _ _ hM1';have hu2:(updM M' u (MO.lst (ps.map (fun q=>oiT (lawO q))))) u=some (MO.lst (ps.map (fun q=>oiT (lawO q)))):=a0c
   generalize updM M' u (MO.lst (ps.map (fun q=>oiT (lawO q))))=M2 at hS2 hM2 hu2|-
   clear hu hM1 hM1' hr1;rw[hK3];clear hK3;refine a0g fun K4 hK4=>?_;walk_at "rd";rw[hM2];dsimp only;rw[a7Z];dsimp only;refine⟨hlz,a2R _,a2R _,b0x _,?_⟩;rw[a6N];by_cases c1:b5V p (some (-1)) none=b5w ":"
   ·rw [decide_eq_true c1,if_neg (by decide)];have he:a3q p (b5w ":")=true:=(a4n p).mp c1
    have hnd:∀y,lawO (b5V p none (some (-1)))=none\/(∃q∈ps,lawO q=none)->y=T.non->rt3 M Q y M2:=fun y hy ey=>by
     subst ey;refine a0W (hN ?_) hS2;rcases b4q x with ⟨n,ws,hd⟩|hd
     ·obtain⟨h1,h2⟩:=b1k hs hd;rcases hy with h|⟨q,hq,e⟩
      ·rw[h] at h1;cases h1
      ·exact absurd e (h2 q hq)
     ·exact hd
    cases hn:lawO (b5V p none (some (-1))) with
    |none=>exact hnd _ (.inl hn) rfl
    | some n =>
      unfold oiT;dsimp only;rw[if_neg (by decide),hu2];refine⟨rfl,?_⟩;dsimp only;refine⟨?_,?_⟩
      ·rw[b9S,b6i];intro q _;show flT (oiT (lawO q))=true;cases lawO q<;>rfl
      ·rw [b2c ps];by_cases c2:∃q∈ps,lawO q=none
       ·rw[decide_eq_true c2,if_pos rfl];exact hnd _ (.inr c2) rfl
       ·rw [decide_eq_false c2,if_neg (by decide)];obtain⟨ws,hw1,hw2⟩:=a7s ps fun q hq z=>c2 ⟨q,hq,z⟩;obtain⟨n0,n1,hnn⟩:=a3F hn;have hlw:=a4R hw2;have hbad:isPl n ws=false->rt3 M Q T.non M2:=fun z=>a0W (hN ⟨p,ps,hs,.inr ⟨he,.inr ⟨n,hnn,.inr ⟨ws,hw2,z⟩⟩⟩⟩) hS2
        have hrow:ps.map (fun q=>oiT (lawO q))=ws.map T.int:=by
         have:=congrArg (fun l=>l.map oiT) hw1;rw[b8f,b8f] at this;exact this
        rw[hrow] at hu2|-
        rw[b4Y];by_cases c3:1<=n
        ·rw [if_pos c3,if_neg (fun z=>z n1)];by_cases c4:16<(ws.length:Int)
         ·rw[if_pos c4];refine hbad ?_;cases e:isPl n ws with
          |false=>rfl
          |true=>have:=(a2s.mp e).2.2.1;lia
         ·rw [if_neg c4];have hpl:=b0A (ws:=ws) c3 n1 (by lia);rw[hK4];clear hK4;refine a0g fun K5 hK5=>?_;walk_at "rd";rw[hu2];dsimp only;refine⟨fun i ys M'=>ys=(badL n (ws.take i)).map T.int/\M'=M2,⟨rfl,rfl⟩,?_,a1S (by rw[b4Y];lia),?_,?_⟩
          ·rintro i ys M' ⟨_,rfl⟩;exact hu2
          ·rintro i y ys M' hy ⟨rfl,rfl⟩;rw[b5n] at hy;obtain⟨l,hl,rfl⟩:=b5Y.mp hy;have st:=a9w (n:=n) hl;refine⟨a5v _,by rw[a5a];decide,?_⟩;rw[a6O];dsimp only;by_cases d1:l=0
           ·rw[decide_eq_true d1,if_pos rfl];refine⟨?_,rfl⟩;rw[st,if_pos (.inl d1),b5O];rfl
           ·rw[decide_eq_false d1,if_neg (by decide)];by_cases d2:n<=(l.natAbs:Int)
            ·rw[if_pos d2];refine⟨?_,rfl⟩;rw[st,if_pos (.inr d2),b5O];rfl
            ·rw[if_neg d2];refine⟨?_,rfl⟩;rw[st,if_neg (fun z=>z.elim d1 d2),b6o]
          ·rintro ys M' ⟨rfl,rfl⟩ t ht;rw[b4Y,b4Y,b6L];have hS3:=hS2.newr (o:=MO.lst ((badL n ws).map T.int)) ht;have hu3:=Sub.new ht (o:=MO.lst ((badL n ws).map T.int)) _ _ hu2
           generalize updM M' t (MO.lst ((badL n ws).map T.int))=M3 at hS3 hu3|-
           cases e:isPl n ws with
           | false =>
             rw[hpl,decide_eq_false_iff_not] at e;rw[if_pos (by lia)];refine a0W (hN ⟨p,ps,hs,.inr ⟨he,.inr ⟨n,hnn,.inr ⟨ws,hw2,?_⟩⟩⟩⟩) hS3;rw[hpl,decide_eq_false_iff_not];exact e
           | true =>
             have e2:=e;rw[hpl,decide_eq_true_eq] at e2;rw[if_neg (by lia),hK5];clear hK5;walk_at "rd";rw[hu3];exact⟨by decide,a0W (hS n ws ⟨p,ps,hs,he,hnn,hw2,e⟩) hS3⟩
        ·rw[if_neg c3];refine hbad ?_;cases e:isPl n ws with
         |false=>rfl
         |true=>exact absurd (a2s.mp e).1 c3
   ·rw[decide_eq_false c1,if_pos rfl];refine a0W (hN ⟨p,ps,hs,.inl ?_⟩) hS2;cases e:a3q p (b5w ":") with
    |false=>rfl
    |true=>exact absurd ((a4n p).mpr e) c1
 ·exact h.elim
noncomputable def OD1:LSS:=["",":","3","3 :","3: ","3:1"," 3: 1","3: 1 ","3:  1","3: +1","3: 01","03: 1","3: 1.0"]
noncomputable def OD2:LSS:=["3: --1","3: -","-3: 1","0:","7:","1: 1","3: 3","3: 0","3: -0","6: 5 -5","3; 1"]
noncomputable def OD3:LSS:=["3: 1, 2"]
noncomputable def OD4:LSS:=["3: 1:","3:: 1","10: 1","3: 10","2: 1 1 1 1 1 1 1 1 1 1 1 1 1 1 1 1 1","2: 1 1 1 1 1 1 1 1 1 1 1 1 1 1 1 1","3: a","1:","1: "]
noncomputable def ODDS:LSS:=OD1++OD2++OD3++OD4
theorem b1U:∀x∈ODDS,Tx 60 x:=by decide +kernel
theorem a7e{M M1:MH}{b r p:Addr}{o o':MO}{st:List T}(hS:Sub M M1)(hp:M1 p=some (.lst st))(hb:M1 b=none)(hr:(updM M1 b o) r=none):Sub M (updM (updM M1 b o) r o')/\(updM (updM M1 b o) r o') p=some (.lst st)/\(updM (updM M1 b o) r o') r=some o' :=
 ⟨(hS.newr hb).newr hr,(Sub.new hr) _ _ ((Sub.new hb) _ _ hp),a0c⟩
noncomputable def a2D:Sp3:=fun ts M Q=>match ts with
 |[.adr p]=>∃s f,M p=some (.lst [.int s,.bl f])/\∀line s' f',Tx 60 line->Q (.str line) (updM M p (.lst [.int s',.bl f']))
 |_=>False
noncomputable abbrev a4x:=DfD "_law_odd" ["state"] a2D
theorem a6D{P_ z1 z2 z3 z4 z5 z6:Addr}(Z:Zs K P_ z1 z2 z3 z4 z5 z6 mg)(D_3:a0U P w K mg base n)(F:FD K mg "_law_odd" a3c ["state"]):a4x P w K mg base (n+1):=by
 refine F.dfn a1L (by unfold a2D;walk_at "ln") (fun hr=>(@a0f _ _ _ _ _ (@a0V _ _ _ _ 1 _ _ (by exact(@a4f _ _ _ _ (@a0a _ _ _ _ _ a0p (@a0a _ _ _ _ _ a0p (@a0a _ _ _ _ _ a0p (@a0a _ _ _ _ _ a0p (@a0a _ _ _ _ _ a0p (@a0a _ _ _ _ _ a0p (@a0a _ _ _ _ _ a0p (@a0a _ _ _ _ _ a0p (@a0a _ _ _ _ _ a0p (@a0a _ _ _ _ _ a0p (@a0a _ _ _ _ _ a0p (@a0a _ _ _ _ _ a0p (@a0a _ _ _ _ _ a0p a0d (by rfl)) (by rfl)) (by rfl)) (by rfl)) (by rfl)) (by rfl)) (by rfl)) (by rfl)) (by rfl)) (by rfl)) (by rfl)) (by rfl)) (by rfl)))) a1L.nd (by rfl) (by walk_at "2") (by rfl) (by walk_at "4")) (@a0f _ _ _ _ _ (@a0V _ _ _ _ 1 _ _ (by exact(@a0q _ _ _ _ _ _ _ _ a0n (hv 1) (@a4f _ _ _ _ (@a0a _ _ _ _ _ a0p (@a0a _ _ _ _ _ a0p (@a0a _ _ _ _ _ a0p (@a0a _ _ _ _ _ a0p (@a0a _ _ _ _ _ a0p (@a0a _ _ _ _ _ a0p (@a0a _ _ _ _ _ a0p (@a0a _ _ _ _ _ a0p (@a0a _ _ _ _ _ a0p (@a0a _ _ _ _ _ a0p (@a0a _ _ _ _ _ a0p a0d (by rfl)) (by rfl)) (by rfl)) (by rfl)) (by rfl)) (by rfl)) (by rfl)) (by rfl)) (by rfl)) (by rfl)) (by rfl))))) a1L.nd (by rfl) (by walk_at "2") (by rfl) (by walk_at "4")) (@a0f _ _ _ _ _ (@b2M _ _ _ _ (@a7S _ _ _ _ _ _ _ _ (hv 1) (@a0a _ _ _ _ _ a0p a0d (by rfl)) (by rfl) (by rfl) (by rfl) (by rfl) (by rfl)) (by rfl)) (@a0f _ _ _ _ _ (@a0V _ _ _ _ 1 _ _ (by exact(@a0q _ _ _ _ _ _ _ _ a0n (hv 1) (@a4f _ _ _ _ (@a0a _ _ _ _ _ a0p (@a0a _ _ _ _ _ a0p (@a0a _ _ _ _ _ a0p (@a0a _ _ _ _ _ a0p (@a0a _ _ _ _ _ (@a0q _ _ _ _ _ _ _ _ a0n a0p (@a0q _ _ _ _ _ _ _ _ a7d a0p a0e)) (@a0a _ _ _ _ _ (@a0q _ _ _ _ _ _ _ _ a0n a0p (@a0q _ _ _ _ _ _ _ _ a7d a0p a0e)) (@a0a _ _ _ _ _ a0p (@a0a _ _ _ _ _ a0p (@a0a _ _ _ _ _ a0p a0d (by rfl)) (by rfl)) (by rfl)) (by rfl)) (by rfl)) (by rfl)) (by rfl)) (by rfl)) (by rfl))))) a1L.nd (by rfl) (by walk_at "2") (by rfl) (by walk_at "4")) (@a0m _ _ _ (@a0D _ _ _ _ (@h_ix _ _ _ _ _ _ (hv 1) (@a0s _ _ _ _ _ _ _ _ _ _ D_3 hr (@a0a _ _ _ _ _ (hv 0) (@a0a _ _ _ _ _ (@a1j _ _ _ _ _ _ _ _ _ a1i Z.b_len PySem.boot_len (@a0a _ _ _ _ _ (hv 1) a0d (by rfl)) (by rfl) (by decide) (by decide) (by rfl) (by rfl)) a0d (by rfl)) (by rfl)) (by rfl) (by decide) (by rfl) (by rfl)) (by intro _ _;rfl))))))))) fun ts M Q h=>?_;unfold a2D at h;split at h
 ·rename_i p;obtain⟨s,f,hp,h⟩:=h;refine a0g fun K1 hK1=>?_;walk_at "rd";refine⟨by decide,fun q1 hq=>?_⟩;have hS1:=Sub.new hq (o:=MO.lst (OD1.map T.str));have e1:(updM M q1 (MO.lst (OD1.map T.str))) q1=some (.lst (OD1.map T.str)):=a0c;have p1:=hS1 _ _ hp;show K1 [some (T.adr p),some (T.adr q1)] (updM M q1 (MO.lst (OD1.map T.str)))
  generalize updM M q1 (MO.lst (OD1.map T.str))=M1 at hS1 e1 p1|-
  clear hq;rw[hK1];clear hK1;refine a0g fun K2 hK2=>?_;walk_at "rd";refine⟨by decide,fun b hb=>?_⟩;rw[(fun o=>Sub.new (o:=o) hb) _ _ _ e1];dsimp only;refine⟨by decide,fun q2 hq=>?_⟩;obtain⟨hS2,p2,e2⟩:=a7e (o:=MO.lst (OD2.map T.str)) (o':=MO.lst ((OD1++OD2).map T.str)) hS1 p1 hb hq;have f2:M q2=none:=b1V (hS1.newr hb) hq;show K2 [some (T.adr p),some (T.adr q2)] (updM (updM M1 b (MO.lst (OD2.map T.str))) q2 (MO.lst ((OD1++OD2).map T.str)))
  generalize updM (updM M1 b (MO.lst (OD2.map T.str))) q2 (MO.lst ((OD1++OD2).map T.str))=M2 at hS2 p2 e2|-
  clear hb hq hS1 p1 e1;rw[hK2];clear hK2;refine a0g fun K3 hK3=>?_;walk_at "rd";rw[e2];refine⟨trivial,by rw[b4Y];decide,?_⟩;have n2:p≠q2:=fun z=>by rw[z,f2] at hp;cases hp
  have hS3:Sub M (updM M2 q2 (MO.lst ((OD1++OD2++OD3).map T.str))):=hS2.updF f2;have p3:(updM M2 q2 (MO.lst ((OD1++OD2++OD3).map T.str))) p=some (.lst [.int s,.bl f]):=by rw[a0C n2];exact p2
  have e3:(updM M2 q2 (MO.lst ((OD1++OD2++OD3).map T.str))) q2=some (.lst ((OD1++OD2++OD3).map T.str)):=a0c;show K3 [some (T.adr p),some (T.adr q2)] (updM M2 q2 (MO.lst ((OD1++OD2++OD3).map T.str)))
  generalize updM M2 q2 (MO.lst ((OD1++OD2++OD3).map T.str))=M3 at hS3 p3 e3|-
  clear hS2 p2 e2 f2 n2;rw[hK3];clear hK3;refine a0g fun K4 hK4=>?_;walk_at "rd";have er:(b5w "2:"++repS (b5w " 1") (c0L 17))="2: 1 1 1 1 1 1 1 1 1 1 1 1 1 1 1 1 1":=by decide +kernel
  have er2:(b5w "2:"++repS (b5w " 1") (c0L 16))="2: 1 1 1 1 1 1 1 1 1 1 1 1 1 1 1 1":=by decide +kernel
  rw[er,er2];refine⟨by decide,by decide,by decide +kernel,by decide +kernel,by decide +kernel,by decide,by decide,by decide +kernel,by decide +kernel,by decide +kernel,by decide,fun b hb=>?_⟩;rw[(fun o=>Sub.new (o:=o) hb) _ _ _ e3];dsimp only;refine⟨by decide,fun q4 hq=>?_⟩;obtain⟨hS4,p4,e4⟩:=a7e (o:=MO.lst (OD4.map T.str)) (o':=MO.lst (ODDS.map T.str)) hS3 p3 hb hq;show K4 [some (T.adr p),some (T.adr q4)] (updM (updM M3 b (MO.lst (OD4.map T.str))) q4 (MO.lst (ODDS.map T.str)))
  generalize updM (updM M3 b (MO.lst (OD4.map T.str))) q4 (MO.lst (ODDS.map T.str))=M4 at hS4 p4 e4|-
  clear hb hq hS3 p3 e3;rw[hK4];clear hK4;walk_at "rd";rw[e4];dsimp only;refine⟨s,f,p4,by decide,by decide,fun c s' c0 c1=>?_⟩;dsimp only
  have n1:p≠q4:=fun z=>by
   rw[<- z,p4] at e4;have e9:=b5p e4;injection e9 with e9;have e9:=congrArg b6Q e9;rw[b4Y] at e9;exact absurd (show 2=ODDS.length from e9) (by decide)
  rw[a0C n1.symm,e4];dsimp only;rw[b4Y] at c1;obtain⟨i,rfl⟩:=b7p c0;have hi:i<ODDS.length:=by lia
  have el:atI (ODDS.map T.str) (i:Int)=some (T.str ODDS[i]):=a3f (by rw[b5n,b5g hi];rfl);rw[el];exact a0W (h _ s' f (b1U _ (c0a hi))) hS4.up
 ·exact h.elim
noncomputable def SubP(p:Addr)(M M':MH):Prop:=∀r o,r≠p->M r=some o->M' r=some o
theorem SubP.upd{p:Addr}{M M':MH}(h:SubP p M M')(o:MO):SubP p M (updM M' p o):=fun r o' hr e=>by rw[a0C hr];exact h r o' hr e
theorem SubP.newr{p r:Addr}{M M':MH}(h:SubP p M M')(hr:M' r=none)(o:MO):SubP p M (updM M' r o):=fun q o' hq e=>Sub.new hr _ _ (h q o' hq e)
noncomputable def a9z:Str:="0123456789-:+ ,.a"
theorem a8k{x:Str}(h:Tx 60 x):x.length<=sizeLine:=a0o (b5E h.1 (by decide))
theorem a9M:∀i:Nat,i<17->∃c,atI a9z.cps.toList (i:Int)=some c/\Tx 1 (⟨#[c]⟩:Str):=by
 intro i hi;have e:∀i:Nat,i<17->(∃h:i<a9z.cps.toList.length,a9z.cps.toList[i]<128):=by decide +kernel
 obtain⟨h1,h2⟩:=e i hi;refine⟨_,a3f (b5g h1),b5h 1,fun c hc=>?_⟩;rcases b5b.mp (show c∈[a9z.cps.toList[i]] from hc) with rfl|z
 ·exact h2
 ·cases z
noncomputable def a1c:Sp3:=fun ts M Q=>match ts with
 |[.adr p,.str x]=>∃s f,M p=some (.lst [.int s,.bl f])/\Tx 60 x/\∀M' y,Tx 200 y->SubP p M M'->Q (.str y) M'
 |_=>False
noncomputable abbrev a5b:=DfD "_law_spoilt" ["state","text"] a1c
theorem a4a{P_ z1 z2 z3 z4 z5 z6:Addr}(Z:Zs K P_ z1 z2 z3 z4 z5 z6 mg)(D_3:a0U P w K mg base n)(D_16:a4x P w K mg base n)(F:FD K mg "_law_spoilt" a1P ["state","text"]):a5b P w K mg base (n+1):=by
 refine F.dfn a0B (by unfold a1c;walk_at "ln") (fun hr=>(a0f (a0V (i:=2) (a0s D_3 hr (a0a (hv 0) (a0a a0e a0d))) a0B.nd) (a0f (a0V (i:=3) (a0s D_3 hr (a0a (hv 0) (a0a (a0q a0n (a1j a1i Z.b_len PySem.boot_len (a0a (hv 1) a0d)) a0e) a0d))) a0B.nd) (a0f (a0V (i:=4) (h_ix a0p (a0s D_3 hr (a0a (hv 0) (a0a a0e a0d)))) a0B.nd) (a0f (a0V (i:=5) (a2U (hv 1) (a0a a0p a0d)) a0B.nd) (a0f (a0V (i:=6) (a0s D_3 hr (a0a (hv 0) (a0a (a1j a1i Z.b_len PySem.boot_len (a0a (hv 5) a0d)) a0d))) a0B.nd) (a0f (s_if (a0I (a2z hr.units) (hv 2) a0e (a0E _)) (a0m (a0D (a0q a0n (a0q a0n (a0A (hv 1) a0T (a0S (hv 3))) (hv 4)) (a0A (hv 1) (a0S (hv 3)) a0T)))) a0M) (a0f (s_if (a0I (a2z hr.units) (hv 2) a0e (a0E _)) (a0m (a0D (a0q a0n (a0q a0n (a0A (hv 1) a0T (a0S (hv 3))) (hv 4)) (a0A (hv 1) (a0S (a0q a0n (hv 3) a0e)) a0T)))) a0M) (a0f (s_if (a0I (a2z hr.units) (hv 2) a0e (a0E _)) (a0m (a0D (a0q a0n (a0A (hv 1) a0T (a0S (hv 3))) (a0A (hv 1) (a0S (a0q a0n (hv 3) a0e)) a0T)))) a0M) (a0f (s_if (a0I (a2z hr.units) (hv 2) a0e (a0E _)) (a0m (a0D (a4W a0p (a0a (a0q a0n (a0A (hv 5) a0T (a0S (a0q a0n (hv 6) a0e))) (a0A (hv 5) (a0S (hv 6)) a0T)) a0d)))) a0M) (a0f (s_if (a0I (a2z hr.units) (hv 2) a0e (a0E _)) (a0m (a0D (a4W a0p (a0a (a0q a0n (a0A (hv 5) (a0S (hv 6)) a0T) (a0A (hv 5) a0T (a0S (hv 6)))) a0d)))) a0M) (a0m (a0D (a0s D_16 hr (a0a (hv 0) a0d))))))))))))))) fun ts M Q h=>?_;unfold a1c at h;split at h
 ·rename_i p x;obtain⟨s,f,hp,hx,h⟩:=h;have hx1:=hx.1;refine a0g fun K1 hK1=>?_;walk_at "rd";refine⟨s,f,hp,by decide,by decide,fun way s1 w0 w1=>?_⟩;dsimp only;have hS:SubP p M (updM M p (.lst [.int s1,.bl f])):=SubP.upd (fun _ _ _ e=>e) _;have p1:(updM M p (.lst [.int s1,.bl f])) p=some (.lst [.int s1,.bl f]):=a0c
  generalize updM M p (.lst [.int s1,.bl f])=A1 at hS p1|-
  rw[hK1];clear hK1;refine a0g fun K2 hK2=>?_;walk_at "rd";refine⟨a0o (b5E hx1 (by decide)),s1,f,p1,by lia,?_,fun at_ s2 a0 a1=>?_⟩
  ·exact b9x (show(x.length:Int)+1<=61 by lia) (by decide)
  dsimp only;have hS:=hS.upd (.lst [.int s2,.bl f]);have p1:(updM A1 p (.lst [.int s2,.bl f])) p=some (.lst [.int s2,.bl f]):=a0c
  generalize updM A1 p (.lst [.int s2,.bl f])=A2 at hS p1|-
  rw[hK2];clear hK2;refine a0g fun K3 hK3=>?_;walk_at "rd";refine⟨s2,f,p1,by decide,by decide,fun si s3 b0 b1=>?_⟩;dsimp only;have hS:=hS.upd (.lst [.int s3,.bl f]);have p1:(updM A2 p (.lst [.int s3,.bl f])) p=some (.lst [.int s3,.bl f]):=a0c
  generalize updM A2 p (.lst [.int s3,.bl f])=A3 at hS p1|-
  obtain⟨si,rfl⟩:=b7p b0;obtain⟨cs,e1,hcs⟩:=a9M si (by lia);refine⟨by decide +kernel,?_⟩;rw[show(b5w "0123456789-:+ ,.a")=a9z from rfl,e1];dsimp only
  generalize (⟨#[cs]⟩:Str)=sg at hcs|-
  rw[hK3];clear hK3;refine a0g fun K4 hK4=>?_;walk_at "rd";obtain⟨w0',ws,hs⟩:=a2q x;have hps:=hx.parts;rw[hs] at hps;have hct:=a2J hs;refine⟨by decide +kernel,a0o (by lia),a2S _ (by lia),fun q hq=>?_⟩;rw[show b6w x (b5w " ")=w0'::ws from hs];have nq:p≠q:=fun z=>by rw[z,hq] at p1;cases p1
  have hS:=hS.newr hq (.lst ((w0'::ws).map T.str));have p1:(updM A3 q (.lst ((w0'::ws).map T.str))) p=some (.lst [.int s3,.bl f]):=by rw[a0C nq];exact p1
  have q1:(updM A3 q (.lst ((w0'::ws).map T.str))) q=some (.lst ((w0'::ws).map T.str)):=a0c
  generalize updM A3 q (.lst ((w0'::ws).map T.str))=A4 at hS p1 q1|-
  rw[hK4];clear hK4;refine a0g fun K5 hK5=>?_;walk_at "rd";rw[q1];dsimp only;refine⟨s3,f,p1,by rw[b4Y,b5j];lia,?_,fun sp s4 d0 d1=>?_⟩
  ·rw[b4Y,b5j];exact b9x (show((ws.length+1:Nat):Int)<=61 by lia) (by decide)
  dsimp only;have hS:=hS.upd (.lst [.int s4,.bl f]);have p2:(updM A4 p (.lst [.int s4,.bl f])) p=some (.lst [.int s4,.bl f]):=a0c;have q1:(updM A4 p (.lst [.int s4,.bl f])) q=some (.lst ((w0'::ws).map T.str)):=by rw[a0C nq.symm];exact q1
  generalize updM A4 p (.lst [.int s4,.bl f])=A5 at hS q1 p2|-
  rw[hK5];clear hK5;refine a0g fun K6 hK6=>?_;walk_at "rd";have tl:Tx 60 (b5V x none (some at_)):=hx.slice _ _;have hl:=a8k hx;by_cases c0:way=0
  ·rw[if_pos c0];have tu:Tx 60 (b5V x (some at_) none):=hx.slice _ _;have e1:=tl.app hcs;have e2:=e1.app tu;have e1':=e1.1;have e2':=e2.1;rw[a3D] at e1' e2';exact⟨hl,a0o (by lia),hl,a0o (by lia),a0i (h _ _ (e2.up (by decide)) hS)⟩
  rw[if_neg c0,hK6];clear hK6;have tu:Tx 60 (b5V x (some (at_+1)) none):=hx.slice _ _;refine a0g fun K7 hK7=>?_;walk_at "rd";by_cases c1:way=1
  ·rw[if_pos c1];have e1:=tl.app hcs;have e2:=e1.app tu;have e1':=e1.1;have e2':=e2.1;rw[a3D] at e1' e2';exact⟨hl,a0o (by lia),hl,a0o (by lia),a0i (h _ _ (e2.up (by decide)) hS)⟩
  rw[if_neg c1,hK7];clear hK7;refine a0g fun K8 hK8=>?_;walk_at "rd";by_cases c2:way=2
  ·rw[if_pos c2];have e2:=tl.app tu;have e2':=e2.1;rw[a3D] at e2';exact⟨hl,hl,a0o (by lia),a0i (h _ _ (e2.up (by decide)) hS)⟩
  rw[if_neg c2,hK8];clear hK8;refine a0g fun K9 hK9=>?_;walk_at "rd";rw[q1];dsimp only;have hW:∀y∈(w0'::ws),Tx 60 y:=hps
  have hwl:wlen (w0'::ws)<=61:=by
   have:=a7A x;rw[hs] at this;lia
  obtain⟨k,rfl⟩:=b7p d0
  generalize (w0'::ws)=W at hW hwl q1|-
  have e3:cutT (W.map T.str) none (some ((k:Int)+1))=(W.take (k+1)).map T.str:=by
   rw[a7o _ _ (by lia),show((k:Int)+1).toNat=k+1 by lia,c0D]
  have e4:cutT (W.map T.str) none (some (k:Int))=(W.take k).map T.str:=by
   rw[a7o _ _ (by lia),show((k:Int)).toNat=k by lia,c0D]
  have e5:cutT (W.map T.str) (some (k:Int)) none=(W.drop k).map T.str:=by
   rw[a2u _ _ (by lia),show((k:Int)).toNat=k by lia,List.map_drop]
  have cw:=a6T W k;have cw1:=a6T W (k+1)
  have bnd:∀L:LSS,(∀y∈L,y∈W)->wlen L<=122->L.length<=sizeLine/\JoinOk (b5w " ") L=true/\Tx 200 (b6A (b5w " ") L):=fun L h1 h2=>by
   have h3:L.length<=122:=b5l b0X h2;exact⟨a0o (by lia),a7g (b:=60) (by decide +kernel) (fun y hy=>(hW y (h1 y hy)).1) (by lia),(Tx.join (fun y hy=>hW y (h1 y hy)) h2).up (by decide)⟩
  by_cases c3:way=3
  ·rw[if_pos c3,e3];intro r hr;have qr:q≠r:=fun z=>by rw[z,hr] at q1;cases q1
   rw[a0C qr,q1];dsimp only;rw[e5];intro r1 hr1;rw[Sub.new hr1 _ _ a0c];dsimp only;obtain⟨b1,b2,b3⟩:=bnd (W.take (k+1)++W.drop k) (fun y hy=>(b5J.mp hy).elim b7G b7H) (by rw[a4z];lia);refine⟨by rw[b4Y,b4Y,<- b5r];exact b1,fun r2 hr2=>?_⟩;rw[<- b5O,a2a];exact⟨b2,a0i (h _ _ b3 (((hS.newr hr _).newr hr1 _).newr hr2 _))⟩
  rw[if_neg c3,hK9];clear hK9;refine a0g fun K10 hK10=>?_;walk_at "rd";rw[q1];dsimp only;by_cases c4:way=4
  ·rw[if_pos c4,e5];intro r hr;have qr:q≠r:=fun z=>by rw[z,hr] at q1;cases q1
   rw[a0C qr,q1];dsimp only;rw[e4];intro r1 hr1;rw[Sub.new hr1 _ _ a0c];dsimp only;obtain⟨b1,b2,b3⟩:=bnd (W.drop k++W.take k) (fun y hy=>(b5J.mp hy).elim b7H b7G) (by rw[a4z];lia);refine⟨by rw[b4Y,b4Y,<- b5r];exact b1,fun r2 hr2=>?_⟩;rw[<- b5O,a2a];exact⟨b2,a0i (h _ _ b3 (((hS.newr hr _).newr hr1 _).newr hr2 _))⟩
  rw[if_neg c4,hK10];clear hK10;walk_at "rd";refine⟨s4,f,p2,fun line s' f' hl=>?_⟩;exact a0i (h _ _ (hl.up (by decide)) (hS.upd _))
 ·exact h.elim
noncomputable def a1b:Sp3X:=fun ts M Q _=>match ts with
 | [.str x]=>Tx 200 x/\((∃n ws,RdS x n ws/\∀r,M r=none->Q (.tup [.tup [.int n,.tup (ws.map .int)],.adr r]) (updM M r (.lst []))) \/
   (RdN x/\∀r M',Sub M M'->M' r=some (.lst ((refL 5).map .bl))->Q (.tup [.non,.adr r]) M'))
 |_=>False
theorem a4M{P_ z1 z2 z3 z4 z5 z6:Addr}(Z:Zs K P_ z1 z2 z3 z4 z5 z6 mg)(D_18:DfD "read" ["text"] a4D P w K mg base n)(Dc:DfXC P w K mg base n "read" ["text"] a2K)(D_9:DfM P w K mg base n "_law_marks" (xDs [("NoPlait",z1),("NoRoom",z2),("NoStep",z3),("NoNumber",z4),("NoTable",z5),("BadNote",z6)]))(F:FD K mg "_law_told" a2F ["text"]):DfXC P w K mg base (n+1) "_law_told" ["text"] a1b:=by
 refine F.dfnXCH a1f (by unfold a1b;walk_at "lnx") (fun hr acc accN accH=>a0x (HSX.c (HS.x (HS.n (a0V (i:=1) a6J a1f.nd))))
  (a0x (HSX.c (HS.x (HS.n (a0V (i:=2) (a4f a0d) a1f.nd))))
  (a0x (b1e (im:=2) (ie:=3) (names:=["NoPlait","NoRoom","NoStep","NoNumber","NoTable","BadNote"]) (mk:=xMk ["NoPlait","NoRoom","NoStep","NoNumber","NoTable","BadNote"]) rfl rfl rfl rfl
   (fun pn xe Ha E3 acc=>a2Z (HSXc.or (HSX.c (HS.x (a0V (i:=1) (a0s D_18 hr (a0a (hv 0) a0d)) a1f.nd))) (HSR.c (b1l (b0K acc (a6M rfl) Dc hr (a0a (hv 0) a0d))))))
   Z.xs.pe Z.xs.p.1 Z.xs.p.2 (Z.xs.names (ns:=["NoPlait","NoRoom","NoStep","NoNumber","NoTable","BadNote"]) rfl) D_9 hr a1f.nd)
  (a2Z (HSX.c (HS.x (HS.n (a0D (a5M (a0a (hv 1) (a0a (hv 2) a0d)))))))))) ) fun ts M Q E h=>?_
 unfold a1b at h;split at h
 ·rename_i x;obtain⟨hx,h⟩:=h;refine a0g fun K1 hK1=>?_;walk_at "rd";rw[hK1];clear hK1;refine a0g fun K2 hK2=>?_;walk_at "rd";intro p hp;have hS:=Sub.new hp (o:=MO.lst [])
  generalize hM1:updM M p (.lst [])=M1 at hS|-
  rw[hK2];clear hK2;refine a0g fun K3 hK3=>?_;unfold b2y;walk_at "rd";rcases h with ⟨n,ws,hd,h⟩|⟨hd,h⟩
  ·refine .inl ⟨hx,n,ws,hd,?_⟩;rw[hK3];clear hK3;walk_at "rd";rw[<- hM1];exact⟨by decide,a0i (h p hp)⟩
  ·refine .inr ⟨hx,hd,by decide +kernel,fun r hr=>?_⟩;have e:xMk ["NoPlait","NoRoom","NoStep","NoNumber","NoTable","BadNote"] "BadNote"=refL 5:=by decide +kernel
   rw[hK3];clear hK3;walk_at "rd";rw[e];exact⟨by decide,a0i (h r _ (hS.newr hr) a0c)⟩
 ·exact h.elim
theorem b4a{X:Cx}{Ha:Hp}:Acc X Ha (fun _ _ _=>False):=fun _ _ _ _ _ _ _ _ _ _ _ _ _ _ _ _ _ z=>z.elim
theorem a6p{l:Int}(h0:-6<=l)(h1:l<=6):Tx 2 (a0u l):=by
 have e:∀i:Nat,i<13->Tx 2 (a0u (-6+(i:Int))):=by decide +kernel
 have:=e (l+6).toNat (by lia)
 rwa [show(-6+((l+6).toNat:Int))=l by lia] at this
theorem b0Y{n:Int}{ws:LSI}(h1:1<=n)(h6:n<=6)(hl:ws.length<=16)(hw:∀l∈ws,-6<=l/\l<=6):(∀p∈(a0u n++(":":Str))::ws.map a0u,Tx 3 p)/\Tx 60 (b6A (" ":Str) ((a0u n++(":":Str))::ws.map a0u)):=by
 have ha:∀p∈(a0u n++(":":Str))::ws.map a0u,Tx 3 p:=by
  intro p hp;rcases b5b.mp hp with rfl|hp
  ·exact(a6p (by lia) h6).app (show Tx 1 (":":Str) by decide +kernel)
  ·obtain⟨l,hl,rfl⟩:=b8b.mp hp;exact(a6p (hw l hl).1 (hw l hl).2).up (by decide)
 refine⟨ha,Tx.join ha ?_⟩
 have hlen:∀y∈ws.map a0u,y.length+1<=3:=fun y hy=>by
  obtain⟨l,hl,rfl⟩:=b8b.mp hy;have:=(a6p (hw l hl).1 (hw l hl).2).1;lia
 have g:∀ys:LSS,(∀y∈ys,y.length+1<=3)->wlen ys<=3*ys.length:=by
  intro ys
  induction ys with
  |nil=>intro _;exact b5h _
  | cons y ys ih =>
    intro h;have i1:=ih fun z hz=>h z (.tail _ hz);have i2:=h y (.head _);show(y.length+1)+wlen ys<=_;rw[b5j];lia
 have h2:=g _ hlen;have h3:=(ha _ (.head _)).1;show((a0u n++(":":Str)).length+1)+wlen (ws.map a0u)<=60;rw[b4Y] at h2;lia
noncomputable def a2r:Sp3:=fun ts M Q=>match ts with
 |[.rd s]=>∃ns:LSI,s=ns.map .int/\ns.length<=63/\Q (.bl true) M
 |_=>False
theorem a5G(ns:LSI)(M:MH)(Q:VK3)(hl:ns.length<=63)(h:Q (.bl true) M):a2r [.rd (ns.map .int)] M Q:=⟨ns,rfl,hl,h⟩
theorem b1Q{f fd}{P_ z1 z2 z3 z4 z5 z6:Addr}(F:Fun K "law" "law" a6t f fd)(Z:Zs K P_ z1 z2 z3 z4 z5 z6 mg)(D_8:DfD "_law_plait" ["state","least","most","letters"] a1n P w K mg base n)(D_7:DfD "_law_state" ["script","k"] a1m P w K mg base n)(D_5:DfD "_law_spoilt" ["state","text"] a1c P w K mg base n)(D_15:DfD "_law_due" ["text"] a1K P w K mg base n)(Dc:DfXC P w K mg base n "_law_told" ["text"] a1b)(D_2:DfD "_law_refused" ["marks","which"] a0Q P w K mg base n)(D_0:DfD "_law_is_plait" ["found","strands","word"] a0L P w K mg base n):FnOkC P w K mg base CX0 (n+1) f fd ["script"] (dSp K a2r):=by
 refine Fun.fnkC F a3h (by unfold a2r;walk_at "ln") (fun hr=>(a0x (HSX.c (HS.x (b1h (a0s D_8 hr (a0a (a0s D_7 hr (a0a (hv 0) (a0a a0e a0d))) (a0a a0e (a0a a0e (a0a a0e a0d))))) (b4N (n:=2) rfl (a9b (a7k (i:=1) a3h.nd) (a9b (a7k (i:=2) a3h.nd) b3N))))))
  (a0x (HSX.c (HS.x (a0V (i:=3) (a4W a0p (a0a (a0q a0n (a4f (a0a (a0q a0n (a1A a2o Z.b_str b6x (a0a (hv 1) a0d)) a0p) a0d)) (a3j rfl (a5L (hv 2)) (bkS (a0b a6t) ["script","strands","word","text","k","spoilt","due","told"] ["letter"] [none]) (a1B (i:=0)) (by walk_at "g") (fun _ _ _ _ _=>a3g) (fun _ _ _ _ _=>(a1A a2o Z.b_str b6x (a0a (hv 0) a0d))))) a0d)) a3h.nd)))
  (a0x (b2L (fun _ _ z=>z) rfl (a4V Z.b_range (a0a a0e a0d)) (a7k (i:=4) a3h.nd)
   (a0x (HSX.c (HS.x (a0V (i:=5) (a0s D_5 hr (a0a (a0s D_7 hr (a0a (hv 0) (a0a (a0q a0n a0e (hv 4)) a0d))) (a0a (hv 3) a0d))) a3h.nd)))
   (a0x (HSX.c (HS.x (a0V (i:=6) (a0s D_15 hr (a0a (hv 5) a0d)) a3h.nd)))
   (a0x (b1f (i:=7) (a6K b4a (a6M rfl) Dc hr (a0a (hv 5) a0d)) a3h.nd)
   (a2Z (HSX.c (HS.x (s_if (a0I b0N (hv 6) a6J (a0E _)) (a0m (s_if (a4e (a1T (a0s D_2 hr (a0a (h_ix (hv 7) a0e) (a0a a0e a0d))))) (a0m (a0D h_bl)) a0M)) (a0m (s_if (HW.ht (w_or (a0I (a5x hr.units) (h_ix (hv 7) a0e) (a4f a0d) (a0E _)) (a8b (a4e (a1T (a0s D_0 hr (a0a (h_ix (hv 7) a0e) (a0a (h_ix (hv 6) a0e) (a0a (h_ix (hv 6) a0e) a0d))))))))) (a0m (a0D h_bl)) a0M))))))))))
  (a2Z (HSX.c (HS.x (a0D h_bl)))))))) fun ts M Q h=>?_
 unfold a2r at h;split at h
 ·rename_i s;obtain⟨ns,rfl,hns,h⟩:=h;refine a0g fun K1 hK1=>?_;walk_at "rd";refine⟨ns,rfl,by decide,fun p s0 f0 hp=>?_⟩;refine⟨s0,f0,a0c,by decide,by decide,by decide,by decide,by decide,fun n w s' n1 n6 ok hl=>?_⟩;rw[a5i];have hS:=Sub.new hp (o:=MO.lst [.int s',.bl f0])
  generalize updM M p (.lst [.int s',.bl f0])=A0 at hS|-
  clear hp;refine⟨rfl,rfl,?_⟩;have hl:w.length<=16:=by lia
  have hw:∀l∈w,-6<=l/\l<=6:=fun l hm=>by
   have:=ok l hm;unfold a2X at this;lia
  obtain⟨tx3,tx⟩:=b0Y n1 n6 hl hw;rw[hK1];clear hK1;refine a0g fun K2 hK2=>?_;walk_at "rd";refine⟨b4W (show n.natAbs<10 by lia) (by decide),?_,by decide,fun q hq=>?_⟩
  ·have h0:=(tx3 _ (.head _)).1;rw[a3D] at h0;exact a0o (b5E h0 (by decide))
  have hS1:=hS.newr hq (o:=MO.lst [.str (a0u n++(":":Str))]);have q1:(updM A0 q (MO.lst [.str (a0u n++(":":Str))])) q=some (.lst [.str (a0u n++(":":Str))]):=a0c;have eq1:MO.lst [T.str (a0u n++b5w ":")]=MO.lst [.str (a0u n++(":":Str))]:=rfl;rw[eq1];clear eq1
  generalize updM A0 q (MO.lst [.str (a0u n++(":":Str))])=A1 at hS1 q1|-
  clear hq;refine⟨fun i ys M'=>ys=((w.take i).map a0u).map T.str/\M'=A1,⟨rfl,rfl⟩,fun _ _ _ _=>trivial,a1S (by lia),?_,?_⟩
  ·rintro i x ys M' hx ⟨rfl,rfl⟩;rw[b5n] at hx;obtain⟨l,hl',rfl⟩:=b5Y.mp hx;obtain⟨l0,l1⟩:=hw l (b5W hl');refine⟨b4W (show l.natAbs<10 by lia) (by decide),?_,rfl⟩;rw[<- a8e a0u hl']
  ·rintro ys M' ⟨rfl,rfl⟩ q2 hq2;rw[b6L];rw[Sub.new hq2 _ _ q1];dsimp only;refine⟨by rw[b4Y,b4Y];exact a0o (show 1+w.length<_ by lia),fun r hr=>?_⟩;rw[show [T.str (a0u n++(":":Str))]++(w.map a0u).map T.str=((a0u n++(":":Str))::w.map a0u).map T.str from rfl,a2a];refine⟨a7g (b:=3) (by decide +kernel) (fun y hy=>(tx3 y hy).1) (by rw[b5j,b4Y];lia),?_⟩;have hS3:=(hS1.newr hq2 (o:=MO.lst ((w.map a0u).map T.str))).newr hr (o:=MO.lst (((a0u n++(":":Str))::w.map a0u).map T.str))
   generalize updM (updM M' q2 (MO.lst ((w.map a0u).map T.str))) r (MO.lst (((a0u n++(":":Str))::w.map a0u).map T.str))=A3 at hS3|-
   clear hq2 hr hS1 q1 hS;have tx:Tx 60 (b6A (b5w " ") ((a0u n++(":":Str))::w.map a0u)):=tx
   generalize b6A (b5w " ") ((a0u n++(":":Str))::w.map a0u)=text at tx|-
   rw[hK2];clear hK2;refine a0g fun K3 hK3=>?_;refine a9f fun B hB=>?_;unfold a7y;walk_at "rd";refine⟨by decide,by decide,fun i ρ M'=>∃x4 x5 x6 x7,ρ=[some (T.rd (b5Q T.int ns)),some (T.int n),some (T.tup (b5Q T.int w)),some (T.str text),x4,x5,x6,x7]/\Sub M M',⟨_,_,_,_,rfl,hS3⟩,fun _ _ _ _=>trivial,?_,?_⟩
   ·rintro i x ρ Mx hx ⟨x4,x5,x6,x7,rfl,hS⟩;obtain⟨hi,rfl⟩:=a4m hx;rw[hB];clear hB;refine a0g fun K4 hK4=>?_;walk_at "rd";refine⟨ns,rfl,by lia,fun u sn sf hu=>?_⟩;refine⟨sn,sf,a0c,tx,fun M1 y hy hsp=>?_⟩
    have hS1:Sub M M1:=fun r o e=>by
     have hr:Mx r=some o:=hS r o e;have hru:r≠u:=fun z=>by rw[z,hu] at hr;cases hr
     exact hsp r o hru (by rw[a0C hru];exact hr)
    clear hsp hu hS;rw[hK4];clear hK4;refine a0g fun K5 hK5=>?_;walk_at "rd";refine⟨hy,fun a us hd=>?_,fun hd=>?_⟩
    ·rw[hK5];clear hK5;refine a0g fun K6 hK6=>?_;walk_at "rd";refine⟨hy,.inl ⟨a,us,hd,fun r hr=>?_⟩⟩;have hS2:=hS1.newr hr (o:=MO.lst []);have r2:(updM M1 r (.lst [])) r=some (.lst []):=a0c
     generalize updM M1 r (.lst [])=M2 at hS2 r2|-
     rw[hK6];clear hK6;walk_at "rd";intro z hz;rw[Sub.new hz _ _ r2];dsimp only;refine⟨rfl,rfl,by decide,?_⟩;rw[a4X,if_neg (by decide)]
     have hul:us.length<10000:=by
      obtain⟨_,_,_,_,_,_,hp⟩:=hd;have:=(a2s.mp hp).2.2.1;lia
     refine⟨us,us,rfl,rfl,hul,hul,?_⟩;rw[decide_eq_true rfl,decide_eq_true rfl];dsimp only[Bool.and_self];rw[if_neg (by decide)];exact⟨_,_,_,_,rfl,hS2.newr hz⟩
    ·rw[hK5];clear hK5;refine a0g fun K6 hK6=>?_;walk_at "rd";refine⟨hy,.inr ⟨hd,fun r M' hSS hr=>?_⟩⟩;have hS2:=hS1.trans hSS;rw[hK6];clear hK6;walk_at "rd";refine⟨refL 5,hr,?_⟩;rw[decide_eq_true rfl];dsimp only;rw[if_neg (by decide)];exact⟨_,_,_,_,rfl,hS2⟩
   ·rintro ρ Mx ⟨x4,x5,x6,x7,rfl,hS⟩;rw[hK3];clear hK3;walk_at "rd";exact a0W h hS
 ·exact h.elim
theorem Df.u{P w K mg base n m x ps sp}(D:Df P w K mg base n x ps sp)(h:n<=m:=by decide):Df P w K mg base m x ps sp:=D.mono h
theorem DfM.u{P w K mg base n m x Ds}(D:DfM P w K mg base n x Ds)(h:n<=m:=by decide):DfM P w K mg base m x Ds:=D.mono h
noncomputable abbrev RwN(K:PySem.W.Frag)(x:Str)(v:OVA):Prop:=PySem.W.nsIn K mainGlobals x=some v
theorem b3Z{l:PySem.W.OpenLaw}{w:b5B}{h:Heap}{fa :Addr}(X:K.In h)(G:h.Ns mainGlobals mg)(hfa:mg "law"=some (.ref fa))
  (d1:FD0 K mg "is_letter" a2E)
  (d2:FD0 K mg "is_word" a2O)
  (d3:FD0 K mg "is_plait" a3b)
  (d4:FD0 K mg "number_in" a1N)
  (d5:FD0 K mg "read" a3v)
  (d6:FD0 K mg "_law_cell_at" a1y)
  (d7:FD0 K mg "_law_whole" a2e)
  (d8:FD0 K mg "_law_state" a2f)
  (d9:FD0 K mg "_law_choice" a1R)
  (d10:FD0 K mg "_law_word" a1O)
  (d11:FD0 K mg "_law_plait" a2g)
  (d12:FD0 K mg "_law_marks" a2h)
  (d13:FD0 K mg "_law_refused" a1e)
  (d14:FD0 K mg "_law_is_plait" a0R)
  (d15:FD0 K mg "_law_number" a1Q)
  (d16:FD0 K mg "_law_due" a1E)
  (d17:FD0 K mg "_law_odd" a3c)
  (d18:FD0 K mg "_law_spoilt" a1P)
  (d19:FD0 K mg "_law_told" a2F)
  (d20:FD0 K mg "law" a6t)
  {P_ z1 z2 z3 z4 z5 z6:Addr} (n_P:RwN K "PlaitError" (some (.ref P_)))
  (n_NoPlait:RwN K "NoPlait" (some (.ref z1)))
  (n_NoRoom:RwN K "NoRoom" (some (.ref z2)))
  (n_NoStep:RwN K "NoStep" (some (.ref z3)))
  (n_NoNumber:RwN K "NoNumber" (some (.ref z4)))
  (n_NoTable:RwN K "NoTable" (some (.ref z5)))
  (n_BadNote:RwN K "BadNote" (some (.ref z6)))
  (x_all:xAll K P_ [("NoPlait",z1),("NoRoom",z2),("NoStep",z3),("NoNumber",z4),("NoTable",z5),("BadNote",z6)]=true)
  {zx:Addr} (nx:RwN K "BadNote" (some (.ref zx))) (x_ob:b0W K zx=true)
  (z_b:∀x∈(["ValueError","abs","all","bool","int","isinstance","len","range","str","tuple"]:LSS),RwN K x none)
  {tk_MOST_LETTERS:Tok} (g_MOST_LETTERS:RwN K "MOST_LETTERS" (some (.int 16 tk_MOST_LETTERS)))
  {tk_MOST_STRANDS:Tok} (g_MOST_STRANDS:RwN K "MOST_STRANDS" (some (.int 6 tk_MOST_STRANDS)))
  : ∃fd:b6g,(∀(s:b4U) (v:b5c),b9h s fd ⟨[v],[]⟩ [("script",v)])/\∀base:Heap,K.In base->base.Ns mainGlobals mg->FnOkC l.prog w K mg base CX0 6 fa fd ["script"] (dSp K a2r):=by
 obtain⟨f,fd,F,hm⟩:=d20.e;cases hm.symm.trans hfa;have F':=F;obtain⟨oc,od,kV,doc,pm,an,cdv,ct,osl,rfl,lk,hcd⟩:=F.ex;have mo:∀{x:Str} {f:Addr},RwN K x (some (.ref f))->mg x=some (.ref f):=fun a=>PySem.W.mg_of X G a
 have XS:Xs K mg P_ [("NoPlait",z1),("NoRoom",z2),("NoStep",z3),("NoNumber",z4),("NoTable",z5),("BadNote",z6)]:=⟨PySem.W.mg_of X G n_P,fun c hc=>by
  simp only[b5b,b7D,or_false] at hc;rcases hc with rfl|rfl|rfl|rfl|rfl|rfl
  ·exact PySem.W.mg_of X G n_NoPlait
  ·exact PySem.W.mg_of X G n_NoRoom
  ·exact PySem.W.mg_of X G n_NoStep
  ·exact PySem.W.mg_of X G n_NoNumber
  ·exact PySem.W.mg_of X G n_NoTable
  ·exact PySem.W.mg_of X G n_BadNote
  ,x_all⟩
 have x_one:=b0V x_ob (mo nx)
 have Z:Zs K P_ z1 z2 z3 z4 z5 z6 mg:=by constructor<;>first
  |exact PySem.W.mg_none_of X G (z_b _ (by decide))
  |assumption
  |exact⟨tk_MOST_LETTERS,PySem.W.mg_of X G g_MOST_LETTERS⟩
  |exact⟨tk_MOST_STRANDS,PySem.W.mg_of X G g_MOST_STRANDS⟩
 refine⟨PySem.W.fnOf "law" "law" (a2I a6t) (a0Z a6t) (a0b a6t) .none kV doc pm an cdv ct,fun s v=>.of_eq rfl,fun base _ _=>?_⟩;have D1:=a5A (P:=l.prog) (w:=w) (base:=base) (n:=0) Z  (d1.b (by walk_at "b2"));have D2:=a7J (n:=1) Z D1.u (d2.b (by walk_at "b3"));have D3:=a6C (n:=2) Z D2.u (d3.b (by walk_at "b1"));have D4:=a5z (P:=l.prog) (w:=w) (base:=base) (n:=0) Z  (d4.b (by walk_at "b1"));have E4:=a4L (P:=l.prog) (w:=w) (base:=base) (n:=0) Z  (d4.b (by walk_at "b1"));have D5:=b1R (n:=3) Z D4.u D3.u (d5.b (by walk_at "b1"));have E5:=b0h (P:=l.prog) (w:=w) (base:=base) (n:=3) Z D3.u D4.u E4.u (d5.b (by walk_at "b1"));have D6:=a3B (P:=l.prog) (w:=w) (base:=base) (n:=0) Z  (d6.b (by walk_at "b2"));have D7:=a4N (P:=l.prog) (w:=w) (base:=base) (n:=0) Z  (d7.b (by walk_at "b1"));have D8:=a4O (n:=1) Z D6.u (d8.b (by walk_at "b2"));have D9:=a4c (P:=l.prog) (w:=w) (base:=base) (n:=0) Z  (d9.b (by walk_at "b2"));have D10:=a5B (n:=1) Z D9.u (d10.b (by walk_at "b3"));have D11:=a4P (n:=2) Z D9.u D10.u (d11.b (by walk_at "b4"))
 have D12:DfM l.prog w K mg base 1 "_law_marks" (xDs [("NoPlait",z1),("NoRoom",z2),("NoStep",z3),("NoNumber",z4),("NoTable",z5),("BadNote",z6)]):=by
  obtain⟨f,fd,F,hm⟩:=d12.e;exact a4Q (P:=l.prog) (w:=w) (base:=base) (n:=0) F hm (F.binds (by walk_at "b1")) Z
 have D13:=a3A (P:=l.prog) (w:=w) (base:=base) (n:=0) Z  (d13.b (by walk_at "b2"));have D14:=a3o (n:=1) Z D7.u (d14.b (by walk_at "b3"));have D15:=a4b (P:=l.prog) (w:=w) (base:=base) (n:=0) Z  (d15.b (by walk_at "b1"));have D16:=a6E (n:=1) Z D15.u (d16.b (by walk_at "b1"));have D17:=a6D (n:=1) Z D9.u (d17.b (by walk_at "b1"));have D18:=a4a (n:=2) Z D9.u D17.u (d18.b (by walk_at "b2"));have E19:=a4M (P:=l.prog) (w:=w) (base:=base) (n:=4) Z D5.u E5.u D12.u (d19.b (by walk_at "b1"));exact b1Q (n:=5) F' Z D11.u D8.u D18.u D16.u E19.u D13.u D14.u
end L2
namespace PySem.W.Fast
theorem tw15200802352481812581:True:=⟨⟩
theorem tw17198961298374872067:True:=⟨⟩
theorem tw2537500364194972839:True:=⟨⟩
theorem tw6040505366618612282:True:=⟨⟩
theorem tw11628084758374073182:True:=⟨⟩
theorem tw11182930581584085076:True:=⟨⟩
theorem tw16593415711137417951:True:=⟨⟩
theorem tw13819495744990724725:True:=⟨⟩
theorem tw2980811727159184027:True:=⟨⟩
theorem tw6420532311651260053:True:=⟨⟩
theorem tw10140403877244072125:True:=⟨⟩
theorem tw1611691927481719738:True:=⟨⟩
theorem tw9749460256506771274:True:=⟨⟩
theorem tw10440995397194956998:True:=⟨⟩
theorem tw3725807749545344390:True:=⟨⟩
theorem tw16962999443810304427:True:=⟨⟩
theorem tw12854893116648052316:True:=⟨⟩
theorem tw18098451008557937077:True:=⟨⟩
theorem tw16491198747073475726:True:=⟨⟩
theorem tw1427020786870612468:True:=⟨⟩
theorem tw11607530953514239220:True:=⟨⟩
theorem tw17408561364164002455:True:=⟨⟩
theorem tw15041890482115102009:True:=⟨⟩
theorem tw16644354086144463789:True:=⟨⟩
theorem tw878296886295688086:True:=⟨⟩
theorem tw12671252128327823954:True:=⟨⟩
theorem tw2588991877578036044:True:=⟨⟩
theorem tw2937279012271150693:True:=⟨⟩
theorem tw7898396056248949900:True:=⟨⟩
theorem tw7233445394696437715:True:=⟨⟩
theorem tw6884358986635521433:True:=⟨⟩
theorem tw15601777680807507114:True:=⟨⟩
theorem tw5704722970996088803:True:=⟨⟩
theorem tw17771748187055464455:True:=⟨⟩
theorem tw303984706679946267:True:=⟨⟩
theorem tw14949881307587223562:True:=⟨⟩
theorem tw14238343196994776177:True:=⟨⟩
theorem tw6818282734778633974:True:=⟨⟩
theorem tw2578407685834346024:True:=⟨⟩
theorem tw2877329379179865231:True:=⟨⟩
theorem tw17323323132278311207:True:=⟨⟩
theorem tw7728133953166475810:True:=⟨⟩
theorem tw13547511996734376603:True:=⟨⟩
theorem tw16779209657690426616:True:=⟨⟩
theorem tw9365946865066301196:True:=⟨⟩
theorem tw1066215228117676359:True:=⟨⟩
theorem tw6300871085092885580:True:=⟨⟩
theorem tw8994492237115639364:True:=⟨⟩
theorem tw12380077195786234428:True:=⟨⟩
theorem tw7548684235901531958:True:=⟨⟩
theorem tw6511973710704588253:True:=⟨⟩
theorem tw17993514446092787366:True:=⟨⟩
theorem tw1100837847934812715:True:=⟨⟩
theorem tw18118029722399621839:True:=⟨⟩
theorem tw6933907880648315085:True:=⟨⟩
theorem tw6442227928332732690:True:=⟨⟩
theorem tw5502860114351338250:True:=⟨⟩
theorem tw2925098415118950691:True:=⟨⟩
theorem tw3077040379986183787:True:=⟨⟩
theorem tw6697804934229343994:True:=⟨⟩
theorem tw1665824946131809406:True:=⟨⟩
theorem tw10175637364387776895:True:=⟨⟩
theorem tw18095260414609906407:True:=⟨⟩
theorem tw12751329383050036899:True:=⟨⟩
theorem tw8619574238534399581:True:=⟨⟩
theorem tw3952476247249552824:True:=⟨⟩
theorem tw18116982146047318908:True:=⟨⟩
theorem tw18318161158169095501:True:=⟨⟩
theorem tw10886583313746101920:True:=⟨⟩
theorem tw5758286634340766995:True:=⟨⟩
theorem tw14504506205731668351:True:=⟨⟩
theorem tw8008644204481249204:True:=⟨⟩
theorem tw9675944665909238674:True:=⟨⟩
theorem tw3647466003779808697:True:=⟨⟩
theorem tw14492941657629254505:True:=⟨⟩
theorem tw845234867052336379:True:=⟨⟩
theorem tw14150029355304115520:True:=⟨⟩
theorem tw13330044577463315502:True:=⟨⟩
theorem tw6774588820252964775:True:=⟨⟩
theorem tw12557587423523696310:True:=⟨⟩
theorem tw14598938837347091025:True:=⟨⟩
theorem tw9815446274834653441:True:=⟨⟩
theorem tw8286404624358864077:True:=⟨⟩
theorem tw5972850459641050976:True:=⟨⟩
theorem tw4553776164522197403:True:=⟨⟩
theorem tw14384457021292833903:True:=⟨⟩
theorem tw14644383073104219825:True:=⟨⟩
theorem tw13127622221197536851:True:=⟨⟩
theorem tw1378530070299124826:True:=⟨⟩
theorem tw13735897153214478105:True:=⟨⟩
theorem tw15777956874933853444:True:=⟨⟩
theorem tw15911171787072386215:True:=⟨⟩
theorem tw14403263756767625388:True:=⟨⟩
theorem tw5693656772768526198:True:=⟨⟩
theorem tw4880653832283165370:True:=⟨⟩
theorem tw17013251170107480794:True:=⟨⟩
theorem tw11727100081725080718:True:=⟨⟩
theorem tw11323704432634152528:True:=⟨⟩
theorem tw7841526261659881923:True:=⟨⟩
theorem tw16241612405984816756:True:=⟨⟩
theorem tw13073462639458904420:True:=⟨⟩
theorem tw8230589159448052546:True:=⟨⟩
theorem tw14583953456157187766:True:=⟨⟩
theorem tw5816600214252645332:True:=⟨⟩
theorem tw16291176163160916682:True:=⟨⟩
theorem tw12737874333278864018:True:=⟨⟩
theorem tw3848338823405369136:True:=⟨⟩
theorem tw6276939537908892160:True:=⟨⟩
theorem tw11041822808260592071:True:=⟨⟩
theorem tw16673404580059788287:True:=⟨⟩
theorem tw10658487559493659050:True:=⟨⟩
theorem tw8385692166532373036:True:=⟨⟩
theorem tw3368795793304294121:True:=⟨⟩
theorem tw12718383644354103293:True:=⟨⟩
theorem tw941620067729148264:True:=⟨⟩
theorem tw3883668736119501828:True:=⟨⟩
theorem tw2672764915965968556:True:=⟨⟩
theorem tw9951870348993562797:True:=⟨⟩
theorem tw1395508816983539297:True:=⟨⟩
theorem tw9288486078812056638:True:=⟨⟩
theorem tw11619947064422515817:True:=⟨⟩
theorem tw6571435192228524242:True:=⟨⟩
theorem tw10989495349750411767:True:=⟨⟩
theorem tw7734272792558969177:True:=⟨⟩
theorem tw15014167801617930690:True:=⟨⟩
theorem tw1889778889527212502:True:=⟨⟩
theorem tw12988463912793653706:True:=⟨⟩
theorem tw17203039205658804832:True:=⟨⟩
theorem tw4634260879537399240:True:=⟨⟩
theorem tw13965926226006617680:True:=⟨⟩
theorem tw11151091968990731759:True:=⟨⟩
theorem tw16872418504228052058:True:=⟨⟩
theorem tw10543938862458923538:True:=⟨⟩
theorem tw1136527976121360189:True:=⟨⟩
theorem tw7148569895745002680:True:=⟨⟩
theorem tw5727564227864285829:True:=⟨⟩
theorem tw15764125458121681283:True:=⟨⟩
theorem tw10071740158413183333:True:=⟨⟩
theorem tw18330742650414204864:True:=⟨⟩
theorem tw6743964253869146809:True:=⟨⟩
theorem tw15412474644109451637:True:=⟨⟩
theorem tw17864563766079493484:True:=⟨⟩
theorem tw13268389447645111641:True:=⟨⟩
theorem tw2702209574807669392:True:=⟨⟩
theorem tw16550876580455874682:True:=⟨⟩
theorem tw16622837848213261055:True:=⟨⟩
theorem tw5445631291103168437:True:=⟨⟩
theorem tw7848330859007956127:True:=⟨⟩
theorem tw4675420286776084651:True:=⟨⟩
theorem tw18438088652398021463:True:=⟨⟩
theorem tw2149891904320773141:True:=⟨⟩
theorem tw882504223180990297:True:=⟨⟩
theorem tw13824929816100341333:True:=⟨⟩
theorem tw14903384096491522473:True:=⟨⟩
theorem tw14776158728140199985:True:=⟨⟩
theorem tw11871293206725456715:True:=⟨⟩
theorem tw3175705400482164061:True:=⟨⟩
theorem tw3275829208552605560:True:=⟨⟩
theorem tw7507630348600060843:True:=⟨⟩
theorem tw14968267912827916643:True:=⟨⟩
theorem tw13189521511468030425:True:=⟨⟩
theorem tw4289311924281450530:True:=⟨⟩
theorem tw10331181495058694943:True:=⟨⟩
theorem tw11626569979315923644:True:=⟨⟩
theorem tw14135294243048566079:True:=⟨⟩
theorem tw9198858688266226427:True:=⟨⟩
theorem tw8776169652752244947:True:=⟨⟩
theorem tw18302316879949058868:True:=⟨⟩
theorem tw9144827986007610785:True:=⟨⟩
theorem tw7723184097505329044:True:=⟨⟩
theorem tw14017493037438210548:True:=⟨⟩
theorem tw14117011844103797722:True:=⟨⟩
theorem tw6811550907035577910:True:=⟨⟩
theorem tw6013494493199718245:True:=⟨⟩
theorem tw2606497948682804718:True:=⟨⟩
theorem tw15374601810051655101:True:=⟨⟩
theorem tw18293445755124880849:True:=⟨⟩
theorem tw1092906817131224180:True:=⟨⟩
theorem tw2876287494516430804:True:=⟨⟩
theorem tw14262385906794012826:True:=⟨⟩
theorem tw11926364129556031316:True:=⟨⟩
theorem tw6455579319530790806:True:=⟨⟩
theorem tw10500463892064634418:True:=⟨⟩
theorem tw17942420491854955076:True:=⟨⟩
theorem tw14166272291162613727:True:=⟨⟩
theorem tw902879804402627837:True:=⟨⟩
theorem tw6959295953075664435:True:=⟨⟩
theorem tw10702764481860811677:True:=⟨⟩
theorem tw9963322706833831257:True:=⟨⟩
theorem tw1218150059467259787:True:=⟨⟩
theorem tw18161158690871797501:True:=⟨⟩
theorem tw4711450936907892832:True:=⟨⟩
theorem tw16868380294336653418:True:=⟨⟩
theorem tw10157377963208497454:True:=⟨⟩
theorem tw3037171510982243022:True:=⟨⟩
theorem tw6546270269867196992:True:=⟨⟩
theorem tw5116829482927564813:True:=⟨⟩
theorem tw9803665846179169185:True:=⟨⟩
theorem tw2486219774994761761:True:=⟨⟩
theorem tw17366925434556758022:True:=⟨⟩
theorem tw15523507257440411082:True:=⟨⟩
theorem tw15085358824585830545:True:=⟨⟩
theorem tw15057886121799272703:True:=⟨⟩
theorem tw1411164841414694394:True:=⟨⟩
theorem tw7573439942508288700:True:=⟨⟩
theorem tw2629648570232543580:True:=⟨⟩
theorem tw1410293180699714207:True:=⟨⟩
theorem tw751125330319794042:True:=⟨⟩
theorem tw14284063774261749614:True:=⟨⟩
theorem tw17119659485963514532:True:=⟨⟩
theorem tw14906553633209293398:True:=⟨⟩
theorem tw10874466882147567723:True:=⟨⟩
theorem tw817501546645684270:True:=⟨⟩
theorem tw12882991581272083514:True:=⟨⟩
theorem tw7091095563959917433:True:=⟨⟩
theorem tw457804033322680796:True:=⟨⟩
theorem tw14900782209107431744:True:=⟨⟩
theorem tw2241267393352841524:True:=⟨⟩
theorem tw8408038050552973981:True:=⟨⟩
theorem tw12651332954576208239:True:=⟨⟩
theorem tw13307644424327247825:True:=⟨⟩
theorem tw2371765086305916333:True:=⟨⟩
theorem tw7351544752350211364:True:=⟨⟩
theorem tw15970723471119311241:True:=⟨⟩
theorem tw14510032190807927655:True:=⟨⟩
theorem tw7464732453288559776:True:=⟨⟩
theorem tw2295977576247724533:True:=⟨⟩
theorem tw10807279802827739170:True:=⟨⟩
theorem tw2728203216941332275:True:=⟨⟩
theorem tw16226760468705026861:True:=⟨⟩
theorem tw10494815933604251548:True:=⟨⟩
theorem tw13879384061654796780:True:=⟨⟩
theorem tw1681964315711344999:True:=⟨⟩
theorem tw9853199002159996766:True:=⟨⟩
theorem tw3857765242845744952:True:=⟨⟩
theorem tw17948853322261100628:True:=⟨⟩
theorem tw6307527902986733439:True:=⟨⟩
theorem tw12809985034760799347:True:=⟨⟩
theorem tw15699006200961443926:True:=⟨⟩
theorem tw13820587148117267112:True:=⟨⟩
theorem tw5436315310203836602:True:=⟨⟩
theorem tw17226210713850207671:True:=⟨⟩
theorem tw3995883745621228789:True:=⟨⟩
theorem tw13244733154450839561:True:=⟨⟩
theorem tw4634084032334721487:True:=⟨⟩
theorem tw15215606777778870924:True:=⟨⟩
theorem tw5285336004309298825:True:=⟨⟩
theorem tw13598822156802021894:True:=⟨⟩
theorem tw17598837278992931841:True:=⟨⟩
theorem tw631392771504913280:True:=⟨⟩
theorem tw15147059488447578406:True:=⟨⟩
theorem tw8872455927117539837:True:=⟨⟩
theorem tw10798615919480592948:True:=⟨⟩
theorem tw18173283237352884365:True:=⟨⟩
theorem tw6198059505304272526:True:=⟨⟩
theorem tw18189689414743431504:True:=⟨⟩
theorem tw13235915628474488749:True:=⟨⟩
theorem tw7962058111595562545:True:=⟨⟩
theorem tw1962557860110535009:True:=⟨⟩
theorem tw7631341449766083817:True:=⟨⟩
theorem tw15275765868631326588:True:=⟨⟩
theorem tw10020507870252079344:True:=⟨⟩
theorem tw1486045979352325567:True:=⟨⟩
theorem tw16603364184008439857:True:=⟨⟩
end PySem.W.Fast
namespace CC
open PySem PySem.W PyProof.Rows
set_option maxRecDepth 100000 in
set_option maxHeartbeats 0 in
theorem main:PySem.Challenge.rw_loopwright_k09_texts_that_write_no_plait.Holds:=by
 w_on;o_law;k_head;(case hw=>w_witness2)
 k_fill
 refine L2.a8O (l:=PySem.Challenge.rw_loopwright_k09_texts_that_write_no_plait) (k:=6) (sp:=L2.a2r) rfl rfl ⟨rfl,by decide,by decide⟩ (fun w h Y=>PySem.W.kIn_of Y) L2.a5G ?F
 case F =>
  intro w mg fa h KX G hmg;refine' L2.b3Z KX G hmg ?d1 ?d2 ?d3 ?d4 ?d5 ?d6 ?d7 ?d8 ?d9 ?d10 ?d11 ?d12 ?d13 ?d14 ?d15 ?d16 ?d17 ?d18 ?d19 ?d20 ?n_P ?n_NoPlait ?n_NoRoom ?n_NoStep ?n_NoNumber ?n_NoTable ?n_BadNote ?x_all ?nx ?x_ob ?z_b ?g_MOST_LETTERS ?g_MOST_STRANDS
  (case d1|d2|d3|d4|d5|d6|d7|d8|d9|d10|d11|d12|d13|d14|d15|d16|d17|d18|d19|d20=>(refine' L2.FD0.of KX G ?a ?l ?c ?k;(case a|l|c|k=>change _=_;k_is)))
  (case n_P|n_NoPlait|n_NoRoom|n_NoStep|n_NoNumber|n_NoTable|n_BadNote|nx|g_MOST_LETTERS|g_MOST_STRANDS=>change _=_;k_is)
  (case z_b=>simp only[b5b,b7D,or_false,forall_eq_or_imp,forall_eq];(repeat' apply b9t)<;>(change _=_;k_is))
  (case x_all=>kernel_rfl)
  (case x_ob=>kernel_rfl)
end CC
theorem PySem.Challenge.cw_loopwright_k09_texts_that_write_no_plait_holds : PySem.Challenge.rw_loopwright_k09_texts_that_write_no_plait.Holds := by
 exact CC.main
