import PyProof.Rows.All
import Wide.All
import OpenK.AllK
import Wide.FinOn
import Lean
import PyProof.EqAt
import PyProof.EqKinds
import PyProof.TupleCall
import PySem.Challenge.RW_loopwright_k92_lines_of_a_desk_refused
open PySem renaming Shared->b7Y,wpAny_bind->b8a,Value->b8g,Program->b8n,wpAny_pure->b8r,Around->b8w,World->b8F,wpAny_mono->b8H,wpAny_truthy_bool->b8X,FuncData->b9d,wpAny_execs_nil->b9i,wpAny_holding->b9p,wpAny_noRaise->b9q,wpAny_newObj_type->b9s,NameKind->b9u,wpAny_standAt->b9y,wpAny_loadPart_at->b9K,wpAny_field->b9P,wpAny_getItem_str_slice->b9Q,wpAny_Call_Name_kw->b9U,codeAny_handlers_test->c0d,call_meets->c0g,wpAny_handleBy_cons->c0p,Scope->c0t,ExceptHandler->c0v,sizeLine_eq->c0A,Model->c0I,typeIs_str->c0P,pushCells_keeps->c0V,post_val_or_str->c0X,arm_eval_Call_Name'->c0Z,wpAny_newFunctionEnv_cells->c1c,tupleKind_room_in1->c1i,wpAny_binaryOp_repeat_ref->c1t,Builtin->c1u,wpAny_setField->c1w,Result->c1y,wpAny_callSpecial?_slot->c1J,wpAny_list_append_plain->c1L,markedBehindIn_of_false->c1M,wpAny_execs_cons->c1O,noFill_tuple_add->c1P,wpAny_call_entry->c1Q,codeAny_handlers_suite->c1U,codeAny_mono->c1X,Keyword->c1Y,wpAny_looks_onW->c2h,typeIs_int->c2o,isSubtype_type->c2t,CmpOp->c2w,wpAny_throw->c2C,seq_tuple_add->c2H,IsPart->c2I,Comprehension->c2N,BindsTo->c2P,wpAny_call->c2Q,wpAny_sequenceKey->c2R,slot_list_getitem->c2S,wpAny_Call_method->c2U,wpAny_pyIter_list->c2X,concat_meets->c3c,wpAny_typeOf->c3d,seqIndex_neg->c3e,wpAny_landsW->c3f,wpAny_Try_except->c3m,GenState->c3s,seqIndex_of->c3v,wpAny_tests_nil->c3x,wpAny_point->c3z,wpAny_Name->c3E,Arguments->c3N,DictEntry->c3R,JoinOk->c4c
open List renaming mem_cons_of_mem->b7Z,mem_cons_self->b8e,length_map->b8f,size_toArray->b8h,mem_append_right->b8i,mem_cons->b8l,map_cons->b8o,replicate->b8p,mem_append_left->b8q,length_cons->b8t,getElem?_eq_getElem->b8u,getElem?_map->b8x,getElem?_eq_some_iff->b8C,map->b8E,exists_cons_of_length_eq_add_one->b8J,find?_cons->b8M,append_nil->b8O,replicate_succ->b8P,mem_of_getElem?->b8Q,length_append->b8R,any_cons->b8U,filterMap_cons->b9f,mem_singleton->b9n,all_eq_true->b9o,take_of_length_le->b9v,range->b9w,take_length->b9x,lookup->b9A,getElem?_set_ne->b9D,mem_append->b9F,flatten_cons->b9H,flatMap_cons->b9I,map_append->b9J,mem_map->b9N,eq_nil_of_length_eq_zero->b9R,cons_append->b9S,getElem?_set_self->b9T,lookup_append->b9V,foldl_cons->b9Y,length_singleton->b9Z,nil_append->c0a,map_map->c0c,all_cons->c0f,isEmpty_cons->c0i,getElem?_append_left->c0j,length_take->c0l,length_drop->c0m,length_set->c0u,reverse_cons->c0D,append_assoc->c0E,filter_cons->c0J,flatMap_map->c0K,not_mem_nil->c0L,nodup_cons->c0R,of_mem_zip->c0S,length->c0T,getElem?_append_right->c1b,getD_eq_getElem?_getD->c1g,all_map->c1j,pairwise_cons->c1o,mem_range->c1r,foldl->c1B,take_add_one->c1E,getElem?_replicate->c1I,pairwise_singleton->c1K,lookup_cons->c1R,map_nil->c2a,length_nil->c2b,contains_iff_mem->c2m,zip->c2q,getElem?_range->c2z,any_map->c3g,getElem_mem->c3k,mem_reverse->c3l,flatMap_nil->c3o,isEmpty_nil->c3r,mem_filter->c3u,forIn_nil->c3A,take->c3T
open PySem.Str renaming ofString->b8b,empty->c1V,join->c4d
open Nat renaming lt_of_lt_of_le->b8c,le_refl->b8k,ne_of_lt->b8B,le_trans->b8G,lt_irrefl->b9a,lt_of_le_of_lt->b9b,lt_succ_self->b9c,zero_le->b9B,ne_of_gt->b9L,lt_trans->b9M,le_of_lt->b9X,sub_lt_sub_left->c0W,le_of_eq->c1W,mul_comm->c1Z,min_eq_left->c2e,le_succ->c2x,min_eq_right->c3p,not_lt->c3G,succ_mul->c3O,sub_zero->c3P,mul_succ->c3Q,log2_lt->c4a
open PySem.Heap renaming get?_push_of_some->b8d,lt_size->b8j,get?_push_size->b8A,get?_update_other->b8I,get?_update_self->b8Y,size_push->b9r,SameBut->c0q,MadeExc->c0s,FlyingW->c2g,get?_none_of_le->c2r,MadeExcOf->c2s,dictOf_iff->c3y
open Bool renaming and_eq_true->b8m,false_ne_true->b8v,false_and->b8T,not_eq_true'->b8Z,or_eq_true->b9j,true_and->c0M,false_eq_true->c1p,not_false->c1x,and_false->c2u,eq_false_iff->c2V,noConfusion->c3q,or_false->c3I,false_or->c3K,and_true->c3L
open Option.some renaming inj->b8s
open Classical renaming byContradiction->b8y
open PySem.Value renaming ref->b8z,none->b8W,bool->c0z,int->c0H,type->c0N,str->c2D,isStrOf->c3H,isInt->c3U,bytes->c3V,float->c3W
open False renaming elim->b8D
open PyProof.Rows renaming slot_tuple_getitem->b8K,boot_all->c0e,boot_tuple->c0x,callWith_type1->c0Q,AllBare->c1s,subscriptTail_builtinR->c1T,entry_tuple_getitem->c2y,args_tuple_getitem->c2J,Subscript_->c3F,IntsAre->c3J,StrsAre->c4b
open PySem.Obj renaming data_mapFields->b8L,mapFields->b9h,isFreed_of_fields->b9m,mapSeq->c2n
open PySem.PyData renaming keyHash->b8N
open Option renaming map_eq_some_iff->b8S,isSome_iff_exists->c1A,isSome_map->c1C,isSome_some->c2K,getD_none->c3h
open PySem.Sem renaming wp_mono->b8V,wp_bind'->b9O,wp_cmd_standAt->b9W,wp_holding->c1v,wp_stack->c2j,wp_operate->c3D,wp_pure'->c3S
open Array renaming getElem?_eq_some_iff->b9e,length_toList->b9g,getElem?_toList->c2i,size_append->c2Z,toList_inj->c3n,toList->c3M
open PySem.Txt renaming split->b9k,slice->c1F,join->c3t
open Pure renaming pure->b9l
open Ne renaming symm->b9t
open PySem.NameKind renaming free->b9z,cell->c0h
open PySem.Builtin.Slice renaming slicePlaces->b9C,sliceAdjust->c0k,sliceApplied->c1d
open PySem.Calls renaming evalArgs_plain->b9E,callWith_builtin->c0y,Name_function_global->c1a,spliced_cons->c1h,spliced_nil->c1z
open PySem.Builtin.Tuple renaming tupleExact->b9G,tupleItemsOf->c1e,tupleTooMany->c1f
open ForInStep renaming yield->c0b
open PySem.F renaming slot_tuple_mul->c0n,slot_int_rmul->c0U,args_tuple_mul_2->c1l,args_str_split_2->c1m,entry_tuple_mul->c1D,entry_str_split->c1H,slot_str_split->c1S,args_int_rmul_2->c2T,slot_tuple_rmul->c2W,slot_int_index->c3i,entry_int_rmul->c3j,fills_int_mul->c3w
open Sum renaming inr->c0o,inl->c2O
open PySem.Builtin.List renaming listTooLong->c0r
open PySem.Builtin.Str renaming occurrences->c0w,partsBetween->c1G,strKind->c2A,tooLong->c2B,glued->c2Y
open Int renaming toNat_natCast->c0B,emod_lt_of_pos->c1q,eq_ofNat_of_zero_le->c1N,ne_of_gt->c2d,emod_nonneg->c2l
open PySem.SeqAt renaming EqAt->c0C,RcNeAt->c1k,RcAt->c2p
open List.Pairwise renaming nil->c0F
open Prod renaming fst->c0G
open True renaming intro->c0O
open List.cons renaming injEq->c0Y
open Nat.succ renaming inj->c1n
open Or renaming inr->c2c,inl->c2L
open PySem.StrLaws renaming glued_eq_join->c2f
open PySem.Shared renaming asleep_of_life->c2k
open Sum.inr renaming inj->c2v
open PySem.SeqAt.EqAt renaming int_str->c2E,str_int->c2F
open PySem.Code renaming isCaller->c2G,isFrame->c3b,frames->c3X
open And renaming intro->c2M
open PySem.Around renaming under->c3a
open PySem.Walks renaming strAscii->c3B
open PySem.Manifest renaming find?->c3C
open PySem.Heap.Ns renaming new->c3Y
open Prod.mk renaming inj->c3Z
set_option Elab.async false
set_option linter.all false
set_option maxRecDepth 100000
noncomputable abbrev VPR:=PySem.Value->PySem.Shared->Prop
noncomputable abbrev SOV:=PySem.Str->Option PySem.Value
noncomputable abbrev PNS:=List (PySem.Addr×PySem.Obj)
noncomputable abbrev AOV:=Array (Option PySem.Value)
noncomputable abbrev OVA:=Option PySem.Value
noncomputable abbrev LLI:=List (List Int)
noncomputable abbrev LSI:=List Int
noncomputable abbrev LSS:=List PySem.Str
noncomputable abbrev LSV:=List PySem.Value
noncomputable abbrev LSE:=List PySem.Expr
namespace L2
open PySem PySem.Spec PyProof.Rows
noncomputable abbrev Key:=Sum Int Str
noncomputable def a7M:Key->b8g->Bool
 |.inl k,v=>c3U k v
 |.inr x,v=>c3H x v
noncomputable def keyH(w:b8F):Key->Int
 |.inl k=>hashInt k
 |.inr x=>hashStr w x
theorem a0B:∀{k:Key} {v:b8g},a7M k v=true->(∃i t,k=c2O i/\v=c0H i t)\/(∃x t,k=c0o x/\v=c2D x t)
 | .inl i,v,h=>by
   obtain⟨t,e⟩:=Value.isInt_shape (k:=i) (v:=v) h;exact .inl ⟨i,t,rfl,e⟩
 | .inr x,v,h=>by
   obtain⟨t,e⟩:=Value.isStrOf_shape (x:=x) (v:=v) h;exact .inr ⟨x,t,rfl,e⟩
theorem b0L(i:Int)(t:Tok):a7M (.inl i) (.int i t)=true:=by simp[a7M,c3U]
theorem b0K(x:Str)(t:Tok):a7M (.inr x) (.str x t)=true:=by simp[a7M,c3H]
theorem b6D(a b:Int):decide ((c2O a:Key)=c2O b)=(a==b):=by
 by_cases e:a=b
 ·subst e;simp
 ·have h:¬(c2O a:Key)=c2O b:=fun q=>e (Sum.inl.inj q);rw[decide_eq_false h];exact(beq_eq_false_iff_ne.mpr e).symm
theorem b6A(a b:Str):decide ((c0o a:Key)=c0o b)=decide (a=b):=by
 by_cases e:a=b
 ·subst e;simp
 ·have h:¬(c0o a:Key)=c0o b:=fun q=>e (c2v q);rw[decide_eq_false h,decide_eq_false e]
theorem b6C(a:Int)(b:Str):decide ((c2O a:Key)=c0o b)=false:=decide_eq_false (fun q=>nomatch q)
theorem b6B(a:Str)(b:Int):decide ((c0o a:Key)=c2O b)=false:=decide_eq_false (fun q=>nomatch q)
noncomputable def a0H(prog:b8n)(w:b8F):PySem.KeyKind prog w Key where
 is:=a7M
 hash:=keyH w
 inj:=fun v a b ha hb=>by
  rcases a0B ha with ⟨i,t,rfl,rfl⟩|⟨x,t,rfl,rfl⟩
  ·rcases a0B hb with ⟨j,u,rfl,e⟩|⟨y,u,rfl,e⟩
   ·injection e with e1 _;rw[e1]
   ·exact nomatch e
  ·rcases a0B hb with ⟨j,u,rfl,e⟩|⟨y,u,rfl,e⟩
   ·exact nomatch e
   ·injection e with e1 _;rw[e1]
 byValue:=fun k v h=>by
  rcases a0B h with ⟨i,t,rfl,rfl⟩|⟨x,t,rfl,rfl⟩<;>rfl
 pyHash:=fun hv h=>by
  rcases a0B hv with ⟨i,t,rfl,rfl⟩|⟨x,t,rfl,rfl⟩
  ·exact wpAny_pyHash_int h
  ·exact wpAny_pyHash_str h
 eqBool:=fun hu hv h=>by
  rcases a0B hu with ⟨i,t,rfl,rfl⟩|⟨x,t,rfl,rfl⟩
  ·rcases a0B hv with ⟨j,u,rfl,rfl⟩|⟨y,u,rfl,rfl⟩
   ·rw[b6D] at h;exact wpAny_eqBool_int h
   ·rw[b6C] at h;exact c2E i t y u _ _ _ _ h
  ·rcases a0B hv with ⟨j,u,rfl,rfl⟩|⟨y,u,rfl,rfl⟩
   ·rw[b6B] at h;exact c2F x t j u _ _ _ _ h
   ·rw[b6A] at h;exact wpAny_eqBool_str h
 «strs»:=fun k x t v h=>by
  rcases a0B h with ⟨i,u,rfl,e⟩|⟨y,u,rfl,e⟩
  ·exact nomatch e
  ·injection e with e1 _;subst e1;cases v<;>rfl
theorem a9n(prog:b8n)(w:b8F)(k:Key)(v:b8g):(a0H prog w).is k v=a7M k v:=rfl
theorem a7J(prog:b8n)(w:b8F)(i:Int)(t:Tok):(a0H prog w).is (.inl i) (.int i t)=true:=b0L i t
theorem a7I(prog:b8n)(w:b8F)(x:Str)(t:Tok):(a0H prog w).is (.inr x) (.str x t)=true:=b0K x t
inductive V where
 |non|bl (b:Bool)|int (i:Int)|str (x:Str)|byt (b:Array UInt8)|flt (b:UInt64)|ref (a:Addr)|ty (n:String)
 deriving DecidableEq
noncomputable def RelV:V->b8g->Prop
 |.non,u=>u=b8W
 |.bl b,u=>u=c0z b
 |.int i,u=>∃t,u=c0H i t
 |.str x,u=>∃t,u=c2D x t
 |.byt b,u=>∃t,u=c3V b t
 |.flt b,u=>∃t,u=c3W b t
 |.ref a,u=>u=b8z a
 |.ty n,u=>u=c0N n
noncomputable abbrev Vals:List V->LSV->Prop:=Paired RelV
theorem Vals.length{xs:List V}{us:LSV}(r:Vals xs us):xs.length=us.length:=Paired.length r
theorem Vals.get:∀{xs:List V} {us:LSV} {i:Nat} {x:V},Vals xs us->xs[i]?=some x->∃u,us[i]?=some u/\RelV x u
 |_,_,_,_,.nil,e=>by simp at e
 |_,_,0,_,.cons r _,e=>by simp at e;subst e;exact⟨_,rfl,r⟩
 | _,_,i+1,x,.cons _ t,e=>by
   obtain⟨u,h1,h2⟩:=Vals.get (i:=i) (x:=x) t (by simpa using e);exact⟨u,by simpa using h1,h2⟩
theorem Vals.set{x:V}{u:b8g}(r:RelV x u):∀{xs:List V} {us:LSV} (i:Nat),Vals xs us->Vals (xs.set i x) (us.set i u)
 |_,_,_,.nil=>.nil
 |_,_,0,.cons _ t=>.cons r t
 |_,_,i+1,.cons q t=>.cons q (Vals.set r i t)
theorem Vals.append:∀{xs ys:List V} {us ws:LSV},Vals xs us->Vals ys ws->Vals (xs++ys) (us++ws)
 |_,_,_,_,.nil,s=>s
 |_,_,_,_,.cons r t,s=>.cons r (Vals.append t s)
theorem Vals.take:∀{xs:List V} {us:LSV} (n:Nat),Vals xs us->Vals (xs.take n) (us.take n)
 |_,_,0,_=>.nil
 |_,_,_+1,.nil=>.nil
 |_,_,n+1,.cons r t=>.cons r (Vals.take n t)
theorem Vals.drop:∀{xs:List V} {us:LSV} (n:Nat),Vals xs us->Vals (xs.drop n) (us.drop n)
 |_,_,0,r=>r
 |_,_,_+1,.nil=>.nil
 |_,_,n+1,.cons _ t=>Vals.drop n t
noncomputable def RelO:Option V->OVA->Prop
 |some v,some u=>RelV v u
 |none,none=>True
 |_,_=>False
noncomputable def KV{κ:Type}:List (κ×V)->List (κ×b8g)->Prop:=Paired fun(p:κ×V) (q:κ×b8g)=>p.1=q.1/\RelV p.2 q.2
noncomputable def kV:Key->V
 |.inl i=>.int i
 |.inr x=>.str x
inductive HO where
 /-- a list -/
 |lst (xs:List V)
 /-- a tuple (never changes) -/
 |tup (xs:List V)
 /-- a dict whose keys are ints and texts;one whose keys are tuples of ints and texts (the empty one is both) -/
 |dK (kvs:List (Key×V))|dT (kvs:List (List Key×V))
 /-- a set of ints: its members,its size -/
 |set (S:Int->Bool) (n:Nat)
 /-- an instance of the class at C,its dict at dx,its attributes -/
 |ins (C dx:Addr) (fs:List (Str×V))
 /-- the dict of the instance at x -/
 |own (x:Addr)
 /-- the dict of an exception -/
 |xd (fs:List (Str×V))
 /-- a bound method,f of x -/
 |met (f x:Addr)
 /-- a range object lo,lo+1,.. below hi -/
 |rng (lo hi:Int)
 /-- a thing that is known to the object (the script;a dict while a loop walks it): read,never written while it is so -/
 |frz (o:Obj) (u:HO)
 /-- a code object's table -/
 |tbl (ps:Array b8g)
 /-- any other thing,by what is true of its one object (a def of one's own: SetO a S n:=HO.ext fun h=>..) -/
 |ext (φ:Heap->Prop)
noncomputable abbrev Hp:=Addr->Option HO
noncomputable def a2g(h:Heap)(a:Addr)(items:Array b8g):Prop:=∃o,h.get? a=some o/\o.cls=.type "tuple"/\o.dict=none/\∃n,o.data=.seq items n
theorem a2g.t{h:Heap}{a:Addr}{items:Array b8g}(x:a2g h a items):IsTup h a items:=let ⟨o,e,c,_,n,d⟩:=x;⟨o,e,c,n,d⟩
theorem a2g.lt{h:Heap}{a:Addr}{items:Array b8g}(x:a2g h a items):a<h.objs.size:=x.t.lt
theorem a2g.new(h:Heap)(items:Array b8g):a2g (h.push { cls:=.type "tuple",data:=.seq items }) h.objs.size items:=⟨_,b8A _ rfl,rfl,rfl,0,rfl⟩
noncomputable def upd(H:Hp)(a:Addr)(o:HO):Hp:=fun b=>if b=a then some o else H b
theorem a0y{H:Hp}{a:Addr}{o:HO}:upd H a o a=some o:=by unfold upd;rw[if_pos rfl]
theorem a0k{H:Hp}{a b:Addr}{o:HO}(h:b≠a):upd H a o b=H b:=by unfold upd;rw[if_neg h]
theorem b7G{H:Hp}{a b:Addr}{o u:HO}(h:H a=some o)(h':H b=some u)(d:o≠u):a≠b:=by
 intro e;subst e;rw[h] at h';exact d (b8s h')
theorem a0o{H:Hp}{a b:Addr}{o:HO}(h:H a=some o)(h':H b=none):a≠b:=by
 intro e;subst e;rw[h] at h';cases h'
section
variable(P:b8n)(w:b8F)
noncomputable def a0Y(H:Hp)(h:Heap)(a:Addr):HO->Prop
 |.lst xs=>xs.length<=sizeLine/\∃(its:LSV) (n:Nat),Vals xs its/\h.get? a=some { cls:=.type "list",data:=.seq its.toArray n }
 |.tup xs=>xs.length<=sizeLine/\∃its:LSV,Vals xs its/\a2g h a its.toArray
 |.dK kvs=>kvs.length<=sizeLine/\(a==sysModules)=false/\∃vs,KV kvs vs/\h.DictOf (a0H P w) a vs
 | .dT kvs=>kvs.length<=sizeLine/\(a==sysModules)=false/\∃xs:List (List Key×Addr×b8g),
   Paired (fun(p:List Key×V) (q:List Key×Addr×b8g)=>p.1=q.1/\H q.2.1=some (.tup (p.1.map kV))/\RelV p.2 q.2.2) kvs xs /\
   ∃o es ep,h.get? a=some o/\o.ExactDict/\o.data=.dict es ep/\es.toList=xs.map (entryOfKey (tupleKind (a0H P w)))/\(xs.map (·.1)).Nodup
 |.set S n=>h.SetOf (intKind P w) a S n
 | .ins C dx fs=>H dx=some (.own a)/\fs.length<=1000/\dx≠a/\h.get? a=some (PySem.W.instObj C dx) /\
   ∃mA,h.Ns1 dx mA/\(∀f,RelO (fs.lookup f) (mA f))/\PySem.Within mA (fs.map (·.1))
 |.own _=>∃o,h.get? a=some o
 |.xd fs=>∃mA,h.Ns1 a mA/\∀f,RelO (fs.lookup f) (mA f)
 |.rng lo hi=>∃t u v,h.get? a=some { cls:=.type "range",data:=.fields #[.int lo t,.int hi u,.int 1 v] }
 |.frz o u=>h.get? a=some o/\a0Y H h a u
 |.tbl ps=>h.get? a=some { cls:=.none,data:=.fields ps }
 |.met f x=>h.get? a=some (PySem.W.methodObj (.ref f) (.ref x))
 |.ext φ=>φ h/\(∃o,h.get? a=some o)/\∀h1 h2:Heap,φ h1->(∀o,h1.get? a=some o->h2.get? a=some o)->φ h2
noncomputable def HOk(H:Hp)(h:Heap):Prop:=∀a o,H a=some o->a0Y P w H h a o
end
section
variable{P:b8n}{w:b8F}{H H':Hp}{h h':Heap}{a:Addr}{o:HO}
theorem a0Y.lt(x:a0Y P w H h a o):a<h.objs.size:=by
 cases o with
 |lst xs=>obtain⟨_,_,_,_,e⟩:=x;exact b8j e
 |tup xs=>obtain⟨_,_,_,p⟩:=x;exact p.lt
 |dK kvs=>obtain⟨_,_,_,_,o,_,_,e,_⟩:=x;exact b8j e
 |dT kvs=>obtain⟨_,_,_,_,o,_,_,e,_⟩:=x;exact b8j e
 |set S n=>obtain⟨o,_,_,_,e,_⟩:=x;exact b8j e
 |ins C dx fs=>obtain⟨_,_,_,e,_⟩:=x;exact b8j e
 |own y=>obtain⟨_,e⟩:=x;exact b8j e
 |xd fs=>obtain⟨_,⟨_,_,_,e,_⟩,_⟩:=x;exact b8j e
 |rng lo hi=>obtain⟨_,_,_,e⟩:=x;exact b8j e
 |frz ob u=>obtain⟨e,_⟩:=x;exact b8j e
 |tbl ps=>exact b8j (show h.get? a=some _ from x)
 |met f y=>exact b8j (show h.get? a=some _ from x)
 |ext φ=>obtain⟨_,⟨_,e⟩,_⟩:=x;exact b8j e
theorem Paired.mapP{α β:Type}{F G:α->β->Prop}:∀{l₁:List α} {l₂:List β},Paired F l₁ l₂->(∀a b,F a b->G a b)->Paired G l₁ l₂
 |_,_,.nil,_=>.nil
 |_,_,.cons r t,f=>.cons (f _ _ r) (Paired.mapP t f)
theorem a0Y.stay(x:a0Y P w H h a o)(k:∀b u,(b=a\/H b=some (.own a))->h.get? b=some u->h'.get? b=some u)
  (ho:∀b,H b=some (.own a)->H' b=some (.own a)) (ht:∀b xs,H b=some (.tup xs)->H' b=some (.tup xs)):a0Y P w H' h' a o:=by
 induction o with
 |lst xs=>obtain⟨z,its,n,r,e⟩:=x;exact⟨z,its,n,r,k _ _ (.inl rfl) e⟩
 |tup xs=>obtain⟨z,its,r,ob,e,c⟩:=x;exact⟨z,its,r,ob,k _ _ (.inl rfl) e,c⟩
 |dK kvs=>obtain⟨z,y,vs,r,ob,es,ep,e,c⟩:=x;exact⟨z,y,vs,r,ob,es,ep,k _ _ (.inl rfl) e,c⟩
 | dT kvs =>
   obtain⟨z,y,xs,r,ob,es,ep,e,c⟩:=x;exact⟨z,y,xs,Paired.mapP r fun p q z=>⟨z.1,ht _ _ z.2.1,z.2.2⟩,ob,es,ep,k _ _ (.inl rfl) e,c⟩
 |set S n=>obtain⟨ob,es,ep,t,e,c⟩:=x;exact⟨ob,es,ep,t,k _ _ (.inl rfl) e,c⟩
 | ins C dx fs =>
   obtain⟨d,z,ne,e,mA,⟨od,es,ep,e2,c⟩,r⟩:=x;exact⟨ho _ d,z,ne,k _ _ (.inl rfl) e,mA,⟨od,es,ep,k _ _ (.inr d) e2,c⟩,r⟩
 |own y=>obtain⟨ob,e⟩:=x;exact⟨ob,k _ _ (.inl rfl) e⟩
 |xd fs=>obtain⟨mA,⟨od,es,ep,e,c⟩,r⟩:=x;exact⟨mA,⟨od,es,ep,k _ _ (.inl rfl) e,c⟩,r⟩
 |rng lo hi=>obtain⟨t,u,v,e⟩:=x;exact⟨t,u,v,k _ _ (.inl rfl) e⟩
 |frz ob u ih=>obtain⟨e,q⟩:=x;exact⟨k _ _ (.inl rfl) e,ih q⟩
 | tbl ps =>
   have e:h.get? a=some { cls:=.none,data:=.fields ps }:=x;show h'.get? a=some { cls:=.none,data:=.fields ps };exact k a _ (.inl rfl) e
 | met f y =>
   have e:h.get? a=some (PySem.W.methodObj (.ref f) (.ref y)):=x;show h'.get? a=some (PySem.W.methodObj (.ref f) (.ref y));exact k a _ (.inl rfl) e
 |ext φ=>obtain⟨p,⟨o,e⟩,st⟩:=x;exact⟨st _ _ p fun o q=>k _ _ (.inl rfl) q,⟨o,k _ _ (.inl rfl) e⟩,st⟩
theorem HOk.lt(x:HOk P w H h)(e:H a=some o):a<h.objs.size:=(x a o e).lt
theorem HOk.fresh(x:HOk P w H h)(e:h.objs.size<=a):H a=none:=by
 cases q:H a with
 |none=>rfl
 |some u=>exact absurd (b8c (x.lt q) e) (b9a _)
theorem HOk.kept(x:HOk P w H h)(k:∀b u,h.get? b=some u->h'.get? b=some u):HOk P w H h':=fun a o e =>
 (x a o e).stay (fun b u _ q=>k b u q) (fun _ q=>q) fun _ _ q=>q
theorem HOk.laid(x:HOk P w H h)(k:∀b u,h.get? b=some u->h'.get? b=some u)(hp:h.objs.size<=a)(new:a0Y P w (upd H a o) h' a o):HOk P w (upd H a o) h':=fun b u e=>by
 have hn:=x.fresh hp;by_cases hb:b=a
 ·subst hb;rw[a0y] at e;cases e;exact new
 ·rw[a0k hb] at e;exact(x b u e).stay (fun c v _ q=>k c v q) (fun c q=>by rw[a0k (a0o q hn)];exact q) fun c xs q=>by rw[a0k (a0o q hn)];exact q
end
noncomputable def Rd(H:Hp)(a:Addr)(u:HO):Prop:=H a=some u\/∃o,H a=some (.frz o u)
theorem Rd.of{H:Hp}{a:Addr}{u:HO}(h:H a=some u):Rd H a u:=.inl h
theorem Rd.ok{P:b8n}{w:b8F}{H:Hp}{h:Heap}{a:Addr}{u:HO}(r:Rd H a u)(x:HOk P w H h):a0Y P w H h a u:=by
 rcases r with r|⟨o,r⟩
 ·exact x a u r
 ·obtain⟨_,q⟩:=x a _ r;exact q
noncomputable def Mut:Option HO->Prop
 |some (.lst _)=>True
 |some (.dK _)=>True
 |some (.dT _)=>True
 |some (.set _ _)=>True
 |some (.ins _ _ _)=>True
 |some (.ext _)=>True
 |_=>False
section
variable{P:b8n}{w:b8F}{H:Hp}{h h':Heap}{x e:Addr}{o':HO}
theorem HOk.write(ok:HOk P w H h)(mu:Mut (H x))(he:e=x\/H e=some (.own x))(k:∀b u,b≠e->h.get? b=some u->h'.get? b=some u)(heo:∃u,h'.get? e=some u)
  (new:a0Y P w (upd H x o') h' x o'):HOk P w (upd H x o') h':=fun b u q=>by
 have nown:∀c y,H c=some (.own y)->c≠x:=fun c y r z=>by subst z;rw[r] at mu;exact mu
 have ntup:∀c xs,H c=some (.tup xs)->c≠x:=fun c xs r z=>by subst z;rw[r] at mu;exact mu
 by_cases hb:b=x
 ·subst hb;rw[a0y] at q;cases q;exact new
 ·rw[a0k hb] at q;by_cases hbe:b=e
  ·have q':H b=some (.own x):=by
    rcases he with z|z
    ·exact absurd (hbe.trans z) hb
    ·rw[hbe];exact z
   rw[q] at q';cases q';obtain⟨v,hv⟩:=heo;exact⟨v,by rw[hbe];exact hv⟩
  ·refine(ok b u q).stay (fun c v hc r=>k c v ?_ r) (fun c r=>by rw[a0k (nown c b r)];exact r) fun c xs r=>by rw[a0k (ntup c xs r)];exact r
   rcases hc with rfl|hc
   ·exact hbe
   ·rintro rfl;rcases he with z|z
    ·exact nown c b hc z
    ·rw[hc] at z;cases z;exact hb rfl
end
structure Un(fs ex:List Addr)(H H':Hp)(h h':Heap):Prop where
 keep:∀b o,h.get? b=some o->H b=none->b∉fs->b∉ex->h'.get? b=some o
 slot:∀b o,h.get? b=some o->H b=none->b∈fs->b∉ex->∃sl,h'.get? b=some { o with slots:=sl }
 free:∀b o,h.get? b=some o->H b=none->b∉ex->H' b=none
 there:∀b o,h.get? b=some o->b∉ex->∃o',h'.get? b=some o'
 tups:∀b xs,H b=some (.tup xs)->H' b=some (.tup xs)
 frzs:∀b o u,H b=some (.frz o u)->H' b=some (.frz o u)
 tbls:∀b ps,H b=some (.tbl ps)->∃more,H' b=some (.tbl (ps++more))
section
variable{fs fs' ex ex':List Addr}{H H1 H2:Hp}{h h1 h2 h':Heap}{a x e:Addr}{o:HO}
theorem Un.any(u:Un fs ex H H1 h h1){b:Addr}{ob:Obj}(q:h.get? b=some ob)(n:H b=none)(hx:b∉ex):∃sl,h1.get? b=some { ob with slots:=sl }:=by
 by_cases hb:b∈fs
 ·exact u.slot b ob q n hb hx
 ·exact⟨ob.slots,u.keep b ob q n hb hx⟩
theorem Un.kept(k:∀b u,h.get? b=some u->h'.get? b=some u):Un fs ex H H h h' :=
 ⟨fun b ob q _ _ _=>k b ob q,fun b ob q _ _ _=>⟨ob.slots,k b ob q⟩,fun _ _ _ n _=>n,fun b ob q _=>⟨ob,k b ob q⟩,fun _ _ q=>q,fun _ _ _ q=>q,fun _ ps q=>⟨#[],by rw[q];simp⟩⟩
theorem Un.refl:Un fs ex H H h h:=Un.kept fun _ _ q=>q
theorem Un.laid(k:∀b u,h.get? b=some u->h'.get? b=some u)(hp:h.objs.size<=a)(hn:H a=none):Un fs ex H (upd H a o) h h' where
 keep:=fun b u q _ _ _=>k b u q
 slot:=fun b u q _ _ _=>⟨u.slots,k b u q⟩
 free:=fun b u q n _=>by rw[a0k (b8B (b8c (b8j q) hp))];exact n
 there:=fun b u q _=>⟨u,k b u q⟩
 tups:=fun b xs q=>by rw[a0k (a0o q hn)];exact q
 frzs:=fun b u xs q=>by rw[a0k (a0o q hn)];exact q
 tbls:=fun b ps q=>⟨#[],by rw[a0k (a0o q hn),q];simp⟩
theorem Un.write(mu:Mut (H x))(he:e=x\/H e=some (.own x))(k:∀b u,b≠e->h.get? b=some u->h'.get? b=some u)(heo:∃u,h'.get? e=some u):Un fs ex H (upd H x o) h h':=by
 have hx:∀b,H b=none->b≠x:=fun b n z=>by subst z;rw[n] at mu;exact mu
 have hb:∀b,H b=none->b≠e:=fun b n z=>by
  subst z;rcases he with r|r
  ·exact hx b n r
  ·rw[n] at r;cases r
 have hm:∀b u,H b=some u->¬Mut (some u)->b≠x:=fun b u q nm z=>by subst z;rw[q] at mu;exact nm mu
 refine⟨fun b u q n _ _=>k b u (hb b n) q,fun b u q n _ _=>⟨u.slots,k b u (hb b n) q⟩,fun b u q n _=>by rw[a0k (hx b n)];exact n,fun b u q _=>?_,
  fun b xs q=>by rw[a0k (hm b _ q fun z=>z)];exact q,fun b u xs q=>by rw[a0k (hm b _ q fun z=>z)];exact q,fun b ps q=>⟨#[],by rw[a0k (hm b _ q fun z=>z),q];simp⟩⟩
 by_cases hbe:b=e
 ·subst hbe;exact heo
 ·exact⟨u,k b u hbe q⟩
end
noncomputable def trk(h:Heap)(H:Hp):List Addr:=(b9w h.objs.size).filter fun a=>(H a).isSome
noncomputable def hidT(h:Heap)(H:Hp):Heap:=PySem.W.hideAll h (trk h H)
theorem b0X(h:Heap)(H:Hp):(hidT h H).objs.size=h.objs.size:=PySem.W.hideAll_size _ _
theorem b2L{h:Heap}{H:Hp}{b:Addr}{o:Obj}(e:h.get? b=some o)(n:H b=none):(hidT h H).get? b=some o :=
 PySem.W.hideAll_get _ e fun hm=>by
  have q:(H b).isSome=true:=(c3u.mp hm).2;rw[n] at q;simp at q
theorem b4D{h:Heap}{H:Hp}{b:Addr}{o:Obj}(e:(hidT h H).get? b=some o):h.get? b=some o/\H b=none:=by
 have e':h.get? b=some o:=PySem.W.of_hideAll (trk h H) e;refine⟨e',?_⟩;cases q:H b with
 |none=>rfl
 | some x =>
   have hm:b∈trk h H:=List.mem_filter.mpr ⟨c1r.mpr (b8j e'),by simp[q]⟩;have z:(hidT h H).get? b=none:=PySem.W.hideAll_none (trk h H) hm;rw[z] at e;cases e
structure Mod(K:PySem.W.Frag)(mg:SOV)(base:Heap):Prop where
 kin:K.In base
 glob:base.Ns mainGlobals mg
 blt:∃mb,base.Ns builtinsNs mb/\∀x:Str,x≠"__name__"->mb x=bootBuiltins x
 nolimit:base.NoLimit
structure Cx where
 prog:b8n
 w:b8F
 K:PySem.W.Frag
 mg:SOV
 base:Heap
 A:b8w
 N:LSS
 s₀:b7Y
 H₀:Hp
 env:Env
 outer:List Env
 stack:List Env
 ex:List Addr
 fn:Str->Bool
 calm:Bool
 pn:PNS
 xe:VPR
noncomputable def frs(l:List Env):List Addr:=l.filterMap (·.frame)
noncomputable abbrev Cx.fs(X:Cx):List Addr:=frs X.outer
noncomputable def Vis(sc:c0t)(x:Str):Prop:=sc.names.lookup x=some .local\/sc.names.lookup x=some .cell\/sc.names.lookup x=some .free
noncomputable def Loc(sc:c0t)(x:Str):Prop:=sc.names.lookup x=some .local\/sc.names.lookup x=some .cell
noncomputable def Look(env:Env)(h:Heap)(m:SOV)(x:Str)(u:b8g):Prop :=
 (env.kindOf x=some .local/\m x=some u)\/((env.kindOf x=some .cell\/env.kindOf x=some .free)/\∃c,env.cells.lookup x=some c/\h.IsCell c (some u))
structure Cx.Ok(X:Cx):Prop where
 mod:Mod X.K X.mg X.base
 kind:X.env.scope.kind=.function
 glob:X.env.globals=mainGlobals
 blt:X.env.builtins=builtinsNs
 above:X.s₀.heap.objs.size<=X.env.locals
 inj:∀x y c,X.env.cells.lookup x=some c->X.env.cells.lookup y=some c->x=y
 has:∀x,(X.env.kindOf x=some .cell\/X.env.kindOf x=some .free)->∃c,X.env.cells.lookup x=some c
 cab:∀x c,X.fn x=true->X.env.cells.lookup x=some c->X.s₀.heap.objs.size<=c
 hd:X.calm=true->X.A.handled=none
 frames:X.A.frames=some X.stack
 stk:X.stack=X.outer\/(X.stack=X.env::X.outer/\X.env.frame=some X.env.locals)
 exf:∀b∈X.ex,b≠X.env.locals/\∀x c,X.env.cells.lookup x=some c->c≠b
 bs:∀b o,X.base.get? b=some o->X.s₀.heap.get? b=some o/\X.H₀ b=none
 bsz:X.base.objs.size<=X.s₀.heap.objs.size
 noex:∀b o,X.base.get? b=some o->b∉X.ex
 exfs:∀b∈X.ex,b∉X.fs
 funs:X.s₀.heap.FunFrames X.base X.outer
 frf:∀b∈X.fs,X.H₀ b=none
structure Inv(X:Cx)(pins:PNS)(σ:List (Option V))(H:Hp)(s:b7Y):Prop where
 ok:X.Ok
 os:s.os=X.s₀.os
 bare:c1s s.gens
 base:Un X.fs X.ex X.H₀ H X.s₀.heap s.heap
 loc:∃m,s.heap.Ns X.env.locals m/\∀(i:Nat) (x:Str) (v:V),X.N[i]?=some x->σ[i]?=some (some v)->Vis X.env.scope x->∃u,RelV v u/\Look X.env s.heap m x u
 cell:∀x c,X.env.cells.lookup x=some c->∃v,s.heap.IsCell c v
 free:H X.env.locals=none
 freeC:∀x c,X.env.cells.lookup x=some c->H c=none
 pin:∀p∈X.pn++pins,s.heap.get? p.1=some p.2/\H p.1=none/\p.1≠X.env.locals/\p.1∉X.fs/\∀v,p.2.data≠.cell v
 hok:HOk X.prog X.w H s.heap
 len:σ.length=X.N.length
section
variable{X:Cx}{pins:PNS}{σ:List (Option V)}{H H':Hp}{s:b7Y}{h':Heap}
theorem Cx.Ok.nofr(ok:X.Ok){b:Addr}{o:Obj}(e:X.base.get? b=some o):b∉X.fs:=fun hb=>by
 have:=(ok.funs.mem hb).1;rw[e] at this;cases this
theorem Inv.bs(I:Inv X pins σ H s):∀b o,X.base.get? b=some o->s.heap.get? b=some o/\H b=none:=fun b o e =>
 ⟨I.base.keep b o (I.ok.bs b o e).1 (I.ok.bs b o e).2 (I.ok.nofr e) (I.ok.noex b o e),I.base.free b o (I.ok.bs b o e).1 (I.ok.bs b o e).2 (I.ok.noex b o e)⟩
theorem Inv.bk(I:Inv X pins σ H s):∀b o,X.base.get? b=some o->s.heap.get? b=some o:=fun b o e=>(I.bs b o e).1
theorem Inv.mod(I:Inv X pins σ H s):Mod X.K X.mg X.base:=I.ok.mod
theorem Inv.kIn(I:Inv X pins σ H s):X.K.In s.heap:=I.ok.mod.kin.keeps I.bk
theorem Inv.lt(I:Inv X pins σ H s):X.env.locals<s.heap.objs.size:=let ⟨_,hn,_⟩:=I.loc;hn.lt
theorem Inv.sz(I:Inv X pins σ H s):X.s₀.heap.objs.size<=s.heap.objs.size:=b8G I.ok.above (b9X I.lt)
theorem Inv.nofs(I:Inv X pins σ H s){a:Addr}(h:s.heap.objs.size<=a):a∉X.fs:=fun hb=>by
 obtain⟨_,o,ho,_⟩:=I.ok.funs.mem hb;exact absurd (b8c (b8j ho) (b8G I.sz h)) (b9a _)
theorem Inv.cne(I:Inv X pins σ H s):∀x c,X.env.cells.lookup x=some c->c≠X.env.locals:=fun x c e z=>by
 obtain⟨v,o,ho,hd⟩:=I.cell x c e;obtain⟨m,⟨o',es,ep,ho',hd',_⟩,_⟩:=I.loc;rw[z,ho'] at ho;cases ho;rw[hd'] at hd;cases hd
theorem Inv.funs(I:Inv X pins σ H s):s.heap.FunFrames X.base X.outer:=by
 have all:∀(l:List Env),(∀b∈frs l,b∈X.fs)->X.s₀.heap.FunFrames X.base l->s.heap.FunFrames X.base l:=by
  intro l
  induction l with
  |nil=>intro _ _;trivial
  | cons env r ih =>
    intro hs hl;obtain⟨hk,⟨L,o,hf,hn,ho,hd⟩,hr⟩:=hl;have hL:L∈X.fs:=hs L (by unfold frs;rw[b9f,hf];exact b8e);obtain⟨sl,e⟩:=I.base.slot L o ho (I.ok.frf L hL) hL fun z=>I.ok.exfs L z hL;exact⟨hk,⟨L,_,hf,hn,e,hd⟩,ih (fun b hb=>hs b (by unfold frs;rw[b9f,hf];exact b7Z _ hb)) hr⟩
 exact all X.outer (fun _ hb=>hb) I.ok.funs
theorem Inv.stack(I:Inv X pins σ H s):s.heap.FunFrames X.base X.stack:=by
 rcases I.ok.stk with e|⟨e,hf⟩
 ·rw[e];exact I.funs
 ·rw[e];obtain⟨m,hn,_⟩:=I.loc;refine .cons (by rw[I.ok.kind];decide) hf hn ?_ I.funs;exact c2r (b8G I.ok.bsz I.ok.above)
theorem Inv.stkSub(I:Inv X pins σ H s):∀b∈frs X.stack,b∈X.env.locals::X.fs:=fun b hb=>by
 rcases I.ok.stk with e|⟨e,hf⟩
 ·rw[e] at hb;exact b7Z _ hb
 ·rw[e] at hb;unfold frs at hb;rw[b9f,hf] at hb;exact hb
theorem Inv.stkFree(I:Inv X pins σ H s):∀b∈frs X.stack,H b=none:=fun b hb=>by
 rcases b8l.mp (I.stkSub b hb) with e|hb
 ·rw[e];exact I.free
 ·obtain⟨_,o,ho,_⟩:=I.ok.funs.mem hb;exact I.base.free b o ho (I.ok.frf b hb) fun z=>I.ok.exfs b z hb
theorem Inv.step{g':Array c3s}{t':Nat}{d':Drawn}{ch:List Addr}(I:Inv X pins σ H s)
  (hch:∀b∈ch,(b∈X.ex\/X.s₀.heap.objs.size<=b)/\b≠X.env.locals/\(∀x c,X.env.cells.lookup x=some c->c≠b)/\∀p∈X.pn++pins,p.1≠b)
  (keep:∀b o,b≠X.env.locals->b∉X.fs->b∉ch->s.heap.get? b=some o->H b=none->h'.get? b=some o)
  (slot:∀b o,b≠X.env.locals->b∈X.fs->b∉ch->s.heap.get? b=some o->H b=none->∃sl,h'.get? b=some { o with slots:=sl }) (free:∀b o,b∉ch->s.heap.get? b=some o->H b=none->H' b=none)
  (there:∀b o,b∉ch->s.heap.get? b=some o->∃o',h'.get? b=some o')
  (tups:∀b xs,H b=some (.tup xs)->H' b=some (.tup xs)) (frzs:∀b o u,H b=some (.frz o u)->H' b=some (.frz o u)) (tbls:∀b ps,H b=some (.tbl ps)->∃more,H' b=some (.tbl (ps++more)))
  (ns:∀m,s.heap.Ns X.env.locals m->h'.Ns X.env.locals m) (hok:HOk X.prog X.w H' h') (hg:c1s g') :
  Inv X pins σ H' { s with heap:=h',gens:=g',drawn:=d',toks:=t' }:=by
 have neL:∀b o,X.s₀.heap.get? b=some o->b≠X.env.locals:=fun b o e=>b8B (b8c (b8j e) I.ok.above)
 have neC:∀b o,X.s₀.heap.get? b=some o->b∉X.ex->b∉ch:=fun b o e hx hb=>by
  rcases (hch b hb).1 with z|z
  ·exact hx z
  ·exact absurd (b8c (b8j e) z) (b9a _)
 have cellK:∀x c,X.env.cells.lookup x=some c->∀v,s.heap.IsCell c v->h'.IsCell c v:=fun x c e v ⟨o,ho,hd⟩=>by
  have nch:c∉ch:=fun z=>(hch c z).2.2.1 x c e rfl;by_cases hc:c∈X.fs
  ·obtain⟨sl,q⟩:=slot c o (I.cne x c e) hc nch ho (I.freeC x c e);exact⟨_,q,hd⟩
  ·exact⟨o,keep c o (I.cne x c e) hc nch ho (I.freeC x c e),hd⟩
 refine⟨I.ok,I.os,hg,⟨fun b o e n hb hx=>?_,fun b o e n hb hx=>?_,fun b o e n hx=>?_,fun b o e hx=>?_,fun b xs e=>tups b xs (I.base.tups b xs e),fun b o xs e=>frzs b o xs (I.base.frzs b o xs e),fun b ps e=>?_⟩,?_,fun x c e=>?_,?_,fun x c e=>?_,fun p hp=>?_,hok,I.len⟩
 ·exact keep b o (neL b o e) hb (neC b o e hx) (I.base.keep b o e n hb hx) (I.base.free b o e n hx)
 ·obtain⟨sl,e1⟩:=I.base.slot b o e n hb hx;obtain⟨sl',e2⟩:=slot b _ (neL b o e) hb (neC b o e hx) e1 (I.base.free b o e n hx);exact⟨sl',e2⟩
 ·obtain⟨o',e1⟩:=I.base.there b o e hx;exact free b o' (neC b o e hx) e1 (I.base.free b o e n hx)
 ·obtain⟨o',e1⟩:=I.base.there b o e hx;exact there b o' (neC b o e hx) e1
 ·obtain⟨m1,e1⟩:=I.base.tbls b ps e;obtain⟨m2,e2⟩:=tbls b _ e1;exact⟨m1++m2,by rw[e2,Array.append_assoc]⟩
 ·obtain⟨m,hn,hl⟩:=I.loc;refine⟨m,ns m hn,fun i x v e1 e2 e3=>?_⟩;obtain⟨u,r,l⟩:=hl i x v e1 e2 e3;refine⟨u,r,?_⟩;rcases l with l|⟨k,c,e,z⟩
  ·exact .inl l
  ·exact .inr ⟨k,c,e,cellK x c e _ z⟩
 ·obtain⟨v,z⟩:=I.cell x c e;exact⟨v,cellK x c e v z⟩
 ·obtain⟨m,⟨o,_,_,ho,_⟩,_⟩:=I.loc;exact free _ o (fun z=>(hch _ z).2.1 rfl) ho I.free
 ·obtain⟨v,o,ho,hd⟩:=I.cell x c e;exact free c o (fun z=>(hch c z).2.2.1 x c e rfl) ho (I.freeC x c e)
 ·obtain⟨e,n,ne,nf,d⟩:=I.pin p hp;have nch:p.1∉ch:=fun z=>(hch p.1 z).2.2.2 p hp rfl;exact⟨keep p.1 p.2 ne nf nch e n,free p.1 p.2 nch e n,ne,nf,d⟩
theorem Inv.un{t':Nat}(I:Inv X pins σ H s)(u:Un X.fs [] H H' s.heap h')(hok:HOk X.prog X.w H' h'):Inv X pins σ H' { s with heap:=h',toks:=t' }:=by
 obtain⟨m,⟨o,es,ep,ho,r⟩,_⟩:=id I.loc;obtain⟨sl,hL⟩:=u.any ho I.free (by simp)
 exact I.step (g':=s.gens) (d':=s.drawn) (ch:=[]) (fun _ z=>nomatch z) (fun b o _ hb _ e n=>u.keep b o e n hb (by simp)) (fun b o _ hb _ e n=>u.slot b o e n hb (by simp)) (fun b o _ e n=>u.free b o e n (by simp)) (fun b o _ e=>u.there b o e (by simp)) u.tups u.frzs u.tbls (fun m' hm=>by
  obtain⟨o',es',ep',ho',r'⟩:=hm;rw[ho] at ho';cases ho'
  exact⟨_,es',ep',hL,r'⟩) hok I.bare
theorem Inv.call{g':Array c3s}{t':Nat}{d':Drawn}{ch:List Addr}(I:Inv X pins σ H s)(u:Un (frs X.stack) ch H H' s.heap h')(hok:HOk X.prog X.w H' h')(hg:c1s g')
  (hch:∀b∈ch,(b∈X.ex\/X.s₀.heap.objs.size<=b)/\b≠X.env.locals/\(∀x c,X.env.cells.lookup x=some c->c≠b)/\∀p∈X.pn++pins,p.1≠b) :
  Inv X pins σ H' { s with heap:=h',gens:=g',drawn:=d',toks:=t' }:=by
 obtain⟨m,⟨o,es,ep,ho,r⟩,_⟩:=id I.loc;obtain⟨sl,hL⟩:=u.any ho I.free fun z=>(hch _ z).2.1 rfl
 exact I.step (ch:=ch) hch (fun b o hL hb hc e n=>u.keep b o e n (fun z=>(b8l.mp (I.stkSub b z)).elim hL hb) hc) (fun b o _ _ hc e n=>u.any e n hc) (fun b o hc e n=>u.free b o e n hc) (fun b o hc e=>u.there b o e hc) u.tups u.frzs u.tbls (fun m' hm=>by
  obtain⟨o',es',ep',ho',r'⟩:=hm;rw[ho] at ho';cases ho'
  exact⟨_,es',ep',hL,r'⟩) hok hg
theorem Inv.turned{t':Nat}{it:Addr}(I:Inv X pins σ H s)(k:∀b o,b≠it->s.heap.get? b=some o->h'.get? b=some o)(hn:H it=none)(hL:it≠X.env.locals)
  (h1:it∈X.ex\/X.s₀.heap.objs.size<=it) (h2:∀x c,X.env.cells.lookup x=some c->c≠it) (h3:∀p∈X.pn++pins,p.1≠it):Inv X pins σ H { s with heap:=h',toks:=t' }:=by
 have nit:∀b u,H b=some u->b≠it:=fun b u e z=>by rw[z,hn] at e;cases e
 refine I.step (g':=s.gens) (d':=s.drawn) (ch:=[it]) (fun b hb=>?_) (fun b o _ _ hc e _=>k b o (fun z=>hc (by simp[z])) e) (fun b o _ _ hc e _=>⟨o.slots,k b o (fun z=>hc (by simp[z])) e⟩) (fun _ _ _ _ n=>n)
  (fun b o hc e=>⟨o,k b o (fun z=>hc (by simp[z])) e⟩) (fun _ _ e=>e) (fun _ _ _ e=>e) (fun b ps e=>⟨#[],by rw[e];simp⟩) (fun m hm=>?_) (fun b u e=>?_) I.bare
 ·have e:b=it:=by simpa using hb
  subst e;exact⟨h1,hL,h2,h3⟩
 ·obtain⟨o,es,ep,ho,r⟩:=hm;exact⟨o,es,ep,k _ o (b9t hL) ho,r⟩
 ·refine(I.hok b u e).stay (fun c v hc q=>k c v ?_ q) (fun _ q=>q) fun _ _ q=>q;rcases hc with z|z
  ·rw[z];exact nit b u e
  ·exact nit c _ z
theorem Inv.tok(I:Inv X pins σ H s)(t:Nat):Inv X pins σ H { s with toks:=t }:=I.un (h':=s.heap) (t':=t) Un.refl I.hok
theorem Inv.kept{t':Nat}(I:Inv X pins σ H s)(k:∀b u,s.heap.get? b=some u->h'.get? b=some u):Inv X pins σ H { s with heap:=h',toks:=t' }:=I.un (Un.kept k) (I.hok.kept k)
theorem Inv.laid{a:Addr}{o:HO}{t':Nat}(I:Inv X pins σ H s)(k:∀b u,s.heap.get? b=some u->h'.get? b=some u)(hp:s.heap.objs.size<=a)(new:a0Y X.prog X.w (upd H a o) h' a o) :
  Inv X pins σ (upd H a o) { s with heap:=h',toks:=t' }:=I.un (Un.laid k hp (I.hok.fresh hp)) (I.hok.laid k hp new)
theorem Inv.write{x e:Addr}{o:HO}{t':Nat}(I:Inv X pins σ H s)(mu:Mut (H x))(he:e=x\/H e=some (.own x))(k:∀b u,b≠e->s.heap.get? b=some u->h'.get? b=some u)(heo:∃u,h'.get? e=some u)
  (new:a0Y X.prog X.w (upd H x o) h' x o):Inv X pins σ (upd H x o) { s with heap:=h',toks:=t' }:=I.un (Un.write mu he k heo) (I.hok.write mu he k heo new)
theorem Inv.weak{σ':List (Option V)}(I:Inv X pins σ H s)(hl:σ'.length=σ.length)(w:∀(i:Nat) v,σ'[i]?=some (some v)->σ[i]?=some (some v)):Inv X pins σ' H s :=
 ⟨I.ok,I.os,I.bare,I.base,let ⟨m,hn,hl'⟩:=I.loc;⟨m,hn,fun i x v e1 e2 e3=>hl' i x v e1 (w i v e2) e3⟩,I.cell,I.free,I.freeC,I.pin,I.hok,hl.trans I.len⟩
theorem Inv.pins_of{pins':PNS}(I:Inv X pins σ H s)(h:∀p∈pins',s.heap.get? p.1=some p.2/\H p.1=none/\p.1≠X.env.locals/\p.1∉X.fs/\∀v,p.2.data≠.cell v):Inv X pins' σ H s :=
 ⟨I.ok,I.os,I.bare,I.base,I.loc,I.cell,I.free,I.freeC,fun p hp=>(b9F.mp hp).elim (fun z=>I.pin p (b8q _ z)) (h p),I.hok,I.len⟩
theorem a8q{N:LSS}(hN:N.Nodup){i j:Nat}{x:Str}(a:N[i]?=some x)(b:N[j]?=some x):i=j:=by
 obtain⟨h1,e1⟩:=b8C.mp a;obtain⟨h2,e2⟩:=b8C.mp b;exact(List.getElem_inj hN).mp (e1.trans e2.symm)
noncomputable abbrev QXX(X:Cx)(x:Str):Prop:=X.fn x=true\/X.env.scope.names.lookup x=some .local
theorem a9T{M:c0I}{A:b8w}{E:VPR}{i:Nat}{x:Str}{v:V}{u:b8g}{Q:Unit->b7Y->Prop}(I:Inv X pins σ H s)(hN:X.N.Nodup)(hi:X.N[i]?=some x)(hx:Loc X.env.scope x)(r:RelV v u)
  (h:∀s',Inv X pins (σ.set i (some v)) H s'->(∃a,c0q a s.heap s'.heap/\(a=X.env.locals\/X.env.cells.lookup x=some a))->Q () s') (hf:QXX X x:=by first|exact .inl rfl|exact .inr rfl|assumption):wpAny M A (storeName X.env x u) Q E s:=by
 obtain⟨m,hn,hl⟩:=id I.loc
 have hcls:(X.env.scope.kind==.class||(X.env.scope.kind==.module&&X.env.locals != X.env.globals))=false:=by rw[I.ok.kind];rfl
 have hiσ:i<σ.length:=by rw[I.len];exact(b8C.mp hi).1
 have cne:=I.cne
 have tracked:∀{a:Addr} {h':Heap},(∃o,s.heap.get? a=some o/\H a=none)->c0q a s.heap h'->HOk X.prog X.w H h':=fun {a h'} ha hs b ob e=>by
  obtain⟨_,_,hfree⟩:=ha;refine(I.hok b ob e).stay (fun c w' hc q=>(hs.2 c ?_).trans q) (fun _ q=>q) fun _ _ q=>q;rintro rfl;rcases hc with rfl|hc
  ·rw[hfree] at e;cases e
  ·rw[hfree] at hc;cases hc
 rcases hx with hk|hk
 ·refine wpAny_storeName_local hk hn (fun h' hn' hs=>?_) hcls;obtain⟨oL,_,_,hoL,_⟩:=id hn;refine h _ ⟨I.ok,I.os,I.bare,⟨fun b o e n hb hx=>?_,fun b o e n hb hx=>?_,I.base.free,fun b o e hx=>?_,I.base.tups,I.base.frzs,I.base.tbls⟩,⟨_,hn',fun j y v' e1 e2 e3=>?_⟩,fun y c e=>?_,I.free,I.freeC,fun p hp=>?_,tracked ⟨oL,hoL,I.free⟩ hs,by simpa using I.len⟩ ⟨_,hs,.inl rfl⟩
  ·exact(hs.2 b (b8B (b8c (b8j e) I.ok.above))).trans (I.base.keep b o e n hb hx)
  ·obtain⟨sl,e1⟩:=I.base.slot b o e n hb hx;exact⟨sl,(hs.2 b (b8B (b8c (b8j e) I.ok.above))).trans e1⟩
  ·obtain⟨o',e1⟩:=I.base.there b o e hx;exact⟨o',(hs.2 b (b8B (b8c (b8j e) I.ok.above))).trans e1⟩
  ·by_cases hj:j=i
   ·subst hj;rw[hi] at e1;cases e1;rw[b9T hiσ] at e2;cases e2;exact⟨u,r,.inl ⟨hk,by simp⟩⟩
   ·rw[b9D (b9t hj)] at e2;obtain⟨u',r',q⟩:=hl j y v' e1 e2 e3;refine⟨u',r',?_⟩;rcases q with ⟨k,e⟩|⟨k,c,e,z⟩
    ·refine .inl ⟨k,?_⟩;have:y≠x:=fun e=>hj (a8q hN e1 (e▸hi));simp[this,e]
    ·exact .inr ⟨k,c,e,z.sameBut hs (cne y c e)⟩
  ·obtain⟨w',z⟩:=I.cell y c e;exact⟨w',z.sameBut hs (cne y c e)⟩
  ·obtain⟨e,n,ne,nf,d⟩:=I.pin p hp;exact⟨(hs.2 p.1 ne).trans e,n,ne,nf,d⟩
 ·have hfn:X.fn x=true:=by
   rcases hf with z|z
   ·exact z
   ·rw[z] at hk;cases hk
  obtain⟨c,hc⟩:=I.ok.has x (.inl hk);obtain⟨w',z⟩:=I.cell x c hc;refine wpAny_storeName_cell I.ok.kind hk hc z (fun h' hc' hs=>?_);obtain⟨oc,hoc,hocd⟩:=id z;refine h { s with heap:=h' } ⟨I.ok,I.os,I.bare,⟨fun b o e n hb hx=>?_,fun b o e n hb hx=>?_,I.base.free,fun b o e hx=>?_,I.base.tups,I.base.frzs,I.base.tbls⟩,⟨m,hn.sameBut hs (b9t (cne x c hc)),fun j y v' e1 e2 e3=>?_⟩,fun y c' e=>?_,I.free,I.freeC,fun p hp=>?_,tracked ⟨oc,hoc,I.freeC x c hc⟩ hs,by simpa using I.len⟩ ⟨c,hs,.inr hc⟩
  ·exact(hs.2 b (b8B (b8c (b8j e) (I.ok.cab x c hfn hc)))).trans (I.base.keep b o e n hb hx)
  ·obtain⟨sl,e1⟩:=I.base.slot b o e n hb hx;exact⟨sl,(hs.2 b (b8B (b8c (b8j e) (I.ok.cab x c hfn hc)))).trans e1⟩
  ·obtain⟨o',e1⟩:=I.base.there b o e hx;exact⟨o',(hs.2 b (b8B (b8c (b8j e) (I.ok.cab x c hfn hc)))).trans e1⟩
  ·by_cases hj:j=i
   ·subst hj;rw[hi] at e1;cases e1;rw[b9T hiσ] at e2;cases e2;exact⟨u,r,.inr ⟨.inl hk,c,hc,hc'⟩⟩
   ·rw[b9D (b9t hj)] at e2;obtain⟨u',r',q⟩:=hl j y v' e1 e2 e3;refine⟨u',r',?_⟩;rcases q with q|⟨k,c',e,z'⟩
    ·exact .inl q
    ·refine .inr ⟨k,c',e,z'.sameBut hs ?_⟩;rintro rfl;exact hj (a8q hN e1 (I.ok.inj _ _ _ e hc▸hi))
  ·by_cases hcc:c'=c
   ·subst hcc;exact⟨_,hc'⟩
   ·obtain⟨w2,z2⟩:=I.cell y c' e;exact⟨w2,z2.sameBut hs hcc⟩
  ·obtain⟨e,n,ne,nf,d⟩:=I.pin p hp;refine⟨(hs.2 p.1 ?_).trans e,n,ne,nf,d⟩;intro q;rw[q,hoc] at e;have q':oc=p.2:=b8s e;exact d w' (by rw[<- q'];exact hocd)
theorem a5t{M:c0I}{A:b8w}{E:VPR}{i:Nat}{x:Str}{v:V}{u:b8g}{Q:Unit->b7Y->Prop}(I:Inv X pins σ H s)(hN:X.N.Nodup)(hi:X.N[i]?=some x)(hx:Loc X.env.scope x)(r:RelV v u)
  (h:∀s',Inv X pins (σ.set i (some v)) H s'->Q () s') (hf:QXX X x:=by first|exact .inl rfl|exact .inr rfl|assumption):wpAny M A (storeName X.env x u) Q E s :=
 a9T I hN hi hx r (fun s' I' _=>h s' I') hf
theorem Inv.call'{s':b7Y}{ch:List Addr}(I:Inv X pins σ H s)(ho:s'.os=s.os)(u:Un (frs X.stack) ch H H' s.heap s'.heap)(hok:HOk X.prog X.w H' s'.heap)(hg:c1s s'.gens)
  (hch:∀b∈ch,(b∈X.ex\/X.s₀.heap.objs.size<=b)/\b≠X.env.locals/\(∀x c,X.env.cells.lookup x=some c->c≠b)/\∀p∈X.pn++pins,p.1≠b):Inv X pins σ H' s':=by
 obtain⟨h',g',d',t',o'⟩:=s';have e:o'=s.os:=ho;subst e;exact I.call (g':=g') (t':=t') (d':=d') u hok hg hch
end
noncomputable abbrev XK:=b8g->Option Addr->Hp->Prop
noncomputable abbrev St:=List (Option V)
noncomputable abbrev VK:=V->Hp->Prop
noncomputable abbrev TE:=St->Hp->VK->Prop
noncomputable abbrev TT:=St->Hp->(Bool->Hp->Prop)->Prop
noncomputable abbrev TA:=St->Hp->(List V->Hp->Prop)->Prop
structure Ends where
 nx:St->Hp->Prop
 rt:VK
 bk:St->Hp->Prop:=fun _ _=>False
 ct:St->Hp->Prop:=fun _ _=>False
noncomputable abbrev TS:=Ends->St->Hp->Prop
noncomputable def EP(X:Cx)(pins:PNS)(σ:St)(Q:VK)(u:b8g)(s':b7Y):Prop:=∃v H',Inv X pins σ H' s'/\RelV v u/\Q v H'
noncomputable def TP(X:Cx)(pins:PNS)(σ:St)(Q:Bool->Hp->Prop)(b:Bool)(s':b7Y):Prop:=∃H',Inv X pins σ H' s'/\Q b H'
noncomputable def AP(X:Cx)(pins:PNS)(σ:St)(Q:List V->Hp->Prop)(us:LSV)(s':b7Y):Prop:=∃vs H',Inv X pins σ H' s'/\Vals vs us/\Q vs H'
noncomputable def SP(X:Cx)(pins:PNS)(D:Ends)(f:Flow)(s':b7Y):Prop :=
 match f with
 |.next=>∃σ' H',Inv X pins σ' H' s'/\D.nx σ' H'
 |.brk=>∃σ' H',Inv X pins σ' H' s'/\D.bk σ' H'
 |.cont=>∃σ' H',Inv X pins σ' H' s'/\D.ct σ' H'
 |.ret u=>∃v σ' H',Inv X pins σ' H' s'/\RelV v u/\D.rt v H'
noncomputable def PE(X:Cx)(e:Expr)(t:TE):Prop :=
 ∀pins s σ H (Q:VK),Inv X pins σ H s->t σ H Q->wpAny (model X.prog X.w) X.A (eval e X.env) (EP X pins σ Q) X.xe s
noncomputable def PT(X:Cx)(e:Expr)(t:TT):Prop :=
 ∀pins s σ H (Q:Bool->Hp->Prop),Inv X pins σ H s->t σ H Q->wpAny (model X.prog X.w) X.A (isTrue e X.env (eval e X.env)) (TP X pins σ Q) X.xe s
noncomputable def PW(X:Cx)(e:Expr)(t:TT):Prop :=
 ∀(whole:Sem b8g) (pins:PNS) (s:b7Y) (σ:St) (H:Hp) (Q:Bool->Hp->Prop),Inv X pins σ H s->t σ H Q->wpAny (model X.prog X.w) X.A (isTrue e X.env whole) (TP X pins σ Q) X.xe s
theorem PW.pt{X:Cx}{e:Expr}{t:TT}(h:PW X e t):PT X e t:=h _
noncomputable def PA(X:Cx)(es:LSE)(t:TA):Prop :=
 ∀(pos:Pos) (pins:PNS) (s:b7Y) (σ:St) (H:Hp) (Q:List V->Hp->Prop),Inv X pins σ H s->t σ H Q->wpAny (model X.prog X.w) X.A (spliced (backTo pos (starEach es X.env))) (AP X pins σ Q) X.xe s
noncomputable def PS(X:Cx)(st:Stmt)(t:TS):Prop :=
 ∀pins s σ H (D:Ends),Inv X pins σ H s->t D σ H->wpAny (model X.prog X.w) X.A (exec st X.env) (SP X pins D) X.xe s
noncomputable def PSs(X:Cx)(st:List Stmt)(t:TS):Prop :=
 ∀pins s σ H (D:Ends),Inv X pins σ H s->t D σ H->wpAny (model X.prog X.w) X.A (execs st X.env) (SP X pins D) X.xe s
theorem thn{α:Type}{t:Sem α}{Q Q':α->b7Y->Prop}{M:c0I}{A:b8w}{E:VPR}{s:b7Y}(h:wpAny M A t Q E s)(hQ:∀a s,Q a s->Q' a s):wpAny M A t Q' E s:=b8H h hQ fun _ _ x=>x
section
variable{X:Cx}
noncomputable def tVar(i:Nat):TE:=fun σ H Q=>∃v,σ[i]?=some (some v)/\Q v H
noncomputable def tC(v:V):TE:=fun _ H Q=>Q v H
noncomputable abbrev QDD(x:Str):Prop:=(x==("__debug__":Str))=false
theorem b5Y{i:Nat}{x:Str}{pos:Pos}(hN:X.N[i]?=some x)(hv:Vis X.env.scope x)(hd:QDD x:=by decide)(hcd:(x==("__classdict__":Str))=false:=by decide):PE X (.Name x pos) (tVar i):=by
 intro pins s σ H Q I h;obtain⟨v,e,h⟩:=h;obtain⟨m,hn,hl⟩:=I.loc;obtain⟨u,r,l⟩:=hl i x v hN e hv;have fin:EP X pins σ Q u s:=⟨v,H,I,r,h⟩;rcases l with ⟨hk,hm⟩|⟨hk,c,hc,hcell⟩
 ·exact c3E (wpAny_loadName_local I.ok.kind hk hn hm fin) hd
 ·rcases hk with hk|hk
  ·exact c3E (wpAny_loadName_cell I.ok.kind hk hc hcell fin) hd
  ·exact c3E (wpAny_loadName_free I.ok.kind hk hc hcell fin hcd) hd
theorem b6e{i j pos}:PE X (.Constant (.int i) j pos) (tC (.int i)):=fun _ _ _ H _ I h=>wpAny_Constant_int ⟨.int i,H,I.tok _,⟨_,rfl⟩,h⟩
theorem b7y{b j pos}:PE X (.Constant (.bool b) j pos) (tC (.bl b)):=fun _ _ _ H _ I h=>Constant_bool ⟨.bl b,H,I,rfl,h⟩
theorem b6c{j pos}:PE X (.Constant .none j pos) (tC .non):=fun _ _ _ H _ I h=>Constant_none ⟨.non,H,I,rfl,h⟩
theorem b6a{x j pos}:PE X (.Constant (.str x) j pos) (tC (.str x)):=fun _ _ _ H _ I h=>Calls.Constant_str ⟨.str x,H,I.tok _,⟨_,rfl⟩,h⟩
noncomputable def Gl(X:Cx)(x:Str):Prop:=X.env.kindOf x=some .globalImplicit
theorem a1v{E:VPR}{pins:PNS}{s:b7Y}{σ:St}{H:Hp}{x:Str}{u:b8g}{pos:Pos}{Q:VPR}(I:Inv X pins σ H s)(hg:Gl X x)(hm:X.mg x=some u)(h:Q u s)
  (hd:QDD x:=by decide):wpAny (model X.prog X.w) X.A (eval (.Name x pos) X.env) Q E s :=
 c1a I.ok.kind hg (Calls.loadGlobal_global (by rw[I.ok.glob];exact I.mod.glob.keeps I.bk) hm h) hd
theorem a5a{E:VPR}{pins:PNS}{s:b7Y}{σ:St}{H:Hp}{x:Str}{u:b8g}{pos:Pos}{Q:VPR}(I:Inv X pins σ H s)(hg:Gl X x)(hm:X.mg x=none)(hv:bootBuiltins x=some u)(h:Q u s)
  (hn:x≠"__name__":=by decide) (hd:QDD x:=by decide):wpAny (model X.prog X.w) X.A (eval (.Name x pos) X.env) Q E s:=by
 obtain⟨mb,h1,h2⟩:=I.mod.blt;exact c1a I.ok.kind hg (Calls.loadGlobal_builtin (by rw[I.ok.glob];exact I.mod.glob.keeps I.bk) hm (by rw[I.ok.blt];exact h1.keeps I.bk) ((h2 x hn).trans hv) h) hd
theorem a7A{x:Str}{v:V}{u:b8g}{pos:Pos}(hg:Gl X x)(hm:X.mg x=some u)(r:RelV v u)(hd:QDD x:=by decide):PE X (.Name x pos) (tC v) :=
 fun _ _ _ H _ I h=>a1v I hg hm ⟨v,H,I,r,h⟩ hd
variable{a b:Expr}{ta tb:TE}{pos:Pos}
variable{tA tB':TT}{rest:LSE}
noncomputable def tOr(t u:TT):TT:=fun σ H Q=>t σ H fun c H1=>if c=true then Q true H1 else u σ H1 Q
noncomputable def tNot(t:TT):TT:=fun σ H Q=>t σ H fun c H1=>Q (!c) H1
theorem b5R(ha:PT X a tA):PW X (.BoolOp .Or [a] pos) tA:=by
 intro wh pins s σ H Q I h;refine isTrue_or (thn (ha pins s σ H Q I h) fun c s1 e=>?_);cases c with
 |false=>exact isTrue_or_nil e
 |true=>exact e
theorem b7u(ha:PT X a tA)(hb:PW X (.BoolOp .Or (b::rest) pos) tB'):PW X (.BoolOp .Or (a::b::rest) pos) (tOr tA tB'):=by
 intro wh pins s σ H Q I h;refine isTrue_or (thn (ha pins s σ H _ I h) fun c s1 ⟨H1,I1,q1⟩=>?_);cases c with
 |true=>exact⟨H1,I1,q1⟩
 |false=>exact hb wh pins s1 σ H1 Q I1 q1
theorem b5S(ha:PT X a tA):PT X (.UnaryOp .Not a pos) (tNot tA):=by
 intro pins s σ H Q I h;exact isTrue_not (ha pins s σ H (fun c H1=>Q (!c) H1) I h)
noncomputable def b7j(ta tb:TE):TE:=fun σ H Q=>ta σ H fun x H1=>∃c,x=.bl c/\if c=true then tb σ H1 Q else Q (.bl false) H1
theorem b6b{op}{t:TE}(h:PE X a t):PE X (.BoolOp op [a] pos) t:=fun pins s σ H Q I hw=>BoolOp_one (h pins s σ H Q I hw)
theorem b6h(ha:PE X a ta)(hb:PE X (.BoolOp .And (b::rest) pos) tb):PE X (.BoolOp .And (a::b::rest) pos) (b7j ta tb):=by
 intro pins s σ H Q I h;refine BoolOp_and (thn (ha pins s σ H _ I h) fun v s1 ⟨x,H1,I1,r1,q1⟩=>?_);obtain⟨c,rfl,q1⟩:=q1;cases r1;refine b8X ?_;cases c with
 |true=>exact hb pins s1 σ H1 Q I1 q1
 |false=>exact⟨.bl false,H1,I1,rfl,q1⟩
noncomputable def tIf(t:TT)(ta tb:TE):TE:=fun σ H Q=>t σ H fun c H1=>if c=true then ta σ H1 Q else tb σ H1 Q
theorem b2l{c:Expr}(hc:PT X c tA)(ha:PE X a ta)(hb:PE X b tb):PE X (.IfExp c a b pos) (tIf tA ta tb):=by
 intro pins s σ H Q I h;refine wpAny_IfExp (thn (hc pins s σ H _ I h) fun d s1 ⟨H1,I1,q1⟩=>?_);cases d with
 |true=>exact ha pins s1 σ H1 Q I1 q1
 |false=>exact hb pins s1 σ H1 Q I1 q1
end
noncomputable def SqL(K:PySem.W.Frag)(H:Hp)(a:Addr)(xs:List V):Prop :=
 Rd H a (.lst xs) \/
  ∃(o:Obj) (its:Array b8g) (n:Nat),K.lookup a=some o/\o.cls=.type "list"/\o.dict=none/\o.data=.seq its n/\its.size<=sizeLine/\Vals xs its.toList
noncomputable def SqT(K:PySem.W.Frag)(H:Hp)(a:Addr)(xs:List V):Prop :=
 Rd H a (.tup xs) \/
  ∃(o:Obj) (its:Array b8g) (n:Nat),K.lookup a=some o/\o.cls=.type "tuple"/\o.dict=none/\o.data=.seq its n/\its.size<=sizeLine/\Vals xs its.toList
noncomputable def absV:b8g->Option V
 |.none=>some .non
 |.bool b=>some (.bl b)
 |.int i _=>some (.int i)
 |.str x _=>some (.str x)
 |.bytes b _=>some (.byt b)
 |.float b _=>some (.flt b)
 |.ref a=>some (.ref a)
 |.type n=>some (.ty n)
 |_=>none
theorem RelV.abs{x:V}{u:b8g}(r:RelV x u):absV u=some x:=by
 cases x with
 |non=>cases r;rfl
 |bl _=>cases r;rfl
 |int _=>obtain⟨t,rfl⟩:=r;rfl
 |str _=>obtain⟨t,rfl⟩:=r;rfl
 |byt _=>obtain⟨t,rfl⟩:=r;rfl
 |flt _=>obtain⟨t,rfl⟩:=r;rfl
 |ref _=>cases r;rfl
 |ty _=>cases r;rfl
theorem RelV.inj{x y:V}{u:b8g}(r:RelV x u)(q:RelV y u):x=y:=b8s (r.abs.symm.trans q.abs)
theorem Vals.inj:∀{xs ys:List V} {us:LSV},Vals xs us->Vals ys us->xs=ys
 |_,_,_,.nil,.nil=>rfl
 |_,_,_,.cons r t,.cons r' t'=>by rw[r.inj r',Vals.inj t t']
section
variable{X:Cx}{pins:PNS}{σ:St}{H:Hp}{s:b7Y}{a:Addr}{xs ys:List V}
theorem SqL.of{K:PySem.W.Frag}(h:H a=some (.lst xs)):SqL K H a xs:=.inl (.inl h)
theorem SqT.of{K:PySem.W.Frag}(h:H a=some (.tup xs)):SqT K H a xs:=.inl (.inl h)
theorem Inv.list(I:Inv X pins σ H s)(h:SqL X.K H a xs):∃its:LSV,Vals xs its/\PlainL s.heap a its.toArray/\xs.length<=sizeLine:=by
 rcases h with h|⟨o,its,n,hk,hc,hd,hs,hz,r⟩
 ·obtain⟨z,its,n,r,e⟩:=h.ok I.hok;exact⟨its,r,⟨_,n,e,rfl,rfl,rfl⟩,z⟩
 ·refine⟨its.toList,r,⟨o,n,I.kIn a o hk,hc,hd,by simpa using hs⟩,?_⟩;have e:=r.length;simp only[b9g] at e;lia
theorem Inv.tuple(I:Inv X pins σ H s)(h:SqT X.K H a xs):∃its:LSV,Vals xs its/\IsTup s.heap a its.toArray/\xs.length<=sizeLine:=by
 rcases h with h|⟨o,its,n,hk,hc,hd,hs,hz,r⟩
 ·obtain⟨z,its,r,p⟩:=h.ok I.hok;exact⟨its,r,p.t,z⟩
 ·refine⟨its.toList,r,⟨o,I.kIn a o hk,hc,n,by simpa using hs⟩,?_⟩;have e:=r.length;simp only[b9g] at e;lia
theorem Inv.list_inj(I:Inv X pins σ H s)(h:SqL X.K H a xs)(h':SqL X.K H a ys):xs=ys:=by
 obtain⟨its,r,⟨o,n,e,_,_,d⟩,_⟩:=I.list h;obtain⟨its',r',⟨o',n',e',_,_,d'⟩,_⟩:=I.list h';rw[e] at e';cases e';rw[d] at d';injection d' with d1 _;have:its=its':=by simpa using congrArg c3M d1
 subst this;exact r.inj r'
theorem Inv.tuple_inj(I:Inv X pins σ H s)(h:SqT X.K H a xs)(h':SqT X.K H a ys):xs=ys:=by
 obtain⟨its,r,⟨o,e,_,n,d⟩,_⟩:=I.tuple h;obtain⟨its',r',⟨o',e',_,n',d'⟩,_⟩:=I.tuple h';rw[e] at e';cases e';rw[d] at d';injection d' with d1 _;have:its=its':=by simpa using congrArg c3M d1
 subst this;exact r.inj r'
end
noncomputable abbrev Cx.wish(X:Cx)(E:VPR):Cx:={ X with xe:=E }
noncomputable abbrev Cx.nox(X:Cx):Cx:=X.wish fun _ _=>False
theorem Cx.Ok.wish{X:Cx}(ok:X.Ok)(E:VPR):(X.wish E).Ok :=
 ⟨ok.mod,ok.kind,ok.glob,ok.blt,ok.above,ok.inj,ok.has,ok.cab,ok.hd,ok.frames,ok.stk,ok.exf,ok.bs,ok.bsz,ok.noex,ok.exfs,ok.funs,ok.frf⟩
theorem Cx.Ok.unwish{X:Cx}{E:VPR}(ok:(X.wish E).Ok):X.Ok :=
 ⟨ok.mod,ok.kind,ok.glob,ok.blt,ok.above,ok.inj,ok.has,ok.cab,ok.hd,ok.frames,ok.stk,ok.exf,ok.bs,ok.bsz,ok.noex,ok.exfs,ok.funs,ok.frf⟩
section
variable{X:Cx}{pins:PNS}{σ:St}{H:Hp}{s:b7Y}{E:VPR}
theorem Inv.wish(I:Inv X pins σ H s)(E:VPR):Inv (X.wish E) pins σ H s:=⟨I.ok.wish E,I.os,I.bare,I.base,I.loc,I.cell,I.free,I.freeC,I.pin,I.hok,I.len⟩
theorem Inv.unwish(I:Inv (X.wish E) pins σ H s):Inv X pins σ H s:=⟨I.ok.unwish,I.os,I.bare,I.base,I.loc,I.cell,I.free,I.freeC,I.pin,I.hok,I.len⟩
theorem SP.unwish{D:Ends}{f:Flow}{s':b7Y}(h:SP (X.wish E) pins D f s'):SP X pins D f s':=by
 cases f with
 |next=>obtain⟨σ',H',I,q⟩:=h;exact⟨σ',H',I.unwish,q⟩
 |brk=>obtain⟨σ',H',I,q⟩:=h;exact⟨σ',H',I.unwish,q⟩
 |cont=>obtain⟨σ',H',I,q⟩:=h;exact⟨σ',H',I.unwish,q⟩
 |ret u=>obtain⟨v,σ',H',I,r,q⟩:=h;exact⟨v,σ',H',I.unwish,r,q⟩
theorem PE.nox{e:Expr}{t:TE}(h:PE X.nox e t):PE X e t:=fun pins s σ H Q I hw =>
 b8H (h pins s σ H Q (I.wish _) hw) (fun _ _ ⟨v,H',I',r,q⟩=>⟨v,H',I'.unwish,r,q⟩) fun _ _ z=>b8D z
theorem PT.nox{e:Expr}{t:TT}(h:PT X.nox e t):PT X e t:=fun pins s σ H Q I hw =>
 b8H (h pins s σ H Q (I.wish _) hw) (fun _ _ ⟨H',I',q⟩=>⟨H',I'.unwish,q⟩) fun _ _ z=>b8D z
theorem PSs.nox{st:List Stmt}{t:TS}(h:PSs X.nox st t):PSs X st t:=fun pins s σ H D I hw =>
 b8H (h pins s σ H D (I.wish _) hw) (fun _ _ q=>q.unwish) fun _ _ z=>b8D z
end
section
variable{X:Cx}{st:Stmt}{rest:List Stmt}{t u:TS}{e:Expr}{te:TE}{pos:Pos}
noncomputable def b7c:TS:=fun D σ H=>D.nx σ H
noncomputable def tSeq(t u:TS):TS:=fun D σ H=>t { D with nx:=u D } σ H
theorem b4k:PSs X [] b7c:=fun _ _ σ H _ I h=>b9i ⟨σ,H,I,h⟩
theorem a8n(h1:PS X st t)(h2:PSs X rest u):PSs X (st::rest) (tSeq t u):=by
 intro pins s σ H D I h;refine c1O (thn (h1 pins s σ H { D with nx:=u D } I h) fun f s1 q=>?_);cases f with
 | next =>
   obtain⟨σ',H',I',q⟩:=q;exact h2 pins s1 σ' H' D I' q
 |ret v=>exact q
 |brk=>exact q
 |cont=>exact q
theorem b0k(h1:PS X st t):PSs X [st] t:=by
 intro pins s σ H D I h;refine c1O (thn (h1 pins s σ H D I h) fun f s1 q=>?_);cases f with
 |next=>exact b9i q
 |ret v=>exact q
 |brk=>exact q
 |cont=>exact q
theorem Inv.quiet{pins:PNS}{σ:St}{H:Hp}{s:b7Y}(I:Inv X pins σ H s):interactive X.env=false:=by simp[interactive,I.ok.kind]
noncomputable def b7f(te:TE):TS:=fun D σ H=>te σ H fun _ H1=>D.nx σ H1
theorem b0m(he:PE X e te)(hs:swapsWith e none pos.line X.env=pure false:=by rfl):PS X (.Expr e pos) (b7f te):=by
 intro pins s σ H D I h;exact wpAny_Expr_any (thn (he pins s σ H _ I h) fun v s1 ⟨x,H1,I1,r1,q1⟩=>⟨σ,H1,I1,q1⟩) I.quiet hs
noncomputable def tRet(te:TE):TS:=fun D σ H=>te σ H D.rt
theorem b3o(he:PE X e te):PS X (.Return (some e) pos) (tRet te):=by
 intro pins s σ H D I h;exact wpAny_Return_some (thn (he pins s σ H _ I h) fun v s1 ⟨x,H1,I1,r1,q1⟩=>⟨x,σ,H1,I1,r1,q1⟩)
noncomputable def tIfS(c:TT)(t u:TS):TS:=fun D σ H=>c σ H fun b H1=>if b=true then t D σ H1 else u D σ H1
theorem b5T{c:Expr}{a b:List Stmt}{tc:TT}(hc:PT X c tc)(ha:PSs X a t)(hb:PSs X b u):PS X (.If c a b pos) (tIfS tc t u):=by
 intro pins s σ H D I h;refine wpAny_If (thn (hc pins s σ H _ I h) fun d s1 ⟨H1,I1,q1⟩=>?_);cases d with
 |true=>exact ha pins s1 σ H1 D I1 q1
 |false=>exact hb pins s1 σ H1 D I1 q1
end
noncomputable abbrev TG:=V->St->Hp->(St->Hp->Prop)->Prop
noncomputable def PG(X:Cx)(target:Expr)(t:TG):Prop :=
 ∀ pins s σ H (v:V) (u:b8g) (Q:St->Hp->Prop),Inv X pins σ H s->RelV v u->t v σ H Q ->
   wpAny (model X.prog X.w) X.A (assign target X.env u) (fun _ s'=>∃σ' H',Inv X pins σ' H' s'/\Q σ' H') X.xe s
noncomputable abbrev TSet:=V->V->V->Hp->(Hp->Prop)->Prop
noncomputable def PSet(X:Cx)(t:TSet):Prop :=
 ∀ pins s σ H (o i v:V) (ov iv u:b8g) (Q:Hp->Prop),Inv X pins σ H s->RelV o ov->RelV i iv->RelV v u->t o i v H Q ->
   wpAny (model X.prog X.w) X.A (setItem ov iv u) (fun _ s'=>∃H',Inv X pins σ H' s'/\Q H') X.xe s
section
variable{X:Cx}{pos:Pos}
noncomputable def b2S(i:Nat):TG:=fun v σ H Q=>Q (σ.set i (some v)) H
theorem b0r{i:Nat}{x:Str}(hN:X.N.Nodup)(hi:X.N[i]?=some x)(hx:Loc X.env.scope x)(hf:QXX X x:=by first|exact .inl rfl|exact .inr rfl|assumption):PG X (.Name x pos) (b2S i):=by
 intro pins s σ H v u Q I r h;exact wpAny_assign_Name (a5t I hN hi hx r (fun s' I'=>⟨_,H,I',h⟩) hf)
noncomputable def gSub(to ti:TE)(t:TSet):TG:=fun v σ H Q=>to σ H fun o H1=>ti σ H1 fun i H2=>t o i v H2 fun H3=>Q σ H3
theorem b5X{o i:Expr}{to ti:TE}{t:TSet}(ho:PE X o to)(hi:PE X i ti)(hs:PSet X t)
  (ha:∀v,assign (.Subscript o i pos) X.env v=(do
   let ov <- holding [v] (eval o X.env)
   let iv <- holding [v,ov] (eval i X.env)
   standAt pos
   holding [v,ov,iv] (setItem ov iv v)
   release [v,ov,iv] []):=by intro _;rfl):PG X (.Subscript o i pos) (gSub to ti t):=by
 intro pins s σ H v u Q I r h;rw[ha];refine b8a (b9p (thn (ho pins s σ H _ I h) fun ov s1 ⟨x,H1,I1,r1,q1⟩=>?_));refine b8a (b9p (thn (hi pins s1 σ H1 _ I1 q1) fun iv s2 ⟨y,H2,I2,r2,q2⟩=>?_));refine b8a (b9y (b8a (b9p (thn (hs pins s2 σ H2 x y v ov iv u _ I2 r1 r2 r q2) fun _ s3 ⟨H3,I3,q3⟩=>?_))));exact wpAny_release ⟨σ,H3,I3,q3⟩
noncomputable def tAsg(te:TE)(g:TG):TS:=fun D σ H=>te σ H fun x H1=>g x σ H1 D.nx
theorem b5V{tg e:Expr}{te:TE}{g:TG}(he:PE X e te)(hg:PG X tg g)(hs:swapsWithSole [tg] e pos.line X.env=pure false:=by rfl)(hw:swappedStores [tg] e X.env=pure none:=by rfl)
  (h1:(assignEach [tg] X.env).map (·.2)=[assign tg X.env]:=by rfl):PS X (.Assign [tg] e pos) (tAsg te g):=by
 intro pins s σ H D I h;refine wpAny_Assign_stores (thn (he pins s σ H _ I h) fun v s1 ⟨x,H1,I1,r1,q1⟩=>?_) hs hw;rw[h1];exact thn (hg pins s1 σ H1 x v _ I1 r1 q1) fun _ s2 q=>q
theorem b3n{i:Nat}{x:Str}{e:Expr}{te:TE}{pos':Pos}(hN:X.N.Nodup)(hi:X.N[i]?=some x)(hx:Loc X.env.scope x)(he:PE X e te)(hs:swapsWith e (some (.Name x pos')) pos.line X.env=pure false:=by rfl)(hf:QXX X x:=by first|exact .inl rfl|exact .inr rfl|assumption) :
  PS X (.Assign [.Name x pos'] e pos) (tAsg te (b2S i)):=by
 intro pins s σ H D I h;refine wpAny_Assign_Name (thn (he pins s σ H _ I h) fun v s1 ⟨y,H1,I1,r1,q1⟩=>?_) hs;exact a5t I1 hN hi hx r1 (fun s2 I2=>⟨_,H1,I2,q1⟩) hf
end
section
variable{X:Cx}{pos:Pos}
end
structure It where
 go:Nat->Hp->Prop
 yld:Nat->Hp->V->Hp->Prop
 stop:Nat->Hp->Prop
noncomputable def FpOk(X:Cx)(pins:PNS)(H:Hp)(b:Addr):Prop :=
 H b=none/\b≠X.env.locals/\b∉X.fs/\(b∈X.ex\/X.s₀.heap.objs.size<=b)/\(∀x c,X.env.cells.lookup x=some c->c≠b)/\∀p∈X.pn++pins,p.1≠b
theorem Inv.fpOk{X:Cx}{pins:PNS}{σ:St}{H H':Hp}{s:b7Y}{b:Addr}(I:Inv X pins σ H s)(hb:s.heap.objs.size<=b)(hn:H' b=none):FpOk X pins H' b:=by
 refine⟨hn,b9L (b8c I.lt hb),I.nofs hb,.inr (b8G I.sz hb),fun x c e z=>?_,fun p hp z=>?_⟩
 ·obtain⟨v,q⟩:=I.cell x c e;exact absurd (b8c q.lt (by rw[z];exact hb)) (b9a _)
 ·exact absurd (b8c (b8j (I.pin p hp).1) (by rw[z];exact hb)) (b9a _)
structure Turn(P:b8n)(w:b8F)(K:PySem.W.Frag)(tg:Expr)(J:It)(fp:List Addr)(it:Addr)(tn:Nat->Heap->Prop):Prop where
 mem:it∈fp
 obj:∀i h,tn i h->∀b∈fp,∃o,h.get? b=some o/\∀v,o.data≠.cell v
 keep:∀i h h',tn i h->(∀b∈fp,∀o,h.get? b=some o->h'.get? b=some o)->tn i h'
 item:∀(X:Cx),X.prog=P->X.w=w->X.K=K->X.calm=true->∀(i:Nat) (pins:PNS) (s:b7Y) (σ:St) (H:Hp) (E:VPR),Inv X pins σ H s->(∀b∈fp,FpOk X pins H b)->tn i s.heap->J.go i H ->
  wpAny (model P w) X.A (pyNext (.ref it)) (fun r s1=>∃u,r=some u /\
   wpAny (model P w) X.A (letOwnedTupleGo tg (.ref it) u) (fun _ s2=>∃x H',Inv X pins σ H' s2/\RelV x u/\J.yld i H x H'/\tn (i+1) s2.heap/\∀b∈fp,H' b=none) E s1) E s
 done:∀(X:Cx),X.prog=P->X.w=w->X.K=K->X.calm=true->∀(i:Nat) (pins:PNS) (s:b7Y) (σ:St) (H:Hp) (E:VPR),Inv X pins σ H s->(∀b∈fp,FpOk X pins H b)->tn i s.heap->J.stop i H ->
  wpAny (model P w) X.A (pyNext (.ref it)) (fun r s1=>r=none/\Inv X pins σ H s1) E s
 self:∀(A:b8w) (i:Nat) (s:b7Y) (Q:VPR) (E:VPR),tn i s.heap->Q (.ref it) s->wpAny (model P w) A (pyIter (.ref it)) Q E s
noncomputable abbrev TI:=St->Hp->(It->Hp->Prop)->Prop
noncomputable def PIE(X:Cx)(pins:PNS)(σ:St)(tg:Expr)(R:It->Hp->Prop)(itv:b8g)(s2:b7Y):Prop :=
 ∃(it:Addr) (fp:List Addr) (tn:Nat->Heap->Prop) (J:It) (H':Hp),itv=.ref it/\Inv X pins σ H' s2/\Turn X.prog X.w X.K tg J fp it tn/\tn 0 s2.heap/\(∀b∈fp,FpOk X pins H' b)/\R J H'
noncomputable def PI(X:Cx)(tg iter:Expr)(wi:TI):Prop :=
 ∀ pins s σ H (R:It->Hp->Prop),Inv X pins σ H s->wi σ H R ->
   wpAny (model X.prog X.w) X.A (eval iter X.env) (fun v s1=>wpAny (model X.prog X.w) X.A (pyIter v) (PIE X pins σ tg R) X.xe s1) X.xe s
theorem b2Q{M:c0I}{A:b8w}{E:VPR}{s:b7Y}{tg:Expr}{it:Addr}{u:b8g}{o:Obj}{n:String}{vs:Array b8g}{Q:Unit->b7Y->Prop}(ho:s.heap.get? it=some o)(hc:o.cls=.type n)(hd:o.data=.fields vs)
  (hn:["enumerate","zip","dict_itemiterator","dict_reverseitemiterator","odict_iterator","itertools.zip_longest","itertools.pairwise"].contains n=false) (hQ:Q () s):wpAny M A (letOwnedTupleGo tg (.ref it) u) Q E s:=by
 unfold letOwnedTupleGo
 cases tg<;>first
  |exact b8r hQ
  | (cases u<;>first
    |exact b8r hQ
    | (refine b8a (wpAny_load ho ?_)
       rw[hc,hd]
       show wpAny M A (if (["enumerate","zip","dict_itemiterator","dict_reverseitemiterator","odict_iterator","itertools.zip_longest","itertools.pairwise"].contains n&&vs[0]?==some (rawInt _))=true then _ else _) Q E s
       rw[if_neg (by intro h;rw[hn,b8T] at h;cases h)]
       exact b8r hQ))
noncomputable def Itl(K:PySem.W.Frag)(a:Addr):It :=
 ⟨fun i H=>∃xs x,SqL K H a xs/\xs[i]?=some x,fun i H x H'=>H'=H/\∀xs,SqL K H a xs->xs[i]?=some x,fun i H=>∃xs,SqL K H a xs/\xs.length<=i⟩
noncomputable def Itt(K:PySem.W.Frag)(a:Addr):It :=
 ⟨fun i H=>∃xs x,SqT K H a xs/\xs[i]?=some x,fun i H x H'=>H'=H/\∀xs,SqT K H a xs->xs[i]?=some x,fun i H=>∃xs,SqT K H a xs/\xs.length<=i⟩
noncomputable def Itr(lo:Int)(n:Nat):It:=⟨fun i _=>i<n,fun i H x H'=>H'=H/\x=.int (lo+i),fun i _=>n<=i⟩
theorem a9H{P:b8n}{w:b8F}{K:PySem.W.Frag}{tg:Expr}(a it:Addr):Turn P w K tg (Itl K a) [it] it (fun i h=>h.IsListIter it a i) where
 mem:=by simp
 obj:=fun i h st b hb=>by
  have e:b=it:=by simpa using hb
  subst e;obtain⟨o,e,c,d⟩:=st;exact⟨o,e,fun v z=>by rw[d] at z;cases z⟩
 keep:=fun i h h' st k=>st.at fun o e=>k it (by simp) o e
 item:=by
  intro X hP hw hK hc i pins s σ H E I hf st hg;subst hP hw hK;obtain⟨xs,x,hq,hx⟩:=hg;obtain⟨its,rv,p,hz⟩:=I.list hq;obtain⟨u,hu,ru⟩:=rv.get hx;obtain⟨f0,f1,f2,f3,f4,f5⟩:=hf it (by simp);refine wpAny_pyNext_list_item st p.isList (x:=u) (by simpa using hu) fun h' st' sb=>?_;have I1:Inv X pins σ H { s with heap:=h' }:=I.turned (t':=s.toks) (fun b o hb e=>(sb.2 b hb).trans e) f0 f1 f3 f4 f5;obtain⟨o,e,c,d⟩:=id st';exact⟨u,rfl,b2Q (s:={ s with heap:=h' }) e c d (by decide) ⟨x,H,I1,ru,⟨rfl,fun ys hy=>by rw[I.list_inj hy hq];exact hx⟩,st',fun b hb=>(hf b hb).1⟩⟩
 done:=by
  intro X hP hw hK hc i pins s σ H E I hf st hg;subst hP hw hK;obtain⟨xs,hq,hx⟩:=hg;obtain⟨its,rv,p,hz⟩:=I.list hq;obtain⟨f0,f1,f2,f3,f4,f5⟩:=hf it (by simp);have hl:=rv.length;exact wpAny_pyNext_list_end (I.ok.hd hc) st p.isList (by simp;lia) fun h' eb=>⟨rfl,I.turned (t':=s.toks) (fun b o hb e=>eb b o hb e) f0 f1 f3 f4 f5⟩
 self:=fun _ _ _ _ _ st h=>wpAny_pyIter_listiter st h
theorem a8K{P:b8n}{w:b8F}{K:PySem.W.Frag}{tg:Expr}(a it:Addr):Turn P w K tg (Itt K a) [it] it (fun i h=>h.IsTupleIter it a i) where
 mem:=by simp
 obj:=fun i h st b hb=>by
  have e:b=it:=by simpa using hb
  subst e;obtain⟨o,e,c,d⟩:=st;exact⟨o,e,fun v z=>by rw[d] at z;cases z⟩
 keep:=fun i h h' st k=>st.at fun o e=>k it (by simp) o e
 item:=by
  intro X hP hw hK hc i pins s σ H E I hf st hg;subst hP hw hK;obtain⟨xs,x,hq,hx⟩:=hg;obtain⟨its,rv,p,hz⟩:=I.tuple hq;obtain⟨u,hu,ru⟩:=rv.get hx;obtain⟨f0,f1,f2,f3,f4,f5⟩:=hf it (by simp);refine wpAny_pyNext_tuple_item st (show s.heap.IsTuple a its.toArray from p) (x:=u) (by simpa using hu) fun h' st' sb=>?_;have I1:Inv X pins σ H { s with heap:=h' }:=I.turned (t':=s.toks) (fun b o hb e=>(sb.2 b hb).trans e) f0 f1 f3 f4 f5;obtain⟨o,e,c,d⟩:=id st';exact⟨u,rfl,b2Q (s:={ s with heap:=h' }) e c d (by decide) ⟨x,H,I1,ru,⟨rfl,fun ys hy=>by rw[I.tuple_inj hy hq];exact hx⟩,st',fun b hb=>(hf b hb).1⟩⟩
 done:=by
  intro X hP hw hK hc i pins s σ H E I hf st hg;subst hP hw hK;obtain⟨xs,hq,hx⟩:=hg;obtain⟨its,rv,p,hz⟩:=I.tuple hq;obtain⟨f0,f1,f2,f3,f4,f5⟩:=hf it (by simp);have hl:=rv.length;exact wpAny_pyNext_tuple_end (I.ok.hd hc) st (show s.heap.IsTuple a its.toArray from p) (by simp;lia) fun h' eb=>⟨rfl,I.turned (t':=s.toks) (fun b o hb e=>eb b o hb e) f0 f1 f3 f4 f5⟩
 self:=fun _ _ _ _ _ st h=>wpAny_pyIter_tupleiter st h
theorem a8L{P:b8n}{w:b8F}{K:PySem.W.Frag}{tg:Expr}(it:Addr)(lo:Int)(n:Nat):Turn P w K tg (Itr lo n) [it] it (fun i h=>IsRangeIter h it (lo+(i:Nat)*1) ((n:Int)-(i:Nat)) 1) where
 mem:=by simp
 obj:=fun i h st b hb=>by
  have e:b=it:=by simpa using hb
  subst e
  exact⟨_,st,fun v z=>by
   have z':Data.fields _=Data.cell v:=z
   cases z'⟩
 keep:=fun i h h' st k=>k it (by simp) _ st
 item:=by
  intro X hP hw hK hc i pins s σ H E I hf st hg;subst hP hw hK;obtain⟨f0,f1,f2,f3,f4,f5⟩:=hf it (by simp);have W:=Walks.range (prog:=X.prog) (w:=X.w) (I.ok.hd hc) it lo 1 n;refine W.item i s _ _ hg st fun v h' tk hv st' kk=>?_;obtain⟨t,rfl⟩:=hv;have I1:Inv X pins σ H { s with heap:=h',toks:=tk }:=I.turned (fun b o hb e=>kk b o (by simpa using hb) e) f0 f1 f3 f4 f5;refine⟨_,rfl,b2Q (s:={ s with heap:=h',toks:=tk }) (n:="range_iterator") st' rfl rfl (by decide) ⟨.int (lo+i),H,I1,⟨t,?_⟩,⟨rfl,rfl⟩,st',fun b hb=>(hf b hb).1⟩⟩;rw[Int.mul_one]
 done:=by
  intro X hP hw hK hc i pins s σ H E I hf st hg;subst hP hw hK;obtain⟨f0,f1,f2,f3,f4,f5⟩:=hf it (by simp);exact wpAny_pyNext_range_end (I.ok.hd hc) st (by have:n<=i:=hg;lia) fun h' eb=>⟨rfl,I.turned (t':=s.toks) (fun b o hb e=>eb b o hb e) f0 f1 f3 f4 f5⟩
 self:=fun _ _ _ _ _ st h=>wpAny_pyIter_rangeiter st h
section
variable{X:Cx}{tg:Expr}
theorem b1X{pins:PNS}{σ:St}{H:Hp}{s:b7Y}{R:It->Hp->Prop}{E:VPR}{lo hi:Int}{t u v:Tok}{tk:Nat}(I:Inv X pins σ H s)(h1:-(2^62)<=lo)(h2:lo<2^62)(h3:-(2^62)<=hi)(h4:hi<2^62)
  (q:R (Itr lo (hi-lo).toNat) H):wpAny (model X.prog X.w) X.A (pyIter (.ref s.heap.objs.size)) (PIE X pins σ tg R) E { s with heap:=s.heap.push { cls:=.type "range",data:=.fields #[.int lo t,.int hi u,.int 1 v] },toks:=tk }:=by
 refine wpAny_pyIter_range (IsRange.new ..) (small_one h1 h2 h3 h4) ?_;have I1:Inv X pins σ H { s with heap:=s.heap.push { cls:=.type "range",data:=.fields #[.int lo t,.int hi u,.int 1 v] },toks:=tk }:=I.kept fun b o e=>b8d _ e
 refine⟨(s.heap.push { cls:=.type "range",data:=.fields #[.int lo t,.int hi u,.int 1 v] }).objs.size,[(s.heap.push { cls:=.type "range",data:=.fields #[.int lo t,.int hi u,.int 1 v] }).objs.size],_,_,H,rfl,
  I1.kept (t':=tk) fun b o e=>b8d _ e,a8L _ lo (hi-lo).toNat,?_,fun b hb=>?_,q⟩
 ·have e1:lo+((0:Nat):Int)*1=lo:=by simp
  have e2:(((hi-lo).toNat:Nat):Int)-((0:Nat):Int)=Builtin.Range.rangeSize lo hi 1:=by rw[rangeSize_one];split<;>lia
  show IsRangeIter _ _ (lo+((0:Nat):Int)*1) ((((hi-lo).toNat:Nat):Int)-((0:Nat):Int)) 1;rw[e1,e2];exact b8A _ rfl
 ·have e:b=(s.heap.push { cls:=.type "range",data:=.fields #[.int lo t,.int hi u,.int 1 v] }).objs.size:=by simpa using hb
  subst e;exact I1.fpOk (b8k _) (I1.hok.fresh (b8k _))
noncomputable def b7M(ta:TA):TI:=fun σ H R=>ta σ H fun vs H1=>∃j:Int,vs=[.int j]/\-(2^62)<=j/\j<2^62/\R (Itr 0 j.toNat) H1
theorem b0q{a:Expr}{ta:TA}{p pos:Pos}(hg:Gl X "range")(hm:X.mg "range"=none)(ha:PA X [a] ta)(hs:starEach [a] X.env=[(false,eval a X.env)]:=by rfl):PI X tg (.Call (.Name "range" p) [a] [] pos) (b7M ta):=by
 intro pins s σ H R I h;refine Call_ (a5a I hg hm boot_range (c0Q (thn (ha pos pins s σ H _ I h) fun us s1 ⟨vs,H1,I1,r1,q1⟩=>?_) hs rfl));obtain⟨j,e,q1,q2,q⟩:=q1;subst e;cases r1 with
 | cons r rr =>
   cases rr;obtain⟨t,rfl⟩:=r;exact call_range_1 (b1X I1 (by lia) (by lia) q1 q2 (by simpa using q))
noncomputable def tFor(wi:TI)(g:TG)(tb:TS):TS:=fun D σ H=>wi σ H fun J H1=>∃W:Nat->Nat->St->Hp->Prop,(∃m,W 0 m σ H1)/\∀i m σ H,W i m σ H ->
 (J.stop i H/\D.nx σ H)\/(J.go i H/\∃N:St->Hp->Prop,(∀σ' H',N σ' H'->∃m',m'<m/\W (i+1) m' σ' H')/\∀x H',J.yld i H x H'->g x σ H' fun σ2 H2=>tb { D with nx:=N,ct:=N,bk:=D.nx } σ2 H2)
noncomputable def a2I(fp:List Addr)(h:Heap):PNS:=fp.filterMap fun b=>(h.get? b).map fun o=>(b,o)
theorem a1b{fp:List Addr}{h:Heap}{b:Addr}{o:Obj}(hb:b∈fp)(e:h.get? b=some o):(b,o)∈a2I fp h:=List.mem_filterMap.mpr ⟨b,hb,by rw[e];rfl⟩
theorem b0C{fp:List Addr}{h:Heap}{p:Addr×Obj}(hp:p∈a2I fp h):p.1∈fp/\h.get? p.1=some p.2:=by
 obtain⟨b,hb,e⟩:=List.mem_filterMap.mp hp;cases q:h.get? b with
 |none=>rw[q] at e;cases e
 | some o =>
   rw[q] at e;have e':(b,o)=p:=b8s e;subst e';exact⟨hb,q⟩
theorem Inv.pinned{pins:PNS}{σ:St}{H:Hp}{s:b7Y}{fp:List Addr}(I:Inv X pins σ H s)(hf:∀b∈fp,FpOk X pins H b)(ho:∀b∈fp,∃o,s.heap.get? b=some o/\∀v,o.data≠.cell v):Inv X (pins++a2I fp s.heap) σ H s :=
 I.pins_of fun p hp=>(b9F.mp hp).elim (fun z=>I.pin p (b8i _ z)) fun z=>by
  obtain⟨hb,e⟩:=b0C z;obtain⟨f0,f1,f2,_⟩:=hf p.1 hb;obtain⟨o,e',d⟩:=ho p.1 hb;rw[e] at e';cases e';exact⟨e,f0,f1,f2,d⟩
theorem Inv.unpinned{pins pl:PNS}{σ:St}{H:Hp}{s:b7Y}(I:Inv X (pins++pl) σ H s):Inv X pins σ H s:=I.pins_of fun p hp=>I.pin p (b8i _ (b8q _ hp))
end
noncomputable abbrev R2:=V->V->Hp->VK->Prop
noncomputable def OpR(X:Cx)(f:b8g->b8g->Sem b8g)(r:R2):Prop :=
 ∀ pins s σ H (x y:V) (v u:b8g) (Q:VK),Inv X pins σ H s->RelV x v->RelV y u->r x y H Q ->
   wpAny (model X.prog X.w) X.A (f v u) (EP X pins σ Q) X.xe s
noncomputable def UnR(X:Cx)(f:b8g->Sem b8g)(r:V->Hp->VK->Prop):Prop :=
 ∀ pins s σ H (x:V) (v:b8g) (Q:VK),Inv X pins σ H s->RelV x v->r x H Q ->
   wpAny (model X.prog X.w) X.A (f v) (EP X pins σ Q) X.xe s
noncomputable def a6b(X:Cx)(f:b8g)(r:List V->Hp->VK->Prop):Prop :=
 ∀ pins s σ H (xs:List V) (us:LSV) (Q:VK),Inv X pins σ H s->Vals xs us->r xs H Q ->
   wpAny (model X.prog X.w) X.A (call f us) (EP X pins σ Q) X.xe s
noncomputable def TruR(X:Cx)(r:V->Hp->(Bool->Hp->Prop)->Prop):Prop :=
 ∀ pins s σ H (x:V) (v:b8g) (Q:Bool->Hp->Prop),Inv X pins σ H s->RelV x v->r x H Q ->
   wpAny (model X.prog X.w) X.A (truthy v) (TP X pins σ Q) X.xe s
noncomputable def tOp(r:R2)(ta tb:TE):TE:=fun σ H Q=>ta σ H fun x H1=>tb σ H1 fun y H2=>r x y H2 Q
noncomputable def tUn(r:V->Hp->VK->Prop)(ta:TE):TE:=fun σ H Q=>ta σ H fun x H1=>r x H1 Q
noncomputable def rI(C:Int->Int->Prop)(g:Int->Int->V):R2:=fun x y H Q=>∃i j,x=.int i/\y=.int j/\C i j/\Q (g i j) H
noncomputable def rI0(g:Int->Int->V):R2:=fun x y H Q=>∃i j,x=.int i/\y=.int j/\Q (g i j) H
noncomputable def rU(g:Int->V):V->Hp->VK->Prop:=fun x H Q=>∃i,x=.int i/\Q (g i) H
section
variable{X:Cx}{a b c:Expr}{ta tb tc:TE}{pos:Pos}
theorem binT(ha:PE X a ta)(hb:PE X b tb){pins:PNS}{s:b7Y}{σ:St}{H:Hp}{R:V->V->Hp->Prop}(I:Inv X pins σ H s)
  (h:ta σ H fun x H1=>tb σ H1 fun y H2=>R x y H2) {Q:VPR} {f:b8g->b8g->Sem b8g}
  (hf:∀v u s2 x y H2,Inv X pins σ H2 s2->RelV x v->RelV y u->R x y H2->wpAny (model X.prog X.w) X.A (f v u) Q X.xe s2) :
  wpAny (model X.prog X.w) X.A (eval a X.env) (fun v s₁=>wpAny (model X.prog X.w) X.A (eval b X.env) (fun u s₂=>wpAny (model X.prog X.w) X.A (f v u) Q X.xe s₂) X.xe s₁) X.xe s:=by
 refine thn (ha pins s σ H _ I h) fun v s1 ⟨x,H1,I1,r1,q1⟩=>?_;refine thn (hb pins s1 σ H1 _ I1 q1) fun u s2 ⟨y,H2,I2,r2,q2⟩=>?_;exact hf v u s2 x y H2 I2 r1 r2 q2
theorem b7w{op:Operator}{r:R2}(ho:OpR X (binaryOp op) r)(ha:PE X a ta)(hb:PE X b tb):PE X (.BinOp a op b pos) (tOp r ta tb):=by
 intro pins s σ H Q I h;exact wpAny_BinOp (binT ha hb I h fun v u s2 x y H2 I2 rx ry q=>ho pins s2 σ H2 x y v u Q I2 rx ry q)
theorem b7v{op:UnaryOp}{r:V->Hp->VK->Prop}(ho:UnR X (unaryOp op) r)(ha:PE X a ta):PE X (.UnaryOp op a pos) (tUn r ta):=by
 intro pins s σ H Q I h;exact UnaryOp_ (thn (ha pins s σ H _ I h) fun v s1 ⟨x,H1,I1,r1,q1⟩=>ho pins s1 σ H1 x v Q I1 r1 q1)
theorem opI{f:b8g->b8g->Sem b8g}{C:Int->Int->Prop}{g:Int->Int->Int}
  (rule:∀(i j:Int) (t u:Tok) (s:b7Y) (Q:VPR) (E:VPR),C i j->Q (.int (g i j) s.toks) { s with toks:=s.toks+1 }->wpAny (model X.prog X.w) X.A (f (.int i t) (.int j u)) Q E s) :
  OpR X f (rI C fun i j=>.int (g i j)):=by
 intro pins s σ H x y v u Q I rx ry h;obtain⟨i,j,rfl,rfl,hc,q⟩:=h;obtain⟨t,rfl⟩:=rx;obtain⟨t',rfl⟩:=ry;exact rule i j t t' s _ _ hc ⟨.int (g i j),H,I.tok _,⟨_,rfl⟩,q⟩
theorem opI0{f:b8g->b8g->Sem b8g}{g:Int->Int->Int}
  (rule:∀(i j:Int) (t u:Tok) (s:b7Y) (Q:VPR) (E:VPR),Q (.int (g i j) s.toks) { s with toks:=s.toks+1 }->wpAny (model X.prog X.w) X.A (f (.int i t) (.int j u)) Q E s) :
  OpR X f (rI0 fun i j=>.int (g i j)):=by
 intro pins s σ H x y v u Q I rx ry h;obtain⟨i,j,rfl,rfl,q⟩:=h;obtain⟨t,rfl⟩:=rx;obtain⟨t',rfl⟩:=ry;exact rule i j t t' s _ _ ⟨.int (g i j),H,I.tok _,⟨_,rfl⟩,q⟩
theorem opB0{f:b8g->b8g->Sem b8g}{g:Int->Int->Bool}
  (rule:∀(i j:Int) (t u:Tok) (s:b7Y) (Q:VPR) (E:VPR),Q (.bool (g i j)) s->wpAny (model X.prog X.w) X.A (f (.int i t) (.int j u)) Q E s) :
  OpR X f (rI0 fun i j=>.bl (g i j)):=by
 intro pins s σ H x y v u Q I rx ry h;obtain⟨i,j,rfl,rfl,q⟩:=h;obtain⟨t,rfl⟩:=rx;obtain⟨t',rfl⟩:=ry;exact rule i j t t' s _ _ ⟨.bl (g i j),H,I,rfl,q⟩
noncomputable def CPow(i j:Int):Prop:=0<=j/\j<=1000000/\i.natAbs<2^64
noncomputable def CMul(i j:Int):Prop:=(-(2^64)<i/\i<2^64)\/(-(2^64)<j/\j<2^64)
theorem CMul.ok{i j:Int}(h:CMul i j):IntMulOk i j:=by
 rcases h with ⟨h1,h2⟩|⟨h1,h2⟩
 ·exact .of_left (intBits_le_64 h1 h2)
 ·exact .of_right (intBits_le_64 h1 h2)
theorem b6q:OpR X (binaryOp .Add) (rI0 fun i j=>.int (i+j)):=opI0 fun _ _ _ _ _ _ _ q=>add_int q
theorem b6j:OpR X (binaryOp .Sub) (rI0 fun i j=>.int (i-j)):=opI0 fun _ _ _ _ _ _ _ q=>sub_int q
theorem b6m:OpR X (binaryOp .Mult) (rI CMul fun i j=>.int (i*j)):=opI fun _ _ _ _ _ _ _ hc q=>mul_int q hc.ok
theorem b6n:OpR X (binaryOp .Mod) (rI (fun _ j=>0<j) fun i j=>.int (i%j)):=opI fun i j _ _ _ _ _ hc q=>by
 have h1:(0:Int)<j:=hc;exact mod_int' (by lia) (by rw[Int.fmod_eq_emod_of_nonneg i (by lia)];exact q)
theorem b6l:OpR X (binaryOp .Pow) (rI CPow fun i j=>.int (i^j.toNat)):=opI fun _ _ _ _ _ _ _ hc q=>pow_int_small hc.1 hc.2.1 hc.2.2 q
theorem unI{f:b8g->Sem b8g}{g:Int->Int}
  (rule:∀(i:Int) (t:Tok) (s:b7Y) (Q:VPR) (E:VPR),Q (.int (g i) s.toks) { s with toks:=s.toks+1 }->wpAny (model X.prog X.w) X.A (f (.int i t)) Q E s) :
  UnR X f (rU fun i=>.int (g i)):=by
 intro pins s σ H x v Q I rx h;obtain⟨i,rfl,q⟩:=h;obtain⟨t,rfl⟩:=rx;exact rule i t s _ _ ⟨.int (g i),H,I.tok _,⟨_,rfl⟩,q⟩
theorem b5j:UnR X (unaryOp .USub) (rU fun i=>.int (-i)):=unI fun _ _ _ _ _ q=>neg_int q
end
section
variable{X:Cx}{a b c:Expr}{ta tb tc:TE}{pos:Pos}
theorem b6S{pins:PNS}{σ:St}{H:Hp}{s:b7Y}{Q:VK}{k k':Bool}(I:Inv X pins σ H s)(q:Q (.bl k) H)(e:k=k'):EP X pins σ Q (.bool k') s:=by
 subst e;exact⟨.bl k,H,I,rfl,q⟩
theorem b7z:OpR X (compareOp .Lt) (rI0 fun i j=>.bl (decide (i<j))):=opB0 fun _ _ _ _ _ _ _ q=>lt_int q
theorem b7A:OpR X (compareOp .LtE) (rI0 fun i j=>.bl (decide (i<=j))):=opB0 fun _ _ _ _ _ _ _ q=>le_int q
theorem b7B:OpR X (compareOp .Gt) (rI0 fun i j=>.bl (decide (j<i))):=opB0 fun _ _ _ _ _ _ _ q=>gt_int q
theorem b7C:OpR X (compareOp .GtE) (rI0 fun i j=>.bl (decide (j<=i))):=opB0 fun _ _ _ _ _ _ _ q=>ge_int q
theorem b6o:OpR X (compareOp .Is) (fun x y H Q=>y=.non/\Q (.bl (decide (x=.non))) H):=by
 intro pins s σ H x y v u Q I rx ry h;obtain⟨rfl,q⟩:=h;cases ry;refine is_none_gen (b6S I q ?_)
 cases x<;>first
  |(cases rx;rfl)
  |(obtain⟨t,rfl⟩:=rx;rfl)
theorem a0z(b:Expr){op:c2w}(h:op≠.In:=by decide)(h2:op≠.NotIn:=by decide):behindInMarks op b=false:=by
 have e1:(op==CmpOp.In)=false:=by cases op<;>first|rfl|exact absurd rfl h
 have e2:(op==CmpOp.NotIn)=false:=by cases op<;>first|rfl|exact absurd rfl h2
 cases b<;>simp[behindInMarks,e1,e2]
theorem b4r{op:c2w}{r:R2}(ho:OpR X (compareOp op) r)(ha:PE X a ta)(hb:PE X b tb)(hm:behindInMarks op b=false):PE X (.Compare a [op] [b] pos) (tOp r ta tb):=by
 intro pins s σ H Q I h;exact wpAny_Compare1 (binT ha hb I h fun v u s2 x y H2 I2 rx ry q=>ho pins s2 σ H2 x y v u Q I2 rx ry q) hm
noncomputable def b3H(t:TE):TT:=fun σ H Q=>t σ H fun x H'=>∃k,x=.bl k/\Q k H'
theorem b0j{op:c2w}{r:R2}(ho:OpR X (compareOp op) r)(ha:PE X a ta)(hb:PE X b tb)(hm:behindInMarks op b=false):PT X (.Compare a [op] [b] pos) (b3H (tOp r ta tb)):=by
 intro pins s σ H Q I h
 refine wpAny_isTrue_Compare1 (thn (ha pins s σ H _ I h) fun v s1 ⟨x,H1,I1,r1,q1⟩=>thn (hb pins s1 σ H1 _ I1 q1) fun u s2 ⟨y,H2,I2,r2,q2⟩ =>
  thn (ho pins s2 σ H2 x y v u _ I2 r1 r2 q2) fun c s3 ⟨z,H3,I3,r3,k,e,q3⟩=>?_) hm
 subst e;cases r3;exact b8X ⟨H3,I3,q3⟩
noncomputable def a9R(r r':R2)(ta tb tc:TE):TE:=fun σ H Q=>ta σ H fun x H1=>tb σ H1 fun y H2=>r x y H2 fun z H3=>∃k,z=.bl k /\
 (if k=true then tc σ H3 fun w' H4=>r' y w' H4 Q else Q (.bl false) H3)
theorem b2p{op op':c2w}{r r':R2}(ho:OpR X (compareOp op) r)(ho':OpR X (compareOp op') r')(ha:PE X a ta)(hb:PE X b tb)(hc:PE X c tc)
  (hm:lastMarks [op,op'] [b,c]=false:=by with_unfolding_all rfl):PE X (.Compare a [op,op'] [b,c] pos) (a9R r r' ta tb tc):=by
 intro pins s σ H Q I h
 refine Compare_chain (thn (ha pins s σ H _ I h) fun v s1 ⟨x,H1,I1,r1,q1⟩=>chain_link (thn (hb pins s1 σ H1 _ I1 q1) fun u s2 ⟨y,H2,I2,r2,q2⟩ =>
  thn (ho pins s2 σ H2 x y v u _ I2 r1 r2 q2) fun d s3 ⟨z,H3,I3,r3,k,e,q3⟩=>?_)) hm
 subst e;cases r3;refine b8X ?_;cases k with
 |false=>exact ite_ff ⟨.bl false,H3,I3,rfl,q3⟩
 |true=>exact ite_tt (chain_last (thn (hc pins s3 σ H3 _ I3 q3) fun w' s4 ⟨z',H4,I4,r4,q4⟩=>ho' pins s4 σ H4 y z' u w' Q I4 r2 r4 q4))
theorem b2e{op op':c2w}{r r':R2}(ho:OpR X (compareOp op) r)(ho':OpR X (compareOp op') r')(ha:PE X a ta)(hb:PE X b tb)(hc:PE X c tc)
  (hm:lastMarks [op,op'] [b,c]=false:=by with_unfolding_all rfl):PT X (.Compare a [op,op'] [b,c] pos) (b3H (a9R r r' ta tb tc)):=by
 intro pins s σ H Q I h
 refine isTrue_chain (thn (ha pins s σ H _ I h) fun v s1 ⟨x,H1,I1,r1,q1⟩=>test_link (thn (hb pins s1 σ H1 _ I1 q1) fun u s2 ⟨y,H2,I2,r2,q2⟩ =>
  thn (ho pins s2 σ H2 x y v u _ I2 r1 r2 q2) fun d s3 ⟨z,H3,I3,r3,k,e,q3⟩=>?_)) hm
 subst e;cases r3;refine b8X ?_;cases k with
 | false =>
   obtain⟨k',e',q'⟩:=q3;cases e';exact ite_ff ⟨H3,I3,q'⟩
 | true =>
   refine ite_tt (test_last (thn (hc pins s3 σ H3 _ I3 q3) fun w' s4 ⟨z',H4,I4,r4,q4⟩=>thn (ho' pins s4 σ H4 y z' u w' _ I4 r2 r4 q4) fun d' s5 ⟨z2,H5,I5,r5,k2,e2,q5⟩=>?_));subst e2;cases r5;exact b8X ⟨H5,I5,q5⟩
noncomputable def TruV(K:PySem.W.Frag)(x:V)(H:Hp)(k:Bool):Prop :=
 match x with
 |.non=>k=false
 |.bl b=>k=b
 |.int i=>k=(i != 0)
 |.str y=>y.length<=sizeLine/\k=((y.length:Int) != 0)
 |.byt y=>y.size<=sizeLine/\k=((y.size:Int) != 0)
 |.ref p=>(∃xs,SqL K H p xs/\k=!xs.isEmpty)\/(∃xs,SqT K H p xs/\k=!xs.isEmpty)\/∃kvs,H p=some (.dK kvs)/\k=!kvs.isEmpty
 |_=>False
theorem a9s{κ:Type}{kvs:List (κ×V)}{vs:List (κ×b8g)}(r:KV kvs vs):(!vs.isEmpty)=!kvs.isEmpty:=by
 cases r<;>rfl
theorem a5c{xs:List V}{its:LSV}(r:Vals xs its):(!its.toArray.isEmpty)=!xs.isEmpty:=by
 cases r<;>simp
theorem a4e:(sizeLine:Nat)<2^63:=by rw[c0A];decide
theorem b5l:TruR X (fun x H Q=>∃k,TruV X.K x H k/\Q k H):=by
 intro pins s σ H x v Q I rx h;obtain⟨k,e,q⟩:=h;have hl:=a4e;have hs:sizeLine=16777216:=c0A;cases x with
 | non =>
   cases rx;have e':k=false:=e;subst e';exact truthy_none ⟨H,I,q⟩
 | bl b =>
   cases rx;have e':k=b:=e;subst e';exact b8X ⟨H,I,q⟩
 | int i =>
   obtain⟨t,rfl⟩:=rx;have e':k=(i != 0):=e;subst e';exact PySem.P.truthy_int ⟨H,I,q⟩
 | str y =>
   obtain⟨t,rfl⟩:=rx;obtain⟨hy,e'⟩:y.length<=sizeLine/\k=((y.length:Int) != 0):=e;subst e';exact PySem.P.truthy_str (by lia) ⟨H,I.tok _,q⟩
 | byt y =>
   obtain⟨t,rfl⟩:=rx;obtain⟨hy,e'⟩:y.size<=sizeLine/\k=((y.size:Int) != 0):=e;subst e';exact PySem.W.truthy_bytes (by lia) ⟨H,I.tok _,q⟩
 | ref p =>
   cases rx;have e':(∃xs,SqL X.K H p xs/\k=!xs.isEmpty)\/(∃xs,SqT X.K H p xs/\k=!xs.isEmpty)\/∃kvs,H p=some (.dK kvs)/\k=!kvs.isEmpty:=e;rcases e' with ⟨xs,hx,e'⟩|⟨xs,hx,e'⟩|⟨kvs,hx,e'⟩
   ·subst e';obtain⟨its,r,pl,hz⟩:=I.list hx;have hlen:=r.length;exact wpAny_truthy_list pl.isList (by simp only[b8h];lia) ⟨H,I.tok _,by rw[a5c r];exact q⟩
   ·subst e';obtain⟨its,r,pl,hz⟩:=I.tuple hx;have hlen:=r.length;exact truthy_tuple pl (by simp only[b8h];lia) ⟨H,I.tok _,by rw[a5c r];exact q⟩
   ·subst e';obtain⟨hz,hS,vs,r,m⟩:kvs.length<=sizeLine/\(p==sysModules)=false/\∃vs,KV kvs vs/\s.heap.DictOf (a0H X.prog X.w) p vs:=I.hok p _ hx;have hlen:kvs.length=vs.length:=Paired.length r;exact wpAny_truthy_dict hS m (by lia) ⟨H,I.tok _,by rw[a9s r];exact q⟩
 |_=>exact(show False from e).elim
theorem b2c(ha:PE X a ta)(he:∀whole,isTrue a X.env whole=(do let v <- whole;standAt a.pos;holding [v] (truthy v))) :
  PT X a (fun σ H Q=>ta σ H fun x H'=>∃k,TruV X.K x H' k/\Q k H'):=by
 intro pins s σ H Q I h;exact isTrue_plain (thn (ha pins s σ H _ I h) fun v s1 ⟨x,H1,I1,r1,q1⟩=>b5l pins s1 σ H1 x v Q I1 r1 q1) (he _)
theorem a9e:OpR X (binaryOp .Add) (fun x y H Q=>∃i j,x=.str i/\y=.str j/\i.length+j.length<=sizeLine/\Q (.str (i++j)) H):=by
 intro pins s σ H x y v u Q I rx ry h;obtain⟨i,j,rfl,rfl,hz,q⟩:=h;obtain⟨t,rfl⟩:=rx;obtain⟨t',rfl⟩:=ry;exact add_str (fun t' tk=>⟨.str (i++j),H,I.tok _,⟨_,rfl⟩,q⟩) hz
theorem a2L{x:V}{us:LSV}(r:Vals [x] us):∃u,us=[u]/\RelV x u:=by
 cases r with
 |cons r1 r2=>cases r2;exact⟨_,rfl,r1⟩
theorem b3c:a6b X (.builtin "abs") (fun xs H Q=>∃i,xs=[.int i]/\Q (.int (if i<0 then -i else i)) H):=by
 intro pins s σ H xs us Q I r h;obtain⟨i,rfl,q⟩:=h;obtain⟨u,rfl,t,rfl⟩:=a2L r
 exact call_abs_int fun u tk=>⟨.int (if i<0 then -i else i),H,I.tok _,⟨_,rfl⟩,q⟩
theorem a7d:a6b X (.type "int") (fun xs H Q=>(∃i,xs=[.int i]/\Q (.int i) H)\/∃k,xs=[.bl k]/\Q (.int (if k then 1 else 0)) H):=by
 intro pins s σ H xs us Q I r h;rcases h with ⟨i,rfl,q⟩|⟨k,rfl,q⟩
 ·obtain⟨u,rfl,t,rfl⟩:=a2L r;exact call_int_int ⟨.int i,H,I,⟨_,rfl⟩,q⟩
 ·obtain⟨u,rfl,r1⟩:=a2L r;cases r1
  exact call_int_bool ⟨.int (if k then 1 else 0),H,I.tok _,⟨_,rfl⟩,q⟩
end
structure ObjM(h:Heap)(x dx C:Addr)(mA:SOV):Prop where
 obj:h.get? x=some (PySem.W.instObj C dx)
 ns:h.Ns1 dx mA
 ne:dx≠x
theorem b0G{h:Heap}{dx:Addr}{mA:SOV}(n:h.Ns1 dx mA):∃od,h.get? dx=some od/\∀name,PySem.W.lookIn name od=some (mA name):=by
 obtain⟨o,es,ep,ho,hd,hk,_,hm⟩:=n;refine⟨o,ho,fun name=>?_⟩;have e:=hm name;unfold nsFind findBy at e;rw[<- Array.find?_toList] at e;unfold PySem.W.lookIn;rw[hd];dsimp only;split
 ·rename_i y q;rw[q] at e;exact congrArg some e
 ·rename_i q;rw[q] at e
  have a:es.toList.any (·.refKey)=false:=by
   rw[List.any_eq_false];intro y hy;obtain⟨z,t,hkey⟩:=hk y (Array.mem_toList_iff.mp hy);simp[DictEntry.refKey,hkey]
  have a':¬es.toList.any (·.refKey)=true:=by rw[a];exact b8v
  rw[if_neg a'];exact congrArg some e
theorem ObjM.look{h:Heap}{x dx C:Addr}{mA:SOV}(I:ObjM h x dx C mA):∃od,PySem.W.InstAt h x (PySem.W.instObj C dx) C (some od)/\∀name,PySem.W.lookIn name od=some (mA name) :=
 let ⟨od,ho,hl⟩:=b0G I.ns
 ⟨od,⟨I.obj,rfl,rfl,ho⟩,hl⟩
section
variable{prog:b8n}{w:b8F}{A:b8w}{E:VPR}{s:b7Y}{K:PySem.W.Frag}{x dx C f:Addr}{mA:SOV}{name:Str}{v:b8g}
theorem b4T{expr:Bool}{Q:VPR}(X:K.In s.heap)(I:ObjM s.heap x dx C mA)(hg:PySem.W.plainGet K C name=true)(hh:PySem.W.hasDictIn K C=true)
  (ha:PySem.W.findIn K (.ref C) name=some none) (hv:mA name=some v) (hv':PySem.W.handedIn v=true) (h:Q v { s with toks:=s.toks+1 }) :
  wpAny (model prog w) A (getAttr (.ref x) name expr) Q E s:=by
 obtain⟨od,J,hl⟩:=I.look;exact PySem.W.get_value X J (PySem.W.plainGet_of hg).1 (PySem.W.findObj_own hh ha rfl (by rw[hl,hv])) hv' h
theorem b2R{pl:Sem Bool}{Q:b8g×List b8g->b7Y->Prop}(X:K.In s.heap)(I:ObjM s.heap x dx C mA)(hg:PySem.W.plainGet K C name=true)
  (hf:PySem.W.findIn K (.ref C) name=some (some (.ref f))) (ht:PySem.W.isFn K (.ref f)=true) (hv:mA name=none) (h:Q (.ref f,[.ref x]) s) :
  wpAny (model prog w) A (getMethod (.ref x) name pl) Q E s:=by
 obtain⟨od,J,hl⟩:=I.look;exact PySem.W.method_fn X J (PySem.W.plainGet_of hg).1 (PySem.W.plainGet_of hg).2 hf (beq_iff_eq.mp ht) (by show(PySem.W.lookIn name od).map (·.isSome)=some false;rw[hl,hv];rfl) h
theorem b3Q{ns:LSS}{Q:Unit->b7Y->Prop}(X:K.In s.heap)(I:ObjM s.heap x dx C mA)
  (hs:PySem.W.findIn K (.ref C) "__setattr__"=some (some (.builtin "object.__setattr__"))) (hp:PySem.W.plainOver K C=true) (ht:PySem.W.takerIn K C name=some none) (hh:PySem.W.hasDictIn K C=true)
  (hw:PySem.Within mA ns) (hsz:ns.length<=sizeLine)
  (h:∀h',ObjM h' x dx C (fun y=>if y=name then some v else mA y)->c0q dx s.heap h'->Q () { s with heap:=h',toks:=s.toks+2 }) :
  wpAny (model prog w) A (setAttr (.ref x) name v) Q E s:=by
 obtain⟨od,J,hl⟩:=I.look;refine PySem.W.set_plain X J hs (PySem.W.osa_open (s:={ s with toks:=s.toks+1 }) (r:=none) X J hp ht fun b=>?_);obtain⟨cd,hc,hd'⟩:=PySem.W.any_some hh;have hx:s.heap.get? x=some ⟨.ref C,some dx,.plain,#[]⟩:=I.obj;refine b8a (b8r (b8a (b8a (wpAny_loadPart hx (b8a (PySem.W.Looks.here (s:={ s with toks:=s.toks+1 }) (PySem.W.looks_clsIn X hc) ?_))))));rw[hd'];refine b8r (a:=some dx) (b8a (b8r (b8a ?_)));refine wpAny_nsSet1 (s:={ s with toks:=s.toks+1 }) I.ns fun h' hn2 hs2=>?_;obtain⟨oD,esD,epD,hoD,hdD,hcD⟩:=hn2.count (PySem.Within.cons name v hw);refine b8a (wpAny_lookBehind hoD (by rw[hdD];exact pastItsLine_dict (b8G hcD (by rw[b8t];lia))) ?_);exact b8r (h _ ⟨(hs2.2 _ (b9t I.ne)).trans I.obj,hn2,I.ne⟩ hs2)
theorem b2A{R:c1y->b7Y->Prop}{vs:LSV}{kw:List (Str×b8g)}(X:K.In s.heap)(hm:PySem.W.makesIn K C=true)
  (hi:PySem.W.findIn K (.ref C) "__init__"=some (some (.ref f))) (hf:PySem.W.typeIn K (.ref f)=some (.type "function"))
  (h:codeAny (model prog w) (A.under (.builtin "type.__call__" ⟨.ref C::vs,kw⟩)) (.call (.ref f) ⟨.ref (s.heap.objs.size+1)::vs,kw⟩) (PySem.W.InitBack (s.heap.objs.size+1) R)
   { s with heap:=(s.heap.push PySem.W.emptyDict).push (PySem.W.instObj C s.heap.objs.size) }) :
  codeAny (model prog w) A (.call (.ref C) ⟨vs,kw⟩) R s:=by
 obtain⟨hh,g,d,t,os⟩:=s;exact PySem.W.make_core (PySem.W.makes_of X hm) (PySem.W.looks_findIn X hi) (fun self=>PySem.W.bind_fn X self hf) (.inl rfl) h
end
noncomputable def putF(f:Str)(v:V):List (Str×V)->List (Str×V)
 |[]=>[(f,v)]
 |(g,x)::r=>if g=f then (g,v)::r else (g,x)::putF f v r
theorem a4d(f g:Str)(v:V):∀fs:List (Str×V),(putF f v fs).lookup g=if g=f then some v else fs.lookup g
 | []=>by
   show b9A g [(f,v)]=_;by_cases h:g=f
   ·have hb:(g==f)=true:=beq_iff_eq.mpr h;simp only[b9A,hb,if_pos h]
   ·have hb:(g==f)=false:=beq_eq_false_iff_ne.mpr h;simp only[b9A,hb,if_neg h]
 | (k,x)::r=>by
   have ih:=a4d f g v r
   rw[show putF f v ((k,x)::r)=(if k=f then (k,v)::r else (k,x)::putF f v r) from rfl]
   by_cases hk:k=f
   ·rw[if_pos hk];by_cases h:g=k
    ·have hb:(g==k)=true:=beq_iff_eq.mpr h;simp only[b9A,hb,if_pos (h.trans hk)]
    ·have hb:(g==k)=false:=beq_eq_false_iff_ne.mpr h;simp only[b9A,hb,if_neg (fun e:g=f=>h (e.trans hk.symm))]
   ·rw[if_neg hk];by_cases h:g=k
    ·have hb:(g==k)=true:=beq_iff_eq.mpr h;simp only[b9A,hb,if_neg (fun e:g=f=>hk (h.symm.trans e))]
    ·have hb:(g==k)=false:=beq_eq_false_iff_ne.mpr h;simp only[b9A,hb];exact ih
theorem a4k(f:Str)(v:V):∀fs:List (Str×V),f∈(putF f v fs).map (·.1)/\∀g,g∈fs.map (·.1)->g∈(putF f v fs).map (·.1)
 |[]=>⟨by simp[putF],fun g h=>by simp at h⟩
 | (k,x)::r=>by
   obtain⟨i1,i2⟩:=a4k f v r
   rw[show putF f v ((k,x)::r)=(if k=f then (k,v)::r else (k,x)::putF f v r) from rfl]
   by_cases hk:k=f
   ·rw[if_pos hk];subst hk;exact⟨by simp,fun g h=>by simpa using h⟩
   ·rw[if_neg hk];refine⟨?_,fun g h=>?_⟩
    ·rw[b8o];exact b7Z _ i1
    ·rw[b8o] at h|-
     rcases b8l.mp h with e|e
     ·exact List.mem_cons.mpr (.inl e)
     ·exact b7Z _ (i2 g e)
theorem a4g(f:Str)(v:V):∀fs:List (Str×V),(putF f v fs).length<=fs.length+1
 |[]=>by simp[putF]
 | (k,x)::r=>by
   have ih:=a4g f v r
   rw[show putF f v ((k,x)::r)=(if k=f then (k,v)::r else (k,x)::putF f v r) from rfl]
   by_cases hk:k=f
   ·rw[if_pos hk,b8t,b8t];lia
   ·rw[if_neg hk,b8t,b8t];lia
theorem RelO.some_of{v:V}{o:OVA}(r:RelO (some v) o):∃u,o=some u/\RelV v u:=by
 cases o with
 |none=>exact(show False from r).elim
 |some u=>exact⟨u,rfl,r⟩
theorem RelO.none_of{o:OVA}(r:RelO none o):o=none:=by
 cases o with
 |none=>rfl
 |some u=>exact(show False from r).elim
theorem b0Y{v:V}{u:b8g}(r:RelV v u):PySem.W.handedIn u=true:=by
 cases v with
 |non=>cases (show u=b8W from r);rfl
 |bl b=>cases (show u=c0z b from r);rfl
 |int i=>obtain⟨t,e⟩:=(show ∃t,u=c0H i t from r);cases e;rfl
 |str x=>obtain⟨t,e⟩:=(show ∃t,u=c2D x t from r);cases e;rfl
 |byt b=>obtain⟨t,e⟩:=(show ∃t,u=c3V b t from r);cases e;rfl
 |flt b=>obtain⟨t,e⟩:=(show ∃t,u=c3W b t from r);cases e;rfl
 |ref a=>cases (show u=b8z a from r);rfl
 |ty n=>cases (show u=c0N n from r);rfl
section
variable{P:b8n}{w:b8F}{H H':Hp}{h h':Heap}{a C dx:Addr}{fs fs':List (Str×V)}
theorem a7N(hok:HOk P w H h)(e:H a=some (.ins C dx fs)):∃mA,ObjM h a dx C mA/\(∀f,RelO (fs.lookup f) (mA f))/\PySem.Within mA (fs.map (·.1))/\fs.length<=1000/\H dx=some (.own a):=by
 obtain⟨d,z,ne,ob,mA,n,r,q⟩:=(show a0Y P w H h a (.ins C dx fs) from hok a _ e);exact⟨mA,⟨ob,n,ne⟩,r,q,z,d⟩
end
structure Cls(K:PySem.W.Frag)(C:Addr):Prop where
 pg:PySem.W.plainGet K C c1V=true
 hd:PySem.W.hasDictIn K C=true
 po:PySem.W.plainOver K C=true
 sa:PySem.W.findIn K (.ref C) "__setattr__"=some (some (.builtin "object.__setattr__"))
theorem Cls.get{K:PySem.W.Frag}{C:Addr}(c:Cls K C)(f:Str):PySem.W.plainGet K C f=true:=c.pg
noncomputable def a3g(K:PySem.W.Frag)(C:Addr)(f:Str):Prop:=PySem.W.findIn K (.ref C) f=some none
theorem a3g.taker{K:PySem.W.Frag}{C:Addr}{f:Str}(n:a3g K C f):PySem.W.takerIn K C f=some none:=by
 unfold PySem.W.takerIn;rw[show PySem.W.findIn K (.ref C) f=some none from n];rfl
structure Meth(K:PySem.W.Frag)(C:Addr)(m:Str)(f:Addr):Prop where
 at_:PySem.W.findIn K (.ref C) m=some (some (.ref f))
 fn:PySem.W.isFn K (.ref f)=true
 kp:PySem.W.keepIn K (.ref f)=true
section
variable{X:Cx}{pins:PNS}{σ:St}{H:Hp}{s:b7Y}{a C dx:Addr}{fs:List (Str×V)}{f:Str}{v:V}{A:b8w}{E:VPR}
theorem a9v{b:Bool}{Q:VPR}(I:Inv X pins σ H s)(e:H a=some (.ins C dx fs))(c:Cls X.K C)(n:a3g X.K C f)(l:fs.lookup f=some v)
  (h:∀u s',Inv X pins σ H s'->RelV v u->Q u s'):wpAny (model X.prog X.w) A (getAttr (.ref a) f b) Q E s:=by
 obtain⟨mA,O,r,_,_,_⟩:=a7N I.hok e;obtain⟨u,hu,ru⟩:=RelO.some_of (v:=v) (o:=mA f) (by rw[<- l];exact r f);exact b4T I.kIn O (c.get f) c.hd n hu (b0Y ru) (h u _ (I.tok _) ru)
theorem a3r{m:Str}{g:Addr}{pl:Sem Bool}{Q:b8g×List b8g->b7Y->Prop}(I:Inv X pins σ H s)(e:H a=some (.ins C dx fs))(c:Cls X.K C)(k:Meth X.K C m g)(l:fs.lookup m=none)
  (h:Q (.ref g,[.ref a]) s):wpAny (model X.prog X.w) A (getMethod (.ref a) m pl) Q E s:=by
 obtain⟨mA,O,r,_,_,_⟩:=a7N I.hok e;have hn:mA m=none:=RelO.none_of (by rw[<- l];exact r m);exact b2R I.kIn O (c.get m) k.at_ k.fn hn h
theorem a8R{y:V}{u:b8g}{Q:Unit->b7Y->Prop}(I:Inv X pins σ H s)(e:H a=some (.ins C dx fs))(c:Cls X.K C)(n:a3g X.K C f)(hl:fs.length<1000)(ry:RelV y u)
  (h:∀s',Inv X pins σ (upd H a (.ins C dx (putF f y fs))) s'->Q () s'):wpAny (model X.prog X.w) A (setAttr (.ref a) f u) Q E s:=by
 obtain⟨mA,O,r,wi,_,ho⟩:=a7N I.hok e;have hz:(fs.map (·.1)).length<=sizeLine:=by rw[b8f,c0A];lia
 refine b3Q I.kIn O c.sa c.po n.taker c.hd wi hz fun h' O' sb=>h _ ?_
 have hd:∃o,h'.get? dx=some o:=let ⟨o,_,_,e',_⟩:=O'.ns;⟨o,e'⟩
 refine I.write (x:=a) (e:=dx) (by rw[e];exact c0O) (.inr ho) (fun b q hb z=>(sb.2 b hb).trans z) hd ?_;refine⟨by rw[a0k O.ne];exact ho,?_,O.ne,O'.obj,_,O'.ns,fun g=>?_,fun g hg=>?_⟩
 ·have:=a4g f y fs;lia
 ·show RelO ((putF f y fs).lookup g) (if g=f then some u else mA g)
  rw[a4d];by_cases q:g=f
  ·rw[if_pos q,if_pos q];exact ry
  ·rw[if_neg q,if_neg q];exact r g
 ·by_cases q:g=f
  ·rw[q];exact(a4k f y fs).1
  ·refine(a4k f y fs).2 g (wi g fun z=>hg ?_)
   show(if g=f then some u else mA g)=none
   rw[if_neg q];exact z
theorem Inv.made(I:Inv X pins σ H s):Inv X pins σ (upd (upd H s.heap.objs.size (.own (s.heap.objs.size+1))) (s.heap.objs.size+1) (.ins C s.heap.objs.size []))
  { s with heap:=(s.heap.push PySem.W.emptyDict).push (PySem.W.instObj C s.heap.objs.size) }:=by
 have e1:(s.heap.push PySem.W.emptyDict).get? s.heap.objs.size=some PySem.W.emptyDict:=b8A s.heap rfl
 have e2:((s.heap.push PySem.W.emptyDict).push (PySem.W.instObj C s.heap.objs.size)).get? (s.heap.objs.size+1)=some (PySem.W.instObj C s.heap.objs.size):=by
  have:=b8A (s.heap.push PySem.W.emptyDict) (o:=PySem.W.instObj C s.heap.objs.size) rfl
  rwa [b9r] at this
 have e3:(s.heap.push PySem.W.emptyDict).Ns s.heap.objs.size (fun _=>none):=⟨PySem.W.emptyDict,#[],_,e1,rfl,(fun e he=>absurd he (by simp)),fun _=>rfl⟩;have I1:=I.laid (a:=s.heap.objs.size) (o:=.own (s.heap.objs.size+1)) (h':=s.heap.push PySem.W.emptyDict) (t':=s.toks) (fun b u q=>b8d _ q) (b8k _) ⟨_,e1⟩;refine I1.laid (a:=s.heap.objs.size+1) (o:=.ins C s.heap.objs.size []) (t':=s.toks) (fun b u q=>b8d _ q) (c1W (b9r _ _)) ?_;have ne:s.heap.objs.size≠s.heap.objs.size+1:=b8B (b9c _);refine⟨by rw[a0k ne,a0y],b9B _,ne,e2,fun _=>none,(Heap.Ns1.of_empty e3).at fun o q=>b8d _ q,fun _=>c0O,fun y hy=>absurd rfl hy⟩
theorem b5e{prog:b8n}{w:b8F}{env:Env}{e:Expr}{f:Str}{pos:Pos}{s:b7Y}{Q:VPR}(hb:attributeBase e f env (eval e env)=eval e env)
  (h:wpAny (model prog w) A (eval e env) (fun o s₁=>wpAny (model prog w) A (getAttr o f true) Q E s₁) E s):wpAny (model prog w) A (eval (.Attribute e f pos) env) Q E s :=
 Attribute_any_ h (by rw[arm_eval_Attribute,hb])
end
noncomputable def tFld(K:PySem.W.Frag)(ta:TE)(f:Str):TE:=fun σ H Q=>ta σ H fun x H1=>∃a C dx fs v,x=.ref a/\H1 a=some (.ins C dx fs)/\Cls K C/\a3g K C f/\fs.lookup f=some v/\Q v H1
noncomputable def sFld(K:PySem.W.Frag)(ta tv:TE)(f:Str):TS:=fun D σ H=>tv σ H fun y H1=>ta σ H1 fun x H2=>∃a C dx fs,x=.ref a/\H2 a=some (.ins C dx fs)/\Cls K C/\a3g K C f/\fs.length<1000 /\
 D.nx σ (upd H2 a (.ins C dx (putF f y fs)))
section
variable{X:Cx}{o e value:Expr}{f:Str}{pos pos' tpos:Pos}{ta tv:TE}
theorem b6f(he:PE X e ta)(hb:attributeBase e f X.env (eval e X.env)=eval e X.env):PE X (.Attribute e f pos) (tFld X.K ta f):=by
 intro pins s σ H Q I h;refine b5e hb (thn (he pins s σ H _ I h) fun u s1 ⟨x,H1,I1,rx,a,C,dx,fs,v,ex,ea,c,n,l,q⟩=>?_);subst ex;obtain rfl:u=b8z a:=rx;exact a9v I1 ea c n l fun u' s2 I2 ru=>⟨v,H1,I2,ru,q⟩
theorem b5U(ha:PE X o ta)(hv:PE X value tv)(hs:swapsWith value (some (.Attribute o f pos')) pos.line X.env=pure false):PS X (.Assign [.Attribute o f pos'] value pos) (sFld X.K ta tv f):=by
 intro pins s σ H D I h;refine plainObj_wpAny_Assign_Attribute (thn (hv pins s σ H _ I h) fun u s1 ⟨y,H1,I1,ry,q⟩=>thn (ha pins s1 σ H1 _ I1 q) fun ov s2 ⟨x,H2,I2,rx,a,C,dx,fs,ex,ea,c,n,l,q2⟩=>?_) hs;subst ex;obtain rfl:ov=b8z a:=rx;exact a8R I2 ea c n l ry fun s3 I3=>⟨σ,_,I3,q2⟩
end
section
variable{X:Cx}{pins:PNS}{σ:St}{H:Hp}{s:b7Y}{A:b8w}{E:VPR}{Q:VPR}{c:b8g}{b:Bool}
end
structure Room(k:Nat)(A:b8w):Prop where
 hd:A.handled=none
 dp:A.depth+3*k+5<recursionLimit
 un:A.units+16*k+200<cLine
theorem Room.mono{j k:Nat}{A:b8w}(r:Room k A)(h:j<=k):Room j A:=⟨r.hd,by have:=r.dp;lia,by have:=r.un;lia⟩
theorem Room.deeper{k:Nat}{A:b8w}(r:Room (k+1) A)(env:Env):Room k (A.deeper env) :=
 ⟨r.hd,by have:=r.dp;show A.depth+1+3*k+5<_;lia,by have:=r.un;show A.units+3+16*k+200<_;lia⟩
theorem a9q{A:b8w}{C:Addr}{us:LSV}{kw:List (Str×b8g)}:(A.under (.builtin "type.__call__" ⟨.ref C::us,kw⟩)).depth=A.depth+1:=by
 first|rfl|simp[c3a,Code.weight,Code.isCreation,Code.isGuard,c2G,c3X,c3b,guardIds]
theorem a9p{A:b8w}{C:Addr}{us:LSV}{kw:List (Str×b8g)}:(A.under (.builtin "type.__call__" ⟨.ref C::us,kw⟩)).units=A.units+1:=by
 first|rfl|simp[c3a,Code.cUnits,c3X,c3b]
theorem Room.make{k:Nat}{A:b8w}(r:Room (k+1) A)(C:Addr)(us:LSV)(kw:List (Str×b8g)):Room k (A.under (.builtin "type.__call__" ⟨.ref C::us,kw⟩)) :=
 ⟨r.hd,by have:=r.dp;rw[a9q];lia,by have:=r.un;rw[a9p];lia⟩
theorem Room.depth{k:Nat}{A:b8w}(r:Room k A):A.depth<recursionLimit:=by have:=r.dp;lia
theorem Room.units{k:Nat}{A:b8w}(r:Room k A):A.units+64<cLine:=by have:=r.un;lia
noncomputable def tNil:TA:=fun _ H Q=>Q [] H
noncomputable def b7h(ta:TE)(tr:TA):TA:=fun σ H Q=>ta σ H fun x H1=>tr σ H1 fun xs H2=>Q (x::xs) H2
section
variable{X:Cx}{e:Expr}{es:LSE}{te:TE}{t:TA}{pos:Pos}
theorem b6i:PA X [] tNil:=fun _ _ _ _ H Q I h=>c1z ⟨[],H,I,.nil,h⟩
noncomputable abbrev QSS(X:Cx)(e:Expr)(es:LSE):Prop:=starEach (e::es) X.env=(false,eval e X.env)::starEach es X.env
theorem b4u(ha:PE X e te)(hr:PA X es t)(hs:QSS X e es:=by rfl):PA X (e::es) (b7h te t):=by
 intro pos pins s σ H Q I h;rw[hs];show wpAny _ _ (spliced ((false,eval e X.env)::backTo pos (starEach es X.env))) _ _ s;refine c1h (thn (ha pins s σ H _ I h) fun u s1 ⟨x,H1,I1,r1,q1⟩=>?_);exact thn (hr pos pins s1 σ H1 _ I1 q1) fun us s2 ⟨xs,H2,I2,r2,q2⟩=>⟨x::xs,H2,I2,.cons r1 r2,q2⟩
noncomputable def tTup(t:TA):TE:=fun σ H Q=>t σ H fun xs H1=>xs.length<=sizeLine/\∀p,H1 p=none->Q (.ref p) (upd H1 p (.tup xs))
noncomputable def tLst(t:TA):TE:=fun σ H Q=>t σ H fun xs H1=>xs.length<=sizeLine/\∀p,H1 p=none->Q (.ref p) (upd H1 p (.lst xs))
theorem b5Z{x1}(h:PA X es t):PE X (.Tuple es x1 pos) (tTup t):=by
 intro pins s σ H Q I hq;refine wpAny_Tuple_spliced (thn (h pos pins s σ H _ I hq) fun us s1 ⟨xs,H1,I1,r,z,q⟩=>⟨by rw[<- r.length];exact z,?_⟩);have hf:H1 s1.heap.objs.size=none:=I1.hok.fresh (b8k _);refine⟨.ref s1.heap.objs.size,upd H1 s1.heap.objs.size (.tup xs),I1.laid (t':=s1.toks) (fun b u e=>b8d _ e) (b8k _) ?_,rfl,q _ hf⟩;exact⟨z,us,r,⟨_,b8A _ rfl,rfl,rfl,_,rfl⟩⟩
theorem b6d(h:PA X es t):PE X (.List es pos) (tLst t):=by
 intro pins s σ H Q I hq;refine wpAny_List_spliced (thn (h pos pins s σ H _ I hq) fun us s1 ⟨xs,H1,I1,r,z,q⟩=>⟨by rw[<- r.length];exact z,?_⟩);have hf:H1 s1.heap.objs.size=none:=I1.hok.fresh (b8k _);refine⟨.ref s1.heap.objs.size,upd H1 s1.heap.objs.size (.lst xs),I1.laid (t':=s1.toks) (fun b u e=>b8d _ e) (b8k _) ?_,rfl,q _ hf⟩;exact⟨z,us,0,r,b8A _ rfl⟩
end
noncomputable abbrev Sp:=List V->Hp->VK->XK->Prop
noncomputable abbrev CXT:=List Env->Hp->b7Y->XK->VPR
structure Env0(P:b8n)(w:b8F)(K:PySem.W.Frag)(mg:SOV)(base:Heap)(A:b8w)(outer:List Env)(s:b7Y)(H:Hp):Prop where
 frames:A.frames=some outer
 mod:Mod K mg base
 bs:∀b o,base.get? b=some o->s.heap.get? b=some o/\H b=none
 bsz:base.objs.size<=s.heap.objs.size
 funs:s.heap.FunFrames base outer
 frf:∀b∈frs outer,H b=none
 hok:HOk P w H s.heap
 bare:c1s s.gens
noncomputable def CE(outer:List Env)(P:b8n)(w:b8F)(H:Hp)(s:b7Y)(Q:VK)(u:b8g)(s':b7Y):Prop :=
 ∃v H',s'.os=s.os/\c1s s'.gens/\Un (frs outer) [] H H' s.heap s'.heap/\HOk P w H' s'.heap/\RelV v u/\Q v H'
noncomputable def CR(CX:CXT)(outer:List Env)(P:b8n)(w:b8F)(H:Hp)(s:b7Y)(Q:VK)(E:XK)(r:c1y)(s':b7Y):Prop :=
 match r with
 |.ok (.ret u)=>CE outer P w H s Q u s'
 |.ok _=>False
 |.error e=>CX outer H s E e s'
structure FnOk(P:b8n)(w:b8F)(K:PySem.W.Frag)(mg:SOV)(base:Heap)(CX:CXT)(k:Nat)(f:Addr)(fd:b9d)(ps:LSS)(sp:Sp):Prop where
 len:∀vs H Q E,sp vs H Q E->vs.length=ps.length
 run:∀(A:b8w) (outer:List Env) (s:b7Y) (H:Hp) (args:Args) (us:LSV) (vs:List V) (Q:VK) (E:XK),Room k A->Env0 P w K mg base A outer s H->c2P s fd args (ps.zip us)->Vals vs us->sp vs H Q E ->
  codeAny (model P w) A (.call (.ref f) args) (CR CX outer P w H s Q E) s
theorem FnOk.mono{P:b8n}{w:b8F}{K:PySem.W.Frag}{mg:SOV}{base:Heap}{CX:CXT}{j k:Nat}{f:Addr}{fd:b9d}{ps:LSS}{sp:Sp}(F:FnOk P w K mg base CX j f fd ps sp)(h:j<=k) :
  FnOk P w K mg base CX k f fd ps sp:=⟨F.len,fun A outer s H args us vs Q E hr=>F.run A outer s H args us vs Q E (hr.mono h)⟩
theorem Env0.make{P:b8n}{w:b8F}{K:PySem.W.Frag}{mg:SOV}{base:Heap}{A:b8w}{outer:List Env}{s:b7Y}{H:Hp}(e:Env0 P w K mg base A outer s H)(C:Addr)(us:LSV)(kw:List (Str×b8g)) :
  Env0 P w K mg base (A.under (.builtin "type.__call__" ⟨.ref C::us,kw⟩)) outer s H:=⟨by first|exact e.frames|(simpa [c3a,Code.envs,c3b,pushEnvs] using e.frames),e.mod,e.bs,e.bsz,e.funs,e.frf,e.hok,e.bare⟩
section
variable{X:Cx}{pins:PNS}{σ:St}{H:Hp}{s s':b7Y}
theorem Inv.env0(I:Inv X pins σ H s):Env0 X.prog X.w X.K X.mg X.base X.A X.stack s H :=
 ⟨I.ok.frames,I.ok.mod,I.bs,b8G I.ok.bsz I.sz,I.stack,I.stkFree,I.hok,I.bare⟩
theorem Inv.after{Q:VK}{u:b8g}(I:Inv X pins σ H s)(h:CE X.stack X.prog X.w H s Q u s'):EP X pins σ Q u s':=by
 obtain⟨v,H',os,bare,un,hok,r,q⟩:=h;obtain⟨hh,g,d,t,os'⟩:=s';obtain rfl:os'=s.os:=os;exact⟨v,H',I.call (h':=hh) (g':=g) (d':=d) (t':=t) (ch:=[]) un hok bare (fun b z=>absurd z (by simp)),r,q⟩
end
noncomputable def b7i(sp:Sp)(dvs:List V)(E:XK)(t:TA):TE:=fun σ H Q=>t σ H fun vs H1=>sp (vs++dvs) H1 Q E
noncomputable def b7d(C:Addr)(m:Str)(sp:Sp)(dvs:List V)(E:XK)(ta:TE)(t:TA):TE:=fun σ H Q=>ta σ H fun x H1=>∃a dx fs,x=.ref a/\H1 a=some (.ins C dx fs)/\fs.lookup m=none /\
 t σ H1 fun vs H2=>sp (x::(vs++dvs)) H2 Q E
noncomputable def b7e(C:Addr)(sp:Sp)(dvs:List V)(E:XK)(t:TA):TE:=fun σ H Q=>t σ H fun vs H1=>∀x dx,H1 x=none->H1 dx=none->dx≠x ->
 sp (.ref x::(vs++dvs)) (upd (upd H1 dx (.own x)) x (.ins C dx [])) (fun v H2=>v=.non/\Q (.ref x) H2) E
noncomputable def a1l(K:PySem.W.Frag)(fd:b9d)(ps:LSS)(ds:LSV):Prop :=
 ∀(s:b7Y) (us:LSV),K.In s.heap->(us++ds).length=ps.length->c2P s fd ⟨us,[]⟩ (ps.zip (us++ds))
theorem a1l.all{K:PySem.W.Frag}{fd:b9d}{ps:LSS}(h:∀us:LSV,us.length=ps.length->bindArgs fd ⟨us,[]⟩=pure (ps.zip us)):a1l K fd ps []:=fun s us _ hl=>by
 rw[b8O] at hl|-
 exact .of_eq (h us hl)
noncomputable def a5k(CX:CXT)(X:Cx)(E:XK):Prop:=∀(pins:PNS) (σ:St) (H:Hp) (s:b7Y) (e:b8g) (s':b7Y),Inv X pins σ H s->CX X.stack H s E e s'->X.xe e s'
section
variable{X:Cx}{CX:CXT}{k:Nat}{f C:Addr}{fd:b9d}{ps:LSS}{sp:Sp}{dvs:List V}{ds:LSV}{E:XK}{x m:Str}{p pos apos:Pos}{e o:Expr}{es:LSE}{ta:TE}{t:TA}
theorem b3l{pins:PNS}{σ:St}{H:Hp}{s:b7Y}{Q:VK}{us:LSV}{vs:List V}(F:FnOk X.prog X.w X.K X.mg X.base CX k f fd ps sp)(hr:Room k X.A)(hb:a1l X.K fd ps ds)(hd:Vals dvs ds)(hx:a5k CX X E)
  (I:Inv X pins σ H s) (r:Vals vs us) (h:sp (vs++dvs) H Q E):wpAny (model X.prog X.w) X.A (call (.ref f) us) (EP X pins σ Q) X.xe s:=by
 have r2:Vals (vs++dvs) (us++ds):=r.append hd;have hl:(us++ds).length=ps.length:=by rw[<- r2.length];exact F.len _ _ _ _ h
 refine c2Q (c1X (F.run X.A X.stack s H ⟨us,[]⟩ (us++ds) (vs++dvs) Q E hr I.env0 (hb s us I.kIn hl) r2 h) fun r s' hq=>?_);cases r with
 |error e=>exact hx pins σ H s e s' I hq
 | ok fl =>
   cases fl with
   |ret u=>exact I.after hq
   |next=>exact b8D hq
   |brk=>exact b8D hq
   |cont=>exact b8D hq
noncomputable abbrev QPP(X:Cx)(pos:Pos)(es:LSE):Prop:=(backTo pos (starEach es X.env)).any (·.1)=false
theorem b4s(F:FnOk X.prog X.w X.K X.mg X.base CX k f fd ps sp)(hr:Room k X.A)(hg:Gl X x)(hm:X.mg x=some (.ref f))(hk:PySem.W.keepIn X.K (.ref f)=true)(hb:a1l X.K fd ps ds)(hd:Vals dvs ds)(hx:a5k CX X E)
  (ha:PA X (e::es) t) (hdb:QDD x:=by decide) (he:QSS X e es:=by rfl) (hpl:QPP X pos es:=by rfl) :
  PE X (.Call (.Name x p) (e::es) [] pos) (b7i sp dvs E t):=by
 intro pins s σ H Q I h;refine b9U (a1v I hg hm ?_ hdb);refine PySem.W.callWith_K (h₀:=X.base) I.ok.mod.kin hk (thn (ha pos pins s σ H _ I h) fun us s1 ⟨vs,H1,I1,r,q⟩=>⟨I1.kIn,?_⟩) he hpl;exact b3l F hr hb hd hx I1 r q
theorem b2j{pl:Sem Bool}(he:PE X o ta)(c:Cls X.K C)(hm:Meth X.K C m f)(F:FnOk X.prog X.w X.K X.mg X.base CX k f fd ps sp)(hr:Room k X.A)(hb:a1l X.K fd ps ds)(hd:Vals dvs ds)(hx:a5k CX X E)
  (ht:eval (.Call (.Attribute o m apos) [] [] pos) X.env=(do
   let ov <- eval o X.env
   standAt apos.atName
   let (f,first) <- holding [ov] (getMethod ov m pl)
   callWith pos f first (backTo pos (starEach [] X.env)) (backToKw pos (keywordEach [] X.env))):=by rfl) :
  PE X (.Call (.Attribute o m apos) [] [] pos) (b7d C m sp dvs E ta tNil):=by
 intro pins s σ H Q I h;refine PySem.W.methodCall_KW (pl:=pl) (thn (he pins s σ H _ I h) fun u s1 ⟨x,H1,I1,rx,a,dx,fs,ex,ea,l,q⟩=>?_) ht;subst ex;obtain rfl:u=b8z a:=rx;refine a3r I1 ea c hm l ?_
 exact PySem.W.callWith_K0 (first:=[.ref a]) I1.kIn hm.kp (b3l (us:=[.ref a]) (vs:=[.ref a]) F hr hb hd hx I1 (.cons rfl .nil) q)
structure Mk(K:PySem.W.Frag)(C f:Addr):Prop where
 makes:PySem.W.makesIn K C=true
 init:PySem.W.findIn K (.ref C) "__init__"=some (some (.ref f))
 fn:PySem.W.isFn K (.ref f)=true
 kp:PySem.W.keepIn K (.ref C)=true
theorem b1U{pins:PNS}{σ:St}{H:Hp}{s:b7Y}{Q:VK}{us:LSV}{vs:List V}(M:Mk X.K C f)(F:FnOk X.prog X.w X.K X.mg X.base CX k f fd ps sp)(hr:Room (k+1) X.A)(hb:a1l X.K fd ps ds)(hd:Vals dvs ds)
  (hx:a5k CX X E) (I:Inv X pins σ H s) (r:Vals vs us)
  (h:∀x dx,H x=none->H dx=none->dx≠x->sp (.ref x::(vs++dvs)) (upd (upd H dx (.own x)) x (.ins C dx [])) (fun v H2=>v=.non/\Q (.ref x) H2) E) :
  wpAny (model X.prog X.w) X.A (call (.ref C) us) (EP X pins σ Q) X.xe s:=by
 have hq:=h (s.heap.objs.size+1) s.heap.objs.size (I.hok.fresh (c2x _)) (I.hok.fresh (b8k _)) (b8B (b9c _));have I2:=Inv.made (C:=C) I;have r2:Vals (V.ref (s.heap.objs.size+1)::(vs++dvs)) (b8z (s.heap.objs.size+1)::(us++ds)):=.cons rfl (r.append hd)
 have hl:(b8z (s.heap.objs.size+1)::us++ds).length=ps.length:=by
  have e:=r2.length;rw[F.len _ _ _ _ hq] at e;exact e.symm
 refine c2Q (b2A (f:=f) I.kIn M.makes M.init (beq_iff_eq.mp M.fn) (c1X (F.run _ X.stack _ _ ⟨b8z (s.heap.objs.size+1)::us,[]⟩ (b8z (s.heap.objs.size+1)::(us++ds)) _ _ E (hr.make C us [])
  (I2.env0.make C us []) (hb _ (b8z (s.heap.objs.size+1)::us) I2.kIn hl) r2 hq) fun r s' hq'=>?_))
 cases r with
 |error e=>exact hx pins σ _ _ e s' I2 hq'
 | ok fl =>
   cases fl with
   | ret u =>
     obtain⟨v,H',I3,rv,ev,q3⟩:=I2.after hq';subst ev;exact⟨rv,⟨V.ref (s.heap.objs.size+1),H',I3,rfl,q3⟩⟩
   |next=>exact b8D hq'
   |brk=>exact b8D hq'
   |cont=>exact b8D hq'
theorem b2k(M:Mk X.K C f)(F:FnOk X.prog X.w X.K X.mg X.base CX k f fd ps sp)(hr:Room (k+1) X.A)(hg:Gl X x)(hm:X.mg x=some (.ref C))(hb:a1l X.K fd ps ds)(hd:Vals dvs ds)(hx:a5k CX X E)
  (hdb:QDD x:=by decide):PE X (.Call (.Name x p) [] [] pos) (b7e C sp dvs E tNil):=by
 intro pins s σ H Q I h;refine b9U (a1v I hg hm ?_ hdb);exact PySem.W.callWith_K0 I.kIn M.kp (b1U (us:=[]) M F hr hb hd hx I .nil h)
end
section
variable{X:Cx}{CX:CXT}{k:Nat}{f C:Addr}{fd:b9d}{ps ks:LSS}{sp:Sp}{E:XK}{x m:Str}{p pos apos kpos:Pos}{e o:Expr}{es:LSE}{kws:List c1Y}{te ta:TE}{t tk:TA}{nm:Option Str}
variable{g:LSV->LSV->LSV}{gV:List V->List V->List V}
end
structure FnScope(N P:LSS)(sc:c0t):Prop where
 kind:sc.kind=.function
 co:sc.isCoroutine=false
 gen:sc.isGenerator=false
 nd:N.Nodup
 pre:N.take P.length=P
 par:∀x∈P,sc.names.lookup x=some .local\/sc.names.lookup x=some .cell
 nofree:∀y∈sc.names,y.2≠.free
theorem a7f{kindOf:Str->Option b9u}{x:Str}:∀{binds:List (Str×b8g)} {m:SOV},(∀v,(x,v)∉binds)->bindL kindOf binds m x=m x
 |[],_,_=>rfl
 | (n,v)::r,m,h=>by
   unfold bindL;rw[a7f fun w hw=>h w (b7Z _ hw)];split
   ·have:x≠n:=by rintro rfl;exact h v b8e
    simp[this]
   ·rfl
theorem a7h{kindOf:Str->Option b9u}{x:Str}:∀{binds:List (Str×b8g)} {m:SOV},(∀v,(x,v)∉binds)->bindC kindOf binds m x=m x
 |[],_,_=>rfl
 | (n,v)::r,m,h=>by
   unfold bindC;rw[a7h fun w hw=>h w (b7Z _ hw)];split
   ·rfl
   ·have:x≠n:=by rintro rfl;exact h v b8e
    simp[this]
theorem a7g{kindOf:Str->Option b9u}{x:Str}{v:b8g}:∀{P:LSS} {vs:LSV} {i:Nat} {m:SOV},P.Nodup->P[i]?=some x->vs[i]?=some v->kindOf x=some .local ->
  bindL kindOf (P.zip vs) m x=some v
 |[],_,_,_,_,h,_,_=>by simp at h
 |_::_,[],_,_,_,_,h,_=>by simp at h
 | p::P,w::vs,0,m,nd,h1,h2,hk=>by
   simp at h1 h2;subst h1;subst h2;show bindL kindOf ((p,w)::P.zip vs) m p=_;unfold bindL;rw[a7f fun v hv=>(c0R.mp nd).1 (c0S hv).1,if_pos hk];simp
 | p::P,w::vs,i+1,m,nd,h1,h2,hk=>by
   show bindL kindOf ((p,w)::P.zip vs) m x=_;unfold bindL;exact a7g (i:=i) (c0R.mp nd).2 (by simpa using h1) (by simpa using h2) hk
theorem a7i{kindOf:Str->Option b9u}{x:Str}{v:b8g}:∀{P:LSS} {vs:LSV} {i:Nat} {m:SOV},P.Nodup->P[i]?=some x->vs[i]?=some v->kindOf x≠some .local ->
  bindC kindOf (P.zip vs) m x=some v
 |[],_,_,_,_,h,_,_=>by simp at h
 |_::_,[],_,_,_,_,h,_=>by simp at h
 | p::P,w::vs,0,m,nd,h1,h2,hk=>by
   simp at h1 h2;subst h1;subst h2;show bindC kindOf ((p,w)::P.zip vs) m p=_;unfold bindC;rw[a7h fun v hv=>(c0R.mp nd).1 (c0S hv).1,if_neg hk];simp
 | p::P,w::vs,i+1,m,nd,h1,h2,hk=>by
   show bindC kindOf ((p,w)::P.zip vs) m x=_;unfold bindC;exact a7i (i:=i) (c0R.mp nd).2 (by simpa using h1) (by simpa using h2) hk
noncomputable def start(N:LSS)(vs:List V):St:=vs.map some++b8p (N.length-vs.length) none
noncomputable def cxOf(CX:CXT)(P:b8n)(w:b8F)(K:PySem.W.Frag)(mg:SOV)(base:Heap)(N:LSS)(qual:Str)(scope:c0t)(f:Addr)(cd:b8g)(A:b8w)(outer:List Env)(s:b7Y)(H:Hp)(E:XK):Cx where
 prog:=P
 w:=w
 K:=K
 mg:=mg
 base:=base
 A:=A.deeper (envOfC qual scope s.heap.objs.size f cd)
 N:=N
 s₀:=s
 H₀:=H
 env:=envOfC qual scope s.heap.objs.size f cd
 outer:=outer
 stack:=envOfC qual scope s.heap.objs.size f cd::outer
 ex:=[]
 calm:=true
 fn:=fun _=>true
 pn:=[]
 xe:=fun e s'=>wpAny (model P w) (A.deeper (envOfC qual scope s.heap.objs.size f cd)) (leaving (envOfC qual scope s.heap.objs.size f cd) e) (fun _ s''=>CX outer H s E e s'') (fun e' s''=>CX outer H s E e' s'') s'
theorem a8G{sc:c0t}{n:Nat}{x:Str}(h:sc.names.lookup x=some .cell):∃c,(cellsFrom n sc.names []).lookup x=some c:=by
 have q:=PySem.W.cellsFrom_some sc.names n [] (.inl h);exact c1A.mp q
theorem a6L{CX:CXT}{P:b8n}{w:b8F}{K:PySem.W.Frag}{mg:SOV}{base:Heap}{N ps:LSS}{qual:Str}{scope:c0t}{f:Addr}{cd:b8g}{A:b8w}{outer:List Env}{s s1:b7Y}{H:Hp}{E:XK}{us:LSV}{vs:List V}
  (S:FnScope N ps scope) (hd:A.handled=none) (e0:Env0 P w K mg base A outer s H) (hl:vs.length=ps.length) (r:Vals vs us)
  (x:InCallC s s.heap.objs.size (bindL (envOfC qual scope s.heap.objs.size f cd).kindOf (ps.zip us) fun _=>none) (cellsFrom (s.heap.objs.size+1) scope.names []) (bindC (envOfC qual scope s.heap.objs.size f cd).kindOf (ps.zip us) fun _=>none) s1) :
  Inv (cxOf CX P w K mg base N qual scope f cd A outer s H E) [] (start N vs) H s1:=by
 have hpl:ps.length<=N.length:=by have:=congrArg c0T S.pre;rw[c0l] at this;lia
 obtain⟨h1,tk,rfl,hk⟩:=x.done;have noA:∀b:Addr,b∉(cxOf CX P w K mg base N qual scope f cd A outer s H E).ex:=fun b z=>absurd (show b∈([]:List Addr) from z) (by simp)
 refine⟨⟨e0.mod,S.kind,rfl,rfl,b8k _,fun y z c h1 h2=>?_,fun y hy=>?_,fun y c _ h=>?_,fun _=>hd,Around.frames_deeper e0.frames,.inr ⟨rfl,rfl⟩,fun b z=>absurd z (noA b),e0.bs,e0.bsz,fun b _ _=>noA b,fun b z=>absurd z (noA b),e0.funs,e0.frf⟩,
  rfl,e0.bare,Un.kept hk,⟨_,x.toInCall.ns,fun i y v h1 h2 h3=>?_⟩,fun y c h=>⟨_,x.cell y c h⟩,e0.hok.fresh (b8k _),fun y c h=>?_,fun p hp=>absurd (show p∈([]:PNS) from hp) (by simp),e0.hok.kept hk,?_⟩
 ·exact name_of_addr x.apart (PySem.mem_of_lookup h1) (PySem.mem_of_lookup h2)
 ·have hy:scope.names.lookup y=some .cell\/scope.names.lookup y=some .free:=hy;rcases hy with hy|hy
  ·exact a8G hy
  ·exact absurd rfl (S.nofree _ (PySem.mem_of_lookup hy))
 ·exact b9X (x.above y c (PySem.mem_of_lookup h))
 ·have hi:i<vs.length:=by
   unfold start at h2;by_cases hi:i<vs.length
   ·exact hi
   ·rw[c1b (by simpa using hi)] at h2;rw[c1I] at h2;split at h2<;>cases h2
  have ha:vs[i]?=some v:=by
   unfold start at h2;rw[c0j (by simpa using hi),b8x] at h2;cases e:vs[i]? with
   |none=>rw[e] at h2;cases h2
   |some a=>rw[e] at h2;cases h2;rfl
  obtain⟨u,hu,rv⟩:=r.get ha
  have hp:ps[i]?=some y:=by
   rw[<- S.pre,List.getElem?_take_of_lt (by lia)];exact h1
  have ndP:ps.Nodup:=by rw[<- S.pre];exact S.nd.sublist (List.take_sublist _ _)
  refine⟨u,rv,?_⟩;rcases S.par y (b8Q hp) with k|k
  ·exact .inl ⟨k,a7g ndP hp hu k⟩
  ·obtain⟨c,e⟩:=a8G (n:=s.heap.objs.size+1) k;refine .inr ⟨.inl k,c,e,?_⟩;have q:=x.cell y c e;rw[a7i ndP hp hu (by show scope.names.lookup y≠_;rw[k];decide)] at q;exact q
 ·exact e0.hok.fresh (b9X (x.above y c (PySem.mem_of_lookup h)))
 ·unfold start;show _=N.length;rw[b8R,b8f,List.length_replicate];lia
theorem b4U{CX:CXT}{P:b8n}{w:b8F}{K:PySem.W.Frag}{mg:SOV}{base:Heap}{k:Nat}{f:Addr}{name qual:Str}{params:c3N}{body:List Stmt}{scope:c0t}{dV kV doc pm cdv ct oc:b8g}{an od:Option Addr}
  {osl:AOV} {N ps:LSS} {sp:Sp} (lk:K.lookup f=some ⟨oc,od,.func (PySem.W.fnOf name qual params body scope dV kV doc pm an cdv ct),osl⟩) (hcd:PySem.W.codeIn K cdv qual=true) (S:FnScope N ps scope)
  (len:∀vs H Q E,sp vs H Q E->vs.length=ps.length)
  (hbody:∀(A:b8w) (outer:List Env) (s:b7Y) (H:Hp) (vs:List V) (Q:VK) (E:XK),Room k (A.deeper (envOfC qual scope s.heap.objs.size f cdv))->sp vs H Q E ->
   ∃t,PSs (cxOf CX P w K mg base N qual scope f cdv A outer s H E) body t/\t { nx:=fun _ H'=>Q .non H',rt:=Q } (start N vs) H) :
  FnOk P w K mg base CX (k+1) f (PySem.W.fnOf name qual params body scope dV kV doc pm an cdv ct) ps sp:=by
 refine⟨len,fun A outer s H args us vs Q E hr e0 hb r hsp=>?_⟩;have hl:=len _ _ _ _ hsp;have KX:K.In s.heap:=e0.mod.kin.keeps fun b o e=>(e0.bs b o e).1;have lim:s.heap.NoLimit:=e0.mod.nolimit.keeps fun b o e=>(e0.bs b o e).1
 have hkind:∀y∈ps.zip us,scope.names.lookup y.1=some .local\/(scope.names.lookup y.1=some .cell/\((cellsFrom (s.heap.objs.size+1) scope.names []).lookup y.1).isSome=true):=fun⟨n,v⟩ hy=>by
  rcases S.par n (c0S hy).1 with q|q
  ·exact .inl q
  ·exact .inr ⟨q,PySem.W.cellsFrom_some _ _ _ (.inl q)⟩
 refine codeAny_call_function hr.depth (KX _ _ lk) rfl S.co S.gen rfl (PySem.W.codeRec_of KX hcd) (hb _ _ _ _ ?_);refine c1c S.kind hkind fun env he s1 x=>?_;subst he;refine⟨lim.keeps x.toInCall.keep,codeAny_func ?_⟩;obtain⟨t,ht,hq⟩:=hbody A outer s H vs Q E (hr.deeper _) hsp;have I:Inv (cxOf CX P w K mg base N qual scope f cdv A outer s H E) [] (start N vs) H s1:=a6L S hr.hd e0 hl r x;refine b8H (ht [] s1 (start N vs) H _ I hq) (fun fl s' hs=>?_) fun e s' hs=>hs
 have fin:∀{σ':St} {H':Hp} {v:V} {u:b8g},Inv (cxOf CX P w K mg base N qual scope f cdv A outer s H E) [] σ' H' s'->RelV v u->Q v H'->CE outer P w H s Q u s' :=
  fun {σ' H' v u} J rv q=>⟨v,H',J.os,J.bare,J.base,J.hok,rv,q⟩
 cases fl with
 | ret u =>
   obtain⟨v,σ',H',J,rv,q⟩:=hs;exact fin J rv q
 | next =>
   obtain⟨σ',H',J,q⟩:=hs;exact fin (v:=V.non) (u:=b8W) J rfl q
 | brk =>
   obtain⟨_,_,_,q⟩:=hs;exact b8D q
 | cont =>
   obtain⟨_,_,_,q⟩:=hs;exact b8D q
section
variable{X:Cx}{x:Str}{p pos:Pos}{e:Expr}{es:LSE}{t:TA}{id T:String}{r:List V->Hp->VK->Prop}
noncomputable def tCB(r:List V->Hp->VK->Prop)(t:TA):TE:=fun σ H Q=>t σ H fun vs H1=>r vs H1 Q
theorem b2q(hc:a6b X (.builtin id) r)(hg:Gl X x)(hm:X.mg x=none)(hv:bootBuiltins x=some (.builtin id))(ha:PA X (e::es) t)(hn:x≠"__name__":=by decide)(hdb:QDD x:=by decide)
  (he:QSS X e es:=by rfl) (hpl:QPP X pos es:=by rfl):PE X (.Call (.Name x p) (e::es) [] pos) (tCB r t):=by
 intro pins s σ H Q I h;refine b9U (a5a I hg hm hv ?_ hn hdb);exact PyProof.Rows.callWith_builtin1 (thn (ha pos pins s σ H _ I h) fun us s1 ⟨vs,H1,I1,r1,q1⟩=>hc pins s1 σ H1 vs us Q I1 r1 q1) he hpl
theorem b0s(hc:a6b X (.type T) r)(hg:Gl X x)(hm:X.mg x=none)(hv:bootBuiltins x=some (.type T))(ha:PA X (e::es) t)(hn:x≠"__name__":=by decide)(hdb:QDD x:=by decide)
  (he:QSS X e es:=by rfl) (hpl:QPP X pos es:=by rfl):PE X (.Call (.Name x p) (e::es) [] pos) (tCB r t):=by
 intro pins s σ H Q I h;refine b9U (a5a I hg hm hv ?_ hn hdb);exact c0Q (thn (ha pos pins s σ H _ I h) fun us s1 ⟨vs,H1,I1,r1,q1⟩=>hc pins s1 σ H1 vs us Q I1 r1 q1) he hpl
end
end L2
namespace HT
open PySem PyProof.Rows
section
open PySem.SeqAt
open PySem.AutoSeq1 (wpAny_loadPart')
open PySem.MeetsSeq PySem.MeetsSeq2 PySem.MeetsSeq3
end
section
variable{prog:b8n}{w:b8F}{A:b8w}{E:VPR}{s:b7Y}
theorem cat_tup{t b:Addr}{vs ws:LSV}{Q:VPR}(ht:IsTup s.heap t vs.toArray)(hb:IsTup s.heap b ws.toArray)(hv:vs≠[])
  (h1:ws=[]->Q (.ref t) s) (h2:ws≠[]->Q (.ref s.heap.objs.size) { s with heap:=s.heap.push { cls:=.type "tuple",data:=.seq (vs++ws).toArray } })
  (hsz:vs.length+ws.length<=sizeLine):wpAny (model prog w) A (binaryOp .Add (.ref t) (.ref b)) Q E s:=by
 obtain⟨⟨cls,dd,data,sl⟩,ho,hc,n,hd⟩:=id ht;obtain⟨⟨cls2,dd2,data2,sl2⟩,ho2,hc2,n2,hd2⟩:=id hb;simp only at hc hd hc2 hd2;subst hc hd hc2 hd2;have e:vs.toArray++ws.toArray=(vs++ws).toArray:=by simp
 by_cases hw:ws=[]
 ·exact c3c ⟨_,ho,rfl⟩ ⟨_,ho2,rfl⟩ c1P c2H PySem.F.slot_tuple_add PySem.F.entry_tuple_add (PySem.F.args_tuple_add_2 _ _)
   (tuple_addW1 t b vs.toArray ws.toArray n n2 dd dd2 sl sl2 (by simpa using hv) (by simp[hw])) ⟨ho,ho2,h1 hw⟩
 ·refine c3c ⟨_,ho,rfl⟩ ⟨_,ho2,rfl⟩ c1P c2H PySem.F.slot_tuple_add PySem.F.entry_tuple_add (PySem.F.args_tuple_add_2 _ _)
   (tuple_addW2 t b vs.toArray ws.toArray n n2 dd dd2 sl sl2 (by simpa using hv) (by simpa using hw) (by rw[b8h,b8h];exact hsz)) ⟨ho,ho2,?_⟩
  rw[e];exact h2 hw
noncomputable def sIx(n d:Nat):Option Int->Nat
 |none=>d
 |some v=>if v<0 then (v+(n:Int)).toNat else min v.toNat n
theorem sIx_none(n d:Nat):sIx n d none=d:=rfl
theorem sIx_nat(n d k:Nat):sIx n d (some (k:Int))=min k n:=by
 show(if (k:Int)<0 then ((k:Int)+(n:Int)).toNat else min (k:Int).toNat n)=min k n
 rw[if_neg (by lia),c0B]
theorem b5H(n d:Nat)(hd:d<=n)(o:Option Int):sIx n d o<=n:=by
 cases o with
 |none=>exact hd
 | some v =>
   show(if v<0 then (v+(n:Int)).toNat else min v.toNat n)<=n
   by_cases hv:v<0
   ·rw[if_pos hv];lia
   ·rw[if_neg hv];exact Nat.min_le_right _ _
theorem b1B(v:Int)(n d:Nat):(if v<0 then max (v+(n:Int)) 0 else min v (n:Int))=((sIx n d (some v):Nat):Int):=by
 show(if v<0 then max (v+(n:Int)) 0 else min v (n:Int))=(((if v<0 then (v+(n:Int)).toNat else min v.toNat n):Nat):Int)
 by_cases hv:v<0
 ·simp only[if_pos hv];lia
 ·simp only[if_neg hv];lia
theorem a9B(lo hi:Option Int)(n:Nat):c0k lo hi 1 (n:Int)=(((sIx n 0 lo:Nat):Int),((sIx n n hi:Nat):Int)):=by
 have h1:¬((1:Int)<0):=by lia
 unfold c0k;simp only[h1,if_false];refine Prod.ext ?_ ?_
 ·cases lo with
  |none=>rfl
  |some v=>exact b1B v n 0
 ·cases hi with
  |none=>rfl
  |some v=>exact b1B v n n
theorem a9b(i j:Nat):b9C (i:Int) (j:Int) 1=j-i:=by
 unfold b9C;have h1:(1:Int)>0:=by lia
 simp only[h1,if_true,Int.ediv_one];split<;>lia
theorem a4V{v:b8g}{o:Option Int}{Q:Option Int->b7Y->Prop}(p:c2I v o)(h:Q o s):wpAny (model prog w) A (Builtin.Slice.slicePartIndex v) Q E s:=by
 cases p with
 |none=>exact slicePart_none h
 |int i t=>exact slicePart_int h
theorem a2c{sl:Addr}{vl vu:b8g}{lo hi:Option Int}{n:Nat}{Q:Int×Int×Nat->b7Y->Prop}(hs:s.heap.IsSliceOf sl vl vu .none)(pl:c2I vl lo)(pu:c2I vu hi)
  (h:Q (((sIx n 0 lo:Nat):Int),1,sIx n n hi-sIx n 0 lo) s):wpAny (model prog w) A (c1d (.ref sl) (pure (n:Int))) Q E s:=by
 obtain⟨os,hos,hcs,hds⟩:=id hs;unfold c1d Builtin.Slice.sliceFields;refine b8a (b8a (b9P hos hds (x:=vl) rfl (b8a (b9P hos hds (x:=vu) rfl (b8a (b9P hos hds (x:=.none) rfl (b8r ?_)))))));refine b8a (slicePart_none ?_)
 show wpAny _ _ (if ((1:Int)==0)=true then _ else _) _ _ s
 rw[if_neg (by decide)];refine b8a (a4V pl (b8a (a4V pu (b8a (b8r ?_)))))
 show wpAny _ _ (match c0k lo hi 1 (n:Int) with|(lo,hi)=>pure (lo,(1:Int),b9C lo hi 1)) _ _ s
 rw[a9B lo hi n];show wpAny _ _ (pure (((sIx n 0 lo:Nat):Int),(1:Int),b9C ((sIx n 0 lo:Nat):Int) ((sIx n n hi:Nat):Int) 1)) _ _ s;rw[a9b];exact b8r h
theorem b2h(xs:Array b8g)(i k:Nat):((b9w k).filterMap fun(m:Nat)=>xs[((i:Int)+(m:Int)*1).toNat]?).toArray=((xs.toList.drop i).take k).toArray:=by
 have e:(fun(m:Nat)=>xs[((i:Int)+(m:Int)*1).toNat]?)=fun m=>xs[i+m]?:=by
  funext m
  have:((i:Int)+(m:Int)*1).toNat=i+m:=by lia
  rw[this]
 rw[e];have:=pick_run xs i k;rw[List.filterMap_map] at this;have e2:((fun x=>xs[x]?)∘fun x=>i+x)=fun m=>xs[i+m]?:=rfl;rw[e2] at this;rw[this]
theorem getItem_tuple_cut{t sl:Addr}{items:Array b8g}{vl vu:b8g}{lo hi:Option Int}{Q:VPR}(ht:IsTup s.heap t items)(hs:s.heap.IsSliceOf sl vl vu .none)(pl:c2I vl lo)(pu:c2I vu hi)
  (hw:¬(sIx items.size 0 lo=0/\sIx items.size items.size hi=items.size))
  (h:Q (.ref s.heap.objs.size) { s with heap:=s.heap.push { cls:=.type "tuple",data:=.seq ((items.toList.drop (sIx items.size 0 lo)).take (sIx items.size items.size hi-sIx items.size 0 lo)).toArray } })
  (hsz:items.size<=sizeLine):wpAny (model prog w) A (getItem (.ref t) (.ref sl)) Q E s:=by
 have htake:sizeOk (.seq ((items.toList.drop (sIx items.size 0 lo)).take (sIx items.size items.size hi-sIx items.size 0 lo)).toArray):=by
  show((items.toList.drop (sIx items.size 0 lo)).take (sIx items.size items.size hi-sIx items.size 0 lo)).toArray.size<=sizeLine;rw[b8h,c0l,c0m,b9g];lia
 have hj:sIx items.size items.size hi<=items.size:=b5H _ _ (b8k _) hi;obtain⟨os,hos,hcs,hds⟩:=id hs;have hTs:s.TypeIs (.ref sl) "slice":=⟨os,hos,hcs⟩;unfold getItem
 try with_reducible refine b9p ?_
 first|refine b8a (b8r ?_)|skip
 refine b8a (c2R ht.typeIs (by decide) ?_)
 refine b8a (c1J (name:=b8b "__getitem__") ht.typeIs b8K
  (c1Q b8K ht.typeIs c2y ?_ (c2J _ _)))
 show wpAny _ _ (c1e (.ref t) >>= _) _ _ s;refine b8a (tupleItemsOf_ ht ?_);refine b8a (c3d hTs ?_);rw[if_pos (by decide)];refine b8a (a2c hs pl pu ?_)
 have hno:¬((((sIx items.size 0 lo:Nat):Int)==0&&(1:Int)==1&&(sIx items.size items.size hi-sIx items.size 0 lo)==items.size)=true):=by
  intro q;rw[b8m,b8m] at q;have q1:((sIx items.size 0 lo:Nat):Int)=0:=eq_of_beq q.1.1;have q2:sIx items.size items.size hi-sIx items.size 0 lo=items.size:=eq_of_beq q.2;exact hw ⟨by lia,by lia⟩
 show wpAny _ _ (if (((sIx items.size 0 lo:Nat):Int)==0&&(1:Int)==1&&(sIx items.size items.size hi-sIx items.size 0 lo)==items.size)=true then _ else _) _ _ s
 rw[if_neg hno,b2h]
 first
  |exact b8a (m:=b9G _) (b9s (b8r ⟨_,rfl,b8r h⟩) htake)
  |exact b8a (m:=b9G _) (b9s (b8a (b8r (b8r ⟨_,rfl,b8r h⟩))) htake)
  |exact b8a (b8a (m:=b9G _) (b9s (b8r (b8r ⟨_,rfl,b8r h⟩)) htake))
  |exact b8a (b8a (m:=b9G _) (b9s (b8r ⟨_,rfl,b8r h⟩) htake))
end
end HT
namespace L2
open PySem PySem.Spec PyProof.Rows
noncomputable abbrev TO:=St->Hp->(Option Int->Hp->Prop)->Prop
noncomputable def PO(X:Cx)(e:Option Expr)(t:TO):Prop :=
 ∀ pins s σ H (Q:Option Int->Hp->Prop),Inv X pins σ H s->t σ H Q ->
   wpAny (model X.prog X.w) X.A (evalPart e X.env) (fun u s'=>∃o H',Inv X pins σ H' s'/\c2I u o/\Q o H') X.xe s
noncomputable def b3J:TO:=fun _ H Q=>Q none H
noncomputable def b7b(t:TE):TO:=fun σ H Q=>t σ H fun x H1=>∃i,x=.int i/\Q (some i) H1
section
variable{X:Cx}{e:Expr}{te:TE}{lo hi:Option Expr}{tl th:TO}{pos p2:Pos}
theorem b4o:PO X none b3J:=by
 intro pins s σ H Q I h;rw[evalPart_none];exact b8r ⟨none,H,I,.none,h⟩
theorem b4n(h:PE X e te):PO X (some e) (b7b te):=by
 intro pins s σ H Q I hw;rw[evalPart_some];refine thn (h pins s σ H _ I hw) fun u s1 ⟨x,H1,I1,r1,q1⟩=>?_;obtain⟨i,rfl,q⟩:=q1;obtain⟨t,rfl⟩:=r1;exact⟨some i,H1,I1,.int i t,q⟩
noncomputable def SlR(X:Cx)(r:V->Option Int->Option Int->Hp->VK->Prop):Prop :=
 ∀ pins s σ H (x:V) (v vl vu:b8g) (lo hi:Option Int) (sl:Addr) (Q:VK),Inv X pins σ H s->RelV x v->s.heap.IsSliceOf sl vl vu .none->c2I vl lo->c2I vu hi->r x lo hi H Q ->
   ∃T id,typeLookup (.type T) "__getitem__"=pure (some (.builtin id))/\s.TypeIs v T/\wpAny (model X.prog X.w) X.A (getItem v (.ref sl)) (EP X pins σ Q) X.xe s
theorem SlR.or{r r':V->Option Int->Option Int->Hp->VK->Prop}(h:SlR X r)(h':SlR X r'):SlR X (fun x lo hi H Q=>r x lo hi H Q\/r' x lo hi H Q):=by
 intro pins s σ H x v vl vu lo hi sl Q I rx hs pl pu q;rcases q with q|q
 ·exact h pins s σ H x v vl vu lo hi sl Q I rx hs pl pu q
 ·exact h' pins s σ H x v vl vu lo hi sl Q I rx hs pl pu q
noncomputable def tSl(r:V->Option Int->Option Int->Hp->VK->Prop)(te:TE)(tl th:TO):TE:=fun σ H Q=>te σ H fun x H1=>tl σ H1 fun l H2=>th σ H2 fun u H3=>r x l u H3 Q
theorem b2i{r:V->Option Int->Option Int->Hp->VK->Prop}(hr:SlR X r)(he:PE X e te)(hl:PO X lo tl)(hu:PO X hi th):PE X (.Subscript e (.Slice lo hi none p2) pos) (tSl r te tl th):=by
 intro pins s σ H Q I h;refine c3F (thn (he pins s σ H _ I h) fun v s1 ⟨x,H1,I1,r1,q1⟩=>?_);refine wpAny_Slice (thn (hl pins s1 σ H1 _ I1 q1) fun vl s2 ⟨l,H2,I2,pl,q2⟩=>thn (hu pins s2 σ H2 _ I2 q2) fun vu s3 ⟨u,H3,I3,pu,q3⟩=>?_);rw[evalPart_none];refine b8r ?_;have I4:Inv X pins σ H3 { s3 with heap:=s3.heap.push { cls:=.type "slice",data:=.fields #[vl,vu,.none] } }:=I3.kept (t':=s3.toks) fun b ob q=>b8d _ q;obtain⟨T,id,hT,ht,hg⟩:=hr pins { s3 with heap:=s3.heap.push { cls:=.type "slice",data:=.fields #[vl,vu,.none] } } σ H3 x v vl vu l u s3.heap.objs.size Q I4 r1 (Heap.IsSliceOf.new ..) pl pu q3;show wpAny (model X.prog X.w) X.A (subscriptTail e (.Slice lo hi none p2) v (.ref s3.heap.objs.size)) (EP X pins σ Q) X.xe { s3 with heap:=s3.heap.push { cls:=.type "slice",data:=.fields #[vl,vu,.none] } };exact tail_any (ops:=[.ref s3.heap.objs.size,v]) ht hT hg (by with_unfolding_all rfl)
noncomputable def cutV(xs:List V)(lo hi:Option Int):List V:=(xs.drop (HT.sIx xs.length 0 lo)).take (HT.sIx xs.length xs.length hi-HT.sIx xs.length 0 lo)
theorem a4z(xs:List V)(lo hi:Option Int):(cutV xs lo hi).length<=xs.length:=by
 unfold cutV;rw[c0l,c0m];lia
noncomputable def rSlT(K:PySem.W.Frag):V->Option Int->Option Int->Hp->VK->Prop:=fun x lo hi H Q=>∃a xs,x=.ref a/\SqT K H a xs /\
 ¬(HT.sIx xs.length 0 lo=0/\HT.sIx xs.length xs.length hi=xs.length)/\∀p,H p=none->Q (.ref p) (upd H p (.tup (cutV xs lo hi)))
theorem b5A:SlR X (rSlT X.K):=by
 intro pins s σ H x v vl vu lo hi sl Q I rx hs pl pu h;obtain⟨a,xs,rfl,hx,hw,q⟩:=h;cases rx;obtain⟨its,r,ht,hz⟩:=I.tuple hx;have hlen:its.toArray.size=xs.length:=by rw[b8h];exact r.length.symm
 refine⟨"tuple",_,b8K.lookup,ht.typeIs,?_⟩;refine HT.getItem_tuple_cut ht hs pl pu (by rw[hlen];exact hw) ?_ (by rw[hlen];exact hz);rw[hlen];refine⟨.ref s.heap.objs.size,_,I.laid (t':=s.toks) (o:=.tup (cutV xs lo hi)) (fun b ob q=>b8d _ q) (b8k _) ?_,rfl,q _ (I.hok.fresh (b8k _))⟩;exact⟨b8G (a4z xs lo hi) hz,_,(r.drop (HT.sIx xs.length 0 lo)).take (HT.sIx xs.length xs.length hi-HT.sIx xs.length 0 lo),a2g.new _ _⟩
noncomputable def b7t(K:PySem.W.Frag):R2:=fun x y H Q=>∃a b xs ys,x=.ref a/\y=.ref b/\SqT K H a xs/\SqT K H b ys/\xs≠[]/\xs.length+ys.length<=sizeLine /\
 (ys=[]->Q (.ref a) H)/\(ys≠[]->∀p,H p=none->Q (.ref p) (upd H p (.tup (xs++ys))))
theorem Vals.nil_iff{xs:List V}{us:LSV}(r:Vals xs us):us=[]<->xs=[]:=by
 cases r with
 |nil=>simp
 |cons _ _=>simp
theorem b4w:OpR X (binaryOp .Add) (b7t X.K):=by
 intro pins s σ H x y v u Q I rx ry h;obtain⟨a,b,xs,ys,rfl,rfl,ha,hb,hx,hz,q1,q2⟩:=h;cases rx;cases ry;obtain⟨its,r1,p1,_⟩:=I.tuple ha;obtain⟨its2,r2,p2,_⟩:=I.tuple hb;refine HT.cat_tup p1 p2 (fun z=>hx (r1.nil_iff.mp z)) (fun z=>⟨.ref a,H,I,rfl,q1 (r2.nil_iff.mp z)⟩) (fun z=>?_) (by rw[<- r1.length,<- r2.length];exact hz);refine⟨.ref s.heap.objs.size,_,I.laid (t':=s.toks) (o:=.tup (xs++ys)) (fun b ob q=>b8d _ q) (b8k _) ?_,rfl,q2 (fun w=>z (r2.nil_iff.mpr w)) _ (I.hok.fresh (b8k _))⟩;exact⟨by rw[b8R];exact hz,_,r1.append r2,a2g.new _ _⟩
end
noncomputable def ixN(n:Nat)(i:Int):Option Nat:=if 0<=i then (if i<n then some i.toNat else none) else if -(n:Int)<=i then some (i+n).toNat else none
noncomputable def atI{α:Type}(xs:List α)(i:Int):Option α:=(ixN xs.length i).bind fun j=>xs[j]?
theorem b0P{n:Nat}{i:Int}{j:Nat}(h:ixN n i=some j):seqIndex? i n=some j/\j<n/\-(n:Int)<=i/\i<n:=by
 unfold ixN at h;by_cases h0:0<=i
 ·rw[if_pos h0] at h;by_cases h1:i<n
  ·rw[if_pos h1] at h;have e:i.toNat=j:=b8s h;exact⟨by rw[c3v h0 h1,e],by lia,by lia,h1⟩
  ·rw[if_neg h1] at h;cases h
 ·rw[if_neg h0] at h;by_cases h1:-(n:Int)<=i
  ·rw[if_pos h1] at h;have e:(i+n).toNat=j:=b8s h;exact⟨by rw[c3e (by lia) h1,e],by lia,h1,by lia⟩
  ·rw[if_neg h1] at h;cases h
theorem a7X{α:Type}{xs:List α}{i:Int}{v:α}(h:atI xs i=some v):∃j,seqIndex? i xs.length=some j/\xs[j]?=some v/\j<xs.length/\-(xs.length:Int)<=i/\i<xs.length:=by
 unfold atI at h;cases e:ixN xs.length i with
 |none=>rw[e] at h;cases h
 | some j =>
   rw[e] at h;obtain⟨h1,h2,h3,h4⟩:=b0P e;exact⟨j,h1,h,h2,h3,h4⟩
theorem a4E{α:Type}{xs:List α}{j:Nat}{v:α}(h:xs[j]?=some v):atI xs (j:Int)=some v:=by
 have hj:j<xs.length:=(b8C.mp h).1
 have e:ixN xs.length (j:Int)=some j:=by
  unfold ixN;rw[if_pos (by lia),if_pos (by lia)];simp
 unfold atI;rw[e];exact h
noncomputable def b1I(b:Expr):Prop:=∀o i,subscripted b false o i=operate [o,i] (getItem o i)
noncomputable def IxR(X:Cx)(r:R2):Prop :=
 ∀ (value slice:Expr) (pins:PNS) (s:b7Y) (σ:St) (H:Hp) (x y:V) (v u:b8g) (Q:VK),Inv X pins σ H s->RelV x v->RelV y u->r x y H Q ->
   subscripted slice false v u=operate [v,u] (getItem v u)->wpAny (model X.prog X.w) X.A (subscriptTail value slice v u) (EP X pins σ Q) X.xe s
noncomputable def MtR(X:Cx)(id:String)(r:V->List V->Hp->VK->Prop):Prop :=
 ∀ pins s σ H (x:V) (xs:List V) (v:b8g) (us:LSV) (Q:VK),Inv X pins σ H s->RelV x v->Vals xs us->r x xs H Q ->
   wpAny (model X.prog X.w) X.A (call (.builtin id) (v::us)) (EP X pins σ Q) X.xe s
section
variable{X:Cx}{a b:Expr}{ta tb:TE}{pos:Pos}
theorem b7x{r:R2}(hr:IxR X r)(ha:PE X a ta)(hb:PE X b tb)(hs:b1I b):PE X (.Subscript a b pos) (tOp r ta tb):=by
 intro pins s σ H Q I h;exact c3F (binT ha hb I h fun v u s2 x y H2 I2 rx ry q=>hr a b pins s2 σ H2 x y v u Q I2 rx ry q (hs _ _))
noncomputable def rIxL(K:PySem.W.Frag):R2:=fun x y H Q=>∃p xs i v,x=.ref p/\y=.int i/\SqL K H p xs/\atI xs i=some v/\Q v H
noncomputable def rIxT(K:PySem.W.Frag):R2:=fun x y H Q=>∃p xs i v,x=.ref p/\y=.int i/\SqT K H p xs/\atI xs i=some v/\Q v H
noncomputable def rIxS:R2:=fun x y H Q=>∃z i c,x=.str z/\y=.int i/\z.length<=sizeLine/\atI z.cps.toList i=some c/\Q (.str ⟨#[c]⟩) H
theorem b0O:IxR X (rIxL X.K):=by
 intro value slice pins s σ H x y v u Q I rx ry h hs;obtain⟨p,xs,i,z,rfl,rfl,hq,he,q⟩:=h;cases rx;obtain⟨t,rfl⟩:=ry;obtain⟨its,r,pl,hz⟩:=I.list hq;obtain⟨j,h1,h2,h3,h4,h5⟩:=a7X he;obtain⟨w,ew,rw'⟩:=r.get h2;have hl:=r.length;have hn:=a4e;have fin:EP X pins σ Q w s:=⟨z,H,I,rw',q⟩;by_cases h0:0<=i
 ·have hj:i.toNat=j:=by
   rw[c3v h0 h5] at h1;exact b8s h1
  exact item_listR pl.isList h0 (by lia) (by rw[hj];simpa using ew) fin hs
 ·have hj:(i+(its.toArray.size:Int)).toNat=j:=by
   rw[c3e (by lia) h4] at h1;rw[b8h,<- hl];exact b8s h1
  exact c1T (x:=w) pl.isList.typeIs c2S.lookup
   (wpAny_getItem_list_neg (Q:=fun r s'=>r=w/\EP X pins σ Q r s') pl.isList (by lia) (by rw[b8h]<;>lia) (by lia) (by rw[hj];simpa using ew) ⟨rfl,fin⟩) hs
theorem b6E:IxR X (rIxT X.K):=by
 intro value slice pins s σ H x y v u Q I rx ry h hs;obtain⟨p,xs,i,z,rfl,rfl,hq,he,q⟩:=h;cases rx;obtain⟨t,rfl⟩:=ry;obtain⟨its,r,pl,hz⟩:=I.tuple hq;obtain⟨j,h1,h2,h3,h4,h5⟩:=a7X he;obtain⟨w,ew,rw'⟩:=r.get h2;have hl:=r.length;have hn:=a4e;have fin:EP X pins σ Q w s:=⟨z,H,I,rw',q⟩;exact c1T (x:=w) pl.typeIs slot_tuple_getitem.lookup
  (getItem_tuple (j:=j) (Q:=fun r s'=>r=w/\EP X pins σ Q r s') pl (by lia) (by lia) (by rw[b8h,<- hl];exact h1) (by simpa using ew) ⟨rfl,fin⟩) hs
theorem b6F:IxR X rIxS:=by
 intro value slice pins s σ H x y v u Q I rx ry h hs;obtain⟨z,i,c,rfl,rfl,hz,he,q⟩:=h;obtain⟨t,rfl⟩:=rx;obtain⟨t',rfl⟩:=ry;obtain⟨j,h1,h2,h3,h4,h5⟩:=a7X he;have hl:z.cps.toList.length=z.length:=by simp[Str.length]
 rw[hl] at h1 h4 h5;have hn:=a4e
 exact tail_any (c0P s z t) slot_str_getitem.lookup (getItem_str (c:=c) (by
  have e1:decide (i < -(2^63:Int))=false:=decide_eq_false (by lia);have e2:decide (i >= 2^63)=false:=decide_eq_false (by lia)
  rw[e1,e2,c3I]) (by rw[h1];simpa using h2) ⟨.str ⟨#[c]⟩,H,I.tok _,⟨_,rfl⟩,q⟩) hs
theorem a9o(its:LSV)(n j:Nat)(u:b8g):c2n (·.setIfInBounds j u) { cls:=.type "list",data:=.seq its.toArray n }={ cls:=.type "list",data:=.seq (its.set j u).toArray n }:=by
 simp[c2n]
theorem Inv.lst{pins:PNS}{σ:St}{H:Hp}{s:b7Y}{p:Addr}{xs:List V}(I:Inv X pins σ H s)(h:H p=some (.lst xs)) :
  ∃(its:LSV) (n:Nat),Vals xs its/\s.heap.get? p=some { cls:=.type "list",data:=.seq its.toArray n }/\xs.length<=sizeLine:=by
 obtain⟨z,its,n,r,e⟩:=I.hok p _ h;exact⟨its,n,r,e,z⟩
theorem Inv.lstUpd{pins:PNS}{σ:St}{H:Hp}{s:b7Y}{p:Addr}{xs ys:List V}{its its':LSV}{n n':Nat}{f:Obj->Obj}(I:Inv X pins σ H s)(h:H p=some (.lst xs))
  (ho:s.heap.get? p=some { cls:=.type "list",data:=.seq its.toArray n }) (hf:f { cls:=.type "list",data:=.seq its.toArray n }={ cls:=.type "list",data:=.seq its'.toArray n' }) (r:Vals ys its') (hz:ys.length<=sizeLine) (t:Nat) :
  Inv X pins σ (upd H p (.lst ys)) { s with heap:=s.heap.update p f,toks:=t }:=by
 have e:(s.heap.update p f).get? p=some { cls:=.type "list",data:=.seq its'.toArray n' }:=by
  rw[b8Y f ho (by rw[hf]<;>rfl),hf]
 refine I.write (x:=p) (e:=p) (by rw[h];trivial) (.inl rfl) (fun b u hb q=>(b8I _ _ (b9t hb)).trans q) ⟨_,e⟩ ?_;exact⟨hz,its',n',r,e⟩
noncomputable def b7r:V->V->V->Hp->(Hp->Prop)->Prop:=fun o i v H Q=>∃p xs k j,o=.ref p/\i=.int k/\H p=some (.lst xs)/\ixN xs.length k=some j/\Q (upd H p (.lst (xs.set j v)))
theorem b1S:PSet X b7r:=by
 intro pins s σ H o i v ov iv u Q I ro ri rv h;obtain⟨p,xs,k,j,rfl,rfl,hp,hj,q⟩:=h;cases ro;obtain⟨t,rfl⟩:=ri;obtain⟨its,n,r,ho,hz⟩:=I.lst hp;obtain⟨h1,h2,h3,h4⟩:=b0P hj;have hl:=r.length;have hn:=a4e
 have I':Inv X pins σ (upd H p (.lst (xs.set j v))) { s with heap:=s.heap.update p (c2n (·.setIfInBounds j u)) } :=
  I.lstUpd hp ho (a9o its n j u) (r.set rv j) (by rw[c0u];exact hz) s.toks
 by_cases h0:0<=k
 ·have hk:k.toNat=j:=by
   rw[c3v h0 h4] at h1;exact b8s h1
  exact PySem.W.ki_setAt ho h0 (by lia) (by rw[b8h,<- hl];exact h4) (by rw[hk];exact⟨_,I',q⟩)
 ·have hk:(k+(its.toArray.size:Int)).toNat=j:=by
   rw[c3e (by lia) h3] at h1;rw[b8h,<- hl];exact b8s h1
  exact PySem.W.ki_setBack ho (by lia) (by rw[b8h,<- hl];exact h3) (by lia) (by rw[hk];exact⟨_,I',q⟩)
theorem a6k(lo hi:Option Int)(n:Nat):(sliceBounds lo hi none n).1=((HT.sIx n 0 lo:Nat):Int)/\(sliceBounds lo hi none n).2.1=((HT.sIx n n hi:Nat):Int)/\(sliceBounds lo hi none n).2.2=1:=by
 refine⟨?_,?_,rfl⟩
 ·cases lo with
  |none=>simp[sliceBounds,HT.sIx]
  | some i =>
    simp only[sliceBounds,HT.sIx,c3h,show(1:Int)>0 by decide,if_true];by_cases h:i<0
    ·simp only[h,if_true]<;>lia
    ·simp only[h,if_false]<;>lia
 ·cases hi with
  |none=>simp[sliceBounds,HT.sIx]
  | some i =>
    simp only[sliceBounds,HT.sIx,c3h,show(1:Int)>0 by decide,if_true];by_cases h:i<0
    ·simp only[h,if_true]<;>lia
    ·simp only[h,if_false]<;>lia
theorem a5y(its:LSV)(lo hi:Option Int):slicePick its.toArray lo hi none=((its.drop (HT.sIx its.length 0 lo)).take (HT.sIx its.length its.length hi-HT.sIx its.length 0 lo)).toArray:=by
 obtain⟨h1,h2,h3⟩:=a6k lo hi its.toArray.size;unfold slicePick;rw[h1,h2,h3];simp only[sliceRange_one,pick_run,b8h]<;>rfl
noncomputable def rSlL(K:PySem.W.Frag):V->Option Int->Option Int->Hp->VK->Prop:=fun x lo hi H Q=>∃a xs,x=.ref a/\SqL K H a xs/\∀p,H p=none->Q (.ref p) (upd H p (.lst (cutV xs lo hi)))
theorem b3P:SlR X (rSlL X.K):=by
 intro pins s σ H x v vl vu lo hi sl Q I rx hs pl pu h;obtain⟨a,xs,rfl,hx,q⟩:=h;cases rx;obtain⟨its,r,ht,hz⟩:=I.list hx;have hlen:=r.length;refine⟨"list",_,c2S.lookup,ht.isList.typeIs,?_⟩;refine wpAny_getItem_list_slice ht.isList hs pl pu .none (by simp) ?_ (by rw[b8h]<;>lia);rw[a5y,<- hlen];refine⟨.ref s.heap.objs.size,_,I.laid (t':=s.toks) (o:=.lst (cutV xs lo hi)) (fun b ob q=>b8d _ q) (b8k _) ?_,rfl,q _ (I.hok.fresh (b8k _))⟩;exact⟨b8G (a4z xs lo hi) hz,_,0,(r.drop (HT.sIx xs.length 0 lo)).take (HT.sIx xs.length xs.length hi-HT.sIx xs.length 0 lo),b8A _ rfl⟩
noncomputable def a4Q:V->Bool
 |.non=>true
 |.bl _=>true
 |.int _=>true
 |.str _=>true
 |_=>false
noncomputable def eqV:V->V->Bool
 |.non,.non=>true
 |.bl a,.bl b=>a==b
 |.bl a,.int b=>(if a then 1 else 0)==b
 |.int a,.bl b=>a==(if b then 1 else 0)
 |.int a,.int b=>a==b
 |.str a,.str b=>a==b
 |_,_=>false
theorem b6T{A:b8w}{s:b7Y}{y x:V}{u v:b8g}(ry:RelV y u)(rx:RelV x v)(fy:a4Q y=true)(fx:a4Q x=true):c0C A s u v (eqV y x):=by
 cases y with
 | non =>
   cases ry;cases x with
   |non=>cases rx;exact SeqAt.EqAt.same _
   |bl b=>cases rx;exact SeqAt.EqAt.none_bool b
   |int b=>obtain⟨t,rfl⟩:=rx;exact SeqAt.EqAt.none_int b t
   |str b=>obtain⟨t,rfl⟩:=rx;exact SeqAt.EqAt.none_str b t
   |_=>exact absurd (show false=true from fx) b8v
 | bl a =>
   cases ry;cases x with
   |non=>cases rx;exact SeqAt.EqAt.bool_none a
   |bl b=>cases rx;exact SeqAt.EqAt.bool_bool a b
   |int b=>obtain⟨t,rfl⟩:=rx;exact SeqAt.EqAt.bool_int a b t
   |str b=>obtain⟨t,rfl⟩:=rx;exact SeqAt.EqAt.bool_str a b t
   |_=>exact absurd (show false=true from fx) b8v
 | int a =>
   obtain⟨t',rfl⟩:=ry;cases x with
   |non=>cases rx;exact SeqAt.EqAt.int_none a t'
   |bl b=>cases rx;exact SeqAt.EqAt.int_bool a t' b
   |int b=>obtain⟨t,rfl⟩:=rx;exact SeqAt.EqAt.int_int a t' b t
   |str b=>obtain⟨t,rfl⟩:=rx;exact c2E a t' b t
   |_=>exact absurd (show false=true from fx) b8v
 | str a =>
   obtain⟨t',rfl⟩:=ry;cases x with
   |non=>cases rx;exact SeqAt.EqAt.str_none a t'
   |bl b=>cases rx;exact SeqAt.EqAt.str_bool a t' b
   |int b=>obtain⟨t,rfl⟩:=rx;exact c2F a t' b t
   |str b=>obtain⟨t,rfl⟩:=rx;exact SeqAt.EqAt.str_str a t' b t
   |_=>exact absurd (show false=true from fx) b8v
 |_=>exact absurd (show false=true from fy) b8v
noncomputable def eqU(x:V)(u:b8g):Bool:=match u with
 |.none=>eqV .non x
 |.bool b=>eqV (.bl b) x
 |.int i _=>eqV (.int i) x
 |.str z _=>eqV (.str z) x
 |_=>false
theorem b3v{x y:V}{u:b8g}(r:RelV y u)(f:a4Q y=true):eqU x u=eqV y x:=by
 cases y with
 |non=>cases r;rfl
 |bl b=>cases r;rfl
 |int i=>obtain⟨t,rfl⟩:=r;rfl
 |str z=>obtain⟨t,rfl⟩:=r;rfl
 |_=>exact absurd (show false=true from f) b8v
theorem a7Y{x:V}:∀{xs:List V} {us:LSV},Vals xs us->xs.all a4Q=true->us.any (eqU x)=xs.any fun y=>eqV y x
 |_,_,.nil,_=>rfl
 | y::xs,u::us,.cons r t,f=>by
   rw[c0f,b8m] at f;rw[b8U,b8U,b3v r f.1,a7Y t f.2]
theorem a5O{A:b8w}{s:b7Y}{x:V}{v:b8g}(rx:RelV x v)(fx:a4Q x=true):∀{xs:List V} {us:LSV},Vals xs us->xs.all a4Q=true->∀u∈us,c0C A s u v (eqU x u)
 |_,_,.nil,_=>fun u hu=>by cases hu
 | y::xs,u::us,.cons r t,f=>fun u' hu=>by
   rw[c0f,b8m] at f;rcases b8l.mp hu with rfl|hu
   ·rw[b3v r f.1];exact b6T r rx f.1 fx
   ·exact a5O rx fx t f.2 u' hu
noncomputable def inV(x:V)(xs:List V):Bool:=xs.any fun y=>eqV y x
noncomputable def rIn(K:PySem.W.Frag)(neg:Bool):R2:=fun x y H Q=>∃p xs,y=.ref p/\(SqL K H p xs\/SqT K H p xs)/\a4Q x=true/\xs.all a4Q=true/\Q (.bl (if neg then !inV x xs else inV x xs)) H
theorem b0t:OpR X (compareOp .In) (rIn X.K false):=by
 intro pins s σ H x y v u Q I rx ry h;obtain⟨p,xs,rfl,hq,fx,fs,q⟩:=h;cases ry;rcases hq with hq|hq
 ·obtain⟨its,r,pl,hz⟩:=I.list hq;refine SeqAt.in_listAt (eqU x) pl.isList (fun w hw=>a5O rx fx r fs w (by simpa using hw)) ⟨.bl _,H,I,rfl,?_⟩;rw[show its.toArray.any (eqU x)=its.any (eqU x) by simp,a7Y r fs];exact q
 ·obtain⟨its,r,pl,hz⟩:=I.tuple hq;refine SeqAt.in_tupleAt (eqU x) pl (fun w hw=>a5O rx fx r fs w (by simpa using hw)) ⟨.bl _,H,I,rfl,?_⟩;rw[show its.toArray.any (eqU x)=its.any (eqU x) by simp,a7Y r fs];exact q
theorem a2w:a6b X (.builtin "len") (fun xs H Q=>∃p ys,xs=[.ref p]/\(SqL X.K H p ys\/SqT X.K H p ys)/\Q (.int ys.length) H):=by
 intro pins s σ H xs us Q I r h;obtain⟨p,ys,rfl,hq,q⟩:=h;obtain⟨u,rfl,rx⟩:=a2L r;cases rx;have hn:=a4e;rcases hq with hq|hq
 ·obtain⟨its,r',pl,hz⟩:=I.list hq;have hlen:=r'.length;exact Calls.call_len_list pl.isList (by simp only[b8h]<;>lia) ⟨.int ys.length,H,I.tok _,⟨s.toks+1,by rw[b8h,hlen]⟩,q⟩
 ·obtain⟨its,r',pl,hz⟩:=I.tuple hq;have hlen:=r'.length;exact len_tuple pl (by simp only[b8h]<;>lia) ⟨.int ys.length,H,I.tok _,⟨s.toks+1,by rw[b8h,hlen]⟩,q⟩
theorem a7c:a6b X (.builtin "len") (fun xs H Q=>∃z,xs=[.str z]/\z.length<=sizeLine/\Q (.int z.length) H):=by
 intro pins s σ H xs us Q I r h;obtain⟨z,rfl,hz,q⟩:=h;obtain⟨u,rfl,t,rfl⟩:=a2L r;have hn:=a4e;exact len_str (by lia) ⟨.int z.length,H,I.tok _,⟨_,rfl⟩,q⟩
theorem a2a:a6b X (.type "tuple") (fun xs H Q=>∃p ys,xs=[.ref p]/\((SqL X.K H p ys/\∀l,H l=none->Q (.ref l) (upd H l (.tup ys)))\/(SqT X.K H p ys/\Q (.ref p) H))):=by
 intro pins s σ H xs us Q I r h;obtain⟨p,ys,rfl,h⟩:=h;obtain⟨u,rfl,rx⟩:=a2L r;cases rx;rcases h with ⟨hq,q⟩|⟨hq,q⟩
 ·obtain⟨its,r',pl,hz⟩:=I.list hq;have hlen:=r'.length;refine call_tuple_list pl.isList (fun h' kp=>?_) (by simp only[b8h]<;>lia);have I1:Inv X pins σ H { s with heap:=h' }:=I.kept (t':=s.toks) kp
  have I2:Inv X pins σ (upd H h'.objs.size (.tup ys)) { s with heap:=h'.push { cls:=.type "tuple",data:=.seq its.toArray } } :=
   I1.laid (t':=s.toks) (fun b o e=>b8d _ e) (b8k _) (show a0Y X.prog X.w _ _ _ (.tup ys) from ⟨hz,its,r',a2g.new _ _⟩)
  exact⟨.ref h'.objs.size,_,I2,rfl,q _ (I1.hok.fresh (b8k _))⟩
 ·obtain⟨its,r',pl,hz⟩:=I.tuple hq;exact call_tuple_same pl ⟨.ref p,H,I,rfl,q⟩
noncomputable def tyV(K:PySem.W.Frag)(T:String)(x:V)(H:Hp):Prop:=match x with
 |.str _=>T="str"
 |.int _=>T="int"
 | .ref p=>(T="list"/\∃xs,SqL K H p xs)\/(T="tuple"/\∃o,K.lookup p=some o/\o.cls=.type "tuple"/\o.dict=none) \/
   (T="dict"/\((∃kvs,H p=some (.dK kvs))\/∃kvs,H p=some (.dT kvs)))\/(T="set"/\∃S n,H p=some (.set S n))
 |_=>False
theorem b5k{pins:PNS}{σ:St}{H:Hp}{s:b7Y}{T:String}{x:V}{v:b8g}(I:Inv X pins σ H s)(r:RelV x v)(ty:tyV X.K T x H) :
  s.TypeIs v T/\∀a,v=.ref a->∃ob,s.heap.get? a=some ob/\ob.dict=none:=by
 cases x with
 | str z =>
   obtain⟨t,rfl⟩:=r;cases (show T="str" from ty);exact⟨c0P s z t,fun _ e=>nomatch e⟩
 | int i =>
   obtain⟨t,rfl⟩:=r;cases (show T="int" from ty);exact⟨c2o s i t,fun _ e=>nomatch e⟩
 | ref p =>
   cases r;rcases ty with ⟨rfl,xs,hq⟩|⟨rfl,o,hk,hc,hd⟩|⟨rfl,hk⟩|⟨rfl,S,n,hk⟩
   ·obtain⟨its,_,pl,_⟩:=I.list hq;refine⟨pl.isList.typeIs,fun a e=>?_⟩;cases e;obtain⟨o,n,e,c,hd,_⟩:=pl;exact⟨o,e,hd⟩
   ·refine⟨⟨o,I.kIn p o hk,hc⟩,fun a e=>?_⟩;cases e;exact⟨o,I.kIn _ o hk,hd⟩
   ·have z:∃o,s.heap.get? p=some o/\o.ExactDict:=by
     rcases hk with ⟨kvs,hk⟩|⟨kvs,hk⟩
     ·obtain⟨_,_,_,_,o,_,_,e,ex,_⟩:=I.hok p _ hk;exact⟨o,e,ex⟩
     ·obtain⟨_,_,_,_,o,_,_,e,ex,_⟩:=I.hok p _ hk;exact⟨o,e,ex⟩
    obtain⟨o,e,ex⟩:=z;refine⟨⟨o,e,ex.1⟩,fun a e2=>?_⟩;cases e2;exact⟨o,e,ex.2.1⟩
   ·obtain⟨o,_,_,_,e,ex,_⟩:=I.hok p _ hk;refine⟨⟨o,e,ex.1⟩,fun a e2=>?_⟩;cases e2;exact⟨o,e,ex.2.1⟩
 |_=>exact b8D ty
noncomputable def tBM(K:PySem.W.Frag)(T:String)(r:V->List V->Hp->VK->Prop)(to:TE)(t:TA):TE:=fun σ H Q=>to σ H fun x H1=>tyV K T x H1/\t σ H1 fun xs H2=>r x xs H2 Q
variable{o e:Expr}{es:LSE}{to:TE}{t:TA}{name:Str}{apos cpos:Pos}{T id:String}{r:V->List V->Hp->VK->Prop}
noncomputable abbrev QLL(apos cpos:Pos):Prop:=(apos.endLine==cpos.line)=true
noncomputable abbrev QFF(X:Cx)(cpos:Pos)(e:Expr)(es:LSE):Prop:=((backTo cpos (starEach (e::es) X.env)).all (fun x=>!x.1)&&(backToKw cpos (keywordEach [] X.env)).all (fun x=>x.1.isSome)
   && decide ((e::es).length+([]:List c1Y).length+(if ([]:List c1Y).isEmpty then 0 else 1)<30))=true
theorem b6g(pa:PlainAttrs T)(slot:Slot T name id)(hty:typeOf (.builtin id)=pure (.type "method_descriptor"))(hm:MtR X id r)(ho:PE X o to)(ha:PA X (e::es) t)
  (hbase:attributeBase o name X.env (eval o X.env)=eval o X.env:=by rfl)
  (hfew:QFF X cpos e es:=by rfl)
  (hline:QLL apos cpos:=by rfl) (hs:QSS X e es:=by rfl) (hplain:QPP X cpos es:=by rfl) :
  PE X (.Call (.Attribute o name apos) (e::es) [] cpos) (tBM X.K T r to t):=by
 intro pins s σ H Q I h;refine wpAny_Call_method_late hbase hfew hline rfl (thn (ho pins s σ H _ I h) fun v s1 ⟨x,H1,I1,r1,ty,q1⟩=>?_);obtain⟨h1,h2⟩:=b5k I1 r1 ty;refine⟨T,id,pa,slot,hty,h1,h2,?_⟩;have hA:=ha cpos pins s1 σ H1 _ I1 q1
 rw[hs] at hA|-
 refine c0y (by show(false||(backTo cpos (starEach es X.env)).any (·.1))=false;rw[hplain]<;>rfl) (b9E ?_)
 exact thn hA fun us s2 ⟨vs,H2,I2,r2,q2⟩=>hm pins s2 σ H2 x vs v us Q I2 r1 r2 q2
end
noncomputable def MtM(X:Cx)(id:String)(r:V->List V->Hp->VK->Prop):Prop :=
 ∀ pins s σ H (x:V) (xs:List V) (v:b8g) (us:LSV) (Q:VK),Inv X pins σ H s->RelV x v->Vals xs us->r x xs H Q ->
   wpAny (model X.prog X.w) X.A (call (.builtin id) (v::us)) (EP X pins σ Q) X.xe s
theorem Vals.one:∀{x:V} {us:LSV},Vals [x] us->∃u,us=[u]/\RelV x u
 |_,_,.cons r .nil=>⟨_,rfl,r⟩
theorem Vals.reverse{xs:List V}{us:LSV}(h:Vals xs us):Vals xs.reverse us.reverse:=by
 induction h with
 |nil=>exact .nil
 |cons r t ih=>rw[c0D,c0D];exact Vals.append ih (.cons r .nil)
theorem Vals.rep{xs:List V}{us:LSV}(h:Vals xs us):∀k:Nat,Vals (b8p k xs).flatten (b8p k us).flatten
 |0=>.nil
 | k+1=>by
   rw[b8P,b8P,b9H,b9H];exact Vals.append h (Vals.rep h k)
theorem a4s(its:LSV):∀(k:Nat) (acc:LSV),
  c1B (fun x1 x2=>x1++x2) acc.toArray (b8p k its.toArray)=(acc++(b8p k its).flatten).toArray
 |0,acc=>by simp
 | k+1,acc=>by
   have e:acc.toArray++its.toArray=(acc++its).toArray:=by simp
   have e2:(acc++its)++(b8p k its).flatten=acc++(b8p (k+1) its).flatten:=by
    rw[b8P,b9H,c0E]
   rw[<- e2,<- a4s its k (acc++its),<- e,b8P,b9Y]
section
variable{X:Cx}{pins:PNS}{σ:St}{H:Hp}{s:b7Y}{l b:Addr}{xs ys zs:List V}
theorem Inv.lset{its its':LSV}{n:Nat}{f:Array b8g->Array b8g}{t':Nat}(I:Inv X pins σ H s)(hH:H l=some (.lst xs))
  (e:s.heap.get? l=some { cls:=.type "list",data:=.seq its.toArray n }) (hf:f its.toArray=its'.toArray) (hv:Vals ys its') (hz:ys.length<=sizeLine) :
  Inv X pins σ (upd H l (.lst ys)) { s with heap:=s.heap.update l (c2n f),toks:=t' }:=by
 have q:=PySem.IsL.update e f;rw[hf] at q;refine I.write (x:=l) (e:=l) (by rw[hH];exact trivial) (.inl rfl) (fun b' u hb hu=>(b8I s.heap (c2n f) (b9t hb)).trans hu) ⟨_,q⟩ ?_;exact⟨hz,its',_,hv,q⟩
theorem Inv.lnew{its:LSV}{t':Nat}(I:Inv X pins σ H s)(hv:Vals ys its)(hz:ys.length<=sizeLine) :
  Inv X pins σ (upd H s.heap.objs.size (.lst ys)) { s with heap:=s.heap.push { cls:=.type "list",data:=.seq its.toArray },toks:=t' } :=
 I.laid (fun _ _ q=>b8d _ q) (b8k _) ⟨hz,its,0,hv,b8A _ rfl⟩
theorem Inv.fresh(I:Inv X pins σ H s):H s.heap.objs.size=none:=I.hok.fresh (b8k _)
theorem Inv.lstM(I:Inv X pins σ H s)(hH:H l=some (.lst xs)):xs.length<=sizeLine/\∃(its:LSV) (n:Nat),Vals xs its/\xs.length=its.length/\s.heap.get? l=some { cls:=.type "list",data:=.seq its.toArray n }:=by
 obtain⟨z,its,n,r,e⟩:=I.hok l _ hH;exact⟨z,its,n,r,r.length,e⟩
theorem b2x{n:Nat}(h:n<=sizeLine):c0r n=false:=by
 unfold c0r;exact decide_eq_false (by lia)
end
section
variable{X:Cx}
noncomputable def b4f:V->List V->Hp->VK->Prop:=fun x vs H Q=>∃l xs y,x=.ref l/\vs=[y]/\H l=some (.lst xs)/\xs.length<sizeLine/\Q .non (upd H l (.lst (xs++[y])))
theorem b0E:MtM X "list.append" b4f:=by
 intro pins s σ H x vs v us Q I rx rv h;obtain⟨l,xs,y,rfl,rfl,hH,hz,q⟩:=h;cases rx;obtain⟨u,rfl,ru⟩:=rv.one;obtain⟨z,its,n,r,hl,e⟩:=I.lstM hH;refine c0g F.slot_list_append ⟨_,e,rfl⟩ F.entry_list_append (F.args_list_append_2 _ _) (PySem.list_append l its.toArray n u (by rw[b8h];lia)) ⟨e,?_⟩;refine⟨.non,_,I.lset (its':=its++[u]) hH e (by simp) (r.append (.cons ru .nil)) ?_,rfl,q⟩;rw[b8R,b9Z];lia
noncomputable def rCat:R2:=fun x y H Q=>∃l b xs zs,x=.ref l/\y=.ref b/\H l=some (.lst xs)/\H b=some (.lst zs)/\xs.length+zs.length<=sizeLine/\∀p,H p=none->Q (.ref p) (upd H p (.lst (xs++zs)))
theorem b6p:OpR X (binaryOp .Add) rCat:=by
 intro pins s σ H x y v u Q I rx ry h;obtain⟨l,b,xs,zs,rfl,rfl,hH,hB,hz,q⟩:=h;cases rx;cases ry;obtain⟨z,its,n,r,hl,e⟩:=I.lstM hH;obtain⟨z2,its2,n2,r2,hl2,e2⟩:=I.lstM hB;refine PySem.P.add_list e e2 ?_ (by rw[b8h,b8h];lia);have ea:its.toArray++its2.toArray=(its++its2).toArray:=by simp
 rw[ea];exact⟨.ref _,_,I.lnew (t':=s.toks) (r.append r2) (by rw[b8R];lia),rfl,q _ I.fresh⟩
noncomputable def rRep:R2:=fun x y H Q=>∃l k xs,x=.ref l/\y=.int k/\H l=some (.lst xs)/\-(2^63)<=k/\k<2^63/\xs.length*k.toNat<=sizeLine /\
 ∀p,H p=none->Q (.ref p) (upd H p (.lst (b8p k.toNat xs).flatten))
theorem a7K{α:Type}(xs:List α)(k:Nat):(b8p k xs).flatten.length=k*xs.length:=by
 induction k with
 |zero=>simp
 |succ k ih=>rw[b8P,b9H,b8R,ih,c3O,Nat.add_comm]
theorem b6k:OpR X (binaryOp .Mult) rRep:=by
 intro pins s σ H x y v u Q I rx ry h;obtain⟨l,k,xs,rfl,rfl,hH,h1,h2,hz,q⟩:=h;cases rx;obtain⟨t,rfl⟩:=ry;obtain⟨z,its,n,r,hl,e⟩:=I.lstM hH;have hlen:its.toArray.size*k.toNat<=sizeLine:=by rw[b8h,<- hl];exact hz
 have hcap:¬its.toArray.size*k.toNat>(2^63-1) / 8:=by
  have:(sizeLine:Nat)<=(2^63-1) / 8:=by decide
  lia
 have hfit:¬(!Builtin.List.listFitsIndex k)=true:=by
  rw[fitsIndex_both h1 h2];exact b8v
 have hlong:¬c0r (its.toArray.size*k.toNat)=true:=by
  rw[b2x hlen];exact b8v
 have hnew:c1B (fun x1 x2=>x1++x2) #[] (b8p (if its.toArray.isEmpty=true then 0 else k.toNat) its.toArray)=(b8p k.toNat its).flatten.toArray:=by
  have f0:∀m:Nat,c1B (fun x1 x2=>x1++x2) #[] (b8p m its.toArray)=(b8p m its).flatten.toArray:=fun m=>by
   have:=a4s its m [];rw[c0a] at this;exact this
  rw[f0];cases its with
  |nil=>simp
  |cons a r'=>rw[if_neg (by simp)]
 refine c1t (T:="list") (U:="int") (by decide) ⟨_,e,rfl⟩ (fun s'=>c2o s' k t) noFill_list_mul c3w c0U repeat_list c3i.lookup
  (c0g c0U (c2o s k t) c3j (c2T _ _) (int___rmul___int_list k t l its.toArray n)
   ⟨e,rfl,⟨_,e,rfl⟩,c0g F.slot_list_mul ⟨_,e,rfl⟩ F.entry_list_mul (F.args_list_mul_2 _ _) (AutoListH.list___mul___list_int_3 l its.toArray n k t hfit hcap hlong) ⟨e,?_⟩⟩)
 rw[hnew];exact⟨.ref _,_,I.lnew (t':=s.toks) (r.rep k.toNat) (by rw[a7K,c1Z];exact hz),rfl,q _ I.fresh⟩
end
section
variable{prog:b8n}{w:b8F}{A:b8w}{E:VPR}{s:b7Y}
end
section
variable{X:Cx}
end
end L2
namespace Att
open PySem PySem.W PySem.Calls PyProof.Rows
theorem a4m{P:Params}{h:Heap}:∀(ns:LSI) (vs:LSV),WellAll P h vs (ns.map WData.int)->c3J vs ns:=by
 intro ns
 induction ns with
 | nil =>
   intro vs w;rw[c2a] at w;cases w;exact .nil
 | cons n ns ih =>
   intro vs w;rw[b8o] at w;cases w with
   | cons a b =>
     cases a;exact .cons _ _ (ih _ b)
theorem a9W{l:OpenLaw}{n:Nat}(hn:l.most=some n){P:Params}{h:Heap}{args:List WData}{vals:LSV}
  (hpre:l.row.toRowW.claim.pre args=true) (hwl:WellAll P h vals args) :
  ∃a vs ns,vals=[b8z a]/\args=[WData.list (ns.map WData.int)]/\h.get? a=some { cls:=.type "list",data:=.seq vs.toArray }/\c3J vs ns/\ns.length<=n:=by
 have hsh:WShape.hasAll [] args [.list .int]=true:=(pre_splitW hpre).1;have hc:l.pre.holds [] { args:=args }=true:=(pre_splitW hpre).2;obtain⟨d,r,rfl,h1,h2⟩:=hasAllW_cons hsh;obtain rfl:=hasAllW_nil h2;obtain⟨xs,rfl,h3⟩:=hasW_list h1;obtain⟨ns,rfl⟩:=items_int h3
 have hlen:ns.length<=n:=by
  unfold OpenLaw.pre at hc
  have h4:(WTm.not (.lt (.lit (.int (n:Int))) (.len (.arg 0)))).holds [] { args:=[.list (ns.map .int)] }=true:=by
   have h4:=(holds_andW hc).1;rw[hn] at h4;exact h4
  have h5:=condW_of h4 (w_not (w_lt w_lit (w_len_list (w_arg rfl))));rw[b8f] at h5;refine Nat.le_of_not_lt fun q=>?_;have q':(n:Int)<((ns.length:Nat):Int):=by lia
  first
   |(rw[decide_eq_true q'] at h5;exact absurd h5 (by decide))
   |(simp at h5;lia)
 cases hwl with
 | cons w1 w2 =>
   cases w2;cases w1 with
   |list ho hall=>exact⟨_,_,ns,rfl,rfl,ho,a4m ns _ hall,hlen⟩
theorem b0o(l:OpenLaw)(args:List WData):l.row.toRowW.claim.post args (.bool true) args=true :=
 postW_of (r:=l.row.toRowW) (X:=(true==true))
  (show WShape.has [] (.bool true) .bool=true by first|rfl|decide|simp[WShape.has,WShape.arms,WShape.armsAll])
  (show(WTm.eq .res (.lit (.bool true))).value [] { args:=args,res:=some (.bool true),after:=args }=some (.bool (true==true)) from w_eq_bool (w_res rfl) w_lit) rfl
section
variable{prog:b8n}{w:b8F}{A:b8w}{E:VPR}{s:b7Y}{K:Frag}
end
end Att
namespace L2
open PySem PySem.Spec PyProof.Rows
theorem a6d:∀{vs:LSV} {ns:LSI},c3J vs ns->Vals (ns.map V.int) vs
 |_,_,.nil=>.nil
 |_,_,.cons n t h=>.cons ⟨t,rfl⟩ (a6d h)
noncomputable def Only(H:Hp):Prop:=∀b,H b=none\/∃o xs,H b=some (.frz o (.lst xs))
noncomputable def a4n(s:Stmt)(j:Nat):Stmt:=match s with
 |.ClassDef _ _ _ body _ _ _ _ _ _ _=>body.getD j (.Pass ⟨0,0,0,0⟩)
 |_=>.Pass ⟨0,0,0,0⟩
noncomputable def a2t(s:Stmt):c3N:=match s with
 |.FunctionDef _ a _ _ _ _ _ _ _ _=>a
 |_=>{ posonlyargs:=[],args:=[],vararg:=none,kwonlyargs:=[],kw_defaults:=[],kwarg:=none,defaults:=[] }
noncomputable def a0K(s:Stmt):List Stmt:=match s with
 |.FunctionDef _ _ b _ _ _ _ _ _ _=>b
 |_=>[]
noncomputable def a0b(s:Stmt):c0t:=match s with
 |.FunctionDef _ _ _ _ _ _ sc _ _ _=>sc
 |_=>{ kind:=.function,names:=[],isGenerator:=false,isCoroutine:=false }
noncomputable abbrev CX0:CXT:=fun _ _ _ _ _ _=>False
noncomputable abbrev E0:XK:=fun _ _ _=>False
theorem b4t{X:Cx}:a5k CX0 X E0:=fun _ _ _ _ _ _ _ h=>h.elim
structure Fun(K:PySem.W.Frag)(x qual:Str)(st:Stmt)(f:Addr)(fd:b9d):Prop where
 ex:∃(oc:b8g) (od:Option Addr) (kV doc pm:b8g) (an:Option Addr) (cdv ct:b8g) (osl:AOV),
  fd=PySem.W.fnOf x qual (a2t st) (a0K st) (a0b st) .none kV doc pm an cdv ct/\K.lookup f=some ⟨oc,od,.func fd,osl⟩/\PySem.W.codeIn K cdv qual=true
 kp:PySem.W.keepIn K (.ref f)=true
section
variable{P:b8n}{w:b8F}{K:PySem.W.Frag}{mg:SOV}{base:Heap}
theorem Fun.ok{x qual:Str}{st:Stmt}{f:Addr}{fd:b9d}{N ps:LSS}{k:Nat}{sp:Sp}(F:Fun K x qual st f fd)(S:FnScope N ps (a0b st))(len:∀vs H Q E,sp vs H Q E->vs.length=ps.length)
  (hbody:∀(cdv:b8g) (A:b8w) (outer:List Env) (s:b7Y) (H:Hp) (vs:List V) (Q:VK) (E:XK),Room k (A.deeper (envOfC qual (a0b st) s.heap.objs.size f cdv))->sp vs H Q E ->
   ∃t,PSs (cxOf CX0 P w K mg base N qual (a0b st) f cdv A outer s H E).nox (a0K st) t/\t { nx:=fun _ H'=>Q .non H',rt:=Q } (start N vs) H):FnOk P w K mg base CX0 (k+1) f fd ps sp:=by
 obtain⟨oc,od,kV,doc,pm,an,cdv,ct,osl,rfl,lk,hcd⟩:=F.ex;refine b4U lk hcd S len fun A outer s H vs Q E hr hsp=>?_;obtain⟨t,h,q⟩:=hbody cdv A outer s H vs Q E hr hsp;exact⟨t,h.nox,q⟩
theorem Fun.binds{x qual:Str}{st:Stmt}{f:Addr}{fd:b9d}{ps:LSS}(F:Fun K x qual st f fd)
  (h:∀(kV doc pm:b8g) (an:Option Addr) (cdv ct:b8g) (us:LSV),us.length=ps.length->bindArgs (PySem.W.fnOf x qual (a2t st) (a0K st) (a0b st) .none kV doc pm an cdv ct) ⟨us,[]⟩=pure (ps.zip us)):a1l K fd ps []:=by
 obtain⟨oc,od,kV,doc,pm,an,cdv,ct,osl,rfl,lk,hcd⟩:=F.ex;exact .all (h kV doc pm an cdv ct)
theorem a5d{x qual:Str}{st:Stmt}{f:Addr}{oc:b8g}{od an:Option Addr}{osl:AOV}{kV doc pm cdv ct:b8g}(l:K.lookup f=some ⟨oc,od,.func (PySem.W.fnOf x qual (a2t st) (a0K st) (a0b st) .none kV doc pm an cdv ct),osl⟩)
  (c:PySem.W.codeIn K cdv qual=true) (k:PySem.W.keepIn K (.ref f)=true):Fun K x qual st f (PySem.W.fnOf x qual (a2t st) (a0K st) (a0b st) .none kV doc pm an cdv ct):=⟨⟨oc,od,kV,doc,pm,an,cdv,ct,osl,rfl,l,c⟩,k⟩
end
section
variable{X:Cx}
end
theorem ite2{c A B:Prop}[Decidable c](h1:c->A)(h2:¬c->B):if c then A else B:=by
 by_cases h:c
 ·rw[if_pos h];exact h1 h
 ·rw[if_neg h];exact h2 h
noncomputable def Same(H H':Hp):Prop:=∀b o,H b=some o->H' b=some o
theorem Same.refl(H:Hp):Same H H:=fun _ _ h=>h
end L2
set_option maxHeartbeats 0
namespace L2
open PySem PySem.Spec PyProof.Rows
section
variable{κ:Type}[DecidableEq κ]
noncomputable def valV(kvs:List (κ×V))(k:κ):Option V:=(kvs.find? fun kv=>decide (kv.1=k)).map (·.2)
noncomputable def putK(kvs:List (κ×V))(k:κ)(v:V):List (κ×V) :=
 if (kvs.any fun kv=>decide (kv.1=k))=true then kvs.map (fun kv=>if kv.1=k then (kv.1,v) else kv) else kvs++[(k,v)]
noncomputable def a6Q(kvs:List (κ×V))(k:κ):List (κ×V):=kvs.filter fun kv=>decide (kv.1≠k)
theorem a5m{p:κ×V}{r:List (κ×V)}{k:κ}(e:p.1=k):valV (p::r) k=some p.2:=by simp[valV,b8M,e]
theorem a5n{p:κ×V}{r:List (κ×V)}{k:κ}(e:¬p.1=k):valV (p::r) k=valV r k:=by simp[valV,b8M,e]
theorem a8c(k:κ):∀kvs:List (κ×V),(kvs.any fun kv=>decide (kv.1=k))=(valV kvs k).isSome
 |[]=>rfl
 | p::r=>by
   rw[b8U];by_cases e:p.1=k
   ·simp only[a5m e,decide_eq_true e,Bool.true_or,c2K]
   ·rw[a5n e,decide_eq_false e,c3K];exact a8c k r
theorem a4f(kvs:List (κ×V))(k:κ)(v:V):(putK kvs k v).length<=kvs.length+1:=by
 unfold putK;split
 ·rw[b8f];lia
 ·rw[b8R,b8t,c2b];lia
theorem RelO.isSome_eq{o:Option V}{u:OVA}(r:RelO o u):o.isSome=u.isSome:=by
 cases o with
 | none=>cases u with
   |none=>rfl
   |some _=>exact(show False from r).elim
 | some _=>cases u with
   |none=>exact(show False from r).elim
   |some _=>rfl
theorem RelO.getD{o:Option V}{u:OVA}{d:V}{d':b8g}(r:RelO o u)(rd:RelV d d'):RelV (o.getD d) (u.getD d'):=by
 cases o with
 | none=>cases u with
   |none=>exact rd
   |some _=>exact(show False from r).elim
 | some _=>cases u with
   |none=>exact(show False from r).elim
   |some _=>exact r
theorem KV.val{kvs:List (κ×V)}{vs:List (κ×b8g)}(r:KV kvs vs)(k:κ):RelO (valV kvs k) (valueAt vs k):=by
 unfold KV at r
 induction r with
 |nil=>exact c0O
 | @cons p q ps qs h t ih =>
   obtain⟨h1,h2⟩:=h;by_cases e:p.1=k
   ·have e':q.1=k:=h1.symm.trans e;have b:valueAt (q::qs) k=some q.2:=by simp[valueAt,b8M,e']
    rw[a5m e,b];exact h2
   ·have e':¬q.1=k:=fun z=>e (h1.trans z);have b:valueAt (q::qs) k=valueAt qs k:=by simp[valueAt,b8M,e']
    rw[a5n e,b];exact ih
theorem KV.any{kvs:List (κ×V)}{vs:List (κ×b8g)}(r:KV kvs vs)(k:κ):(kvs.any fun kv=>decide (kv.1=k))=vs.any fun kv=>decide (kv.1=k):=by
 unfold KV at r
 induction r with
 |nil=>rfl
 |cons h t ih=>rw[b8U,b8U,ih,h.1]
theorem KV.repl{kvs:List (κ×V)}{vs:List (κ×b8g)}(r:KV kvs vs)(k:κ){y:V}{u:b8g}(ry:RelV y u) :
  KV (kvs.map fun kv=>if kv.1=k then (kv.1,y) else kv) (vs.map fun kv=>if kv.1=k then (kv.1,u) else kv):=by
 unfold KV at r|-
 induction r with
 |nil=>exact .nil
 | @cons p q ps qs h t ih =>
   rw[b8o,b8o];refine .cons ?_ ih;obtain⟨h1,h2⟩:=h;by_cases e:p.1=k
   ·rw[if_pos e,if_pos (h1.symm.trans e)];exact⟨h1,ry⟩
   ·rw[if_neg e,if_neg (fun z=>e (h1.trans z))];exact⟨h1,h2⟩
theorem KV.put{kvs:List (κ×V)}{vs:List (κ×b8g)}(r:KV kvs vs)(k:κ){y:V}{u:b8g}(ry:RelV y u):KV (putK kvs k y) (stored vs k u):=by
 unfold putK stored;rw[r.any k];by_cases e:(vs.any fun kv=>decide (kv.1=k))=true
 ·rw[if_pos e,if_pos e];exact r.repl k ry
 ·rw[if_neg e,if_neg e];exact Paired.snoc r ⟨rfl,ry⟩
theorem KV.drop{kvs:List (κ×V)}{vs:List (κ×b8g)}(r:KV kvs vs)(k:κ):KV (a6Q kvs k) (without vs k):=by
 unfold KV at r|-
 unfold a6Q without
 induction r with
 |nil=>exact .nil
 | @cons p q ps qs h t ih =>
   obtain⟨h1,h2⟩:=h;rw[c0J,c0J];by_cases e:p.1=k
   ·have a:¬decide (p.1≠k)=true:=by simp[e]
    have b:¬decide (q.1≠k)=true:=by simp[h1.symm.trans e]
    rw[if_neg a,if_neg b];exact ih
   ·have e':¬q.1=k:=fun z=>e (h1.trans z);have a:decide (p.1≠k)=true:=by simp[e]
    have b:decide (q.1≠k)=true:=by simp[e']
    rw[if_pos a,if_pos b];exact .cons ⟨h1,h2⟩ ih
theorem KV.keys{kvs:List (κ×V)}{vs:List (κ×b8g)}(r:KV kvs vs):kvs.map (·.1)=vs.map (·.1):=by
 unfold KV at r
 induction r with
 |nil=>rfl
 |cons h t ih=>rw[b8o,b8o,ih,h.1]
theorem KV.length{kvs:List (κ×V)}{vs:List (κ×b8g)}(r:KV kvs vs):kvs.length=vs.length:=Paired.length r
theorem b2W(kvs:List (κ×V))(k:κ):(a6Q kvs k).length<=kvs.length:=List.length_filter_le _ _
end
theorem b0M{P:b8n}{w:b8F}{k:Key}{u:b8g}(r:RelV (kV k) u):(a0H P w).is k u=true:=by
 cases k with
 |inl i=>obtain⟨t,e⟩:=(show ∃t,u=c0H i t from r);subst e;exact a7J P w i t
 |inr x=>obtain⟨t,e⟩:=(show ∃t,u=c2D x t from r);subst e;exact a7I P w x t
theorem a6J{P:b8n}{w:b8F}:∀{ks:List Key} {us:LSV},Vals (ks.map kV) us->ItemsAre (a0H P w) ks us
 |[],_,r=>by rw[c2a] at r;cases r;exact .nil
 | k::ks,_,r=>by
   rw[b8o] at r;cases r with
   |cons h t=>exact .cons (b0M h) (a6J t)
noncomputable abbrev KT(H:Hp):List (List Key×V)->List (List Key×Addr×b8g)->Prop:=Paired fun p q=>p.1=q.1/\H q.2.1=some (.tup (p.1.map kV))/\RelV p.2 q.2.2
theorem KT.val{H:Hp}{kvs:List (List Key×V)}{xs:List (List Key×Addr×b8g)}(r:KT H kvs xs)(k:List Key):RelO (valV kvs k) ((atKey xs k).map (·.2)):=by
 induction r with
 |nil=>exact c0O
 | @cons p q ps qs h t ih =>
   obtain⟨h1,_,h2⟩:=h;by_cases e:p.1=k
   ·have e':q.1=k:=h1.symm.trans e;have b:atKey (q::qs) k=some q.2:=by simp[atKey,b8M,e']
    rw[a5m e,b];exact h2
   ·have e':¬q.1=k:=fun z=>e (h1.trans z);have b:atKey (q::qs) k=atKey qs k:=by simp[atKey,b8M,e']
    rw[a5n e,b];exact ih
theorem KT.repl{H:Hp}{kvs:List (List Key×V)}{xs:List (List Key×Addr×b8g)}(r:KT H kvs xs)(k:List Key){y:V}{u:b8g}(ry:RelV y u) :
  KT H (kvs.map fun kv=>if kv.1=k then (kv.1,y) else kv) (xs.map (putAt k u)):=by
 induction r with
 |nil=>exact .nil
 | @cons p q ps qs h t ih =>
   rw[b8o,b8o];refine .cons ?_ ih;obtain⟨h1,h2,h3⟩:=h;unfold putAt;by_cases e:p.1=k
   ·rw[if_pos e,if_pos (h1.symm.trans e)];exact⟨h1,h2,ry⟩
   ·rw[if_neg e,if_neg (fun z=>e (h1.trans z))];exact⟨h1,h2,h3⟩
theorem KT.put{H:Hp}{kvs:List (List Key×V)}{xs:List (List Key×Addr×b8g)}(r:KT H kvs xs)(k:List Key){b:Addr}{y:V}{u:b8g}(hb:H b=some (.tup (k.map kV)))(ry:RelV y u) :
  KT H (putK kvs k y) (storedH xs k b u):=by
 have e:(kvs.any fun kv=>decide (kv.1=k))=(atKey xs k).isSome:=by
  rw[a8c,(r.val k).isSome_eq,c1C]
 unfold putK storedH;rw[e];by_cases q:(atKey xs k).isSome=true
 ·rw[if_pos q,if_pos q];exact r.repl k ry
 ·rw[if_neg q,if_neg q];exact Paired.snoc r ⟨rfl,hb,ry⟩
theorem KT.keeps{H H':Hp}{kvs:List (List Key×V)}{xs:List (List Key×Addr×b8g)}(r:KT H kvs xs)(ht:∀b ys,H b=some (.tup ys)->H' b=some (.tup ys)):KT H' kvs xs :=
 Paired.mapP r fun _ _ z=>⟨z.1,ht _ _ z.2.1,z.2.2⟩
section
variable{P:b8n}{w:b8F}{H:Hp}{h:Heap}{a:Addr}
theorem b5J{u:HO}(ok:HOk P w H h)(e:Rd H a u):a0Y P w H h a u:=e.ok ok
theorem b1r{kvs:List (Key×V)}(ok:HOk P w H h)(e:Rd H a (.dK kvs)):kvs.length<=sizeLine/\(a==sysModules)=false/\∃vs,KV kvs vs/\h.DictOf (a0H P w) a vs :=
 show a0Y P w H h a (.dK kvs) from b5J ok e
theorem b6U{kvs:List (Key×V)}(ok:HOk P w H h)(e:H a=some (.dK kvs)):kvs.length<=sizeLine/\(a==sysModules)=false/\∃vs,KV kvs vs/\h.DictOf (a0H P w) a vs:=b1r ok (.inl e)
theorem a8u{ks:List Key}(ok:HOk P w H h)(e:H a=some (.tup (ks.map kV))):(tupleKind (a0H P w)).is h ks a:=by
 obtain⟨_,its,r,o,h1,h2,_,n,h3⟩:=(show a0Y P w H h a (.tup (ks.map kV)) from ok a _ e);exact⟨o,its.toArray,n,h1,h2,h3,by simpa using a6J r⟩
theorem b1o{kvs:List (List Key×V)}(ok:HOk P w H h)(e:Rd H a (.dT kvs)):kvs.length<=sizeLine/\(a==sysModules)=false /\
  ∃xs,KT H kvs xs/\h.DictOfH (tupleKind (a0H P w)) a xs:=by
 obtain⟨z,y,xs,r,o,es,ep,h1,h2,h3,h4,h5⟩:=(show a0Y P w H h a (.dT kvs) from b5J ok e);refine⟨z,y,xs,r,o,es,ep,h1,h2,h3,h4,fun x hx=>?_,h5⟩
 have all:∀{l:List (List Key×V)} {m:List (List Key×Addr×b8g)},KT H l m->∀x∈m,(tupleKind (a0H P w)).is h x.1 x.2.1:=by
  intro l m q
  induction q with
  |nil=>intro x hx;exact nomatch hx
  | @cons p q ps qs hq t ih =>
    intro x hx;rcases b8l.mp hx with e|hx
    ·subst e;exact a8u ok (by rw[<- hq.1];exact hq.2.1)
    ·exact ih x hx
 exact all r x hx
theorem b7S{kvs:List (List Key×V)}(ok:HOk P w H h)(e:H a=some (.dT kvs)):kvs.length<=sizeLine/\(a==sysModules)=false /\
  ∃xs,KT H kvs xs/\h.DictOfH (tupleKind (a0H P w)) a xs:=b1o ok (.inl e)
end
noncomputable def DGet(H:Hp)(a:Addr)(y:V)(r:Option V):Prop :=
 (∃kvs k,Rd H a (.dK kvs)/\y=kV k/\r=valV kvs k)\/∃kvs k b,Rd H a (.dT kvs)/\y=.ref b/\H b=some (.tup (k.map kV))/\r=valV kvs k
noncomputable def DPut(H:Hp)(a:Addr)(y v:V)(H':Hp):Prop :=
 (∃kvs k,H a=some (.dK kvs)/\y=kV k/\kvs.length<sizeLine/\H'=upd H a (.dK (putK kvs k v))) \/
 ∃kvs k b,H a=some (.dT kvs)/\y=.ref b/\H b=some (.tup (k.map kV))/\kvs.length<sizeLine/\H'=upd H a (.dT (putK kvs k v))
theorem DGet.k{H:Hp}{a:Addr}{kvs:List (Key×V)}{k:Key}(e:H a=some (.dK kvs)):DGet H a (kV k) (valV kvs k):=.inl ⟨kvs,k,.inl e,rfl,rfl⟩
theorem DPut.k{H:Hp}{a:Addr}{kvs:List (Key×V)}{k:Key}{v:V}(e:H a=some (.dK kvs))(hl:kvs.length<sizeLine):DPut H a (kV k) v (upd H a (.dK (putK kvs k v))):=.inl ⟨kvs,k,e,rfl,hl,rfl⟩
section
variable{X:Cx}{pins:PNS}{σ:St}{H:Hp}{s:b7Y}{a:Addr}{y v:V}{u r:b8g}{o:Option V}{A:b8w}{E:VPR}
theorem Inv.big(I:Inv X pins σ H s):sysModules<s.heap.objs.size:=by
 have h:mainGlobals<s.heap.objs.size:=(I.mod.glob.keeps I.bk).lt;exact b9M (by decide) h
theorem b1w{Q:VPR}(hu:A.units+1<cLine)(I:Inv X pins σ H s)(g:DGet H a y (some v))(ry:RelV y u)(h:∀w' s',Inv X pins σ H s'->RelV v w'->Q w' s') :
  wpAny (model X.prog X.w) A (getItem (.ref a) u) Q E s:=by
 rcases g with ⟨kvs,k,e,ey,l⟩|⟨kvs,k,b,e,ey,eb,l⟩
 ·subst ey;obtain⟨z,hd,vs,rel,dd⟩:=b1r I.hok e;obtain⟨w',hw,rw'⟩:=RelO.some_of (v:=v) (o:=valueAt vs k) (by rw[l];exact rel.val k);exact wpAny_getItem_of (b0M ry) dd.mapOf hw (h w' _ (I.tok _) rw')
 ·subst ey;cases (show u=b8z b from ry);obtain⟨z,hd,xs,rel,dd⟩:=b1o I.hok e;obtain⟨w',hw,rw'⟩:=RelO.some_of (v:=v) (o:=(atKey xs k).map (·.2)) (by rw[l];exact rel.val k);obtain⟨p,hp,hp2⟩:=b8S.mp hw;refine wpAny_getItem_heap (c1i hu) (a8u I.hok eb) dd hp ?_;rw[hp2];exact h w' _ (I.tok _) rw'
theorem d_in{Q:VPR}(hu:A.units+1<cLine)(I:Inv X pins σ H s)(g:DGet H a y o)(ry:RelV y u)(h:∀s',Inv X pins σ H s'->Q (.bool o.isSome) s') :
  wpAny (model X.prog X.w) A (compareOp .In u (.ref a)) Q E s:=by
 rcases g with ⟨kvs,k,e,ey,l⟩|⟨kvs,k,b,e,ey,eb,l⟩
 ·subst ey;obtain⟨z,hd,vs,rel,dd⟩:=b1r I.hok e;refine wpAny_in_of (b0M ry) hd dd.mapOf ?_;rw[<- (rel.val k).isSome_eq,<- l];exact h _ (I.tok _)
 ·subst ey;cases (show u=b8z b from ry);obtain⟨z,hd,xs,rel,dd⟩:=b1o I.hok e;refine wpAny_in_heap (c1i hu) (a8u I.hok eb) hd dd ?_;have q:=(rel.val k).isSome_eq;rw[c1C] at q;rw[<- q,<- l];exact h _ (I.tok _)
theorem a7T{h':Heap}{t':Nat}{ob:HO}(I:Inv X pins σ H s)(mu:Mut (H a))(hs:c0q a s.heap h')(he:∃q,h'.get? a=some q)(new:a0Y X.prog X.w (upd H a ob) h' a ob) :
  Inv X pins σ (upd H a ob) { s with heap:=h',toks:=t' } :=
 I.write (x:=a) (e:=a) mu (.inl rfl) (fun b q hb z=>(hs.2 b hb).trans z) he new
theorem b3w{P:b8n}{w:b8F}{H':Hp}{h':Heap}{kvs:List (Key×V)}{vs:List (Key×b8g)}(z:kvs.length<=sizeLine)(hd:(a==sysModules)=false)(rel:KV kvs vs)(dd:h'.DictOf (a0H P w) a vs) :
  a0Y P w H' h' a (.dK kvs):=⟨z,hd,vs,rel,dd⟩
theorem b1u{H':Hp}{Q:Unit->b7Y->Prop}(hu:A.units+1<cLine)(I:Inv X pins σ H s)(g:DPut H a y v H')(ry:RelV y u)(rv:RelV v r)(h:∀s',Inv X pins σ H' s'->Q () s') :
  wpAny (model X.prog X.w) A (setItem (.ref a) u r) Q E s:=by
 rcases g with ⟨kvs,k,e,ey,l,eH⟩|⟨kvs,k,b,e,ey,eb,l,eH⟩
 ·subst ey eH;obtain⟨z,hd,vs,rel,dd⟩:=b6U I.hok e;have hz:vs.length<=sizeLine:=by rw[<- rel.length];exact z
  have hl:(putK kvs k v).length<=sizeLine:=by have:=a4f kvs k v;lia
  refine wpAny_setItem_pairs (hsz:=hz) (b0M ry) dd fun h' dd' hs=>h _ ?_
  have he:∃q,h'.get? a=some q:=let ⟨q,_,_,hq,_⟩:=dd';⟨q,hq⟩
  exact a7T I (by rw[e];exact c0O) hs he (b3w hl hd (rel.put k rv) dd')
 ·subst ey eH;cases (show u=b8z b from ry);obtain⟨z,hd,xs,rel,dd⟩:=b7S I.hok e;have hz:xs.length<=sizeLine:=by rw[<- Paired.length rel];exact z
  have hl:(putK kvs k v).length<=sizeLine:=by have:=a4f kvs k v;lia
  refine wpAny_setItem_heap (hsz:=hz) (c1i hu) (a8u I.hok eb) dd fun h' dd' hs=>h _ ?_;obtain⟨q,es,ep,hq,h2,h3,h4,_,h5⟩:=dd';refine a7T I (by rw[e];exact c0O) hs ⟨q,hq⟩ ⟨hl,hd,_,(rel.put k eb rv).keeps fun c ys ec=>?_,q,es,ep,hq,h2,h3,h4,h5⟩;rw[a0k (b7G ec e (fun z=>nomatch z))];exact ec
end
section
variable{X:Cx}{pins:PNS}{σ:St}{H:Hp}{s:b7Y}{a:Addr}{kvs:List (Key×V)}{k:Key}{u:b8g}{A:b8w}{E:VPR}
theorem b7U{v:V}{more:LSV}{Q:VPR}(I:Inv X pins σ H s)(e:H a=some (.dK kvs))(ry:RelV (kV k) u)(l:valV kvs k=some v)(hm:more=[]\/∃x,more=[x])
  (h:∀w' s',Inv X pins σ (upd H a (.dK (a6Q kvs k))) s'->RelV v w'->Q w' s'):wpAny (model X.prog X.w) A (call (.builtin "dict.pop") (.ref a::u::more)) Q E s:=by
 obtain⟨z,hd,vs,rel,dd⟩:=b6U I.hok e;obtain⟨w',hw,rw'⟩:=RelO.some_of (v:=v) (o:=valueAt vs k) (by rw[<- l];exact rel.val k)
 have hp:(keyPart u).isSome=true:=by
  cases k with
  |inl i=>obtain⟨t,q⟩:=(show ∃t,u=c0H i t from ry);subst q;rfl
  |inr x=>obtain⟨t,q⟩:=(show ∃t,u=c2D x t from ry);subst q;rfl
 have ha:argsOk "dict.pop" ⟨.ref a::u::more,[]⟩:=by
  rcases hm with q|⟨x,q⟩
  ·subst q;exact PySem.F.args_dict_pop_2 _ _
  ·subst q;exact PySem.F.args_dict_pop_3 _ _ _
 refine call_meetsIn PySem.F.slot_dict_pop dd.typeIs PySem.F.entry_dict_pop ha (meets_dict_pop_there (a0H X.prog X.w) a (b0M ry) more hm hp)
  ⟨vs,w',dd,by rw[<- rel.length];exact z,hw,fun h' dd' hs=>h w' _ ?_ rw'⟩
 have he:∃q,h'.get? a=some q:=let ⟨q,_,_,hq,_⟩:=dd';⟨q,hq⟩
 exact a7T I (by rw[e];exact c0O) hs he (b3w (b8G (b2W kvs k) z) hd (rel.drop k) dd')
end
noncomputable def NoSl(i:Expr):Prop:=∀ov iv,subscripted i false ov iv=operate [ov,iv] (getItem ov iv)
theorem b3N{prog:b8n}{w:b8F}{A:b8w}{E:VPR}{s:b7Y}{env:Env}{value slice:Expr}{pos:Pos}{T id:String}{Q:VPR}
  (hl:typeLookup (.type T) "__getitem__"=pure (some (.builtin id))) (hs:NoSl slice)
  (h:wpAny (model prog w) A (eval value env) (fun o s₁=>wpAny (model prog w) A (eval slice env) (fun i s₂=>s₂.TypeIs o T/\wpAny (model prog w) A (getItem o i) Q E s₂) E s₁) E s) :
  wpAny (model prog w) A (eval (.Subscript value slice pos) env) Q E s:=by
 refine c3F (b8H h (fun o s₁ h₁=>b8H h₁ (fun i s₂ h₂=>?_) fun _ _ x=>x) fun _ _ x=>x);obtain⟨hT,h₂⟩:=h₂;unfold subscriptTail;refine b8a ?_;rw[getitemInPython_of_ne hT.not_modules];refine b8a (wpAny_specialOf hT hl ?_)
 have fin:wpAny (model prog w) A (subscripted slice false o i) (fun r s₃=>wpAny (model prog w) A (letTemporaryGo value o r >>= fun _=>pure r) Q E s₃) E s₂:=by
  rw[hs o i];exact wpAny_operating (b8H h₂ (fun r s₃ h₃=>b8a (wpAny_letTemporaryGo (b8r h₃))) fun _ _ x=>x)
 first
  |exact b8r (b8a fin)
  |exact b8a (b8r (b8a fin))
  |exact b8a fin
theorem a7S{X:Cx}{pins:PNS}{σ:St}{H:Hp}{s:b7Y}{a:Addr}{y:V}{o:Option V}(I:Inv X pins σ H s)(g:DGet H a y o):s.TypeIs (.ref a) "dict":=by
 rcases g with ⟨kvs,k,e,_,_⟩|⟨kvs,k,b,e,_,_,_⟩
 ·obtain⟨_,_,vs,_,dd⟩:=b1r I.hok e;exact dd.typeIs
 ·obtain⟨_,_,xs,_,dd⟩:=b1o I.hok e;exact dd.typeIs
noncomputable def b7g(td ty:TE):TE:=fun σ H Q=>td σ H fun x H1=>ty σ H1 fun y H2=>∃a v,x=.ref a/\DGet H2 a y (some v)/\Q v H2
noncomputable def b7n(td ty tv:TE):TS:=fun D σ H=>tv σ H fun v H1=>td σ H1 fun x H2=>ty σ H2 fun y H3=>∃a H4,x=.ref a/\DPut H3 a y v H4/\D.nx σ H4
section
variable{X:Cx}{o i e value:Expr}{pos pos' tpos:Pos}{td ty tv:TE}
theorem b4p(hu:X.A.units+1<cLine)(ho:PE X o td)(hi:PE X i ty)(hs:NoSl i):PE X (.Subscript o i pos) (b7g td ty):=by
 intro pins s σ H Q I h;refine b3N PySem.F.slot_dict_getitem.lookup hs (thn (ho pins s σ H _ I h) fun u s1 ⟨x,H1,I1,rx,q1⟩=>thn (hi pins s1 σ H1 _ I1 q1) fun iv s2 ⟨y,H2,I2,ry,a,v,ex,g,q2⟩=>?_);subst ex;obtain rfl:u=b8z a:=rx;exact⟨a7S I2 g,b1w hu I2 g ry fun w' s3 I3 rw'=>⟨v,H2,I3,rw',q2⟩⟩
theorem b0n(hu:X.A.units+1<cLine)(ho:PE X o td)(hi:PE X i ty)(hv:PE X value tv)(hs:swapsWith value (some (.Subscript o i pos')) pos.line X.env=pure false) :
  PS X (.Assign [.Subscript o i pos'] value pos) (b7n td ty tv):=by
 intro pins s σ H D I h;refine wpAny_Assign_Subscript (thn (hv pins s σ H _ I h) fun r s1 ⟨v,H1,I1,rv,q1⟩=>thn (ho pins s1 σ H1 _ I1 q1) fun u s2 ⟨x,H2,I2,rx,q2⟩=>thn (hi pins s2 σ H2 _ I2 q2) fun iv s3 ⟨y,H3,I3,ry,a,H4,ex,g,q3⟩=>?_) hs;subst ex;obtain rfl:u=b8z a:=rx;exact b1u hu I3 g ry rv fun s4 I4=>⟨σ,H4,I4,q3⟩
end
theorem b2X{P:b8n}{w:b8F}{H:Hp}(h:Heap)(hb:sysModules<h.objs.size):a0Y P w H (h.push { cls:=.type "dict",data:=.dict #[] }) h.objs.size (.dK []) :=
 ⟨b9B _,beq_eq_false_iff_ne.mpr (b9t (b8B hb)),[],.nil,Heap.DictOf.new h⟩
noncomputable def b5y:TE:=fun _ H Q=>∀p,H p=none->Q (.ref p) (upd H p (.dK []))
section
variable{X:Cx}{pos:Pos}
theorem b2n:PE X (.Dict [] [] pos) b5y:=fun pins s σ H Q I h =>
 wpAny_Dict_empty ⟨.ref s.heap.objs.size,_,I.laid (a:=s.heap.objs.size) (o:=.dK []) (t':=s.toks) (fun _ _ q=>b8d _ q) (b8k _) (b2X s.heap I.big),rfl,h _ (I.hok.fresh (b8k _))⟩
end
structure M1(X:Cx)(o:Expr)(m:Str)(apos:Pos)(e:Expr)(cpos:Pos):Prop where
 base:attributeBase o m X.env (eval o X.env)=eval o X.env
 few:((backTo cpos (starEach [e] X.env)).all (fun x=>!x.1)&&(backToKw cpos (keywordEach [] X.env)).all (fun x=>x.1.isSome)
  && decide (([e]:LSE).length+([]:List c1Y).length+(if ([]:List c1Y).isEmpty then 0 else 1)<30))=true
 line:QLL apos cpos
 trees:backTo cpos (starEach [e] X.env)=[(false,eval e X.env)]
noncomputable def IsD(H:Hp)(a:Addr):Prop:=(∃kvs,Rd H a (.dK kvs))\/∃kvs,Rd H a (.dT kvs)
theorem b6H{X:Cx}{pins:PNS}{σ:St}{H:Hp}{s:b7Y}{a:Addr}(I:Inv X pins σ H s)(d:IsD H a) :
  s.TypeIs (.ref a) "dict"/\(∀b,b8z a=.ref b->∃ob,s.heap.get? b=some ob/\ob.dict=none)/\(a==sysModules)=false:=by
 rcases d with ⟨kvs,e⟩|⟨kvs,e⟩
 ·obtain⟨_,hd,vs,_,dd⟩:=b1r I.hok e;refine⟨dd.typeIs,fun b q=>?_,hd⟩;cases q;obtain⟨ob,_,_,h1,h2,_⟩:=dd;exact⟨ob,h1,h2.2.1⟩
 ·obtain⟨_,hd,xs,_,dd⟩:=b1o I.hok e;refine⟨dd.typeIs,fun b q=>?_,hd⟩;cases q;obtain⟨ob,_,_,h1,h2,_⟩:=dd;exact⟨ob,h1,h2.2.1⟩
section
variable{X:Cx}{pins:PNS}{σ:St}{H:Hp}{s:b7Y}{a:Addr}{y d:V}{u r:b8g}{o:Option V}{A:b8w}{E:VPR}
end
noncomputable def b5x(td ty:TE):TE:=fun σ H Q=>td σ H fun x H1=>∃a,x=.ref a/\IsD H1 a/\ty σ H1 fun y H2=>∃kvs k v,H2 a=some (.dK kvs)/\y=kV k/\valV kvs k=some v/\Q v (upd H2 a (.dK (a6Q kvs k)))
section
variable{X:Cx}{o e f:Expr}{apos cpos:Pos}{td ty tx:TE}
theorem b2m(ho:PE X o td)(he:PE X e ty)(m:M1 X o "pop" apos e cpos):PE X (.Call (.Attribute o "pop" apos) [e] [] cpos) (b5x td ty):=by
 intro pins s σ H Q I h;refine c2U m.base m.few m.line PySem.F.plainAttrs_dict PySem.F.slot_dict_pop PySem.F.type_dict_pop (thn (ho pins s σ H _ I h) fun u s1 ⟨x,H1,I1,rx,a,ex,d,q1⟩=>?_);subst ex;obtain rfl:u=b8z a:=rx;obtain⟨t1,t2,_⟩:=b6H I1 d;refine⟨t1,t2,?_⟩;rw[m.trees];refine c0y rfl (b9E (c1h (thn (he pins s1 σ H1 _ I1 q1) fun iv s2 ⟨y,H2,I2,ry,kvs,k,v,ea,ey,l,q2⟩=>c1z ?_)));subst ey;exact b7U I2 ea ry l (.inl rfl) fun w' s3 I3 rw'=>⟨v,_,I3,rw',q2⟩
end
noncomputable def a2F(env:Env):List (Str×b9u)->List (Str×Addr)->List (Str×Addr)
 |[],acc=>acc
 |(n,k)::r,acc=>a2F env r (if k==.free then (n,(env.cells.lookup n).getD 0)::acc else acc)
theorem a1M(env:Env)(n:Str)(k:b9u)(r:List (Str×b9u))(acc:List (Str×Addr)):a2F env ((n,k)::r) acc=a2F env r (if k==.free then (n,(env.cells.lookup n).getD 0)::acc else acc):=rfl
theorem a1Z(env:Env)(f:Str×b9u->List (Str×Addr)->Sem (ForInStep (List (Str×Addr))))
  (hf:∀n k cs,f (n,k) cs=if (k==.free)=true then (do let a <- cellOf env n;pure (.yield ((n,a)::cs))) else pure (.yield cs)) :
  ∀(names:List (Str×b9u)) (acc:List (Str×Addr)),(∀y∈names,y.2=.free->∃c,env.cells.lookup y.1=some c)->forIn names acc f=(pure (a2F env names acc):Sem _)
 |[],acc,_=>by rw[c3A];rfl
 | (n,k)::r,acc,h=>by
   rw[List.forIn_cons,hf];have hr:∀y∈r,y.2=.free->∃c,env.cells.lookup y.1=some c:=fun y hy=>h y (b7Z _ hy);by_cases hk:(k==b9z)=true
   ·rw[if_pos hk];obtain⟨c,hc⟩:=h (n,k) b8e (by simpa using hk);have hc':env.cells.lookup n=some c:=hc;have e:cellOf env n=pure c:=by unfold cellOf;rw[hc']
    rw[e];simp only[pure_bind];rw[a1Z env f hf r _ hr];rw[a1M,if_pos hk,hc'];rfl
   ·rw[if_neg hk];simp only[pure_bind];rw[a1Z env f hf r _ hr];rw[a1M,if_neg hk]
theorem a3e(scope:c0t)(env:Env)(h:∀y∈scope.names,y.2=.free->∃c,env.cells.lookup y.1=some c):closureFor scope env=pure (a2F env scope.names []):=by
 unfold closureFor;dsimp only;rw[a1Z env _ (fun n k cs=>by cases hk:(k==b9z)<;>simp[hk]<;>rfl) scope.names [] h];rfl
theorem a2v(env:Env):∀(names:List (Str×b9u)) (acc:List (Str×Addr)) (x:Str) (c:Addr),(a2F env names acc).lookup x=some c ->
  (acc.lookup x=some c\/((x,.free)∈names/\c=(env.cells.lookup x).getD 0))
 |[],acc,x,c,h=>.inl h
 | (n,k)::r,acc,x,c,h=>by
   rw[a1M] at h;rcases a2v env r _ x c h with q|⟨q1,q2⟩
   ·split at q
    ·rename_i hk;have hk':k=.free:=by simpa using hk
     subst hk';rw[c1R] at q;split at q
     ·rename_i hx;have:x=n:=by simpa using hx
      subst this;cases q;exact .inr ⟨b8e,rfl⟩
     ·exact .inl q
    ·exact .inl q
   ·exact .inr ⟨b7Z _ q1,q2⟩
theorem a6Z(env:Env):∀(names:List (Str×b9u)) (acc:List (Str×Addr)) (x:Str),(∃c,acc.lookup x=some c)->∃c,(a2F env names acc).lookup x=some c
 |[],acc,x,h=>h
 | (n,k)::r,acc,x,h=>by
   rw[a1M];refine a6Z env r _ x ?_;split
   ·rw[c1R];split
    ·exact⟨_,rfl⟩
    ·exact h
   ·exact h
theorem a4B(env:Env):∀(names:List (Str×b9u)) (acc:List (Str×Addr)) (x:Str),(x,b9z)∈names->∃c,(a2F env names acc).lookup x=some c
 |[],acc,x,h=>by simp at h
 | (n,k)::r,acc,x,h=>by
   rw[a1M];rcases b8l.mp h with e|h
   ·cases e;refine a6Z env r _ _ ?_;rw[if_pos (by decide),c1R];simp
   ·exact a4B env r _ x h
noncomputable def ownB(names:List (Str×b9u))(x:Str):Bool:=names.any fun y=>y.1==x&&y.2==.cell
theorem a8o{names:List (Str×b9u)}{x:Str}:ownB names x=true<->(x,c0h)∈names:=by
 unfold ownB;rw[List.any_eq_true];constructor
 ·rintro⟨⟨n,k⟩,h,e⟩;simp only[b8m,beq_iff_eq] at e;obtain⟨rfl,rfl⟩:=e;exact h
 ·intro h;exact⟨_,h,by simp⟩
theorem a0A:∀(names:List (Str×b9u)) (n:Nat) (acc:List (Str×Addr)),cellsFrom n names acc=cellsFrom n names []++acc
 |[],_,_=>rfl
 | (x,k)::r,n,acc=>by
   unfold cellsFrom;split
   ·rw[a0A r (n+1) ((x,n)::acc),a0A r (n+1) [(x,n)],c0E];rfl
   ·exact a0A r n acc
theorem a1i:∀(names:List (Str×b9u)) (n:Nat) {x:Str} {c:Addr},(x,c)∈cellsFrom n names []->n<=c/\(x,c0h)∈names
 |[],_,_,_,h=>nomatch h
 | (y,k)::r,n,x,c,h=>by
   unfold cellsFrom at h;split at h
   ·rename_i hk;have hk':k=.cell:=by simpa using hk
    subst hk';rw[a0A] at h;rcases b9F.mp h with h|h
    ·have:=a1i r (n+1) h;exact⟨by lia,b7Z _ this.2⟩
    ·cases b9n.mp h;exact⟨b8k _,b8e⟩
   ·have:=a1i r n h;exact⟨this.1,b7Z _ this.2⟩
theorem a1o:∀(names:List (Str×b9u)) (n:Nat) {x:Str},(x,c0h)∈names->((cellsFrom n names []).lookup x).isSome=true
 |[],_,_,h=>nomatch h
 | (y,k)::r,n,x,h=>by
   unfold cellsFrom;rcases b8l.mp h with e|h
   ·cases e;rw[if_pos (by decide),a0A,b9V];cases hh:(cellsFrom (n+1) r []).lookup y with
    |some c=>rfl
    |none=>simp
   ·have i0:=a1o r n h;have i1:=a1o r (n+1) h;split
    ·rw[a0A,b9V];cases hh:(cellsFrom (n+1) r []).lookup x with
     |some c=>rfl
     |none=>rw[hh] at i1;cases i1
    ·exact i0
theorem a1y:∀(names:List (Str×b9u)) (n:Nat),(cellsFrom n names []).Pairwise fun x y=>x.2≠y.2
 |[],_=>c0F
 | (y,k)::r,n=>by
   unfold cellsFrom;split
   ·rw[a0A];refine List.pairwise_append.mpr ⟨a1y r (n+1),c1K _ _,fun a ha b hb=>?_⟩;rw[b9n.mp hb];have:=(a1i r (n+1) (x:=a.1) (c:=a.2) ha).1;show a.2≠n;exact b9L (Nat.lt_of_succ_le this)
   ·exact a1y r n
theorem a1J{M:c0I}{A:b8w}{E:VPR}{s:b7Y}{scope:c0t}{globals:Addr}{closure:List (Str×Addr)}{qual:Str}{func:Option Addr}{code:b8g}{around:Env}{builtins:Addr}{Q:Env->b7Y->Prop}
  (hQ:∀h',h'=pushCells (s.heap.push { cls:=.type "dict",data:=.dict #[] }) scope.names->Q (newEnv scope s.heap.objs.size globals (cellsFrom (s.heap.objs.size+1) scope.names []++closure) qual func code (some around) builtins) { s with heap:=h' }) :
  wpAny M A (newFunctionEnv scope globals closure [] qual func code (some around) builtins) Q E s:=by
 simp only[newFunctionEnv,c2K,if_true];refine b8a (wpAny_alloc ?_);refine b8a (wpAny_layCells _ (fun name kind cells=>by cases hkc:kind==c0h<;>simp[hkc]) _ _ _ _ ?_);rw[a0A,show({ s with heap:=s.heap.push { cls:=.type "dict",data:=.dict #[] } }:b7Y).heap.objs.size=s.heap.objs.size+1 from b9r ..];refine b8a ?_;rw[c3A];exact b8r (b8r (hQ _ rfl))
section
variable{prog:b8n}{w:b8F}{A:b8w}{R:c1y->b7Y->Prop}{s:b7Y}
theorem a2E{elt target iter:Expr}{ifs:LSE}{scope:c0t}{pos:Pos}{it acc:b8g}{env:Env}(I:Nat->b7Y->Prop)
  (turn:∀n s,I n s->wpAny (model prog w) A (pyNext it) (fun r s₁=>match r with
   |none=>R (.ok .next) s₁
   | some v=>wpAny (model prog w) A (letOwnedTupleGo target it v) (fun _ s₁'=>wpAny (model prog w) A (assign target env v) (fun _ s₂ =>
     wpAny (model prog w) A (forIn ifs true fun c r=>if r=true then do let ok <- isTrue c env (eval c env);pure (c0b ok) else pure (c0b r)) (fun ok s₃ =>
      if ok=true then wpAny (model prog w) A (eval elt env) (fun x s₄ =>
       wpAny (model prog w) A (call (.builtin "list.append") [acc,x]) (fun _ s₅=>∃m,m<n/\I m s₅) (notedBy (model prog w) A env fun e s'=>R (.error e) s') s₄) (notedBy (model prog w) A env fun e s'=>R (.error e) s') s₃
      else ∃m,m<n/\I m s₃) (notedBy (model prog w) A env fun e s'=>R (.error e) s') s₂) (notedBy (model prog w) A env fun e s'=>R (.error e) s') s₁') (notedBy (model prog w) A env fun e s'=>R (.error e) s') s₁) (notedBy (model prog w) A env fun e s'=>R (.error e) s') s)
  (n:Nat) (h:I n s) :
  codeAny (model prog w) A (.compLoop (.ListComp elt [⟨target,iter,ifs,0⟩] scope pos) 0 it acc env) R s:=by
 refine codeAny_loop rfl I (fun n s hI=>?_) n h
 show wpAny _ A ((compTurn (.ListComp elt [⟨target,iter,ifs,0⟩] scope pos) 0 it acc env).onRaise (fun x=>do noteFrame x env;theTreesLotGoes x)) _ _ s
 refine wpAny_noted ?_;rw[compTurn_list];refine b8a (b9y (b8a (b8H (turn n s hI) (fun r s₁ h₁=>?_) fun _ _ h'=>h')));cases r with
 |none=>exact b8r h₁
 | some v =>
   refine b8a (b8H h₁ (fun _ s₁' h₁'=>b8a (b8H h₁' (fun _ s₂ h₂=>b8a (b8H h₂ (fun ok s₃ h₃=>?_) fun _ _ h'=>h')) fun _ _ h'=>h')) fun _ _ h'=>h');cases ok with
   |false=>exact b8r ⟨rfl,h₃⟩
   | true =>
     exact b8a (b8a (b8H h₃ (fun x s₄ h₄=>b8a (b8H h₄ (fun _ s₅ h₅=>b8r (b8r ⟨rfl,h₅⟩)) fun _ _ h'=>h')) fun _ _ h'=>h'))
end
noncomputable def blk(X:Cx)(N':LSS)(scope:c0t)(C:Addr)(s:b7Y)(H:Hp)(fp:List Addr)(pins:PNS):Cx where
 prog:=X.prog
 w:=X.w
 K:=X.K
 mg:=X.mg
 base:=X.base
 A:=X.A
 N:=N'
 s₀:=s
 H₀:=H
 env:=compEnvC scope (cellsFrom (C+1) scope.names []++a2F X.env scope.names []) C X.env
 outer:=X.stack
 stack:=X.stack
 ex:=fp
 fn:=ownB scope.names
 calm:=X.calm
 pn:=X.pn++pins
 xe:=fun _ _=>False
structure BlkScope(X:Cx)(N':LSS)(ix:List (Option Nat))(scope:c0t):Prop where
 kind:scope.kind=.function
 locs:∀y∈scope.names,y.2=.local->scope.names.lookup y.1=some .local
 frees:∀y∈scope.names,y.2=.free->(X.env.kindOf y.1=some .cell\/X.env.kindOf y.1=some .free)
 look:∀x k,(relabel scope X.env).names.lookup x=some k->(k=.cell\/k=.free)->(x,b9z)∈scope.names\/(x,c0h)∈scope.names
 lenI:ix.length=N'.length
 at_:∀(i j:Nat) (x:Str),ix[i]?=some (some j)->N'[i]?=some x->X.N[j]?=some x/\(x,b9z)∈scope.names/\ownB scope.names x=false/\(relabel scope X.env).names.lookup x=X.env.kindOf x
variable{X:Cx}{pins:PNS}{σ:St}{H:Hp}{s:b7Y}{N':LSS}{ix:List (Option Nat)}{scope:c0t}
noncomputable def pick(ix:List (Option Nat))(σ:St):St:=ix.map fun o=>match o with|some j=>(σ[j]?).join|none=>none
theorem a5H{i:Nat}{v:V}(e:(pick ix σ)[i]?=some (some v)):∃j,ix[i]?=some (some j)/\σ[j]?=some (some v):=by
 unfold pick at e;rw[b8x] at e;cases h:ix[i]? with
 |none=>rw[h] at e;cases e
 | some o =>
   rw[h] at e;cases o with
   | none =>
     have e':(none:Option V)=some v:=b8s e;cases e'
   | some j =>
     have e':(σ[j]?).join=some v:=b8s e;refine⟨j,rfl,?_⟩;cases hj:σ[j]? with
     |none=>rw[hj] at e';cases e'
     |some u=>rw[hj] at e';exact congrArg some e'
theorem a0Q(I:Inv X pins σ H s)(S:BlkScope X N' ix scope)(C:Addr){x:Str}{c:Addr}(e:(cellsFrom (C+1) scope.names []++a2F X.env scope.names []).lookup x=some c) :
  (C<c/\(cellsFrom (C+1) scope.names []).lookup x=some c)\/(ownB scope.names x=false/\X.env.cells.lookup x=some c):=by
 rw[b9V] at e;cases h:(cellsFrom (C+1) scope.names []).lookup x with
 | some c' =>
   rw[h] at e;cases e;exact .inl ⟨(a1i _ _ (mem_of_lookup h)).1,rfl⟩
 | none =>
   rw[h] at e;refine .inr ⟨c2V.mpr fun z=>?_,?_⟩
   ·have:=a1o scope.names (C+1) (a8o.mp z);rw[h] at this;cases this
   ·have e':(a2F X.env scope.names []).lookup x=some c:=e;rcases a2v X.env scope.names [] x c e' with q|⟨q,rfl⟩
    ·cases q
    ·obtain⟨c,hc⟩:=I.ok.has x (S.frees _ q rfl);rw[hc]<;>rfl
theorem b6W{fp:List Addr}{C:Addr}(I:Inv X pins σ H s)(hf:∀b∈fp,FpOk X pins H b)(S:BlkScope X N' ix scope)(hC:s.heap.objs.size<=C)(hfo:∀b∈fp,∃o,s.heap.get? b=some o) :
  (blk X N' scope C s H fp pins).Ok:=by
 have lt:∀x c,X.env.cells.lookup x=some c->c<C:=fun x c e=>by
  obtain⟨v,z⟩:=I.cell x c e;exact b8c z.lt hC
 refine⟨I.ok.mod,?_,I.ok.glob,I.ok.blt,hC,fun x y c h1 h2=>?_,fun x hx=>?_,fun x c hf' e=>?_,I.ok.hd,I.ok.frames,.inl rfl,fun b hb=>?_,I.bs,b8G I.ok.bsz I.sz,fun b o e hb=>?_,fun b hb hs=>?_,I.stack,I.stkFree⟩
 ·exact S.kind
 ·rcases a0Q I S C h1 with ⟨a1,a2⟩|⟨a1,a2⟩<;>rcases a0Q I S C h2 with ⟨b1,b2⟩|⟨b1,b2⟩
  ·exact name_of_addr (a1y _ _) (mem_of_lookup a2) (mem_of_lookup b2)
  ·exact absurd (b9M (lt _ _ b2) a1) (b9a _)
  ·exact absurd (b9M (lt _ _ a2) b1) (b9a _)
  ·exact I.ok.inj x y c a2 b2
 ·have hx':(relabel scope X.env).names.lookup x=some .cell\/(relabel scope X.env).names.lookup x=some .free:=hx
  have key:(x,b9z)∈scope.names\/(x,c0h)∈scope.names:=by
   rcases hx' with hx'|hx'
   ·exact S.look x _ hx' (.inl rfl)
   ·exact S.look x _ hx' (.inr rfl)
  show ∃c,(cellsFrom (C+1) scope.names []++a2F X.env scope.names []).lookup x=some c;rw[b9V];cases h:(cellsFrom (C+1) scope.names []).lookup x with
  |some c=>exact⟨c,rfl⟩
  | none =>
    rcases key with k|k
    ·obtain⟨c,hc⟩:=a4B X.env scope.names [] x k;exact⟨c,by rw[hc];rfl⟩
    ·have:=a1o scope.names (C+1) k;rw[h] at this;cases this
 ·rcases a0Q I S C e with ⟨a1,a2⟩|⟨a1,a2⟩
  ·exact b9X (b9b hC a1)
  ·have hf2:ownB scope.names x=true:=hf';rw[a1] at hf2;cases hf2
 ·obtain⟨f0,f1,f2,f3,f4,f5⟩:=hf b hb;obtain⟨o,ho⟩:=hfo b hb;refine⟨b8B (b8c (b8j ho) hC),fun x c e=>?_⟩;rcases a0Q I S C e with ⟨a1,a2⟩|⟨a1,a2⟩
  ·exact b9L (b9M (b8c (b8j ho) hC) a1)
  ·exact f4 x c a2
 ·obtain⟨f0,f1,f2,f3,f4,f5⟩:=hf b hb;have:=(I.ok.bs b o e).1;rcases f3 with z|z
  ·exact I.ok.noex b o e z
  ·exact absurd (b8c (b8j this) z) (b9a _)
 ·obtain⟨f0,f1,f2,f3,f4,f5⟩:=hf b hb;rcases b8l.mp (I.stkSub b hs) with e|e
  ·exact f1 e
  ·exact f2 e
theorem a7e{fp:List Addr}{C:Addr}{h₁:Heap}{tk:Nat}(I:Inv X pins σ H s)(hf:∀b∈fp,FpOk X pins H b)(S:BlkScope X N' ix scope)(hC:s.heap.objs.size<=C)(hfo:∀b∈fp,∃o,s.heap.get? b=some o)
  (hns:h₁.Ns C (fun _=>none)) (hk:∀b o,s.heap.get? b=some o->h₁.get? b=some o) (hown:∀x c,(x,c)∈cellsFrom (C+1) scope.names []->h₁.IsCell c none) :
  Inv (blk X N' scope C s H fp pins) [] (pick ix σ) H { s with heap:=h₁,toks:=tk }:=by
 have nC:∀b o,s.heap.get? b=some o->b≠C:=fun b o e=>b8B (b8c (b8j e) hC);refine⟨b6W I hf S hC hfo,rfl,I.bare,Un.kept hk,⟨_,hns,fun i x v h1 h2 h3=>?_⟩,fun x c e=>?_,I.hok.fresh hC,fun x c e=>?_,fun p hp=>?_,I.hok.kept hk,?_⟩
 ·obtain⟨j,e1,e2⟩:=a5H h2;obtain⟨a1,a2,a4,a3⟩:=S.at_ i j x e1 h1;have kd:=S.frees _ a2 rfl
  have vis:Vis X.env.scope x:=by
   rcases kd with k|k
   ·exact .inr (.inl k)
   ·exact .inr (.inr k)
  obtain⟨m,hn,hl⟩:=I.loc;obtain⟨u,r,l⟩:=hl j x v a1 e2 vis;refine⟨u,r,.inr ?_⟩;have kd':X.env.kindOf x=some .cell\/X.env.kindOf x=some .free:=kd;rcases l with ⟨k,_⟩|⟨k,c,ec,z⟩
  ·rcases kd' with q|q<;>(rw[q] at k;cases k)
  ·refine⟨?_,c,?_,z.keeps hk⟩
   ·show(relabel scope X.env).names.lookup x=some .cell\/(relabel scope X.env).names.lookup x=some .free;rw[a3];exact kd'
   ·obtain⟨c',hc'⟩:=a4B X.env scope.names [] x a2;show(cellsFrom (C+1) scope.names []++a2F X.env scope.names []).lookup x=some c
    have hn:(cellsFrom (C+1) scope.names []).lookup x=none:=by
     cases h:(cellsFrom (C+1) scope.names []).lookup x with
     |none=>rfl
     | some c2 =>
       have:=a8o.mpr (a1i _ _ (mem_of_lookup h)).2;rw[a4] at this;cases this
    rw[b9V,hn];show(a2F X.env scope.names []).lookup x=some c;rcases a2v X.env scope.names [] x c' hc' with q|⟨q,q2⟩
    ·cases q
    ·rw[hc',q2,ec];rfl
 ·rcases a0Q I S C e with ⟨a1,a2⟩|⟨a1,a2⟩
  ·exact⟨none,hown x c (mem_of_lookup a2)⟩
  ·obtain⟨v,z⟩:=I.cell x c a2;exact⟨v,z.keeps hk⟩
 ·rcases a0Q I S C e with ⟨a1,a2⟩|⟨a1,a2⟩
  ·exact I.hok.fresh (b9X (b9b hC a1))
  ·exact I.freeC x c a2
 ·have hp':p∈X.pn++pins:=by
   have:p∈(X.pn++pins)++[]:=hp
   simpa using this
  obtain⟨e,n,ne,nf,d⟩:=I.pin p hp';refine⟨hk _ _ e,n,nC _ _ e,fun hb=>?_,d⟩;rcases b8l.mp (I.stkSub _ hb) with z|z
  ·exact ne z
  ·exact nf z
 ·show(pick ix σ).length=N'.length;unfold pick;rw[b8f,S.lenI]
theorem b5d{fp:List Addr}{C D:Addr}{h':Heap}{H':Hp}{σ':St}{s':b7Y}{ys:List V}{its:LSV}{cap:Nat}(I:Inv X pins σ H s)(hf:∀b∈fp,FpOk X pins H b)(hC:s.heap.objs.size<=C)(hD:s.heap.objs.size<=D)(hDC:D≠C)
  (J:Inv (blk X N' scope C s H fp pins) [] σ' H' s') (hDn:H' D=none) (ho:s'.heap.get? D=some { cls:=.type "list",data:=.seq its.toArray cap }) (r:Vals ys its) (hz:ys.length<=sizeLine) (sb:c0q C s'.heap h') :
  Inv X pins σ (upd H' D (.lst ys)) { s' with heap:=h' }:=by
 have sb':∀b o,b≠C->s'.heap.get? b=some o->h'.get? b=some o:=sb.extBut;have nC:∀b o,s.heap.get? b=some o->b≠C:=fun b o e=>b8B (b8c (b8j e) hC);have nD:∀b o,s.heap.get? b=some o->b≠D:=fun b o e=>b8B (b8c (b8j e) hD);have hCn:H' C=none:=J.free;have u:=J.base;refine I.call' (ch:=fp) (s':={ s' with heap:=h' }) J.os ⟨fun b o e n hb hx=>?_,fun b o e n hb hx=>?_,fun b o e n hx=>?_,fun b o e hx=>?_,fun b xs e=>?_,fun b o v e=>?_,fun b ps e=>?_⟩ (fun b o e=>?_) J.bare (fun b hb=>?_)
 ·exact sb' _ _ (nC b o e) (u.keep b o e n hb hx)
 ·obtain⟨sl,q⟩:=u.slot b o e n hb hx;exact⟨sl,sb' _ _ (nC b o e) q⟩
 ·rw[a0k (nD b o e)];exact u.free b o e n hx
 ·obtain⟨o',q⟩:=u.there b o e hx;exact⟨o',sb' _ _ (nC b o e) q⟩
 ·have q:=u.tups b xs e;rw[a0k (a0o q hDn)];exact q
 ·have q:=u.frzs b o v e;rw[a0k (a0o q hDn)];exact q
 ·obtain⟨m,q⟩:=u.tbls b ps e;exact⟨m,by rw[a0k (a0o q hDn)];exact q⟩
 ·by_cases hb:b=D
  ·subst hb;rw[a0y] at e;cases e;exact⟨hz,its,cap,r,sb' _ _ hDC ho⟩
  ·rw[a0k hb] at e;refine(J.hok b o e).stay (fun c v hc q=>sb' c v ?_ q) (fun c q=>by rw[a0k (a0o q hDn)];exact q) fun c xs q=>by rw[a0k (a0o q hDn)];exact q
   rcases hc with rfl|hc
   ·exact a0o e hCn
   ·exact a0o hc hCn
 ·obtain⟨f0,f1,f2,f3,f4,f5⟩:=hf b hb;exact⟨f3,f1,f4,f5⟩
noncomputable def b3M(wi:TI)(ix:List (Option Nat))(g:TG)(tt:TT)(te:TE):TE:=fun σ H Q=>wi σ H fun J H1=>∃W:Nat->Nat->List V->Hp->Prop,(∃m,W 0 m [] H1)/\∀i m ys H,W i m ys H ->
 (J.stop i H/\ys.length<=sizeLine/\∀p,H p=none->Q (.ref p) (upd H p (.lst ys))) \/
 (J.go i H/\ys.length<sizeLine/\∀x H',J.yld i H x H'->g x (pick ix σ) H' fun σ2 H2=>tt σ2 H2 fun ok H3 =>
  if ok=true then te σ2 H3 fun y H4=>∃m',m'<m/\W (i+1) m' (ys++[y]) H4 else ∃m',m'<m/\W (i+1) m' ys H3)
noncomputable def PTs(X:Cx)(ifs:LSE)(t:TT):Prop :=
 ∀ pins s σ H (Q:Bool->Hp->Prop),Inv X pins σ H s->t σ H Q ->
   wpAny (model X.prog X.w) X.A (forIn ifs true fun c r=>if r=true then do let ok <- isTrue c X.env (eval c X.env);pure (c0b ok) else pure (c0b r)) (TP X pins σ Q) X.xe s
noncomputable def tYes:TT:=fun _ H Q=>Q true H
theorem b4j:PTs X [] tYes:=fun _ _ _ H _ I h=>c3x ⟨H,I,h⟩
noncomputable def Agr(ix:List (Option Nat))(σ σ2:St):Prop:=σ2.length=σ.length/\∀(k j:Nat),ix[k]?=some (some j)->σ2[k]?=σ[k]?
noncomputable def Own(ix:List (Option Nat))(g:TG):Prop:=∀(x:V) (σ0 σ:St) (H:Hp) (Q:St->Hp->Prop),Agr ix σ0 σ->g x σ H Q->g x σ H fun σ2 H2=>Q σ2 H2/\Agr ix σ0 σ2
theorem b2r{ix:List (Option Nat)}{i:Nat}(h:ix[i]?=some none):Own ix (b2S i):=by
 intro x σ0 σ H Q a q;refine⟨q,by rw[c0u];exact a.1,fun k j hk=>?_⟩;rw[b9D]
 ·exact a.2 k j hk
 ·rintro rfl;rw[h] at hk;cases hk
theorem b1y {elt iter tg:Expr} {ifs:LSE} {pos posc:Pos} {wi:TI} {g:TG} {tt:TT} {te:TE} (use:Option (b8g->Sem Unit)) (QQ:VPR) (hc:X.calm=true) (hi:PI X tg iter wi) (S:BlkScope X N' ix scope) (ow:Own ix g)
  (hg:∀C s H fp pins,PG (blk X N' scope C s H fp pins) tg g) (ht:∀C s H fp pins,PTs (blk X N' scope C s H fp pins) ifs tt) (he:∀C s H fp pins,PE (blk X N' scope C s H fp pins) elt te)
  (hs:∀x,foldedSetIterable iter X.env x=pure x) (pins:PNS) (s:b7Y) (σ:St) (H:Hp) (Q:VK) (I:Inv X pins σ H s) (h:b3M wi ix g tt te σ H Q)
  (hpost:∀(C D:Addr) (H5:Hp) (s4:b7Y) (m:SOV),s4.heap.Ns C m->FpOk X pins H5 C->(∀h',c0q C s4.heap h'->Inv X pins σ H5 { s4 with heap:=h' })->Q (.ref D) H5 ->
   compPost (model X.prog X.w) X.A X.xe use QQ (.ref D) C (.ok .next) s4) :
  wpAny (model X.prog X.w) X.A (comprehension (.ListComp elt [⟨tg,iter,ifs,0⟩] scope pos) scope X.env posc (newList []) false (eval iter X.env) use) QQ X.xe s:=by
 refine wpAny_comprehension_free (use:=use) rfl hs (a3e scope X.env fun y hy hk=>I.ok.has y.1 (S.frees y hy hk)) S.kind S.locs (thn (hi pins s σ H _ I h) fun v s1 h1=>thn h1 fun itv s2 h2=>?_);obtain⟨it,fp,tn,J,H2,e,I2,T,st2,f2,W,⟨m0,w0⟩,turn⟩:=h2;subst e
 have hfo:∀b∈fp,∃o,s2.heap.get? b=some o:=fun b hb=>let ⟨o,e,_⟩:=T.obj _ _ st2 b hb;⟨o,e⟩
 refine b9s (a1J (fun h₁ eh₁=>?_))
 dsimp only at eh₁|-
 generalize hH2:s2.heap.push { cls:=.type "list",dict:=none,data:=.seq ([]:LSV).toArray }=Hp2 at eh₁|-
 have hC:Hp2.objs.size=s2.heap.objs.size+1:=by rw[<- hH2,b9r]
 have old1:∀b o,Hp2.get? b=some o->h₁.get? b=some o:=fun b o e=>by rw[eh₁];exact c0V _ _ _ _ (b8d _ e)
 have hns:h₁.Ns Hp2.objs.size (fun _=>none):=by rw[eh₁];exact(c3Y Hp2 (.type "dict")).keeps (c0V _ _)
 have hown:∀x c,(x,c)∈cellsFrom (Hp2.objs.size+1) scope.names []->h₁.IsCell c none:=fun x c hm=>by
  have ok:=cellsFrom_ok scope.names (Hp2.push { cls:=.type "dict",data:=.dict #[] }) (Hp2.objs.size+1) [] ⟨fun _ _ hm=>(nomatch hm),c0F⟩ (by rw[b9r];exact b8k _);rw[b9r] at ok;rw[eh₁];exact(ok.empty x c hm).1
 generalize hCC:Hp2.objs.size=C at hns hown hC|-
 generalize hDD:s2.heap.objs.size=D at hC;have hCge:s2.heap.objs.size<=C:=by rw[hDD,hC];exact c2x _
 have hDge:s2.heap.objs.size<=D:=c1W hDD;have hDC:D≠C:=by rw[hC];exact b8B (b9c _)
 have hDlt:D<C:=by rw[hC];exact b9c _
 have old:∀b o,s2.heap.get? b=some o->h₁.get? b=some o:=fun b o e=>old1 b o (hH2▸b8d _ e);have hacc:h₁.get? D=some { cls:=.type "list",data:=.seq ([]:LSV).toArray 0 }:=old1 _ _ (hH2▸hDD▸b8A _ rfl)
 have stat:∀{H':Hp},(∀b∈fp,H' b=none)->∀b∈fp,FpOk (blk X N' scope C s2 H2 fp pins) [] H' b:=fun hn b hb=>by
  obtain⟨f0,f1,f2,f3,f4,f5⟩:=f2 b hb;obtain⟨o,ho⟩:=hfo b hb;refine⟨hn b hb,b8B (b8c (b8j ho) hCge),fun z=>?_,.inl hb,fun x c e=>?_,fun p hp=>?_⟩
  ·rcases b8l.mp (I2.stkSub _ z) with e|e
   ·exact f1 e
   ·exact f2 e
  ·rcases a0Q I2 S C e with ⟨a1,a2⟩|⟨a1,a2⟩
   ·exact b9L (b9M (b8c (b8j ho) hCge) a1)
   ·exact f4 x c a2
  ·have:p∈(X.pn++pins)++[]:=hp;exact f5 p (by simpa using this)
 have hDs:D∉(blk X N' scope C s2 H2 fp pins).fs:=fun hb=>by
  rcases b8l.mp (I2.stkSub _ hb) with e|e
  ·rw[e] at hDge;exact absurd (b8c I2.lt hDge) (b9a _)
  ·exact I2.nofs hDge e
 have loop:∀s₃:b7Y,s₃={ s2 with heap:=h₁ } ->
   codeAny (model X.prog X.w) X.A (.compLoop (.ListComp elt [⟨tg,iter,ifs,0⟩] scope pos) 0 (.ref it) (.ref D) (compEnvC scope (cellsFrom (C+1) scope.names []++a2F X.env scope.names []) C X.env))
    (compPost (model X.prog X.w) X.A X.xe use QQ (.ref D) C) s₃:=by
  rintro s₃ rfl
  refine a2E (fun n s'=>∃i ys its cap H',Inv (blk X N' scope C s2 H2 fp pins) [] (pick ix σ) H' s'/\tn i s'.heap/\(∀b∈fp,H' b=none)/\H' D=none /\
    s'.heap.get? D=some { cls:=.type "list",data:=.seq (its:LSV).toArray cap }/\Vals ys its/\W i n ys H') ?_ m0
   ⟨0,[],[],0,H2,a7e I2 f2 S hCge hfo hns old hown,T.keep _ _ _ st2 fun b _ o e=>old b o e,fun b hb=>(f2 b hb).1,I2.hok.fresh hDge,hacc,.nil,w0⟩
  rintro n s3 ⟨i,ys,its,cap,H3,I3,st3,fr3,hD3,ho3,r3,w3⟩
  have I3d:Inv (blk X N' scope C s2 H2 fp pins) [(D,{ cls:=.type "list",data:=.seq its.toArray cap })] (pick ix σ) H3 s3:=I3.pins_of fun p hp=>by
   have e:p=(D,{ cls:=.type "list",data:=.seq its.toArray cap }):=by simpa using hp
   subst e;exact⟨ho3,hD3,hDC,hDs,fun v z=>nomatch z⟩
  have statD:∀{H':Hp},(∀b∈fp,H' b=none)->∀b∈fp,FpOk (blk X N' scope C s2 H2 fp pins) [(D,({ cls:=.type "list",data:=.seq its.toArray cap }:Obj))] H' b:=fun hn b hb=>by
   obtain⟨f0,f1,f2,f3,f4,f5⟩:=stat hn b hb;obtain⟨o,ho⟩:=hfo b hb;refine⟨f0,f1,f2,f3,f4,fun p hp=>?_⟩;rcases b9F.mp hp with z|z
   ·exact f5 p (b8q _ z)
   ·have e:p=(D,({ cls:=.type "list",data:=.seq its.toArray cap }:Obj)):=by simpa using z
    subst e;exact b9L (b8c (b8j ho) hDge)
  rcases turn i n ys H3 w3 with ⟨stop,hz,qn⟩|⟨go,hz,step⟩
  ·refine b9q (thn (T.done (blk X N' scope C s2 H2 fp pins) rfl rfl rfl hc i _ s3 (pick ix σ) H3 (fun _ _=>False) I3d (statD fr3) st3 stop) fun r s4 ⟨hr,I4⟩=>?_);subst hr;obtain⟨e4,n4,_⟩:=I4.pin (D,_) (b8i _ (b9n.mpr rfl));obtain⟨m,hn,_⟩:=id I4.loc;have hC4:H3 C=none:=I4.free;exact hpost C D _ _ m hn (I2.fpOk hCge (by rw[a0k (b9t hDC)];exact hC4)) (fun h' sb=>b5d I2 f2 hCge hDge hDC (Inv.unpinned (pl:=[(D,_)]) (pins:=[]) I4) n4 e4 r3 hz sb) (qn D n4)
  ·refine b9q (thn (T.item (blk X N' scope C s2 H2 fp pins) rfl rfl rfl hc i _ s3 (pick ix σ) H3 (fun _ _=>False) I3d (statD fr3) st3 go) fun r s4 ⟨u,hr,h4⟩=>?_);subst hr;refine b9q (thn h4 fun _ s5 ⟨x,H5,I5,r5,y5,st5,fr5⟩=>?_);have I5':=I5.pinned (statD fr5) (T.obj _ _ st5);have again:∀{σ7:St} {H7:Hp} {s7:b7Y},Inv (blk X N' scope C s2 H2 fp pins) ([(D,({ cls:=.type "list",data:=.seq its.toArray cap }:Obj))]++a2I fp s5.heap) σ7 H7 s7 ->
     H7 D=none/\s7.heap.get? D=some { cls:=.type "list",data:=.seq its.toArray cap }/\tn (i+1) s7.heap/\∀b∈fp,H7 b=none:=fun {σ7 H7 s7} I7=>by
    obtain⟨e7,n7,_⟩:=I7.pin (D,_) (b8i _ (b8q _ (b9n.mpr rfl)));refine⟨n7,e7,T.keep _ _ _ st5 fun b hb o e=>(I7.pin (b,o) (b8i _ (b8i _ (a1b hb e)))).1,fun b hb=>?_⟩;obtain⟨o,e,d⟩:=T.obj _ _ st5 b hb;exact(I7.pin (b,o) (b8i _ (b8i _ (a1b hb e)))).2.1
   have forget:∀{σ7:St} {H7:Hp} {s7:b7Y},Inv (blk X N' scope C s2 H2 fp pins) ([(D,({ cls:=.type "list",data:=.seq its.toArray cap }:Obj))]++a2I fp s5.heap) σ7 H7 s7 ->
     (∀(k:Nat) v,(pick ix σ)[k]?=some (some v)->σ7[k]?=some (some v))->σ7.length=(pick ix σ).length->Inv (blk X N' scope C s2 H2 fp pins) [] (pick ix σ) H7 s7:=fun {σ7 H7 s7} I7 hk hl =>
    (I7.pins_of (pins':=[]) fun _ z=>nomatch z).weak hl.symm hk
   refine b9q (thn (hg C s2 H2 fp pins _ s5 (pick ix σ) H5 x u _ I5' r5 (ow _ _ _ _ _ ⟨rfl,fun _ _ _=>rfl⟩ (step x H5 y5))) fun _ s6 ⟨σ6,H6,I6,q6,l6,k6⟩=>?_)
   have back:∀(k:Nat) v,(pick ix σ)[k]?=some (some v)->σ6[k]?=some (some v):=fun k v e=>by
    obtain⟨j,e1,_⟩:=a5H e;rw[k6 k j e1];exact e
   refine b9q (thn (ht C s2 H2 fp pins _ s6 σ6 H6 _ I6 q6) fun ok s7 ⟨H7,I7,q7⟩=>?_);cases ok with
   | false =>
     rw[if_neg b8v];rw[if_neg b8v] at q7;obtain⟨m',hm,w7⟩:=q7;obtain⟨a1,a2,a3,a4⟩:=again I7;exact⟨m',hm,i+1,ys,its,cap,H7,forget I7 back l6,a3,a4,a1,a2,r3,w7⟩
   | true =>
     rw[if_pos rfl];rw[if_pos rfl] at q7;refine b9q (thn (he C s2 H2 fp pins _ s7 σ6 H7 _ I7 q7) fun z s8 ⟨y,H8,I8,r8,m',hm,w8⟩=>?_);obtain⟨a1,a2,a3,a4⟩:=again I8;have hl:=r3.length;refine b9q (c1L ⟨_,a2⟩ (fun h9 ⟨cap9,p9⟩ sb9=>?_) (by rw[b8h,<- hl];exact b9X hz))
     have I9:Inv (blk X N' scope C s2 H2 fp pins) [] (pick ix σ) H8 { s8 with heap:=h9 } :=
      (forget I8 back l6).turned (t':=s8.toks) (it:=D) (fun b o hb e=>sb9.extBut b o hb e) a1 hDC (.inr hDge) (fun x c e=>by
       rcases a0Q I2 S C e with ⟨a1,a2⟩|⟨a1,a2⟩
       ·exact b9L (b9M hDlt a1)
       ·obtain⟨v,z⟩:=I2.cell x c a2
        exact b8B (b8c z.lt hDge)) (fun p hp=>by
       have hp':p∈(X.pn++pins)++[]:=hp
       exact b8B (b8c (b8j (I2.pin p (by simpa using hp')).1) hDge))
     refine⟨m',hm,i+1,ys++[y],its++[z],cap9,H8,I9,?_,a4,a1,?_,r3.append (.cons r8 .nil),w8⟩
     ·refine T.keep _ _ _ a3 fun b hb o e=>sb9.extBut b o ?_ e;obtain⟨o',ho'⟩:=hfo b hb;exact b8B (b8c (b8j ho') hDge)
     ·rw[p9];simp
 exact codeAny_compStart_list (loop _ rfl) (T.self _ _ _ _ _ (T.keep _ _ _ st2 fun b _ o e=>old b o e) (loop _ rfl))
theorem b4q{elt iter tg:Expr}{ifs:LSE}{pos:Pos}{wi:TI}{g:TG}{tt:TT}{te:TE}(hc:X.calm=true)(hi:PI X tg iter wi)(S:BlkScope X N' ix scope)(ow:Own ix g)
  (hg:∀C s H fp pins,PG (blk X N' scope C s H fp pins) tg g) (ht:∀C s H fp pins,PTs (blk X N' scope C s H fp pins) ifs tt) (he:∀C s H fp pins,PE (blk X N' scope C s H fp pins) elt te)
  (hs:∀x,foldedSetIterable iter X.env x=pure x:=by intro _;rfl) :
  PE X (.ListComp elt [⟨tg,iter,ifs,0⟩] scope pos) (b3M wi ix g tt te):=by
 intro pins s σ H Q I h;rw[eval_ListComp];exact b1y none (EP X pins σ Q) hc hi S ow hg ht he hs pins s σ H Q I h fun C D H5 s4 m hn _ inv q=>⟨m,hn,fun h' sb=>⟨.ref D,H5,inv h' sb,rfl,q⟩⟩
noncomputable def b1W(scope outer:c0t):c0t :=
 { scope with names:=scope.names.map fun(n,k)=>if (k==.free&&outer.kind==.function&&outer.names.lookup n==some .cell) then (n,.cell) else (n,k) }
theorem a6t{scope:c0t}{env:Env}{x:Str}{k:b9u}(h:(relabel scope env).names.lookup x=some k)(hk:k=.cell\/k=.free):(x,b9z)∈scope.names\/(x,c0h)∈scope.names:=by
 have hm:(x,k)∈(relabel scope env).names:=PySem.mem_of_lookup h;unfold relabel at hm;obtain⟨⟨n,k0⟩,h1,h2⟩:=b9N.mp hm;dsimp only at h2;split at h2
 ·rename_i hc;have e1:n=x:=(c3Z h2).1;subst e1
  have:k0=b9z:=by
   simp only[b8m,beq_iff_eq] at hc;exact hc.1.1
  rw[this] at h1;exact .inl h1
 ·have e1:=c3Z h2;obtain⟨rfl,rfl⟩:=e1;rcases hk with rfl|rfl
  ·exact .inr h1
  ·exact .inl h1
noncomputable def blkB(outer:c0t)(N N':LSS)(ix:List (Option Nat))(scope:c0t):Bool :=
 decide (scope.kind=.function)&&decide (outer.kind=.function)&&scope.names.all (fun y=>decide (y.2=.local->scope.names.lookup y.1=some .local)) &&
 scope.names.all (fun y=>decide (y.2=.free->(outer.names.lookup y.1=some .cell\/outer.names.lookup y.1=some .free)))&&decide (ix.length=N'.length) &&
 (b9w ix.length).all fun i=>match ix[i]?,N'[i]? with
  | some (some j),some x=>decide (N[j]?=some x)&&decide ((x,b9z)∈scope.names)&&!ownB scope.names x &&
    decide ((b1W scope outer).names.lookup x=outer.names.lookup x)
  |_,_=>true
theorem a4D{X:Cx}{outer scope:c0t}{N N':LSS}{ix:List (Option Nat)}(h:blkB outer N N' ix scope=true)(ho:X.env.scope=outer)(hN:X.N=N):BlkScope X N' ix scope:=by
 unfold blkB at h;simp only[b8m,decide_eq_true_eq,b9o] at h;obtain⟨⟨⟨⟨⟨h1,h2⟩,h4⟩,h5⟩,h6⟩,h7⟩:=h;subst ho hN;refine⟨h1,h4,h5,fun x k hl hk=>a6t hl hk,h6,fun i j x e1 e2=>?_⟩;have hi:i<ix.length:=(b8C.mp e1).1;have q:=h7 i (c1r.mpr hi);rw[e1,e2] at q;simp only[b8m,decide_eq_true_eq,b8Z] at q;exact⟨q.1.1.1,q.1.1.2,q.1.2,q.2⟩
theorem PE.imp{X:Cx}{e:Expr}{t t':TE}(h:PE X e t)(f:∀σ H Q,t' σ H Q->t σ H Q):PE X e t':=fun pins s σ H Q I q=>h pins s σ H Q I (f σ H Q q)
theorem PT.imp{X:Cx}{e:Expr}{t t':TT}(h:PT X e t)(f:∀σ H Q,t' σ H Q->t σ H Q):PT X e t':=fun pins s σ H Q I q=>h pins s σ H Q I (f σ H Q q)
theorem PA.imp{X:Cx}{e:LSE}{t t':TA}(h:PA X e t)(f:∀σ H Q,t' σ H Q->t σ H Q):PA X e t':=fun pos pins s σ H Q I q=>h pos pins s σ H Q I (f σ H Q q)
theorem PS.imp{X:Cx}{e:Stmt}{t t':TS}(h:PS X e t)(f:∀D σ H,t' D σ H->t D σ H):PS X e t':=fun pins s σ H D I q=>h pins s σ H D I (f D σ H q)
theorem PSs.imp{X:Cx}{e:List Stmt}{t t':TS}(h:PSs X e t)(f:∀D σ H,t' D σ H->t D σ H):PSs X e t':=fun pins s σ H D I q=>h pins s σ H D I (f D σ H q)
inductive T where
 |non|bl (b:Bool)|int (i:Int)|str (x:Str)|tup (ts:List T)|adr (a:Addr)
 /-- a list that never changes (the script;a module's own) -/
 |rd (ts:List T)
 /-- a tuple of whole numbers that can be a dict's key -/
 |dic (ks:LSI) (ts:List T)
noncomputable def FzL(K:PySem.W.Frag)(H:Hp)(a:Addr)(xs:List V):Prop :=
 (∃o,H a=some (.frz o (.lst xs))) \/
  ∃(o:Obj) (its:Array b8g) (n:Nat),K.lookup a=some o/\o.cls=.type "list"/\o.dict=none/\o.data=.seq its n/\its.size<=sizeLine/\Vals xs its.toList
theorem FzL.sq{K:PySem.W.Frag}{H:Hp}{a:Addr}{xs:List V}(h:FzL K H a xs):SqL K H a xs:=by
 rcases h with ⟨o,h⟩|h
 ·exact .inl (.inr ⟨o,h⟩)
 ·exact .inr h
mutual
noncomputable def Rep(K:PySem.W.Frag)(H:Hp):V->T->Prop
 |v,.non=>v=.non
 |v,.bl b=>v=.bl b
 |v,.int i=>v=.int i
 |v,.str x=>v=.str x
 |v,.adr a=>v=.ref a
 |v,.tup ts=>∃a xs,v=.ref a/\SqT K H a xs/\Reps K H xs ts
 |v,.rd ts=>∃a xs,v=.ref a/\FzL K H a xs/\Reps K H xs ts
 |v,.dic ks _=>∃b,v=.ref b/\H b=some (.tup (ks.map V.int))
noncomputable def Reps(K:PySem.W.Frag)(H:Hp):List V->List T->Prop
 |vs,[]=>vs=[]
 |vs,t::ts=>∃v r,vs=v::r/\Rep K H v t/\Reps K H r ts
end
structure Kp(K:PySem.W.Frag)(H H':Hp):Prop where
 tup:∀a xs,SqT K H a xs->SqT K H' a xs
 frz:∀a o u,H a=some (.frz o u)->H' a=some (.frz o u)
 tr:∀a xs,H a=some (.tup xs)->H' a=some (.tup xs)
theorem Kp.refl{K:PySem.W.Frag}{H:Hp}:Kp K H H:=⟨fun _ _ h=>h,fun _ _ _ h=>h,fun _ _ h=>h⟩
theorem Kp.trans{K:PySem.W.Frag}{H H1 H2:Hp}(a:Kp K H H1)(b:Kp K H1 H2):Kp K H H2:=⟨fun _ _ h=>b.tup _ _ (a.tup _ _ h),fun _ _ _ h=>b.frz _ _ _ (a.frz _ _ _ h),fun _ _ h=>b.tr _ _ (a.tr _ _ h)⟩
structure KpW(K:PySem.W.Frag)(H H':Hp):Prop where
 tup:∀a xs,SqT K H a xs->SqT K H' a xs
 frz:∀a o u,H a=some (.frz o u)->H' a=some (.frz o u)
 tr:∀a xs,H a=some (.tup xs)->H' a=some (.tup xs)
theorem Kp.w{K:PySem.W.Frag}{H H':Hp}(k:Kp K H H'):KpW K H H':=⟨k.tup,k.frz,k.tr⟩
theorem KpW.fz{K:PySem.W.Frag}{H H':Hp}{a:Addr}{xs:List V}(k:KpW K H H')(h:FzL K H a xs):FzL K H' a xs:=by
 rcases h with ⟨o,h⟩|h
 ·exact .inl ⟨o,k.frz _ _ _ h⟩
 ·exact .inr h
mutual
theorem Rep.kw{K:PySem.W.Frag}{H H':Hp}(k:KpW K H H'):∀(v:V) (t:T),Rep K H v t->Rep K H' v t
 |v,.non,h=>h
 |v,.bl b,h=>h
 |v,.int i,h=>h
 |v,.str x,h=>h
 |v,.adr a,h=>h
 | v,.tup ts,h=>by
   unfold Rep at h|-
   obtain⟨a,xs,e,h1,h2⟩:=h;exact⟨a,xs,e,k.tup _ _ h1,Reps.kw k xs ts h2⟩
 | v,.rd ts,h=>by
   unfold Rep at h|-
   obtain⟨a,xs,e,h1,h2⟩:=h;exact⟨a,xs,e,k.fz h1,Reps.kw k xs ts h2⟩
 | v,.dic ks ts,h=>by
   unfold Rep at h|-
   obtain⟨b,e,h1⟩:=h;exact⟨b,e,k.tr _ _ h1⟩
theorem Reps.kw{K:PySem.W.Frag}{H H':Hp}(k:KpW K H H'):∀(vs:List V) (ts:List T),Reps K H vs ts->Reps K H' vs ts
 |vs,[],h=>h
 | vs,t::ts,h=>by
   unfold Reps at h|-
   obtain⟨v,r,e,h1,h2⟩:=h;exact⟨v,r,e,Rep.kw k v t h1,Reps.kw k r ts h2⟩
end
theorem Rep.kp{K:PySem.W.Frag}{H H':Hp}(k:Kp K H H')(v:V)(t:T)(h:Rep K H v t):Rep K H' v t:=Rep.kw k.w v t h
theorem Reps.kp{K:PySem.W.Frag}{H H':Hp}(k:Kp K H H')(vs:List V)(ts:List T)(h:Reps K H vs ts):Reps K H' vs ts:=Reps.kw k.w vs ts h
section
variable{K:PySem.W.Frag}{H:Hp}
theorem Reps.cons{v:V}{t:T}{vs:List V}{ts:List T}(h:Rep K H v t)(r:Reps K H vs ts):Reps K H (v::vs) (t::ts):=by
 unfold Reps;exact⟨v,vs,rfl,h,r⟩
theorem Reps.nil:Reps K H [] []:=by unfold Reps;rfl
theorem Reps.length:∀{vs:List V} {ts:List T},Reps K H vs ts->vs.length=ts.length
 |vs,[],h=>by unfold Reps at h;subst h;rfl
 | vs,t::ts,h=>by
   unfold Reps at h;obtain⟨v,r,rfl,_,h2⟩:=h;rw[b8t,b8t,Reps.length h2]
theorem Reps.get:∀{vs:List V} {ts:List T} {i:Nat} {t:T},Reps K H vs ts->ts[i]?=some t->∃v,vs[i]?=some v/\Rep K H v t
 |_,[],_,_,_,e=>by simp at e
 | vs,t::ts,0,u,h,e=>by
   unfold Reps at h;obtain⟨v,r,rfl,h1,_⟩:=h;simp at e;subst e;exact⟨v,rfl,h1⟩
 | vs,t::ts,i+1,u,h,e=>by
   unfold Reps at h;obtain⟨v,r,rfl,_,h2⟩:=h;obtain⟨w,q1,q2⟩:=Reps.get (i:=i) h2 (by simpa using e);exact⟨w,by simpa using q1,q2⟩
theorem Reps.append:∀{vs:List V} {ts:List T} {ws:List V} {us:List T},Reps K H vs ts->Reps K H ws us->Reps K H (vs++ws) (ts++us)
 |vs,[],_,_,h,g=>by unfold Reps at h;subst h;exact g
 | vs,t::ts,_,_,h,g=>by
   unfold Reps at h;obtain⟨v,r,rfl,h1,h2⟩:=h;exact .cons h1 (Reps.append h2 g)
theorem Reps.take:∀{vs:List V} {ts:List T} (n:Nat),Reps K H vs ts->Reps K H (vs.take n) (ts.take n)
 |_,_,0,_=>.nil
 |vs,[],n+1,h=>by unfold Reps at h;subst h;exact .nil
 | vs,t::ts,n+1,h=>by
   unfold Reps at h;obtain⟨v,r,rfl,h1,h2⟩:=h;exact .cons h1 (Reps.take n h2)
theorem Reps.drop:∀{vs:List V} {ts:List T} (n:Nat),Reps K H vs ts->Reps K H (vs.drop n) (ts.drop n)
 |_,_,0,h=>h
 |vs,[],n+1,h=>by unfold Reps at h;subst h;exact .nil
 | vs,t::ts,n+1,h=>by
   unfold Reps at h;obtain⟨v,r,rfl,h1,h2⟩:=h;exact Reps.drop n h2
theorem Reps.set{v:V}{t:T}(g:Rep K H v t):∀{vs:List V} {ts:List T} (n:Nat),Reps K H vs ts->Reps K H (vs.set n v) (ts.set n t)
 |vs,[],n,h=>by unfold Reps at h;subst h;exact .nil
 | vs,u::ts,0,h=>by
   unfold Reps at h;obtain⟨v,r,rfl,h1,h2⟩:=h;exact .cons g h2
 | vs,u::ts,n+1,h=>by
   unfold Reps at h;obtain⟨v,r,rfl,h1,h2⟩:=h;exact .cons h1 (Reps.set g n h2)
theorem Reps.reverse:∀{vs:List V} {ts:List T},Reps K H vs ts->Reps K H vs.reverse ts.reverse
 |vs,[],h=>by unfold Reps at h;subst h;exact .nil
 | vs,u::ts,h=>by
   unfold Reps at h;obtain⟨v,r,rfl,h1,h2⟩:=h;rw[c0D,c0D];exact(Reps.reverse h2).append (.cons h1 .nil)
theorem Reps.of_ints:∀(ns:LSI),Reps K H (ns.map V.int) (ns.map T.int)
 |[]=>.nil
 |n::ns=>.cons (by unfold Rep;rfl) (Reps.of_ints ns)
end
inductive MO where
 /-- a list that may be written -/
 |lst (ts:List T)
 /-- a dict that may be written: keys whole numbers or texts -/
 |dk (kvs:List (Key×T))
 /-- the same,keys tuples of such -/
 |dt (kvs:List (List Key×T))
 /-- the same,walked: it may not be written any more -/
 |fz (kvs:List (List Key×T))
 /-- a dict with keys whole numbers or texts that may not be written any more (a walk may go over it) -/
 |fk (kvs:List (Key×T))
 /-- an object of an own class,its fields -/
 |ob (C:Addr) (fs:List (Str×T))
noncomputable abbrev MH:=Addr->Option MO
noncomputable def updM(M:MH)(a:Addr)(o:MO):MH:=fun b=>if b=a then some o else M b
theorem a0d{M:MH}{a:Addr}{o:MO}:updM M a o a=some o:=if_pos rfl
theorem a0t{M:MH}{a b:Addr}{o:MO}(h:b≠a):updM M a o b=M b:=if_neg h
noncomputable def Sub(M M':MH):Prop:=∀a o,M a=some o->M' a=some o
theorem Sub.refl{M:MH}:Sub M M:=fun _ _ h=>h
theorem Sub.trans{M M1 M2:MH}(a:Sub M M1)(b:Sub M1 M2):Sub M M2:=fun _ _ h=>b _ _ (a _ _ h)
theorem Sub.new{M:MH}{p:Addr}{o:MO}(h:M p=none):Sub M (updM M p o):=fun b u q=>by
 rw[a0t]
 ·exact q
 ·rintro rfl;rw[h] at q;cases q
noncomputable def KRep{κ:Type}(K:PySem.W.Frag)(H:Hp):List (κ×V)->List (κ×T)->Prop
 |[],[]=>True
 |p::r,q::u=>p.1=q.1/\Rep K H p.2 q.2/\KRep K H r u
 |_,_=>False
theorem KRep.kp{κ:Type}{K:PySem.W.Frag}{H H':Hp}(k:Kp K H H'):∀{xs:List (κ×V)} {kvs:List (κ×T)},KRep K H xs kvs->KRep K H' xs kvs
 |[],[],_=>trivial
 |p::r,q::u,h=>⟨h.1,Rep.kp k _ _ h.2.1,KRep.kp k h.2.2⟩
 |[],q::u,h=>h.elim
 |p::r,[],h=>h.elim
theorem KRep.length{κ:Type}{K:PySem.W.Frag}{H:Hp}:∀{xs:List (κ×V)} {kvs:List (κ×T)},KRep K H xs kvs->xs.length=kvs.length
 |[],[],_=>rfl
 |p::r,q::u,h=>by rw[b8t,b8t,KRep.length h.2.2]
 |[],q::u,h=>h.elim
 |p::r,[],h=>h.elim
noncomputable def MOk(K:PySem.W.Frag)(H:Hp)(a:Addr):MO->Prop
 |.lst ts=>∃xs,H a=some (.lst xs)/\Reps K H xs ts
 |.dk kvs=>∃xs,H a=some (.dK xs)/\KRep K H xs kvs
 |.dt kvs=>∃xs,H a=some (.dT xs)/\KRep K H xs kvs
 |.fz kvs=>∃o xs,H a=some (.frz o (.dT xs))/\KRep K H xs kvs
 |.fk kvs=>∃xs,Rd H a (.dK xs)/\KRep K H xs kvs
 |.ob C fs=>∃dx xs,H a=some (.ins C dx xs)/\KRep K H xs fs
noncomputable def HR(K:PySem.W.Frag)(H:Hp)(M:MH):Prop:=∀a o,M a=some o->MOk K H a o
theorem HR.sub{K:PySem.W.Frag}{H:Hp}{M M':MH}(h:HR K H M')(s:Sub M M'):HR K H M:=fun a o e=>h a o (s a o e)
noncomputable abbrev En:=List (Option T)
noncomputable def RhoR(K:PySem.W.Frag)(σ:St)(H:Hp)(ρ:En):Prop:=σ.length=ρ.length/\∀(i:Nat) (t:T),ρ[i]?=some (some t)->∃v,σ[i]?=some (some v)/\Rep K H v t
theorem RhoR.kp{K:PySem.W.Frag}{σ:St}{H H':Hp}{ρ:En}(h:RhoR K σ H ρ)(k:Kp K H H'):RhoR K σ H' ρ:=⟨h.1,fun i t e=>let ⟨v,a,b⟩:=h.2 i t e;⟨v,a,Rep.kp k _ _ b⟩⟩
theorem RhoR.set{K:PySem.W.Frag}{σ:St}{H:Hp}{ρ:En}{v:V}{t:T}(h:RhoR K σ H ρ)(i:Nat)(r:Rep K H v t):RhoR K (σ.set i (some v)) H (ρ.set i (some t)):=by
 refine⟨by rw[c0u,c0u,h.1],fun j u e=>?_⟩;by_cases hj:i=j
 ·subst hj
  have hi:i<ρ.length:=by
   have:=(b8C.mp e).1
   rwa [c0u] at this
  rw[b9T hi] at e;cases e;exact⟨v,b9T (show i<c0T σ by rw[h.1];exact hi),r⟩
 ·rw[b9D hj] at e;rw[b9D hj];exact h.2 j u e
noncomputable abbrev VK3:=T->MH->Prop
noncomputable abbrev TE3:=En->MH->VK3->Prop
noncomputable abbrev TT3:=En->MH->(Bool->MH->Prop)->Prop
noncomputable abbrev TA3:=En->MH->(List T->MH->Prop)->Prop
structure Ends3 where
 nx:En->MH->Prop
 rt:VK3
 bk:En->MH->Prop:=fun _ _=>False
 ct:En->MH->Prop:=fun _ _=>False
noncomputable abbrev TS3:=Ends3->En->MH->Prop
noncomputable def EndE(K:PySem.W.Frag)(H:Hp)(Q:VK3)(Q2:VK):Prop:=∀t v M' H',Kp K H H'->HR K H' M'->Rep K H' v t->Q t M'->Q2 v H'
theorem EndE.kp{K:PySem.W.Frag}{H H':Hp}{Q:VK3}{Q2:VK}(h:EndE K H Q Q2)(k:Kp K H H'):EndE K H' Q Q2:=fun t v M' H1 k1=>h t v M' H1 (k.trans k1)
noncomputable def bE(K:PySem.W.Frag)(ρ:En)(M:MH)(Q:VK3):TE:=fun σ H Q2=>RhoR K σ H ρ/\HR K H M/\EndE K H Q Q2
noncomputable def HE(X:Cx)(e:Expr)(t:TE3):Prop:=∀ρ M Q,t ρ M Q->PE X e (bE X.K ρ M Q)
noncomputable def EndT(K:PySem.W.Frag)(H:Hp)(Q:Bool->MH->Prop)(Q2:Bool->Hp->Prop):Prop:=∀b M' H',Kp K H H'->HR K H' M'->Q b M'->Q2 b H'
noncomputable def bT(K:PySem.W.Frag)(ρ:En)(M:MH)(Q:Bool->MH->Prop):TT:=fun σ H Q2=>RhoR K σ H ρ/\HR K H M/\EndT K H Q Q2
noncomputable def HT(X:Cx)(e:Expr)(t:TT3):Prop:=∀ρ M Q,t ρ M Q->PT X e (bT X.K ρ M Q)
noncomputable def EndA(K:PySem.W.Frag)(H:Hp)(Q:List T->MH->Prop)(Q2:List V->Hp->Prop):Prop:=∀ts vs M' H',Kp K H H'->HR K H' M'->Reps K H' vs ts->Q ts M'->Q2 vs H'
noncomputable def bA(K:PySem.W.Frag)(ρ:En)(M:MH)(Q:List T->MH->Prop):TA:=fun σ H Q2=>RhoR K σ H ρ/\HR K H M/\EndA K H Q Q2
noncomputable def HA(X:Cx)(es:LSE)(t:TA3):Prop:=∀ρ M Q,t ρ M Q->PA X es (bA X.K ρ M Q)
structure EndS(K:PySem.W.Frag)(H:Hp)(D:Ends3)(D2:Ends):Prop where
 nx:∀ρ' M' σ' H',Kp K H H'->RhoR K σ' H' ρ'->HR K H' M'->D.nx ρ' M'->D2.nx σ' H'
 rt:EndE K H D.rt D2.rt
 bk:∀ρ' M' σ' H',Kp K H H'->RhoR K σ' H' ρ'->HR K H' M'->D.bk ρ' M'->D2.bk σ' H'
 ct:∀ρ' M' σ' H',Kp K H H'->RhoR K σ' H' ρ'->HR K H' M'->D.ct ρ' M'->D2.ct σ' H'
theorem EndS.kp{K:PySem.W.Frag}{H H':Hp}{D:Ends3}{D2:Ends}(h:EndS K H D D2)(k:Kp K H H'):EndS K H' D D2 :=
 ⟨fun a b c d k1=>h.nx a b c d (k.trans k1),h.rt.kp k,fun a b c d k1=>h.bk a b c d (k.trans k1),fun a b c d k1=>h.ct a b c d (k.trans k1)⟩
noncomputable def bS(K:PySem.W.Frag)(D:Ends3)(ρ:En)(M:MH):TS:=fun D2 σ H=>RhoR K σ H ρ/\HR K H M/\EndS K H D D2
noncomputable def HS(X:Cx)(st:Stmt)(t:TS3):Prop:=∀D ρ M,t D ρ M->PS X st (bS X.K D ρ M)
noncomputable def HSs(X:Cx)(st:List Stmt)(t:TS3):Prop:=∀D ρ M,t D ρ M->PSs X st (bS X.K D ρ M)
noncomputable def dE(K:PySem.W.Frag)(ρ:En)(t:TE3):TE:=fun σ H Q2=>∃M Q,t ρ M Q/\bE K ρ M Q σ H Q2
noncomputable def dT(K:PySem.W.Frag)(ρ:En)(t:TT3):TT:=fun σ H Q2=>∃M Q,t ρ M Q/\bT K ρ M Q σ H Q2
noncomputable def dA(K:PySem.W.Frag)(ρ:En)(t:TA3):TA:=fun σ H Q2=>∃M Q,t ρ M Q/\bA K ρ M Q σ H Q2
noncomputable def dS(K:PySem.W.Frag)(t:TS3):TS:=fun D2 σ H=>∃D ρ M,t D ρ M/\bS K D ρ M D2 σ H
section
variable{X:Cx}{e:Expr}{es:LSE}{st:Stmt}{sts:List Stmt}{ρ:En}
theorem HE.d{t:TE3}(h:HE X e t):PE X e (dE X.K ρ t):=fun pins s σ H Q I ⟨M,Q3,q,b⟩=>h ρ M Q3 q pins s σ H Q I b
theorem HT.d{t:TT3}(h:HT X e t):PT X e (dT X.K ρ t):=fun pins s σ H Q I ⟨M,Q3,q,b⟩=>h ρ M Q3 q pins s σ H Q I b
theorem HA.d{t:TA3}(h:HA X es t):PA X es (dA X.K ρ t):=fun pos pins s σ H Q I ⟨M,Q3,q,b⟩=>h ρ M Q3 q pos pins s σ H Q I b
theorem HS.d{t:TS3}(h:HS X st t):PS X st (dS X.K t):=fun pins s σ H D I ⟨D3,ρ,M,q,b⟩=>h D3 ρ M q pins s σ H D I b
theorem HSs.d{t:TS3}(h:HSs X sts t):PSs X sts (dS X.K t):=fun pins s σ H D I ⟨D3,ρ,M,q,b⟩=>h D3 ρ M q pins s σ H D I b
end
mutual
noncomputable def eqT:T->T->Bool
 |.non,.non=>true
 |.bl a,.bl b=>a==b
 |.bl a,.int b=>(if a then 1 else 0)==b
 |.int a,.bl b=>a==(if b then 1 else 0)
 |.int a,.int b=>a==b
 |.str a,.str b=>a==b
 |.tup a,.tup b=>eqTs a b
 |_,_=>false
noncomputable def eqTs:List T->List T->Bool
 |[],[]=>true
 |x::xs,y::ys=>eqT x y&&eqTs xs ys
 |_,_=>false
end
mutual
noncomputable def a0i:T->Bool
 |.adr _=>false
 |.rd _=>false
 |.dic _ _=>false
 |.tup ts=>a0X ts
 |_=>true
noncomputable def a0X:List T->Bool
 |[]=>true
 |t::ts=>a0i t&&a0X ts
end
mutual
noncomputable def depT:T->Nat
 |.tup ts=>a3b ts+1
 |_=>0
noncomputable def a3b:List T->Nat
 |[]=>0
 |t::ts=>max (depT t) (a3b ts)
end
theorem a1L:∀{ts:List T} {j:Nat} {t:T},a0X ts=true->ts[j]?=some t->a0i t=true
 |[],_,_,_,e=>by simp at e
 |x::ts,0,t,h,e=>by simp at e;subst e;unfold a0X at h;exact(b8m _ _▸h).1
 | x::ts,j+1,t,h,e=>by
   unfold a0X at h;exact a1L (j:=j) (b8m _ _▸h).2 (by simpa using e)
theorem a4t:∀{ts:List T} {j:Nat} {t:T},ts[j]?=some t->depT t<=a3b ts
 |[],_,_,e=>by simp at e
 |x::ts,0,t,e=>by simp at e;subst e;unfold a3b;exact Nat.le_max_left _ _
 | x::ts,j+1,t,e=>by
   have:=a4t (ts:=ts) (j:=j) (t:=t) (by simpa using e);unfold a3b;exact b8G this (Nat.le_max_right _ _)
noncomputable def eqJ(xs ys:List T)(j:Nat):Bool:=match xs[j]?,ys[j]? with
 |some x,some y=>eqT x y
 |_,_=>true
theorem a2D:∀(xs ys:List T),(((b9w (min xs.length ys.length)).all (eqJ xs ys))&&(xs.length==ys.length))=eqTs xs ys
 |[],[]=>by unfold eqTs;rfl
 |[],y::ys=>by unfold eqTs;simp
 |x::xs,[]=>by unfold eqTs;simp
 | x::xs,y::ys=>by
   unfold eqTs;rw[<- a2D xs ys];rw[b8t,b8t,Nat.succ_min_succ,List.range_succ_eq_map,c0f,c1j];have e1:eqJ (x::xs) (y::ys) 0=eqT x y:=rfl
   have e2:(eqJ (x::xs) (y::ys))∘Nat.succ=eqJ xs ys:=by
    funext j;simp[eqJ]
   rw[e1,e2,Bool.and_assoc];congr 2;simp
theorem a8z:∀{xs ys:List T},eqTs xs ys=true->xs.length=ys.length
 |[],[],_=>rfl
 |[],y::ys,h=>by unfold eqTs at h;cases h
 |x::xs,[],h=>by unfold eqTs at h;cases h
 | x::xs,y::ys,h=>by
   unfold eqTs at h;rw[b8m] at h;rw[b8t,b8t,a8z h.2]
mutual
theorem a8A:∀(x:T),a0i x=true->eqT x x=true
 |.non,_=>rfl
 |.bl b,_=>by simp[eqT]
 |.int i,_=>by simp[eqT]
 |.str x,_=>by simp[eqT]
 |.adr a,h=>by unfold a0i at h;cases h
 |.rd a,h=>by unfold a0i at h;cases h
 |.dic ks a,h=>by unfold a0i at h;cases h
 |.tup ts,h=>by unfold a0i at h;unfold eqT;exact a6O ts h
theorem a6O:∀(xs:List T),a0X xs=true->eqTs xs xs=true
 |[],_=>by unfold eqTs;rfl
 | x::xs,h=>by
   unfold a0X at h;rw[b8m] at h;unfold eqTs;rw[a8A x h.1,a6O xs h.2];rfl
end
section
variable{X:Cx}{pins:PNS}{σ:St}{H:Hp}{s:b7Y}
theorem b3V (I:Inv X pins σ H s):∀(x y:T) (v:V),a0i x=true->a0i y=true->Rep X.K H v x->Rep X.K H v y->eqT x y=true:=by
 have key:∀n (x y:T) (v:V),depT x<=n->a0i x=true->a0i y=true->Rep X.K H v x->Rep X.K H v y->eqT x y=true:=by
  intro n
  induction n with
  | zero =>
    intro x y v hd px py rx ry;cases x with
    |tup ts=>unfold depT at hd;lia
    |adr a=>unfold a0i at px;cases px
    |rd a=>unfold a0i at px;cases px
    |dic ks a=>unfold a0i at px;cases px
    |_=>unfold Rep at rx;subst rx;cases y<;>unfold Rep at ry<;>first|(obtain⟨_,_,e,_⟩:=ry;cases e;done)|(unfold a0i at py;cases py;done)|(cases ry<;>simp[eqT])
  | succ n ih =>
    intro x y v hd px py rx ry;cases x with
    |adr a=>unfold a0i at px;cases px
    |rd a=>unfold a0i at px;cases px
    |dic ks a=>unfold a0i at px;cases px
    | tup ts =>
      unfold Rep at rx;obtain⟨a,xs,rfl,h1,h2⟩:=rx;cases y with
      |adr a=>unfold a0i at py;cases py
      |rd a=>unfold a0i at py;cases py
      |dic ks a=>unfold a0i at py;cases py
      | tup us =>
        unfold Rep at ry;obtain⟨a',ys,e,g1,g2⟩:=ry;cases e;obtain rfl:=I.tuple_inj h1 g1;unfold a0i at px py;unfold depT at hd;unfold eqT;have hl:=h2.length;have hl2:=g2.length;rw[<- a2D];rw[<- hl,<- hl2];simp only[Nat.min_self,beq_self_eq_true,c3L,b9o,c1r];intro j hj;have e1:ts[j]?=some ts[j]:=b8u (by lia);have e2:us[j]?=some us[j]:=b8u (by lia);obtain⟨v1,q1,r1⟩:=h2.get e1;obtain⟨v2,q2,r2⟩:=g2.get e2;rw[q1] at q2;cases q2;unfold eqJ;rw[e1,e2];have:=a4t e1;exact ih _ _ _ (by lia) (a1L px e1) (a1L py e2) r1 r2
      |_=>unfold Rep at ry;cases ry
    |_=>unfold Rep at rx;subst rx;cases y<;>unfold Rep at ry<;>first|(obtain⟨_,_,e,_⟩:=ry;cases e;done)|(unfold a0i at py;cases py;done)|(cases ry<;>simp[eqT])
 exact fun x y v=>key (depT x) x y v (b8k _)
open SeqAt in
theorem b1k{A:b8w}(x y:T)(v u:V)(a b:b8g)(px:a0i x=true)(py:a0i y=true)(rx:Rep X.K H v x)(ry:Rep X.K H u y)(ra:RelV v a)(rb:RelV u b)(nx:∀ts,x≠.tup ts)(ny:∀ts,y≠.tup ts) :
  c0C A s a b (eqT x y)/\c2p A s a b (eqT x y)/\c1k A s a b (!(eqT x y)):=by
 cases x with
 |tup ts=>exact absurd rfl (nx ts)
 |adr p=>unfold a0i at px;cases px
 |rd p=>unfold a0i at px;cases px
 |dic ks p=>unfold a0i at px;cases px
 | non =>
   unfold Rep at rx;subst rx;cases ra;cases y with
   |tup ts=>exact absurd rfl (ny ts)
   |adr p=>unfold a0i at py;cases py
   |rd p=>unfold a0i at py;cases py
   |dic ks p=>unfold a0i at py;cases py
   | non =>
     unfold Rep at ry;subst ry;cases rb;have e:eqT .non .non=true:=rfl;rw[e];exact⟨EqAt.same _,RcAt.none_none,RcNeAt.none_none⟩
   | bl c0 =>
     unfold Rep at ry;subst ry;cases rb;have e:eqT .non (.bl c0)=false:=rfl;rw[e];exact⟨EqAt.none_bool _,RcAt.none_bool _,RcNeAt.none_bool _⟩
   | int c0 =>
     unfold Rep at ry;subst ry;obtain⟨t_rb,rfl⟩:=rb;have e:eqT .non (.int c0)=false:=rfl;rw[e];exact⟨EqAt.none_int _ _,RcAt.none_int _ _,RcNeAt.none_int _ _⟩
   | str c0 =>
     unfold Rep at ry;subst ry;obtain⟨t_rb,rfl⟩:=rb;have e:eqT .non (.str c0)=false:=rfl;rw[e];exact⟨EqAt.none_str _ _,RcAt.none_str _ _,RcNeAt.none_str _ _⟩
 | bl b0 =>
   unfold Rep at rx;subst rx;cases ra;cases y with
   |tup ts=>exact absurd rfl (ny ts)
   |adr p=>unfold a0i at py;cases py
   |rd p=>unfold a0i at py;cases py
   |dic ks p=>unfold a0i at py;cases py
   | non =>
     unfold Rep at ry;subst ry;cases rb;have e:eqT (.bl b0) .non=false:=rfl;rw[e];exact⟨EqAt.bool_none _,RcAt.bool_none _,RcNeAt.bool_none _⟩
   | bl c0 =>
     unfold Rep at ry;subst ry;cases rb;have e:eqT (.bl b0) (.bl c0)=(b0==c0):=rfl;rw[e];exact⟨EqAt.bool_bool _ _,RcAt.bool_bool _ _,RcNeAt.bool_bool _ _⟩
   | int c0 =>
     unfold Rep at ry;subst ry;obtain⟨t_rb,rfl⟩:=rb
     have e:eqT (.bl b0) (.int c0)=((if b0 then 1 else 0)==c0):=rfl
     rw[e];exact⟨EqAt.bool_int _ _ _,RcAt.bool_int _ _ _,RcNeAt.bool_int _ _ _⟩
   | str c0 =>
     unfold Rep at ry;subst ry;obtain⟨t_rb,rfl⟩:=rb;have e:eqT (.bl b0) (.str c0)=false:=rfl;rw[e];exact⟨EqAt.bool_str _ _ _,RcAt.bool_str _ _ _,RcNeAt.bool_str _ _ _⟩
 | int b0 =>
   unfold Rep at rx;subst rx;obtain⟨t_ra,rfl⟩:=ra;cases y with
   |tup ts=>exact absurd rfl (ny ts)
   |adr p=>unfold a0i at py;cases py
   |rd p=>unfold a0i at py;cases py
   |dic ks p=>unfold a0i at py;cases py
   | non =>
     unfold Rep at ry;subst ry;cases rb;have e:eqT (.int b0) .non=false:=rfl;rw[e];exact⟨EqAt.int_none _ _,RcAt.int_none _ _,RcNeAt.int_none _ _⟩
   | bl c0 =>
     unfold Rep at ry;subst ry;cases rb
     have e:eqT (.int b0) (.bl c0)=(b0==(if c0 then 1 else 0)):=rfl
     rw[e];exact⟨EqAt.int_bool _ _ _,RcAt.int_bool _ _ _,RcNeAt.int_bool _ _ _⟩
   | int c0 =>
     unfold Rep at ry;subst ry;obtain⟨t_rb,rfl⟩:=rb;have e:eqT (.int b0) (.int c0)=(b0==c0):=rfl;rw[e];exact⟨EqAt.int_int _ _ _ _,RcAt.int_int _ _ _ _,RcNeAt.int_int _ _ _ _⟩
   | str c0 =>
     unfold Rep at ry;subst ry;obtain⟨t_rb,rfl⟩:=rb;have e:eqT (.int b0) (.str c0)=false:=rfl;rw[e];exact⟨EqAt.int_str _ _ _ _,RcAt.int_str _ _ _ _,RcNeAt.int_str _ _ _ _⟩
 | str b0 =>
   unfold Rep at rx;subst rx;obtain⟨t_ra,rfl⟩:=ra;cases y with
   |tup ts=>exact absurd rfl (ny ts)
   |adr p=>unfold a0i at py;cases py
   |rd p=>unfold a0i at py;cases py
   |dic ks p=>unfold a0i at py;cases py
   | non =>
     unfold Rep at ry;subst ry;cases rb;have e:eqT (.str b0) .non=false:=rfl;rw[e];exact⟨EqAt.str_none _ _,RcAt.str_none _ _,RcNeAt.str_none _ _⟩
   | bl c0 =>
     unfold Rep at ry;subst ry;cases rb;have e:eqT (.str b0) (.bl c0)=false:=rfl;rw[e];exact⟨EqAt.str_bool _ _ _,RcAt.str_bool _ _ _,RcNeAt.str_bool _ _ _⟩
   | int c0 =>
     unfold Rep at ry;subst ry;obtain⟨t_rb,rfl⟩:=rb;have e:eqT (.str b0) (.int c0)=false:=rfl;rw[e];exact⟨EqAt.str_int _ _ _ _,RcAt.str_int _ _ _ _,RcNeAt.str_int _ _ _ _⟩
   | str c0 =>
     unfold Rep at ry;subst ry;obtain⟨t_rb,rfl⟩:=rb;have e:eqT (.str b0) (.str c0)=(b0==c0):=rfl;rw[e];exact⟨EqAt.str_str _ _ _ _,RcAt.str_str _ _ _ _,RcNeAt.str_str _ _ _ _⟩
theorem b7T{x:T}(h:∀ts,x≠.tup ts):depT x=0:=by
 cases x with
 |tup ts=>exact absurd rfl (h ts)
 |_=>rfl
open SeqAt in
/-- a tuple against what is none -/
theorem a9w{A:b8w}{p:Addr}{its:Array b8g}(ht:s.heap.IsTuple p its)(hu:A.units<cLine)(x:T)(us:List T)(v:V)(a:b8g)(px:a0i x=true)(rx:Rep X.K H v x)(ra:RelV v a)(nx:∀ts,x≠.tup ts) :
  c0C A s a (.ref p) (eqT x (.tup us))/\c2p A s a (.ref p) (eqT x (.tup us))/\c1k A s a (.ref p) (!(eqT x (.tup us))):=by
 cases x with
 |tup ts=>exact absurd rfl (nx ts)
 |adr q=>unfold a0i at px;cases px
 |rd q=>unfold a0i at px;cases px
 |dic ks q=>unfold a0i at px;cases px
 | non =>
   unfold Rep at rx;subst rx;cases ra;have e:eqT .non (.tup us)=false:=rfl;rw[e];exact⟨.none_tuple ht hu,.none_tuple ht hu,.none_tuple ht hu⟩
 | bl b0 =>
   unfold Rep at rx;subst rx;cases ra;have e:eqT (.bl b0) (.tup us)=false:=rfl;rw[e];exact⟨.bool_tuple _ ht hu,.bool_tuple _ ht hu,.bool_tuple _ ht hu⟩
 | int b0 =>
   unfold Rep at rx;subst rx;obtain⟨t,rfl⟩:=ra;have e:eqT (.int b0) (.tup us)=false:=rfl;rw[e];exact⟨.int_tuple _ _ ht hu,.int_tuple _ _ ht hu,.int_tuple _ _ ht hu⟩
 | str b0 =>
   unfold Rep at rx;subst rx;obtain⟨t,rfl⟩:=ra;have e:eqT (.str b0) (.tup us)=false:=rfl;rw[e];exact⟨.str_tuple _ _ ht hu,.str_tuple _ _ ht hu,.str_tuple _ _ ht hu⟩
open SeqAt in
theorem a9x{A:b8w}{p:Addr}{its:Array b8g}(ht:s.heap.IsTuple p its)(hu:A.units<cLine)(x:T)(us:List T)(v:V)(a:b8g)(px:a0i x=true)(rx:Rep X.K H v x)(ra:RelV v a)(nx:∀ts,x≠.tup ts) :
  c0C A s (.ref p) a (eqT (.tup us) x)/\c2p A s (.ref p) a (eqT (.tup us) x)/\c1k A s (.ref p) a (!(eqT (.tup us) x)):=by
 cases x with
 |tup ts=>exact absurd rfl (nx ts)
 |adr q=>unfold a0i at px;cases px
 |rd q=>unfold a0i at px;cases px
 |dic ks q=>unfold a0i at px;cases px
 | non =>
   unfold Rep at rx;subst rx;cases ra;have e:eqT (.tup us) .non=false:=rfl;rw[e];exact⟨.tuple_none ht hu,.tuple_none ht hu,.tuple_none ht hu⟩
 | bl b0 =>
   unfold Rep at rx;subst rx;cases ra;have e:eqT (.tup us) (.bl b0)=false:=rfl;rw[e];exact⟨.tuple_bool _ ht hu,.tuple_bool _ ht hu,.tuple_bool _ ht hu⟩
 | int b0 =>
   unfold Rep at rx;subst rx;obtain⟨t,rfl⟩:=ra;have e:eqT (.tup us) (.int b0)=false:=rfl;rw[e];exact⟨.tuple_int _ _ ht hu,.tuple_int _ _ ht hu,.tuple_int _ _ ht hu⟩
 | str b0 =>
   unfold Rep at rx;subst rx;obtain⟨t,rfl⟩:=ra;have e:eqT (.tup us) (.str b0)=false:=rfl;rw[e];exact⟨.tuple_str _ _ ht hu,.tuple_str _ _ ht hu,.tuple_str _ _ ht hu⟩
theorem a8d(x:T):(∃ts,x=.tup ts)\/∀ts,x≠.tup ts:=by
 cases x with
 |tup ts=>exact .inl ⟨ts,rfl⟩
 |_=>exact .inr fun ts e=>by cases e
theorem a8w{A:b8w}{n:Nat}{ts us:List T}{xs ys:List V}{its its2:LSV}(px:a0X ts=true)(py:a0X us=true)(hd:a3b ts<=n)(h2:Reps X.K H xs ts)(g2:Reps X.K H ys us)(r1:Vals xs its)(r2:Vals ys its2)
  (ih:∀(x y:T) (v u:V) (a b:b8g),depT x<=n->a0i x=true->a0i y=true->Rep X.K H v x->Rep X.K H u y->RelV v a->RelV u b->c0C A s a b (eqT x y)) (j:Nat) (hj1:j<its.toArray.size) (hj2:j<its2.toArray.size) :
  c0C A s its.toArray[j] its2.toArray[j] (eqJ ts us j):=by
 have l1:=h2.length;have l2:=g2.length;have m1:=r1.length;have m2:=r2.length;have hj1':j<its.length:=by simpa using hj1
 have hj2':j<its2.length:=by simpa using hj2
 have e1:ts[j]?=some (ts[j]'(by lia)):=b8u (by lia);have e2:us[j]?=some (us[j]'(by lia)):=b8u (by lia);obtain⟨v1,a1,b1⟩:=h2.get e1;obtain⟨v2,a2,b2⟩:=g2.get e2;obtain⟨w1,c1,d1⟩:=r1.get a1;obtain⟨w2,c2,d2⟩:=r2.get a2
 have f1:its.toArray[j]=w1:=by
  have:its[j]?=some (its[j]'hj1'):=b8u hj1';rw[c1] at this
  simpa using (b8s this).symm
 have f2:its2.toArray[j]=w2:=by
  have:its2[j]?=some (its2[j]'hj2'):=b8u hj2';rw[c2] at this
  simpa using (b8s this).symm
 have e3:eqJ ts us j=eqT (ts[j]'(by lia)) (us[j]'(by lia)):=by unfold eqJ;rw[e1,e2]
 rw[f1,f2,e3];have:=a4t e1;exact ih _ _ v1 v2 w1 w2 (by lia) (a1L px e1) (a1L py e2) b1 b2 d1 d2
open SeqAt in
/--==(by identity first),==,!= of two values,by their trees -/
theorem a8B(I:Inv X pins σ H s):∀n (A:b8w) (x y:T) (v u:V) (a b:b8g),depT x<=n->A.units+n+1<cLine->a0i x=true->a0i y=true->Rep X.K H v x->Rep X.K H u y->RelV v a->RelV u b ->
  c0C A s a b (eqT x y)/\c2p A s a b (eqT x y)/\c1k A s a b (!(eqT x y)):=by
 intro n
 induction n with
 | zero =>
   intro A x y v u a b hd hu px py rx ry ra rb;rcases a8d x with ⟨ts,rfl⟩|nx
   ·unfold depT at hd;lia
   ·rcases a8d y with ⟨us,rfl⟩|ny
    ·unfold Rep at ry;obtain⟨p,ys,rfl,g1,g2⟩:=ry;obtain⟨its,r',ht,_⟩:=I.tuple g1;have ht':s.heap.IsTuple p its.toArray:=ht;cases rb;exact a9w ht' (by lia) x us v a px rx ra nx
    ·exact b1k x y v u a b px py rx ry ra rb nx ny
 | succ n ih =>
   intro A x y v u a b hd hu px py rx ry ra rb;have hu':A.units<cLine:=by lia
   rcases a8d x with ⟨ts,rfl⟩|nx
   ·have rx':=rx;unfold Rep at rx;obtain⟨p,xs,rfl,h1,h2⟩:=rx;cases ra;obtain⟨its,r1,ht,_⟩:=I.tuple h1;have ht':s.heap.IsTuple p its.toArray:=ht;rcases a8d y with ⟨us,rfl⟩|ny
    ·have ry':=ry;unfold Rep at ry;obtain⟨q,ys,rfl,g1,g2⟩:=ry;cases rb;obtain⟨its2,r2,ht2,_⟩:=I.tuple g1;have ht2':s.heap.IsTuple q its2.toArray:=ht2;have px':=px;have py':=py;unfold a0i at px py;unfold depT at hd;have he:=a8w (A:=A.in1) (s:=s) (n:=n) px py (by lia) h2 g2 r1 r2 fun x y v u a b hx px py rx ry ra rb=>(ih A.in1 x y v u a b hx (by show A.units+1+n+1<cLine;lia) px py rx ry ra rb).1
     have ee:((b9w (min its.toArray.size its2.toArray.size)).all (eqJ ts us)&&its.toArray.size==its2.toArray.size)=eqT (.tup ts) (.tup us):=by
      have l1:=h2.length;have l2:=g2.length;have m1:=r1.length;have m2:=r2.length;unfold eqT;rw[<- a2D,b8h,b8h,<- m1,<- m2,l1,l2]
     have rc:=RcAt.tuples (A:=A) (e:=eqJ ts us) ht' ht2' hu' he;have rn:=RcNeAt.tuples (A:=A) (e:=eqJ ts us) ht' ht2' hu' he;rw[ee] at rc rn;refine⟨?_,rc,rn⟩;by_cases hpq:p=q
     ·subst hpq;have e:eqT (.tup ts) (.tup us)=true:=b3V I (.tup ts) (.tup us) (.ref p) px' py' rx' ry';rw[e];exact .same _
     ·exact .of_refs hpq rc
    ·exact a9x ht' hu' y ts u b py ry rb ny
   ·exact ih A x y v u a b (by rw[b7T nx];exact b9B _) (by lia) px py rx ry ra rb
end
noncomputable abbrev R3:=T->T->MH->VK3->Prop
noncomputable def dR(K:PySem.W.Frag)(r:R3):R2:=fun v u H Q2=>∃x y M Q,Rep K H v x/\Rep K H u y/\HR K H M/\r x y M Q/\EndE K H Q Q2
noncomputable def dU(K:PySem.W.Frag)(r:T->MH->VK3->Prop):V->Hp->VK->Prop:=fun v H Q2=>∃x M Q,Rep K H v x/\HR K H M/\r x M Q/\EndE K H Q Q2
noncomputable def dL(K:PySem.W.Frag)(r:List T->MH->VK3->Prop):List V->Hp->VK->Prop:=fun vs H Q2=>∃xs M Q,Reps K H vs xs/\HR K H M/\r xs M Q/\EndE K H Q Q2
theorem Kp.new{K:PySem.W.Frag}{H:Hp}{p:Addr}{o:HO}(h:H p=none):Kp K H (upd H p o):=by
 refine⟨fun a xs q=>?_,fun a ob u q=>by rw[a0k (a0o q h)];exact q,fun a xs q=>by rw[a0k (a0o q h)];exact q⟩;rcases q with (q|⟨ob,q⟩)|q
 ·exact .inl (.inl (by rw[a0k (a0o q h)];exact q))
 ·exact .inl (.inr ⟨ob,by rw[a0k (a0o q h)];exact q⟩)
 ·exact .inr q
theorem Kp.lst{K:PySem.W.Frag}{H:Hp}{p:Addr}{xs ys:List V}(h:H p=some (.lst xs)):Kp K H (upd H p (.lst ys)):=by
 have ne:∀{a:Addr} {o:HO},H a=some o->o≠.lst xs->a≠p:=fun {a o} q hn e=>by
  subst e;rw[h] at q;cases q;exact hn rfl
 refine⟨fun a zs q=>?_,fun a ob u q=>by rw[a0k (ne q (by intro z;cases z))];exact q,fun a xs q=>by rw[a0k (ne q (by intro z;cases z))];exact q⟩;rcases q with (q|⟨ob,q⟩)|q
 ·exact .inl (.inl (by rw[a0k (ne q (by intro z;cases z))];exact q))
 ·exact .inl (.inr ⟨ob,by rw[a0k (ne q (by intro z;cases z))];exact q⟩)
 ·exact .inr q
theorem Kp.dict{K:PySem.W.Frag}{H:Hp}{p:Addr}{o u:HO}(h:H p=some o)(ho:(∃kvs,o=.dK kvs)\/∃kvs,o=.dT kvs):Kp K H (upd H p u):=by
 have ne:∀{a:Addr} {u:HO},H a=some u->((∃xs,u=.tup xs)\/∃b x,u=.frz b x)->a≠p:=fun {a u} q hn e=>by
  subst e;rw[h] at q;cases q;rcases ho with ⟨_,rfl⟩|⟨_,rfl⟩<;>rcases hn with ⟨_,z⟩|⟨_,_,z⟩<;>cases z
 refine⟨fun a zs q=>?_,fun a ob u q=>by rw[a0k (ne q (.inr ⟨_,_,rfl⟩))];exact q,fun a xs q=>by rw[a0k (ne q (.inl ⟨_,rfl⟩))];exact q⟩;rcases q with (q|⟨ob,q⟩)|q
 ·exact .inl (.inl (by rw[a0k (ne q (.inl ⟨_,rfl⟩))];exact q))
 ·exact .inl (.inr ⟨ob,by rw[a0k (ne q (.inr ⟨_,_,rfl⟩))];exact q⟩)
 ·exact .inr q
section
variable{K:PySem.W.Frag}{H:Hp}{M:MH}
noncomputable def Wr:HO->Prop
 |.lst _=>True
 |.dK _=>True
 |.dT _=>True
 |.frz _ _=>True
 |.ins _ _ _=>True
 |_=>False
theorem MOk.kp{H':Hp}{a:Addr}{o:MO}(h:MOk K H a o)(k:Kp K H H')(ha:∀u,Wr u->H a=some u->H' a=some u):MOk K H' a o:=by
 cases o with
 |lst ts=>obtain⟨xs,e,r⟩:=h;exact⟨xs,ha _ trivial e,Reps.kp k _ _ r⟩
 |dk kvs=>obtain⟨xs,e,r⟩:=h;exact⟨xs,ha _ trivial e,r.kp k⟩
 |dt kvs=>obtain⟨xs,e,r⟩:=h;exact⟨xs,ha _ trivial e,r.kp k⟩
 |fz kvs=>obtain⟨ob,xs,e,r⟩:=h;exact⟨ob,xs,k.frz _ _ _ e,r.kp k⟩
 | fk kvs =>
   obtain⟨xs,e,r⟩:=h;rcases e with e|⟨ob,e⟩
   ·exact⟨xs,.inl (ha _ trivial e),r.kp k⟩
   ·exact⟨xs,.inr ⟨ob,k.frz _ _ _ e⟩,r.kp k⟩
 |ob C fs=>obtain⟨dx,xs,e,r⟩:=h;exact⟨dx,xs,ha _ trivial e,r.kp k⟩
theorem MOk.some{a:Addr}{o:MO}(h:MOk K H a o):∃u,H a=Option.some u/\Wr u:=by
 cases o with
 |lst ts=>obtain⟨xs,e,r⟩:=h;exact⟨_,e,trivial⟩
 |dk kvs=>obtain⟨xs,e,r⟩:=h;exact⟨_,e,trivial⟩
 |dt kvs=>obtain⟨xs,e,r⟩:=h;exact⟨_,e,trivial⟩
 |fz kvs=>obtain⟨ob,xs,e,r⟩:=h;exact⟨_,e,trivial⟩
 | fk kvs =>
   obtain⟨xs,e,r⟩:=h;rcases e with e|⟨ob,e⟩
   ·exact⟨_,e,trivial⟩
   ·exact⟨_,e,trivial⟩
 |ob C fs=>obtain⟨dx,xs,e,r⟩:=h;exact⟨_,e,trivial⟩
theorem HR.free{p:Addr}(h:HR K H M)(hp:H p=none):M p=none:=by
 cases q:M p with
 |none=>rfl
 | some o =>
   obtain⟨u,e,_⟩:=(h p o q).some;rw[hp] at e;cases e
theorem HR.keep{p:Addr}{o:HO}(h:HR K H M)(hp:H p=none):HR K (upd H p o) M:=fun a u e =>
 (h a u e).kp (Kp.new hp) fun u _ q=>by rw[a0k (a0o q hp)];exact q
theorem HR.newL{p:Addr}{xs:List V}{ts:List T}(h:HR K H M)(hp:H p=none)(r:Reps K H xs ts):HR K (upd H p (.lst xs)) (updM M p (.lst ts)):=fun a u e=>by
 by_cases ha:a=p
 ·subst ha;rw[a0d] at e;cases e;exact⟨xs,a0y,Reps.kp (Kp.new hp) _ _ r⟩
 ·rw[a0t ha] at e;exact(h.keep hp) a u e
theorem HR.setL{p:Addr}{xs ys:List V}{us:List T}(h:HR K H M)(hp:H p=some (.lst xs))(r:Reps K H ys us):HR K (upd H p (.lst ys)) (updM M p (.lst us)):=fun a u e=>by
 by_cases ha:a=p
 ·subst ha;rw[a0d] at e;cases e;exact⟨ys,a0y,Reps.kp (Kp.lst hp) _ _ r⟩
 ·rw[a0t ha] at e;exact(h a u e).kp (Kp.lst hp) fun u _ q=>by rw[a0k ha];exact q
theorem HR.newK{p:Addr}{xs:List (Key×V)}{kvs:List (Key×T)}(h:HR K H M)(hp:H p=none)(r:KRep K H xs kvs):HR K (upd H p (.dK xs)) (updM M p (.dk kvs)):=fun a u e=>by
 by_cases ha:a=p
 ·subst ha;rw[a0d] at e;cases e;exact⟨xs,a0y,r.kp (Kp.new hp)⟩
 ·rw[a0t ha] at e;exact(h.keep hp) a u e
theorem HR.setK{p:Addr}{o:HO}{xs:List (Key×V)}{kvs:List (Key×T)}(h:HR K H M)(hp:H p=some o)(ho:(∃kvs,o=.dK kvs)\/∃kvs,o=.dT kvs)(r:KRep K H xs kvs):HR K (upd H p (.dK xs)) (updM M p (.dk kvs)):=fun a u e=>by
 by_cases ha:a=p
 ·subst ha;rw[a0d] at e;cases e;exact⟨xs,a0y,r.kp (Kp.dict hp ho)⟩
 ·rw[a0t ha] at e;exact(h a u e).kp (Kp.dict hp ho) fun u _ q=>by rw[a0k ha];exact q
end
noncomputable def OpR3(X:Cx)(f:b8g->b8g->Sem b8g)(r:R3):Prop:=OpR X f (dR X.K r)
noncomputable def UnR3(X:Cx)(f:b8g->Sem b8g)(r:T->MH->VK3->Prop):Prop:=UnR X f (dU X.K r)
noncomputable def a2K(X:Cx)(f:b8g)(r:List T->MH->VK3->Prop):Prop:=a6b X f (dL X.K r)
noncomputable def IxR3(X:Cx)(r:R3):Prop:=IxR X (dR X.K r)
noncomputable def tOp3(r:R3)(ta tb:TE3):TE3:=fun ρ M Q=>ta ρ M fun x M1=>tb ρ M1 fun y M2=>r x y M2 Q
noncomputable def tUn3(r:T->MH->VK3->Prop)(ta:TE3):TE3:=fun ρ M Q=>ta ρ M fun x M1=>r x M1 Q
noncomputable def b1O(i:Nat):TE3:=fun ρ M Q=>match ρ[i]? with
 |some (some t)=>Q t M
 |_=>False
noncomputable def tK(t:T):TE3:=fun _ M Q=>Q t M
section
variable{X:Cx}{a b c e:Expr}{es:LSE}{ta tb tc te:TE3}{pos:Pos}
theorem dOp{ρ:En}{M:MH}{Q:VK3}{r:R3}(h:tOp3 r ta tb ρ M Q){σ:St}{H:Hp}{Q2:VK}(b:bE X.K ρ M Q σ H Q2):tOp (dR X.K r) (dE X.K ρ ta) (dE X.K ρ tb) σ H Q2:=by
 obtain⟨hr,hh,en⟩:=b;refine⟨M,_,h,hr,hh,fun t v M1 H1 k1 h1 r1 q1=>⟨M1,_,q1,hr.kp k1,h1,fun t2 v2 M2 H2 k2 h2 r2 q2=>⟨t,t2,M2,Q,Rep.kp k2 _ _ r1,r2,h2,q2,en.kp (k1.trans k2)⟩⟩⟩
theorem a0I{op:Operator}{r:R3}(ho:OpR3 X (binaryOp op) r)(ha:HE X a ta)(hb:HE X b tb):HE X (.BinOp a op b pos) (tOp3 r ta tb):=fun ρ M Q h =>
 (b7w ho (ha.d (ρ:=ρ)) (hb.d (ρ:=ρ))).imp fun σ H Q2 b=>dOp h b
theorem h_un{op:UnaryOp}{r:T->MH->VK3->Prop}(ho:UnR3 X (unaryOp op) r)(ha:HE X a ta):HE X (.UnaryOp op a pos) (tUn3 r ta):=fun ρ M Q h =>
 (b7v ho (ha.d (ρ:=ρ))).imp fun σ H Q2 ⟨hr,hh,en⟩=>⟨M,_,h,hr,hh,fun t v M1 H1 k1 h1 r1 q1=>⟨t,M1,Q,r1,h1,q1,en.kp k1⟩⟩
theorem b7N{i:Nat}{x:Str}(hN:X.N[i]?=some x)(hv:Vis X.env.scope x)(hd:QDD x:=by decide)(hcd:(x==("__classdict__":Str))=false:=by decide):HE X (.Name x pos) (b1O i):=fun ρ M Q h =>
 (b5Y hN hv hd hcd).imp fun σ H Q2 ⟨hr,hh,en⟩=>by
  unfold b1O at h;split at h
  ·rename_i t e;obtain⟨v,e1,r⟩:=hr.2 i t e;exact⟨v,e1,en t v M H Kp.refl hh r h⟩
  ·exact h.elim
theorem hv(i:Nat){x:Str}{pos:Pos}(hN:X.N[i]?=some x:=by rfl)(hv:Vis X.env.scope x:=by first|exact c2L rfl|exact c2c (c2L rfl)|exact c2c (c2c rfl))(hd:QDD x:=by decide)
  (hcd:(x==("__classdict__":Str))=false:=by decide):HE X (.Name x pos) (b1O i):=b7N hN hv hd hcd
theorem a0J{K:PySem.W.Frag}{H:Hp}{i:Int}:Rep K H (.int i) (.int i):=by unfold Rep;rfl
theorem a0Z{K:PySem.W.Frag}{H:Hp}{i:Bool}:Rep K H (.bl i) (.bl i):=by unfold Rep;rfl
theorem a0G{K:PySem.W.Frag}{H:Hp}{i:Str}:Rep K H (.str i) (.str i):=by unfold Rep;rfl
theorem a2q{K:PySem.W.Frag}{H:Hp}:Rep K H .non .non:=by unfold Rep;rfl
theorem a1u{K:PySem.W.Frag}{H:Hp}{a:Addr}:Rep K H (.ref a) (.adr a):=by unfold Rep;rfl
theorem a1t{K:PySem.W.Frag}{H:Hp}{a:Addr}{xs:List V}{ts:List T}(h:SqT K H a xs)(r:Reps K H xs ts):Rep K H (.ref a) (.tup ts):=by unfold Rep;exact⟨a,xs,rfl,h,r⟩
theorem a4q{v:V}{t:T}(h:PE X e (tC v))(r:∀K H,Rep K H v t):HE X e (tK t):=fun ρ M Q q=>h.imp fun σ H Q2 ⟨hr,hh,en⟩=>en t v M H Kp.refl hh (r _ _) q
theorem a0g{i j pos}:HE X (.Constant (.int i) j pos) (tK (.int i)):=a4q b6e fun _ _=>a0J
theorem h_bl{b j pos}:HE X (.Constant (.bool b) j pos) (tK (.bl b)):=a4q b7y fun _ _=>a0Z
theorem b7P{j pos}:HE X (.Constant .none j pos) (tK .non):=a4q b6c fun _ _=>a2q
theorem a0c{x j pos}:HE X (.Constant (.str x) j pos) (tK (.str x)):=a4q b6a fun _ _=>a0G
theorem a5R{x:Str}{i:Int}{tk:Tok}{pos:Pos}(hm:X.mg x=some (.int i tk))(hg:Gl X x:=by rfl)(hd:QDD x:=by decide):HE X (.Name x pos) (tK (.int i)):=a4q (v:=.int i) (a7A hg hm ⟨tk,rfl⟩ hd) fun _ _=>a0J
theorem a0q{K:PySem.W.Frag}{H:Hp}{v:V}{i:Int}(r:Rep K H v (.int i)):v=.int i:=by unfold Rep at r;exact r
theorem a0r{K:PySem.W.Frag}{H:Hp}{v:V}{i:Str}(r:Rep K H v (.str i)):v=.str i:=by unfold Rep at r;exact r
theorem a2f{K:PySem.W.Frag}{H:Hp}{v:V}{i:Bool}(r:Rep K H v (.bl i)):v=.bl i:=by unfold Rep at r;exact r
theorem a4l{K:PySem.W.Frag}{H:Hp}{v:V}(r:Rep K H v .non):v=.non:=by unfold Rep at r;exact r
theorem a0n{K:PySem.W.Frag}{H:Hp}{v:V}{a:Addr}(r:Rep K H v (.adr a)):v=.ref a:=by unfold Rep at r;exact r
theorem a1w{K:PySem.W.Frag}{H:Hp}{v:V}{ts:List T}(r:Rep K H v (.tup ts)):∃a xs,v=.ref a/\SqT K H a xs/\Reps K H xs ts:=by unfold Rep at r;exact r
noncomputable def rInt(C:Int->Int->Prop)(g:Int->Int->Int):R3:=fun x y M Q=>match x,y with
 |.int i,.int j=>C i j/\Q (.int (g i j)) M
 |_,_=>False
theorem a7D{f:b8g->b8g->Sem b8g}{C:Int->Int->Prop}{g:Int->Int->Int}(h:OpR X f (rI C fun i j=>.int (g i j))):OpR3 X f (rInt C g):=by
 intro pins s σ H x y v u Q2 I rx ry q;obtain⟨a,b,M,Q,r1,r2,hh,q,en⟩:=q;unfold rInt at q;split at q
 ·obtain rfl:=a0q r1;obtain rfl:=a0q r2;exact h pins s σ H _ _ v u Q2 I rx ry ⟨_,_,rfl,rfl,q.1,en _ _ M H Kp.refl hh a0J q.2⟩
 ·exact q.elim
noncomputable def b3Y:R3:=fun x y M Q=>match x,y with
 |.int i,.int j=>Q (.int (i-j)) M
 |_,_=>False
theorem b0u:OpR3 X (binaryOp .Sub) b3Y:=by
 intro pins s σ H x y v u Q2 I rx ry q;obtain⟨a,b,M,Q,r1,r2,hh,q,en⟩:=q;unfold b3Y at q;split at q
 ·obtain rfl:=a0q r1;obtain rfl:=a0q r2;exact b6j pins s σ H _ _ v u Q2 I rx ry ⟨_,_,rfl,rfl,en _ _ M H Kp.refl hh a0J q⟩
 ·exact q.elim
noncomputable def b5f(i j:Int):Prop:=0<j/\j.natAbs.log2<9000
theorem b2t:OpR X (binaryOp .FloorDiv) (rI b5f fun i j=>.int (i / j)):=opI fun i j _ _ _ _ _ hc q=>by
 have e:i.fdiv j=i / j:=Int.fdiv_eq_ediv_of_nonneg i (Int.le_of_lt hc.1);exact floordiv_int (c2d hc.1) (by rw[e];exact q) (.inl (PyProof.noPylong_of_log2 hc.2))
noncomputable def b5Q:R3:=rInt b5f fun i j=>i / j
noncomputable def b5P:R3:=rInt (fun _ j=>0<j) fun i j=>i%j
noncomputable def b5O:R3:=rInt CPow fun i j=>i^j.toNat
theorem b0x:OpR3 X (binaryOp .FloorDiv) b5Q:=a7D b2t
theorem a3n:OpR3 X (binaryOp .Mod) b5P:=a7D b6n
theorem b0v:OpR3 X (binaryOp .Pow) b5O:=a7D b6l
noncomputable def b4a:T->MH->VK3->Prop:=fun x M Q=>match x with
 |.int i=>Q (.int (-i)) M
 |_=>False
theorem a9G:UnR3 X (unaryOp .USub) b4a:=by
 intro pins s σ H x v Q2 I rx q;obtain⟨a,M,Q,r1,hh,q,en⟩:=q;unfold b4a at q;split at q
 ·obtain rfl:=a0q r1;exact b5j pins s σ H _ v Q2 I rx ⟨_,rfl,en _ _ M H Kp.refl hh a0J q⟩
 ·exact q.elim
theorem b2u:OpR X (binaryOp .Add) (fun x y H Q=>∃a b ys,x=.ref a/\y=.ref b/\SqT X.K H a []/\SqT X.K H b ys/\Q (.ref b) H):=by
 intro pins s σ H x y v u Q I rx ry h;obtain⟨a,b,ys,rfl,rfl,hx,hy,q⟩:=h;cases rx;cases ry;obtain⟨its,r,ht,hz⟩:=I.tuple hx;obtain⟨its2,r2,ht2,hz2⟩:=I.tuple hy;have e:its=[]:=r.nil_iff.mpr rfl;subst e;obtain⟨⟨cls,dd,data,sl⟩,ho,hc,n,hd⟩:=id ht;obtain⟨⟨cls2,dd2,data2,sl2⟩,ho2,hc2,n2,hd2⟩:=id ht2;simp only at hc hd hc2 hd2;subst hc hd hc2 hd2;exact c3c ⟨_,ho,rfl⟩ ⟨_,ho2,rfl⟩ c1P c2H PySem.F.slot_tuple_add PySem.F.entry_tuple_add (PySem.F.args_tuple_add_2 _ _)
   (tuple_addW0 a b _ its2.toArray n n2 dd dd2 sl sl2 (by simp)) ⟨ho,ho2,⟨.ref b,H,I,rfl,q⟩⟩
noncomputable def b4h:R3:=fun x y M Q=>match x,y with
 |.int i,.int j=>Q (.int (i+j)) M
 |.str a,.str b=>a.length+b.length<=sizeLine/\Q (.str (a++b)) M
 |.tup a,.tup b=>a.length+b.length<=sizeLine/\Q (.tup (a++b)) M
 | .adr p,.adr q=>match M p,M q with
   |some (.lst a),some (.lst b)=>a.length+b.length<=sizeLine/\∀r,M r=none->Q (.adr r) (updM M r (.lst (a++b)))
   |_,_=>False
 |_,_=>False
theorem a0C:OpR3 X (binaryOp .Add) b4h:=by
 intro pins s σ H x y v u Q2 I rx ry q;obtain⟨a,b,M,Q,r1,r2,hh,q,en⟩:=q;unfold b4h at q;split at q
 ·obtain rfl:=a0q r1;obtain rfl:=a0q r2;exact b6q pins s σ H _ _ v u Q2 I rx ry ⟨_,_,rfl,rfl,en _ _ M H Kp.refl hh a0J q⟩
 ·obtain rfl:=a0r r1;obtain rfl:=a0r r2;exact a9e pins s σ H _ _ v u Q2 I rx ry ⟨_,_,rfl,rfl,q.1,en _ _ M H Kp.refl hh a0G q.2⟩
 ·rename_i ts us;obtain⟨p,xs,rfl,h1,h2⟩:=a1w r1;obtain⟨p',ys,rfl,g1,g2⟩:=a1w r2;have l1:=h2.length;have l2:=g2.length;by_cases hx:xs=[]
  ·subst hx;have ht:ts=[]:=b9R (by rw[<- l1];rfl);subst ht;exact b2u pins s σ H _ _ v u Q2 I rx ry ⟨_,_,ys,rfl,rfl,h1,g1,en _ _ M H Kp.refl hh (a1t g1 g2) q.2⟩
  ·refine b4w pins s σ H _ _ v u Q2 I rx ry ⟨_,_,xs,ys,rfl,rfl,h1,g1,hx,by rw[l1,l2];exact q.1,fun hy=>?_,fun hy r hr=>?_⟩
   ·subst hy;have ht:us=[]:=b9R (by rw[<- l2];rfl);subst ht;have q2:=q.2;rw[b8O] at q2;exact en _ _ M H Kp.refl hh (a1t h1 h2) q2
   ·refine en _ _ M _ (Kp.new hr) (hh.keep hr) (a1t (SqT.of a0y) ?_) q.2;exact Reps.kp (Kp.new hr) _ _ (h2.append g2)
 ·rename_i p p';obtain rfl:=a0n r1;obtain rfl:=a0n r2;split at q
  ·rename_i ts us e1 e2;obtain⟨xs,h1,h2⟩:=hh _ _ e1;obtain⟨ys,g1,g2⟩:=hh _ _ e2;refine b6p pins s σ H _ _ v u Q2 I rx ry ⟨_,_,xs,ys,rfl,rfl,h1,g1,by rw[h2.length,g2.length];exact q.1,fun r hr=>?_⟩;exact en _ _ _ _ (Kp.new hr) (hh.newL hr (h2.append g2)) a1u (q.2 r (hh.free hr))
  ·exact q.elim
 ·exact q.elim
end
theorem a3E:fillsNumberSlot (.type "tuple") "mul"=pure false :=
 PySem.fillsNumberSlot_seq (id:="tuple.__mul__") (r:=some (.builtin "tuple.__rmul__")) c0n.lookup (by decide +kernel) c2W.lookup (by decide +kernel)
theorem a6s:seqRepeat? (.type "tuple")=pure (some (.builtin "tuple.__mul__")):=by
 unfold seqRepeat?;rw[PySem.seqSlot_of (T:="tuple") (name:="__mul__") (id:="tuple.__mul__") c0n.lookup (by decide +kernel),PySem.seqSlot_of (T:="tuple") (name:="__rmul__") (id:="tuple.__rmul__") c2W.lookup (by decide +kernel)];rfl
section
variable(l:Addr)(items:Array b8g)(n:Nat)(x:Int)(u:Tok)(dd:Option Addr)(sl:AOV)
theorem a4N:Meets (c1u.«int.__rmul__» ⟨[.int x u,.ref l],[]⟩) (fun _ R s=>s.heap.get? l=some { cls:=.type "tuple",dict:=dd,data:=.seq items n,slots:=sl }/\R (.ok (.ret Value.notImplemented)) s) :=
 .of_wp fun prog w A R s h=>by obtain⟨hp,g,d,tk,os⟩:=s;obtain⟨hl,h⟩:=h;wp_walk;exact⟨_,rfl,h⟩
theorem a7n(h0:-(2^63)<=x)(h1:x<2^63)(hc:(items.isEmpty||x==1)=true) :
  Meets (c1u.«tuple.__mul__» ⟨[.ref l,.int x u],[]⟩) (fun _ R s=>s.heap.get? l=some { cls:=.type "tuple",dict:=dd,data:=.seq items n,slots:=sl }/\R (.ok (.ret (b8z l))) s) :=
 .of_wp fun prog w A R s h=>by
  obtain⟨hp,g,d,tk,os⟩:=s;obtain⟨hl,h⟩:=h
  have hb:¬(decide (x < -2^63)||decide (x >= 2^63))=true:=by simp;lia
  wp_walk
  rw[if_neg hb]
  wp_walk
  first|exact⟨_,rfl,h⟩|(rw[if_pos hc];wp_walk;exact⟨_,rfl,h⟩)
theorem a7m(h0:-(2^63)<=x)(h1:x<2^63)(hc:¬(items.isEmpty||x==1)=true)(hn:(decide (x<=0)||items.isEmpty)=true) :
  Meets (c1u.«tuple.__mul__» ⟨[.ref l,.int x u],[]⟩) (fun _ R s=>s.heap.get? l=some { cls:=.type "tuple",dict:=dd,data:=.seq items n,slots:=sl }/\R (.ok (.ret (b8z s.heap.objs.size))) { s with heap:=s.heap.push { cls:=.type "tuple",data:=.seq #[] },toks:=s.toks }) :=
 .of_wp fun prog w A R s h=>by
  obtain⟨hp,g,d,tk,os⟩:=s;obtain⟨hl,h⟩:=h
  have hb:¬(decide (x < -2^63)||decide (x >= 2^63))=true:=by simp;lia
  wp_walk
  rw[if_neg hb]
  wp_walk
  first|exact⟨_,rfl,h⟩|(rw[if_neg hc,if_pos hn];wp_walk;exact⟨_,rfl,h⟩)
theorem a7l(h0:-(2^63)<=x)(h1:x<2^63)(hc:¬(items.isEmpty||x==1)=true)(hn:¬(decide (x<=0)||items.isEmpty)=true)(hm:¬items.size*x>(2^63-1) / 8)(hz:¬c1f (items.size*x)=true)(hf:sizeOk (.seq (c1B (fun x1 x2=>x1++x2) #[] (b8p x.toNat items)))) :
  Meets (c1u.«tuple.__mul__» ⟨[.ref l,.int x u],[]⟩) (fun _ R s=>s.heap.get? l=some { cls:=.type "tuple",dict:=dd,data:=.seq items n,slots:=sl }/\R (.ok (.ret (b8z s.heap.objs.size))) { s with heap:=s.heap.push { cls:=.type "tuple",data:=.seq (c1B (fun x1 x2=>x1++x2) #[] (b8p x.toNat items)) },toks:=s.toks }) :=
 .of_wp fun prog w A R s h=>by
  obtain⟨hp,g,d,tk,os⟩:=s;obtain⟨hl,h⟩:=h
  have hb:¬(decide (x < -2^63)||decide (x >= 2^63))=true:=by simp;lia
  wp_walk
  rw[if_neg hb]
  wp_walk
  rw[if_neg hm]
  wp_walk
  first|exact⟨_,rfl,h⟩|(rw[if_neg (c3G.mpr hf)];wp_walk;exact⟨_,rfl,h⟩)
end
section
variable{X:Cx}
noncomputable def b7s(K:PySem.W.Frag):R2:=fun x y H Q=>∃a k xs,x=.ref a/\y=.int k/\SqT K H a xs/\-(2^63)<=k/\k<2^63/\xs.length*k.toNat<=sizeLine /\
 ∀p H',SqT K H' p (b8p k.toNat xs).flatten->(H'=H\/H p=none/\H'=upd H p (.tup (b8p k.toNat xs).flatten))->Q (.ref p) H'
theorem a5e(its:LSV)(m:Nat):c1B (fun x1 x2=>x1++x2) #[] (b8p m its.toArray)=(b8p m its).flatten.toArray:=by
 have:=a4s its m [];rw[c0a] at this;exact this
theorem b4v:OpR X (binaryOp .Mult) (b7s X.K):=by
 intro pins s σ H x y v u Q I rx ry h;obtain⟨a,k,xs,rfl,rfl,hx,h1,h2,hz,q⟩:=h;cases rx;obtain⟨t,rfl⟩:=ry;obtain⟨its,r,p,hl⟩:=I.tuple hx;have hlen:=r.length;obtain⟨⟨cls,dd,data,sl⟩,ho,hc,n,hd⟩:=id p;simp only at hc hd;subst hc hd;refine c1t (T:="tuple") (U:="int") (by decide) ⟨_,ho,rfl⟩ (fun s'=>c2o s' k t) a3E c3w c0U a6s c3i.lookup
  (c0g c0U (c2o s k t) c3j (c2T _ _) (a4N a its.toArray n k t dd sl) ⟨ho,rfl,⟨_,ho,rfl⟩,?_⟩)
 by_cases hc:(its.toArray.isEmpty||k==1)=true
 ·refine c0g c0n ⟨_,ho,rfl⟩ c1D (c1l _ _) (a7n a its.toArray n k t dd sl h1 h2 hc) ⟨ho,?_⟩
  have e:(b8p k.toNat xs).flatten=xs:=by
   simp only[b9j,beq_iff_eq] at hc;rcases hc with hc|hc
   ·have:its=[]:=by simpa using hc
    subst this;cases r;simp
   ·subst hc;simp
  exact⟨.ref a,H,I,rfl,q a H (by rw[e];exact hx) (.inl rfl)⟩
 ·by_cases hn:(decide (k<=0)||its.toArray.isEmpty)=true
  ·refine c0g c0n ⟨_,ho,rfl⟩ c1D (c1l _ _) (a7m a its.toArray n k t dd sl h1 h2 hc hn) ⟨ho,?_⟩
   have hk:k.toNat=0:=by
    simp only[b9j,decide_eq_true_eq] at hn hc;rcases hn with hn|hn
    ·lia
    ·exact absurd (.inl hn) hc
   have e:(b8p k.toNat xs).flatten=[]:=by rw[hk];rfl
   refine⟨.ref s.heap.objs.size,_,I.laid (t':=s.toks) (o:=.tup []) (fun b ob q=>b8d _ q) (b8k _) ?_,rfl,q _ _ ?_ (.inr ⟨I.hok.fresh (b8k _),by rw[e]⟩)⟩
   ·exact⟨b9B _,[],.nil,a2g.new _ _⟩
   ·rw[e];exact SqT.of a0y
  ·have hm:(its.toArray.size:Int)*k<=sizeLine:=by
    have:its.toArray.size=xs.length:=by rw[hlen];simp
    rw[this]
    have hk:(0:Int)<=k:=by
     simp only[b9j,decide_eq_true_eq] at hn;lia
    have e2:k=((k.toNat:Nat):Int):=by lia
    rw[e2,<- Int.natCast_mul]
    exact_mod_cast hz
   have hz2:((b8p k.toNat its).flatten).length<=sizeLine:=by rw[a7K,c1Z,<- hlen];exact hz
   refine c0g c0n ⟨_,ho,rfl⟩ c1D (c1l _ _) (a7l a its.toArray n k t dd sl h1 h2 hc hn ?_ ?_ ?_) ⟨ho,?_⟩
   ·have:(sizeLine:Int)<=(2^63-1) / 8:=by decide
    lia
   ·unfold c1f;simp only[decide_eq_true_eq];lia
   ·rw[a5e];show(b8p k.toNat its).flatten.toArray.size<=sizeLine;rw[b8h];exact hz2
   ·rw[a5e];refine⟨.ref s.heap.objs.size,_,I.laid (t':=s.toks) (o:=.tup (b8p k.toNat xs).flatten) (fun b ob q=>b8d _ q) (b8k _) ?_,rfl,q _ _ (SqT.of a0y) (.inr ⟨I.hok.fresh (b8k _),rfl⟩)⟩;exact⟨by rw[a7K,c1Z];exact hz,_,r.rep k.toNat,a2g.new _ _⟩
end
theorem Reps.atI{K:PySem.W.Frag}{H:Hp}{vs:List V}{ts:List T}{i:Int}{t:T}(h:Reps K H vs ts)(e:atI ts i=some t):∃v,L2.atI vs i=some v/\Rep K H v t:=by
 unfold L2.atI at e|-
 rw[h.length];cases q:ixN ts.length i with
 |none=>rw[q] at e;cases e
 |some j=>rw[q] at e;exact h.get e
section
variable{X:Cx}{a b c e:Expr}{es:LSE}{ta tb tc te:TE3}{pos:Pos}
noncomputable def rIx3:R3:=fun x y M Q=>match x,y with
 |.tup ts,.int i=>(match atI ts i with|some t=>Q t M|none=>False)
 |.rd ts,.int i=>(match atI ts i with|some t=>Q t M|none=>False)
 |.adr p,.int i=>(match M p with|some (.lst ts)=>(match atI ts i with|some t=>Q t M|none=>False)|_=>False)
 |.str z,.int i=>z.length<=sizeLine/\(match atI z.cps.toList i with|some c=>Q (.str ⟨#[c]⟩) M|none=>False)
 |_,_=>False
theorem a6M{K:PySem.W.Frag}{H:Hp}{v:V}{ts:List T}(r:Rep K H v (.rd ts)):∃a xs,v=.ref a/\FzL K H a xs/\Reps K H xs ts:=by unfold Rep at r;exact r
theorem ix3:IxR3 X rIx3:=by
 intro value slice pins s σ H x y v u Q2 I rx ry q hs;obtain⟨a,b,M,Q,r1,r2,hh,q,en⟩:=q;unfold rIx3 at q;split at q
 ·obtain rfl:=a0q r2;obtain⟨p,xs,rfl,h1,h2⟩:=a1w r1;split at q
  ·rename_i t e;obtain⟨w,ew,rw'⟩:=h2.atI e;exact b6E value slice pins s σ H _ _ v u Q2 I rx ry ⟨_,_,_,w,rfl,rfl,h1,ew,en _ _ M H Kp.refl hh rw' q⟩ hs
  ·exact q.elim
 ·obtain rfl:=a0q r2;obtain⟨p,xs,rfl,h1,h2⟩:=a6M r1;split at q
  ·rename_i t e;obtain⟨w,ew,rw'⟩:=h2.atI e;exact b0O value slice pins s σ H _ _ v u Q2 I rx ry ⟨_,_,_,w,rfl,rfl,h1.sq,ew,en _ _ M H Kp.refl hh rw' q⟩ hs
  ·exact q.elim
 ·obtain rfl:=a0q r2;obtain rfl:=a0n r1;split at q
  ·rename_i ts e0;obtain⟨xs,h1,h2⟩:=hh _ _ e0;split at q
   ·rename_i t e;obtain⟨w,ew,rw'⟩:=h2.atI e;exact b0O value slice pins s σ H _ _ v u Q2 I rx ry ⟨_,_,_,w,rfl,rfl,SqL.of h1,ew,en _ _ M H Kp.refl hh rw' q⟩ hs
   ·exact q.elim
  ·exact q.elim
 ·obtain rfl:=a0q r2;obtain rfl:=a0r r1;obtain⟨hz,q⟩:=q;split at q
  ·rename_i c e;exact b6F value slice pins s σ H _ _ v u Q2 I rx ry ⟨_,_,c,rfl,rfl,hz,e,en _ _ M H Kp.refl hh a0G q⟩ hs
  ·exact q.elim
 ·exact q.elim
theorem h_ix(ha:HE X a ta)(hb:HE X b tb)(hs:b1I b:=by intro _ _;rfl):HE X (.Subscript a b pos) (tOp3 rIx3 ta tb):=fun ρ M Q h =>
 (b7x ix3 (ha.d (ρ:=ρ)) (hb.d (ρ:=ρ)) hs).imp fun σ H Q2 b=>dOp h b
noncomputable def b4c:R3:=fun x y M Q=>match x,y with
 |.int i,.int j=>CMul i j/\Q (.int (i*j)) M
 | .adr p,.int k=>(match M p with
   |some (.lst ts)=>-(2^63)<=k/\k<2^63/\ts.length*k.toNat<=sizeLine/\∀r,M r=none->Q (.adr r) (updM M r (.lst (b8p k.toNat ts).flatten))
   |_=>False)
 |.tup ts,.int k=>-(2^63)<=k/\k<2^63/\ts.length*k.toNat<=sizeLine/\Q (.tup (b8p k.toNat ts).flatten) M
 |_,_=>False
theorem Reps.rep{K:PySem.W.Frag}{H:Hp}{vs:List V}{ts:List T}(h:Reps K H vs ts):∀k:Nat,Reps K H (b8p k vs).flatten (b8p k ts).flatten
 |0=>.nil
 | k+1=>by
   rw[b8P,b8P,b9H,b9H];exact Reps.append h (Reps.rep h k)
theorem a4b:OpR3 X (binaryOp .Mult) b4c:=by
 intro pins s σ H x y v u Q2 I rx ry q;obtain⟨a,b,M,Q,r1,r2,hh,q,en⟩:=q;unfold b4c at q;split at q
 ·obtain rfl:=a0q r1;obtain rfl:=a0q r2;exact b6m pins s σ H _ _ v u Q2 I rx ry ⟨_,_,rfl,rfl,q.1,en _ _ M H Kp.refl hh a0J q.2⟩
 ·obtain rfl:=a0n r1;obtain rfl:=a0q r2;split at q
  ·rename_i ts e0;obtain⟨xs,h1,h2⟩:=hh _ _ e0;obtain⟨q1,q2,q3,q4⟩:=q;refine b6k pins s σ H _ _ v u Q2 I rx ry ⟨_,_,xs,rfl,rfl,h1,q1,q2,by rw[h2.length];exact q3,fun r hr=>?_⟩;exact en _ _ _ _ (Kp.new hr) (hh.newL hr (h2.rep _)) a1u (q4 r (hh.free hr))
  ·exact q.elim
 ·obtain⟨l,xs,rfl,g1,g2⟩:=a1w r1;obtain rfl:=a0q r2;obtain⟨q1,q2,q3,q4⟩:=q;refine b4v pins s σ H _ _ v u Q2 I rx ry ⟨_,_,xs,rfl,rfl,g1,q1,q2,by rw[g2.length];exact q3,fun r H' h' c=>?_⟩;rcases c with rfl|⟨c1,rfl⟩
  ·exact en _ _ _ _ Kp.refl hh (a1t h' (g2.rep _)) q4
  ·exact en _ _ _ _ (Kp.new c1) (hh.keep c1) (a1t h' (Reps.kp (Kp.new c1) _ _ (g2.rep _))) q4
 ·exact q.elim
noncomputable def a7z(g:Int->Int->Bool):R3:=fun x y M Q=>match x,y with
 |.int i,.int j=>Q (.bl (g i j)) M
 |_,_=>False
theorem a5I{f:b8g->b8g->Sem b8g}{g:Int->Int->Bool}(h:OpR X f (rI0 fun i j=>.bl (g i j))):OpR3 X f (a7z g):=by
 intro pins s σ H x y v u Q2 I rx ry q;obtain⟨a,b,M,Q,r1,r2,hh,q,en⟩:=q;unfold a7z at q;split at q
 ·obtain rfl:=a0q r1;obtain rfl:=a0q r2;exact h pins s σ H _ _ v u Q2 I rx ry ⟨_,_,rfl,rfl,en _ _ M H Kp.refl hh a0Z q⟩
 ·exact q.elim
noncomputable def rLt3:R3:=a7z fun i j=>decide (i<j)
noncomputable def rLe3:R3:=a7z fun i j=>decide (i<=j)
noncomputable def rGt3:R3:=a7z fun i j=>decide (j<i)
noncomputable def rGe3:R3:=a7z fun i j=>decide (j<=i)
theorem b3p:OpR3 X (compareOp .Lt) rLt3:=a5I b7z
theorem a6v:OpR3 X (compareOp .LtE) rLe3:=a5I b7A
theorem b3r:OpR3 X (compareOp .Gt) rGt3:=a5I b7B
theorem b6s:OpR3 X (compareOp .GtE) rGe3:=a5I b7C
noncomputable def rEqv(g:Bool->Bool):R3:=fun x y M Q=>match x,y with
 | .adr p,.adr q=>(match M p,M q with
   |some (.lst a),some (.lst b)=>a0X a=true/\a0X b=true/\a3b a<=30/\Q (.bl (g (eqTs a b))) M
   |_,_=>False)
 |x,y=>a0i x=true/\a0i y=true/\depT x<=30/\Q (.bl (g (eqT x y))) M
noncomputable def rEq3:R3:=rEqv id
noncomputable def rNe3:R3:=rEqv not
theorem a6E{pins:PNS}{σ:St}{H:Hp}{s:b7Y}(I:Inv X pins σ H s)(hu:X.A.units+64<cLine){p p':Addr}{xs ys:List V}{ts us:List T}(h1:H p=some (.lst xs))(h2:Reps X.K H xs ts)(g1:H p'=some (.lst ys))(g2:Reps X.K H ys us)
  (px:a0X ts=true) (py:a0X us=true) (hd:a3b ts<=30) :
  c2p X.A s (.ref p) (.ref p') (eqTs ts us)/\c1k X.A s (.ref p) (.ref p') (!(eqTs ts us)):=by
 obtain⟨its,r1,pl,_⟩:=I.list (SqL.of h1);obtain⟨its2,r2,pl2,_⟩:=I.list (SqL.of g1);have l1:=h2.length;have l2:=g2.length;have m1:=r1.length;have m2:=r2.length;have hu':X.A.units<cLine:=by lia
 by_cases hl:its.length=its2.length
 ·have he:=a8w (X:=X) (A:=X.A.in1) (s:=s) (n:=30) px py hd h2 g2 r1 r2 fun x y v u a b hx px py rx ry ra rb=>(a8B I 30 X.A.in1 x y v u a b hx (by show X.A.units+1+30+1<cLine;lia) px py rx ry ra rb).1;have hsz:its.toArray.size=its2.toArray.size:=by simpa using hl
  have rc:=SeqAt.RcAt.lists (A:=X.A) pl.isList pl2.isList hsz hu' he;have rn:=SeqAt.RcNeAt.lists (A:=X.A) pl.isList pl2.isList hsz hu' he
  have ee:(b9w its.toArray.size).all (eqJ ts us)=eqTs ts us:=by
   rw[<- a2D,b8h,<- l1,<- l2,m1,m2,<- hl];simp
  rw[ee] at rc rn;exact⟨rc,rn⟩
 ·have hne:eqTs ts us=false:=by
   cases q:eqTs ts us with
   |false=>rfl
   |true=>have:=a8z q;lia
  have hsz:(its.toArray.size != its2.toArray.size)=true:=by simpa using hl
  rw[hne];exact⟨SeqAt.RcAt.lists_lengths pl.isList pl2.isList hsz hu',SeqAt.RcNeAt.lists_lengths pl.isList pl2.isList hsz hu'⟩
theorem a1D(hu:X.A.units+64<cLine):OpR3 X (compareOp .Eq) rEq3:=by
 intro pins s σ H x y v u Q2 I rx ry q;obtain⟨a,b,M,Q,r1,r2,hh,q,en⟩:=q;unfold rEq3 rEqv at q;split at q
 ·rename_i p p';split at q
  ·rename_i ts us e1 e2;obtain⟨xs,h1,h2⟩:=hh _ _ e1;obtain⟨ys,g1,g2⟩:=hh _ _ e2;obtain rfl:=a0n r1;obtain rfl:=a0n r2;cases rx;cases ry;exact(a6E I hu h1 h2 g1 g2 q.1 q.2.1 q.2.2.1).1 _ _ _ _ ⟨.bl _,H,I,rfl,en _ _ M H Kp.refl hh a0Z q.2.2.2⟩
  ·exact q.elim
 ·obtain⟨q1,q2,q3,q⟩:=q;exact(a8B I 30 X.A a b x y v u q3 (by lia) q1 q2 r1 r2 rx ry).2.1 _ _ _ _ ⟨.bl _,H,I,rfl,en _ _ M H Kp.refl hh a0Z q⟩
theorem a4a(hu:X.A.units+64<cLine):OpR3 X (compareOp .NotEq) rNe3:=by
 intro pins s σ H x y v u Q2 I rx ry q;obtain⟨a,b,M,Q,r1,r2,hh,q,en⟩:=q;unfold rNe3 rEqv at q;split at q
 ·rename_i p p';split at q
  ·rename_i ts us e1 e2;obtain⟨xs,h1,h2⟩:=hh _ _ e1;obtain⟨ys,g1,g2⟩:=hh _ _ e2;obtain rfl:=a0n r1;obtain rfl:=a0n r2;cases rx;cases ry;exact(a6E I hu h1 h2 g1 g2 q.1 q.2.1 q.2.2.1).2 _ _ _ _ ⟨.bl _,H,I,rfl,en _ _ M H Kp.refl hh a0Z q.2.2.2⟩
  ·exact q.elim
 ·obtain⟨q1,q2,q3,q⟩:=q;exact(a8B I 30 X.A a b x y v u q3 (by lia) q1 q2 r1 r2 rx ry).2.2 _ _ _ _ ⟨.bl _,H,I,rfl,en _ _ M H Kp.refl hh a0Z q⟩
theorem b6O{op:c2w}{r:R3}(ho:OpR3 X (compareOp op) r)(ha:HE X a ta)(hb:HE X b tb)(hm:behindInMarks op b=false):HE X (.Compare a [op] [b] pos) (tOp3 r ta tb):=fun ρ M Q h =>
 (b4r ho (ha.d (ρ:=ρ)) (hb.d (ρ:=ρ)) hm).imp fun σ H Q2 b=>dOp h b
noncomputable def a6g(t:TE3):TT3:=fun ρ M Q=>t ρ M fun x M1=>match x with
 |.bl k=>Q k M1
 |_=>False
theorem a3J{K:PySem.W.Frag}{H:Hp}{Q:Bool->MH->Prop}{Q2:Bool->Hp->Prop}(en:EndT K H Q Q2):EndE K H (fun x M1=>match x with|.bl k=>Q k M1|_=>False) (fun x H'=>∃k,x=.bl k/\Q2 k H'):=by
 intro t v M' H' k h r q;split at q
 ·obtain rfl:=a2f r;exact⟨_,rfl,en _ M' H' k h q⟩
 ·exact q.elim
theorem a0N{op:c2w}{r:R3}(ho:OpR3 X (compareOp op) r)(ha:HE X a ta)(hb:HE X b tb)(hm:behindInMarks op b=false):HT X (.Compare a [op] [b] pos) (a6g (tOp3 r ta tb)):=fun ρ M Q h =>
 (b0j ho (ha.d (ρ:=ρ)) (hb.d (ρ:=ρ)) hm).imp fun σ H Q2 ⟨hr,hh,en⟩=>dOp (ta:=ta) (tb:=tb) (r:=r) h ⟨hr,hh,a3J en⟩
noncomputable def a5r(r r':R3)(ta tb tc:TE3):TE3:=fun ρ M Q=>ta ρ M fun x M1=>tb ρ M1 fun y M2=>r x y M2 fun z M3=>match z with
 |.bl k=>(if k=true then tc ρ M3 fun w M4=>r' y w M4 Q else Q (.bl false) M3)
 |_=>False
theorem b3y{ρ:En}{M:MH}{Q:VK3}{r r':R3}(h:a5r r r' ta tb tc ρ M Q){σ:St}{H:Hp}{Q2:VK}(b:bE X.K ρ M Q σ H Q2):a9R (dR X.K r) (dR X.K r') (dE X.K ρ ta) (dE X.K ρ tb) (dE X.K ρ tc) σ H Q2:=by
 obtain⟨hr,hh,en⟩:=b;refine⟨M,_,h,hr,hh,fun t v M1 H1 k1 h1 r1 q1=>⟨M1,_,q1,hr.kp k1,h1,fun t2 v2 M2 H2 k2 h2 r2 q2=>⟨t,t2,M2,_,Rep.kp k2 _ _ r1,r2,h2,q2,fun z v3 M3 H3 k3 h3 r3 q3=>?_⟩⟩⟩;split at q3
 ·rename_i k;obtain rfl:=a2f r3;refine⟨k,rfl,?_⟩;have kk:=k1.trans (k2.trans k3);split
  ·rename_i hk;rw[if_pos hk] at q3;exact⟨M3,_,q3,hr.kp kk,h3,fun t4 v4 M4 H4 k4 h4 r4 q4=>⟨t2,t4,M4,Q,Rep.kp (k3.trans k4) _ _ r2,r4,h4,q4,en.kp (kk.trans k4)⟩⟩
  ·rename_i hk;rw[if_neg hk] at q3;exact en _ _ M3 H3 kk h3 a0Z q3
 ·exact q3.elim
theorem a7P{op op':c2w}{r r':R3}(ho:OpR3 X (compareOp op) r)(ho':OpR3 X (compareOp op') r')(ha:HE X a ta)(hb:HE X b tb)(hc:HE X c tc)
  (hm:lastMarks [op,op'] [b,c]=false:=by with_unfolding_all rfl):HE X (.Compare a [op,op'] [b,c] pos) (a5r r r' ta tb tc):=fun ρ M Q h =>
 (b2p ho ho' (ha.d (ρ:=ρ)) (hb.d (ρ:=ρ)) (hc.d (ρ:=ρ)) hm).imp fun σ H Q2 b=>b3y h b
theorem b2M{op op':c2w}{r r':R3}(ho:OpR3 X (compareOp op) r)(ho':OpR3 X (compareOp op') r')(ha:HE X a ta)(hb:HE X b tb)(hc:HE X c tc)
  (hm:lastMarks [op,op'] [b,c]=false:=by with_unfolding_all rfl):HT X (.Compare a [op,op'] [b,c] pos) (a6g (a5r r r' ta tb tc)):=fun ρ M Q h =>
 (b2e ho ho' (ha.d (ρ:=ρ)) (hb.d (ρ:=ρ)) (hc.d (ρ:=ρ)) hm).imp fun σ H Q2 ⟨hr,hh,en⟩=>b3y (ta:=ta) (tb:=tb) (tc:=tc) (r:=r) (r':=r') h ⟨hr,hh,a3J en⟩
noncomputable def truT(M:MH):T->Option Bool
 |.non=>some false
 |.bl b=>some b
 |.int i=>some (i != 0)
 |.str y=>if y.length<=sizeLine then some (decide (y.length≠0)) else none
 |.tup ts=>some (!ts.isEmpty)
 |.rd ts=>some (!ts.isEmpty)
 |.dic _ _=>none
 | .adr p=>match M p with
   |some (.lst ts)=>some (!ts.isEmpty)
   |_=>none
noncomputable def b5q(te:TE3):TT3:=fun ρ M Q=>te ρ M fun x M1=>match truT M1 x with
 |some k=>Q k M1
 |none=>False
theorem a5T{K:PySem.W.Frag}{H:Hp}{xs:List V}{ts:List T}(h:Reps K H xs ts):(!xs.isEmpty)=!ts.isEmpty:=by
 have:=h.length
 cases xs<;>cases ts<;>first|rfl|(simp at this)
theorem a1I (ha:HE X a ta) (he:∀whole,isTrue a X.env whole=(do let v <- whole;standAt a.pos;holding [v] (truthy v)):=by intro _;rfl):HT X a (b5q ta):=fun ρ M Q h =>
 (b2c (ha.d (ρ:=ρ)) he).imp fun σ H Q2 ⟨hr,hh,en⟩=>⟨M,_,h,hr,hh,fun t v M1 H1 k1 h1 r1 q1=>by
  have fin:∀k,truT M1 t=some k->Q2 k H1:=fun k e=>by
   have q:(match truT M1 t with|some k=>Q k M1|none=>False):=q1
   rw[e] at q;exact en k M1 H1 k1 h1 q
  cases t with
  |non=>obtain rfl:=a4l r1;exact⟨false,rfl,fin _ rfl⟩
  |bl b=>obtain rfl:=a2f r1;exact⟨b,rfl,fin _ rfl⟩
  |int i=>obtain rfl:=a0q r1;exact⟨_,rfl,fin _ rfl⟩
  | str y =>
    obtain rfl:=a0r r1;by_cases hy:y.length<=sizeLine
    ·refine⟨_,⟨hy,rfl⟩,fin _ ?_⟩
     show(if y.length<=sizeLine then some (decide (y.length≠0)) else none)=_
     rw[if_pos hy];congr 1;by_cases h0:y.length=0
     ·rw[h0];rfl
     ·have:((y.length:Int) != 0)=true:=by simpa using h0
      rw[this];simpa using h0
    ·have q:(match truT M1 (.str y) with|some k=>Q k M1|none=>False):=q1
     have e:truT M1 (.str y)=none:=if_neg hy;rw[e] at q;exact q.elim
  | tup ts =>
    obtain⟨p,xs,rfl,g1,g2⟩:=a1w r1;exact⟨!xs.isEmpty,.inr (.inl ⟨xs,g1,rfl⟩),fin _ (by rw[a5T g2];rfl)⟩
  | rd ts =>
    obtain⟨p,xs,rfl,g1,g2⟩:=a6M r1;exact⟨!xs.isEmpty,.inl ⟨xs,g1.sq,rfl⟩,fin _ (by rw[a5T g2];rfl)⟩
  | dic ks ts =>
    have q:(match truT M1 (.dic ks ts) with|some k=>Q k M1|none=>False):=q1
    exact q.elim
  | adr p =>
    obtain rfl:=a0n r1;cases e0:M1 p with
    | none =>
      have q:(match truT M1 (.adr p) with|some k=>Q k M1|none=>False):=q1
      have e:truT M1 (.adr p)=none:=by show(match M1 p with|some (.lst ts)=>some (!ts.isEmpty)|_=>none)=none;rw[e0]
      rw[e] at q;exact q.elim
    | some o =>
      cases o with
      | lst ts =>
        obtain⟨xs,g1,g2⟩:=h1 _ _ e0
        exact⟨!xs.isEmpty,.inl ⟨xs,SqL.of g1,rfl⟩,fin _ (by show(match M1 p with|some (.lst ts)=>some (!ts.isEmpty)|_=>none)=_;rw[e0,a5T g2])⟩
      | dk kvs =>
        have q:(match truT M1 (.adr p) with|some k=>Q k M1|none=>False):=q1
        have e:truT M1 (.adr p)=none:=by show(match M1 p with|some (.lst ts)=>some (!ts.isEmpty)|_=>none)=none;rw[e0]
        rw[e] at q;exact q.elim
      | dt kvs =>
        have q:(match truT M1 (.adr p) with|some k=>Q k M1|none=>False):=q1
        have e:truT M1 (.adr p)=none:=by show(match M1 p with|some (.lst ts)=>some (!ts.isEmpty)|_=>none)=none;rw[e0]
        rw[e] at q;exact q.elim
      | fz kvs =>
        have q:(match truT M1 (.adr p) with|some k=>Q k M1|none=>False):=q1
        have e:truT M1 (.adr p)=none:=by show(match M1 p with|some (.lst ts)=>some (!ts.isEmpty)|_=>none)=none;rw[e0]
        rw[e] at q;exact q.elim
      | fk kvs =>
        have q:(match truT M1 (.adr p) with|some k=>Q k M1|none=>False):=q1
        have e:truT M1 (.adr p)=none:=by show(match M1 p with|some (.lst ts)=>some (!ts.isEmpty)|_=>none)=none;rw[e0]
        rw[e] at q;exact q.elim
      | ob C fs =>
        have q:(match truT M1 (.adr p) with|some k=>Q k M1|none=>False):=q1
        have e:truT M1 (.adr p)=none:=by show(match M1 p with|some (.lst ts)=>some (!ts.isEmpty)|_=>none)=none;rw[e0]
        rw[e] at q
        exact q.elim⟩
end
section
variable{X:Cx}{a b c e:Expr}{es rest:LSE}{ta tb tc te:TE3}{tA tB:TT3}{t:TA3}{pos:Pos}
noncomputable def HW(X:Cx)(e:Expr)(t:TT3):Prop:=∀ρ M Q,t ρ M Q->PW X e (bT X.K ρ M Q)
theorem HW.d{t:TT3}{ρ:En}(h:HW X e t):PW X e (dT X.K ρ t):=fun wh pins s σ H Q I ⟨M,Q3,q,b⟩=>h ρ M Q3 q wh pins s σ H Q I b
theorem PW.imp{t t':TT}(h:PW X e t)(f:∀σ H Q,t' σ H Q->t σ H Q):PW X e t':=fun wh pins s σ H Q I q=>h wh pins s σ H Q I (f σ H Q q)
theorem HW.ht{t:TT3}(h:HW X e t):HT X e t:=fun ρ M Q q=>(h ρ M Q q).pt
noncomputable def tOr3(t u:TT3):TT3:=fun ρ M Q=>t ρ M fun c M1=>if c=true then Q true M1 else u ρ M1 Q
noncomputable def b5s(t:TT3):TT3:=fun ρ M Q=>t ρ M fun c M1=>Q (!c) M1
theorem a4P(ha:HT X a tA):HT X (.UnaryOp .Not a pos) (b5s tA):=fun ρ M Q h =>
 (b5S (ha.d (ρ:=ρ))).imp fun σ H Q2 ⟨hr,hh,en⟩=>⟨M,_,h,hr,hh,fun b M1 H1 k1 h1 q1=>en _ M1 H1 k1 h1 q1⟩
theorem b5g(ha:HT X a tA):HW X (.BoolOp .Or [a] pos) tA:=fun ρ M Q h=>(b5R (ha.d (ρ:=ρ))).imp fun σ H Q2 b=>⟨M,Q,h,b⟩
theorem w_or(ha:HT X a tA)(hb:HW X (.BoolOp .Or (b::rest) pos) tB):HW X (.BoolOp .Or (a::b::rest) pos) (tOr3 tA tB):=fun ρ M Q h =>
 (b7u (ha.d (ρ:=ρ)) (hb.d (ρ:=ρ))).imp fun σ H Q2 ⟨hr,hh,en⟩=>⟨M,_,h,hr,hh,fun b M1 H1 k1 h1 q1=>by
  dsimp only at q1|-
  split
  ·rename_i hb;rw[if_pos hb] at q1;exact en _ M1 H1 k1 h1 q1
  ·rename_i hb;rw[if_neg hb] at q1
   exact⟨M1,Q,q1,hr.kp k1,h1,fun b' M2 H2 k2=>en b' M2 H2 (k1.trans k2)⟩⟩
noncomputable def a9S(ta tb:TE3):TE3:=fun ρ M Q=>ta ρ M fun x M1=>match x with
 |.bl c=>(if c=true then tb ρ M1 Q else Q (.bl false) M1)
 |_=>False
theorem b4P{op}(ha:HE X a ta):HE X (.BoolOp op [a] pos) ta:=fun ρ M Q h=>b6b (ha ρ M Q h)
theorem b6P(ha:HE X a ta)(hb:HE X (.BoolOp .And (b::rest) pos) tb):HE X (.BoolOp .And (a::b::rest) pos) (a9S ta tb):=fun ρ M Q h =>
 (b6h (ha.d (ρ:=ρ)) (hb.d (ρ:=ρ))).imp fun σ H Q2 ⟨hr,hh,en⟩=>⟨M,_,h,hr,hh,fun x v M1 H1 k1 h1 r1 q1=>by
  dsimp only at q1|-
  split at q1
  ·rename_i c;obtain rfl:=a2f r1;refine⟨c,rfl,?_⟩;split
   ·rename_i hc;rw[if_pos hc] at q1;exact⟨M1,Q,q1,hr.kp k1,h1,en.kp k1⟩
   ·rename_i hc;rw[if_neg hc] at q1;exact en _ _ M1 H1 k1 h1 a0Z q1
  ·exact q1.elim⟩
noncomputable def tIf3(t:TT3)(ta tb:TE3):TE3:=fun ρ M Q=>t ρ M fun c M1=>if c=true then ta ρ M1 Q else tb ρ M1 Q
theorem b7Q(hc:HT X c tA)(ha:HE X a ta)(hb:HE X b tb):HE X (.IfExp c a b pos) (tIf3 tA ta tb):=fun ρ M Q h =>
 (b2l (hc.d (ρ:=ρ)) (ha.d (ρ:=ρ)) (hb.d (ρ:=ρ))).imp fun σ H Q2 ⟨hr,hh,en⟩=>⟨M,_,h,hr,hh,fun b M1 H1 k1 h1 q1=>by
  dsimp only at q1|-
  split
  ·rename_i hb;rw[if_pos hb] at q1;exact⟨M1,Q,q1,hr.kp k1,h1,en.kp k1⟩
  ·rename_i hb;rw[if_neg hb] at q1
   exact⟨M1,Q,q1,hr.kp k1,h1,en.kp k1⟩⟩
noncomputable def b3K:TA3:=fun _ M Q=>Q [] M
noncomputable def b3h(ta:TE3)(tr:TA3):TA3:=fun ρ M Q=>ta ρ M fun x M1=>tr ρ M1 fun xs M2=>Q (x::xs) M2
theorem a0e:HA X [] b3K:=fun ρ M Q h=>b6i.imp fun σ H Q2 ⟨hr,hh,en⟩=>en [] [] M H Kp.refl hh .nil h
theorem a0a(ha:HE X a ta)(hr:HA X es t)(hs:starEach (a::es) X.env=(false,eval a X.env)::starEach es X.env:=by rfl):HA X (a::es) (b3h ta t):=fun ρ M Q h =>
 (b4u (ha.d (ρ:=ρ)) (hr.d (ρ:=ρ)) hs).imp fun σ H Q2 ⟨hr,hh,en⟩=>⟨M,_,h,hr,hh,fun x v M1 H1 k1 h1 r1 q1=>⟨M1,_,q1,hr.kp k1,h1,fun ts vs M2 H2 k2 h2 r2 q2 =>
  en _ _ M2 H2 (k1.trans k2) h2 (.cons (Rep.kp k2 _ _ r1) r2) q2⟩⟩
noncomputable def b5o(t:TA3):TE3:=fun ρ M Q=>t ρ M fun xs M1=>xs.length<=sizeLine/\Q (.tup xs) M1
noncomputable def b5t(t:TA3):TE3:=fun ρ M Q=>t ρ M fun xs M1=>xs.length<=sizeLine/\∀p,M1 p=none->Q (.adr p) (updM M1 p (.lst xs))
theorem b4M{x1}(h:HA X es t):HE X (.Tuple es x1 pos) (b5o t):=fun ρ M Q q =>
 (b5Z (h.d (ρ:=ρ))).imp fun σ H Q2 ⟨hr,hh,en⟩=>⟨M,_,q,hr,hh,fun ts vs M1 H1 k1 h1 r1 q1 =>
  ⟨by rw[r1.length];exact q1.1,fun p hp=>en _ _ M1 _ (k1.trans (Kp.new hp)) (h1.keep hp) (a1t (SqT.of a0y) (Reps.kp (Kp.new hp) _ _ r1)) q1.2⟩⟩
theorem a3q(h:HA X es t):HE X (.List es pos) (b5t t):=fun ρ M Q q =>
 (b6d (h.d (ρ:=ρ))).imp fun σ H Q2 ⟨hr,hh,en⟩=>⟨M,_,q,hr,hh,fun ts vs M1 H1 k1 h1 r1 q1 =>
  ⟨by rw[r1.length];exact q1.1,fun p hp=>en _ _ _ _ (k1.trans (Kp.new hp)) (h1.newL hp r1) a1u (q1.2 p (h1.free hp))⟩⟩
noncomputable abbrev Sp3:=List T->MH->VK3->Prop
noncomputable def dSp(K:PySem.W.Frag)(sp:Sp3):Sp:=fun vs H Q2 _=>∃ts M Q,Reps K H vs ts/\HR K H M/\sp ts M Q/\EndE K H Q Q2
structure Df(P:b8n)(w:b8F)(K:PySem.W.Frag)(mg:SOV)(base:Heap)(n:Nat)(x:Str)(ps:LSS)(sp:Sp3):Prop where
 out:∃f fd,FnOk P w K mg base CX0 n f fd ps (dSp K sp)/\mg x=some (.ref f)/\PySem.W.keepIn K (.ref f)=true/\a1l K fd ps []
theorem Df.mono{P:b8n}{w:b8F}{K:PySem.W.Frag}{mg:SOV}{base:Heap}{n m:Nat}{x:Str}{ps:LSS}{sp:Sp3}(D:Df P w K mg base n x ps sp)(h:n<=m):Df P w K mg base m x ps sp:=by
 obtain⟨f,fd,F,a,b,c⟩:=D.out;exact⟨f,fd,F.mono h,a,b,c⟩
noncomputable def b3j(sp:Sp3)(t:TA3):TE3:=fun ρ M Q=>t ρ M fun ts M1=>sp ts M1 Q
theorem a0s{n:Nat}{x:Str}{ps:LSS}{sp:Sp3}{p:Pos}(D:Df X.prog X.w X.K X.mg X.base n x ps sp)(hr:Room n X.A)(ha:HA X (e::es) t)(hg:Gl X x:=by rfl)(hdb:QDD x:=by decide)
  (he:QSS X e es:=by rfl) (hpl:QPP X pos es:=by rfl) :
  HE X (.Call (.Name x p) (e::es) [] pos) (b3j sp t):=fun ρ M Q h=>by
 obtain⟨f,fd,F,hm,hk,hb⟩:=D.out
 exact(b4s F hr hg hm hk hb .nil b4t (ha.d (ρ:=ρ)) hdb he hpl).imp fun σ H Q2 ⟨hr,hh,en⟩=>⟨M,_,h,hr,hh,fun ts vs M1 H1 k1 h1 r1 q1 =>
  ⟨ts,M1,Q,by rw[b8O];exact r1,h1,q1,en.kp k1⟩⟩
noncomputable def tCB3(r:List T->MH->VK3->Prop)(t:TA3):TE3:=fun ρ M Q=>t ρ M fun ts M1=>r ts M1 Q
theorem a1k{x:Str}{id:String}{r:List T->MH->VK3->Prop}{p:Pos}(hc:a2K X (.builtin id) r)(hm:X.mg x=none)(hv:bootBuiltins x=some (.builtin id))(ha:HA X (e::es) t)(hg:Gl X x:=by rfl)(hn:x≠"__name__":=by decide)(hdb:QDD x:=by decide)
  (he:QSS X e es:=by rfl) (hpl:QPP X pos es:=by rfl):HE X (.Call (.Name x p) (e::es) [] pos) (tCB3 r t):=fun ρ M Q h =>
 (b2q hc hg hm hv (ha.d (ρ:=ρ)) hn hdb he hpl).imp fun σ H Q2 ⟨hr,hh,en⟩=>⟨M,_,h,hr,hh,fun ts vs M1 H1 k1 h1 r1 q1=>⟨ts,M1,Q,r1,h1,q1,en.kp k1⟩⟩
theorem a4r{x:Str}{ty:String}{r:List T->MH->VK3->Prop}{p:Pos}(hc:a2K X (.type ty) r)(hm:X.mg x=none)(hv:bootBuiltins x=some (.type ty))(ha:HA X (e::es) t)(hg:Gl X x:=by rfl)(hn:x≠"__name__":=by decide)(hdb:QDD x:=by decide)
  (he:QSS X e es:=by rfl) (hpl:QPP X pos es:=by rfl):HE X (.Call (.Name x p) (e::es) [] pos) (tCB3 r t):=fun ρ M Q h =>
 (b0s hc hg hm hv (ha.d (ρ:=ρ)) hn hdb he hpl).imp fun σ H Q2 ⟨hr,hh,en⟩=>⟨M,_,h,hr,hh,fun ts vs M1 H1 k1 h1 r1 q1=>⟨ts,M1,Q,r1,h1,q1,en.kp k1⟩⟩
end
section
variable{X:Cx}
theorem a1H{K:PySem.W.Frag}{H:Hp}{vs:List V}{x:T}(r:Reps K H vs [x]):∃v,vs=[v]/\Rep K H v x:=by
 unfold Reps at r;obtain⟨v,w,rfl,h,r⟩:=r;unfold Reps at r;subst r;exact⟨v,rfl,h⟩
noncomputable def b4d:List T->MH->VK3->Prop:=fun xs M Q=>match xs with
 |[.tup ts]=>Q (.int ts.length) M
 |[.rd ts]=>Q (.int ts.length) M
 |[.adr p]=>(match M p with|some (.lst ts)=>Q (.int ts.length) M|_=>False)
 |[.str z]=>z.length<=sizeLine/\Q (.int z.length) M
 |_=>False
theorem a1N:a2K X (.builtin "len") b4d:=by
 intro pins s σ H vs us Q2 I r h;obtain⟨xs,M,Q,rr,hh,q,en⟩:=h;unfold b4d at q;split at q
 ·obtain⟨v,rfl,r1⟩:=a1H rr;obtain⟨p,ys,rfl,g1,g2⟩:=a1w r1;exact a2w pins s σ H _ us Q2 I r ⟨p,ys,rfl,.inr g1,by rw[g2.length];exact en _ _ M H Kp.refl hh a0J q⟩
 ·obtain⟨v,rfl,r1⟩:=a1H rr;obtain⟨p,ys,rfl,g1,g2⟩:=a6M r1;exact a2w pins s σ H _ us Q2 I r ⟨p,ys,rfl,.inl g1.sq,by rw[g2.length];exact en _ _ M H Kp.refl hh a0J q⟩
 ·obtain⟨v,rfl,r1⟩:=a1H rr;obtain rfl:=a0n r1;split at q
  ·rename_i ts e0;obtain⟨ys,g1,g2⟩:=hh _ _ e0;exact a2w pins s σ H _ us Q2 I r ⟨_,ys,rfl,.inl (SqL.of g1),by rw[g2.length];exact en _ _ M H Kp.refl hh a0J q⟩
  ·exact q.elim
 ·obtain⟨v,rfl,r1⟩:=a1H rr;obtain rfl:=a0r r1;exact a7c pins s σ H _ us Q2 I r ⟨_,rfl,q.1,en _ _ M H Kp.refl hh a0J q.2⟩
 ·exact q.elim
noncomputable def b4i:List T->MH->VK3->Prop:=fun xs M Q=>match xs with
 |[.int i]=>Q (.int i.natAbs) M
 |_=>False
theorem b1F:a2K X (.builtin "abs") b4i:=by
 intro pins s σ H vs us Q2 I r h;obtain⟨xs,M,Q,rr,hh,q,en⟩:=h;unfold b4i at q;split at q
 ·rename_i i;obtain⟨v,rfl,r1⟩:=a1H rr;obtain rfl:=a0q r1;refine b3c pins s σ H _ us Q2 I r ⟨_,rfl,en _ _ M H Kp.refl hh ?_ q⟩
  have e:(if i<0 then -i else i)=(i.natAbs:Int):=by split<;>lia
  rw[e];exact a0J
 ·exact q.elim
noncomputable def a7y:List T->MH->VK3->Prop:=fun xs M Q=>match xs with
 |[.tup ts]=>Q (.tup ts) M
 |[.rd ts]=>Q (.tup ts) M
 |[.adr p]=>(match M p with|some (.lst ts)=>Q (.tup ts) M|_=>False)
 |_=>False
theorem a4C:a2K X (.type "tuple") a7y:=by
 intro pins s σ H vs us Q2 I r h;obtain⟨xs,M,Q,rr,hh,q,en⟩:=h;unfold a7y at q;split at q
 ·obtain⟨v,rfl,r1⟩:=a1H rr;obtain⟨p,ys,rfl,g1,g2⟩:=a1w r1;exact a2a pins s σ H _ us Q2 I r ⟨p,ys,rfl,.inr ⟨g1,en _ _ M H Kp.refl hh r1 q⟩⟩
 ·obtain⟨v,rfl,r1⟩:=a1H rr;obtain⟨p,ys,rfl,g1,g2⟩:=a6M r1;exact a2a pins s σ H _ us Q2 I r ⟨p,ys,rfl,.inl ⟨g1.sq,fun l hl=>en _ _ M _ (Kp.new hl) (hh.keep hl) (a1t (SqT.of a0y) (Reps.kp (Kp.new hl) _ _ g2)) q⟩⟩
 ·obtain⟨v,rfl,r1⟩:=a1H rr;obtain rfl:=a0n r1;split at q
  ·rename_i ts e0;obtain⟨ys,g1,g2⟩:=hh _ _ e0;exact a2a pins s σ H _ us Q2 I r ⟨_,ys,rfl,.inl ⟨SqL.of g1,fun l hl=>en _ _ M _ (Kp.new hl) (hh.keep hl) (a1t (SqT.of a0y) (Reps.kp (Kp.new hl) _ _ g2)) q⟩⟩
  ·exact q.elim
 ·exact q.elim
noncomputable def b4e:List T->MH->VK3->Prop:=fun xs M Q=>match xs with
 |[.int i]=>Q (.int i) M
 |[.bl k]=>Q (.int (if k=true then 1 else 0)) M
 |[.str x]=>∃n,PySem.intText? x=some n/\x.length<=640/\Q (.int n) M
 |_=>False
theorem b1E:a2K X (.type "int") b4e:=by
 intro pins s σ H vs us Q2 I r h;obtain⟨xs,M,Q,rr,hh,q,en⟩:=h;unfold b4e at q;split at q
 ·obtain⟨v,rfl,r1⟩:=a1H rr;obtain rfl:=a0q r1;exact a7d pins s σ H _ us Q2 I r (.inl ⟨_,rfl,en _ _ M H Kp.refl hh a0J q⟩)
 ·obtain⟨v,rfl,r1⟩:=a1H rr;obtain rfl:=a2f r1;exact a7d pins s σ H _ us Q2 I r (.inr ⟨_,rfl,en _ _ M H Kp.refl hh a0J q⟩)
 ·obtain⟨n,hn,hl,q⟩:=q;obtain⟨v,rfl,r1⟩:=a1H rr;obtain rfl:=a0r r1;obtain⟨u,rfl,ru⟩:=a2L r;obtain⟨t,rfl⟩:=ru;exact PySem.W.KIN.call_text hn hl ⟨.int n,H,I.kept fun b o e=>e,⟨_,rfl⟩,en _ _ M H Kp.refl hh a0J q⟩
 ·exact q.elim
theorem a4R(hc:X.calm=true):a6b X (.builtin "all") (fun xs H Q=>∃(p:Addr) (bs:List Bool),xs=[.ref p]/\SqL X.K H p (bs.map V.bl)/\Q (.bl (bs.all id)) H):=by
 intro pins s σ H xs us Q I r h;obtain⟨p,bs,rfl,hq,q⟩:=h;obtain⟨u,rfl,rx⟩:=a2L r;cases rx;obtain⟨its,r',pl,hz⟩:=I.list hq;have hlen:=r'.length;refine call_all_walk (c2X pl.isList ?_);have hp:p<s.heap.objs.size:=by obtain⟨o,n,e,_⟩:=pl;exact b8j e
 refine⟨s.heap.objs.size,_,_,_,_,_,fun i=>(bs[i]?).getD true,rfl,Walks.list (A:=X.A.in1) (I.ok.hd hc) s.heap.objs.size p (b8B hp) its.toArray,⟨⟨_,b8A _ rfl,rfl,rfl⟩,pl.isList.push _⟩,?_,fun h' tk hk=>?_⟩
 ·intro i v s' Q' E' hP hQ;have hP':its[i]?=some v:=by simpa using hP
  have hi:i<bs.length:=by
   have:=(b8C.mp hP').1;rw[b8f] at hlen;lia
  obtain⟨w,hw,rw'⟩:=r'.get (i:=i) (x:=.bl bs[i]) (by rw[b8x,b8u hi]<;>rfl);rw[hP'] at hw;cases hw;obtain rfl:v=c0z bs[i]:=rw';refine b8X ?_;have e:(bs[i]?).getD true=bs[i]:=by rw[b8u hi]<;>rfl
  dsimp only at hQ;rw[e] at hQ;exact hQ
 ·have e:(b9w its.toArray.size).all (fun i=>(bs[i]?).getD true)=bs.all id:=by
   rw[b8f] at hlen;rw[b8h,<- hlen];rw[Bool.eq_iff_iff];simp only[b9o,c1r,id];constructor
   ·intro h b hb;obtain⟨i,hi,rfl⟩:=List.getElem_of_mem hb;have:=h i hi;rw[b8u hi] at this;exact this
   ·intro h i hi;rw[b8u hi];exact h _ (c3k hi)
  rw[e]
  have I1:Inv X pins σ H { s with heap:=h',toks:=tk }:=I.kept fun b o eb=>hk b o (by
   intro hm;have:b=s.heap.objs.size:=by simpa using hm
   rw[this] at eb
   exact absurd (b8j eb) (b9a _)) (b8d _ eb)
  exact⟨.bl _,H,I1,rfl,q⟩
noncomputable def a6a:List T->Option (List Bool)
 |[]=>some []
 |.bl b::ts=>(a6a ts).map (b::·)
 |_::_=>none
theorem a5j{K:PySem.W.Frag}{H:Hp}:∀{vs:List V} {ts:List T} {bs:List Bool},Reps K H vs ts->a6a ts=some bs->vs=bs.map V.bl
 |vs,[],bs,h,e=>by unfold a6a at e;cases e;unfold Reps at h;exact h
 | vs, t::ts,bs,h,e=>by
   unfold Reps at h;obtain⟨v,r,rfl,h1,h2⟩:=h;cases t with
   | bl b =>
     unfold a6a at e;cases q:a6a ts with
     |none=>rw[q] at e;cases e
     | some cs =>
       rw[q] at e;cases e;obtain rfl:=a2f h1;rw[a5j h2 q];rfl
   |_=>unfold a6a at e;cases e
noncomputable def b4g:List T->MH->VK3->Prop:=fun xs M Q=>match xs with
 |[.adr p]=>(match M p with|some (.lst ts)=>(match a6a ts with|some bs=>Q (.bl (bs.all id)) M|none=>False)|_=>False)
 |_=>False
theorem a3f(hc:X.calm=true):a2K X (.builtin "all") b4g:=by
 intro pins s σ H vs us Q2 I r h;obtain⟨xs,M,Q,rr,hh,q,en⟩:=h;unfold b4g at q;split at q
 ·obtain⟨v,rfl,r1⟩:=a1H rr;obtain rfl:=a0n r1;split at q
  ·rename_i ts e0;obtain⟨ys,g1,g2⟩:=hh _ _ e0;split at q
   ·rename_i bs eb;obtain rfl:=a5j g2 eb;exact a4R hc pins s σ H _ us Q2 I r ⟨_,bs,rfl,SqL.of g1,en _ _ M H Kp.refl hh a0Z q⟩
   ·exact q.elim
  ·exact q.elim
 ·exact q.elim
end
section
variable{X:Cx}{a b c e:Expr}{st:Stmt}{rest ba bb body:List Stmt}{ta tb te:TE3}{tA:TT3}{t u:TS3}{pos:Pos}
noncomputable def a9M:TS3:=fun D ρ M=>D.nx ρ M
noncomputable def a9K(t u:TS3):TS3:=fun D ρ M=>t { D with nx:=u D } ρ M
theorem EndS.nx'{K:PySem.W.Frag}{H:Hp}{D:Ends3}{D2:Ends}{t:TS3}(h:EndS K H D D2):EndS K H { D with nx:=t D } { D2 with nx:=dS K t D2 } :=
 ⟨fun ρ' M' σ' H' k r hh q=>⟨D,ρ',M',q,r,hh,h.kp k⟩,h.rt,h.bk,h.ct⟩
theorem a0M:HSs X [] a9M:=fun D ρ M h=>b4k.imp fun D2 σ H ⟨hr,hh,en⟩=>en.nx ρ M σ H Kp.refl hr hh h
theorem a0j(h1:HS X st t)(h2:HSs X rest u):HSs X (st::rest) (a9K t u):=fun D ρ M h =>
 (a8n h1.d h2.d).imp fun D2 σ H ⟨hr,hh,en⟩=>⟨{ D with nx:=u D },ρ,M,h,hr,hh,en.nx'⟩
theorem a0h(h1:HS X st t):HSs X [st] t:=fun D ρ M h=>b0k (h1 D ρ M h)
noncomputable def b1P(te:TE3):TS3:=fun D ρ M=>te ρ M D.rt
theorem a0x(he:HE X e te):HS X (.Return (some e) pos) (b1P te):=fun D ρ M h =>
 (b3o (he.d (ρ:=ρ))).imp fun D2 σ H ⟨hr,hh,en⟩=>⟨M,_,h,hr,hh,en.rt⟩
noncomputable def b1Q(c:TT3)(t u:TS3):TS3:=fun D ρ M=>c ρ M fun b M1=>if b=true then t D ρ M1 else u D ρ M1
theorem s_if(hc:HT X c tA)(ha:HSs X ba t)(hb:HSs X bb u):HS X (.If c ba bb pos) (b1Q tA t u):=fun D ρ M h =>
 (b5T (hc.d (ρ:=ρ)) ha.d hb.d).imp fun D2 σ H ⟨hr,hh,en⟩=>⟨M,_,h,hr,hh,fun b M1 H1 k1 h1 q1=>by
  dsimp only at q1|-
  split
  ·rename_i hb;rw[if_pos hb] at q1;exact⟨D,ρ,M1,q1,hr.kp k1,h1,en.kp k1⟩
  ·rename_i hb;rw[if_neg hb] at q1
   exact⟨D,ρ,M1,q1,hr.kp k1,h1,en.kp k1⟩⟩
noncomputable def b3L:TS3:=fun _ _ _=>False
theorem a5B:HS X st b3L:=fun _ _ _ h=>h.elim
noncomputable def a9O(te:TE3):TS3:=fun D ρ M=>te ρ M fun _ M1=>D.nx ρ M1
theorem b0d(he:HE X e te)(hs:swapsWith e none pos.line X.env=pure false:=by rfl):HS X (.Expr e pos) (a9O te):=fun D ρ M h =>
 (b0m (he.d (ρ:=ρ)) hs).imp fun D2 σ H ⟨hr,hh,en⟩=>⟨M,_,h,hr,hh,fun x v M1 H1 k1 h1 r1 q1=>en.nx ρ M1 σ H1 k1 (hr.kp k1) h1 q1⟩
noncomputable def b3I(i:Nat)(te:TE3):TS3:=fun D ρ M=>te ρ M fun x M1=>D.nx (ρ.set i (some x)) M1
theorem a0V{i:Nat}{x:Str}{pos':Pos}(he:HE X e te)(hN:X.N.Nodup)(hi:X.N[i]?=some x:=by rfl)(hx:Loc X.env.scope x:=by first|exact c2L rfl|exact c2c rfl)(hs:swapsWith e (some (.Name x pos')) pos.line X.env=pure false:=by rfl)
  (hf:QXX X x:=by first|exact .inl rfl|exact .inr rfl|assumption):HS X (.Assign [.Name x pos'] e pos) (b3I i te):=fun D ρ M h =>
 (b3n hN hi hx (he.d (ρ:=ρ)) hs hf).imp fun D2 σ H ⟨hr,hh,en⟩=>⟨M,_,h,hr,hh,fun t v M1 H1 k1 h1 r1 q1=>en.nx _ M1 _ H1 k1 ((hr.kp k1).set i r1) h1 q1⟩
noncomputable abbrev TG3:=T->En->MH->(En->MH->Prop)->Prop
noncomputable def EndG(K:PySem.W.Frag)(H:Hp)(Q:En->MH->Prop)(Q2:St->Hp->Prop):Prop:=∀ρ' M' σ' H',Kp K H H'->RhoR K σ' H' ρ'->HR K H' M'->Q ρ' M'->Q2 σ' H'
noncomputable def dG(K:PySem.W.Frag)(g:TG3):TG:=fun v σ H Q2=>∃t ρ M Q,g t ρ M Q/\Rep K H v t/\RhoR K σ H ρ/\HR K H M/\EndG K H Q Q2
noncomputable def HG(X:Cx)(tg:Expr)(g:TG3):Prop:=PG X tg (dG X.K g)
noncomputable def b1e(i:Nat):TG3:=fun t ρ M Q=>Q (ρ.set i (some t)) M
theorem PG.imp{tg:Expr}{g g':TG}(h:PG X tg g)(f:∀v σ H Q,g' v σ H Q->g v σ H Q):PG X tg g':=fun pins s σ H v u Q I r q=>h pins s σ H v u Q I r (f v σ H Q q)
theorem b1d{i:Nat}{x:Str}(hN:X.N.Nodup)(hi:X.N[i]?=some x:=by rfl)(hx:Loc X.env.scope x:=by first|exact c2L rfl|exact c2c rfl)(hf:QXX X x:=by first|exact .inl rfl|exact .inr rfl|assumption):HG X (.Name x pos) (b1e i) :=
 (b0r hN hi hx hf).imp fun v σ H Q2 ⟨t,ρ,M,Q,q,r,hr,hh,en⟩=>en _ M _ H Kp.refl (hr.set i r) hh q
noncomputable def b6R(to ti:TE3):TG3:=fun v ρ M Q=>to ρ M fun o M1=>ti ρ M1 fun i M2=>match o,i with
 | .adr p,.int k=>(match M2 p with
   |some (.lst ts)=>(match ixN ts.length k with|some j=>Q ρ (updM M2 p (.lst (ts.set j v)))|none=>False)
   |_=>False)
 |_,_=>False
theorem b6Q{o i:Expr}{to ti:TE3}(ho:HE X o to)(hi:HE X i ti)
  (ha:∀v,assign (.Subscript o i pos) X.env v=(do
   let ov <- holding [v] (eval o X.env)
   let iv <- holding [v,ov] (eval i X.env)
   standAt pos
   holding [v,ov,iv] (setItem ov iv v)
   release [v,ov,iv] []):=by intro _;rfl):HG X (.Subscript o i pos) (b6R to ti):=by
 intro pins s σ H v u Q2 I r h;obtain⟨t,ρ,M,Q,q,rt,hr,hh,en⟩:=h;refine b5X (ho.d (ρ:=ρ)) (hi.d (ρ:=ρ)) b1S ha pins s σ H v u Q2 I r ?_;refine⟨M,_,q,hr,hh,fun ot ov M1 H1 k1 h1 r1 q1=>⟨M1,_,q1,hr.kp k1,h1,fun it iv M2 H2 k2 h2 r2 q2=>?_⟩⟩;dsimp only at q2;split at q2
 ·obtain rfl:=a0n r1;obtain rfl:=a0q r2;split at q2
  ·rename_i ts e0;obtain⟨xs,g1,g2⟩:=h2 _ _ e0;split at q2
   ·rename_i j ej;have kk:=k1.trans k2;refine⟨_,xs,_,j,rfl,rfl,g1,by rw[g2.length];exact ej,en _ _ σ _ (kk.trans (Kp.lst g1)) (hr.kp (kk.trans (Kp.lst g1))) (h2.setL g1 (g2.set (Rep.kp kk _ _ rt) j)) q2⟩
   ·exact q2.elim
  ·exact q2.elim
 ·exact q2.elim
noncomputable def b5z(te:TE3)(g:TG3):TS3:=fun D ρ M=>te ρ M fun x M1=>g x ρ M1 D.nx
theorem b5G{tg:Expr}{g:TG3}(he:HE X e te)(hg:HG X tg g)(hs:swapsWithSole [tg] e pos.line X.env=pure false:=by rfl)(hw:swappedStores [tg] e X.env=pure none:=by rfl)
  (h1:(assignEach [tg] X.env).map (·.2)=[assign tg X.env]:=by rfl):HS X (.Assign [tg] e pos) (b5z te g):=fun D ρ M h =>
 (b5V (he.d (ρ:=ρ)) hg hs hw h1).imp fun D2 σ H ⟨hr,hh,en⟩=>⟨M,_,h,hr,hh,fun t v M1 H1 k1 h1 r1 q1=>⟨t,ρ,M1,D.nx,q1,r1,hr.kp k1,h1,fun ρ' M' σ' H' k r hh' q=>en.nx ρ' M' σ' H' (k1.trans k) r hh' q⟩⟩
structure It3 where
 items:List T
 stay:MH->Prop:=fun _=>True
noncomputable abbrev TI3:=En->MH->(It3->MH->Prop)->Prop
structure ItOk(K:PySem.W.Frag)(H:Hp)(J2:It)(J:It3):Prop where
 stop:∀H' M',Kp K H H'->HR K H' M'->J.stay M'->J2.stop J.items.length H'
 go:∀(i:Nat) (x:T) H' M',J.items[i]?=some x->Kp K H H'->HR K H' M'->J.stay M'->J2.go i H'/\∀v H'',J2.yld i H' v H''->Kp K H' H''/\HR K H'' M'/\Rep K H'' v x
noncomputable def HI(X:Cx)(tg iter:Expr)(wi:TI3):Prop:=∀ρ M R,wi ρ M R->PI X tg iter (fun σ H R2=>RhoR X.K σ H ρ/\HR X.K H M/\∀J J2 M' H',Kp X.K H H'->HR X.K H' M'->ItOk X.K H' J2 J->R J M'->R2 J2 H')
noncomputable def dI(K:PySem.W.Frag)(ρ:En)(wi:TI3):TI:=fun σ H R2=>∃M R,wi ρ M R/\RhoR K σ H ρ/\HR K H M/\∀J J2 M' H',Kp K H H'->HR K H' M'->ItOk K H' J2 J->R J M'->R2 J2 H'
theorem HI.d{tg iter:Expr}{wi:TI3}{ρ:En}(h:HI X tg iter wi):PI X tg iter (dI X.K ρ wi):=fun pins s σ H R I ⟨M,R3,q,b⟩=>h ρ M R3 q pins s σ H R I b
theorem PI.imp{tg iter:Expr}{w w':TI}(h:PI X tg iter w)(f:∀σ H R,w' σ H R->w σ H R):PI X tg iter w':=fun pins s σ H R I q=>h pins s σ H R I (f σ H R q)
noncomputable def b6K(tl:TE3):TI3:=fun ρ M R=>tl ρ M fun x M1=>match x with
 |.tup ts=>R ⟨ts,fun _=>True⟩ M1
 |.adr p=>(match M1 p with|some (.lst ts)=>R ⟨ts,fun M'=>M' p=some (.lst ts)⟩ M1|_=>False)
 |_=>False
theorem b2B{K:PySem.W.Frag}{H:Hp}{a:Addr}{xs:List V}{ts:List T}(h:SqT K H a xs)(r:Reps K H xs ts):ItOk K H (Itt K a) ⟨ts,fun _=>True⟩:=by
 refine⟨fun H' M' k hh _=>⟨xs,k.tup _ _ h,by rw[r.length];exact b8k _⟩,fun i x H' M' e k hh _=>?_⟩;obtain⟨v,e1,r1⟩:=r.get e;refine⟨⟨xs,v,k.tup _ _ h,e1⟩,fun v' H'' y=>?_⟩;obtain⟨rfl,y⟩:=y;have:=y xs (k.tup _ _ h);rw[e1] at this;cases this;exact⟨Kp.refl,hh,Rep.kp k _ _ r1⟩
theorem b2D{K:PySem.W.Frag}{H:Hp}{a:Addr}{ts:List T}:ItOk K H (Itl K a) ⟨ts,fun M'=>M' a=some (.lst ts)⟩:=by
 refine⟨fun H' M' k hh st=>?_,fun i x H' M' e k hh st=>?_⟩
 ·obtain⟨xs,g1,g2⟩:=hh _ _ st;exact⟨xs,SqL.of g1,by rw[g2.length];exact b8k _⟩
 ·obtain⟨xs,g1,g2⟩:=hh _ _ st;obtain⟨v,e1,r1⟩:=g2.get e;refine⟨⟨xs,v,SqL.of g1,e1⟩,fun v' H'' y=>?_⟩;obtain⟨rfl,y⟩:=y;have:=y xs (SqL.of g1);rw[e1] at this;cases this;exact⟨Kp.refl,hh,r1⟩
noncomputable def a2Y(lo:Int)(n:Nat):List T:=(b9w n).map fun i=>T.int (lo+(i:Nat))
theorem a9r{K:PySem.W.Frag}{H:Hp}{lo:Int}{n:Nat}:ItOk K H (Itr lo n) ⟨a2Y lo n,fun _=>True⟩:=by
 have hl:(a2Y lo n).length=n:=by unfold a2Y;simp
 refine⟨fun H' M' k hh _=>by show n<=(a2Y lo n).length;rw[hl];exact b8k _,fun i x H' M' e k hh _=>?_⟩;have hi:i<n:=by have:=(b8C.mp e).1;rwa [hl] at this
 have ex:x=.int (lo+(i:Nat)):=by
  unfold a2Y at e;rw[b8x,c2z hi] at e;exact(b8s e).symm
 subst ex;refine⟨hi,fun v H'' y=>?_⟩;obtain⟨rfl,rfl⟩:=y;exact⟨Kp.refl,hh,a0J⟩
theorem a4O{tg l:Expr}{tl:TE3}(hl:HE X l tl):HI X tg l (b6K tl):=by
 intro ρ M R h pins s σ H R2 I b;obtain⟨hr,hh,en⟩:=b
 refine thn (hl ρ M _ h pins s σ H (fun v H1=>∃t M1,Kp X.K H H1/\HR X.K H1 M1/\Rep X.K H1 v t/\(match t with
  |.tup ts=>R ⟨ts,fun _=>True⟩ M1
  |.adr p=>(match M1 p with|some (.lst ts)=>R ⟨ts,fun M'=>M' p=some (.lst ts)⟩ M1|_=>False)
  |_=>False)) I ⟨hr,hh,fun t v M1 H1 k1 h1 r1 q1=>⟨t,M1,k1,h1,r1,q1⟩⟩) fun v s1 ⟨x,H1,I1,rv,t,M1,k1,h1,r1,q1⟩=>?_
 split at q1
 ·rename_i ts;obtain⟨a,xs,rfl,g1,g2⟩:=a1w r1;cases rv;obtain⟨its,rv,p,hz⟩:=I1.tuple g1;refine wpAny_pyIter_tuple (show s1.heap.IsTuple a its.toArray from p) ?_;refine⟨s1.heap.objs.size,[s1.heap.objs.size],_,_,H1,rfl,I1.kept (t':=s1.toks) fun b o e=>b8d _ e,a8K a _,⟨_,b8A _ rfl,rfl,rfl⟩,fun b hb=>?_,en _ _ M1 H1 k1 h1 (b2B g1 g2) q1⟩;have e:b=s1.heap.objs.size:=by simpa using hb
  subst e;exact I1.fpOk (b8k _) (I1.hok.fresh (b8k _))
 ·rename_i a;obtain rfl:=a0n r1;cases rv;split at q1
  ·rename_i ts e0;obtain⟨xs,g1,g2⟩:=h1 _ _ e0;obtain⟨its,rv,p,hz⟩:=I1.list (SqL.of g1);refine c2X p.isList ?_;refine⟨s1.heap.objs.size,[s1.heap.objs.size],_,_,H1,rfl,I1.kept (t':=s1.toks) fun b o e=>b8d _ e,a9H a _,⟨_,b8A _ rfl,rfl,rfl⟩,fun b hb=>?_,en _ _ M1 H1 k1 h1 b2D q1⟩;have e:b=s1.heap.objs.size:=by simpa using hb
   subst e;exact I1.fpOk (b8k _) (I1.hok.fresh (b8k _))
  ·exact q1.elim
 ·exact q1.elim
noncomputable def b0V(t:TA3):TI3:=fun ρ M R=>t ρ M fun xs M1=>match xs with
 |[.int j]=>-(2^62)<=j/\j<2^62/\R ⟨a2Y 0 j.toNat,fun _=>True⟩ M1
 |_=>False
noncomputable def b4L(t:TA3):TI3:=fun ρ M R=>t ρ M fun xs M1=>match xs with
 |[.int i,.int j]=>(-(2^62)<=i/\i<2^62/\-(2^62)<=j/\j<2^62)/\R ⟨a2Y i (j-i).toNat,fun _=>True⟩ M1
 |_=>False
theorem b2J{tg:Expr}{t:TA3}{p:Pos}(hm:X.mg "range"=none)(ha:HA X [a] t)(hg:Gl X "range":=by rfl)(hs:starEach [a] X.env=[(false,eval a X.env)]:=by rfl):HI X tg (.Call (.Name "range" p) [a] [] pos) (b0V t):=fun ρ M R h =>
 (b0q hg hm (ha.d (ρ:=ρ)) hs).imp fun σ H R2 ⟨hr,hh,en⟩=>⟨M,_,h,hr,hh,fun ts vs M1 H1 k1 h1 r1 q1=>by
  dsimp only at q1;split at q1
  ·rename_i j;obtain⟨v,rfl,rv⟩:=a1H r1;obtain rfl:=a0q rv;exact⟨j,rfl,q1.1,q1.2.1,en _ _ M1 H1 k1 h1 a9r q1.2.2⟩
  ·exact q1.elim⟩
noncomputable def a8M(wi:TI3)(g:TG3)(tb:TS3):TS3:=fun D ρ M=>wi ρ M fun J M1=>∃W:Nat->En->MH->Prop,W 0 ρ M1/\(∀i ρ M,W i ρ M->J.stay M) /\
 (∀i x ρ M,J.items[i]?=some x->W i ρ M->g x ρ M fun ρ2 M2=>tb { D with nx:=W (i+1),ct:=W (i+1),bk:=D.nx } ρ2 M2)/\∀ρ M,W J.items.length ρ M->D.nx ρ M
noncomputable def a4I(ix:List (Option Nat))(ρ:En):En:=ix.map fun o=>match o with|some j=>(ρ[j]?).join|none=>none
theorem a8k{K:PySem.W.Frag}{σ:St}{H:Hp}{ρ:En}(ix:List (Option Nat))(h:RhoR K σ H ρ):RhoR K (pick ix σ) H (a4I ix ρ):=by
 refine⟨by unfold pick a4I;simp,fun i t e=>?_⟩;unfold a4I at e;unfold pick
 rw[b8x] at e|-
 cases hx:ix[i]? with
 |none=>rw[hx] at e;cases e
 | some o =>
   rw[hx] at e;cases o with
   | none =>
     have e':(none:Option T)=some t:=b8s e;cases e'
   | some j =>
     have e':(ρ[j]?).join=some t:=b8s e;cases hj:ρ[j]? with
     |none=>rw[hj] at e';cases e'
     | some u =>
       rw[hj] at e';have e2:u=some t:=e';subst e2;obtain⟨v,a,b⟩:=h.2 j t hj;exact⟨v,by show some ((σ[j]?).join)=some (some v);rw[a]<;>rfl,b⟩
noncomputable def a9P(wi:TI3)(ix:List (Option Nat))(g:TG3)(tt:TT3)(te:TE3):TE3:=fun ρ M Q=>wi ρ M fun J M1=>∃W:Nat->List T->MH->Prop,W 0 [] M1/\(∀i ys M,W i ys M->J.stay M)/\J.items.length<sizeLine /\
 (∀i x ys M,J.items[i]?=some x->W i ys M->g x (a4I ix ρ) M fun ρ2 M2=>tt ρ2 M2 fun ok M3=>if ok=true then te ρ2 M3 fun y M4=>W (i+1) (ys++[y]) M4 else W (i+1) ys M3) /\
 ∀ys M,W J.items.length ys M->∀p,M p=none->Q (.adr p) (updM M p (.lst ys))
noncomputable def HTs(X:Cx)(ifs:LSE)(t:TT3):Prop:=∀ρ M Q,t ρ M Q->PTs X ifs (bT X.K ρ M Q)
noncomputable def b5n:TT3:=fun _ M Q=>Q true M
theorem a3u:HTs X [] b5n:=fun ρ M Q h pins s σ H Q2 I ⟨hr,hh,en⟩=>b4j pins s σ H Q2 I (en true M H Kp.refl hh h)
end
noncomputable def dEx(K:PySem.W.Frag)(t:TE3):TE:=fun σ H Q2=>∃ρ M Q,t ρ M Q/\bE K ρ M Q σ H Q2
noncomputable def dTx(K:PySem.W.Frag)(t:TT3):TT:=fun σ H Q2=>∃ρ M Q,t ρ M Q/\bT K ρ M Q σ H Q2
section
variable{X:Cx}{e:Expr}
theorem HE.dx{t:TE3}(h:HE X e t):PE X e (dEx X.K t):=fun pins s σ H Q I ⟨ρ,M,Q3,q,b⟩=>h ρ M Q3 q pins s σ H Q I b
theorem HTs.dx{ifs:LSE}{t:TT3}(h:HTs X ifs t):PTs X ifs (dTx X.K t):=fun pins s σ H Q I ⟨ρ,M,Q3,q,b⟩=>h ρ M Q3 q pins s σ H Q I b
structure BTg(K:PySem.W.Frag)(ix:List (Option Nat))(g2:TG)(g3:TG3):Prop where
 own:Own ix g2
 br:∀(t:T) (v:V) (ρ:En) (M:MH) (σ:St) (H:Hp) (Q3:En->MH->Prop) (Q2:St->Hp->Prop),Rep K H v t->RhoR K σ H ρ->HR K H M->g3 t ρ M Q3->EndG K H Q3 Q2->g2 v σ H Q2
theorem a2b{K:PySem.W.Frag}{ix:List (Option Nat)}{i:Nat}(h:ix[i]?=some none:=by rfl):BTg K ix (b2S i) (b1e i) :=
 ⟨b2r h,fun t v ρ M σ H Q3 Q2 r hr hh q en=>en _ M _ H Kp.refl (hr.set i r) hh q⟩
variable{elt iter tg:Expr}{ifs:LSE}{pos:Pos}{scope:c0t}{N':LSS}{ix:List (Option Nat)}{wi:TI3}{g2:TG}{g3:TG3}{tt:TT3}{te:TE3}
theorem b3b{X:Cx}{N':LSS}{ix:List (Option Nat)}{wi:TI3}{g2:TG}{g3:TG3}{tt:TT3}{te:TE3}(bt:BTg X.K ix g2 g3)(ρ0:En)(M0:MH)(Q:VK3)(h:a9P wi ix g3 tt te ρ0 M0 Q)(σ0:St)(H0:Hp)(Q2:VK)(bb:bE X.K ρ0 M0 Q σ0 H0 Q2) :
  b3M (dI X.K ρ0 wi) ix g2 (dTx X.K tt) (dEx X.K te) σ0 H0 Q2:=by
 obtain⟨hr0,hh0,en⟩:=bb
 exact⟨M0,_,h,hr0,hh0,fun J J2 M1 H1 k1 h1 ok q1=>by
  obtain⟨W,w0,wst,hsz,turn,fin⟩:=q1;refine⟨fun i m ys H=>m=J.items.length-i/\i<=J.items.length/\ys.length<=i/\Kp X.K H1 H/\∃ts M,Reps X.K H ys ts/\HR X.K H M/\W i ts M,⟨_,rfl,b9B _,b9B _,Kp.refl,[],M1,.nil,h1,w0⟩,?_⟩;rintro i m ys H ⟨rfl,hi,hy,kk,ts,M,rts,hh,w⟩;have st:=wst i ts M w;by_cases hlt:i<J.items.length
  ·have e:J.items[i]?=some J.items[i]:=b8u hlt;obtain⟨go,yl⟩:=ok.go i _ H M e kk hh st;refine .inr ⟨go,by lia,fun v H' y=>?_⟩;obtain⟨k2,h2,r2⟩:=yl v H' y;have kk2:=kk.trans k2;refine bt.br J.items[i] v _ M _ H' _ _ r2 (a8k ix (hr0.kp (k1.trans kk2))) h2 (turn i _ ts M e w) fun ρ3 M3 σ3 H3 k3 hr3 hh3 q3=>⟨ρ3,M3,_,q3,hr3,hh3,fun b M4 H4 k4 h4 q4=>?_⟩;have kk4:=kk2.trans (k3.trans k4)
   dsimp only at q4|-
   cases b with
   | true =>
     rw[if_pos rfl] at q4|-
     refine⟨ρ3,M4,_,q4,hr3.kp k4,h4,fun t5 v5 M5 H5 k5 h5 r5 q5=>⟨_,c0W hlt (b9c i),rfl,hlt,?_,kk4.trans k5,ts++[t5],M5,?_,h5,q5⟩⟩
     ·rw[b8R,b9Z];lia
     ·exact(Reps.kp (k2.trans (k3.trans (k4.trans k5))) _ _ rts).append (.cons r5 .nil)
   | false =>
     rw[if_neg b8v] at q4|-
     exact⟨_,c0W hlt (b9c i),rfl,hlt,by lia,kk4,ts,M4,Reps.kp (k2.trans (k3.trans k4)) _ _ rts,h4,q4⟩
  ·have e:i=J.items.length:=by lia
   subst e;refine .inl ⟨ok.stop H M kk hh st,by lia,fun p hp=>?_⟩
   exact en _ _ _ _ (k1.trans (kk.trans (Kp.new hp))) (hh.newL hp rts) a1u (fin ts M w p (hh.free hp))⟩
theorem a3y(hc:X.calm=true)(hi:HI X tg iter wi)(S:BlkScope X N' ix scope)(bt:BTg X.K ix g2 g3)(hg:∀C s H fp pins,PG (blk X N' scope C s H fp pins) tg g2)
  (ht:∀C s H fp pins,HTs (blk X N' scope C s H fp pins) ifs tt) (he:∀C s H fp pins,HE (blk X N' scope C s H fp pins) elt te)
  (hs:∀x,foldedSetIterable iter X.env x=pure x:=by intro _;rfl) :
  HE X (.ListComp elt [⟨tg,iter,ifs,0⟩] scope pos) (a9P wi ix g3 tt te):=fun ρ0 M0 Q h =>
 (b4q (tt:=dTx X.K tt) (te:=dEx X.K te) hc (hi.d (ρ:=ρ0)) S bt.own hg (fun C s H fp pins=>(ht C s H fp pins).dx) (fun C s H fp pins=>(he C s H fp pins).dx) hs).imp fun σ0 H0 Q2 bb=>b3b (X:=X) (N':=N') bt ρ0 M0 Q h σ0 H0 Q2 bb
noncomputable def a0T(N:LSS)(ts:List T):En:=ts.map some++b8p (N.length-ts.length) none
theorem a2p{K:PySem.W.Frag}{H:Hp}{N:LSS}{vs:List V}{ts:List T}(r:Reps K H vs ts):RhoR K (start N vs) H (a0T N ts):=by
 have hl:=r.length;refine⟨by unfold start a0T;simp[hl],fun i t e=>?_⟩;unfold a0T at e;unfold start;by_cases hi:i<ts.length
 ·rw[c0j (by simpa using hi),b8x] at e;cases q:ts[i]? with
  |none=>rw[q] at e;cases e
  | some u =>
    rw[q] at e;cases e;obtain⟨v,a,b⟩:=r.get q;refine⟨v,?_,b⟩;rw[c0j (by simpa [hl] using hi),b8x,a];rfl
 ·rw[c1b (by simpa using hi),c1I] at e;split at e<;>cases e
noncomputable def rt3(M:MH)(Q:VK3):VK3:=fun t M'=>∃M0,Sub M0 M'/\Q t M0
end
section
variable{P:b8n}{w:b8F}{K:PySem.W.Frag}{mg:SOV}{base:Heap}
theorem Fun.fnk{x qual:Str}{st:Stmt}{f:Addr}{fd:b9d}{N ps:LSS}{n:Nat}{sp:Sp3}(F:Fun K x qual st f fd)(S:FnScope N ps (a0b st))(len:∀ts M Q,sp ts M Q->ts.length=ps.length)
  (hbody:∃t:TS3,(∀(cdv:b8g) (A:b8w) (outer:List Env) (s:b7Y) (H:Hp) (E:XK),Room n (A.deeper (envOfC qual (a0b st) s.heap.objs.size f cdv)) ->
   HSs (cxOf CX0 P w K mg base N qual (a0b st) f cdv A outer s H E).nox (a0K st) t) /\
   ∀ts M Q,sp ts M Q->t { nx:=fun _ M'=>rt3 M Q .non M',rt:=rt3 M Q } (a0T N ts) M):FnOk P w K mg base CX0 (n+1) f fd ps (dSp K sp):=by
 obtain⟨t,hbody,rd⟩:=hbody;refine F.ok S (fun vs H Q E ⟨ts,M,Q3,r,_,q,_⟩=>by rw[r.length];exact len _ _ _ q) (fun cdv A outer s H vs Q E hr ⟨ts,M,Q3,r,hh,q,en⟩=>?_);refine⟨_,hbody cdv A outer s H E hr _ _ _ (rd ts M Q3 q),a2p r,hh,⟨?_,?_,fun _ _ _ _ _ _ _ z=>z.elim,fun _ _ _ _ _ _ _ z=>z.elim⟩⟩
 ·rintro ρ' M' σ' H' k hr' hh' ⟨M0,hs,q'⟩;exact en .non .non M0 H' k (hh'.sub hs) a2q q'
 ·rintro t' v' M' H' k hh' r' ⟨M0,hs,q'⟩;exact en t' v' M0 H' k (hh'.sub hs) r' q'
theorem Fun.dfn{x qual:Str}{st:Stmt}{f:Addr}{fd:b9d}{N ps:LSS}{n:Nat}{sp:Sp3}(F:Fun K x qual st f fd)(hm:mg x=some (.ref f))(hb:a1l K fd ps [])(S:FnScope N ps (a0b st))(len:∀ts M Q,sp ts M Q->ts.length=ps.length)
  (hbody:∃t:TS3,(∀(cdv:b8g) (A:b8w) (outer:List Env) (s:b7Y) (H:Hp) (E:XK),Room n (A.deeper (envOfC qual (a0b st) s.heap.objs.size f cdv)) ->
   HSs (cxOf CX0 P w K mg base N qual (a0b st) f cdv A outer s H E).nox (a0K st) t) /\
   ∀ts M Q,sp ts M Q->t { nx:=fun _ M'=>rt3 M Q .non M',rt:=rt3 M Q } (a0T N ts) M):Df P w K mg base (n+1) x ps sp :=
 ⟨f,fd,F.fnk S len hbody,hm,F.kp,hb⟩
end
section
variable{X:Cx}{a b e:Expr}{es:LSE}{ta te:TE3}{t:TA3}{pos:Pos}
noncomputable def b2G(M:MH)(x:T):Prop:=match x with
 |.adr p=>(match M p with|some (.lst _)=>True|_=>False)
 |_=>False
noncomputable abbrev RM3:=T->List T->MH->VK3->Prop
noncomputable def dM(K:PySem.W.Frag)(r:RM3):V->List V->Hp->VK->Prop:=fun v vs H Q2=>∃x xs M Q,Rep K H v x/\Reps K H vs xs/\HR K H M/\r x xs M Q/\EndE K H Q Q2
noncomputable def MtR3(X:Cx)(id:String)(r:RM3):Prop:=MtR X id (dM X.K r)
noncomputable def tLM3(r:RM3)(to:TE3)(t:TA3):TE3:=fun ρ M Q=>to ρ M fun x M1=>b2G M1 x/\t ρ M1 fun xs M2=>r x xs M2 Q
theorem b2F{K:PySem.W.Frag}{H:Hp}{M:MH}{x:T}{v:V}(hh:HR K H M)(r:Rep K H v x)(h:b2G M x):tyV K "list" v H:=by
 unfold b2G at h;split at h
 ·rename_i p;split at h
  ·rename_i ts e;obtain⟨xs,g1,_⟩:=hh _ _ e;obtain rfl:=a0n r;exact .inl ⟨rfl,xs,SqL.of g1⟩
  ·exact h.elim
 ·exact h.elim
theorem h_lm{o:Expr}{to:TE3}{name:Str}{apos cpos:Pos}{id:String}{r:RM3}(slot:Slot "list" name id)(hty:typeOf (.builtin id)=pure (.type "method_descriptor"))(hm:MtR3 X id r)(ho:HE X o to)(ha:HA X (e::es) t)
  (hbase:attributeBase o name X.env (eval o X.env)=eval o X.env:=by rfl)
  (hfew:QFF X cpos e es:=by rfl)
  (hline:QLL apos cpos:=by rfl) (hs:QSS X e es:=by rfl) (hplain:QPP X cpos es:=by rfl) :
  HE X (.Call (.Attribute o name apos) (e::es) [] cpos) (tLM3 r to t):=fun ρ M Q h =>
 (b6g PySem.F.plainAttrs_list slot hty hm (ho.d (ρ:=ρ)) (ha.d (ρ:=ρ)) hbase hfew hline hs hplain).imp fun σ H Q2 ⟨hr,hh,en⟩=>⟨M,_,h,hr,hh,fun x v M1 H1 k1 h1 r1 q1=>⟨b2F h1 r1 q1.1,M1,_,q1.2,hr.kp k1,h1,fun ts vs M2 H2 k2 h2 r2 q2 =>
  ⟨x,ts,M2,Q,Rep.kp k2 _ _ r1,r2,h2,q2,en.kp (k1.trans k2)⟩⟩⟩
noncomputable def b1Y:RM3:=fun x xs M Q=>match x,xs with
 |.adr p,[y]=>(match M p with|some (.lst ts)=>ts.length<sizeLine/\Q .non (updM M p (.lst (ts++[y])))|_=>False)
 |_,_=>False
theorem a9m:MtR3 X "list.append" b1Y:=by
 intro pins s σ H v vs u us Q2 I rv rvs h;obtain⟨x,xs,M,Q,r1,r2,hh,q,en⟩:=h;unfold b1Y at q;split at q
 ·rename_i p y;split at q
  ·rename_i ts e0;obtain⟨ys,g1,g2⟩:=hh _ _ e0;obtain rfl:=a0n r1;obtain⟨w,rfl,rw'⟩:=a1H r2;exact b0E pins s σ H _ _ u us Q2 I rv rvs ⟨_,ys,w,rfl,rfl,g1,by rw[g2.length];exact q.1,en _ _ _ _ (Kp.lst g1) (hh.setL g1 (g2.append (.cons rw' .nil))) a2q q.2⟩
  ·exact q.elim
 ·exact q.elim
noncomputable def b4J:List T->Option (LSI)
 |[]=>some []
 |.int i::ts=>(b4J ts).map (i::·)
 |_::_=>none
theorem a6N:∀(ns:LSI),b4J (ns.map T.int)=some ns
 |[]=>rfl
 |n::ns=>by show(b4J (ns.map T.int)).map (n::·)=_;rw[a6N ns];rfl
theorem a9u{o:Expr}{to:TE3}{apos cpos:Pos}(ho:HE X o to)(ha:HA X (e::es) t)
  (hbase:attributeBase o "append" X.env (eval o X.env)=eval o X.env:=by rfl)
  (hfew:QFF X cpos e es:=by rfl)
  (hline:QLL apos cpos:=by rfl) (hs:QSS X e es:=by rfl) (hplain:QPP X cpos es:=by rfl) :
  HE X (.Call (.Attribute o "append" apos) (e::es) [] cpos) (tLM3 b1Y to t):=h_lm PySem.F.slot_list_append PySem.F.type_list_append a9m ho ha hbase hfew hline hs hplain
end
end L2
namespace LM
noncomputable def a3h(n l:Int):Prop:=1<=(l.natAbs:Int)/\(l.natAbs:Int)<n
noncomputable def a0R(n:Int)(w:LSI):Prop:=∀l∈w,a3h n l
noncomputable def a6K(n l:Int):Bool:=decide (1<=l.natAbs)&&decide ((l.natAbs:Int)<n)
noncomputable def isPl(n:Int)(w:LSI):Bool:=decide (1<=n)&&decide (n<=6)&&decide (w.length<=16)&&w.all (a6K n)
noncomputable def PlOK(n:Int)(w:LSI):Prop:=1<=n/\n<=6/\w.length<=16/\a0R n w
theorem b0S{n l:Int}:a6K n l=true<->a3h n l:=by
 unfold a6K a3h;simp only[b8m,decide_eq_true_eq];lia
theorem PlOK.is{n:Int}{w:LSI}(h:PlOK n w):isPl n w=true:=by
 obtain⟨h1,h2,h3,h4⟩:=h;unfold isPl;simp only[b8m,decide_eq_true_eq,b9o];exact⟨⟨⟨h1,h2⟩,h3⟩,fun l hl=>b0S.mpr (h4 l hl)⟩
theorem a0R.nil{n:Int}:a0R n []:=fun _ z=>nomatch z
theorem a0L{α β:Type}(f:α->β){L:List α}{i:Nat}{x:α}(h:L[i]?=some x):(L.take i).map f++[f x]=(L.take (i+1)).map f:=by
 rw[c1E,h];simp
theorem a1c{α β:Type}{f:α->β}{L:List α}{i:Nat}{y:β}(h:(L.map f)[i]?=some y):∃x,L[i]?=some x/\f x=y:=by
 rw[b8x] at h;cases q:L[i]? with
 |none=>rw[q] at h;cases h
 |some x=>rw[q] at h;exact⟨x,rfl,b8s h⟩
noncomputable def a2Z(n:Int):LSI:=(b9w n.toNat).map fun i=>((i:Nat):Int)
noncomputable def b3z(w:LSI):LSI:=w.reverse.map fun l=>-l
theorem a0R.map{n:Int}{w:LSI}{f:Int->Int}(hf:∀l,a3h n l->a3h n (f l))(h:a0R n w):a0R n (w.map f):=fun l hl=>by
 obtain⟨k,hk,rfl⟩:=b9N.mp hl;exact hf k (h k hk)
theorem a0R.reverse{n:Int}{w:LSI}(h:a0R n w):a0R n w.reverse:=fun l hl=>h l (c3l.mp hl)
theorem PlOK.map{n:Int}{w:LSI}{f:Int->Int}(hf:∀l,a3h n l->a3h n (f l))(h:PlOK n w):PlOK n (w.map f):=⟨h.1,h.2.1,by rw[b8f];exact h.2.2.1,h.2.2.2.map hf⟩
noncomputable def b7k(st:LSI)(l:Int):LSI:=match st with
 |[]=>[l]
 |x::t=>if x=-l then t else l::x::t
noncomputable def redS(st w:LSI):LSI:=w.foldl b7k st
noncomputable def redL(w:LSI):LSI:=(redS [] w).reverse
noncomputable def Red:LSI->Prop
 |[]=>True
 |[_]=>True
 |x::y::t=>x≠-y/\Red (y::t)
theorem Red.tail{x:Int}{t:LSI}(h:Red (x::t)):Red t:=by
 cases t with
 |nil=>trivial
 |cons y t=>exact h.2
theorem Red.get:∀{s:LSI} (j:Nat),Red s->j+1<s.length->s.getD j 0+s.getD (j+1) 0≠0
 |[],_,_,h=>by simp at h
 |[_],j,_,h=>by simp at h
 | x::y::t,0,h,_=>by
   have:=h.1;show x+y≠0;lia
 | x::y::t,j+1,h,hj=>by
   have:=Red.get (s:=y::t) j h.2 (by simpa using hj);exact this
theorem a3z(s:LSI)(k:Nat)(h:k<s.length):s.reverse.getD k 0=s.getD (s.length-1-k) 0:=by
 rw[c1g,c1g,List.getElem?_reverse h]
theorem Red.of_get:∀{s:LSI},(∀j,j+1<s.length->s.getD j 0+s.getD (j+1) 0≠0)->Red s
 |[],_=>trivial
 |[_],_=>trivial
 | x::y::t,h=>by
   refine⟨?_,Red.of_get fun j hj=>h (j+1) (by simpa using hj)⟩;have:x+y≠0:=h 0 (by simp);lia
theorem Red.reverse{s:LSI}(h:Red s):Red s.reverse:=Red.of_get fun j hj=>by
 rw[List.length_reverse] at hj;rw[a3z s j (by lia),a3z s (j+1) hj];have:=Red.get (s:=s) (s.length-1-(j+1)) h (by lia);have e2:s.length-1-(j+1)+1=s.length-1-j:=by lia
 rw[e2] at this;lia
noncomputable def Eqv(u v:LSI):Prop:=redL u=redL v
theorem Eqv.refl{u:LSI}:Eqv u u:=rfl
theorem Eqv.of{u v:LSI}(h:u=v):Eqv u v:=by rw[h];rfl
noncomputable def mkL(l:Int)(x:Int):LSI :=
 let i:Int:=l.natAbs
 let a:LSI:=if l>0 then [i,i+1,-i] else [i+1]
 let b:LSI:=if l>0 then [i] else [-(i+1),i,i+1]
 if x=i then a else if x=i+1 then b else if x=-i then b3z a else if x=-(i+1) then b3z b else [x]
noncomputable def subW(w:LSI)(u:LSI):LSI:=w.foldl (fun u l=>u.flatMap (mkL l)) u
noncomputable def NZ(w:LSI):Prop:=∀l∈w,l≠0
theorem NZ.tail{l:Int}{w:LSI}(h:NZ (l::w)):NZ w:=fun x hx=>h x (b7Z _ hx)
theorem NZ.head{l:Int}{w:LSI}(h:NZ (l::w)):l≠0:=h l b8e
noncomputable def imgL(w:LSI)(j:Int):LSI:=redL (subW w [j])
noncomputable def b6Z(w v:LSI):Prop:=∀u,Eqv (subW w u) (subW v u)
theorem b6Z.refl{w:LSI}:b6Z w w:=fun _=>Eqv.refl
end LM
namespace L2
open PySem PySem.Spec PyProof.Rows LM
theorem a7q(x:Str)(N:LSS)(t:T)(ts:List T):a0T (x::N) (t::ts)=some t::a0T N ts:=by
 unfold a0T;simp only[b8o,b8t,Nat.add_sub_add_right,b9S]
theorem a7p(x:Str)(N:LSS):a0T (x::N) []=none::a0T N []:=by
 unfold a0T;simp only[c2a,b8t,c2b,c3P,c0a,b8P]
theorem a8N:a0T [] []=[]:=rfl
theorem a9d(ix:List (Option Nat))(ρ:En):a4I (none::ix) ρ=none::a4I ix ρ:=rfl
theorem a9c(j:Nat)(ix:List (Option Nat))(ρ:En):a4I (some j::ix) ρ=(ρ[j]?).join::a4I ix ρ:=rfl
theorem b0p(ρ:En):a4I [] ρ=[]:=rfl
theorem b0N{α:Type}(a:Option α):(some a).join=a:=rfl
theorem a0l{M:MH}{Q:VK3}{t:T}{M':MH}(h:Q t M'):rt3 M Q t M':=⟨M',Sub.refl,h⟩
theorem a2h{α:Type}(x:α)(xs:List α):atI (x::xs) 0=some x:=by
 have:=a4E (xs:=x::xs) (j:=0) (v:=x) rfl
 simpa using this
theorem b3e{α:Type}(x y:α)(xs:List α):atI (x::y::xs) 1=some y:=by
 have:=a4E (xs:=x::y::xs) (j:=1) (v:=y) rfl
 simpa using this
theorem b7V{α:Type}(x y z:α)(xs:List α):atI (x::y::z::xs) 2=some z:=by
 have:=a4E (xs:=x::y::z::xs) (j:=2) (v:=z) rfl
 simpa using this
theorem b7J(n:Nat):ixN (n+1) 0=some 0:=by
 unfold ixN;rw[if_pos (by lia),if_pos (by lia)];rfl
theorem a6e{M:MH}{a:Addr}{o u:MO}:updM (updM M a o) a u=updM M a u:=by
 funext b;unfold updM;split<;>rfl
theorem b3d(ns:LSI)(i:Int)(h0:0<=i)(h:i<ns.length):atI (ns.map T.int) i=some (.int (ns.getD i.toNat 0)):=by
 have e:i=((i.toNat:Nat):Int):=by lia
 have hl:i.toNat<ns.length:=by lia
 have:=a4E (xs:=ns.map T.int) (j:=i.toNat) (v:=.int (ns.getD i.toNat 0)) (by
  rw[b8x,b8u hl]
  simp[List.getD,b8u hl])
 rw[<- e] at this;exact this
theorem a2x(bs:List Bool):a6a (bs.map T.bl)=some bs:=by
 induction bs with
 |nil=>rfl
 |cons b bs ih=>show(a6a (bs.map T.bl)).map (b::·)=_;rw[ih];rfl
theorem a3Y(ns:LSI):a0X (ns.map T.int)=true:=by
 induction ns with
 |nil=>rfl
 |cons n ns ih=>show(a0i (.int n)&&a0X (ns.map T.int))=true;rw[ih];rfl
theorem a5g(ns:LSI):a3b (ns.map T.int)=0:=by
 induction ns with
 |nil=>rfl
 |cons n ns ih=>show max (depT (.int n)) (a3b (ns.map T.int))=0;rw[ih];rfl
theorem b1h(a b:LSI):eqTs (a.map T.int) (b.map T.int)=decide (a=b):=by
 induction a generalizing b with
 |nil=>cases b<;>simp[eqTs]
 | cons x a ih =>
   cases b with
   |nil=>simp[eqTs]
   | cons y b =>
     show(eqT (.int x) (.int y)&&eqTs (a.map T.int) (b.map T.int))=_;rw[ih];have:eqT (.int x) (.int y)=(x==y):=rfl;rw[this];by_cases h1:x=y<;>by_cases h2:a=b<;>simp[h1,h2]
theorem b4W(a b:List T):eqT (.tup a) (.tup b)=eqTs a b:=rfl
theorem b1j(a b:Int):eqT (.int a) (.int b)=decide (a=b):=by
 show(a==b)=_;by_cases h:a=b<;>simp[h]
theorem b1i(x y:T)(a b:List T):eqTs (x::a) (y::b)=(eqT x y&&eqTs a b):=rfl
theorem b2V:eqTs [] []=true:=rfl
theorem a2P(x:T)(a:List T):a0X (x::a)=(a0i x&&a0X a):=rfl
theorem a4Y:a0X []=true:=rfl
theorem a2r(i:Int):a0i (.int i)=true:=rfl
theorem b2b(i:Bool):a0i (.bl i)=true:=rfl
theorem a3Z(i:List T):a0i (.tup i)=a0X i:=rfl
theorem a5V(i:Int):depT (.int i)=0:=rfl
theorem b5a(i:Bool):depT (.bl i)=0:=rfl
theorem a5U(i:List T):depT (.tup i)=a3b i+1:=rfl
theorem a3s(x:T)(a:List T):a3b (x::a)=max (depT x) (a3b a):=rfl
theorem a6R:a3b []=0:=rfl
theorem Sub.set{M M':MH}{p:Addr}{o u:MO}(h:Sub (updM M p o) M'):Sub (updM M p u) (updM M' p u):=fun a v e=>by
 by_cases ha:a=p
 ·subst ha;rw[a0d] at e|-;exact e
 ·rw[a0t ha] at e|-
  exact h a v (by rw[a0t ha];exact e)
theorem Sub.newr{M M':MH}{r:Addr}{o:MO}(h:Sub M M')(hr:M' r=none):Sub M (updM M' r o):=h.trans (Sub.new hr)
theorem a0F{M:MH}{Q:VK3}{t:T}{M0 M':MH}(h:Q t M0)(s:Sub M0 M'):rt3 M Q t M':=⟨M0,s,h⟩
theorem Sub.updF{M M':MH}{p:Addr}{o:MO}(h:Sub M M')(hp:M p=none):Sub M (updM M' p o):=fun a v e=>by
 have ha:a≠p:=by rintro rfl;rw[hp] at e;cases e
 rw[a0t ha];exact h a v e
end L2
namespace L2
open PySem PySem.Spec PyProof.Rows
section
variable{prog:b8n}{w:b8F}{A:b8w}{E:VPR}{s:b7Y}
end
section
variable{X:Cx}
end
theorem a1W{n:Nat}(h:n<10000):n<sizeLine:=b9b (by lia:n<=10000) (by decide)
theorem a0P{n:Nat}(h:n<10000):n<=sizeLine:=b9X (a1W h)
end L2
namespace HT
open PySem PySem.Spec PyProof.Rows
section
variable{prog:b8n}{w:b8F}{A:b8w}{E:VPR}{s:b7Y}
theorem getItem_tuple_all{t sl:Addr}{items:Array b8g}{vl vu:b8g}{lo hi:Option Int}{Q:VPR}(ht:IsTup s.heap t items)(hs:s.heap.IsSliceOf sl vl vu .none)(pl:c2I vl lo)(pu:c2I vu hi)
  (hw:sIx items.size 0 lo=0/\sIx items.size items.size hi=items.size) (h:Q (.ref t) s)
  (hsz:items.size<=sizeLine):wpAny (model prog w) A (getItem (.ref t) (.ref sl)) Q E s:=by
 obtain⟨os,hos,hcs,hds⟩:=id hs;have hTs:s.TypeIs (.ref sl) "slice":=⟨os,hos,hcs⟩;unfold getItem
 try with_reducible refine b9p ?_
 first|refine b8a (b8r ?_)|skip
 refine b8a (c2R ht.typeIs (by decide) ?_)
 refine b8a (c1J (name:=b8b "__getitem__") ht.typeIs b8K
  (c1Q b8K ht.typeIs c2y ?_ (c2J _ _)))
 show wpAny _ _ (c1e (.ref t) >>= _) _ _ s;refine b8a (tupleItemsOf_ ht ?_);refine b8a (c3d hTs ?_);rw[if_pos (by decide)];refine b8a (a2c hs pl pu ?_)
 have hyes:(((sIx items.size 0 lo:Nat):Int)==0&&(1:Int)==1&&(sIx items.size items.size hi-sIx items.size 0 lo)==items.size)=true:=by
  rw[hw.1,hw.2];simp
 show wpAny _ _ (if (((sIx items.size 0 lo:Nat):Int)==0&&(1:Int)==1&&(sIx items.size items.size hi-sIx items.size 0 lo)==items.size)=true then _ else _) _ _ s
 rw[if_pos hyes];refine b8a (m:=Builtin.Tuple.tupleIsExact (.ref t)) (b8a (c3d ht.typeIs (b8r ?_)));rw[if_pos (by decide)];refine b8a (wpAny_rule ?_)
 first
  |exact b8r ⟨_,rfl,b8r h⟩
  |exact b8a (b8r (b8r ⟨_,rfl,b8r h⟩))
end
end HT
namespace L2
open PySem PySem.Spec PyProof.Rows
section
variable{X:Cx}
noncomputable def cutT(xs:List T)(lo hi:Option Int):List T:=(xs.drop (HT.sIx xs.length 0 lo)).take (HT.sIx xs.length xs.length hi-HT.sIx xs.length 0 lo)
noncomputable def b7q(K:PySem.W.Frag):V->Option Int->Option Int->Hp->VK->Prop:=fun x lo hi H Q=>∃a xs,x=.ref a/\SqT K H a xs /\
 ∀p H',SqT K H' p (cutV xs lo hi)->(H'=H\/H p=none/\H'=upd H p (.tup (cutV xs lo hi)))->Q (.ref p) H'
theorem b3O:SlR X (b7q X.K):=by
 intro pins s σ H x v vl vu lo hi sl Q I rx hs pl pu h;obtain⟨a,xs,rfl,hx,q⟩:=h;by_cases hw:HT.sIx xs.length 0 lo=0/\HT.sIx xs.length xs.length hi=xs.length
 ·cases rx;obtain⟨its,r,ht,hz⟩:=I.tuple hx;have hlen:its.toArray.size=xs.length:=by rw[b8h];exact r.length.symm
  refine⟨"tuple",_,b8K.lookup,ht.typeIs,?_⟩;refine HT.getItem_tuple_all ht hs pl pu (by rw[hlen];exact hw) ?_ (by rw[hlen];exact hz)
  have e:cutV xs lo hi=xs:=by
   unfold cutV;rw[hw.1,hw.2];simp
  exact⟨.ref a,H,I,rfl,q a H (by rw[e];exact hx) (.inl rfl)⟩
 ·exact b5A pins s σ H _ v vl vu lo hi sl Q I rx hs pl pu ⟨a,xs,rfl,hx,hw,fun p hp=>q p _ (SqT.of a0y) (.inr ⟨hp,rfl⟩)⟩
theorem Reps.cut{K:PySem.W.Frag}{H:Hp}{xs:List V}{ts:List T}(r:Reps K H xs ts)(lo hi:Option Int):Reps K H (cutV xs lo hi) (cutT ts lo hi):=by
 unfold cutV cutT;rw[r.length];exact(r.drop _).take _
noncomputable abbrev TO3:=En->MH->(Option Int->MH->Prop)->Prop
noncomputable def HPo(X:Cx)(e:Option Expr)(t:TO3):Prop:=∀ρ M Q,t ρ M Q->PO X e (fun σ H Q2=>RhoR X.K σ H ρ/\HR X.K H M/\∀o M' H',Kp X.K H H'->HR X.K H' M'->Q o M'->Q2 o H')
noncomputable def dPo(K:PySem.W.Frag)(ρ:En)(t:TO3):TO:=fun σ H Q2=>∃M Q,t ρ M Q/\RhoR K σ H ρ/\HR K H M/\∀o M' H',Kp K H H'->HR K H' M'->Q o M'->Q2 o H'
theorem HPo.d{e:Option Expr}{t:TO3}{ρ:En}(h:HPo X e t):PO X e (dPo X.K ρ t):=fun pins s σ H Q I ⟨M,Q3,q,b⟩=>h ρ M Q3 q pins s σ H Q I b
theorem PO.imp{e:Option Expr}{w w':TO}(h:PO X e w)(f:∀σ H Q,w' σ H Q->w σ H Q):PO X e w':=fun pins s σ H Q I q=>h pins s σ H Q I (f σ H Q q)
noncomputable def tNo3:TO3:=fun ρ M Q=>Q none M
noncomputable def tPt3(t:TE3):TO3:=fun ρ M Q=>t ρ M fun x M1=>match x with
 |.int i=>Q (some i) M1
 |_=>False
theorem a2e:HPo X none tNo3:=fun ρ M Q h=>b4o.imp fun σ H Q2 ⟨hr,hh,en⟩=>en _ _ _ Kp.refl hh h
theorem a2d{e:Expr}{t:TE3}(he:HE X e t):HPo X (some e) (tPt3 t):=fun ρ M Q h=>(b4n (he.d (ρ:=ρ))).imp fun σ H Q2 ⟨hr,hh,en⟩ =>
 ⟨M,_,h,hr,hh,fun x v M1 H1 k1 h1 r1 q1=>by
  dsimp only at q1;split at q1
  ·obtain rfl:=a0q r1;exact⟨_,rfl,en _ _ _ k1 h1 q1⟩
  ·exact q1.elim⟩
noncomputable def rSlS:V->Option Int->Option Int->Hp->VK->Prop:=fun x lo hi H Q=>∃z,x=.str z/\z.length<=sizeLine/\Q (.str (c1F z lo hi)) H
theorem b5B:SlR X rSlS:=by
 intro pins s σ H x v vl vu lo hi sl Q I rx hs pl pu h;obtain⟨z,rfl,hz,q⟩:=h;obtain⟨t,rfl⟩:=rx;refine⟨"str",_,F.slot_str_getitem.lookup,c0P _ _ _,?_⟩;have fin:∀t' k,EP X pins σ Q (.str (c1F z lo hi) t') { s with toks:=k }:=fun t' k=>⟨.str _,H,I.kept fun b o e=>e,⟨_,rfl⟩,q⟩;have hl:(c1F z lo hi).length<=sizeLine:=b8G (Txt.slice_le z _ _) hz;cases pl with
 | none=>cases pu with
   |none=>exact b9Q (l:=none) (u:=none) (st:=none) hs rfl (c0X ⟨hl,fin⟩)
   |int j uj=>exact b9Q (l:=none) (u:=some (j,uj)) (st:=none) hs rfl (c0X ⟨hl,fin⟩)
 | int i ui=>cases pu with
   |none=>exact b9Q (l:=some (i,ui)) (u:=none) (st:=none) hs rfl (c0X ⟨hl,fin⟩)
   |int j uj=>exact b9Q (l:=some (i,ui)) (u:=some (j,uj)) (st:=none) hs rfl (c0X ⟨hl,fin⟩)
noncomputable def tSl3(te:TE3)(tl th:TO3):TE3:=fun ρ M Q=>te ρ M fun x M1=>tl ρ M1 fun l M2=>th ρ M2 fun u M3=>match x with
 |.tup ts=>Q (.tup (cutT ts l u)) M3
 | .adr p=>(match M3 p with
   |some (.lst ts)=>∀r,M3 r=none->Q (.adr r) (updM M3 r (.lst (cutT ts l u)))
   |_=>False)
 |.str z=>z.length<=sizeLine/\Q (.str (c1F z l u)) M3
 |_=>False
theorem a1j{e:Expr}{lo hi:Option Expr}{te:TE3}{tl th:TO3}{pos p2:Pos}(he:HE X e te)(hl:HPo X lo tl)(hu:HPo X hi th):HE X (.Subscript e (.Slice lo hi none p2) pos) (tSl3 te tl th):=fun ρ M Q h =>
 (b2i ((b3O.or b3P).or b5B) (he.d (ρ:=ρ)) (hl.d (ρ:=ρ)) (hu.d (ρ:=ρ))).imp fun σ H Q2 ⟨hr,hh,en⟩ =>
  ⟨M,_,h,hr,hh,fun x v M1 H1 k1 h1 r1 q1=>⟨M1,_,q1,hr.kp k1,h1,fun l M2 H2 k2 h2 q2=>⟨M2,_,q2,hr.kp (k1.trans k2),h2,fun u M3 H3 k3 h3 q3=>by
   have r3:=Rep.kp (k2.trans k3) _ _ r1;have k13:=(k1.trans k2).trans k3;split at q3
   ·rename_i ts;obtain⟨a,xs,rfl,g1,g2⟩:=a1w r3;refine .inl (.inl ⟨a,xs,rfl,g1,fun p H' h' c=>?_⟩);rcases c with rfl|⟨c1,rfl⟩
    ·exact en _ _ _ _ k13 h3 (a1t h' (g2.cut l u)) q3
    ·exact en _ _ _ _ (k13.trans (Kp.new c1)) (h3.keep c1) (a1t h' (Reps.kp (Kp.new c1) _ _ (g2.cut l u))) q3
   ·obtain rfl:=a0n r3;split at q3
    ·rename_i ts e0;obtain⟨xs,g1,g2⟩:=h3 _ _ e0;refine .inl (.inr ⟨_,xs,rfl,SqL.of g1,fun p hp=>?_⟩);exact en _ _ _ _ (k13.trans (Kp.new hp)) (h3.newL hp (g2.cut l u)) a1u (q3 p (h3.free hp))
    ·exact q3.elim
   ·obtain rfl:=a0r r3;exact .inr ⟨_,rfl,q3.1,en _ _ _ _ k13 h3 a0G q3.2⟩
   ·exact q3.elim⟩⟩⟩
theorem a4A(xs:List T)(k:Int)(h0:0<=k)(h1:k<=xs.length):cutT xs (some k) none=xs.drop k.toNat:=by
 unfold cutT;have e:k=((k.toNat:Nat):Int):=by lia
 rw[e,HT.sIx_nat,HT.sIx_none,c2e (by lia),c0B];exact b9v (by rw[c0m];exact b8k _)
end
end L2
namespace HT
open PySem PySem.Spec PyProof.Rows
section
variable{prog:b8n}{w:b8F}{A:b8w}{E:VPR}{s:b7Y}
end
end HT
namespace L2
open PySem PySem.Spec PyProof.Rows
section
variable{X:Cx}
end
section
variable{X:Cx}
theorem b5C{body:List Stmt}{h0:c0v}{hs:List c0v}{pos:Pos}{tb:TS3}(hb:HSs X.nox body tb):HS X (.Try body (h0::hs) [] [] pos) tb:=fun D ρ M h=>by
 intro pins s σ H D2 I b;refine c3m ?_;have q:=hb D ρ M h pins s σ H D2 (I.wish _) b;refine b8H q (fun f s1 h1=>?_) fun _ _ z=>z.elim;cases f with
 | next =>
   obtain⟨σ',H',I',q'⟩:=h1;exact b9i ⟨σ',H',I'.unwish,q'⟩
 |brk=>obtain⟨σ',H',I',q'⟩:=h1;exact⟨σ',H',I'.unwish,q'⟩
 |cont=>obtain⟨σ',H',I',q'⟩:=h1;exact⟨σ',H',I'.unwish,q'⟩
 |ret u=>obtain⟨v,σ',H',I',q'⟩:=h1;exact⟨v,σ',H',I'.unwish,q'⟩
end
section
variable{X:Cx}
noncomputable def a0f(i:Int):Str:=b8b (toString i)
noncomputable def b3Z:List T->MH->VK3->Prop:=fun xs M Q=>match xs with
 |[.int i]=>i.natAbs<10^400/\Q (.str (a0f i)) M
 |_=>False
theorem a4Z{i:Int}(h:i.natAbs<10^400):i.natAbs.log2<1920:=by
 by_cases h0:i.natAbs=0
 ·rw[h0];decide
 ·exact(c4a h0).mpr (b9M h (by decide +kernel))
theorem b1D:a2K X (.type "str") b3Z:=by
 intro pins s σ H vs us Q2 I r h;obtain⟨xs,M,Q,rr,hh,q,en⟩:=h;unfold b3Z at q;split at q
 ·rename_i i;obtain⟨v,rfl,r1⟩:=a1H rr;obtain rfl:=a0q r1;obtain⟨u,rfl,ru⟩:=a2L r;obtain⟨t,rfl⟩:=ru;refine PySem.P.str_of_int (a4Z q.1) ?_;exact⟨.str (a0f i),H,I.kept fun b o e=>e,⟨_,rfl⟩,en _ _ M H Kp.refl hh a0G q.2⟩
 ·exact q.elim
end
section
variable{X:Cx}
noncomputable def tFv3(te:TE3):TE3:=fun ρ M Q=>te ρ M fun x M1=>match x with
 |.int i=>i.natAbs<10^400/\Q (.str (a0f i)) M1
 |.str x=>x.length<=sizeLine/\Q (.str x) M1
 |_=>False
theorem h_fv{e:Expr}{te:TE3}{pos:Pos}(he:HE X e te):HE X (.FormattedValue e (-1) none pos) (tFv3 te):=fun ρ M Q h=>by
 intro pins s σ H Q2 I ⟨hr,hh,en⟩
 refine FormattedValue_plain (thn (he.d (ρ:=ρ) pins s σ H (fun v H1=>∃x M1,Kp X.K H H1/\HR X.K H1 M1/\Rep X.K H1 v x/\(match x with
  |.int i=>i.natAbs<10^400/\Q (.str (a0f i)) M1
  |.str x=>x.length<=sizeLine/\Q (.str x) M1
  |_=>False)) I ⟨M,_,h,hr,hh,fun x v M1 H1 k1 h1 r1 q1=>⟨x,M1,k1,h1,r1,q1⟩⟩) fun v s1 ⟨x,H1,I1,r1,x',M1,k1,h1,rx,q1⟩=>?_)
 split at q1
 ·obtain rfl:=a0q rx;obtain⟨t,rfl⟩:=r1;refine PySem.wpAny_formatField_int (a4Z q1.1) ?_;exact⟨.str _,H1,I1.kept fun b o e=>e,⟨_,rfl⟩,en _ _ M1 H1 k1 h1 a0G q1.2⟩
 ·obtain rfl:=a0r rx;obtain⟨t,rfl⟩:=r1;refine PySem.wpAny_formatField_str ?_ ?_ q1.1
  ·exact⟨.str _,H1,I1,⟨_,rfl⟩,en _ _ M1 H1 k1 h1 a0G q1.2⟩
  ·exact⟨.str _,H1,I1.kept fun b o e=>e,⟨_,rfl⟩,en _ _ M1 H1 k1 h1 a0G q1.2⟩
 ·exact q1.elim
noncomputable abbrev TJ3:=Str->TE3
noncomputable def HJ(X:Cx)(es:LSE)(t:TJ3):Prop:=∀acc ρ M Q,t acc ρ M Q->∀pins s σ H (Q2:VK),Inv X pins σ H s->bE X.K ρ M Q σ H Q2 ->
 wpAny (model X.prog X.w) X.A (joinParts acc (evalEach es X.env)) (EP X pins σ Q2) X.xe s
noncomputable def tJ0:TJ3:=fun acc ρ M Q=>acc.length<=sizeLine/\Q (.str acc) M
noncomputable def tJ1(te:TE3)(tj:TJ3):TJ3:=fun acc ρ M Q=>te ρ M fun x M1=>match x with
 |.str y=>(acc++y).length<=sizeLine/\tj (acc++y) ρ M1 Q
 |_=>False
theorem b4H:HJ X [] tJ0:=fun acc ρ M Q h pins s σ H Q2 I ⟨hr,hh,en⟩ =>
 joinParts_nil ⟨.str acc,H,I.kept fun b o e=>e,⟨_,rfl⟩,en _ _ M H Kp.refl hh a0G h.2⟩ h.1
theorem a5b{e:Expr}{es:LSE}{te:TE3}{tj:TJ3}(he:HE X e te)(hj:HJ X es tj):HJ X (e::es) (tJ1 te tj):=fun acc ρ M Q h=>by
 intro pins s σ H Q2 I ⟨hr,hh,en⟩;show wpAny _ _ (joinParts acc (eval e X.env::evalEach es X.env)) _ _ s
 refine joinParts_cons (thn (he.d (ρ:=ρ) pins s σ H (fun v H1=>∃x M1,Kp X.K H H1/\HR X.K H1 M1/\Rep X.K H1 v x/\(match x with
  |.str y=>(acc++y).length<=sizeLine/\tj (acc++y) ρ M1 Q
  |_=>False)) I ⟨M,_,h,hr,hh,fun x v M1 H1 k1 h1 r1 q1=>⟨x,M1,k1,h1,r1,q1⟩⟩) fun v s1 ⟨x,H1,I1,r1,x',M1,k1,h1,rx,q1⟩=>?_)
 split at q1
 ·obtain rfl:=a0r rx;obtain⟨t,rfl⟩:=r1;exact⟨q1.1,hj _ ρ M1 Q q1.2 pins s1 σ H1 Q2 I1 ⟨hr.kp k1,h1,en.kp k1⟩⟩
 ·exact q1.elim
theorem b1b{e1 e2:Expr}{es:LSE}{pos:Pos}{tj:TJ3}(hj:HJ X (e1::e2::es) tj):HE X (.JoinedStr (e1::e2::es) pos) (tj c1V):=fun ρ M Q h =>
 fun pins s σ H Q2 I b=>JoinedStr_many (hj c1V ρ M Q h pins s σ H Q2 I b)
end
section
variable{X:Cx}{es:LSE}{e:Expr}{t:TA3}
noncomputable def a8x(x:T):Prop:=match x with
 |.str _=>True
 |_=>False
noncomputable def tSM3(r:RM3)(to:TE3)(t:TA3):TE3:=fun ρ M Q=>to ρ M fun x M1=>a8x x/\t ρ M1 fun xs M2=>r x xs M2 Q
theorem b2E{K:PySem.W.Frag}{H:Hp}{x:T}{v:V}(r:Rep K H v x)(h:a8x x):tyV K "str" v H:=by
 unfold a8x at h;split at h
 ·obtain rfl:=a0r r;rfl
 ·exact h.elim
theorem h_sm{o:Expr}{to:TE3}{name:Str}{apos cpos:Pos}{id:String}{r:RM3}(slot:Slot "str" name id)(hty:typeOf (.builtin id)=pure (.type "method_descriptor"))(hm:MtR3 X id r)(ho:HE X o to)(ha:HA X (e::es) t)
  (hbase:attributeBase o name X.env (eval o X.env)=eval o X.env:=by rfl)
  (hfew:QFF X cpos e es:=by rfl)
  (hline:QLL apos cpos:=by rfl) (hs:QSS X e es:=by rfl) (hplain:QPP X cpos es:=by rfl) :
  HE X (.Call (.Attribute o name apos) (e::es) [] cpos) (tSM3 r to t):=fun ρ M Q h =>
 (b6g PySem.F.plainAttrs_str slot hty hm (ho.d (ρ:=ρ)) (ha.d (ρ:=ρ)) hbase hfew hline hs hplain).imp fun σ H Q2 ⟨hr,hh,en⟩=>⟨M,_,h,hr,hh,fun x v M1 H1 k1 h1 r1 q1=>⟨b2E r1 q1.1,M1,_,q1.2,hr.kp k1,h1,fun ts vs M2 H2 k2 h2 r2 q2 =>
  ⟨x,ts,M2,Q,Rep.kp k2 _ _ r1,r2,h2,q2,en.kp (k1.trans k2)⟩⟩⟩
noncomputable def a6P(x y:Str):Bool:=decide (0+y.length<=x.length)&&Builtin.Str.subAt x y (x.length-y.length)
noncomputable def a8m:RM3:=fun x xs M Q=>match x,xs with
 |.str x,[.str y]=>Q (.bl (a6P x y)) M
 |_,_=>False
theorem a6D:MtR3 X "str.endswith" a8m:=by
 intro pins s σ H v vs u us Q2 I rv rvs h;obtain⟨x,xs,M,Q,r1,r2,hh,q,en⟩:=h;unfold a8m at q;split at q
 ·rename_i x y;obtain rfl:=a0r r1;obtain⟨t,rfl⟩:=rv;obtain⟨w,rfl,rw'⟩:=a1H r2;obtain rfl:=a0r rw';obtain⟨w',rfl,ru⟩:=a2L rvs;obtain⟨t',rfl⟩:=ru;refine call_gives F.slot_str_endswith (c0P _ _ _) F.entry_str_endswith (F.args_str_endswith_2 _ _) (gives_str_endswith x y t t') ?_;exact⟨.bl (a6P x y),H,I,rfl,en _ _ M H Kp.refl hh a0Z q⟩
 ·exact q.elim
theorem a3x{o:Expr}{to:TE3}{apos cpos:Pos}(ho:HE X o to)(ha:HA X (e::es) t)
  (hbase:attributeBase o "endswith" X.env (eval o X.env)=eval o X.env:=by rfl)
  (hfew:QFF X cpos e es:=by rfl)
  (hline:QLL apos cpos:=by rfl) (hs:QSS X e es:=by rfl) (hplain:QPP X cpos es:=by rfl) :
  HE X (.Call (.Attribute o "endswith" apos) (e::es) [] cpos) (tSM3 a8m to t):=h_sm PySem.F.slot_str_endswith PySem.F.type_str_endswith a6D ho ha hbase hfew hline hs hplain
end
section
variable{X:Cx}{es:LSE}{e:Expr}{t:TA3}
noncomputable def a5s:List T->Option (LSS)
 |[]=>some []
 |.str i::ts=>(a5s ts).map (i::·)
 |_::_=>none
theorem a2i:∀(ns:LSS),a5s (ns.map T.str)=some ns
 |[]=>rfl
 |n::ns=>by show(a5s (ns.map T.str)).map (n::·)=_;rw[a2i ns];rfl
theorem a4T:∀{ts:List T} {ns:LSS},a5s ts=some ns->ts=ns.map T.str
 |[],ns,e=>by unfold a5s at e;cases e;rfl
 | t :: ts,ns,e=>by
   cases t with
   | str i =>
     unfold a5s at e;cases q:a5s ts with
     |none=>rw[q] at e;cases e
     |some cs=>rw[q] at e;cases e;rw[a4T q];rfl
   |_=>unfold a5s at e;cases e
theorem a6r{K:PySem.W.Frag}{H:Hp}:∀{xs:List V} {ns:LSS},Reps K H xs (ns.map T.str)->xs=ns.map V.str
 |xs,[],h=>by unfold Reps at h;subst h;rfl
 | xs,n::ns,h=>by
   rw[b8o] at h;unfold Reps at h;obtain⟨v,r,rfl,h1,h2⟩:=h;obtain rfl:=a0r h1;rw[a6r h2];rfl
theorem a3O{K:PySem.W.Frag}{H:Hp}:∀(ns:LSS),Reps K H (ns.map V.str) (ns.map T.str)
 |[]=>.nil
 |n::ns=>.cons a0G (a3O ns)
theorem a6c:∀{ns:LSS} {its:LSV},Vals (ns.map V.str) its->∃l:List (Str×Tok),its=strValues l/\l.map (·.1)=ns
 |[],its,r=>by cases r;exact⟨[],rfl,rfl⟩
 | n :: ns,its,r=>by
   cases r with
   | cons r rr =>
     obtain⟨t,rfl⟩:=r;obtain⟨l,rfl,rfl⟩:=a6c rr;exact⟨(n,t)::l,rfl,rfl⟩
theorem a6h:∀(tk:Nat) (ns:LSS),Vals (ns.map V.str) (strsFrom tk ns)
 |_,[]=>.nil
 |tk,n::ns=>.cons ⟨tk,rfl⟩ (a6h (tk+1) ns)
noncomputable def a8l:RM3:=fun x xs M Q=>match x,xs with
 | .str x,[.adr p]=>(match M p with
   | some (.lst ts)=>(match a5s ts with
     |some ns=>c4c x ns=true/\Q (.str (c3t x ns)) M
     |none=>False)
   |_=>False)
 |_,_=>False
theorem b2y:MtR3 X "str.join" a8l:=by
 intro pins s σ H v vs u us Q2 I rv rvs h;obtain⟨x,xs,M,Q,r1,r2,hh,q,en⟩:=h;unfold a8l at q;split at q
 ·rename_i x p;split at q
  ·rename_i ts e0;split at q
   ·rename_i ns en0;obtain rfl:=a4T en0;obtain⟨ys,g1,g2⟩:=hh _ _ e0;obtain rfl:=a6r g2;obtain rfl:=a0r r1;obtain⟨t,rfl⟩:=rv;obtain⟨w,rfl,rw'⟩:=a1H r2;obtain rfl:=a0n rw';obtain⟨w',rfl,ru⟩:=a2L rvs;cases ru;obtain⟨its,r,pl,hz⟩:=I.list (SqL.of g1);obtain⟨l,rfl,hl⟩:=a6c r;refine SC.join pl.isList hl q.1 fun t' k=>?_;exact⟨.str _,H,I.kept fun b o e=>e,⟨_,rfl⟩,en _ _ M H Kp.refl hh a0G q.2⟩
   ·exact q.elim
  ·exact q.elim
 ·exact q.elim
noncomputable def a5E:RM3:=fun x xs M Q=>match x,xs with
 | .str x,[.str y]=>(y.length==0)=false/\x.length<=sizeLine/\(c1G x (c0w x y 0 x.length (x.length+1)) y.length).length<=sizeLine /\
   ∀r,M r=none->Q (.adr r) (updM M r (.lst ((b9k x y).map T.str)))
 |_,_=>False
theorem b0F:MtR3 X "str.split" a5E:=by
 intro pins s σ H v vs u us Q2 I rv rvs h;obtain⟨x,xs,M,Q,r1,r2,hh,q,en⟩:=h;unfold a5E at q;split at q
 ·rename_i x y;obtain⟨hy,hsz,hsz2,q⟩:=q;obtain rfl:=a0r r1;obtain⟨t,rfl⟩:=rv;obtain⟨w,rfl,rw'⟩:=a1H r2;obtain rfl:=a0r rw';obtain⟨w',rfl,ru⟩:=a2L rvs;obtain⟨t',rfl⟩:=ru;have hf:=I.hok.fresh (b8k _)
  have fin:∀ns:LSS,b9k x y=ns->ns.length<=sizeLine->∀(its:LSV) (tk:Nat),Vals (ns.map V.str) its->EP X pins σ Q2 (.ref s.heap.objs.size) { s with toks:=tk,heap:=s.heap.push { cls:=.type "list",data:=.seq its.toArray } }:=by
   rintro ns rfl hns its tk rr;exact⟨.ref _,_,I.lnew (t':=tk) rr (by rw[b8f];exact hns),rfl,en _ _ _ _ (Kp.new hf) (hh.newL hf (a3O _)) a1u (q _ (hh.free hf))⟩
  cases h1:(decide (x.length<y.length)||decide (c2A x<c2A y))
  ·cases hc:(c0w x y 0 x.length (x.length+1)).isEmpty
   ·refine c0g c1S (c0P _ _ _) c1H (c1m _ _) (meets_str_split_sep x y t t' h1 hy hc hsz hsz2) ?_;exact fin _ ((if_neg (ne_true_of_eq_false h1)).trans (if_neg (ne_true_of_eq_false hc))) hsz2 _ _ (a6h _ _)
   ·refine c0g c1S (c0P _ _ _) c1H (c1m _ _) (meets_str_split_not_found x y t t' h1 hy hc) ?_;exact fin [x] ((if_neg (ne_true_of_eq_false h1)).trans (if_pos hc)) (show 1<=sizeLine by decide) [.str x t] s.toks (.cons ⟨t,rfl⟩ .nil)
  ·refine c0g c1S (c0P _ _ _) c1H (c1m _ _) (meets_str_split_cannot_occur x y t t' h1) ?_;exact fin [x] (if_pos h1) (show 1<=sizeLine by decide) [.str x t] s.toks (.cons ⟨t,rfl⟩ .nil)
 ·exact q.elim
theorem a3I{o:Expr}{to:TE3}{apos cpos:Pos}(ho:HE X o to)(ha:HA X (e::es) t)
  (hbase:attributeBase o "join" X.env (eval o X.env)=eval o X.env:=by rfl)
  (hfew:QFF X cpos e es:=by rfl)
  (hline:QLL apos cpos:=by rfl) (hs:QSS X e es:=by rfl) (hplain:QPP X cpos es:=by rfl) :
  HE X (.Call (.Attribute o "join" apos) (e::es) [] cpos) (tSM3 a8l to t):=h_sm PySem.F.slot_str_join PySem.F.type_str_join b2y ho ha hbase hfew hline hs hplain
theorem a4p{o:Expr}{to:TE3}{apos cpos:Pos}(ho:HE X o to)(ha:HA X (e::es) t)
  (hbase:attributeBase o "split" X.env (eval o X.env)=eval o X.env:=by rfl)
  (hfew:QFF X cpos e es:=by rfl)
  (hline:QLL apos cpos:=by rfl) (hs:QSS X e es:=by rfl) (hplain:QPP X cpos es:=by rfl) :
  HE X (.Call (.Attribute o "split" apos) (e::es) [] cpos) (tSM3 a5E to t):=h_sm PySem.F.slot_str_split PySem.F.type_str_split b0F ho ha hbase hfew hline hs hplain
end
end L2
namespace L2
open PySem PySem.Spec PyProof.Rows LM
theorem sI(l:Int)(h0:-6<=l)(h1:l<=6):32∉(a0f l).cps.toList/\(a0f l).length<=3/\PySem.intText? (a0f l)=some l:=by
 have:l=-6\/l=-5\/l=-4\/l=-3\/l=-2\/l=-1\/l=0\/l=1\/l=2\/l=3\/l=4\/l=5\/l=6:=by lia
 rcases this with rfl|rfl|rfl|rfl|rfl|rfl|rfl|rfl|rfl|rfl|rfl|rfl|rfl<;>decide +kernel
theorem b3U(n:Int)(h0:1<=n)(h1:n<=6):a6P (a0f n++":") ":"=true/\c1F (a0f n++":") none (some (-1))=a0f n/\32∉(a0f n++(":":Str)).cps.toList:=by
 have:n=1\/n=2\/n=3\/n=4\/n=5\/n=6:=by lia
 rcases this with rfl|rfl|rfl|rfl|rfl|rfl<;>decide +kernel
theorem a3P{a b:Str}(h:a.cps.toList=b.cps.toList):a=b:=by
 cases a;cases b;simp only[Str.mk.injEq];exact c3n.mp h
theorem a2u(a b:Str):(a++b).cps.toList=a.cps.toList++b.cps.toList:=by
 show(a.cps++b.cps).toList=_;simp
theorem a3o(a b:Str):(a++b).length=a.length+b.length:=strLen_append a b
theorem a3L(s:Str):∀(xs:LSS) (x:Str),(c4d s (x::xs)).cps.toList=x.cps.toList++xs.flatMap fun y=>s.cps.toList++y.cps.toList
 |[],x=>by show x.cps.toList=_;simp
 | y::ys,x=>by
   show(x++s++c4d s (y::ys)).cps.toList=_;rw[a2u,a2u,a3L s ys y];simp[c0E]
theorem b1G{c:Nat}:∀{x y r s:List Nat},c∉x->c∉y->x++c::r=y++c::s->x=y/\r=s
 |[],[],r,s,_,_,h=>⟨rfl,by simpa using h⟩
 | [],b::y,r,s,_,hy,h=>by
   simp only[c0a,b9S,c0Y] at h;exact absurd (h.1▸b8e ..) hy
 | a::x,[],r,s,hx,_,h=>by
   simp only[c0a,b9S,c0Y] at h;exact absurd (h.1▸b8e ..) hx
 | a::x,b::y,r,s,hx,hy,h=>by
   simp only[b9S,c0Y] at h;obtain⟨h1,h2⟩:=b1G (fun z=>hx (b7Z _ z)) (fun z=>hy (b7Z _ z)) h.2;exact⟨by rw[h.1,h1],h2⟩
theorem a6H{c:Nat}:∀{xs ys:List (List Nat)} {x y:List Nat},c∉x->c∉y->(∀a∈xs,c∉a)->(∀a∈ys,c∉a)->x++xs.flatMap (fun a=>c::a)=y++ys.flatMap (fun a=>c::a)->x=y/\xs=ys
 |[],[],x,y,_,_,_,_,h=>⟨by simpa using h,rfl⟩
 | [],b::ys,x,y,hx,_,_,_,h=>by
   rw[c3o,b8O,b9I] at h;exact absurd (h▸b8i _ (b8q _ (b8e ..))) hx
 | a::xs,[],x,y,_,hy,_,_,h=>by
   rw[c3o,b8O,b9I] at h;exact absurd (h▸b8i _ (b8q _ (b8e ..))) hy
 | a::xs,b::ys,x,y,hx,hy,hxs,hys,h=>by
   rw[b9I,b9I,b9S,b9S] at h;obtain⟨h1,h2⟩:=b1G hx hy h;obtain⟨h3,h4⟩:=a6H (hxs a (b8e ..)) (hys b (b8e ..)) (fun z hz=>hxs z (b7Z _ hz)) (fun z hz=>hys z (b7Z _ hz)) h2;exact⟨h1,by rw[h3,h4]⟩
noncomputable def wrS(n:Int)(w:LSI):Str:=w.foldl (fun t l=>t++(" ":Str)++a0f l) (a0f n++(":":Str))
theorem b3a(w:LSI):∀t:Str,(w.foldl (fun t l=>t++(" ":Str)++a0f l) t).cps.toList=t.cps.toList++w.flatMap fun l=>32::(a0f l).cps.toList:=by
 induction w with
 |nil=>intro t;simp
 | cons l w ih =>
   intro t;rw[b9Y,ih,a2u,a2u,b9I];have e:((" ":Str)).cps.toList=[32]:=by decide +kernel
   rw[e];simp[c0E]
theorem a7V(n:Int)(w:LSI):(wrS n w).cps.toList=(a0f n++(":":Str)).cps.toList++w.flatMap fun l=>32::(a0f l).cps.toList:=b3a w _
theorem b1K(n:Int)(w:LSI):c4d (" ":Str) ((a0f n++(":":Str))::w.map a0f)=wrS n w:=by
 refine a3P ?_;rw[a3L,a7V,c0K];have e:((" ":Str)).cps.toList=[32]:=by decide +kernel
 rw[e];rfl
theorem a9D(n:Int)(w:LSI)(e0:Str)(he:e0.cps.toList=[]):a0f n++(":":Str)++c3t e0 (w.map fun l=>(" ":Str)++a0f l)=wrS n w:=by
 refine a3P ?_;rw[a2u,a7V];congr 1;show(c2Y e0 _).cps.toList=_;rw[c2f];cases w with
 |nil=>rfl
 | cons l w =>
   rw[b8o,a3L,he,a2u,b9I,c0K];have e:((" ":Str)).cps.toList=[32]:=by decide +kernel
   simp only[a2u,e,c0a];rfl
theorem a9C {n:Int} {w:LSI} (h0:1<=n) (h1:n<=6) (hw:∀l∈w,-6<=l/\l<=6):b9k (wrS n w) (" ":Str)=(a0f n++(":":Str))::w.map a0f:=by
 have e:(" ":Str)=⟨#[32]⟩:=by decide +kernel
 have hj:=StrLaws.join_split (wrS n w) (" ":Str);have hf:∀p∈b9k (wrS n w) (" ":Str),32∉p.cps.toList:=by rw[e];exact StrLaws.split_free (wrS n w) 32
 have hp:=split_pos (wrS n w) (" ":Str)
 generalize b9k (wrS n w) (" ":Str)=ps at hj hf hp|-
 cases ps with
 |nil=>simp at hp
 | cons p ps =>
   have hj2:=congrArg (fun z:Str=>z.cps.toList) hj;have es:((" ":Str)).cps.toList=[32]:=by decide +kernel
   simp only[a3L,a7V,es] at hj2;have e1:(ps.flatMap fun y=>[32]++y.cps.toList)=(ps.map fun y=>y.cps.toList).flatMap fun a=>32::a:=by rw[c0K];rfl
   have e2:(w.flatMap fun l=>32::(a0f l).cps.toList)=(w.map fun l=>(a0f l).cps.toList).flatMap fun a=>32::a:=by rw[c0K]
   rw[e1,e2] at hj2
   obtain⟨h3,h4⟩:=a6H (hf p (b8e ..)) (b3U n h0 h1).2.2 (fun a ha=>by
     obtain⟨y,hy,rfl⟩:=b9N.mp ha
     exact hf y (b7Z _ hy)) (fun a ha=>by
     obtain⟨l,hl,rfl⟩:=b9N.mp ha
     exact(sI l (hw l hl).1 (hw l hl).2).1) hj2
   rw[a3P h3];congr 1
   have : ∀{ps:LSS} {qs:LSS},(ps.map fun y=>y.cps.toList)=(qs.map fun y=>y.cps.toList)->ps=qs:=by
    intro ps
    induction ps with
    | nil=>intro qs h;cases qs with
      |nil=>rfl
      |cons q qs=>simp at h
    | cons p ps ih=>intro qs h;cases qs with
      |nil=>simp at h
      | cons q qs =>
        simp only[b8o,c0Y] at h;rw[a3P h.1,ih h.2]
   refine this ?_;rw[h4,c0c];rfl
theorem b2U(w:LSI)(hw:∀l∈w,-6<=l/\l<=6):∀t:Str,(w.foldl (fun t l=>t++(" ":Str)++a0f l) t).length<=t.length+4*w.length:=by
 induction w with
 |nil=>intro t;exact b8k _
 | cons l w ih =>
   intro t;have h1:=ih (fun k hk=>hw k (b7Z _ hk)) (t++(" ":Str)++a0f l);have h2:=(sI l (hw l (b8e ..)).1 (hw l (b8e ..)).2).2.1;have e:((" ":Str)).length=1:=by decide +kernel
   rw[a3o,a3o,e] at h1;rw[b9Y,b8t];lia
theorem a3H{n:Int}(h0:1<=n)(h1:n<=6):(a0f n++(":":Str)).length<=4:=by
 have h2:=(sI n (by lia) h1).2.1;have e:((":":Str)).length=1:=by decide +kernel
 rw[a3o,e];lia
theorem a9E{n:Int}{w:LSI}(h0:1<=n)(h1:n<=6)(hw:∀l∈w,-6<=l/\l<=6):(wrS n w).length<=4+4*w.length:=by
 have h1':=b2U w hw (a0f n++(":":Str));have h2:=a3H h0 h1;unfold wrS;lia
theorem a5G{n:Int}{w:LSI}(h:PlOK n w):∀l∈w,-6<=l/\l<=6:=fun l hl=>by
 obtain⟨h1,h2,h3,h4⟩:=h;have:=h4 l hl;unfold a3h at this;lia
theorem a8g{i:Int}(h:i.natAbs<=6):i.natAbs<10^400:=b9b h (by decide +kernel)
theorem b1n(x:Str):c1V++x=x:=by
 refine a3P ?_;rw[a2u];rfl
theorem b2T(k:Nat)(ns:LSS)(h:∀y∈ns,y.length<=5):∀acc:Nat,ns.foldl (fun a y=>a+y.length+k) acc<=acc+(5+k)*ns.length:=by
 induction ns with
 |nil=>intro acc;exact b8k _
 | cons y ns ih =>
   intro acc;have h1:=ih (fun z hz=>h z (b7Z _ hz)) (acc+y.length+k);have h2:=h y (b8e ..);rw[b9Y,b8t,c3Q];lia
theorem a6I{e:Str}{ns:LSS}(he:e.length=0)(h:∀y∈ns,y.length<=5)(hn:ns.length<=100):c4c e ns=true:=by
 unfold c4c c2B;have h1:=b2T e.length ns h 0;have h2:(5+e.length)*ns.length<=500:=by rw[he];lia
 have h3:(500:Nat)<=sizeLine:=by decide
 have h4:ns.toArray.foldl (fun a y=>a+y.length+e.length) 0=ns.foldl (fun a y=>a+y.length+e.length) 0:=by simp
 rw[h4];simp only[b8Z,decide_eq_false_iff_not];lia
theorem a9J{α:Type}(f:α->Str){L:List α}{i:Nat}{x:α}(h:L[i]?=some x):((L.take i).map f).map T.str++[T.str (f x)]=((L.take (i+1)).map f).map T.str:=by
 rw[<- LM.a0L f h,b9J];rfl
theorem a2s(x:Str)(h:x.length<1000):(c1G x (c0w x (" ":Str) 0 x.length (x.length+1)) (" ":Str).length).length<=sizeLine:=by
 rw[len_partsBetween];have:=StrLaws.occ_length_le_len x (" ":Str) 0 x.length (x.length+1);exact b8G (by lia:_<=1002) (by decide)
end L2
namespace L2
open PySem PySem.Spec PyProof.Rows
section
variable{prog:b8n}{w:b8F}{A:b8w}{E:VPR}{s:b7Y}
end
section
open AutoSeq1 (wpAny_loadPart')
open SeqAt (EqAt)
end
section
variable{X:Cx}{a b e:Expr}{es:LSE}{ta te:TE3}{t:TA3}{pos:Pos}
end
section
open AutoSeq1
end
section
variable{X:Cx}{a b e f:Expr}{es:LSE}{ta te:TE3}{t:TA3}{pos:Pos}
noncomputable def keyT:Key->T
 |.inl i=>.int i
 |.inr x=>.str x
theorem a3X{K:PySem.W.Frag}{H:Hp}{v:V}{k:Key}(r:Rep K H v (keyT k)):v=kV k:=by
 cases k with
 |inl i=>exact a0q r
 |inr x=>exact a0r r
noncomputable def valT{κ:Type}[DecidableEq κ](kvs:List (κ×T))(k:κ):Option T:=(kvs.find? fun kv=>decide (kv.1=k)).map (·.2)
noncomputable def putT{κ:Type}[DecidableEq κ](kvs:List (κ×T))(k:κ)(v:T):List (κ×T) :=
 if (kvs.any fun kv=>decide (kv.1=k))=true then kvs.map (fun kv=>if kv.1=k then (kv.1,v) else kv) else kvs++[(k,v)]
theorem KRep.val{κ:Type}[DecidableEq κ]{K:PySem.W.Frag}{H:Hp}(k:κ):∀{xs:List (κ×V)} {kvs:List (κ×T)},KRep K H xs kvs->(match valT kvs k with|some t=>∃v,valV xs k=some v/\Rep K H v t|none=>valV xs k=none)
 |[],[],_=>rfl
 | p::r,q::u,h=>by
   have ih:=KRep.val k h.2.2
   unfold valT valV at ih|-
   rw[b8M,b8M,h.1];by_cases c:q.1=k
   ·simp only[c,decide_true,Option.map_some];exact⟨p.2,rfl,h.2.1⟩
   ·simp only[c,decide_false];exact ih
 |[],q::u,h=>h.elim
 |p::r,[],h=>h.elim
theorem KRep.any{κ:Type}[DecidableEq κ]{K:PySem.W.Frag}{H:Hp}(k:κ):∀{xs:List (κ×V)} {kvs:List (κ×T)},KRep K H xs kvs->(xs.any fun kv=>decide (kv.1=k))=kvs.any fun kv=>decide (kv.1=k)
 |[],[],_=>rfl
 |p::r,q::u,h=>by rw[b8U,b8U,h.1,KRep.any k h.2.2]
 |[],q::u,h=>h.elim
 |p::r,[],h=>h.elim
theorem KRep.repl{κ:Type}[DecidableEq κ]{K:PySem.W.Frag}{H:Hp}(k:κ){v:V}{z:T}(rz:Rep K H v z):∀{xs:List (κ×V)} {kvs:List (κ×T)},KRep K H xs kvs->KRep K H (xs.map fun kv=>if kv.1=k then (kv.1,v) else kv) (kvs.map fun kv=>if kv.1=k then (kv.1,z) else kv)
 |[],[],_=>trivial
 | p::r,q::u,h=>by
   rw[b8o,b8o];refine⟨?_,?_,KRep.repl k rz h.2.2⟩
   ·rw[h.1];by_cases c:q.1=k
    ·rw[if_pos c,if_pos c]
    ·rw[if_neg c,if_neg c];exact h.1
   ·rw[h.1];by_cases c:q.1=k
    ·rw[if_pos c,if_pos c];exact rz
    ·rw[if_neg c,if_neg c];exact h.2.1
 |[],q::u,h=>h.elim
 |p::r,[],h=>h.elim
theorem KRep.snoc{κ:Type}{K:PySem.W.Frag}{H:Hp}(k:κ){v:V}{z:T}(rz:Rep K H v z):∀{xs:List (κ×V)} {kvs:List (κ×T)},KRep K H xs kvs->KRep K H (xs++[(k,v)]) (kvs++[(k,z)])
 |[],[],_=>⟨rfl,rz,trivial⟩
 |p::r,q::u,h=>⟨h.1,h.2.1,KRep.snoc k rz h.2.2⟩
 |[],q::u,h=>h.elim
 |p::r,[],h=>h.elim
theorem KRep.put{κ:Type}[DecidableEq κ]{K:PySem.W.Frag}{H:Hp}(k:κ){v:V}{z:T}(rz:Rep K H v z){xs:List (κ×V)}{kvs:List (κ×T)}(h:KRep K H xs kvs):KRep K H (putK xs k v) (putT kvs k z):=by
 unfold putK putT;rw[h.any k];split
 ·exact h.repl k rz
 ·exact h.snoc k rz
noncomputable def b5v(tup:Bool):TE3:=fun _ M Q=>∀p,M p=none->Q (.adr p) (updM M p (if tup then .dt [] else .dk []))
theorem b6N{pos:Pos}:HE X (.Dict [] [] pos) (b5v false):=fun ρ M Q h =>
 (b2n).imp fun σ H Q2 ⟨hr,hh,en⟩=>fun p hp=>en _ _ _ _ (Kp.new hp) (hh.newK hp (kvs:=[]) (xs:=[]) trivial) a1u (h p (hh.free hp))
noncomputable def b2I(M:MH)(x:T):Prop:=match x with
 |.adr p=>(match M p with|some (.dk _)=>True|some (.dt _)=>True|_=>False)
 |_=>False
theorem b2H{K:PySem.W.Frag}{H:Hp}{M:MH}{x:T}{v:V}(hh:HR K H M)(r:Rep K H v x)(d:b2I M x):∃a,v=.ref a/\IsD H a:=by
 cases x with
 | adr p =>
   obtain rfl:=a0n r;unfold b2I at d;dsimp only at d;cases e:M p with
   |none=>rw[e] at d;exact d.elim
   | some o =>
     rw[e] at d;cases o with
     |lst ts=>exact d.elim
     |dk kvs=>obtain⟨xs,g1,_⟩:=hh _ _ e;exact⟨p,rfl,.inl ⟨xs,.of g1⟩⟩
     |dt kvs=>obtain⟨xs,g1,_⟩:=hh _ _ e;exact⟨p,rfl,.inr ⟨xs,.of g1⟩⟩
     |fz kvs=>exact d.elim
     |fk kvs=>exact d.elim
     |ob C fs=>exact d.elim
 |_=>exact d.elim
noncomputable def tDGK(td tk:TE3):TE3:=fun ρ M Q=>td ρ M fun x M1=>tk ρ M1 fun k M2=>match x with
 | .adr p=>(match M2 p with
   |some (.dk kvs)=>∃kk t,k=keyT kk/\valT kvs kk=some t/\Q t M2
   |_=>False)
 |_=>False
theorem b7R{o i:Expr}{td tk:TE3}{pos:Pos}(hu:X.A.units+64<cLine)(ho:HE X o td)(hi:HE X i tk)(hs:NoSl i:=by intro _ _;rfl):HE X (.Subscript o i pos) (tDGK td tk):=fun ρ M Q h =>
 (b4p (by lia) (ho.d (ρ:=ρ)) (hi.d (ρ:=ρ)) hs).imp fun σ H Q2 ⟨hr,hh,en⟩=>⟨M,_,h,hr,hh,fun x v M1 H1 k1 h1 r1 q1=>⟨M1,_,q1,hr.kp k1,h1,fun y v2 M2 H2 k2 h2 r2 q2=>by
  cases x with
  | adr p =>
    cases r1;dsimp only at q2;split at q2
    ·rename_i kvs e;obtain⟨kk,t,rfl,ev,q2⟩:=q2;obtain rfl:=a3X r2;obtain⟨xs,g1,g2⟩:=h2 _ _ e;have hv:=g2.val kk;rw[ev] at hv;obtain⟨u,e1,e2⟩:=hv;exact⟨_,u,rfl,by rw[<- e1];exact DGet.k g1,en _ _ M2 H2 (k1.trans k2) h2 e2 q2⟩
    ·exact q2.elim
  |_=>exact q2.elim⟩⟩
noncomputable def sDPK(td tk tv:TE3):TS3:=fun D ρ M=>tv ρ M fun z M1=>td ρ M1 fun x M2=>tk ρ M2 fun k M3=>match x with
 | .adr p=>(match M3 p with
   |some (.dk kvs)=>∃kk,k=keyT kk/\kvs.length<sizeLine/\D.nx ρ (updM M3 p (.dk (putT kvs kk z)))
   |_=>False)
 |_=>False
theorem b7m{o i value:Expr}{td tk tv:TE3}{pos pos':Pos}(hu:X.A.units+64<cLine)(hv:HE X value tv)(ho:HE X o td)(hi:HE X i tk)(hs:swapsWith value (some (.Subscript o i pos')) pos.line X.env=pure false:=by rfl) :
  HS X (.Assign [.Subscript o i pos'] value pos) (sDPK td tk tv):=fun D ρ M h =>
 (b0n (by lia) (ho.d (ρ:=ρ)) (hi.d (ρ:=ρ)) (hv.d (ρ:=ρ)) hs).imp fun D2 σ H ⟨hr,hh,en⟩=>⟨M,_,h,hr,hh,fun z v M1 H1 k1 h1 r1 q1=>⟨M1,_,q1,hr.kp k1,h1,fun x v2 M2 H2 k2 h2 r2 q2=>⟨M2,_,q2,hr.kp (k1.trans k2),h2,fun y v3 M3 H3 k3 h3 r3 q3=>by
  cases x with
  | adr p =>
    cases r2;dsimp only at q3;split at q3
    ·rename_i kvs e;obtain⟨kk,rfl,hl,q3⟩:=q3;obtain rfl:=a3X r3;obtain⟨xs,g1,g2⟩:=h3 _ _ e;have kk':=Kp.dict (K:=X.K) (u:=.dK (putK xs kk v)) g1 (.inl ⟨_,rfl⟩);have kall:=(k1.trans k2).trans (k3.trans kk');refine⟨_,_,rfl,DPut.k g1 (by rw[g2.length];exact hl),en.nx _ _ _ _ kall (hr.kp kall) (h3.setK g1 (.inl ⟨_,rfl⟩) (g2.put kk (Rep.kp (k2.trans k3) _ _ r1))) q3⟩
    ·exact q3.elim
  |_=>exact q3.elim⟩⟩⟩
noncomputable def b0R(x:T):Bool:=match x with
 |.non=>true
 |_=>false
theorem b0Q{K:PySem.W.Frag}{H:Hp}{v:V}{x:T}(r:Rep K H v x):decide (v=.non)=b0R x:=by
 cases x with
 |non=>obtain rfl:=a4l r;rfl
 |bl b=>obtain rfl:=a2f r;rfl
 |int i=>obtain rfl:=a0q r;rfl
 |str y=>obtain rfl:=a0r r;rfl
 |adr a=>obtain rfl:=a0n r;rfl
 |tup ts=>obtain⟨p,xs,rfl,_,_⟩:=a1w r;rfl
 |rd ts=>obtain⟨p,xs,rfl,_,_⟩:=a6M r;rfl
 |dic ks ts=>unfold Rep at r;obtain⟨b,rfl,_⟩:=r;rfl
noncomputable def b6I(x:T)(c:Bool):Option Bool:=match x with
 |.bl b=>some (b==c)
 |_=>none
noncomputable def rIs3:R3:=fun x y M Q=>match y with
 |.non=>Q (.bl (b0R x)) M
 |.bl c=>(match b6I x c with|some b=>Q (.bl b) M|none=>False)
 |_=>False
theorem b6G{M:c0I}{A:b8w}{E:VPR}{s:b7Y}{Q:VPR}{b c:Bool}(h:Q (.bool (b==c)) s):wpAny M A (compareOp .Is (.bool b) (.bool c)) Q E s:=by
 cases b<;>cases c<;>exact b8r h
theorem b6r:OpR3 X (compareOp .Is) rIs3:=by
 intro pins s σ H x y v u Q2 I rx ry q;obtain⟨a,b,M,Q,r1,r2,hh,q,en⟩:=q;cases b with
 | non =>
   obtain rfl:=a4l r2;refine b6o pins s σ H _ _ v u Q2 I rx ry ⟨rfl,?_⟩;rw[b0Q r1];exact en _ _ M H Kp.refl hh a0Z q
 | bl c =>
   cases a with
   | bl b =>
     obtain rfl:=a2f r1;obtain rfl:=a2f r2;cases rx;cases ry;exact b6G ⟨.bl _,H,I,rfl,en _ _ M H Kp.refl hh a0Z q⟩
   |_=>exact q.elim
 |_=>exact q.elim
end
end L2
namespace L2
open PySem PySem.Spec PyProof.Rows LM
noncomputable def isWd(n:Int)(w:LSI)(k:Int):Bool:=decide (1<=n)&&decide (n<=6)&&decide ((w.length:Int)<=k)&&w.all (a6K n)
theorem b4I(n:Int)(w:LSI):isWd n w 16=isPl n w:=by
 unfold isWd isPl;rw[show decide ((w.length:Int)<=16)=decide (w.length<=16) from decide_eq_decide.mpr (by lia)]
theorem none_of{M M':MH}{p:Addr}(h:Sub M M')(hp:M' p=none):M p=none:=by
 cases q:M p with
 |none=>rfl
 |some o=>have:=h p o q;rw[hp] at this;cases this
theorem a8Y{a:Int}{n i:Nat}{x:T}(h:(a2Y a n)[i]?=some x):i<n/\x=.int (a+(i:Nat)):=by
 unfold a2Y at h;rw[b8x] at h;cases q:(b9w n)[i]? with
 |none=>rw[q] at h;cases h
 | some k =>
   rw[q] at h;have hi:=(b8C.mp q).1;rw[List.length_range] at hi;rw[c2z hi] at q;cases q;exact⟨hi,(b8s h).symm⟩
theorem b2Z(xs:List T)(k:Int)(h0:0<=k):cutT xs none (some k)=xs.take k.toNat:=by
 unfold cutT;have e:k=((k.toNat:Nat):Int):=by lia
 rw[e,HT.sIx_nat,HT.sIx_none,List.drop_zero,c3P,c0B];by_cases h:k.toNat<=xs.length
 ·rw[c2e h]
 ·rw[c3p (by lia),b9v (b8k _),b9v (by lia)]
theorem a0R.take{n:Int}{w:LSI}(h:a0R n w)(k:Nat):a0R n (w.take k):=fun l hl=>h l (List.mem_of_mem_take hl)
theorem a0R.drop{n:Int}{w:LSI}(h:a0R n w)(k:Nat):a0R n (w.drop k):=fun l hl=>h l (List.mem_of_mem_drop hl)
theorem a1q(xs:List T)(k:Int)(h0:0<=k):cutT xs (some k) none=xs.drop k.toNat:=by
 unfold cutT;have e:k=((k.toNat:Nat):Int):=by lia
 rw[e,HT.sIx_nat,HT.sIx_none,c0B];by_cases h:k.toNat<=xs.length
 ·rw[c2e h,b9v (by rw[c0m];lia)]
 ·rw[c3p (by lia),Nat.sub_self,List.take_zero,List.drop_of_length_le (by lia)]
end L2
namespace LM
noncomputable def AL(n:Int)(w v:LSI):Prop:=∀j:Int,1<=j->j<=n->imgL w j=imgL v j
theorem AL.refl{n:Int}{w:LSI}:AL n w w:=fun _ _ _=>rfl
end LM
namespace L2
open PySem PySem.Spec PyProof.Rows LM
noncomputable def gI(w:LSI)(k:Int):Int:=w.getD k.toNat 0
noncomputable def Sm(w:LSI):Prop:=w.length<=4000/\∀x∈w,x.natAbs<7
theorem Sm.of{n:Int}{ws:LSI}(hl:ws.length<=4000)(h6:n<=6)(hw:a0R n ws):Sm ws:=⟨hl,fun x hx=>by
 have:=hw x hx;unfold a3h at this
 lia⟩
noncomputable def sw(l x:Int):Int:=if x=l-1 then l else if x=l then l-1 else x
noncomputable def IsP(n:Int)(r:LSI):Prop:=r.Perm (a2Z n)
noncomputable def mvC(one other:LSI)(l:Nat):Bool:=decide (gI other ((l:Int)-1)>gI other l)&&decide (one.idxOf ((l:Int)-1)<one.idxOf (l:Int))
noncomputable def mvS(one other:LSI)(m:Nat):List Nat:=(b9w m).filter fun i=>mvC one other (i+1)
noncomputable def mvL(one other:LSI):Nat:=match mvS one other (one.length-1) with
 |[]=>0
 |i::_=>i+1
noncomputable def begL(row:LSI)(l:Nat):LSI:=row.take (l-1)++[gI row l,gI row ((l:Int)-1)]++row.drop (l+1)
noncomputable def a9U(R:LLI):Bool:=(b9w (R.length-1)).all fun i=>decide (mvL (R.getD i []) (R.getD (i+1) [])=0)
theorem a0m{a b:TS3}{D:Ends3}{ρ:En}{M:MH}(h:∀K:En->MH->Prop,K=b D->a { D with nx:=K } ρ M):a9K a b D ρ M:=h _ rfl
noncomputable def setp(R:LLI)(i:Nat)(a b:LSI):LLI:=(R.set i a).set (i+1) b
noncomputable def b7X(n:Int)(R R':LLI):Prop:=∃(i l:Nat) (a b:LSI),R[i]?=some a/\R[i+1]?=some b/\1<=l/\(l:Int)<n/\mvC a b l=true/\R'=setp R i (a.map (sw l)) (begL b l)
inductive Go (n:Int):LLI->LLI->Prop where
 |refl (R:LLI):Go n R R
 |head {R R1 R2:LLI} (h:b7X n R R1) (g:Go n R1 R2):Go n R R2
noncomputable def okR(n:Int)(R:LLI):Prop:=∀r∈R,IsP n r
structure Hd(n:Int)(S R:LLI)(c:Nat):Prop where
 ok:okR n R
 st:a9U R=true
 dr:S.drop c=R
 ct:S.count (a2Z n).reverse=c+R.count (a2Z n).reverse
theorem Hd.nil{n:Int}{S:LLI}{c:Nat}(h:Hd n S [] c):S.count (a2Z n).reverse=c:=by
 rw[h.ct,List.count_nil,Nat.add_zero]
structure FS(n:Int)(R S:LLI):Prop where
 ok:okR n S
 st:a9U S=true
 np:∀r∈S,r≠a2Z n
 go:∃k,Go n R (S++b8p k (a2Z n))
theorem FS.self{n:Int}{S:LLI}(ok:okR n S)(st:a9U S=true)(np:∀r∈S,r≠a2Z n):FS n S S:=⟨ok,st,np,0,by rw[List.replicate_zero,b8O];exact .refl _⟩
noncomputable abbrev PR:=Int×List (LSI)
noncomputable def Fo(n:Int)(x f:PR):Prop:=∃S,FS n x.2 S/\f=(x.1+(S.count (a2Z n).reverse:Nat),S.drop (S.count (a2Z n).reverse))
theorem b4C(n:Int):okR n []:=fun r hr=>by cases hr
section
variable{n:Int}(h6:n<=6)
include h6
end
theorem Fo.nil{n p:Int}:Fo n (p,[]) (p,[]):=⟨[],FS.self (b4C n) rfl (fun r hr=>by cases hr),by show(p,[])=(p+((0:Nat):Int),[]);rw[Int.natCast_zero,Int.add_zero]⟩
section
variable{n:Int}
end
section
variable{n:Int}
end
section
variable{n:Int}
end
end L2
namespace L2
open PySem PySem.Spec PyProof.Rows
noncomputable def b5K(hi:Int)(n:Nat):List T:=(b9w n).map fun i=>T.int (hi-(i:Nat))
section
variable{X:Cx}{a b c:Expr}{t:TA3}{pos:Pos}
noncomputable def b4K(t:TA3):TI3:=fun ρ M R=>t ρ M fun xs M1=>match xs with
 |[.int i,.int j,.int s]=>(s=-1/\-(2^62)<=i/\i<2^62/\-(2^62)<=j/\j<2^62)/\R ⟨b5K i (i-j).toNat,fun _=>True⟩ M1
 |_=>False
end
section
variable{X:Cx}
end
theorem a7Q{i:TI3}{g:TG3}{b:TS3}{D:Ends3}{ρ:En}{M:MH}(h:∀B:TS3,B=b->a8M i g B D ρ M):a8M i g b D ρ M:=h _ rfl
section
variable{X:Cx}
end
theorem a0Y.has{P:b8n}{w:b8F}{H:Hp}{h:Heap}{a:Addr}{o:HO}(x:a0Y P w H h a o):∃ob,h.get? a=some ob:=by
 cases o with
 |lst xs=>obtain⟨_,_,_,_,e⟩:=x;exact⟨_,e⟩
 |tup xs=>obtain⟨_,_,_,o,e,_⟩:=x;exact⟨_,e⟩
 |dK kvs=>obtain⟨_,_,_,_,o,_,_,e,_⟩:=x;exact⟨_,e⟩
 |dT kvs=>obtain⟨_,_,_,_,o,_,_,e,_⟩:=x;exact⟨_,e⟩
 |set S n=>obtain⟨o,_,_,_,e,_⟩:=x;exact⟨_,e⟩
 |ins C dx fs=>obtain⟨_,_,_,e,_⟩:=x;exact⟨_,e⟩
 |own y=>obtain⟨_,e⟩:=x;exact⟨_,e⟩
 |xd fs=>obtain⟨_,⟨_,_,_,e,_⟩,_⟩:=x;exact⟨_,e⟩
 |rng lo hi=>obtain⟨_,_,_,e⟩:=x;exact⟨_,e⟩
 |frz ob u=>obtain⟨e,_⟩:=x;exact⟨_,e⟩
 |tbl ps=>exact⟨_,(show h.get? a=some _ from x)⟩
 |met f y=>exact⟨_,(show h.get? a=some _ from x)⟩
 |ext φ=>obtain⟨_,e,_⟩:=x;exact e
structure Fly(H:Hp)(h0 h:Heap)(a:Addr)(C:b8g):Prop where
 un:H a=none
 new:h0.get? a=none
 obj:∃oe vs a0,h.get? a=some oe/\oe.cls=C/\oe.data=.fields vs/\vs[0]?=some a0 /\
  ∃T oT ts,vs[1]?=some (.ref T)/\T≠a/\H T=none/\h0.get? T=none/\h.get? T=some oT/\oT.data=.fields ts/\ts[3]?=some .none
noncomputable def CXE(P:b8n)(w:b8F):CXT:=fun outer H s E e s'=>∃a C H',e=.ref a/\s'.os=s.os/\c1s s'.gens/\Un (frs outer) [] H H' s.heap s'.heap/\HOk P w H' s'.heap/\Fly H' s.heap s'.heap a C/\E C none H'
theorem a0D{h base B:Heap}:∀{l:List Env},h.FunFrames base l->(∀b∈frs l,B.get? b=none)->h.FunFrames B l
 |[],_,_=>trivial
 | env::rest,⟨hk,⟨L,o,hf,hn,ho,hd⟩,hr⟩,hb=>by
   have e:frs (env::rest)=L::frs rest:=by unfold frs;rw[b9f,hf]
   exact⟨hk,⟨L,o,hf,hb L (by rw[e];exact b8e),ho,hd⟩,a0D hr fun b hm=>hb b (by rw[e];exact b7Z _ hm)⟩
section
variable{X:Cx}{pins:PNS}{σ:St}{H:Hp}{s:b7Y}
structure Leaves(X:Cx)(E:XK):Prop where
 ex:X.ex=[]
 stk:X.stack=X.env::X.outer
 fr:X.env.frame=some X.env.locals
 xe:∀e s',wpAny (model X.prog X.w) X.A (leaving X.env e) (fun _ s''=>CXE X.prog X.w X.outer X.H₀ X.s₀ E e s'') (fun e' s''=>CXE X.prog X.w X.outer X.H₀ X.s₀ E e' s'') s'->X.xe e s'
theorem b1f{E:XK}(L:Leaves X E):frs X.stack=X.env.locals::X.fs:=by
 rw[L.stk];unfold frs;rw[b9f,L.fr];rfl
theorem Inv.old(I:Inv X pins σ H s)(hx:X.ex=[]){b:Addr}(h:X.s₀.heap.get? b≠none):∃o,s.heap.get? b=some o:=by
 cases q:X.s₀.heap.get? b with
 |none=>exact absurd q h
 |some o=>exact I.base.there b o q (by rw[hx];simp)
theorem a4j{E:XK}{B h2:Heap}{a:Addr}{C a0:b8g}(L:Leaves X E)(I:Inv X pins σ H s)(ha:H a=none)(ha0:X.s₀.heap.get? a=none)
  (hB:∀b o,s.heap.get? b=some o->b∉frs X.stack->b≠a->(H b≠none\/X.s₀.heap.get? b≠none)->B.get? b=some o)
  (k1:B.StaysIn h2) (k3:h2.TracedW B a C a0) (k4:s.heap.UpToSlots h2) (hE:E C none H):CXE X.prog X.w X.outer X.H₀ X.s₀ E (.ref a) { s with heap:=h2 }:=by
 have fs:=b1f L
 have nL:∀b,X.s₀.heap.get? b≠none->b≠X.env.locals:=fun b hb z=>by
  cases q:X.s₀.heap.get? b with
  |none=>exact hb q
  |some o=>exact absurd (b8j q) (c3G.mpr (by rw[z];exact I.ok.above))
 have stay:∀b o,s.heap.get? b=some o->b∉frs X.stack->(H b≠none\/X.s₀.heap.get? b≠none)->h2.get? b=some o:=fun b o q hf hc=>by
  refine k1 b o (hB b o q hf ?_ hc);rintro rfl;rcases hc with z|z
  ·exact z ha
  ·exact z ha0
 have noT:∀b,(H b≠none\/X.s₀.heap.get? b≠none)->∃o,s.heap.get? b=some o:=fun b hc=>by
  rcases hc with z|z
  ·cases q:H b with
   |none=>exact absurd q z
   |some u=>exact(I.hok b u q).has
  ·exact I.old L.ex z
 have dfr:∀b∈frs X.stack,∃o,s.heap.get? b=some o/\∀vs,o.data≠.fields vs:=fun b hb=>(I.stack.mem hb).2;obtain⟨oe,vs,T,oT,ts,t1,⟨t2,t3⟩,t4,t5,t6,t7,t8,t9,t10⟩:=k3
 have hT:T∉frs X.stack:=fun hm=>by
  obtain⟨o,e1,e2⟩:=dfr T hm;obtain⟨sl,e3⟩:=k4 T o e1 e2;rw[t8] at e3;cases e3;exact e2 ts t9
 have key:¬(H T≠none\/X.s₀.heap.get? T≠none):=fun hc=>by
  obtain⟨o,e1⟩:=noT T hc;have:=hB T o e1 hT t7 hc;rw[t6] at this;cases this
 have hT1:H T=none:=b8y fun z=>key (.inl z);have hT2:X.s₀.heap.get? T=none:=b8y fun z=>key (.inr z);refine⟨a,C,H,rfl,I.os,I.bare,⟨fun b o q n hf _=>?_,fun b o q n hf _=>?_,fun b o q n _=>I.base.free b o q n (by rw[L.ex];simp),fun b o q _=>?_,I.base.tups,I.base.frzs,I.base.tbls⟩,fun b u q=>?_,⟨ha,ha0,oe,vs,a0,t1,t2,t4,t3,T,oT,ts,t5,t7,hT1,hT2,t8,t9,t10⟩,hE⟩
 ·have e1:=I.base.keep b o q n hf (by rw[L.ex];simp);refine stay b o e1 ?_ (.inr (by rw[q];simp));rw[fs];intro hm;rcases b8l.mp hm with z|z
  ·exact nL b (by rw[q];simp) z
  ·exact hf z
 ·obtain⟨sl,e1⟩:=I.base.slot b o q n hf (by rw[L.ex];simp);have hm:b∈frs X.stack:=by rw[fs];exact b7Z _ hf
  obtain⟨o2,e2,e3⟩:=dfr b hm;rw[e1] at e2;cases e2;obtain⟨sl',e4⟩:=k4 b _ e1 e3;exact⟨sl',e4⟩
 ·obtain⟨o',e1⟩:=I.base.there b o q (by rw[L.ex];simp);by_cases hm:b∈frs X.stack
  ·obtain⟨o2,e2,e3⟩:=dfr b hm;obtain⟨sl,e4⟩:=k4 b o2 e2 e3;exact⟨_,e4⟩
  ·exact⟨_,stay b o' e1 hm (.inr (by rw[q];simp))⟩
 ·refine(I.hok b u q).stay (fun c v hc r=>?_) (fun _ r=>r) fun _ _ r=>r
  have hne:H c≠none:=by
   rcases hc with rfl|hc
   ·rw[q];simp
   ·rw[hc];simp
  refine stay c v r (fun hm=>hne ?_) (.inl hne);exact I.stkFree c hm
theorem a3p{E:XK}{h':Heap}{a:Addr}{C:b8g}{args:LSV}(L:Leaves X E)(I:Inv X pins σ H s)(hx:c2s s.heap h' a C args)(hE:E C none H):X.xe (.ref a) { s with heap:=h' }:=by
 refine L.xe _ _ ?_;have hfr:=I.ok.frames;rw[L.stk] at hfr
 have hl:s.heap.FunFrames (PySem.W.hideAll s.heap (frs X.stack)) (X.env::X.outer):=by
  rw[<- L.stk];exact a0D I.stack fun b hb=>PySem.W.hideAll_none _ hb
 have st:(PySem.W.hideAll s.heap (frs X.stack)).StaysIn s.heap:=fun b o q=>PySem.W.of_hideAll _ q;refine wpAny_leaves_madeW (s:={ s with heap:=h' }) hfr L.fr st hl hx fun h2 t hfl ht htn hsm=>?_;obtain⟨f1,f2,f3,f4⟩:=hfl;have I1:Inv X pins σ H { s with heap:=h',toks:=s.toks }:=I.kept (t':=s.toks) hx.keeps
 have ha:H a=none:=by
  cases q:H a with
  |none=>rfl
  |some u=>obtain⟨ob,e⟩:=(I.hok a u q).has;rw[hx.new] at e;cases e
 have ha0:X.s₀.heap.get? a=none:=b8y fun z=>by
  obtain⟨o,e⟩:=I.old L.ex z;rw[hx.new] at e;cases e
 refine a4j (B:=PySem.W.hideAll s.heap (frs X.stack)) (s:={ s with heap:=h',toks:=s.toks }) L I1 ha ha0 (fun b o q hf hb hc=>?_) f1 f4 hsm hE
 have:∃o',s.heap.get? b=some o':=by
  rcases hc with z|z
  ·cases r:H b with
   |none=>exact absurd r z
   |some u=>exact(I.hok b u r).has
  ·exact I.old L.ex z
 obtain⟨o',e⟩:=this;have e2:=hx.keeps b o' e;have q':h'.get? b=some o:=q;rw[e2] at q';cases q';exact PySem.W.hideAll_get _ e hf
theorem a4i{E:XK}{a:Addr}{C:b8g}(L:Leaves X E)(I:Inv X pins σ H s)(F:Fly H X.s₀.heap s.heap a C)(hE:E C none H):X.xe (.ref a) s:=by
 refine L.xe _ _ ?_;obtain⟨ha,ha0,oe,vs,a0,t1,t2,t3,t4,T,oT,ts,t5,t6,t7,t8,t9,t10,t11⟩:=F;have hfr:=I.ok.frames;rw[L.stk] at hfr
 have nfr:∀b vs' o,s.heap.get? b=some o->o.data=.fields vs'->b∉frs X.stack:=fun b vs' o e d hm=>by
  obtain⟨o',e',d'⟩:=(I.stack.mem hm).2;rw[e] at e';cases e';exact d' _ d
 have hl:s.heap.FunFrames (PySem.W.hideAll s.heap (a::T::frs X.stack)) (X.env::X.outer):=by
  rw[<- L.stk];exact a0D I.stack fun b hb=>PySem.W.hideAll_none _ (b7Z _ (b7Z _ hb))
 have hfl:c2g (PySem.W.hideAll s.heap (a::T::frs X.stack)) (X.env::X.outer) a C a0 s.heap :=
  ⟨fun b o q=>PySem.W.of_hideAll _ q,PySem.W.hideAll_none _ b8e,hl,oe,vs,T,oT,ts,t1,⟨t2,t4⟩,t3,t5,PySem.W.hideAll_none _ (b7Z _ b8e),t6,t9,t10,t11⟩
 refine wpAny_leaves_onW hfr L.fr hfl fun h2 hfl2 hsm=>?_;obtain⟨f1,f2,f3,f4⟩:=hfl2;refine a4j (B:=PySem.W.hideAll s.heap (a::T::frs X.stack)) L I ha ha0 (fun b o q hf hb hc=>PySem.W.hideAll_get _ q fun hm=>?_) f1 f4 hsm hE;rcases b8l.mp hm with z|z
 ·exact hb z
 ·rcases b8l.mp z with z|z
  ·subst z;rcases hc with c|c
   ·exact c t7
   ·exact c t8
  ·exact hf z
end
noncomputable abbrev EK3:=Str->En->MH->Prop
theorem Fly.older{H:Hp}{g h0 h:Heap}{a:Addr}{C:b8g}(F:Fly H h0 h a C)(k:∀b,g.get? b≠none->h0.get? b≠none):Fly H g h a C:=by
 obtain⟨f1,f2,oe,vs,a0,t1,t2,t3,t4,T,oT,ts,t5,t6,t7,t8,t9,t10,t11⟩:=F;exact⟨f1,b8y fun z=>k a z f2,oe,vs,a0,t1,t2,t3,t4,T,oT,ts,t5,t6,t7,b8y fun z=>k T z t8,t9,t10,t11⟩
structure Older(X:Cx)(pins:PNS)(h0:Heap):Prop where
 start:∀b,X.s₀.heap.get? b≠none->h0.get? b≠none
 pins:∀p∈X.pn++pins,h0.get? p.1≠none
 loc:h0.get? X.env.locals≠none
 cells:∀x c,X.env.cells.lookup x=some c->h0.get? c≠none
theorem Inv.older{X:Cx}{pins:PNS}{σ:St}{H:Hp}{s:b7Y}(I:Inv X pins σ H s)(hex:X.ex=[]):Older X pins s.heap:=by
 refine⟨fun b hb z=>?_,fun p hp z=>?_,fun z=>?_,fun x c e z=>?_⟩
 ·obtain⟨o,e⟩:=I.old hex hb;rw[z] at e;cases e
 ·have e:=(I.pin p hp).1;rw[z] at e;cases e
 ·obtain⟨m,⟨o,_,_,e,_⟩,_⟩:=I.loc;rw[z] at e;cases e
 ·obtain⟨v,o,e1,_⟩:=I.cell x c e;rw[z] at e1;cases e1
noncomputable def Acc(X:Cx)(Ha:Hp)(E:EK3):Prop:=∀(pins:PNS) (σ:St) (H:Hp) (s:b7Y) (h0:Heap) (a C:Addr) (nm:Str) (ρ:En) (M:MH),
 Inv X pins σ H s->Fly H h0 s.heap a (.ref C)->Older X pins h0->X.mg nm=some (.ref C)->Kp X.K Ha H->RhoR X.K σ H ρ->HR X.K H M->E nm ρ M->X.xe (.ref a) s
noncomputable def AccN(X:Cx)(Ha:Hp)(E:EK3):Prop:=∀(pins:PNS) (σ:St) (H:Hp) (s:b7Y) (h':Heap) (a C:Addr) (vs:LSV) (nm:Str) (ρ:En) (M:MH),
 Inv X pins σ H s->c2s s.heap h' a (.ref C) vs->X.mg nm=some (.ref C)->Kp X.K Ha H->RhoR X.K σ H ρ->HR X.K H M->E nm ρ M->X.xe (.ref a) { s with heap:=h' }
noncomputable def HEX(X:Cx)(Ha:Hp)(e:Expr)(t:TE3):Prop:=∀ρ M Q,t ρ M Q->PE X e (fun σ H Q2=>Kp X.K Ha H/\bE X.K ρ M Q σ H Q2)
noncomputable def HTX(X:Cx)(Ha:Hp)(e:Expr)(t:TT3):Prop:=∀ρ M Q,t ρ M Q->PT X e (fun σ H Q2=>Kp X.K Ha H/\bT X.K ρ M Q σ H Q2)
noncomputable def HSX(X:Cx)(Ha:Hp)(st:Stmt)(t:TS3):Prop:=∀D ρ M,t D ρ M->PS X st (fun D2 σ H=>Kp X.K Ha H/\bS X.K D ρ M D2 σ H)
noncomputable def HSsX(X:Cx)(Ha:Hp)(st:List Stmt)(t:TS3):Prop:=∀D ρ M,t D ρ M->PSs X st (fun D2 σ H=>Kp X.K Ha H/\bS X.K D ρ M D2 σ H)
noncomputable def dEX(K:PySem.W.Frag)(Ha:Hp)(ρ:En)(t:TE3):TE:=fun σ H Q2=>∃M Q,t ρ M Q/\Kp K Ha H/\bE K ρ M Q σ H Q2
noncomputable def dTX(K:PySem.W.Frag)(Ha:Hp)(ρ:En)(t:TT3):TT:=fun σ H Q2=>∃M Q,t ρ M Q/\Kp K Ha H/\bT K ρ M Q σ H Q2
noncomputable def dSX(K:PySem.W.Frag)(Ha:Hp)(t:TS3):TS:=fun D2 σ H=>∃D ρ M,t D ρ M/\Kp K Ha H/\bS K D ρ M D2 σ H
section
variable{X:Cx}{Ha:Hp}{a b c e:Expr}{es:LSE}{st:Stmt}{rest ba bb body:List Stmt}{ta tb te:TE3}{tA:TT3}{t u:TS3}{pos:Pos}
theorem HEX.d{ρ:En}(h:HEX X Ha e te):PE X e (dEX X.K Ha ρ te):=fun pins s σ H Q I ⟨M,Q3,q,b⟩=>h ρ M Q3 q pins s σ H Q I b
theorem HTX.d{ρ:En}(h:HTX X Ha e tA):PT X e (dTX X.K Ha ρ tA):=fun pins s σ H Q I ⟨M,Q3,q,b⟩=>h ρ M Q3 q pins s σ H Q I b
theorem HSX.d(h:HSX X Ha st t):PS X st (dSX X.K Ha t):=fun pins s σ H D I ⟨D3,ρ,M,q,b⟩=>h D3 ρ M q pins s σ H D I b
theorem HSsX.d(h:HSsX X Ha body t):PSs X body (dSX X.K Ha t):=fun pins s σ H D I ⟨D3,ρ,M,q,b⟩=>h D3 ρ M q pins s σ H D I b
theorem HE.x(h:HE X e te):HEX X Ha e te:=fun ρ M Q q=>(h ρ M Q q).imp fun σ H Q2 b=>b.2
theorem HT.x(h:HT X e tA):HTX X Ha e tA:=fun ρ M Q q=>(h ρ M Q q).imp fun σ H Q2 b=>b.2
theorem HS.x(h:HS X st t):HSX X Ha st t:=fun D ρ M q=>(h D ρ M q).imp fun D2 σ H b=>b.2
theorem HSs.x(h:HSs X body t):HSsX X Ha body t:=fun D ρ M q=>(h D ρ M q).imp fun D2 σ H b=>b.2
theorem PS.nox{s:Stmt}{t:TS}(h:PS X.nox s t):PS X s t:=fun pins s σ H D I hw =>
 b8H (h pins s σ H D (I.wish _) hw) (fun _ _ q=>q.unwish) fun _ _ z=>b8D z
theorem HE.n(h:HE X.nox e te):HE X e te:=fun ρ M Q q=>(h ρ M Q q).nox
theorem HT.n(h:HT X.nox e tA):HT X e tA:=fun ρ M Q q=>(h ρ M Q q).nox
theorem HS.n(h:HS X.nox st t):HS X st t:=fun D ρ M q=>(h D ρ M q).nox
theorem EndS.nxX{K:PySem.W.Frag}{H:Hp}{D:Ends3}{D2:Ends}{t:TS3}(h:EndS K H D D2)(ka:Kp K Ha H):EndS K H { D with nx:=t D } { D2 with nx:=dSX K Ha t D2 } :=
 ⟨fun ρ' M' σ' H' k r hh q=>⟨D,ρ',M',q,ka.trans k,r,hh,h.kp k⟩,h.rt,h.bk,h.ct⟩
theorem a0w(h1:HSX X Ha st t)(h2:HSsX X Ha rest u):HSsX X Ha (st::rest) (a9K t u):=fun D ρ M h =>
 (a8n h1.d h2.d).imp fun D2 σ H ⟨ka,hr,hh,en⟩=>⟨{ D with nx:=u D },ρ,M,h,ka,hr,hh,en.nxX ka⟩
theorem a1a(h1:HSX X Ha st t):HSsX X Ha [st] t:=fun D ρ M h=>b0k (h1 D ρ M h)
theorem a1r:HSsX X Ha [] a9M:=a0M.x
theorem a8j(he:HEX X Ha e te):HSX X Ha (.Return (some e) pos) (b1P te):=fun D ρ M h =>
 (b3o (he.d (ρ:=ρ))).imp fun D2 σ H ⟨ka,hr,hh,en⟩=>⟨M,_,h,ka,hr,hh,en.rt⟩
theorem b3T(he:HEX X Ha e te)(hs:swapsWith e none pos.line X.env=pure false:=by rfl):HSX X Ha (.Expr e pos) (a9O te):=fun D ρ M h =>
 (b0m (he.d (ρ:=ρ)) hs).imp fun D2 σ H ⟨ka,hr,hh,en⟩=>⟨M,_,h,ka,hr,hh,fun x v M1 H1 k1 h1 r1 q1=>en.nx ρ M1 σ H1 k1 (hr.kp k1) h1 q1⟩
theorem b5E{i:Nat}{x:Str}{pos':Pos}(he:HEX X Ha e te)(hN:X.N.Nodup)(hi:X.N[i]?=some x:=by rfl)(hx:Loc X.env.scope x:=by first|exact c2L rfl|exact c2c rfl)(hs:swapsWith e (some (.Name x pos')) pos.line X.env=pure false:=by rfl)
  (hf:QXX X x:=by first|exact .inl rfl|exact .inr rfl|assumption):HSX X Ha (.Assign [.Name x pos'] e pos) (b3I i te):=fun D ρ M h =>
 (b3n hN hi hx (he.d (ρ:=ρ)) hs hf).imp fun D2 σ H ⟨ka,hr,hh,en⟩=>⟨M,_,h,ka,hr,hh,fun t v M1 H1 k1 h1 r1 q1=>en.nx _ M1 _ H1 k1 ((hr.kp k1).set i r1) h1 q1⟩
theorem a8X(hc:HTX X Ha c tA)(ha:HSsX X Ha ba t)(hb:HSsX X Ha bb u):HSX X Ha (.If c ba bb pos) (b1Q tA t u):=fun D ρ M h =>
 (b5T (hc.d (ρ:=ρ)) ha.d hb.d).imp fun D2 σ H ⟨ka,hr,hh,en⟩=>⟨M,_,h,ka,hr,hh,fun b M1 H1 k1 h1 q1=>by
  dsimp only at q1|-
  split
  ·rename_i hb;rw[if_pos hb] at q1;exact⟨D,ρ,M1,q1,ka.trans k1,hr.kp k1,h1,en.kp k1⟩
  ·rename_i hb;rw[if_neg hb] at q1
   exact⟨D,ρ,M1,q1,ka.trans k1,hr.kp k1,h1,en.kp k1⟩⟩
theorem dOpX{ρ:En}{M:MH}{Q:VK3}{r:R3}(h:tOp3 r ta tb ρ M Q){σ:St}{H:Hp}{Q2:VK}(ka:Kp X.K Ha H)(b:bE X.K ρ M Q σ H Q2):tOp (dR X.K r) (dEX X.K Ha ρ ta) (dEX X.K Ha ρ tb) σ H Q2:=by
 obtain⟨hr,hh,en⟩:=b;refine⟨M,_,h,ka,hr,hh,fun t v M1 H1 k1 h1 r1 q1=>⟨M1,_,q1,ka.trans k1,hr.kp k1,h1,fun t2 v2 M2 H2 k2 h2 r2 q2=>⟨t,t2,M2,Q,Rep.kp k2 _ _ r1,r2,h2,q2,en.kp (k1.trans k2)⟩⟩⟩
theorem b4N{op:c2w}{r:R3}(ho:OpR3 X (compareOp op) r)(ha:HEX X Ha a ta)(hb:HEX X Ha b tb)(hm:behindInMarks op b=false):HTX X Ha (.Compare a [op] [b] pos) (a6g (tOp3 r ta tb)):=fun ρ M Q h =>
 (b0j ho (ha.d (ρ:=ρ)) (hb.d (ρ:=ρ)) hm).imp fun σ H Q2 ⟨ka,hr,hh,en⟩=>dOpX (ta:=ta) (tb:=tb) (r:=r) h ka ⟨hr,hh,a3J en⟩
end
noncomputable abbrev Sp3X:=List T->MH->VK3->(Str->MH->Prop)->Prop
noncomputable def dSpX(K:PySem.W.Frag)(mg:SOV)(sp:Sp3X):Sp:=fun vs H Q2 E2=>∃ts M Q E,Reps K H vs ts/\HR K H M/\sp ts M Q E/\EndE K H Q Q2 /\
 ∀nm C M' H',Kp K H H'->HR K H' M'->mg nm=some (.ref C)->E nm M'->E2 (.ref C) none H'
structure DfX(P:b8n)(w:b8F)(K:PySem.W.Frag)(mg:SOV)(base:Heap)(n:Nat)(x:Str)(ps:LSS)(sp:Sp3X):Prop where
 out:∃f fd,FnOk P w K mg base (CXE P w) n f fd ps (dSpX K mg sp)/\mg x=some (.ref f)/\PySem.W.keepIn K (.ref f)=true/\a1l K fd ps []
theorem DfX.mono{P:b8n}{w:b8F}{K:PySem.W.Frag}{mg:SOV}{base:Heap}{n m:Nat}{x:Str}{ps:LSS}{sp:Sp3X}(D:DfX P w K mg base n x ps sp)(h:n<=m):DfX P w K mg base m x ps sp:=by
 obtain⟨f,fd,F,a,b,c⟩:=D.out;exact⟨f,fd,F.mono h,a,b,c⟩
section
variable{X:Cx}{Ha:Hp}{e:Expr}{es:LSE}{t:TA3}{pos:Pos}
noncomputable def a8f(E:EK3)(sp:Sp3X)(t:TA3):TE3:=fun ρ M Q=>t ρ M fun ts M1=>sp ts M1 Q fun nm M2=>E nm ρ M2
theorem a2Q{n:Nat}{x:Str}{ps:LSS}{sp:Sp3X}{p:Pos}{E:EK3}(A:Acc X Ha E)(hex:X.ex=[])(D:DfX X.prog X.w X.K X.mg X.base n x ps sp)(hr:Room n X.A)(ha:HA X (e::es) t)(hg:Gl X x:=by rfl)(hdb:QDD x:=by decide)
  (he:QSS X e es:=by rfl) (hpl:QPP X pos es:=by rfl) :
  HEX X Ha (.Call (.Name x p) (e::es) [] pos) (a8f E sp t):=by
 intro ρ M Q h pins s σ H Q2 I bb;obtain⟨ka,hrr,hh,en⟩:=bb;obtain⟨f,fd,F,hm,hk,hb⟩:=D.out;refine b9U (a1v I hg hm ?_ hdb);refine PySem.W.callWith_K (h₀:=X.base) I.ok.mod.kin hk (thn (ha ρ M _ h pos pins s σ H (fun vs H1=>∃ts M1,Kp X.K H H1/\HR X.K H1 M1/\Reps X.K H1 vs ts/\sp ts M1 Q fun nm M2=>E nm ρ M2) I ⟨hrr,hh,fun ts vs M1 H1 k1 h1 r1 q1=>⟨ts,M1,k1,h1,r1,q1⟩⟩) fun us s1 ⟨vs,H1,I1,r,ts,M1,k1,h1,r1,q1⟩=>⟨I1.kIn,?_⟩) he hpl;have r2:Vals (vs++[]) (us++[]):=r.append .nil
 have q2:dSpX X.K X.mg sp (vs++[]) H1 Q2 (fun C _ H'=>∃c nm M',C=.ref c/\X.mg nm=some (.ref c)/\Kp X.K H1 H'/\HR X.K H' M'/\E nm ρ M') :=
  ⟨ts,M1,Q,_,by rw[b8O];exact r1,h1,q1,en.kp k1,fun nm C M' H' k' h' m' e'=>⟨C,nm,M',rfl,m',k',h',e'⟩⟩
 have hl:(us++[]).length=ps.length:=by rw[<- r2.length];exact F.len _ _ _ _ q2
 refine c2Q (c1X (F.run X.A X.stack s1 H1 ⟨us,[]⟩ (us++[]) (vs++[]) Q2 _ hr I1.env0 (hb s1 us I1.kIn hl) r2 q2) fun r s' hq=>?_);cases r with
 | error e =>
   obtain⟨a,C,H',rfl,os,bare,un,hok,fly,c,nm,M',rfl,m',k',h',e'⟩:=hq;have J:=I1.call' (H':=H') (ch:=[]) os un hok bare (fun b z=>absurd z (by simp));exact A pins σ H' s' s1.heap a c nm ρ M' J fly (I1.older hex) m' (ka.trans (k1.trans k')) (hrr.kp (k1.trans k')) h' e'
 | ok fl =>
   cases fl with
   |ret u=>exact I1.after hq
   |next=>exact b8D hq
   |brk=>exact b8D hq
   |cont=>exact b8D hq
end
noncomputable abbrev bmVE:LSV:=[.type "ValueError",.type "Exception",.type "BaseException",.type "object"]
noncomputable def XCl(K:PySem.W.Frag)(mg:SOV)(nm:Str):Prop:=∃C,mg nm=some (.ref C)/\PySem.W.excIn K C bmVE "ValueError.__new__"=true
theorem a8y{K:PySem.W.Frag}{h:Heap}{C:Addr}(X:K.In h)(q:PySem.W.excIn K C bmVE "ValueError.__new__"=true) :
  ∃bm N nm qn bs hd sn sub ab col dd k0 k1 k2 k3 k5 mN,h.get? C=some (excClassObj nm qn C N bs bm hd sn sub ab col dd k0 k1 k2 k3 k5 "ValueError.__new__")/\h.Ns N mN/\mN "__init__"=none/\OwnTail h bmVE bm:=by
 unfold PySem.W.excIn at q;split at q
 case h_2=>cases q
 rename_i dd cd sl ho;split at q
 case h_2=>cases q
 rename_i C' bm k0 k1 k2 k3 n k5 hm hs;simp only[b8m,beq_iff_eq,b8Z] at q;obtain⟨⟨⟨⟨⟨e1,e2⟩,e3⟩,e4⟩,e5⟩,e6⟩:=q;subst e1 e2;refine⟨bm,cd.ns,cd.name,cd.qualname,cd.bases,cd.hasDict,cd.slotNames,cd.subclasses,cd.abstract,cd.collection,dd,k0,k1,k2,k3,k5,_,?_,.of_isNs (PySem.W.isNs_of_in X e5),PySem.W.nsMap_none_of_in X e5 e6,PySem.W.tail_of_in X e4⟩;have es:sl=#[k0,k1,k2,k3,some (.builtin "ValueError.__new__"),k5]:=c3n.mp (by simpa using hs);rw[X _ _ ho,es];cases cd;simp only at hm e3;subst hm e3;rfl
section
variable{X:Cx}{Ha:Hp}{e:Expr}{te:TE3}{pos:Pos}
noncomputable def a9L(E:EK3)(nm:Str)(te:TE3):TS3:=fun _ ρ M=>te ρ M fun _ M1=>E nm ρ M1
theorem a3F{E:EK3}{x:Str}{np cpos:Pos}(A:AccN X Ha E)(hc:XCl X.K X.mg x)(ha:HE X e te)(hcalm:X.calm=true:=by rfl)(hg:Gl X x:=by rfl)(hdb:QDD x:=by decide)
  (he:starEach [e] X.env=(false,eval e X.env)::starEach [] X.env:=by rfl):HSX X Ha (.Raise (some (.Call (.Name x np) [e] [] cpos)) none pos) (a9L E x te):=by
 intro D ρ M h pins s σ H D2 I bb;obtain⟨ka,hr,hh,en⟩:=bb;obtain⟨C,hm,hx⟩:=hc;obtain⟨bm,N,nm,qn,bs,hd,sn,sub,ab,col,dd,k0,k1,k2,k3,k5,mN,hC,hN,hni,TL⟩:=a8y I.ok.mod.kin hx;refine wpAny_Raise_call_subU (C:=C) (nm:=nm) (q:=qn) (N:=N) (bs:=bs) (bm:=bm) (hdct:=hd) (sn:=sn) (sub:=sub) (ab:=ab) (col:=col) (dd:=dd) (k0:=k0) (k1:=k1) (k2:=k2) (k3:=k3) (k5:=k5)
  PySem.F.excBase_ValueError (by decide) PySem.F.excBase_ValueError (mN:=mN) (TL.hasType (by decide)) (I.ok.hd hcalm) (by rw[he];rfl) hni (a1v I hg hm ⟨rfl,?_⟩ hdb)
 have w1:=(a0a ha a0e he) ρ M (fun ts M1=>ts.length<=1/\E x ρ M1) (show te ρ M (fun y M1=>([y]:List T).length<=1/\E x ρ M1) from by
  have h':te ρ M fun _ M1=>E x ρ M1:=h
  simpa using h') cpos pins s σ H (fun vs H1=>∃M1,vs.length<=1/\Kp X.K H H1/\HR X.K H1 M1/\E x ρ M1) I ⟨hr,hh,fun ts vs M1 H1 k1 h1 r1 q1=>⟨M1,by rw[r1.length];exact q1.1,k1,h1,q1.2⟩⟩
 rw[he] at w1|-
 refine b9E (b8H w1 (fun us s1 ⟨vs,H1,I1,r,M1,hl,kk,h1,q1⟩=>?_) fun _ _ z=>z);refine⟨rfl,?_,I1.bk _ _ hC,hN.keeps I1.bk,TL.keeps I1.bk,fun h' a hmade=>A pins σ H1 s1 h' a C us x ρ M1 I1 hmade hm (ka.trans kk) (hr.kp kk) h1 q1⟩;have:us.length<=1:=by rw[<- r.length];exact hl
 exact b8G this (by decide)
end
theorem a4h{P:b8n}{w:b8F}{K:PySem.W.Frag}{mg:SOV}{base:Heap}{N:LSS}{qual:Str}{scope:c0t}{f:Addr}{cd:b8g}{A:b8w}{outer:List Env}{s:b7Y}{H:Hp}{E:XK} :
  Leaves (cxOf (CXE P w) P w K mg base N qual scope f cd A outer s H E) E:=⟨rfl,rfl,rfl,fun _ _ h=>h⟩
section
variable{P:b8n}{w:b8F}{K:PySem.W.Frag}{mg:SOV}{base:Heap}
theorem Fun.dfnX{x qual:Str}{st:Stmt}{f:Addr}{fd:b9d}{N ps:LSS}{n:Nat}{sp:Sp3X}(F:Fun K x qual st f fd)(hm:mg x=some (.ref f))(hb:a1l K fd ps [])(S:FnScope N ps (a0b st))(len:∀ts M Q E,sp ts M Q E->ts.length=ps.length)
  (hbody:∃t:EK3->TS3,(∀(cdv:b8g) (A:b8w) (outer:List Env) (s:b7Y) (H:Hp) (E:XK) (E3:EK3),Room n (A.deeper (envOfC qual (a0b st) s.heap.objs.size f cdv)) ->
   Acc (cxOf (CXE P w) P w K mg base N qual (a0b st) f cdv A outer s H E) H E3->AccN (cxOf (CXE P w) P w K mg base N qual (a0b st) f cdv A outer s H E) H E3 ->
   HSsX (cxOf (CXE P w) P w K mg base N qual (a0b st) f cdv A outer s H E) H (a0K st) (t E3)) /\
   ∀ts M Q E,sp ts M Q E->t (fun nm _ M'=>∃M0,Sub M0 M'/\E nm M0) { nx:=fun _ M'=>rt3 M Q .non M',rt:=rt3 M Q } (a0T N ts) M):DfX P w K mg base (n+1) x ps sp:=by
 obtain⟨t,hbody,rd⟩:=hbody;refine⟨f,fd,?_,hm,F.kp,hb⟩;obtain⟨oc,od,kV,doc,pm,an,cdv,ct,osl,rfl,lk,hcd⟩:=F.ex;refine b4U lk hcd S (fun vs H Q E ⟨ts,M,Q3,E3,r,_,q,_⟩=>by rw[r.length];exact len _ _ _ _ q) fun A outer s H vs Q E hr ⟨ts,M,Q3,Ex,r,hh,q,en,ex⟩=>?_;have L:=a4h (P:=P) (w:=w) (K:=K) (mg:=mg) (base:=base) (N:=N) (qual:=qual) (scope:=a0b st) (f:=f) (cd:=cdv) (A:=A) (outer:=outer) (s:=s) (H:=H) (E:=E);refine⟨_,hbody cdv A outer s H E (fun nm _ M'=>∃M0,Sub M0 M'/\Ex nm M0) hr (fun pins σ H' s' h0 a C nm ρ M' I fly old m k _ hh' q'=>?_) (fun pins σ H' s' h' a C vs' nm ρ M' I made m k _ hh' q'=>?_) _ _ _ (rd ts M Q3 Ex q),Kp.refl,a2p r,hh,⟨?_,?_,fun _ _ _ _ _ _ _ z=>z.elim,fun _ _ _ _ _ _ _ z=>z.elim⟩⟩
 ·obtain⟨M0,hs,q2⟩:=q';exact a4i L I (fly.older old.start) (ex nm C M0 H' k (hh'.sub hs) m q2)
 ·obtain⟨M0,hs,q2⟩:=q';exact a3p L I made (ex nm C M0 H' k (hh'.sub hs) m q2)
 ·rintro ρ' M' σ' H' k hr' hh' ⟨M0,hs,q'⟩;exact en .non .non M0 H' k (hh'.sub hs) a2q q'
 ·rintro t' v' M' H' k hh' r' ⟨M0,hs,q'⟩;exact en t' v' M0 H' k (hh'.sub hs) r' q'
end
section
variable{prog:b8n}{w:b8F}{A:b8w}{E:VPR}{s:b7Y}{h:Heap}{g:Array c3s}{d:Drawn}{t:Nat}{os:OsState}{a C:Addr}{o:Obj}{K:PySem.W.Frag}
local macro_rules | `(tactic| walk_at "xc") => `(tactic| (repeat any_goals (first | wp_step | assumption)))
end
section
variable{X:Cx}{pos:Pos}
end
section
variable{X:Cx}{pins:PNS}{σ:St}{H:Hp}{s:b7Y}
theorem Inv.flown{B h2:Heap}{a T:Addr}(I:Inv X pins σ H s)(hx:X.ex=[])(hst:X.stack=X.env::X.outer)(hfr:X.env.frame=some X.env.locals)
  (hB:∀b o,s.heap.get? b=some o->b∉frs X.stack->b≠a->b≠T->B.get? b=some o) (k1:B.StaysIn h2) (k4:s.heap.UpToSlots h2)
  (na:H a=none/\X.s₀.heap.get? a=none/\∀p∈X.pn++pins,p.1≠a) (nT:H T=none/\X.s₀.heap.get? T=none/\∀p∈X.pn++pins,p.1≠T):Inv X pins σ H { s with heap:=h2 }:=by
 have fs:frs X.stack=X.env.locals::X.fs:=by
  rw[hst];unfold frs;rw[b9f,hfr];rfl
 have nL:∀b,X.s₀.heap.get? b≠none->b≠X.env.locals:=fun b hb z=>by
  cases q:X.s₀.heap.get? b with
  |none=>exact hb q
  |some o=>exact absurd (b8j q) (c3G.mpr (by rw[z];exact I.ok.above))
 have stay:∀b o,s.heap.get? b=some o->b∉frs X.stack->b≠a->b≠T->h2.get? b=some o:=fun b o q hf h1 h2=>k1 b o (hB b o q hf h1 h2)
 have ne0:∀b o,X.s₀.heap.get? b=some o->b≠a/\b≠T:=fun b o q =>
  ⟨fun z=>(by rw[z,na.2.1] at q;cases q),fun z=>(by rw[z,nT.2.1] at q;cases q)⟩
 have dfr:∀b∈frs X.stack,∃o,s.heap.get? b=some o/\∀vs,o.data≠.fields vs:=fun b hb=>(I.stack.mem hb).2;obtain⟨m,hn,hl⟩:=I.loc
 have cellk:∀c v,s.heap.IsCell c v->h2.IsCell c v:=fun c v hc=>by
  obtain⟨o,ho,hd⟩:=hc;obtain⟨sl,e⟩:=k4 c o ho fun vs q=>by rw[hd] at q;cases q
  exact⟨_,e,hd⟩
 refine⟨I.ok,I.os,I.bare,⟨fun b o q n hf hb=>?_,fun b o q n hf hb=>?_,fun b o q n hb=>I.base.free b o q n hb,fun b o q hb=>?_,I.base.tups,I.base.frzs,I.base.tbls⟩,⟨m,k4.ns hn,fun i x v e1 e2 e3=>?_⟩,fun x c e=>?_,I.free,I.freeC,fun p hp=>?_,fun b u q=>?_,I.len⟩
 ·have e1:=I.base.keep b o q n hf hb;refine stay b o e1 ?_ (ne0 b o q).1 (ne0 b o q).2;rw[fs];intro hm;rcases b8l.mp hm with z|z
  ·exact nL b (by rw[q];simp) z
  ·exact hf z
 ·obtain⟨sl,e1⟩:=I.base.slot b o q n hf hb;obtain⟨o2,e2,e3⟩:=dfr b (by rw[fs];exact b7Z _ hf);rw[e1] at e2;cases e2;obtain⟨sl',e4⟩:=k4 b _ e1 e3;exact⟨sl',e4⟩
 ·obtain⟨o',e1⟩:=I.base.there b o q hb;by_cases hm:b∈frs X.stack
  ·obtain⟨o2,e2,e3⟩:=dfr b hm;obtain⟨sl,e4⟩:=k4 b o2 e2 e3;exact⟨_,e4⟩
  ·exact⟨_,stay b o' e1 hm (ne0 b o q).1 (ne0 b o q).2⟩
 ·obtain⟨u,r,q⟩:=hl i x v e1 e2 e3;refine⟨u,r,?_⟩;rcases q with q|⟨k,c,e,z⟩
  ·exact .inl q
  ·exact .inr ⟨k,c,e,cellk _ _ z⟩
 ·obtain⟨v,z⟩:=I.cell x c e;exact⟨v,cellk _ _ z⟩
 ·obtain⟨e,n,ne,nf,d⟩:=I.pin p hp;refine⟨stay p.1 p.2 e ?_ (na.2.2 p hp) (nT.2.2 p hp),n,ne,nf,d⟩;rw[fs];intro hm;rcases b8l.mp hm with z|z
  ·exact ne z
  ·exact nf z
 ·refine(I.hok b u q).stay (fun c v hc r=>?_) (fun _ r=>r) fun _ _ r=>r
  have hne:H c≠none:=by
   rcases hc with rfl|hc
   ·rw[q];simp
   ·rw[hc];simp
  refine stay c v r (fun hm=>hne (I.stkFree c hm)) ?_ ?_
  ·rintro rfl;exact hne na.1
  ·rintro rfl;exact hne nT.1
end
local macro_rules | `(tactic| walk_at "xc") => `(tactic| (repeat any_goals (first | wp_step | assumption)))
theorem a5l{M:c0I}{A:b8w}{E:VPR}{h:Heap}{g:Array c3s}{d:Drawn}{t:Nat}{os:OsState}{a C P:Addr}{o:Obj}{K:PySem.W.Frag}{Q:Bool->b7Y->Prop}
  (X:K.In h) (hx:h.get? a=some o) (hc:o.cls=.ref C) (up:PySem.W.subIn K (.ref C) (.ref P)=some true) (pb:PySem.W.subIn K (.ref P) (.type "BaseException")=some true) (hP:PySem.W.excIn K P bmVE "ValueError.__new__"=true)
  (hq:Q true ⟨h,g,d,t,os⟩):wpAny M A (excMatches (.ref a) (.ref P)) Q E ⟨h,g,d,t,os⟩:=by
 obtain⟨bm,N,nm,qn,bs,hd,sn,sub,ab,col,dd,k0,k1,k2,k3,k5,mN,hC,_⟩:=a8y X hP;have f1:=tc_notTuple;have f2:=PySem.W.looks_subIn (M:=M) X pb;have f3:=PySem.W.looks_subIn (M:=M) X up;obtain⟨oc,od,dt,sl⟩:=o;have hc':oc=.ref C:=hc;subst hc';unfold excMatches;walk_at "xc"
 repeat (first|refine f2.at ?_|refine f3.at ?_|(with_reducible refine b9K hC ?_)|(with_reducible refine b9K hx ?_)|wp_step)
 exact hq
section
variable{X:Cx}{pos:Pos}
end
section
variable{X:Cx}{pins:PNS}{σ σ':St}{H:Hp}{s:b7Y}
end
section
variable{X:Cx}{body:List Stmt}
noncomputable abbrev Cx.tried(X:Cx)(pn:PNS)(xe:VPR):Cx:={ X with pn:=pn,xe:=xe }
noncomputable abbrev Cx.held(X:Cx)(a:Addr):Cx:={ X with A:=X.A.mark (some (.ref a)),calm:=false,xe:=fun _ _=>False }
theorem Cx.Ok.tried{X:Cx}(ok:X.Ok)(pn:PNS)(xe:VPR):(X.tried pn xe).Ok :=
 ⟨ok.mod,ok.kind,ok.glob,ok.blt,ok.above,ok.inj,ok.has,ok.cab,ok.hd,ok.frames,ok.stk,ok.exf,ok.bs,ok.bsz,ok.noex,ok.exfs,ok.funs,ok.frf⟩
theorem Cx.Ok.held{X:Cx}(ok:X.Ok)(a:Addr):(X.held a).Ok :=
 ⟨ok.mod,ok.kind,ok.glob,ok.blt,ok.above,ok.inj,ok.has,ok.cab,fun z=>c3q z,ok.frames,ok.stk,ok.exf,ok.bs,ok.bsz,ok.noex,ok.exfs,ok.funs,ok.frf⟩
end
section
variable{K:PySem.W.Frag}{mg:SOV}{P:Addr}{cs:List (Str×Addr)}
end
section
variable{X:Cx}
end
section
variable{X:Cx}
end
section
variable{X:Cx}{d:Addr}{ks:List (Str×Addr)}
end
structure DfA(P:b8n)(w:b8F)(K:PySem.W.Frag)(mg:SOV)(base:Heap)(n:Nat)(f:Addr)(ps:LSS)(sp:Sp3):Prop where
 out:∃fd,FnOk P w K mg base CX0 n f fd ps (dSp K sp)/\PySem.W.keepIn K (.ref f)=true/\a1l K fd ps []
section
variable{X:Cx}{d:Addr}{ks:List (Str×Addr)}
end
noncomputable def flT:T->Bool
 |.non=>true
 |.bl _=>true
 |.int _=>true
 |.str _=>true
 |_=>false
noncomputable def toV:T->V
 |.bl b=>.bl b
 |.int i=>.int i
 |.str z=>.str z
 |_=>.non
theorem b3m{K:PySem.W.Frag}{H:Hp}{v:V}{t:T}(f:flT t=true)(r:Rep K H v t):v=toV t:=by
 cases t with
 |non=>exact a4l r
 |bl b=>exact a2f r
 |int i=>exact a0q r
 |str z=>exact a0r r
 |_=>cases f
theorem a7x{K:PySem.W.Frag}{H:Hp}:∀{vs:List V} {ts:List T},ts.all flT=true->Reps K H vs ts->vs=ts.map toV
 |vs,[],_,r=>by unfold Reps at r;exact r
 | vs,t::ts,f,r=>by
   unfold Reps at r;obtain⟨v,w,rfl,r1,r2⟩:=r;rw[c0f,b8m] at f;rw[b3m f.1 r1,a7x f.2 r2];rfl
theorem a5p{t:T}(f:flT t=true):a4Q (toV t)=true:=by
 cases t<;>first|rfl|cases f
theorem a3N:∀{ts:List T},ts.all flT=true->(ts.map toV).all a4Q=true
 |[],_=>rfl
 | t::ts,f=>by
   rw[c0f,b8m] at f;rw[b8o,c0f,a5p f.1,a3N f.2];rfl
theorem b5m{x y:T}(f:flT x=true)(g:flT y=true):eqV (toV x) (toV y)=eqT x y:=by
 cases x with
 |tup _=>cases f
 |adr _=>cases f
 |rd _=>cases f
 |dic _ _=>cases f
 | _ =>
   cases y with
   |tup _=>cases g
   |adr _=>cases g
   |rd _=>cases g
   |dic _ _=>cases g
   |_=>rfl
noncomputable def inT(x:T)(ts:List T):Bool:=ts.any fun y=>eqT y x
theorem a9I{x:T}(f:flT x=true):∀{ts:List T},ts.all flT=true->inV (toV x) (ts.map toV)=inT x ts
 |[],_=>rfl
 | t::ts,g=>by
   rw[c0f,b8m] at g;have:=a9I f g.2
   unfold inV inT at this|-
   rw[b8o,b8U,b8U,b5m g.1 f,this]
noncomputable def rIn3(neg:Bool):R3:=fun x y M Q=>flT x=true/\match y with
 |.tup ts=>ts.all flT=true/\Q (.bl (if neg then !inT x ts else inT x ts)) M
 | .adr p=>match M p with
   |some (.lst ts)=>ts.all flT=true/\Q (.bl (if neg then !inT x ts else inT x ts)) M
   |_=>False
 |_=>False
section
variable{X:Cx}
theorem b4y{neg:Bool}{f:b8g->b8g->Sem b8g}(ho:OpR X f (rIn X.K neg)):OpR3 X f (rIn3 neg):=by
 intro pins s σ H x y v u Q2 I rx ry q;obtain⟨a,b,M,Q,r1,r2,hh,q,en⟩:=q;unfold rIn3 at q;obtain⟨fa,q⟩:=q;obtain rfl:=b3m fa r1;split at q
 ·obtain⟨p,xs,rfl,h1,h2⟩:=a1w r2;obtain rfl:=a7x q.1 h2;refine ho pins s σ H _ _ v u Q2 I rx ry ⟨p,_,rfl,.inr h1,a5p fa,a3N q.1,?_⟩;rw[a9I fa q.1];exact en _ _ M H Kp.refl hh a0Z q.2
 ·rename_i p;split at q
  ·rename_i ts e;obtain⟨xs,h1,h2⟩:=hh _ _ e;obtain rfl:=a0n r2;obtain rfl:=a7x q.1 h2;refine ho pins s σ H _ _ v u Q2 I rx ry ⟨p,_,rfl,(.inl (.inl (.inl h1))),a5p fa,a3N q.1,?_⟩;rw[a9I fa q.1];exact en _ _ M H Kp.refl hh a0Z q.2
  ·exact q.elim
 ·exact q.elim
theorem b3q:OpR3 X (compareOp .In) (rIn3 false):=b4y b0t
end
section
variable{X:Cx}{Ha:Hp}{body:List Stmt}{pos:Pos}
end
end L2
namespace L2
open PySem PySem.Spec PyProof.Rows
open AutoSeq1 (wpAny_loadPart')
section
variable{prog:b8n}{w:b8F}{A:b8w}{E:VPR}{s:b7Y}
end
section
variable{X:Cx}
end
noncomputable def b5w:TS3:=fun _ _ _=>False
theorem b1R{X:Cx}{Ha:Hp}{ss:List Stmt}:HSsX X Ha ss b5w:=fun _ _ _ h=>h.elim
end L2
namespace L2
open PySem PySem.Spec PyProof.Rows
section
variable{prog:b8n}{w:b8F}{A:b8w}{E:VPR}{s:b7Y}
end
section
variable{X:Cx}
end
theorem b6z{α:Type}{us:List α}{P:List α->Prop}(hl:us.length=1)(h:∀a:α,P [a]):P us:=by
 obtain⟨a,rfl⟩:=List.length_eq_one_iff.mp hl;exact h a
theorem b6y{α:Type}{us:List α}{P:List α->Prop}(hl:us.length=2)(h:∀a b:α,P [a,b]):P us:=by
 obtain⟨a,r,rfl⟩:=b8J hl;exact b6z (P:=fun r=>P (a::r)) (c1n hl) (h a)
theorem b6x{α:Type}{us:List α}{P:List α->Prop}(hl:us.length=3)(h:∀a b c:α,P [a,b,c]):P us:=by
 obtain⟨a,r,rfl⟩:=b8J hl;exact b6y (P:=fun r=>P (a::r)) (c1n hl) (h a)
theorem b6w{α:Type}{us:List α}{P:List α->Prop}(hl:us.length=4)(h:∀a b c d:α,P [a,b,c,d]):P us:=by
 obtain⟨a,r,rfl⟩:=b8J hl;exact b6x (P:=fun r=>P (a::r)) (c1n hl) (h a)
theorem b6v{α:Type}{us:List α}{P:List α->Prop}(hl:us.length=5)(h:∀a b c d e:α,P [a,b,c,d,e]):P us:=by
 obtain⟨a,r,rfl⟩:=b8J hl;exact b6w (P:=fun r=>P (a::r)) (c1n hl) (h a)
theorem b7H{α:Type}{us:List α}{P:List α->Prop}(hl:us.length=6)(h:∀a b c d e f:α,P [a,b,c,d,e,f]):P us:=by
 obtain⟨a,r,rfl⟩:=b8J hl;exact b6v (P:=fun r=>P (a::r)) (c1n hl) (h a)
theorem b7I{α:Type}{us:List α}{P:List α->Prop}(hl:us.length=0)(h:P []):P us:=by obtain rfl:=b9R hl;exact h
section
variable{X:Cx}
end
section
variable{X:Cx}
end
end L2
namespace L2
open PySem PySem.Spec PyProof.Rows LM
section
variable{κ:Type}[DecidableEq κ]
end
section
variable{X:Cx}
end
section
variable{X:Cx}
end
section
variable{prog:b8n}{w:b8F}{A:b8w}{E:VPR}{s:b7Y}
end
section
variable{X:Cx}{pos:Pos}
end
section
variable{X:Cx}{Ha:Hp}{a b:Expr}{ta tb:TE3}{tA:TT3}{pos:Pos}
end
section
variable{X:Cx}{Ha:Hp}
end
section
variable{X:Cx}{pos:Pos}
end
section
variable{X:Cx}
end
section
variable{X:Cx}
end
section
variable{X:Cx}{e:Expr}{te:TE3}{p p2 pos pos2:Pos}
end
section
variable{X:Cx}
end
section
variable{P:b8n}{w:b8F}{A:b8w}{E:VPR}{s:b7Y}
end
section
variable{X:Cx}
end
section
variable{X:Cx}
end
section
variable{P:b8n}{w:b8F}{A:b8w}{E:VPR}{s:b7Y}
end
section
variable{P:b8n}{w:b8F}{A:b8w}{E:VPR}{s:b7Y}{K:Type}[DecidableEq K]{knd:KeyKind P w K}
end
section
variable{X:Cx}
theorem a3a{K:PySem.W.Frag}{H:Hp}:∀{kv:List (Key×V)} {ks:List (Key×T)},KRep K H kv ks->kv.map c0G=ks.map c0G
 |[],[],_=>rfl
 |p::r,q::u,h=>by rw[b8o,b8o,h.1,a3a h.2.2]
 |[],q::u,h=>h.elim
 |p::r,[],h=>h.elim
end
section
variable{P:b8n}{w:b8F}{A:b8w}{E:VPR}{s:b7Y}
theorem a8b:∀{xs:List V} {us:LSV},xs.length=us.length->(∀(i:Nat) (x:V) (u:b8g),xs[i]?=some x->us[i]?=some u->RelV x u)->Vals xs us
 |[],[],_,_=>.nil
 |[],u::us,h,_=>by cases h
 |x::xs,[],h,_=>by cases h
 |x::xs,u::us,h,f=>.cons (f 0 x u rfl rfl) (a8b (by rw[b8t,b8t] at h;lia) fun i x' u' h1 h2=>f (i+1) x' u' (by simpa using h1) (by simpa using h2))
end
section
variable{X:Cx}
end
noncomputable abbrev Po:=List (Int×Int)
noncomputable def co:Po->Int->Int
 |[],_=>0
 |x::r,k=>(if x.1=k then x.2 else 0)+co r k
noncomputable def CanP(p:Po):Prop:=p.Pairwise (fun a b=>a.1<b.1)/\∀x∈p,x.2≠0
theorem b5b{p:Po}{k:Int}(h:∀x∈p,x.1≠k):co p k=0:=by
 induction p with
 |nil=>rfl
 | cons x r ih =>
   show(if x.1=k then x.2 else 0)+co r k=0
   rw[if_neg (h x (.head _)),ih fun y hy=>h y (.tail _ hy)];rfl
noncomputable def putP(k c:Int):Po->Po
 |[]=>if c=0 then [] else [(k,c)]
 |x::r=>if k<x.1 then (if c=0 then x::r else (k,c)::x::r) else if k=x.1 then (if x.2+c=0 then r else (k,x.2+c)::r) else x::putP k c r
noncomputable def norm:Po->Po
 |[]=>[]
 |x::r=>putP x.1 x.2 (norm r)
theorem b1z(k c:Int):∀(p:Po) (j:Int),co (putP k c p) j=(if k=j then c else 0)+co p j
 | [],j=>by
   show co (if c=0 then [] else [(k,c)]) j=(if k=j then c else 0)+0
   by_cases h:c=0
   ·rw[if_pos h,h]
    show 0=(if k=j then 0 else 0)+0
    split<;>rfl
   ·rw[if_neg h];rfl
 | x :: r,j=>by
   show co (if k<x.1 then (if c=0 then x::r else (k,c)::x::r) else if k=x.1 then (if x.2+c=0 then r else (k,x.2+c)::r) else x::putP k c r) j=(if k=j then c else 0)+((if x.1=j then x.2 else 0)+co r j)
   by_cases h1:k<x.1
   ·rw[if_pos h1];by_cases h:c=0
    ·rw[if_pos h,h]
     show(if x.1=j then x.2 else 0)+co r j=_
     split<;>split<;>lia
    ·rw[if_neg h];rfl
   ·rw[if_neg h1];by_cases h2:k=x.1
    ·rw[if_pos h2];by_cases h:x.2+c=0
     ·rw[if_pos h];split<;>split<;>lia
     ·rw[if_neg h]
      show(if k=j then x.2+c else 0)+co r j=_
      split<;>split<;>lia
    ·rw[if_neg h2]
     show(if x.1=j then x.2 else 0)+co (putP k c r) j=_
     rw[b1z k c r j];lia
theorem b0i{k c m:Int}(hk:m<k):∀{p:Po},(∀x∈p,m<x.1)->∀x∈putP k c p,m<x.1
 | [],_,x,hx=>by
   have hx:x∈(if c=0 then [] else [(k,c)]):=hx
   split at hx
   ·cases hx
   ·rw[b9n.mp hx];exact hk
 | y :: r,h,x,hx=>by
   have hx:x∈(if k<y.1 then (if c=0 then y::r else (k,c)::y::r) else if k=y.1 then (if y.2+c=0 then r else (k,y.2+c)::r) else y::putP k c r):=hx
   split at hx
   ·split at hx
    ·exact h x hx
    ·rcases b8l.mp hx with e|e
     ·rw[e];exact hk
     ·exact h x e
   ·split at hx
    ·split at hx
     ·exact h x (.tail _ hx)
     ·rcases b8l.mp hx with e|e
      ·rw[e];exact hk
      ·exact h x (.tail _ e)
    ·rcases b8l.mp hx with e|e
     ·rw[e];exact h y (.head _)
     ·exact b0i hk (fun z hz=>h z (.tail _ hz)) x e
theorem a7a(k c:Int):∀{p:Po},CanP p->CanP (putP k c p)
 | [],_=>by
   show CanP (if c=0 then [] else [(k,c)])
   split
   ·exact⟨.nil,fun _ h=>absurd h c0L⟩
   ·rename_i h;exact⟨c1K _ _,fun x hx=>by rw[b9n.mp hx];exact h⟩
 | y :: r,h=>by
   obtain⟨h1,h2⟩:=List.pairwise_cons.mp h.1
   show CanP (if k<y.1 then (if c=0 then y::r else (k,c)::y::r) else if k=y.1 then (if y.2+c=0 then r else (k,y.2+c)::r) else y::putP k c r)
   split
   ·rename_i a;split
    ·exact h
    ·rename_i b;refine⟨c1o.mpr ⟨fun z hz=>?_,h.1⟩,fun z hz=>?_⟩
     ·rcases b8l.mp hz with e|e
      ·rw[e];exact a
      ·exact Int.lt_trans a (h1 z e)
     ·rcases b8l.mp hz with e|e
      ·rw[e];exact b
      ·exact h.2 z e
   ·split
    ·rename_i a b;split
     ·exact⟨h2,fun z hz=>h.2 z (.tail _ hz)⟩
     ·rename_i d;refine⟨c1o.mpr ⟨fun z hz=>by rw[b];exact h1 z hz,h2⟩,fun z hz=>?_⟩;rcases b8l.mp hz with e|e
      ·rw[e];exact d
      ·exact h.2 z (.tail _ e)
    ·rename_i a b;have ih:=a7a k c (p:=r) ⟨h2,fun z hz=>h.2 z (.tail _ hz)⟩;refine⟨c1o.mpr ⟨fun z hz=>b0i (by lia) h1 z hz,ih.1⟩,fun z hz=>?_⟩;rcases b8l.mp hz with e|e
     ·rw[e];exact h.2 y (.head _)
     ·exact ih.2 z e
theorem b1A:∀(p:Po) (k:Int),co (norm p) k=co p k
 |[],_=>rfl
 | x::r,k=>by
   show co (putP x.1 x.2 (norm r)) k=(if x.1=k then x.2 else 0)+co r k
   rw[b1z,b1A r]
theorem a7b:∀p:Po,CanP (norm p)
 |[]=>⟨.nil,fun _ h=>absurd h c0L⟩
 |x::r=>a7a x.1 x.2 (a7b r)
theorem b0e{K:PySem.W.Frag}{H:Hp}:Reps K H [] []:=by unfold Reps;rfl
theorem a1K{K:PySem.W.Frag}{H:Hp}{v:V}{t:T}{vs:List V}{ts:List T}(a:Rep K H v t)(b:Reps K H vs ts):Reps K H (v::vs) (t::ts):=by unfold Reps;exact⟨v,vs,rfl,a,b⟩
theorem b0f{K:PySem.W.Frag}{H:Hp}{u:Addr}{xs:List V}{its:Array b8g}{n:Nat}{sl:AOV}{ts:List T}(l:K.lookup u=some ⟨.type "tuple",none,.seq its n,sl⟩)(hz:its.size<=1000)(v:Vals xs its.toList)(r:Reps K H xs ts):Rep K H (.ref u) (.tup ts) :=
 a1t (.inr ⟨_,its,n,l,rfl,rfl,rfl,by rw[c0A];lia,v⟩) r
section
variable{X:Cx}
theorem b1a{x:Str}{a:Addr}{t:T}{pos:Pos}(c:X.mg x=some (.ref a)/\∀H,Rep X.K H (.ref a) t)(hg:Gl X x:=by rfl)(hd:QDD x:=by decide):HE X (.Name x pos) (tK t):=fun ρ M Q q=>(a7A (v:=.ref a) hg c.1 rfl hd).imp fun σ H Q2 ⟨hr,hh,en⟩=>en t _ M H Kp.refl hh (c.2 H) q
end
section
variable{X:Cx}{a b e:Expr}{pos:Pos}
end
section
variable{X:Cx}{Ha:Hp}{e:Expr}{te:TE3}{pos:Pos}
end
section
variable{X:Cx}
end
section
variable{X:Cx}
end
section
variable{X:Cx}
end
section
variable{X:Cx}
end
noncomputable abbrev Lp:={p:Po // CanP p}
noncomputable def toL(p:Po):Lp:=⟨norm p,a7b p⟩
theorem co_L(p:Po)(c:Int):co (toL p).1 c=co p c:=b1A p c
section
variable{P:b8n}{w:b8F}{A:b8w}{E:VPR}{s:b7Y}
end
section
variable{X:Cx}
end
section
variable{R:Type}[Lean.Grind.CommRing R]
end
noncomputable def b6Y(a b:Int)(x:Lp):Prop:=∀c,co x.1 c≠0->a<=c/\c<=b
theorem b6Y.of{a b:Int}{p:Po}(h:∀z∈p,a<=z.1/\z.1<=b):b6Y a b (toL p):=fun c hc=>by
 rw[co_L] at hc;by_cases z:∃y∈p,y.1=c
 ·obtain⟨y,hy,rfl⟩:=z;exact h y hy
 ·exact absurd (b5b fun y hy e=>z ⟨y,hy,e⟩) hc
section
variable{P:b8n}{w:b8F}{A:b8w}{E:VPR}{s:b7Y}
end
section
variable{X:Cx}{e f:Expr}
end
section
variable{X:Cx}{e:Expr}{te:TE3}{p p2 pos pos2:Pos}
end
section
variable{X:Cx}
end
section
variable{X:Cx}{pos:Pos}
end
section
variable{X:Cx}{pos:Pos}
end
section
variable{P:b8n}{w:b8F}{A:b8w}{E:VPR}{s:b7Y}
end
section
variable{X:Cx}
end
noncomputable def rInK(f:Bool->Bool):R3:=fun x y M Q=>match y with
 | .adr p=>(match M p with
   |some (.dk kvs)=>∃kk,x=keyT kk/\Q (.bl (f (valT kvs kk).isSome)) M
   |_=>False)
 |_=>False
theorem b0J{κ:Type}[DecidableEq κ]{K:PySem.W.Frag}{H:Hp}{xs:List (κ×V)}{kvs:List (κ×T)}(h:KRep K H xs kvs)(k:κ):(valV xs k).isSome=(valT kvs k).isSome:=by
 have:=h.val k;cases e:valT kvs k with
 |none=>rw[e] at this;rw[this];rfl
 |some t=>rw[e] at this;obtain⟨v,e1,_⟩:=this;rw[e1];rfl
noncomputable def b4X(kvs:List (Key×T))(k:Key):List (Key×T):=kvs.filter fun kv=>decide (kv.1≠k)
theorem a6G{K:PySem.W.Frag}{H:Hp}(k:Key):∀{xs:List (Key×V)} {kvs:List (Key×T)},KRep K H xs kvs->KRep K H (a6Q xs k) (b4X kvs k)
 |[],[],_=>trivial
 | p::r,q::u,h=>by
   have ih:=a6G k h.2.2
   unfold a6Q b4X at ih|-
   rw[c0J,c0J,h.1];by_cases c:q.1=k
   ·rw[if_neg (by simpa using c),if_neg (by simpa using c)];exact ih
   ·rw[if_pos (by simpa using c),if_pos (by simpa using c)];exact⟨h.1,h.2.1,ih⟩
 |[],q::u,h=>h.elim
 |p::r,[],h=>h.elim
noncomputable def b5r(td tk:TE3):TE3:=fun ρ M Q=>td ρ M fun x M1=>b2I M1 x/\tk ρ M1 fun k M2=>match x with
 | .adr p=>(match M2 p with
   |some (.dk kvs)=>∃kk t,k=keyT kk/\valT kvs kk=some t/\Q t (updM M2 p (.dk (b4X kvs kk)))
   |_=>False)
 |_=>False
section
variable{X:Cx}
theorem b4x(hu:X.A.units+64<cLine):OpR3 X (compareOp .In) (rInK id):=by
 intro pins s σ H x y v u Q2 I rx ry q;obtain⟨a,b,M,Q,r1,r2,hh,q,en⟩:=q;unfold rInK at q;split at q
 ·split at q
  ·rename_i kvs e;obtain⟨kk,rfl,q⟩:=q;obtain rfl:=a0n r2;obtain rfl:=a3X r1;obtain⟨xs,g1,g2⟩:=hh _ _ e;cases ry;refine d_in (by lia) I (DGet.k (k:=kk) g1) rx fun s' I'=>⟨.bl _,H,I',rfl,en _ _ M H Kp.refl hh a0Z ?_⟩;rw[b0J g2 kk];exact q
  ·exact q.elim
 ·exact q.elim
theorem b6L{o e:Expr}{td tk:TE3}{apos cpos:Pos}(ho:HE X o td)(he:HE X e tk) 
  (m1:attributeBase o "pop" X.env (eval o X.env)=eval o X.env:=by rfl)
  (m2:((backTo cpos (starEach [e] X.env)).all (fun x=>!x.1)&&(backToKw cpos (keywordEach [] X.env)).all (fun x=>x.1.isSome)
   && decide (([e]:LSE).length+([]:List c1Y).length+(if ([]:List c1Y).isEmpty then 0 else 1)<30))=true:=by rfl)
  (m3:QLL apos cpos:=by rfl) (m4:backTo cpos (starEach [e] X.env)=[(false,eval e X.env)]:=by rfl):HE X (.Call (.Attribute o "pop" apos) [e] [] cpos) (b5r td tk):=fun ρ M Q h =>
 (b2m (ho.d (ρ:=ρ)) (he.d (ρ:=ρ)) ⟨m1,m2,m3,m4⟩).imp fun σ H Q2 ⟨hr,hh,en⟩=>⟨M,_,h,hr,hh,fun x v M1 H1 k1 h1 r1 q1=>by
  obtain⟨hd,q1⟩:=q1;obtain⟨a,rfl,isd⟩:=b2H h1 r1 hd;refine⟨a,rfl,isd,M1,_,q1,hr.kp k1,h1,fun y v2 M2 H2 k2 h2 r2 q2=>?_⟩;cases x with
  | adr p =>
    cases r1;dsimp only at q2;split at q2
    ·rename_i kvs e0;obtain⟨kk,t,rfl,ev,q2⟩:=q2;obtain rfl:=a3X r2;obtain⟨xs,g1,g2⟩:=h2 _ _ e0;have hv:=g2.val kk;rw[ev] at hv;obtain⟨u,e1,e2⟩:=hv;have kk':=Kp.dict (K:=X.K) (u:=.dK (a6Q xs kk)) g1 (.inl ⟨_,rfl⟩);exact⟨xs,kk,u,g1,rfl,e1,en _ _ _ _ ((k1.trans k2).trans kk') (h2.setK g1 (.inl ⟨_,rfl⟩) (a6G kk g2)) (Rep.kp kk' _ _ e2) q2⟩
    ·exact q2.elim
  |_=>exact hd.elim⟩
end
section
end
section
end
section
end
section
end
structure DfXA(P:b8n)(w:b8F)(K:PySem.W.Frag)(mg:SOV)(base:Heap)(n:Nat)(f:Addr)(ps:LSS)(sp:Sp3X):Prop where
 out:∃fd,FnOk P w K mg base (CXE P w) n f fd ps (dSpX K mg sp)/\PySem.W.keepIn K (.ref f)=true/\a1l K fd ps []
section
variable{X:Cx}{Ha:Hp}{o i e:Expr}{es:LSE}{tc:TE3}{t:TA3}{p2 pos:Pos}
end
end L2
namespace L2
open PySem PySem.Spec PyProof.Rows
section
variable{prog:b8n}{w:b8F}{A:b8w}{E:VPR}{s:b7Y}{z:Array Keyed}{k:b8g->Int}{c:SortKind}
end
section
variable{prog:b8n}{w:b8F}{A:b8w}{E:VPR}{s:b7Y}
end
section
variable{prog:b8n}{w:b8F}{A:b8w}{E:VPR}{s:b7Y}
end
section
variable{X:Cx}{pins:PNS}{σ:St}{H:Hp}{s:b7Y}
end
section
variable{X:Cx}
end
theorem a8t{K:PySem.W.Frag}{H:Hp}{f:Str}{t:T}:∀{xs:List (Str×V)} {fs:List (Str×T)},KRep K H xs fs->fs.lookup f=some t->∃v,xs.lookup f=some v/\Rep K H v t
 |[],[],_,e=>by simp at e
 | p::r,q::u,h,e=>by
   obtain⟨h1,h2,h3⟩:=h;obtain⟨a,v⟩:=p;obtain⟨b,t'⟩:=q;dsimp only at h1 h2;subst h1;by_cases c:f=a
   ·have hb:(f==a)=true:=beq_iff_eq.mpr c
    simp only[b9A,hb] at e|-
    obtain rfl:=b8s e;exact⟨v,rfl,h2⟩
   ·have hb:(f==a)=false:=beq_eq_false_iff_ne.mpr c
    simp only[b9A,hb] at e|-
    exact a8t h3 e
 |[],q::u,h,_=>h.elim
 |p::r,[],h,_=>h.elim
theorem a5P{K:PySem.W.Frag}{H:Hp}{f:Str}:∀{xs:List (Str×V)} {fs:List (Str×T)},KRep K H xs fs->fs.lookup f=none->xs.lookup f=none
 |[],[],_,_=>rfl
 | p::r,q::u,h,e=>by
   obtain⟨h1,h2,h3⟩:=h;obtain⟨a,v⟩:=p;obtain⟨b,t'⟩:=q;dsimp only at h1 h2;subst h1;by_cases c:f=a
   ·have hb:(f==a)=true:=beq_iff_eq.mpr c;simp only[b9A,hb] at e;cases e
   ·have hb:(f==a)=false:=beq_eq_false_iff_ne.mpr c
    simp only[b9A,hb] at e|-
    exact a5P h3 e
 |[],q::u,h,_=>h.elim
 |p::r,[],h,_=>h.elim
noncomputable def b2a(f:Str)(t:T):List (Str×T)->List (Str×T)
 |[]=>[(f,t)]
 |(g,x)::r=>if g=f then (g,t)::r else (g,x)::b2a f t r
theorem a8s{K:PySem.W.Frag}{H:Hp}{f:Str}{v:V}{t:T}(rv:Rep K H v t):∀{xs:List (Str×V)} {fs:List (Str×T)},KRep K H xs fs->KRep K H (putF f v xs) (b2a f t fs)
 |[],[],_=>⟨rfl,rv,trivial⟩
 | (a,y)::r,(b,u)::s,h=>by
   obtain⟨h1,h2,h3⟩:=h;dsimp only at h1 h2;subst h1
   show KRep K H (if a=f then (a,v)::r else (a,y)::putF f v r) (if a=f then (a,t)::s else (a,u)::b2a f t s)
   by_cases c:a=f
   ·rw[if_pos c,if_pos c];exact⟨rfl,rv,h3⟩
   ·rw[if_neg c,if_neg c];exact⟨rfl,h2,a8s rv h3⟩
 |[],q::u,h=>h.elim
 |p::r,[],h=>h.elim
theorem Kp.ob{K:PySem.W.Frag}{H:Hp}{a C dx:Addr}{fs:List (Str×V)}{o:HO}(e:H a=some (.ins C dx fs)):Kp K H (upd H a o):=by
 have hn:∀b u,H b=some u->(∀C' dx' fs',u≠.ins C' dx' fs')->upd H a o b=some u:=fun b u hb hu=>by
  rw[a0k (fun z=>by rw[z,e] at hb;cases hb;exact hu _ _ _ rfl)];exact hb
 refine⟨fun b xs h=>?_,fun b o' u h=>hn _ _ h (by intro _ _ _ z;cases z),fun b xs h=>hn _ _ h (by intro _ _ _ z;cases z)⟩;rcases h with (h|⟨o',h⟩)|h
 ·exact .inl (.inl (hn _ _ h (by intro _ _ _ z;cases z)))
 ·exact .inl (.inr ⟨o',hn _ _ h (by intro _ _ _ z;cases z)⟩)
 ·exact .inr h
noncomputable def b5u(C:Addr)(to:TE3)(f:Str):TE3:=fun ρ M Q=>to ρ M fun x M1=>match x with
 |.adr a=>(match M1 a with|some (.ob D fs)=>D=C/\∃t,fs.lookup f=some t/\Q t M1|_=>False)
 |_=>False
noncomputable def b5I(C:Addr)(to tv:TE3)(f:Str):TS3:=fun D ρ M=>tv ρ M fun y M1=>to ρ M1 fun x M2=>match x with
 |.adr a=>(match M2 a with|some (.ob E fs)=>E=C/\fs.length<1000/\D.nx ρ (updM M2 a (.ob E (b2a f y fs)))|_=>False)
 |_=>False
section
variable{X:Cx}{o value:Expr}{f:Str}{pos pos':Pos}{to tv:TE3}{C:Addr}
theorem a7O(c:Cls X.K C)(n:a3g X.K C f)(ho:HE X o to)(hb:attributeBase o f X.env (eval o X.env)=eval o X.env:=by rfl):HE X (.Attribute o f pos) (b5u C to f):=fun ρ M Q h =>
 (b6f (ho.d (ρ:=ρ)) hb).imp fun σ H Q2 ⟨hr,hh,en⟩=>⟨M,_,h,hr,hh,fun x v M1 H1 k1 h1 r1 q1=>by
  dsimp only at q1;split at q1
  ·rename_i a;obtain rfl:=a0n r1;split at q1
   ·rename_i D fs e;obtain⟨rfl,t,el,q1⟩:=q1;obtain⟨dx,xs,g1,g2⟩:=h1 _ _ e;obtain⟨v,ev,rv⟩:=a8t g2 el;exact⟨a,_,dx,xs,v,rfl,g1,c,n,ev,en _ _ M1 H1 k1 h1 rv q1⟩
   ·exact q1.elim
  ·exact q1.elim⟩
theorem b7l(c:Cls X.K C)(n:a3g X.K C f)(ho:HE X o to)(hv:HE X value tv)(hs:swapsWith value (some (.Attribute o f pos')) pos.line X.env=pure false:=by rfl):HS X (.Assign [.Attribute o f pos'] value pos) (b5I C to tv f):=fun D ρ M h =>
 (b5U (ho.d (ρ:=ρ)) (hv.d (ρ:=ρ)) hs).imp fun D2 σ H ⟨hr,hh,en⟩=>⟨M,_,h,hr,hh,fun y w M1 H1 k1 h1 r1 q1=>⟨M1,_,q1,hr.kp k1,h1,fun x v M2 H2 k2 h2 r2 q2=>by
  dsimp only at q2;split at q2
  ·rename_i a;obtain rfl:=a0n r2;split at q2
   ·rename_i E fs e;obtain⟨rfl,l,q2⟩:=q2;obtain⟨dx,xs,g1,g2⟩:=h2 _ _ e;have kk:Kp X.K H2 (upd H2 a (.ins E dx (putF f w xs))):=Kp.ob g1;refine⟨a,_,dx,xs,rfl,g1,c,n,by rw[g2.length];exact l,?_⟩;refine en.nx ρ _ σ _ ((k1.trans k2).trans kk) (hr.kp ((k1.trans k2).trans kk)) (fun b u eb=>?_) q2;by_cases hb:b=a
    ·subst hb;rw[a0d] at eb;cases eb;exact⟨dx,_,a0y,(a8s (Rep.kp k2 _ _ r1) g2).kp kk⟩
    ·rw[a0t hb] at eb;exact(h2 b u eb).kp kk fun u _ q=>by rw[a0k hb];exact q
   ·exact q2.elim
  ·exact q2.elim⟩⟩
end
noncomputable def a9N(C:Addr)(m:Str)(sp:Sp3)(to:TE3)(t:TA3):TE3:=fun ρ M Q=>to ρ M fun x M1=>match x with
 |.adr a=>(match M1 a with|some (.ob D fs)=>D=C/\fs.lookup m=none/\t ρ M1 fun ts M2=>sp (.adr a::ts) M2 Q|_=>False)
 |_=>False
section
variable{X:Cx}{o e:Expr}{es:LSE}{m:Str}{pos apos:Pos}{to:TE3}{t:TA3}{C g:Addr}{n:Nat}{ps:LSS}{sp:Sp3}
theorem a3G{K:PySem.W.Frag}{H:Hp}{a:Addr}{vs:List V}{ts:List T}(r:Reps K H vs ts):Reps K H (.ref a::vs) (.adr a::ts):=by
 unfold Reps;exact⟨_,_,rfl,a1u,r⟩
theorem a5Q{pl:Sem Bool}(c:Cls X.K C)(hm:Meth X.K C m g)(D:DfA X.prog X.w X.K X.mg X.base n g ps sp)(hr:Room n X.A)(ho:HE X o to)
  (ht:eval (.Call (.Attribute o m apos) [] [] pos) X.env=(do
   let ov <- eval o X.env
   standAt apos.atName
   let (f,first) <- holding [ov] (getMethod ov m pl)
   callWith pos f first (backTo pos (starEach [] X.env)) (backToKw pos (keywordEach [] X.env))):=by rfl) :
  HE X (.Call (.Attribute o m apos) [] [] pos) (a9N C m sp to b3K):=fun ρ M Q h=>by
 obtain⟨fd,F,hk,hb⟩:=D.out
 exact(b2j (ho.d (ρ:=ρ)) c hm F hr hb .nil b4t ht).imp fun σ H Q2 ⟨hrr,hh,en⟩=>⟨M,_,h,hrr,hh,fun x v M1 H1 k1 h1 r1 q1=>by
  dsimp only at q1;split at q1
  ·rename_i a;obtain rfl:=a0n r1;split at q1
   ·rename_i D fs e0;obtain⟨rfl,el,q1⟩:=q1;obtain⟨dx,xs,g1,g2⟩:=h1 _ _ e0;exact⟨a,dx,xs,rfl,g1,a5P g2 el,[.adr a],M1,Q,a3G (by unfold Reps;rfl),h1,q1,en.kp k1⟩
   ·exact q1.elim
  ·exact q1.elim⟩
noncomputable def b3g(C:Addr)(sp:Sp3):TE3:=fun _ M Q=>∀x,M x=none->sp [.adr x] (updM M x (.ob C [])) fun v M2=>v=.non/\Q (.adr x) M2
theorem b6M{x:Str}{p:Pos}(Mk:Mk X.K C g)(D:DfA X.prog X.w X.K X.mg X.base n g ps sp)(hr:Room (n+1) X.A)(hmg:X.mg x=some (.ref C))(hg:Gl X x:=by rfl)(hdb:QDD x:=by decide) :
  HE X (.Call (.Name x p) [] [] pos) (b3g C sp):=fun ρ M Q h=>by
 obtain⟨fd,F,hk,hb⟩:=D.out;refine(b2k Mk F hr hg hmg hb .nil b4t hdb).imp fun σ H Q2 ⟨hrr,hh,en⟩=>?_;intro a dx ha hdx ne;have k1:Kp X.K H (upd H dx (.own a)):=Kp.new hdx;have ha1:(upd H dx (.own a)) a=none:=by rw[a0k (b9t ne)];exact ha
 have k2:Kp X.K (upd H dx (.own a)) (upd (upd H dx (.own a)) a (.ins C dx [])):=Kp.new ha1;refine⟨[.adr a],updM M a (.ob C []),_,a3G (by unfold Reps;rfl),fun b u eb=>?_,h a (hh.free ha),fun t v M' H' k hh' r q=>?_⟩
 ·by_cases z:b=a
  ·subst z;rw[a0d] at eb;cases eb;exact⟨dx,[],a0y,trivial⟩
  ·rw[a0t z] at eb;exact(hh.keep hdx).keep ha1 b u eb
 ·obtain⟨rfl,q⟩:=q;obtain rfl:=a4l r;exact⟨rfl,en _ _ M' H' ((k1.trans k2).trans k) hh' a1u q⟩
end
local macro_rules | `(tactic| walk_at "xc") => `(tactic| (repeat any_goals (first | wp_step | assumption)))
theorem b3B{M:c0I}{A:b8w}{E:VPR}{h:Heap}{g:Array c3s}{d:Drawn}{t:Nat}{os:OsState}{a C P:Addr}{o:Obj}{K:PySem.W.Frag}{Q:Bool->b7Y->Prop}
  (X:K.In h) (hx:h.get? a=some o) (hc:o.cls=.ref C) (up:PySem.W.subIn K (.ref C) (.ref P)=some false) (pb:PySem.W.subIn K (.ref P) (.type "BaseException")=some true) (hP:PySem.W.excIn K P bmVE "ValueError.__new__"=true)
  (hq:Q false ⟨h,g,d,t,os⟩):wpAny M A (excMatches (.ref a) (.ref P)) Q E ⟨h,g,d,t,os⟩:=by
 obtain⟨bm,N,nm,qn,bs,hd,sn,sub,ab,col,dd,k0,k1,k2,k3,k5,mN,hC,_⟩:=a8y X hP;have f1:=tc_notTuple;have f2:=PySem.W.looks_subIn (M:=M) X pb;have f3:=PySem.W.looks_subIn (M:=M) X up;obtain⟨oc,od,dt,sl⟩:=o;have hc':oc=.ref C:=hc;subst hc';unfold excMatches;walk_at "xc"
 repeat (first|refine f2.at ?_|refine f3.at ?_|(with_reducible refine b9K hC ?_)|(with_reducible refine b9K hx ?_)|wp_step)
 exact hq
section
variable{X:Cx}{body:List Stmt}
noncomputable def b5p(tb:EK3->TS3)(n1 n2:Str)(t1 t2:TS3):TS3:=fun D ρ M=>tb (fun nm ρ' M'=>(nm=n1/\t1 D ρ' M')\/(nm=n2/\t2 D ρ' M')) D ρ M
structure XTwo(K:PySem.W.Frag)(mg:SOV)(n1 n2:Str):Prop where
 out:∃C1 C2,mg n1=some (.ref C1)/\mg n2=some (.ref C2)/\PySem.W.excIn K C1 bmVE "ValueError.__new__"=true/\PySem.W.excIn K C2 bmVE "ValueError.__new__"=true /\
  PySem.W.subIn K (.ref C1) (.type "BaseException")=some true/\PySem.W.subIn K (.ref C2) (.type "BaseException")=some true /\
  PySem.W.subIn K (.ref C1) (.ref C1)=some true/\PySem.W.subIn K (.ref C2) (.ref C2)=some true/\PySem.W.subIn K (.ref C2) (.ref C1)=some false
theorem b5D{tb:EK3->TS3}{n1 n2:Str}{b1 b2:Stmt}{bs1 bs2:List Stmt}{t1 t2:TS3}{np1 np2 hpos1 hpos2 pos:Pos}
  (hcalm:X.calm=true) (hex:X.ex=[]) (hst:X.stack=X.env::X.outer) (hfr:X.env.frame=some X.env.locals)
  (hb:∀(pn:PNS) (xe:VPR) (Ha:Hp) (E3:EK3),Acc (X.tried pn xe) Ha E3->HSsX (X.tried pn xe) Ha body (tb E3))
  (hx:XTwo X.K X.mg n1 n2) (h1:∀a,HSs (X.held a) (b1::bs1) t1) (h2:∀a,HSs (X.held a) (b2::bs2) t2)
  (hg1:Gl X n1:=by rfl) (hg2:Gl X n2:=by rfl) (hd1:(n1==("__debug__":Str))=false:=by decide) (hd2:(n2==("__debug__":Str))=false:=by decide) :
  HS X (.Try body [.ExceptHandler (some (.Name n1 np1)) none (b1::bs1) hpos1,.ExceptHandler (some (.Name n2 np2)) none (b2::bs2) hpos2] [] [] pos) (b5p tb n1 n2 t1 t2):=by
 intro D3 ρ M h pins s σ H D2 I ⟨hrr,hh,en⟩;obtain⟨C1,C2,m1,m2,x1,x2,p1,p2,u1,u2,u3⟩:=hx;refine c3m ?_
 obtain⟨xe0,hxe⟩:∃xe0:VPR,xe0=fun e s1=>wpAny (model X.prog X.w) X.A (noteFrame e X.env) (fun _ s2=>wpAny (model X.prog X.w) X.A (setFlight e none) (fun _ s3=>wpAny (model X.prog X.w) X.A (handleBy e X.env
   [.ExceptHandler (some (.Name n1 np1)) none (b1::bs1) hpos1,.ExceptHandler (some (.Name n2 np2)) none (b2::bs2) hpos2]) (SP X pins D2) X.xe s3) X.xe s2) X.xe s1:=⟨_,rfl⟩
 have I':Inv (X.tried (X.pn++pins) xe0) [] σ H s :=
  ⟨I.ok.tried _ _,I.os,I.bare,I.base,I.loc,I.cell,I.free,I.freeC,fun p hp=>I.pin p (by simpa using hp),I.hok,I.len⟩
 refine b8H (hb (X.pn++pins) xe0 H _ ?_ D3 ρ M h [] s σ H D2 I' ⟨Kp.refl,hrr,hh,en⟩) (fun f s1 q=>?_) fun _ _ z=>by rw[hxe] at z;exact z
 ·intro pins' σ1 H1 s1 h0 a C nm ρ1 M1 J F old m k r1 hh1 q;have J1:Inv X pins σ1 H1 s1:=⟨I.ok,J.os,J.bare,J.base,J.loc,J.cell,J.free,J.freeC,fun p hp=>J.pin p (b8q _ hp),J.hok,J.len⟩;obtain⟨na,na0,oe,vs,a0,t1',t2',t3,t4,T5,oT,ts,t5,t6,t7,t8,t9,t10,t11⟩:=F;have fA:H1 a=none/\X.s₀.heap.get? a=none/\∀p∈X.pn++pins,p.1≠a:=⟨na,b8y fun z=>old.start a z na0,fun p hp z=>old.pins p (b8q _ hp) (by rw[z];exact na0)⟩;have fT:H1 T5=none/\X.s₀.heap.get? T5=none/\∀p∈X.pn++pins,p.1≠T5:=⟨t7,b8y fun z=>old.start T5 z t8,fun p hp z=>old.pins p (b8q _ hp) (by rw[z];exact t8)⟩;have frames:=I.ok.frames;rw[hst] at frames
  have hl:s1.heap.FunFrames (PySem.W.hideAll s1.heap (a::T5::frs X.stack)) (X.env::X.outer):=by
   rw[<- hst];exact a0D J1.stack fun b hb=>PySem.W.hideAll_none _ (b7Z _ (b7Z _ hb))
  have hfl:c2g (PySem.W.hideAll s1.heap (a::T5::frs X.stack)) (X.env::X.outer) a (.ref C) a0 s1.heap :=
   ⟨fun b o q=>PySem.W.of_hideAll _ q,PySem.W.hideAll_none _ b8e,hl,oe,vs,T5,oT,ts,t1',⟨t2',t4⟩,t3,t5,PySem.W.hideAll_none _ (b7Z _ b8e),t6,t9,t10,t11⟩
  have hB:∀b o,s1.heap.get? b=some o->b∉frs X.stack->b≠a->b≠T5->(PySem.W.hideAll s1.heap (a::T5::frs X.stack)).get? b=some o:=fun b o q hf g1 g2=>PySem.W.hideAll_get _ q fun hm=>by
   rcases b8l.mp hm with z|z
   ·exact g1 z
   ·rcases b8l.mp z with z|z
    ·exact g2 z
    ·exact hf z
  show xe0 (.ref a) s1;rw[hxe];refine c2h frames hfr hfl fun h4 hheld hsm4=>?_;refine c3f (s:={ s1 with heap:=h4 }) hheld fun h5 hfl5 hsm5=>?_;have hsm:s1.heap.UpToSlots h5:=hsm4.trans hsm5
  have J5:Inv (X.held a) pins σ1 H1 { s1 with heap:=h5 }:=by
   have:=J1.flown hex hst hfr hB hfl5.1 hsm fA fT;exact⟨this.ok.held a,this.os,this.bare,this.base,this.loc,this.cell,this.free,this.freeC,this.pin,this.hok,this.len⟩
  obtain⟨ob5,hob5,hcl5⟩:=hfl5.there;have suite:∀(b0:Stmt) (bs:List Stmt) (t:TS3) (hpos:Pos) (R:c1y->b7Y->Prop),(∀a,HSs (X.held a) (b0::bs) t)->t D3 ρ1 M1->(∀f s,SP X pins D2 f s->R (.ok f) s) ->
    codeAny (model X.prog X.w) (X.A.mark (some (.ref a))) (Code.handlers (.ref a) [.ExceptHandler none none (b0::bs) hpos] X.env) R { s1 with heap:=h5 }:=fun b0 bs t hpos R hs ht hR=>by
   refine c1U ?_;refine lands_againW (s:={ s1 with heap:=h5 }) hfl5 fun h6 hfl6 hsm6=>?_
   have J6:Inv (X.held a) pins σ1 H1 { s1 with heap:=h6 }:=by
    have:=J1.flown hex hst hfr hB hfl6.1 (hsm.trans hsm6) fA fT;exact⟨this.ok.held a,this.os,this.bare,this.base,this.loc,this.cell,this.free,this.freeC,this.pin,this.hok,this.len⟩
   have w:=hs a D3 ρ1 M1 ht pins _ σ1 H1 D2 J6 ⟨r1,hh1,en.kp k⟩;refine b8H w (fun f s9 q9=>hR f s9 ?_) fun _ _ z=>z.elim;cases f with
   | brk =>
     obtain⟨σ',H',J9,q⟩:=q9;exact⟨σ',H',⟨I.ok,J9.os,J9.bare,J9.base,J9.loc,J9.cell,J9.free,J9.freeC,J9.pin,J9.hok,J9.len⟩,q⟩
   | cont =>
     obtain⟨σ',H',J9,q⟩:=q9;exact⟨σ',H',⟨I.ok,J9.os,J9.bare,J9.base,J9.loc,J9.cell,J9.free,J9.freeC,J9.pin,J9.hok,J9.len⟩,q⟩
   | ret u =>
     obtain⟨v,σ',H',J9,r,q⟩:=q9;exact⟨v,σ',H',⟨I.ok,J9.os,J9.bare,J9.base,J9.loc,J9.cell,J9.free,J9.freeC,J9.pin,J9.hok,J9.len⟩,r,q⟩
   | next =>
     obtain⟨σ',H',J9,q⟩:=q9;exact⟨σ',H',⟨I.ok,J9.os,J9.bare,J9.base,J9.loc,J9.cell,J9.free,J9.freeC,J9.pin,J9.hok,J9.len⟩,q⟩
  rcases q with ⟨rfl,q⟩|⟨rfl,q⟩
  ·have hCC:C1=C:=by
    have:=m1.symm.trans m;injection this with e;injection e
   subst hCC;refine c0p (c0d (a1v (X:=X.held a) J5 hg1 m1 ?_ hd1)) (by intro q;cases q);refine a5l J5.kIn hob5 hcl5 u1 p1 x1 ?_;exact suite b1 bs1 t1 hpos1 _ h1 q fun f s q=>q
  ·have hCC:C2=C:=by
    have:=m2.symm.trans m;injection this with e;injection e
   subst hCC;refine c0p (c0d (a1v (X:=X.held a) J5 hg1 m1 ?_ hd1)) (by intro q;cases q);refine b3B J5.kIn hob5 hcl5 u3 p1 x1 ?_;refine c0p (c0d (a1v (X:=X.held a) J5 hg2 m2 ?_ hd2)) (by intro q;cases q);refine a5l J5.kIn hob5 hcl5 u2 p2 x2 ?_;exact suite b2 bs2 t2 hpos2 _ h2 q fun f s q=>q
 ·cases f with
  | next =>
    obtain⟨σ',H',J,q⟩:=q;exact b9i ⟨σ',H',⟨I.ok,J.os,J.bare,J.base,J.loc,J.cell,J.free,J.freeC,fun p hp=>J.pin p (b8q _ hp),J.hok,J.len⟩,q⟩
  | brk =>
    obtain⟨σ',H',J,q⟩:=q;exact⟨σ',H',⟨I.ok,J.os,J.bare,J.base,J.loc,J.cell,J.free,J.freeC,fun p hp=>J.pin p (b8q _ hp),J.hok,J.len⟩,q⟩
  | cont =>
    obtain⟨σ',H',J,q⟩:=q;exact⟨σ',H',⟨I.ok,J.os,J.bare,J.base,J.loc,J.cell,J.free,J.freeC,fun p hp=>J.pin p (b8q _ hp),J.hok,J.len⟩,q⟩
  | ret u =>
    obtain⟨v,σ',H',J,r,q⟩:=q;exact⟨v,σ',H',⟨I.ok,J.os,J.bare,J.base,J.loc,J.cell,J.free,J.freeC,fun p hp=>J.pin p (b8q _ hp),J.hok,J.len⟩,r,q⟩
end
theorem Fun.dfnA{P:b8n}{w:b8F}{K:PySem.W.Frag}{mg:SOV}{base:Heap}{n:Nat}{f:Addr}{fd:b9d}{ps:LSS}{sp:Sp3}(F:FnOk P w K mg base CX0 n f fd ps (dSp K sp))(k:PySem.W.keepIn K (.ref f)=true)(hb:a1l K fd ps []):DfA P w K mg base n f ps sp:=⟨fd,F,k,hb⟩
theorem DfA.u{P w K mg base n m f ps sp}(D:DfA P w K mg base n f ps sp)(h:n<=m:=by decide):DfA P w K mg base m f ps sp:=by
 obtain⟨fd,F,a,b⟩:=D.out;exact⟨fd,F.mono h,a,b⟩
theorem DfXA.u{P w K mg base n m f ps sp}(D:DfXA P w K mg base n f ps sp)(h:n<=m:=by decide):DfXA P w K mg base m f ps sp:=by
 obtain⟨fd,F,a,b⟩:=D.out;exact⟨fd,F.mono h,a,b⟩
section
variable{P:b8n}{w:b8F}{K:PySem.W.Frag}{mg:SOV}{base:Heap}
theorem Fun.dfnXA{x qual:Str}{st:Stmt}{f:Addr}{fd:b9d}{N ps:LSS}{n:Nat}{sp:Sp3X}(F:Fun K x qual st f fd)(hb:a1l K fd ps [])(S:FnScope N ps (a0b st))(len:∀ts M Q E,sp ts M Q E->ts.length=ps.length)
  (hbody:∃t:EK3->TS3,(∀(cdv:b8g) (A:b8w) (outer:List Env) (s:b7Y) (H:Hp) (E:XK) (E3:EK3),Room n (A.deeper (envOfC qual (a0b st) s.heap.objs.size f cdv)) ->
   Acc (cxOf (CXE P w) P w K mg base N qual (a0b st) f cdv A outer s H E) H E3->AccN (cxOf (CXE P w) P w K mg base N qual (a0b st) f cdv A outer s H E) H E3 ->
   HSsX (cxOf (CXE P w) P w K mg base N qual (a0b st) f cdv A outer s H E) H (a0K st) (t E3)) /\
   ∀ts M Q E,sp ts M Q E->t (fun nm _ M'=>∃M0,Sub M0 M'/\E nm M0) { nx:=fun _ M'=>rt3 M Q .non M',rt:=rt3 M Q } (a0T N ts) M):DfXA P w K mg base (n+1) f ps sp:=by
 obtain⟨t,hbody,rd⟩:=hbody;refine⟨fd,?_,F.kp,hb⟩;obtain⟨oc,od,kV,doc,pm,an,cdv,ct,osl,rfl,lk,hcd⟩:=F.ex;refine b4U lk hcd S (fun vs H Q E ⟨ts,M,Q3,E3,r,_,q,_⟩=>by rw[r.length];exact len _ _ _ _ q) fun A outer s H vs Q E hr ⟨ts,M,Q3,Ex,r,hh,q,en,ex⟩=>?_;have L:=a4h (P:=P) (w:=w) (K:=K) (mg:=mg) (base:=base) (N:=N) (qual:=qual) (scope:=a0b st) (f:=f) (cd:=cdv) (A:=A) (outer:=outer) (s:=s) (H:=H) (E:=E);refine⟨_,hbody cdv A outer s H E (fun nm _ M'=>∃M0,Sub M0 M'/\Ex nm M0) hr (fun pins σ H' s' h0 a C nm ρ M' I fly old m k _ hh' q'=>?_) (fun pins σ H' s' h' a C vs' nm ρ M' I made m k _ hh' q'=>?_) _ _ _ (rd ts M Q3 Ex q),Kp.refl,a2p r,hh,⟨?_,?_,fun _ _ _ _ _ _ _ z=>z.elim,fun _ _ _ _ _ _ _ z=>z.elim⟩⟩
 ·obtain⟨M0,hs,q2⟩:=q';exact a4i L I (fly.older old.start) (ex nm C M0 H' k (hh'.sub hs) m q2)
 ·obtain⟨M0,hs,q2⟩:=q';exact a3p L I made (ex nm C M0 H' k (hh'.sub hs) m q2)
 ·rintro ρ' M' σ' H' k hr' hh' ⟨M0,hs,q'⟩;exact en .non .non M0 H' k (hh'.sub hs) a2q q'
 ·rintro t' v' M' H' k hh' r' ⟨M0,hs,q'⟩;exact en t' v' M0 H' k (hh'.sub hs) r' q'
end
noncomputable def b3f(C:Addr)(m:Str)(E:EK3)(sp:Sp3X)(to:TE3)(t:TA3):TE3:=fun ρ M Q=>to ρ M fun x M1=>match x with
 |.adr a=>(match M1 a with|some (.ob D fs)=>D=C/\fs.lookup m=none/\t ρ M1 fun ts M2=>sp (.adr a::ts) M2 Q fun nm M3=>E nm ρ M3|_=>False)
 |_=>False
section
variable{X:Cx}{Ha:Hp}{o e:Expr}{es:LSE}{m:Str}{pos apos:Pos}{to:TE3}{t:TA3}{C g:Addr}{n:Nat}{ps:LSS}{sp:Sp3X}
theorem b4Q{pl:Sem Bool}{E:EK3}(A:Acc X Ha E)(hex:X.ex=[])(c:Cls X.K C)(hm:Meth X.K C m g)(D:DfXA X.prog X.w X.K X.mg X.base n g ps sp)(hr:Room n X.A)(ho:HE X o to)(ha:HA X (e::es) t)
  (hst:QSS X e es:=by rfl) (hpl:QPP X pos es:=by rfl)
  (ht:eval (.Call (.Attribute o m apos) (e::es) [] pos) X.env=(do
   let ov <- eval o X.env
   standAt apos.atName
   let (f,first) <- holding [ov] (getMethod ov m pl)
   callWith pos f first (backTo pos (starEach (e::es) X.env)) (backToKw pos (keywordEach [] X.env))):=by rfl) :
  HEX X Ha (.Call (.Attribute o m apos) (e::es) [] pos) (b3f C m E sp to t):=by
 intro ρ M Q h pins s σ H Q2 I bb;obtain⟨ka,hrr,hh,en⟩:=bb;obtain⟨fd,F,hk,hb⟩:=D.out
 refine PySem.W.methodCall_KW (pl:=pl) (thn (ho ρ M _ h pins s σ H (fun v H1=>∃t' M1,Kp X.K H H1/\HR X.K H1 M1/\Rep X.K H1 v t'/\(match t' with
  |.adr a=>(match M1 a with|some (.ob D fs)=>D=C/\fs.lookup m=none/\t ρ M1 fun ts M2=>sp (.adr a::ts) M2 Q fun nm M3=>E nm ρ M3|_=>False)
  |_=>False)) I ⟨hrr,hh,fun t' v M1 H1 k1 h1 r1 q1=>⟨t',M1,k1,h1,r1,q1⟩⟩) fun u s1 ⟨v,H0,I0,rv,t',M0,k0,h0,rt,q1⟩=>?_) ht
 split at q1
 ·rename_i a;split at q1
  ·rename_i D fs e0;obtain⟨rfl,el,q1⟩:=q1;obtain rfl:=a0n rt;cases rv;obtain⟨dx,xs,g1,g2⟩:=h0 _ _ e0;refine a3r I0 g1 c hm (a5P g2 el) ?_
   refine PySem.W.callWith_K (first:=[.ref a]) (h₀:=X.base) I.ok.mod.kin hm.kp (thn (ha ρ M0 _ q1 pos pins _ σ H0 (fun vs H1=>∃ts M1,Kp X.K H0 H1/\HR X.K H1 M1/\Reps X.K H1 vs ts/\sp (.adr a::ts) M1 Q fun nm M2=>E nm ρ M2) I0 ⟨hrr.kp k0,h0,fun ts vs M1 H1 k1 h1 r1 q1=>⟨ts,M1,k1,h1,r1,q1⟩⟩) fun us s2 ⟨vs,H1,I1,r,ts,M1,k1,h1,r1,q2⟩=>⟨I1.kIn,?_⟩) hst hpl
   have r2:Vals ((V.ref a::vs)++[]) ((b8z a::us)++[]):=(show Vals (V.ref a::vs) (b8z a::us) from .cons rfl r).append .nil;have kk:=k0.trans k1
   have q3:dSpX X.K X.mg sp ((V.ref a::vs)++[]) H1 Q2 (fun C _ H'=>∃c nm M',C=.ref c/\X.mg nm=some (.ref c)/\Kp X.K H1 H'/\HR X.K H' M'/\E nm ρ M') :=
    ⟨.adr a::ts,M1,Q,_,by rw[b8O];exact a3G r1,h1,q2,en.kp kk,fun nm C M' H' k' h' m' e'=>⟨C,nm,M',rfl,m',k',h',e'⟩⟩
   have hl:((b8z a::us)++[]).length=ps.length:=by rw[<- r2.length];exact F.len _ _ _ _ q3
   refine c2Q (c1X (F.run X.A X.stack s2 H1 ⟨b8z a::us,[]⟩ ((b8z a::us)++[]) ((V.ref a::vs)++[]) Q2 _ hr I1.env0 (hb s2 (b8z a::us) I1.kIn hl) r2 q3) fun r s' hq=>?_);cases r with
   | error e =>
     obtain⟨a',C',H',rfl,os,bare,un,hok,fly,c',nm,M',rfl,m',k',h',e'⟩:=hq;have J:=I1.call' (H':=H') (ch:=[]) os un hok bare (fun b z=>absurd z (by simp));exact A pins σ H' s' s2.heap a' c' nm ρ M' J fly (I1.older hex) m' (ka.trans (kk.trans k')) (hrr.kp (kk.trans k')) h' e'
   | ok fl =>
     cases fl with
     |ret u=>exact I1.after hq
     |next=>exact b8D hq
     |brk=>exact b8D hq
     |cont=>exact b8D hq
  ·exact q1.elim
 ·exact q1.elim
end
end L2
namespace L2
open PySem PySem.Spec PyProof.Rows LM
noncomputable def a5F:List T->MH->VK3->Prop:=fun xs M Q=>match xs with
 |[.adr p]=>(match M p with|some (.dk kvs)=>∃ns:LSS,kvs.map c0G=ns.map c0o/\ns.length<64/\∀ms:LSS,ms.Perm ns->sortedS ms=true->∀r,M r=none->Q (.adr r) (updM M r (.lst (ms.map .str)))|_=>False)
 |_=>False
theorem a4U:∀{ns:LSS} {us:LSV},Vals (ns.map V.str) us->c4b us ns
 |[],us,h=>by cases h;exact .nil
 | n :: ns,us,h=>by
   cases h with
   | @cons _ u _ us h1 h2 =>
     obtain⟨t,rfl⟩:=h1;exact .cons n t (a4U h2)
theorem a4S:∀{ns:LSS} {us:LSV},c4b us ns->Vals (ns.map V.str) us
 |[],us,h=>by cases h;exact .nil
 | n::ns,us,h=>by
   cases h with
   |cons _ t h=>exact .cons ⟨t,rfl⟩ (a4S h)
section
variable{P:b8n}{w:b8F}{A:b8w}{E:VPR}{s:b7Y}
theorem a6j{d:Addr}{kvs:List (Key×b8g)}{ep:Nat}{ns:LSS}{Q:VPR}(hA:A.handled=none)(hd:s.heap.DictAt (a0H P w) d kvs ep)(lo:(d==sysModules)=false)(hk:kvs.map (·.1)=ns.map c0o)(h64:ns.length<64)
  (h:∀(h1 h':Heap) (tk:Nat) (out:Array b8g) (ns':LSS),(∀b u,s.heap.get? b=some u->h1.get? b=some u)->(∀b u,h1.get? b=some u->h'.get? b=some u)->(∃e,h'.get? h1.objs.size=some (seqObj "list" out e))->c4b out.toList ns'->ns'.Perm ns->sortedS ns'=true->Q (.ref h1.objs.size) { s with heap:=h',toks:=tk }) :
  wpAny (model P w) A (call (.builtin "sorted") [.ref d]) Q E s:=by
 have hl:kvs.length=ns.length:=by
  have:=congrArg c0T hk
  rwa [b8f,b8f] at this
 refine Calls.call_function_entry kind_sorted plain_sorted entry_sorted (args_sorted1 _) ?_;unfold c1u.«sorted»;refine b8a (m:=checkCount "sorted" 1 1 _) (b8r (b8a (PySem.W.kdu_collect (A:=A.in1) (PySem.W.kdl_dict (knd:=a0H P w) (kvs:=kvs) (ep:=ep) lo) hA hd (by rw[hl,c0A];lia) fun h' tk acc hkp hacc=>?_)));obtain⟨hsz,hat⟩:=hacc
 have hI:c4b acc.toList ns:=a4U (a8b (by rw[b8f];exact(hl.symm.trans hsz.symm).trans Array.length_toList.symm) fun i x u h1 h2=>by
  obtain⟨k,y,e1,e2⟩:=hat i u (by rw[<- c2i];exact h2);have e3:(kvs.map (·.1))[i]?=some k:=by rw[b8x,e1];rfl
  rw[hk,b8x] at e3;rw[b8x] at h1;cases en:ns[i]? with
  |none=>rw[en] at h1;cases h1
  | some n =>
    rw[en] at e3 h1;obtain rfl:=b8s h1;have e4:c0o n=k:=b8s e3;subst e4;rw[a9n] at e2;rcases a0B e2 with ⟨j,t,z1,z2⟩|⟨j,t,z1,z2⟩
    ·cases z1
    ·cases z1;exact⟨t,z2⟩)
 refine b8a (wpAny_newList ?_);have hoL:(h'.push (seqObj "list" acc.toList.toArray 0)).get? h'.objs.size=some (seqObj "list" acc.toList.toArray 0):=b8A _ rfl;refine b8a (b9p (c1Q slot_list_sort ⟨_,hoL,rfl⟩ entry_list_sort (list_sort_treeK strKind_oneLt hoL hI.keysOf (fun v1 v2 rest e=>keyKind_strs (e▸hI)) (by rw[b9g,hsz,hl];exact h64) fun st' a1 a2=>⟨_,rfl,?_⟩) (args_list_sort _)));obtain⟨ns',b1,b2,b3⟩:=sorted_out_str hI a1 a2;exact b8r ⟨_,rfl,h h' _ _ _ ns' hkp (fun b u e=>(sortedHeap_old (b8B (b8j e)) (b8c (b8j e) (by show h'.objs.size<=(h'.push (seqObj "list" acc.toList.toArray 0)).objs.size;rw[size_push'];exact c2x _))).trans (b8d _ e)) (sortedHeap_at hoL) b1 b2 b3⟩
end
section
variable{X:Cx}
theorem a5Z(hc:X.calm=true):a2K X (.builtin "sorted") a5F:=by
 intro pins s σ H vs us Q2 I r h;obtain⟨xs,M,Q,rr,hh,q,en⟩:=h;unfold a5F at q;split at q
 ·obtain⟨v,rfl,r1⟩:=a1H rr;obtain rfl:=a0n r1;obtain⟨u,rfl,rx⟩:=a2L r;cases rx;split at q
  ·rename_i kvs e0;obtain⟨ns,hk,h64,q⟩:=q;obtain⟨kv,g1,g2⟩:=hh _ _ e0;obtain⟨kz,lo,vs,r1,dd⟩:=(show a0Y X.prog X.w H s.heap _ (.dK kv) from I.hok _ _ g1);obtain⟨ep,da⟩:=dd.dictAt
   have e1:vs.map (·.1)=ns.map c0o:=by
    rw[<- r1.keys];exact(a3a g2).trans hk
   refine a6j (I.ok.hd hc) da lo e1 h64 fun h1 h' tk out ns' hkp hkp2 ⟨e,hg⟩ a1 a2 a3=>?_;have I1:Inv X pins σ H { s with heap:=h1,toks:=s.toks }:=I.kept hkp;have hfr:H h1.objs.size=none:=I1.hok.fresh (b8k _);have hn:ns'.length<=sizeLine:=by rw[a2.length_eq,c0A];lia
   exact⟨.ref h1.objs.size,_,I1.laid (t':=tk) hkp2 (b8k _) (show a0Y X.prog X.w _ h' _ (.lst (ns'.map V.str)) from ⟨by rw[b8f];exact hn,out.toList,e,a4S a1,by rw[Array.toArray_toList];exact hg⟩),rfl,en _ _ _ _ (Kp.new hfr) (hh.newL hfr (a3O ns')) a1u (q ns' a2 a3 _ (hh.free hfr))⟩
  ·exact q.elim
 ·exact q.elim
noncomputable def b0h:List T->MH->VK3->Prop:=fun xs M Q=>match xs with
 |[.adr p]=>(match M p with|some (.dk kvs)=>∀r,M r=none->Q (.adr r) (updM M r (.dk kvs))|_=>False)
 |_=>False
theorem a7W:a2K X (.type "dict") b0h:=by
 intro pins s σ H vs us Q2 I r h;obtain⟨xs,M,Q,rr,hh,q,en⟩:=h;unfold b0h at q;split at q
 ·obtain⟨v,rfl,r1⟩:=a1H rr;obtain rfl:=a0n r1;obtain⟨u,rfl,rx⟩:=a2L r;cases rx;split at q
  ·rename_i kvs e0;obtain⟨ks,g1,g2⟩:=hh _ _ e0;obtain⟨kz,lo,ws,r1,dd⟩:=(show a0Y X.prog X.w H s.heap _ (.dK ks) from I.hok _ _ g1);have hwl:ws.length<=sizeLine:=by have:=r1.length;lia
   refine kt_call_dict lo dd hwl fun h' hd' hs'=>?_;have hfr:H s.heap.objs.size=none:=I.hok.fresh (b8k _)
   have hsys:(s.heap.objs.size==sysModules)=false:=by
    have:=I.big;simp only[beq_eq_false_iff_ne,ne_eq];exact fun z=>absurd this (by rw[z];exact b9a _)
   exact⟨.ref s.heap.objs.size,_,I.laid (t':=s.toks) (fun b o e=>(hs'.2 b (b8B (b8j e))).trans (b8d _ e)) (b8k _) (show a0Y X.prog X.w _ h' _ (.dK ks) from ⟨kz,hsys,ws,r1,hd'⟩),rfl,en _ _ _ _ (Kp.new hfr) (hh.newK hfr g2) a1u (q _ (hh.free hfr))⟩
  ·exact q.elim
 ·exact q.elim
noncomputable def rNeK:R3:=fun x y M Q=>match x,y with
 |.adr a,.adr b=>∃kvs,M a=some (.dk kvs)/\M b=some (.dk kvs)/\(kvs.map c0G).Nodup/\(∀kv∈kvs,a0i kv.2=true/\depT kv.2<=30)/\Q (.bl false) M
 |_,_=>False
theorem a9F{K:PySem.W.Frag}{H:Hp}:∀{kvs:List (Key×T)} {ys:List (Key×V)} {us:List (Key×b8g)},(kvs.map c0G).Nodup->KRep K H ys kvs->KV ys us->∀kv∈kvs,∃v u,valueAt us kv.1=some u/\RelV v u/\Rep K H v kv.2
 |[],_,_,_,_,_,kv,z=>absurd z c0L
 |q::kvs,[],_,_,h,_,_,_=>h.elim
 | q :: kvs,y::ys,us,nd,h,r,kv,hm=>by
   obtain⟨h1,h2,h3⟩:=h;cases r with
   | @cons _ u _ us a b =>
     obtain⟨a1,a2⟩:=a;rw[b8o,List.nodup_cons] at nd;unfold valueAt;rw[b8M];rcases b8l.mp hm with rfl|hm
     ·have:u.1=kv.1:=a1.symm.trans h1;rw[this,decide_eq_true rfl];exact⟨y.2,u.2,rfl,a2,h2⟩
     ·have:u.1≠kv.1:=fun e=>nd.1 (by rw[<- h1,a1,e];exact List.mem_map.mpr ⟨kv,hm,rfl⟩);rw[decide_eq_false this];exact a9F nd.2 h3 b kv hm
theorem b3s{pins:PNS}{σ:St}{H:Hp}{s:b7Y}{A:b8w}(I:Inv X pins σ H s)(hu:A.units+40<cLine){kvs:List (Key×T)}{ys:List (Key×V)}{us:List (Key×b8g)}(nd:(kvs.map c0G).Nodup)(hp:∀kv∈kvs,a0i kv.2=true/\depT kv.2<=30)(g:KRep X.K H ys kvs)(r:KV ys us) :
  ∀{l:List (Key×T)} {xs:List (Key×V)} {vs:List (Key×b8g)},(∀kv∈l,kv∈kvs)->KRep X.K H xs l->KV xs vs->PySem.W.KeqHits A s us vs true
 |[],[],vs,_,_,h=>by cases h;exact .nil
 |q::l,[],_,_,h,_=>h.elim
 |[],y::xs,_,_,h,_=>h.elim
 | q :: l,x::xs,vs,hs,h,hv=>by
   obtain⟨h1,h2,h3⟩:=h;cases hv with
   | @cons _ u _ vs a b =>
     obtain⟨a1,a2⟩:=a;obtain⟨v',u',e1,e2,e3⟩:=a9F nd g r q (hs q (.head _));obtain⟨p1,p2⟩:=hp q (hs q (.head _));have ih:=b3s I hu nd hp g r (fun z hz=>hs z (.tail _ hz)) h3 b;have eq:=(a8B I 30 A q.2 q.2 x.2 v' u.2 u' p2 (by lia) p1 p1 h2 e3 a2 e2).1;rw[a8A q.2 p1] at eq;obtain⟨k,w⟩:=u;have ek:k=q.1:=a1.symm.trans h1;subst ek;exact .hit (e:=true) (b:=true) e1 eq ih
theorem a7C(hu:X.A.units+64<cLine):OpR3 X (compareOp .NotEq) rNeK:=by
 intro pins s σ H x y v u Q2 I rx ry q;obtain⟨a,b,M,Q,r1,r2,hh,q,en⟩:=q;unfold rNeK at q;split at q
 ·obtain⟨kvs,e1,e2,nd,hp,q⟩:=q;obtain⟨xs,h1,h2⟩:=hh _ _ e1;obtain⟨ys,g1,g2⟩:=hh _ _ e2;obtain rfl:=a0n r1;obtain rfl:=a0n r2;cases rx;cases ry;obtain⟨_,la,vs,kv,dv⟩:=(show a0Y X.prog X.w H s.heap _ (.dK xs) from I.hok _ _ h1);obtain⟨_,lb,us,ku,du⟩:=(show a0Y X.prog X.w H s.heap _ (.dK ys) from I.hok _ _ g1)
  have hl:vs.length=us.length:=by
   have e3:=congrArg c0T (a3a h2);have e4:=congrArg c0T (a3a g2);rw[b8f,b8f] at e3 e4;rw[<- kv.length,<- ku.length,e3,e4]
  refine PySem.W.keq_ne (r:=true) (knd:=a0H X.prog X.w) la lb dv du (by lia) (fun _=>b3s I (by show X.A.units+1+40<cLine;lia) nd hp g2 ku (fun _ z=>z) h2 kv) ?_;rw[show(!(vs.length==us.length&&true))=false by rw[hl];simp];exact⟨.bl _,H,I,rfl,en _ _ M H Kp.refl hh a0Z q⟩
 ·exact q.elim
end
noncomputable def sgT(z:Str):List T:=z.cps.toList.map fun c=>.str ⟨#[c]⟩
noncomputable def Its(z:Str):It:=⟨fun i _=>i<z.cps.size,fun i H v H'=>H'=H/\∃c,z.cps[i]?=some c/\v=.str ⟨#[c]⟩,fun i _=>i=z.cps.size⟩
theorem b1N{P:b8n}{w:b8F}{K:PySem.W.Frag}{tg:Expr}(it:Addr)(z:Str)(t:Tok):Turn P w K tg (Its z) [it] it (fun i h=>h.IsStrIter it "str_ascii_iterator" z t i) where
 mem:=by simp
 obj:=fun i h st b hb=>by
  have e:b=it:=by simpa using hb
  subst e;obtain⟨o,h1,h2,h3⟩:=st;exact⟨o,h1,fun v q=>by rw[h3] at q;cases q⟩
 keep:=fun i h h' st k=>by
  obtain⟨o,h1,h2,h3⟩:=st;exact⟨o,k it (by simp) o h1,h2,h3⟩
 item:=by
  intro X hP hw hK hc i pins s σ H E I hf st hg;subst hP hw hK;obtain⟨f0,f1,f2,f3,f4,f5⟩:=hf it (by simp);have W:=c3B (prog:=X.prog) (w:=X.w) (I.ok.hd hc) it z t;refine W.item i s _ _ hg st fun v h' tk hv st' kk=>?_;obtain⟨c,u,e,rfl⟩:=hv;have I1:Inv X pins σ H { s with heap:=h',toks:=tk }:=I.turned (fun b o hb e=>kk b o (by simpa using hb) e) f0 f1 f3 f4 f5;obtain⟨o,h1,h2,h3⟩:=id st';refine⟨_,rfl,b2Q (s:={ s with heap:=h',toks:=tk }) (n:="str_ascii_iterator") h1 h2 h3 (by decide) ⟨.str ⟨#[c]⟩,H,I1,⟨u,rfl⟩,⟨rfl,c,e,rfl⟩,st',fun b hb=>(hf b hb).1⟩⟩
 done:=by
  intro X hP hw hK hc i pins s σ H E I hf st hg;subst hP hw hK;obtain⟨f0,f1,f2,f3,f4,f5⟩:=hf it (by simp);have W:=c3B (prog:=X.prog) (w:=X.w) (I.ok.hd hc) it z t;have hg':i=z.cps.size:=hg;subst hg';exact W.done s _ _ st fun h' tk kk=>⟨rfl,I.turned (t':=tk) (fun b o hb e=>kk b o (by simpa using hb) e) f0 f1 f3 f4 f5⟩
 self:=fun _ _ _ _ _ st h=>wpAny_pyIter_striter_ascii st h
noncomputable def b6J(tl:TE3):TI3:=fun ρ M R=>tl ρ M fun x M1=>match x with
 |.str z=>strIterType z="str_ascii_iterator"/\R ⟨sgT z,fun _=>True⟩ M1
 |_=>False
theorem b2C{K:PySem.W.Frag}{H:Hp}{z:Str}:ItOk K H (Its z) ⟨sgT z,fun _=>True⟩:=by
 have hl:(sgT z).length=z.cps.size:=by unfold sgT;rw[b8f,b9g]
 refine⟨fun H' M' k hh _=>by show(sgT z).length=z.cps.size;rw[hl],fun i x H' M' e k hh _=>?_⟩;have hi:i<z.cps.size:=by have:=(b8C.mp e).1;rwa [hl] at this
 refine⟨hi,fun v H'' y=>?_⟩;obtain⟨rfl,c,e1,rfl⟩:=y;unfold sgT at e;rw[b8x,c2i,e1] at e;obtain rfl:=b8s e;exact⟨Kp.refl,hh,a0G⟩
section
variable{X:Cx}
theorem b7L{tg l:Expr}{tl:TE3}(hl:HE X l tl):HI X tg l (b6J tl):=by
 intro ρ M R h pins s σ H R2 I b;obtain⟨hr,hh,en⟩:=b
 refine thn (hl ρ M _ h pins s σ H (fun v H1=>∃t M1,Kp X.K H H1/\HR X.K H1 M1/\Rep X.K H1 v t/\(match t with
  |.str z=>strIterType z="str_ascii_iterator"/\R ⟨sgT z,fun _=>True⟩ M1
  |_=>False)) I ⟨hr,hh,fun t v M1 H1 k1 h1 r1 q1=>⟨t,M1,k1,h1,r1,q1⟩⟩) fun v s1 ⟨x,H1,I1,rv,t,M1,k1,h1,r1,q1⟩=>?_
 split at q1
 ·rename_i z;obtain⟨ht,q1⟩:=q1;obtain rfl:=a0r r1;obtain⟨tk,rfl⟩:=rv;refine wpAny_pyIter_strU ?_;refine⟨s1.heap.objs.size,[s1.heap.objs.size],_,_,H1,rfl,I1.kept (t':=s1.toks) fun b o e=>b8d _ e,b1N _ z tk,⟨_,b8A _ rfl,by rw[ht],rfl⟩,fun b hb=>?_,en _ _ M1 H1 k1 h1 b2C q1⟩;have e:b=s1.heap.objs.size:=by simpa using hb
  subst e;exact I1.fpOk (b8k _) (I1.hok.fresh (b8k _))
 ·exact q1.elim
noncomputable def rLeS:R3:=fun x y M Q=>match x,y with
 |.str i,.str j=>Q (.bl (!decide (j.cps.toList<i.cps.toList))) M
 |_,_=>False
theorem b0w:OpR3 X (compareOp .LtE) rLeS:=by
 intro pins s σ H x y v u Q2 I rx ry q;obtain⟨a,b,M,Q,r1,r2,hh,q,en⟩:=q;unfold rLeS at q;split at q
 ·obtain rfl:=a0r r1;obtain rfl:=a0r r2;obtain⟨t1,rfl⟩:=rx;obtain⟨t2,rfl⟩:=ry;exact PySem.P.le_str ⟨.bl _,H,I,rfl,en _ _ M H Kp.refl hh a0Z q⟩
 ·exact q.elim
end
noncomputable def a5Y(ks:List (Str×Int))(z:Str):Option Int:=(ks.find? fun p=>p.1=z).map (·.2)
structure CitK(K:PySem.W.Frag)(P:b8n)(w:b8F)(d:Addr)(ks:List (Str×Int)):Prop where
 ok:∃o us,K.lookup d=some o/\o.IsDictOf (strKind P w) us/\∀z,(∃i t,a5Y ks z=some i/\valueAt us z=some (.int i t))\/(a5Y ks z=none/\valueAt us z=none)
 ns:(d==sysModules)=false
noncomputable def ciT:Option Int->T
 |some i=>.int i
 |none=>.non
noncomputable def a9Q(ks:List (Str×Int))(te:TE3):TE3:=fun ρ M Q=>te ρ M fun x M1=>match x with
 |.str z=>Q (ciT (a5Y ks z)) M1
 |_=>False
section
variable{X:Cx}
theorem b2N{d:Addr}{x:Str}{e:Expr}{te:TE3}{ks:List (Str×Int)}{p apos cpos:Pos}(C:CitK X.K X.prog X.w d ks)(hm:X.mg x=some (.ref d))(he:HE X e te)
  (m1:attributeBase (.Name x p) "get" X.env (eval (.Name x p) X.env)=eval (.Name x p) X.env:=by rfl)
  (m2:((backTo cpos (starEach [e] X.env)).all (fun x=>!x.1)&&(backToKw cpos (keywordEach [] X.env)).all (fun x=>x.1.isSome)
   && decide (([e]:LSE).length+([]:List c1Y).length+(if ([]:List c1Y).isEmpty then 0 else 1)<30))=true:=by rfl)
  (m3:QLL apos cpos:=by rfl) (m4:backTo cpos (starEach [e] X.env)=[(false,eval e X.env)]:=by rfl)
  (hg:Gl X x:=by rfl) (hdb:QDD x:=by decide) :
  HE X (.Call (.Attribute (.Name x p) "get" apos) [e] [] cpos) (a9Q ks te):=by
 intro ρ M Q h pins s σ H Q2 I b;obtain⟨hr,hh,en⟩:=b;have hn:PE X (.Name x p) (tC (.ref d)):=a7A hg hm rfl hdb;obtain⟨o,us,hk,hd,hat⟩:=C.ok;refine c2U m1 m2 m3 PySem.F.plainAttrs_dict PySem.F.slot_dict_get PySem.F.type_dict_get (thn (hn pins s σ H (fun v H1=>v=.ref d/\H1=H) I ⟨rfl,rfl⟩) fun u s1 ⟨x1,H1,I1,rx,e1,e2⟩=>?_);subst e1 e2;cases rx;have dd:s1.heap.DictOf (strKind X.prog X.w) d us:=c3y.mpr ⟨o,I1.kIn d o hk,hd⟩
 refine⟨dd.typeIs,fun b q=>by
  cases q;obtain⟨ob,_,_,h1,h2,_⟩:=dd
  exact⟨ob,h1,h2.2.1⟩,?_⟩
 rw[m4]
 refine c0y rfl (b9E (c1h (thn (he ρ M _ h pins s1 σ H1 (fun v H2=>∃t M1,Kp X.K H1 H2/\HR X.K H2 M1/\Rep X.K H2 v t/\(match t with
  |.str z=>Q (ciT (a5Y ks z)) M1
  |_=>False)) I1 ⟨hr,hh,fun t v M1 H2 k1 h1 r1 q1=>⟨t,M1,k1,h1,r1,q1⟩⟩) fun iv s2 ⟨y,H2,I2,ry,t,M1,k1,h1,rt,q1⟩=>c1z ?_)))
 split at q1
 ·rename_i z;obtain rfl:=a0r rt;obtain⟨tk,rfl⟩:=ry;have dd2:s2.heap.DictOf (strKind X.prog X.w) d us:=c3y.mpr ⟨o,I2.kIn d o hk,hd⟩;refine call_meetsIn PySem.F.slot_dict_get dd2.typeIs PySem.F.entry_dict_get (PySem.F.args_dict_get_2 _ _) (meets_dict_get (strKind X.prog X.w) d (strKind_is _ _ z tk) C.ns) ⟨_,dd2.mapOf,?_⟩;rcases hat z with ⟨i,t,e1,e2⟩|⟨e1,e2⟩
  ·rw[e1] at q1;rw[e2];exact⟨.int i,H2,I2.tok _,⟨t,rfl⟩,en _ _ M1 H2 k1 h1 a0J q1⟩
  ·rw[e1] at q1;rw[e2];exact⟨.non,H2,I2.tok _,rfl,en _ _ M1 H2 k1 h1 a2q q1⟩
 ·exact q1.elim
end
theorem a6u{P:b8n}{w:b8F}:∀(L:List (Str×Tok×Int×Tok)),PySem.Pairs (PySem.strKind P w) (L.map fun q=>(⟨b8N w.params q.1,.str q.1 q.2.1,.int q.2.2.1 q.2.2.2⟩:c3R)) (L.map fun q=>(q.1,c0H q.2.2.1 q.2.2.2))
 |[]=>.nil
 |q::L=>.cons (by show(q.1==q.1)=true;exact beq_self_eq_true _) rfl (a6u L)
theorem b3A(z:Str):∀L:List (Str×Tok×Int×Tok),(∃i t,a5Y (L.map fun q=>(q.1,q.2.2.1)) z=some i/\valueAt (L.map fun q=>(q.1,c0H q.2.2.1 q.2.2.2)) z=some (.int i t))\/(a5Y (L.map fun q=>(q.1,q.2.2.1)) z=none/\valueAt (L.map fun q=>(q.1,c0H q.2.2.1 q.2.2.2)) z=none)
 |[]=>.inr ⟨rfl,rfl⟩
 | q::L=>by
   unfold a5Y valueAt;rw[b8o,b8o,b8M,b8M];by_cases c:q.1=z
   ·exact .inl ⟨q.2.2.1,q.2.2.2,by simp[c],by simp[c]⟩
   ·simp only[c,decide_false];exact b3A z L
theorem b5c{K:PySem.W.Frag}{P:b8n}{w:b8F}{d:Addr}{ep:Nat}(L:List (Str×Tok×Int×Tok))(l:K.lookup d=some ⟨.type "dict",none,.dict (L.map fun q=>(⟨b8N w.params q.1,.str q.1 q.2.1,.int q.2.2.1 q.2.2.2⟩:c3R)).toArray ep,#[]⟩)(nd:(L.map fun q=>q.1).Nodup)(ns:(d==sysModules)=false) :
  CitK K P w d (L.map fun q=>(q.1,q.2.2.1)):=by
 refine⟨⟨_,L.map fun q=>(q.1,c0H q.2.2.1 q.2.2.2),l,⟨_,ep,⟨rfl,rfl,rfl⟩,rfl,fun e he=>?_,?_,?_⟩,fun z=>b3A z L⟩,ns⟩
 ·rw[List.mem_toArray] at he;obtain⟨q,_,rfl⟩:=b9N.mp he;exact⟨q.1,by show(q.1==q.1)=true;exact beq_self_eq_true _,rfl⟩
 ·exact a6u L
 ·rw[c0c];exact nd
noncomputable def b7W(b:Nat)(ws:LSS):Prop:=∀w∈ws,32∉w.cps.toList/\w.length<=b
theorem b1g(k b:Nat)(ns:LSS)(h:∀y∈ns,y.length<=b):∀acc:Nat,ns.foldl (fun a y=>a+y.length+k) acc<=acc+(b+k)*ns.length:=by
 induction ns with
 |nil=>intro acc;exact b8k _
 | cons y ns ih =>
   intro acc;have h1:=ih (fun z hz=>h z (b7Z _ hz)) (acc+y.length+k);have h2:=h y (b8e ..);rw[b9Y,b8t,c3Q];lia
theorem a8v{e:Str}{ns:LSS}{b:Nat}(he:e.length<=1)(h:∀y∈ns,y.length<=b)(hn:(b+1)*ns.length<=10000):c4c e ns=true:=by
 unfold c4c c2B;have h1:=b1g e.length b ns h 0;have h2:(b+e.length)*ns.length<=(b+1)*ns.length:=Nat.mul_le_mul_right _ (by lia);have h3:(10000:Nat)<=sizeLine:=by decide
 have h4:ns.toArray.foldl (fun a y=>a+y.length+e.length) 0=ns.foldl (fun a y=>a+y.length+e.length) 0:=by simp
 rw[h4];simp only[b8Z,decide_eq_false_iff_not];lia
noncomputable def plW(n:Int)(ws:LSI):LSS:=(a0f n++(":":Str))::ws.map a0f
theorem b2g(n:Int)(ws:LSI):c3t (" ":Str) (plW n ws)=wrS n ws:=by
 show c2Y (" ":Str) _=_;rw[c2f];exact b1K n ws
theorem b5W{n:Int}{ws:LSI}(ok:PlOK n ws):b7W 8 (plW n ws):=fun w hw=>by
 have hn1:=ok.1;have hn6:=ok.2.1;rcases b8l.mp hw with rfl|hw
 ·exact⟨(b3U n hn1 hn6).2.2,by have:=a3H hn1 hn6;lia⟩
 ·obtain⟨l,hl,rfl⟩:=b9N.mp hw;obtain⟨l0,l1⟩:=a5G ok l hl;obtain⟨a,b,_⟩:=sI l l0 l1;exact⟨a,by lia⟩
section
variable{lo hi lo' hi' B C:Nat}{p q:Po}
end
section
variable{X:Cx}{Ha:Hp}
theorem b5F{o i value:Expr}{td tk tv:TE3}{pos pos':Pos}(hu:X.A.units+64<cLine)(hv:HEX X Ha value tv)(ho:HE X o td)(hi:HE X i tk)(hs:swapsWith value (some (.Subscript o i pos')) pos.line X.env=pure false:=by rfl) :
  HSX X Ha (.Assign [.Subscript o i pos'] value pos) (sDPK td tk tv):=fun D ρ M h =>
 (b0n (by lia) (ho.d (ρ:=ρ)) (hi.d (ρ:=ρ)) (hv.d (ρ:=ρ)) hs).imp fun D2 σ H ⟨ka,hr,hh,en⟩=>⟨M,_,h,ka,hr,hh,fun z v M1 H1 k1 h1 r1 q1=>⟨M1,_,q1,hr.kp k1,h1,fun x v2 M2 H2 k2 h2 r2 q2=>⟨M2,_,q2,hr.kp (k1.trans k2),h2,fun y v3 M3 H3 k3 h3 r3 q3=>by
  cases x with
  | adr p =>
    cases r2;dsimp only at q3;split at q3
    ·rename_i kvs e;obtain⟨kk,rfl,hl,q3⟩:=q3;obtain rfl:=a3X r3;obtain⟨xs,g1,g2⟩:=h3 _ _ e;have kk':=Kp.dict (K:=X.K) (u:=.dK (putK xs kk v)) g1 (.inl ⟨_,rfl⟩);have kall:=(k1.trans k2).trans (k3.trans kk');refine⟨_,_,rfl,DPut.k g1 (by rw[g2.length];exact hl),en.nx _ _ _ _ kall (hr.kp kall) (h3.setK g1 (.inl ⟨_,rfl⟩) (g2.put kk (Rep.kp (k2.trans k3) _ _ r1))) q3⟩
    ·exact q3.elim
  |_=>exact q3.elim⟩⟩⟩
end
noncomputable def b3D(K:PySem.W.Frag)(C1 C2:Addr):Bool :=
 PySem.W.excIn K C1 bmVE "ValueError.__new__"&&(PySem.W.excIn K C2 bmVE "ValueError.__new__"&&((PySem.W.subIn K (.ref C1) (.type "BaseException")==some true)&&((PySem.W.subIn K (.ref C2) (.type "BaseException")==some true)
  && ((PySem.W.subIn K (.ref C1) (.ref C1)==some true)&&((PySem.W.subIn K (.ref C2) (.ref C2)==some true)&&(PySem.W.subIn K (.ref C2) (.ref C1)==some false))))))
theorem b3C{K:PySem.W.Frag}{mg:SOV}{n1 n2:Str}{C1 C2:Addr}(h:b3D K C1 C2=true)(m1:mg n1=some (.ref C1))(m2:mg n2=some (.ref C2)):XTwo K mg n1 n2/\XCl K mg n1/\XCl K mg n2:=by
 unfold b3D at h;simp only[b8m,beq_iff_eq] at h;obtain⟨h1,h2,h3,h4,h5,h6,h7⟩:=h;exact⟨⟨C1,C2,m1,m2,h1,h2,h3,h4,h5,h6,h7⟩,⟨C1,m1,h1⟩,⟨C2,m2,h2⟩⟩
noncomputable def tOrS(ta tb:TE3):TE3:=fun ρ M Q=>ta ρ M fun x M1=>match x with
 |.str y=>y.length<=sizeLine/\(y.length=0->tb ρ M1 Q)/\(y.length≠0->Q (.str y) M1)
 |_=>False
theorem b7O{X:Cx}{a b:Expr}{rest:LSE}{ta tb:TE3}{pos:Pos}(ha:HE X a ta)(hb:HE X (.BoolOp .Or (b::rest) pos) tb):HE X (.BoolOp .Or (a::b::rest) pos) (tOrS ta tb):=by
 intro ρ M Q h pins s σ H Q2 I bb;obtain⟨hr,hh,en⟩:=bb
 refine BoolOp_or (thn (ha ρ M _ h pins s σ H (fun v H1=>∃t M1,Kp X.K H H1/\HR X.K H1 M1/\Rep X.K H1 v t/\(match t with
  |.str y=>y.length<=sizeLine/\(y.length=0->tb ρ M1 Q)/\(y.length≠0->Q (.str y) M1)
  |_=>False)) I ⟨hr,hh,fun t v M1 H1 k1 h1 r1 q1=>⟨t,M1,k1,h1,r1,q1⟩⟩) fun v s1 ⟨x,H1,I1,rv,t,M1,k1,h1,r1,q1⟩=>?_)
 split at q1
 ·rename_i y;obtain⟨hy,q0,q1⟩:=q1;obtain rfl:=a0r r1;obtain⟨tk,rfl⟩:=rv;have hz:¬(y.length:Int) >= 2^63:=by rw[c0A] at hy;clear q0 q1;omega
  refine PySem.P.truthy_str hz ?_;by_cases c:y.length=0
  ·have e:((y.length:Int) != 0)=false:=by rw[c];rfl
   rw[e];exact hb ρ M1 Q (q0 c) pins _ σ H1 Q2 (I1.tok _) ⟨hr.kp k1,h1,en.kp k1⟩
  ·have e:((y.length:Int) != 0)=true:=by simpa using c
   rw[e];exact⟨.str y,H1,I1.tok _,⟨tk,rfl⟩,en _ _ M1 H1 k1 h1 a0G (q1 c)⟩
 ·exact q1.elim
noncomputable abbrev Pl:=Int×List Int
noncomputable abbrev Dk:=List (Str×Pl)
noncomputable def kpT(p:Pl):T:=.tup [.int p.1,.tup (p.2.map .int)]
noncomputable def dkD(D:Dk):List (Key×T):=D.map fun x=>(.inr x.1,kpT x.2)
noncomputable def atD(D:Dk)(s:Str):Option Pl:=(D.find? fun x=>decide (x.1=s)).map (·.2)
noncomputable def putD(D:Dk)(s:Str)(p:Pl):Dk:=if (D.any fun x=>decide (x.1=s))=true then D.map (fun x=>if x.1=s then (x.1,p) else x) else D++[(s,p)]
theorem b0T(a b:Str):decide ((c0o a:Key)=c0o b)=decide (a=b):=by
 by_cases c:a=b
 ·rw[c];simp
 ·rw[decide_eq_false c,decide_eq_false fun z=>c (c2v z)]
theorem a5o(s:Str):∀D:Dk,valT (dkD D) (.inr s)=(atD D s).map kpT
 |[]=>rfl
 | x::D=>by
   have ih:=a5o s D
   unfold valT atD dkD at ih|-
   rw[b8o,b8M,b8M,b0T];by_cases c:x.1=s
   ·rw[decide_eq_true c];rfl
   ·rw[decide_eq_false c];exact ih
theorem b1Z(D:Dk)(s:Str)(p:Pl):putT (dkD D) (.inr s) (kpT p)=dkD (putD D s p):=by
 have e:((dkD D).any fun kv=>decide (kv.1=(.inr s:Key)))=D.any fun x=>decide (x.1=s):=by
  unfold dkD;rw[c3g];congr 1
  funext x
  exact b0T _ _
 unfold putT putD;rw[e];split
 ·unfold dkD;rw[c0c,c0c];refine List.map_congr_left fun x _=>?_
  show(if (c0o x.1:Key)=.inr s then _ else _)=_
  by_cases c:x.1=s
  ·simp[c]
  ·have c2:¬(c0o x.1:Key)=.inr s:=fun z=>c (c2v z);rw[if_neg c2];simp[c]
 ·unfold dkD;rw[b9J];rfl
theorem b2Y(D:Dk):(dkD D).map c0G=(D.map c0G).map c0o:=by unfold dkD;rw[c0c,c0c];rfl
noncomputable def MKs:LSS:=["turned","mirrored","flipped","shorter","behind"]
noncomputable def oldW(k:Str)(rest:LSS):LSS:=if k∈MKs then rest.drop 1 else rest
section
variable{k nm:Str}{p q:Pl}{D:Dk}
end
theorem a0u(a:Str):a0i (.str a)=true:=by unfold a0i;rfl
theorem a1E(a:Str):depT (.str a)<=30:=by unfold depT;decide
theorem a1X(a b:Str):eqT (.str a) (.str b)=decide (a=b):=by
 unfold eqT;by_cases c:a=b
 ·simp[c]
 ·simp[c]
theorem a1d{a b:Str}{P R:Prop}(h1:a=b->P)(h2:a≠b->R):a0i (.str a)=true/\a0i (.str b)=true/\depT (.str a)<=30/\(if eqT (.str a) (.str b)=true then P else R):=by
 refine⟨a0u a,a0u b,a1E a,?_⟩;rw[a1X];by_cases c:a=b
 ·rw[decide_eq_true c,if_pos rfl];exact h1 c
 ·rw[decide_eq_false c,if_neg b8v];exact h2 c
theorem b0U(a:Str)(l:LSS):inT (.str a) (l.map .str)=decide (a∈l):=by
 unfold inT;rw[c3g];have:((fun y=>eqT y (.str a))∘T.str)=fun b=>decide (b=a):=by funext b;exact a1X b a
 rw[this];by_cases c:a∈l
 ·rw[decide_eq_true c];exact List.any_eq_true.mpr ⟨a,c,decide_eq_true rfl⟩
 ·rw[decide_eq_false c];refine c2V.mpr fun z=>?_;obtain⟨b,hb,e⟩:=List.any_eq_true.mp z;exact c (of_decide_eq_true e▸hb)
theorem Sub.up{M M':MH}{p:Addr}{u:MO}(h:Sub M M'):Sub (updM M p u) (updM M' p u):=fun a v e=>by
 by_cases c:a=p
 ·subst c
  rw[a0d] at e|-;exact e
 ·rw[a0t c] at e|-
  exact h a v e
end L2
namespace L2
open PySem PySem.Spec PyProof.Rows
structure FD0(K:PySem.W.Frag)(mg:SOV)(x:Str)(st:Stmt):Prop where
 e:∃f fd,Fun K x x st f fd/\mg x=some (.ref f)
structure FD(K:PySem.W.Frag)(mg:SOV)(x:Str)(st:Stmt)(ps:LSS):Prop where
 e:∃f fd,Fun K x x st f fd/\mg x=some (.ref f)/\a1l K fd ps []
section
variable{P:b8n}{w:b8F}{K:PySem.W.Frag}{mg:SOV}{base:Heap}{x:Str}{st:Stmt}{ps:LSS}
theorem FD0.of{h:Heap}{f:Addr}{oc:b8g}{od an:Option Addr}{osl:AOV}{kV doc pm cdv ct:b8g}(X:K.In h)(G:h.Ns mainGlobals mg)
  (a:PySem.W.nsIn K mainGlobals x=some (some (.ref f))) (l:K.lookup f=some ⟨oc,od,.func (PySem.W.fnOf x x (a2t st) (a0K st) (a0b st) .none kV doc pm an cdv ct),osl⟩)
  (c:PySem.W.codeIn K cdv x=true) (k:PySem.W.keepIn K (.ref f)=true):FD0 K mg x st:=⟨f,_,a5d l c k,PySem.W.mg_of X G a⟩
theorem FD0.b(d:FD0 K mg x st)
  (hb:∀(kV doc pm:b8g) (an:Option Addr) (cdv ct:b8g) (us:LSV),us.length=ps.length->bindArgs (PySem.W.fnOf x x (a2t st) (a0K st) (a0b st) .none kV doc pm an cdv ct) ⟨us,[]⟩=pure (ps.zip us)):FD K mg x st ps:=by
 obtain⟨f,fd,F,m⟩:=d.e;exact⟨f,fd,F,m,F.binds hb⟩
theorem FD.dfn{N:LSS}{n:Nat}{sp:Sp3}{t:TS3}(F:FD K mg x st ps)(S:FnScope N ps (a0b st))(len:∀ts M Q,sp ts M Q->ts.length=ps.length)
  (h:∀{f:Addr} {cdv:b8g} {A:b8w} {outer:List Env} {s:b7Y} {H:Hp} {E:XK},Room n (A.deeper (envOfC x (a0b st) s.heap.objs.size f cdv)) ->
   HSs (cxOf CX0 P w K mg base N x (a0b st) f cdv A outer s H E).nox (a0K st) t)
  (rd:∀ts M Q,sp ts M Q->t { nx:=fun _ M'=>rt3 M Q .non M',rt:=rt3 M Q } (a0T N ts) M):Df P w K mg base (n+1) x ps sp:=by
 obtain⟨f,fd,F,hm,hb⟩:=F.e;exact F.dfn hm hb S len ⟨t,fun _ _ _ _ _ _=>h,rd⟩
theorem FD.dfnX{N:LSS}{n:Nat}{sp:Sp3X}{t:EK3->TS3}(F:FD K mg x st ps)(S:FnScope N ps (a0b st))(len:∀ts M Q E,sp ts M Q E->ts.length=ps.length)
  (h:∀(f:Addr) (cdv:b8g) (A:b8w) (outer:List Env) (s:b7Y) (H:Hp) (E:XK) (E3:EK3),Room n (A.deeper (envOfC x (a0b st) s.heap.objs.size f cdv)) ->
   Acc (cxOf (CXE P w) P w K mg base N x (a0b st) f cdv A outer s H E) H E3->AccN (cxOf (CXE P w) P w K mg base N x (a0b st) f cdv A outer s H E) H E3 ->
   HSsX (cxOf (CXE P w) P w K mg base N x (a0b st) f cdv A outer s H E) H (a0K st) (t E3))
  (rd:∀ts M Q E,sp ts M Q E->t (fun nm _ M'=>∃M0,Sub M0 M'/\E nm M0) { nx:=fun _ M'=>rt3 M Q .non M',rt:=rt3 M Q } (a0T N ts) M):DfX P w K mg base (n+1) x ps sp:=by
 obtain⟨f,fd,F,hm,hb⟩:=F.e;exact F.dfnX hm hb S len ⟨t,h f,rd⟩
theorem bkS{X:Cx}{scope:c0t}(outer:c0t)(N N':LSS)(ix:List (Option Nat))(h:blkB outer N N' ix scope=true:=by decide +kernel)(ho:X.env.scope=outer:=by rfl)(hN:X.N=N:=by rfl):BlkScope X N' ix scope:=a4D h ho hN
noncomputable abbrev DfD(x:Str)(ps:LSS)(sp:Sp3)(P w K mg base n):=Df P w K mg base n x ps sp
noncomputable abbrev DfY(x:Str)(ps:LSS)(sp:Sp3X)(P w K mg base n):=DfX P w K mg base n x ps sp
end
noncomputable def CalG(Γ:PySem.Ctx):Prop:=Γ.code.isCaller=true\/(Γ.below.any fun x=>x.1.isCaller)=true
noncomputable def wpC{α:Type}(M:c0I)(A:b8w)(t:Sem α)(Q:α->b7Y->Prop)(E:VPR)(s:b7Y):Prop :=
 ∀Γ p,Γ.In A->CalG Γ->Sem.wp M Γ t (fun a _ s'=>Q a s') (fun e _ s'=>E e s') p s
noncomputable def a0v(M:c0I)(A:b8w)(c:Code)(R:c1y->b7Y->Prop)(s:b7Y):Prop :=
 ∀Γ p,Γ.code=c->Γ.Below A->(Γ.below.any fun x=>x.1.isCaller)=true->wpCode M Γ R p s
section
variable{α β:Type}{M:c0I}{A:b8w}{E E':VPR}{s:b7Y}
theorem wpC.of{t:Sem α}{Q:α->b7Y->Prop}(h:wpAny M A t Q E s):wpC M A t Q E s:=fun Γ p i _=>h Γ p i
theorem a0v.of{c:Code}{R:c1y->b7Y->Prop}(h:codeAny M A c R s):a0v M A c R s:=fun Γ p e i _=>h Γ p e i
theorem wpC.mono{t:Sem α}{Q Q':α->b7Y->Prop}(h:wpC M A t Q E s)(hQ:∀a s,Q a s->Q' a s)(hE:∀e s,E e s->E' e s):wpC M A t Q' E' s :=
 fun Γ p i k=>b8V M Γ t (fun a _ s=>hQ a s) (fun e _ s=>hE e s) p s (h Γ p i k)
theorem a0v.mono{c:Code}{R R':c1y->b7Y->Prop}(h:a0v M A c R s)(hR:∀r s,R r s->R' r s):a0v M A c R' s :=
 fun Γ p e i k=>wpCode_mono hR (h Γ p e i k)
theorem wpC.bind{m:Sem α}{f:α->Sem β}{Q:β->b7Y->Prop}(h:wpC M A m (fun a s'=>wpC M A (f a) Q E s') E s):wpC M A (m >>= f) Q E s:=fun Γ p i k=>by
 rw[b9O];exact b8V M Γ m (fun a p' s' q=>q Γ p' i k) (fun _ _ _ q=>q) p s (h Γ p i k)
theorem wpC.pure{a:α}{Q:α->b7Y->Prop}(h:Q a s):wpC M A (pure a) Q E s:=.of (b8r h)
theorem wpC.hold{vs:LSV}{m:Sem α}{Q:α->b7Y->Prop}(h:wpC M A m Q E s):wpC M A (holding vs m) Q E s:=fun Γ p i k=>by
 rw[c1v];exact h Γ p i k
theorem wpC.onRaise{m:Sem α}{k:b8g->Sem Unit}{Q:α->b7Y->Prop}(h:wpC M A m Q (fun e s'=>wpAny M A (k e) (fun _ s2=>E e s2) E s') s):wpC M A (m.onRaise k) Q E s:=fun Γ p i c=>by
 rw[Sem.wp_onRaise];exact b8V M Γ m (fun _ _ _ q=>q) (fun e p' s' q=>q Γ p' i) p s (h Γ p i c)
theorem wpC.attempt{m:Sem α}{Q:Except b8g α->b7Y->Prop}(h:wpC M A m (fun a=>Q (.ok a)) (fun e=>Q (.error e)) s):wpC M A m.attempt Q E s:=fun Γ p i c=>by
 rw[Sem.wp_attempt];exact h Γ p i c
theorem wpC.standAt{pos:Pos}{f:Unit->Sem β}{Q:β->b7Y->Prop}(h:wpC M A (f ()) Q E s):wpC M A (PySem.standAt pos >>= f) Q E s:=.bind (.of (b9y h))
theorem CalG.enter{Γ:PySem.Ctx}(h:CalG Γ)(c:Code)(hd:OVA)(p:Pos):((Γ.enter c hd p).below.any fun x=>x.1.isCaller)=true:=by
 show(((Γ.code,p)::Γ.below).any fun x=>x.1.isCaller)=true;rw[b8U,b9j];exact h
theorem wpC.runValue{c:Code}{Q:VPR}(hc:a0v M A c (fun r s'=>match r with|.ok (.ret v)=>Q v s'|.ok _=>False|.error e=>E e s') s):wpC M A (runValue c) Q E s:=fun Γ p i k=>by
 rw[Sem.wp_runValue];exact hc _ p rfl (i.enter c none p (by intro x;cases x)) (k.enter c none p)
theorem wpC.call{f:b8g}{pos:LSV}{kw:List (Str×b8g)}{Q:VPR}
  (hc:a0v M A (.call f ⟨pos,kw⟩) (fun r s'=>match r with|.ok (.ret v)=>Q v s'|.ok _=>False|.error e=>E e s') s):wpC M A (call f pos kw) Q E s:=wpC.runValue hc
theorem a0v.tree{c:Code}{R:c1y->b7Y->Prop}
  (h:wpC M (A.under c) (M.den c) (fun fin s'=>match fin with|.done f=>R (.ok f) s'|.again c'=>c'.quiet=true/\a0v M A c' R s') (fun e s'=>R (.error e) s') s):a0v M A c R s:=fun Γ p e i k=>by
 rw[wpCode_iff_wp,e];refine b8V M Γ _ (fun fin p' s' q=>?_) (fun _ _ _ q=>q) p s (h Γ p (e▸i.in) (.inr k));cases fin with
 |done f=>exact q
 |again c'=>exact⟨q.1,q.2 (Γ.goto c') p' rfl (i.goto c') k⟩
theorem wpC.mark{own:List String}{e:b8g}{Q:Unit->b7Y->Prop}(h:Q () s):wpC M A (markTheRefusal own e) Q E s:=fun Γ p i k=>by
 have hc:(((Γ.code,p)::Γ.below).map (·.1)).any c2G=true:=by
  rw[c3g,b8U,b9j];exact k
 have hp:pythonCodeMadeTheCall own (((Γ.code,p)::Γ.below).map (·.1))=false:=by
  generalize (((Γ.code,p)::Γ.below).map (·.1))=l at hc;show(!(l.any c2G)&&_&&_)=false;rw[hc];rfl
 unfold markTheRefusal;rw[b9O]
 show Sem.wp M Γ (if pythonCodeMadeTheCall own (((Γ.code,p)::Γ.below).map (·.1)) then _ else _) _ _ p s
 rw[hp];exact h
end
section
variable{M:c0I}{A:b8w}{E:VPR}{s:b7Y}{env:Env}
theorem wpC.rows{st:Stmt}{rest:List Stmt}{Q:Flow->b7Y->Prop}(h:wpC M A (exec st env) (fun f s1=>match f with|.next=>wpC M A (execs rest env) Q E s1|f=>Q f s1) E s):wpC M A (execs (st::rest) env) Q E s:=by
 rw[execs_cons];refine .bind (h.mono (fun f s1 q=>?_) fun _ _ q=>q)
 cases f<;>first|exact q|exact .pure q
theorem wpC.ret{e:Expr}{pos:Pos}{Q:Flow->b7Y->Prop}(h:wpC M A (eval e env) (fun v=>Q (.ret v)) E s):wpC M A (exec (.Return (some e) pos) env) Q E s:=by
 rw[exec_Return_some];exact .standAt (.bind (h.mono (fun v s1 q=>.pure q) fun _ _ q=>q))
theorem wpC.set{x:Str}{pos' pos:Pos}{value:Expr}{Q:Flow->b7Y->Prop}(h:wpC M A (eval value env) (fun v s1=>wpAny M A (storeName env x v) (fun _=>Q .next) E s1) E s)
  (hs:swapsWith value (some (.Name x pos')) pos.line env=b9l false:=by rfl):wpC M A (exec (.Assign [.Name x pos'] value pos) env) Q E s:=fun Γ p i k=>by
 simp only[exec_Assign_Name env x pos' value pos hs,b9O,b9W,Sem.wp_bindName,c3S];exact b8V M Γ _ (fun v _ s1 q=>q Γ _ i) (fun _ _ _ q=>q) _ _ (h Γ _ i k)
theorem wpC.put{o j value:Expr}{pos' pos:Pos}{Q:Flow->b7Y->Prop}
  (h:wpC M A (eval value env) (fun v s1=>wpAny M A (eval o env) (fun ov s2=>wpAny M A (eval j env) (fun iv s3=>wpAny M A (setItem ov iv v) (fun _=>Q .next) E s3) E s2) E s1) E s)
  (hs:swapsWith value (some (.Subscript o j pos')) pos.line env=b9l false:=by rfl):wpC M A (exec (.Assign [.Subscript o j pos'] value pos) env) Q E s:=fun Γ p i k=>by
 simp only[exec_Assign_Subscript o j pos' value pos hs,assign_Subscript,b9O,c1v,b9W,Sem.wp_release,c3S];refine b8V M Γ _ (fun v p1 s1 q1=>?_) (fun _ _ _ q=>q) _ _ (h Γ _ i k);refine b8V M Γ _ (fun ov p2 s2 q2=>?_) (fun _ _ _ q=>q) _ _ (q1 Γ p1 i);exact b8V M Γ _ (fun iv _ s3 q3=>q3 Γ _ i) (fun _ _ _ q=>q) _ _ (q2 Γ p2 i)
theorem wpC.cond{test:Expr}{body orelse:List Stmt}{pos:Pos}{Q:Flow->b7Y->Prop}(h:wpC M A (isTrue test env (eval test env)) (fun b s1=>if b then wpC M A (execs body env) Q E s1 else wpC M A (execs orelse env) Q E s1) E s) :
  wpC M A (exec (.If test body orelse pos) env) Q E s:=fun Γ p i k=>by
 simp only[exec_If,b9O,b9W];refine b8V M Γ _ (fun b p1 s1 q=>?_) (fun _ _ _ q=>q) _ _ (h Γ _ i k);cases b<;>exact q Γ p1 i k
theorem wpC.sp{x:Sem b8g}{rest:List (Bool×Sem b8g)}{Q:LSV->b7Y->Prop}(h:wpC M A x (fun v s1=>wpC M A (spliced rest) (fun vs s2=>Q (v::vs) s2) E s1) E s):wpC M A (spliced ((false,x)::rest)) Q E s:=by
 rw[spliced];refine .bind (h.mono (fun v s1 q=>?_) fun _ _ q=>q);simp only[c1p,if_false];exact .bind (.pure (.bind (.hold (q.mono (fun vs s2 q2=>.pure q2) fun _ _ q=>q))))
theorem wpC.spE{e:Expr}{rest:LSE}{pos:Pos}{Q:LSV->b7Y->Prop}(h:wpC M A (eval e env) (fun v s1=>wpC M A (spliced (backTo pos (starEach rest env))) (fun vs s2=>Q (v::vs) s2) E s1) E s)
  (he:starEach (e::rest) env=(false,eval e env)::starEach rest env:=by rfl):wpC M A (spliced (backTo pos (starEach (e::rest) env))) Q E s:=by
 rw[he];exact .sp h
theorem wpC.args{f:b8g}{x:Sem b8g}{rest:List (Bool×Sem b8g)}{Q:Args->b7Y->Prop}(h:wpC M A (spliced ((false,x)::rest)) (fun vs s1=>Q ⟨vs,[]⟩ s1) E s):wpC M A (evalArgs f true ((false,x)::rest) []) Q E s:=by
 unfold evalArgs;show wpC M A (spliced ((false,x)::rest) >>= _) Q E s;exact .bind (h.mono (fun vs s1 q=>.hold (.bind (.pure (.bind (.pure (.pure q)))))) fun _ _ q=>q)
theorem wpC.tup{prog:b8n}{w:b8F}{elts:LSE}{x1}{pos:Pos}{Q:VPR}
  (h:wpC (model prog w) A (spliced (backTo pos (starEach elts env))) (fun vs s1=>vs.length<=sizeLine/\Q (.ref s1.heap.objs.size) { s1 with heap:=s1.heap.push { cls:=.type "tuple",data:=.seq vs.toArray } }) E s) :
  wpC (model prog w) A (eval (.Tuple elts x1 pos) env) Q E s:=by
 rw[arm_eval_Tuple];exact .standAt (.bind (h.mono (fun vs s1 q=>.of (wpAny_newTuple q.2 q.1)) fun _ _ q=>q))
theorem wpC.tryB{body orelse:Sem Flow}{h0:c0v}{hs:List c0v}{Q:Flow->b7Y->Prop}
  (h:wpC M A body (fun f s1=>match f with|.next=>wpC M A orelse Q E s1|f=>Q f s1)
   (fun e s1=>wpAny M A (noteFrame e env) (fun _ s2=>wpAny M A (setFlight e none) (fun _ s3=>wpAny M A (handleBy e env (h0::hs)) Q E s3) E s2) E s1) s):wpC M A (tryStmt false body (h0::hs) orelse [] env) Q E s:=by
 unfold tryStmt;simp only[c3r,if_true,c0i,b8T,c1p,if_false];refine .bind (.attempt (h.mono (fun f s1 q=>?_) fun e s1 q=>?_))
 ·cases f<;>first|exact q|exact .pure q
 ·exact .of (b8a (b8H q (fun _ _ q2=>b8a q2) fun _ _ q=>q))
theorem wpC.try_{prog:b8n}{w:b8F}{body orelse:List Stmt}{h0:c0v}{hs:List c0v}{pos:Pos}{Q:Flow->b7Y->Prop}
  (h:wpC (model prog w) A (execs body env) (fun f s1=>match f with|.next=>wpC (model prog w) A (execs orelse env) Q E s1|f=>Q f s1)
   (fun e s1=>wpAny (model prog w) A (noteFrame e env) (fun _ s2=>wpAny (model prog w) A (setFlight e none) (fun _ s3=>wpAny (model prog w) A (handleBy e env (h0::hs)) Q E s3) E s2) E s1) s) :
  wpC (model prog w) A (exec (.Try body (h0::hs) orelse [] pos) env) Q E s:=by
 rw[arm_exec_Try];exact .standAt (.tryB h)
end
section
variable{α:Type}{M:c0I}{A:b8w}{E:VPR}{s:b7Y}{env:Env}
theorem wpC.keep{vs:LSV}{m:Sem α}{Q:α->b7Y->Prop}(h:wpC M A m Q E s):wpC M A (m.keep vs) Q E s:=fun Γ p i k=>by
 rw[Sem.wp_keep];exact h Γ p i k
theorem wpC.noted{m:Sem α}{Q:α->b7Y->Prop}(h:wpC M A m Q (notedBy M A env E) s):wpC M A (m.onRaise fun x=>do noteFrame x env;theTreesLotGoes x) Q E s :=
 .onRaise (h.mono (fun _ _ q=>q) fun _ _ q=>b8a (b8H q (fun _ _ e=>wpAny_theTreesLotGoes e) fun _ _ e=>e))
theorem wpC.run{c:Code}{hd:OVA}{Q:Flow->b7Y->Prop}(hc:a0v M (A.mark hd) c (fun r s1=>match r with|.ok f=>Q f s1|.error e=>E e s1) s)(hnb:hd≠some byPass:=by intro x;cases x):wpC M A (run c hd) Q E s:=fun Γ p i k=>by
 rw[Sem.wp_run];exact hc _ p rfl (i.enter c hd p hnb) (k.enter c hd p)
theorem wpC.runOwn{c:Code}{hd:OVA}{Q:Flow->b7Y->Prop}(hc:a0v M (A.mark hd) c (fun r s1=>match r with|.ok f=>Q f s1|.error e=>cameBackBy M A env E e s1) s)(hnb:hd≠some byPass:=by intro x;cases x) :
  wpC M A (PySem.runOwn c env hd) Q E s:=by
 unfold PySem.runOwn;exact .onRaise (.run hc hnb)
theorem a0v.loop{c:Code}{R:c1y->b7Y->Prop}(hq:c.quiet=true)(I:Nat->b7Y->Prop)
  (turn:∀n s,I n s->wpC M (A.under c) (M.den c) (fun fin s1=>match fin with
   |.done f=>R (.ok f) s1
   |.again c'=>(c'=c/\∃m,m<n/\I m s1)\/(c'.quiet=true/\a0v M A c' R s1)) (fun e s1=>R (.error e) s1) s):∀(n:Nat) (s:b7Y),I n s->a0v M A c R s:=by
 intro n
 induction n using Nat.strongRecOn with
 | ind n ih =>
   intro s h;refine .tree ((turn n s h).mono (fun fin s1 q=>?_) fun _ _ q=>q);cases fin with
   |done f=>exact q
   | again c' =>
     rcases q with ⟨rfl,m,hm,hI⟩|q
     ·exact⟨hq,ih m hm s1 hI⟩
     ·exact q
end
section
variable{prog:b8n}{w:b8F}{A:b8w}{E:VPR}{s:b7Y}{env:Env}{R:c1y->b7Y->Prop}
noncomputable abbrev NB(prog:b8n)(w:b8F)(A:b8w)(env:Env)(R:c1y->b7Y->Prop):VPR:=notedBy (model prog w) A env fun e s1=>R (.error e) s1
theorem a0v.forL{target:Expr}{it:b8g}{body orelse:List Stmt}(I:Nat->b7Y->Prop)
  (turn:∀n s,I n s->wpAny (model prog w) A (pyNext it) (fun r s1=>match r with
   |none=>wpAny (model prog w) A (execs orelse env) (fun f s2=>R (.ok f) s2) (NB prog w A env R) s1
   | some v=>wpAny (model prog w) A (letOwnedTupleGo target it v) (fun _ s2=>wpAny (model prog w) A (assign target env v) (fun _ s3=>wpC (model prog w) A (execs body env) (fun f s4=>match f with
     |.next|.cont=>∃m,m<n/\I m s4
     |.brk=>R (.ok .next) s4
     |.ret v=>R (.ok (.ret v)) s4) (NB prog w A env R) s3) (NB prog w A env R) s2) (NB prog w A env R) s1) (NB prog w A env R) s)
  (n:Nat) (h:I n s):a0v (model prog w) A (.forLoop target it body orelse env) R s:=by
 refine a0v.loop rfl I (fun n s hI=>?_) n s h
 show wpC _ A ((forTurn target it body orelse env).onRaise (fun x=>do noteFrame x env;theTreesLotGoes x)) _ _ s
 refine .noted ?_;simp only[forTurn];refine .standAt (.bind ((wpC.of (wpAny_onRaise (b8H (turn n s hI) (fun r s1 q=>q) fun _ _ q=>b9y q))).mono (fun r s1 q=>?_) fun _ _ q=>q));cases r with
 |none=>exact .pure (.inr ⟨rfl,.of (codeAny_block q)⟩)
 | some v =>
   refine .bind ((wpC.of q).mono (fun _ s2 q2=>?_) fun _ _ q=>q);refine .bind ((wpC.of q2).mono (fun _ s3 q3=>?_) fun _ _ q=>q);refine .bind (q3.mono (fun f s4 q4=>?_) fun _ _ q=>q);cases f with
   |next=>exact .pure (.inl ⟨rfl,q4⟩)
   |cont=>exact .pure (.inl ⟨rfl,q4⟩)
   |brk=>exact .pure q4
   |ret v=>exact .pure q4
theorem wpC.for_{M:c0I}{target iter:Expr}{body orelse:List Stmt}{pos:Pos}{Q:Flow->b7Y->Prop}
  (h:wpAny M A (eval iter env) (fun x s1=>wpAny M A (pyIter x) (fun it s2=>a0v M A (.forLoop target it body orelse env) (fun r s3=>match r with|.ok f=>Q f s3|.error e=>cameBackBy M A env E e s3) s2) E s1) E s)
  (hs:∀x,foldedSetIterable iter env x=b9l x:=by intro _;rfl):wpC M A (exec (.For target iter body orelse pos) env) Q E s:=by
 rw[exec_For];refine .standAt (.bind ((wpC.of h).mono (fun x s1 q=>?_) fun _ _ q=>q));rw[hs x];refine .bind (.pure (.standAt (.bind (.hold ((wpC.of q).mono (fun it s2 q2=>?_) fun _ _ q=>q)))));exact .runOwn q2
theorem wpC.with{M:c0I}{P:Heap->Prop}{f:b8g}{first:LSV}{pos:Pos}{args:List (Bool×Sem b8g)}{kws:List (Option Str×Sem b8g)}{Q:VPR}(hp:(args.any (·.1)||kws.any (·.1.isNone))=false)
  (hk:∀h,P h->∃k,(k=Keeper.frame\/k=Keeper.machine\/k=Keeper.boundFrame)/\PySem.W.Looks M h (keeperOf f) k)
  (h:wpC M A (evalArgs f true args kws) (fun a s1=>P s1.heap/\wpC M A (PySem.call f (first++a.pos) a.kw) Q E s1) E s):wpC M A (callWith pos f first args kws) Q E s:=by
 unfold callWith;refine .bind (.hold (h.mono (fun a s1 q=>.standAt ?_) fun _ _ q=>q));obtain⟨k,hk',L⟩:=hk _ q.1;simp only[hp];refine .bind (.of (L.here ?_))
 have tail:∀{t:Sem b8g},wpC M A t Q E s1->wpC M A (t >>= fun r=>holding [r] point >>= fun _=>b9l r) Q E s1 :=
  fun ht=>.bind (ht.mono (fun r s2 q2=>.bind (.hold (.of (c3z (wpC.pure q2))))) fun _ _ q=>q)
 have marked (mk:b8g):wpC M A (callMarked mk f (first++a.pos) a.kw) Q E s1:=by unfold callMarked;exact .keep q.2
 rcases hk' with rfl|rfl|rfl<;>dsimp only<;>first|exact tail q.2|(split<;>first|exact tail q.2|exact tail (marked _))
theorem a0v.func{body:List Stmt}(h:wpC (model prog w) (A.deeper env) (execs body env) (fun f s1=>R (.ok (.ret (match f with|.ret v=>v|_=>.none))) s1)
   (fun e s1=>wpAny (model prog w) (A.deeper env) (leaving env e) (fun _ s2=>R (.error e) s2) (fun e' s2=>R (.error e') s2) s1) s):a0v (model prog w) A (.func body env) R s:=by
 refine .tree ?_
 show wpC _ (A.deeper env) (do point;match <- (execs body env).onRaise (leaving env) with|.ret v=>ret v|_=>ret .none) _ _ s
 refine .bind (.of (c3z ?_));refine .bind (.onRaise (h.mono (fun f s1 q=>?_) fun _ _ q=>q));cases f<;>exact .pure q
theorem a0v.enter{a:Addr}{args:Args}{o:Obj}{fd:b9d}{body:List Stmt}(hroom:A.depth<recursionLimit)(ho:s.heap.get? a=some o)
  (hd:o.data=.func fd) (hco:fd.scope.isCoroutine=false) (hgen:fd.scope.isGenerator=false) (hbody:fd.body=.stmts body) (hcd:s.heap.CodeRec fd.code fd.qualname)
  (h:wpAny (model prog w) A.in1 (bindArgs fd args) (fun binds s1=>wpAny (model prog w) A.in1 (newFunctionEnv fd.scope fd.globals fd.closure binds (fd.qualname++".<locals>.") (some a) fd.code none fd.builtins)
    (fun env s2=>s2.heap.NoLimit/\a0v (model prog w) A (.func body env) R s2) (fun e s2=>R (.error e) s2) s1) (fun e s1=>R (.error e) s1) s):a0v (model prog w) A (.call (.ref a) args) R s:=by
 refine .tree ?_;show wpC _ A.in1 (callAny (.ref a) args) _ _ s;simp only[callAny];refine .bind (.of (wpAny_load ho ?_));obtain⟨c,oc,vs,tq,hc,hoc,hdc,hq⟩:=hcd;simp only[hd,callFunction,hco,hgen,hbody,hc];rw[hc] at h;refine .bind (m:=field (.ref c) 1) (.of (b9P hoc hdc hq ?_));refine .bind (.pure (.bind ((wpC.of h).mono (fun binds s1 q=>?_) fun _ _ q=>q)));refine .bind ((wpC.of q).mono (fun env s2 q2=>?_) fun _ _ q=>q);exact .bind (.of (wpAny_enterFrame q2.1 hroom (wpC.pure (c2M rfl q2.2))))
end
end L2
namespace L2
open PySem PySem.Spec PyProof.Rows LM
noncomputable def PEc(X:Cx)(e:Expr)(t:TE):Prop :=
 ∀pins s σ H (Q:VK),Inv X pins σ H s->t σ H Q->wpC (model X.prog X.w) X.A (eval e X.env) (EP X pins σ Q) X.xe s
noncomputable def PTc(X:Cx)(e:Expr)(t:TT):Prop :=
 ∀pins s σ H (Q:Bool->Hp->Prop),Inv X pins σ H s->t σ H Q->wpC (model X.prog X.w) X.A (isTrue e X.env (eval e X.env)) (TP X pins σ Q) X.xe s
noncomputable def PSc(X:Cx)(st:Stmt)(t:TS):Prop :=
 ∀pins s σ H (D:Ends),Inv X pins σ H s->t D σ H->wpC (model X.prog X.w) X.A (exec st X.env) (SP X pins D) X.xe s
noncomputable def PSsc(X:Cx)(st:List Stmt)(t:TS):Prop :=
 ∀pins s σ H (D:Ends),Inv X pins σ H s->t D σ H->wpC (model X.prog X.w) X.A (execs st X.env) (SP X pins D) X.xe s
theorem thC{α:Type}{t:Sem α}{Q Q':α->b7Y->Prop}{M:c0I}{A:b8w}{E:VPR}{s:b7Y}(h:wpC M A t Q E s)(hQ:∀a s,Q a s->Q' a s):wpC M A t Q' E s:=h.mono hQ fun _ _ x=>x
section
variable{X:Cx}{e cnd:Expr}{st:Stmt}{rest a b:List Stmt}{te:TE}{tc:TT}{t u:TS}{pos:Pos}
theorem PE.c(h:PE X e te):PEc X e te:=fun pins s σ H Q I q=>.of (h pins s σ H Q I q)
theorem PT.c(h:PT X e tc):PTc X e tc:=fun pins s σ H Q I q=>.of (h pins s σ H Q I q)
theorem PS.c(h:PS X st t):PSc X st t:=fun pins s σ H D I q=>.of (h pins s σ H D I q)
theorem PSs.c(h:PSs X rest t):PSsc X rest t:=fun pins s σ H D I q=>.of (h pins s σ H D I q)
theorem PEc.imp{t':TE}(h:PEc X e te)(f:∀σ H Q,t' σ H Q->te σ H Q):PEc X e t':=fun pins s σ H Q I q=>h pins s σ H Q I (f σ H Q q)
theorem PTc.imp{t':TT}(h:PTc X e tc)(f:∀σ H Q,t' σ H Q->tc σ H Q):PTc X e t':=fun pins s σ H Q I q=>h pins s σ H Q I (f σ H Q q)
theorem PSc.imp{t':TS}(h:PSc X st t)(f:∀D σ H,t' D σ H->t D σ H):PSc X st t':=fun pins s σ H D I q=>h pins s σ H D I (f D σ H q)
theorem PSsc.imp{t':TS}(h:PSsc X rest t)(f:∀D σ H,t' D σ H->t D σ H):PSsc X rest t':=fun pins s σ H D I q=>h pins s σ H D I (f D σ H q)
theorem b0l(h1:PSc X st t)(h2:PSsc X rest u):PSsc X (st::rest) (tSeq t u):=by
 intro pins s σ H D I h;refine .rows (thC (h1 pins s σ H { D with nx:=u D } I h) fun f s1 q=>?_);cases f with
 | next =>
   obtain⟨σ',H',I',q⟩:=q;exact h2 pins s1 σ' H' D I' q
 |ret v=>exact q
 |brk=>exact q
 |cont=>exact q
theorem b2f(he:PEc X e te):PSc X (.Return (some e) pos) (tRet te):=by
 intro pins s σ H D I h;exact .ret (thC (he pins s σ H _ I h) fun v s1 ⟨x,H1,I1,r1,q1⟩=>⟨x,σ,H1,I1,r1,q1⟩)
theorem b4l(hc:PTc X cnd tc)(ha:PSsc X a t)(hb:PSsc X b u):PSc X (.If cnd a b pos) (tIfS tc t u):=by
 intro pins s σ H D I h;refine .cond (thC (hc pins s σ H _ I h) fun d s1 ⟨H1,I1,q1⟩=>?_);cases d with
 |true=>exact ha pins s1 σ H1 D I1 q1
 |false=>exact hb pins s1 σ H1 D I1 q1
end
noncomputable def HEXc(X:Cx)(Ha:Hp)(e:Expr)(t:TE3):Prop:=∀ρ M Q,t ρ M Q->PEc X e (fun σ H Q2=>Kp X.K Ha H/\bE X.K ρ M Q σ H Q2)
noncomputable def HTXc(X:Cx)(Ha:Hp)(e:Expr)(t:TT3):Prop:=∀ρ M Q,t ρ M Q->PTc X e (fun σ H Q2=>Kp X.K Ha H/\bT X.K ρ M Q σ H Q2)
noncomputable def HSXc(X:Cx)(Ha:Hp)(st:Stmt)(t:TS3):Prop:=∀D ρ M,t D ρ M->PSc X st (fun D2 σ H=>Kp X.K Ha H/\bS X.K D ρ M D2 σ H)
noncomputable def a3i(X:Cx)(Ha:Hp)(st:List Stmt)(t:TS3):Prop:=∀D ρ M,t D ρ M->PSsc X st (fun D2 σ H=>Kp X.K Ha H/\bS X.K D ρ M D2 σ H)
section
variable{X:Cx}{Ha:Hp}{a b cnd e:Expr}{es:LSE}{st:Stmt}{rest ba bb body:List Stmt}{ta tb te:TE3}{tA:TT3}{t u:TS3}{pos:Pos}
theorem HEX.c(h:HEX X Ha e te):HEXc X Ha e te:=fun ρ M Q q=>(h ρ M Q q).c
theorem HTX.c(h:HTX X Ha e tA):HTXc X Ha e tA:=fun ρ M Q q=>(h ρ M Q q).c
theorem HSX.c(h:HSX X Ha st t):HSXc X Ha st t:=fun D ρ M q=>(h D ρ M q).c
theorem HSsX.c(h:HSsX X Ha body t):a3i X Ha body t:=fun D ρ M q=>(h D ρ M q).c
theorem HEXc.d{ρ:En}(h:HEXc X Ha e te):PEc X e (dEX X.K Ha ρ te):=fun pins s σ H Q I ⟨M,Q3,q,b⟩=>h ρ M Q3 q pins s σ H Q I b
theorem HTXc.d{ρ:En}(h:HTXc X Ha e tA):PTc X e (dTX X.K Ha ρ tA):=fun pins s σ H Q I ⟨M,Q3,q,b⟩=>h ρ M Q3 q pins s σ H Q I b
theorem HSXc.d(h:HSXc X Ha st t):PSc X st (dSX X.K Ha t):=fun pins s σ H D I ⟨D3,ρ,M,q,b⟩=>h D3 ρ M q pins s σ H D I b
theorem a3i.d(h:a3i X Ha body t):PSsc X body (dSX X.K Ha t):=fun pins s σ H D I ⟨D3,ρ,M,q,b⟩=>h D3 ρ M q pins s σ H D I b
theorem a0p(h1:HSXc X Ha st t)(h2:a3i X Ha rest u):a3i X Ha (st::rest) (a9K t u):=fun D ρ M h =>
 (b0l h1.d h2.d).imp fun D2 σ H ⟨ka,hr,hh,en⟩=>⟨{ D with nx:=u D },ρ,M,h,ka,hr,hh,en.nxX ka⟩
theorem a2j(h1:HSXc X Ha st t):a3i X Ha [st] t:=fun D ρ M h=>by
 intro pins s σ H D2 I bb;refine .rows (thC (h1 D ρ M h pins s σ H D2 I bb) fun f s1 q=>?_);cases f with
 |next=>exact .of (b9i q)
 |ret v=>exact q
 |brk=>exact q
 |cont=>exact q
theorem b3k(he:HEXc X Ha e te):HSXc X Ha (.Return (some e) pos) (b1P te):=fun D ρ M h =>
 (b2f (he.d (ρ:=ρ))).imp fun D2 σ H ⟨ka,hr,hh,en⟩=>⟨M,_,h,ka,hr,hh,en.rt⟩
theorem b0b(hc:HTXc X Ha cnd tA)(ha:a3i X Ha ba t)(hb:a3i X Ha bb u):HSXc X Ha (.If cnd ba bb pos) (b1Q tA t u):=fun D ρ M h =>
 (b4l (hc.d (ρ:=ρ)) ha.d hb.d).imp fun D2 σ H ⟨ka,hr,hh,en⟩=>⟨M,_,h,ka,hr,hh,fun b M1 H1 k1 h1 q1=>by
  dsimp only at q1|-
  split
  ·rename_i hb;rw[if_pos hb] at q1;exact⟨D,ρ,M1,q1,ka.trans k1,hr.kp k1,h1,en.kp k1⟩
  ·rename_i hb;rw[if_neg hb] at q1
   exact⟨D,ρ,M1,q1,ka.trans k1,hr.kp k1,h1,en.kp k1⟩⟩
end
structure FnOkC(P:b8n)(w:b8F)(K:PySem.W.Frag)(mg:SOV)(base:Heap)(CX:CXT)(k:Nat)(f:Addr)(fd:b9d)(ps:LSS)(sp:Sp):Prop where
 len:∀vs H Q E,sp vs H Q E->vs.length=ps.length
 run:∀(A:b8w) (outer:List Env) (s:b7Y) (H:Hp) (args:Args) (us:LSV) (vs:List V) (Q:VK) (E:XK),Room k A->Env0 P w K mg base A outer s H->c2P s fd args (ps.zip us)->Vals vs us->sp vs H Q E ->
  a0v (model P w) A (.call (.ref f) args) (CR CX outer P w H s Q E) s
theorem FnOkC.mono{P:b8n}{w:b8F}{K:PySem.W.Frag}{mg:SOV}{base:Heap}{CX:CXT}{j k:Nat}{f:Addr}{fd:b9d}{ps:LSS}{sp:Sp}(F:FnOkC P w K mg base CX j f fd ps sp)(h:j<=k):FnOkC P w K mg base CX k f fd ps sp :=
 ⟨F.len,fun A outer s H args us vs Q E hr=>F.run A outer s H args us vs Q E (hr.mono h)⟩
theorem b3u{CX:CXT}{P:b8n}{w:b8F}{K:PySem.W.Frag}{mg:SOV}{base:Heap}{k:Nat}{f:Addr}{name qual:Str}{params:c3N}{body:List Stmt}{scope:c0t}{dV kV doc pm cdv ct oc:b8g}{an od:Option Addr}
  {osl:AOV} {N ps:LSS} {sp:Sp} (lk:K.lookup f=some ⟨oc,od,.func (PySem.W.fnOf name qual params body scope dV kV doc pm an cdv ct),osl⟩) (hcd:PySem.W.codeIn K cdv qual=true) (S:FnScope N ps scope)
  (len:∀vs H Q E,sp vs H Q E->vs.length=ps.length)
  (hbody:∀(A:b8w) (outer:List Env) (s:b7Y) (H:Hp) (vs:List V) (Q:VK) (E:XK),Room k (A.deeper (envOfC qual scope s.heap.objs.size f cdv))->sp vs H Q E ->
   ∃t,PSsc (cxOf CX P w K mg base N qual scope f cdv A outer s H E) body t/\t { nx:=fun _ H'=>Q .non H',rt:=Q } (start N vs) H) :
  FnOkC P w K mg base CX (k+1) f (PySem.W.fnOf name qual params body scope dV kV doc pm an cdv ct) ps sp:=by
 refine⟨len,fun A outer s H args us vs Q E hr e0 hb r hsp=>?_⟩;have hl:=len _ _ _ _ hsp;have KX:K.In s.heap:=e0.mod.kin.keeps fun b o e=>(e0.bs b o e).1;have lim:s.heap.NoLimit:=e0.mod.nolimit.keeps fun b o e=>(e0.bs b o e).1
 have hkind:∀y∈ps.zip us,scope.names.lookup y.1=some .local\/(scope.names.lookup y.1=some .cell/\((cellsFrom (s.heap.objs.size+1) scope.names []).lookup y.1).isSome=true):=fun⟨n,v⟩ hy=>by
  rcases S.par n (c0S hy).1 with q|q
  ·exact .inl q
  ·exact .inr ⟨q,PySem.W.cellsFrom_some _ _ _ (.inl q)⟩
 refine a0v.enter hr.depth (KX _ _ lk) rfl S.co S.gen rfl (PySem.W.codeRec_of KX hcd) (hb _ _ _ _ ?_);refine c1c S.kind hkind fun env he s1 x=>?_;subst he;refine⟨lim.keeps x.toInCall.keep,a0v.func ?_⟩;obtain⟨t,ht,hq⟩:=hbody A outer s H vs Q E (hr.deeper _) hsp;have I:Inv (cxOf CX P w K mg base N qual scope f cdv A outer s H E) [] (start N vs) H s1:=a6L S hr.hd e0 hl r x;refine(ht [] s1 (start N vs) H _ I hq).mono (fun fl s' hs=>?_) fun e s' hs=>hs
 have fin:∀{σ':St} {H':Hp} {v:V} {u:b8g},Inv (cxOf CX P w K mg base N qual scope f cdv A outer s H E) [] σ' H' s'->RelV v u->Q v H'->CE outer P w H s Q u s' :=
  fun {σ' H' v u} J rv q=>⟨v,H',J.os,J.bare,J.base,J.hok,rv,q⟩
 cases fl with
 | ret u =>
   obtain⟨v,σ',H',J,rv,q⟩:=hs;exact fin J rv q
 | next =>
   obtain⟨σ',H',J,q⟩:=hs;exact fin (v:=V.non) (u:=b8W) J rfl q
 | brk =>
   obtain⟨_,_,_,q⟩:=hs;exact b8D q
 | cont =>
   obtain⟨_,_,_,q⟩:=hs;exact b8D q
structure DfXC(P:b8n)(w:b8F)(K:PySem.W.Frag)(mg:SOV)(base:Heap)(n:Nat)(x:Str)(ps:LSS)(sp:Sp3X):Prop where
 out:∃f fd,FnOkC P w K mg base (CXE P w) n f fd ps (dSpX K mg sp)/\mg x=some (.ref f)/\PySem.W.keepIn K (.ref f)=true/\a1l K fd ps []
structure DfAC(P:b8n)(w:b8F)(K:PySem.W.Frag)(mg:SOV)(base:Heap)(n:Nat)(f:Addr)(ps:LSS)(sp:Sp3):Prop where
 out:∃fd,FnOkC P w K mg base CX0 n f fd ps (dSp K sp)/\PySem.W.keepIn K (.ref f)=true/\a1l K fd ps []
section
variable{P:b8n}{w:b8F}{K:PySem.W.Frag}{mg:SOV}{base:Heap}
end
section
variable{X:Cx}{Ha:Hp}{e:Expr}{es:LSE}{t:TA3}{pos:Pos}
noncomputable def Cx.exP(X:Cx):Prop:=∀b∈X.ex,∃p∈X.pn,p.1=b
theorem b4V(h:X.ex=[]):X.exP:=fun b hb=>by rw[h] at hb;cases hb
theorem Inv.olderP{pins:PNS}{σ:St}{H:Hp}{s:b7Y}(I:Inv X pins σ H s)(hex:X.exP):Older X pins s.heap:=by
 refine⟨fun b hb z=>?_,fun p hp z=>?_,fun z=>?_,fun x c e z=>?_⟩
 ·by_cases hm:b∈X.ex
  ·obtain⟨p,hp,rfl⟩:=hex b hm;have e:=(I.pin p (b8q _ hp)).1;rw[z] at e;cases e
  ·cases q:X.s₀.heap.get? b with
   |none=>exact hb q
   | some o =>
     obtain⟨o',e⟩:=I.base.there b o q hm;rw[z] at e;cases e
 ·have e:=(I.pin p hp).1;rw[z] at e;cases e
 ·obtain⟨m,⟨o,_,_,e,_⟩,_⟩:=I.loc;rw[z] at e;cases e
 ·obtain⟨v,o,e1,_⟩:=I.cell x c e;rw[z] at e1;cases e1
theorem b1c{n:Nat}{x:Str}{ps:LSS}{sp:Sp3X}{p:Pos}{E:EK3}(A:Acc X Ha E)(hex:X.exP)(D:DfXC X.prog X.w X.K X.mg X.base n x ps sp)(hr:Room n X.A)(ha:HA X (e::es) t)(hg:Gl X x:=by rfl)(hdb:QDD x:=by decide)
  (he:QSS X e es:=by rfl) (hpl:QPP X pos es:=by rfl) :
  HEXc X Ha (.Call (.Name x p) (e::es) [] pos) (a8f E sp t):=by
 intro ρ M Q h pins s σ H Q2 I bb;obtain⟨ka,hrr,hh,en⟩:=bb;obtain⟨f,fd,F,hm,hk,hb⟩:=D.out;rw[c0Z];refine .bind (.of (a1v I hg hm ?_ hdb));have main:wpC (model X.prog X.w) X.A (spliced (backTo pos (starEach (e::es) X.env))) (fun us s1=>X.K.In s1.heap/\wpC (model X.prog X.w) X.A (PySem.call (.ref f) ([]++us)) (EP X pins σ Q2) X.xe s1) X.xe s:=?_
 ·rw[he] at main|-
  exact .with (by show((false||(backTo pos (starEach es X.env)).any (·.1))||false)=false;rw[hpl];rfl) (PySem.W.keeps_K hk) (.args main)
 refine .of (thn (ha ρ M _ h pos pins s σ H (fun vs H1=>∃ts M1,Kp X.K H H1/\HR X.K H1 M1/\Reps X.K H1 vs ts/\sp ts M1 Q fun nm M2=>E nm ρ M2) I ⟨hrr,hh,fun ts vs M1 H1 k1 h1 r1 q1=>⟨ts,M1,k1,h1,r1,q1⟩⟩) fun us s1 ⟨vs,H1,I1,r,ts,M1,k1,h1,r1,q1⟩=>?_);refine⟨I1.kIn,?_⟩;have r2:Vals (vs++[]) (us++[]):=r.append .nil
 have q2:dSpX X.K X.mg sp (vs++[]) H1 Q2 (fun C _ H'=>∃c nm M',C=.ref c/\X.mg nm=some (.ref c)/\Kp X.K H1 H'/\HR X.K H' M'/\E nm ρ M') :=
  ⟨ts,M1,Q,_,by rw[b8O];exact r1,h1,q1,en.kp k1,fun nm C M' H' k' h' m' e'=>⟨C,nm,M',rfl,m',k',h',e'⟩⟩
 have hl:(us++[]).length=ps.length:=by rw[<- r2.length];exact F.len _ _ _ _ q2
 refine wpC.call ((F.run X.A X.stack s1 H1 ⟨us,[]⟩ (us++[]) (vs++[]) Q2 _ hr I1.env0 (hb s1 us I1.kIn hl) r2 q2).mono fun r s' hq=>?_);cases r with
 | error e =>
   obtain⟨a,C,H',rfl,os,bare,un,hok,fly,c,nm,M',rfl,m',k',h',e'⟩:=hq;have J:=I1.call' (H':=H') (ch:=[]) os un hok bare (fun b z=>absurd z (by simp));exact A pins σ H' s' s1.heap a c nm ρ M' J fly (I1.olderP hex) m' (ka.trans (k1.trans k')) (hrr.kp (k1.trans k')) h' e'
 | ok fl =>
   cases fl with
   |ret u=>exact I1.after hq
   |next=>exact b8D hq
   |brk=>exact b8D hq
   |cont=>exact b8D hq
end
noncomputable abbrev NoV{α:Type}:α->b7Y->Prop:=fun _ _=>False
noncomputable def RE(X:Cx)(e:Expr)(t:St->Hp->Prop):Prop:=∀pins s σ H,Inv X pins σ H s->t σ H->wpC (model X.prog X.w) X.A (eval e X.env) NoV X.xe s
noncomputable def RS(X:Cx)(st:Stmt)(t:St->Hp->Prop):Prop:=∀pins s σ H,Inv X pins σ H s->t σ H->wpC (model X.prog X.w) X.A (exec st X.env) NoV X.xe s
noncomputable def HER(X:Cx)(Ha:Hp)(e:Expr)(t:En->MH->Prop):Prop:=∀ρ M,t ρ M->RE X e fun σ H=>Kp X.K Ha H/\RhoR X.K σ H ρ/\HR X.K H M
noncomputable def HSR(X:Cx)(Ha:Hp)(st:Stmt)(t:En->MH->Prop):Prop:=∀ρ M,t ρ M->RS X st fun σ H=>Kp X.K Ha H/\RhoR X.K σ H ρ/\HR X.K H M
section
variable{X:Cx}{Ha:Hp}{a e o i:Expr}{es:LSE}{st:Stmt}{t:En->MH->Prop}{pos:Pos}
theorem HSR.c(h:HSR X Ha st t):HSXc X Ha st (fun _ ρ M=>t ρ M):=fun D ρ M q pins s σ H D2 I ⟨ka,hr,hh,en⟩ =>
 (h ρ M q pins s σ H I ⟨ka,hr,hh⟩).mono (fun _ _ z=>z.elim) fun _ _ z=>z
theorem b7o{x:Str}{pos':Pos}(he:HER X Ha e t)(hs:swapsWith e (some (.Name x pos')) pos.line X.env=pure false:=by rfl):HSR X Ha (.Assign [.Name x pos'] e pos) t:=fun ρ M q pins s σ H I b =>
 .set ((he ρ M q pins s σ H I b).mono (fun _ _ z=>z.elim) fun _ _ z=>z) hs
theorem b7p{pos':Pos}(he:HER X Ha e t)(hs:swapsWith e (some (.Subscript o i pos')) pos.line X.env=pure false:=by rfl):HSR X Ha (.Assign [.Subscript o i pos'] e pos) t:=fun ρ M q pins s σ H I b =>
 .put ((he ρ M q pins s σ H I b).mono (fun _ _ z=>z.elim) fun _ _ z=>z) hs
theorem b5L{ta:TE3}{x1}(ha:HE X a ta)(he:HER X Ha e t)(h1:starEach [a,e] X.env=(false,eval a X.env)::starEach [e] X.env:=by rfl)(h2:starEach [e] X.env=(false,eval e X.env)::starEach [] X.env:=by rfl) :
  HER X Ha (.Tuple [a,e] x1 pos) (fun ρ M=>ta ρ M fun _ M1=>t ρ M1):=fun ρ M q pins s σ H I b=>by
 obtain⟨ka,hr,hh⟩:=b;refine .tup (.spE (.of (thn (ha ρ M _ q pins s σ H (fun v H1=>∃M1,Kp X.K H H1/\HR X.K H1 M1/\t ρ M1) I ⟨hr,hh,fun y v M1 H1 k1 h1 r1 q1=>⟨M1,k1,h1,q1⟩⟩) fun v s1 ⟨y,H1,I1,r1,M1,k1,h1,q1⟩=>?_)) h1);exact .spE ((he ρ M1 q1 pins s1 σ H1 I1 ⟨ka.trans k1,hr.kp k1,h1⟩).mono (fun _ _ z=>z.elim) fun _ _ z=>z) h2
theorem b3X{x:Str}{ty:String}{p:Pos}(he:HER X Ha e t)(hm:X.mg x=none)(hv:bootBuiltins x=some (.type ty))(hg:Gl X x:=by rfl)(hn:x≠"__name__":=by decide)(hdb:QDD x:=by decide)
  (h1:starEach [e] X.env=(false,eval e X.env)::starEach [] X.env:=by rfl):HER X Ha (.Call (.Name x p) [e] [] pos) t:=fun ρ M q pins s σ H I b=>by
 rw[c0Z];refine .bind (.of (a5a I hg hm hv ?_ hn hdb));unfold callWith;have main:wpC (model X.prog X.w) X.A (spliced (backTo pos (starEach [e] X.env))) NoV X.xe s:=.spE ((he ρ M q pins s σ H I b).mono (fun _ _ z=>z.elim) fun _ _ z=>z) h1
 rw[h1] at main|-
 exact wpC.bind (wpC.hold (wpC.args (main.mono (fun _ _ z=>b8D z) fun _ _ z=>z)))
theorem b5N{n:Nat}{x:Str}{ps:LSS}{sp:Sp3X}{p:Pos}{E:EK3}{ta:TA3}(A:Acc X Ha E)(hex:X.exP)(D:DfXC X.prog X.w X.K X.mg X.base n x ps sp)(hr:Room n X.A)(ha:HA X (e::es) ta)(hg:Gl X x:=by rfl)(hdb:QDD x:=by decide)
  (he:QSS X e es:=by rfl) (hpl:QPP X pos es:=by rfl) :
  HER X Ha (.Call (.Name x p) (e::es) [] pos) (fun ρ M=>a8f E sp ta ρ M fun _ _=>False):=fun ρ M q pins s σ H I ⟨ka,hrr,hh⟩ =>
 (b1c A hex D hr ha hg hdb he hpl ρ M (fun _ _=>False) q pins s σ H (fun _ _=>False) I ⟨ka,hrr,hh,fun _ _ _ _ _ _ _ z=>z.elim⟩).mono (fun _ _ ⟨_,_,_,_,z⟩=>z.elim) fun _ _ z=>z
end
theorem a6C{e:b8g}{env env':Env}(h:env'.frame=env.frame):noteFrame e env'=noteFrame e env:=by
 unfold noteFrame PySem.frameOf;rw[h]
theorem a2G{M:c0I}{A:b8w}{E:VPR}{s:b7Y}{base:Heap}{e L:Addr}{cls a0 fl:b8g}{Q:Unit->b7Y->Prop}(R:s.heap.TracedAtW base e cls a0 fl)
  (h:∀h' T,h'.TracedAtW base e cls a0 (rawInt L)->base.get? T=none->(∃o ts,s.heap.get? T=some o/\o.data=.fields ts)->(∀b,b≠T->h'.get? b=s.heap.get? b)->Q () { s with heap:=h' }):wpAny M A (setFlight (.ref e) (some L)) Q E s:=by
 obtain⟨oe,vs,T,oT,ts,he,hcls,hd,h1,hnT,hTe,hT,hdT,h3⟩:=R;have hsz:3<ts.size:=(b9e.mp h3).1;have other:∀b,b≠T->(s.heap.update T (b9h (·.setIfInBounds 3 ((some L).elim b8W fun f=>rawInt f)))).get? b=s.heap.get? b:=fun b hb=>b8I _ _ (b9t hb);unfold setFlight;refine b8a (b9P he hd h1 ?_);rw[if_pos (show(b8z T != b8W)=true by simp)];refine c1w hT hdT hsz (h _ T ?_ hnT ⟨oT,ts,hT,hdT⟩ other);exact⟨oe,vs,T,_,_,(other e (b9t hTe)).trans he,hcls,hd,h1,hnT,hTe,b8Y _ hT (b9m (b8L hdT _)),b8L hdT _,by simp[hsz]⟩
theorem a7B{α:Type}{M:c0I}{A:b8w}{E:VPR}{s:b7Y}{base:Heap}{e L:Addr}{cls a0 fl:b8g}{what:String}{env:Env}{Q:α->b7Y->Prop}(hf:env.frame=some L)(R:s.heap.TracedAtW base e cls a0 fl)
  (h:∀h' T,h'.TracedAtW base e cls a0 (rawInt L)->base.get? T=none->(∃o ts,s.heap.get? T=some o/\o.data=.fields ts)->(∀b,b≠T->h'.get? b=s.heap.get? b)->E (.ref e) { s with heap:=h' }):wpAny M A (PySem.passOn what (.ref e) env:Sem α) Q E s:=by
 obtain⟨oe,vs,T,oT,ts,he,hcls,hd,h1,r⟩:=id R;unfold PySem.passOn;refine b8a (b9P he hd h1 ?_);rw[if_neg (show ¬((b8z T==b8W)=true) by simp),hf]
 first
  |exact b8a (b8r (b8a (a2G R fun h' T a b c d=>c2C (h h' T a b c d))))
  |exact b8a (a2G R fun h' T a b c d=>c2C (h h' T a b c d))
structure FlyH(H:Hp)(h0 h:Heap)(a:Addr)(C:b8g)(L:Addr):Prop where
 un:H a=none
 new:h0.get? a=none
 obj:∃oe vs a0,h.get? a=some oe/\oe.cls=C/\oe.data=.fields vs/\vs[0]?=some a0 /\
  ∃T oT ts,vs[1]?=some (.ref T)/\T≠a/\H T=none/\h0.get? T=none/\h.get? T=some oT/\oT.data=.fields ts/\ts[3]?=some (rawInt L)
noncomputable def AccH(X:Cx)(Ha:Hp)(E:EK3):Prop:=∀(pins:PNS) (σ:St) (H:Hp) (s:b7Y) (a C:Addr) (nm:Str) (ρ:En) (M:MH),
 Inv X pins σ H s->FlyH H X.s₀.heap s.heap a (.ref C) X.env.locals->X.mg nm=some (.ref C)->Kp X.K Ha H->RhoR X.K σ H ρ->HR X.K H M->E nm ρ M->X.xe (.ref a) s
section
variable{X:Cx}{pins:PNS}{σ:St}{H:Hp}{s:b7Y}
theorem a7L{E:XK}{a:Addr}{C:b8g}(L:Leaves X E)(I:Inv X pins σ H s)(F:FlyH H X.s₀.heap s.heap a C X.env.locals)(hE:E C none H):X.xe (.ref a) s:=by
 refine L.xe _ _ ?_;obtain⟨ha,ha0,oe,vs,a0,t1,t2,t3,t4,T,oT,ts,t5,t6,t7,t8,t9,t10,t11⟩:=F;have hfr:=I.ok.frames;rw[L.stk] at hfr
 have hl:s.heap.FunFrames (PySem.W.hideAll s.heap (a::T::frs X.stack)) (X.env::X.outer):=by
  rw[<- L.stk];exact a0D I.stack fun b hb=>PySem.W.hideAll_none _ (b7Z _ (b7Z _ hb))
 have hh:Heap.HeldW (PySem.W.hideAll s.heap (a::T::frs X.stack)) (X.env::X.outer) a C a0 X.env.locals s.heap :=
  ⟨fun b o q=>PySem.W.of_hideAll _ q,PySem.W.hideAll_none _ b8e,hl,oe,vs,T,oT,ts,t1,⟨t2,t4⟩,t3,t5,PySem.W.hideAll_none _ (b7Z _ b8e),t6,t9,t10,t11⟩
 unfold leaving;refine b8a (wpAny_noteFrame_againW L.fr hh.2.2.2 ?_);refine c3f hh fun h2 hfl hsm=>?_;obtain⟨k1,k2,⟨_,_,k3⟩,k4⟩:=hfl;refine a4j (B:=PySem.W.hideAll s.heap (a::T::frs X.stack)) L I ha ha0 (fun b o q hf hb hc=>PySem.W.hideAll_get _ q fun hm=>?_) k1 k4 hsm hE;rcases b8l.mp hm with z|z
 ·exact hb z
 ·rcases b8l.mp z with z|z
  ·subst z;rcases hc with c|c
   ·exact c t7
   ·exact c t8
  ·exact hf z
end
end L2
namespace L2
open PySem PySem.Spec PyProof.Rows
noncomputable def under{α:Type}(t u:Sem α):Sem α:=Sem.stack fun acts=>if (acts.any fun x=>x.1.isCaller)=true then t else u
theorem b1H{α:Type}{M:c0I}{A:b8w}{t u:Sem α}{Q:α->b7Y->Prop}{E:VPR}{s:b7Y}(h:wpC M A t Q E s)(h2:wpAny M A u Q E s):wpAny M A (under t u) Q E s:=fun Γ p i=>by
 unfold under;rw[c2j];by_cases c:(((Γ.code,p)::Γ.below).any fun x=>x.1.isCaller)=true
 ·rw[if_pos c];refine h Γ p i ?_;rw[b8U,b9j] at c;exact c
 ·rw[if_neg c];exact h2 Γ p i
theorem a7u{den:Code->Sem Fin}{prog:b8n}{w:b8F}{s s':b7Y}{t u:Sem Fin}{n:Nat}{o:Outcome}(hz:s.asleep)(h:schedN den prog w n (.single s ⟨under t u,.builtin "claim.caller" {},default,[]⟩)=.halted o s') :
  ∃m,schedN den prog w m (.single s ⟨t,.builtin "claim.caller" {},default,[]⟩)=.halted o s':=by
 cases n with
 |zero=>cases h
 | succ n =>
   have st:step den prog w s ⟨under t u,.builtin "claim.caller" {},default,[]⟩=.go s ⟨t,.builtin "claim.caller" {},default,[]⟩:=by
    unfold under;rfl
   simp only[schedN] at h;rcases sstep_single (den:=den) (prog:=prog) (w:=w) s ⟨under t u,.builtin "claim.caller" {},default,[]⟩ rfl hz with e|e
   ·rw[e,st] at h;exact⟨n,h⟩
   ·rw[st] at e;cases e
theorem b2K{M:c0I}{name:Str}{f:b8g}{vs:LSV}{mg:SOV}{Q:Fin->b7Y->Prop}{E:VPR}{s:b7Y}(hg:s.heap.Ns mainGlobals mg)(hf:mg name=some f)
  (h:wpAny M callerA (under (PySem.call f vs) (b9l (.bool true))) (fun v s'=>Q (.done (.ret v)) s') E s) :
  wpAny M callerA (under (do match <- nsGet mainNs name with
   |some g=>do ret (<- PySem.call g vs)
   |none=>unsupported "claim.caller:no-such-global") (ret (.bool true))) Q E s:=fun Γ p i=>by
 have hh:=h Γ
 unfold under at hh|-
 rw[c2j];by_cases c:(((Γ.code,p)::Γ.below).any fun x=>x.1.isCaller)=true
 ·rw[if_pos c,b9O];refine b8V M Γ _ (fun v p1 s1 q=>?_) (fun _ _ _ q=>q) _ _ (wpAny_nsGet (Q:=fun v s1=>v=mg name/\s1=s) hg ⟨rfl,rfl⟩ Γ p i);obtain⟨rfl,rfl⟩:=q;rw[hf]
  have c1:(((Γ.code,p1)::Γ.below).any fun x=>x.1.isCaller)=true:=by
   rw[b8U] at c|-
   exact c
  have q:=hh p1 i;rw[c2j,if_pos c1] at q;show Sem.wp M Γ (PySem.call f vs >>= fun v=>ret v) _ _ p1 s1;rw[b9O];exact b8V M Γ _ (fun v p2 s2 q2=>q2) (fun _ _ _ q=>q) _ _ q
 ·rw[if_neg c];have q:=hh p i;rw[c2j,if_neg c] at q;exact q
end L2
namespace CC
open PySem PySem.W PySem.Spec PyProof.Rows
theorem PySem.W.holds_open{r:OpenRow}{q:b8n}{loose:LSS}{Xt:b7Y->Bool}{XP:(SOV)->Heap->Prop}{α:Type}{Yf:b7Y->α}{Ya:b8F->α}{YP:b8F->Heap->Prop}{d:DefRec}{kwd:List (Str×Expr)}{N:Nat}
  (left:LeftO r.prog q loose Xt Yf Ya N) (hY:∀w s,Yf s=Ya w->YP w s.heap)
  (hYk:∀w h h',YP w h->(∀b o,h.get? b=some o->h'.get? b=some o)->YP w h') (hX:∀s,Xt s=true->XP (s.heap.nsMap mainGlobals) s.heap)
  (hXk:∀mg h h',XP mg h->(∀b o,h.get? b=some o->h'.get? b=some o)->XP mg h') (hdef:defOf q r.name=some (d,kwd))
  (hp:r.prog.theDef r.name=some (d.params,d.body,d.scope)) (hk:kwWritten? d.params.kwonlyargs d.params.kw_defaults=some kwd)
  (hRf:∀s,Xt s=true->RecFacts r.records s.heap) (hwr:(!r.writes||r.records.isEmpty)=true) (k1:r.wellSaid=true)
  (ok:(chainsOk q&&opensWell r.prog&&(frees r.toRowW&&r.within.isEmpty))=true) (hb:r.prog.bare) (hw:r.toRowW.promised)
  (call:WalkO q loose XP YP r.toRowW d kwd fun f vs=>L2.under (PySem.call f vs) (b9l (.bool true))):r.Holds:=by
 have hch:chainsOk q=true:=by
  simp only[b8m] at ok;exact ok.1.1
 have pins:∀w s,s.heap.isNs mainGlobals=true->Ground q loose [] XP w s (s.heap.nsMap mainGlobals) (s.heap.nsMap builtinsNs) s.heap->∀n∈(if r.pinned then [r.name] else []),isTheDefsW r.prog s.heap n:=by
  intro w s hg G n hn;have e:n=r.name:=by split at hn<;>simp_all
  rw[e];exact pinned_of_view hg G hdef hp hk
 have H:=open_anyG (r:=r.toRowW) (kps:=r.keeps) (tree:=fun vs=>L2.under (do match <- nsGet mainNs r.name with
   |some g=>do ret (<- PySem.call g vs)
   |none=>unsupported "claim.caller:no-such-global") (ret (.bool true))) (writes:=r.writes) left hY hYk hX hXk hRf hwr ok hb hw (fun vs w s mg f Q E hg hf h=>L2.b2K hg hf h) pins
  (by
   intro w s0 s1 mg mb G Y args vs as hpre hlay L low;obtain⟨a,o,pm,cd,doc,dV,kV,h1,h2,h3,h4,h5⟩:=G.fn hdef;refine⟨.ref a,h1,?_⟩
   exact call w s0 s1 mg mb G Y a o pm cd doc dV kV h2 h3 h4 h5 (defOf_name hdef▸h1) L.gens args vs as hpre hlay L.reads L.well (L.low low))
 obtain⟨H1,H2,H3⟩:=H;refine⟨k1,hw,H1,H2,fun w=>⟨(H3 w).1,fun s hs=>?_⟩⟩;obtain⟨s0,f1,f2,s1,top,rest⟩:=(H3 w).2 s hs;refine⟨s0,f1,f2,s1,top,rest.1,rest.2.1,rest.2.2.1,fun args hpre hlay ord hord=>?_⟩;obtain⟨vs,s2,hl,n,o,s',hs',tail⟩:=rest.2.2.2 args hpre hlay ord hord;obtain⟨s0',f1',_,s1',top',z,_⟩:=(left.behind hX hch w).2 s hs;have e0:s0'=s0:=b8s (f1'.symm.trans f1);have z1:s1.asleep:=c2k (top.2.1.trans (e0▸top'.2.1.symm)) z;have z2:s2.asleep:=c2k (layAllW_rest _ _ _ hl).2.2.2 z1;obtain⟨m,hm⟩:=L2.a7u z2 hs';exact⟨vs,s2,hl,m,o,s',hm,tail⟩
end CC
namespace Att
open PySem PySem.W PySem.Calls PyProof.Rows
theorem attach_callC{l:OpenLaw}{n:Nat}{q:b8n}{loose:LSS}{XP:(SOV)->Heap->Prop}{YP:b8F->Heap->Prop}{d:DefRec}
  (hn:l.most=some n) (hdf:d.params.defaults=[])
  (call:∀(w:b8F) (s₀ s₁:b7Y) (mg mb:SOV) (fa:Addr) (o:Obj) (pm cd doc:b8g) (a:Addr) (vs:LSV) (ns:LSI),
   Ground q loose [] XP w s₀ mg mb s₁.heap->YP w s₁.heap ->
   s₁.heap.get? fa=some o->o.data=.func (docDef d.name d.params d.body d.scope pm cd doc)->s₁.heap.CodeRec cd d.name->mg d.name=some (.ref fa) ->
   s₁.heap.get? a=some { cls:=.type "list",data:=.seq vs.toArray }->c3J vs ns->ns.length<=n->s₁.gens=#[] ->
   L2.a0v (model l.prog w) callerA (.call (.ref fa) ⟨[.ref a],[]⟩) (fun r s'=>r=.ok (.ret (.bool true))/\OldK s₁.heap s'.heap/\s'.os=s₁.os/\c1s s'.gens) s₁) :
  WalkO q loose XP YP l.row.toRowW d [] (fun f vs=>L2.under (PySem.call f vs) (b9l (.bool true))):=by
 intro w s₀ s₁ mg mb G Y fa o pm cd doc dV kV ho hd hcd hD hmg hg args vals as hpre hlay hrd hwl hlo;obtain rfl:dV=.none:=Dflts.none hD hdf;obtain rfl:kV=.none:=Dflts.noKw hD;obtain⟨a,vs,ns,rfl,rfl,hobj,hints,hlen⟩:=a9W hn hpre hwl
 have good:∀s':b7Y,OldK s₁.heap s'.heap->s'.os=s₁.os->c1s s'.gens->GoodWG l.row.toRowW.claim (classAt s₀.heap) (ExcName.means s₀.heap) [.list (ns.map .int)] s₁ (.ok (.ret (.bool true))) s':=fun s' h2 h3 h4 =>
  ⟨.inl ⟨.bool true,.bool true,[],rfl,fun _=>rfl,.bool true,b0o l _,fun _=>⟨c0F,fun _ hm=>(nomatch hm)⟩⟩,h2,h3,h4⟩
 refine L2.b1H (L2.wpC.call ((call w s₀ s₁ mg mb fa o pm cd doc a vs ns G Y ho (fd_plain hd) hcd hmg hobj hints hlen hg).mono fun r s' hq=>?_)) (b8r (good _ (.refl _) rfl (.of_eq hg)));obtain⟨rfl,h2,h3,h4⟩:=hq;exact good s' h2 h3 h4
end Att
namespace L2
open PySem PySem.Spec PyProof.Rows
theorem b0I {P:b8n} {w:b8F} {K:PySem.W.Frag} {mg mb:SOV} {CX:CXT} {k:Nat} {fa a:Addr} {fd:b9d} {x:Str} {sp:Sp} {s₁:b7Y} {vs:LSV} {ns:LSI}
  (KX:K.In s₁.heap) (hns:s₁.heap.Ns mainGlobals mg) (hb:s₁.heap.Ns builtinsNs mb) (hbb:∀x:Str,x≠"__name__"->mb x=bootBuiltins x) (hlim:s₁.heap.NoLimit) (hg:s₁.gens=#[])
  (ha:s₁.heap.get? a=some { cls:=.type "list",data:=.seq vs.toArray }) (hi:c3J vs ns) (hl:ns.length<=sizeLine) (hr:Room k callerA)
  (F:∀base:Heap,K.In base->base.Ns mainGlobals mg->FnOkC P w K mg base CX k fa fd [x] sp) (hbind:∀(s:b7Y) (u:b8g),c2P s fd ⟨[u],[]⟩ [(x,u)])
  (hsp:∀H:Hp,Only H->SqL K H a (ns.map V.int)->sp [.ref a] H (fun v _=>v=.bl true) fun _ _ _=>False)
  (hCX:∀H e s',CX [] H s₁ (fun _ _ _=>False) e s'->False) :
  a0v (model P w) callerA (.call (.ref fa) ⟨[.ref a],[]⟩) (fun r s'=>r=.ok (.ret (.bool true))/\OldK s₁.heap s'.heap/\s'.os=s₁.os/\c1s s'.gens) s₁:=by
 have rv:=a6d hi;have lenV:=hi.length
 -- from an abstract heap in which nothing but the script may be tracked
 have core:∀H:Hp,Only H->SqL K H a (ns.map V.int)->HOk P w H s₁.heap->(∀b,H b≠none->b=a)->(H a≠none->K.lookup a=none) ->
   a0v (model P w) callerA (.call (.ref fa) ⟨[.ref a],[]⟩) (fun r s'=>r=.ok (.ret (.bool true))/\OldK s₁.heap s'.heap/\s'.os=s₁.os/\c1s s'.gens) s₁:=by
  intro H hO hS hok hA hK;have base_of:∀{b:Addr} {o:Obj},s₁.heap.get? b=some o->H b=none->(hidT s₁.heap H).get? b=some o:=fun e n=>b2L e n
  have noA:∀{b:Addr} {o:Obj} {es:Array c3R} {ep:Nat},s₁.heap.get? b=some o->o.data=.dict es ep->H b=none:=fun {b o es ep} e d=>by
   cases q:H b with
   |none=>rfl
   | some u =>
     have e':b=a:=hA b (by rw[q];simp);subst e';rw[ha] at e;cases e;have d':Data.seq vs.toArray _=Data.dict es ep:=d;cases d'
  have nsK:∀{b:Addr} {m:SOV},s₁.heap.Ns b m->(hidT s₁.heap H).Ns b m:=fun {b m} ⟨o,es,ep,e,d,r⟩=>⟨o,es,ep,base_of e (noA e d),d,r⟩
  have hKb:K.In (hidT s₁.heap H):=fun b o e=>base_of (KX b o e) (by
   cases q:H b with
   |none=>rfl
   | some u =>
     have e':b=a:=hA b (by rw[q];simp);subst e'
     rw[hK (by rw[q];simp)] at e;cases e)
  have hM:Mod K mg (hidT s₁.heap H):=⟨hKb,nsK hns,⟨mb,nsK hb,hbb⟩,let ⟨mc,h1,h2⟩:=hlim;⟨mc,nsK h1,h2⟩⟩
  have e0:Env0 P w K mg (hidT s₁.heap H) callerA [] s₁ H:=⟨rfl,hM,fun b o e=>b4D e,c1W (b0X _ _),trivial,fun b hb=>absurd (show b∈([]:List Addr) from hb) (by simp),hok,.of_eq hg⟩;refine((F _ hKb (nsK hns)).run callerA [] s₁ H ⟨[.ref a],[]⟩ [.ref a] [.ref a] _ _ hr e0 (hbind s₁ (.ref a)) (.cons rfl .nil) (hsp H hO hS)).mono fun r s' h=>?_;cases r with
  |error e=>exact(hCX H e s' h).elim
  | ok fl =>
    cases fl with
    |next=>exact b8D h
    |brk=>exact b8D h
    |cont=>exact b8D h
    | ret u =>
      obtain⟨v,H',os,bare,un,hok',r',q⟩:=h;have q':v=.bl true:=q;subst q';obtain rfl:u=c0z true:=r';refine⟨rfl,OldK.of_keep fun b o e=>?_,os,bare⟩;cases q:H b with
      |none=>exact un.keep b o e q (by intro z;exact absurd (show b∈([]:List Addr) from z) (by simp)) (by simp)
      | some u =>
        rcases hO b with z|⟨ob,xs,z⟩
        ·rw[q] at z;cases z
        ·have z2:=un.frzs b ob _ z;obtain⟨e1,_⟩:=hok b _ z;obtain⟨e2,_⟩:=hok' b _ z2;rw[e] at e1;cases e1;exact e2
 cases hk:K.lookup a with
 | some o =>
   -- the script is one of the module's own objects
   have e:=KX a o hk;rw[ha] at e;cases e;refine core (fun _=>none) (fun _=>.inl rfl) (.inr ⟨_,vs.toArray,_,hk,rfl,rfl,rfl,by rw[b8h,lenV];exact hl,by simpa using rv⟩) (fun b u z=>by have z':(none:Option HO)=some u:=z;cases z') (fun b z=>absurd rfl z) fun z=>absurd rfl z
 | none =>
   refine core (fun b=>if b=a then some (.frz { cls:=.type "list",data:=.seq vs.toArray } (.lst (ns.map V.int))) else none) (fun b=>?_) (.inl (.inr ⟨{ cls:=.type "list",data:=.seq vs.toArray },if_pos rfl⟩)) (fun b u z=>?_) (fun b z=>?_) fun _=>hk
   ·by_cases hb:b=a
    ·exact .inr ⟨_,_,if_pos hb⟩
    ·exact .inl (if_neg hb)
   ·by_cases hb:b=a
    ·have z':=(if_pos hb).symm.trans z;cases z';subst hb;exact⟨ha,by rw[b8f];exact hl,vs,_,rv,ha⟩
    ·have z':=(if_neg hb).symm.trans z;cases z'
   ·by_cases hb:b=a
    ·exact hb
    ·exact absurd (if_neg hb) z
theorem b1M{l:PySem.W.OpenLaw}{n k:Nat}{q:b8n}{loose:LSS}{XP:(SOV)->Heap->Prop}{YP:b8F->Heap->Prop}{d:DefRec}{K:Params->PySem.W.Frag}{CX:b8F->CXT}{sp:b8F->Sp}{x:Str}
  (hn:l.most=some n) (hn2:n<=sizeLine) (hdf:d.params.defaults=[]) (hr:Room k callerA)
  (hY:∀(w:b8F) (h:Heap),YP w h->(K w.params).In h)
  (F : ∀(w:b8F) (mg:SOV) (fa:Addr) (h:Heap),(K w.params).In h->h.Ns mainGlobals mg->mg d.name=some (.ref fa) ->
   ∃ fd:b9d,(∀(s:b7Y) (u:b8g),c2P s fd ⟨[u],[]⟩ [(x,u)]) /\
     ∀base:Heap,(K w.params).In base->base.Ns mainGlobals mg->FnOkC l.prog w (K w.params) mg base (CX w) k fa fd [x] (sp w))
  (hsp:∀(w:b8F) (H:Hp) (a:Addr) (ns:LSI),ns.length<=n->Only H->SqL (K w.params) H a (ns.map V.int)->sp w [.ref a] H (fun v _=>v=.bl true) fun _ _ _=>False)
  (hCX:∀(w:b8F) (H:Hp) (s:b7Y) (e:b8g) (s':b7Y),CX w [] H s (fun _ _ _=>False) e s'->False) :
  PySem.W.WalkO q loose XP YP l.row.toRowW d [] (fun f vs=>L2.under (PySem.call f vs) (b9l (.bool true))):=by
 refine Att.attach_callC hn hdf fun w s₀ s₁ mg mb fa o pm cd doc a vs ns G Y ho hd hcd hmg hobj hints hlen hg=>?_;have KX:=hY w _ Y;obtain⟨fd,hb,hF⟩:=F w mg fa _ KX G.T.g hmg;exact b0I KX G.T.g G.T.b G.T.builtins G.T.nolimit hg hobj hints (b8G hlen hn2) hr hF hb (fun H hO hS=>hsp w H a ns hlen hO hS) fun H e s'=>hCX w H s₁ e s'
theorem b0H{l:PySem.W.OpenLaw}{k:Nat}{q:b8n}{loose:LSS}{XP:(SOV)->Heap->Prop}{YP:b8F->Heap->Prop}{d:DefRec}{K:Params->PySem.W.Frag}{sp:Sp3}
  (hn:l.most=some 63) (hdf:d.params.defaults=[]) (hr:Room k callerA) (hY:∀(w:b8F) (h:Heap),YP w h->(K w.params).In h)
  (hs:∀(ns:LSI) M Q,ns.length<=63->Q (.bl true) M->sp [.rd (ns.map .int)] M Q)
  (F:∀(w:b8F) (mg:SOV) (fa:Addr) (h:Heap),(K w.params).In h->h.Ns mainGlobals mg->mg d.name=some (.ref fa) ->
   ∃fd:b9d,(∀(s:b7Y) (u:b8g),c2P s fd ⟨[u],[]⟩ [("script",u)])/\∀base:Heap,(K w.params).In base->base.Ns mainGlobals mg->FnOkC l.prog w (K w.params) mg base CX0 k fa fd ["script"] (dSp (K w.params) sp)) :
  PySem.W.WalkO q loose XP YP l.row.toRowW d [] (fun f vs=>L2.under (PySem.call f vs) (b9l (.bool true))):=by
 refine L2.b1M (n:=63) (k:=k) (x:="script") (CX:=fun _=>CX0) (sp:=fun w=>dSp (K w.params) sp) hn (by decide) hdf hr hY F (fun w H a ns hl hO hS=>?_) fun _ _ _ _ _ z=>z
 have fz:FzL (K w.params) H a (ns.map V.int):=by
  rcases hS with (h|⟨o,h⟩)|h
  ·rcases hO a with z|⟨ob,xs,z⟩
   ·rw[h] at z;cases z
   ·rw[h] at z;cases z
  ·exact .inl ⟨o,h⟩
  ·exact .inr h
 refine⟨[.rd (ns.map .int)],fun _=>none,fun t _=>t=.bl true,.cons ?_ .nil,(fun _ _ z=>by cases z),hs ns _ (fun t _=>t=.bl true) hl rfl,fun t v M' H' _ _ r e=>?_⟩
 ·unfold Rep;exact⟨a,_,rfl,fz,Reps.of_ints ns⟩
 ·subst e;exact a2f r
theorem PSsc.nox{X:Cx}{sts:List Stmt}{t:TS}(h:PSsc X.nox sts t):PSsc X sts t:=fun pins s σ H D I hw =>
 (h pins s σ H D (I.wish _) hw).mono (fun _ _ q=>q.unwish) fun _ _ z=>b8D z
theorem Fun.fnkC{P:b8n}{w:b8F}{K:PySem.W.Frag}{mg:SOV}{base:Heap}{x qual:Str}{st:Stmt}{f:Addr}{fd:b9d}{N ps:LSS}{n:Nat}{sp:Sp3}{t:TS3}(F:Fun K x qual st f fd)(S:FnScope N ps (a0b st))(len:∀ts M Q,sp ts M Q->ts.length=ps.length)
  (hbody:∀{cdv:b8g} {A:b8w} {outer:List Env} {s:b7Y} {H:Hp} {E:XK},Room n (A.deeper (envOfC qual (a0b st) s.heap.objs.size f cdv)) ->
   a3i (cxOf CX0 P w K mg base N qual (a0b st) f cdv A outer s H E).nox H (a0K st) t)
  (rd:∀ts M Q,sp ts M Q->t { nx:=fun _ M'=>rt3 M Q .non M',rt:=rt3 M Q } (a0T N ts) M):FnOkC P w K mg base CX0 (n+1) f fd ps (dSp K sp):=by
 obtain⟨oc,od,kV,doc,pm,an,cdv,ct,osl,rfl,lk,hcd⟩:=F.ex;refine b3u lk hcd S (fun vs H Q E ⟨ts,M,Q3,r,_,q,_⟩=>by rw[r.length];exact len _ _ _ q) fun A outer s H vs Q E hr ⟨ts,M,Q3,r,hh,q,en⟩=>?_;refine⟨_,(hbody hr _ _ _ (rd ts M Q3 q)).nox,Kp.refl,a2p r,hh,⟨?_,?_,fun _ _ _ _ _ _ _ z=>z.elim,fun _ _ _ _ _ _ _ z=>z.elim⟩⟩
 ·rintro ρ' M' σ' H' k hr' hh' ⟨M0,hs,q'⟩;exact en .non .non M0 H' k (hh'.sub hs) a2q q'
 ·rintro t' v' M' H' k hh' r' ⟨M0,hs,q'⟩;exact en t' v' M0 H' k (hh'.sub hs) r' q'
end L2
namespace L2
open PySem PySem.Spec PyProof.Rows LM
noncomputable def a5f(M:c0I)(A:b8w)(E:VPR)(cenv:Env)(r:c1y)(s':b7Y):Prop :=
 match r with
 |.ok _=>False
 |.error x=>∃m,s'.heap.Ns cenv.locals m/\∀h',c0q cenv.locals s'.heap h'->wpAny M A (PySem.passOn "comprehension.variables-let-go" x cenv:Sem b8g) NoV E { s' with heap:=h' }
section
variable{M:c0I}{A:b8w}{E:VPR}{s:b7Y}{env:Env}
theorem wpC.standIf{α:Type}{c:Prop}[Decidable c]{pos:Pos}{k:PUnit->Sem α}{Q:α->b7Y->Prop}(h:wpC M A (k ()) Q E s):wpC M A (if c then (PySem.standAt pos >>= k) else k ()) Q E s:=by
 split
 ·exact .standAt h
 ·exact h
theorem wpC.compR{e:Expr}{scope:c0t}{pos:Pos}{newAcc first:Sem b8g}{g:c2N}{gs:List c2N}{cl:List (Str×Addr)}
  (hcl:clausesOf e=g::gs) (hs:∀x,foldedSetIterable g.iter env x=b9l x) (hclos:closureFor scope env=b9l cl) (hkind:scope.kind=.function)
  (hnames:∀x∈scope.names,x.2=.local->scope.names.lookup x.1=some .local)
  (h:wpAny M A first (fun x s1=>wpAny M A (pyIter x) (fun it s2=>wpAny M A newAcc (fun acc s3=>wpAny M A (newFunctionEnv scope env.globals cl [] env.qual none .none (some env))
   (fun cenv s4=>a0v M A (.compStart e 0 it acc { cenv with scope:=relabel scope env }) (a5f M A E { cenv with scope:=relabel scope env }) s4) E s3) E s2) E s1) E s) :
  wpC M A (comprehension e scope env pos newAcc false first none) NoV E s:=by
 unfold comprehension;rw[hclos,hcl];refine .bind ((wpC.of h).mono (fun x s1 q=>.standAt ?_) fun _ _ q=>q);refine .bind (.of (wpAny_of_eq (hs x) ?_));refine .bind (.hold ((wpC.of q).mono (fun it s2 q2=>?_) fun _ _ q=>q));refine .standIf (.bind ((wpC.of q2).mono (fun acc s3 q3=>?_) fun _ _ q=>q));refine .bind (.pure (.bind ((wpC.of q3).mono (fun cenv s4 q4=>?_) fun _ _ q=>q)));dsimp only
 have hv:∀x∈(scope.names.filter fun x=>(x.2==.local||x.2==.cell)&&x.1 != (".0":Str)).reverse,x.2=.local->Env.kindOf { cenv with scope:=relabel scope env } x.1=some .local :=
  fun x hx hl=>lookup_relabel_local (hnames x (c3u.mp (c3l.mp hx)).1 hl)
 refine .hold (.bind (.attempt (.hold (.run (q4.mono fun r s' hr=>?_)))));cases r with
 |ok f=>exact hr.elim
 | error x =>
   obtain⟨m,hn,hr⟩:=hr;exact .bind (.hold (.of (wpAny_comp_letGo (cenv:={ cenv with scope:=relabel scope env }) hkind _ s' m hv hn fun h' m' _ sb=>wpC.of (hr h' sb))))
end
section
variable{prog:b8n}{w:b8F}{A:b8w}{E:VPR}{s:b7Y}{env:Env}{R:c1y->b7Y->Prop}
theorem a0v.compL{elt target iter:Expr}{ifs:LSE}{scope:c0t}{pos:Pos}{it acc:b8g}(I:Nat->b7Y->Prop)
  (turn:∀n s,I n s->wpAny (model prog w) A (pyNext it) (fun r s1=>match r with
   |none=>R (.ok .next) s1
   | some v=>wpAny (model prog w) A (letOwnedTupleGo target it v) (fun _ s2=>wpAny (model prog w) A (assign target env v) (fun _ s3 =>
     wpAny (model prog w) A (forIn ifs true fun c r=>if r=true then do let ok <- isTrue c env (eval c env);b9l (c0b ok) else b9l (c0b r)) (fun ok s4 =>
      if ok=true then wpC (model prog w) A (eval elt env) (fun x s5=>wpAny (model prog w) A (PySem.call (.builtin "list.append") [acc,x]) (fun _ s6=>∃m,m<n/\I m s6) (NB prog w A env R) s5) (NB prog w A env R) s4
      else ∃m,m<n/\I m s4) (NB prog w A env R) s3) (NB prog w A env R) s2) (NB prog w A env R) s1) (NB prog w A env R) s)
  (n:Nat) (h:I n s):a0v (model prog w) A (.compLoop (.ListComp elt [⟨target,iter,ifs,0⟩] scope pos) 0 it acc env) R s:=by
 refine a0v.loop rfl I (fun n s hI=>?_) n s h
 show wpC _ A ((compTurn (.ListComp elt [⟨target,iter,ifs,0⟩] scope pos) 0 it acc env).onRaise (fun x=>do noteFrame x env;theTreesLotGoes x)) _ _ s
 refine .noted ?_;rw[compTurn_list];refine .standAt (.bind ((wpC.of (turn n s hI)).mono (fun r s1 q=>?_) fun _ _ q=>q));cases r with
 |none=>exact .pure q
 | some v =>
   refine .bind ((wpC.of q).mono (fun _ s2 q2=>.bind ((wpC.of q2).mono (fun _ s3 q3=>.bind ((wpC.of q3).mono (fun ok s4 q4=>?_) fun _ _ q=>q)) fun _ _ q=>q)) fun _ _ q=>q);cases ok with
   |false=>exact .pure (.inl ⟨rfl,q4⟩)
   |true=>exact .bind (.bind (wpC.mono q4 (fun x s5 q5=>.bind ((wpC.of q5).mono (fun _ s6 q6=>.pure (.pure (.inl ⟨rfl,q6⟩))) fun _ _ q=>q)) fun _ _ q=>q))
theorem wpC.notedAt{α:Type}{M:c0I}{m:Sem α}{Q:α->b7Y->Prop}(h:wpC M A m Q (notedBy M A env E) s):wpC M A (m.onRaise fun x=>do noteFrame x env;PySem.standAt theWindowsPlace) Q E s :=
 .onRaise (h.mono (fun _ _ q=>q) fun _ _ q=>b8a (b8H q (fun _ _ e=>b9y e) fun _ _ e=>e))
theorem a0v.compS{elt target iter:Expr}{ifs:LSE}{rest:List c2N}{scope:c0t}{pos:Pos}{it acc:b8g}
  (h0:a0v (model prog w) A (.compLoop (.ListComp elt (⟨target,iter,ifs,0⟩::rest) scope pos) 0 it acc env) R s)
  (h:wpAny (model prog w) A (pyIter it) (fun it' s'=>a0v (model prog w) A (.compLoop (.ListComp elt (⟨target,iter,ifs,0⟩::rest) scope pos) 0 it' acc env) R s') (NB prog w A env R) s) :
  a0v (model prog w) A (.compStart (.ListComp elt (⟨target,iter,ifs,0⟩::rest) scope pos) 0 it acc env) R s:=by
 refine .tree ?_
 show wpC _ _ ((compStart (.ListComp elt (⟨target,iter,ifs,0⟩::rest) scope pos) 0 it acc env).onRaise (fun x=>do noteFrame x env;PySem.standAt theWindowsPlace)) _ _ s
 refine .notedAt ?_;unfold compStart;show wpC _ _ (ask >>= _) _ _ s;refine .bind (.of (wpAny_askSetting ?_));split
 ·exact .bind (.pure (.pure (c2M rfl h0)))
 ·show wpC _ _ (PySem.standAt iter.pos >>= fun _=>pyIter it >>= fun r=>PySem.again (.compLoop (.ListComp elt (⟨target,iter,ifs,0⟩::rest) scope pos) 0 r acc env)) _ _ s;exact .standAt (.bind (wpC.mono (wpC.of h) (fun it' s' h'=>.pure (c2M rfl h')) fun _ _ x=>x))
end
section
variable{X:Cx}{pins:PNS}{σ:St}{H:Hp}
theorem a8Z{H1:Hp}{s2 s8:b7Y}{h0:Heap}{a C0 C:Addr}{cenv:Env}{m:SOV}(hex:X.ex=[])(hst:X.stack=X.env::X.outer)(hfr:X.env.frame=some X.env.locals)(I2:Inv X pins σ H s2)(I8:Inv X pins σ H1 s8)
  (F:Fly H1 h0 s8.heap a (.ref C0)) (old:∀b,s2.heap.get? b≠none->h0.get? b≠none) (fC:FpOk X pins H1 C) (hn:s8.heap.Ns C m) (hcf:cenv.frame=X.env.frame) (hcl:cenv.locals=C)
  (acc:∀s6,Inv X pins σ H1 s6->FlyH H1 X.s₀.heap s6.heap a (.ref C0) X.env.locals->X.xe (.ref a) s6) :
  NB X.prog X.w X.A cenv (a5f (model X.prog X.w) X.A X.xe cenv) (.ref a) s8:=by
 obtain⟨na,na0,oe,vs,a0,t1,t2,t3,t4,T5,oT,ts,t5,t6,t7,t8,t9,t10,t11⟩:=F
 have hold:∀{b:Addr},h0.get? b=none->X.s₀.heap.get? b=none/\∀p∈X.pn++pins,p.1≠b:=fun {b} z=>by
  have z2:s2.heap.get? b=none:=b8y fun q=>old b q z;refine⟨b8y fun q=>?_,fun p hp q=>?_⟩
  ·obtain⟨o,e⟩:=I2.old hex q;rw[z2] at e;cases e
  ·have e:=(I2.pin p hp).1;rw[q,z2] at e;cases e
 have fA:H1 a=none/\X.s₀.heap.get? a=none/\∀p∈X.pn++pins,p.1≠a:=⟨na,hold na0⟩;have fT:H1 T5=none/\X.s₀.heap.get? T5=none/\∀p∈X.pn++pins,p.1≠T5:=⟨t7,hold t8⟩;have frames:=I8.ok.frames;rw[hst] at frames;obtain⟨base,hbase⟩:∃b,b=PySem.W.hideAll s8.heap (a::T5::frs X.stack):=⟨_,rfl⟩
 have hl:s8.heap.FunFrames base (X.env::X.outer):=by
  rw[<- hst,hbase];exact a0D I8.stack fun b hb=>PySem.W.hideAll_none _ (b7Z _ (b7Z _ hb))
 have hfl:c2g base (X.env::X.outer) a (.ref C0) a0 s8.heap:=by
  rw[hbase] at hl|-
  exact⟨fun b o q=>PySem.W.of_hideAll _ q,PySem.W.hideAll_none _ b8e,hl,oe,vs,T5,oT,ts,t1,⟨t2,t4⟩,t3,t5,PySem.W.hideAll_none _ (b7Z _ b8e),t6,t9,t10,t11⟩
 have hB:∀b o,s8.heap.get? b=some o->b∉frs X.stack->b≠a->b≠T5->base.get? b=some o:=fun b o q hf g1 g2=>hbase▸PySem.W.hideAll_get _ q fun hm=>by
  rcases b8l.mp hm with z|z
  ·exact g1 z
  ·rcases b8l.mp z with z|z
   ·exact g2 z
   ·exact hf z
 have fresh:∀T,base.get? T=none->T≠a->T∉frs X.stack->H1 T=none/\X.s₀.heap.get? T=none/\∀p∈X.pn++pins,p.1≠T:=fun T e1 e2 e3=>by
  by_cases h5:T=T5
  ·rw[h5];exact fT
  ·have z8:s8.heap.get? T=none:=by
    cases q:s8.heap.get? T with
    |none=>rfl
    |some o=>rw[hB T o q e3 e2 h5] at e1;cases e1
   refine⟨?_,b8y fun q=>?_,fun p hp q=>?_⟩
   ·cases q:H1 T with
    |none=>rfl
    |some u=>obtain⟨o,e⟩:=(I8.hok T u q).has;rw[z8] at e;cases e
   ·obtain⟨o,e⟩:=I8.old hex q;rw[z8] at e;cases e
   ·have e:=(I8.pin p hp).1;rw[q,z8] at e;cases e
 show wpAny (model X.prog X.w) X.A (noteFrame (.ref a) cenv) (fun _ s''=>a5f (model X.prog X.w) X.A X.xe cenv (.error (.ref a)) s'') (fun e s''=>a5f (model X.prog X.w) X.A X.xe cenv (.error e) s'') s8;rw[a6C hcf];refine c2h frames hfr hfl fun h4 hheld hsm4=>?_;have I4:=I8.flown hex hst hfr hB hheld.1 hsm4 fA fT;have hn4:h4.Ns C m:=hsm4.ns hn;refine⟨m,by rw[hcl];exact hn4,fun h5 sb5=>?_⟩;rw[hcl] at sb5;obtain⟨f0,f1,f2,f3,f4,f5⟩:=fC;have I5:Inv X pins σ H1 { s8 with heap:=h5 }:=Inv.turned (s:={ s8 with heap:=h4 }) (t':=s8.toks) I4 (fun b o hb e=>sb5.extBut b o hb e) f0 f1 f3 f4 f5;obtain⟨oC,esC,epC,hoC,hdC,_⟩:=hn4
 have nf:∀b o vs,h4.get? b=some o->o.data=.fields vs->b≠C:=fun b o vs e d z=>by
  rw[z,hoC] at e;cases e;rw[hdC] at d;cases d
 obtain⟨k1,k2,k3,oe4,vs4,T4,oT4,ts4,r1,r2,r3,r4,r5,r6,r7,r8,r9⟩:=hheld
 have tr5:h5.TracedAtW base a (.ref C0) a0 (rawInt X.env.locals) :=
  ⟨oe4,vs4,T4,oT4,ts4,(sb5.2 a (nf a _ _ r1 r3)).trans r1,r2,r3,r4,r5,r6,(sb5.2 T4 (nf T4 _ _ r7 r8)).trans r7,r8,r9⟩
 have dfr5:∀b∈frs X.stack,∃o,h5.get? b=some o/\∀vs,o.data≠.fields vs:=fun b hb=>(I5.stack.mem hb).2;refine a7B (s:={ s8 with heap:=h5 }) (hcf.trans hfr) tr5 fun h6 T6 tr6 n6 ⟨oT6,ts6,g1,g2⟩ other=>?_
 have nfr:∀{h:Heap} {T:Addr} {o:Obj} {ts:Array b8g},(∀b∈frs X.stack,∃o,h.get? b=some o/\∀vs,o.data≠.fields vs)->h.get? T=some o->o.data=.fields ts->T∉frs X.stack:=fun {h T o ts} d e1 e2 hm=>by
  obtain⟨o',e,d'⟩:=d T hm;rw[e1] at e;cases e;exact d' _ e2
 have T6f:T6∉frs X.stack:=nfr dfr5 g1 g2;obtain⟨oe6,vs6,T7,oT7,ts7,q1,q2,q3,q4,q5,q6,q7,q8,q9⟩:=tr6
 have T7f:T7∉frs X.stack:=fun hm=>by
  by_cases z:T7=T6
  ·exact T6f (z▸hm)
  ·rw[other T7 z] at q7;exact nfr dfr5 q7 q8 hm
 have fT7:=fresh T7 q5 q6 T7f
 have up6:h5.UpToSlots h6:=fun b o e d=>⟨o.slots,by
  have:b≠T6:=fun z=>by rw[z,g1] at e;cases e;exact d _ g2
  exact(other b this).trans e⟩
 by_cases hT6a:T6=a
 ·have I6:Inv X pins σ H1 { s8 with heap:=h6 }:=Inv.flown (s:={ s8 with heap:=h5 }) I5 (B:=PySem.W.hideAll h5 (a::a::frs X.stack)) (a:=a) (T:=a) hex hst hfr (fun b o q hf g1 g2=>PySem.W.hideAll_get _ q fun hm=>by
   rcases b8l.mp hm with z|z
   ·exact g1 z
   ·rcases b8l.mp z with z|z
    ·exact g2 z
    ·exact hf z) (fun b o q=>by
   have hb:b≠T6:=fun z=>by
    have:=PySem.W.hideAll_none (a::a::frs X.stack) (h:=h5) (b:=b) (by rw[z,hT6a];exact b8e);rw[this] at q;cases q
   exact(other b hb).trans (PySem.W.of_hideAll _ q)) up6 fA fA
  exact acc _ I6 ⟨na,fA.2.1,oe6,vs6,a0,q1,q2.1,q3,q2.2,T7,oT7,ts7,q4,q6,fT7.1,fT7.2.1,q7,q8,q9⟩
 ·have fT6:=fresh T6 n6 hT6a T6f
  have I6:Inv X pins σ H1 { s8 with heap:=h6 }:=Inv.flown (s:={ s8 with heap:=h5 }) I5 (B:=PySem.W.hideAll h5 (a::T6::frs X.stack)) (a:=a) (T:=T6) hex hst hfr (fun b o q hf g1 g2=>PySem.W.hideAll_get _ q fun hm=>by
   rcases b8l.mp hm with z|z
   ·exact g1 z
   ·rcases b8l.mp z with z|z
    ·exact g2 z
    ·exact hf z) (fun b o q=>by
   have hb:b≠T6:=fun z=>by
    have:=PySem.W.hideAll_none (a::T6::frs X.stack) (h:=h5) (b:=b) (by rw[z];exact b7Z _ b8e);rw[this] at q;cases q
   exact(other b hb).trans (PySem.W.of_hideAll _ q)) up6 fA fT6
  exact acc _ I6 ⟨na,fA.2.1,oe6,vs6,a0,q1,q2.1,q3,q2.2,T7,oT7,ts7,q4,q6,fT7.1,fT7.2.1,q7,q8,q9⟩
end
noncomputable def AccV(Y:Cx)(EV:Str->Hp->Prop):Prop:=∀(pins:PNS) (σ:St) (H:Hp) (s:b7Y) (h0:Heap) (a C:Addr) (nm:Str),
 Inv Y pins σ H s->Fly H h0 s.heap a (.ref C)->Older Y pins h0->Y.mg nm=some (.ref C)->EV nm H->Y.xe (.ref a) s
noncomputable def b3i(wi:TI)(ix:List (Option Nat))(g:TG)(te:TE):St->Hp->Prop:=fun σ H=>wi σ H fun J H1=>∃W:Nat->Nat->List V->Hp->Prop,(∃m,W 0 m [] H1)/\∀i m ys H,W i m ys H ->
 (J.go i H/\ys.length<sizeLine/\∀x H',J.yld i H x H'->g x (pick ix σ) H' fun σ2 H2=>te σ2 H2 fun y H4=>∃m',m'<m/\W (i+1) m' (ys++[y]) H4)
section
variable{X:Cx}{N':LSS}{ix:List (Option Nat)}{scope:c0t}
theorem a9A{elt iter tg:Expr}{pos posc:Pos}{wi:TI}{g:TG}{te:TE}{EV:Str->Hp->Prop}(hc:X.calm=true)(hex:X.ex=[])(hst:X.stack=X.env::X.outer)(hfr:X.env.frame=some X.env.locals)(hi:PI X tg iter wi)(S:BlkScope X N' ix scope)(ow:Own ix g)
  (hg:∀C s H fp pins,PG (blk X N' scope C s H fp pins) tg g)
  (he:∀C s H fp pins pn xe,(∀b∈fp,∃p∈pn,p.1=b)->AccV ((blk X N' scope C s H fp pins).tried pn xe) EV->PEc ((blk X N' scope C s H fp pins).tried pn xe) elt te)
  (hs:∀x,foldedSetIterable iter X.env x=pure x) (pins:PNS) (s:b7Y) (σ:St) (H:Hp) (I:Inv X pins σ H s) (h:b3i wi ix g te σ H)
  (acc:∀H1 s6 a C nm,Inv X pins σ H1 s6->FlyH H1 X.s₀.heap s6.heap a (.ref C) X.env.locals->X.mg nm=some (.ref C)->EV nm H1->X.xe (.ref a) s6) :
  wpC (model X.prog X.w) X.A (comprehension (.ListComp elt [⟨tg,iter,[],0⟩] scope pos) scope X.env posc (newList []) false (eval iter X.env) none) NoV X.xe s:=by
 refine .compR rfl hs (a3e scope X.env fun y hy hk=>I.ok.has y.1 (S.frees y hy hk)) S.kind S.locs (thn (hi pins s σ H _ I h) fun v s1 h1=>thn h1 fun itv s2 h2=>?_);obtain⟨it,fp,tn,J,H2,e,I2,T,st2,f2,W,⟨m0,w0⟩,turn⟩:=h2;subst e
 have hfo:∀b∈fp,∃o,s2.heap.get? b=some o:=fun b hb=>let ⟨o,e,_⟩:=T.obj _ _ st2 b hb;⟨o,e⟩
 refine b9s (a1J (fun h₁ eh₁=>?_))
 dsimp only at eh₁|-
 generalize hH2:s2.heap.push { cls:=.type "list",dict:=none,data:=.seq ([]:LSV).toArray }=Hp2 at eh₁|-
 have hC:Hp2.objs.size=s2.heap.objs.size+1:=by rw[<- hH2,b9r]
 have old1:∀b o,Hp2.get? b=some o->h₁.get? b=some o:=fun b o e=>by rw[eh₁];exact c0V _ _ _ _ (b8d _ e)
 have hns:h₁.Ns Hp2.objs.size (fun _=>none):=by rw[eh₁];exact(c3Y Hp2 (.type "dict")).keeps (c0V _ _)
 have hown:∀x c,(x,c)∈cellsFrom (Hp2.objs.size+1) scope.names []->h₁.IsCell c none:=fun x c hm=>by
  have ok:=cellsFrom_ok scope.names (Hp2.push { cls:=.type "dict",data:=.dict #[] }) (Hp2.objs.size+1) [] ⟨fun _ _ hm=>(nomatch hm),c0F⟩ (by rw[b9r];exact b8k _);rw[b9r] at ok;rw[eh₁];exact(ok.empty x c hm).1
 generalize hCC:Hp2.objs.size=C at hns hown hC|-
 generalize hDD:s2.heap.objs.size=D at hC;have hCge:s2.heap.objs.size<=C:=by rw[hDD,hC];exact c2x _
 have hDge:s2.heap.objs.size<=D:=c1W hDD;have hDC:D≠C:=by rw[hC];exact b8B (b9c _)
 have hDlt:D<C:=by rw[hC];exact b9c _
 have old:∀b o,s2.heap.get? b=some o->h₁.get? b=some o:=fun b o e=>old1 b o (hH2▸b8d _ e);have hacc:h₁.get? D=some { cls:=.type "list",data:=.seq ([]:LSV).toArray 0 }:=old1 _ _ (hH2▸hDD▸b8A _ rfl)
 have stat:∀{H':Hp},(∀b∈fp,H' b=none)->∀b∈fp,FpOk (blk X N' scope C s2 H2 fp pins) [] H' b:=fun hn b hb=>by
  obtain⟨f0,f1,f2,f3,f4,f5⟩:=f2 b hb;obtain⟨o,ho⟩:=hfo b hb;refine⟨hn b hb,b8B (b8c (b8j ho) hCge),fun z=>?_,.inl hb,fun x c e=>?_,fun p hp=>?_⟩
  ·rcases b8l.mp (I2.stkSub _ z) with e|e
   ·exact f1 e
   ·exact f2 e
  ·rcases a0Q I2 S C e with ⟨a1,a2⟩|⟨a1,a2⟩
   ·exact b9L (b9M (b8c (b8j ho) hCge) a1)
   ·exact f4 x c a2
  ·have:p∈(X.pn++pins)++[]:=hp;exact f5 p (by simpa using this)
 have hDs:D∉(blk X N' scope C s2 H2 fp pins).fs:=fun hb=>by
  rcases b8l.mp (I2.stkSub _ hb) with e|e
  ·rw[e] at hDge;exact absurd (b8c I2.lt hDge) (b9a _)
  ·exact I2.nofs hDge e
 obtain⟨cenv,hcenv⟩:∃cenv,cenv=compEnvC scope (cellsFrom (C+1) scope.names []++a2F X.env scope.names []) C X.env:=⟨_,rfl⟩;have loop:∀s₃:b7Y,s₃={ s2 with heap:=h₁ } ->
   a0v (model X.prog X.w) X.A (.compLoop (.ListComp elt [⟨tg,iter,[],0⟩] scope pos) 0 (.ref it) (.ref D) cenv) (a5f (model X.prog X.w) X.A X.xe cenv) s₃:=by
  rintro s₃ rfl
  refine a0v.compL (fun n s'=>∃i ys its cap H',Inv (blk X N' scope C s2 H2 fp pins) [] (pick ix σ) H' s'/\tn i s'.heap/\(∀b∈fp,H' b=none)/\H' D=none /\
    s'.heap.get? D=some { cls:=.type "list",data:=.seq (its:LSV).toArray cap }/\Vals ys its/\W i n ys H') ?_ m0
   ⟨0,[],[],0,H2,a7e I2 f2 S hCge hfo hns old hown,T.keep _ _ _ st2 fun b _ o e=>old b o e,fun b hb=>(f2 b hb).1,I2.hok.fresh hDge,hacc,.nil,w0⟩
  rintro n s3 ⟨i,ys,its,cap,H3,I3,st3,fr3,hD3,ho3,r3,w3⟩
  have I3d:Inv (blk X N' scope C s2 H2 fp pins) [(D,{ cls:=.type "list",data:=.seq its.toArray cap })] (pick ix σ) H3 s3:=I3.pins_of fun p hp=>by
   have e:p=(D,{ cls:=.type "list",data:=.seq its.toArray cap }):=by simpa using hp
   subst e;exact⟨ho3,hD3,hDC,hDs,fun v z=>nomatch z⟩
  have statD:∀{H':Hp},(∀b∈fp,H' b=none)->∀b∈fp,FpOk (blk X N' scope C s2 H2 fp pins) [(D,({ cls:=.type "list",data:=.seq its.toArray cap }:Obj))] H' b:=fun hn b hb=>by
   obtain⟨f0,f1,f2,f3,f4,f5⟩:=stat hn b hb;obtain⟨o,ho⟩:=hfo b hb;refine⟨f0,f1,f2,f3,f4,fun p hp=>?_⟩;rcases b9F.mp hp with z|z
   ·exact f5 p (b8q _ z)
   ·have e:p=(D,({ cls:=.type "list",data:=.seq its.toArray cap }:Obj)):=by simpa using z
    subst e;exact b9L (b8c (b8j ho) hDge)
  obtain⟨go,hz,step⟩:=turn i n ys H3 w3;refine thn (T.item (blk X N' scope C s2 H2 fp pins) rfl rfl rfl hc i _ s3 (pick ix σ) H3 _ I3d (statD fr3) st3 go) fun r s4 ⟨u,hr,h4⟩=>?_;subst hr;refine thn h4 fun _ s5 ⟨x,H5,I5,r5,y5,st5,fr5⟩=>?_;have I5':=I5.pinned (statD fr5) (T.obj _ _ st5);have again:∀{σ7:St} {H7:Hp} {s7:b7Y},Inv (blk X N' scope C s2 H2 fp pins) ([(D,({ cls:=.type "list",data:=.seq its.toArray cap }:Obj))]++a2I fp s5.heap) σ7 H7 s7 ->
    H7 D=none/\s7.heap.get? D=some { cls:=.type "list",data:=.seq its.toArray cap }/\tn (i+1) s7.heap/\∀b∈fp,H7 b=none:=fun {σ7 H7 s7} I7=>by
   obtain⟨e7,n7,_⟩:=I7.pin (D,_) (b8i _ (b8q _ (b9n.mpr rfl)));refine⟨n7,e7,T.keep _ _ _ st5 fun b hb o e=>(I7.pin (b,o) (b8i _ (b8i _ (a1b hb e)))).1,fun b hb=>?_⟩;obtain⟨o,e,d⟩:=T.obj _ _ st5 b hb;exact(I7.pin (b,o) (b8i _ (b8i _ (a1b hb e)))).2.1
  have forget:∀{σ7:St} {H7:Hp} {s7:b7Y},Inv (blk X N' scope C s2 H2 fp pins) ([(D,({ cls:=.type "list",data:=.seq its.toArray cap }:Obj))]++a2I fp s5.heap) σ7 H7 s7 ->
    (∀(k:Nat) v,(pick ix σ)[k]?=some (some v)->σ7[k]?=some (some v))->σ7.length=(pick ix σ).length->Inv (blk X N' scope C s2 H2 fp pins) [] (pick ix σ) H7 s7:=fun {σ7 H7 s7} I7 hk hl =>
   (I7.pins_of (pins':=[]) fun _ z=>nomatch z).weak hl.symm hk
  rw[hcenv];refine b9q (thn (hg C s2 H2 fp pins _ s5 (pick ix σ) H5 x u _ I5' r5 (ow _ _ _ _ _ ⟨rfl,fun _ _ _=>rfl⟩ (step x H5 y5))) fun _ s6 ⟨σ6,H6,I6,q6,l6,k6⟩=>?_)
  have back:∀(k:Nat) v,(pick ix σ)[k]?=some (some v)->σ6[k]?=some (some v):=fun k v e=>by
   obtain⟨j,e1,_⟩:=a5H e;rw[k6 k j e1];exact e
  refine c3x ?_;rw[if_pos rfl];obtain⟨pn,hpn⟩:∃pn,pn=(X.pn++pins)++([(D,({ cls:=.type "list",data:=.seq its.toArray cap }:Obj))]++a2I fp s5.heap):=⟨_,rfl⟩;obtain⟨xeB,hxe⟩:∃xe,xe=NB X.prog X.w X.A cenv (a5f (model X.prog X.w) X.A X.xe cenv):=⟨_,rfl⟩
  have IY:Inv ((blk X N' scope C s2 H2 fp pins).tried pn xeB) [] σ6 H6 s6 :=
   ⟨I6.ok.tried _ _,I6.os,I6.bare,I6.base,I6.loc,I6.cell,I6.free,I6.freeC,fun p hp=>I6.pin p (by
    have hp':p∈pn++[]:=hp;rw[b8O,hpn] at hp'
    exact hp'),I6.hok,I6.len⟩
  have hpins:∀b∈fp,∃p∈pn,p.1=b:=fun b hb=>by
   obtain⟨o,e,d⟩:=T.obj _ _ st5 b hb;rw[hpn];exact⟨(b,o),b8i _ (b8i _ (a1b hb e)),rfl⟩
  have hA:AccV ((blk X N' scope C s2 H2 fp pins).tried pn xeB) EV:=by
   intro pins' σ1 H1 s8 h0 a C0 nm J F old8 m ev
   have I8:Inv X pins σ H1 s8:=I2.call' (ch:=fp) J.os J.base J.hok J.bare fun b hb=>by
    obtain⟨f0,f1,f2,f3,f4,f5⟩:=f2 b hb;exact⟨f3,f1,f4,f5⟩
   obtain⟨mm,hn8,_⟩:=J.loc;have hC8:H1 C=none:=J.free;show xeB (.ref a) s8;rw[hxe];exact a8Z hex hst hfr I2 I8 F old8.start (I2.fpOk hCge hC8) hn8 (by rw[hcenv];rfl) (by rw[hcenv];rfl) fun s6 I6 fly=>acc H1 s6 a C0 nm I6 fly m ev
  refine((he C s2 H2 fp pins pn xeB hpins hA [] s6 σ6 H6 _ IY q6).mono (fun z s8 ⟨y,H8,IY8,r8,m',hm,w8⟩=>?_) fun e s' q=>?_)
  ·have I8:Inv (blk X N' scope C s2 H2 fp pins) ([(D,({ cls:=.type "list",data:=.seq its.toArray cap }:Obj))]++a2I fp s5.heap) σ6 H8 s8 :=
    ⟨I6.ok,IY8.os,IY8.bare,IY8.base,IY8.loc,IY8.cell,IY8.free,IY8.freeC,fun p hp=>IY8.pin p (by
     show p∈pn++[];rw[b8O,hpn]
     exact hp),IY8.hok,IY8.len⟩
   obtain⟨a1,a2,a3,a4⟩:=again I8;have hl:=r3.length;refine b9q (c1L ⟨_,a2⟩ (fun h9 ⟨cap9,p9⟩ sb9=>?_) (by rw[b8h,<- hl];exact b9X hz))
   have I9:Inv (blk X N' scope C s2 H2 fp pins) [] (pick ix σ) H8 { s8 with heap:=h9 } :=
    (forget I8 back l6).turned (t':=s8.toks) (it:=D) (fun b o hb e=>sb9.extBut b o hb e) a1 hDC (.inr hDge) (fun x c e=>by
     rcases a0Q I2 S C e with ⟨a1,a2⟩|⟨a1,a2⟩
     ·exact b9L (b9M hDlt a1)
     ·obtain⟨v,z⟩:=I2.cell x c a2
      exact b8B (b8c z.lt hDge)) (fun p hp=>by
     have hp':p∈(X.pn++pins)++[]:=hp
     exact b8B (b8c (b8j (I2.pin p (by simpa using hp')).1) hDge))
   refine⟨m',hm,i+1,ys++[y],its++[z],cap9,H8,I9,?_,a4,a1,?_,r3.append (.cons r8 .nil),w8⟩
   ·refine T.keep _ _ _ a3 fun b hb o e=>sb9.extBut b o ?_ e;obtain⟨o',ho'⟩:=hfo b hb;exact b8B (b8c (b8j ho') hDge)
   ·rw[p9];simp
  ·have q':xeB e s':=q;rw[hxe,hcenv] at q';exact q'
 have hl:=loop;rw[hcenv] at hl;exact a0v.compS (hl _ rfl) (T.self _ _ _ _ _ (T.keep _ _ _ st2 fun b _ o e=>old b o e) (hl _ rfl))
end
noncomputable def a7o(wi:TI3)(ix:List (Option Nat))(g:TG3)(te:TE3):En->MH->Prop:=fun ρ M=>wi ρ M fun J M1=>∃W:Nat->List T->MH->Prop,W 0 [] M1/\(∀i ys M,W i ys M->J.stay M/\i<J.items.length)/\J.items.length<sizeLine /\
 (∀i x ys M,J.items[i]?=some x->W i ys M->g x (a4I ix ρ) M fun ρ2 M2=>te ρ2 M2 fun y M4=>W (i+1) (ys++[y]) M4)
noncomputable def dExK(K:PySem.W.Frag)(H0:Hp)(t:TE3):TE:=fun σ H Q2=>∃ρ M Q,t ρ M Q/\Kp K H0 H/\bE K ρ M Q σ H Q2
theorem HEXc.dxK{X:Cx}{H0:Hp}{e:Expr}{t:TE3}(h:HEXc X H0 e t):PEc X e (dExK X.K H0 t):=fun pins s σ H Q I ⟨ρ,M,Q3,q,k,b⟩=>h ρ M Q3 q pins s σ H Q I ⟨k,b⟩
theorem b1x{X:Cx}{ix:List (Option Nat)}{wi:TI3}{g2:TG}{g3:TG3}{te:TE3}(bt:BTg X.K ix g2 g3)(ρ0:En)(M0:MH)(h:a7o wi ix g3 te ρ0 M0)(σ0:St)(H0:Hp)(hr0:RhoR X.K σ0 H0 ρ0)(hh0:HR X.K H0 M0) :
  b3i (dI X.K ρ0 wi) ix g2 (dExK X.K H0 te) σ0 H0:=by
 exact⟨M0,_,h,hr0,hh0,fun J J2 M1 H1 k1 h1 ok q1=>by
  obtain⟨W,w0,wst,hsz,turn⟩:=q1;refine⟨fun i m ys H=>m=J.items.length-i/\i<=J.items.length/\ys.length<=i/\Kp X.K H1 H/\∃ts M,Reps X.K H ys ts/\HR X.K H M/\W i ts M,⟨_,rfl,b9B _,b9B _,Kp.refl,[],M1,.nil,h1,w0⟩,?_⟩;rintro i m ys H ⟨rfl,hi,hy,kk,ts,M,rts,hh,w⟩;obtain⟨st,hlt⟩:=wst i ts M w;have e:J.items[i]?=some J.items[i]:=b8u hlt;obtain⟨go,yl⟩:=ok.go i _ H M e kk hh st;refine⟨go,by lia,fun v H' y=>?_⟩;obtain⟨k2,h2,r2⟩:=yl v H' y;have kk2:=kk.trans k2;refine bt.br J.items[i] v _ M _ H' _ _ r2 (a8k ix (hr0.kp (k1.trans kk2))) h2 (turn i _ ts M e w) fun ρ3 M3 σ3 H3 k3 hr3 hh3 q3=>⟨ρ3,M3,_,q3,k1.trans (kk2.trans k3),hr3,hh3,fun t5 v5 M5 H5 k5 h5 r5 q5=>?_⟩;refine⟨_,c0W hlt (b9c i),rfl,hlt,?_,kk2.trans (k3.trans k5),ts++[t5],M5,?_,h5,q5⟩
  ·rw[b8R,b9Z];lia
  ·exact(Reps.kp (k2.trans (k3.trans k5)) _ _ rts).append (.cons r5 .nil)⟩
section
variable{X:Cx}{Ha:Hp}{N':LSS}{ix:List (Option Nat)}{scope:c0t}{elt iter tg:Expr}{pos:Pos}{wi:TI3}{g2:TG}{g3:TG3}{te:EK3->TE3}{E:EK3}
theorem b5M(A:AccH X Ha E)(hc:X.calm=true)(hex:X.ex=[])(hst:X.stack=X.env::X.outer)(hfr:X.env.frame=some X.env.locals)(hi:HI X tg iter wi)(S:BlkScope X N' ix scope)(bt:BTg X.K ix g2 g3)
  (hg:∀C s H fp pins,PG (blk X N' scope C s H fp pins) tg g2)
  (he:∀C s H fp pins pn xe H0 E3,Cx.exP ((blk X N' scope C s H fp pins).tried pn xe)->Acc ((blk X N' scope C s H fp pins).tried pn xe) H0 E3->HEXc ((blk X N' scope C s H fp pins).tried pn xe) H0 elt (te E3))
  (hs:∀x,foldedSetIterable iter X.env x=pure x:=by intro _;rfl) :
  HER X Ha (.ListComp elt [⟨tg,iter,[],0⟩] scope pos) (fun ρ M=>a7o wi ix g3 (te fun nm _ M'=>E nm ρ M') ρ M):=fun ρ0 M0 q pins s σ H I ⟨ka,hr,hh⟩=>by
 rw[eval_ListComp];refine a9A (te:=dExK X.K H (te fun nm _ M'=>E nm ρ0 M')) (EV:=fun nm H'=>∃M,Kp X.K H H'/\HR X.K H' M/\E nm ρ0 M) hc hex hst hfr (hi.d (ρ:=ρ0)) S bt.own hg ?_ hs pins s σ H I (b1x bt ρ0 M0 q σ H hr hh) ?_
 ·intro C s1 H1 fp pins1 pn xe hp av;exact(he C s1 H1 fp pins1 pn xe H _ hp fun pins2 σ2 H2 s2 h0 a C0 nm ρ2 M2 J F old m k r2 hh2 e2=>av pins2 σ2 H2 s2 h0 a C0 nm J F old m ⟨M2,k,hh2,e2⟩).dxK
 ·intro H1 s6 a C nm I6 fly m ⟨M,k,hh1,e1⟩;exact A pins σ H1 s6 a C nm ρ0 M I6 fly m (ka.trans k) (hr.kp k) hh1 e1
end
end L2
namespace L2
open PySem PySem.Spec PyProof.Rows LM PySem.Calls PySem.NumText PySem.W
section
variable{M:c0I}{A:b8w}{E:VPR}{s:b7Y}
theorem wpC.iteT{α:Type}{c:Prop}[Decidable c]{a b:Sem α}{Q:α->b7Y->Prop}(h:c)(k:wpC M A a Q E s):wpC M A (if c then a else b) Q E s:=by rw[if_pos h];exact k
theorem wpC.iteF{α:Type}{c:Prop}[Decidable c]{a b:Sem α}{Q:α->b7Y->Prop}(h:¬c)(k:wpC M A b Q E s):wpC M A (if c then a else b) Q E s:=by rw[if_neg h];exact k
theorem wpC.pureB{α β:Type}{a:α}{f:α->Sem β}{Q:β->b7Y->Prop}(h:wpC M A (f a) Q E s):wpC M A ((b9l a:Sem α) >>= f) Q E s:=.bind (.pure h)
theorem wpC.eqB{α β:Type}{m:Sem α}{a:α}{f:α->Sem β}{Q:β->b7Y->Prop}(e:m=b9l a)(h:wpC M A (f a) Q E s):wpC M A (m >>= f) Q E s:=by rw[e];exact .pureB h
theorem wpC.ruleB{β:Type}{n:String}{f:Unit->Sem β}{Q:β->b7Y->Prop}(h:wpC M A (f ()) Q E s):wpC M A (PySem.rule n >>= f) Q E s:=.bind (.of (wpAny_rule h))
end
section
variable{prog:b8n}{w:b8F}{A:b8w}{E:VPR}{s:b7Y}
theorem a8H{msg:Str}(hA:A.handled=none)(hm:msg.length<=sizeLine)(h:∀h' tk a args,c0s s.heap h' a "ValueError" args->E (.ref a) { s with heap:=h',toks:=tk }) :
  wpC (model prog w) A (PySem.mkStr msg >>= fun l=>PySem.newExc (c0N "ValueError") [l] >>= fun refusal=>PySem.markTheRefusal ["int.__new__"] refusal >>= fun _=>(PySem.raiseNew refusal:Sem b8g)) NoV E s:=by
 refine wpC.bind (wpC.of (wpAny_mkStr (Q:=fun l s1=>wpC (model prog w) A (PySem.newExc (c0N "ValueError") [l] >>= fun refusal=>PySem.markTheRefusal ["int.__new__"] refusal >>= fun _=>(PySem.raiseNew refusal:Sem b8g)) NoV E s1) ?_ hm));refine wpC.bind (wpC.of (wpAny_newExc_plain plainExc_ValueError (fun h' e made=>?_) (show 1<=sizeLine by decide)));refine wpC.bind (wpC.mark ?_);refine wpC.of ?_;unfold PySem.raiseNew;refine b8a (wpAny_handled_none hA ?_);dsimp only;exact b8a (b8r (c2C (h h' _ e _ made)))
theorem a8r:(b8b (toString "invalid literal for int() with base "++toString 10++toString ": ")).cps.size<=100:=by decide +kernel
theorem b2z(p:Str)(y:Array Nat)(h:p.cps.size<=100):(p++({ cps:=y.extract 0 200 }:Str)).length<=sizeLine:=by
 show(p.cps++y.extract 0 200).size<=sizeLine;rw[c2Z,Array.size_extract];have h2:300<=sizeLine:=by decide
 lia
theorem a8a{p x:Str}{u:Tok}(hp:p.cps.size<=100)(hA:A.handled=none)(hx:(reprText x).length<=sizeLine)(h:∀h' tk a args,c0s s.heap h' a "ValueError" args->E (.ref a) { s with heap:=h',toks:=tk }) :
  wpC (model prog w) A (PySem.rule "int.__new__.invalid-literal" >>= fun _=>PySem.pyRepr (.str x u) >>= fun shown=>PySem.mkStr (p++{ cps:=shown.cps.extract 0 200 }) >>= fun l =>
   PySem.newExc (c0N "ValueError") [l] >>= fun refusal=>PySem.markTheRefusal ["int.__new__"] refusal >>= fun _=>(PySem.raiseNew refusal:Sem b8g)) NoV E s:=by
 refine wpC.ruleB (wpC.bind (wpC.of (wpAny_pyRepr_str ?_ hx)));exact a8H hA (b2z _ _ hp) fun h' tk a args made=>h h' tk a args made
theorem b1L{x:Str}{u:Tok}{text:List Nat}(hA:A.handled=none)(hx:(reprText x).length<=sizeLine)(hs:(text.takeWhile (· != 0)).length<=640)
  (hr:(int_private% "readNumeral") 0 10 (text.takeWhile (· != 0))=(int_private% "Numeral.invalid")\/∃i,(int_private% "readNumeral") 0 10 (text.takeWhile (· != 0))=(int_private% "Numeral.value") i/\¬((text.takeWhile (· != 0)).length==text.length)=true)
  (h:∀h' tk a args,c0s s.heap h' a "ValueError" args->E (.ref a) { s with heap:=h',toks:=tk }) :
  wpC (model prog w) A ((int_private% "intFromText") (.str x u) text 10) NoV E s:=by
 refine wpC.iteT hs ?_;refine wpC.pureB ?_;dsimp only;rcases hr with hr|⟨i,hr,hne⟩
 ·rw[hr];dsimp only;refine .eqB rfl (.iteF ?_ ?_)
  ·show ¬(false&&_)=true;rw[b8T];exact b8v
  ·exact a8a a8r hA hx h
 ·rw[hr];dsimp only;exact .iteF hne (a8a a8r hA hx h)
end
section
variable{prog:b8n}{w:b8F}{A:b8w}{E:VPR}{s:b7Y}
theorem b7D{x:Str}{u:Tok}{Q:OVA->b7Y->Prop}(h:Q none s):wpAny (model prog w) A (PySem.callSpecial? (.str x u) "__int__") Q E s:=by
 obtain⟨hp,g,d,tk,os⟩:=s;have f3:=KIN.str_int;have f6:typeOf (.str x u)=pure (.type "str"):=rfl
 repeat (any_goals (first|assumption|wp_step))
theorem b7E{x:Str}{u:Tok}{Q:OVA->b7Y->Prop}(h:Q none s):wpAny (model prog w) A (PySem.specialOf (.str x u) "__index__") Q E s:=by
 obtain⟨hp,g,d,tk,os⟩:=s;have f3:=KIN.str_idx;have f6:typeOf (.str x u)=pure (.type "str"):=rfl
 repeat (any_goals (first|assumption|wp_step))
theorem b4G{x:Str}{u:Tok}{Q:OVA->b7Y->Prop}(h:Q none s):wpAny (model prog w) A (PySem.specialOf (.str x u) "__trunc__") Q E s:=by
 obtain⟨hp,g,d,tk,os⟩:=s;have f3:=KIN.str_trunc;have f6:typeOf (.str x u)=pure (.type "str"):=rfl
 repeat (any_goals (first|assumption|wp_step))
theorem b7K{x:Str}{u:Tok}{Q:Option (List Nat)->b7Y->Prop}(h:Q (some (numTextOf x)) s):wpAny (model prog w) A ((int_private% "numeralText?") (.str x u)) Q E s:=by
 obtain⟨hp,g,d,tk,os⟩:=s;have f6:typeOf (.str x u)=pure (.type "str"):=rfl
 repeat (any_goals (first|assumption|wp_step))
theorem a8I{x:Str}{u:Tok}(hA:A.handled=none)(hx:(reprText x).length<=sizeLine)(hl:x.length<=640)(hn:PySem.intText? x=none)
  (h:∀h' tk a args,c0s s.heap h' a "ValueError" args->E (.ref a) { s with heap:=h',toks:=tk }) :
  wpC (model prog w) A ((int_private% "intFromObject") (.str x u)) NoV E s:=by
 have hs:(numSeenOf x).length<=640:=b8G (seen_length x) hl;refine wpC.bind (wpC.of (b7D ?_));dsimp only;refine wpC.bind (wpC.of (b7E ?_));refine wpC.iteF (by decide) ?_;refine wpC.bind (wpC.of (b4G ?_));dsimp only;refine wpC.bind (wpC.of (b7K ?_));dsimp only;refine b1L hA hx hs ?_ h;rcases read0 x hs with ⟨m,h1,h2,h3⟩|⟨_,h1⟩
 ·rw[hn] at h1;cases h1
 ·exact h1
end
section
variable{prog:b8n}{w:b8F}{A:b8w}{E:VPR}{s:b7Y}{R:c1y->b7Y->Prop}
theorem a8J{x:Str}{u:Tok}{Q:Fin->b7Y->Prop}(hA:A.handled=none)(hx:(reprText x).length<=sizeLine)(hl:x.length<=640)(hn:PySem.intText? x=none)
  (h:∀h' tk a args,c0s s.heap h' a "ValueError" args->E (.ref a) { s with heap:=h',toks:=tk }) :
  wpC (model prog w) A (c1u.«int.__new__» ⟨[.type "int",.str x u],[]⟩) Q E s:=by
 refine wpC.eqB (a:=true) rfl ?_;refine wpC.iteF (by decide) ?_;refine wpC.eqB (a:=true) F.conv_sub_int ?_;refine wpC.iteF (by decide) ?_;refine wpC.eqB F.madeHere_int ?_;refine wpC.iteF (show ¬((true&&(false:Bool))=true) by decide) ?_;refine wpC.iteF (show ¬(1+0>2) by decide) ?_;refine wpC.eqB (a:=PUnit.unit) rfl ?_;dsimp only;refine wpC.bind ((a8I hA hx hl hn h).mono (fun _ _ z=>b8D z) fun _ _ z=>z)
theorem a0v.builtin{id:String}{args:Args}{b:c1u}(hb:entryFor table id=some b)
  (h:wpC (model prog w) (A.under (.builtin id args)) (b args) (fun fin s'=>match fin with|.done f=>R (.ok f) s'|.again c'=>c'.quiet=true/\a0v (model prog w) A c' R s') (fun e s'=>R (.error e) s') s) :
  a0v (model prog w) A (.builtin id args) R s:=by
 refine .tree ?_
 show wpC _ _ (match entryFor table id with|some b=>b args|none=>unsupported ((withoutEnding? id "#data").getD id)) _ _ s
 rw[hb];exact h
theorem a0v.callBuiltin{id:String}{args:Args}{b:c1u}(hq:plainId id=true)(hb:entryFor table id=some b)(hc:checkBuiltinCall id args=pure ())
  (h:wpC (model prog w) A.in1 (b args) (fun fin s'=>match fin with|.done f=>R (.ok f) s'|.again c'=>c'.quiet=true/\a0v (model prog w) A c' R s') (fun e s'=>R (.error e) s') s):a0v (model prog w) A (.call (.builtin id) args) R s:=by
 refine .tree ?_
 show wpC _ A.in1 (do checkBuiltinCall id args;again (.builtin id args)) _ _ s
 rw[hc];refine .pureB (.pure (c2M (plainId_quiet hq _) (.builtin hb ?_)));rw[Around.under_plainId hq _];exact h
theorem a7k{x:Str}{u:Tok}{Q:VPR}(hA:A.handled=none)(hx:(reprText x).length<=sizeLine)(hl:x.length<=640)(hn:PySem.intText? x=none)
  (h:∀h' tk a args,c0s s.heap h' a "ValueError" args->E (.ref a) { s with heap:=h',toks:=tk }) :
  wpC (model prog w) A (PySem.call (.type "int") [.str x u]) Q E s:=by
 obtain⟨c,tl,hmro⟩:=F.called_int.mro;refine .call (.tree ?_);show wpC _ _ (callAny (.type "int") _) _ _ _;refine .pure ⟨Code.quiet_builtin _ (by decide +kernel),.builtin F.entry_type_call ?_⟩;rw[Around.under_plain (weight_type_call_type "int" [.str x u] []) (units_type_call_type "int" [.str x u] [])];unfold c1u.«type.__call__»;dsimp only;rw[if_neg (show ¬((c0N "int"==c0N "type")=true) by decide +kernel)];refine wpC.iteF (fun z=>b8v (F.called_int.canCreate.symm.trans z)) ?_;refine wpC.eqB (F.typeCall_int_1 _) ?_;refine wpC.eqB hmro ?_;refine wpC.iteF (show ¬((false:Bool)=true) by decide) ?_;refine wpC.eqB F.called_int.made ?_;dsimp only;refine wpC.pureB ?_;refine wpC.bind (wpC.hold (wpC.call (a0v.callBuiltin F.called_int.plain F.entry_int_new (F.newCall_int_1 _) (a8J hA hx hl hn h))))
end
end L2
namespace L2
open PySem PySem.Spec PyProof.Rows LM PySem.W
section
variable{M:c0I}{A:b8w}{E:VPR}{s:b7Y}
theorem b0D{base:Heap}{env:Env}{outer:List Env}{L e:Addr}{oe:Obj}{vs:Array b8g}{Q:Unit->b7Y->Prop}
  (hfr:A.frames=some (env::outer)) (hf:env.frame=some L) (hl:s.heap.FunFrames base (env::outer)) (he:s.heap.get? e=some oe) (hd:oe.data=.fields vs) (h1:vs[1]?=some .none)
  (h:∀h' T oT ts,h'.get? e=some (b9h (·.setIfInBounds 1 (.ref T)) oe)->s.heap.get? T=none->T≠e->h'.get? T=some oT->oT.data=.fields ts->ts[3]?=some (rawInt L) ->
   (∀b o,b≠e->b∉(env::outer).filterMap (·.frame)->s.heap.get? b=some o->h'.get? b=some o)->s.heap.UpToSlots h'->Q () { s with heap:=h' }):wpAny M A (noteFrame (.ref e) env) Q E s:=by
 have hsz:1<vs.size:=(b9e.mp h1).1
 have hne:∀b o,s.heap.get? b=some o->(∀ws,o.data≠.fields ws)->b≠e:=fun b o e1 d z=>by
  rw[z,he] at e1;cases e1;exact d _ hd
 have hnf:e∉(env::outer).filterMap (·.frame):=fun hm=>by
  obtain⟨_,o,ho,d⟩:=hl.mem hm;rw[he] at ho;cases ho;exact d _ hd
 unfold noteFrame;simp only[hf];refine b8a (b9P he hd h1 ?_);rw[if_neg (by decide)];refine b8a (wpAny_frameOf_fun hfr hl hf fun h₁ hs₁=>?_);refine b8a (wpAny_entryPlaceOf fun pl hpl=>?_);unfold EntryCells.newEntry newFields;refine b8a (b9s ?_ (hpl.sizeOk5 _ _ _ _ _));have he₁:h₁.get? e=some oe:=(hs₁.2.1 e hnf).trans he;obtain⟨T,hT⟩:∃T,T=h₁.objs.size:=⟨_,rfl⟩;have hTn:h₁.get? T=none:=hT▸c2r (b8k _);have hTe:T≠e:=fun z=>by rw[z,he₁] at hTn;cases hTn
 obtain⟨oT,hoT⟩:∃oT:Obj,oT={ cls:=.type "traceback",dict:=none,data:=.fields ([b8W,.ref L,.none,rawInt L,.none]++(if pl.isEmpty then b8p 6 b8W else pl)).toArray }:=⟨_,rfl⟩
 have k1:∀b o,h₁.get? b=some o->(h₁.push oT).get? b=some o:=fun b o q=>b8d _ q;have he2:(h₁.push oT).get? e=some oe:=k1 _ _ he₁;have hT2:(h₁.push oT).get? T=some oT:=by rw[hT];exact b8A h₁ (by rw[hoT];rfl)
 rw[<- hT,<- hoT];refine c1w (s:={ s with heap:=h₁.push oT }) he2 hd hsz (h _ T oT _ (b8Y _ he2 (b9m (b8L hd _))) ?_ hTe ?_ (by rw[hoT]) ?_ ?_ ?_)
 ·cases q:s.heap.get? T with
  |none=>rfl
  | some o =>
    obtain⟨sl,e2⟩:=hs₁.2.2 T o q;rw[hTn] at e2;cases e2
 ·rw[b8I _ _ (b9t hTe)];exact hT2
 ·first
   |(simp;done)
   |(rcases hpl with rfl|⟨_,_,_,_,_,_,_,rfl⟩<;>simp)
 ·intro b o hb hf' q;rw[b8I _ _ (b9t hb)];exact k1 _ _ ((hs₁.2.1 b hf').trans q)
 ·intro b o q d;obtain⟨sl,e2⟩:=hs₁.2.2 b o q;refine⟨sl,?_⟩;rw[b8I _ _ (b9t (hne b o q d))];exact k1 _ _ e2
theorem a2l{e T:Addr}{oe oT:Obj}{vs ts:Array b8g}{fr:Option Addr}{Q:Unit->b7Y->Prop}(he:s.heap.get? e=some oe)(hd:oe.data=.fields vs)(h1:vs[1]?=some (.ref T))(hT:s.heap.get? T=some oT)(hdT:oT.data=.fields ts)(h3:3<ts.size)
  (h:∀h',h'.get? T=some (b9h (·.setIfInBounds 3 (fr.elim b8W fun f=>rawInt f)) oT)->(∀b,b≠T->h'.get? b=s.heap.get? b)->Q () { s with heap:=h' }):wpAny M A (setFlight (.ref e) fr) Q E s:=by
 unfold setFlight;refine b8a (b9P he hd h1 ?_);rw[if_pos (show(b8z T != b8W)=true by simp)];exact c1w hT hdT h3 (h _ (b8Y _ hT (b9m (b8L hdT _))) fun b hb=>b8I _ _ (b9t hb))
end
section
variable{prog:b8n}{w:b8F}{A:b8w}{E:VPR}{s:b7Y}{env:Env}
theorem a5S:entryFor table "proto.unchain"=some c1u.«proto.unchain»:=entryFor_of_tree (by kernel_rfl)
theorem a6f{a e:Addr}{oa:Obj}{va:Array b8g}{Q:VPR}(ha:s.heap.get? a=some oa)(hd:oa.data=.fields va)(h2:va[2]?=some .none)(hq:Q .none s) :
  wpAny (model prog w) A (runValue (.builtin "proto.unchain" ⟨[.ref e,.ref a,.ref a,.bool false],[]⟩)) Q E s:=by
 obtain⟨hp,g,d,tk,os⟩:=s;refine wpAny_runValue (codeAny_builtin a5S ?_);unfold c1u.«proto.unchain»;dsimp only;refine b8a (b9P ha hd h2 ?_);rw[if_pos (by rfl)];exact b8r hq
variable{nm q:Str}{C N:Addr}{bs bm:LSV}{hdct:Bool}{sn:LSS}{sub:LSV}{ab:Bool}{col:Option Bool}{dd:Option Addr}{k0 k1 k2 k3 k5:OVA}{newId:String}
theorem b0g{x c:Sem b8g}{a:Addr}{Q:Flow->b7Y->Prop}(hbase:bm.contains (.type "BaseException")=true)(hh:A.handled=some (.ref a))(hc:∀{s:b7Y} {Q:VPR},Q .none s->wpAny (model prog w) A c Q E s)
  (h:wpAny (model prog w) A x (fun v s₁=>∃e t oa va,v=.ref e/\e≠a/\s₁.heap.get? C=some (excClassObj nm q C N bs bm hdct sn sub ab col dd k0 k1 k2 k3 k5 newId)/\C≠e /\
   s₁.heap.get? e=some { cls:=.ref C,data:=.fields #[.ref t,.none,.none,.none,.bool false,.none] }/\s₁.heap.get? a=some oa/\oa.data=.fields va/\va[2]?=some .none /\
   ∀h',h'.get? e=some { cls:=.ref C,data:=.fields #[.ref t,.none,.ref a,.none,.bool true,.none] }->(∀b,b≠e->h'.get? b=s₁.heap.get? b)->E (.ref e) { s₁ with heap:=h' }) E s) :
  wpAny (model prog w) A (raiseStmt env (some x) (some c)) Q E s:=by
 have hcB:(b8z C::bm).contains (.type "BaseException")=true:=by rw[List.contains_cons,hbase,Bool.or_true]
 unfold raiseStmt;refine b8a (b8H h (fun v s₁ h₁=>?_) fun _ _ x=>x);obtain⟨e,t,oa,va,rfl,hea,hC,hCe,he,ha,hda,h2,hE⟩:=h₁;obtain⟨hp,g,d,tk,os⟩:=s₁
 dsimp only at hC he ha hE|-
 refine b8a (b9p (hc ?_));refine b8a (b8r ?_)
 repeat (first|with_reducible refine b9K he ?_|with_reducible refine b9K hC ?_|(with_reducible refine wpAny_isSubtype_exc hC ?_;rw[hcB])|wp_step)
 clear h hc
 have ae:∀b,b≠e->((hp.update e (b9h fun x=>x.setIfInBounds 3 b8W)).update e (b9h fun x=>x.setIfInBounds 4 (c0z true))).get? b=hp.get? b:=fun b hb=>by
  rw[b8I _ _ (b9t hb),b8I _ _ (b9t hb)]
 have e1:=b8Y (b9h fun x=>x.setIfInBounds 3 b8W) he (b9m (b8L rfl _));have e2:=b8Y (b9h fun x=>x.setIfInBounds 4 (c0z true)) e1 (b9m (b8L (b8L rfl _) _))
 generalize (hp.update e (b9h fun x=>x.setIfInBounds 3 b8W)).update e (b9h fun x=>x.setIfInBounds 4 (c0z true))=h4 at ae e2|-
 have d2:(b9h (fun x=>x.setIfInBounds 4 (c0z true)) (b9h (fun x=>x.setIfInBounds 3 b8W) ({ cls:=.ref C,data:=.fields #[.ref t,.none,.none,.none,.bool false,.none] }:Obj)))=({ cls:=.ref C,data:=.fields #[.ref t,.none,.none,.none,.bool true,.none] }:Obj):=rfl;rw[d2] at e2;unfold PySem.raiseNew;refine b8a (wpAny_handled ?_);rw[hh];dsimp only;rw[if_pos (show(b8z a != b8z e)=true by simp[b9t hea])];refine b8a (b9p (a6f (s:=⟨h4,g,d,tk,os⟩) ((ae a (b9t hea)).trans ha) hda h2 ?_));refine b8a ?_;have w:=c1w (M:=model prog w) (A:=A) (E:=E) (s:=⟨h4,g,d,tk,os⟩) (x:=.ref a) (i:=2) (Q:=fun _ s'=>wpAny (model prog w) A (throw (b8z e):Sem Flow) Q E s') e2 rfl (show 2<6 by decide) (c2C (hE _ ?_ fun b hb=>?_))
 ·exact w
 ·exact b8Y _ e2 (b9m (b8L rfl _))
 ·exact(b8I _ _ (b9t hb)).trans (ae b hb)
end
section
variable{X:Cx}{e:Expr}{te:TE3}{pos:Pos}
theorem a9a{x:Str}{np cpos npos:Pos}{nk:Nat}{pins:PNS}{σ:St}{H:Hp}{s:b7Y}{ρ:En}{M:MH}{C a:Addr}{E':VPR}{Q:Flow->b7Y->Prop}{R:MH->Prop}
  (hm:X.mg x=some (.ref C)) (hx:PySem.W.excIn X.K C bmVE "ValueError.__new__"=true) (hxe:∀v s,¬X.xe v s) (ha:HE X e te) (hh:X.A.handled=some (.ref a)) (I:Inv X pins σ H s) (hr:RhoR X.K σ H ρ) (hM:HR X.K H M) (ht:te ρ M fun _ M1=>R M1)
  (hra:∃oa,s.heap.get? a=some oa/\(∃va,oa.data=.fields va/\va[2]?=some .none)/\(a,oa)∈X.pn++pins)
  (hE:∀s1 H1 M1 hm' e2 vs t h',Inv X pins σ H1 s1->Kp X.K H H1->HR X.K H1 M1->R M1->c2s s1.heap hm' e2 (.ref C) vs->h'.get? e2=some { cls:=.ref C,data:=.fields #[.ref t,.none,.ref a,.none,.bool true,.none] }->(∀b,b≠e2->h'.get? b=hm'.get? b)->E' (.ref e2) { s1 with heap:=h' })
  (hg:Gl X x:=by rfl) (hdb:QDD x:=by decide)
  (he:starEach [e] X.env=(false,eval e X.env)::starEach [] X.env:=by rfl) :
  wpAny (model X.prog X.w) X.A (exec (.Raise (some (.Call (.Name x np) [e] [] cpos)) (some (.Constant .none nk npos)) pos) X.env) Q E' s:=by
 obtain⟨bm,N,nm,qn,bs,hd,sn,sub,ab,col,dd,k0,k1,k2,k3,k5,mN,hC,hN,hni,TL⟩:=a8y I.ok.mod.kin hx;rw[arm_exec_Raise];refine b8a (b9y ?_);refine b0g (C:=C) (nm:=nm) (q:=qn) (N:=N) (bs:=bs) (bm:=bm) (hdct:=hd) (sn:=sn) (sub:=sub) (ab:=ab) (col:=col) (dd:=dd) (k0:=k0) (k1:=k1) (k2:=k2) (k3:=k3) (k5:=k5) (newId:="ValueError.__new__") (TL.hasType (by decide)) hh ?_ ?_
 ·intro s1 Q1 h1;exact b8a (b8r (b8a (b9y (b8r h1))))
 ·refine b8a (wpAny_Call_ofName (b9q (a1v (X:={ X with xe:=fun _ _=>False }) (I.wish _) hg hm ?_ hdb)));unfold callWith
  have w1:=(a0a ha a0e he) ρ M (fun ts M1=>ts.length<=1/\R M1) (show te ρ M (fun y M1=>([y]:List T).length<=1/\R M1) from by
   have h':te ρ M fun _ M1=>R M1:=ht
   simpa using h') cpos pins s σ H (fun vs H1=>∃M1,vs.length<=1/\Kp X.K H H1/\HR X.K H1 M1/\R M1) I ⟨hr,hM,fun ts vs M1 H1 k1 h1 r1 q1=>⟨M1,by rw[r1.length];exact q1.1,k1,h1,q1.2⟩⟩
  rw[he] at w1|-
  refine b8a (b9p (b9E (b8H w1 (fun us s1 ⟨vs,H1,I1,r,M1,hl,kk,h1,q1⟩=>?_) fun v s z=>absurd z (hxe v s))));refine b8a (b9y ?_);obtain⟨hp,g,d,tk,os⟩:=s1;have C1:=I1.bk _ _ hC
  have hlen:us.length<=sizeLine:=by
   have:us.length<=1:=by rw[<- r.length];exact hl
   exact b8G this (by decide)
  obtain⟨oa,ha0,⟨va,hda,h2⟩,hpin⟩:=hra;have ha1:=(I1.pin _ hpin).1;refine b8a (wpAny_keeperOf_exc C1 ?_);refine b8a (wpAny_call_exc_subU (hrest:=hlen) PySem.F.excBase_ValueError (by decide) PySem.F.excBase_ValueError (TL.keeps I1.bk) (mN:=mN) C1 (hN.keeps I1.bk) hni fun h' e2 hmd=>b8a (b9p (c3z (b8r (b8a (b9y (b8r ?_)))))));obtain⟨t,ht2,htn,_⟩:=hmd.there
  have hea:e2≠a:=fun z=>by
   have:=hmd.new;rw[z] at this;rw[show hp.get? a=some oa from ha1] at this;cases this
  have hCe:C≠e2:=fun z=>by
   have:=hmd.new;rw[<- z,C1] at this;cases this
  exact⟨e2,t,oa,va,rfl,hea,hmd.keeps _ _ C1,hCe,ht2,hmd.keeps _ _ ha1,hda,h2,fun h'' g1 g2=>hE ⟨hp,g,d,tk,os⟩ H1 M1 h' e2 us t h'' I1 kk h1 q1 hmd g1 g2⟩
end
section
variable{X:Cx}{pins:PNS}{σ:St}{H:Hp}{s:b7Y}
theorem Inv.flown1{h2:Heap}{T:Addr}(I:Inv X pins σ H s)(hex:X.ex=[])(hst:X.stack=X.env::X.outer)(hfr:X.env.frame=some X.env.locals)
  (k:∀b o,b≠T->b∉frs X.stack->s.heap.get? b=some o->h2.get? b=some o) (up:s.heap.UpToSlots h2) (nT:H T=none/\X.s₀.heap.get? T=none/\∀p∈X.pn++pins,p.1≠T):Inv X pins σ H { s with heap:=h2 }:=by
 refine I.flown (B:=PySem.W.hideAll s.heap (T::frs X.stack)) (a:=T) (T:=T) hex hst hfr (fun b o q hf g1 _=>PySem.W.hideAll_get _ q fun hm=>?_) (fun b o q=>?_) up nT nT
 ·rcases b8l.mp hm with z|z
  ·exact g1 z
  ·exact hf z
 ·refine k b o (fun z=>?_) (fun z=>?_) (PySem.W.of_hideAll _ q)
  ·rw[PySem.W.hideAll_none _ (by rw[z];exact b8e)] at q;cases q
  ·rw[PySem.W.hideAll_none _ (b7Z _ z)] at q;cases q
theorem Inv.newAt{T:Addr}(I:Inv X pins σ H s)(hex:X.ex=[])(e:s.heap.get? T=none):H T=none/\X.s₀.heap.get? T=none/\∀p∈X.pn++pins,p.1≠T:=by
 refine⟨?_,b8y fun q=>?_,fun p hp q=>?_⟩
 ·cases q:H T with
  |none=>rfl
  |some u=>obtain⟨o,e'⟩:=(I.hok T u q).has;rw[e] at e';cases e'
 ·obtain⟨o,e'⟩:=I.old hex q;rw[e] at e';cases e'
 ·have e':=(I.pin p hp).1;rw[q,e] at e';cases e'
theorem Inv.setT{h2:Heap}{T:Addr}{oT:Obj}{ts:Array b8g}(I:Inv X pins σ H s)(hex:X.ex=[])(hst:X.stack=X.env::X.outer)(hfr:X.env.frame=some X.env.locals)
  (hT:s.heap.get? T=some oT) (hd:oT.data=.fields ts) (k:∀b,b≠T->h2.get? b=s.heap.get? b) (nT:H T=none/\X.s₀.heap.get? T=none/\∀p∈X.pn++pins,p.1≠T):Inv X pins σ H { s with heap:=h2 } :=
 I.flown1 hex hst hfr (fun b o hb _ q=>(k b hb).trans q) (fun b o q d=>⟨o.slots,by
  have hb:b≠T:=fun z=>by rw[z,hT] at q;cases q;exact d _ hd
  exact(k b hb).trans q⟩) nT
theorem Inv.frames1{T:Addr}{oe:Obj}{vs:Array b8g}(I:Inv X pins σ H s)(hst:X.stack=X.env::X.outer):s.heap.FunFrames (PySem.W.hideAll s.heap (T::frs X.stack)) (X.env::X.outer):=by
 rw[<- hst];exact a0D I.stack fun b hb=>PySem.W.hideAll_none _ (b7Z _ hb)
end
section
variable{X:Cx}{pins:PNS}{σ:St}{H:Hp}{s:b7Y}
theorem b2s{e2 C:Addr}{h':Heap}{o2:Obj}{vs:Array b8g}{t:b8g}(I:Inv X pins σ H s)(hex:X.ex=[])(hst:X.stack=X.env::X.outer)(hfr:X.env.frame=some X.env.locals)(hA:X.A.frames=some (X.env::X.outer)){A':b8w}(hA':A'.frames=some (X.env::X.outer))
  (hn:s.heap.get? e2=none) {hm:Heap} (hk:∀b o,s.heap.get? b=some o->hm.get? b=some o) (he:h'.get? e2=some o2) (hc:o2.cls=.ref C) (hd:o2.data=.fields vs) (h0:vs[0]?=some t) (h1:vs[1]?=some .none) (hob:∀b,b≠e2->h'.get? b=hm.get? b)
  (acc:∀s6,Inv X pins σ H s6->FlyH H X.s₀.heap s6.heap e2 (.ref C) X.env.locals->X.xe (.ref e2) s6) :
  notedBy (model X.prog X.w) A' X.env (cameBackBy (model X.prog X.w) X.A X.env X.xe) (.ref e2) { s with heap:=h' }:=by
 have nE:=I.newAt hex hn;have ne:∀b o,s.heap.get? b=some o->b≠e2:=fun b o q z=>by rw[z,hn] at q;cases q
 have I1:Inv X pins σ H { s with heap:=h' }:=I.kept (t':=s.toks) fun b o q=>(hob b (ne b o q)).trans (hk b o q);have hfx:frs (X.env::X.outer)=frs X.stack:=by rw[hst]
 refine b0D (s:={ s with heap:=h' }) hA' hfr (I1.frames1 (T:=e2) (oe:=o2) (vs:=vs) hst) he hd h1 fun h8 T oT ts g1 g2 g3 g4 g5 g6 g7 up=>?_;have g7':∀b o,b≠e2->b∉frs X.stack->h'.get? b=some o->h8.get? b=some o:=fun b o x y z=>g7 b o x (by rw[<- hfx] at y;exact y) z;have I8:Inv X pins σ H { s with heap:=h8 }:=Inv.flown1 (s:={ s with heap:=h' }) I1 hex hst hfr g7' up nE;have nT:=I1.newAt hex g2;have hsz:1<vs.size:=(b9e.mp h1).1;have dE:=b8L hd (·.setIfInBounds 1 (b8z T));have v1:(vs.setIfInBounds 1 (b8z T))[1]?=some (.ref T):=by simp[hsz]
 have v0:(vs.setIfInBounds 1 (b8z T))[0]?=some t:=by rw[Array.getElem?_setIfInBounds_ne (by decide)];exact h0
 have h3:3<ts.size:=(b9e.mp g6).1;unfold cameBackBy;refine b8a (b9P (s:={ s with heap:=h8 }) g1 dE v1 ?_);rw[if_neg (show ¬((b8z T==b8W)=true) by simp)];refine a2l (s:={ s with heap:=h8 }) g1 dE v1 g4 g5 h3 fun h9 k1 k2=>?_;have I9:Inv X pins σ H { s with heap:=h9 }:=Inv.setT (s:={ s with heap:=h8 }) I8 hex hst hfr g4 g5 k2 nT;refine acc _ I9 ⟨nE.1,nE.2.1,_,_,t,(k2 e2 (b9t g3)).trans g1,(Obj.cls_mapFields ..).trans hc,dE,v0,T,_,_,v1,g3,nT.1,nT.2.1,k1,b8L g5 _,?_⟩;rw[hfr];simp[h3]
end
theorem b5i:isSubtype (.type "ValueError") (.type "BaseException")=pure true:=by rw[c2t];kernel_rfl
theorem b5h:isSubtype (.type ((c3C "ValueError").elim "type" fun x=>x.metatype)) (.type "tuple")=pure false:=by
 rw[show((c3C "ValueError").elim "type" fun x=>x.metatype)="type" by decide +kernel,c2t];kernel_rfl
theorem b7a:isSubtype (.type "ValueError") (.type "ValueError")=pure true:=by rw[c2t];kernel_rfl
section
variable{X:Cx}{Ha:Hp}{pins:PNS}{σ:St}{H:Hp}{s:b7Y}{E:EK3}
theorem a9t{x:Str}{m:Expr}{tx:TE3}{vp bp bcp np rp hpos:Pos}{nk tk:Nat}{a C:Addr}{h':Heap}{args:LSV}{ρ:En}{M:MH}{Q:Flow->b7Y->Prop}(A:AccH X Ha E)(hex:X.ex=[])(hst:X.stack=X.env::X.outer)(hfr:X.env.frame=some X.env.locals)
  (hm:X.mg x=some (.ref C)) (hx:PySem.W.excIn X.K C bmVE "ValueError.__new__"=true) (hmsg:∀a,HE (X.held a) m tx) (hVE:X.mg "ValueError"=none) (I:Inv X pins σ H s) (made:c0s s.heap h' a "ValueError" args) (ka:Kp X.K Ha H) (hr:RhoR X.K σ H ρ) (hh:HR X.K H M)
  (q:tx ρ M fun _ M2=>E x ρ M2) (hgV:Gl X "ValueError") (hg:Gl X x) (hdb:QDD x) (he:starEach [m] X.env=(false,eval m X.env)::starEach [] X.env) :
  wpAny (model X.prog X.w) X.A (noteFrame (.ref a) X.env) (fun _ s2=>wpAny (model X.prog X.w) X.A (setFlight (.ref a) none) (fun _ s3=>wpAny (model X.prog X.w) X.A (handleBy (.ref a) X.env
   [.ExceptHandler (some (.Name "ValueError" vp)) none [.Raise (some (.Call (.Name x bp) [m] [] bcp)) (some (.Constant .none nk np)) rp] hpos]) Q X.xe s3) X.xe s2) X.xe { s with heap:=h',toks:=tk }:=by
 have hA:X.A.frames=some (X.env::X.outer):=by rw[<- hst];exact I.ok.frames
 have nA:=I.newAt hex made.new;have I1:Inv X pins σ H { s with heap:=h',toks:=tk }:=I.kept (t':=tk) made.keeps;obtain⟨t,hea,htn,_⟩:=made.there;have hfx:frs (X.env::X.outer)=frs X.stack:=by rw[hst]
 generalize hs1:({ s with heap:=h',toks:=tk }:b7Y)=s1 at I1|-
 have hp1:s1.heap=h':=by rw[<- hs1]
 rw[<- hp1] at hea;clear made htn hs1 hp1;refine b0D hA hfr (I1.frames1 (T:=a) (oe:={ cls:=.type "ValueError",data:=.fields #[.ref t,.none,.none,.none,.bool false,.none] }) (vs:=#[]) hst) hea rfl rfl fun h3 T oT ts g1 g2 g3 g4 g5 g6 g7 up=>?_;have I3:Inv X pins σ H { s1 with heap:=h3 }:=I1.flown1 hex hst hfr (fun b o x y z=>g7 b o x (by rw[<- hfx] at y;exact y) z) up nA;have nT:=I1.newAt hex g2;have g1':h3.get? a=some { cls:=.type "ValueError",data:=.fields #[.ref t,.ref T,.none,.none,.bool false,.none] }:=g1;have h3s:3<ts.size:=(b9e.mp g6).1;refine a2l (s:={ s1 with heap:=h3 }) g1' rfl rfl g4 g5 h3s fun h4 k1 k2=>?_;have I4:Inv X pins σ H { s1 with heap:=h4 }:=Inv.setT (s:={ s1 with heap:=h3 }) I3 hex hst hfr g4 g5 k2 nT;have e4:=(k2 a (b9t g3)).trans g1';have g5':=b8L g5 (·.setIfInBounds 3 (((none:Option Addr)).elim b8W fun f=>rawInt f));have h4s:3<(ts.setIfInBounds 3 (((none:Option Addr)).elim b8W fun f=>rawInt f)).size:=by rw[Array.size_setIfInBounds];exact h3s
 have J4:Inv (X.held a) pins σ H { s1 with heap:=h4 }:=⟨I4.ok.held a,I4.os,I4.bare,I4.base,I4.loc,I4.cell,I4.free,I4.freeC,I4.pin,I4.hok,I4.len⟩;have hgV':Gl (X.held a) "ValueError":=hgV;refine wpAny_handleBy_builtin b5i b5h b7a (a5a (X:=X.held a) J4 hgV' hVE rfl ⟨rfl,⟨_,e4,rfl⟩,?_⟩ (by decide) (by decide));rw[if_pos rfl];refine a2l (s:={ s1 with heap:=h4 }) e4 rfl rfl k1 g5' h4s fun h5 j1 j2=>?_;have I5:Inv X pins σ H { s1 with heap:=h5 }:=Inv.setT (s:={ s1 with heap:=h4 }) I4 hex hst hfr k1 g5' j2 nT;have e5:=(j2 a (b9t g3)).trans e4
 have J5:Inv (X.held a) ((a,({ cls:=.type "ValueError",data:=.fields #[.ref t,.ref T,.none,.none,.bool false,.none] }:Obj))::pins) σ H { s1 with heap:=h5 }:=by
  have J:Inv (X.held a) pins σ H { s1 with heap:=h5 }:=⟨I5.ok.held a,I5.os,I5.bare,I5.base,I5.loc,I5.cell,I5.free,I5.freeC,I5.pin,I5.hok,I5.len⟩;refine⟨J.ok,J.os,J.bare,J.base,J.loc,J.cell,J.free,J.freeC,fun p hp=>?_,J.hok,J.len⟩;rcases b9F.mp hp with z|z
  ·exact J.pin p (b8q _ z)
  ·rcases b8l.mp z with z|z
   ·subst z;refine⟨e5,nA.1,fun z=>?_,fun z=>?_,fun v z=>nomatch z⟩
    ·obtain⟨m0,⟨o,es,ep,ho,hd,_⟩,_⟩:=I5.loc;have z':a=X.env.locals:=z;rw[<- z',e5] at ho;cases ho;cases hd
    ·have hm2:a∈frs X.outer:=z;have hm3:a∈frs X.stack:=by rw[hst];unfold frs;rw[b9f,hfr];exact b7Z _ hm2
     obtain⟨o,ho,hd⟩:=(I5.stack.mem hm3).2;rw[e5] at ho;cases ho;exact hd _ rfl
   ·exact J.pin p (b8i _ z)
 refine c1O ?_;refine a9a (X:=X.held a) hm hx (fun _ _ z=>z) (hmsg a) rfl J5 hr hh q ⟨_,e5,⟨_,rfl,rfl⟩,b8i _ b8e⟩ (fun s6 H6 M6 hm' e2 vs t2 h7 J6 kk hh6 ex made2 w1 w2=>?_) hg hdb he
 have I6:Inv X pins σ H6 s6:=⟨I.ok,J6.os,J6.bare,J6.base,J6.loc,J6.cell,J6.free,J6.freeC,fun p hp=>J6.pin p (by
  rcases b9F.mp hp with z|z
  ·exact b8q _ z
  ·exact b8i _ (b7Z _ z)),J6.hok,J6.len⟩
 exact b2s (A':=X.A.mark (some (.ref a))) I6 hex hst hfr hA hA made2.new made2.keeps w1 rfl rfl rfl rfl w2 fun s8 I8 fly=>A pins σ H6 s8 e2 C x ρ M6 I8 fly hm (ka.trans kk) (hr.kp kk) hh6 ex
end
noncomputable def a5q(E:EK3)(nm:Str)(i:Nat)(te tx:TE3):TS3:=fun D ρ M=>te ρ M fun t M1=>∃x,t=.str x/\x.length<=640 /\
 ((∃n,PySem.intText? x=some n/\D.nx (ρ.set i (some (.int n))) M1)\/(PySem.intText? x=none/\(reprText x).length<=sizeLine/\tx ρ M1 fun _ M2=>E nm ρ M2))
section
variable{X:Cx}{Ha:Hp}{E:EK3}{e m:Expr}{te tx:TE3}{pos:Pos}
theorem b1T{i:Nat}{nv x:Str}{np ip cpos apos vp bp bcp npos rp hpos:Pos}{nk:Nat}(A:AccH X Ha E)(hcalm:X.calm=true)(hex:X.ex=[])(hst:X.stack=X.env::X.outer)(hfr:X.env.frame=some X.env.locals)
  (hx:XCl X.K X.mg x) (hint:X.mg "int"=none) (hVE:X.mg "ValueError"=none) (he:∀pn xe,HE (X.tried pn xe) e te) (hmsg:∀a,HE (X.held a) m tx) (hN:X.N.Nodup) (hi:X.N[i]?=some nv:=by rfl) (hl:Loc X.env.scope nv:=by first|exact c2L rfl|exact c2c rfl)
  (hgI:Gl X "int":=by rfl) (hgV:Gl X "ValueError":=by rfl) (hg:Gl X x:=by rfl) (hdb:QDD x:=by decide) (hem:starEach [m] X.env=(false,eval m X.env)::starEach [] X.env:=by rfl) (hee:starEach [e] X.env=(false,eval e X.env)::starEach [] X.env:=by rfl)
  (hs:swapsWith (.Call (.Name "int" ip) [e] [] cpos) (some (.Name nv np)) apos.line X.env=pure false:=by rfl)
  (hf:X.fn nv=true\/X.env.scope.names.lookup nv=some .local:=by first|exact .inl rfl|exact .inr rfl|assumption) :
  HSXc X Ha (.Try [.Assign [.Name nv np] (.Call (.Name "int" ip) [e] [] cpos) apos] [.ExceptHandler (some (.Name "ValueError" vp)) none [.Raise (some (.Call (.Name x bp) [m] [] bcp)) (some (.Constant .none nk npos)) rp] hpos] [] [] pos) (a5q E x i te tx):=by
 intro D ρ M q pins s σ H D2 I ⟨ka,hr,hh,en⟩;obtain⟨C,hm,hxc⟩:=hx;refine .try_ ?_
 obtain⟨xe0,hxe⟩:∃xe0:VPR,xe0=fun e s1=>wpAny (model X.prog X.w) X.A (noteFrame e X.env) (fun _ s2=>wpAny (model X.prog X.w) X.A (setFlight e none) (fun _ s3=>wpAny (model X.prog X.w) X.A (handleBy e X.env
   [.ExceptHandler (some (.Name "ValueError" vp)) none [.Raise (some (.Call (.Name x bp) [m] [] bcp)) (some (.Constant .none nk npos)) rp] hpos]) (SP X pins D2) X.xe s3) X.xe s2) X.xe s1:=⟨_,rfl⟩
 rw[<- hxe];have I':Inv (X.tried X.pn xe0) pins σ H s:=⟨I.ok.tried _ _,I.os,I.bare,I.base,I.loc,I.cell,I.free,I.freeC,I.pin,I.hok,I.len⟩;have back:∀{H1 s1},Inv (X.tried X.pn xe0) pins σ H1 s1->Inv X pins σ H1 s1:=fun J=>⟨I.ok,J.os,J.bare,J.base,J.loc,J.cell,J.free,J.freeC,J.pin,J.hok,J.len⟩;refine .rows (.set ?_ hs);rw[c0Z];refine .bind (.of (a5a I hgI hint rfl ?_ (by decide) (by decide)));have w1:=(a0a (he X.pn xe0) a0e hee) ρ M (fun ts M1=>∃x0,ts=[.str x0]/\x0.length<=640/\((∃n,PySem.intText? x0=some n/\D.nx (ρ.set i (some (.int n))) M1)\/(PySem.intText? x0=none/\(reprText x0).length<=sizeLine/\tx ρ M1 fun _ M2=>E x ρ M2)))
  (show te ρ M (fun t M1=>∃x0,([t]:List T)=[.str x0]/\_) from by simpa [a5q] using q) cpos pins s σ H
  (fun vs H1=>∃M1 x0,vs=[.str x0]/\Kp X.K H H1/\HR X.K H1 M1/\x0.length<=640/\((∃n,PySem.intText? x0=some n/\D.nx (ρ.set i (some (.int n))) M1)\/(PySem.intText? x0=none/\(reprText x0).length<=sizeLine/\tx ρ M1 fun _ M2=>E x ρ M2))) I'
  ⟨hr,hh,fun ts vs M1 H1 k1 h1 r1 ⟨x0,e0,q1⟩=>⟨M1,x0,by
   subst e0;obtain⟨v,rfl,rv⟩:=a1H r1;obtain rfl:=a0r rv
   rfl,k1,h1,q1⟩⟩
 have main:wpC (model X.prog X.w) X.A (spliced (backTo cpos (starEach [e] X.env))) (fun us s1=>True/\wpC (model X.prog X.w) X.A (PySem.call (.type "int") ([]++us)) (fun v s2=>wpAny (model X.prog X.w) X.A (storeName X.env nv v) (fun _ s3=>wpC (model X.prog X.w) X.A (execs [] X.env)
   (fun f s1=>match f with|.next=>wpC (model X.prog X.w) X.A (execs [] X.env) (SP X pins D2) X.xe s1|f=>SP X pins D2 f s1) xe0 s3) xe0 s2) xe0 s1) xe0 s:=by
  refine .of (b8H w1 (fun us s1 ⟨vs,H1,I1,r,M1,x0,e0,kk,h1,hl0,q1⟩=>⟨trivial,?_⟩) fun _ _ z=>z);subst e0;obtain⟨u,rfl,ru⟩:=a2L r;obtain⟨tk,rfl⟩:=ru;have J1:=back I1;rcases q1 with ⟨n,hn,q1⟩|⟨hn,hrp,q1⟩
  ·refine .of (PySem.W.KIN.call_text hn hl0 ?_);refine a5t (J1.kept (t':=s1.toks+1) fun b o e=>e) hN hi hl (v:=.int n) ⟨_,rfl⟩ (fun s2 I2=>?_) hf;exact .of (b9i (.of (b9i ⟨_,H1,I2,en.nx _ M1 _ H1 kk ((hr.kp kk).set i a0J) h1 q1⟩)))
  ·refine a7k (I.ok.hd hcalm) hrp hl0 hn fun h' tk' a args made=>?_;rw[hxe];exact a9t A hex hst hfr hm hxc hmsg hVE J1 made (ka.trans kk) (hr.kp kk) h1 q1 hgV hg hdb hem
 rw[hee] at main|-
 exact .with (P:=fun _=>True) (by rfl) (fun h _=>⟨.machine,.inr (.inl rfl),PySem.W.Looks.of_pure rfl⟩) (.args main)
end
end L2
namespace L2
open PySem PySem.Spec PyProof.Rows LM
section
variable{P:b8n}{w:b8F}{K:PySem.W.Frag}{mg:SOV}{base:Heap}
theorem FD.dfnXCH{x:Str}{st:Stmt}{ps N:LSS}{n:Nat}{sp:Sp3X}{t:EK3->TS3}(F:FD K mg x st ps)(S:FnScope N ps (a0b st))(len:∀ts M Q E,sp ts M Q E->ts.length=ps.length)
  (h:∀{f:Addr} {cdv:b8g} {A:b8w} {outer:List Env} {s:b7Y} {H:Hp} {E:XK} {E3:EK3},Room n (A.deeper (envOfC x (a0b st) s.heap.objs.size f cdv)) ->
   Acc (cxOf (CXE P w) P w K mg base N x (a0b st) f cdv A outer s H E) H E3->AccN (cxOf (CXE P w) P w K mg base N x (a0b st) f cdv A outer s H E) H E3->AccH (cxOf (CXE P w) P w K mg base N x (a0b st) f cdv A outer s H E) H E3 ->
   a3i (cxOf (CXE P w) P w K mg base N x (a0b st) f cdv A outer s H E) H (a0K st) (t E3))
  (rd:∀ts M Q E,sp ts M Q E->t (fun nm _ M'=>∃M0,Sub M0 M'/\E nm M0) { nx:=fun _ M'=>rt3 M Q .non M',rt:=rt3 M Q } (a0T N ts) M):DfXC P w K mg base (n+1) x ps sp:=by
 obtain⟨f,fd,F,hm,hb⟩:=F.e;refine⟨f,fd,?_,hm,F.kp,hb⟩;obtain⟨oc,od,kV,doc,pm,an,cdv,ct,osl,rfl,lk,hcd⟩:=F.ex;refine b3u lk hcd S (fun vs H Q E ⟨ts,M,Q3,E3,r,_,q,_⟩=>by rw[r.length];exact len _ _ _ _ q) fun A outer s H vs Q E hr ⟨ts,M,Q3,Ex,r,hh,q,en,ex⟩=>?_;have L:=a4h (P:=P) (w:=w) (K:=K) (mg:=mg) (base:=base) (N:=N) (qual:=x) (scope:=a0b st) (f:=f) (cd:=cdv) (A:=A) (outer:=outer) (s:=s) (H:=H) (E:=E);refine⟨_,h (E3:=fun nm _ M'=>∃M0,Sub M0 M'/\Ex nm M0) hr (fun pins σ H' s' h0 a C nm ρ M' I fly old m k _ hh' q'=>?_) (fun pins σ H' s' h' a C vs' nm ρ M' I made m k _ hh' q'=>?_) (fun pins σ H' s' a C nm ρ M' I fly m k _ hh' q'=>?_) _ _ _ (rd ts M Q3 Ex q),Kp.refl,a2p r,hh,⟨?_,?_,fun _ _ _ _ _ _ _ z=>z.elim,fun _ _ _ _ _ _ _ z=>z.elim⟩⟩
 ·obtain⟨M0,hs,q2⟩:=q';exact a4i L I (fly.older old.start) (ex nm C M0 H' k (hh'.sub hs) m q2)
 ·obtain⟨M0,hs,q2⟩:=q';exact a3p L I made (ex nm C M0 H' k (hh'.sub hs) m q2)
 ·obtain⟨M0,hs,q2⟩:=q';exact a7L L I fly (ex nm C M0 H' k (hh'.sub hs) m q2)
 ·rintro ρ' M' σ' H' k hr' hh' ⟨M0,hs,q'⟩;exact en .non .non M0 H' k (hh'.sub hs) a2q q'
 ·rintro t' v' M' H' k hh' r' ⟨M0,hs,q'⟩;exact en t' v' M0 H' k (hh'.sub hs) r' q'
end
section
variable{X:Cx}{Ha:Hp}{e:Expr}{st:Stmt}{body:List Stmt}{t u:TS3}{te tf:TE3}
theorem HSXc.or(h1:HSXc X Ha st t)(h2:HSXc X Ha st u):HSXc X Ha st (fun D ρ M=>t D ρ M\/u D ρ M):=fun D ρ M q=>q.elim (h1 D ρ M) (h2 D ρ M)
theorem HEXc.or(h1:HEXc X Ha e te)(h2:HEXc X Ha e tf):HEXc X Ha e (fun ρ M Q=>te ρ M Q\/tf ρ M Q):=fun ρ M Q q=>q.elim (h1 ρ M Q) (h2 ρ M Q)
noncomputable def b3G(tb:EK3->TS3)(n1:Str)(t1:TS3):TS3:=fun D ρ M=>tb (fun nm ρ' M'=>nm=n1/\t1 D ρ' M') D ρ M
structure XOneC(K:PySem.W.Frag)(mg:SOV)(n1:Str):Prop where
 out:∃C1,mg n1=some (.ref C1)/\PySem.W.excIn K C1 bmVE "ValueError.__new__"=true/\PySem.W.subIn K (.ref C1) (.type "BaseException")=some true/\PySem.W.subIn K (.ref C1) (.ref C1)=some true
theorem b3S{tb:EK3->TS3}{n1:Str}{b1:Stmt}{bs1:List Stmt}{t1:TS3}{np1 hpos1 pos:Pos}
  (hcalm:X.calm=true) (hex:X.ex=[]) (hst:X.stack=X.env::X.outer) (hfr:X.env.frame=some X.env.locals)
  (hb:∀(pn:PNS) (xe:VPR) (Ha:Hp) (E3:EK3),Acc (X.tried pn xe) Ha E3->a3i (X.tried pn xe) Ha body (tb E3))
  (hx:XOneC X.K X.mg n1) (h1:∀a,HSs (X.held a) (b1::bs1) t1) (hg1:Gl X n1:=by rfl) (hd1:(n1==("__debug__":Str))=false:=by decide) :
  HSXc X Ha (.Try body [.ExceptHandler (some (.Name n1 np1)) none (b1::bs1) hpos1] [] [] pos) (b3G tb n1 t1):=by
 intro D3 ρ M h pins s σ H D2 I ⟨ka,hrr,hh,en⟩;obtain⟨C1,m1,x1,p1,u1⟩:=hx;refine .try_ ?_
 obtain⟨xe0,hxe⟩:∃xe0:VPR,xe0=fun e s1=>wpAny (model X.prog X.w) X.A (noteFrame e X.env) (fun _ s2=>wpAny (model X.prog X.w) X.A (setFlight e none) (fun _ s3=>wpAny (model X.prog X.w) X.A (handleBy e X.env
   [.ExceptHandler (some (.Name n1 np1)) none (b1::bs1) hpos1]) (SP X pins D2) X.xe s3) X.xe s2) X.xe s1:=⟨_,rfl⟩
 rw[<- hxe]
 have I':Inv (X.tried (X.pn++pins) xe0) [] σ H s :=
  ⟨I.ok.tried _ _,I.os,I.bare,I.base,I.loc,I.cell,I.free,I.freeC,fun p hp=>I.pin p (by simpa using hp),I.hok,I.len⟩
 refine wpC.mono (hb (X.pn++pins) xe0 H _ ?_ D3 ρ M h [] s σ H D2 I' ⟨Kp.refl,hrr,hh,en⟩) (fun f s1 q=>?_) fun _ _ z=>z
 ·intro pins' σ1 H1 s1 h0 a C nm ρ1 M1 J F old m k r1 hh1 q;have J1:Inv X pins σ1 H1 s1:=⟨I.ok,J.os,J.bare,J.base,J.loc,J.cell,J.free,J.freeC,fun p hp=>J.pin p (b8q _ hp),J.hok,J.len⟩;obtain⟨na,na0,oe,vs,a0,t1',t2',t3,t4,T5,oT,ts,t5,t6,t7,t8,t9,t10,t11⟩:=F;have fA:H1 a=none/\X.s₀.heap.get? a=none/\∀p∈X.pn++pins,p.1≠a:=⟨na,b8y fun z=>old.start a z na0,fun p hp z=>old.pins p (b8q _ hp) (by rw[z];exact na0)⟩;have fT:H1 T5=none/\X.s₀.heap.get? T5=none/\∀p∈X.pn++pins,p.1≠T5:=⟨t7,b8y fun z=>old.start T5 z t8,fun p hp z=>old.pins p (b8q _ hp) (by rw[z];exact t8)⟩;have frames:=I.ok.frames;rw[hst] at frames
  have hl:s1.heap.FunFrames (PySem.W.hideAll s1.heap (a::T5::frs X.stack)) (X.env::X.outer):=by
   rw[<- hst];exact a0D J1.stack fun b hb=>PySem.W.hideAll_none _ (b7Z _ (b7Z _ hb))
  have hfl:c2g (PySem.W.hideAll s1.heap (a::T5::frs X.stack)) (X.env::X.outer) a (.ref C) a0 s1.heap :=
   ⟨fun b o q=>PySem.W.of_hideAll _ q,PySem.W.hideAll_none _ b8e,hl,oe,vs,T5,oT,ts,t1',⟨t2',t4⟩,t3,t5,PySem.W.hideAll_none _ (b7Z _ b8e),t6,t9,t10,t11⟩
  have hB:∀b o,s1.heap.get? b=some o->b∉frs X.stack->b≠a->b≠T5->(PySem.W.hideAll s1.heap (a::T5::frs X.stack)).get? b=some o:=fun b o q hf g1 g2=>PySem.W.hideAll_get _ q fun hm=>by
   rcases b8l.mp hm with z|z
   ·exact g1 z
   ·rcases b8l.mp z with z|z
    ·exact g2 z
    ·exact hf z
  show xe0 (.ref a) s1;rw[hxe];refine c2h frames hfr hfl fun h4 hheld hsm4=>?_;refine c3f (s:={ s1 with heap:=h4 }) hheld fun h5 hfl5 hsm5=>?_;have hsm:s1.heap.UpToSlots h5:=hsm4.trans hsm5
  have J5:Inv (X.held a) pins σ1 H1 { s1 with heap:=h5 }:=by
   have:=J1.flown hex hst hfr hB hfl5.1 hsm fA fT;exact⟨this.ok.held a,this.os,this.bare,this.base,this.loc,this.cell,this.free,this.freeC,this.pin,this.hok,this.len⟩
  obtain⟨ob5,hob5,hcl5⟩:=hfl5.there;obtain⟨rfl,q⟩:=q
  have hCC:C1=C:=by
   have:=m1.symm.trans m;injection this with e;injection e
  subst hCC;refine c0p (c0d (a1v (X:=X.held a) J5 hg1 m1 ?_ hd1)) (by intro q;cases q);refine a5l J5.kIn hob5 hcl5 u1 p1 x1 ?_;refine c1U ?_;refine lands_againW (s:={ s1 with heap:=h5 }) hfl5 fun h6 hfl6 hsm6=>?_
  have J6:Inv (X.held a) pins σ1 H1 { s1 with heap:=h6 }:=by
   have:=J1.flown hex hst hfr hB hfl6.1 (hsm.trans hsm6) fA fT;exact⟨this.ok.held a,this.os,this.bare,this.base,this.loc,this.cell,this.free,this.freeC,this.pin,this.hok,this.len⟩
  refine b8H (h1 a D3 ρ1 M1 q pins _ σ1 H1 D2 J6 ⟨r1,hh1,en.kp k⟩) (fun f s9 q9=>?_) fun _ _ z=>z.elim;show SP X pins D2 f s9;cases f with
  | brk =>
    obtain⟨σ',H',J9,q⟩:=q9;exact⟨σ',H',⟨I.ok,J9.os,J9.bare,J9.base,J9.loc,J9.cell,J9.free,J9.freeC,J9.pin,J9.hok,J9.len⟩,q⟩
  | cont =>
    obtain⟨σ',H',J9,q⟩:=q9;exact⟨σ',H',⟨I.ok,J9.os,J9.bare,J9.base,J9.loc,J9.cell,J9.free,J9.freeC,J9.pin,J9.hok,J9.len⟩,q⟩
  | ret u =>
    obtain⟨v,σ',H',J9,r,q⟩:=q9;exact⟨v,σ',H',⟨I.ok,J9.os,J9.bare,J9.base,J9.loc,J9.cell,J9.free,J9.freeC,J9.pin,J9.hok,J9.len⟩,r,q⟩
  | next =>
    obtain⟨σ',H',J9,q⟩:=q9;exact⟨σ',H',⟨I.ok,J9.os,J9.bare,J9.base,J9.loc,J9.cell,J9.free,J9.freeC,J9.pin,J9.hok,J9.len⟩,q⟩
 ·have bk:∀{σ' H'},Inv (X.tried (X.pn++pins) xe0) [] σ' H' s1->Inv X pins σ' H' s1:=fun J=>⟨I.ok,J.os,J.bare,J.base,J.loc,J.cell,J.free,J.freeC,fun p hp=>J.pin p (b8q _ hp),J.hok,J.len⟩;cases f with
  | next =>
    obtain⟨σ',H',J,q⟩:=q;exact .of (b9i ⟨σ',H',bk J,q⟩)
  | brk =>
    obtain⟨σ',H',J,q⟩:=q;exact⟨σ',H',bk J,q⟩
  | cont =>
    obtain⟨σ',H',J,q⟩:=q;exact⟨σ',H',bk J,q⟩
  | ret u =>
    obtain⟨v,σ',H',J,r,q⟩:=q;exact⟨v,σ',H',bk J,r,q⟩
end
theorem DfAC.u{P w K mg base n m f ps sp}(D:DfAC P w K mg base n f ps sp)(h:n<=m:=by decide):DfAC P w K mg base m f ps sp:=by
 obtain⟨fd,F,a,b⟩:=D.out;exact⟨fd,F.mono h,a,b⟩
theorem DfXC.u{P w K mg base n m f ps sp}(D:DfXC P w K mg base n f ps sp)(h:n<=m:=by decide):DfXC P w K mg base m f ps sp:=by
 obtain⟨f,fd,F,a,b,c⟩:=D.out;exact⟨f,fd,F.mono h,a,b,c⟩
section
variable{P:b8n}{w:b8F}{K:PySem.W.Frag}{mg:SOV}{base:Heap}
theorem Fun.dfnAC{x qual:Str}{st:Stmt}{f:Addr}{fd:b9d}{N ps:LSS}{n:Nat}{sp:Sp3}{t:TS3}(F:Fun K x qual st f fd)(hb:a1l K fd ps [])(S:FnScope N ps (a0b st))(len:∀ts M Q,sp ts M Q->ts.length=ps.length)
  (hbody:∀{cdv:b8g} {A:b8w} {outer:List Env} {s:b7Y} {H:Hp} {E:XK},Room n (A.deeper (envOfC qual (a0b st) s.heap.objs.size f cdv)) ->
   a3i (cxOf CX0 P w K mg base N qual (a0b st) f cdv A outer s H E).nox H (a0K st) t)
  (rd:∀ts M Q,sp ts M Q->t { nx:=fun _ M'=>rt3 M Q .non M',rt:=rt3 M Q } (a0T N ts) M):DfAC P w K mg base (n+1) f ps sp :=
 ⟨fd,Fun.fnkC F S len hbody rd,F.kp,hb⟩
end
section
variable{X:Cx}{Ha:Hp}{o e:Expr}{es:LSE}{m:Str}{pos apos:Pos}{to:TE3}{t:TA3}{C g:Addr}{n:Nat}{ps:LSS}{sp:Sp3}
theorem a1x{pl:Sem Bool}(c:Cls X.K C)(hm:Meth X.K C m g)(D:DfAC X.prog X.w X.K X.mg X.base n g ps sp)(hr:Room n X.A)(ho:HE X o to)(ha:HA X (e::es) t)
  (hst:QSS X e es:=by rfl) (hpl:QPP X pos es:=by rfl)
  (ht:eval (.Call (.Attribute o m apos) (e::es) [] pos) X.env=(do
   let ov <- eval o X.env
   standAt apos.atName
   let (f,first) <- holding [ov] (getMethod ov m pl)
   callWith pos f first (backTo pos (starEach (e::es) X.env)) (backToKw pos (keywordEach [] X.env))):=by rfl) :
  HEXc X Ha (.Call (.Attribute o m apos) (e::es) [] pos) (a9N C m sp to t):=by
 intro ρ M Q h pins s σ H Q2 I bb;obtain⟨ka,hrr,hh,en⟩:=bb;obtain⟨fd,F,hk,hb⟩:=D.out;rw[ht]
 refine .bind (.of (thn (ho ρ M _ h pins s σ H (fun v H1=>∃t' M1,Kp X.K H H1/\HR X.K H1 M1/\Rep X.K H1 v t'/\(match t' with
  |.adr a=>(match M1 a with|some (.ob D fs)=>D=C/\fs.lookup m=none/\t ρ M1 fun ts M2=>sp (.adr a::ts) M2 Q|_=>False)
  |_=>False)) I ⟨hrr,hh,fun t' v M1 H1 k1 h1 r1 q1=>⟨t',M1,k1,h1,r1,q1⟩⟩) fun u s1 ⟨v,H0,I0,rv,t',M0,k0,h0,rt,q1⟩=>?_))
 split at q1
 ·rename_i a;split at q1
  ·rename_i D fs e0;obtain⟨rfl,el,q1⟩:=q1;obtain rfl:=a0n rt;cases rv;obtain⟨dx,xs,g1,g2⟩:=h0 _ _ e0;refine .standAt (.bind (.hold (.of (a3r I0 g1 c hm (a5P g2 el) ?_))));have main:wpC (model X.prog X.w) X.A (spliced (backTo pos (starEach (e::es) X.env))) (fun us s2=>X.K.In s2.heap/\wpC (model X.prog X.w) X.A (PySem.call (.ref g) ([.ref a]++us)) (EP X pins σ Q2) X.xe s2) X.xe s1:=?_
   ·show wpC (model X.prog X.w) X.A (callWith pos (.ref g) [.ref a] (backTo pos (starEach (e::es) X.env)) []) (EP X pins σ Q2) X.xe s1
    rw[hst] at main|-
    exact .with (by show((false||(backTo pos (starEach es X.env)).any (·.1))||false)=false;rw[hpl];rfl) (PySem.W.keeps_K hm.kp) (.args main)
   refine .of (thn (ha ρ M0 _ q1 pos pins _ σ H0 (fun vs H1=>∃ts M1,Kp X.K H0 H1/\HR X.K H1 M1/\Reps X.K H1 vs ts/\sp (.adr a::ts) M1 Q) I0 ⟨hrr.kp k0,h0,fun ts vs M1 H1 k1 h1 r1 q1=>⟨ts,M1,k1,h1,r1,q1⟩⟩) fun us s2 ⟨vs,H1,I1,r,ts,M1,k1,h1,r1,q2⟩=>⟨I1.kIn,?_⟩);have r2:Vals ((V.ref a::vs)++[]) ((b8z a::us)++[]):=(show Vals (V.ref a::vs) (b8z a::us) from .cons rfl r).append .nil;have kk:=k0.trans k1
   have q3:dSp X.K sp ((V.ref a::vs)++[]) H1 Q2 (fun _ _ _=>False) :=
    ⟨.adr a::ts,M1,Q,by rw[b8O];exact a3G r1,h1,q2,en.kp kk⟩
   have hl:((b8z a::us)++[]).length=ps.length:=by rw[<- r2.length];exact F.len _ _ _ _ q3
   refine wpC.call ((F.run X.A X.stack s2 H1 ⟨b8z a::us,[]⟩ ((b8z a::us)++[]) ((V.ref a::vs)++[]) Q2 _ hr I1.env0 (hb s2 (b8z a::us) I1.kIn hl) r2 q3).mono fun r s' hq=>?_);cases r with
   |error e=>exact b8D hq
   | ok fl =>
     cases fl with
     |ret u=>exact I1.after hq
     |next=>exact b8D hq
     |brk=>exact b8D hq
     |cont=>exact b8D hq
  ·exact q1.elim
 ·exact q1.elim
end
section
variable{M:c0I}{A:b8w}{E:VPR}{s:b7Y}{env:Env}
theorem wpC.test1{l r:Expr}{op:c2w}{pos:Pos}{whole:Sem b8g}{Q:Bool->b7Y->Prop}(h:wpC M A (eval l env) (fun a s1=>wpAny M A (eval r env) (fun b s2=>wpAny M A (compareOp op a b) (fun c s3=>wpAny M A (truthy c) Q E s3) E s2) E s1) E s)
  (hm:behindInMarks op r=false):wpC M A (isTrue (.Compare l [op] [r] pos) env whole) Q E s:=fun Γ p i k=>by
 simp only[isTrue_Compare1,c1M hm,b9O,c1v,b9W,c3D];refine b8V M Γ _ (fun a p1 s1 q1=>?_) (fun _ _ _ q=>q) _ _ (h Γ p i k);refine b8V M Γ _ (fun b p2 s2 q2=>?_) (fun _ _ _ q=>q) _ _ (q1 Γ p1 i);exact b8V M Γ _ (fun c p3 s3 q3=>q3 Γ p3 i) (fun _ _ _ q=>q) _ _ (q2 Γ _ i)
theorem wpC.testOr{x:Expr}{rest:LSE}{pos:Pos}{whole:Sem b8g}{Q:Bool->b7Y->Prop}
  (h:wpC M A (isTrue x env (eval x env)) (fun c s'=>if c then Q true s' else wpC M A (isTrue (.BoolOp .Or rest pos) env whole) Q E s') E s):wpC M A (isTrue (.BoolOp .Or (x::rest) pos) env whole) Q E s:=by
 show wpC M A (do
  match BoolOp.Or,<- isTrue x env (eval x env) with
  |.And,false=>b9l false
  |.Or,true=>b9l true
  |_,_=>allTrue .Or rest env) Q E s
 refine wpC.bind (h.mono (fun c s' q=>?_) fun _ _ q=>q);cases c with
 |false=>exact q
 |true=>exact wpC.pure q
end
section
variable{X:Cx}{Ha:Hp}{a b:Expr}{ta tb:TE3}{tA tB:TT3}{pos:Pos}
theorem HEXc.d0{ρ:En}(h:HEXc X Ha a ta):PEc X a (dEX X.K Ha ρ ta):=fun pins s σ H Q I ⟨M,Q3,q,b⟩=>h ρ M Q3 q pins s σ H Q I b
theorem b2d{op:c2w}{r:R2}{t u:TE}(ho:OpR X (compareOp op) r)(ha:PEc X a t)(hb:PE X b u)(hm:behindInMarks op b=false):PTc X (.Compare a [op] [b] pos) (b3H (tOp r t u)):=by
 intro pins s σ H Q I h
 refine wpC.test1 (thC (ha pins s σ H _ I h) fun v s1 ⟨x,H1,I1,r1,q1⟩=>thn (hb pins s1 σ H1 _ I1 q1) fun u s2 ⟨y,H2,I2,r2,q2⟩ =>
  thn (ho pins s2 σ H2 x y v u _ I2 r1 r2 q2) fun c s3 ⟨z,H3,I3,r3,k,e,q3⟩=>?_) hm
 subst e;cases r3;exact b8X ⟨H3,I3,q3⟩
theorem a4o{op:c2w}{r:R3}(ho:OpR3 X (compareOp op) r)(ha:HEXc X Ha a ta)(hb:HE X b tb)(hm:behindInMarks op b=false):HTXc X Ha (.Compare a [op] [b] pos) (a6g (tOp3 r ta tb)):=fun ρ M Q h =>
 (b2d ho (ha.d0 (ρ:=ρ)) (hb.x (Ha:=Ha).d (ρ:=ρ)) hm).imp fun σ H Q2 ⟨ka,hr,hh,en⟩=>dOpX (ta:=ta) (tb:=tb) (r:=r) h ka ⟨hr,hh,a3J en⟩
theorem b0Z(ha:HTXc X Ha a tA)(hb:HT X b tB):HTXc X Ha (.BoolOp .Or [a,b] pos) (tOr3 tA tB):=by
 intro ρ M Q h pins s σ H Q2 I ⟨ka,hr,hh,en⟩
 refine wpC.testOr (thC (ha ρ M _ h pins s σ H (fun c H1=>∃M1,Kp X.K H H1/\HR X.K H1 M1/\(if c=true then Q true M1 else tB ρ M1 Q)) I ⟨ka,hr,hh,fun c M1 H1 k1 h1 q1=>⟨M1,k1,h1,q1⟩⟩) fun c s1 ⟨H1,I1,M1,k1,h1,q1⟩=>?_)
 cases c with
 |true=>exact⟨H1,I1,en true M1 H1 k1 h1 q1⟩
 | false =>
   refine wpC.testOr (thC (wpC.of (hb ρ M1 Q q1 pins s1 σ H1 Q2 I1 ⟨hr.kp k1,h1,fun c M2 H2 k2 h2 q2=>en c M2 H2 (k1.trans k2) h2 q2⟩)) fun c s2 q2=>?_);cases c with
   |true=>exact q2
   |false=>exact wpC.pure q2
end
section
variable{X:Cx}{Ha:Hp}{body:List Stmt}{pos:Pos}{tg iter:Expr}
theorem b4m{wi:TI}{g:TG}{tb:TS}(hxe:∀e s,¬X.xe e s)(hc:X.calm=true)(hi:PI X tg iter wi)(hg:PG X tg g)(hb:PSsc X body tb)
  (hs:∀x,foldedSetIterable iter X.env x=pure x:=by intro _;rfl):PSc X (.For tg iter body [] pos) (tFor wi g tb):=by
 intro pins s σ H D I h;have no:∀{α:Type} {m:Sem α} {Q:α->b7Y->Prop} {E:VPR} {s:b7Y},wpAny (model X.prog X.w) X.A m Q X.xe s->wpAny (model X.prog X.w) X.A m Q E s:=fun h=>b8H h (fun _ _ q=>q) fun e s z=>absurd z (hxe e s);refine wpC.for_ (thn (hi pins s σ H _ I h) fun v s1 h1=>thn h1 fun itv s2 h2=>?_) hs;obtain⟨it,fp,tn,J,H2,e,I2,T,st2,f2,W,⟨m0,w0⟩,turn⟩:=h2;subst e;have stat:∀{H':Hp},(∀b∈fp,H' b=none)->∀b∈fp,FpOk X pins H' b:=fun hn b hb=>⟨hn b hb,(f2 b hb).2⟩;refine a0v.forL (fun n s'=>∃i σ' H',Inv X pins σ' H' s'/\tn i s'.heap/\(∀b∈fp,H' b=none)/\W i n σ' H') ?_ m0 ⟨0,σ,H2,I2,st2,fun b hb=>(f2 b hb).1,w0⟩;rintro n s3 ⟨i,σ3,H3,I3,st3,fr3,w3⟩;rcases turn i n σ3 H3 w3 with ⟨stop,qn⟩|⟨go,N,hN,step⟩
 ·refine no (thn (T.done X rfl rfl rfl hc i pins s3 σ3 H3 X.xe I3 (stat fr3) st3 stop) fun r s4 ⟨hr,I4⟩=>?_);subst hr;exact b9i ⟨σ3,H3,I4,qn⟩
 ·refine no (thn (T.item X rfl rfl rfl hc i pins s3 σ3 H3 X.xe I3 (stat fr3) st3 go) fun r s4 ⟨u,hr,h4⟩=>?_);subst hr;refine no (thn h4 fun _ s5 ⟨x,H5,I5,r5,y5,st5,fr5⟩=>?_);have I5':=I5.pinned (stat fr5) (T.obj _ _ st5);refine no (thn (hg _ s5 σ3 H5 x u _ I5' r5 (step x H5 y5)) fun _ s6 ⟨σ6,H6,I6,q6⟩=>?_);refine(hb _ s6 σ6 H6 _ I6 q6).mono (fun f s7 q7=>?_) fun e s z=>absurd z (hxe e s)
  have again:∀{σ7:St} {H7:Hp},Inv X (pins++a2I fp s5.heap) σ7 H7 s7->N σ7 H7->∃m,m<n/\∃i σ' H',Inv X pins σ' H' s7/\tn i s7.heap/\(∀b∈fp,H' b=none)/\W i m σ' H':=fun {σ7 H7} I7 n7=>by
   obtain⟨m',hm,w7⟩:=hN σ7 H7 n7;refine⟨m',hm,i+1,σ7,H7,I7.unpinned,T.keep _ _ _ st5 fun b hb o e=>(I7.pin (b,o) (b8i _ (b8i _ (a1b hb e)))).1,fun b hb=>?_,w7⟩;obtain⟨o,e,d⟩:=T.obj _ _ st5 b hb;exact(I7.pin (b,o) (b8i _ (b8i _ (a1b hb e)))).2.1
  cases f with
  |next=>obtain⟨σ7,H7,I7,n7⟩:=q7;exact again I7 n7
  |cont=>obtain⟨σ7,H7,I7,n7⟩:=q7;exact again I7 n7
  |brk=>obtain⟨σ7,H7,I7,q7⟩:=q7;exact⟨σ7,H7,I7.unpinned,q7⟩
  |ret v=>obtain⟨x7,σ7,H7,I7,r7,q7⟩:=q7;exact⟨x7,σ7,H7,I7.unpinned,r7,q7⟩
theorem b0c{wi:TI3}{g:TG3}{tb:TS3}(hxe:∀e s,¬X.xe e s)(hc:X.calm=true)(hi:HI X tg iter wi)(hg:HG X tg g)(hb:a3i X Ha body tb)
  (hs:∀x,foldedSetIterable iter X.env x=pure x:=by intro _;rfl):HSXc X Ha (.For tg iter body [] pos) (a8M wi g tb):=fun D ρ0 M0 h =>
 (b4m hxe hc (hi.d (ρ:=ρ0)) hg hb.d hs).imp fun D2 σ0 H0 ⟨ka,hr0,hh0,en⟩=>⟨M0,_,h,hr0,hh0,fun J J2 M1 H1 k1 h1 ok q1=>by
  obtain⟨W,w0,wst,turn,fin⟩:=q1;refine⟨fun i m σ H=>m=J.items.length-i/\i<=J.items.length/\Kp X.K H1 H/\∃ρ M,RhoR X.K σ H ρ/\HR X.K H M/\W i ρ M,⟨_,rfl,b9B _,Kp.refl,ρ0,M1,hr0.kp k1,h1,w0⟩,?_⟩;rintro i m σ H ⟨rfl,hi,kk,ρ,M,hr,hh,w⟩;have st:=wst i ρ M w;by_cases hlt:i<J.items.length
  ·have e:J.items[i]?=some J.items[i]:=b8u hlt;obtain⟨go,yl⟩:=ok.go i _ H M e kk hh st;refine .inr ⟨go,fun σ' H'=>i+1<=J.items.length/\Kp X.K H1 H'/\∃ρ M,RhoR X.K σ' H' ρ/\HR X.K H' M/\W (i+1) ρ M,fun σ' H' ⟨a,b,c⟩=>⟨_,by lia,rfl,a,b,c⟩,fun v H' y=>?_⟩;obtain⟨k2,h2,r2⟩:=yl v H' y;refine⟨J.items[i],ρ,M,_,turn i _ ρ M e w,r2,hr.kp k2,h2,fun ρ3 M3 σ3 H3 k3 hr3 hh3 q3=>⟨_,ρ3,M3,q3,ka.trans (k1.trans (kk.trans (k2.trans k3))),hr3,hh3,?_⟩⟩;have kall:=kk.trans (k2.trans k3);refine⟨fun ρ4 M4 σ4 H4 k4 hr4 hh4 q4=>⟨hlt,kall.trans k4,ρ4,M4,hr4,hh4,q4⟩,fun t v M4 H4 k4 h4 r4 q4=>en.rt t v M4 H4 (k1.trans (kall.trans k4)) h4 r4 q4,fun ρ4 M4 σ4 H4 k4 hr4 hh4 q4=>en.nx ρ4 M4 σ4 H4 (k1.trans (kall.trans k4)) hr4 hh4 q4,fun ρ4 M4 σ4 H4 k4 hr4 hh4 q4=>⟨hlt,kall.trans k4,ρ4,M4,hr4,hh4,q4⟩⟩
  ·have e:i=J.items.length:=by lia
   subst e
   exact .inl ⟨ok.stop H M kk hh st,en.nx ρ M σ H (k1.trans kk) hr hh (fin ρ M w)⟩⟩
end
noncomputable def b3F(K:PySem.W.Frag)(C1:Addr):Bool :=
 PySem.W.excIn K C1 bmVE "ValueError.__new__"&&((PySem.W.subIn K (.ref C1) (.type "BaseException")==some true)&&(PySem.W.subIn K (.ref C1) (.ref C1)==some true))
theorem b3E{K:PySem.W.Frag}{mg:SOV}{n1:Str}{C1:Addr}(h:b3F K C1=true)(m1:mg n1=some (.ref C1)):XOneC K mg n1:=by
 unfold b3F at h;simp only[b8m,beq_iff_eq] at h;obtain⟨h1,h2,h3⟩:=h;exact⟨C1,m1,h1,h2,h3⟩
theorem XOneC.cl{K:PySem.W.Frag}{mg:SOV}{n1:Str}(h:XOneC K mg n1):XCl K mg n1:=by
 obtain⟨C1,m1,h1,_⟩:=h;exact⟨C1,m1,h1⟩
theorem b0W{X:Cx}{Ha:Hp}{ss:List Stmt}:a3i X Ha ss b5w:=fun _ _ _ h=>h.elim
theorem FD.deadD{P:b8n}{w:b8F}{K:PySem.W.Frag}{mg:SOV}{base:Heap}{x:Str}{st:Stmt}{ps:LSS}{n:Nat}(F:FD K mg x st ps):DfD x ps (fun _ _ _=>False) P w K mg base n:=by
 obtain⟨f,fd,F,hm,hb⟩:=F.e;exact⟨f,fd,⟨fun vs H Q E ⟨ts,M,Q3,r,_,q,_⟩=>q.elim,fun A outer s H args us vs Q E hr e0 hb r ⟨_,_,_,_,_,q,_⟩=>q.elim⟩,hm,F.kp,hb⟩
noncomputable def repS(x:Str)(n:Nat):Str:=⟨(b8p n x.cps).foldl (·++·) #[]⟩
theorem b1V(x:Str)(n:Nat):(repS x n).length=n*x.length:=by
 have:∀(n:Nat) (a:Array Nat),((b8p n x.cps).foldl (·++·) a).size=a.size+n*x.cps.size:=by
  intro n
  induction n with
  |zero=>intro a;simp
  | succ n ih =>
    intro a;rw[b8P,b9Y,ih,c2Z,c3O];lia
 have h:=this n #[];show((b8p n x.cps).foldl (·++·) #[]).size=n*x.cps.size;rw[h];simp
noncomputable def b4b:R3:=fun a b M Q=>match a,b with
 |.str x,.int n=>2<=n/\n<=100/\1<=x.length/\x.length<=10/\Q (.str (repS x n.toNat)) M
 |_,_=>False
theorem a8p{X:Cx}:OpR3 X (binaryOp .Mult) b4b:=by
 intro pins s σ H x y v u Q2 I rx ry q;obtain⟨a,b,M,Q,r1,r2,hh,q,en⟩:=q;unfold b4b at q;split at q
 ·rename_i z n;obtain⟨h1,h2,h3,h4,q⟩:=q;obtain rfl:=a0r r1;obtain rfl:=a0q r2;obtain⟨t,rfl⟩:=rx;obtain⟨t2,rfl⟩:=ry;have e1:¬n<1:=by lia
  have e2:(n==1||z.length==0)=false:=by
   rw[Bool.or_eq_false_iff];constructor
   ·simp;lia
   ·simp;lia
  have hz:z.length*n.toNat<=1000:=by
   have:n.toNat<=100:=by lia
   exact b8G (Nat.mul_le_mul h4 this) (by decide)
  refine PySem.P.mul_str (by rw[decide_eq_false (by lia),decide_eq_false (by lia)];rfl) (fun _ _=>?_) (fun _ _=>?_) ?_
  ·have:(2^63-1) / n >= 10:=by
    refine Int.le_ediv_of_mul_le (by lia) (by lia)
   lia
  ·have:1000<=sizeLine:=by decide
   exact decide_eq_false (show ¬(z.length*n.toNat>sizeLine) by lia)
  ·rw[if_neg e1,e2,if_neg b8v];refine⟨?_,.str (repS z n.toNat),H,I.kept (t':=s.toks+1) fun b o e=>e,⟨_,rfl⟩,en _ _ M H Kp.refl hh a0G q⟩;show(repS z n.toNat).length<=sizeLine;rw[b1V,c1Z];exact b8G hz (by decide)
 ·exact q.elim
section
variable{M:c0I}{A:b8w}{E:VPR}{s:b7Y}{env:Env}
theorem wpC.cmp1{l r:Expr}{op:c2w}{pos:Pos}{Q:VPR}(h:wpC M A (eval l env) (fun a s1=>wpAny M A (eval r env) (fun b s2=>wpAny M A (compareOp op a b) Q E s2) E s1) E s)
  (hm:behindInMarks op r=false):wpC M A (eval (.Compare l [op] [r] pos) env) Q E s:=fun Γ p i k=>by
 simp only[eval_Compare1,c1M hm,b9O,c1v,b9W,c3D];refine b8V M Γ _ (fun a p1 s1 q1=>?_) (fun _ _ _ q=>q) _ _ (h Γ p i k);exact b8V M Γ _ (fun b p2 s2 q2=>q2 Γ _ i) (fun _ _ _ q=>q) _ _ (q1 Γ p1 i)
end
section
variable{X:Cx}{Ha:Hp}{e a b:Expr}{te ta tb:TE3}{tA tB:TT3}{pos:Pos}
noncomputable def a8e(te:TE3):TS3:=fun D ρ M=>te ρ M fun t M1=>(∃x,t=.str x)/\D.nx ρ M1
theorem a7w(he:HEXc X Ha e te)(hs:swapsWith e none pos.line X.env=pure false:=by rfl):HSXc X Ha (.Expr e pos) (a8e te):=by
 intro D ρ M h pins s σ H D2 I ⟨ka,hr,hh,en⟩;rw[exec_Expr X.env e pos I.quiet hs];refine wpC.standAt (wpC.bind (thC (he ρ M _ h pins s σ H (fun v H1=>(∃x,v=.str x)/\D2.nx σ H1) I ⟨ka,hr,hh,fun t v M1 H1 k1 h1 r1 ⟨⟨x,e0⟩,q1⟩=>⟨⟨x,by subst e0;exact a0r r1⟩,en.nx ρ M1 σ H1 k1 (hr.kp k1) h1 q1⟩⟩) fun v s1 ⟨y,H1,I1,r1,⟨x,e0⟩,q1⟩=>?_));subst e0;obtain⟨t,rfl⟩:=r1;rw[dropValue_plain (fun a z=>by cases z)];exact wpC.pure ⟨σ,H1,I1,q1⟩
theorem b4O(ha:HTXc X Ha a tA)(hb:HTXc X Ha b tB):HTXc X Ha (.BoolOp .Or [a,b] pos) (tOr3 tA tB):=by
 intro ρ M Q h pins s σ H Q2 I ⟨ka,hr,hh,en⟩
 refine wpC.testOr (thC (ha ρ M _ h pins s σ H (fun c H1=>∃M1,Kp X.K H H1/\HR X.K H1 M1/\(if c=true then Q true M1 else tB ρ M1 Q)) I ⟨ka,hr,hh,fun c M1 H1 k1 h1 q1=>⟨M1,k1,h1,q1⟩⟩) fun c s1 ⟨H1,I1,M1,k1,h1,q1⟩=>?_)
 cases c with
 |true=>exact⟨H1,I1,en true M1 H1 k1 h1 q1⟩
 | false =>
   refine wpC.testOr (thC (hb ρ M1 Q q1 pins s1 σ H1 Q2 I1 ⟨ka.trans k1,hr.kp k1,h1,fun c M2 H2 k2 h2 q2=>en c M2 H2 (k1.trans k2) h2 q2⟩) fun c s2 q2=>?_);cases c with
   |true=>exact q2
   |false=>exact wpC.pure q2
theorem b2o{op:c2w}{r:R2}{t u:TE}(ho:OpR X (compareOp op) r)(ha:PEc X a t)(hb:PE X b u)(hm:behindInMarks op b=false):PEc X (.Compare a [op] [b] pos) (tOp r t u):=by
 intro pins s σ H Q I h;exact wpC.cmp1 (thC (ha pins s σ H _ I h) fun v s1 ⟨x,H1,I1,r1,q1⟩=>thn (hb pins s1 σ H1 _ I1 q1) fun u s2 ⟨y,H2,I2,r2,q2⟩=>ho pins s2 σ H2 x y v u _ I2 r1 r2 q2) hm
theorem b3t{op:c2w}{r:R3}(ho:OpR3 X (compareOp op) r)(ha:HEXc X Ha a ta)(hb:HE X b tb)(hm:behindInMarks op b=false):HEXc X Ha (.Compare a [op] [b] pos) (tOp3 r ta tb):=fun ρ M Q h =>
 (b2o ho (ha.d0 (ρ:=ρ)) (hb.x (Ha:=Ha).d (ρ:=ρ)) hm).imp fun σ H Q2 b=>dOpX h b.1 b.2
theorem b4R(ha:HEXc X Ha a ta)(hb:HEXc X Ha b tb):HEXc X Ha (.BoolOp .And [a,b] pos) (a9S ta tb):=by
 intro ρ M Q h pins s σ H Q2 I ⟨ka,hr,hh,en⟩
 show wpC (model X.prog X.w) X.A (do
  let v <- eval a X.env
  PySem.standAt pos
  let c <- holding [v] (truthy v)
  match BoolOp.And,c with
  |.And,false|.Or,true=>b9l v
  |_,_=>boolOp pos .And (eval b X.env::evalEach [] X.env)) (EP X pins σ Q2) X.xe s
 refine wpC.bind (thC (ha ρ M _ h pins s σ H (fun v H1=>∃c M1,v=.bl c/\Kp X.K H H1/\HR X.K H1 M1/\(if c=true then tb ρ M1 Q else Q (.bl false) M1)) I ⟨ka,hr,hh,fun t v M1 H1 k1 h1 r1 q1=>?_⟩) fun v s1 ⟨y,H1,I1,r1,c,M1,e0,k1,h1,q1⟩=>?_)
 ·dsimp only at q1;split at q1
  ·rename_i c;obtain rfl:=a2f r1;exact⟨c,M1,rfl,k1,h1,q1⟩
  ·exact q1.elim
 ·subst e0;cases r1;refine wpC.standAt (wpC.bind (wpC.hold (wpC.of (b8X ?_))));cases c with
  |false=>exact wpC.pure ⟨.bl false,H1,I1,rfl,en _ _ M1 H1 k1 h1 a0Z q1⟩
  | true =>
    show wpC (model X.prog X.w) X.A (eval b X.env) (EP X pins σ Q2) X.xe s1;exact hb ρ M1 Q q1 pins s1 σ H1 Q2 I1 ⟨ka.trans k1,hr.kp k1,h1,en.kp k1⟩
end
local macro_rules | `(tactic| walk_at "3") => `(tactic| first | exact c2L rfl | exact c2c (c2L rfl) | exact c2c (c2c rfl))
local macro_rules | `(tactic| walk_at "2") => `(tactic| first | exact c2L rfl | exact c2c rfl)
local macro_rules | `(tactic| walk_at "4") => `(tactic| first | exact .inl rfl | exact .inr rfl | assumption)
local macro_rules | `(tactic| walk_at "ln") => `(tactic| (intro ts M Q h; first | (split at h <;> first | rfl | exact h.elim) | (obtain ⟨_, _, _, _, _, rfl, _⟩ := h; rfl) | (obtain ⟨_, _, _, _, rfl, _⟩ := h; rfl) | (obtain ⟨_, _, _, rfl, _⟩ := h; rfl) | (obtain ⟨_, _, rfl, _⟩ := h; rfl) | (obtain ⟨_, rfl, _⟩ := h; rfl)))
local macro_rules | `(tactic| walk_at "lnx") => `(tactic| (intro ts M Q E h; first | (split at h <;> first | rfl | exact h.elim) | (obtain ⟨_, _, _, _, _, rfl, _⟩ := h; rfl) | (obtain ⟨_, _, _, _, rfl, _⟩ := h; rfl) | (obtain ⟨_, _, _, rfl, _⟩ := h; rfl) | (obtain ⟨_, _, rfl, _⟩ := h; rfl) | (obtain ⟨_, rfl, _⟩ := h; rfl)))
local macro_rules | `(tactic| walk_at "b0") => `(tactic| exact fun _ _ _ _ _ _ us hl => b7I (P := fun us => bindArgs _ ⟨us, []⟩ = pure (c2q _ us)) hl rfl)
local macro_rules | `(tactic| walk_at "b1") => `(tactic| exact fun _ _ _ _ _ _ us hl => b6z (P := fun us => bindArgs _ ⟨us, []⟩ = pure (c2q _ us)) hl (fun _ => rfl))
local macro_rules | `(tactic| walk_at "b2") => `(tactic| exact fun _ _ _ _ _ _ us hl => b6y (P := fun us => bindArgs _ ⟨us, []⟩ = pure (c2q _ us)) hl (fun _ _ => rfl))
local macro_rules | `(tactic| walk_at "b3") => `(tactic| exact fun _ _ _ _ _ _ us hl => b6x (P := fun us => bindArgs _ ⟨us, []⟩ = pure (c2q _ us)) hl (fun _ _ _ => rfl))
local macro_rules | `(tactic| walk_at "b4") => `(tactic| exact fun _ _ _ _ _ _ us hl => b6w (P := fun us => bindArgs _ ⟨us, []⟩ = pure (c2q _ us)) hl (fun _ _ _ _ => rfl))
local macro_rules | `(tactic| walk_at "b5") => `(tactic| exact fun _ _ _ _ _ _ us hl => b6v (P := fun us => bindArgs _ ⟨us, []⟩ = pure (c2q _ us)) hl (fun _ _ _ _ _ => rfl))
local macro_rules | `(tactic| walk_at "b6") => `(tactic| exact fun _ _ _ _ _ _ us hl => b7H (P := fun us => bindArgs _ ⟨us, []⟩ = pure (c2q _ us)) hl (fun _ _ _ _ _ _ => rfl))
local macro_rules | `(tactic| walk_at "sc") => `(tactic| exact ⟨rfl, rfl, rfl, by decide +kernel, rfl, by decide +kernel, by decide +kernel⟩)
local macro_rules | `(tactic| walk_at "rd") => `(tactic| (try simp only [b4b, b6J, rLeS, a5F, b0h, rNeK, a9Q, b5u, b5I, a9N, b3f, b3g, b5p, tOrS, rInK, b5r, rIn3, b1P, a9L, a8f, a5r, tCB3, b3h, b3K, b1O, tK, tOp3, tUn3, a9K, b3I, a9M, b1Q, a9O, b5z, a6g, b5q, b5s, tOr3, a9S, tIf3, a9P, b5o, b5t, b3j, tLM3, b2I, b5v, tDGK, sDPK, rIs3, b0R, b6I, b5n,
 b1e,b6R,tSM3,a8x,a8m,a8l,a5E,b3Z,tFv3,tJ0,tJ1,a2i,tSl3,tNo3,tPt3,b6K,b0V,b4L,b4K,b4h,b3Y,b4c,b5Q,b5P,b5O,rInt,b4a,rIx3,b4d,b4i,a7y,b4e,b4g,b1Y,rLt3,rLe3,rGt3,rGe3,a7z,rEq3,rNe3,rEqv,truT,b2G,
 a7q,a7p,a8N,a9d,a9c,b0p,b0N,List.getElem?_cons_zero,List.getElem?_cons_succ,List.set_cons_zero,List.set_cons_succ,b8t,c2b,c2a,c0i,c3r,a0d,a6e,a2h,b3e,b7V,b7J,a2x,a6N,
 a2r,b2b,a3Z,a2P,a4Y,a3Y,a5V,b5a,a5U,a3s,a6R,a5g,b4W,b1j,b1i,b2V,b1h,id,Bool.not_true,c1x,c3L,c0M,c3I,c3K,
 decide_eq_true_eq,b8Z,decide_eq_false_iff_not,c1p,↓reduceIte,if_true,if_false,true_and,and_true,and_self,b9B,not_true_eq_false,not_false_eq_true,b8f,b8R,b9Z]))
local macro_rules | `(tactic| walk_at "g") => `(tactic| exact fun _ _ _ _ _ => b0r (i := 0) (by dsimp only [blk]; decide +kernel) rfl (c2L rfl) (c2c rfl))
variable{P:b8n}{w:b8F}{K:PySem.W.Frag}{base:Heap}{mg:SOV}{n:Nat}
noncomputable abbrev top(i:Nat):Stmt:=PySem.Challenge.pw_loopwright_k92_lines_of_a_desk_refused.main.body.getD i (.Pass ⟨0,0,0,0⟩)
noncomputable abbrev a2O:Stmt:=top 9
noncomputable abbrev a2U:Stmt:=top 10
noncomputable abbrev a3l:Stmt:=top 11
noncomputable abbrev a5C:Stmt:=top 12
noncomputable abbrev a1R:Stmt:=top 13
noncomputable abbrev a5D:Stmt:=top 18
noncomputable abbrev a8i:Stmt:=top 19
noncomputable abbrev a4X:Stmt:=top 20
noncomputable abbrev a6q:Stmt:=top 22
noncomputable abbrev a6o:Stmt:=top 23
noncomputable abbrev a4W:Stmt:=top 24
noncomputable abbrev a6p:Stmt:=top 34
noncomputable abbrev a5z:Stmt:=top 38
noncomputable abbrev a5A:Stmt:=top 40
noncomputable abbrev a1Q:Stmt:=top 41
noncomputable abbrev a3V:Stmt:=top 42
noncomputable abbrev a3w:Stmt:=top 60
noncomputable abbrev a2V:Stmt:=top 65
noncomputable abbrev a2W:Stmt:=top 66
noncomputable abbrev b0a:Stmt:=top 67
noncomputable abbrev a2N:Stmt:=top 68
noncomputable abbrev a3v:Stmt:=top 69
noncomputable abbrev a3W:Stmt:=top 70
noncomputable abbrev a2X:Stmt:=top 71
noncomputable abbrev a3U:Stmt:=top 72
noncomputable abbrev a0W:Stmt:=a4n (top 73) 0
noncomputable abbrev a1n:Stmt:=a4n (top 73) 1
noncomputable abbrev a1T:Stmt:=a4n (top 73) 3
noncomputable abbrev a1U:Stmt:=a4n (top 73) 4
noncomputable abbrev a1p:Stmt:=a4n (top 73) 2
noncomputable abbrev a1G:Stmt:=top 75
noncomputable abbrev a2o:Stmt:=top 76
noncomputable abbrev a1S:Stmt:=top 77
noncomputable abbrev a3m:Stmt:=top 80
noncomputable abbrev a8W:Stmt:=top 81
theorem a6l:FnScope ["strands","letter"] ["strands","letter"] (a0b a2O):=by walk_at "sc"
theorem a8T:FnScope ["strands","word","most"] ["strands","word","most"] (a0b a2U):=by walk_at "sc"
theorem a7v:FnScope ["plait"] ["plait"] (a0b a3l):=by walk_at "sc"
theorem a9Y:FnScope ["plait"] ["plait"] (a0b a5C):=by walk_at "sc"
theorem a2H:FnScope ["one","other","letters"] ["one","other"] (a0b a1R):=by walk_at "sc"
theorem a9Z:FnScope ["one","other"] ["one","other"] (a0b a5D):=by walk_at "sc"
theorem a9X:FnScope ["one","other","j","of_one","of_other"] ["one","other"] (a0b a5z):=by walk_at "sc"
theorem a8h:FnScope ["plait","strands"] ["plait"] (a0b a5A):=by walk_at "sc"
theorem a1C:FnScope ["figures","number"] ["figures"] (a0b a1Q):=by walk_at "sc"
theorem a2n:FnScope ["text","parts","strands","plait"] ["text"] (a0b a3V):=by walk_at "sc"
theorem a8U:FnScope ["word"] ["word"] (a0b a2V):=by walk_at "sc"
theorem a8V:FnScope ["words"] ["words"] (a0b a2W):=by walk_at "sc"
theorem b3R:FnScope ["kind","given"] ["kind","given"] (a0b b0a):=by walk_at "sc"
theorem a2m:FnScope ["one","other","paper","j"] ["one","other"] (a0b a2N):=by walk_at "sc"
theorem a8S:FnScope ["kind","given"] ["kind","given"] (a0b a3U):=by walk_at "sc"
theorem a3C:FnScope ["self"] ["self"] (a0b a0W):=by walk_at "sc"
theorem a4H:FnScope ["self"] ["self"] (a0b a1n):=by walk_at "sc"
theorem a6m:FnScope ["self","words"] ["self","words"] (a0b a1T):=by walk_at "sc"
theorem a6n:FnScope ["self","kind","name","given"] ["self","kind","name","given"] (a0b a1U):=by walk_at "sc"
theorem a2M:FnScope ["self","line","words","old"] ["self","line"] (a0b a1p):=by walk_at "sc"
theorem a3T:FnScope ["script","k"] ["script","k"] (a0b a1G):=by walk_at "sc"
theorem a2T:FnScope ["script","k","cell"] ["script","k"] (a0b a2o):=by walk_at "sc"
theorem a1h:FnScope ["state","many","found","mixed"] ["state","many"] (a0b a1S):=by walk_at "sc"
theorem a0E:FnScope ["state","some"] ["state"] (a0b a3m):=by walk_at "sc"
theorem a2S:FnScope ["script","state","desk","name","kept","k","some","line"] ["script"] (a0b a8W):=by walk_at "sc"
structure DeskN(K:PySem.W.Frag)(mg:SOV)(CD f_0 f_1 f_2 f_3 f_4:Addr):Prop where
 c:Cls K CD
 n_kept:a3g K CD "kept"
 mg:mg "Desk"=some (.ref CD)
 mk_:Mk K CD f_0
 m_plaits:Meth K CD "plaits" f_1
 m_keep:Meth K CD "keep" f_2
 m_done:Meth K CD "done" f_3
 m_say:Meth K CD "say" f_4
structure CitN(K:PySem.W.Frag)(P:b8n)(w:b8F)(mg:SOV)(dN:Addr):Prop where
 cit:CitK K P w dN [("drop",1),("show",1),("names",0),("turned",2),("mirrored",2),("flipped",2),("shorter",2),("behind",3),("same",2),("order",1),("form",1),("closed",1)]
 m:mg "NAMES_BEHIND"=some (.ref dN)
structure Zs(K:PySem.W.Frag)(mg:SOV):Prop where
 b_ValueError:mg "ValueError"=none
 b_abs:mg "abs"=none
 b_all:mg "all"=none
 b_dict:mg "dict"=none
 b_int:mg "int"=none
 b_len:mg "len"=none
 b_range:mg "range"=none
 b_sorted:mg "sorted"=none
 b_str:mg "str"=none
 b_tuple:mg "tuple"=none
 x_one:XOneC K mg "BadNote"
 x_two:XTwo K mg "NoStep" "NoRoom"
 xc_NoStep:XCl K mg "NoStep"
 xc_NoRoom:XCl K mg "NoRoom"
 c_MAKING:∃u:Addr,mg "MAKING"=some (.ref u)/\∀H,Rep K H (.ref u) (.tup [.str "turned",.str "mirrored",.str "flipped",.str "shorter",.str "behind"])
 c_MOST_LETTERS:∃tk,mg "MOST_LETTERS"=some (.int 16 tk)
 c_MOST_SIGNS_IN_NAME:∃tk,mg "MOST_SIGNS_IN_NAME"=some (.int 8 tk)
 c_MOST_STRANDS:∃tk,mg "MOST_STRANDS"=some (.int 6 tk)
noncomputable def a1A:Sp3:=fun ts M Q=>match ts with
 |[.int n,.int l]=>Q (.bl (a6K n l)) M
 |_=>False
noncomputable abbrev a4w:=DfD "is_letter" ["strands","letter"] a1A
theorem a6z(Z:Zs K mg)(F:FD K mg "is_letter" a2O ["strands","letter"]):a4w P w K mg base (n+1):=by
 refine F.dfn a6l (by unfold a1A;walk_at "ln") (fun hr=>(a0h (a0x (a7P a6v b3p a0g (a1k b1F Z.b_abs PyProof.Rows.boot_abs (a0a (hv 1) a0e)) (hv 0))))) fun ts M Q h=>?_;unfold a1A a6K at h;split at h
 ·rename_i n l;walk_at "rd";refine ite2 (fun c=>a0l ?_) (fun c=>a0l ?_)
  ·simpa [show 1<=l.natAbs by lia] using h
  ·simpa [show ¬1<=l.natAbs by lia] using h
 ·exact h.elim
noncomputable def a3k:Sp3:=fun ts M Q=>match ts with
 |[.int n,.tup w,.int k]=>∃ws:LSI,w=ws.map .int/\ws.length<10000/\Q (.bl (isWd n ws k)) M
 |_=>False
noncomputable abbrev a6U:=DfD "is_word" ["strands","word","most"] a3k
theorem a9h(Z:Zs K mg)(D_9:a4w P w K mg base n)(F:FD K mg "is_word" a2U ["strands","word","most"]):a6U P w K mg base (n+1):=by
 obtain⟨tk_MOST_STRANDS,c_MOST_STRANDS⟩:=Z.c_MOST_STRANDS;refine F.dfn a8T (by unfold a3k;walk_at "ln") (fun hr=>(a0j (s_if (HW.ht (w_or (a4P (b2M a6v a6v a0g (hv 0) (a5R c_MOST_STRANDS))) (b5g (a0N b3r (a1k a1N Z.b_len PySem.boot_len (a0a (hv 1) a0e)) (hv 2) (a0z _))))) (a0h (a0x h_bl)) a0M) (a0h (a0x (a1k (a3f rfl) Z.b_all c0e (a0a (a3y rfl (a4O (hv 1)) (bkS (a0b a2U) ["strands","word","most"] ["letter","strands"] [none,some 0]) (a2b (i:=0)) (by walk_at "g") (fun _ _ _ _ _=>a3u) (fun _ _ _ _ _=>(a0s D_9 hr (a0a (hv 1) (a0a (hv 0) a0e))))) a0e)))))) fun ts M Q h=>?_;unfold a3k at h;split at h
 ·rename_i n w k;obtain⟨ws,rfl,hl,h⟩:=h;unfold isWd at h;walk_at "rd";refine ite2 (fun c1=>ite2 (fun c2=>?_) fun c2=>ite2 (fun c3=>?_) fun c3=>?_) fun c1=>?_
  ·rw[decide_eq_false c2,c2u,b8T] at h;exact a0l h
  ·rw[decide_eq_false (show ¬(ws.length:Int)<=k by lia),c2u,b8T] at h;exact a0l h
  ·rw[decide_eq_true c1,decide_eq_true (show n<=6 by lia),decide_eq_true (show(ws.length:Int)<=k by lia)] at h;refine⟨fun i ys M'=>ys=((ws.take i).map (a6K n)).map T.bl/\M'=M,⟨rfl,rfl⟩,fun _ _ _ _=>trivial,b9b (by lia:ws.length<=10000) (by decide),?_,?_⟩
   ·rintro i x ys M' hx ⟨rfl,rfl⟩;obtain⟨l,hl',rfl⟩:=a1c hx;unfold a1A;refine⟨?_,rfl⟩;rw[<- a0L (a6K n) hl',b9J];rfl
   ·rintro ys M' ⟨rfl,rfl⟩ p hp;rw[b9x,a2x];refine a0F (M0:=M') ?_ (Sub.new hp);rw[c1j];exact h
  ·rw[decide_eq_false c1,b8T,b8T,b8T] at h;exact a0l h
 ·exact h.elim
noncomputable def a1O:Sp3:=fun ts M Q=>match ts with
 |[.tup [.int n,.tup w]]=>∃ws:LSI,w=ws.map .int/\ws.length<10000/\Q (.bl (isPl n ws)) M
 |_=>False
noncomputable abbrev a3t:=DfD "is_plait" ["plait"] a1O
theorem a7G(Z:Zs K mg)(D_20:a6U P w K mg base n)(F:FD K mg "is_plait" a3l ["plait"]):a3t P w K mg base (n+1):=by
 obtain⟨tk_MOST_LETTERS,c_MOST_LETTERS⟩:=Z.c_MOST_LETTERS;refine F.dfn a7v (by unfold a1O;walk_at "ln") (fun hr=>(a0h (a0x (a0s D_20 hr (a0a (h_ix (hv 0) a0g) (a0a (h_ix (hv 0) a0g) (a0a (a5R c_MOST_LETTERS) a0e))))))) fun ts M Q h=>?_;unfold a1O at h;split at h
 ·rename_i n w;obtain⟨ws,rfl,hl,h⟩:=h;walk_at "rd";refine⟨ws,rfl,hl,?_⟩;rw[b4I];exact a0l h
 ·exact h.elim
noncomputable def a3R:Sp3:=fun ts M Q=>match ts with
 |[.tup [.int n,.tup w]]=>∃ws:LSI,w=ws.map .int/\PlOK n ws/\Q (.int ws.length) M
 |_=>False
noncomputable abbrev a5W:=DfD "looked" ["plait"] a3R
theorem b0A(Z:Zs K mg)(D_15:a3t P w K mg base n)(F:FD K mg "looked" a5C ["plait"]):a5W P w K mg base (n+1):=by
 refine F.dfn a9Y (by unfold a3R;walk_at "ln") (fun hr=>(a0j (s_if (a4P (a1I (a0s D_15 hr (a0a (hv 0) a0e)))) (a0h a5B) a0M) (a0h (a0x (a1k a1N Z.b_len PySem.boot_len (a0a (h_ix (hv 0) a0g) a0e)))))) fun ts M Q h=>?_;unfold a3R at h;split at h
 ·rename_i n w;obtain⟨ws,rfl,ok,h⟩:=h;walk_at "rd";refine⟨ws,rfl,by have:=ok.2.2.1;lia,?_⟩;rw[ok.is];walk_at "rd";exact a0l (M:=M) h
 ·exact h.elim
noncomputable def a1F:Sp3X:=fun ts M Q E=>match ts with
 |[.tup [.int n,.tup w],.tup [.int m,.tup v]]=>∃ws vs:LSI,w=ws.map .int/\v=vs.map .int/\PlOK n ws/\PlOK m vs/\(n≠m->E "NoStep" M)/\(n=m->Q (.int (ws.length+vs.length)) M)
 |_=>False
noncomputable abbrev a1Y:=DfY "looked_both" ["one","other"] a1F
theorem a4J(Z:Zs K mg)(D_27:a5W P w K mg base n)(F:FD K mg "looked_both" a1R ["one","other"]):a1Y P w K mg base (n+1):=by
 refine F.dfnX a2H (by unfold a1F;walk_at "lnx") (fun f cdv A outer s H E E3 hr acc accN=>(a0w (HS.x (HS.n (a0V (i:=2) (a0I a0C (a0s D_27 hr (a0a (hv 0) a0e)) (a0s D_27 hr (a0a (hv 1) a0e))) a2H.nd))) (a0w (a8X (HT.x (HT.n (a0N (a4a hr.units) (h_ix (hv 0) a0g) (h_ix (hv 1) a0g) (a0z _)))) (a1a (a3F accN Z.xc_NoStep a0c)) a1r) (a1a (HS.x (HS.n (a0x (hv 2)))))))) fun ts M Q E h=>?_;unfold a1F at h;split at h
 ·rename_i n w m v;obtain⟨ws,vs,rfl,rfl,ok1,ok2,h2,h3⟩:=h;walk_at "rd";refine⟨ws,rfl,ok1,vs,rfl,ok2,?_⟩;walk_at "rd";exact ite2 (fun c=>⟨M,Sub.refl,h2 c⟩) (fun c=>a0l (h3 (Decidable.not_not.mp c)))
 ·exact h.elim
noncomputable def a3S:Sp3X:=fun ts M Q E=>match ts with
 | [.tup [.int n,.tup w],.tup [.int m,.tup v]]=>∃ws vs:LSI,w=ws.map .int/\v=vs.map .int/\PlOK n ws/\PlOK m vs/\(n≠m->E "NoStep" M)/\(n=m->16<ws.length+vs.length->E "NoRoom" M) /\
   (n=m->ws.length+vs.length<=16->Q (.tup [.int n,.tup ((ws++vs).map .int)]) M)
 |_=>False
noncomputable abbrev a8E:=DfY "behind" ["one","other"] a3S
theorem b0B(Z:Zs K mg)(D_2:a1Y P w K mg base n)(F:FD K mg "behind" a5D ["one","other"]):a8E P w K mg base (n+1):=by
 obtain⟨tk_MOST_LETTERS,c_MOST_LETTERS⟩:=Z.c_MOST_LETTERS;refine F.dfnX a9Z (by unfold a3S;walk_at "lnx") (fun f cdv A outer s H E E3 hr acc accN=>(a0w (a8X (b4N b3r (a2Q acc rfl D_2 hr (a0a (hv 0) (a0a (hv 1) a0e))) (HE.x (HE.n (a5R c_MOST_LETTERS))) (a0z _)) (a1a (a3F accN Z.xc_NoRoom a0c)) a1r) (a1a (HS.x (HS.n (a0x (b4M (a0a (h_ix (hv 0) a0g) (a0a (a0I a0C (h_ix (hv 0) a0g) (h_ix (hv 1) a0g)) a0e))))))))) fun ts M Q E h=>?_;unfold a3S at h;split at h
 ·rename_i n w m v;obtain⟨ws,vs,rfl,rfl,ok1,ok2,h2,h3,h4⟩:=h;have o1:=ok1.2.2.1;have o2:=ok2.2.2.1;walk_at "rd";refine⟨ws,vs,rfl,rfl,ok1,ok2,fun c3=>⟨M,Sub.refl,h2 c3⟩,fun c3=>?_⟩;walk_at "rd";refine ite2 (fun c=>⟨M,Sub.refl,h3 c3 (by lia)⟩) (fun c=>?_);rw[List.map_append.symm];exact⟨a0P (n:=ws.length+vs.length) (by lia),by decide,a0l (h4 c3 (by lia))⟩
 ·exact h.elim
noncomputable def a9V:Sp3:=fun _ _ _=>False
noncomputable abbrev a8D:=DfD "turned" ["plait"] a9V
theorem b0z(Z:Zs K mg)(F:FD K mg "turned" a8i ["plait"]):a8D P w K mg base (n+1):=F.deadD
noncomputable def a7s:Sp3:=fun _ _ _=>False
noncomputable abbrev a5i:=DfD "mirrored" ["plait"] a7s
theorem a7F(Z:Zs K mg)(F:FD K mg "mirrored" a4X ["plait"]):a5i P w K mg base (n+1):=F.deadD
noncomputable def a8Q:Sp3:=fun _ _ _=>False
noncomputable abbrev a6X:=DfD "flipped" ["plait"] a8Q
theorem a9l(Z:Zs K mg)(F:FD K mg "flipped" a6q ["plait"]):a6X P w K mg base (n+1):=F.deadD
noncomputable def a8O:Sp3:=fun _ _ _=>False
noncomputable abbrev a6T:=DfD "shorter" ["plait"] a8O
theorem a9g(Z:Zs K mg)(F:FD K mg "shorter" a6o ["plait"]):a6T P w K mg base (n+1):=F.deadD
noncomputable def a7r:Sp3:=fun _ _ _=>False
noncomputable abbrev a5h:=DfD "order_of" ["plait"] a7r
theorem a7E(Z:Zs K mg)(F:FD K mg "order_of" a4W ["plait"]):a5h P w K mg base (n+1):=F.deadD
noncomputable def a8P:Sp3:=fun _ _ _=>False
noncomputable abbrev a6W:=DfD "form_of" ["plait"] a8P
theorem a9k(Z:Zs K mg)(F:FD K mg "form_of" a6p ["plait"]):a6W P w K mg base (n+1):=F.deadD
noncomputable def a3Q:Sp3X:=fun ts M Q E=>match ts with
 |[.tup [.int n,.tup w],.tup [.int m,.tup v]]=>∃ws vs:LSI,w=ws.map .int/\v=vs.map .int/\PlOK n ws/\PlOK m vs/\n≠m/\E "NoStep" M
 |_=>False
noncomputable abbrev a8C:=DfY "unlike" ["one","other"] a3Q
theorem b0y(Z:Zs K mg)(D_2:a1Y P w K mg base n)(F:FD K mg "unlike" a5z ["one","other"]):a8C P w K mg base (n+1):=by
 refine F.dfnX a9X (by unfold a3Q;walk_at "lnx") (fun f cdv A outer s H E E3 hr acc accN=>(a0w (b3T (a2Q acc rfl D_2 hr (a0a (hv 0) (a0a (hv 1) a0e)))) b1R)) fun ts M Q E h=>?_;unfold a3Q at h;split at h
 ·rename_i n w m v;obtain⟨ws,vs,rfl,rfl,ok1,ok2,hne,h⟩:=h;walk_at "rd";exact⟨ws,vs,rfl,rfl,ok1,ok2,fun c3=>⟨M,Sub.refl,h⟩,fun e=>absurd e hne⟩
 ·exact h.elim
noncomputable def a5u:Sp3:=fun ts M Q=>match ts with
 |[.tup [.int n,.tup w]]=>∃ws:LSI,w=ws.map .int/\PlOK n ws/\Q (.str (wrS n ws)) M
 |_=>False
noncomputable abbrev b1t:=DfD "shown" ["plait"] a5u
theorem b2w(Z:Zs K mg)(D_27:a5W P w K mg base n)(F:FD K mg "shown" a5A ["plait"]):b1t P w K mg base (n+1):=by
 refine F.dfn a8h (by unfold a5u;walk_at "ln") (fun hr=>(a0j (b0d (a0s D_27 hr (a0a (hv 0) a0e))) (a0j (a0V (i:=1) (h_ix (hv 0) a0g) a8h.nd) (a0h (a0x (a0I a0C (b1b (a5b (h_fv (hv 1)) (a5b a0c b4H))) (a3I a0c (a0a (a3y rfl (a4O (h_ix (hv 0) a0g)) (bkS (a0b a5A) ["plait","strands"] ["letter"] [none]) (a2b (i:=0)) (by walk_at "g") (fun _ _ _ _ _=>a3u) (fun _ _ _ _ _=>(b1b (a5b a0c (a5b (h_fv (hv 0)) b4H))))) a0e)))))))) fun ts M Q h=>?_;unfold a5u at h;split at h
 ·rename_i n w;obtain⟨ws,rfl,ok,h⟩:=h;have hn1:=ok.1;have hn6:=ok.2.1;have hl:=ok.2.2.1;have hw:=a5G ok;walk_at "rd";refine⟨ws,rfl,ok,?_⟩;walk_at "rd";have hs:=a9D n ws (b8b "") (by decide +kernel);have hsl:=a9E hn1 hn6 hw;have hh:=a3H hn1 hn6;have hsn:=(sI n (by lia) hn6).2.1;simp only[b1n];refine⟨a8g (by lia),a0P (by lia),a0P (by lia),a0P (by lia),fun i ys M'=>ys=((ws.take i).map (fun l=>b8b " "++a0f l)).map T.str/\M'=M,⟨rfl,rfl⟩,fun _ _ _ _=>trivial,a1W (by lia),?_,?_⟩
  ·rintro i x ys M' hx ⟨rfl,rfl⟩;obtain⟨l,hl',rfl⟩:=a1c hx;obtain⟨l0,l1⟩:=hw l (b8Q hl');obtain⟨_,l2,_⟩:=sI l l0 l1;have e:(b8b " ").length=1:=by decide +kernel
   have el:(b8b " "++a0f l).length<=4:=by rw[a3o,e];lia
   dsimp only;exact⟨a0P (by lia),a8g (by lia),a0P (by lia),a0P (by lia),a9J (fun l=>b8b " "++a0f l) hl',rfl⟩
  ·rintro ys M' ⟨rfl,rfl⟩ r hr;rw[b9x,a2i];dsimp only;rw[<- a3o,hs];refine⟨a6I (by decide +kernel) (fun y hy=>?_) (by rw[b8f];lia),a0P (by lia),a0F h (Sub.new hr)⟩;obtain⟨l,hl',rfl⟩:=b9N.mp hy;obtain⟨l0,l1⟩:=hw l hl';obtain⟨_,l2,_⟩:=sI l l0 l1;have e:(b8b " ").length=1:=by decide +kernel
   rw[a3o,e];lia
 ·exact h.elim
noncomputable def a1z:Sp3:=fun ts M Q=>match ts with
 |[.str x]=>∃i:Int,x=a0f i/\-9<=i/\i<=9/\Q (.int i) M
 |_=>False
theorem sI9(l:Int)(h0:-9<=l)(h1:l<=9):32∉(a0f l).cps.toList/\(a0f l).length<=3/\PySem.intText? (a0f l)=some l:=by
 have:l=-9\/l=-8\/l=-7\/l=7\/l=8\/l=9\/(-6<=l/\l<=6):=by lia
 rcases this with rfl|rfl|rfl|rfl|rfl|rfl|⟨a,b⟩
 ·decide +kernel
 ·decide +kernel
 ·decide +kernel
 ·decide +kernel
 ·decide +kernel
 ·decide +kernel
 ·exact sI l a b
noncomputable abbrev a4v:=DfD "number_in" ["figures"] a1z
theorem a6y(Z:Zs K mg)(F:FD K mg "number_in" a1Q ["figures"]):a4v P w K mg base (n+1):=by
 refine F.dfn a1C (by unfold a1z;walk_at "ln") (fun hr=>(a0j (b5C (a0h (a0V (i:=1) (a4r b1E Z.b_int PyProof.Rows.boot_int (a0a (hv 0) a0e)) a1C.nd))) (a0j (s_if (a0N (a4a hr.units) (a4r b1D Z.b_str PyProof.Rows.boot_str (a0a (hv 1) a0e)) (hv 0) (a0z _)) (a0h a5B) a0M) (a0h (a0x (hv 1)))))) fun ts M Q h=>?_;unfold a1z at h;split at h
 ·rename_i x;obtain⟨i,rfl,h0,h1,h⟩:=h;obtain⟨_,hl,hi⟩:=sI9 i h0 h1;walk_at "rd";refine⟨i,hi,by lia,?_⟩;walk_at "rd";have e:eqT (T.str (a0f i)) (T.str (a0f i))=true:=by show(a0f i==a0f i)=true;simp
  rw[e];refine⟨b9b (by lia:i.natAbs<=9) (by decide),rfl,rfl,b9B _,?_⟩;rw[if_neg (by decide)];exact a0l h
 ·exact h.elim
noncomputable def a1e:Sp3X:=fun ts M Q E=>match ts with
 |[.str x]=>x=c1V/\E "BadNote" M
 |_=>False
theorem a5J(Z:Zs K mg)(F:FD K mg "number_in" a1Q ["figures"]):DfXC P w K mg base (n+1) "number_in" ["figures"] a1e:=by
 refine F.dfnXCH a1C (by unfold a1e;walk_at "lnx") (fun hr acc accN accH=>a0p (b1T (i:=1) accH rfl rfl rfl rfl Z.x_one.cl Z.b_int Z.b_ValueError (fun _ _=>hv 0) (fun _=>a0c) a1C.nd) b0W) fun ts M Q E h=>?_;unfold a1e at h;split at h
 ·rename_i x;obtain⟨rfl,h⟩:=h;show a5q _ _ _ _ _ _ _ _;unfold a5q;walk_at "rd";exact⟨_,rfl,by decide,.inr ⟨by decide +kernel,by decide +kernel,M,fun _ _ e=>e,h⟩⟩
 ·exact h.elim
noncomputable def a5v:Sp3:=fun ts M Q=>match ts with
 |[.str x]=>∃n ws,x=wrS n ws/\PlOK n ws/\Q (.tup [.int n,.tup (ws.map .int)]) M
 |_=>False
noncomputable abbrev b6V:=DfD "read" ["text"] a5v
theorem b4A(Z:Zs K mg)(D_10:a4v P w K mg base n)(D_15:a3t P w K mg base n)(F:FD K mg "read" a3V ["text"]):b6V P w K mg base (n+1):=by
 refine F.dfn a2n (by unfold a5v;walk_at "ln") (fun hr=>(a0j (a0V (i:=1) (a4p (hv 0) (a0a a0c a0e)) a2n.nd) (a0j (s_if (a4P (a1I (a3x (h_ix (hv 1) a0g) (a0a a0c a0e)))) (a0h a5B) a0M) (a0j (a0V (i:=2) (a0s D_10 hr (a0a (a1j (h_ix (hv 1) a0g) a2e (a2d (h_un a9G a0g))) a0e)) a2n.nd) (a0j (a0V (i:=3) (b4M (a0a (hv 2) (a0a (a4r a4C Z.b_tuple c0x (a0a (a3y rfl (a4O (a1j (hv 1) (a2d a0g) a2e)) (bkS (a0b a3V) ["text","parts","strands","plait"] ["part"] [none]) (a2b (i:=0)) (by walk_at "g") (fun _ _ _ _ _=>a3u) (fun _ _ _ _ _=>(a0s D_10 hr (a0a (hv 0) a0e)))) a0e)) a0e))) a2n.nd) (a0j (s_if (a4P (a1I (a0s D_15 hr (a0a (hv 3) a0e)))) (a0h a5B) a0M) (a0h (a0x (hv 3))))))))) fun ts M Q h=>?_;unfold a5v at h;split at h
 ·rename_i x;obtain⟨n,ws,rfl,ok,h⟩:=h;have hn1:=ok.1;have hn6:=ok.2.1;have hl:=ok.2.2.1;have hw:=a5G ok;have hlen:=a9E hn1 hn6 hw;walk_at "rd";refine⟨by decide +kernel,a0P (by lia),a2s _ (by lia),fun r hr=>?_⟩;rw[show b9k (wrS n ws) (b8b " ")=(a0f n++b8b ":")::ws.map a0f from a9C hn1 hn6 hw];have hS0:Sub M (updM M r (.lst (((a0f n++b8b ":")::ws.map a0f).map T.str))):=Sub.new hr;have hM0:updM M r (.lst (((a0f n++b8b ":")::ws.map a0f).map T.str)) r=some (.lst (((a0f n++b8b ":")::ws.map a0f).map T.str)):=a0d
  generalize updM M r (.lst (((a0f n++b8b ":")::ws.map a0f).map T.str))=M0 at hS0 hM0|-
  obtain⟨e1,e2,_⟩:=b3U n hn1 hn6;have hh:=a3H hn1 hn6;rw[b8o] at hM0
  try simp only[b8o,a2h,true_and]
  try simp only[hM0,b8o,a2h,true_and,e1]
  walk_at "rd";rw[if_neg (by decide),e2];refine⟨a0P (by lia),n,rfl,by lia,by lia,?_⟩;simp only[hM0];intro r1 hr1
  have ec:cutT (T.str (a0f n++b8b ":")::b8E T.str (b8E a0f ws)) (some 1) none=b8E T.str (b8E a0f ws):=by
   rw[a4A _ _ (by decide) (by rw[b8t];lia)];rfl
  rw[ec];have hS1:=hS0.newr (o:=.lst (b8E T.str (b8E a0f ws))) hr1;have hM1:updM M0 r1 (.lst (b8E T.str (b8E a0f ws))) r1=some (.lst (b8E T.str (b8E a0f ws))):=a0d
  generalize updM M0 r1 (.lst (b8E T.str (b8E a0f ws)))=M1 at hS1 hM1|-
  refine⟨fun i ys M'=>ys=(ws.take i).map T.int/\M'=M1,⟨rfl,rfl⟩,?_,a1W (by rw[b8f,b8f];lia),?_,?_⟩
  ·rintro i ys M' ⟨_,rfl⟩;exact hM1
  ·rintro i x ys M' hx ⟨rfl,rfl⟩;obtain⟨y,hy,rfl⟩:=a1c hx;obtain⟨l,hl',rfl⟩:=a1c hy;obtain⟨l0,l1⟩:=hw l (b8Q hl');refine⟨l,rfl,by lia,by lia,?_,rfl⟩;rw[<- a0L T.int hl']
  ·rintro ys M' ⟨rfl,rfl⟩ p hp;rw[b8f,b8f,b9x];refine⟨by decide,ws,rfl,by lia,?_⟩;rw[ok.is];walk_at "rd";rw[if_neg (by decide)];exact a0F h (hS1.newr hp)
 ·exact h.elim
noncomputable def RtA:LSS:=["","3","3:1"," 3: 1"]
noncomputable def RtB:List (Str×Int×List Int):=[("3: 3",3,[3]),("7:",7,[]),("0:",0,[]),("2: 1 1 1 1 1 1 1 1 1 1 1 1 1 1 1 1 1",2,b8p 17 1)]
theorem rtB:∀q∈RtB,q.1.length<=60/\b9k q.1 (b8b " ")=(a0f q.2.1++b8b ":")::q.2.2.map a0f/\a6P (a0f q.2.1++b8b ":") (b8b ":")=true/\c1F (a0f q.2.1++b8b ":") none (some (-1))=a0f q.2.1 /\
  (a0f q.2.1++b8b ":").length<=60/\(-9<=q.2.1/\q.2.1<=9)/\(∀l∈q.2.2,-9<=l/\l<=9)/\q.2.2.length<=17/\isPl q.2.1 q.2.2=false:=by decide +kernel
noncomputable def a2R:Sp3X:=fun ts M Q E=>match ts with
 |[.str x]=>(x∈RtA\/x="3: 1 "\/∃n ws,(x,n,ws)∈RtB)/\E "BadNote" M
 |_=>False
theorem rtA:∀x∈RtA,x.length<=10/\((b9k x (b8b " ")).head?.map fun p=>a6P p (b8b ":"))=some false:=by decide +kernel
theorem b2v(Z:Zs K mg)(D_15:DfD "is_plait" ["plait"] a1O P w K mg base n)(D_10:DfD "number_in" ["figures"] a1z P w K mg base n)(Dc:DfXC P w K mg base n "number_in" ["figures"] a1e)(F:FD K mg "read" a3V ["text"]):DfXC P w K mg base (n+1) "read" ["text"] a2R:=by
 refine F.dfnXCH a2n (by unfold a2R;walk_at "lnx") (fun hr acc accN accH=>a0p (HSX.c (HS.x (HS.n (a0V (i:=1) (a4p (hv 0) (a0a a0c a0e)) a2n.nd))))
  (a0p (HSX.c (a8X (HT.x (HT.n (a4P (a1I (a3x (h_ix (hv 1) a0g) (a0a a0c a0e)))))) (a1a (a3F accN Z.x_one.cl a0c)) a1r))
  (a0p (HSX.c (HS.x (HS.n (a0V (i:=2) (a0s D_10 hr (a0a (a1j (h_ix (hv 1) a0g) a2e (a2d (h_un a9G a0g))) a0e)) a2n.nd))))
  (a0p (HSXc.or (HSX.c (HS.x (HS.n (a0V (i:=3) (b4M (a0a (hv 2) (a0a (a4r a4C Z.b_tuple c0x (a0a (a3y rfl (a4O (a1j (hv 1) (a2d a0g) a2e)) (a4D (outer:=a0b a3V) (N:=["text","parts","strands","plait"]) (N':=["part"]) (ix:=[none]) (by decide +kernel) rfl rfl) (a2b (i:=0)) (by walk_at "g") (fun _ _ _ _ _=>a3u) (fun _ _ _ _ _=>(a0s D_10 hr (a0a (hv 0) a0e)))) a0e)) a0e))) a2n.nd))))
   (HSR.c (b7o (b5L (hv 2) (b3X (b5M accH rfl rfl rfl rfl (a4O (a1j (hv 1) (a2d a0g) a2e)) (a4D (outer:=a0b a3V) (N:=["text","parts","strands","plait"]) (N':=["part"]) (ix:=[none]) (by decide +kernel) rfl rfl) (a2b (i:=0)) (by walk_at "g")
    (fun C s1 H1 fp pins pn xe H0 E3 hp ac=>HEXc.or (HEX.c (HE.x (a0s D_10 hr (a0a (hv 0) a0e)))) (b1c ac hp Dc hr (a0a (hv 0) a0e)))) Z.b_tuple c0x)))))
  (a0p (HSX.c (a8X (HT.x (HT.n (a4P (a1I (a0s D_15 hr (a0a (hv 3) a0e)))))) (a1a (a3F accN Z.x_one.cl a0c)) a1r))
  (a2j (HSX.c (HS.x (HS.n (a0x (hv 3)))))))))) ) fun ts M Q E h=>?_
 unfold a2R at h;split at h
 ·rename_i x;obtain⟨hx,h⟩:=h;walk_at "rd";rcases hx with hx|rfl|⟨n,ws,hx⟩
  ·obtain⟨h1,h2⟩:=rtA x hx;refine⟨by decide +kernel,b8G h1 (by decide),a2s _ (by lia),fun r hr=>?_⟩;cases hs:b9k x (b8b " ") with
   |nil=>rw[hs] at h2;cases h2
   | cons p ps =>
     rw[hs] at h2;have h3:a6P p (b8b ":")=false:=b8s h2;rw[b8o,a2h];dsimp only;rw[if_pos h3];exact⟨trivial,M,Sub.new hr,h⟩
  ·refine⟨by decide +kernel,by decide,a2s _ (by decide),fun r hr=>?_⟩;rw[show b9k ("3: 1 ":Str) (b8b " ")=(["3:","1",""]:LSS) by decide +kernel];have hS0:=Sub.new hr (o:=MO.lst (b8E T.str (["3:","1",""]:LSS)));have hM0:updM M r (MO.lst (b8E T.str (["3:","1",""]:LSS))) r=some (MO.lst (b8E T.str (["3:","1",""]:LSS))):=a0d
   generalize updM M r (MO.lst (b8E T.str (["3:","1",""]:LSS)))=M0 at hS0 hM0|-
   rw[b8o,a2h];dsimp only;rw[if_neg (show ¬(a6P ("3:":Str) (b8b ":")=false) by decide +kernel)];refine⟨trivial,?_⟩;refine⟨by decide,?_⟩;rw[show c1F (b8b "3:") none (some (-1))=a0f 3 by decide +kernel];refine⟨3,rfl,by decide,by decide,.inr ?_⟩;unfold a7o;walk_at "rd";rw[hM0];dsimp only;intro r1 hr1;rw[show cutT (b8E T.str (["3:","1",""]:LSS)) (some 1) none=[T.str "1",T.str ""] by rw[a4A _ _ (by decide) (by decide)];rfl];have hS1:=hS0.newr (o:=.lst [T.str "1",T.str ""]) hr1;have hM1:updM M0 r1 (.lst [T.str "1",T.str ""]) r1=some (.lst [T.str "1",T.str ""]):=a0d
   generalize updM M0 r1 (.lst [T.str "1",T.str ""])=M1 at hS1 hM1|-
   refine⟨fun i ys M'=>i<2/\M'=M1,⟨by decide,rfl⟩,?_,by decide,?_⟩
   ·rintro i ys M' ⟨hi,rfl⟩;exact⟨hM1,hi⟩
   ·rintro i x ys M' hx ⟨hi,rfl⟩;have:i=0\/i=1:=by lia
    rcases this with rfl|rfl
    ·cases hx;exact .inl ⟨1,by decide +kernel,by decide,by decide,by decide,rfl⟩
    ·cases hx;exact .inr ⟨rfl,M,hS1,h⟩
  ·obtain⟨h1,h2,h3,h4,h5,⟨hn0,hn1⟩,hw,hl,hp⟩:=rtB _ hx;dsimp only at h1 h2 h3 h4 h5 hn0 hn1 hw hl hp;refine⟨by decide +kernel,b8G h1 (by decide),a2s _ (by lia),fun r hr=>?_⟩;rw[h2];have hS0:=Sub.new hr (o:=MO.lst (b8E T.str ((a0f n++b8b ":")::ws.map a0f)));have hM0:updM M r (MO.lst (b8E T.str ((a0f n++b8b ":")::ws.map a0f))) r=some (MO.lst (b8E T.str ((a0f n++b8b ":")::ws.map a0f))):=a0d
   generalize updM M r (MO.lst (b8E T.str ((a0f n++b8b ":")::ws.map a0f)))=M0 at hS0 hM0|-
   rw[b8o,a2h];dsimp only;rw[if_neg (show ¬(a6P (a0f n++b8b ":") (b8b ":")=false) by rw[h3];exact c3q),h4];refine⟨trivial,b8G h5 (by decide),n,rfl,hn0,hn1,.inl ?_⟩;rw[hM0];dsimp only;rw[b8o];intro r1 hr1
   have ec:cutT (T.str (a0f n++b8b ":")::b8E T.str (b8E a0f ws)) (some 1) none=b8E T.str (b8E a0f ws):=by
    rw[a4A _ _ (by decide) (by rw[b8t];lia)];rfl
   rw[ec];have hS1:=hS0.newr (o:=.lst (b8E T.str (b8E a0f ws))) hr1;have hM1:updM M0 r1 (.lst (b8E T.str (b8E a0f ws))) r1=some (.lst (b8E T.str (b8E a0f ws))):=a0d
   generalize updM M0 r1 (.lst (b8E T.str (b8E a0f ws)))=M1 at hS1 hM1|-
   refine⟨fun i ys M'=>ys=(ws.take i).map T.int/\M'=M1,⟨rfl,rfl⟩,?_,a1W (by rw[b8f,b8f];lia),?_,?_⟩
   ·rintro i ys M' ⟨_,rfl⟩;exact hM1
   ·rintro i x ys M' hx ⟨rfl,rfl⟩;obtain⟨y,hy,rfl⟩:=a1c hx;obtain⟨l,hl',rfl⟩:=a1c hy;obtain⟨l0,l1⟩:=hw l (b8Q hl');refine⟨l,rfl,l0,l1,?_,rfl⟩;rw[<- a0L T.int hl']
   ·rintro ys M' ⟨rfl,rfl⟩ p hpn;rw[b8f,b8f,b9x];refine⟨by decide,ws,rfl,by lia,?_⟩;rw[hp];walk_at "rd";exact⟨M,hS1.newr hpn,h⟩
 ·exact h.elim
noncomputable def a5x:Sp3:=fun _ _ _=>False
noncomputable abbrev a3B:=DfD "closed_sum" ["plait"] a5x
theorem a5M(Z:Zs K mg)(F:FD K mg "closed_sum" a3w ["plait"]):a3B P w K mg base (n+1):=F.deadD
noncomputable def sgOK(c:Nat):Bool:=decide (97<=c)&&decide (c<=122)
theorem lt1(a b:Nat):([a]<[b])<->a<b:=by rw[List.cons_lt_cons_iff];simp
noncomputable def isNm(w:Str):Bool:=decide (1<=w.length)&&(decide (w.length<=8)&&w.cps.toList.all sgOK)
noncomputable def WoK(w:Str):Prop:=strIterType w="str_ascii_iterator"/\w.length<=40
noncomputable def a2A:Sp3:=fun ts M Q=>match ts with
 |[.str w]=>WoK w/\Q (.bl (isNm w)) M
 |_=>False
noncomputable abbrev a6V:=DfD "is_name" ["word"] a2A
theorem a9i(Z:Zs K mg)(F:FD K mg "is_name" a2V ["word"]):a6V P w K mg base (n+1):=by
 obtain⟨tk_MOST_SIGNS_IN_NAME,c_MOST_SIGNS_IN_NAME⟩:=Z.c_MOST_SIGNS_IN_NAME;refine F.dfn a8U (by unfold a2A;walk_at "ln") (fun hr=>(a0h (a0x (b6P (a7P a6v a6v a0g (a1k a1N Z.b_len PySem.boot_len (a0a (hv 0) a0e)) (a5R c_MOST_SIGNS_IN_NAME)) (b4P (a1k (a3f rfl) Z.b_all c0e (a0a (a3y rfl (b7L (hv 0)) (bkS (a0b a2V) ["word"] ["sign"] [none]) (a2b (i:=0)) (by walk_at "g") (fun _ _ _ _ _=>a3u) (fun _ _ _ _ _=>(a7P b0w b0w a0c (hv 0) a0c))) a0e))))))) fun ts M Q h=>?_;unfold a2A at h;split at h
 ·rename_i w;obtain⟨⟨h1,h2⟩,h⟩:=h;walk_at "rd";have hsz:w.length<=sizeLine:=b8G h2 (by decide);have hl:(sgT w).length=w.length:=by unfold sgT;rw[b8f,b9g];rfl
  refine⟨hsz,?_⟩;by_cases c1:1<=w.length
  ·rw [if_pos (by lia)];by_cases c2:w.length<=8
   ·rw [if_pos (by lia)];refine⟨h1,fun i ys M'=>ys=(w.cps.toList.take i).map (fun c=>T.bl (sgOK c))/\M'=M,⟨rfl,rfl⟩,fun _ _ _ _=>trivial,by rw[hl];exact b9b h2 (by decide),?_,?_⟩
    ·rintro i x ys M' hx ⟨rfl,rfl⟩;unfold sgT at hx;rw[b8x] at hx;obtain⟨c,hc,rfl⟩:=b8S.mp hx
     have tk:(c3T (i+1) w.cps.toList).map (fun c=>T.bl (sgOK c))=(c3T i w.cps.toList).map (fun c=>T.bl (sgOK c))++[T.bl (sgOK c)]:=by
      rw[c1E,hc,b9J];rfl
     dsimp only;have e1:(b8b "a").cps.toList=[97]:=by decide +kernel
     have e2:(b8b "z").cps.toList=[122]:=by decide +kernel
     rw[e1,e2];by_cases c3:c<97
     ·rw[if_neg (by rw[lt1];exact not_not_intro c3),tk];have:sgOK c=false:=by unfold sgOK;rw[decide_eq_false (by lia:¬97<=c)];rfl
      rw[this];exact⟨rfl,rfl⟩
     ·rw[if_pos (by rw[lt1];exact c3),tk]
      have:sgOK c=!decide ([122]<[c]):=by
       unfold sgOK;rw[decide_eq_true (by lia:97<=c),c0M];by_cases c4:c<=122
       ·rw[decide_eq_true c4,decide_eq_false (by rw[lt1];lia)];rfl
       ·rw[decide_eq_false c4,decide_eq_true (by rw[lt1];lia)];rfl
      rw[this];exact⟨rfl,rfl⟩
    ·rintro ys M' ⟨rfl,rfl⟩ p hp
     have e3:c3T (sgT w).length w.cps.toList=w.cps.toList:=by
      rw[hl];exact b9v (by rw[b9g];exact b8k _)
     rw[e3,show w.cps.toList.map (fun c=>T.bl (sgOK c))=(w.cps.toList.map sgOK).map T.bl by rw[c0c];rfl,a2x];dsimp only
     have e4:isNm w=(w.cps.toList.map sgOK).all id:=by
      unfold isNm;rw[decide_eq_true c1,decide_eq_true c2,c0M,c0M,c1j];rfl
     rw[<- e4];exact a0F h (Sub.new hp)
   ·rw[if_neg (by lia)];have:isNm w=false:=by unfold isNm;rw[decide_eq_false c2,b8T,c2u]
    rw[this] at h;exact a0l h
  ·rw[if_neg (by lia)];have:isNm w=false:=by unfold isNm;rw[decide_eq_false c1,b8T]
   rw[this] at h;exact a0l h
 ·exact h.elim
noncomputable def CLs:List (Str×Int):=[("drop",1),("show",1),("names",0),("turned",2),("mirrored",2),("flipped",2),("shorter",2),("behind",3),("same",2),("order",1),("form",1),("closed",1)]
noncomputable def lnF(k:Str)(rest:LSS):Bool:=decide (a5Y CLs k=some (rest.length:Int))&&rest.all isNm
noncomputable def a2B:Sp3:=fun ts M Q=>match ts with
 |[.adr p]=>∃k rest,M p=some (.lst ((k::rest).map .str))/\(∀w∈rest,WoK w)/\rest.length<=30/\Q (.bl (lnF k rest)) M
 |_=>False
noncomputable abbrev b1v:=DfD "is_line" ["words"] a2B
theorem a9j(Z:Zs K mg){dN:Addr}(CI:CitN K P w mg dN)(D_24:a6V P w K mg base n)(F:FD K mg "is_line" a2W ["words"]):b1v P w K mg base (n+1):=by
 refine F.dfn a8V (by unfold a2B;walk_at "ln") (fun hr=>(a0h (a0x (b6P (b6O (a1D hr.units) (b2N CI.cit CI.m (h_ix (hv 0) a0g)) (a0I b0u (a1k a1N Z.b_len PySem.boot_len (a0a (hv 0) a0e)) a0g) (a0z _)) (b4P (a1k (a3f rfl) Z.b_all c0e (a0a (a3y rfl (a4O (a1j (hv 0) (a2d a0g) a2e)) (bkS (a0b a2W) ["words"] ["word"] [none]) (a2b (i:=0)) (by walk_at "g") (fun _ _ _ _ _=>a3u) (fun _ _ _ _ _=>(a0s D_24 hr (a0a (hv 0) a0e)))) a0e))))))) fun ts M Q h=>?_;unfold a2B at h;split at h
 ·rename_i p;obtain⟨k,rest,hp,hw,hl,h⟩:=h;unfold lnF at h;unfold CLs at h;walk_at "rd";rw[hp];dsimp only;rw[b8o,a2h];dsimp only
  generalize a5Y _ k=o at h|-
  rw[b8t,b8f];rw[show((rest.length+1:Nat):Int)-1=(rest.length:Int) by lia];cases o with
  | none =>
    dsimp only[ciT];refine⟨by decide +kernel,a2r _,by decide +kernel,?_⟩;rw[show eqT T.non (T.int (rest.length:Int))=false from rfl,if_neg b8v];rw[show decide ((none:Option Int)=some (rest.length:Int))=false from rfl,b8T] at h;exact a0l h
  | some i =>
    dsimp only[ciT];refine⟨a2r _,a2r _,by rw[a5V];decide,?_⟩;rw[b1j];by_cases c:i=(rest.length:Int)
    ·rw[decide_eq_true (by rw[c]:some i=some (rest.length:Int))] at h;rw[if_pos (decide_eq_true c)]
     have ec:cutT (T.str k::rest.map T.str) (some 1) none=rest.map T.str:=by
      rw[a1q _ _ (by decide)];rfl
     intro r hr;rw[ec];have hS:=Sub.new hr (o:=MO.lst (rest.map T.str));have hM:(updM M r (MO.lst (rest.map T.str))) r=some (.lst (rest.map T.str)):=a0d
     generalize updM M r (MO.lst (rest.map T.str))=M1 at hS hM|-
     refine⟨fun i ys M'=>ys=(rest.take i).map (fun w=>T.bl (isNm w))/\M'=M1,⟨rfl,rfl⟩,?_,a1W (by rw[b8f];lia),?_,?_⟩
     ·rintro i ys M' ⟨_,rfl⟩;exact hM
     ·rintro i x ys M' hx ⟨rfl,rfl⟩;rw[b8x] at hx;obtain⟨w,hw',rfl⟩:=b8S.mp hx;exact⟨hw w (b8Q hw'),by rw[c1E,hw',b9J];rfl,rfl⟩
     ·rintro ys M' ⟨rfl,rfl⟩ q hq;rw[b8f,b9x,show rest.map (fun w=>T.bl (isNm w))=(rest.map isNm).map T.bl by rw[c0c];rfl,a2x];dsimp only;rw[c0M] at h;rw[show(rest.map isNm).all id=rest.all isNm by rw[c1j];rfl];exact a0F h (hS.newr hq)
    ·rw[decide_eq_false (fun z=>c (b8s z)),b8T] at h;rw[if_neg (by rw[decide_eq_false c];exact b8v)];exact a0l h
 ·exact h.elim
noncomputable def a7t:Sp3X:=fun ts M Q E=>match ts with
 |[.str k,.adr p]=>∃a b:Pl,k="behind"/\M p=some (.lst [kpT a,kpT b])/\PlOK a.1 a.2/\PlOK b.1 b.2/\(a.1≠b.1->E "NoStep" M)/\(a.1=b.1->16<a.2.length+b.2.length/\E "NoRoom" M)
 |_=>False
noncomputable abbrev b3x:=DfY "made" ["kind","given"] a7t
theorem b4B(Z:Zs K mg)(D_29:a8D P w K mg base n)(D_16:a5i P w K mg base n)(D_21:a6X P w K mg base n)(D_22:a6T P w K mg base n)(D_28:a8E P w K mg base n)(F:FD K mg "made" b0a ["kind","given"]):b3x P w K mg base (n+1):=by
 refine F.dfnX b3R (by unfold a7t;walk_at "lnx") (fun f cdv A outer s H E E3 hr acc accN=>(a0w (HS.x (HS.n (s_if (a0N (a1D hr.units) (hv 0) a0c (a0z _)) (a0h (a0x (a0s D_29 hr (a0a (h_ix (hv 1) a0g) a0e)))) a0M))) (a0w (HS.x (HS.n (s_if (a0N (a1D hr.units) (hv 0) a0c (a0z _)) (a0h (a0x (a0s D_16 hr (a0a (h_ix (hv 1) a0g) a0e)))) a0M))) (a0w (HS.x (HS.n (s_if (a0N (a1D hr.units) (hv 0) a0c (a0z _)) (a0h (a0x (a0s D_21 hr (a0a (h_ix (hv 1) a0g) a0e)))) a0M))) (a0w (HS.x (HS.n (s_if (a0N (a1D hr.units) (hv 0) a0c (a0z _)) (a0h (a0x (a0s D_22 hr (a0a (h_ix (hv 1) a0g) a0e)))) a0M))) (a1a (a8j (a2Q acc rfl D_28 hr (a0a (h_ix (hv 1) a0g) (a0a (h_ix (hv 1) a0g) a0e)))))))))) fun ts M Q E h=>?_;unfold a7t at h;split at h
 ·rename_i k p;obtain⟨a,b,rfl,hp,ok1,ok2,h1,h2⟩:=h;walk_at "rd";rw[hp];dsimp only;rw[a2h];dsimp only;refine a1d (fun c=>absurd c (by decide +kernel)) fun _=>?_;refine a1d (fun c=>absurd c (by decide +kernel)) fun _=>?_;refine a1d (fun c=>absurd c (by decide +kernel)) fun _=>?_;refine a1d (fun c=>absurd c (by decide +kernel)) fun _=>?_;rw[b3e];dsimp only;exact⟨a.2,b.2,rfl,rfl,ok1,ok2,fun z=>⟨M,Sub.refl,h1 z⟩,fun z _=>⟨M,Sub.refl,(h2 z).2⟩,fun z1 z2=>absurd (h2 z1).1 (by lia)⟩
 ·exact h.elim
noncomputable def a2k:Sp3X:=fun ts M Q E=>match ts with
 |[.tup [.int n,.tup w],.tup [.int m,.tup v]]=>∃ws vs:LSI,w=ws.map .int/\v=vs.map .int/\PlOK n ws/\PlOK m vs/\n≠m/\E "NoStep" M
 |_=>False
noncomputable abbrev a4u:=DfY "same_note" ["one","other"] a2k
theorem a6x(Z:Zs K mg)(D_30:a8C P w K mg base n)(F:FD K mg "same_note" a2N ["one","other"]):a4u P w K mg base (n+1):=by
 refine F.dfnX a2m (by unfold a2k;walk_at "lnx") (fun f cdv A outer s H E E3 hr acc accN=>(a0w (b5E (i:=2) (a2Q acc rfl D_30 hr (a0a (hv 0) (a0a (hv 1) a0e))) a2m.nd) (a0w (HS.x (HS.n (s_if (a0N b6r (hv 2) b7P (a0z _)) (a0h (a0x a0c)) a0M))) (a0w (HS.x (HS.n (a0V (i:=3) (h_ix (hv 2) a0g) a2m.nd))) (a1a (HS.x (HS.n (a0x (b1b (a5b a0c (a5b (h_fv (hv 3)) b4H))))))))))) fun ts M Q E h=>?_;unfold a2k at h;split at h
 ·rename_i n w m v;obtain⟨ws,vs,rfl,rfl,ok1,ok2,hne,h⟩:=h;walk_at "rd";exact⟨ws,vs,rfl,rfl,ok1,ok2,hne,M,Sub.refl,h⟩
 ·exact h.elim
noncomputable def a5w:Sp3:=fun _ _ _=>False
noncomputable abbrev a3A:=DfD "order_note" ["order"] a5w
theorem a5L(Z:Zs K mg)(F:FD K mg "order_note" a3v ["order"]):a3A P w K mg base (n+1):=F.deadD
noncomputable def a6i:Sp3:=fun _ _ _=>False
noncomputable abbrev a4x:=DfD "form_note" ["form"] a6i
theorem a6A(Z:Zs K mg)(F:FD K mg "form_note" a3W ["form"]):a4x P w K mg base (n+1):=F.deadD
noncomputable def a4G:Sp3:=fun _ _ _=>False
noncomputable abbrev a3c:=DfD "counts_note" ["whole"] a4G
theorem a4K(Z:Zs K mg)(F:FD K mg "counts_note" a2X ["whole"]):a3c P w K mg base (n+1):=F.deadD
noncomputable def a3j:Sp3X:=fun ts M Q E=>match ts with
 | [.str k,.adr p]=>(∃a:Pl,k="show"/\M p=some (.lst [kpT a])/\PlOK a.1 a.2/\Q (.str (wrS a.1 a.2)) M) \/
   (∃a b:Pl,k="same"/\M p=some (.lst [kpT a,kpT b])/\PlOK a.1 a.2/\PlOK b.1 b.2/\a.1≠b.1/\E "NoStep" M)
 |_=>False
noncomputable abbrev a6S:=DfY "told_of" ["kind","given"] a3j
theorem a9f(Z:Zs K mg)(D_31:b1t P w K mg base n)(D_11:a4u P w K mg base n)(D_7:a3A P w K mg base n)(D_17:a5h P w K mg base n)(D_12:a4x P w K mg base n)(D_23:a6W P w K mg base n)(D_3:a3c P w K mg base n)(D_6:a3B P w K mg base n)(F:FD K mg "told_of" a3U ["kind","given"]):a6S P w K mg base (n+1):=by
 refine F.dfnX a8S (by unfold a3j;walk_at "lnx") (fun f cdv A outer s H E E3 hr acc accN=>(a0w (HS.x (HS.n (s_if (a0N (a1D hr.units) (hv 0) a0c (a0z _)) (a0h (a0x (a0s D_31 hr (a0a (h_ix (hv 1) a0g) a0e)))) a0M))) (a0w (a8X (HT.x (HT.n (a0N (a1D hr.units) (hv 0) a0c (a0z _)))) (a1a (a8j (a2Q acc rfl D_11 hr (a0a (h_ix (hv 1) a0g) (a0a (h_ix (hv 1) a0g) a0e))))) a1r) (a0w (HS.x (HS.n (s_if (a0N (a1D hr.units) (hv 0) a0c (a0z _)) (a0h (a0x (a0s D_7 hr (a0a (a0s D_17 hr (a0a (h_ix (hv 1) a0g) a0e)) a0e)))) a0M))) (a0w (HS.x (HS.n (s_if (a0N (a1D hr.units) (hv 0) a0c (a0z _)) (a0h (a0x (a0s D_12 hr (a0a (a0s D_23 hr (a0a (h_ix (hv 1) a0g) a0e)) a0e)))) a0M))) (a1a (HS.x (HS.n (a0x (a0s D_3 hr (a0a (a0s D_6 hr (a0a (h_ix (hv 1) a0g) a0e)) a0e))))))))))) fun ts M Q E h=>?_;unfold a3j at h;split at h
 ·rename_i k p;walk_at "rd";rcases h with ⟨a,rfl,hp,ok,h⟩|⟨a,b,rfl,hp,ok1,ok2,hne,h⟩
  ·rw[hp];dsimp only;rw[a2h];dsimp only;refine a1d (fun c=>?_) fun c=>absurd rfl c;exact⟨a.2,rfl,ok,a0l h⟩
  ·rw[hp];dsimp only;rw[a2h];dsimp only;refine a1d (fun c=>absurd c (by decide +kernel)) fun _=>?_;refine a1d (fun c=>?_) fun c=>absurd rfl c;rw[b3e];dsimp only;exact⟨a.2,b.2,rfl,rfl,ok1,ok2,hne,M,Sub.refl,h⟩
 ·exact h.elim
noncomputable def a0S(C:Addr):Sp3:=fun ts M Q=>match ts with
 |[.adr a]=>M a=some (.ob C [])/\∀b,M b=none->Q .non (updM (updM M b (.dk [])) a (.ob C [("kept",.adr b)]))
 |_=>False
noncomputable abbrev a4y(CD f P w K mg base n):=DfA P w K mg base n f ["self"] (a0S CD)
theorem a3D{f fd}(F:Fun K "__init__" "Desk.__init__" a0W f fd)(hb:a1l K fd ["self"] [])(Z:Zs K mg){CD f_0 f_1 f_2 f_3 f_4:Addr}(DK:DeskN K mg CD f_0 f_1 f_2 f_3 f_4) :a4y CD f P w K mg base (n+1):=by
 refine Fun.dfnA (F.fnk a3C (by unfold a0S;walk_at "ln") ⟨_,fun cdv A outer s H E hr=>(a0h (b7l DK.c DK.n_kept (hv 0) b6N)),fun ts M Q h=>?_⟩) F.kp hb;unfold a0S at h;split at h
 ·rename_i a;obtain⟨ha,h⟩:=h;walk_at "rd";intro b hb;have hab:a≠b:=fun z=>by rw[z,hb] at ha;cases ha
  rw[a0t hab,ha];exact⟨rfl,by show 0<1000;decide,a0l (h b hb)⟩
 ·exact h.elim
noncomputable def a0O(C:Addr):Sp3:=fun ts M Q=>match ts with
 |[.adr a]=>∃b kvs,M a=some (.ob C [("kept",.adr b)])/\M b=some (.dk kvs)/\∀r,M r=none->Q (.adr r) (updM M r (.dk kvs))
 |_=>False
noncomputable abbrev a5X(CD f P w K mg base n):=DfA P w K mg base n f ["self"] (a0O CD)
theorem a4M{f fd}(F:Fun K "plaits" "Desk.plaits" a1n f fd)(hb:a1l K fd ["self"] [])(Z:Zs K mg){CD f_0 f_1 f_2 f_3 f_4:Addr}(DK:DeskN K mg CD f_0 f_1 f_2 f_3 f_4) :a5X CD f P w K mg base (n+1):=by
 refine Fun.dfnA (F.fnk a4H (by unfold a0O;walk_at "ln") ⟨_,fun cdv A outer s H E hr=>(a0h (a0x (a4r a7W Z.b_dict PyProof.Rows.boot_dict (a0a (a7O DK.c DK.n_kept (hv 0)) a0e)))),fun ts M Q h=>?_⟩) F.kp hb;unfold a0O at h;split at h
 ·rename_i a;obtain⟨b,kvs,ha,hb,h⟩:=h;walk_at "rd";rw[ha];refine⟨rfl,.adr b,rfl,?_⟩;dsimp only;rw[hb];exact fun r hr=>a0l (h r hr)
 ·exact h.elim
noncomputable def RtX(x:Str):Prop:=x∈RtA\/x="3: 1 "\/∃n ws,(x,n,ws)∈RtB
inductive KeepW (Q:VK3) (M:MH) (b:Addr) (D:Dk):LSS->Prop
 |none:Q (.str "bad line") M->KeepW Q M b D []
 |noName {nm:Str} {rest:LSS}:WoK nm->rest.length<=30->isNm nm=false->Q (.str "bad line") M->KeepW Q M b D (nm::rest)
 |bad {nm:Str} {rest:LSS}:WoK nm->isNm nm=true->(∀y∈rest,y.length<=8)->rest.length<=30->RtX (c3t (b8b " ") rest)->Q (.str "bad line") M->KeepW Q M b D (nm::rest)
 |good {nm:Str} {n:Int} {ws:LSI}:WoK nm->isNm nm=true->PlOK n ws->Q (.str "kept") (updM M b (.dk (dkD (putD D nm (n,ws)))))->KeepW Q M b D (nm::plW n ws)
noncomputable def a1g(C:Addr):Sp3:=fun ts M Q=>match ts with
 |[.adr a,.adr p]=>∃(b:Addr) (D:Dk) (ws:LSS),M a=some (.ob C [("kept",.adr b)])/\M b=some (.dk (dkD D))/\D.length<=6/\M p=some (.lst (ws.map .str))/\KeepW Q M b D ws
 |_=>False
theorem a5K{f fd}(F:Fun K "keep" "Desk.keep" a1T f fd)(hb:a1l K fd ["self","words"] [])(Z:Zs K mg){CD f_0 f_1 f_2 f_3 f_4:Addr}(DK:DeskN K mg CD f_0 f_1 f_2 f_3 f_4)(D_24:DfD "is_name" ["word"] a2A P w K mg base n)(D_32:DfD "read" ["text"] a5v P w K mg base n)(Dc:DfXC P w K mg base n "read" ["text"] a2R):DfAC P w K mg base (n+1) f ["self","words"] (a1g CD):=by
 refine Fun.dfnAC F hb a6m (by unfold a1g;walk_at "ln") (fun hr=>a0p (HSX.c (HS.x (s_if (HW.ht (w_or (a4P (a1I (hv 1))) (b5g (a4P (a1I (a0s D_24 hr (a0a (h_ix (hv 1) a0g) a0e))))))) (a0h (a0x a0c)) a0M)))
  (a0p (b3S rfl rfl rfl rfl (fun pn xe Ha E3 acc=>a2j (HSXc.or (HSX.c (HS.x (b7m hr.units (a0s D_32 hr (a0a (a3I a0c (a0a (a1j (hv 1) (a2d a0g) a2e) a0e)) a0e)) (a7O DK.c DK.n_kept (hv 0)) (h_ix (hv 1) a0g))))
   (HSR.c (b7p (b5N acc (b4V rfl) Dc hr (a0a (a3I a0c (a0a (a1j (hv 1) (a2d a0g) a2e) a0e)) a0e)))))) Z.x_one (fun _=>a0h (a0x a0c)))
  (a2j (HSX.c (HS.x (a0x a0c)))))) fun ts M Q h=>?_
 unfold a1g at h;split at h
 ·rename_i a p;obtain⟨b,D,ws,ha,hb',h5,hp,h⟩:=h;walk_at "rd";rw[hp];dsimp only;cases h with
  |none hq=>exact a0l (M:=M) hq
  | noName w1 w2 w3 hq =>
    rw[b8o];dsimp only[c0i,c1x];rw[if_neg (by decide),a2h];dsimp only;refine⟨w1,?_⟩;rw[w3];exact a0l (M:=M) hq
  | @bad nm rest w1 w2 w3 w4 w5 hq =>
    rw[b8o] at hp|-
    dsimp only[c0i,c1x];rw[if_neg (by decide),a2h];dsimp only;refine⟨w1,?_⟩;rw[w2];dsimp only;rw[if_neg (by decide)];unfold b3G;walk_at "rd";refine .inr ?_;rw[hp];dsimp only;intro r hr
    have ec:cutT (T.str nm::rest.map T.str) (some 1) none=rest.map T.str:=by
     rw[a1q _ _ (by decide)];rfl
    rw[ec,a2i];dsimp only;exact⟨a8v (b:=8) (by decide +kernel) w3 (by lia),w5,rfl,a0F hq (Sub.new hr)⟩
  | @good nm n ws w1 w2 ok hq =>
    rw[b8o] at hp|-
    dsimp only[c0i,c1x];rw[if_neg (by decide),a2h];dsimp only;refine⟨w1,?_⟩;rw[w2];dsimp only;rw[if_neg (by decide)];unfold b3G;walk_at "rd";refine .inl ?_;rw[hp];dsimp only;intro r hr
    have ec:cutT (T.str nm::b8E T.str (plW n ws)) (some 1) none=(plW n ws).map T.str:=by
     rw[a1q _ _ (by decide)];rfl
    rw[ec,a2i];dsimp only;have hS:=Sub.new hr (o:=MO.lst ((plW n ws).map T.str));have a1:=hS _ _ ha;have b1:=hS _ _ hb';have p1:=hS _ _ hp;have hbr:M b≠none:=by rw[hb'];intro z;cases z
    generalize updM M r (MO.lst ((plW n ws).map T.str))=M1 at hS a1 b1 p1|-
    refine⟨a8v (b:=8) (by decide +kernel) (fun y hy=>(b5W ok y hy).2) (by unfold plW;rw[b8t,b8f];have:=ok.2.2.1;lia),n,ws,b2g n ws,ok,?_⟩;dsimp only;rw[a1];refine⟨rfl,.adr b,rfl,?_⟩;rw[p1];dsimp only;rw[a2h];dsimp only;rw[b1];refine⟨.inr nm,rfl,by unfold dkD;rw[b8f];exact b9b h5 (by decide),?_⟩;rw[show(T.tup [T.int n,T.tup (ws.map T.int)])=kpT (n,ws) from rfl,b1Z];exact a0F hq hS.up
 ·exact h.elim
noncomputable def a7j(Q:VK3)(E:Str->MH->Prop)(M:MH)(k:Str)(g:List Pl):Prop :=
 (∃a:Pl,k="show"/\g=[a]/\PlOK a.1 a.2/\Q (.str (wrS a.1 a.2)) M) \/
 (∃a b:Pl,k="same"/\g=[a,b]/\PlOK a.1 a.2/\PlOK b.1 b.2/\a.1≠b.1/\E "NoStep" M) \/
 (∃a b:Pl,k="behind"/\g=[a,b]/\PlOK a.1 a.2/\PlOK b.1 b.2/\(a.1≠b.1->E "NoStep" M)/\(a.1=b.1->16<a.2.length+b.2.length/\E "NoRoom" M))
noncomputable def a1B(C:Addr):Sp3X:=fun ts M Q E=>match ts with
 |[.adr a,.str k,.str nm,.adr p]=>∃g:List Pl,M p=some (.lst (g.map kpT))/\a7j Q E M k g
 |_=>False
noncomputable abbrev a7U(CD f P w K mg base n):=DfXA P w K mg base n f ["self","kind","name","given"] (a1B CD)
theorem a6B{f fd}(F:Fun K "done" "Desk.done" a1U f fd)(hb:a1l K fd ["self","kind","name","given"] [])(Z:Zs K mg){CD f_0 f_1 f_2 f_3 f_4:Addr}(DK:DeskN K mg CD f_0 f_1 f_2 f_3 f_4)(D_33:b3x P w K mg base n)(D_26:a6S P w K mg base n):a7U CD f P w K mg base (n+1):=by
 obtain⟨tk_MAKING,c_MAKING⟩:=Z.c_MAKING;refine F.dfnXA hb a6n (by unfold a1B;walk_at "lnx") ⟨_,fun cdv A outer s H E E3 hr acc accN=>(a0w (HS.x (HS.n (s_if (a0N (a1D hr.units) (hv 1) a0c (a0z _)) (a0j (b0d (b6L (a7O DK.c DK.n_kept (hv 0)) (hv 2))) (a0h (a0x a0c))) a0M))) (a0w (a8X (HT.x (HT.n (a0N b3q (hv 1) (b1a c_MAKING) rfl))) (a0w (b5F hr.units (a2Q acc rfl D_33 hr (a0a (hv 1) (a0a (hv 3) a0e))) (a7O DK.c DK.n_kept (hv 0)) (hv 2)) (a1a (HS.x (HS.n (a0x a0c))))) a1r) (a1a (a8j (a2Q acc rfl D_26 hr (a0a (hv 1) (a0a (hv 3) a0e))))))),fun ts M Q E h=>?_⟩;unfold a1B at h;split at h
 ·rename_i a k nm p;obtain⟨g,hp,h⟩:=h
  have kd:k≠"drop":=by
   rcases h with ⟨a,rfl,_⟩|⟨a,b,rfl,_⟩|⟨a,b,rfl,_⟩<;>decide +kernel
  refine a0m fun K1 hK1=>?_;walk_at "rd";refine a1d (fun c=>absurd c kd) fun c1=>?_;rw[hK1];clear hK1;walk_at "rd";have e5:[T.str (b8b "turned"),T.str (b8b "mirrored"),T.str (b8b "flipped"),T.str (b8b "shorter"),T.str (b8b "behind")]=MKs.map .str:=rfl;rw[e5,b0U];refine⟨rfl,by unfold MKs;rfl,?_⟩;rcases h with ⟨x,rfl,rfl,ok,h⟩|⟨x,y,rfl,rfl,ok1,ok2,hne,h⟩|⟨x,y,rfl,rfl,ok1,ok2,h1,h2⟩
  ·rw[decide_eq_false (by decide +kernel),if_neg b8v];exact .inl ⟨x,rfl,hp,ok,a0l h⟩
  ·rw[decide_eq_false (by decide +kernel),if_neg b8v];exact .inr ⟨x,y,rfl,hp,ok1,ok2,hne,M,Sub.refl,h⟩
  ·rw[decide_eq_true (by decide +kernel),if_pos rfl];exact⟨x,y,rfl,hp,ok1,ok2,fun z=>⟨M,Sub.refl,h1 z⟩,fun z=>⟨(h2 z).1,M,Sub.refl,(h2 z).2⟩⟩
 ·exact h.elim
noncomputable def gvL(D:Dk)(k:Str)(rest:LSS):List Pl:=(oldW k rest).map fun w=>(atD D w).getD (0,[])
noncomputable def endE(Q:VK3):Str->MH->Prop:=fun nm M'=>(nm="NoStep"/\Q (.str "unlike strands") M')\/(nm="NoRoom"/\Q (.str "too long") M')
inductive SayW (Q:VK3) (M:MH) (b:Addr) (D:Dk):Str->LSS->Prop
 |keep {rest:LSS}:KeepW Q M b D rest->SayW Q M b D "keep" rest
 |bad {k:Str} {rest:LSS}:k≠"keep"->(∀w∈rest,WoK w)->rest.length<=30->lnF k rest=false->Q (.str "bad line") M->SayW Q M b D k rest
 |gone {k nm:Str} {rest:LSS}:k≠"keep"->k≠"names"->(∀w∈nm::rest,WoK w)->(nm::rest).length<=30->lnF k (nm::rest)=true->(oldW k (nm::rest)).all (fun w=>(atD D w).isSome)=false->Q (.str "no such name") M->SayW Q M b D k (nm::rest)
 |done {k nm:Str} {rest:LSS}:k≠"keep"->k≠"names"->(∀w∈nm::rest,WoK w)->(nm::rest).length<=30->lnF k (nm::rest)=true->(oldW k (nm::rest)).all (fun w=>(atD D w).isSome)=true->a7j Q (endE Q) M k (gvL D k (nm::rest))->SayW Q M b D k (nm::rest)
noncomputable def a0U(C:Addr):Sp3:=fun ts M Q=>match ts with
 |[.adr a,.str line]=>∃(b:Addr) (D:Dk) (k:Str) (rest:LSS),M a=some (.ob C [("kept",.adr b)])/\M b=some (.dk (dkD D))/\D.length<=6/\line.length<=200/\b9k line (b8b " ")=k::rest/\SayW Q M b D k rest
 |_=>False
theorem KeepW.up{Q:VK3}{M M2 Mx:MH}{b:Addr}{D:Dk}{ws:LSS}(h:KeepW Q M b D ws)(hS:Sub M M2):KeepW (rt3 Mx Q) M2 b D ws:=by
 cases h with
 |none h=>exact .none (a0F h hS)
 |noName h1 h2 h3 h=>exact .noName h1 h2 h3 (a0F h hS)
 |bad h1 h2 h3 h4 h5 h=>exact .bad h1 h2 h3 h4 h5 (a0F h hS)
 |good h1 h2 h3 h=>exact .good h1 h2 h3 (a0F h hS.up)
theorem a7j.mono{Q Q2:VK3}{E E2:Str->MH->Prop}{M M2:MH}{k:Str}{g:List Pl}(h:a7j Q E M k g)(hq:∀t,Q t M->Q2 t M2)(h1:E "NoStep" M->E2 "NoStep" M2)(h2:E "NoRoom" M->E2 "NoRoom" M2):a7j Q2 E2 M2 k g:=by
 rcases h with ⟨a,e1,e2,ok,h⟩|⟨a,b,e1,e2,ok1,ok2,ne,h⟩|⟨a,b,e1,e2,ok1,ok2,h3,h4⟩
 ·exact .inl ⟨a,e1,e2,ok,hq _ h⟩
 ·exact .inr (.inl ⟨a,b,e1,e2,ok1,ok2,ne,h1 h⟩)
 ·exact .inr (.inr ⟨a,b,e1,e2,ok1,ok2,fun z=>h1 (h3 z),fun z=>⟨(h4 z).1,h2 (h4 z).2⟩⟩)
theorem b1l{Q:VK3}{M:MH}(h:endE Q "NoStep" M):Q (.str "unlike strands") M:=h.elim (·.2) fun z=>absurd z.1 (by decide +kernel)
theorem b1m{Q:VK3}{M:MH}(h:endE Q "NoRoom" M):Q (.str "too long") M:=h.elim (fun z=>absurd z.1 (by decide +kernel)) (·.2)
theorem a6w{f fd}(F:Fun K "say" "Desk.say" a1p f fd)(hb:a1l K fd ["self","line"] [])(Z:Zs K mg){CD f_0 f_1 f_2 f_3 f_4:Addr}(DK:DeskN K mg CD f_0 f_1 f_2 f_3 f_4)(Dc:DfAC P w K mg base n f_2 ["self","words"] (a1g CD))(D_25:DfD "is_line" ["words"] a2B P w K mg base n)(D_14:DfXA P w K mg base n f_3 ["self","kind","name","given"] (a1B CD)):DfAC P w K mg base (n+1) f ["self","line"] (a0U CD):=by
 obtain⟨tk_MAKING,c_MAKING⟩:=Z.c_MAKING
 refine Fun.dfnAC F hb a2M (by unfold a0U;walk_at "ln") (fun hr=>a0p (HSX.c (HS.x (a0V (i:=2) (a4p (hv 1) (a0a a0c a0e)) a2M.nd)))
  (a0p (b0b (HTX.c (HT.x (a0N (a1D hr.units) (h_ix (hv 2) a0g) a0c (a0z _)))) (a2j (b3k (a1x DK.c DK.m_keep Dc hr (hv 0) (a0a (a1j (hv 2) (a2d a0g) a2e) a0e)))) (HSsX.c a1r))
  (HSsX.c (HSs.x (a0j (s_if (a4P (a1I (a0s D_25 hr (a0a (hv 2) a0e)))) (a0h (a0x a0c)) a0M) (a0j (s_if (a0N (a1D hr.units) (h_ix (hv 2) a0g) a0c (a0z _)) (a0h (a0x (b7O (a3I a0c (a0a (a1k (a5Z rfl) Z.b_sorted PyProof.Rows.boot_sorted (a0a (a7O DK.c DK.n_kept (hv 0)) a0e)) a0e)) (b4P a0c)))) a0M) (a0j (a0V (i:=3) (b7Q (a0N b3q (h_ix (hv 2) a0g) (b1a c_MAKING) rfl) (a1j (hv 2) (a2d a0g) a2e) (a1j (hv 2) (a2d a0g) a2e)) a2M.nd) (a0j (s_if (a4P (a1I (a1k (a3f rfl) Z.b_all c0e (a0a (a3y rfl (a4O (hv 3)) (bkS (a0b a1p) ["self","line","words","old"] ["name","self"] [none,some 0]) (a2b (i:=0)) (by walk_at "g") (fun _ _ _ _ _=>a3u) (fun _ _ _ _ _=>(b6O (b4x hr.units) (hv 0) (a7O DK.c DK.n_kept (hv 1)) rfl))) a0e)))) (a0h (a0x a0c)) a0M) (a0h (b5D (n1:="NoStep") (n2:="NoRoom") rfl rfl rfl rfl (fun pn xe Ha E3 acc=>(a1a (a8j (b4Q acc rfl DK.c DK.m_done D_14 hr (hv 0) (a0a (h_ix (hv 2) a0g) (a0a (h_ix (hv 2) a0g) (a0a (a3y rfl (a4O (hv 3)) (bkS (a0b a1p) ["self","line","words","old"] ["name","self"] [none,some 0]) (a2b (i:=0)) (by walk_at "g") (fun _ _ _ _ _=>a3u) (fun _ _ _ _ _=>(b7R hr.units (a7O DK.c DK.n_kept (hv 1)) (hv 0)))) a0e))))))) Z.x_two (fun _=>(a0h (a0x a0c))) (fun _=>(a0h (a0x a0c)))))))))))))  fun ts M Q h=>?_
 unfold a0U at h;split at h
 ·rename_i a line;obtain⟨b,D,k,rest,ha,hb',h5,hll,hsp,h⟩:=h;refine a0m fun K1 hK1=>?_;walk_at "rd";refine⟨by decide +kernel,b8G hll (by decide),a2s _ (by lia),fun r hr=>?_⟩;rw[hsp];have hS:=Sub.new hr (o:=MO.lst ((k::rest).map T.str));have a1:=hS _ _ ha;have b1:=hS _ _ hb';have r1:(updM M r (MO.lst ((k::rest).map T.str))) r=some (.lst ((k::rest).map T.str)):=a0d
  generalize updM M r (MO.lst ((k::rest).map T.str))=M1 at hS a1 b1 r1|-
  clear hr;rw[hK1];clear hK1;refine a0m fun K2 hK2=>?_;walk_at "rd";rw[r1];dsimp only;rw[b8o,a2h];dsimp only;refine a1d (fun c=>?_) fun c1=>?_
  ·rw[a1];refine⟨rfl,rfl,?_⟩;intro q hq
   have ec:cutT (T.str k::b8E T.str rest) (some 1) none=b8E T.str rest:=by
    rw[a1q _ _ (by decide)];rfl
   rw[ec];have hSq:=Sub.new hq (o:=MO.lst (b8E T.str rest));have a2:=hSq _ _ a1;have b2:=hSq _ _ b1;have q2:(updM M1 q (MO.lst (b8E T.str rest))) q=some (.lst (b8E T.str rest)):=a0d;have hS2:=hS.trans hSq
   generalize updM M1 q (MO.lst (b8E T.str rest))=M2 at hS2 a2 b2 q2|-
   have hk:KeepW Q M b D rest:=by
    cases h with
    |keep h=>exact h
    |bad z=>exact absurd c z
    |gone z=>exact absurd c z
    |done z=>exact absurd c z
   exact⟨b,D,rest,a2,b2,h5,q2,hk.up hS2⟩
  ·rw [hK2];clear hK2;refine a0m fun K3 hK3=>?_;walk_at "rd"
   have hw:(∀w∈rest,WoK w)/\rest.length<=30:=by
    cases h with
    |keep h=>exact absurd rfl c1
    |bad _ w1 w2=>exact⟨w1,w2⟩
    |gone _ _ w1 w2=>exact⟨w1,w2⟩
    |done _ _ w1 w2=>exact⟨w1,w2⟩
   refine⟨k,rest,r1,hw.1,hw.2,?_⟩;dsimp only
   have hc:(lnF k rest=false/\Q (.str "bad line") M)\/(lnF k rest=true/\k≠"names"/\∃nm rest',rest=nm::rest'/\(((oldW k rest).all (fun w=>(atD D w).isSome)=false/\Q (.str "no such name") M) \/
     ((oldW k rest).all (fun w=>(atD D w).isSome)=true/\a7j Q (endE Q) M k (gvL D k rest)))):=by
    cases h with
    |keep h=>exact absurd rfl c1
    |bad _ _ _ e h=>exact .inl ⟨e,h⟩
    |gone _ n _ _ e e2 h=>exact .inr ⟨e,n,_,_,rfl,.inl ⟨e2,h⟩⟩
    |done _ n _ _ e e2 h=>exact .inr ⟨e,n,_,_,rfl,.inr ⟨e2,h⟩⟩
   rcases hc with ⟨e,hq⟩|⟨e,c2,nm,rest',er,hc⟩
   ·rw[e,if_pos rfl];exact a0F hq hS
   rw[e,if_neg (by decide),hK3];clear hK3;refine a0m fun K4 hK4=>?_;walk_at "rd";rw[r1];dsimp only;rw[b8o,a2h];dsimp only;refine a1d (fun c=>absurd c c2) fun _=>?_;rw[hK4];clear hK4;refine a0m fun K5 hK5=>?_
   have key:∀q,M1 q=none->K5 [some (T.adr a),some (T.str line),some (T.adr r),some (T.adr q)] (updM M1 q (MO.lst ((oldW k rest).map T.str))):=fun q hq=>by
    have hlo:(oldW k rest).length<=30:=by
     unfold oldW;split
     ·rw[c0m];have:=hw.2;lia
     ·exact hw.2
    have hS2:=hS.newr hq (o:=MO.lst ((oldW k rest).map T.str));have hSq:=Sub.new hq (o:=MO.lst ((oldW k rest).map T.str));have a2:=hSq _ _ a1;have b2:=hSq _ _ b1;have r2:=hSq _ _ r1;have q2:(updM M1 q (MO.lst ((oldW k rest).map T.str))) q=some (.lst ((oldW k rest).map T.str)):=a0d
    generalize updM M1 q (MO.lst ((oldW k rest).map T.str))=M2 at hS2 a2 b2 r2 q2|-
    clear hSq hq;rw[hK5];clear hK5;refine a0m fun K6 hK6=>?_;walk_at "rd";rw[q2];refine⟨fun i ys M'=>ys=(((oldW k rest).take i).map fun w=>(atD D w).isSome).map T.bl/\M'=M2,⟨rfl,rfl⟩,?_,a1W (by rw[b8f];lia),?_,?_⟩
    ·rintro i ys M' ⟨_,rfl⟩;exact q2
    ·rintro i x ys M' hx ⟨rfl,rfl⟩;rw[b8x] at hx;obtain⟨w,hw,rfl⟩:=b8S.mp hx;rw[a2];refine⟨rfl,.adr b,rfl,?_⟩;dsimp only;rw[b2];refine⟨.inr w,rfl,?_,rfl⟩;rw[a5o,c1C,<- a0L (fun w=>(atD D w).isSome) hw,b9J];rfl
    ·rintro ys M' ⟨rfl,rfl⟩ p hp;rw[b8f,b9x,a2x];dsimp only;rw[c1j];have hS3:=hS2.newr hp (o:=MO.lst (((oldW k rest).map fun w=>(atD D w).isSome).map T.bl));have hSp:=Sub.new hp (o:=MO.lst (((oldW k rest).map fun w=>(atD D w).isSome).map T.bl));have a3:=hSp _ _ a2;have b3:=hSp _ _ b2;have r3:=hSp _ _ r2;have q3:=hSp _ _ q2
     generalize updM M' p (MO.lst (((oldW k rest).map fun w=>(atD D w).isSome).map T.bl))=M3 at hS3 a3 b3 r3 q3|-
     clear hSp hp;refine ite2 (fun c=>?_) (fun c=>?_)
     ·have c2:(oldW k rest).all (fun w=>(atD D w).isSome)=false:=c;rcases hc with ⟨_,h⟩|⟨e2,_⟩
      ·exact a0F h hS3
      ·rw[c2] at e2;cases e2
     ·have c':(oldW k rest).all (fun w=>(atD D w).isSome)=true:=Bool.not_eq_false _▸c
      have hd:a7j Q (endE Q) M k (gvL D k rest):=by
       rcases hc with ⟨e2,_⟩|⟨_,h⟩
       ·rw[c'] at e2;cases e2
       ·exact h
      rw[hK6];clear hK6;walk_at "rd";rw[a3];refine⟨rfl,rfl,?_⟩;rw[r3];dsimp only;rw[er,b8o,b8o,a2h,b3e];dsimp only;rw[q3];refine⟨fun i ys M'=>ys=(((oldW k rest).take i).map fun w=>(atD D w).getD (0,[])).map kpT/\M'=M3,⟨rfl,rfl⟩,?_,a1W (by rw[b8f];lia),?_,?_⟩
      ·rintro i ys M4 ⟨_,rfl⟩;exact q3
      ·rintro i x ys M4 hx ⟨rfl,rfl⟩;rw[b8x] at hx;obtain⟨w,hw,rfl⟩:=b8S.mp hx;rw[a3];refine⟨rfl,.adr b,rfl,?_⟩;dsimp only;rw[b3];obtain⟨z,hz⟩:=c1A.mp (List.all_eq_true.mp c' w (b8Q hw));refine⟨.inr w,kpT z,rfl,by rw[a5o,hz];rfl,?_,rfl⟩;rw[<- a0L (fun w=>(atD D w).getD (0,[])) hw,b9J,hz];rfl
      ·rintro ys M4 ⟨rfl,rfl⟩ p hp;rw[b8f,b9x];unfold gvL at hd
       generalize ((oldW k rest).map fun w=>(atD D w).getD (0,[]))=g at hd|-
       have hS4:=hS3.newr hp (o:=MO.lst (g.map kpT));have p4:(updM M4 p (MO.lst (g.map kpT))) p=some (.lst (g.map kpT)):=a0d
       generalize updM M4 p (MO.lst (g.map kpT))=M5 at hS4 p4|-
       exact⟨g,p4,hd.mono (fun t h=>a0F h hS4) (fun h=>.inl ⟨rfl,a0F (b1l h) hS4⟩) (fun h=>.inr ⟨rfl,a0F (b1m h) hS4⟩)⟩
   clear hK5;walk_at "rd";rw[r1];dsimp only;rw[b8o,a2h];dsimp only;have e5:[T.str (b8b "turned"),T.str (b8b "mirrored"),T.str (b8b "flipped"),T.str (b8b "shorter"),T.str (b8b "behind")]=MKs.map .str:=rfl;rw[e5,b0U];refine⟨rfl,by unfold MKs;rfl,?_⟩;unfold oldW at key;by_cases c:k∈MKs
   ·rw[decide_eq_true c,if_pos rfl];rw[if_pos c] at key;intro q hq
    have ec:cutT (T.str k::rest.map T.str) (some 2) none=(rest.drop 1).map T.str:=by
     rw[a1q _ _ (by decide),List.map_drop];rfl
    rw[ec];exact key q hq
   ·rw[decide_eq_false c,if_neg b8v];rw[if_neg c] at key;intro q hq
    have ec:cutT (T.str k::rest.map T.str) (some 1) none=rest.map T.str:=by
     rw[a1q _ _ (by decide)];rfl
    rw[ec];exact key q hq
 ·exact h.elim
noncomputable def a1s:Sp3:=fun ts M Q=>match ts with
 |[.rd s,.int k]=>∃ns:LSI,s=ns.map .int/\0<=k/\∀c,Q (.int c) M
 |_=>False
noncomputable abbrev a2J:=DfD "_law_cell_at" ["script","k"] a1s
theorem a4c(Z:Zs K mg)(F:FD K mg "_law_cell_at" a1G ["script","k"]):a2J P w K mg base (n+1):=by
 refine F.dfn a3T (by unfold a1s;walk_at "ln") (fun hr=>(a0j (s_if (a0N b3p (hv 1) (a1k a1N Z.b_len PySem.boot_len (a0a (hv 0) a0e)) (a0z _)) (a0h (a0x (h_ix (hv 0) (hv 1)))) a0M) (a0h (a0x a0g)))) fun ts M Q h=>?_;unfold a1s at h;split at h
 ·rename_i s k;obtain⟨ns,rfl,h0,h⟩:=h;walk_at "rd";refine ite2 (fun c=>?_) (fun c=>a0l (h _));rw[b3d ns k h0 c];exact a0l (h _)
 ·exact h.elim
noncomputable def a1m:Sp3:=fun ts M Q=>match ts with
 |[.rd s,.int k]=>∃ns:LSI,s=ns.map .int/\0<=k/\∀p n f,M p=none->Q (.adr p) (updM M p (.lst [.int n,.bl f]))
 |_=>False
noncomputable abbrev a6Y:=DfD "_law_state" ["script","k"] a1m
theorem a5N(Z:Zs K mg)(D_1:a2J P w K mg base n)(F:FD K mg "_law_state" a2o ["script","k"]):a6Y P w K mg base (n+1):=by
 refine F.dfn a2T (by unfold a1m;walk_at "ln") (fun hr=>(a0j (a0V (i:=2) (a0s D_1 hr (a0a (hv 0) (a0a (hv 1) a0e))) a2T.nd) (a0j (s_if (a0N b6s (hv 2) (a0I b0v a0g a0g) (a0z _)) (a0h (a0x (a3q (a0a (a0I b0u (hv 2) (a0I b0v a0g a0g)) (a0a h_bl a0e))))) a0M) (a0h (a0x (a3q (a0a (a0I a3n (hv 2) a0g) (a0a h_bl a0e)))))))) fun ts M Q h=>?_;unfold a1m at h;split at h
 ·rename_i s k;obtain⟨ns,rfl,h0,h⟩:=h;walk_at "rd";refine⟨ns,rfl,h0,fun c=>?_⟩;walk_at "rd";refine⟨⟨by decide,by decide,by decide⟩,?_⟩;refine ite2 (fun _=>⟨⟨by decide,by decide,by decide⟩,by decide,fun p hp=>a0l (h _ _ _ hp)⟩) (fun _=>⟨by decide,by decide,fun p hp=>a0l (h _ _ _ hp)⟩)
 ·exact h.elim
theorem a8F{x y k:Int}(hk:0<k)(hk':k<=2^64):CMul (x%k) y:=by
 have h1:=c2l x (c2d hk);have h2:=c1q x hk;exact .inl ⟨by lia,by lia⟩
theorem b1C{x m:Int}(h0:0<m)(h1:m<2^100):b5f x m:=by
 refine⟨h0,?_⟩;have:m.natAbs.log2<100:=(c4a (by lia)).mpr (by lia);lia
noncomputable def a1f:Sp3:=fun ts M Q=>match ts with
 |[.adr p,.int m]=>∃s f,M p=some (.lst [.int s,.bl f])/\0<m/\m<2^100/\∀c s',0<=c->c<m->Q (.int c) (updM M p (.lst [.int s',.bl f]))
 |_=>False
noncomputable abbrev a3d:=DfD "_law_choice" ["state","many"] a1f
theorem a4L(Z:Zs K mg)(F:FD K mg "_law_choice" a1S ["state","many"]):a3d P w K mg base (n+1):=by
 refine F.dfn a1h (by unfold a1f;walk_at "ln") (fun hr=>(a0j (s_if (a1I (h_ix (hv 0) a0g)) (a0j (a0V (i:=2) (a0I a3n (h_ix (hv 0) a0g) (hv 1)) a1h.nd) (a0j (b5G (a0I b0x (h_ix (hv 0) a0g) (hv 1)) (b6Q (hv 0) a0g)) (a0h (a0x (hv 2))))) a0M) (a0j (b5G (a0I a3n (a0I a0C (a0I a4b (h_ix (hv 0) a0g) a0g) a0g) a0g) (b6Q (hv 0) a0g)) (a0j (a0V (i:=3) (a0I a3n (a0I a0C (a0I a0C (a0I a4b (h_ix (hv 0) a0g) (h_ix (hv 0) a0g)) (a0I a4b a0g (h_ix (hv 0) a0g))) a0g) a0g) a1h.nd) (a0j (a0V (i:=3) (a0I a3n (a0I a0C (a0I a4b (hv 3) (hv 3)) (a0I a4b a0g (hv 3))) a0g) a1h.nd) (a0h (a0x (a0I a3n (a0I b0x (hv 3) a0g) (hv 1))))))))) fun ts M Q h=>?_;unfold a1f at h;split at h
 ·rename_i p m;obtain⟨s,f,hM,h0,h1,h⟩:=h;refine a0m fun K1 hK1=>?_
  have hk:K1 [some (.adr p),some (.int m),none,none] M:=by
   rw[hK1];clear hK1;refine a0m fun K2 hK2=>?_;walk_at "rd";simp only[hM];walk_at "rd";refine⟨.inr ⟨by decide,by decide⟩,by decide,?_⟩;have hM2:updM M p (.lst [.int ((s*48271+29)%2147483647),.bl f]) p=some (.lst [.int ((s*48271+29)%2147483647),.bl f]):=a0d;have b0:CMul ((s*48271+29)%2147483647) ((s*48271+29)%2147483647):=a8F (by decide) (by decide)
   generalize (s*48271+29)%2147483647=s1 at hM2 b0|-
   rw[hK2];clear hK2;refine a0m fun K3 hK3=>?_;walk_at "rd";refine⟨b0,.inl ⟨by decide,by decide⟩,by decide,?_⟩;have b1:∀y,CMul ((s1*s1+39373*s1+7)%2147483629) y:=fun y=>a8F (by decide) (by decide)
   generalize (s1*s1+39373*s1+7)%2147483629=mx at b1|-
   rw[hK3];clear hK3;walk_at "rd";refine⟨b1 _,.inl ⟨by decide,by decide⟩,by decide,b1C (by decide) (by decide),h0,?_⟩;have hh:=h (((mx*mx+16807*mx)%2147483587) / 8%m) s1 (c2l _ (c2d h0)) (c1q _ h0);refine a0F hh ?_;exact Sub.refl
  walk_at "rd";simp only[hM];walk_at "rd";exact ite2 (fun c=>⟨h0,b1C h0 h1,a0l (h _ _ (c2l _ (c2d h0)) (c1q _ h0))⟩) (fun c=>hk)
 ·exact h.elim
noncomputable def ODD1:LSS:=[""," ","keep","keep a","keep a ","keep a 3","keep a 3:1","keep a 3: 3"]
noncomputable def ODD2:LSS:=["keep a  3: 1","Keep a 3: 1","keep A 3: 1","keep a1 3: 1","keep  3: 1"]
noncomputable def ODD3:LSS:=["keep abcdefghi 3: 1","names ","names a"," names","drop","drop a b","drop A"]
noncomputable def ODD4:LSS:=["show","show a b","show  a","same a","same a b a","turned a","turned a b c"]
noncomputable def ODD5:LSS:=["behind a b","behind a b a b","behind A a b","behind a b B","form","form a b"]
noncomputable def ODD6:LSS:=["order ","ordera","closed a ","closed abcdefghi","keep a 7:","keep a 0:"]
noncomputable def ODD7:LSS:=["keep a 3: 1 ","sum a","mirrored a1 a","flipped a a1","shorter a"]
noncomputable def ODD8:LSS:=["show none A","keepa 3: 1","keep a 2: 1 1 1 1 1 1 1 1 1 1 1 1 1 1 1 1 1"]
noncomputable def ODDS:LSS:=ODD1++ODD2++ODD3++ODD4++ODD5++ODD6++ODD7++ODD8
theorem a1V{M M1:MH}{b r p:Addr}{o o':MO}{st:List T}(hS:Sub M M1)(hp:M1 p=some (.lst st))(hb:M1 b=none)(hr:(updM M1 b o) r=none):Sub M (updM (updM M1 b o) r o')/\(updM (updM M1 b o) r o') p=some (.lst st)/\(updM (updM M1 b o) r o') r=some o' :=
 ⟨(hS.newr hb).newr hr,(Sub.new hr) _ _ ((Sub.new hb) _ _ hp),a0d⟩
noncomputable def a1P:Sp3:=fun ts M Q=>match ts with
 |[.adr p]=>∃s f,M p=some (.lst [.int s,.bl f])/\∀line s' f',line∈ODDS->Q (.str line) (updM M p (.lst [.int s',.bl f']))
 |_=>False
noncomputable abbrev a9z:=DfD "_law_odd" ["state"] a1P
theorem a7H(Z:Zs K mg)(D_5:a3d P w K mg base n)(F:FD K mg "_law_odd" a3m ["state"]):a9z P w K mg base (n+1):=by
 refine F.dfn a0E (by unfold a1P;walk_at "ln") (fun hr=>(a0j (a0V (i:=1) (by exact(a3q (a0a a0c (a0a a0c (a0a a0c (a0a a0c (a0a a0c (a0a a0c (a0a a0c (a0a a0c a0e)))))))))) a0E.nd) (a0j (a0V (i:=1) (by exact(a0I a0C (hv 1) (a3q (a0a a0c (a0a a0c (a0a a0c (a0a a0c (a0a a0c a0e)))))))) a0E.nd) (a0j (a0V (i:=1) (by exact(a0I a0C (hv 1) (a3q (a0a a0c (a0a a0c (a0a a0c (a0a a0c (a0a a0c (a0a a0c (a0a a0c a0e)))))))))) a0E.nd) (a0j (a0V (i:=1) (by exact(a0I a0C (hv 1) (a3q (a0a a0c (a0a a0c (a0a a0c (a0a a0c (a0a a0c (a0a a0c (a0a a0c a0e)))))))))) a0E.nd) (a0j (a0V (i:=1) (by exact(a0I a0C (hv 1) (a3q (a0a a0c (a0a a0c (a0a a0c (a0a a0c (a0a a0c (a0a a0c a0e))))))))) a0E.nd) (a0j (a0V (i:=1) (by exact(a0I a0C (hv 1) (a3q (a0a a0c (a0a a0c (a0a a0c (a0a a0c (a0a a0c (a0a a0c a0e))))))))) a0E.nd) (a0j (a0V (i:=1) (by exact(a0I a0C (hv 1) (a3q (a0a a0c (a0a a0c (a0a a0c (a0a a0c (a0a a0c a0e)))))))) a0E.nd) (a0j (a0V (i:=1) (a0I a0C (hv 1) (a3q (a0a a0c (a0a a0c (a0a (a0I a0C a0c (a0I a8p a0c a0g)) a0e))))) a0E.nd) (a0h (a0x (h_ix (hv 1) (a0s D_5 hr (a0a (hv 0) (a0a (a1k a1N Z.b_len PySem.boot_len (a0a (hv 1) a0e)) a0e))))))))))))))) fun ts M Q h=>?_;unfold a1P at h;split at h
 ·rename_i p;obtain⟨s,f,hp,h⟩:=h;refine a0m fun K1 hK1=>?_;walk_at "rd";refine⟨by decide,fun q1 hq=>?_⟩;have hS1:=Sub.new hq (o:=MO.lst (ODD1.map T.str));have e1:(updM M q1 (MO.lst (ODD1.map T.str))) q1=some (.lst (ODD1.map T.str)):=a0d;have p1:=hS1 _ _ hp;show K1 [some (T.adr p),some (T.adr q1)] (updM M q1 (MO.lst (ODD1.map T.str)))
  generalize updM M q1 (MO.lst (ODD1.map T.str))=M1 at hS1 e1 p1|-
  clear hq;rw[hK1];clear hK1;refine a0m fun K2 hK2=>?_;walk_at "rd";refine⟨by decide,fun b hb=>?_⟩;rw[(fun o=>Sub.new (o:=o) hb) _ _ _ e1];dsimp only;refine⟨by decide,fun q2 hq=>?_⟩;obtain⟨hS2,p2,e2⟩:=a1V (o:=MO.lst (ODD2.map T.str)) (o':=MO.lst ((ODD1++ODD2).map T.str)) hS1 p1 hb hq;show K2 [some (T.adr p),some (T.adr q2)] (updM (updM M1 b (MO.lst (ODD2.map T.str))) q2 (MO.lst ((ODD1++ODD2).map T.str)))
  generalize updM (updM M1 b (MO.lst (ODD2.map T.str))) q2 (MO.lst ((ODD1++ODD2).map T.str))=M2 at hS2 p2 e2|-
  clear hb hq hS1 p1 e1;rw[hK2];clear hK2;refine a0m fun K3 hK3=>?_;walk_at "rd";refine⟨by decide,fun b hb=>?_⟩;rw[(fun o=>Sub.new (o:=o) hb) _ _ _ e2];dsimp only;refine⟨by decide,fun q3 hq=>?_⟩;obtain⟨hS3,p3,e3⟩:=a1V (o:=MO.lst (ODD3.map T.str)) (o':=MO.lst ((ODD1++ODD2++ODD3).map T.str)) hS2 p2 hb hq;show K3 [some (T.adr p),some (T.adr q3)] (updM (updM M2 b (MO.lst (ODD3.map T.str))) q3 (MO.lst ((ODD1++ODD2++ODD3).map T.str)))
  generalize updM (updM M2 b (MO.lst (ODD3.map T.str))) q3 (MO.lst ((ODD1++ODD2++ODD3).map T.str))=M3 at hS3 p3 e3|-
  clear hb hq hS2 p2 e2;rw[hK3];clear hK3;refine a0m fun K4 hK4=>?_;walk_at "rd";refine⟨by decide,fun b hb=>?_⟩;rw[(fun o=>Sub.new (o:=o) hb) _ _ _ e3];dsimp only;refine⟨by decide,fun q4 hq=>?_⟩;obtain⟨hS4,p4,e4⟩:=a1V (o:=MO.lst (ODD4.map T.str)) (o':=MO.lst ((ODD1++ODD2++ODD3++ODD4).map T.str)) hS3 p3 hb hq;show K4 [some (T.adr p),some (T.adr q4)] (updM (updM M3 b (MO.lst (ODD4.map T.str))) q4 (MO.lst ((ODD1++ODD2++ODD3++ODD4).map T.str)))
  generalize updM (updM M3 b (MO.lst (ODD4.map T.str))) q4 (MO.lst ((ODD1++ODD2++ODD3++ODD4).map T.str))=M4 at hS4 p4 e4|-
  clear hb hq hS3 p3 e3;rw[hK4];clear hK4;refine a0m fun K5 hK5=>?_;walk_at "rd";refine⟨by decide,fun b hb=>?_⟩;rw[(fun o=>Sub.new (o:=o) hb) _ _ _ e4];dsimp only;refine⟨by decide,fun q5 hq=>?_⟩;obtain⟨hS5,p5,e5⟩:=a1V (o:=MO.lst (ODD5.map T.str)) (o':=MO.lst ((ODD1++ODD2++ODD3++ODD4++ODD5).map T.str)) hS4 p4 hb hq;show K5 [some (T.adr p),some (T.adr q5)] (updM (updM M4 b (MO.lst (ODD5.map T.str))) q5 (MO.lst ((ODD1++ODD2++ODD3++ODD4++ODD5).map T.str)))
  generalize updM (updM M4 b (MO.lst (ODD5.map T.str))) q5 (MO.lst ((ODD1++ODD2++ODD3++ODD4++ODD5).map T.str))=M5 at hS5 p5 e5|-
  clear hb hq hS4 p4 e4;rw[hK5];clear hK5;refine a0m fun K6 hK6=>?_;walk_at "rd";refine⟨by decide,fun b hb=>?_⟩;rw[(fun o=>Sub.new (o:=o) hb) _ _ _ e5];dsimp only;refine⟨by decide,fun q6 hq=>?_⟩;obtain⟨hS6,p6,e6⟩:=a1V (o:=MO.lst (ODD6.map T.str)) (o':=MO.lst ((ODD1++ODD2++ODD3++ODD4++ODD5++ODD6).map T.str)) hS5 p5 hb hq;show K6 [some (T.adr p),some (T.adr q6)] (updM (updM M5 b (MO.lst (ODD6.map T.str))) q6 (MO.lst ((ODD1++ODD2++ODD3++ODD4++ODD5++ODD6).map T.str)))
  generalize updM (updM M5 b (MO.lst (ODD6.map T.str))) q6 (MO.lst ((ODD1++ODD2++ODD3++ODD4++ODD5++ODD6).map T.str))=M6 at hS6 p6 e6|-
  clear hb hq hS5 p5 e5;rw[hK6];clear hK6;refine a0m fun K7 hK7=>?_;walk_at "rd";refine⟨by decide,fun b hb=>?_⟩;rw[(fun o=>Sub.new (o:=o) hb) _ _ _ e6];dsimp only;refine⟨by decide,fun q7 hq=>?_⟩;obtain⟨hS7,p7,e7⟩:=a1V (o:=MO.lst (ODD7.map T.str)) (o':=MO.lst ((ODD1++ODD2++ODD3++ODD4++ODD5++ODD6++ODD7).map T.str)) hS6 p6 hb hq;show K7 [some (T.adr p),some (T.adr q7)] (updM (updM M6 b (MO.lst (ODD7.map T.str))) q7 (MO.lst ((ODD1++ODD2++ODD3++ODD4++ODD5++ODD6++ODD7).map T.str)))
  generalize updM (updM M6 b (MO.lst (ODD7.map T.str))) q7 (MO.lst ((ODD1++ODD2++ODD3++ODD4++ODD5++ODD6++ODD7).map T.str))=M7 at hS7 p7 e7|-
  clear hb hq hS6 p6 e6;rw[hK7];clear hK7;refine a0m fun K8 hK8=>?_;walk_at "rd";have er:(b8b "keep a 2:"++repS (b8b " 1") (Int.toNat 17))="keep a 2: 1 1 1 1 1 1 1 1 1 1 1 1 1 1 1 1 1":=by decide +kernel
  rw[er];refine⟨by decide,by decide,by decide +kernel,by decide +kernel,by decide +kernel,by decide,fun b hb=>?_⟩;rw[(fun o=>Sub.new (o:=o) hb) _ _ _ e7];dsimp only;refine⟨by decide,fun q8 hq=>?_⟩;obtain⟨hS8,p8,e8⟩:=a1V (o:=MO.lst (ODD8.map T.str)) (o':=MO.lst ((ODD1++ODD2++ODD3++ODD4++ODD5++ODD6++ODD7++ODD8).map T.str)) hS7 p7 hb hq;show K8 [some (T.adr p),some (T.adr q8)] (updM (updM M7 b (MO.lst (ODD8.map T.str))) q8 (MO.lst ((ODD1++ODD2++ODD3++ODD4++ODD5++ODD6++ODD7++ODD8).map T.str)))
  generalize updM (updM M7 b (MO.lst (ODD8.map T.str))) q8 (MO.lst ((ODD1++ODD2++ODD3++ODD4++ODD5++ODD6++ODD7++ODD8).map T.str))=M8 at hS8 p8 e8|-
  clear hb hq hS7 p7 e7;rw[hK8];clear hK8;rw[show ODD1++ODD2++ODD3++ODD4++ODD5++ODD6++ODD7++ODD8=ODDS from rfl] at e8;walk_at "rd";rw[e8];dsimp only;refine⟨s,f,p8,by decide,by decide,fun c s' c0 c1=>?_⟩;dsimp only
  have n1:p≠q8:=fun z=>by
   rw[<- z,p8] at e8;have e9:=b8s e8;injection e9 with e9;have e9:=congrArg c0T e9;rw[b8f] at e9;exact absurd (show 2=ODDS.length from e9) (by decide)
  rw[a0t n1.symm,e8];dsimp only;rw[b8f] at c1;obtain⟨i,rfl⟩:=c1N c0;have hi:i<ODDS.length:=by lia
  have el:atI (ODDS.map T.str) (i:Int)=some (T.str ODDS[i]):=a4E (by rw[b8x,b8u hi];rfl);rw[el];exact a0F (h _ s' f (c3k hi)) hS8.up
 ·exact h.elim
noncomputable def refT(x:Str):Bool:=RtA.contains x||(x=="3: 1 "||(RtB.map (·.1)).contains x)
noncomputable def wokB(w:Str):Bool:=strIterType w=="str_ascii_iterator"&&decide (w.length<=40)
noncomputable def oddB(line:Str):Bool:=decide (line.length<=200)&&match b9k line (b8b " ") with
 |[]=>false
 | k :: rest=>decide (rest.length<=30)&&(if k="keep" then (match rest with
     |[]=>true
     |nm::r=>wokB nm&&(!isNm nm||(r.all (fun y=>decide (y.length<=8))&&refT (c3t (b8b " ") r)))) else rest.all wokB&&!lnF k rest)
theorem b4F:∀line∈ODDS,oddB line=true:=by decide +kernel
theorem a3M{w:Str}(h:wokB w=true):WoK w:=by
 unfold wokB at h;rw[b8m,beq_iff_eq,decide_eq_true_eq] at h;exact h
theorem b3W{x:Str}(h:refT x=true):RtX x:=by
 unfold refT at h;rw[b9j,b9j,beq_iff_eq,c2m,c2m] at h;rcases h with h|h|h
 ·exact .inl h
 ·exact .inr (.inl h)
 ·obtain⟨⟨a,n,ws⟩,hm,rfl⟩:=b9N.mp h;exact .inr (.inr ⟨n,ws,hm⟩)
theorem b4E{line:Str}{Q:VK3}{M:MH}{b:Addr}{D:Dk}(h:oddB line=true)(hq:Q (.str "bad line") M):line.length<=200/\∃k rest,b9k line (b8b " ")=k::rest/\SayW Q M b D k rest:=by
 unfold oddB at h;rw[b8m,decide_eq_true_eq] at h;refine⟨h.1,?_⟩;have h:=h.2;cases hs:b9k line (b8b " ") with
 |nil=>rw[hs] at h;cases h
 | cons k rest =>
   rw[hs] at h;dsimp only at h;rw[b8m,decide_eq_true_eq] at h;obtain⟨hl,h⟩:=h;refine⟨k,rest,rfl,?_⟩;by_cases c:k="keep"
   ·subst c;rw[if_pos rfl] at h;cases rest with
    |nil=>exact .keep (.none hq)
    | cons nm r =>
      dsimp only at h;rw[b8t] at hl;rw[b8m,b9j,b8m,b8Z,b9o] at h;obtain⟨h1,h2|⟨h2,h3⟩⟩:=h
      ·exact .keep (.noName (a3M h1) (by lia) h2 hq)
      ·cases hn:isNm nm with
       |false=>exact .keep (.noName (a3M h1) (by lia) hn hq)
       |true=>exact .keep (.bad (a3M h1) hn (fun y hy=>of_decide_eq_true (h2 y hy)) (by lia) (b3W h3) hq)
   ·rw[if_neg c,b8m,b9o,b8Z] at h;exact .bad c (fun w hw=>a3M (h.1 w hw)) hl h.2 hq
noncomputable def SayL(Q:VK3)(M:MH)(b:Addr)(D:Dk)(line:Str):Prop:=line.length<=200/\∃k rest,b9k line (b8b " ")=k::rest/\SayW Q M b D k rest
noncomputable def L3W:Pl:=(3,[1,-2,2])
noncomputable def LngP:Pl:=(3,[1,2,1,2,1,2,1,2,1,2,1,2,1,2,1,2])
noncomputable def WidP:Pl:=(4,[1,2,3])
noncomputable def NML:LSS:=["a","b","c"]
noncomputable def AD:Dk:=NML.map fun x=>(x,L3W)
noncomputable def DL(c:Nat):Dk:=putD (AD.take c) "long" LngP
noncomputable def DF(c:Nat):Dk:=putD (DL c) "wide" WidP
theorem b1J:PlOK L3W.1 L3W.2:=⟨by decide,by decide,by decide,by unfold a0R a3h;decide⟩
theorem a4F:PlOK LngP.1 LngP.2:=⟨by decide,by decide,by decide,by unfold a0R a3h;decide⟩
theorem a7Z:PlOK WidP.1 WidP.2:=⟨by decide,by decide,by decide,by unfold a0R a3h;decide⟩
theorem a2C{Q:VK3}{M:MH}{b:Addr}{D:Dk}{line nm:Str}{pl:Pl}(h:line.length<=200)(hs:b9k line (b8b " ")=b8b "keep"::nm::plW pl.1 pl.2)(h1:wokB nm=true)(h2:isNm nm=true)(ok:PlOK pl.1 pl.2)(hq:Q (.str "kept") (updM M b (.dk (dkD (putD D nm pl))))):SayL Q M b D line :=
 ⟨h,_,_,hs,.keep (.good (a3M h1) h2 ok hq)⟩
theorem b6t{i:Nat}{nm:Str}{Q:VK3}{M:MH}{b:Addr}(h:NML[i]?=some nm)(hq:Q (.str "kept") (updM M b (.dk (dkD (AD.take (i+1)))))):SayL Q M b (AD.take i) ((b8b "keep "++nm)++b8b " 3: 1 -2 2"):=by
 have hi:i=0\/i=1\/i=2:=by
  have:=(b8C.mp h).1;have e:NML.length=3:=rfl;lia
 rcases hi with rfl|rfl|rfl
 ·obtain rfl:=b8s (show some (b8b "a")=some nm from h);exact a2C (nm:="a") (pl:=L3W) (by decide +kernel) (by decide +kernel) (by decide +kernel) (by decide +kernel) b1J ((show putD (AD.take 0) "a" L3W=AD.take 1 by decide +kernel)▸hq)
 ·obtain rfl:=b8s (show some (b8b "b")=some nm from h);exact a2C (nm:="b") (pl:=L3W) (by decide +kernel) (by decide +kernel) (by decide +kernel) (by decide +kernel) b1J ((show putD (AD.take 1) "b" L3W=AD.take 2 by decide +kernel)▸hq)
 ·obtain rfl:=b8s (show some (b8b "c")=some nm from h);exact a2C (nm:="c") (pl:=L3W) (by decide +kernel) (by decide +kernel) (by decide +kernel) (by decide +kernel) b1J ((show putD (AD.take 2) "c" L3W=AD.take 3 by decide +kernel)▸hq)
theorem b6u:∀nm∈NML,(b8b "keep ").length+nm.length<=sizeLine/\(b8b "keep "++nm).length+(b8b " 3: 1 -2 2").length<=sizeLine:=by decide +kernel
theorem b7F{c i:Nat}{x:T}(h:((NML.map T.str).take c)[i]?=some x):∃nm,x=.str nm/\NML[i]?=some nm:=by
 rw[List.getElem?_take] at h;split at h
 ·rw[b8x] at h;obtain⟨nm,h1,rfl⟩:=b8S.mp h;exact⟨nm,rfl,h1⟩
 ·cases h
noncomputable def b4S(D:Dk)(line:Str):Bool:=decide (line.length<=200)&&match b9k line (b8b " ") with
 |k::nm::rest=>!decide (k="keep")&&!decide (k="names")&&(nm::rest).all wokB&&decide ((nm::rest).length<=30)&&lnF k (nm::rest)&&!(oldW k (nm::rest)).all (fun w=>(atD D w).isSome)
 |_=>false
noncomputable def GO1:LSS:=["show nobody","drop nobody","same nobody wide","same wide nobody","turned new nobody","order nobody"]
noncomputable def GO2:LSS:=["behind new wide nobody","behind new nobody long","form nobody","closed nobody"]
noncomputable def GO3:LSS:=["shorter a nobody"]
noncomputable def GONE:LSS:=GO1++GO2++GO3
theorem b2P:∀c<4,∀line∈GONE,b4S (DF c) line=true:=by decide +kernel
theorem b2O{line:Str}{Q:VK3}{M:MH}{b:Addr}{D:Dk}(h:b4S D line=true)(hq:Q (.str "no such name") M):SayL Q M b D line:=by
 unfold b4S at h;rw[b8m,decide_eq_true_eq] at h;refine⟨h.1,?_⟩;have h:=h.2;split at h
 ·rename_i k nm rest hs;simp only[b8m,b8Z,decide_eq_false_iff_not,decide_eq_true_eq,b9o] at h;obtain⟨⟨⟨⟨⟨h1,h2⟩,h3⟩,h4⟩,h5⟩,h6⟩:=h;exact⟨k,nm::rest,hs,.gone h1 h2 (fun w hw=>a3M (h3 w hw)) h4 h5 h6 hq⟩
 ·cases h
noncomputable def a9y(D:Dk)(line k:Str)(g:List Pl):Bool:=decide (line.length<=200)&&match b9k line (b8b " ") with
 |k'::nm::rest=>decide (k'=k)&&!decide (k="keep")&&!decide (k="names")&&(nm::rest).all wokB&&decide ((nm::rest).length<=30)&&lnF k (nm::rest)&&(oldW k (nm::rest)).all (fun w=>(atD D w).isSome)&&decide (gvL D k (nm::rest)=g)
 |_=>false
theorem a3K{line k:Str}{g:List Pl}{Q:VK3}{M:MH}{b:Addr}{D:Dk}(h:a9y D line k g=true)(hq:a7j Q (endE Q) M k g):SayL Q M b D line:=by
 unfold a9y at h;rw[b8m,decide_eq_true_eq] at h;refine⟨h.1,?_⟩;have h:=h.2;split at h
 ·rename_i k' nm rest hs;simp only[b8m,b8Z,decide_eq_false_iff_not,decide_eq_true_eq] at h;obtain⟨⟨⟨⟨⟨⟨⟨rfl,h1⟩,h2⟩,h3⟩,h4⟩,h5⟩,h6⟩,h7⟩:=h;rw[b9o] at h3;exact⟨_,nm::rest,hs,.done h1 h2 (fun w hw=>a3M (h3 w hw)) h4 h5 h6 (h7▸hq)⟩
 ·cases h
theorem b1q:∀c<4,a9y (DF c) "same long wide" "same" [LngP,WidP]=true:=by decide +kernel
theorem b4Y:∀c<4,a9y (DF c) "behind wide wide long" "behind" [WidP,LngP]=true:=by decide +kernel
theorem b4Z:∀c<4,a9y (DF c) "behind long long long" "behind" [LngP,LngP]=true:=by decide +kernel
theorem b1p:∀c<4,a9y (putD (DF c) "long" (3,[1])) "show long" "show" [(3,[1])]=true:=by decide +kernel
theorem a2y:∀c<4,(DF c).length<=6/\(putD (DF c) "long" (3,[1])).length<=6/\((DF c).map c0G).Nodup/\(DL c).length<=6/\(AD.take c).length<=6:=by decide +kernel
structure LwS(M:MH)(C x1 b1:Addr)(D:Dk)(Mx:MH):Prop where
 o1:Mx x1=some (.ob C [("kept",.adr b1)])
 d1:Mx b1=some (.dk (dkD D))
 sub:Sub M Mx
theorem LwS.newr{M:MH}{C x1 b1 r:Addr}{D:Dk}{Mx:MH}{o:MO}(h:LwS M C x1 b1 D Mx)(hr:Mx r=none):LwS M C x1 b1 D (updM Mx r o) :=
 ⟨Sub.new hr _ _ h.o1,Sub.new hr _ _ h.d1,h.sub.newr hr⟩
theorem LwS.b{M:MH}{C x1 b1:Addr}{D E:Dk}{Mx:MH}(h:LwS M C x1 b1 D Mx)(n:b1≠x1)(f:M b1=none):LwS M C x1 b1 E (updM Mx b1 (.dk (dkD E))) :=
 ⟨by rw[a0t n.symm];exact h.o1,a0d,h.sub.updF f⟩
theorem LwS.go{M:MH}{C x1 b1:Addr}{D:Dk}{Mx:MH}{line:Str}{Q:VK3}(h:LwS M C x1 b1 D Mx)(h5:D.length<=6)(hs:SayL Q Mx b1 D line):a0U C [.adr x1,.str line] Mx Q:=by
 obtain⟨hl,k,rest,e,hw⟩:=hs;exact⟨b1,D,k,rest,h.o1,h.d1,h5,hl,e,hw⟩
theorem LwS.pl{M:MH}{C x1 b1 kd:Addr}{D:Dk}{Mx:MH}{Q:VK3}(h:LwS M C x1 b1 D Mx)(hk:Mx kd=some (.dk (dkD D)))(hq:∀t M1,LwS M C x1 b1 D M1->M1 kd=some (.dk (dkD D))->M1 t=some (.dk (dkD D))->(∀a o,Mx a=some o->M1 a=some o)->Q (.adr t) M1):a0O C [.adr x1] Mx Q :=
 ⟨b1,dkD D,h.o1,h.d1,fun r hr=>hq r _ (h.newr hr) (Sub.new hr _ _ hk) a0d (Sub.new hr)⟩
theorem b1s{D:Dk}(h:(D.map c0G).Nodup):((dkD D).map c0G).Nodup:=by
 rw[b2Y];exact List.pairwise_map.mpr (h.imp fun h z=>h (c2v z))
theorem a7R(D:Dk):∀kv∈dkD D,a0i kv.2=true/\depT kv.2<=30:=fun kv hkv=>by
 obtain⟨x,_,rfl⟩:=b9N.mp hkv;show a0i (kpT x.2)=true/\depT (kpT x.2)<=30;unfold kpT;constructor
 ·rw[a3Z,a2P,a2P,a4Y,a2r,a3Z,a3Y];rfl
 ·rw[a5U,a3s,a3s,a6R,a5V,a5U,a5g];decide
noncomputable def a2z:Sp3:=fun ts M Q=>match ts with
 |[.rd s]=>∃ns:LSI,s=ns.map .int/\ns.length<=63/\Q (.bl true) M
 |_=>False
theorem a6F(ns:LSI)(M:MH)(Q:VK3)(hl:ns.length<=63)(h:Q (.bl true) M):a2z [.rd (ns.map .int)] M Q:=⟨ns,rfl,hl,h⟩
theorem b4z{f fd}(F:Fun K "law" "law" a8W f fd)(Z:Zs K mg){CD f_0 f_1 f_2 f_3 f_4:Addr}(DK:DeskN K mg CD f_0 f_1 f_2 f_3 f_4){n0:Nat}(h0:n0+1<=n)(D_8:DfD "_law_state" ["script","k"] a1m P w K mg base n)(D_0:DfA P w K mg base n0 f_0 ["self"] (a0S CD))(D_5:DfD "_law_choice" ["state","many"] a1f P w K mg base n)(Dc:DfAC P w K mg base n f_4 ["self","line"] (a0U CD))(D_4:DfA P w K mg base n f_1 ["self"] (a0O CD))(D_19:DfD "_law_odd" ["state"] a1P P w K mg base n):FnOkC P w K mg base CX0 (n+1) f fd ["script"] (dSp K a2z):=by
 refine Fun.fnkC F a2S (by unfold a2z;walk_at "ln") (fun hr=>(a0p (HSX.c (HS.x (a0V (i:=1) (a0s D_8 hr (a0a (hv 0) (a0a a0g a0e))) a2S.nd)))
  (a0p (HSX.c (HS.x (a0V (i:=2) (b6M DK.mk_ D_0 (hr.mono h0) DK.mg) a2S.nd)))
  (a0p (b0c (fun _ _ z=>z) rfl (a4O (a1j (a3q (a0a a0c (a0a a0c (a0a a0c a0e)))) a2e (a2d (a0s D_5 hr (a0a (hv 1) (a0a a0g a0e)))))) (b1d (i:=3) a2S.nd) (a2j (a7w (a1x DK.c DK.m_say Dc hr (hv 2) (a0a (a0I a0C (a0I a0C a0c (hv 3)) a0c) a0e)))))
  (a0p (a7w (a1x DK.c DK.m_say Dc hr (hv 2) (a0a (a0I a0C a0c (a0I a8p a0c a0g)) a0e)))
  (a0p (a7w (a1x DK.c DK.m_say Dc hr (hv 2) (a0a a0c a0e)))
  (a0p (HSX.c (HS.x (a0V (i:=4) (a5Q DK.c DK.m_plaits D_4 hr (hv 2)) a2S.nd)))
  (a0p (b0c (fun _ _ z=>z) rfl (b2J Z.b_range (a0a a0g a0e)) (b1d (i:=5) a2S.nd) (a2j (b0b (b0Z (a4o (a4a hr.units) (a1x DK.c DK.m_say Dc hr (hv 2) (a0a (a0s D_19 hr (a0a (a0s D_8 hr (a0a (hv 0) (a0a (a0I a0C a0g (hv 5)) a0e))) a0e)) a0e)) a0c (a0z _)) (a0N (a7C hr.units) (a5Q DK.c DK.m_plaits D_4 hr (hv 2)) (hv 4) (a0z _))) (HSsX.c (HSs.x (a0h (a0x h_bl)))) (HSsX.c a1r))))
  (a0p (HSX.c (HS.x (a0V (i:=6) (by exact(a3q (a0a a0c (a0a a0c (a0a a0c (a0a a0c (a0a a0c (a0a a0c a0e)))))))) a2S.nd)))
  (a0p (HSX.c (HS.x (a0V (i:=6) (a0I a0C (hv 6) (a3q (a0a a0c (a0a a0c (a0a a0c (a0a a0c a0e)))))) a2S.nd)))
  (a0p (HSX.c (HS.x (b0d (a9u (hv 6) (a0a a0c a0e)))))
  (a0p (b0c (fun _ _ z=>z) rfl (a4O (hv 6)) (b1d (i:=7) a2S.nd) (a2j (b0b (b0Z (a4o (a4a hr.units) (a1x DK.c DK.m_say Dc hr (hv 2) (a0a (hv 7) a0e)) a0c (a0z _)) (a0N (a7C hr.units) (a5Q DK.c DK.m_plaits D_4 hr (hv 2)) (hv 4) (a0z _))) (HSsX.c (HSs.x (a0h (a0x h_bl)))) (HSsX.c a1r))))
  (a0p (b0b (b4O (a4o (a4a hr.units) (a1x DK.c DK.m_say Dc hr (hv 2) (a0a a0c a0e)) a0c (a0z _)) (a4o (a4a hr.units) (a1x DK.c DK.m_say Dc hr (hv 2) (a0a a0c a0e)) a0c (a0z _))) (HSsX.c (HSs.x (a0h (a0x h_bl)))) (HSsX.c a1r))
  (a0p (b0b (b0Z (a4o (a4a hr.units) (a1x DK.c DK.m_say Dc hr (hv 2) (a0a a0c a0e)) a0c (a0z _)) (a0N (a7C hr.units) (a5Q DK.c DK.m_plaits D_4 hr (hv 2)) (hv 4) (a0z _))) (HSsX.c (HSs.x (a0h (a0x h_bl)))) (HSsX.c a1r))
  (a2j (b3k (b4R (b3t (a1D hr.units) (a1x DK.c DK.m_say Dc hr (hv 2) (a0a a0c a0e)) a0c (a0z _)) (b3t (a1D hr.units) (a1x DK.c DK.m_say Dc hr (hv 2) (a0a a0c a0e)) a0c (a0z _))))))))))))))))))) fun ts M Q h=>?_
 unfold a2z at h;split at h
 ·rename_i s;obtain⟨ns,rfl,hns,h⟩:=h;refine a0m fun K1 hK1=>?_;walk_at "rd";have ne:∀{Mx:MH} {r a:Addr} {o:MO},Mx r=none->Mx a=some o->a≠r:=fun h1 h2 z=>by rw[z,h1] at h2;cases h2
  refine⟨ns,rfl,by decide,fun p s0 f0 hp=>?_⟩;have hS:=Sub.new hp (o:=MO.lst [.int s0,.bl f0]);have pp:(updM M p (.lst [.int s0,.bl f0])) p=some (.lst [.int s0,.bl f0]):=a0d
  generalize updM M p (.lst [.int s0,.bl f0])=A0 at hS pp|-
  rw[hK1];clear hK1;refine a0m fun K2 hK2=>?_;walk_at "rd";intro x1 hx1;refine⟨a0d,fun b1 hb1=>?_⟩;have hx1M:=none_of hS hx1;have hS1:=hS.newr hx1 (o:=MO.ob CD []);have hb1M:=none_of hS1 hb1;have px:=ne hx1 pp;have pb:=ne hb1 (Sub.new hx1 _ _ pp);have xb:=ne hb1 a0d;have hS2:=(hS1.newr hb1 (o:=MO.dk [])).updF hx1M (o:=MO.ob CD [("kept",.adr b1)]);have pp2:(updM (updM (updM A0 x1 (MO.ob CD [])) b1 (MO.dk [])) x1 (MO.ob CD [("kept",.adr b1)])) p=some (.lst [.int s0,.bl f0]):=by rw[a0t px,a0t pb,a0t px];exact pp
  have o1:(updM (updM (updM A0 x1 (MO.ob CD [])) b1 (MO.dk [])) x1 (MO.ob CD [("kept",.adr b1)])) x1=some (.ob CD [("kept",.adr b1)]):=a0d;have d1:(updM (updM (updM A0 x1 (MO.ob CD [])) b1 (MO.dk [])) x1 (MO.ob CD [("kept",.adr b1)])) b1=some (.dk (dkD [])):=by rw[a0t xb.symm,a0d];rfl
  generalize updM (updM (updM A0 x1 (MO.ob CD [])) b1 (MO.dk [])) x1 (MO.ob CD [("kept",.adr b1)])=A1 at hS2 pp2 o1 d1|-
  clear hb1 hS1 hx1 hS pp px;refine⟨rfl,?_⟩;rw[hK2];clear hK2;refine a0m fun K3 hK3=>?_;refine a7Q fun B hB=>?_;unfold a8M;walk_at "rd";have hs0:LwS M CD x1 b1 [] A1:=⟨o1,d1,hS2⟩;clear o1 d1 hS2;refine⟨by decide,fun q1 hq1=>?_⟩;have hs1:=hs0.newr hq1 (o:=MO.lst (NML.map T.str));have p1:=Sub.new hq1 (o:=MO.lst (NML.map T.str)) _ _ pp2;have e1:(updM A1 q1 (MO.lst (NML.map T.str))) q1=some (.lst (NML.map T.str)):=a0d;have hqp:=ne hq1 pp2;have hqx:=ne hq1 hs0.o1;have hqb:=ne hq1 hs0.d1;rw[show [T.str (b8b "a"),T.str (b8b "b"),T.str (b8b "c")]=NML.map T.str from rfl]
  generalize updM A1 q1 (MO.lst (NML.map T.str))=A2 at hs1 p1 e1|-
  have pM:M p=none:=hp;refine⟨s0,f0,p1,by decide,by decide,fun ci s1 c0 c4=>?_⟩;dsimp only;obtain⟨c,rfl⟩:=c1N c0;have hc:c<4:=by lia
  have px1:x1≠p:=fun z=>by rw[<- z,hs1.o1] at p1;cases p1
  have pb1:b1≠p:=fun z=>by rw[<- z,hs1.d1] at p1;cases p1
  have hs2:LwS M CD x1 b1 [] (updM A2 p (.lst [.int s1,.bl f0])):=⟨by rw[a0t px1];exact hs1.o1,by rw[a0t pb1];exact hs1.d1,hs1.sub.updF pM⟩;have e2:(updM A2 p (.lst [.int s1,.bl f0])) q1=some (.lst (NML.map T.str)):=by rw[a0t hqp.symm];exact e1
  generalize updM A2 p (.lst [.int s1,.bl f0])=A3 at hs2 e2|-
  clear hs0 hs1 p1 e1 px1 pb1 hqp hqx hqb pp2 hq1;rw[e2];dsimp only;intro r hr;rw[b2Z _ _ c0,show((c:Int)).toNat=c from rfl];have hs3:=hs2.newr hr (o:=MO.lst ((NML.map T.str).take c));have r3:(updM A3 r (MO.lst ((NML.map T.str).take c))) r=some (.lst ((NML.map T.str).take c)):=a0d
  generalize updM A3 r (MO.lst ((NML.map T.str).take c))=A4 at hs3 r3|-
  refine⟨fun i ρ M'=>∃x3,ρ=[some (T.rd (b8E T.int ns)),some (T.adr p),some (T.adr x1),x3,none,none,none,none]/\LwS M CD x1 b1 (AD.take i) M'/\M' r=some (.lst ((NML.map T.str).take c)),⟨none,rfl,hs3,r3⟩,fun _ _ _ ⟨_,_,_,h⟩=>h,?_,?_⟩
  ·rintro i x ρ Mx hx ⟨x3,rfl,hs,hr⟩;obtain⟨nm,rfl,hnm⟩:=b7F hx;rw[hB];clear hB;unfold a8e;walk_at "rd";rw[hs.o1];obtain⟨l1,l2⟩:=b6u nm (b8Q hnm);have rb:r≠b1:=fun z=>by rw[z,hs.d1] at hr;cases hr
   exact⟨rfl,rfl,l1,l2,hs.go (by rw[c0l];have:AD.length=3:=rfl;lia) (b6t hnm ⟨⟨_,rfl⟩,_,rfl,hs.b xb.symm hb1M,by rw[a0t rb];exact hr⟩)⟩
  ·rintro ρ Mx ⟨x3,rfl,hs,_⟩;have el:((NML.map T.str).take c).length=c:=by rw[c0l];have:(NML.map T.str).length=3:=rfl;lia
   rw[el] at hs;clear hr hs2 hs3 e2 r3 hB;have xn:=xb.symm;rw[hK3];clear hK3;refine a0m fun K4 hK4=>?_;unfold a8e;walk_at "rd";rw[hs.o1];have er:(b8b "keep long 3:"++repS (b8b " 1 2") (Int.toNat 8))="keep long 3: 1 2 1 2 1 2 1 2 1 2 1 2 1 2 1 2":=by decide +kernel
   rw[er];have DFl:=a2y c hc;refine⟨rfl,rfl,by decide,by decide,by decide +kernel,by decide +kernel,by decide +kernel,hs.go DFl.2.2.2.2 (a2C (nm:="long") (pl:=LngP) (by decide +kernel) (by decide +kernel) (by decide +kernel) (by decide +kernel) a4F ⟨⟨_,rfl⟩,?_⟩)⟩;have hs:=hs.b xn hb1M (E:=DL c);have:putD (AD.take c) "long" LngP=DL c:=rfl;rw[this];clear this
   generalize updM Mx b1 (.dk (dkD (DL c)))=M5 at hs|-
   rw[hK4];clear hK4;refine a0m fun K5 hK5=>?_;unfold a8e;walk_at "rd";rw[hs.o1];refine⟨rfl,rfl,hs.go DFl.2.2.2.1 (a2C (nm:="wide") (pl:=WidP) (by decide +kernel) (by decide +kernel) (by decide +kernel) (by decide +kernel) a7Z ⟨⟨_,rfl⟩,?_⟩)⟩;have hs:=hs.b xn hb1M (E:=DF c);have:putD (DL c) "wide" WidP=DF c:=rfl;rw[this];clear this
   generalize updM M5 b1 (.dk (dkD (DF c)))=M6 at hs|-
   rw[hK5];clear hK5;refine a0m fun K6 hK6=>?_;walk_at "rd";rw[hs.o1];refine⟨rfl,rfl,b1,dkD (DF c),hs.o1,hs.d1,fun kd hkd=>?_⟩;have hs:=hs.newr hkd (o:=MO.dk (dkD (DF c)));have k7:(updM M6 kd (MO.dk (dkD (DF c)))) kd=some (.dk (dkD (DF c))):=a0d
   generalize updM M6 kd (MO.dk (dkD (DF c)))=M7 at hs k7|-
   clear hkd;rw[hK6];clear hK6;refine a0m fun K7 hK7=>?_;refine a7Q fun B2 hB2=>?_;unfold a8M;walk_at "rd";refine⟨by decide,by decide,fun i ρ M'=>∃x5,ρ=[some (T.rd (b8E T.int ns)),some (T.adr p),some (T.adr x1),x3,some (T.adr kd),x5,none,none]/\LwS M CD x1 b1 (DF c) M'/\M' kd=some (.dk (dkD (DF c))),⟨none,rfl,hs,k7⟩,fun _ _ _ _=>trivial,?_,?_⟩
   ·rintro i x ρ Mx hx ⟨x5,rfl,hs,hk⟩;obtain⟨hi,rfl⟩:=a8Y hx;rw[hB2];clear hB2;walk_at "rd";rw[hs.o1];refine⟨rfl,rfl,ns,rfl,by lia,fun u n f hu=>?_⟩;refine⟨n,f,a0d,fun line s' f' hl=>?_⟩;rw[a6e];have hs:=hs.newr hu (o:=MO.lst [.int s',.bl f']);have hk:=Sub.new hu (o:=MO.lst [.int s',.bl f']) _ _ hk
    generalize updM Mx u (.lst [.int s',.bl f'])=My at hs hk|-
    clear hu;refine hs.go (by exact(a2y c hc).1) (b4E (b4F line hl) ?_);refine⟨a0u _,a0u _,a1E _,?_⟩;rw[a1X,decide_eq_true rfl,if_neg (by decide),hs.o1];refine⟨rfl,rfl,hs.pl hk fun t M1 hs hk ht _=>⟨dkD (DF c),ht,hk,b1s (a2y c hc).2.2.1,a7R _,?_⟩⟩;exact⟨_,rfl,hs,hk⟩
   ·rintro ρ Mx ⟨x5,rfl,hs,hk⟩;rw[hK7];clear hK7;refine a0m fun K8 hK8=>?_;walk_at "rd";refine⟨by decide,fun q1 hq1=>?_⟩;have k0:=hk;have hs0:=hs.newr hq1 (o:=MO.lst (GO1.map T.str));have hs:=hs0;have hk:=Sub.new hq1 (o:=MO.lst (GO1.map T.str)) _ _ hk;have e1:(updM Mx q1 (MO.lst (GO1.map T.str))) q1=some (.lst (GO1.map T.str)):=a0d;show K8 [some (T.rd (b8E T.int ns)),some (T.adr p),some (T.adr x1),x3,some (T.adr kd),x5,some (T.adr q1),none] (updM Mx q1 (MO.lst (GO1.map T.str)))
    generalize updM Mx q1 (MO.lst (GO1.map T.str))=N1 at hs0 hs hk e1|-
    clear hq1;rw[hK8];clear hK8;refine a0m fun K9 hK9=>?_;walk_at "rd";refine⟨by decide,fun b hb=>?_⟩;rw[(fun o=>Sub.new (o:=o) hb) _ _ _ e1];dsimp only;refine⟨by decide,fun q2 hq2=>?_⟩;have hs0:=hs.newr hb (o:=MO.lst (GO2.map T.str));have hs:=hs0.newr hq2 (o:=MO.lst ((GO1++GO2).map T.str));have hk:(updM (updM N1 b (MO.lst (GO2.map T.str))) q2 (MO.lst ((GO1++GO2).map T.str))) kd=some (.dk (dkD (DF c))):=Sub.new hq2 (o:=MO.lst ((GO1++GO2).map T.str)) _ _ (Sub.new hb (o:=MO.lst (GO2.map T.str)) _ _ hk);have e2:(updM (updM N1 b (MO.lst (GO2.map T.str))) q2 (MO.lst ((GO1++GO2).map T.str))) q2=some (.lst ((GO1++GO2).map T.str)):=a0d;have f2:M q2=none:=none_of hs0.sub hq2;show K9 [some (T.rd (b8E T.int ns)),some (T.adr p),some (T.adr x1),x3,some (T.adr kd),x5,some (T.adr q2),none] (updM (updM N1 b (MO.lst (GO2.map T.str))) q2 (MO.lst ((GO1++GO2).map T.str)))
    generalize updM (updM N1 b (MO.lst (GO2.map T.str))) q2 (MO.lst ((GO1++GO2).map T.str))=N2 at hs hk e2|-
    clear hb hq2 e1;rw[hK9];clear hK9;refine a0m fun K10 hK10=>?_;walk_at "rd";rw[e2];refine⟨trivial,by rw[b8f];decide,?_⟩;have n1:x1≠q2:=fun z=>by rw[<- z,hs.o1] at e2;cases e2
    have n2:b1≠q2:=fun z=>by rw[<- z,hs.d1] at e2;cases e2
    have n3:kd≠q2:=fun z=>by rw[<- z,hk] at e2;cases e2
    have hs:LwS M CD x1 b1 (DF c) (updM N2 q2 (MO.lst (GONE.map T.str))):=⟨by rw[a0t n1];exact hs.o1,by rw[a0t n2];exact hs.d1,hs.sub.updF f2⟩;have hk:(updM N2 q2 (MO.lst (GONE.map T.str))) kd=some (.dk (dkD (DF c))):=by rw[a0t n3];exact hk
    have e3:(updM N2 q2 (MO.lst (GONE.map T.str))) q2=some (.lst (GONE.map T.str)):=a0d;show K10 [some (T.rd (b8E T.int ns)),some (T.adr p),some (T.adr x1),x3,some (T.adr kd),x5,some (T.adr q2),none] (updM N2 q2 (MO.lst (GONE.map T.str)))
    generalize updM N2 q2 (MO.lst (GONE.map T.str))=N3 at hs hk e3|-
    clear e2 n1 n2 n3 f2 hs0;rw[hK10];clear hK10;refine a0m fun K11 hK11=>?_;refine a7Q fun B3 hB3=>?_;unfold a8M;walk_at "rd";rw[e3];dsimp only;refine⟨fun i ρ M'=>∃x7,ρ=[some (T.rd (b8E T.int ns)),some (T.adr p),some (T.adr x1),x3,some (T.adr kd),x5,some (T.adr q2),x7]/\LwS M CD x1 b1 (DF c) M'/\M' kd=some (.dk (dkD (DF c)))/\M' q2=some (.lst (GONE.map T.str)),⟨none,rfl,hs,hk,e3⟩,fun _ _ _ ⟨_,_,_,_,h⟩=>h,?_,?_⟩
    ·rintro i x ρ Mx hx ⟨x7,rfl,hs,hk,hq⟩;rw[b8x] at hx;obtain⟨line,hl,rfl⟩:=b8S.mp hx;have hl:=b8Q hl;rw[hB3];clear hB3;walk_at "rd";rw[hs.o1];refine⟨rfl,rfl,hs.go (by exact(a2y c hc).1) (b2O (b2P c hc line hl) ?_)⟩;refine⟨a0u _,a0u _,a1E _,?_⟩;rw[a1X,decide_eq_true rfl,if_neg (by decide)];rw[hs.o1];exact⟨rfl,rfl,hs.pl hk fun t M1 hs hk ht hh=>⟨dkD (DF c),ht,hk,b1s (a2y c hc).2.2.1,a7R _,_,rfl,hs,hk,hh _ _ hq⟩⟩
    ·rintro ρ Mx ⟨x7,rfl,hs,hk,_⟩;rw[hK11];clear hK11;refine a0m fun K12 hK12=>?_;walk_at "rd";rw[hs.o1];refine⟨rfl,rfl,hs.go (by exact(a2y c hc).1) (a3K (b1q c hc) (.inr (.inl ⟨LngP,WidP,rfl,rfl,a4F,a7Z,by decide,.inl ⟨rfl,?_⟩⟩)))⟩;refine⟨a0u _,a0u _,a1E _,?_⟩;rw[a1X,decide_eq_true rfl,if_neg (by decide)];rw[hs.o1];refine⟨rfl,rfl,hs.go (by exact(a2y c hc).1) (a3K (b4Y c hc) (.inr (.inr ⟨WidP,LngP,rfl,rfl,a7Z,a4F,fun _=>.inl ⟨rfl,?_⟩,fun z=>absurd z (by decide)⟩)))⟩;refine⟨a0u _,a0u _,a1E _,?_⟩;rw[a1X,decide_eq_true rfl,if_neg (by decide)];rw[hK12];clear hK12;refine a0m fun K13 hK13=>?_;walk_at "rd";rw[hs.o1];refine⟨rfl,rfl,hs.go (by exact(a2y c hc).1) (a3K (b4Z c hc) (.inr (.inr ⟨LngP,LngP,rfl,rfl,a4F,a4F,fun z=>absurd rfl z,fun _=>⟨by decide,.inr ⟨rfl,?_⟩⟩⟩)))⟩;refine⟨a0u _,a0u _,a1E _,?_⟩;rw[a1X,decide_eq_true rfl,if_neg (by decide)];rw[hs.o1];refine⟨rfl,rfl,hs.pl hk fun t M1 hs hk ht hh=>⟨dkD (DF c),ht,hk,b1s (a2y c hc).2.2.1,a7R _,?_⟩⟩;rw[hK13];clear hK13;walk_at "rd";rw[hs.o1];refine⟨rfl,rfl,hs.go (by exact(a2y c hc).1) (a2C (nm:="long") (pl:=(3,[1])) (by decide +kernel) (by decide +kernel) (by decide +kernel) (by decide +kernel) ⟨by decide,by decide,by decide,by unfold a0R a3h;decide⟩ ?_)⟩;refine⟨a0u _,a0u _,a1E _,?_⟩;rw[a1X,decide_eq_true rfl,if_pos rfl];have hs:=hs.b xn hb1M (E:=putD (DF c) "long" (3,[1]))
     generalize updM M1 b1 (.dk (dkD (putD (DF c) "long" (3,[1]))))=M2 at hs|-
     rw[hs.o1];refine⟨rfl,rfl,hs.go (by exact(a2y c hc).2.1) (a3K (b1p c hc) (.inl ⟨(3,[1]),rfl,rfl,⟨by decide,by decide,by decide,by unfold a0R a3h;decide⟩,?_⟩))⟩;have ew:wrS 3 [1]=b8b "3: 1":=by decide +kernel
     dsimp only;rw[ew];refine⟨a0u _,a0u _,a1E _,?_⟩;rw[a1X,decide_eq_true rfl];exact a0F h hs.sub
 ·exact h.elim
theorem Df.u{P w K mg base n m x ps sp}(D:Df P w K mg base n x ps sp)(h:n<=m:=by decide):Df P w K mg base m x ps sp:=D.mono h
theorem DfX.u{P w K mg base n m x ps sp}(D:DfX P w K mg base n x ps sp)(h:n<=m:=by decide):DfX P w K mg base m x ps sp:=D.mono h
noncomputable abbrev RwN(K:PySem.W.Frag)(x:Str)(v:OVA):Prop:=PySem.W.nsIn K mainGlobals x=some v
noncomputable abbrev RwL(K:PySem.W.Frag)(x q:Str)(s:Stmt)(f:Addr)(oc:b8g)(od:Option Addr)(kV dc pm:b8g)(an:Option Addr)(cd ct:b8g)(sl:AOV):Prop:=K.lookup f=some ⟨oc,od,.func (PySem.W.fnOf x q (a2t s) (a0K s) (a0b s) .none kV dc pm an cd ct),sl⟩
noncomputable abbrev RwC(K:PySem.W.Frag)(cd:b8g)(x:Str):Prop:=PySem.W.codeIn K cd x=true
noncomputable abbrev RwK(K:PySem.W.Frag)(f:Addr):Prop:=PySem.W.keepIn K (.ref f)=true
theorem b6X{l:PySem.W.OpenLaw}{w:b8F}{h:Heap}{fa f26 f27 f28 f29 f30:Addr}(X:K.In h)(G:h.Ns mainGlobals mg)(hfa:mg "law"=some (.ref fa))
  {od26 od27 od28 od29 od30 an26 an27 an28 an29 an30:Option Addr} {sl26 sl27 sl28 sl29 sl30:AOV} {oc26 oc27 oc28 oc29 oc30 kV26 kV27 kV28 kV29 kV30 dc26 dc27 dc28 dc29 dc30 pm26 pm27 pm28 pm29 pm30 cd26 cd27 cd28 cd29 cd30 ct26 ct27 ct28 ct29 ct30:b8g}
  {CD:Addr} (aC:RwN K "Desk" (some (.ref CD)))
  (d1:FD0 K mg "is_letter" a2O)
  (d2:FD0 K mg "is_word" a2U)
  (d3:FD0 K mg "is_plait" a3l)
  (d4:FD0 K mg "looked" a5C)
  (d5:FD0 K mg "looked_both" a1R)
  (d6:FD0 K mg "behind" a5D)
  (d7:FD0 K mg "turned" a8i)
  (d8:FD0 K mg "mirrored" a4X)
  (d9:FD0 K mg "flipped" a6q)
  (d10:FD0 K mg "shorter" a6o)
  (d11:FD0 K mg "order_of" a4W)
  (d12:FD0 K mg "form_of" a6p)
  (d13:FD0 K mg "unlike" a5z)
  (d14:FD0 K mg "shown" a5A)
  (d15:FD0 K mg "number_in" a1Q)
  (d16:FD0 K mg "read" a3V)
  (d17:FD0 K mg "closed_sum" a3w)
  (d18:FD0 K mg "is_name" a2V)
  (d19:FD0 K mg "is_line" a2W)
  (d20:FD0 K mg "made" b0a)
  (d21:FD0 K mg "same_note" a2N)
  (d22:FD0 K mg "order_note" a3v)
  (d23:FD0 K mg "form_note" a3W)
  (d24:FD0 K mg "counts_note" a2X)
  (d25:FD0 K mg "told_of" a3U)
  (a26:PySem.W.findIn K (.ref CD) "__init__"=some (some (.ref f26))) (i26:PySem.W.isFn K (.ref f26)=true) (l26:RwL K "__init__" "Desk.__init__" a0W f26 oc26 od26 kV26 dc26 pm26 an26 cd26 ct26 sl26) (c26:RwC K cd26 "Desk.__init__") (k26:RwK K f26)
  (a27:PySem.W.findIn K (.ref CD) "plaits"=some (some (.ref f27))) (i27:PySem.W.isFn K (.ref f27)=true) (l27:RwL K "plaits" "Desk.plaits" a1n f27 oc27 od27 kV27 dc27 pm27 an27 cd27 ct27 sl27) (c27:RwC K cd27 "Desk.plaits") (k27:RwK K f27)
  (a28:PySem.W.findIn K (.ref CD) "keep"=some (some (.ref f28))) (i28:PySem.W.isFn K (.ref f28)=true) (l28:RwL K "keep" "Desk.keep" a1T f28 oc28 od28 kV28 dc28 pm28 an28 cd28 ct28 sl28) (c28:RwC K cd28 "Desk.keep") (k28:RwK K f28)
  (a29:PySem.W.findIn K (.ref CD) "done"=some (some (.ref f29))) (i29:PySem.W.isFn K (.ref f29)=true) (l29:RwL K "done" "Desk.done" a1U f29 oc29 od29 kV29 dc29 pm29 an29 cd29 ct29 sl29) (c29:RwC K cd29 "Desk.done") (k29:RwK K f29)
  (a30:PySem.W.findIn K (.ref CD) "say"=some (some (.ref f30))) (i30:PySem.W.isFn K (.ref f30)=true) (l30:RwL K "say" "Desk.say" a1p f30 oc30 od30 kV30 dc30 pm30 an30 cd30 ct30 sl30) (c30:RwC K cd30 "Desk.say") (k30:RwK K f30)
  (d31:FD0 K mg "_law_cell_at" a1G)
  (d32:FD0 K mg "_law_state" a2o)
  (d33:FD0 K mg "_law_choice" a1S)
  (d34:FD0 K mg "_law_odd" a3m)
  (d35:FD0 K mg "law" a8W)
  (pg:PySem.W.plainGet K CD c1V=true) (hd:PySem.W.hasDictIn K CD=true) (po:PySem.W.plainOver K CD=true) (sa:PySem.W.findIn K (.ref CD) "__setattr__"=some (some (.builtin "object.__setattr__"))) (mk:PySem.W.makesIn K CD=true) (kc:RwK K CD) (nK:PySem.W.findIn K (.ref CD) "kept"=some none)
  {dN:Addr} {e_cit:Nat} {tk_cit1 tv_cit1 tk_cit2 tv_cit2 tk_cit3 tv_cit3 tk_cit4 tv_cit4 tk_cit5 tv_cit5 tk_cit6 tv_cit6 tk_cit7 tv_cit7 tk_cit8 tv_cit8 tk_cit9 tv_cit9 tk_cit10 tv_cit10 tk_cit11 tv_cit11 tk_cit12 tv_cit12:Tok} (n_cit:RwN K "NAMES_BEHIND" (some (.ref dN))) (l_cit:K.lookup dN=some ⟨.type "dict",none,.dict #[⟨b8N w.params "drop",.str "drop" tk_cit1,.int 1 tv_cit1⟩,⟨b8N w.params "show",.str "show" tk_cit2,.int 1 tv_cit2⟩,⟨b8N w.params "names",.str "names" tk_cit3,.int 0 tv_cit3⟩,⟨b8N w.params "turned",.str "turned" tk_cit4,.int 2 tv_cit4⟩,⟨b8N w.params "mirrored",.str "mirrored" tk_cit5,.int 2 tv_cit5⟩,⟨b8N w.params "flipped",.str "flipped" tk_cit6,.int 2 tv_cit6⟩,⟨b8N w.params "shorter",.str "shorter" tk_cit7,.int 2 tv_cit7⟩,⟨b8N w.params "behind",.str "behind" tk_cit8,.int 3 tv_cit8⟩,⟨b8N w.params "same",.str "same" tk_cit9,.int 2 tv_cit9⟩,⟨b8N w.params "order",.str "order" tk_cit10,.int 1 tv_cit10⟩,⟨b8N w.params "form",.str "form" tk_cit11,.int 1 tv_cit11⟩,⟨b8N w.params "closed",.str "closed" tk_cit12,.int 1 tv_cit12⟩] e_cit,#[]⟩) (s_cit:(dN==sysModules)=false)
  {zx:Addr} (nx:RwN K "BadNote" (some (.ref zx))) (x_ob:b3F K zx=true)
  {zx1 zx2:Addr} (nx1:RwN K "NoStep" (some (.ref zx1))) (nx2:RwN K "NoRoom" (some (.ref zx2))) (x_tw:b3D K zx1 zx2=true)
  (z_b:∀x∈(["ValueError","abs","all","dict","int","len","range","sorted","str","tuple"]:LSS),RwN K x none)
  {u_MAKING:Addr} (g_MAKING:RwN K "MAKING" (some (.ref u_MAKING)))
  {n_MAKING:Nat} {s_MAKING:AOV} {t_MAKING_0:Tok} {t_MAKING_1:Tok} {t_MAKING_2:Tok} {t_MAKING_3:Tok} {t_MAKING_4:Tok} (l_MAKING:K.lookup u_MAKING=some ⟨.type "tuple",none,.seq #[.str "turned" t_MAKING_0,.str "mirrored" t_MAKING_1,.str "flipped" t_MAKING_2,.str "shorter" t_MAKING_3,.str "behind" t_MAKING_4] n_MAKING,s_MAKING⟩)
  {tk_MOST_LETTERS:Tok} (g_MOST_LETTERS:RwN K "MOST_LETTERS" (some (.int 16 tk_MOST_LETTERS)))
  {tk_MOST_SIGNS_IN_NAME:Tok} (g_MOST_SIGNS_IN_NAME:RwN K "MOST_SIGNS_IN_NAME" (some (.int 8 tk_MOST_SIGNS_IN_NAME)))
  {tk_MOST_STRANDS:Tok} (g_MOST_STRANDS:RwN K "MOST_STRANDS" (some (.int 6 tk_MOST_STRANDS)))
  : ∃fd:b9d,(∀(s:b7Y) (v:b8g),c2P s fd ⟨[v],[]⟩ [("script",v)])/\∀base:Heap,K.In base->base.Ns mainGlobals mg->FnOkC l.prog w K mg base CX0 11 fa fd ["script"] (dSp K a2z):=by
 obtain⟨f,fd,F,hm⟩:=d35.e;cases hm.symm.trans hfa;have F':=F;obtain⟨oc,od,kV,doc,pm,an,cdv,ct,osl,rfl,lk,hcd⟩:=F.ex;have mo:∀{x:Str} {f:Addr},RwN K x (some (.ref f))->mg x=some (.ref f):=fun a=>PySem.W.mg_of X G a;have x_one:=b3E x_ob (mo nx);obtain⟨x_two,xc_1,xc_2⟩:=b3C x_tw (mo nx1) (mo nx2)
 have Z:Zs K mg:=by constructor<;>first
  |exact PySem.W.mg_none_of X G (z_b _ (by decide))
  |assumption
  |exact⟨u_MAKING,PySem.W.mg_of X G g_MAKING,fun H=>(b0f (xs:=[.str "turned",.str "mirrored",.str "flipped",.str "shorter",.str "behind"]) l_MAKING (by show 5<=1000;decide) (.cons ⟨_,rfl⟩ (.cons ⟨_,rfl⟩ (.cons ⟨_,rfl⟩ (.cons ⟨_,rfl⟩ (.cons ⟨_,rfl⟩ .nil))))) (a1K a0G (a1K a0G (a1K a0G (a1K a0G (a1K a0G b0e))))))⟩
  |exact⟨tk_MOST_LETTERS,PySem.W.mg_of X G g_MOST_LETTERS⟩
  |exact⟨tk_MOST_SIGNS_IN_NAME,PySem.W.mg_of X G g_MOST_SIGNS_IN_NAME⟩
  |exact⟨tk_MOST_STRANDS,PySem.W.mg_of X G g_MOST_STRANDS⟩
 have F26:=a5d (st:=a0W) l26 c26 k26;have F27:=a5d (st:=a1n) l27 c27 k27;have F28:=a5d (st:=a1T) l28 c28 k28;have F29:=a5d (st:=a1U) l29 c29 k29;have F30:=a5d (st:=a1p) l30 c30 k30;refine⟨PySem.W.fnOf "law" "law" (a2t a8W) (a0K a8W) (a0b a8W) .none kV doc pm an cdv ct,fun s v=>.of_eq rfl,fun base _ _=>?_⟩;have DK:DeskN K mg CD f26 f27 f28 f29 f30:=⟨⟨pg,hd,po,sa⟩,nK,mo aC,⟨mk,a26,i26,kc⟩,⟨a27,i27,k27⟩,⟨a28,i28,k28⟩,⟨a29,i29,k29⟩,⟨a30,i30,k30⟩⟩;have CI:CitN K l.prog w mg dN:=⟨b5c [("drop",tk_cit1,1,tv_cit1),("show",tk_cit2,1,tv_cit2),("names",tk_cit3,0,tv_cit3),("turned",tk_cit4,2,tv_cit4),("mirrored",tk_cit5,2,tv_cit5),("flipped",tk_cit6,2,tv_cit6),("shorter",tk_cit7,2,tv_cit7),("behind",tk_cit8,3,tv_cit8),("same",tk_cit9,2,tv_cit9),("order",tk_cit10,1,tv_cit10),("form",tk_cit11,1,tv_cit11),("closed",tk_cit12,1,tv_cit12)] l_cit (by show(["drop","show","names","turned","mirrored","flipped","shorter","behind","same","order","form","closed"]:LSS).Nodup;decide) s_cit,PySem.W.mg_of X G n_cit⟩;have D1:=a6z (P:=l.prog) (w:=w) (base:=base) (n:=0) Z  (d1.b (by walk_at "b2"));have D2:=a9h (n:=1) Z D1.u (d2.b (by walk_at "b3"));have D3:=a7G (n:=2) Z D2.u (d3.b (by walk_at "b1"));have D4:=b0A (n:=3) Z D3.u (d4.b (by walk_at "b1"));have D5:=a4J (n:=4) Z D4.u (d5.b (by walk_at "b2"));have D6:=b0B (n:=5) Z D5.u (d6.b (by walk_at "b2"));have D7:=b0z (P:=l.prog) (w:=w) (base:=base) (n:=0) Z  (d7.b (by walk_at "b1"));have D8:=a7F (P:=l.prog) (w:=w) (base:=base) (n:=0) Z  (d8.b (by walk_at "b1"));have D9:=a9l (P:=l.prog) (w:=w) (base:=base) (n:=0) Z  (d9.b (by walk_at "b1"));have D10:=a9g (P:=l.prog) (w:=w) (base:=base) (n:=0) Z  (d10.b (by walk_at "b1"));have D11:=a7E (P:=l.prog) (w:=w) (base:=base) (n:=0) Z  (d11.b (by walk_at "b1"));have D12:=a9k (P:=l.prog) (w:=w) (base:=base) (n:=0) Z  (d12.b (by walk_at "b1"));have D13:=b0y (n:=5) Z D5.u (d13.b (by walk_at "b2"));have D14:=b2w (n:=4) Z D4.u (d14.b (by walk_at "b1"));have D15:=a6y (P:=l.prog) (w:=w) (base:=base) (n:=0) Z  (d15.b (by walk_at "b1"));have E15:=a5J (P:=l.prog) (w:=w) (base:=base) (n:=0) Z  (d15.b (by walk_at "b1"));have D16:=b4A (n:=3) Z D15.u D3.u (d16.b (by walk_at "b1"));have E16:=b2v (P:=l.prog) (w:=w) (base:=base) (n:=3) Z D3.u D15.u E15.u (d16.b (by walk_at "b1"));have D17:=a5M (P:=l.prog) (w:=w) (base:=base) (n:=0) Z  (d17.b (by walk_at "b1"));have D18:=a9i (P:=l.prog) (w:=w) (base:=base) (n:=0) Z  (d18.b (by walk_at "b1"));have D19:=a9j (n:=1) Z CI D18.u (d19.b (by walk_at "b1"));have D20:=b4B (n:=6) Z D7.u D8.u D9.u D10.u D6.u (d20.b (by walk_at "b2"));have D21:=a6x (n:=6) Z D13.u (d21.b (by walk_at "b2"));have D22:=a5L (P:=l.prog) (w:=w) (base:=base) (n:=0) Z  (d22.b (by walk_at "b1"));have D23:=a6A (P:=l.prog) (w:=w) (base:=base) (n:=0) Z  (d23.b (by walk_at "b1"));have D24:=a4K (P:=l.prog) (w:=w) (base:=base) (n:=0) Z  (d24.b (by walk_at "b1"));have D25:=a9f (n:=7) Z D14.u D21.u D22.u D11.u D23.u D12.u D24.u D17.u (d25.b (by walk_at "b2"));have D26:=a3D (P:=l.prog) (w:=w) (base:=base) (n:=0) F26 (F26.binds (by walk_at "b1")) Z DK ;have D27:=a4M (P:=l.prog) (w:=w) (base:=base) (n:=0) F27 (F27.binds (by walk_at "b1")) Z DK ;have E28:=a5K (P:=l.prog) (w:=w) (base:=base) (n:=4) F28 (F28.binds (by walk_at "b2")) Z DK D18.u D16.u E16.u;have D29:=a6B (P:=l.prog) (w:=w) (base:=base) (n:=8) F29 (F29.binds (by walk_at "b4")) Z DK D20.u D25.u;have E30:=a6w (P:=l.prog) (w:=w) (base:=base) (n:=9) F30 (F30.binds (by walk_at "b2")) Z DK E28.u D19.u D29.u;have D31:=a4c (P:=l.prog) (w:=w) (base:=base) (n:=0) Z  (d31.b (by walk_at "b2"));have D32:=a5N (n:=1) Z D31.u (d32.b (by walk_at "b2"));have D33:=a4L (P:=l.prog) (w:=w) (base:=base) (n:=0) Z  (d33.b (by walk_at "b2"));have D34:=a7H (n:=1) Z D33.u (d34.b (by walk_at "b1"));exact b4z (n:=10) F' Z DK (by decide) D32.u D26 D33.u E30.u D27.u D34.u
end L2
namespace PySem.W.Fast
theorem tw17684930852930155009:True:=⟨⟩
theorem tw14032653695690141271:True:=⟨⟩
theorem tw4725474493181968413:True:=⟨⟩
theorem tw2232211771534207828:True:=⟨⟩
theorem tw15097049962214605452:True:=⟨⟩
theorem tw17198961298374872067:True:=⟨⟩
theorem tw13505651208774927699:True:=⟨⟩
theorem tw1231961179810863275:True:=⟨⟩
theorem tw13307188606466808783:True:=⟨⟩
theorem tw2537500364194972839:True:=⟨⟩
theorem tw9238711923170419780:True:=⟨⟩
theorem tw6040505366618612282:True:=⟨⟩
theorem tw11628084758374073182:True:=⟨⟩
theorem tw11182930581584085076:True:=⟨⟩
theorem tw2842121533838287589:True:=⟨⟩
theorem tw16593415711137417951:True:=⟨⟩
theorem tw3150834401098330828:True:=⟨⟩
theorem tw13819495744990724725:True:=⟨⟩
theorem tw2980811727159184027:True:=⟨⟩
theorem tw9545688948283341251:True:=⟨⟩
theorem tw17604791924673981641:True:=⟨⟩
theorem tw6420532311651260053:True:=⟨⟩
theorem tw10140403877244072125:True:=⟨⟩
theorem tw1611691927481719738:True:=⟨⟩
theorem tw9749460256506771274:True:=⟨⟩
theorem tw10440995397194956998:True:=⟨⟩
theorem tw3725807749545344390:True:=⟨⟩
theorem tw16962999443810304427:True:=⟨⟩
theorem tw12854893116648052316:True:=⟨⟩
theorem tw18098451008557937077:True:=⟨⟩
theorem tw6462939793261051092:True:=⟨⟩
theorem tw8910087516327315147:True:=⟨⟩
theorem tw16491198747073475726:True:=⟨⟩
theorem tw1427020786870612468:True:=⟨⟩
theorem tw4164303048610773926:True:=⟨⟩
theorem tw11607530953514239220:True:=⟨⟩
theorem tw3694398657262869933:True:=⟨⟩
theorem tw2564077050407831851:True:=⟨⟩
theorem tw14479341184391484825:True:=⟨⟩
theorem tw17408561364164002455:True:=⟨⟩
theorem tw2998975391425966230:True:=⟨⟩
theorem tw16002611571858943588:True:=⟨⟩
theorem tw15041890482115102009:True:=⟨⟩
theorem tw16701536446005032629:True:=⟨⟩
theorem tw11210200065713095159:True:=⟨⟩
theorem tw16644354086144463789:True:=⟨⟩
theorem tw5652402996186946312:True:=⟨⟩
theorem tw5927138349273618511:True:=⟨⟩
theorem tw1774894799011872796:True:=⟨⟩
theorem tw12506890333134439959:True:=⟨⟩
theorem tw1241550772946219565:True:=⟨⟩
theorem tw878296886295688086:True:=⟨⟩
theorem tw11642340095813674970:True:=⟨⟩
theorem tw2588991877578036044:True:=⟨⟩
theorem tw9640113710517290321:True:=⟨⟩
theorem tw1585490907713892975:True:=⟨⟩
theorem tw3693265828840773282:True:=⟨⟩
theorem tw2937279012271150693:True:=⟨⟩
theorem tw13568374624861338101:True:=⟨⟩
theorem tw15350225146506284571:True:=⟨⟩
theorem tw3068311083577619221:True:=⟨⟩
theorem tw9697183944062617643:True:=⟨⟩
theorem tw7898396056248949900:True:=⟨⟩
theorem tw7233445394696437715:True:=⟨⟩
theorem tw14790348318214849509:True:=⟨⟩
theorem tw6884358986635521433:True:=⟨⟩
theorem tw15601777680807507114:True:=⟨⟩
theorem tw5704722970996088803:True:=⟨⟩
theorem tw5221313252174683555:True:=⟨⟩
theorem tw6346724869955202805:True:=⟨⟩
theorem tw17865041949484673096:True:=⟨⟩
theorem tw13904276624581011279:True:=⟨⟩
theorem tw17771748187055464455:True:=⟨⟩
theorem tw11643454785137972385:True:=⟨⟩
theorem tw303984706679946267:True:=⟨⟩
theorem tw14949881307587223562:True:=⟨⟩
theorem tw14238343196994776177:True:=⟨⟩
theorem tw6818282734778633974:True:=⟨⟩
theorem tw4871971027502533734:True:=⟨⟩
theorem tw5805975557401406420:True:=⟨⟩
theorem tw15824848597607456446:True:=⟨⟩
theorem tw12162672941214070884:True:=⟨⟩
theorem tw2578407685834346024:True:=⟨⟩
theorem tw6416313683336842747:True:=⟨⟩
theorem tw2877329379179865231:True:=⟨⟩
theorem tw17323323132278311207:True:=⟨⟩
theorem tw1807089940927654708:True:=⟨⟩
theorem tw7728133953166475810:True:=⟨⟩
theorem tw13547511996734376603:True:=⟨⟩
theorem tw16779209657690426616:True:=⟨⟩
theorem tw2790000286392943936:True:=⟨⟩
theorem tw9365946865066301196:True:=⟨⟩
theorem tw1066215228117676359:True:=⟨⟩
theorem tw6300871085092885580:True:=⟨⟩
theorem tw4079271041743512821:True:=⟨⟩
theorem tw1702354069426582698:True:=⟨⟩
theorem tw10215349155588031296:True:=⟨⟩
theorem tw13982134729565801408:True:=⟨⟩
theorem tw5919728612897620084:True:=⟨⟩
theorem tw8994492237115639364:True:=⟨⟩
theorem tw3087539175858079131:True:=⟨⟩
theorem tw12380077195786234428:True:=⟨⟩
theorem tw7548684235901531958:True:=⟨⟩
theorem tw18362371454480889516:True:=⟨⟩
theorem tw1892015455808948444:True:=⟨⟩
theorem tw12438202257549511274:True:=⟨⟩
theorem tw6511973710704588253:True:=⟨⟩
theorem tw8137861926639247894:True:=⟨⟩
theorem tw17993514446092787366:True:=⟨⟩
theorem tw2647680979957651279:True:=⟨⟩
theorem tw12027505250482283095:True:=⟨⟩
theorem tw1100837847934812715:True:=⟨⟩
theorem tw7660060829159570930:True:=⟨⟩
theorem tw15842274779354729263:True:=⟨⟩
theorem tw18118029722399621839:True:=⟨⟩
theorem tw17592474797918965674:True:=⟨⟩
theorem tw9642317932746894717:True:=⟨⟩
theorem tw15600252047560613305:True:=⟨⟩
theorem tw6933907880648315085:True:=⟨⟩
theorem tw15691686305182850203:True:=⟨⟩
theorem tw6442227928332732690:True:=⟨⟩
theorem tw5502860114351338250:True:=⟨⟩
theorem tw272476132140550647:True:=⟨⟩
theorem tw1145788926553775885:True:=⟨⟩
theorem tw5829953447238982857:True:=⟨⟩
theorem tw2925098415118950691:True:=⟨⟩
theorem tw3176100387267105481:True:=⟨⟩
theorem tw3077040379986183787:True:=⟨⟩
theorem tw16011857451996555106:True:=⟨⟩
theorem tw8826014885226302720:True:=⟨⟩
theorem tw6697804934229343994:True:=⟨⟩
theorem tw13171452588809330909:True:=⟨⟩
theorem tw14373805806590133091:True:=⟨⟩
theorem tw4160236107805316639:True:=⟨⟩
theorem tw8578396873359793733:True:=⟨⟩
theorem tw1665824946131809406:True:=⟨⟩
theorem tw10175637364387776895:True:=⟨⟩
theorem tw18095260414609906407:True:=⟨⟩
theorem tw11862294417844435501:True:=⟨⟩
theorem tw12751329383050036899:True:=⟨⟩
theorem tw8619574238534399581:True:=⟨⟩
theorem tw3952476247249552824:True:=⟨⟩
theorem tw14580939779160200613:True:=⟨⟩
theorem tw2823545589379875679:True:=⟨⟩
theorem tw18116982146047318908:True:=⟨⟩
theorem tw18318161158169095501:True:=⟨⟩
theorem tw15168860026398144707:True:=⟨⟩
theorem tw13614575002061932693:True:=⟨⟩
theorem tw10886583313746101920:True:=⟨⟩
theorem tw8908269399245742670:True:=⟨⟩
theorem tw14504506205731668351:True:=⟨⟩
theorem tw8008644204481249204:True:=⟨⟩
theorem tw17985915464713029188:True:=⟨⟩
theorem tw17756879857791257707:True:=⟨⟩
theorem tw9675944665909238674:True:=⟨⟩
theorem tw10501431074462403801:True:=⟨⟩
theorem tw17484760701442078057:True:=⟨⟩
theorem tw514010716184977147:True:=⟨⟩
theorem tw3647466003779808697:True:=⟨⟩
theorem tw14964363117750952841:True:=⟨⟩
theorem tw12628700701126995962:True:=⟨⟩
theorem tw14492941657629254505:True:=⟨⟩
theorem tw1813266736073562027:True:=⟨⟩
theorem tw845234867052336379:True:=⟨⟩
theorem tw14150029355304115520:True:=⟨⟩
theorem tw10400290319334753993:True:=⟨⟩
theorem tw11252136292752146972:True:=⟨⟩
theorem tw6774588820252964775:True:=⟨⟩
theorem tw12557587423523696310:True:=⟨⟩
theorem tw14598938837347091025:True:=⟨⟩
theorem tw9815446274834653441:True:=⟨⟩
theorem tw8286404624358864077:True:=⟨⟩
theorem tw5972850459641050976:True:=⟨⟩
theorem tw4553776164522197403:True:=⟨⟩
theorem tw14384457021292833903:True:=⟨⟩
theorem tw14644383073104219825:True:=⟨⟩
theorem tw13127622221197536851:True:=⟨⟩
theorem tw13735897153214478105:True:=⟨⟩
theorem tw15777956874933853444:True:=⟨⟩
theorem tw15911171787072386215:True:=⟨⟩
theorem tw989528763570366502:True:=⟨⟩
theorem tw9999527373952419242:True:=⟨⟩
theorem tw1068057788966582066:True:=⟨⟩
theorem tw14403263756767625388:True:=⟨⟩
theorem tw18155679341752347892:True:=⟨⟩
theorem tw5693656772768526198:True:=⟨⟩
theorem tw18379604629488111896:True:=⟨⟩
theorem tw2674942104140071593:True:=⟨⟩
theorem tw4880653832283165370:True:=⟨⟩
theorem tw8675431960320383525:True:=⟨⟩
theorem tw6483734786940650531:True:=⟨⟩
theorem tw17013251170107480794:True:=⟨⟩
theorem tw11727100081725080718:True:=⟨⟩
theorem tw11323704432634152528:True:=⟨⟩
theorem tw254734459181123714:True:=⟨⟩
theorem tw12864898174632157086:True:=⟨⟩
theorem tw298166998305293117:True:=⟨⟩
theorem tw3854336699117453326:True:=⟨⟩
theorem tw7841526261659881923:True:=⟨⟩
theorem tw16241612405984816756:True:=⟨⟩
theorem tw8230589159448052546:True:=⟨⟩
theorem tw3067409234089337655:True:=⟨⟩
theorem tw4152708679936621643:True:=⟨⟩
theorem tw14583953456157187766:True:=⟨⟩
theorem tw330747522037265236:True:=⟨⟩
theorem tw5816600214252645332:True:=⟨⟩
theorem tw16291176163160916682:True:=⟨⟩
theorem tw12737874333278864018:True:=⟨⟩
theorem tw5580907592200703626:True:=⟨⟩
theorem tw11596428912078307962:True:=⟨⟩
theorem tw2771577731017814570:True:=⟨⟩
theorem tw2557879661514592697:True:=⟨⟩
theorem tw12102222378794721710:True:=⟨⟩
theorem tw12056443970806277442:True:=⟨⟩
theorem tw13426431839906368208:True:=⟨⟩
theorem tw6276939537908892160:True:=⟨⟩
theorem tw11041822808260592071:True:=⟨⟩
theorem tw15416135007511185366:True:=⟨⟩
theorem tw1281796364547628456:True:=⟨⟩
theorem tw18059462268989867234:True:=⟨⟩
theorem tw16673404580059788287:True:=⟨⟩
theorem tw2720149213490258217:True:=⟨⟩
theorem tw1870567997479697399:True:=⟨⟩
theorem tw10658487559493659050:True:=⟨⟩
theorem tw6941860364690137797:True:=⟨⟩
theorem tw16252111274081889841:True:=⟨⟩
theorem tw13084726141962004732:True:=⟨⟩
theorem tw8385692166532373036:True:=⟨⟩
theorem tw3368795793304294121:True:=⟨⟩
theorem tw7399448749127861314:True:=⟨⟩
theorem tw12718383644354103293:True:=⟨⟩
theorem tw7563071041887050841:True:=⟨⟩
theorem tw941620067729148264:True:=⟨⟩
theorem tw3883668736119501828:True:=⟨⟩
theorem tw13243801745915147752:True:=⟨⟩
theorem tw2809520271230704304:True:=⟨⟩
theorem tw2672764915965968556:True:=⟨⟩
theorem tw4102214548830775756:True:=⟨⟩
theorem tw1395508816983539297:True:=⟨⟩
theorem tw9288486078812056638:True:=⟨⟩
theorem tw6485814372447490916:True:=⟨⟩
theorem tw12056995452804916334:True:=⟨⟩
theorem tw6255630040302034041:True:=⟨⟩
theorem tw11619947064422515817:True:=⟨⟩
theorem tw436303518028361125:True:=⟨⟩
theorem tw14232496332641492216:True:=⟨⟩
theorem tw6571435192228524242:True:=⟨⟩
theorem tw16584883682184562020:True:=⟨⟩
theorem tw10989495349750411767:True:=⟨⟩
theorem tw7734272792558969177:True:=⟨⟩
theorem tw7898906996691794198:True:=⟨⟩
theorem tw15014167801617930690:True:=⟨⟩
theorem tw9971480922619872333:True:=⟨⟩
theorem tw1889778889527212502:True:=⟨⟩
theorem tw11986162389147977059:True:=⟨⟩
theorem tw12988463912793653706:True:=⟨⟩
theorem tw17203039205658804832:True:=⟨⟩
theorem tw13965926226006617680:True:=⟨⟩
theorem tw16872418504228052058:True:=⟨⟩
theorem tw7346777981911225093:True:=⟨⟩
theorem tw15396890076049230185:True:=⟨⟩
theorem tw10543938862458923538:True:=⟨⟩
theorem tw4220437762092991049:True:=⟨⟩
theorem tw1136527976121360189:True:=⟨⟩
theorem tw7148569895745002680:True:=⟨⟩
theorem tw8832800340389700416:True:=⟨⟩
theorem tw5727564227864285829:True:=⟨⟩
theorem tw7765347699673215339:True:=⟨⟩
theorem tw15764125458121681283:True:=⟨⟩
theorem tw10071740158413183333:True:=⟨⟩
theorem tw13266268224264739170:True:=⟨⟩
theorem tw18330742650414204864:True:=⟨⟩
theorem tw424428782184639644:True:=⟨⟩
theorem tw6743964253869146809:True:=⟨⟩
theorem tw8928335825251326179:True:=⟨⟩
theorem tw12323822416258031204:True:=⟨⟩
theorem tw15412474644109451637:True:=⟨⟩
theorem tw17864563766079493484:True:=⟨⟩
theorem tw13268389447645111641:True:=⟨⟩
theorem tw11846512192120541519:True:=⟨⟩
theorem tw2702209574807669392:True:=⟨⟩
theorem tw3283981459461197333:True:=⟨⟩
theorem tw16550876580455874682:True:=⟨⟩
theorem tw7935035662461474079:True:=⟨⟩
theorem tw5731891756040834715:True:=⟨⟩
theorem tw4940126632650854165:True:=⟨⟩
theorem tw13388851441732698132:True:=⟨⟩
theorem tw16622837848213261055:True:=⟨⟩
theorem tw5445631291103168437:True:=⟨⟩
theorem tw16376960924576101312:True:=⟨⟩
theorem tw12145883577653243971:True:=⟨⟩
theorem tw7848330859007956127:True:=⟨⟩
theorem tw2450272543056892988:True:=⟨⟩
theorem tw12674377984872673496:True:=⟨⟩
theorem tw4675420286776084651:True:=⟨⟩
theorem tw10649963311073947117:True:=⟨⟩
theorem tw18438088652398021463:True:=⟨⟩
theorem tw4680568493949767010:True:=⟨⟩
theorem tw2149891904320773141:True:=⟨⟩
theorem tw882504223180990297:True:=⟨⟩
theorem tw13824929816100341333:True:=⟨⟩
theorem tw11815191842501161202:True:=⟨⟩
theorem tw14903384096491522473:True:=⟨⟩
theorem tw14776158728140199985:True:=⟨⟩
theorem tw11871293206725456715:True:=⟨⟩
theorem tw12622545912857937489:True:=⟨⟩
theorem tw16768298149054674104:True:=⟨⟩
theorem tw3175705400482164061:True:=⟨⟩
theorem tw5633849060061916095:True:=⟨⟩
theorem tw15980792969930720192:True:=⟨⟩
theorem tw10572625912686234668:True:=⟨⟩
theorem tw184417054252849586:True:=⟨⟩
theorem tw8880954965256459148:True:=⟨⟩
theorem tw3275829208552605560:True:=⟨⟩
theorem tw8690217659998621102:True:=⟨⟩
theorem tw7890497395438005865:True:=⟨⟩
theorem tw15785810653714609431:True:=⟨⟩
theorem tw7507630348600060843:True:=⟨⟩
theorem tw16763046768351106221:True:=⟨⟩
theorem tw14968267912827916643:True:=⟨⟩
theorem tw17295077357913386411:True:=⟨⟩
theorem tw17628869991179073660:True:=⟨⟩
theorem tw13189521511468030425:True:=⟨⟩
theorem tw1589334592048043611:True:=⟨⟩
theorem tw4289311924281450530:True:=⟨⟩
theorem tw10331181495058694943:True:=⟨⟩
theorem tw11490461099597330693:True:=⟨⟩
theorem tw11626569979315923644:True:=⟨⟩
theorem tw14135294243048566079:True:=⟨⟩
theorem tw9198858688266226427:True:=⟨⟩
theorem tw2185494106986368565:True:=⟨⟩
theorem tw15766586959397989708:True:=⟨⟩
theorem tw14654585851695413889:True:=⟨⟩
theorem tw9349421781392703963:True:=⟨⟩
theorem tw8776169652752244947:True:=⟨⟩
theorem tw15479117851872652958:True:=⟨⟩
theorem tw18302316879949058868:True:=⟨⟩
theorem tw9144827986007610785:True:=⟨⟩
theorem tw17307233221082069724:True:=⟨⟩
theorem tw17155529622940697251:True:=⟨⟩
theorem tw876502042138718732:True:=⟨⟩
theorem tw7723184097505329044:True:=⟨⟩
theorem tw3707467958259209838:True:=⟨⟩
theorem tw8580572179508349096:True:=⟨⟩
theorem tw16001920629508907476:True:=⟨⟩
theorem tw14017493037438210548:True:=⟨⟩
theorem tw5343533897184857168:True:=⟨⟩
theorem tw14117011844103797722:True:=⟨⟩
theorem tw6811550907035577910:True:=⟨⟩
theorem tw10404021566975684098:True:=⟨⟩
theorem tw6013494493199718245:True:=⟨⟩
theorem tw2606497948682804718:True:=⟨⟩
theorem tw3683790823943114074:True:=⟨⟩
theorem tw15374601810051655101:True:=⟨⟩
theorem tw10343987173726931791:True:=⟨⟩
theorem tw18293445755124880849:True:=⟨⟩
theorem tw1092906817131224180:True:=⟨⟩
theorem tw18413557712134474828:True:=⟨⟩
theorem tw2876287494516430804:True:=⟨⟩
theorem tw14262385906794012826:True:=⟨⟩
theorem tw11926364129556031316:True:=⟨⟩
theorem tw16298657392564959580:True:=⟨⟩
theorem tw6455579319530790806:True:=⟨⟩
theorem tw2625331847112155834:True:=⟨⟩
theorem tw7761485189194546706:True:=⟨⟩
theorem tw10500463892064634418:True:=⟨⟩
theorem tw12294066350485371209:True:=⟨⟩
theorem tw17371731823156191013:True:=⟨⟩
theorem tw17942420491854955076:True:=⟨⟩
theorem tw14166272291162613727:True:=⟨⟩
theorem tw2671791574893403972:True:=⟨⟩
theorem tw9541195145673466974:True:=⟨⟩
theorem tw16341899826812616233:True:=⟨⟩
theorem tw902879804402627837:True:=⟨⟩
theorem tw6959295953075664435:True:=⟨⟩
theorem tw398016016960467177:True:=⟨⟩
theorem tw10702764481860811677:True:=⟨⟩
theorem tw9963322706833831257:True:=⟨⟩
theorem tw2384143269590301344:True:=⟨⟩
theorem tw1218150059467259787:True:=⟨⟩
theorem tw18161158690871797501:True:=⟨⟩
theorem tw9103094607528328583:True:=⟨⟩
theorem tw4711450936907892832:True:=⟨⟩
theorem tw11647197257683066071:True:=⟨⟩
theorem tw16868380294336653418:True:=⟨⟩
theorem tw10157377963208497454:True:=⟨⟩
theorem tw3037171510982243022:True:=⟨⟩
theorem tw16290760520541059463:True:=⟨⟩
theorem tw6546270269867196992:True:=⟨⟩
theorem tw5116829482927564813:True:=⟨⟩
theorem tw9803665846179169185:True:=⟨⟩
theorem tw3850534388410632857:True:=⟨⟩
theorem tw6023175622899798881:True:=⟨⟩
theorem tw2486219774994761761:True:=⟨⟩
theorem tw4293952061888446015:True:=⟨⟩
theorem tw17366925434556758022:True:=⟨⟩
theorem tw15523507257440411082:True:=⟨⟩
theorem tw15085358824585830545:True:=⟨⟩
theorem tw2626897871705403472:True:=⟨⟩
theorem tw15057886121799272703:True:=⟨⟩
theorem tw11713534215914822994:True:=⟨⟩
theorem tw1411164841414694394:True:=⟨⟩
theorem tw12503471167229531377:True:=⟨⟩
theorem tw7573439942508288700:True:=⟨⟩
theorem tw9052960552262232383:True:=⟨⟩
theorem tw2629648570232543580:True:=⟨⟩
theorem tw1410293180699714207:True:=⟨⟩
theorem tw4943507171703936712:True:=⟨⟩
theorem tw5310505016222777209:True:=⟨⟩
theorem tw8731677216503217022:True:=⟨⟩
theorem tw2598247228024039934:True:=⟨⟩
theorem tw15502027261628347838:True:=⟨⟩
theorem tw751125330319794042:True:=⟨⟩
theorem tw12333029105172420221:True:=⟨⟩
theorem tw7134162679340832806:True:=⟨⟩
theorem tw17119659485963514532:True:=⟨⟩
theorem tw637427158379914821:True:=⟨⟩
theorem tw3112646676368045848:True:=⟨⟩
theorem tw7903380450101941984:True:=⟨⟩
theorem tw14906553633209293398:True:=⟨⟩
theorem tw8825694567711198428:True:=⟨⟩
theorem tw15246194860440146031:True:=⟨⟩
theorem tw15789961493179312588:True:=⟨⟩
theorem tw10874466882147567723:True:=⟨⟩
theorem tw6236826481449034888:True:=⟨⟩
theorem tw817501546645684270:True:=⟨⟩
theorem tw17325108869717512029:True:=⟨⟩
theorem tw5114510333122958789:True:=⟨⟩
theorem tw12882991581272083514:True:=⟨⟩
theorem tw11819608925094543338:True:=⟨⟩
theorem tw7033340115063952980:True:=⟨⟩
theorem tw7091095563959917433:True:=⟨⟩
theorem tw10706236818329725185:True:=⟨⟩
theorem tw457804033322680796:True:=⟨⟩
theorem tw9051316548940306604:True:=⟨⟩
theorem tw14900782209107431744:True:=⟨⟩
theorem tw11368049450147646255:True:=⟨⟩
theorem tw6998375293201294428:True:=⟨⟩
theorem tw1068677520496475439:True:=⟨⟩
theorem tw5869342403675593766:True:=⟨⟩
theorem tw2241267393352841524:True:=⟨⟩
theorem tw2927165316679790730:True:=⟨⟩
theorem tw2652902603901400084:True:=⟨⟩
theorem tw11586731430474529280:True:=⟨⟩
theorem tw8408038050552973981:True:=⟨⟩
theorem tw12651332954576208239:True:=⟨⟩
theorem tw13307644424327247825:True:=⟨⟩
theorem tw2371765086305916333:True:=⟨⟩
theorem tw7351544752350211364:True:=⟨⟩
theorem tw15970723471119311241:True:=⟨⟩
theorem tw14510032190807927655:True:=⟨⟩
theorem tw16034524228230296556:True:=⟨⟩
theorem tw873951852830999559:True:=⟨⟩
theorem tw5164086209170701178:True:=⟨⟩
theorem tw3040264124565158462:True:=⟨⟩
theorem tw7464732453288559776:True:=⟨⟩
theorem tw1950198404144443840:True:=⟨⟩
theorem tw1717033253599985978:True:=⟨⟩
theorem tw8002127587238505091:True:=⟨⟩
theorem tw2295977576247724533:True:=⟨⟩
theorem tw10098117052367226944:True:=⟨⟩
theorem tw10807279802827739170:True:=⟨⟩
theorem tw2728203216941332275:True:=⟨⟩
theorem tw16226760468705026861:True:=⟨⟩
theorem tw9568958737929164129:True:=⟨⟩
theorem tw10494815933604251548:True:=⟨⟩
theorem tw2466135487051445632:True:=⟨⟩
theorem tw13879384061654796780:True:=⟨⟩
theorem tw1681964315711344999:True:=⟨⟩
theorem tw11026292568131380386:True:=⟨⟩
theorem tw8169914604567437220:True:=⟨⟩
theorem tw16526466624015964458:True:=⟨⟩
theorem tw3681653970159152201:True:=⟨⟩
theorem tw8566640482844498998:True:=⟨⟩
theorem tw2554645273408893849:True:=⟨⟩
theorem tw11353851209065359224:True:=⟨⟩
theorem tw9853199002159996766:True:=⟨⟩
theorem tw3857765242845744952:True:=⟨⟩
theorem tw17948853322261100628:True:=⟨⟩
theorem tw6307527902986733439:True:=⟨⟩
theorem tw7017395371801649089:True:=⟨⟩
theorem tw12809985034760799347:True:=⟨⟩
theorem tw15699006200961443926:True:=⟨⟩
theorem tw13820587148117267112:True:=⟨⟩
theorem tw9781358656733816481:True:=⟨⟩
theorem tw5436315310203836602:True:=⟨⟩
theorem tw17226210713850207671:True:=⟨⟩
theorem tw3995883745621228789:True:=⟨⟩
theorem tw13244733154450839561:True:=⟨⟩
theorem tw183084424137865523:True:=⟨⟩
theorem tw4800842711349071482:True:=⟨⟩
theorem tw4634084032334721487:True:=⟨⟩
theorem tw15215606777778870924:True:=⟨⟩
theorem tw5285336004309298825:True:=⟨⟩
theorem tw5848505137208434757:True:=⟨⟩
theorem tw4815190226008011969:True:=⟨⟩
theorem tw13598822156802021894:True:=⟨⟩
theorem tw17598837278992931841:True:=⟨⟩
theorem tw631392771504913280:True:=⟨⟩
theorem tw9783492407868319158:True:=⟨⟩
theorem tw15147059488447578406:True:=⟨⟩
theorem tw8872455927117539837:True:=⟨⟩
theorem tw10403305851514123452:True:=⟨⟩
theorem tw4160349243492252035:True:=⟨⟩
theorem tw7090440023895150325:True:=⟨⟩
theorem tw18292866996871610164:True:=⟨⟩
theorem tw10798615919480592948:True:=⟨⟩
theorem tw18173283237352884365:True:=⟨⟩
theorem tw6198059505304272526:True:=⟨⟩
theorem tw6091860330783468346:True:=⟨⟩
theorem tw3352266604134916709:True:=⟨⟩
theorem tw1915879350412478935:True:=⟨⟩
theorem tw8468128268296435257:True:=⟨⟩
theorem tw3349250105736461512:True:=⟨⟩
theorem tw2038298826880441070:True:=⟨⟩
theorem tw18189689414743431504:True:=⟨⟩
theorem tw13548999740369279730:True:=⟨⟩
theorem tw4837888949804498144:True:=⟨⟩
theorem tw16542869037506796093:True:=⟨⟩
theorem tw15191459760804695583:True:=⟨⟩
theorem tw5318046925146176501:True:=⟨⟩
theorem tw5773069576519595672:True:=⟨⟩
theorem tw13235915628474488749:True:=⟨⟩
theorem tw10469717193209950020:True:=⟨⟩
theorem tw7962058111595562545:True:=⟨⟩
theorem tw1962557860110535009:True:=⟨⟩
theorem tw7685867908062408731:True:=⟨⟩
theorem tw7631341449766083817:True:=⟨⟩
theorem tw15275765868631326588:True:=⟨⟩
theorem tw10020507870252079344:True:=⟨⟩
theorem tw14437422873097222534:True:=⟨⟩
theorem tw15142406498803528749:True:=⟨⟩
theorem tw1486045979352325567:True:=⟨⟩
theorem tw16603364184008439857:True:=⟨⟩
theorem tw2685611175014079446:True:=⟨⟩
end PySem.W.Fast
namespace CC
open PySem PySem.W PyProof.Rows
set_option maxRecDepth 100000 in
set_option maxHeartbeats 0 in
theorem main:PySem.Challenge.rw_loopwright_k92_lines_of_a_desk_refused.Holds:=by
 w_on;o_law;k_head;(case hw=>w_witness2)
 k_fill
 refine L2.b0H (l:=PySem.Challenge.rw_loopwright_k92_lines_of_a_desk_refused) (k:=11) (sp:=L2.a2z) rfl rfl ⟨rfl,by decide,by decide⟩ (fun w h Y=>PySem.W.kIn_of Y) L2.a6F ?F
 case F =>
  intro w mg fa h KX G hmg;refine' L2.b6X KX G hmg ?aC ?d1 ?d2 ?d3 ?d4 ?d5 ?d6 ?d7 ?d8 ?d9 ?d10 ?d11 ?d12 ?d13 ?d14 ?d15 ?d16 ?d17 ?d18 ?d19 ?d20 ?d21 ?d22 ?d23 ?d24 ?d25 ?a26 ?i26 ?l26 ?c26 ?k26 ?a27 ?i27 ?l27 ?c27 ?k27 ?a28 ?i28 ?l28 ?c28 ?k28 ?a29 ?i29 ?l29 ?c29 ?k29 ?a30 ?i30 ?l30 ?c30 ?k30 ?d31 ?d32 ?d33 ?d34 ?d35 ?pg ?hd ?po ?sa ?mk ?kc ?nK ?n_cit ?l_cit ?s_cit ?nx ?x_ob ?nx1 ?nx2 ?x_tw ?z_b ?g_MAKING ?l_MAKING ?g_MOST_LETTERS ?g_MOST_SIGNS_IN_NAME ?g_MOST_STRANDS
  (case d1|d2|d3|d4|d5|d6|d7|d8|d9|d10|d11|d12|d13|d14|d15|d16|d17|d18|d19|d20|d21|d22|d23|d24|d25|d31|d32|d33|d34|d35=>(refine' L2.FD0.of KX G ?a ?l ?c ?k;(case a|l|c|k=>change _=_;k_is)))
  (case aC|a26|i26|l26|c26|k26|a27|i27|l27|c27|k27|a28|i28|l28|c28|k28|a29|i29|l29|c29|k29|a30|i30|l30|c30|k30|pg|hd|po|sa|mk|kc|nK|n_cit|l_cit|nx|nx1|nx2|g_MAKING|l_MAKING|g_MOST_LETTERS|g_MOST_SIGNS_IN_NAME|g_MOST_STRANDS=>change _=_;k_is)
  (case z_b=>simp only[List.mem_cons,c0L,or_false,forall_eq_or_imp,forall_eq];(repeat' apply c2M)<;>(change _=_;k_is))
  (case s_cit=>kernel_rfl)
  (case x_ob=>kernel_rfl)
  (case x_tw=>kernel_rfl)
end CC
theorem PySem.Challenge.cw_loopwright_k92_lines_of_a_desk_refused_holds : PySem.Challenge.rw_loopwright_k92_lines_of_a_desk_refused.Holds := by
 exact CC.main
