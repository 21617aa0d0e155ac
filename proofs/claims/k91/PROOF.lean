import PyProof.Rows.All
import Wide.All
import OpenK.AllK
import Wide.FinOn
import Lean
import PyProof.EqAt
import PyProof.EqKinds
import PyProof.TupleCall
import PySem.Challenge.RW_loopwright_k91_whole_a_desk_does_what_is
open List renaming length_map->c8a,getElem?_eq_getElem->c8b,length_cons->c8e,map_cons->c8g,getElem?_map->c8i,size_toArray->c8j,getElem?_eq_some_iff->c8k,getD_eq_getElem?_getD->c8l,mem_cons_of_mem->c8m,mem_cons->c8n,length_append->c8p,mem_map->c8q,mem_cons_self->c8r,mem_of_getElem?->c8s,map_append->c8v,take_length->c8y,mem_singleton->c8A,replicate->c8B,range->c8I,not_mem_nil->c8M,map->c8N,mem_append_left->c8O,mem_append_right->c8Q,append_nil->c8R,mem_append->c8U,flatMap_cons->c8V,getElem?_append_right->c8X,take_add_one->c8Y,length_take->c9b,length_reverse->c9c,eq_nil_of_length_eq_zero->c9e,map_nil->c9g,find?_cons->c9h,map_map->c9l,exists_cons_of_length_eq_add_one->c9m,pairwise_map->c9n,getElem?_range->c9r,length_drop->c9s,append_assoc->c9t,length_range->c9u,length_singleton->c9A,getElem_mem->c9B,pairwise_singleton->c9D,pairwise_cons->c9F,take_of_length_le->c9I,nodup_cons->c9J,length_set->c9K,length_nil->c9L,all_eq_true->c9N,replicate_succ->c9P,flatMap_append->c9Q,getElem?_reverse->c9T,mem_range->c9U,mem_filter->c9V,cons_ne_nil->c9Y,reverse_cons->d0b,getElem?_append_left->d0c,any_cons->d0d,foldl_cons->d0f,flatMap_nil->d0i,cons_append->d0j,filterMap_cons->d0n,length->d0o,map_congr_left->d0p,lookup->d0x,getElem?_set_ne->d0z,mem_of_mem_take->d0A,flatten_cons->d0C,nil_append->d0D,foldl_append->d0F,filter_cons->d0L,flatMap_map->d0M,getElem?_set_self->d0O,lookup_append->d0Q,idxOf_lt_length_of_mem->d0Y,all_cons->d1c,reverse_reverse->d1g,mem_of_mem_drop->d1h,drop_eq_getElem_cons->d1l,filter_append->d1A,map_drop->d1B,take_append_drop->d1J,getLast?_eq_some_getLast->d1O,dropLast_concat_getLast->d1T,range_succ->d2b,getD_cons_zero->d2d,drop_zero->d2w,mem_or_eq_of_mem_set->d2y,foldl->d2C,idxOf_lt_length_iff->d2I,isEmpty_cons->d2M,getElem?_replicate->d2R,filter_cons_of_pos->d2T,filter_cons_of_neg->d2U,getElem?_cons_zero->d2W,lookup_cons->d2Y,mem_reverse->d2Z,map_reverse->d3a,getLast_mem->d3c,not_of_lt_findIdx->d3g,of_mem_zip->d3j,length_filter_le->d3l,set_append_right->d3q,filter_nil->d3t,zip->d3z,getElem?_of_mem->d3F,dropLast_concat->d3H,replicate_succ'->d3J,zip_cons_cons->d4m,set_cons_succ->d4n,getElem_idxOf->d4o,map_take->d4q,map_replicate->d4r,nodup_append->d4D,all_map->d4K,countP_cons->d4U,mem_flatMap->d5a,any_eq_true->d5c,range'->d5q,count_cons->d5r,forIn_nil->d5u,take_zero->d5w,Nodup->d5G,any_map->d5Y,map_set->d5Z,idxOf->d6n
open PySem.Str renaming ofString->c8c,empty->d3Z,join->d5f
open Nat renaming le_refl->c8d,lt_of_lt_of_le->c8w,le_trans->c8C,lt_of_le_of_lt->c8D,ne_of_lt->c8P,zero_le->c9j,lt_irrefl->c9x,lt_succ_self->d0h,ne_of_gt->d0G,lt_trans->d0H,le_of_lt->d0T,mul_le_mul->d1m,min_eq_left->d1y,le_succ->d1C,add_mul->d1F,le_add_right->d1N,one_mul->d2a,le_of_eq->d2i,mul_succ->d2n,sub_self->d2o,add_sub_cancel->d2q,not_lt->d2G,length_repr_le_iff->d3h,zero_add->d3r,mul_le_mul_right->d3G,pow_le_pow_right->d3I,sub_lt_sub_left->d3R,mul_one->d3V,add_assoc->d4p,mul_comm->d4J,sub_zero->d4L,zero_mul->d4N,min_le_right->d4Q,min_eq_right->d4Z,succ_le_succ->d5b,add_le_add->d5z,mul_assoc->d5N,succ_mul->d5T,add_comm->d5U,pow_zero->d5W,pow_succ->d5X,add_zero->d6a,log2_lt->d6h,mul_add->d6k
open PySem renaming wpAny_bind->c8f,Value->c8t,Shared->c8u,wpAny_pure->c8x,Program->c8G,Around->c8Z,World->c9d,wpAny_Call_Name_kw->c9o,sizeLine_eq->c9z,wpAny_newObj_type->c9C,wpAny_mono->c9G,call_meets->c9X,wpAny_truthy_bool->d0l,NameKind->d0q,wpAny_call_entry->d0s,wpAny_holding->d0t,FuncData->d0u,builtinLookup_eq_fast->d0w,wpAny_passesOwn->d0B,wpAny_callSpecial?_slot->d0J,wpAny_getItem_str_slice->d0K,tupleKind_room_in1->d0P,wpAny_execs_nil->d0U,wpAny_of_eq->d0V,codeAny_builtin->d0W,wpAny_noRaise->d1f,wpAny_field->d1p,codeAny_mono->d1s,Keyword->d1v,Builtin->d1w,typeLookup_type->d1x,wpAny_loadPart_at->d1G,wpAny_typeOf->d1I,codeAny_handlers_test->d1L,Scope->d1R,plainId_quiet->d1S,typeIs_str->d1U,wpAny_specialOf->d1W,post_val_or_str->d1Y,wpAny_handleBy_cons->d2c,wpAny_binaryOp_repeat_ref->d2u,isSubtype_type->d2v,wpAny_Call_method->d2E,rangeSize_one->d2Q,noFill_tuple_add->d2X,wpAny_Call_method_late->d3f,call_meetsIn->d3m,wpAny_loadPart'->d3p,wpAny_call->d3w,typeIs_int->d3x,wpAny_loadName_local->d3A,wpAny_pyIter_revIter->d3E,callType_codes->d3K,wpAny_loadName_cell->d3L,seqIndex_of->d3P,wpAny_standAt->d3Y,seq_tuple_add->d4a,IsPart->d4b,wpAny_pyIter_tuple->d4g,wpAny_attempt->d4h,wpAny_setField_rec->d4i,wpAny_assign_Name->d4s,wpAny_sequenceKey->d4t,slot_list_getitem->d4u,wpAny_pyIter_list->d4x,object_init_meets->d4y,wpAny_pyIter_enum->d4B,call_range_1->d4E,concat_meets->d4H,seqIndex_neg->d4I,wpAny_execs_cons->d4P,wpAny_isInstance->d4V,entryFor_of_tree->d4W,wpAny_Try_except->d4X,GenState->d5d,Operator->d5e,small_one->d5h,BindsTo->d5i,DictEntry->d5k,pushCells_keeps->d5m,call_list_range->d5n,codeAny_of_tree->d5o,JoinOk->d5p,wpAny_Name->d5D,wpAny_rule->d5F,CmpOp->d5I,Model->d5P,PassesOwn->d5R,Result->d5S,IsRange->d6i,ItemsOf->d6j
open PySem.Heap renaming get?_push_of_some->c8h,lt_size->c8o,get?_push_size->c8E,size_push->d0N,SameBut->d1r,get?_update_other->d3e,get?_update_self->d3k,dictOf_iff->d5t,IsRevIter->d5x,MadeExcOf->d5y,FlyingW->d5V
open Option.some renaming inj->c8z
open Bool renaming false_ne_true->c8F,and_eq_true->c8S,not_eq_true'->d0E,false_and->d1i,eq_false_iff->d1D,and_false->d2t,or_eq_true->d3o,false_or->d4f,not_false->d5B,or_false->d5J,and_true->d5K
open PyProof.Rows renaming callWith_type1->c8H,boot_tuple->c8W,slot_tuple_getitem->c9a,boot_str->c9q,boot_dict->d0r,boot_abs->d0Z,boot_all->d1a,boot_sorted->d1t,callWith_builtin1->d1H,boot_int->d1M,boot_range->d2A,AllBare->d2O,subscriptTail_builtinR->d3d,boot_max->d3s,entry_tuple_getitem->d3N,IntsAre->d3O,args_tuple_getitem->d4c,entry_list_sort->d5s,Subscript_->d5E,IsTup->d5O,Call_->d6e,StrsAre->d6l
open Prod renaming fst->c8J,ext->d6m
open Array renaming length_toList->c8K,getElem?_toList->c9p,getElem?_eq_getElem->c9M,toArray_toList->d1Q,getElem_of_mem->d3C,toList_inj->d4Y,toList->d5Q
open Option renaming map_eq_some_iff->c8L,isSome_iff_exists->c9y,isSome_map->d1d,isSome_some->d4e,getD_none->d4R
open PySem.Value renaming ref->c8T,int->d0R,none->d2z,str->d3i,bool->d3v,float->d5g,type->d5C,isStrOf->d5H,isInt->d6b,bytes->d6c
open PySem.Builtin.Range renaming rangeSize->c9f,small->d1q
open PySem.PassesOwn renaming never->c9i
open False renaming elim->c9k
open Classical renaming byContradiction->c9v,not_not->d4C
open PySem.PyData renaming keyHash->c9w
open PySem.Calls renaming spliced_cons->c9E,callWith_builtin->c9H,evalArgs_plain->c9W,spliced_nil->c9Z,Name_function_global->d2e,call_function_entry->d2x
open PySem.Txt renaming join->c9O,split->d1k,slice->d4j
open PySem.Builtin.Tuple renaming tupleExact->c9R,tupleItemsOf->d2g,tupleTooMany->d2h
open PySem.Builtin.List renaming listTooLong->c9S
open Int renaming toNat_natCast->d0a,ne_of_gt->d0I,ne_of_lt->d1K,zero_add->d2p,emod_lt_of_pos->d2s,neg_neg->d2S,emod_nonneg->d3u,mul_one->d3M,lt_trans->d4M,add_zero->d4O,natAbs_neg->d5v
open Sum renaming inl->d0e,inr->d0S
open List.Nodup renaming length_le_of_subset->d0g
open PySem.Around renaming under_plainId->d0k,under->d4F
open True renaming intro->d0m
open PySem.NameKind renaming free->d0v,cell->d1e
open PySem.Builtin.Slice renaming slicePlaces->d0y,sliceAdjust->d1j,sliceApplied->d2f
open PySem.StrLaws renaming glued_eq_join->d0X,join_split->d4k,split_free->d4l
open PySem.SeqAt renaming EqAt->d1b,RcNeAt->d2k,RcAt->d3y
open PySem.F renaming slot_tuple_mul->d1n,plain_reversed_new->d1P,slot_int_rmul->d1V,args_tuple_mul_2->d2l,args_str_split_2->d2m,entry_tuple_mul->d2H,entry_str_split->d2K,slot_str_split->d3b,args_list_extend_2->d3B,args_object_init_2->d3D,entry_list_extend->d3Q,entry_object_init->d3S,slot_list_extend->d4d,args_int_rmul_2->d4v,slot_tuple_rmul->d4w,plain_list_iadd->d4z,plain_tuple_new->d4A,slot_int_index->d4S,entry_int_rmul->d4T,fills_int_mul->d5j
open Sum.inl renaming inj->d1o,injEq->d5M
open Ne renaming symm->d1u
open PySem.Builtin.Str renaming occurrences->d1z,glued->d1E,partsBetween->d2J,strKind->d3T,tooLong->d3U
open ForInStep renaming yield->d1X
open List.cons renaming injEq->d1Z
open PySem.SeqAt.EqAt renaming int_int->d2j,int_str->d3W,str_int->d3X
open Nat.succ renaming inj->d2r
open PySem.Obj renaming mapSeq->d2B,mapFields->d5L
open List.Pairwise renaming nil->d2D
open Or renaming inr->d2F,inl->d3n
open Decidable renaming not_not->d2L
open Sum.inr renaming inj->d2N
open PySem.IsRange renaming new->d2P
open PySem.Builtin.Dict renaming updateFrom->d2V
open PySem.Code renaming isFrame->d4G,frames->d6f
open PySem.Heap.DictOf renaming new->d5l
open PySem.Walks renaming strAscii->d5A
open PySem.Data renaming fields->d6d
open Prod.mk renaming inj->d6g
set_option Elab.async false
set_option linter.all false
set_option maxRecDepth 100000
noncomputable abbrev VPR:=PySem.Value->PySem.Shared->Prop
noncomputable abbrev SOV:=PySem.Str->Option PySem.Value
noncomputable abbrev PNS:=List (PySem.Addr×PySem.Obj)
noncomputable abbrev AOV:=Array (Option PySem.Value)
noncomputable abbrev OVA:=Option PySem.Value
noncomputable abbrev LLI:=List (List Int)
noncomputable abbrev LSI:=List Int
noncomputable abbrev LSS:=List PySem.Str
noncomputable abbrev LSV:=List PySem.Value
noncomputable abbrev LSE:=List PySem.Expr
namespace L2
open PySem PySem.Spec PyProof.Rows
noncomputable abbrev Key:=Sum Int Str
noncomputable def b1X:Key->c8t->Bool
 |.inl k,v=>d6b k v
 |.inr x,v=>d5H x v
noncomputable def keyH(w:c9d):Key->Int
 |.inl k=>hashInt k
 |.inr x=>hashStr w x
theorem a0U:∀{k:Key} {v:c8t},b1X k v=true->(∃i t,k=d0e i/\v=d0R i t)\/(∃x t,k=d0S x/\v=d3i x t)
 | .inl i,v,h=>by
   obtain⟨t,e⟩:=Value.isInt_shape (k:=i) (v:=v) h;exact .inl ⟨i,t,rfl,e⟩
 | .inr x,v,h=>by
   obtain⟨t,e⟩:=Value.isStrOf_shape (x:=x) (v:=v) h;exact .inr ⟨x,t,rfl,e⟩
theorem b3I(i:Int)(t:Tok):b1X (.inl i) (.int i t)=true:=by simp[b1X,d6b]
theorem b3H(x:Str)(t:Tok):b1X (.inr x) (.str x t)=true:=by simp[b1X,d5H]
theorem c6H(a b:Int):decide ((d0e a:Key)=d0e b)=(a==b):=by
 by_cases e:a=b
 ·subst e;simp
 ·have h:¬(d0e a:Key)=d0e b:=fun q=>e (d1o q);rw[decide_eq_false h];exact(beq_eq_false_iff_ne.mpr e).symm
theorem c6E(a b:Str):decide ((d0S a:Key)=d0S b)=decide (a=b):=by
 by_cases e:a=b
 ·subst e;simp
 ·have h:¬(d0S a:Key)=d0S b:=fun q=>e (d2N q);rw[decide_eq_false h,decide_eq_false e]
theorem c6G(a:Int)(b:Str):decide ((d0e a:Key)=d0S b)=false:=decide_eq_false (fun q=>nomatch q)
theorem c6F(a:Str)(b:Int):decide ((d0S a:Key)=d0e b)=false:=decide_eq_false (fun q=>nomatch q)
noncomputable def a0C(prog:c8G)(w:c9d):PySem.KeyKind prog w Key where
 is:=b1X
 hash:=keyH w
 inj:=fun v a b ha hb=>by
  rcases a0U ha with ⟨i,t,rfl,rfl⟩|⟨x,t,rfl,rfl⟩
  ·rcases a0U hb with ⟨j,u,rfl,e⟩|⟨y,u,rfl,e⟩
   ·injection e with e1 _;rw[e1]
   ·exact nomatch e
  ·rcases a0U hb with ⟨j,u,rfl,e⟩|⟨y,u,rfl,e⟩
   ·exact nomatch e
   ·injection e with e1 _;rw[e1]
 byValue:=fun k v h=>by
  rcases a0U h with ⟨i,t,rfl,rfl⟩|⟨x,t,rfl,rfl⟩<;>rfl
 pyHash:=fun hv h=>by
  rcases a0U hv with ⟨i,t,rfl,rfl⟩|⟨x,t,rfl,rfl⟩
  ·exact wpAny_pyHash_int h
  ·exact wpAny_pyHash_str h
 eqBool:=fun hu hv h=>by
  rcases a0U hu with ⟨i,t,rfl,rfl⟩|⟨x,t,rfl,rfl⟩
  ·rcases a0U hv with ⟨j,u,rfl,rfl⟩|⟨y,u,rfl,rfl⟩
   ·rw[c6H] at h;exact wpAny_eqBool_int h
   ·rw[c6G] at h;exact d3W i t y u _ _ _ _ h
  ·rcases a0U hv with ⟨j,u,rfl,rfl⟩|⟨y,u,rfl,rfl⟩
   ·rw[c6F] at h;exact d3X x t j u _ _ _ _ h
   ·rw[c6E] at h;exact wpAny_eqBool_str h
 «strs»:=fun k x t v h=>by
  rcases a0U h with ⟨i,u,rfl,e⟩|⟨y,u,rfl,e⟩
  ·exact nomatch e
  ·injection e with e1 _;subst e1;cases v<;>rfl
theorem a7G(prog:c8G)(w:c9d)(k:Key)(v:c8t):(a0C prog w).is k v=b1X k v:=rfl
theorem b5b(prog:c8G)(w:c9d)(i:Int)(t:Tok):(a0C prog w).is (.inl i) (.int i t)=true:=b3I i t
theorem b5a(prog:c8G)(w:c9d)(x:Str)(t:Tok):(a0C prog w).is (.inr x) (.str x t)=true:=b3H x t
inductive V where
 |non|bl (b:Bool)|int (i:Int)|str (x:Str)|byt (b:Array UInt8)|flt (b:UInt64)|ref (a:Addr)|ty (n:String)
 deriving DecidableEq
noncomputable def RelV:V->c8t->Prop
 |.non,u=>u=d2z
 |.bl b,u=>u=d3v b
 |.int i,u=>∃t,u=d0R i t
 |.str x,u=>∃t,u=d3i x t
 |.byt b,u=>∃t,u=d6c b t
 |.flt b,u=>∃t,u=d5g b t
 |.ref a,u=>u=c8T a
 |.ty n,u=>u=d5C n
noncomputable abbrev Vals:List V->LSV->Prop:=Paired RelV
theorem Vals.length{xs:List V}{us:LSV}(r:Vals xs us):xs.length=us.length:=Paired.length r
theorem Vals.get:∀{xs:List V} {us:LSV} {i:Nat} {x:V},Vals xs us->xs[i]?=some x->∃u,us[i]?=some u/\RelV x u
 |_,_,_,_,.nil,e=>by simp at e
 |_,_,0,_,.cons r _,e=>by simp at e;subst e;exact⟨_,rfl,r⟩
 | _,_,i+1,x,.cons _ t,e=>by
   obtain⟨u,h1,h2⟩:=Vals.get (i:=i) (x:=x) t (by simpa using e);exact⟨u,by simpa using h1,h2⟩
theorem Vals.set{x:V}{u:c8t}(r:RelV x u):∀{xs:List V} {us:LSV} (i:Nat),Vals xs us->Vals (xs.set i x) (us.set i u)
 |_,_,_,.nil=>.nil
 |_,_,0,.cons _ t=>.cons r t
 |_,_,i+1,.cons q t=>.cons q (Vals.set r i t)
theorem Vals.append:∀{xs ys:List V} {us ws:LSV},Vals xs us->Vals ys ws->Vals (xs++ys) (us++ws)
 |_,_,_,_,.nil,s=>s
 |_,_,_,_,.cons r t,s=>.cons r (Vals.append t s)
theorem Vals.take:∀{xs:List V} {us:LSV} (n:Nat),Vals xs us->Vals (xs.take n) (us.take n)
 |_,_,0,_=>.nil
 |_,_,_+1,.nil=>.nil
 |_,_,n+1,.cons r t=>.cons r (Vals.take n t)
theorem Vals.drop:∀{xs:List V} {us:LSV} (n:Nat),Vals xs us->Vals (xs.drop n) (us.drop n)
 |_,_,0,r=>r
 |_,_,_+1,.nil=>.nil
 |_,_,n+1,.cons _ t=>Vals.drop n t
noncomputable def RelO:Option V->OVA->Prop
 |some v,some u=>RelV v u
 |none,none=>True
 |_,_=>False
noncomputable def KV{κ:Type}:List (κ×V)->List (κ×c8t)->Prop:=Paired fun(p:κ×V) (q:κ×c8t)=>p.1=q.1/\RelV p.2 q.2
noncomputable def kV:Key->V
 |.inl i=>.int i
 |.inr x=>.str x
inductive HO where
 /-- a list -/
 |lst (xs:List V)
 /-- a tuple (never changes) -/
 |tup (xs:List V)
 /-- a dict whose keys are ints and texts;one whose keys are tuples of ints and texts (the empty one is both) -/
 |dK (kvs:List (Key×V))|dT (kvs:List (List Key×V))
 /-- a set of ints: its members,its size -/
 |set (S:Int->Bool) (n:Nat)
 /-- an instance of the class at C,its dict at dx,its attributes -/
 |ins (C dx:Addr) (fs:List (Str×V))
 /-- the dict of the instance at x -/
 |own (x:Addr)
 /-- the dict of an exception -/
 |xd (fs:List (Str×V))
 /-- a bound method,f of x -/
 |met (f x:Addr)
 /-- a range object lo,lo+1,.. below hi -/
 |rng (lo hi:Int)
 /-- a thing that is known to the object (the script;a dict while a loop walks it): read,never written while it is so -/
 |frz (o:Obj) (u:HO)
 /-- a code object's table -/
 |tbl (ps:Array c8t)
 /-- any other thing,by what is true of its one object (a def of one's own: SetO a S n:=HO.ext fun h=>..) -/
 |ext (φ:Heap->Prop)
noncomputable abbrev Hp:=Addr->Option HO
noncomputable def a3m(h:Heap)(a:Addr)(items:Array c8t):Prop:=∃o,h.get? a=some o/\o.cls=.type "tuple"/\o.dict=none/\∃n,o.data=.seq items n
theorem a3m.t{h:Heap}{a:Addr}{items:Array c8t}(x:a3m h a items):d5O h a items:=let ⟨o,e,c,_,n,d⟩:=x;⟨o,e,c,n,d⟩
theorem a3m.lt{h:Heap}{a:Addr}{items:Array c8t}(x:a3m h a items):a<h.objs.size:=x.t.lt
theorem a3m.new(h:Heap)(items:Array c8t):a3m (h.push { cls:=.type "tuple",data:=.seq items }) h.objs.size items:=⟨_,c8E _ rfl,rfl,rfl,0,rfl⟩
noncomputable def upd(H:Hp)(a:Addr)(o:HO):Hp:=fun b=>if b=a then some o else H b
theorem a0O{H:Hp}{a:Addr}{o:HO}:upd H a o a=some o:=by unfold upd;rw[if_pos rfl]
theorem a0B{H:Hp}{a b:Addr}{o:HO}(h:b≠a):upd H a o b=H b:=by unfold upd;rw[if_neg h]
theorem c7J{H:Hp}{a b:Addr}{o u:HO}(h:H a=some o)(h':H b=some u)(d:o≠u):a≠b:=by
 intro e;subst e;rw[h] at h';exact d (c8z h')
theorem a0A{H:Hp}{a b:Addr}{o:HO}(h:H a=some o)(h':H b=none):a≠b:=by
 intro e;subst e;rw[h] at h';cases h'
section
variable(P:c8G)(w:c9d)
noncomputable def a1d(H:Hp)(h:Heap)(a:Addr):HO->Prop
 |.lst xs=>xs.length<=sizeLine/\∃(its:LSV) (n:Nat),Vals xs its/\h.get? a=some { cls:=.type "list",data:=.seq its.toArray n }
 |.tup xs=>xs.length<=sizeLine/\∃its:LSV,Vals xs its/\a3m h a its.toArray
 |.dK kvs=>kvs.length<=sizeLine/\(a==sysModules)=false/\∃vs,KV kvs vs/\h.DictOf (a0C P w) a vs
 | .dT kvs=>kvs.length<=sizeLine/\(a==sysModules)=false/\∃xs:List (List Key×Addr×c8t),
   Paired (fun(p:List Key×V) (q:List Key×Addr×c8t)=>p.1=q.1/\H q.2.1=some (.tup (p.1.map kV))/\RelV p.2 q.2.2) kvs xs /\
   ∃o es ep,h.get? a=some o/\o.ExactDict/\o.data=.dict es ep/\es.toList=xs.map (entryOfKey (tupleKind (a0C P w)))/\(xs.map (·.1)).Nodup
 |.set S n=>h.SetOf (intKind P w) a S n
 | .ins C dx fs=>H dx=some (.own a)/\fs.length<=1000/\dx≠a/\h.get? a=some (PySem.W.instObj C dx) /\
   ∃mA,h.Ns1 dx mA/\(∀f,RelO (fs.lookup f) (mA f))/\PySem.Within mA (fs.map (·.1))
 |.own _=>∃o,h.get? a=some o
 |.xd fs=>∃mA,h.Ns1 a mA/\∀f,RelO (fs.lookup f) (mA f)
 |.rng lo hi=>∃t u v,h.get? a=some { cls:=.type "range",data:=.fields #[.int lo t,.int hi u,.int 1 v] }
 |.frz o u=>h.get? a=some o/\a1d H h a u
 |.tbl ps=>h.get? a=some { cls:=.none,data:=.fields ps }
 |.met f x=>h.get? a=some (PySem.W.methodObj (.ref f) (.ref x))
 |.ext φ=>φ h/\(∃o,h.get? a=some o)/\∀h1 h2:Heap,φ h1->(∀o,h1.get? a=some o->h2.get? a=some o)->φ h2
noncomputable def HOk(H:Hp)(h:Heap):Prop:=∀a o,H a=some o->a1d P w H h a o
end
section
variable{P:c8G}{w:c9d}{H H':Hp}{h h':Heap}{a:Addr}{o:HO}
theorem a1d.lt(x:a1d P w H h a o):a<h.objs.size:=by
 cases o with
 |lst xs=>obtain⟨_,_,_,_,e⟩:=x;exact c8o e
 |tup xs=>obtain⟨_,_,_,p⟩:=x;exact p.lt
 |dK kvs=>obtain⟨_,_,_,_,o,_,_,e,_⟩:=x;exact c8o e
 |dT kvs=>obtain⟨_,_,_,_,o,_,_,e,_⟩:=x;exact c8o e
 |set S n=>obtain⟨o,_,_,_,e,_⟩:=x;exact c8o e
 |ins C dx fs=>obtain⟨_,_,_,e,_⟩:=x;exact c8o e
 |own y=>obtain⟨_,e⟩:=x;exact c8o e
 |xd fs=>obtain⟨_,⟨_,_,_,e,_⟩,_⟩:=x;exact c8o e
 |rng lo hi=>obtain⟨_,_,_,e⟩:=x;exact c8o e
 |frz ob u=>obtain⟨e,_⟩:=x;exact c8o e
 |tbl ps=>exact c8o (show h.get? a=some _ from x)
 |met f y=>exact c8o (show h.get? a=some _ from x)
 |ext φ=>obtain⟨_,⟨_,e⟩,_⟩:=x;exact c8o e
theorem Paired.mapP{α β:Type}{F G:α->β->Prop}:∀{l₁:List α} {l₂:List β},Paired F l₁ l₂->(∀a b,F a b->G a b)->Paired G l₁ l₂
 |_,_,.nil,_=>.nil
 |_,_,.cons r t,f=>.cons (f _ _ r) (Paired.mapP t f)
theorem a1d.stay(x:a1d P w H h a o)(k:∀b u,(b=a\/H b=some (.own a))->h.get? b=some u->h'.get? b=some u)
  (ho:∀b,H b=some (.own a)->H' b=some (.own a)) (ht:∀b xs,H b=some (.tup xs)->H' b=some (.tup xs)):a1d P w H' h' a o:=by
 induction o with
 |lst xs=>obtain⟨z,its,n,r,e⟩:=x;exact⟨z,its,n,r,k _ _ (.inl rfl) e⟩
 |tup xs=>obtain⟨z,its,r,ob,e,c⟩:=x;exact⟨z,its,r,ob,k _ _ (.inl rfl) e,c⟩
 |dK kvs=>obtain⟨z,y,vs,r,ob,es,ep,e,c⟩:=x;exact⟨z,y,vs,r,ob,es,ep,k _ _ (.inl rfl) e,c⟩
 | dT kvs =>
   obtain⟨z,y,xs,r,ob,es,ep,e,c⟩:=x;exact⟨z,y,xs,Paired.mapP r fun p q z=>⟨z.1,ht _ _ z.2.1,z.2.2⟩,ob,es,ep,k _ _ (.inl rfl) e,c⟩
 |set S n=>obtain⟨ob,es,ep,t,e,c⟩:=x;exact⟨ob,es,ep,t,k _ _ (.inl rfl) e,c⟩
 | ins C dx fs =>
   obtain⟨d,z,ne,e,mA,⟨od,es,ep,e2,c⟩,r⟩:=x;exact⟨ho _ d,z,ne,k _ _ (.inl rfl) e,mA,⟨od,es,ep,k _ _ (.inr d) e2,c⟩,r⟩
 |own y=>obtain⟨ob,e⟩:=x;exact⟨ob,k _ _ (.inl rfl) e⟩
 |xd fs=>obtain⟨mA,⟨od,es,ep,e,c⟩,r⟩:=x;exact⟨mA,⟨od,es,ep,k _ _ (.inl rfl) e,c⟩,r⟩
 |rng lo hi=>obtain⟨t,u,v,e⟩:=x;exact⟨t,u,v,k _ _ (.inl rfl) e⟩
 |frz ob u ih=>obtain⟨e,q⟩:=x;exact⟨k _ _ (.inl rfl) e,ih q⟩
 | tbl ps =>
   have e:h.get? a=some { cls:=.none,data:=.fields ps }:=x;show h'.get? a=some { cls:=.none,data:=.fields ps };exact k a _ (.inl rfl) e
 | met f y =>
   have e:h.get? a=some (PySem.W.methodObj (.ref f) (.ref y)):=x;show h'.get? a=some (PySem.W.methodObj (.ref f) (.ref y));exact k a _ (.inl rfl) e
 |ext φ=>obtain⟨p,⟨o,e⟩,st⟩:=x;exact⟨st _ _ p fun o q=>k _ _ (.inl rfl) q,⟨o,k _ _ (.inl rfl) e⟩,st⟩
theorem HOk.lt(x:HOk P w H h)(e:H a=some o):a<h.objs.size:=(x a o e).lt
theorem HOk.fresh(x:HOk P w H h)(e:h.objs.size<=a):H a=none:=by
 cases q:H a with
 |none=>rfl
 |some u=>exact absurd (c8w (x.lt q) e) (c9x _)
theorem HOk.kept(x:HOk P w H h)(k:∀b u,h.get? b=some u->h'.get? b=some u):HOk P w H h':=fun a o e =>
 (x a o e).stay (fun b u _ q=>k b u q) (fun _ q=>q) fun _ _ q=>q
theorem HOk.laid(x:HOk P w H h)(k:∀b u,h.get? b=some u->h'.get? b=some u)(hp:h.objs.size<=a)(new:a1d P w (upd H a o) h' a o):HOk P w (upd H a o) h':=fun b u e=>by
 have hn:=x.fresh hp;by_cases hb:b=a
 ·subst hb;rw[a0O] at e;cases e;exact new
 ·rw[a0B hb] at e;exact(x b u e).stay (fun c v _ q=>k c v q) (fun c q=>by rw[a0B (a0A q hn)];exact q) fun c xs q=>by rw[a0B (a0A q hn)];exact q
end
noncomputable def Rd(H:Hp)(a:Addr)(u:HO):Prop:=H a=some u\/∃o,H a=some (.frz o u)
theorem Rd.of{H:Hp}{a:Addr}{u:HO}(h:H a=some u):Rd H a u:=.inl h
theorem Rd.ok{P:c8G}{w:c9d}{H:Hp}{h:Heap}{a:Addr}{u:HO}(r:Rd H a u)(x:HOk P w H h):a1d P w H h a u:=by
 rcases r with r|⟨o,r⟩
 ·exact x a u r
 ·obtain⟨_,q⟩:=x a _ r;exact q
noncomputable def Mut:Option HO->Prop
 |some (.lst _)=>True
 |some (.dK _)=>True
 |some (.dT _)=>True
 |some (.set _ _)=>True
 |some (.ins _ _ _)=>True
 |some (.ext _)=>True
 |_=>False
section
variable{P:c8G}{w:c9d}{H:Hp}{h h':Heap}{x e:Addr}{o':HO}
theorem HOk.write(ok:HOk P w H h)(mu:Mut (H x))(he:e=x\/H e=some (.own x))(k:∀b u,b≠e->h.get? b=some u->h'.get? b=some u)(heo:∃u,h'.get? e=some u)
  (new:a1d P w (upd H x o') h' x o'):HOk P w (upd H x o') h':=fun b u q=>by
 have nown:∀c y,H c=some (.own y)->c≠x:=fun c y r z=>by subst z;rw[r] at mu;exact mu
 have ntup:∀c xs,H c=some (.tup xs)->c≠x:=fun c xs r z=>by subst z;rw[r] at mu;exact mu
 by_cases hb:b=x
 ·subst hb;rw[a0O] at q;cases q;exact new
 ·rw[a0B hb] at q;by_cases hbe:b=e
  ·have q':H b=some (.own x):=by
    rcases he with z|z
    ·exact absurd (hbe.trans z) hb
    ·rw[hbe];exact z
   rw[q] at q';cases q';obtain⟨v,hv⟩:=heo;exact⟨v,by rw[hbe];exact hv⟩
  ·refine(ok b u q).stay (fun c v hc r=>k c v ?_ r) (fun c r=>by rw[a0B (nown c b r)];exact r) fun c xs r=>by rw[a0B (ntup c xs r)];exact r
   rcases hc with rfl|hc
   ·exact hbe
   ·rintro rfl;rcases he with z|z
    ·exact nown c b hc z
    ·rw[hc] at z;cases z;exact hb rfl
end
structure Un(fs ex:List Addr)(H H':Hp)(h h':Heap):Prop where
 keep:∀b o,h.get? b=some o->H b=none->b∉fs->b∉ex->h'.get? b=some o
 slot:∀b o,h.get? b=some o->H b=none->b∈fs->b∉ex->∃sl,h'.get? b=some { o with slots:=sl }
 free:∀b o,h.get? b=some o->H b=none->b∉ex->H' b=none
 there:∀b o,h.get? b=some o->b∉ex->∃o',h'.get? b=some o'
 tups:∀b xs,H b=some (.tup xs)->H' b=some (.tup xs)
 frzs:∀b o u,H b=some (.frz o u)->H' b=some (.frz o u)
 tbls:∀b ps,H b=some (.tbl ps)->∃more,H' b=some (.tbl (ps++more))
section
variable{fs fs' ex ex':List Addr}{H H1 H2:Hp}{h h1 h2 h':Heap}{a x e:Addr}{o:HO}
theorem Un.any(u:Un fs ex H H1 h h1){b:Addr}{ob:Obj}(q:h.get? b=some ob)(n:H b=none)(hx:b∉ex):∃sl,h1.get? b=some { ob with slots:=sl }:=by
 by_cases hb:b∈fs
 ·exact u.slot b ob q n hb hx
 ·exact⟨ob.slots,u.keep b ob q n hb hx⟩
theorem Un.kept(k:∀b u,h.get? b=some u->h'.get? b=some u):Un fs ex H H h h' :=
 ⟨fun b ob q _ _ _=>k b ob q,fun b ob q _ _ _=>⟨ob.slots,k b ob q⟩,fun _ _ _ n _=>n,fun b ob q _=>⟨ob,k b ob q⟩,fun _ _ q=>q,fun _ _ _ q=>q,fun _ ps q=>⟨#[],by rw[q];simp⟩⟩
theorem Un.refl:Un fs ex H H h h:=Un.kept fun _ _ q=>q
theorem Un.laid(k:∀b u,h.get? b=some u->h'.get? b=some u)(hp:h.objs.size<=a)(hn:H a=none):Un fs ex H (upd H a o) h h' where
 keep:=fun b u q _ _ _=>k b u q
 slot:=fun b u q _ _ _=>⟨u.slots,k b u q⟩
 free:=fun b u q n _=>by rw[a0B (c8P (c8w (c8o q) hp))];exact n
 there:=fun b u q _=>⟨u,k b u q⟩
 tups:=fun b xs q=>by rw[a0B (a0A q hn)];exact q
 frzs:=fun b u xs q=>by rw[a0B (a0A q hn)];exact q
 tbls:=fun b ps q=>⟨#[],by rw[a0B (a0A q hn),q];simp⟩
theorem Un.write(mu:Mut (H x))(he:e=x\/H e=some (.own x))(k:∀b u,b≠e->h.get? b=some u->h'.get? b=some u)(heo:∃u,h'.get? e=some u):Un fs ex H (upd H x o) h h':=by
 have hx:∀b,H b=none->b≠x:=fun b n z=>by subst z;rw[n] at mu;exact mu
 have hb:∀b,H b=none->b≠e:=fun b n z=>by
  subst z;rcases he with r|r
  ·exact hx b n r
  ·rw[n] at r;cases r
 have hm:∀b u,H b=some u->¬Mut (some u)->b≠x:=fun b u q nm z=>by subst z;rw[q] at mu;exact nm mu
 refine⟨fun b u q n _ _=>k b u (hb b n) q,fun b u q n _ _=>⟨u.slots,k b u (hb b n) q⟩,fun b u q n _=>by rw[a0B (hx b n)];exact n,fun b u q _=>?_,
  fun b xs q=>by rw[a0B (hm b _ q fun z=>z)];exact q,fun b u xs q=>by rw[a0B (hm b _ q fun z=>z)];exact q,fun b ps q=>⟨#[],by rw[a0B (hm b _ q fun z=>z),q];simp⟩⟩
 by_cases hbe:b=e
 ·subst hbe;exact heo
 ·exact⟨u,k b u hbe q⟩
end
noncomputable def trk(h:Heap)(H:Hp):List Addr:=(c8I h.objs.size).filter fun a=>(H a).isSome
noncomputable def hidT(h:Heap)(H:Hp):Heap:=PySem.W.hideAll h (trk h H)
theorem b9R(h:Heap)(H:Hp):(hidT h H).objs.size=h.objs.size:=PySem.W.hideAll_size _ _
theorem c2g{h:Heap}{H:Hp}{b:Addr}{o:Obj}(e:h.get? b=some o)(n:H b=none):(hidT h H).get? b=some o :=
 PySem.W.hideAll_get _ e fun hm=>by
  have q:(H b).isSome=true:=(c9V.mp hm).2;rw[n] at q;simp at q
theorem c4t{h:Heap}{H:Hp}{b:Addr}{o:Obj}(e:(hidT h H).get? b=some o):h.get? b=some o/\H b=none:=by
 have e':h.get? b=some o:=PySem.W.of_hideAll (trk h H) e;refine⟨e',?_⟩;cases q:H b with
 |none=>rfl
 | some x =>
   have hm:b∈trk h H:=c9V.mpr ⟨c9U.mpr (c8o e'),by simp[q]⟩;have z:(hidT h H).get? b=none:=PySem.W.hideAll_none (trk h H) hm;rw[z] at e;cases e
structure Mod(K:PySem.W.Frag)(mg:SOV)(base:Heap):Prop where
 kin:K.In base
 glob:base.Ns mainGlobals mg
 blt:∃mb,base.Ns builtinsNs mb/\∀x:Str,x≠"__name__"->mb x=bootBuiltins x
 nolimit:base.NoLimit
structure Cx where
 prog:c8G
 w:c9d
 K:PySem.W.Frag
 mg:SOV
 base:Heap
 A:c8Z
 N:LSS
 s₀:c8u
 H₀:Hp
 env:Env
 outer:List Env
 stack:List Env
 ex:List Addr
 fn:Str->Bool
 calm:Bool
 pn:PNS
 xe:VPR
noncomputable def frs(l:List Env):List Addr:=l.filterMap (·.frame)
noncomputable abbrev Cx.fs(X:Cx):List Addr:=frs X.outer
noncomputable def Vis(sc:d1R)(x:Str):Prop:=sc.names.lookup x=some .local\/sc.names.lookup x=some .cell\/sc.names.lookup x=some .free
noncomputable def Loc(sc:d1R)(x:Str):Prop:=sc.names.lookup x=some .local\/sc.names.lookup x=some .cell
noncomputable def Look(env:Env)(h:Heap)(m:SOV)(x:Str)(u:c8t):Prop :=
 (env.kindOf x=some .local/\m x=some u)\/((env.kindOf x=some .cell\/env.kindOf x=some .free)/\∃c,env.cells.lookup x=some c/\h.IsCell c (some u))
structure Cx.Ok(X:Cx):Prop where
 mod:Mod X.K X.mg X.base
 kind:X.env.scope.kind=.function
 glob:X.env.globals=mainGlobals
 blt:X.env.builtins=builtinsNs
 above:X.s₀.heap.objs.size<=X.env.locals
 inj:∀x y c,X.env.cells.lookup x=some c->X.env.cells.lookup y=some c->x=y
 has:∀x,(X.env.kindOf x=some .cell\/X.env.kindOf x=some .free)->∃c,X.env.cells.lookup x=some c
 cab:∀x c,X.fn x=true->X.env.cells.lookup x=some c->X.s₀.heap.objs.size<=c
 hd:X.calm=true->X.A.handled=none
 frames:X.A.frames=some X.stack
 stk:X.stack=X.outer\/(X.stack=X.env::X.outer/\X.env.frame=some X.env.locals)
 exf:∀b∈X.ex,b≠X.env.locals/\∀x c,X.env.cells.lookup x=some c->c≠b
 bs:∀b o,X.base.get? b=some o->X.s₀.heap.get? b=some o/\X.H₀ b=none
 bsz:X.base.objs.size<=X.s₀.heap.objs.size
 noex:∀b o,X.base.get? b=some o->b∉X.ex
 exfs:∀b∈X.ex,b∉X.fs
 funs:X.s₀.heap.FunFrames X.base X.outer
 frf:∀b∈X.fs,X.H₀ b=none
structure Inv(X:Cx)(pins:PNS)(σ:List (Option V))(H:Hp)(s:c8u):Prop where
 ok:X.Ok
 os:s.os=X.s₀.os
 bare:d2O s.gens
 base:Un X.fs X.ex X.H₀ H X.s₀.heap s.heap
 loc:∃m,s.heap.Ns X.env.locals m/\∀(i:Nat) (x:Str) (v:V),X.N[i]?=some x->σ[i]?=some (some v)->Vis X.env.scope x->∃u,RelV v u/\Look X.env s.heap m x u
 cell:∀x c,X.env.cells.lookup x=some c->∃v,s.heap.IsCell c v
 free:H X.env.locals=none
 freeC:∀x c,X.env.cells.lookup x=some c->H c=none
 pin:∀p∈X.pn++pins,s.heap.get? p.1=some p.2/\H p.1=none/\p.1≠X.env.locals/\p.1∉X.fs/\∀v,p.2.data≠.cell v
 hok:HOk X.prog X.w H s.heap
 len:σ.length=X.N.length
section
variable{X:Cx}{pins:PNS}{σ:List (Option V)}{H H':Hp}{s:c8u}{h':Heap}
theorem Cx.Ok.nofr(ok:X.Ok){b:Addr}{o:Obj}(e:X.base.get? b=some o):b∉X.fs:=fun hb=>by
 have:=(ok.funs.mem hb).1;rw[e] at this;cases this
theorem Inv.bs(I:Inv X pins σ H s):∀b o,X.base.get? b=some o->s.heap.get? b=some o/\H b=none:=fun b o e =>
 ⟨I.base.keep b o (I.ok.bs b o e).1 (I.ok.bs b o e).2 (I.ok.nofr e) (I.ok.noex b o e),I.base.free b o (I.ok.bs b o e).1 (I.ok.bs b o e).2 (I.ok.noex b o e)⟩
theorem Inv.bk(I:Inv X pins σ H s):∀b o,X.base.get? b=some o->s.heap.get? b=some o:=fun b o e=>(I.bs b o e).1
theorem Inv.mod(I:Inv X pins σ H s):Mod X.K X.mg X.base:=I.ok.mod
theorem Inv.kIn(I:Inv X pins σ H s):X.K.In s.heap:=I.ok.mod.kin.keeps I.bk
theorem Inv.lt(I:Inv X pins σ H s):X.env.locals<s.heap.objs.size:=let ⟨_,hn,_⟩:=I.loc;hn.lt
theorem Inv.sz(I:Inv X pins σ H s):X.s₀.heap.objs.size<=s.heap.objs.size:=c8C I.ok.above (d0T I.lt)
theorem Inv.nofs(I:Inv X pins σ H s){a:Addr}(h:s.heap.objs.size<=a):a∉X.fs:=fun hb=>by
 obtain⟨_,o,ho,_⟩:=I.ok.funs.mem hb;exact absurd (c8w (c8o ho) (c8C I.sz h)) (c9x _)
theorem Inv.cne(I:Inv X pins σ H s):∀x c,X.env.cells.lookup x=some c->c≠X.env.locals:=fun x c e z=>by
 obtain⟨v,o,ho,hd⟩:=I.cell x c e;obtain⟨m,⟨o',es,ep,ho',hd',_⟩,_⟩:=I.loc;rw[z,ho'] at ho;cases ho;rw[hd'] at hd;cases hd
theorem Inv.funs(I:Inv X pins σ H s):s.heap.FunFrames X.base X.outer:=by
 have all:∀(l:List Env),(∀b∈frs l,b∈X.fs)->X.s₀.heap.FunFrames X.base l->s.heap.FunFrames X.base l:=by
  intro l
  induction l with
  |nil=>intro _ _;trivial
  | cons env r ih =>
    intro hs hl;obtain⟨hk,⟨L,o,hf,hn,ho,hd⟩,hr⟩:=hl;have hL:L∈X.fs:=hs L (by unfold frs;rw[d0n,hf];exact c8r);obtain⟨sl,e⟩:=I.base.slot L o ho (I.ok.frf L hL) hL fun z=>I.ok.exfs L z hL;exact⟨hk,⟨L,_,hf,hn,e,hd⟩,ih (fun b hb=>hs b (by unfold frs;rw[d0n,hf];exact c8m _ hb)) hr⟩
 exact all X.outer (fun _ hb=>hb) I.ok.funs
theorem Inv.stack(I:Inv X pins σ H s):s.heap.FunFrames X.base X.stack:=by
 rcases I.ok.stk with e|⟨e,hf⟩
 ·rw[e];exact I.funs
 ·rw[e];obtain⟨m,hn,_⟩:=I.loc;refine .cons (by rw[I.ok.kind];decide) hf hn ?_ I.funs;exact Heap.get?_none_of_le (c8C I.ok.bsz I.ok.above)
theorem Inv.stkSub(I:Inv X pins σ H s):∀b∈frs X.stack,b∈X.env.locals::X.fs:=fun b hb=>by
 rcases I.ok.stk with e|⟨e,hf⟩
 ·rw[e] at hb;exact c8m _ hb
 ·rw[e] at hb;unfold frs at hb;rw[d0n,hf] at hb;exact hb
theorem Inv.stkFree(I:Inv X pins σ H s):∀b∈frs X.stack,H b=none:=fun b hb=>by
 rcases c8n.mp (I.stkSub b hb) with e|hb
 ·rw[e];exact I.free
 ·obtain⟨_,o,ho,_⟩:=I.ok.funs.mem hb;exact I.base.free b o ho (I.ok.frf b hb) fun z=>I.ok.exfs b z hb
theorem Inv.step{g':Array d5d}{t':Nat}{d':Drawn}{ch:List Addr}(I:Inv X pins σ H s)
  (hch:∀b∈ch,(b∈X.ex\/X.s₀.heap.objs.size<=b)/\b≠X.env.locals/\(∀x c,X.env.cells.lookup x=some c->c≠b)/\∀p∈X.pn++pins,p.1≠b)
  (keep:∀b o,b≠X.env.locals->b∉X.fs->b∉ch->s.heap.get? b=some o->H b=none->h'.get? b=some o)
  (slot:∀b o,b≠X.env.locals->b∈X.fs->b∉ch->s.heap.get? b=some o->H b=none->∃sl,h'.get? b=some { o with slots:=sl }) (free:∀b o,b∉ch->s.heap.get? b=some o->H b=none->H' b=none)
  (there:∀b o,b∉ch->s.heap.get? b=some o->∃o',h'.get? b=some o')
  (tups:∀b xs,H b=some (.tup xs)->H' b=some (.tup xs)) (frzs:∀b o u,H b=some (.frz o u)->H' b=some (.frz o u)) (tbls:∀b ps,H b=some (.tbl ps)->∃more,H' b=some (.tbl (ps++more)))
  (ns:∀m,s.heap.Ns X.env.locals m->h'.Ns X.env.locals m) (hok:HOk X.prog X.w H' h') (hg:d2O g') :
  Inv X pins σ H' { s with heap:=h',gens:=g',drawn:=d',toks:=t' }:=by
 have neL:∀b o,X.s₀.heap.get? b=some o->b≠X.env.locals:=fun b o e=>c8P (c8w (c8o e) I.ok.above)
 have neC:∀b o,X.s₀.heap.get? b=some o->b∉X.ex->b∉ch:=fun b o e hx hb=>by
  rcases (hch b hb).1 with z|z
  ·exact hx z
  ·exact absurd (c8w (c8o e) z) (c9x _)
 have cellK:∀x c,X.env.cells.lookup x=some c->∀v,s.heap.IsCell c v->h'.IsCell c v:=fun x c e v ⟨o,ho,hd⟩=>by
  have nch:c∉ch:=fun z=>(hch c z).2.2.1 x c e rfl;by_cases hc:c∈X.fs
  ·obtain⟨sl,q⟩:=slot c o (I.cne x c e) hc nch ho (I.freeC x c e);exact⟨_,q,hd⟩
  ·exact⟨o,keep c o (I.cne x c e) hc nch ho (I.freeC x c e),hd⟩
 refine⟨I.ok,I.os,hg,⟨fun b o e n hb hx=>?_,fun b o e n hb hx=>?_,fun b o e n hx=>?_,fun b o e hx=>?_,fun b xs e=>tups b xs (I.base.tups b xs e),fun b o xs e=>frzs b o xs (I.base.frzs b o xs e),fun b ps e=>?_⟩,?_,fun x c e=>?_,?_,fun x c e=>?_,fun p hp=>?_,hok,I.len⟩
 ·exact keep b o (neL b o e) hb (neC b o e hx) (I.base.keep b o e n hb hx) (I.base.free b o e n hx)
 ·obtain⟨sl,e1⟩:=I.base.slot b o e n hb hx;obtain⟨sl',e2⟩:=slot b _ (neL b o e) hb (neC b o e hx) e1 (I.base.free b o e n hx);exact⟨sl',e2⟩
 ·obtain⟨o',e1⟩:=I.base.there b o e hx;exact free b o' (neC b o e hx) e1 (I.base.free b o e n hx)
 ·obtain⟨o',e1⟩:=I.base.there b o e hx;exact there b o' (neC b o e hx) e1
 ·obtain⟨m1,e1⟩:=I.base.tbls b ps e;obtain⟨m2,e2⟩:=tbls b _ e1;exact⟨m1++m2,by rw[e2,Array.append_assoc]⟩
 ·obtain⟨m,hn,hl⟩:=I.loc;refine⟨m,ns m hn,fun i x v e1 e2 e3=>?_⟩;obtain⟨u,r,l⟩:=hl i x v e1 e2 e3;refine⟨u,r,?_⟩;rcases l with l|⟨k,c,e,z⟩
  ·exact .inl l
  ·exact .inr ⟨k,c,e,cellK x c e _ z⟩
 ·obtain⟨v,z⟩:=I.cell x c e;exact⟨v,cellK x c e v z⟩
 ·obtain⟨m,⟨o,_,_,ho,_⟩,_⟩:=I.loc;exact free _ o (fun z=>(hch _ z).2.1 rfl) ho I.free
 ·obtain⟨v,o,ho,hd⟩:=I.cell x c e;exact free c o (fun z=>(hch c z).2.2.1 x c e rfl) ho (I.freeC x c e)
 ·obtain⟨e,n,ne,nf,d⟩:=I.pin p hp;have nch:p.1∉ch:=fun z=>(hch p.1 z).2.2.2 p hp rfl;exact⟨keep p.1 p.2 ne nf nch e n,free p.1 p.2 nch e n,ne,nf,d⟩
theorem Inv.un{t':Nat}(I:Inv X pins σ H s)(u:Un X.fs [] H H' s.heap h')(hok:HOk X.prog X.w H' h'):Inv X pins σ H' { s with heap:=h',toks:=t' }:=by
 obtain⟨m,⟨o,es,ep,ho,r⟩,_⟩:=id I.loc;obtain⟨sl,hL⟩:=u.any ho I.free (by simp)
 exact I.step (g':=s.gens) (d':=s.drawn) (ch:=[]) (fun _ z=>nomatch z) (fun b o _ hb _ e n=>u.keep b o e n hb (by simp)) (fun b o _ hb _ e n=>u.slot b o e n hb (by simp)) (fun b o _ e n=>u.free b o e n (by simp)) (fun b o _ e=>u.there b o e (by simp)) u.tups u.frzs u.tbls (fun m' hm=>by
  obtain⟨o',es',ep',ho',r'⟩:=hm;rw[ho] at ho';cases ho'
  exact⟨_,es',ep',hL,r'⟩) hok I.bare
theorem Inv.call{g':Array d5d}{t':Nat}{d':Drawn}{ch:List Addr}(I:Inv X pins σ H s)(u:Un (frs X.stack) ch H H' s.heap h')(hok:HOk X.prog X.w H' h')(hg:d2O g')
  (hch:∀b∈ch,(b∈X.ex\/X.s₀.heap.objs.size<=b)/\b≠X.env.locals/\(∀x c,X.env.cells.lookup x=some c->c≠b)/\∀p∈X.pn++pins,p.1≠b) :
  Inv X pins σ H' { s with heap:=h',gens:=g',drawn:=d',toks:=t' }:=by
 obtain⟨m,⟨o,es,ep,ho,r⟩,_⟩:=id I.loc;obtain⟨sl,hL⟩:=u.any ho I.free fun z=>(hch _ z).2.1 rfl
 exact I.step (ch:=ch) hch (fun b o hL hb hc e n=>u.keep b o e n (fun z=>(c8n.mp (I.stkSub b z)).elim hL hb) hc) (fun b o _ _ hc e n=>u.any e n hc) (fun b o hc e n=>u.free b o e n hc) (fun b o hc e=>u.there b o e hc) u.tups u.frzs u.tbls (fun m' hm=>by
  obtain⟨o',es',ep',ho',r'⟩:=hm;rw[ho] at ho';cases ho'
  exact⟨_,es',ep',hL,r'⟩) hok hg
theorem Inv.turned{t':Nat}{it:Addr}(I:Inv X pins σ H s)(k:∀b o,b≠it->s.heap.get? b=some o->h'.get? b=some o)(hn:H it=none)(hL:it≠X.env.locals)
  (h1:it∈X.ex\/X.s₀.heap.objs.size<=it) (h2:∀x c,X.env.cells.lookup x=some c->c≠it) (h3:∀p∈X.pn++pins,p.1≠it):Inv X pins σ H { s with heap:=h',toks:=t' }:=by
 have nit:∀b u,H b=some u->b≠it:=fun b u e z=>by rw[z,hn] at e;cases e
 refine I.step (g':=s.gens) (d':=s.drawn) (ch:=[it]) (fun b hb=>?_) (fun b o _ _ hc e _=>k b o (fun z=>hc (by simp[z])) e) (fun b o _ _ hc e _=>⟨o.slots,k b o (fun z=>hc (by simp[z])) e⟩) (fun _ _ _ _ n=>n)
  (fun b o hc e=>⟨o,k b o (fun z=>hc (by simp[z])) e⟩) (fun _ _ e=>e) (fun _ _ _ e=>e) (fun b ps e=>⟨#[],by rw[e];simp⟩) (fun m hm=>?_) (fun b u e=>?_) I.bare
 ·have e:b=it:=by simpa using hb
  subst e;exact⟨h1,hL,h2,h3⟩
 ·obtain⟨o,es,ep,ho,r⟩:=hm;exact⟨o,es,ep,k _ o (d1u hL) ho,r⟩
 ·refine(I.hok b u e).stay (fun c v hc q=>k c v ?_ q) (fun _ q=>q) fun _ _ q=>q;rcases hc with z|z
  ·rw[z];exact nit b u e
  ·exact nit c _ z
theorem Inv.tok(I:Inv X pins σ H s)(t:Nat):Inv X pins σ H { s with toks:=t }:=I.un (h':=s.heap) (t':=t) Un.refl I.hok
theorem Inv.kept{t':Nat}(I:Inv X pins σ H s)(k:∀b u,s.heap.get? b=some u->h'.get? b=some u):Inv X pins σ H { s with heap:=h',toks:=t' }:=I.un (Un.kept k) (I.hok.kept k)
theorem Inv.laid{a:Addr}{o:HO}{t':Nat}(I:Inv X pins σ H s)(k:∀b u,s.heap.get? b=some u->h'.get? b=some u)(hp:s.heap.objs.size<=a)(new:a1d X.prog X.w (upd H a o) h' a o) :
  Inv X pins σ (upd H a o) { s with heap:=h',toks:=t' }:=I.un (Un.laid k hp (I.hok.fresh hp)) (I.hok.laid k hp new)
theorem Inv.write{x e:Addr}{o:HO}{t':Nat}(I:Inv X pins σ H s)(mu:Mut (H x))(he:e=x\/H e=some (.own x))(k:∀b u,b≠e->s.heap.get? b=some u->h'.get? b=some u)(heo:∃u,h'.get? e=some u)
  (new:a1d X.prog X.w (upd H x o) h' x o):Inv X pins σ (upd H x o) { s with heap:=h',toks:=t' }:=I.un (Un.write mu he k heo) (I.hok.write mu he k heo new)
theorem Inv.weak{σ':List (Option V)}(I:Inv X pins σ H s)(hl:σ'.length=σ.length)(w:∀(i:Nat) v,σ'[i]?=some (some v)->σ[i]?=some (some v)):Inv X pins σ' H s :=
 ⟨I.ok,I.os,I.bare,I.base,let ⟨m,hn,hl'⟩:=I.loc;⟨m,hn,fun i x v e1 e2 e3=>hl' i x v e1 (w i v e2) e3⟩,I.cell,I.free,I.freeC,I.pin,I.hok,hl.trans I.len⟩
theorem Inv.pins_of{pins':PNS}(I:Inv X pins σ H s)(h:∀p∈pins',s.heap.get? p.1=some p.2/\H p.1=none/\p.1≠X.env.locals/\p.1∉X.fs/\∀v,p.2.data≠.cell v):Inv X pins' σ H s :=
 ⟨I.ok,I.os,I.bare,I.base,I.loc,I.cell,I.free,I.freeC,fun p hp=>(c8U.mp hp).elim (fun z=>I.pin p (c8O _ z)) (h p),I.hok,I.len⟩
theorem b6b{N:LSS}(hN:N.Nodup){i j:Nat}{x:Str}(a:N[i]?=some x)(b:N[j]?=some x):i=j:=by
 obtain⟨h1,e1⟩:=c8k.mp a;obtain⟨h2,e2⟩:=c8k.mp b;exact(List.getElem_inj hN).mp (e1.trans e2.symm)
noncomputable abbrev QXX(X:Cx)(x:Str):Prop:=X.fn x=true\/X.env.scope.names.lookup x=some .local
theorem b2I{M:d5P}{A:c8Z}{E:VPR}{i:Nat}{x:Str}{v:V}{u:c8t}{Q:Unit->c8u->Prop}(I:Inv X pins σ H s)(hN:X.N.Nodup)(hi:X.N[i]?=some x)(hx:Loc X.env.scope x)(r:RelV v u)
  (h:∀s',Inv X pins (σ.set i (some v)) H s'->(∃a,d1r a s.heap s'.heap/\(a=X.env.locals\/X.env.cells.lookup x=some a))->Q () s') (hf:QXX X x:=by first|exact .inl rfl|exact .inr rfl|assumption):wpAny M A (storeName X.env x u) Q E s:=by
 obtain⟨m,hn,hl⟩:=id I.loc
 have hcls:(X.env.scope.kind==.class||(X.env.scope.kind==.module&&X.env.locals != X.env.globals))=false:=by rw[I.ok.kind];rfl
 have hiσ:i<σ.length:=by rw[I.len];exact(c8k.mp hi).1
 have cne:=I.cne
 have tracked:∀{a:Addr} {h':Heap},(∃o,s.heap.get? a=some o/\H a=none)->d1r a s.heap h'->HOk X.prog X.w H h':=fun {a h'} ha hs b ob e=>by
  obtain⟨_,_,hfree⟩:=ha;refine(I.hok b ob e).stay (fun c w' hc q=>(hs.2 c ?_).trans q) (fun _ q=>q) fun _ _ q=>q;rintro rfl;rcases hc with rfl|hc
  ·rw[hfree] at e;cases e
  ·rw[hfree] at hc;cases hc
 rcases hx with hk|hk
 ·refine wpAny_storeName_local hk hn (fun h' hn' hs=>?_) hcls;obtain⟨oL,_,_,hoL,_⟩:=id hn;refine h _ ⟨I.ok,I.os,I.bare,⟨fun b o e n hb hx=>?_,fun b o e n hb hx=>?_,I.base.free,fun b o e hx=>?_,I.base.tups,I.base.frzs,I.base.tbls⟩,⟨_,hn',fun j y v' e1 e2 e3=>?_⟩,fun y c e=>?_,I.free,I.freeC,fun p hp=>?_,tracked ⟨oL,hoL,I.free⟩ hs,by simpa using I.len⟩ ⟨_,hs,.inl rfl⟩
  ·exact(hs.2 b (c8P (c8w (c8o e) I.ok.above))).trans (I.base.keep b o e n hb hx)
  ·obtain⟨sl,e1⟩:=I.base.slot b o e n hb hx;exact⟨sl,(hs.2 b (c8P (c8w (c8o e) I.ok.above))).trans e1⟩
  ·obtain⟨o',e1⟩:=I.base.there b o e hx;exact⟨o',(hs.2 b (c8P (c8w (c8o e) I.ok.above))).trans e1⟩
  ·by_cases hj:j=i
   ·subst hj;rw[hi] at e1;cases e1;rw[d0O hiσ] at e2;cases e2;exact⟨u,r,.inl ⟨hk,by simp⟩⟩
   ·rw[d0z (d1u hj)] at e2;obtain⟨u',r',q⟩:=hl j y v' e1 e2 e3;refine⟨u',r',?_⟩;rcases q with ⟨k,e⟩|⟨k,c,e,z⟩
    ·refine .inl ⟨k,?_⟩;have:y≠x:=fun e=>hj (b6b hN e1 (e▸hi));simp[this,e]
    ·exact .inr ⟨k,c,e,z.sameBut hs (cne y c e)⟩
  ·obtain⟨w',z⟩:=I.cell y c e;exact⟨w',z.sameBut hs (cne y c e)⟩
  ·obtain⟨e,n,ne,nf,d⟩:=I.pin p hp;exact⟨(hs.2 p.1 ne).trans e,n,ne,nf,d⟩
 ·have hfn:X.fn x=true:=by
   rcases hf with z|z
   ·exact z
   ·rw[z] at hk;cases hk
  obtain⟨c,hc⟩:=I.ok.has x (.inl hk);obtain⟨w',z⟩:=I.cell x c hc;refine wpAny_storeName_cell I.ok.kind hk hc z (fun h' hc' hs=>?_);obtain⟨oc,hoc,hocd⟩:=id z;refine h { s with heap:=h' } ⟨I.ok,I.os,I.bare,⟨fun b o e n hb hx=>?_,fun b o e n hb hx=>?_,I.base.free,fun b o e hx=>?_,I.base.tups,I.base.frzs,I.base.tbls⟩,⟨m,hn.sameBut hs (d1u (cne x c hc)),fun j y v' e1 e2 e3=>?_⟩,fun y c' e=>?_,I.free,I.freeC,fun p hp=>?_,tracked ⟨oc,hoc,I.freeC x c hc⟩ hs,by simpa using I.len⟩ ⟨c,hs,.inr hc⟩
  ·exact(hs.2 b (c8P (c8w (c8o e) (I.ok.cab x c hfn hc)))).trans (I.base.keep b o e n hb hx)
  ·obtain⟨sl,e1⟩:=I.base.slot b o e n hb hx;exact⟨sl,(hs.2 b (c8P (c8w (c8o e) (I.ok.cab x c hfn hc)))).trans e1⟩
  ·obtain⟨o',e1⟩:=I.base.there b o e hx;exact⟨o',(hs.2 b (c8P (c8w (c8o e) (I.ok.cab x c hfn hc)))).trans e1⟩
  ·by_cases hj:j=i
   ·subst hj;rw[hi] at e1;cases e1;rw[d0O hiσ] at e2;cases e2;exact⟨u,r,.inr ⟨.inl hk,c,hc,hc'⟩⟩
   ·rw[d0z (d1u hj)] at e2;obtain⟨u',r',q⟩:=hl j y v' e1 e2 e3;refine⟨u',r',?_⟩;rcases q with q|⟨k,c',e,z'⟩
    ·exact .inl q
    ·refine .inr ⟨k,c',e,z'.sameBut hs ?_⟩;rintro rfl;exact hj (b6b hN e1 (I.ok.inj _ _ _ e hc▸hi))
  ·by_cases hcc:c'=c
   ·subst hcc;exact⟨_,hc'⟩
   ·obtain⟨w2,z2⟩:=I.cell y c' e;exact⟨w2,z2.sameBut hs hcc⟩
  ·obtain⟨e,n,ne,nf,d⟩:=I.pin p hp;refine⟨(hs.2 p.1 ?_).trans e,n,ne,nf,d⟩;intro q;rw[q,hoc] at e;have q':oc=p.2:=c8z e;exact d w' (by rw[<- q'];exact hocd)
theorem b1f{M:d5P}{A:c8Z}{E:VPR}{i:Nat}{x:Str}{v:V}{u:c8t}{Q:Unit->c8u->Prop}(I:Inv X pins σ H s)(hN:X.N.Nodup)(hi:X.N[i]?=some x)(hx:Loc X.env.scope x)(r:RelV v u)
  (h:∀s',Inv X pins (σ.set i (some v)) H s'->Q () s') (hf:QXX X x:=by first|exact .inl rfl|exact .inr rfl|assumption):wpAny M A (storeName X.env x u) Q E s :=
 b2I I hN hi hx r (fun s' I' _=>h s' I') hf
theorem Inv.call'{s':c8u}{ch:List Addr}(I:Inv X pins σ H s)(ho:s'.os=s.os)(u:Un (frs X.stack) ch H H' s.heap s'.heap)(hok:HOk X.prog X.w H' s'.heap)(hg:d2O s'.gens)
  (hch:∀b∈ch,(b∈X.ex\/X.s₀.heap.objs.size<=b)/\b≠X.env.locals/\(∀x c,X.env.cells.lookup x=some c->c≠b)/\∀p∈X.pn++pins,p.1≠b):Inv X pins σ H' s':=by
 obtain⟨h',g',d',t',o'⟩:=s';have e:o'=s.os:=ho;subst e;exact I.call (g':=g') (t':=t') (d':=d') u hok hg hch
end
noncomputable abbrev XK:=c8t->Option Addr->Hp->Prop
noncomputable abbrev St:=List (Option V)
noncomputable abbrev VK:=V->Hp->Prop
noncomputable abbrev TE:=St->Hp->VK->Prop
noncomputable abbrev TT:=St->Hp->(Bool->Hp->Prop)->Prop
noncomputable abbrev TA:=St->Hp->(List V->Hp->Prop)->Prop
structure Ends where
 nx:St->Hp->Prop
 rt:VK
 bk:St->Hp->Prop:=fun _ _=>False
 ct:St->Hp->Prop:=fun _ _=>False
noncomputable abbrev TS:=Ends->St->Hp->Prop
noncomputable def EP(X:Cx)(pins:PNS)(σ:St)(Q:VK)(u:c8t)(s':c8u):Prop:=∃v H',Inv X pins σ H' s'/\RelV v u/\Q v H'
noncomputable def TP(X:Cx)(pins:PNS)(σ:St)(Q:Bool->Hp->Prop)(b:Bool)(s':c8u):Prop:=∃H',Inv X pins σ H' s'/\Q b H'
noncomputable def AP(X:Cx)(pins:PNS)(σ:St)(Q:List V->Hp->Prop)(us:LSV)(s':c8u):Prop:=∃vs H',Inv X pins σ H' s'/\Vals vs us/\Q vs H'
noncomputable def SP(X:Cx)(pins:PNS)(D:Ends)(f:Flow)(s':c8u):Prop :=
 match f with
 |.next=>∃σ' H',Inv X pins σ' H' s'/\D.nx σ' H'
 |.brk=>∃σ' H',Inv X pins σ' H' s'/\D.bk σ' H'
 |.cont=>∃σ' H',Inv X pins σ' H' s'/\D.ct σ' H'
 |.ret u=>∃v σ' H',Inv X pins σ' H' s'/\RelV v u/\D.rt v H'
noncomputable def PE(X:Cx)(e:Expr)(t:TE):Prop :=
 ∀pins s σ H (Q:VK),Inv X pins σ H s->t σ H Q->wpAny (model X.prog X.w) X.A (eval e X.env) (EP X pins σ Q) X.xe s
noncomputable def PT(X:Cx)(e:Expr)(t:TT):Prop :=
 ∀pins s σ H (Q:Bool->Hp->Prop),Inv X pins σ H s->t σ H Q->wpAny (model X.prog X.w) X.A (isTrue e X.env (eval e X.env)) (TP X pins σ Q) X.xe s
noncomputable def PW(X:Cx)(e:Expr)(t:TT):Prop :=
 ∀(whole:Sem c8t) (pins:PNS) (s:c8u) (σ:St) (H:Hp) (Q:Bool->Hp->Prop),Inv X pins σ H s->t σ H Q->wpAny (model X.prog X.w) X.A (isTrue e X.env whole) (TP X pins σ Q) X.xe s
theorem PW.pt{X:Cx}{e:Expr}{t:TT}(h:PW X e t):PT X e t:=h _
noncomputable def PA(X:Cx)(es:LSE)(t:TA):Prop :=
 ∀(pos:Pos) (pins:PNS) (s:c8u) (σ:St) (H:Hp) (Q:List V->Hp->Prop),Inv X pins σ H s->t σ H Q->wpAny (model X.prog X.w) X.A (spliced (backTo pos (starEach es X.env))) (AP X pins σ Q) X.xe s
noncomputable def PS(X:Cx)(st:Stmt)(t:TS):Prop :=
 ∀pins s σ H (D:Ends),Inv X pins σ H s->t D σ H->wpAny (model X.prog X.w) X.A (exec st X.env) (SP X pins D) X.xe s
noncomputable def PSs(X:Cx)(st:List Stmt)(t:TS):Prop :=
 ∀pins s σ H (D:Ends),Inv X pins σ H s->t D σ H->wpAny (model X.prog X.w) X.A (execs st X.env) (SP X pins D) X.xe s
theorem thn{α:Type}{t:Sem α}{Q Q':α->c8u->Prop}{M:d5P}{A:c8Z}{E:VPR}{s:c8u}(h:wpAny M A t Q E s)(hQ:∀a s,Q a s->Q' a s):wpAny M A t Q' E s:=c9G h hQ fun _ _ x=>x
section
variable{X:Cx}
noncomputable def tVar(i:Nat):TE:=fun σ H Q=>∃v,σ[i]?=some (some v)/\Q v H
noncomputable def tC(v:V):TE:=fun _ H Q=>Q v H
noncomputable abbrev QDD(x:Str):Prop:=(x==("__debug__":Str))=false
theorem c5Z{i:Nat}{x:Str}{pos:Pos}(hN:X.N[i]?=some x)(hv:Vis X.env.scope x)(hd:QDD x:=by decide)(hcd:(x==("__classdict__":Str))=false:=by decide):PE X (.Name x pos) (tVar i):=by
 intro pins s σ H Q I h;obtain⟨v,e,h⟩:=h;obtain⟨m,hn,hl⟩:=I.loc;obtain⟨u,r,l⟩:=hl i x v hN e hv;have fin:EP X pins σ Q u s:=⟨v,H,I,r,h⟩;rcases l with ⟨hk,hm⟩|⟨hk,c,hc,hcell⟩
 ·exact d5D (d3A I.ok.kind hk hn hm fin) hd
 ·rcases hk with hk|hk
  ·exact d5D (d3L I.ok.kind hk hc hcell fin) hd
  ·exact d5D (wpAny_loadName_free I.ok.kind hk hc hcell fin hcd) hd
theorem c6f{i j pos}:PE X (.Constant (.int i) j pos) (tC (.int i)):=fun _ _ _ H _ I h=>wpAny_Constant_int ⟨.int i,H,I.tok _,⟨_,rfl⟩,h⟩
theorem c7D{b j pos}:PE X (.Constant (.bool b) j pos) (tC (.bl b)):=fun _ _ _ H _ I h=>Constant_bool ⟨.bl b,H,I,rfl,h⟩
theorem c6d{j pos}:PE X (.Constant .none j pos) (tC .non):=fun _ _ _ H _ I h=>Constant_none ⟨.non,H,I,rfl,h⟩
theorem c6b{x j pos}:PE X (.Constant (.str x) j pos) (tC (.str x)):=fun _ _ _ H _ I h=>Calls.Constant_str ⟨.str x,H,I.tok _,⟨_,rfl⟩,h⟩
noncomputable def Gl(X:Cx)(x:Str):Prop:=X.env.kindOf x=some .globalImplicit
theorem a4w{E:VPR}{pins:PNS}{s:c8u}{σ:St}{H:Hp}{x:Str}{u:c8t}{pos:Pos}{Q:VPR}(I:Inv X pins σ H s)(hg:Gl X x)(hm:X.mg x=some u)(h:Q u s)
  (hd:QDD x:=by decide):wpAny (model X.prog X.w) X.A (eval (.Name x pos) X.env) Q E s :=
 d2e I.ok.kind hg (Calls.loadGlobal_global (by rw[I.ok.glob];exact I.mod.glob.keeps I.bk) hm h) hd
theorem a2Q{E:VPR}{pins:PNS}{s:c8u}{σ:St}{H:Hp}{x:Str}{u:c8t}{pos:Pos}{Q:VPR}(I:Inv X pins σ H s)(hg:Gl X x)(hm:X.mg x=none)(hv:bootBuiltins x=some u)(h:Q u s)
  (hn:x≠"__name__":=by decide) (hd:QDD x:=by decide):wpAny (model X.prog X.w) X.A (eval (.Name x pos) X.env) Q E s:=by
 obtain⟨mb,h1,h2⟩:=I.mod.blt;exact d2e I.ok.kind hg (Calls.loadGlobal_builtin (by rw[I.ok.glob];exact I.mod.glob.keeps I.bk) hm (by rw[I.ok.blt];exact h1.keeps I.bk) ((h2 x hn).trans hv) h) hd
theorem b4O{x:Str}{v:V}{u:c8t}{pos:Pos}(hg:Gl X x)(hm:X.mg x=some u)(r:RelV v u)(hd:QDD x:=by decide):PE X (.Name x pos) (tC v) :=
 fun _ _ _ H _ I h=>a4w I hg hm ⟨v,H,I,r,h⟩ hd
theorem c4k{x:Str}{v:V}{u:c8t}{pos:Pos}(hg:Gl X x)(hm:X.mg x=none)(hv:bootBuiltins x=some u)(r:RelV v u)(hn:x≠"__name__":=by decide)(hd:QDD x:=by decide):PE X (.Name x pos) (tC v) :=
 fun _ _ _ H _ I h=>a2Q I hg hm hv ⟨v,H,I,r,h⟩ hn hd
variable{a b:Expr}{ta tb:TE}{pos:Pos}
variable{tA tB':TT}{rest:LSE}
noncomputable def tAnd(t u:TT):TT:=fun σ H Q=>t σ H fun c H1=>if c=true then u σ H1 Q else Q false H1
noncomputable def tOr(t u:TT):TT:=fun σ H Q=>t σ H fun c H1=>if c=true then Q true H1 else u σ H1 Q
noncomputable def tNot(t:TT):TT:=fun σ H Q=>t σ H fun c H1=>Q (!c) H1
theorem c3W(ha:PT X a tA):PW X (.BoolOp .And [a] pos) tA:=by
 intro wh pins s σ H Q I h;refine isTrue_and (thn (ha pins s σ H Q I h) fun c s1 e=>?_);cases c with
 |true=>exact isTrue_and_nil e
 |false=>exact e
theorem c5P(ha:PT X a tA):PW X (.BoolOp .Or [a] pos) tA:=by
 intro wh pins s σ H Q I h;refine isTrue_or (thn (ha pins s σ H Q I h) fun c s1 e=>?_);cases c with
 |false=>exact isTrue_or_nil e
 |true=>exact e
theorem c5Q(ha:PT X a tA)(hb:PW X (.BoolOp .And (b::rest) pos) tB'):PW X (.BoolOp .And (a::b::rest) pos) (tAnd tA tB'):=by
 intro wh pins s σ H Q I h;refine isTrue_and (thn (ha pins s σ H _ I h) fun c s1 ⟨H1,I1,q1⟩=>?_);cases c with
 |true=>exact hb wh pins s1 σ H1 Q I1 q1
 |false=>exact⟨H1,I1,q1⟩
theorem c7z(ha:PT X a tA)(hb:PW X (.BoolOp .Or (b::rest) pos) tB'):PW X (.BoolOp .Or (a::b::rest) pos) (tOr tA tB'):=by
 intro wh pins s σ H Q I h;refine isTrue_or (thn (ha pins s σ H _ I h) fun c s1 ⟨H1,I1,q1⟩=>?_);cases c with
 |true=>exact⟨H1,I1,q1⟩
 |false=>exact hb wh pins s1 σ H1 Q I1 q1
theorem c5R(ha:PT X a tA):PT X (.UnaryOp .Not a pos) (tNot tA):=by
 intro pins s σ H Q I h;exact isTrue_not (ha pins s σ H (fun c H1=>Q (!c) H1) I h)
noncomputable def c7r(ta tb:TE):TE:=fun σ H Q=>ta σ H fun x H1=>∃c,x=.bl c/\if c=true then tb σ H1 Q else Q (.bl false) H1
theorem c6c{op}{t:TE}(h:PE X a t):PE X (.BoolOp op [a] pos) t:=fun pins s σ H Q I hw=>BoolOp_one (h pins s σ H Q I hw)
theorem c6j(ha:PE X a ta)(hb:PE X (.BoolOp .And (b::rest) pos) tb):PE X (.BoolOp .And (a::b::rest) pos) (c7r ta tb):=by
 intro pins s σ H Q I h;refine BoolOp_and (thn (ha pins s σ H _ I h) fun v s1 ⟨x,H1,I1,r1,q1⟩=>?_);obtain⟨c,rfl,q1⟩:=q1;cases r1;refine d0l ?_;cases c with
 |true=>exact hb pins s1 σ H1 Q I1 q1
 |false=>exact⟨.bl false,H1,I1,rfl,q1⟩
noncomputable def tIf(t:TT)(ta tb:TE):TE:=fun σ H Q=>t σ H fun c H1=>if c=true then ta σ H1 Q else tb σ H1 Q
theorem c1G{c:Expr}(hc:PT X c tA)(ha:PE X a ta)(hb:PE X b tb):PE X (.IfExp c a b pos) (tIf tA ta tb):=by
 intro pins s σ H Q I h;refine wpAny_IfExp (thn (hc pins s σ H _ I h) fun d s1 ⟨H1,I1,q1⟩=>?_);cases d with
 |true=>exact ha pins s1 σ H1 Q I1 q1
 |false=>exact hb pins s1 σ H1 Q I1 q1
end
noncomputable def SqL(K:PySem.W.Frag)(H:Hp)(a:Addr)(xs:List V):Prop :=
 Rd H a (.lst xs) \/
  ∃(o:Obj) (its:Array c8t) (n:Nat),K.lookup a=some o/\o.cls=.type "list"/\o.dict=none/\o.data=.seq its n/\its.size<=sizeLine/\Vals xs its.toList
noncomputable def SqT(K:PySem.W.Frag)(H:Hp)(a:Addr)(xs:List V):Prop :=
 Rd H a (.tup xs) \/
  ∃(o:Obj) (its:Array c8t) (n:Nat),K.lookup a=some o/\o.cls=.type "tuple"/\o.dict=none/\o.data=.seq its n/\its.size<=sizeLine/\Vals xs its.toList
noncomputable def absV:c8t->Option V
 |.none=>some .non
 |.bool b=>some (.bl b)
 |.int i _=>some (.int i)
 |.str x _=>some (.str x)
 |.bytes b _=>some (.byt b)
 |.float b _=>some (.flt b)
 |.ref a=>some (.ref a)
 |.type n=>some (.ty n)
 |_=>none
theorem RelV.abs{x:V}{u:c8t}(r:RelV x u):absV u=some x:=by
 cases x with
 |non=>cases r;rfl
 |bl _=>cases r;rfl
 |int _=>obtain⟨t,rfl⟩:=r;rfl
 |str _=>obtain⟨t,rfl⟩:=r;rfl
 |byt _=>obtain⟨t,rfl⟩:=r;rfl
 |flt _=>obtain⟨t,rfl⟩:=r;rfl
 |ref _=>cases r;rfl
 |ty _=>cases r;rfl
theorem RelV.inj{x y:V}{u:c8t}(r:RelV x u)(q:RelV y u):x=y:=c8z (r.abs.symm.trans q.abs)
theorem Vals.inj:∀{xs ys:List V} {us:LSV},Vals xs us->Vals ys us->xs=ys
 |_,_,_,.nil,.nil=>rfl
 |_,_,_,.cons r t,.cons r' t'=>by rw[r.inj r',Vals.inj t t']
section
variable{X:Cx}{pins:PNS}{σ:St}{H:Hp}{s:c8u}{a:Addr}{xs ys:List V}
theorem SqL.of{K:PySem.W.Frag}(h:H a=some (.lst xs)):SqL K H a xs:=.inl (.inl h)
theorem SqT.of{K:PySem.W.Frag}(h:H a=some (.tup xs)):SqT K H a xs:=.inl (.inl h)
theorem Inv.list(I:Inv X pins σ H s)(h:SqL X.K H a xs):∃its:LSV,Vals xs its/\PlainL s.heap a its.toArray/\xs.length<=sizeLine:=by
 rcases h with h|⟨o,its,n,hk,hc,hd,hs,hz,r⟩
 ·obtain⟨z,its,n,r,e⟩:=h.ok I.hok;exact⟨its,r,⟨_,n,e,rfl,rfl,rfl⟩,z⟩
 ·refine⟨its.toList,r,⟨o,n,I.kIn a o hk,hc,hd,by simpa using hs⟩,?_⟩;have e:=r.length;simp only[c8K] at e;lia
theorem Inv.tuple(I:Inv X pins σ H s)(h:SqT X.K H a xs):∃its:LSV,Vals xs its/\d5O s.heap a its.toArray/\xs.length<=sizeLine:=by
 rcases h with h|⟨o,its,n,hk,hc,hd,hs,hz,r⟩
 ·obtain⟨z,its,r,p⟩:=h.ok I.hok;exact⟨its,r,p.t,z⟩
 ·refine⟨its.toList,r,⟨o,I.kIn a o hk,hc,n,by simpa using hs⟩,?_⟩;have e:=r.length;simp only[c8K] at e;lia
theorem Inv.tuple0(I:Inv X pins σ H s)(h:SqT X.K H a xs):∃its:LSV,Vals xs its/\a3m s.heap a its.toArray/\xs.length<=sizeLine:=by
 rcases h with h|⟨o,its,n,hk,hc,hd,hs,hz,r⟩
 ·obtain⟨z,its,r,p⟩:=h.ok I.hok;exact⟨its,r,p,z⟩
 ·refine⟨its.toList,r,⟨o,I.kIn a o hk,hc,hd,n,by simpa using hs⟩,?_⟩;have e:=r.length;simp only[c8K] at e;lia
theorem Inv.list_inj(I:Inv X pins σ H s)(h:SqL X.K H a xs)(h':SqL X.K H a ys):xs=ys:=by
 obtain⟨its,r,⟨o,n,e,_,_,d⟩,_⟩:=I.list h;obtain⟨its',r',⟨o',n',e',_,_,d'⟩,_⟩:=I.list h';rw[e] at e';cases e';rw[d] at d';injection d' with d1 _;have:its=its':=by simpa using congrArg d5Q d1
 subst this;exact r.inj r'
theorem Inv.tuple_inj(I:Inv X pins σ H s)(h:SqT X.K H a xs)(h':SqT X.K H a ys):xs=ys:=by
 obtain⟨its,r,⟨o,e,_,n,d⟩,_⟩:=I.tuple h;obtain⟨its',r',⟨o',e',_,n',d'⟩,_⟩:=I.tuple h';rw[e] at e';cases e';rw[d] at d';injection d' with d1 _;have:its=its':=by simpa using congrArg d5Q d1
 subst this;exact r.inj r'
end
noncomputable abbrev Cx.wish(X:Cx)(E:VPR):Cx:={ X with xe:=E }
noncomputable abbrev Cx.nox(X:Cx):Cx:=X.wish fun _ _=>False
theorem Cx.Ok.wish{X:Cx}(ok:X.Ok)(E:VPR):(X.wish E).Ok :=
 ⟨ok.mod,ok.kind,ok.glob,ok.blt,ok.above,ok.inj,ok.has,ok.cab,ok.hd,ok.frames,ok.stk,ok.exf,ok.bs,ok.bsz,ok.noex,ok.exfs,ok.funs,ok.frf⟩
theorem Cx.Ok.unwish{X:Cx}{E:VPR}(ok:(X.wish E).Ok):X.Ok :=
 ⟨ok.mod,ok.kind,ok.glob,ok.blt,ok.above,ok.inj,ok.has,ok.cab,ok.hd,ok.frames,ok.stk,ok.exf,ok.bs,ok.bsz,ok.noex,ok.exfs,ok.funs,ok.frf⟩
section
variable{X:Cx}{pins:PNS}{σ:St}{H:Hp}{s:c8u}{E:VPR}
theorem Inv.wish(I:Inv X pins σ H s)(E:VPR):Inv (X.wish E) pins σ H s:=⟨I.ok.wish E,I.os,I.bare,I.base,I.loc,I.cell,I.free,I.freeC,I.pin,I.hok,I.len⟩
theorem Inv.unwish(I:Inv (X.wish E) pins σ H s):Inv X pins σ H s:=⟨I.ok.unwish,I.os,I.bare,I.base,I.loc,I.cell,I.free,I.freeC,I.pin,I.hok,I.len⟩
theorem SP.unwish{D:Ends}{f:Flow}{s':c8u}(h:SP (X.wish E) pins D f s'):SP X pins D f s':=by
 cases f with
 |next=>obtain⟨σ',H',I,q⟩:=h;exact⟨σ',H',I.unwish,q⟩
 |brk=>obtain⟨σ',H',I,q⟩:=h;exact⟨σ',H',I.unwish,q⟩
 |cont=>obtain⟨σ',H',I,q⟩:=h;exact⟨σ',H',I.unwish,q⟩
 |ret u=>obtain⟨v,σ',H',I,r,q⟩:=h;exact⟨v,σ',H',I.unwish,r,q⟩
theorem PE.nox{e:Expr}{t:TE}(h:PE X.nox e t):PE X e t:=fun pins s σ H Q I hw =>
 c9G (h pins s σ H Q (I.wish _) hw) (fun _ _ ⟨v,H',I',r,q⟩=>⟨v,H',I'.unwish,r,q⟩) fun _ _ z=>c9k z
theorem PT.nox{e:Expr}{t:TT}(h:PT X.nox e t):PT X e t:=fun pins s σ H Q I hw =>
 c9G (h pins s σ H Q (I.wish _) hw) (fun _ _ ⟨H',I',q⟩=>⟨H',I'.unwish,q⟩) fun _ _ z=>c9k z
theorem PSs.nox{st:List Stmt}{t:TS}(h:PSs X.nox st t):PSs X st t:=fun pins s σ H D I hw =>
 c9G (h pins s σ H D (I.wish _) hw) (fun _ _ q=>q.unwish) fun _ _ z=>c9k z
end
section
variable{X:Cx}{st:Stmt}{rest:List Stmt}{t u:TS}{e:Expr}{te:TE}{pos:Pos}
noncomputable def c7l:TS:=fun D σ H=>D.nx σ H
noncomputable def tSeq(t u:TS):TS:=fun D σ H=>t { D with nx:=u D } σ H
theorem c3Z:PSs X [] c7l:=fun _ _ σ H _ I h=>d0U ⟨σ,H,I,h⟩
theorem b5S(h1:PS X st t)(h2:PSs X rest u):PSs X (st::rest) (tSeq t u):=by
 intro pins s σ H D I h;refine d4P (thn (h1 pins s σ H { D with nx:=u D } I h) fun f s1 q=>?_);cases f with
 | next =>
   obtain⟨σ',H',I',q⟩:=q;exact h2 pins s1 σ' H' D I' q
 |ret v=>exact q
 |brk=>exact q
 |cont=>exact q
theorem b8Q(h1:PS X st t):PSs X [st] t:=by
 intro pins s σ H D I h;refine d4P (thn (h1 pins s σ H D I h) fun f s1 q=>?_);cases f with
 |next=>exact d0U q
 |ret v=>exact q
 |brk=>exact q
 |cont=>exact q
noncomputable def c5A:TS:=fun D σ H=>D.bk σ H
theorem c1z:PS X (.Break pos) c5A:=fun _ _ σ H _ I h=>wpAny_Break ⟨σ,H,I,h⟩
theorem Inv.quiet{pins:PNS}{σ:St}{H:Hp}{s:c8u}(I:Inv X pins σ H s):interactive X.env=false:=by simp[interactive,I.ok.kind]
noncomputable def c7n(te:TE):TS:=fun D σ H=>te σ H fun _ H1=>D.nx σ H1
theorem b8R(he:PE X e te)(hs:swapsWith e none pos.line X.env=pure false:=by rfl):PS X (.Expr e pos) (c7n te):=by
 intro pins s σ H D I h;exact wpAny_Expr_any (thn (he pins s σ H _ I h) fun v s1 ⟨x,H1,I1,r1,q1⟩=>⟨σ,H1,I1,q1⟩) I.quiet hs
noncomputable def tRet(te:TE):TS:=fun D σ H=>te σ H D.rt
theorem c2W(he:PE X e te):PS X (.Return (some e) pos) (tRet te):=by
 intro pins s σ H D I h;exact wpAny_Return_some (thn (he pins s σ H _ I h) fun v s1 ⟨x,H1,I1,r1,q1⟩=>⟨x,σ,H1,I1,r1,q1⟩)
noncomputable def tIfS(c:TT)(t u:TS):TS:=fun D σ H=>c σ H fun b H1=>if b=true then t D σ H1 else u D σ H1
theorem c5S{c:Expr}{a b:List Stmt}{tc:TT}(hc:PT X c tc)(ha:PSs X a t)(hb:PSs X b u):PS X (.If c a b pos) (tIfS tc t u):=by
 intro pins s σ H D I h;refine wpAny_If (thn (hc pins s σ H _ I h) fun d s1 ⟨H1,I1,q1⟩=>?_);cases d with
 |true=>exact ha pins s1 σ H1 D I1 q1
 |false=>exact hb pins s1 σ H1 D I1 q1
end
noncomputable abbrev TG:=V->St->Hp->(St->Hp->Prop)->Prop
noncomputable abbrev TGs:=List V->St->Hp->(St->Hp->Prop)->Prop
noncomputable def PG(X:Cx)(target:Expr)(t:TG):Prop :=
 ∀ pins s σ H (v:V) (u:c8t) (Q:St->Hp->Prop),Inv X pins σ H s->RelV v u->t v σ H Q ->
   wpAny (model X.prog X.w) X.A (assign target X.env u) (fun _ s'=>∃σ' H',Inv X pins σ' H' s'/\Q σ' H') X.xe s
noncomputable def PGs(X:Cx)(ts:LSE)(t:TGs):Prop :=
 ∀ pins s σ H (vs:List V) (us:LSV) (Q:St->Hp->Prop),Inv X pins σ H s->Vals vs us->t vs σ H Q ->
   wpAny (model X.prog X.w) X.A (assignInOrder ((assignEach ts X.env).map (·.2)) us) (fun _ s'=>∃σ' H',Inv X pins σ' H' s'/\Q σ' H') X.xe s
noncomputable abbrev TSet:=V->V->V->Hp->(Hp->Prop)->Prop
noncomputable def PSet(X:Cx)(t:TSet):Prop :=
 ∀ pins s σ H (o i v:V) (ov iv u:c8t) (Q:Hp->Prop),Inv X pins σ H s->RelV o ov->RelV i iv->RelV v u->t o i v H Q ->
   wpAny (model X.prog X.w) X.A (setItem ov iv u) (fun _ s'=>∃H',Inv X pins σ H' s'/\Q H') X.xe s
noncomputable abbrev TIp:=V->V->Hp->VK->Prop
noncomputable def PIp(X:Cx)(op:d5e)(t:TIp):Prop :=
 ∀ pins s σ H (x y:V) (v u:c8t) (Q:VK),Inv X pins σ H s->RelV x v->RelV y u->t x y H Q ->
   wpAny (model X.prog X.w) X.A (inplaceOp op v u) (EP X pins σ Q) X.xe s
section
variable{X:Cx}{pos:Pos}
noncomputable def c0g(i:Nat):TG:=fun v σ H Q=>Q (σ.set i (some v)) H
theorem b4N{i:Nat}{x:Str}(hN:X.N.Nodup)(hi:X.N[i]?=some x)(hx:Loc X.env.scope x)(hf:QXX X x:=by first|exact .inl rfl|exact .inr rfl|assumption):PG X (.Name x pos) (c0g i):=by
 intro pins s σ H v u Q I r h;exact d4s (b1f I hN hi hx r (fun s' I'=>⟨_,H,I',h⟩) hf)
noncomputable def gNil:TGs:=fun vs σ H Q=>vs=[]/\Q σ H
noncomputable def c7V(t:TG)(u:TGs):TGs:=fun vs σ H Q=>∃v r,vs=v::r/\t v σ H fun σ' H'=>u r σ' H' Q
theorem c4d:PGs X [] gNil:=by
 intro pins s σ H vs us Q I r h;obtain⟨e,h⟩:=h;subst e;cases r;exact assignInOrder_nil ⟨σ,H,I,h⟩
theorem c1C{e:Expr}{es:LSE}{t:TG}{u:TGs}(h1:PG X e t)(h2:PGs X es u)
  (hs:(assignEach (e::es) X.env).map (·.2)=assign e X.env::(assignEach es X.env).map (·.2):=by rfl):PGs X (e::es) (c7V t u):=by
 intro pins s σ H vs us Q I r h;obtain⟨v,vr,e1,h⟩:=h;subst e1;cases r with
 | cons r rr =>
   rw[hs];refine assignInOrder_cons (thn (h1 pins s σ H _ _ _ I r h) fun _ s1 ⟨σ1,H1,I1,q1⟩=>?_);exact h2 pins s1 σ1 H1 _ _ Q I1 rr q1
noncomputable def gTup(K:PySem.W.Frag)(n:Nat)(t:TGs):TG:=fun v σ H Q=>∃a xs,v=.ref a/\SqT K H a xs/\xs.length=n/\t xs σ H Q
theorem c5X{es:LSE}{k:Nat}{t:TGs}{n:Nat}(hc:X.calm=true)(h:PGs X es t)
  (hn:(assignEach es X.env).length=n:=by rfl) (hst:(assignEach es X.env).findIdx? (·.1)=none:=by rfl):PG X (.Tuple es k pos) (gTup X.K n t):=by
 intro pins s σ H v u Q I r hw;obtain⟨a,xs,e1,hq,hl,hw⟩:=hw;subst e1;cases r;obtain⟨its,rv,ht,hz⟩:=I.tuple hq;refine assign_Tuple_tuple (I.ok.hd hc) ht (by simp[hn,<- hl,rv.length]) hst fun h' hx=>?_;have I1:Inv X pins σ H { s with heap:=h' }:=I.kept (t':=s.toks) fun b o e=>hx b o (c8P (c8o e)) e;exact h pins _ σ H xs _ Q I1 (by simpa using rv) hw
noncomputable def gSub(to ti:TE)(t:TSet):TG:=fun v σ H Q=>to σ H fun o H1=>ti σ H1 fun i H2=>t o i v H2 fun H3=>Q σ H3
theorem c5Y{o i:Expr}{to ti:TE}{t:TSet}(ho:PE X o to)(hi:PE X i ti)(hs:PSet X t)
  (ha:∀v,assign (.Subscript o i pos) X.env v=(do
   let ov <- holding [v] (eval o X.env)
   let iv <- holding [v,ov] (eval i X.env)
   standAt pos
   holding [v,ov,iv] (setItem ov iv v)
   release [v,ov,iv] []):=by intro _;rfl):PG X (.Subscript o i pos) (gSub to ti t):=by
 intro pins s σ H v u Q I r h;rw[ha];refine c8f (d0t (thn (ho pins s σ H _ I h) fun ov s1 ⟨x,H1,I1,r1,q1⟩=>?_));refine c8f (d0t (thn (hi pins s1 σ H1 _ I1 q1) fun iv s2 ⟨y,H2,I2,r2,q2⟩=>?_));refine c8f (d3Y (c8f (d0t (thn (hs pins s2 σ H2 x y v ov iv u _ I2 r1 r2 r q2) fun _ s3 ⟨H3,I3,q3⟩=>?_))));exact wpAny_release ⟨σ,H3,I3,q3⟩
noncomputable def tAsg(te:TE)(g:TG):TS:=fun D σ H=>te σ H fun x H1=>g x σ H1 D.nx
theorem c5W{tg e:Expr}{te:TE}{g:TG}(he:PE X e te)(hg:PG X tg g)(hs:swapsWithSole [tg] e pos.line X.env=pure false:=by rfl)(hw:swappedStores [tg] e X.env=pure none:=by rfl)
  (h1:(assignEach [tg] X.env).map (·.2)=[assign tg X.env]:=by rfl):PS X (.Assign [tg] e pos) (tAsg te g):=by
 intro pins s σ H D I h;refine wpAny_Assign_stores (thn (he pins s σ H _ I h) fun v s1 ⟨x,H1,I1,r1,q1⟩=>?_) hs hw;rw[h1];exact thn (hg pins s1 σ H1 x v _ I1 r1 q1) fun _ s2 q=>q
theorem c2V{i:Nat}{x:Str}{e:Expr}{te:TE}{pos':Pos}(hN:X.N.Nodup)(hi:X.N[i]?=some x)(hx:Loc X.env.scope x)(he:PE X e te)(hs:swapsWith e (some (.Name x pos')) pos.line X.env=pure false:=by rfl)(hf:QXX X x:=by first|exact .inl rfl|exact .inr rfl|assumption) :
  PS X (.Assign [.Name x pos'] e pos) (tAsg te (c0g i)):=by
 intro pins s σ H D I h;refine wpAny_Assign_Name (thn (he pins s σ H _ I h) fun v s1 ⟨y,H1,I1,r1,q1⟩=>?_) hs;exact b1f I1 hN hi hx r1 (fun s2 I2=>⟨_,H1,I2,q1⟩) hf
noncomputable def tAug(i:Nat)(te:TE)(ti:TIp):TS:=fun D σ H=>∃x,σ[i]?=some (some x)/\te σ H fun y H1=>ti x y H1 fun z H2=>D.nx (σ.set i (some z)) H2
theorem c5V{i:Nat}{x:Str}{e:Expr}{te:TE}{op:d5e}{ti:TIp}{pos':Pos}(hN:X.N.Nodup)(hi:X.N[i]?=some x)(hx:Loc X.env.scope x)(he:PE X e te)(ho:PIp X op ti)(hf:QXX X x:=by first|exact .inl rfl|exact .inr rfl|assumption) :
  PS X (.AugAssign (.Name x pos') op e pos) (tAug i te ti):=by
 intro pins s σ H D I h;obtain⟨v,e1,h⟩:=h;obtain⟨m,hn,hl⟩:=I.loc
 have vis:Vis X.env.scope x:=by rcases hx with k|k;exact .inl k;exact .inr (.inl k)
 obtain⟨u,r,l⟩:=hl i x v hi e1 vis;refine wpAny_AugAssign_Name ?_
 have go:wpAny (model X.prog X.w) X.A (eval e X.env) (fun w s₂=>wpAny (model X.prog X.w) X.A (inplaceOp op u w) (fun r s₃=>wpAny (model X.prog X.w) X.A (storeName X.env x r) (fun _=>SP X pins D .next) X.xe s₃) X.xe s₂) X.xe s:=by
  refine thn (he pins s σ H _ I h) fun w s1 ⟨y,H1,I1,r1,q1⟩=>?_;refine thn (ho pins s1 σ H1 v y u w _ I1 r r1 q1) fun z s2 ⟨zv,H2,I2,r2,q2⟩=>?_;exact b1f I2 hN hi hx r2 (fun s3 I3=>⟨_,H2,I3,q2⟩) hf
 rcases l with ⟨hk,hm⟩|⟨hk,c,hc,hcell⟩
 ·exact d3A I.ok.kind hk hn hm go
 ·rcases hk with hk|hk
  ·exact d3L I.ok.kind hk hc hcell go
  ·rcases hx with k|k
   ·have:X.env.scope.names.lookup x=some .free:=hk;rw[k] at this;cases this
   ·have:X.env.scope.names.lookup x=some .free:=hk;rw[k] at this;cases this
noncomputable def ipI(f:Int->Int->Int):TIp:=fun x y H Q=>∃i j,x=.int i/\y=.int j/\Q (.int (f i j)) H
theorem c6M:PIp X .Add (ipI fun i j=>i+j):=by
 intro pins s σ H x y v u Q I r1 r2 h;obtain⟨i,j,e1,e2,q⟩:=h;subst e1;subst e2;obtain⟨t,rfl⟩:=r1;obtain⟨t',rfl⟩:=r2;exact iadd_int ⟨.int _,H,I.tok _,⟨_,rfl⟩,q⟩
theorem c3b:PIp X .Sub (ipI fun i j=>i-j):=by
 intro pins s σ H x y v u Q I r1 r2 h;obtain⟨i,j,e1,e2,q⟩:=h;subst e1;subst e2;obtain⟨t,rfl⟩:=r1;obtain⟨t',rfl⟩:=r2;exact isub_int ⟨.int _,H,I.tok _,⟨_,rfl⟩,q⟩
end
section
variable{X:Cx}{pos:Pos}
end
structure It where
 go:Nat->Hp->Prop
 yld:Nat->Hp->V->Hp->Prop
 stop:Nat->Hp->Prop
noncomputable def FpOk(X:Cx)(pins:PNS)(H:Hp)(b:Addr):Prop :=
 H b=none/\b≠X.env.locals/\b∉X.fs/\(b∈X.ex\/X.s₀.heap.objs.size<=b)/\(∀x c,X.env.cells.lookup x=some c->c≠b)/\∀p∈X.pn++pins,p.1≠b
theorem Inv.fpOk{X:Cx}{pins:PNS}{σ:St}{H H':Hp}{s:c8u}{b:Addr}(I:Inv X pins σ H s)(hb:s.heap.objs.size<=b)(hn:H' b=none):FpOk X pins H' b:=by
 refine⟨hn,d0G (c8w I.lt hb),I.nofs hb,.inr (c8C I.sz hb),fun x c e z=>?_,fun p hp z=>?_⟩
 ·obtain⟨v,q⟩:=I.cell x c e;exact absurd (c8w q.lt (by rw[z];exact hb)) (c9x _)
 ·exact absurd (c8w (c8o (I.pin p hp).1) (by rw[z];exact hb)) (c9x _)
structure Turn(P:c8G)(w:c9d)(K:PySem.W.Frag)(tg:Expr)(J:It)(fp:List Addr)(it:Addr)(tn:Nat->Heap->Prop):Prop where
 mem:it∈fp
 obj:∀i h,tn i h->∀b∈fp,∃o,h.get? b=some o/\∀v,o.data≠.cell v
 keep:∀i h h',tn i h->(∀b∈fp,∀o,h.get? b=some o->h'.get? b=some o)->tn i h'
 item:∀(X:Cx),X.prog=P->X.w=w->X.K=K->X.calm=true->∀(i:Nat) (pins:PNS) (s:c8u) (σ:St) (H:Hp) (E:VPR),Inv X pins σ H s->(∀b∈fp,FpOk X pins H b)->tn i s.heap->J.go i H ->
  wpAny (model P w) X.A (pyNext (.ref it)) (fun r s1=>∃u,r=some u /\
   wpAny (model P w) X.A (letOwnedTupleGo tg (.ref it) u) (fun _ s2=>∃x H',Inv X pins σ H' s2/\RelV x u/\J.yld i H x H'/\tn (i+1) s2.heap/\∀b∈fp,H' b=none) E s1) E s
 done:∀(X:Cx),X.prog=P->X.w=w->X.K=K->X.calm=true->∀(i:Nat) (pins:PNS) (s:c8u) (σ:St) (H:Hp) (E:VPR),Inv X pins σ H s->(∀b∈fp,FpOk X pins H b)->tn i s.heap->J.stop i H ->
  wpAny (model P w) X.A (pyNext (.ref it)) (fun r s1=>r=none/\Inv X pins σ H s1) E s
 self:∀(A:c8Z) (i:Nat) (s:c8u) (Q:VPR) (E:VPR),tn i s.heap->Q (.ref it) s->wpAny (model P w) A (pyIter (.ref it)) Q E s
noncomputable abbrev TI:=St->Hp->(It->Hp->Prop)->Prop
noncomputable def PIE(X:Cx)(pins:PNS)(σ:St)(tg:Expr)(R:It->Hp->Prop)(itv:c8t)(s2:c8u):Prop :=
 ∃(it:Addr) (fp:List Addr) (tn:Nat->Heap->Prop) (J:It) (H':Hp),itv=.ref it/\Inv X pins σ H' s2/\Turn X.prog X.w X.K tg J fp it tn/\tn 0 s2.heap/\(∀b∈fp,FpOk X pins H' b)/\R J H'
noncomputable def PI(X:Cx)(tg iter:Expr)(wi:TI):Prop :=
 ∀ pins s σ H (R:It->Hp->Prop),Inv X pins σ H s->wi σ H R ->
   wpAny (model X.prog X.w) X.A (eval iter X.env) (fun v s1=>wpAny (model X.prog X.w) X.A (pyIter v) (PIE X pins σ tg R) X.xe s1) X.xe s
theorem b7D{M:d5P}{A:c8Z}{E:VPR}{s:c8u}{tg:Expr}{it:Addr}{u:c8t}{o:Obj}{n:String}{vs:Array c8t}{Q:Unit->c8u->Prop}(ho:s.heap.get? it=some o)(hc:o.cls=.type n)(hd:o.data=.fields vs)
  (hn:["enumerate","zip","dict_itemiterator","dict_reverseitemiterator","odict_iterator","itertools.zip_longest","itertools.pairwise"].contains n=false) (hQ:Q () s):wpAny M A (letOwnedTupleGo tg (.ref it) u) Q E s:=by
 unfold letOwnedTupleGo
 cases tg<;>first
  |exact c8x hQ
  | (cases u<;>first
    |exact c8x hQ
    | (refine c8f (wpAny_load ho ?_)
       rw[hc,hd]
       show wpAny M A (if (["enumerate","zip","dict_itemiterator","dict_reverseitemiterator","odict_iterator","itertools.zip_longest","itertools.pairwise"].contains n&&vs[0]?==some (rawInt _))=true then _ else _) Q E s
       rw[if_neg (by intro h;rw[hn,d1i] at h;cases h)]
       exact c8x hQ))
noncomputable def Itl(K:PySem.W.Frag)(a:Addr):It :=
 ⟨fun i H=>∃xs x,SqL K H a xs/\xs[i]?=some x,fun i H x H'=>H'=H/\∀xs,SqL K H a xs->xs[i]?=some x,fun i H=>∃xs,SqL K H a xs/\xs.length<=i⟩
noncomputable def Itt(K:PySem.W.Frag)(a:Addr):It :=
 ⟨fun i H=>∃xs x,SqT K H a xs/\xs[i]?=some x,fun i H x H'=>H'=H/\∀xs,SqT K H a xs->xs[i]?=some x,fun i H=>∃xs,SqT K H a xs/\xs.length<=i⟩
noncomputable def Itr(lo:Int)(n:Nat):It:=⟨fun i _=>i<n,fun i H x H'=>H'=H/\x=.int (lo+i),fun i _=>n<=i⟩
theorem b8a{P:c8G}{w:c9d}{K:PySem.W.Frag}{tg:Expr}(a it:Addr):Turn P w K tg (Itl K a) [it] it (fun i h=>h.IsListIter it a i) where
 mem:=by simp
 obj:=fun i h st b hb=>by
  have e:b=it:=by simpa using hb
  subst e;obtain⟨o,e,c,d⟩:=st;exact⟨o,e,fun v z=>by rw[d] at z;cases z⟩
 keep:=fun i h h' st k=>st.at fun o e=>k it (by simp) o e
 item:=by
  intro X hP hw hK hc i pins s σ H E I hf st hg;subst hP hw hK;obtain⟨xs,x,hq,hx⟩:=hg;obtain⟨its,rv,p,hz⟩:=I.list hq;obtain⟨u,hu,ru⟩:=rv.get hx;obtain⟨f0,f1,f2,f3,f4,f5⟩:=hf it (by simp);refine wpAny_pyNext_list_item st p.isList (x:=u) (by simpa using hu) fun h' st' sb=>?_;have I1:Inv X pins σ H { s with heap:=h' }:=I.turned (t':=s.toks) (fun b o hb e=>(sb.2 b hb).trans e) f0 f1 f3 f4 f5;obtain⟨o,e,c,d⟩:=id st';exact⟨u,rfl,b7D (s:={ s with heap:=h' }) e c d (by decide) ⟨x,H,I1,ru,⟨rfl,fun ys hy=>by rw[I.list_inj hy hq];exact hx⟩,st',fun b hb=>(hf b hb).1⟩⟩
 done:=by
  intro X hP hw hK hc i pins s σ H E I hf st hg;subst hP hw hK;obtain⟨xs,hq,hx⟩:=hg;obtain⟨its,rv,p,hz⟩:=I.list hq;obtain⟨f0,f1,f2,f3,f4,f5⟩:=hf it (by simp);have hl:=rv.length;exact wpAny_pyNext_list_end (I.ok.hd hc) st p.isList (by simp;lia) fun h' eb=>⟨rfl,I.turned (t':=s.toks) (fun b o hb e=>eb b o hb e) f0 f1 f3 f4 f5⟩
 self:=fun _ _ _ _ _ st h=>wpAny_pyIter_listiter st h
theorem b6I{P:c8G}{w:c9d}{K:PySem.W.Frag}{tg:Expr}(a it:Addr):Turn P w K tg (Itt K a) [it] it (fun i h=>h.IsTupleIter it a i) where
 mem:=by simp
 obj:=fun i h st b hb=>by
  have e:b=it:=by simpa using hb
  subst e;obtain⟨o,e,c,d⟩:=st;exact⟨o,e,fun v z=>by rw[d] at z;cases z⟩
 keep:=fun i h h' st k=>st.at fun o e=>k it (by simp) o e
 item:=by
  intro X hP hw hK hc i pins s σ H E I hf st hg;subst hP hw hK;obtain⟨xs,x,hq,hx⟩:=hg;obtain⟨its,rv,p,hz⟩:=I.tuple hq;obtain⟨u,hu,ru⟩:=rv.get hx;obtain⟨f0,f1,f2,f3,f4,f5⟩:=hf it (by simp);refine wpAny_pyNext_tuple_item st (show s.heap.IsTuple a its.toArray from p) (x:=u) (by simpa using hu) fun h' st' sb=>?_;have I1:Inv X pins σ H { s with heap:=h' }:=I.turned (t':=s.toks) (fun b o hb e=>(sb.2 b hb).trans e) f0 f1 f3 f4 f5;obtain⟨o,e,c,d⟩:=id st';exact⟨u,rfl,b7D (s:={ s with heap:=h' }) e c d (by decide) ⟨x,H,I1,ru,⟨rfl,fun ys hy=>by rw[I.tuple_inj hy hq];exact hx⟩,st',fun b hb=>(hf b hb).1⟩⟩
 done:=by
  intro X hP hw hK hc i pins s σ H E I hf st hg;subst hP hw hK;obtain⟨xs,hq,hx⟩:=hg;obtain⟨its,rv,p,hz⟩:=I.tuple hq;obtain⟨f0,f1,f2,f3,f4,f5⟩:=hf it (by simp);have hl:=rv.length;exact wpAny_pyNext_tuple_end (I.ok.hd hc) st (show s.heap.IsTuple a its.toArray from p) (by simp;lia) fun h' eb=>⟨rfl,I.turned (t':=s.toks) (fun b o hb e=>eb b o hb e) f0 f1 f3 f4 f5⟩
 self:=fun _ _ _ _ _ st h=>wpAny_pyIter_tupleiter st h
theorem b6J{P:c8G}{w:c9d}{K:PySem.W.Frag}{tg:Expr}(it:Addr)(lo:Int)(n:Nat):Turn P w K tg (Itr lo n) [it] it (fun i h=>IsRangeIter h it (lo+(i:Nat)*1) ((n:Int)-(i:Nat)) 1) where
 mem:=by simp
 obj:=fun i h st b hb=>by
  have e:b=it:=by simpa using hb
  subst e
  exact⟨_,st,fun v z=>by
   have z':d6d _=Data.cell v:=z
   cases z'⟩
 keep:=fun i h h' st k=>k it (by simp) _ st
 item:=by
  intro X hP hw hK hc i pins s σ H E I hf st hg;subst hP hw hK;obtain⟨f0,f1,f2,f3,f4,f5⟩:=hf it (by simp);have W:=Walks.range (prog:=X.prog) (w:=X.w) (I.ok.hd hc) it lo 1 n;refine W.item i s _ _ hg st fun v h' tk hv st' kk=>?_;obtain⟨t,rfl⟩:=hv;have I1:Inv X pins σ H { s with heap:=h',toks:=tk }:=I.turned (fun b o hb e=>kk b o (by simpa using hb) e) f0 f1 f3 f4 f5;refine⟨_,rfl,b7D (s:={ s with heap:=h',toks:=tk }) (n:="range_iterator") st' rfl rfl (by decide) ⟨.int (lo+i),H,I1,⟨t,?_⟩,⟨rfl,rfl⟩,st',fun b hb=>(hf b hb).1⟩⟩;rw[d3M]
 done:=by
  intro X hP hw hK hc i pins s σ H E I hf st hg;subst hP hw hK;obtain⟨f0,f1,f2,f3,f4,f5⟩:=hf it (by simp);exact wpAny_pyNext_range_end (I.ok.hd hc) st (by have:n<=i:=hg;lia) fun h' eb=>⟨rfl,I.turned (t':=s.toks) (fun b o hb e=>eb b o hb e) f0 f1 f3 f4 f5⟩
 self:=fun _ _ _ _ _ st h=>wpAny_pyIter_rangeiter st h
section
variable{X:Cx}{tg:Expr}
theorem b5M{pins:PNS}{σ:St}{H:Hp}{s:c8u}{R:It->Hp->Prop}{E:VPR}{lo hi:Int}{t u v:Tok}{tk:Nat}(I:Inv X pins σ H s)(h1:-(2^62)<=lo)(h2:lo<2^62)(h3:-(2^62)<=hi)(h4:hi<2^62)
  (q:R (Itr lo (hi-lo).toNat) H):wpAny (model X.prog X.w) X.A (pyIter (.ref s.heap.objs.size)) (PIE X pins σ tg R) E { s with heap:=s.heap.push { cls:=.type "range",data:=.fields #[.int lo t,.int hi u,.int 1 v] },toks:=tk }:=by
 refine wpAny_pyIter_range (d2P ..) (d5h h1 h2 h3 h4) ?_;have I1:Inv X pins σ H { s with heap:=s.heap.push { cls:=.type "range",data:=.fields #[.int lo t,.int hi u,.int 1 v] },toks:=tk }:=I.kept fun b o e=>c8h _ e
 refine⟨(s.heap.push { cls:=.type "range",data:=.fields #[.int lo t,.int hi u,.int 1 v] }).objs.size,[(s.heap.push { cls:=.type "range",data:=.fields #[.int lo t,.int hi u,.int 1 v] }).objs.size],_,_,H,rfl,
  I1.kept (t':=tk) fun b o e=>c8h _ e,b6J _ lo (hi-lo).toNat,?_,fun b hb=>?_,q⟩
 ·have e1:lo+((0:Nat):Int)*1=lo:=by simp
  have e2:(((hi-lo).toNat:Nat):Int)-((0:Nat):Int)=c9f lo hi 1:=by rw[d2Q];split<;>lia
  show IsRangeIter _ _ (lo+((0:Nat):Int)*1) ((((hi-lo).toNat:Nat):Int)-((0:Nat):Int)) 1;rw[e1,e2];exact c8E _ rfl
 ·have e:b=(s.heap.push { cls:=.type "range",data:=.fields #[.int lo t,.int hi u,.int 1 v] }).objs.size:=by simpa using hb
  subst e;exact I1.fpOk (c8d _) (I1.hok.fresh (c8d _))
noncomputable def c7Q(ta:TA):TI:=fun σ H R=>ta σ H fun vs H1=>∃j:Int,vs=[.int j]/\-(2^62)<=j/\j<2^62/\R (Itr 0 j.toNat) H1
noncomputable def c7P(ta:TA):TI:=fun σ H R=>ta σ H fun vs H1=>∃i j:Int,vs=[.int i,.int j]/\(-(2^62)<=i/\i<2^62/\-(2^62)<=j/\j<2^62)/\R (Itr i (j-i).toNat) H1
theorem b8W{a:Expr}{ta:TA}{p pos:Pos}(hg:Gl X "range")(hm:X.mg "range"=none)(ha:PA X [a] ta)(hs:starEach [a] X.env=[(false,eval a X.env)]:=by rfl):PI X tg (.Call (.Name "range" p) [a] [] pos) (c7Q ta):=by
 intro pins s σ H R I h;refine d6e (a2Q I hg hm d2A (c8H (thn (ha pos pins s σ H _ I h) fun us s1 ⟨vs,H1,I1,r1,q1⟩=>?_) hs rfl));obtain⟨j,e,q1,q2,q⟩:=q1;subst e;cases r1 with
 | cons r rr =>
   cases rr;obtain⟨t,rfl⟩:=r;exact d4E (b5M I1 (by lia) (by lia) q1 q2 (by simpa using q))
theorem b8V{a b:Expr}{ta:TA}{p pos:Pos}(hg:Gl X "range")(hm:X.mg "range"=none)(ha:PA X [a,b] ta)(hs:starEach [a,b] X.env=[(false,eval a X.env),(false,eval b X.env)]:=by rfl)(hs2:starEach [b] X.env=[(false,eval b X.env)]:=by rfl) :
  PI X tg (.Call (.Name "range" p) [a,b] [] pos) (c7P ta):=by
 intro pins s σ H R I h;refine d6e (a2Q I hg hm d2A (c8H (thn (ha pos pins s σ H _ I h) fun us s1 ⟨vs,H1,I1,r1,q1⟩=>?_) (by rw[hs,hs2]) (by rw[hs2];rfl)));obtain⟨i,j,e,⟨q1,q2,q3,q4⟩,q⟩:=q1;subst e;cases r1 with
 | cons r rr =>
   cases rr with
   | cons r' rr =>
     cases rr;obtain⟨t,rfl⟩:=r;obtain⟨t',rfl⟩:=r';exact call_range_2 (b5M I1 q1 q2 q3 q4 q)
noncomputable def tFor(wi:TI)(g:TG)(tb:TS):TS:=fun D σ H=>wi σ H fun J H1=>∃W:Nat->Nat->St->Hp->Prop,(∃m,W 0 m σ H1)/\∀i m σ H,W i m σ H ->
 (J.stop i H/\D.nx σ H)\/(J.go i H/\∃N:St->Hp->Prop,(∀σ' H',N σ' H'->∃m',m'<m/\W (i+1) m' σ' H')/\∀x H',J.yld i H x H'->g x σ H' fun σ2 H2=>tb { D with nx:=N,ct:=N,bk:=D.nx } σ2 H2)
noncomputable def b0w(fp:List Addr)(h:Heap):PNS:=fp.filterMap fun b=>(h.get? b).map fun o=>(b,o)
theorem a5E{fp:List Addr}{h:Heap}{b:Addr}{o:Obj}(hb:b∈fp)(e:h.get? b=some o):(b,o)∈b0w fp h:=List.mem_filterMap.mpr ⟨b,hb,by rw[e];rfl⟩
theorem b9l{fp:List Addr}{h:Heap}{p:Addr×Obj}(hp:p∈b0w fp h):p.1∈fp/\h.get? p.1=some p.2:=by
 obtain⟨b,hb,e⟩:=List.mem_filterMap.mp hp;cases q:h.get? b with
 |none=>rw[q] at e;cases e
 | some o =>
   rw[q] at e;have e':(b,o)=p:=c8z e;subst e';exact⟨hb,q⟩
theorem Inv.pinned{pins:PNS}{σ:St}{H:Hp}{s:c8u}{fp:List Addr}(I:Inv X pins σ H s)(hf:∀b∈fp,FpOk X pins H b)(ho:∀b∈fp,∃o,s.heap.get? b=some o/\∀v,o.data≠.cell v):Inv X (pins++b0w fp s.heap) σ H s :=
 I.pins_of fun p hp=>(c8U.mp hp).elim (fun z=>I.pin p (c8Q _ z)) fun z=>by
  obtain⟨hb,e⟩:=b9l z;obtain⟨f0,f1,f2,_⟩:=hf p.1 hb;obtain⟨o,e',d⟩:=ho p.1 hb;rw[e] at e';cases e';exact⟨e,f0,f1,f2,d⟩
theorem Inv.unpinned{pins pl:PNS}{σ:St}{H:Hp}{s:c8u}(I:Inv X (pins++pl) σ H s):Inv X pins σ H s:=I.pins_of fun p hp=>I.pin p (c8Q _ (c8O _ hp))
theorem c5T{iter:Expr}{body:List Stmt}{wi:TI}{g:TG}{tb:TS}{pos:Pos}(hp:d5R (model X.prog X.w) X.A X.env X.xe)(hc:X.calm=true)(hi:PI X tg iter wi)(hg:PG X tg g)(hb:PSs X body tb)
  (hs:∀x,foldedSetIterable iter X.env x=pure x:=by intro _;rfl):PS X (.For tg iter body [] pos) (tFor wi g tb):=by
 intro pins s σ H D I h;refine wpAny_For (thn (hi pins s σ H _ I h) fun v s1 h1=>thn h1 fun itv s2 h2=>?_) hs;obtain⟨it,fp,tn,J,H2,e,I2,T,st2,f2,W,⟨m0,w0⟩,turn⟩:=h2;subst e
 -- what stays true of the iterator's objects through the loop
 have stat:∀{H':Hp},(∀b∈fp,H' b=none)->∀b∈fp,FpOk X pins H' b:=fun hn b hb=>⟨hn b hb,(f2 b hb).2⟩;refine codeAny_forLoop_any (fun n s'=>∃i σ' H',Inv X pins σ' H' s'/\tn i s'.heap/\(∀b∈fp,H' b=none)/\W i n σ' H') ?_ m0 ⟨0,σ,H2,I2,st2,fun b hb=>(f2 b hb).1,w0⟩;rintro n s3 ⟨i,σ3,H3,I3,st3,fr3,w3⟩;rcases turn i n σ3 H3 w3 with ⟨stop,qn⟩|⟨go,N,hN,step⟩
 ·refine d0B hp (thn (T.done X rfl rfl rfl hc i pins s3 σ3 H3 X.xe I3 (stat fr3) st3 stop) fun r s4 ⟨hr,I4⟩=>?_);subst hr;exact d0U ⟨σ3,H3,I4,qn⟩
 ·refine d0B hp (thn (T.item X rfl rfl rfl hc i pins s3 σ3 H3 X.xe I3 (stat fr3) st3 go) fun r s4 ⟨u,hr,h4⟩=>?_);subst hr;refine d0B hp (thn h4 fun _ s5 ⟨x,H5,I5,r5,y5,st5,fr5⟩=>?_);have I5':=I5.pinned (stat fr5) (T.obj _ _ st5);refine d0B hp (thn (hg _ s5 σ3 H5 x u _ I5' r5 (step x H5 y5)) fun _ s6 ⟨σ6,H6,I6,q6⟩=>?_);refine d0B hp (thn (hb _ s6 σ6 H6 _ I6 q6) fun f s7 q7=>?_)
  have again:∀{σ7:St} {H7:Hp},Inv X (pins++b0w fp s5.heap) σ7 H7 s7->N σ7 H7->∃m,m<n/\∃i σ' H',Inv X pins σ' H' s7/\tn i s7.heap/\(∀b∈fp,H' b=none)/\W i m σ' H':=fun {σ7 H7} I7 n7=>by
   obtain⟨m',hm,w7⟩:=hN σ7 H7 n7;refine⟨m',hm,i+1,σ7,H7,I7.unpinned,T.keep _ _ _ st5 fun b hb o e=>(I7.pin (b,o) (c8Q _ (c8Q _ (a5E hb e)))).1,fun b hb=>?_,w7⟩;obtain⟨o,e,d⟩:=T.obj _ _ st5 b hb;exact(I7.pin (b,o) (c8Q _ (c8Q _ (a5E hb e)))).2.1
  cases f with
  |next=>obtain⟨σ7,H7,I7,n7⟩:=q7;exact again I7 n7
  |cont=>obtain⟨σ7,H7,I7,n7⟩:=q7;exact again I7 n7
  |brk=>obtain⟨σ7,H7,I7,q7⟩:=q7;exact⟨σ7,H7,I7.unpinned,q7⟩
  |ret v=>obtain⟨x7,σ7,H7,I7,r7,q7⟩:=q7;exact⟨x7,σ7,H7,I7.unpinned,r7,q7⟩
end
noncomputable abbrev R2:=V->V->Hp->VK->Prop
noncomputable def OpR(X:Cx)(f:c8t->c8t->Sem c8t)(r:R2):Prop :=
 ∀ pins s σ H (x y:V) (v u:c8t) (Q:VK),Inv X pins σ H s->RelV x v->RelV y u->r x y H Q ->
   wpAny (model X.prog X.w) X.A (f v u) (EP X pins σ Q) X.xe s
noncomputable def UnR(X:Cx)(f:c8t->Sem c8t)(r:V->Hp->VK->Prop):Prop :=
 ∀ pins s σ H (x:V) (v:c8t) (Q:VK),Inv X pins σ H s->RelV x v->r x H Q ->
   wpAny (model X.prog X.w) X.A (f v) (EP X pins σ Q) X.xe s
noncomputable def b0i(X:Cx)(f:c8t)(r:List V->Hp->VK->Prop):Prop :=
 ∀ pins s σ H (xs:List V) (us:LSV) (Q:VK),Inv X pins σ H s->Vals xs us->r xs H Q ->
   wpAny (model X.prog X.w) X.A (call f us) (EP X pins σ Q) X.xe s
noncomputable def TruR(X:Cx)(r:V->Hp->(Bool->Hp->Prop)->Prop):Prop :=
 ∀ pins s σ H (x:V) (v:c8t) (Q:Bool->Hp->Prop),Inv X pins σ H s->RelV x v->r x H Q ->
   wpAny (model X.prog X.w) X.A (truthy v) (TP X pins σ Q) X.xe s
noncomputable def tOp(r:R2)(ta tb:TE):TE:=fun σ H Q=>ta σ H fun x H1=>tb σ H1 fun y H2=>r x y H2 Q
noncomputable def tUn(r:V->Hp->VK->Prop)(ta:TE):TE:=fun σ H Q=>ta σ H fun x H1=>r x H1 Q
noncomputable def rI(C:Int->Int->Prop)(g:Int->Int->V):R2:=fun x y H Q=>∃i j,x=.int i/\y=.int j/\C i j/\Q (g i j) H
noncomputable def rI0(g:Int->Int->V):R2:=fun x y H Q=>∃i j,x=.int i/\y=.int j/\Q (g i j) H
noncomputable def rU(g:Int->V):V->Hp->VK->Prop:=fun x H Q=>∃i,x=.int i/\Q (g i) H
section
variable{X:Cx}{a b c:Expr}{ta tb tc:TE}{pos:Pos}
theorem binT(ha:PE X a ta)(hb:PE X b tb){pins:PNS}{s:c8u}{σ:St}{H:Hp}{R:V->V->Hp->Prop}(I:Inv X pins σ H s)
  (h:ta σ H fun x H1=>tb σ H1 fun y H2=>R x y H2) {Q:VPR} {f:c8t->c8t->Sem c8t}
  (hf:∀v u s2 x y H2,Inv X pins σ H2 s2->RelV x v->RelV y u->R x y H2->wpAny (model X.prog X.w) X.A (f v u) Q X.xe s2) :
  wpAny (model X.prog X.w) X.A (eval a X.env) (fun v s₁=>wpAny (model X.prog X.w) X.A (eval b X.env) (fun u s₂=>wpAny (model X.prog X.w) X.A (f v u) Q X.xe s₂) X.xe s₁) X.xe s:=by
 refine thn (ha pins s σ H _ I h) fun v s1 ⟨x,H1,I1,r1,q1⟩=>?_;refine thn (hb pins s1 σ H1 _ I1 q1) fun u s2 ⟨y,H2,I2,r2,q2⟩=>?_;exact hf v u s2 x y H2 I2 r1 r2 q2
theorem c7B{op:d5e}{r:R2}(ho:OpR X (binaryOp op) r)(ha:PE X a ta)(hb:PE X b tb):PE X (.BinOp a op b pos) (tOp r ta tb):=by
 intro pins s σ H Q I h;exact wpAny_BinOp (binT ha hb I h fun v u s2 x y H2 I2 rx ry q=>ho pins s2 σ H2 x y v u Q I2 rx ry q)
theorem c7A{op:UnaryOp}{r:V->Hp->VK->Prop}(ho:UnR X (unaryOp op) r)(ha:PE X a ta):PE X (.UnaryOp op a pos) (tUn r ta):=by
 intro pins s σ H Q I h;exact UnaryOp_ (thn (ha pins s σ H _ I h) fun v s1 ⟨x,H1,I1,r1,q1⟩=>ho pins s1 σ H1 x v Q I1 r1 q1)
theorem opI{f:c8t->c8t->Sem c8t}{C:Int->Int->Prop}{g:Int->Int->Int}
  (rule:∀(i j:Int) (t u:Tok) (s:c8u) (Q:VPR) (E:VPR),C i j->Q (.int (g i j) s.toks) { s with toks:=s.toks+1 }->wpAny (model X.prog X.w) X.A (f (.int i t) (.int j u)) Q E s) :
  OpR X f (rI C fun i j=>.int (g i j)):=by
 intro pins s σ H x y v u Q I rx ry h;obtain⟨i,j,rfl,rfl,hc,q⟩:=h;obtain⟨t,rfl⟩:=rx;obtain⟨t',rfl⟩:=ry;exact rule i j t t' s _ _ hc ⟨.int (g i j),H,I.tok _,⟨_,rfl⟩,q⟩
theorem opI0{f:c8t->c8t->Sem c8t}{g:Int->Int->Int}
  (rule:∀(i j:Int) (t u:Tok) (s:c8u) (Q:VPR) (E:VPR),Q (.int (g i j) s.toks) { s with toks:=s.toks+1 }->wpAny (model X.prog X.w) X.A (f (.int i t) (.int j u)) Q E s) :
  OpR X f (rI0 fun i j=>.int (g i j)):=by
 intro pins s σ H x y v u Q I rx ry h;obtain⟨i,j,rfl,rfl,q⟩:=h;obtain⟨t,rfl⟩:=rx;obtain⟨t',rfl⟩:=ry;exact rule i j t t' s _ _ ⟨.int (g i j),H,I.tok _,⟨_,rfl⟩,q⟩
theorem opB0{f:c8t->c8t->Sem c8t}{g:Int->Int->Bool}
  (rule:∀(i j:Int) (t u:Tok) (s:c8u) (Q:VPR) (E:VPR),Q (.bool (g i j)) s->wpAny (model X.prog X.w) X.A (f (.int i t) (.int j u)) Q E s) :
  OpR X f (rI0 fun i j=>.bl (g i j)):=by
 intro pins s σ H x y v u Q I rx ry h;obtain⟨i,j,rfl,rfl,q⟩:=h;obtain⟨t,rfl⟩:=rx;obtain⟨t',rfl⟩:=ry;exact rule i j t t' s _ _ ⟨.bl (g i j),H,I,rfl,q⟩
noncomputable def CPow(i j:Int):Prop:=0<=j/\j<=1000000/\i.natAbs<2^64
noncomputable def CMul(i j:Int):Prop:=(-(2^64)<i/\i<2^64)\/(-(2^64)<j/\j<2^64)
theorem CMul.ok{i j:Int}(h:CMul i j):IntMulOk i j:=by
 rcases h with ⟨h1,h2⟩|⟨h1,h2⟩
 ·exact .of_left (intBits_le_64 h1 h2)
 ·exact .of_right (intBits_le_64 h1 h2)
theorem c6r:OpR X (binaryOp .Add) (rI0 fun i j=>.int (i+j)):=opI0 fun _ _ _ _ _ _ _ q=>add_int q
theorem c6k:OpR X (binaryOp .Sub) (rI0 fun i j=>.int (i-j)):=opI0 fun _ _ _ _ _ _ _ q=>sub_int q
theorem c6n:OpR X (binaryOp .Mult) (rI CMul fun i j=>.int (i*j)):=opI fun _ _ _ _ _ _ _ hc q=>mul_int q hc.ok
theorem c6o:OpR X (binaryOp .Mod) (rI (fun _ j=>0<j) fun i j=>.int (i%j)):=opI fun i j _ _ _ _ _ hc q=>by
 have h1:(0:Int)<j:=hc;exact mod_int' (by lia) (by rw[Int.fmod_eq_emod_of_nonneg i (by lia)];exact q)
theorem c6m:OpR X (binaryOp .Pow) (rI CPow fun i j=>.int (i^j.toNat)):=opI fun _ _ _ _ _ _ _ hc q=>pow_int_small hc.1 hc.2.1 hc.2.2 q
theorem unI{f:c8t->Sem c8t}{g:Int->Int}
  (rule:∀(i:Int) (t:Tok) (s:c8u) (Q:VPR) (E:VPR),Q (.int (g i) s.toks) { s with toks:=s.toks+1 }->wpAny (model X.prog X.w) X.A (f (.int i t)) Q E s) :
  UnR X f (rU fun i=>.int (g i)):=by
 intro pins s σ H x v Q I rx h;obtain⟨i,rfl,q⟩:=h;obtain⟨t,rfl⟩:=rx;exact rule i t s _ _ ⟨.int (g i),H,I.tok _,⟨_,rfl⟩,q⟩
theorem c5g:UnR X (unaryOp .USub) (rU fun i=>.int (-i)):=unI fun _ _ _ _ _ q=>neg_int q
end
section
variable{X:Cx}{a b c:Expr}{ta tb tc:TE}{pos:Pos}
theorem c6X{pins:PNS}{σ:St}{H:Hp}{s:c8u}{Q:VK}{k k':Bool}(I:Inv X pins σ H s)(q:Q (.bl k) H)(e:k=k'):EP X pins σ Q (.bool k') s:=by
 subst e;exact⟨.bl k,H,I,rfl,q⟩
theorem c7F:OpR X (compareOp .Lt) (rI0 fun i j=>.bl (decide (i<j))):=opB0 fun _ _ _ _ _ _ _ q=>lt_int q
theorem c7G:OpR X (compareOp .LtE) (rI0 fun i j=>.bl (decide (i<=j))):=opB0 fun _ _ _ _ _ _ _ q=>le_int q
theorem c7H:OpR X (compareOp .Gt) (rI0 fun i j=>.bl (decide (j<i))):=opB0 fun _ _ _ _ _ _ _ q=>gt_int q
theorem c7I:OpR X (compareOp .GtE) (rI0 fun i j=>.bl (decide (j<=i))):=opB0 fun _ _ _ _ _ _ _ q=>ge_int q
theorem c6p:OpR X (compareOp .Is) (fun x y H Q=>y=.non/\Q (.bl (decide (x=.non))) H):=by
 intro pins s σ H x y v u Q I rx ry h;obtain⟨rfl,q⟩:=h;cases ry;refine is_none_gen (c6X I q ?_)
 cases x<;>first
  |(cases rx;rfl)
  |(obtain⟨t,rfl⟩:=rx;rfl)
theorem a0n(b:Expr){op:d5I}(h:op≠.In:=by decide)(h2:op≠.NotIn:=by decide):behindInMarks op b=false:=by
 have e1:(op==CmpOp.In)=false:=by cases op<;>first|rfl|exact absurd rfl h
 have e2:(op==CmpOp.NotIn)=false:=by cases op<;>first|rfl|exact absurd rfl h2
 cases b<;>simp[behindInMarks,e1,e2]
theorem c4i{op:d5I}{r:R2}(ho:OpR X (compareOp op) r)(ha:PE X a ta)(hb:PE X b tb)(hm:behindInMarks op b=false):PE X (.Compare a [op] [b] pos) (tOp r ta tb):=by
 intro pins s σ H Q I h;exact wpAny_Compare1 (binT ha hb I h fun v u s2 x y H2 I2 rx ry q=>ho pins s2 σ H2 x y v u Q I2 rx ry q) hm
noncomputable def c5n(t:TE):TT:=fun σ H Q=>t σ H fun x H'=>∃k,x=.bl k/\Q k H'
theorem b8P{op:d5I}{r:R2}(ho:OpR X (compareOp op) r)(ha:PE X a ta)(hb:PE X b tb)(hm:behindInMarks op b=false):PT X (.Compare a [op] [b] pos) (c5n (tOp r ta tb)):=by
 intro pins s σ H Q I h
 refine wpAny_isTrue_Compare1 (thn (ha pins s σ H _ I h) fun v s1 ⟨x,H1,I1,r1,q1⟩=>thn (hb pins s1 σ H1 _ I1 q1) fun u s2 ⟨y,H2,I2,r2,q2⟩ =>
  thn (ho pins s2 σ H2 x y v u _ I2 r1 r2 q2) fun c s3 ⟨z,H3,I3,r3,k,e,q3⟩=>?_) hm
 subst e;cases r3;exact d0l ⟨H3,I3,q3⟩
noncomputable def b8o(r r':R2)(ta tb tc:TE):TE:=fun σ H Q=>ta σ H fun x H1=>tb σ H1 fun y H2=>r x y H2 fun z H3=>∃k,z=.bl k /\
 (if k=true then tc σ H3 fun w' H4=>r' y w' H4 Q else Q (.bl false) H3)
theorem c1J{op op':d5I}{r r':R2}(ho:OpR X (compareOp op) r)(ho':OpR X (compareOp op') r')(ha:PE X a ta)(hb:PE X b tb)(hc:PE X c tc)
  (hm:lastMarks [op,op'] [b,c]=false:=by with_unfolding_all rfl):PE X (.Compare a [op,op'] [b,c] pos) (b8o r r' ta tb tc):=by
 intro pins s σ H Q I h
 refine Compare_chain (thn (ha pins s σ H _ I h) fun v s1 ⟨x,H1,I1,r1,q1⟩=>chain_link (thn (hb pins s1 σ H1 _ I1 q1) fun u s2 ⟨y,H2,I2,r2,q2⟩ =>
  thn (ho pins s2 σ H2 x y v u _ I2 r1 r2 q2) fun d s3 ⟨z,H3,I3,r3,k,e,q3⟩=>?_)) hm
 subst e;cases r3;refine d0l ?_;cases k with
 |false=>exact ite_ff ⟨.bl false,H3,I3,rfl,q3⟩
 |true=>exact ite_tt (chain_last (thn (hc pins s3 σ H3 _ I3 q3) fun w' s4 ⟨z',H4,I4,r4,q4⟩=>ho' pins s4 σ H4 y z' u w' Q I4 r2 r4 q4))
theorem c1y{op op':d5I}{r r':R2}(ho:OpR X (compareOp op) r)(ho':OpR X (compareOp op') r')(ha:PE X a ta)(hb:PE X b tb)(hc:PE X c tc)
  (hm:lastMarks [op,op'] [b,c]=false:=by with_unfolding_all rfl):PT X (.Compare a [op,op'] [b,c] pos) (c5n (b8o r r' ta tb tc)):=by
 intro pins s σ H Q I h
 refine isTrue_chain (thn (ha pins s σ H _ I h) fun v s1 ⟨x,H1,I1,r1,q1⟩=>test_link (thn (hb pins s1 σ H1 _ I1 q1) fun u s2 ⟨y,H2,I2,r2,q2⟩ =>
  thn (ho pins s2 σ H2 x y v u _ I2 r1 r2 q2) fun d s3 ⟨z,H3,I3,r3,k,e,q3⟩=>?_)) hm
 subst e;cases r3;refine d0l ?_;cases k with
 | false =>
   obtain⟨k',e',q'⟩:=q3;cases e';exact ite_ff ⟨H3,I3,q'⟩
 | true =>
   refine ite_tt (test_last (thn (hc pins s3 σ H3 _ I3 q3) fun w' s4 ⟨z',H4,I4,r4,q4⟩=>thn (ho' pins s4 σ H4 y z' u w' _ I4 r2 r4 q4) fun d' s5 ⟨z2,H5,I5,r5,k2,e2,q5⟩=>?_));subst e2;cases r5;exact d0l ⟨H5,I5,q5⟩
noncomputable def TruV(K:PySem.W.Frag)(x:V)(H:Hp)(k:Bool):Prop :=
 match x with
 |.non=>k=false
 |.bl b=>k=b
 |.int i=>k=(i != 0)
 |.str y=>y.length<=sizeLine/\k=((y.length:Int) != 0)
 |.byt y=>y.size<=sizeLine/\k=((y.size:Int) != 0)
 |.ref p=>(∃xs,SqL K H p xs/\k=!xs.isEmpty)\/(∃xs,SqT K H p xs/\k=!xs.isEmpty)\/∃kvs,H p=some (.dK kvs)/\k=!kvs.isEmpty
 |_=>False
theorem b7x{κ:Type}{kvs:List (κ×V)}{vs:List (κ×c8t)}(r:KV kvs vs):(!vs.isEmpty)=!kvs.isEmpty:=by
 cases r<;>rfl
theorem b0K{xs:List V}{its:LSV}(r:Vals xs its):(!its.toArray.isEmpty)=!xs.isEmpty:=by
 cases r<;>simp
theorem a6U:(sizeLine:Nat)<2^63:=by rw[c9z];decide
theorem c5h:TruR X (fun x H Q=>∃k,TruV X.K x H k/\Q k H):=by
 intro pins s σ H x v Q I rx h;obtain⟨k,e,q⟩:=h;have hl:=a6U;have hs:sizeLine=16777216:=c9z;cases x with
 | non =>
   cases rx;have e':k=false:=e;subst e';exact truthy_none ⟨H,I,q⟩
 | bl b =>
   cases rx;have e':k=b:=e;subst e';exact d0l ⟨H,I,q⟩
 | int i =>
   obtain⟨t,rfl⟩:=rx;have e':k=(i != 0):=e;subst e';exact PySem.P.truthy_int ⟨H,I,q⟩
 | str y =>
   obtain⟨t,rfl⟩:=rx;obtain⟨hy,e'⟩:y.length<=sizeLine/\k=((y.length:Int) != 0):=e;subst e';exact PySem.P.truthy_str (by lia) ⟨H,I.tok _,q⟩
 | byt y =>
   obtain⟨t,rfl⟩:=rx;obtain⟨hy,e'⟩:y.size<=sizeLine/\k=((y.size:Int) != 0):=e;subst e';exact PySem.W.truthy_bytes (by lia) ⟨H,I.tok _,q⟩
 | ref p =>
   cases rx;have e':(∃xs,SqL X.K H p xs/\k=!xs.isEmpty)\/(∃xs,SqT X.K H p xs/\k=!xs.isEmpty)\/∃kvs,H p=some (.dK kvs)/\k=!kvs.isEmpty:=e;rcases e' with ⟨xs,hx,e'⟩|⟨xs,hx,e'⟩|⟨kvs,hx,e'⟩
   ·subst e';obtain⟨its,r,pl,hz⟩:=I.list hx;have hlen:=r.length;exact wpAny_truthy_list pl.isList (by simp only[c8j];lia) ⟨H,I.tok _,by rw[b0K r];exact q⟩
   ·subst e';obtain⟨its,r,pl,hz⟩:=I.tuple hx;have hlen:=r.length;exact truthy_tuple pl (by simp only[c8j];lia) ⟨H,I.tok _,by rw[b0K r];exact q⟩
   ·subst e';obtain⟨hz,hS,vs,r,m⟩:kvs.length<=sizeLine/\(p==sysModules)=false/\∃vs,KV kvs vs/\s.heap.DictOf (a0C X.prog X.w) p vs:=I.hok p _ hx;have hlen:kvs.length=vs.length:=Paired.length r;exact wpAny_truthy_dict hS m (by lia) ⟨H,I.tok _,by rw[b7x r];exact q⟩
 |_=>exact(show False from e).elim
theorem c1x(ha:PE X a ta)(he:∀whole,isTrue a X.env whole=(do let v <- whole;standAt a.pos;holding [v] (truthy v))) :
  PT X a (fun σ H Q=>ta σ H fun x H'=>∃k,TruV X.K x H' k/\Q k H'):=by
 intro pins s σ H Q I h;exact isTrue_plain (thn (ha pins s σ H _ I h) fun v s1 ⟨x,H1,I1,r1,q1⟩=>c5h pins s1 σ H1 x v Q I1 r1 q1) (he _)
theorem b7f:OpR X (binaryOp .Add) (fun x y H Q=>∃i j,x=.str i/\y=.str j/\i.length+j.length<=sizeLine/\Q (.str (i++j)) H):=by
 intro pins s σ H x y v u Q I rx ry h;obtain⟨i,j,rfl,rfl,hz,q⟩:=h;obtain⟨t,rfl⟩:=rx;obtain⟨t',rfl⟩:=ry;exact add_str (fun t' tk=>⟨.str (i++j),H,I.tok _,⟨_,rfl⟩,q⟩) hz
theorem a3o{x:V}{us:LSV}(r:Vals [x] us):∃u,us=[u]/\RelV x u:=by
 cases r with
 |cons r1 r2=>cases r2;exact⟨_,rfl,r1⟩
theorem c5f{x y:V}{us:LSV}(r:Vals [x,y] us):∃u w',us=[u,w']/\RelV x u/\RelV y w':=by
 cases r with
 | cons r1 r2 =>
   cases r2 with
   |cons r3 r4=>cases r4;exact⟨_,_,rfl,r1,r3⟩
theorem c2H:b0i X (.builtin "abs") (fun xs H Q=>∃i,xs=[.int i]/\Q (.int (if i<0 then -i else i)) H):=by
 intro pins s σ H xs us Q I r h;obtain⟨i,rfl,q⟩:=h;obtain⟨u,rfl,t,rfl⟩:=a3o r
 exact call_abs_int fun u tk=>⟨.int (if i<0 then -i else i),H,I.tok _,⟨_,rfl⟩,q⟩
theorem c0G(hc:X.calm=true):b0i X (.builtin "max") (fun xs H Q=>∃i j,xs=[.int i,.int j]/\Q (.int (if j>i then j else i)) H):=by
 intro pins s σ H xs us Q I r h;obtain⟨i,j,rfl,q⟩:=h;obtain⟨u,w',rfl,⟨t,rfl⟩,⟨t',rfl⟩⟩:=c5f r;refine max_two_ints (I.ok.hd hc) fun h' tk k=>⟨_,H,I.kept k,?_,q⟩;by_cases hj:j>i
 ·rw[if_pos hj,if_pos hj];exact⟨_,rfl⟩
 ·rw[if_neg hj,if_neg hj];exact⟨_,rfl⟩
theorem b4j:b0i X (.type "int") (fun xs H Q=>(∃i,xs=[.int i]/\Q (.int i) H)\/∃k,xs=[.bl k]/\Q (.int (if k then 1 else 0)) H):=by
 intro pins s σ H xs us Q I r h;rcases h with ⟨i,rfl,q⟩|⟨k,rfl,q⟩
 ·obtain⟨u,rfl,t,rfl⟩:=a3o r;exact call_int_int ⟨.int i,H,I,⟨_,rfl⟩,q⟩
 ·obtain⟨u,rfl,r1⟩:=a3o r;cases r1
  exact call_int_bool ⟨.int (if k then 1 else 0),H,I.tok _,⟨_,rfl⟩,q⟩
end
structure ObjM(h:Heap)(x dx C:Addr)(mA:SOV):Prop where
 obj:h.get? x=some (PySem.W.instObj C dx)
 ns:h.Ns1 dx mA
 ne:dx≠x
theorem b9v{h:Heap}{dx:Addr}{mA:SOV}(n:h.Ns1 dx mA):∃od,h.get? dx=some od/\∀name,PySem.W.lookIn name od=some (mA name):=by
 obtain⟨o,es,ep,ho,hd,hk,_,hm⟩:=n;refine⟨o,ho,fun name=>?_⟩;have e:=hm name;unfold nsFind findBy at e;rw[<- Array.find?_toList] at e;unfold PySem.W.lookIn;rw[hd];dsimp only;split
 ·rename_i y q;rw[q] at e;exact congrArg some e
 ·rename_i q;rw[q] at e
  have a:es.toList.any (·.refKey)=false:=by
   rw[List.any_eq_false];intro y hy;obtain⟨z,t,hkey⟩:=hk y (Array.mem_toList_iff.mp hy);simp[DictEntry.refKey,hkey]
  have a':¬es.toList.any (·.refKey)=true:=by rw[a];exact c8F
  rw[if_neg a'];exact congrArg some e
theorem ObjM.look{h:Heap}{x dx C:Addr}{mA:SOV}(I:ObjM h x dx C mA):∃od,PySem.W.InstAt h x (PySem.W.instObj C dx) C (some od)/\∀name,PySem.W.lookIn name od=some (mA name) :=
 let ⟨od,ho,hl⟩:=b9v I.ns
 ⟨od,⟨I.obj,rfl,rfl,ho⟩,hl⟩
section
variable{prog:c8G}{w:c9d}{A:c8Z}{E:VPR}{s:c8u}{K:PySem.W.Frag}{x dx C f:Addr}{mA:SOV}{name:Str}{v:c8t}
theorem c4K{expr:Bool}{Q:VPR}(X:K.In s.heap)(I:ObjM s.heap x dx C mA)(hg:PySem.W.plainGet K C name=true)(hh:PySem.W.hasDictIn K C=true)
  (ha:PySem.W.findIn K (.ref C) name=some none) (hv:mA name=some v) (hv':PySem.W.handedIn v=true) (h:Q v { s with toks:=s.toks+1 }) :
  wpAny (model prog w) A (getAttr (.ref x) name expr) Q E s:=by
 obtain⟨od,J,hl⟩:=I.look;exact PySem.W.get_value X J (PySem.W.plainGet_of hg).1 (PySem.W.findObj_own hh ha rfl (by rw[hl,hv])) hv' h
theorem c2r{pl:Sem Bool}{Q:c8t×List c8t->c8u->Prop}(X:K.In s.heap)(I:ObjM s.heap x dx C mA)(hg:PySem.W.plainGet K C name=true)
  (hf:PySem.W.findIn K (.ref C) name=some (some (.ref f))) (ht:PySem.W.isFn K (.ref f)=true) (hv:mA name=none) (h:Q (.ref f,[.ref x]) s) :
  wpAny (model prog w) A (getMethod (.ref x) name pl) Q E s:=by
 obtain⟨od,J,hl⟩:=I.look;exact PySem.W.method_fn X J (PySem.W.plainGet_of hg).1 (PySem.W.plainGet_of hg).2 hf (beq_iff_eq.mp ht) (by show(PySem.W.lookIn name od).map (·.isSome)=some false;rw[hl,hv];rfl) h
theorem c3D{ns:LSS}{Q:Unit->c8u->Prop}(X:K.In s.heap)(I:ObjM s.heap x dx C mA)
  (hs:PySem.W.findIn K (.ref C) "__setattr__"=some (some (.builtin "object.__setattr__"))) (hp:PySem.W.plainOver K C=true) (ht:PySem.W.takerIn K C name=some none) (hh:PySem.W.hasDictIn K C=true)
  (hw:PySem.Within mA ns) (hsz:ns.length<=sizeLine)
  (h:∀h',ObjM h' x dx C (fun y=>if y=name then some v else mA y)->d1r dx s.heap h'->Q () { s with heap:=h',toks:=s.toks+2 }) :
  wpAny (model prog w) A (setAttr (.ref x) name v) Q E s:=by
 obtain⟨od,J,hl⟩:=I.look;refine PySem.W.set_plain X J hs (PySem.W.osa_open (s:={ s with toks:=s.toks+1 }) (r:=none) X J hp ht fun b=>?_);obtain⟨cd,hc,hd'⟩:=PySem.W.any_some hh;have hx:s.heap.get? x=some ⟨.ref C,some dx,.plain,#[]⟩:=I.obj;refine c8f (c8x (c8f (c8f (wpAny_loadPart hx (c8f (PySem.W.Looks.here (s:={ s with toks:=s.toks+1 }) (PySem.W.looks_clsIn X hc) ?_))))));rw[hd'];refine c8x (a:=some dx) (c8f (c8x (c8f ?_)));refine wpAny_nsSet1 (s:={ s with toks:=s.toks+1 }) I.ns fun h' hn2 hs2=>?_;obtain⟨oD,esD,epD,hoD,hdD,hcD⟩:=hn2.count (PySem.Within.cons name v hw);refine c8f (wpAny_lookBehind hoD (by rw[hdD];exact pastItsLine_dict (c8C hcD (by rw[c8e];lia))) ?_);exact c8x (h _ ⟨(hs2.2 _ (d1u I.ne)).trans I.obj,hn2,I.ne⟩ hs2)
theorem c1V{R:d5S->c8u->Prop}{vs:LSV}{kw:List (Str×c8t)}(X:K.In s.heap)(hm:PySem.W.makesIn K C=true)
  (hi:PySem.W.findIn K (.ref C) "__init__"=some (some (.ref f))) (hf:PySem.W.typeIn K (.ref f)=some (.type "function"))
  (h:codeAny (model prog w) (A.under (.builtin "type.__call__" ⟨.ref C::vs,kw⟩)) (.call (.ref f) ⟨.ref (s.heap.objs.size+1)::vs,kw⟩) (PySem.W.InitBack (s.heap.objs.size+1) R)
   { s with heap:=(s.heap.push PySem.W.emptyDict).push (PySem.W.instObj C s.heap.objs.size) }) :
  codeAny (model prog w) A (.call (.ref C) ⟨vs,kw⟩) R s:=by
 obtain⟨hh,g,d,t,os⟩:=s;exact PySem.W.make_core (PySem.W.makes_of X hm) (PySem.W.looks_findIn X hi) (fun self=>PySem.W.bind_fn X self hf) (.inl rfl) h
end
noncomputable def putF(f:Str)(v:V):List (Str×V)->List (Str×V)
 |[]=>[(f,v)]
 |(g,x)::r=>if g=f then (g,v)::r else (g,x)::putF f v r
theorem a8X(f g:Str)(v:V):∀fs:List (Str×V),(putF f v fs).lookup g=if g=f then some v else fs.lookup g
 | []=>by
   show d0x g [(f,v)]=_;by_cases h:g=f
   ·have hb:(g==f)=true:=beq_iff_eq.mpr h;simp only[d0x,hb,if_pos h]
   ·have hb:(g==f)=false:=beq_eq_false_iff_ne.mpr h;simp only[d0x,hb,if_neg h]
 | (k,x)::r=>by
   have ih:=a8X f g v r
   rw[show putF f v ((k,x)::r)=(if k=f then (k,v)::r else (k,x)::putF f v r) from rfl]
   by_cases hk:k=f
   ·rw[if_pos hk];by_cases h:g=k
    ·have hb:(g==k)=true:=beq_iff_eq.mpr h;simp only[d0x,hb,if_pos (h.trans hk)]
    ·have hb:(g==k)=false:=beq_eq_false_iff_ne.mpr h;simp only[d0x,hb,if_neg (fun e:g=f=>h (e.trans hk.symm))]
   ·rw[if_neg hk];by_cases h:g=k
    ·have hb:(g==k)=true:=beq_iff_eq.mpr h;simp only[d0x,hb,if_neg (fun e:g=f=>hk (h.symm.trans e))]
    ·have hb:(g==k)=false:=beq_eq_false_iff_ne.mpr h;simp only[d0x,hb];exact ih
theorem a9c(f:Str)(v:V):∀fs:List (Str×V),f∈(putF f v fs).map (·.1)/\∀g,g∈fs.map (·.1)->g∈(putF f v fs).map (·.1)
 |[]=>⟨by simp[putF],fun g h=>by simp at h⟩
 | (k,x)::r=>by
   obtain⟨i1,i2⟩:=a9c f v r
   rw[show putF f v ((k,x)::r)=(if k=f then (k,v)::r else (k,x)::putF f v r) from rfl]
   by_cases hk:k=f
   ·rw[if_pos hk];subst hk;exact⟨by simp,fun g h=>by simpa using h⟩
   ·rw[if_neg hk];refine⟨?_,fun g h=>?_⟩
    ·rw[c8g];exact c8m _ i1
    ·rw[c8g] at h|-
     rcases c8n.mp h with e|e
     ·exact List.mem_cons.mpr (.inl e)
     ·exact c8m _ (i2 g e)
theorem a8Z(f:Str)(v:V):∀fs:List (Str×V),(putF f v fs).length<=fs.length+1
 |[]=>by simp[putF]
 | (k,x)::r=>by
   have ih:=a8Z f v r
   rw[show putF f v ((k,x)::r)=(if k=f then (k,v)::r else (k,x)::putF f v r) from rfl]
   by_cases hk:k=f
   ·rw[if_pos hk,c8e,c8e];lia
   ·rw[if_neg hk,c8e,c8e];lia
theorem RelO.some_of{v:V}{o:OVA}(r:RelO (some v) o):∃u,o=some u/\RelV v u:=by
 cases o with
 |none=>exact(show False from r).elim
 |some u=>exact⟨u,rfl,r⟩
theorem RelO.none_of{o:OVA}(r:RelO none o):o=none:=by
 cases o with
 |none=>rfl
 |some u=>exact(show False from r).elim
theorem b9T{v:V}{u:c8t}(r:RelV v u):PySem.W.handedIn u=true:=by
 cases v with
 |non=>cases (show u=d2z from r);rfl
 |bl b=>cases (show u=d3v b from r);rfl
 |int i=>obtain⟨t,e⟩:=(show ∃t,u=d0R i t from r);cases e;rfl
 |str x=>obtain⟨t,e⟩:=(show ∃t,u=d3i x t from r);cases e;rfl
 |byt b=>obtain⟨t,e⟩:=(show ∃t,u=d6c b t from r);cases e;rfl
 |flt b=>obtain⟨t,e⟩:=(show ∃t,u=d5g b t from r);cases e;rfl
 |ref a=>cases (show u=c8T a from r);rfl
 |ty n=>cases (show u=d5C n from r);rfl
section
variable{P:c8G}{w:c9d}{H H':Hp}{h h':Heap}{a C dx:Addr}{fs fs':List (Str×V)}
theorem b1Z(hok:HOk P w H h)(e:H a=some (.ins C dx fs)):∃mA,ObjM h a dx C mA/\(∀f,RelO (fs.lookup f) (mA f))/\PySem.Within mA (fs.map (·.1))/\fs.length<=1000/\H dx=some (.own a):=by
 obtain⟨d,z,ne,ob,mA,n,r,q⟩:=(show a1d P w H h a (.ins C dx fs) from hok a _ e);exact⟨mA,⟨ob,n,ne⟩,r,q,z,d⟩
end
structure Cls(K:PySem.W.Frag)(C:Addr):Prop where
 pg:PySem.W.plainGet K C d3Z=true
 hd:PySem.W.hasDictIn K C=true
 po:PySem.W.plainOver K C=true
 sa:PySem.W.findIn K (.ref C) "__setattr__"=some (some (.builtin "object.__setattr__"))
theorem Cls.get{K:PySem.W.Frag}{C:Addr}(c:Cls K C)(f:Str):PySem.W.plainGet K C f=true:=c.pg
noncomputable def a7m(K:PySem.W.Frag)(C:Addr)(f:Str):Prop:=PySem.W.findIn K (.ref C) f=some none
theorem a7m.taker{K:PySem.W.Frag}{C:Addr}{f:Str}(n:a7m K C f):PySem.W.takerIn K C f=some none:=by
 unfold PySem.W.takerIn;rw[show PySem.W.findIn K (.ref C) f=some none from n];rfl
structure Meth(K:PySem.W.Frag)(C:Addr)(m:Str)(f:Addr):Prop where
 at_:PySem.W.findIn K (.ref C) m=some (some (.ref f))
 fn:PySem.W.isFn K (.ref f)=true
 kp:PySem.W.keepIn K (.ref f)=true
section
variable{X:Cx}{pins:PNS}{σ:St}{H:Hp}{s:c8u}{a C dx:Addr}{fs:List (Str×V)}{f:Str}{v:V}{A:c8Z}{E:VPR}
theorem b7E{b:Bool}{Q:VPR}(I:Inv X pins σ H s)(e:H a=some (.ins C dx fs))(c:Cls X.K C)(n:a7m X.K C f)(l:fs.lookup f=some v)
  (h:∀u s',Inv X pins σ H s'->RelV v u->Q u s'):wpAny (model X.prog X.w) A (getAttr (.ref a) f b) Q E s:=by
 obtain⟨mA,O,r,_,_,_⟩:=b1Z I.hok e;obtain⟨u,hu,ru⟩:=RelO.some_of (v:=v) (o:=mA f) (by rw[<- l];exact r f);exact c4K I.kIn O (c.get f) c.hd n hu (b9T ru) (h u _ (I.tok _) ru)
theorem a7M{m:Str}{g:Addr}{pl:Sem Bool}{Q:c8t×List c8t->c8u->Prop}(I:Inv X pins σ H s)(e:H a=some (.ins C dx fs))(c:Cls X.K C)(k:Meth X.K C m g)(l:fs.lookup m=none)
  (h:Q (.ref g,[.ref a]) s):wpAny (model X.prog X.w) A (getMethod (.ref a) m pl) Q E s:=by
 obtain⟨mA,O,r,_,_,_⟩:=b1Z I.hok e;have hn:mA m=none:=RelO.none_of (by rw[<- l];exact r m);exact c2r I.kIn O (c.get m) k.at_ k.fn hn h
theorem b6P{y:V}{u:c8t}{Q:Unit->c8u->Prop}(I:Inv X pins σ H s)(e:H a=some (.ins C dx fs))(c:Cls X.K C)(n:a7m X.K C f)(hl:fs.length<1000)(ry:RelV y u)
  (h:∀s',Inv X pins σ (upd H a (.ins C dx (putF f y fs))) s'->Q () s'):wpAny (model X.prog X.w) A (setAttr (.ref a) f u) Q E s:=by
 obtain⟨mA,O,r,wi,_,ho⟩:=b1Z I.hok e;have hz:(fs.map (·.1)).length<=sizeLine:=by rw[c8a,c9z];lia
 refine c3D I.kIn O c.sa c.po n.taker c.hd wi hz fun h' O' sb=>h _ ?_
 have hd:∃o,h'.get? dx=some o:=let ⟨o,_,_,e',_⟩:=O'.ns;⟨o,e'⟩
 refine I.write (x:=a) (e:=dx) (by rw[e];exact d0m) (.inr ho) (fun b q hb z=>(sb.2 b hb).trans z) hd ?_;refine⟨by rw[a0B O.ne];exact ho,?_,O.ne,O'.obj,_,O'.ns,fun g=>?_,fun g hg=>?_⟩
 ·have:=a8Z f y fs;lia
 ·show RelO ((putF f y fs).lookup g) (if g=f then some u else mA g)
  rw[a8X];by_cases q:g=f
  ·rw[if_pos q,if_pos q];exact ry
  ·rw[if_neg q,if_neg q];exact r g
 ·by_cases q:g=f
  ·rw[q];exact(a9c f y fs).1
  ·refine(a9c f y fs).2 g (wi g fun z=>hg ?_)
   show(if g=f then some u else mA g)=none
   rw[if_neg q];exact z
theorem Inv.made(I:Inv X pins σ H s):Inv X pins σ (upd (upd H s.heap.objs.size (.own (s.heap.objs.size+1))) (s.heap.objs.size+1) (.ins C s.heap.objs.size []))
  { s with heap:=(s.heap.push PySem.W.emptyDict).push (PySem.W.instObj C s.heap.objs.size) }:=by
 have e1:(s.heap.push PySem.W.emptyDict).get? s.heap.objs.size=some PySem.W.emptyDict:=c8E s.heap rfl
 have e2:((s.heap.push PySem.W.emptyDict).push (PySem.W.instObj C s.heap.objs.size)).get? (s.heap.objs.size+1)=some (PySem.W.instObj C s.heap.objs.size):=by
  have:=c8E (s.heap.push PySem.W.emptyDict) (o:=PySem.W.instObj C s.heap.objs.size) rfl
  rwa [d0N] at this
 have e3:(s.heap.push PySem.W.emptyDict).Ns s.heap.objs.size (fun _=>none):=⟨PySem.W.emptyDict,#[],_,e1,rfl,(fun e he=>absurd he (by simp)),fun _=>rfl⟩;have I1:=I.laid (a:=s.heap.objs.size) (o:=.own (s.heap.objs.size+1)) (h':=s.heap.push PySem.W.emptyDict) (t':=s.toks) (fun b u q=>c8h _ q) (c8d _) ⟨_,e1⟩;refine I1.laid (a:=s.heap.objs.size+1) (o:=.ins C s.heap.objs.size []) (t':=s.toks) (fun b u q=>c8h _ q) (d2i (d0N _ _)) ?_;have ne:s.heap.objs.size≠s.heap.objs.size+1:=c8P (d0h _);refine⟨by rw[a0B ne,a0O],c9j _,ne,e2,fun _=>none,(Heap.Ns1.of_empty e3).at fun o q=>c8h _ q,fun _=>d0m,fun y hy=>absurd rfl hy⟩
theorem c4Z{prog:c8G}{w:c9d}{env:Env}{e:Expr}{f:Str}{pos:Pos}{s:c8u}{Q:VPR}(hb:attributeBase e f env (eval e env)=eval e env)
  (h:wpAny (model prog w) A (eval e env) (fun o s₁=>wpAny (model prog w) A (getAttr o f true) Q E s₁) E s):wpAny (model prog w) A (eval (.Attribute e f pos) env) Q E s :=
 Attribute_any_ h (by rw[arm_eval_Attribute,hb])
end
noncomputable def tFld(K:PySem.W.Frag)(ta:TE)(f:Str):TE:=fun σ H Q=>ta σ H fun x H1=>∃a C dx fs v,x=.ref a/\H1 a=some (.ins C dx fs)/\Cls K C/\a7m K C f/\fs.lookup f=some v/\Q v H1
noncomputable def sFld(K:PySem.W.Frag)(ta tv:TE)(f:Str):TS:=fun D σ H=>tv σ H fun y H1=>ta σ H1 fun x H2=>∃a C dx fs,x=.ref a/\H2 a=some (.ins C dx fs)/\Cls K C/\a7m K C f/\fs.length<1000 /\
 D.nx σ (upd H2 a (.ins C dx (putF f y fs)))
section
variable{X:Cx}{o e value:Expr}{f:Str}{pos pos' tpos:Pos}{ta tv:TE}
theorem c6g(he:PE X e ta)(hb:attributeBase e f X.env (eval e X.env)=eval e X.env):PE X (.Attribute e f pos) (tFld X.K ta f):=by
 intro pins s σ H Q I h;refine c4Z hb (thn (he pins s σ H _ I h) fun u s1 ⟨x,H1,I1,rx,a,C,dx,fs,v,ex,ea,c,n,l,q⟩=>?_);subst ex;obtain rfl:u=c8T a:=rx;exact b7E I1 ea c n l fun u' s2 I2 ru=>⟨v,H1,I2,ru,q⟩
theorem c5U(ha:PE X o ta)(hv:PE X value tv)(hs:swapsWith value (some (.Attribute o f pos')) pos.line X.env=pure false):PS X (.Assign [.Attribute o f pos'] value pos) (sFld X.K ta tv f):=by
 intro pins s σ H D I h;refine plainObj_wpAny_Assign_Attribute (thn (hv pins s σ H _ I h) fun u s1 ⟨y,H1,I1,ry,q⟩=>thn (ha pins s1 σ H1 _ I1 q) fun ov s2 ⟨x,H2,I2,rx,a,C,dx,fs,ex,ea,c,n,l,q2⟩=>?_) hs;subst ex;obtain rfl:ov=c8T a:=rx;exact b6P I2 ea c n l ry fun s3 I3=>⟨σ,_,I3,q2⟩
end
section
variable{X:Cx}{pins:PNS}{σ:St}{H:Hp}{s:c8u}{A:c8Z}{E:VPR}{Q:VPR}{c:c8t}{b:Bool}
inductive TyOf (K:PySem.W.Frag) (H:Hp):V->c8t->Prop where
 |non:TyOf K H .non (.type "NoneType")
 |bl (x:Bool):TyOf K H (.bl x) (.type "bool")
 |int (i:Int):TyOf K H (.int i) (.type "int")
 |str (x:Str):TyOf K H (.str x) (.type "str")
 |flt (x:UInt64):TyOf K H (.flt x) (.type "float")
 |lst {a:Addr} {xs:List V} (e:H a=some (.lst xs)):TyOf K H (.ref a) (.type "list")
 |frz {a:Addr} {o:Obj} {xs:List V} (e:H a=some (.frz o (.lst xs))):TyOf K H (.ref a) (.type "list")
 |tup {a:Addr} {xs:List V} (e:H a=some (.tup xs)):TyOf K H (.ref a) (.type "tuple")
 |dK {a:Addr} {kvs:List (Key×V)} (e:H a=some (.dK kvs)):TyOf K H (.ref a) (.type "dict")
 |dT {a:Addr} {kvs:List (List Key×V)} (e:H a=some (.dT kvs)):TyOf K H (.ref a) (.type "dict")
 | ins {a C dx:Addr} {fs:List (Str×V)} (e:H a=some (.ins C dx fs)) (cl:Cls K C) (ha:PySem.W.findIn K (.ref C) "__class__"=some (some (.builtin "object.__class__")))
   (hn:PySem.W.specialIn K (.builtin "object.__class__") "__get__"=some (some (.builtin "getset_descriptor.__get__"))) (htk:PySem.W.takesIn K (.builtin "object.__class__")=some true)
   (hm:PySem.W.mroIn K C (.type "object")=some true):TyOf K H (.ref a) (.ref C)
theorem a3g{x:V}{u t:c8t}(I:Inv X pins σ H s)(rx:RelV x u)(ty:TyOf X.K H x t)(e:PySem.W.kitOne X.K t c=some b)(h:∀tk,Q (.bool b) { s with toks:=tk }) :
  wpAny (model X.prog X.w) A (call (.builtin "isinstance") [u,c]) Q E s:=by
 cases ty with
 |non=>cases (show u=d2z from rx);exact PySem.W.kia_one PySem.W.kitx_none I.kIn d0m e (fun z=>nomatch z) h
 |bl y=>cases (show u=d3v y from rx);exact PySem.W.kia_one PySem.W.kitx_bool I.kIn d0m e (fun z=>nomatch z) h
 |int i=>obtain⟨t,q⟩:=(show ∃t,u=d0R i t from rx);cases q;exact PySem.W.kia_one PySem.W.kitx_int I.kIn d0m e (fun z=>nomatch z) h
 |str y=>obtain⟨t,q⟩:=(show ∃t,u=d3i y t from rx);cases q;exact PySem.W.kia_one PySem.W.kitx_str I.kIn d0m e (fun z=>nomatch z) h
 |flt y=>obtain⟨t,q⟩:=(show ∃t,u=d5g y t from rx);cases q;exact PySem.W.kia_one PySem.W.kitx_float I.kIn d0m e (fun z=>nomatch z) h
 | @lst a xs ea =>
   cases (show u=c8T a from rx);obtain⟨_,_,n,_,h1⟩:=(show a1d X.prog X.w H s.heap a (.lst xs) from I.hok a _ ea);exact PySem.W.kia_one PySem.W.kitx_list I.kIn ⟨_,h1,rfl⟩ e (fun z=>nomatch z) h
 | @frz a ob xs ea =>
   cases (show u=c8T a from rx);obtain⟨_,_,_,n,_,h1⟩:=(show a1d X.prog X.w H s.heap a (.frz ob (.lst xs)) from I.hok a _ ea);exact PySem.W.kia_one PySem.W.kitx_list I.kIn ⟨_,h1,rfl⟩ e (fun z=>nomatch z) h
 | @tup a xs ea =>
   cases (show u=c8T a from rx);obtain⟨_,_,_,p⟩:=(show a1d X.prog X.w H s.heap a (.tup xs) from I.hok a _ ea);obtain⟨o,h1,h2,_⟩:=p;exact PySem.W.kia_one PySem.W.kitx_tuple I.kIn ⟨o,h1,h2⟩ e (fun z=>nomatch z) h
 | @dK a kvs ea =>
   cases (show u=c8T a from rx);obtain⟨_,_,vs,_,p⟩:=(show a1d X.prog X.w H s.heap a (.dK kvs) from I.hok a _ ea);obtain⟨o,es,ep,h1,h2,_⟩:=p;exact PySem.W.kia_one PySem.W.kitx_dict I.kIn ⟨o,h1,h2.1⟩ e (fun z=>nomatch z) h
 | @dT a kvs ea =>
   cases (show u=c8T a from rx);obtain⟨_,_,xs,_,o,es,ep,h1,h2,_⟩:=(show a1d X.prog X.w H s.heap a (.dT kvs) from I.hok a _ ea);exact PySem.W.kia_one PySem.W.kitx_dict I.kIn ⟨o,h1,h2.1⟩ e (fun z=>nomatch z) h
 | @ins a C dx fs ea cl ha hn htk hm =>
   cases (show u=c8T a from rx);obtain⟨mA,O,_⟩:=b1Z I.hok ea;obtain⟨od,J,_⟩:=O.look;exact PySem.W.kia_one (PySem.W.kitx_own (cl.get _) cl.hd ha hn htk hm) I.kIn J e (fun z=>nomatch z) h
end
structure Room(k:Nat)(A:c8Z):Prop where
 hd:A.handled=none
 dp:A.depth+3*k+5<recursionLimit
 un:A.units+16*k+200<cLine
theorem Room.mono{j k:Nat}{A:c8Z}(r:Room k A)(h:j<=k):Room j A:=⟨r.hd,by have:=r.dp;lia,by have:=r.un;lia⟩
theorem Room.deeper{k:Nat}{A:c8Z}(r:Room (k+1) A)(env:Env):Room k (A.deeper env) :=
 ⟨r.hd,by have:=r.dp;show A.depth+1+3*k+5<_;lia,by have:=r.un;show A.units+3+16*k+200<_;lia⟩
theorem b7v{A:c8Z}{C:Addr}{us:LSV}{kw:List (Str×c8t)}:(A.under (.builtin "type.__call__" ⟨.ref C::us,kw⟩)).depth=A.depth+1:=by
 first|rfl|simp[d4F,Code.weight,Code.isCreation,Code.isGuard,Code.isCaller,d6f,d4G,guardIds]
theorem b7u{A:c8Z}{C:Addr}{us:LSV}{kw:List (Str×c8t)}:(A.under (.builtin "type.__call__" ⟨.ref C::us,kw⟩)).units=A.units+1:=by
 first|rfl|simp[d4F,Code.cUnits,d6f,d4G]
theorem Room.make{k:Nat}{A:c8Z}(r:Room (k+1) A)(C:Addr)(us:LSV)(kw:List (Str×c8t)):Room k (A.under (.builtin "type.__call__" ⟨.ref C::us,kw⟩)) :=
 ⟨r.hd,by have:=r.dp;rw[b7v];lia,by have:=r.un;rw[b7u];lia⟩
theorem Room.depth{k:Nat}{A:c8Z}(r:Room k A):A.depth<recursionLimit:=by have:=r.dp;lia
theorem Room.units{k:Nat}{A:c8Z}(r:Room k A):A.units+64<cLine:=by have:=r.un;lia
noncomputable def tNil:TA:=fun _ H Q=>Q [] H
noncomputable def c7p(ta:TE)(tr:TA):TA:=fun σ H Q=>ta σ H fun x H1=>tr σ H1 fun xs H2=>Q (x::xs) H2
section
variable{X:Cx}{e:Expr}{es:LSE}{te:TE}{t:TA}{pos:Pos}
theorem b5W:PA X [] tNil:=fun _ _ _ _ H Q I h=>c9Z ⟨[],H,I,.nil,h⟩
noncomputable abbrev QSS(X:Cx)(e:Expr)(es:LSE):Prop:=starEach (e::es) X.env=(false,eval e X.env)::starEach es X.env
theorem a8S(ha:PE X e te)(hr:PA X es t)(hs:QSS X e es:=by rfl):PA X (e::es) (c7p te t):=by
 intro pos pins s σ H Q I h;rw[hs];show wpAny _ _ (spliced ((false,eval e X.env)::backTo pos (starEach es X.env))) _ _ s;refine c9E (thn (ha pins s σ H _ I h) fun u s1 ⟨x,H1,I1,r1,q1⟩=>?_);exact thn (hr pos pins s1 σ H1 _ I1 q1) fun us s2 ⟨xs,H2,I2,r2,q2⟩=>⟨x::xs,H2,I2,.cons r1 r2,q2⟩
noncomputable def tTup(t:TA):TE:=fun σ H Q=>t σ H fun xs H1=>xs.length<=sizeLine/\∀p,H1 p=none->Q (.ref p) (upd H1 p (.tup xs))
noncomputable def tLst(t:TA):TE:=fun σ H Q=>t σ H fun xs H1=>xs.length<=sizeLine/\∀p,H1 p=none->Q (.ref p) (upd H1 p (.lst xs))
theorem c6a{x1}(h:PA X es t):PE X (.Tuple es x1 pos) (tTup t):=by
 intro pins s σ H Q I hq;refine wpAny_Tuple_spliced (thn (h pos pins s σ H _ I hq) fun us s1 ⟨xs,H1,I1,r,z,q⟩=>⟨by rw[<- r.length];exact z,?_⟩);have hf:H1 s1.heap.objs.size=none:=I1.hok.fresh (c8d _);refine⟨.ref s1.heap.objs.size,upd H1 s1.heap.objs.size (.tup xs),I1.laid (t':=s1.toks) (fun b u e=>c8h _ e) (c8d _) ?_,rfl,q _ hf⟩;exact⟨z,us,r,⟨_,c8E _ rfl,rfl,rfl,_,rfl⟩⟩
theorem c6e(h:PA X es t):PE X (.List es pos) (tLst t):=by
 intro pins s σ H Q I hq;refine wpAny_List_spliced (thn (h pos pins s σ H _ I hq) fun us s1 ⟨xs,H1,I1,r,z,q⟩=>⟨by rw[<- r.length];exact z,?_⟩);have hf:H1 s1.heap.objs.size=none:=I1.hok.fresh (c8d _);refine⟨.ref s1.heap.objs.size,upd H1 s1.heap.objs.size (.lst xs),I1.laid (t':=s1.toks) (fun b u e=>c8h _ e) (c8d _) ?_,rfl,q _ hf⟩;exact⟨z,us,0,r,c8E _ rfl⟩
end
noncomputable abbrev Sp:=List V->Hp->VK->XK->Prop
noncomputable abbrev CXT:=List Env->Hp->c8u->XK->VPR
structure Env0(P:c8G)(w:c9d)(K:PySem.W.Frag)(mg:SOV)(base:Heap)(A:c8Z)(outer:List Env)(s:c8u)(H:Hp):Prop where
 frames:A.frames=some outer
 mod:Mod K mg base
 bs:∀b o,base.get? b=some o->s.heap.get? b=some o/\H b=none
 bsz:base.objs.size<=s.heap.objs.size
 funs:s.heap.FunFrames base outer
 frf:∀b∈frs outer,H b=none
 hok:HOk P w H s.heap
 bare:d2O s.gens
noncomputable def CE(outer:List Env)(P:c8G)(w:c9d)(H:Hp)(s:c8u)(Q:VK)(u:c8t)(s':c8u):Prop :=
 ∃v H',s'.os=s.os/\d2O s'.gens/\Un (frs outer) [] H H' s.heap s'.heap/\HOk P w H' s'.heap/\RelV v u/\Q v H'
noncomputable def CR(CX:CXT)(outer:List Env)(P:c8G)(w:c9d)(H:Hp)(s:c8u)(Q:VK)(E:XK)(r:d5S)(s':c8u):Prop :=
 match r with
 |.ok (.ret u)=>CE outer P w H s Q u s'
 |.ok _=>False
 |.error e=>CX outer H s E e s'
structure FnOk(P:c8G)(w:c9d)(K:PySem.W.Frag)(mg:SOV)(base:Heap)(CX:CXT)(k:Nat)(f:Addr)(fd:d0u)(ps:LSS)(sp:Sp):Prop where
 len:∀vs H Q E,sp vs H Q E->vs.length=ps.length
 run:∀(A:c8Z) (outer:List Env) (s:c8u) (H:Hp) (args:Args) (us:LSV) (vs:List V) (Q:VK) (E:XK),Room k A->Env0 P w K mg base A outer s H->d5i s fd args (ps.zip us)->Vals vs us->sp vs H Q E ->
  codeAny (model P w) A (.call (.ref f) args) (CR CX outer P w H s Q E) s
theorem FnOk.mono{P:c8G}{w:c9d}{K:PySem.W.Frag}{mg:SOV}{base:Heap}{CX:CXT}{j k:Nat}{f:Addr}{fd:d0u}{ps:LSS}{sp:Sp}(F:FnOk P w K mg base CX j f fd ps sp)(h:j<=k) :
  FnOk P w K mg base CX k f fd ps sp:=⟨F.len,fun A outer s H args us vs Q E hr=>F.run A outer s H args us vs Q E (hr.mono h)⟩
theorem Env0.make{P:c8G}{w:c9d}{K:PySem.W.Frag}{mg:SOV}{base:Heap}{A:c8Z}{outer:List Env}{s:c8u}{H:Hp}(e:Env0 P w K mg base A outer s H)(C:Addr)(us:LSV)(kw:List (Str×c8t)) :
  Env0 P w K mg base (A.under (.builtin "type.__call__" ⟨.ref C::us,kw⟩)) outer s H:=⟨by first|exact e.frames|(simpa [d4F,Code.envs,d4G,pushEnvs] using e.frames),e.mod,e.bs,e.bsz,e.funs,e.frf,e.hok,e.bare⟩
section
variable{X:Cx}{pins:PNS}{σ:St}{H:Hp}{s s':c8u}
theorem Inv.env0(I:Inv X pins σ H s):Env0 X.prog X.w X.K X.mg X.base X.A X.stack s H :=
 ⟨I.ok.frames,I.ok.mod,I.bs,c8C I.ok.bsz I.sz,I.stack,I.stkFree,I.hok,I.bare⟩
theorem Inv.after{Q:VK}{u:c8t}(I:Inv X pins σ H s)(h:CE X.stack X.prog X.w H s Q u s'):EP X pins σ Q u s':=by
 obtain⟨v,H',os,bare,un,hok,r,q⟩:=h;obtain⟨hh,g,d,t,os'⟩:=s';obtain rfl:os'=s.os:=os;exact⟨v,H',I.call (h':=hh) (g':=g) (d':=d) (t':=t) (ch:=[]) un hok bare (fun b z=>absurd z (by simp)),r,q⟩
end
noncomputable def c7q(sp:Sp)(dvs:List V)(E:XK)(t:TA):TE:=fun σ H Q=>t σ H fun vs H1=>sp (vs++dvs) H1 Q E
noncomputable def c5q(C:Addr)(m:Str)(sp:Sp)(dvs:List V)(E:XK)(ta:TE)(t:TA):TE:=fun σ H Q=>ta σ H fun x H1=>∃a dx fs,x=.ref a/\H1 a=some (.ins C dx fs)/\fs.lookup m=none /\
 t σ H1 fun vs H2=>sp (x::(vs++dvs)) H2 Q E
noncomputable def c7m(C:Addr)(sp:Sp)(dvs:List V)(E:XK)(t:TA):TE:=fun σ H Q=>t σ H fun vs H1=>∀x dx,H1 x=none->H1 dx=none->dx≠x ->
 sp (.ref x::(vs++dvs)) (upd (upd H1 dx (.own x)) x (.ins C dx [])) (fun v H2=>v=.non/\Q (.ref x) H2) E
noncomputable def a3n(K:PySem.W.Frag)(fd:d0u)(ps:LSS)(ds:LSV):Prop :=
 ∀(s:c8u) (us:LSV),K.In s.heap->(us++ds).length=ps.length->d5i s fd ⟨us,[]⟩ (ps.zip (us++ds))
theorem a3n.all{K:PySem.W.Frag}{fd:d0u}{ps:LSS}(h:∀us:LSV,us.length=ps.length->bindArgs fd ⟨us,[]⟩=pure (ps.zip us)):a3n K fd ps []:=fun s us _ hl=>by
 rw[c8R] at hl|-
 exact .of_eq (h us hl)
noncomputable def a9M(CX:CXT)(X:Cx)(E:XK):Prop:=∀(pins:PNS) (σ:St) (H:Hp) (s:c8u) (e:c8t) (s':c8u),Inv X pins σ H s->CX X.stack H s E e s'->X.xe e s'
section
variable{X:Cx}{CX:CXT}{k:Nat}{f C:Addr}{fd:d0u}{ps:LSS}{sp:Sp}{dvs:List V}{ds:LSV}{E:XK}{x m:Str}{p pos apos:Pos}{e o:Expr}{es:LSE}{ta:TE}{t:TA}
theorem b8G{pins:PNS}{σ:St}{H:Hp}{s:c8u}{Q:VK}{us:LSV}{vs:List V}(F:FnOk X.prog X.w X.K X.mg X.base CX k f fd ps sp)(hr:Room k X.A)(hb:a3n X.K fd ps ds)(hd:Vals dvs ds)(hx:a9M CX X E)
  (I:Inv X pins σ H s) (r:Vals vs us) (h:sp (vs++dvs) H Q E):wpAny (model X.prog X.w) X.A (call (.ref f) us) (EP X pins σ Q) X.xe s:=by
 have r2:Vals (vs++dvs) (us++ds):=r.append hd;have hl:(us++ds).length=ps.length:=by rw[<- r2.length];exact F.len _ _ _ _ h
 refine d3w (d1s (F.run X.A X.stack s H ⟨us,[]⟩ (us++ds) (vs++dvs) Q E hr I.env0 (hb s us I.kIn hl) r2 h) fun r s' hq=>?_);cases r with
 |error e=>exact hx pins σ H s e s' I hq
 | ok fl =>
   cases fl with
   |ret u=>exact I.after hq
   |next=>exact c9k hq
   |brk=>exact c9k hq
   |cont=>exact c9k hq
noncomputable abbrev QPP(X:Cx)(pos:Pos)(es:LSE):Prop:=(backTo pos (starEach es X.env)).any (·.1)=false
theorem c4j(F:FnOk X.prog X.w X.K X.mg X.base CX k f fd ps sp)(hr:Room k X.A)(hg:Gl X x)(hm:X.mg x=some (.ref f))(hk:PySem.W.keepIn X.K (.ref f)=true)(hb:a3n X.K fd ps ds)(hd:Vals dvs ds)(hx:a9M CX X E)
  (ha:PA X (e::es) t) (hdb:QDD x:=by decide) (he:QSS X e es:=by rfl) (hpl:QPP X pos es:=by rfl) :
  PE X (.Call (.Name x p) (e::es) [] pos) (c7q sp dvs E t):=by
 intro pins s σ H Q I h;refine c9o (a4w I hg hm ?_ hdb);refine PySem.W.callWith_K (h₀:=X.base) I.ok.mod.kin hk (thn (ha pos pins s σ H _ I h) fun us s1 ⟨vs,H1,I1,r,q⟩=>⟨I1.kIn,?_⟩) he hpl;exact b8G F hr hb hd hx I1 r q
theorem c4f{pl:Sem Bool}(he:PE X o ta)(c:Cls X.K C)(hm:Meth X.K C m f)(F:FnOk X.prog X.w X.K X.mg X.base CX k f fd ps sp)(hr:Room k X.A)(hb:a3n X.K fd ps ds)(hd:Vals dvs ds)(hx:a9M CX X E)(ha:PA X (e::es) t)
  (hst:QSS X e es:=by rfl) (hpl:QPP X pos es:=by rfl)
  (ht:eval (.Call (.Attribute o m apos) (e::es) [] pos) X.env=(do
   let ov <- eval o X.env
   standAt apos.atName
   let (f,first) <- holding [ov] (getMethod ov m pl)
   callWith pos f first (backTo pos (starEach (e::es) X.env)) (backToKw pos (keywordEach [] X.env))):=by rfl) :
  PE X (.Call (.Attribute o m apos) (e::es) [] pos) (c5q C m sp dvs E ta t):=by
 intro pins s σ H Q I h;refine PySem.W.methodCall_KW (pl:=pl) (thn (he pins s σ H _ I h) fun u s1 ⟨x,H1,I1,rx,a,dx,fs,ex,ea,l,q⟩=>?_) ht;subst ex;obtain rfl:u=c8T a:=rx;refine a7M I1 ea c hm l ?_
 refine PySem.W.callWith_K (first:=[.ref a]) (h₀:=X.base) I.ok.mod.kin hm.kp (thn (ha pos pins s1 σ H1 _ I1 q) fun us s2 ⟨vs,H2,I2,r,q2⟩=>⟨I2.kIn,?_⟩) hst hpl
 exact b8G (us:=.ref a::us) (vs:=.ref a::vs) F hr hb hd hx I2 (.cons rfl r) q2
theorem c1E{pl:Sem Bool}(he:PE X o ta)(c:Cls X.K C)(hm:Meth X.K C m f)(F:FnOk X.prog X.w X.K X.mg X.base CX k f fd ps sp)(hr:Room k X.A)(hb:a3n X.K fd ps ds)(hd:Vals dvs ds)(hx:a9M CX X E)
  (ht:eval (.Call (.Attribute o m apos) [] [] pos) X.env=(do
   let ov <- eval o X.env
   standAt apos.atName
   let (f,first) <- holding [ov] (getMethod ov m pl)
   callWith pos f first (backTo pos (starEach [] X.env)) (backToKw pos (keywordEach [] X.env))):=by rfl) :
  PE X (.Call (.Attribute o m apos) [] [] pos) (c5q C m sp dvs E ta tNil):=by
 intro pins s σ H Q I h;refine PySem.W.methodCall_KW (pl:=pl) (thn (he pins s σ H _ I h) fun u s1 ⟨x,H1,I1,rx,a,dx,fs,ex,ea,l,q⟩=>?_) ht;subst ex;obtain rfl:u=c8T a:=rx;refine a7M I1 ea c hm l ?_
 exact PySem.W.callWith_K0 (first:=[.ref a]) I1.kIn hm.kp (b8G (us:=[.ref a]) (vs:=[.ref a]) F hr hb hd hx I1 (.cons rfl .nil) q)
structure Mk(K:PySem.W.Frag)(C f:Addr):Prop where
 makes:PySem.W.makesIn K C=true
 init:PySem.W.findIn K (.ref C) "__init__"=some (some (.ref f))
 fn:PySem.W.isFn K (.ref f)=true
 kp:PySem.W.keepIn K (.ref C)=true
theorem c1j{pins:PNS}{σ:St}{H:Hp}{s:c8u}{Q:VK}{us:LSV}{vs:List V}(M:Mk X.K C f)(F:FnOk X.prog X.w X.K X.mg X.base CX k f fd ps sp)(hr:Room (k+1) X.A)(hb:a3n X.K fd ps ds)(hd:Vals dvs ds)
  (hx:a9M CX X E) (I:Inv X pins σ H s) (r:Vals vs us)
  (h:∀x dx,H x=none->H dx=none->dx≠x->sp (.ref x::(vs++dvs)) (upd (upd H dx (.own x)) x (.ins C dx [])) (fun v H2=>v=.non/\Q (.ref x) H2) E) :
  wpAny (model X.prog X.w) X.A (call (.ref C) us) (EP X pins σ Q) X.xe s:=by
 have hq:=h (s.heap.objs.size+1) s.heap.objs.size (I.hok.fresh (d1C _)) (I.hok.fresh (c8d _)) (c8P (d0h _));have I2:=Inv.made (C:=C) I;have r2:Vals (V.ref (s.heap.objs.size+1)::(vs++dvs)) (c8T (s.heap.objs.size+1)::(us++ds)):=.cons rfl (r.append hd)
 have hl:(c8T (s.heap.objs.size+1)::us++ds).length=ps.length:=by
  have e:=r2.length;rw[F.len _ _ _ _ hq] at e;exact e.symm
 refine d3w (c1V (f:=f) I.kIn M.makes M.init (beq_iff_eq.mp M.fn) (d1s (F.run _ X.stack _ _ ⟨c8T (s.heap.objs.size+1)::us,[]⟩ (c8T (s.heap.objs.size+1)::(us++ds)) _ _ E (hr.make C us [])
  (I2.env0.make C us []) (hb _ (c8T (s.heap.objs.size+1)::us) I2.kIn hl) r2 hq) fun r s' hq'=>?_))
 cases r with
 |error e=>exact hx pins σ _ _ e s' I2 hq'
 | ok fl =>
   cases fl with
   | ret u =>
     obtain⟨v,H',I3,rv,ev,q3⟩:=I2.after hq';subst ev;exact⟨rv,⟨V.ref (s.heap.objs.size+1),H',I3,rfl,q3⟩⟩
   |next=>exact c9k hq'
   |brk=>exact c9k hq'
   |cont=>exact c9k hq'
theorem c1F(M:Mk X.K C f)(F:FnOk X.prog X.w X.K X.mg X.base CX k f fd ps sp)(hr:Room (k+1) X.A)(hg:Gl X x)(hm:X.mg x=some (.ref C))(hb:a3n X.K fd ps ds)(hd:Vals dvs ds)(hx:a9M CX X E)
  (hdb:QDD x:=by decide):PE X (.Call (.Name x p) [] [] pos) (c7m C sp dvs E tNil):=by
 intro pins s σ H Q I h;refine c9o (a4w I hg hm ?_ hdb);exact PySem.W.callWith_K0 I.kIn M.kp (c1j (us:=[]) M F hr hb hd hx I .nil h)
end
section
variable{X:Cx}{CX:CXT}{k:Nat}{f C:Addr}{fd:d0u}{ps ks:LSS}{sp:Sp}{E:XK}{x m:Str}{p pos apos kpos:Pos}{e o:Expr}{es:LSE}{kws:List d1v}{te ta:TE}{t tk:TA}{nm:Option Str}
variable{g:LSV->LSV->LSV}{gV:List V->List V->List V}
end
structure FnScope(N P:LSS)(sc:d1R):Prop where
 kind:sc.kind=.function
 co:sc.isCoroutine=false
 gen:sc.isGenerator=false
 nd:N.Nodup
 pre:N.take P.length=P
 par:∀x∈P,sc.names.lookup x=some .local\/sc.names.lookup x=some .cell
 nofree:∀y∈sc.names,y.2≠.free
theorem b4l{kindOf:Str->Option d0q}{x:Str}:∀{binds:List (Str×c8t)} {m:SOV},(∀v,(x,v)∉binds)->bindL kindOf binds m x=m x
 |[],_,_=>rfl
 | (n,v)::r,m,h=>by
   unfold bindL;rw[b4l fun w hw=>h w (c8m _ hw)];split
   ·have:x≠n:=by rintro rfl;exact h v c8r
    simp[this]
   ·rfl
theorem b4n{kindOf:Str->Option d0q}{x:Str}:∀{binds:List (Str×c8t)} {m:SOV},(∀v,(x,v)∉binds)->bindC kindOf binds m x=m x
 |[],_,_=>rfl
 | (n,v)::r,m,h=>by
   unfold bindC;rw[b4n fun w hw=>h w (c8m _ hw)];split
   ·rfl
   ·have:x≠n:=by rintro rfl;exact h v c8r
    simp[this]
theorem b4m{kindOf:Str->Option d0q}{x:Str}{v:c8t}:∀{P:LSS} {vs:LSV} {i:Nat} {m:SOV},P.Nodup->P[i]?=some x->vs[i]?=some v->kindOf x=some .local ->
  bindL kindOf (P.zip vs) m x=some v
 |[],_,_,_,_,h,_,_=>by simp at h
 |_::_,[],_,_,_,_,h,_=>by simp at h
 | p::P,w::vs,0,m,nd,h1,h2,hk=>by
   simp at h1 h2;subst h1;subst h2;show bindL kindOf ((p,w)::P.zip vs) m p=_;unfold bindL;rw[b4l fun v hv=>(c9J.mp nd).1 (d3j hv).1,if_pos hk];simp
 | p::P,w::vs,i+1,m,nd,h1,h2,hk=>by
   show bindL kindOf ((p,w)::P.zip vs) m x=_;unfold bindL;exact b4m (i:=i) (c9J.mp nd).2 (by simpa using h1) (by simpa using h2) hk
theorem b4o{kindOf:Str->Option d0q}{x:Str}{v:c8t}:∀{P:LSS} {vs:LSV} {i:Nat} {m:SOV},P.Nodup->P[i]?=some x->vs[i]?=some v->kindOf x≠some .local ->
  bindC kindOf (P.zip vs) m x=some v
 |[],_,_,_,_,h,_,_=>by simp at h
 |_::_,[],_,_,_,_,h,_=>by simp at h
 | p::P,w::vs,0,m,nd,h1,h2,hk=>by
   simp at h1 h2;subst h1;subst h2;show bindC kindOf ((p,w)::P.zip vs) m p=_;unfold bindC;rw[b4n fun v hv=>(c9J.mp nd).1 (d3j hv).1,if_neg hk];simp
 | p::P,w::vs,i+1,m,nd,h1,h2,hk=>by
   show bindC kindOf ((p,w)::P.zip vs) m x=_;unfold bindC;exact b4o (i:=i) (c9J.mp nd).2 (by simpa using h1) (by simpa using h2) hk
noncomputable def start(N:LSS)(vs:List V):St:=vs.map some++c8B (N.length-vs.length) none
noncomputable def cxOf(CX:CXT)(P:c8G)(w:c9d)(K:PySem.W.Frag)(mg:SOV)(base:Heap)(N:LSS)(qual:Str)(scope:d1R)(f:Addr)(cd:c8t)(A:c8Z)(outer:List Env)(s:c8u)(H:Hp)(E:XK):Cx where
 prog:=P
 w:=w
 K:=K
 mg:=mg
 base:=base
 A:=A.deeper (envOfC qual scope s.heap.objs.size f cd)
 N:=N
 s₀:=s
 H₀:=H
 env:=envOfC qual scope s.heap.objs.size f cd
 outer:=outer
 stack:=envOfC qual scope s.heap.objs.size f cd::outer
 ex:=[]
 calm:=true
 fn:=fun _=>true
 pn:=[]
 xe:=fun e s'=>wpAny (model P w) (A.deeper (envOfC qual scope s.heap.objs.size f cd)) (leaving (envOfC qual scope s.heap.objs.size f cd) e) (fun _ s''=>CX outer H s E e s'') (fun e' s''=>CX outer H s E e' s'') s'
theorem b6D{sc:d1R}{n:Nat}{x:Str}(h:sc.names.lookup x=some .cell):∃c,(cellsFrom n sc.names []).lookup x=some c:=by
 have q:=PySem.W.cellsFrom_some sc.names n [] (.inl h);exact c9y.mp q
theorem b9L{CX:CXT}{P:c8G}{w:c9d}{K:PySem.W.Frag}{mg:SOV}{base:Heap}{N ps:LSS}{qual:Str}{scope:d1R}{f:Addr}{cd:c8t}{A:c8Z}{outer:List Env}{s s1:c8u}{H:Hp}{E:XK}{us:LSV}{vs:List V}
  (S:FnScope N ps scope) (hd:A.handled=none) (e0:Env0 P w K mg base A outer s H) (hl:vs.length=ps.length) (r:Vals vs us)
  (x:InCallC s s.heap.objs.size (bindL (envOfC qual scope s.heap.objs.size f cd).kindOf (ps.zip us) fun _=>none) (cellsFrom (s.heap.objs.size+1) scope.names []) (bindC (envOfC qual scope s.heap.objs.size f cd).kindOf (ps.zip us) fun _=>none) s1) :
  Inv (cxOf CX P w K mg base N qual scope f cd A outer s H E) [] (start N vs) H s1:=by
 have hpl:ps.length<=N.length:=by have:=congrArg d0o S.pre;rw[c9b] at this;lia
 obtain⟨h1,tk,rfl,hk⟩:=x.done;have noA:∀b:Addr,b∉(cxOf CX P w K mg base N qual scope f cd A outer s H E).ex:=fun b z=>absurd (show b∈([]:List Addr) from z) (by simp)
 refine⟨⟨e0.mod,S.kind,rfl,rfl,c8d _,fun y z c h1 h2=>?_,fun y hy=>?_,fun y c _ h=>?_,fun _=>hd,Around.frames_deeper e0.frames,.inr ⟨rfl,rfl⟩,fun b z=>absurd z (noA b),e0.bs,e0.bsz,fun b _ _=>noA b,fun b z=>absurd z (noA b),e0.funs,e0.frf⟩,
  rfl,e0.bare,Un.kept hk,⟨_,x.toInCall.ns,fun i y v h1 h2 h3=>?_⟩,fun y c h=>⟨_,x.cell y c h⟩,e0.hok.fresh (c8d _),fun y c h=>?_,fun p hp=>absurd (show p∈([]:PNS) from hp) (by simp),e0.hok.kept hk,?_⟩
 ·exact name_of_addr x.apart (PySem.mem_of_lookup h1) (PySem.mem_of_lookup h2)
 ·have hy:scope.names.lookup y=some .cell\/scope.names.lookup y=some .free:=hy;rcases hy with hy|hy
  ·exact b6D hy
  ·exact absurd rfl (S.nofree _ (PySem.mem_of_lookup hy))
 ·exact d0T (x.above y c (PySem.mem_of_lookup h))
 ·have hi:i<vs.length:=by
   unfold start at h2;by_cases hi:i<vs.length
   ·exact hi
   ·rw[c8X (by simpa using hi)] at h2;rw[d2R] at h2;split at h2<;>cases h2
  have ha:vs[i]?=some v:=by
   unfold start at h2;rw[d0c (by simpa using hi),c8i] at h2;cases e:vs[i]? with
   |none=>rw[e] at h2;cases h2
   |some a=>rw[e] at h2;cases h2;rfl
  obtain⟨u,hu,rv⟩:=r.get ha
  have hp:ps[i]?=some y:=by
   rw[<- S.pre,List.getElem?_take_of_lt (by lia)];exact h1
  have ndP:ps.Nodup:=by rw[<- S.pre];exact S.nd.sublist (List.take_sublist _ _)
  refine⟨u,rv,?_⟩;rcases S.par y (c8s hp) with k|k
  ·exact .inl ⟨k,b4m ndP hp hu k⟩
  ·obtain⟨c,e⟩:=b6D (n:=s.heap.objs.size+1) k;refine .inr ⟨.inl k,c,e,?_⟩;have q:=x.cell y c e;rw[b4o ndP hp hu (by show scope.names.lookup y≠_;rw[k];decide)] at q;exact q
 ·exact e0.hok.fresh (d0T (x.above y c (PySem.mem_of_lookup h)))
 ·unfold start;show _=N.length;rw[c8p,c8a,List.length_replicate];lia
theorem c4O{CX:CXT}{P:c8G}{w:c9d}{K:PySem.W.Frag}{mg:SOV}{base:Heap}{k:Nat}{f:Addr}{name qual:Str}{params:Arguments}{body:List Stmt}{scope:d1R}{dV kV doc pm cdv ct oc:c8t}{an od:Option Addr}
  {osl:AOV} {N ps:LSS} {sp:Sp} (lk:K.lookup f=some ⟨oc,od,.func (PySem.W.fnOf name qual params body scope dV kV doc pm an cdv ct),osl⟩) (hcd:PySem.W.codeIn K cdv qual=true) (S:FnScope N ps scope)
  (len:∀vs H Q E,sp vs H Q E->vs.length=ps.length)
  (hbody:∀(A:c8Z) (outer:List Env) (s:c8u) (H:Hp) (vs:List V) (Q:VK) (E:XK),Room k (A.deeper (envOfC qual scope s.heap.objs.size f cdv))->sp vs H Q E ->
   ∃t,PSs (cxOf CX P w K mg base N qual scope f cdv A outer s H E) body t/\t { nx:=fun _ H'=>Q .non H',rt:=Q } (start N vs) H) :
  FnOk P w K mg base CX (k+1) f (PySem.W.fnOf name qual params body scope dV kV doc pm an cdv ct) ps sp:=by
 refine⟨len,fun A outer s H args us vs Q E hr e0 hb r hsp=>?_⟩;have hl:=len _ _ _ _ hsp;have KX:K.In s.heap:=e0.mod.kin.keeps fun b o e=>(e0.bs b o e).1;have lim:s.heap.NoLimit:=e0.mod.nolimit.keeps fun b o e=>(e0.bs b o e).1
 have hkind:∀y∈ps.zip us,scope.names.lookup y.1=some .local\/(scope.names.lookup y.1=some .cell/\((cellsFrom (s.heap.objs.size+1) scope.names []).lookup y.1).isSome=true):=fun⟨n,v⟩ hy=>by
  rcases S.par n (d3j hy).1 with q|q
  ·exact .inl q
  ·exact .inr ⟨q,PySem.W.cellsFrom_some _ _ _ (.inl q)⟩
 refine codeAny_call_function hr.depth (KX _ _ lk) rfl S.co S.gen rfl (PySem.W.codeRec_of KX hcd) (hb _ _ _ _ ?_);refine wpAny_newFunctionEnv_cells S.kind hkind fun env he s1 x=>?_;subst he;refine⟨lim.keeps x.toInCall.keep,codeAny_func ?_⟩;obtain⟨t,ht,hq⟩:=hbody A outer s H vs Q E (hr.deeper _) hsp;have I:Inv (cxOf CX P w K mg base N qual scope f cdv A outer s H E) [] (start N vs) H s1:=b9L S hr.hd e0 hl r x;refine c9G (ht [] s1 (start N vs) H _ I hq) (fun fl s' hs=>?_) fun e s' hs=>hs
 have fin:∀{σ':St} {H':Hp} {v:V} {u:c8t},Inv (cxOf CX P w K mg base N qual scope f cdv A outer s H E) [] σ' H' s'->RelV v u->Q v H'->CE outer P w H s Q u s' :=
  fun {σ' H' v u} J rv q=>⟨v,H',J.os,J.bare,J.base,J.hok,rv,q⟩
 cases fl with
 | ret u =>
   obtain⟨v,σ',H',J,rv,q⟩:=hs;exact fin J rv q
 | next =>
   obtain⟨σ',H',J,q⟩:=hs;exact fin (v:=V.non) (u:=d2z) J rfl q
 | brk =>
   obtain⟨_,_,_,q⟩:=hs;exact c9k q
 | cont =>
   obtain⟨_,_,_,q⟩:=hs;exact c9k q
section
variable{X:Cx}{x:Str}{p pos:Pos}{e:Expr}{es:LSE}{t:TA}{id T:String}{r:List V->Hp->VK->Prop}
noncomputable def tCB(r:List V->Hp->VK->Prop)(t:TA):TE:=fun σ H Q=>t σ H fun vs H1=>r vs H1 Q
theorem c1K(hc:b0i X (.builtin id) r)(hg:Gl X x)(hm:X.mg x=none)(hv:bootBuiltins x=some (.builtin id))(ha:PA X (e::es) t)(hn:x≠"__name__":=by decide)(hdb:QDD x:=by decide)
  (he:QSS X e es:=by rfl) (hpl:QPP X pos es:=by rfl):PE X (.Call (.Name x p) (e::es) [] pos) (tCB r t):=by
 intro pins s σ H Q I h;refine c9o (a2Q I hg hm hv ?_ hn hdb);exact d1H (thn (ha pos pins s σ H _ I h) fun us s1 ⟨vs,H1,I1,r1,q1⟩=>hc pins s1 σ H1 vs us Q I1 r1 q1) he hpl
theorem b8Z(hc:b0i X (.type T) r)(hg:Gl X x)(hm:X.mg x=none)(hv:bootBuiltins x=some (.type T))(ha:PA X (e::es) t)(hn:x≠"__name__":=by decide)(hdb:QDD x:=by decide)
  (he:QSS X e es:=by rfl) (hpl:QPP X pos es:=by rfl):PE X (.Call (.Name x p) (e::es) [] pos) (tCB r t):=by
 intro pins s σ H Q I h;refine c9o (a2Q I hg hm hv ?_ hn hdb);exact c8H (thn (ha pos pins s σ H _ I h) fun us s1 ⟨vs,H1,I1,r1,q1⟩=>hc pins s1 σ H1 vs us Q I1 r1 q1) he hpl
end
end L2
namespace HT
open PySem PyProof.Rows
section
open PySem.SeqAt
open PySem.AutoSeq1 (wpAny_loadPart')
open PySem.MeetsSeq PySem.MeetsSeq2 PySem.MeetsSeq3
end
section
variable{prog:c8G}{w:c9d}{A:c8Z}{E:VPR}{s:c8u}
theorem cat_tup{t b:Addr}{vs ws:LSV}{Q:VPR}(ht:d5O s.heap t vs.toArray)(hb:d5O s.heap b ws.toArray)(hv:vs≠[])
  (h1:ws=[]->Q (.ref t) s) (h2:ws≠[]->Q (.ref s.heap.objs.size) { s with heap:=s.heap.push { cls:=.type "tuple",data:=.seq (vs++ws).toArray } })
  (hsz:vs.length+ws.length<=sizeLine):wpAny (model prog w) A (binaryOp .Add (.ref t) (.ref b)) Q E s:=by
 obtain⟨⟨cls,dd,data,sl⟩,ho,hc,n,hd⟩:=id ht;obtain⟨⟨cls2,dd2,data2,sl2⟩,ho2,hc2,n2,hd2⟩:=id hb;simp only at hc hd hc2 hd2;subst hc hd hc2 hd2;have e:vs.toArray++ws.toArray=(vs++ws).toArray:=by simp
 by_cases hw:ws=[]
 ·exact d4H ⟨_,ho,rfl⟩ ⟨_,ho2,rfl⟩ d2X d4a PySem.F.slot_tuple_add PySem.F.entry_tuple_add (PySem.F.args_tuple_add_2 _ _)
   (tuple_addW1 t b vs.toArray ws.toArray n n2 dd dd2 sl sl2 (by simpa using hv) (by simp[hw])) ⟨ho,ho2,h1 hw⟩
 ·refine d4H ⟨_,ho,rfl⟩ ⟨_,ho2,rfl⟩ d2X d4a PySem.F.slot_tuple_add PySem.F.entry_tuple_add (PySem.F.args_tuple_add_2 _ _)
   (tuple_addW2 t b vs.toArray ws.toArray n n2 dd dd2 sl sl2 (by simpa using hv) (by simpa using hw) (by rw[c8j,c8j];exact hsz)) ⟨ho,ho2,?_⟩
  rw[e];exact h2 hw
noncomputable def sIx(n d:Nat):Option Int->Nat
 |none=>d
 |some v=>if v<0 then (v+(n:Int)).toNat else min v.toNat n
theorem sIx_none(n d:Nat):sIx n d none=d:=rfl
theorem sIx_nat(n d k:Nat):sIx n d (some (k:Int))=min k n:=by
 show(if (k:Int)<0 then ((k:Int)+(n:Int)).toNat else min (k:Int).toNat n)=min k n
 rw[if_neg (by lia),d0a]
theorem c5I(n d:Nat)(hd:d<=n)(o:Option Int):sIx n d o<=n:=by
 cases o with
 |none=>exact hd
 | some v =>
   show(if v<0 then (v+(n:Int)).toNat else min v.toNat n)<=n
   by_cases hv:v<0
   ·rw[if_pos hv];lia
   ·rw[if_neg hv];exact d4Q _ _
theorem c0E(v:Int)(n d:Nat):(if v<0 then max (v+(n:Int)) 0 else min v (n:Int))=((sIx n d (some v):Nat):Int):=by
 show(if v<0 then max (v+(n:Int)) 0 else min v (n:Int))=(((if v<0 then (v+(n:Int)).toNat else min v.toNat n):Nat):Int)
 by_cases hv:v<0
 ·simp only[if_pos hv];lia
 ·simp only[if_neg hv];lia
theorem b7R(lo hi:Option Int)(n:Nat):d1j lo hi 1 (n:Int)=(((sIx n 0 lo:Nat):Int),((sIx n n hi:Nat):Int)):=by
 have h1:¬((1:Int)<0):=by lia
 unfold d1j;simp only[h1,if_false];refine d6m ?_ ?_
 ·cases lo with
  |none=>rfl
  |some v=>exact c0E v n 0
 ·cases hi with
  |none=>rfl
  |some v=>exact c0E v n n
theorem b7a(i j:Nat):d0y (i:Int) (j:Int) 1=j-i:=by
 unfold d0y;have h1:(1:Int)>0:=by lia
 simp only[h1,if_true,Int.ediv_one];split<;>lia
theorem b0r{v:c8t}{o:Option Int}{Q:Option Int->c8u->Prop}(p:d4b v o)(h:Q o s):wpAny (model prog w) A (Builtin.Slice.slicePartIndex v) Q E s:=by
 cases p with
 |none=>exact slicePart_none h
 |int i t=>exact slicePart_int h
theorem a4E{sl:Addr}{vl vu:c8t}{lo hi:Option Int}{n:Nat}{Q:Int×Int×Nat->c8u->Prop}(hs:s.heap.IsSliceOf sl vl vu .none)(pl:d4b vl lo)(pu:d4b vu hi)
  (h:Q (((sIx n 0 lo:Nat):Int),1,sIx n n hi-sIx n 0 lo) s):wpAny (model prog w) A (d2f (.ref sl) (pure (n:Int))) Q E s:=by
 obtain⟨os,hos,hcs,hds⟩:=id hs;unfold d2f Builtin.Slice.sliceFields;refine c8f (c8f (d1p hos hds (x:=vl) rfl (c8f (d1p hos hds (x:=vu) rfl (c8f (d1p hos hds (x:=.none) rfl (c8x ?_)))))));refine c8f (slicePart_none ?_)
 show wpAny _ _ (if ((1:Int)==0)=true then _ else _) _ _ s
 rw[if_neg (by decide)];refine c8f (b0r pl (c8f (b0r pu (c8f (c8x ?_)))))
 show wpAny _ _ (match d1j lo hi 1 (n:Int) with|(lo,hi)=>pure (lo,(1:Int),d0y lo hi 1)) _ _ s
 rw[b7R lo hi n];show wpAny _ _ (pure (((sIx n 0 lo:Nat):Int),(1:Int),d0y ((sIx n 0 lo:Nat):Int) ((sIx n n hi:Nat):Int) 1)) _ _ s;rw[b7a];exact c8x h
theorem c1B(xs:Array c8t)(i k:Nat):((c8I k).filterMap fun(m:Nat)=>xs[((i:Int)+(m:Int)*1).toNat]?).toArray=((xs.toList.drop i).take k).toArray:=by
 have e:(fun(m:Nat)=>xs[((i:Int)+(m:Int)*1).toNat]?)=fun m=>xs[i+m]?:=by
  funext m
  have:((i:Int)+(m:Int)*1).toNat=i+m:=by lia
  rw[this]
 rw[e];have:=pick_run xs i k;rw[List.filterMap_map] at this;have e2:((fun x=>xs[x]?)∘fun x=>i+x)=fun m=>xs[i+m]?:=rfl;rw[e2] at this;rw[this]
theorem getItem_tuple_cut{t sl:Addr}{items:Array c8t}{vl vu:c8t}{lo hi:Option Int}{Q:VPR}(ht:d5O s.heap t items)(hs:s.heap.IsSliceOf sl vl vu .none)(pl:d4b vl lo)(pu:d4b vu hi)
  (hw:¬(sIx items.size 0 lo=0/\sIx items.size items.size hi=items.size))
  (h:Q (.ref s.heap.objs.size) { s with heap:=s.heap.push { cls:=.type "tuple",data:=.seq ((items.toList.drop (sIx items.size 0 lo)).take (sIx items.size items.size hi-sIx items.size 0 lo)).toArray } })
  (hsz:items.size<=sizeLine):wpAny (model prog w) A (getItem (.ref t) (.ref sl)) Q E s:=by
 have htake:sizeOk (.seq ((items.toList.drop (sIx items.size 0 lo)).take (sIx items.size items.size hi-sIx items.size 0 lo)).toArray):=by
  show((items.toList.drop (sIx items.size 0 lo)).take (sIx items.size items.size hi-sIx items.size 0 lo)).toArray.size<=sizeLine;rw[c8j,c9b,c9s,c8K];lia
 have hj:sIx items.size items.size hi<=items.size:=c5I _ _ (c8d _) hi;obtain⟨os,hos,hcs,hds⟩:=id hs;have hTs:s.TypeIs (.ref sl) "slice":=⟨os,hos,hcs⟩;unfold getItem
 try with_reducible refine d0t ?_
 first|refine c8f (c8x ?_)|skip
 refine c8f (d4t ht.typeIs (by decide) ?_)
 refine c8f (d0J (name:=c8c "__getitem__") ht.typeIs c9a
  (d0s c9a ht.typeIs d3N ?_ (d4c _ _)))
 show wpAny _ _ (d2g (.ref t) >>= _) _ _ s;refine c8f (tupleItemsOf_ ht ?_);refine c8f (d1I hTs ?_);rw[if_pos (by decide)];refine c8f (a4E hs pl pu ?_)
 have hno:¬((((sIx items.size 0 lo:Nat):Int)==0&&(1:Int)==1&&(sIx items.size items.size hi-sIx items.size 0 lo)==items.size)=true):=by
  intro q;rw[c8S,c8S] at q;have q1:((sIx items.size 0 lo:Nat):Int)=0:=eq_of_beq q.1.1;have q2:sIx items.size items.size hi-sIx items.size 0 lo=items.size:=eq_of_beq q.2;exact hw ⟨by lia,by lia⟩
 show wpAny _ _ (if (((sIx items.size 0 lo:Nat):Int)==0&&(1:Int)==1&&(sIx items.size items.size hi-sIx items.size 0 lo)==items.size)=true then _ else _) _ _ s
 rw[if_neg hno,c1B]
 first
  |exact c8f (m:=c9R _) (c9C (c8x ⟨_,rfl,c8x h⟩) htake)
  |exact c8f (m:=c9R _) (c9C (c8f (c8x (c8x ⟨_,rfl,c8x h⟩))) htake)
  |exact c8f (c8f (m:=c9R _) (c9C (c8x (c8x ⟨_,rfl,c8x h⟩)) htake))
  |exact c8f (c8f (m:=c9R _) (c9C (c8x ⟨_,rfl,c8x h⟩) htake))
end
end HT
namespace L2
open PySem PySem.Spec PyProof.Rows
noncomputable abbrev TO:=St->Hp->(Option Int->Hp->Prop)->Prop
noncomputable def PO(X:Cx)(e:Option Expr)(t:TO):Prop :=
 ∀ pins s σ H (Q:Option Int->Hp->Prop),Inv X pins σ H s->t σ H Q ->
   wpAny (model X.prog X.w) X.A (evalPart e X.env) (fun u s'=>∃o H',Inv X pins σ H' s'/\d4b u o/\Q o H') X.xe s
noncomputable def c3w:TO:=fun _ H Q=>Q none H
noncomputable def c7k(t:TE):TO:=fun σ H Q=>t σ H fun x H1=>∃i,x=.int i/\Q (some i) H1
theorem b7y{ns:LSI}:∀{us:LSV},Vals (ns.map V.int) us->d3O us ns:=by
 induction ns with
 |nil=>intro us r;rw[c9g] at r;cases r;exact .nil
 | cons n ns ih =>
   intro us r;rw[c8g] at r;cases r with
   | cons r1 r2 =>
     obtain⟨t,e⟩:=r1;subst e;exact .cons n t (ih r2)
section
variable{X:Cx}{e:Expr}{te:TE}{lo hi:Option Expr}{tl th:TO}{pos p2:Pos}
theorem c4c:PO X none c3w:=by
 intro pins s σ H Q I h;rw[evalPart_none];exact c8x ⟨none,H,I,.none,h⟩
theorem c4b(h:PE X e te):PO X (some e) (c7k te):=by
 intro pins s σ H Q I hw;rw[evalPart_some];refine thn (h pins s σ H _ I hw) fun u s1 ⟨x,H1,I1,r1,q1⟩=>?_;obtain⟨i,rfl,q⟩:=q1;obtain⟨t,rfl⟩:=r1;exact⟨some i,H1,I1,.int i t,q⟩
noncomputable def SlR(X:Cx)(r:V->Option Int->Option Int->Hp->VK->Prop):Prop :=
 ∀ pins s σ H (x:V) (v vl vu:c8t) (lo hi:Option Int) (sl:Addr) (Q:VK),Inv X pins σ H s->RelV x v->s.heap.IsSliceOf sl vl vu .none->d4b vl lo->d4b vu hi->r x lo hi H Q ->
   ∃T id,typeLookup (.type T) "__getitem__"=pure (some (.builtin id))/\s.TypeIs v T/\wpAny (model X.prog X.w) X.A (getItem v (.ref sl)) (EP X pins σ Q) X.xe s
theorem SlR.or{r r':V->Option Int->Option Int->Hp->VK->Prop}(h:SlR X r)(h':SlR X r'):SlR X (fun x lo hi H Q=>r x lo hi H Q\/r' x lo hi H Q):=by
 intro pins s σ H x v vl vu lo hi sl Q I rx hs pl pu q;rcases q with q|q
 ·exact h pins s σ H x v vl vu lo hi sl Q I rx hs pl pu q
 ·exact h' pins s σ H x v vl vu lo hi sl Q I rx hs pl pu q
noncomputable def tSl(r:V->Option Int->Option Int->Hp->VK->Prop)(te:TE)(tl th:TO):TE:=fun σ H Q=>te σ H fun x H1=>tl σ H1 fun l H2=>th σ H2 fun u H3=>r x l u H3 Q
theorem c1D{r:V->Option Int->Option Int->Hp->VK->Prop}(hr:SlR X r)(he:PE X e te)(hl:PO X lo tl)(hu:PO X hi th):PE X (.Subscript e (.Slice lo hi none p2) pos) (tSl r te tl th):=by
 intro pins s σ H Q I h;refine d5E (thn (he pins s σ H _ I h) fun v s1 ⟨x,H1,I1,r1,q1⟩=>?_);refine wpAny_Slice (thn (hl pins s1 σ H1 _ I1 q1) fun vl s2 ⟨l,H2,I2,pl,q2⟩=>thn (hu pins s2 σ H2 _ I2 q2) fun vu s3 ⟨u,H3,I3,pu,q3⟩=>?_);rw[evalPart_none];refine c8x ?_;have I4:Inv X pins σ H3 { s3 with heap:=s3.heap.push { cls:=.type "slice",data:=.fields #[vl,vu,.none] } }:=I3.kept (t':=s3.toks) fun b ob q=>c8h _ q;obtain⟨T,id,hT,ht,hg⟩:=hr pins { s3 with heap:=s3.heap.push { cls:=.type "slice",data:=.fields #[vl,vu,.none] } } σ H3 x v vl vu l u s3.heap.objs.size Q I4 r1 (Heap.IsSliceOf.new ..) pl pu q3;show wpAny (model X.prog X.w) X.A (subscriptTail e (.Slice lo hi none p2) v (.ref s3.heap.objs.size)) (EP X pins σ Q) X.xe { s3 with heap:=s3.heap.push { cls:=.type "slice",data:=.fields #[vl,vu,.none] } };exact tail_any (ops:=[.ref s3.heap.objs.size,v]) ht hT hg (by with_unfolding_all rfl)
noncomputable def cutV(xs:List V)(lo hi:Option Int):List V:=(xs.drop (HT.sIx xs.length 0 lo)).take (HT.sIx xs.length xs.length hi-HT.sIx xs.length 0 lo)
theorem a9E(xs:List V)(lo hi:Option Int):(cutV xs lo hi).length<=xs.length:=by
 unfold cutV;rw[c9b,c9s];lia
noncomputable def rSlT(K:PySem.W.Frag):V->Option Int->Option Int->Hp->VK->Prop:=fun x lo hi H Q=>∃a xs,x=.ref a/\SqT K H a xs /\
 ¬(HT.sIx xs.length 0 lo=0/\HT.sIx xs.length xs.length hi=xs.length)/\∀p,H p=none->Q (.ref p) (upd H p (.tup (cutV xs lo hi)))
theorem c5D:SlR X (rSlT X.K):=by
 intro pins s σ H x v vl vu lo hi sl Q I rx hs pl pu h;obtain⟨a,xs,rfl,hx,hw,q⟩:=h;cases rx;obtain⟨its,r,ht,hz⟩:=I.tuple hx;have hlen:its.toArray.size=xs.length:=by rw[c8j];exact r.length.symm
 refine⟨"tuple",_,c9a.lookup,ht.typeIs,?_⟩;refine HT.getItem_tuple_cut ht hs pl pu (by rw[hlen];exact hw) ?_ (by rw[hlen];exact hz);rw[hlen];refine⟨.ref s.heap.objs.size,_,I.laid (t':=s.toks) (o:=.tup (cutV xs lo hi)) (fun b ob q=>c8h _ q) (c8d _) ?_,rfl,q _ (I.hok.fresh (c8d _))⟩;exact⟨c8C (a9E xs lo hi) hz,_,(r.drop (HT.sIx xs.length 0 lo)).take (HT.sIx xs.length xs.length hi-HT.sIx xs.length 0 lo),a3m.new _ _⟩
noncomputable def c7y(K:PySem.W.Frag):R2:=fun x y H Q=>∃a b xs ys,x=.ref a/\y=.ref b/\SqT K H a xs/\SqT K H b ys/\xs≠[]/\xs.length+ys.length<=sizeLine /\
 (ys=[]->Q (.ref a) H)/\(ys≠[]->∀p,H p=none->Q (.ref p) (upd H p (.tup (xs++ys))))
theorem Vals.nil_iff{xs:List V}{us:LSV}(r:Vals xs us):us=[]<->xs=[]:=by
 cases r with
 |nil=>simp
 |cons _ _=>simp
theorem c4n:OpR X (binaryOp .Add) (c7y X.K):=by
 intro pins s σ H x y v u Q I rx ry h;obtain⟨a,b,xs,ys,rfl,rfl,ha,hb,hx,hz,q1,q2⟩:=h;cases rx;cases ry;obtain⟨its,r1,p1,_⟩:=I.tuple ha;obtain⟨its2,r2,p2,_⟩:=I.tuple hb;refine HT.cat_tup p1 p2 (fun z=>hx (r1.nil_iff.mp z)) (fun z=>⟨.ref a,H,I,rfl,q1 (r2.nil_iff.mp z)⟩) (fun z=>?_) (by rw[<- r1.length,<- r2.length];exact hz);refine⟨.ref s.heap.objs.size,_,I.laid (t':=s.toks) (o:=.tup (xs++ys)) (fun b ob q=>c8h _ q) (c8d _) ?_,rfl,q2 (fun w=>z (r2.nil_iff.mpr w)) _ (I.hok.fresh (c8d _))⟩;exact⟨by rw[c8p];exact hz,_,r1.append r2,a3m.new _ _⟩
end
noncomputable def ixN(n:Nat)(i:Int):Option Nat:=if 0<=i then (if i<n then some i.toNat else none) else if -(n:Int)<=i then some (i+n).toNat else none
noncomputable def atI{α:Type}(xs:List α)(i:Int):Option α:=(ixN xs.length i).bind fun j=>xs[j]?
theorem b9B{n:Nat}{i:Int}{j:Nat}(h:ixN n i=some j):seqIndex? i n=some j/\j<n/\-(n:Int)<=i/\i<n:=by
 unfold ixN at h;by_cases h0:0<=i
 ·rw[if_pos h0] at h;by_cases h1:i<n
  ·rw[if_pos h1] at h;have e:i.toNat=j:=c8z h;exact⟨by rw[d3P h0 h1,e],by lia,by lia,h1⟩
  ·rw[if_neg h1] at h;cases h
 ·rw[if_neg h0] at h;by_cases h1:-(n:Int)<=i
  ·rw[if_pos h1] at h;have e:(i+n).toNat=j:=c8z h;exact⟨by rw[d4I (by lia) h1,e],by lia,h1,by lia⟩
  ·rw[if_neg h1] at h;cases h
theorem b5t{α:Type}{xs:List α}{i:Int}{v:α}(h:atI xs i=some v):∃j,seqIndex? i xs.length=some j/\xs[j]?=some v/\j<xs.length/\-(xs.length:Int)<=i/\i<xs.length:=by
 unfold atI at h;cases e:ixN xs.length i with
 |none=>rw[e] at h;cases h
 | some j =>
   rw[e] at h;obtain⟨h1,h2,h3,h4⟩:=b9B e;exact⟨j,h1,h,h2,h3,h4⟩
theorem a3L{α:Type}{xs:List α}{j:Nat}{v:α}(h:xs[j]?=some v):atI xs (j:Int)=some v:=by
 have hj:j<xs.length:=(c8k.mp h).1
 have e:ixN xs.length (j:Int)=some j:=by
  unfold ixN;rw[if_pos (by lia),if_pos (by lia)];simp
 unfold atI;rw[e];exact h
theorem a5J{α:Type}(xs:List α)(v:α):atI (xs++[v]) (-1)=some v:=by
 have hl:(xs++[v]).length=xs.length+1:=by simp
 have e:ixN (xs++[v]).length (-1)=some xs.length:=by
  unfold ixN;rw[hl,if_neg (by decide),if_pos (by lia)];congr 1;lia
 unfold atI;rw[e];show(xs++[v])[xs.length]?=some v;simp
noncomputable def c0L(b:Expr):Prop:=∀o i,subscripted b false o i=operate [o,i] (getItem o i)
noncomputable def IxR(X:Cx)(r:R2):Prop :=
 ∀ (value slice:Expr) (pins:PNS) (s:c8u) (σ:St) (H:Hp) (x y:V) (v u:c8t) (Q:VK),Inv X pins σ H s->RelV x v->RelV y u->r x y H Q ->
   subscripted slice false v u=operate [v,u] (getItem v u)->wpAny (model X.prog X.w) X.A (subscriptTail value slice v u) (EP X pins σ Q) X.xe s
noncomputable def MtR(X:Cx)(id:String)(r:V->List V->Hp->VK->Prop):Prop :=
 ∀ pins s σ H (x:V) (xs:List V) (v:c8t) (us:LSV) (Q:VK),Inv X pins σ H s->RelV x v->Vals xs us->r x xs H Q ->
   wpAny (model X.prog X.w) X.A (call (.builtin id) (v::us)) (EP X pins σ Q) X.xe s
section
variable{X:Cx}{a b:Expr}{ta tb:TE}{pos:Pos}
theorem c7C{r:R2}(hr:IxR X r)(ha:PE X a ta)(hb:PE X b tb)(hs:c0L b):PE X (.Subscript a b pos) (tOp r ta tb):=by
 intro pins s σ H Q I h;exact d5E (binT ha hb I h fun v u s2 x y H2 I2 rx ry q=>hr a b pins s2 σ H2 x y v u Q I2 rx ry q (hs _ _))
noncomputable def rIxL(K:PySem.W.Frag):R2:=fun x y H Q=>∃p xs i v,x=.ref p/\y=.int i/\SqL K H p xs/\atI xs i=some v/\Q v H
noncomputable def rIxT(K:PySem.W.Frag):R2:=fun x y H Q=>∃p xs i v,x=.ref p/\y=.int i/\SqT K H p xs/\atI xs i=some v/\Q v H
noncomputable def rIxS:R2:=fun x y H Q=>∃z i c,x=.str z/\y=.int i/\z.length<=sizeLine/\atI z.cps.toList i=some c/\Q (.str ⟨#[c]⟩) H
theorem b9A:IxR X (rIxL X.K):=by
 intro value slice pins s σ H x y v u Q I rx ry h hs;obtain⟨p,xs,i,z,rfl,rfl,hq,he,q⟩:=h;cases rx;obtain⟨t,rfl⟩:=ry;obtain⟨its,r,pl,hz⟩:=I.list hq;obtain⟨j,h1,h2,h3,h4,h5⟩:=b5t he;obtain⟨w,ew,rw'⟩:=r.get h2;have hl:=r.length;have hn:=a6U;have fin:EP X pins σ Q w s:=⟨z,H,I,rw',q⟩;by_cases h0:0<=i
 ·have hj:i.toNat=j:=by
   rw[d3P h0 h5] at h1;exact c8z h1
  exact item_listR pl.isList h0 (by lia) (by rw[hj];simpa using ew) fin hs
 ·have hj:(i+(its.toArray.size:Int)).toNat=j:=by
   rw[d4I (by lia) h4] at h1;rw[c8j,<- hl];exact c8z h1
  exact d3d (x:=w) pl.isList.typeIs d4u.lookup
   (wpAny_getItem_list_neg (Q:=fun r s'=>r=w/\EP X pins σ Q r s') pl.isList (by lia) (by rw[c8j]<;>lia) (by lia) (by rw[hj];simpa using ew) ⟨rfl,fin⟩) hs
theorem c6I:IxR X (rIxT X.K):=by
 intro value slice pins s σ H x y v u Q I rx ry h hs;obtain⟨p,xs,i,z,rfl,rfl,hq,he,q⟩:=h;cases rx;obtain⟨t,rfl⟩:=ry;obtain⟨its,r,pl,hz⟩:=I.tuple hq;obtain⟨j,h1,h2,h3,h4,h5⟩:=b5t he;obtain⟨w,ew,rw'⟩:=r.get h2;have hl:=r.length;have hn:=a6U;have fin:EP X pins σ Q w s:=⟨z,H,I,rw',q⟩;exact d3d (x:=w) pl.typeIs c9a.lookup
  (getItem_tuple (j:=j) (Q:=fun r s'=>r=w/\EP X pins σ Q r s') pl (by lia) (by lia) (by rw[c8j,<- hl];exact h1) (by simpa using ew) ⟨rfl,fin⟩) hs
theorem c6J:IxR X rIxS:=by
 intro value slice pins s σ H x y v u Q I rx ry h hs;obtain⟨z,i,c,rfl,rfl,hz,he,q⟩:=h;obtain⟨t,rfl⟩:=rx;obtain⟨t',rfl⟩:=ry;obtain⟨j,h1,h2,h3,h4,h5⟩:=b5t he;have hl:z.cps.toList.length=z.length:=by simp[Str.length]
 rw[hl] at h1 h4 h5;have hn:=a6U
 exact tail_any (d1U s z t) slot_str_getitem.lookup (getItem_str (c:=c) (by
  have e1:decide (i < -(2^63:Int))=false:=decide_eq_false (by lia);have e2:decide (i >= 2^63)=false:=decide_eq_false (by lia)
  rw[e1,e2,d5J]) (by rw[h1];simpa using h2) ⟨.str ⟨#[c]⟩,H,I.tok _,⟨_,rfl⟩,q⟩) hs
theorem b7t(its:LSV)(n j:Nat)(u:c8t):d2B (·.setIfInBounds j u) { cls:=.type "list",data:=.seq its.toArray n }={ cls:=.type "list",data:=.seq (its.set j u).toArray n }:=by
 simp[d2B]
theorem Inv.lst{pins:PNS}{σ:St}{H:Hp}{s:c8u}{p:Addr}{xs:List V}(I:Inv X pins σ H s)(h:H p=some (.lst xs)) :
  ∃(its:LSV) (n:Nat),Vals xs its/\s.heap.get? p=some { cls:=.type "list",data:=.seq its.toArray n }/\xs.length<=sizeLine:=by
 obtain⟨z,its,n,r,e⟩:=I.hok p _ h;exact⟨its,n,r,e,z⟩
theorem Inv.lstUpd{pins:PNS}{σ:St}{H:Hp}{s:c8u}{p:Addr}{xs ys:List V}{its its':LSV}{n n':Nat}{f:Obj->Obj}(I:Inv X pins σ H s)(h:H p=some (.lst xs))
  (ho:s.heap.get? p=some { cls:=.type "list",data:=.seq its.toArray n }) (hf:f { cls:=.type "list",data:=.seq its.toArray n }={ cls:=.type "list",data:=.seq its'.toArray n' }) (r:Vals ys its') (hz:ys.length<=sizeLine) (t:Nat) :
  Inv X pins σ (upd H p (.lst ys)) { s with heap:=s.heap.update p f,toks:=t }:=by
 have e:(s.heap.update p f).get? p=some { cls:=.type "list",data:=.seq its'.toArray n' }:=by
  rw[d3k f ho (by rw[hf]<;>rfl),hf]
 refine I.write (x:=p) (e:=p) (by rw[h];trivial) (.inl rfl) (fun b u hb q=>(d3e _ _ (d1u hb)).trans q) ⟨_,e⟩ ?_;exact⟨hz,its',n',r,e⟩
noncomputable def c7w:V->V->V->Hp->(Hp->Prop)->Prop:=fun o i v H Q=>∃p xs k j,o=.ref p/\i=.int k/\H p=some (.lst xs)/\ixN xs.length k=some j/\Q (upd H p (.lst (xs.set j v)))
theorem c1f:PSet X c7w:=by
 intro pins s σ H o i v ov iv u Q I ro ri rv h;obtain⟨p,xs,k,j,rfl,rfl,hp,hj,q⟩:=h;cases ro;obtain⟨t,rfl⟩:=ri;obtain⟨its,n,r,ho,hz⟩:=I.lst hp;obtain⟨h1,h2,h3,h4⟩:=b9B hj;have hl:=r.length;have hn:=a6U
 have I':Inv X pins σ (upd H p (.lst (xs.set j v))) { s with heap:=s.heap.update p (d2B (·.setIfInBounds j u)) } :=
  I.lstUpd hp ho (b7t its n j u) (r.set rv j) (by rw[c9K];exact hz) s.toks
 by_cases h0:0<=k
 ·have hk:k.toNat=j:=by
   rw[d3P h0 h4] at h1;exact c8z h1
  exact PySem.W.ki_setAt ho h0 (by lia) (by rw[c8j,<- hl];exact h4) (by rw[hk];exact⟨_,I',q⟩)
 ·have hk:(k+(its.toArray.size:Int)).toNat=j:=by
   rw[d4I (by lia) h3] at h1;rw[c8j,<- hl];exact c8z h1
  exact PySem.W.ki_setBack ho (by lia) (by rw[c8j,<- hl];exact h3) (by lia) (by rw[hk];exact⟨_,I',q⟩)
theorem b2N(lo hi:Option Int)(n:Nat):(sliceBounds lo hi none n).1=((HT.sIx n 0 lo:Nat):Int)/\(sliceBounds lo hi none n).2.1=((HT.sIx n n hi:Nat):Int)/\(sliceBounds lo hi none n).2.2=1:=by
 refine⟨?_,?_,rfl⟩
 ·cases lo with
  |none=>simp[sliceBounds,HT.sIx]
  | some i =>
    simp only[sliceBounds,HT.sIx,d4R,show(1:Int)>0 by decide,if_true];by_cases h:i<0
    ·simp only[h,if_true]<;>lia
    ·simp only[h,if_false]<;>lia
 ·cases hi with
  |none=>simp[sliceBounds,HT.sIx]
  | some i =>
    simp only[sliceBounds,HT.sIx,d4R,show(1:Int)>0 by decide,if_true];by_cases h:i<0
    ·simp only[h,if_true]<;>lia
    ·simp only[h,if_false]<;>lia
theorem b1j(its:LSV)(lo hi:Option Int):slicePick its.toArray lo hi none=((its.drop (HT.sIx its.length 0 lo)).take (HT.sIx its.length its.length hi-HT.sIx its.length 0 lo)).toArray:=by
 obtain⟨h1,h2,h3⟩:=b2N lo hi its.toArray.size;unfold slicePick;rw[h1,h2,h3];simp only[sliceRange_one,pick_run,c8j]<;>rfl
noncomputable def rSlL(K:PySem.W.Frag):V->Option Int->Option Int->Hp->VK->Prop:=fun x lo hi H Q=>∃a xs,x=.ref a/\SqL K H a xs/\∀p,H p=none->Q (.ref p) (upd H p (.lst (cutV xs lo hi)))
theorem c3C:SlR X (rSlL X.K):=by
 intro pins s σ H x v vl vu lo hi sl Q I rx hs pl pu h;obtain⟨a,xs,rfl,hx,q⟩:=h;cases rx;obtain⟨its,r,ht,hz⟩:=I.list hx;have hlen:=r.length;refine⟨"list",_,d4u.lookup,ht.isList.typeIs,?_⟩;refine wpAny_getItem_list_slice ht.isList hs pl pu .none (by simp) ?_ (by rw[c8j]<;>lia);rw[b1j,<- hlen];refine⟨.ref s.heap.objs.size,_,I.laid (t':=s.toks) (o:=.lst (cutV xs lo hi)) (fun b ob q=>c8h _ q) (c8d _) ?_,rfl,q _ (I.hok.fresh (c8d _))⟩;exact⟨c8C (a9E xs lo hi) hz,_,0,(r.drop (HT.sIx xs.length 0 lo)).take (HT.sIx xs.length xs.length hi-HT.sIx xs.length 0 lo),c8E _ rfl⟩
noncomputable def b0c:V->Bool
 |.non=>true
 |.bl _=>true
 |.int _=>true
 |.str _=>true
 |_=>false
noncomputable def eqV:V->V->Bool
 |.non,.non=>true
 |.bl a,.bl b=>a==b
 |.bl a,.int b=>(if a then 1 else 0)==b
 |.int a,.bl b=>a==(if b then 1 else 0)
 |.int a,.int b=>a==b
 |.str a,.str b=>a==b
 |_,_=>false
theorem c6Y{A:c8Z}{s:c8u}{y x:V}{u v:c8t}(ry:RelV y u)(rx:RelV x v)(fy:b0c y=true)(fx:b0c x=true):d1b A s u v (eqV y x):=by
 cases y with
 | non =>
   cases ry;cases x with
   |non=>cases rx;exact SeqAt.EqAt.same _
   |bl b=>cases rx;exact SeqAt.EqAt.none_bool b
   |int b=>obtain⟨t,rfl⟩:=rx;exact SeqAt.EqAt.none_int b t
   |str b=>obtain⟨t,rfl⟩:=rx;exact SeqAt.EqAt.none_str b t
   |_=>exact absurd (show false=true from fx) c8F
 | bl a =>
   cases ry;cases x with
   |non=>cases rx;exact SeqAt.EqAt.bool_none a
   |bl b=>cases rx;exact SeqAt.EqAt.bool_bool a b
   |int b=>obtain⟨t,rfl⟩:=rx;exact SeqAt.EqAt.bool_int a b t
   |str b=>obtain⟨t,rfl⟩:=rx;exact SeqAt.EqAt.bool_str a b t
   |_=>exact absurd (show false=true from fx) c8F
 | int a =>
   obtain⟨t',rfl⟩:=ry;cases x with
   |non=>cases rx;exact SeqAt.EqAt.int_none a t'
   |bl b=>cases rx;exact SeqAt.EqAt.int_bool a t' b
   |int b=>obtain⟨t,rfl⟩:=rx;exact d2j a t' b t
   |str b=>obtain⟨t,rfl⟩:=rx;exact d3W a t' b t
   |_=>exact absurd (show false=true from fx) c8F
 | str a =>
   obtain⟨t',rfl⟩:=ry;cases x with
   |non=>cases rx;exact SeqAt.EqAt.str_none a t'
   |bl b=>cases rx;exact SeqAt.EqAt.str_bool a t' b
   |int b=>obtain⟨t,rfl⟩:=rx;exact d3X a t' b t
   |str b=>obtain⟨t,rfl⟩:=rx;exact SeqAt.EqAt.str_str a t' b t
   |_=>exact absurd (show false=true from fx) c8F
 |_=>exact absurd (show false=true from fy) c8F
noncomputable def eqU(x:V)(u:c8t):Bool:=match u with
 |.none=>eqV .non x
 |.bool b=>eqV (.bl b) x
 |.int i _=>eqV (.int i) x
 |.str z _=>eqV (.str z) x
 |_=>false
theorem c3h{x y:V}{u:c8t}(r:RelV y u)(f:b0c y=true):eqU x u=eqV y x:=by
 cases y with
 |non=>cases r;rfl
 |bl b=>cases r;rfl
 |int i=>obtain⟨t,rfl⟩:=r;rfl
 |str z=>obtain⟨t,rfl⟩:=r;rfl
 |_=>exact absurd (show false=true from f) c8F
theorem b5u{x:V}:∀{xs:List V} {us:LSV},Vals xs us->xs.all b0c=true->us.any (eqU x)=xs.any fun y=>eqV y x
 |_,_,.nil,_=>rfl
 | y::xs,u::us,.cons r t,f=>by
   rw[d1c,c8S] at f;rw[d0d,d0d,c3h r f.1,b5u t f.2]
theorem b1T{A:c8Z}{s:c8u}{x:V}{v:c8t}(rx:RelV x v)(fx:b0c x=true):∀{xs:List V} {us:LSV},Vals xs us->xs.all b0c=true->∀u∈us,d1b A s u v (eqU x u)
 |_,_,.nil,_=>fun u hu=>by cases hu
 | y::xs,u::us,.cons r t,f=>fun u' hu=>by
   rw[d1c,c8S] at f;rcases c8n.mp hu with rfl|hu
   ·rw[c3h r f.1];exact c6Y r rx f.1 fx
   ·exact b1T rx fx t f.2 u' hu
noncomputable def inV(x:V)(xs:List V):Bool:=xs.any fun y=>eqV y x
noncomputable def rIn(K:PySem.W.Frag)(neg:Bool):R2:=fun x y H Q=>∃p xs,y=.ref p/\(SqL K H p xs\/SqT K H p xs)/\b0c x=true/\xs.all b0c=true/\Q (.bl (if neg then !inV x xs else inV x xs)) H
theorem b9c:OpR X (compareOp .In) (rIn X.K false):=by
 intro pins s σ H x y v u Q I rx ry h;obtain⟨p,xs,rfl,hq,fx,fs,q⟩:=h;cases ry;rcases hq with hq|hq
 ·obtain⟨its,r,pl,hz⟩:=I.list hq;refine SeqAt.in_listAt (eqU x) pl.isList (fun w hw=>b1T rx fx r fs w (by simpa using hw)) ⟨.bl _,H,I,rfl,?_⟩;rw[show its.toArray.any (eqU x)=its.any (eqU x) by simp,b5u r fs];exact q
 ·obtain⟨its,r,pl,hz⟩:=I.tuple hq;refine SeqAt.in_tupleAt (eqU x) pl (fun w hw=>b1T rx fx r fs w (by simpa using hw)) ⟨.bl _,H,I,rfl,?_⟩;rw[show its.toArray.any (eqU x)=its.any (eqU x) by simp,b5u r fs];exact q
theorem a5y:b0i X (.builtin "len") (fun xs H Q=>∃p ys,xs=[.ref p]/\(SqL X.K H p ys\/SqT X.K H p ys)/\Q (.int ys.length) H):=by
 intro pins s σ H xs us Q I r h;obtain⟨p,ys,rfl,hq,q⟩:=h;obtain⟨u,rfl,rx⟩:=a3o r;cases rx;have hn:=a6U;rcases hq with hq|hq
 ·obtain⟨its,r',pl,hz⟩:=I.list hq;have hlen:=r'.length;exact Calls.call_len_list pl.isList (by simp only[c8j]<;>lia) ⟨.int ys.length,H,I.tok _,⟨s.toks+1,by rw[c8j,hlen]⟩,q⟩
 ·obtain⟨its,r',pl,hz⟩:=I.tuple hq;have hlen:=r'.length;exact len_tuple pl (by simp only[c8j]<;>lia) ⟨.int ys.length,H,I.tok _,⟨s.toks+1,by rw[c8j,hlen]⟩,q⟩
theorem b4i:b0i X (.builtin "len") (fun xs H Q=>∃z,xs=[.str z]/\z.length<=sizeLine/\Q (.int z.length) H):=by
 intro pins s σ H xs us Q I r h;obtain⟨z,rfl,hz,q⟩:=h;obtain⟨u,rfl,t,rfl⟩:=a3o r;have hn:=a6U;exact len_str (by lia) ⟨.int z.length,H,I.tok _,⟨_,rfl⟩,q⟩
theorem a4D:b0i X (.type "tuple") (fun xs H Q=>∃p ys,xs=[.ref p]/\((SqL X.K H p ys/\∀l,H l=none->Q (.ref l) (upd H l (.tup ys)))\/(SqT X.K H p ys/\Q (.ref p) H))):=by
 intro pins s σ H xs us Q I r h;obtain⟨p,ys,rfl,h⟩:=h;obtain⟨u,rfl,rx⟩:=a3o r;cases rx;rcases h with ⟨hq,q⟩|⟨hq,q⟩
 ·obtain⟨its,r',pl,hz⟩:=I.list hq;have hlen:=r'.length;refine call_tuple_list pl.isList (fun h' kp=>?_) (by simp only[c8j]<;>lia);have I1:Inv X pins σ H { s with heap:=h' }:=I.kept (t':=s.toks) kp
  have I2:Inv X pins σ (upd H h'.objs.size (.tup ys)) { s with heap:=h'.push { cls:=.type "tuple",data:=.seq its.toArray } } :=
   I1.laid (t':=s.toks) (fun b o e=>c8h _ e) (c8d _) (show a1d X.prog X.w _ _ _ (.tup ys) from ⟨hz,its,r',a3m.new _ _⟩)
  exact⟨.ref h'.objs.size,_,I2,rfl,q _ (I1.hok.fresh (c8d _))⟩
 ·obtain⟨its,r',pl,hz⟩:=I.tuple hq;exact call_tuple_same pl ⟨.ref p,H,I,rfl,q⟩
noncomputable def tyV(K:PySem.W.Frag)(T:String)(x:V)(H:Hp):Prop:=match x with
 |.str _=>T="str"
 |.int _=>T="int"
 | .ref p=>(T="list"/\∃xs,SqL K H p xs)\/(T="tuple"/\∃o,K.lookup p=some o/\o.cls=.type "tuple"/\o.dict=none) \/
   (T="dict"/\((∃kvs,H p=some (.dK kvs))\/∃kvs,H p=some (.dT kvs)))\/(T="set"/\∃S n,H p=some (.set S n))
 |_=>False
theorem b7Y{pins:PNS}{σ:St}{H:Hp}{s:c8u}{T:String}{x:V}{v:c8t}(I:Inv X pins σ H s)(r:RelV x v)(ty:tyV X.K T x H) :
  s.TypeIs v T/\∀a,v=.ref a->∃ob,s.heap.get? a=some ob/\ob.dict=none:=by
 cases x with
 | str z =>
   obtain⟨t,rfl⟩:=r;cases (show T="str" from ty);exact⟨d1U s z t,fun _ e=>nomatch e⟩
 | int i =>
   obtain⟨t,rfl⟩:=r;cases (show T="int" from ty);exact⟨d3x s i t,fun _ e=>nomatch e⟩
 | ref p =>
   cases r;rcases ty with ⟨rfl,xs,hq⟩|⟨rfl,o,hk,hc,hd⟩|⟨rfl,hk⟩|⟨rfl,S,n,hk⟩
   ·obtain⟨its,_,pl,_⟩:=I.list hq;refine⟨pl.isList.typeIs,fun a e=>?_⟩;cases e;obtain⟨o,n,e,c,hd,_⟩:=pl;exact⟨o,e,hd⟩
   ·refine⟨⟨o,I.kIn p o hk,hc⟩,fun a e=>?_⟩;cases e;exact⟨o,I.kIn _ o hk,hd⟩
   ·have z:∃o,s.heap.get? p=some o/\o.ExactDict:=by
     rcases hk with ⟨kvs,hk⟩|⟨kvs,hk⟩
     ·obtain⟨_,_,_,_,o,_,_,e,ex,_⟩:=I.hok p _ hk;exact⟨o,e,ex⟩
     ·obtain⟨_,_,_,_,o,_,_,e,ex,_⟩:=I.hok p _ hk;exact⟨o,e,ex⟩
    obtain⟨o,e,ex⟩:=z;refine⟨⟨o,e,ex.1⟩,fun a e2=>?_⟩;cases e2;exact⟨o,e,ex.2.1⟩
   ·obtain⟨o,_,_,_,e,ex,_⟩:=I.hok p _ hk;refine⟨⟨o,e,ex.1⟩,fun a e2=>?_⟩;cases e2;exact⟨o,e,ex.2.1⟩
 |_=>exact c9k ty
noncomputable def tBM0(K:PySem.W.Frag)(T:String)(r:V->List V->Hp->VK->Prop)(to:TE):TE:=fun σ H Q=>to σ H fun x H1=>tyV K T x H1/\r x [] H1 Q
noncomputable def tBM(K:PySem.W.Frag)(T:String)(r:V->List V->Hp->VK->Prop)(to:TE)(t:TA):TE:=fun σ H Q=>to σ H fun x H1=>tyV K T x H1/\t σ H1 fun xs H2=>r x xs H2 Q
variable{o e:Expr}{es:LSE}{to:TE}{t:TA}{name:Str}{apos cpos:Pos}{T id:String}{r:V->List V->Hp->VK->Prop}
noncomputable abbrev QLL(apos cpos:Pos):Prop:=(apos.endLine==cpos.line)=true
theorem c6h(pa:PlainAttrs T)(slot:Slot T name id)(hty:typeOf (.builtin id)=pure (.type "method_descriptor"))(hm:MtR X id r)(ho:PE X o to)
  (hbase:attributeBase o name X.env (eval o X.env)=eval o X.env:=by rfl) (hline:QLL apos cpos:=by rfl):PE X (.Call (.Attribute o name apos) [] [] cpos) (tBM0 X.K T r to):=by
 intro pins s σ H Q I h;refine wpAny_Call_method0_late hbase hline (thn (ho pins s σ H _ I h) fun v s1 ⟨x,H1,I1,r1,ty,q1⟩=>?_);obtain⟨h1,h2⟩:=b7Y I1 r1 ty;exact⟨T,id,pa,slot,hty,h1,h2,c9H rfl (PySem.evalArgs_none (hm pins s1 σ H1 x [] v [] Q I1 r1 .nil q1))⟩
noncomputable abbrev QFF(X:Cx)(cpos:Pos)(e:Expr)(es:LSE):Prop:=((backTo cpos (starEach (e::es) X.env)).all (fun x=>!x.1)&&(backToKw cpos (keywordEach [] X.env)).all (fun x=>x.1.isSome)
   && decide ((e::es).length+([]:List d1v).length+(if ([]:List d1v).isEmpty then 0 else 1)<30))=true
theorem c6i(pa:PlainAttrs T)(slot:Slot T name id)(hty:typeOf (.builtin id)=pure (.type "method_descriptor"))(hm:MtR X id r)(ho:PE X o to)(ha:PA X (e::es) t)
  (hbase:attributeBase o name X.env (eval o X.env)=eval o X.env:=by rfl)
  (hfew:QFF X cpos e es:=by rfl)
  (hline:QLL apos cpos:=by rfl) (hs:QSS X e es:=by rfl) (hplain:QPP X cpos es:=by rfl) :
  PE X (.Call (.Attribute o name apos) (e::es) [] cpos) (tBM X.K T r to t):=by
 intro pins s σ H Q I h;refine d3f hbase hfew hline rfl (thn (ho pins s σ H _ I h) fun v s1 ⟨x,H1,I1,r1,ty,q1⟩=>?_);obtain⟨h1,h2⟩:=b7Y I1 r1 ty;refine⟨T,id,pa,slot,hty,h1,h2,?_⟩;have hA:=ha cpos pins s1 σ H1 _ I1 q1
 rw[hs] at hA|-
 refine c9H (by show(false||(backTo cpos (starEach es X.env)).any (·.1))=false;rw[hplain]<;>rfl) (c9W ?_)
 exact thn hA fun us s2 ⟨vs,H2,I2,r2,q2⟩=>hm pins s2 σ H2 x vs v us Q I2 r1 r2 q2
end
noncomputable def MtM(X:Cx)(id:String)(r:V->List V->Hp->VK->Prop):Prop :=
 ∀ pins s σ H (x:V) (xs:List V) (v:c8t) (us:LSV) (Q:VK),Inv X pins σ H s->RelV x v->Vals xs us->r x xs H Q ->
   wpAny (model X.prog X.w) X.A (call (.builtin id) (v::us)) (EP X pins σ Q) X.xe s
theorem Vals.one:∀{x:V} {us:LSV},Vals [x] us->∃u,us=[u]/\RelV x u
 |_,_,.cons r .nil=>⟨_,rfl,r⟩
theorem Vals.two:∀{x y:V} {us:LSV},Vals [x,y] us->∃u v,us=[u,v]/\RelV x u/\RelV y v
 |_,_,_,.cons r (.cons q .nil)=>⟨_,_,rfl,r,q⟩
theorem Vals.zero:∀{us:LSV},Vals [] us->us=[]
 |_,.nil=>rfl
theorem Vals.dropLast{xs:List V}{us:LSV}(h:Vals xs us):Vals xs.dropLast us.dropLast:=by
 induction h with
 |nil=>exact .nil
 | cons r t ih =>
   cases t with
   |nil=>exact .nil
   |cons q t'=>exact .cons r ih
theorem Vals.rep{xs:List V}{us:LSV}(h:Vals xs us):∀k:Nat,Vals (c8B k xs).flatten (c8B k us).flatten
 |0=>.nil
 | k+1=>by
   rw[c9P,c9P,d0C,d0C];exact Vals.append h (Vals.rep h k)
theorem b7J{α:Type}(l:List α):l.eraseIdx (l.length-1)=l.dropLast:=by
 induction l with
 |nil=>rfl
 | cons a r ih =>
   cases r with
   |nil=>rfl
   | cons b r =>
     have e:(a::b::r).length-1=((b::r).length-1)+1:=by
      have h1:(a::b::r).length=r.length+2:=rfl;have h2:(b::r).length=r.length+1:=rfl;lia
     rw[e,List.eraseIdx_cons_succ,ih]
     all_goals rfl
theorem a9n(its:LSV):∀(k:Nat) (acc:LSV),
  d2C (fun x1 x2=>x1++x2) acc.toArray (c8B k its.toArray)=(acc++(c8B k its).flatten).toArray
 |0,acc=>by simp
 | k+1,acc=>by
   have e:acc.toArray++its.toArray=(acc++its).toArray:=by simp
   have e2:(acc++its)++(c8B k its).flatten=acc++(c8B (k+1) its).flatten:=by
    rw[c9P,d0C,c9t]
   rw[<- e2,<- a9n its k (acc++its),<- e,c9P,d0f]
section
variable{X:Cx}{pins:PNS}{σ:St}{H:Hp}{s:c8u}{l b:Addr}{xs ys zs:List V}
theorem Inv.lset{its its':LSV}{n:Nat}{f:Array c8t->Array c8t}{t':Nat}(I:Inv X pins σ H s)(hH:H l=some (.lst xs))
  (e:s.heap.get? l=some { cls:=.type "list",data:=.seq its.toArray n }) (hf:f its.toArray=its'.toArray) (hv:Vals ys its') (hz:ys.length<=sizeLine) :
  Inv X pins σ (upd H l (.lst ys)) { s with heap:=s.heap.update l (d2B f),toks:=t' }:=by
 have q:=PySem.IsL.update e f;rw[hf] at q;refine I.write (x:=l) (e:=l) (by rw[hH];exact trivial) (.inl rfl) (fun b' u hb hu=>(d3e s.heap (d2B f) (d1u hb)).trans hu) ⟨_,q⟩ ?_;exact⟨hz,its',_,hv,q⟩
theorem Inv.lnew{its:LSV}{t':Nat}(I:Inv X pins σ H s)(hv:Vals ys its)(hz:ys.length<=sizeLine) :
  Inv X pins σ (upd H s.heap.objs.size (.lst ys)) { s with heap:=s.heap.push { cls:=.type "list",data:=.seq its.toArray },toks:=t' } :=
 I.laid (fun _ _ q=>c8h _ q) (c8d _) ⟨hz,its,0,hv,c8E _ rfl⟩
theorem Inv.fresh(I:Inv X pins σ H s):H s.heap.objs.size=none:=I.hok.fresh (c8d _)
theorem Inv.lstM(I:Inv X pins σ H s)(hH:H l=some (.lst xs)):xs.length<=sizeLine/\∃(its:LSV) (n:Nat),Vals xs its/\xs.length=its.length/\s.heap.get? l=some { cls:=.type "list",data:=.seq its.toArray n }:=by
 obtain⟨z,its,n,r,e⟩:=I.hok l _ hH;exact⟨z,its,n,r,r.length,e⟩
theorem b1O{n:Nat}(h:n<=sizeLine):c9S n=false:=by
 unfold c9S;exact decide_eq_false (by lia)
end
section
variable{X:Cx}
noncomputable def c3S:V->List V->Hp->VK->Prop:=fun x vs H Q=>∃l xs y,x=.ref l/\vs=[y]/\H l=some (.lst xs)/\xs.length<sizeLine/\Q .non (upd H l (.lst (xs++[y])))
theorem b9q:MtM X "list.append" c3S:=by
 intro pins s σ H x vs v us Q I rx rv h;obtain⟨l,xs,y,rfl,rfl,hH,hz,q⟩:=h;cases rx;obtain⟨u,rfl,ru⟩:=rv.one;obtain⟨z,its,n,r,hl,e⟩:=I.lstM hH;refine c9X F.slot_list_append ⟨_,e,rfl⟩ F.entry_list_append (F.args_list_append_2 _ _) (PySem.list_append l its.toArray n u (by rw[c8j];lia)) ⟨e,?_⟩;refine⟨.non,_,I.lset (its':=its++[u]) hH e (by simp) (r.append (.cons ru .nil)) ?_,rfl,q⟩;rw[c8p,c9A];lia
noncomputable def c3Q:V->List V->Hp->VK->Prop:=fun x vs H Q=>∃l b xs zs,x=.ref l/\vs=[.ref b]/\H l=some (.lst xs)/\H b=some (.lst zs)/\xs.length+zs.length<=sizeLine/\Q .non (upd H l (.lst (xs++zs)))
theorem b9p:MtM X "list.extend" c3Q:=by
 intro pins s σ H x vs v us Q I rx rv h;obtain⟨l,b,xs,zs,rfl,rfl,hH,hB,hz,q⟩:=h;cases rx;obtain⟨u,rfl,ru⟩:=rv.one;cases ru;obtain⟨z,its,n,r,hl,e⟩:=I.lstM hH;obtain⟨z2,its2,n2,r2,hl2,e2⟩:=I.lstM hB;have hsz:its.toArray.size+its2.toArray.size<=sizeLine:=by rw[c8j,c8j];lia
 have hlong:¬(!its.toArray.isEmpty&&c9S (its.toArray.size+its2.toArray.size))=true:=by
  rw[b1O hsz,d2t];exact c8F
 refine c9X d4d ⟨_,e,rfl⟩ d3Q (d3B _ _)
  (AutoSeq1.list_extend_list_list_0 l its.toArray n b its2.toArray n2 hlong (by rw[c8j];lia) (by lia)) ⟨e,e2,?_⟩
 refine⟨.non,_,I.lset (its':=its++its2) hH e (by simp) (r.append r2) ?_,rfl,q⟩;rw[c8p];lia
noncomputable def rPop:V->List V->Hp->VK->Prop:=fun x vs H Q=>∃l xs y,x=.ref l/\vs=[]/\H l=some (.lst xs)/\xs[xs.length-1]?=some y/\Q y (upd H l (.lst xs.dropLast))
theorem c6w:MtM X "list.pop" rPop:=by
 intro pins s σ H x vs v us Q I rx rv h;obtain⟨l,xs,y,rfl,rfl,hH,hy,q⟩:=h;cases rx;have hus:=rv.zero;subst hus;obtain⟨z,its,n,r,hl,e⟩:=I.lstM hH;obtain⟨u,hu,ru⟩:=r.get hy
 have hy':its.toArray[its.toArray.size-1]?=some u:=by
  show its.toArray[its.length-1]?=some u;rw[<- c9p,<- hl];exact hu
 refine c9X F.slot_list_pop ⟨_,e,rfl⟩ F.entry_list_pop (F.args_list_pop_1 _) (MeetsSeq.list_pop_last l its.toArray n u hy' (by rw[c8j];lia)) ⟨e,?_⟩;refine⟨y,_,I.lset (its':=its.dropLast) hH e ?_ r.dropLast ?_,ru,q⟩
 ·show its.toArray.eraseIdxIfInBounds (its.toArray.size-1)=its.dropLast.toArray;rw[c8j,List.eraseIdxIfInBounds_toArray,b7J]
 ·rw[List.length_dropLast];lia
noncomputable def rCat:R2:=fun x y H Q=>∃l b xs zs,x=.ref l/\y=.ref b/\H l=some (.lst xs)/\H b=some (.lst zs)/\xs.length+zs.length<=sizeLine/\∀p,H p=none->Q (.ref p) (upd H p (.lst (xs++zs)))
theorem c6q:OpR X (binaryOp .Add) rCat:=by
 intro pins s σ H x y v u Q I rx ry h;obtain⟨l,b,xs,zs,rfl,rfl,hH,hB,hz,q⟩:=h;cases rx;cases ry;obtain⟨z,its,n,r,hl,e⟩:=I.lstM hH;obtain⟨z2,its2,n2,r2,hl2,e2⟩:=I.lstM hB;refine PySem.P.add_list e e2 ?_ (by rw[c8j,c8j];lia);have ea:its.toArray++its2.toArray=(its++its2).toArray:=by simp
 rw[ea];exact⟨.ref _,_,I.lnew (t':=s.toks) (r.append r2) (by rw[c8p];lia),rfl,q _ I.fresh⟩
noncomputable def rRep:R2:=fun x y H Q=>∃l k xs,x=.ref l/\y=.int k/\H l=some (.lst xs)/\-(2^63)<=k/\k<2^63/\xs.length*k.toNat<=sizeLine /\
 ∀p,H p=none->Q (.ref p) (upd H p (.lst (c8B k.toNat xs).flatten))
theorem b5c{α:Type}(xs:List α)(k:Nat):(c8B k xs).flatten.length=k*xs.length:=by
 induction k with
 |zero=>simp
 |succ k ih=>rw[c9P,d0C,c8p,ih,d5T,d5U]
theorem c6l:OpR X (binaryOp .Mult) rRep:=by
 intro pins s σ H x y v u Q I rx ry h;obtain⟨l,k,xs,rfl,rfl,hH,h1,h2,hz,q⟩:=h;cases rx;obtain⟨t,rfl⟩:=ry;obtain⟨z,its,n,r,hl,e⟩:=I.lstM hH;have hlen:its.toArray.size*k.toNat<=sizeLine:=by rw[c8j,<- hl];exact hz
 have hcap:¬its.toArray.size*k.toNat>(2^63-1) / 8:=by
  have:(sizeLine:Nat)<=(2^63-1) / 8:=by decide
  lia
 have hfit:¬(!Builtin.List.listFitsIndex k)=true:=by
  rw[fitsIndex_both h1 h2];exact c8F
 have hlong:¬c9S (its.toArray.size*k.toNat)=true:=by
  rw[b1O hlen];exact c8F
 have hnew:d2C (fun x1 x2=>x1++x2) #[] (c8B (if its.toArray.isEmpty=true then 0 else k.toNat) its.toArray)=(c8B k.toNat its).flatten.toArray:=by
  have f0:∀m:Nat,d2C (fun x1 x2=>x1++x2) #[] (c8B m its.toArray)=(c8B m its).flatten.toArray:=fun m=>by
   have:=a9n its m [];rw[d0D] at this;exact this
  rw[f0];cases its with
  |nil=>simp
  |cons a r'=>rw[if_neg (by simp)]
 refine d2u (T:="list") (U:="int") (by decide) ⟨_,e,rfl⟩ (fun s'=>d3x s' k t) noFill_list_mul d5j d1V repeat_list d4S.lookup
  (c9X d1V (d3x s k t) d4T (d4v _ _) (int___rmul___int_list k t l its.toArray n)
   ⟨e,rfl,⟨_,e,rfl⟩,c9X F.slot_list_mul ⟨_,e,rfl⟩ F.entry_list_mul (F.args_list_mul_2 _ _) (AutoListH.list___mul___list_int_3 l its.toArray n k t hfit hcap hlong) ⟨e,?_⟩⟩)
 rw[hnew];exact⟨.ref _,_,I.lnew (t':=s.toks) (r.rep k.toNat) (by rw[b5c,d4J];exact hz),rfl,q _ I.fresh⟩
end
section
variable{prog:c8G}{w:c9d}{A:c8Z}{E:VPR}{s:c8u}
end
section
variable{X:Cx}
end
end L2
namespace Att
open PySem PySem.W PySem.Calls PyProof.Rows
theorem a9e{P:Params}{h:Heap}:∀(ns:LSI) (vs:LSV),WellAll P h vs (ns.map WData.int)->d3O vs ns:=by
 intro ns
 induction ns with
 | nil =>
   intro vs w;rw[c9g] at w;cases w;exact .nil
 | cons n ns ih =>
   intro vs w;rw[c8g] at w;cases w with
   | cons a b =>
     cases a;exact .cons _ _ (ih _ b)
theorem b8x{l:OpenLaw}{n:Nat}(hn:l.most=some n){P:Params}{h:Heap}{args:List WData}{vals:LSV}
  (hpre:l.row.toRowW.claim.pre args=true) (hwl:WellAll P h vals args) :
  ∃a vs ns,vals=[c8T a]/\args=[WData.list (ns.map WData.int)]/\h.get? a=some { cls:=.type "list",data:=.seq vs.toArray }/\d3O vs ns/\ns.length<=n:=by
 have hsh:WShape.hasAll [] args [.list .int]=true:=(pre_splitW hpre).1;have hc:l.pre.holds [] { args:=args }=true:=(pre_splitW hpre).2;obtain⟨d,r,rfl,h1,h2⟩:=hasAllW_cons hsh;obtain rfl:=hasAllW_nil h2;obtain⟨xs,rfl,h3⟩:=hasW_list h1;obtain⟨ns,rfl⟩:=items_int h3
 have hlen:ns.length<=n:=by
  unfold OpenLaw.pre at hc
  have h4:(WTm.not (.lt (.lit (.int (n:Int))) (.len (.arg 0)))).holds [] { args:=[.list (ns.map .int)] }=true:=by
   have h4:=(holds_andW hc).1;rw[hn] at h4;exact h4
  have h5:=condW_of h4 (w_not (w_lt w_lit (w_len_list (w_arg rfl))));rw[c8a] at h5;refine Nat.le_of_not_lt fun q=>?_;have q':(n:Int)<((ns.length:Nat):Int):=by lia
  first
   |(rw[decide_eq_true q'] at h5;exact absurd h5 (by decide))
   |(simp at h5;lia)
 cases hwl with
 | cons w1 w2 =>
   cases w2;cases w1 with
   |list ho hall=>exact⟨_,_,ns,rfl,rfl,ho,a9e ns _ hall,hlen⟩
theorem b8T(l:OpenLaw)(args:List WData):l.row.toRowW.claim.post args (.bool true) args=true :=
 postW_of (r:=l.row.toRowW) (X:=(true==true))
  (show WShape.has [] (.bool true) .bool=true by first|rfl|decide|simp[WShape.has,WShape.arms,WShape.armsAll])
  (show(WTm.eq .res (.lit (.bool true))).value [] { args:=args,res:=some (.bool true),after:=args }=some (.bool (true==true)) from w_eq_bool (w_res rfl) w_lit) rfl
theorem attach_call{l:OpenLaw}{n:Nat}{q:c8G}{loose:LSS}{XP:(SOV)->Heap->Prop}{YP:c9d->Heap->Prop}{d:DefRec}
  (hn:l.most=some n) (hdf:d.params.defaults=[])
  (call:∀(w:c9d) (s₀ s₁:c8u) (mg mb:SOV) (fa:Addr) (o:Obj) (pm cd doc:c8t) (a:Addr) (vs:LSV) (ns:LSI),
   Ground q loose [] XP w s₀ mg mb s₁.heap->YP w s₁.heap ->
   s₁.heap.get? fa=some o->o.data=.func (docDef d.name d.params d.body d.scope pm cd doc)->s₁.heap.CodeRec cd d.name->mg d.name=some (.ref fa) ->
   s₁.heap.get? a=some { cls:=.type "list",data:=.seq vs.toArray }->d3O vs ns->ns.length<=n->s₁.gens=#[] ->
   codeAny (model l.prog w) callerA (.call (.ref fa) ⟨[.ref a],[]⟩) (fun r s'=>r=.ok (.ret (.bool true))/\OldK s₁.heap s'.heap/\s'.os=s₁.os/\d2O s'.gens) s₁) :
  WalkO q loose XP YP l.row.toRowW d [] (fun f vs=>PySem.call f vs):=by
 intro w s₀ s₁ mg mb G Y fa o pm cd doc dV kV ho hd hcd hD hmg hg args vals as hpre hlay hrd hwl hlo;obtain rfl:dV=.none:=Dflts.none hD hdf;obtain rfl:kV=.none:=Dflts.noKw hD;obtain⟨a,vs,ns,rfl,rfl,hobj,hints,hlen⟩:=b8x hn hpre hwl;refine enter_call (d1s (call w s₀ s₁ mg mb fa o pm cd doc a vs ns G Y ho (fd_plain hd) hcd hmg hobj hints hlen hg) fun r s' hq=>?_);obtain⟨rfl,h2,h3,h4⟩:=hq;exact⟨.inl ⟨.bool true,.bool true,[],rfl,fun _=>rfl,.bool true,b8T l _,fun _=>⟨d2D,fun _ hm=>(nomatch hm)⟩⟩,h2,h3,h4⟩
section
variable{prog:c8G}{w:c9d}{A:c8Z}{E:VPR}{s:c8u}{K:Frag}
end
end Att
namespace L2
open PySem PySem.Spec PyProof.Rows
theorem a8z:∀{vs:LSV} {ns:LSI},d3O vs ns->Vals (ns.map V.int) vs
 |_,_,.nil=>.nil
 |_,_,.cons n t h=>.cons ⟨t,rfl⟩ (a8z h)
noncomputable def Only(H:Hp):Prop:=∀b,H b=none\/∃o xs,H b=some (.frz o (.lst xs))
theorem c1Y {P:c8G} {w:c9d} {K:PySem.W.Frag} {mg mb:SOV} {CX:CXT} {k:Nat} {fa a:Addr} {fd:d0u} {x:Str} {sp:Sp} {s₁:c8u} {vs:LSV} {ns:LSI}
  (KX:K.In s₁.heap) (hns:s₁.heap.Ns mainGlobals mg) (hb:s₁.heap.Ns builtinsNs mb) (hbb:∀x:Str,x≠"__name__"->mb x=bootBuiltins x) (hlim:s₁.heap.NoLimit) (hg:s₁.gens=#[])
  (ha:s₁.heap.get? a=some { cls:=.type "list",data:=.seq vs.toArray }) (hi:d3O vs ns) (hl:ns.length<=sizeLine) (hr:Room k callerA)
  (F:∀base:Heap,K.In base->base.Ns mainGlobals mg->FnOk P w K mg base CX k fa fd [x] sp) (hbind:∀(s:c8u) (u:c8t),d5i s fd ⟨[u],[]⟩ [(x,u)])
  (hsp:∀H:Hp,Only H->SqL K H a (ns.map V.int)->sp [.ref a] H (fun v _=>v=.bl true) fun _ _ _=>False)
  (hCX:∀H e s',CX [] H s₁ (fun _ _ _=>False) e s'->False) :
  codeAny (model P w) callerA (.call (.ref fa) ⟨[.ref a],[]⟩) (fun r s'=>r=.ok (.ret (.bool true))/\OldK s₁.heap s'.heap/\s'.os=s₁.os/\d2O s'.gens) s₁:=by
 have rv:=a8z hi;have lenV:=hi.length
 -- from an abstract heap in which nothing but the script may be tracked
 have core:∀H:Hp,Only H->SqL K H a (ns.map V.int)->HOk P w H s₁.heap->(∀b,H b≠none->b=a)->(H a≠none->K.lookup a=none) ->
   codeAny (model P w) callerA (.call (.ref fa) ⟨[.ref a],[]⟩) (fun r s'=>r=.ok (.ret (.bool true))/\OldK s₁.heap s'.heap/\s'.os=s₁.os/\d2O s'.gens) s₁:=by
  intro H hO hS hok hA hK;have base_of:∀{b:Addr} {o:Obj},s₁.heap.get? b=some o->H b=none->(hidT s₁.heap H).get? b=some o:=fun e n=>c2g e n
  have noA:∀{b:Addr} {o:Obj} {es:Array d5k} {ep:Nat},s₁.heap.get? b=some o->o.data=.dict es ep->H b=none:=fun {b o es ep} e d=>by
   cases q:H b with
   |none=>rfl
   | some u =>
     have e':b=a:=hA b (by rw[q];simp);subst e';rw[ha] at e;cases e;have d':Data.seq vs.toArray _=Data.dict es ep:=d;cases d'
  have nsK:∀{b:Addr} {m:SOV},s₁.heap.Ns b m->(hidT s₁.heap H).Ns b m:=fun {b m} ⟨o,es,ep,e,d,r⟩=>⟨o,es,ep,base_of e (noA e d),d,r⟩
  have hKb:K.In (hidT s₁.heap H):=fun b o e=>base_of (KX b o e) (by
   cases q:H b with
   |none=>rfl
   | some u =>
     have e':b=a:=hA b (by rw[q];simp);subst e'
     rw[hK (by rw[q];simp)] at e;cases e)
  have hM:Mod K mg (hidT s₁.heap H):=⟨hKb,nsK hns,⟨mb,nsK hb,hbb⟩,let ⟨mc,h1,h2⟩:=hlim;⟨mc,nsK h1,h2⟩⟩
  have e0:Env0 P w K mg (hidT s₁.heap H) callerA [] s₁ H:=⟨rfl,hM,fun b o e=>c4t e,d2i (b9R _ _),trivial,fun b hb=>absurd (show b∈([]:List Addr) from hb) (by simp),hok,.of_eq hg⟩;refine d1s ((F _ hKb (nsK hns)).run callerA [] s₁ H ⟨[.ref a],[]⟩ [.ref a] [.ref a] _ _ hr e0 (hbind s₁ (.ref a)) (.cons rfl .nil) (hsp H hO hS)) fun r s' h=>?_;cases r with
  |error e=>exact(hCX H e s' h).elim
  | ok fl =>
    cases fl with
    |next=>exact c9k h
    |brk=>exact c9k h
    |cont=>exact c9k h
    | ret u =>
      obtain⟨v,H',os,bare,un,hok',r',q⟩:=h;have q':v=.bl true:=q;subst q';obtain rfl:u=d3v true:=r';refine⟨rfl,OldK.of_keep fun b o e=>?_,os,bare⟩;cases q:H b with
      |none=>exact un.keep b o e q (by intro z;exact absurd (show b∈([]:List Addr) from z) (by simp)) (by simp)
      | some u =>
        rcases hO b with z|⟨ob,xs,z⟩
        ·rw[q] at z;cases z
        ·have z2:=un.frzs b ob _ z;obtain⟨e1,_⟩:=hok b _ z;obtain⟨e2,_⟩:=hok' b _ z2;rw[e] at e1;cases e1;exact e2
 cases hk:K.lookup a with
 | some o =>
   -- the script is one of the module's own objects
   have e:=KX a o hk;rw[ha] at e;cases e;refine core (fun _=>none) (fun _=>.inl rfl) (.inr ⟨_,vs.toArray,_,hk,rfl,rfl,rfl,by rw[c8j,lenV];exact hl,by simpa using rv⟩) (fun b u z=>by have z':(none:Option HO)=some u:=z;cases z') (fun b z=>absurd rfl z) fun z=>absurd rfl z
 | none =>
   refine core (fun b=>if b=a then some (.frz { cls:=.type "list",data:=.seq vs.toArray } (.lst (ns.map V.int))) else none) (fun b=>?_) (.inl (.inr ⟨{ cls:=.type "list",data:=.seq vs.toArray },if_pos rfl⟩)) (fun b u z=>?_) (fun b z=>?_) fun _=>hk
   ·by_cases hb:b=a
    ·exact .inr ⟨_,_,if_pos hb⟩
    ·exact .inl (if_neg hb)
   ·by_cases hb:b=a
    ·have z':=(if_pos hb).symm.trans z;cases z';subst hb;exact⟨ha,by rw[c8a];exact hl,vs,_,rv,ha⟩
    ·have z':=(if_neg hb).symm.trans z;cases z'
   ·by_cases hb:b=a
    ·exact hb
    ·exact absurd (if_neg hb) z
theorem c3t{l:PySem.W.OpenLaw}{n k:Nat}{q:c8G}{loose:LSS}{XP:(SOV)->Heap->Prop}{YP:c9d->Heap->Prop}{d:DefRec}{K:Params->PySem.W.Frag}{CX:c9d->CXT}{sp:c9d->Sp}{x:Str}
  (hn:l.most=some n) (hn2:n<=sizeLine) (hdf:d.params.defaults=[]) (hr:Room k callerA)
  (hY:∀(w:c9d) (h:Heap),YP w h->(K w.params).In h)
  (F : ∀(w:c9d) (mg:SOV) (fa:Addr) (h:Heap),(K w.params).In h->h.Ns mainGlobals mg->mg d.name=some (.ref fa) ->
   ∃ fd:d0u,(∀(s:c8u) (u:c8t),d5i s fd ⟨[u],[]⟩ [(x,u)]) /\
     ∀base:Heap,(K w.params).In base->base.Ns mainGlobals mg->FnOk l.prog w (K w.params) mg base (CX w) k fa fd [x] (sp w))
  (hsp:∀(w:c9d) (H:Hp) (a:Addr) (ns:LSI),ns.length<=n->Only H->SqL (K w.params) H a (ns.map V.int)->sp w [.ref a] H (fun v _=>v=.bl true) fun _ _ _=>False)
  (hCX:∀(w:c9d) (H:Hp) (s:c8u) (e:c8t) (s':c8u),CX w [] H s (fun _ _ _=>False) e s'->False) :
  PySem.W.WalkO q loose XP YP l.row.toRowW d [] (fun f vs=>PySem.call f vs):=by
 refine Att.attach_call hn hdf fun w s₀ s₁ mg mb fa o pm cd doc a vs ns G Y ho hd hcd hmg hobj hints hlen hg=>?_;have KX:=hY w _ Y;obtain⟨fd,hb,hF⟩:=F w mg fa _ KX G.T.g hmg;exact c1Y KX G.T.g G.T.b G.T.builtins G.T.nolimit hg hobj hints (c8C hlen hn2) hr hF hb (fun H hO hS=>hsp w H a ns hlen hO hS) fun H e s'=>hCX w H s₁ e s'
noncomputable def a9g(s:Stmt)(j:Nat):Stmt:=match s with
 |.ClassDef _ _ _ body _ _ _ _ _ _ _=>body.getD j (.Pass ⟨0,0,0,0⟩)
 |_=>.Pass ⟨0,0,0,0⟩
noncomputable def a5p(s:Stmt):Arguments:=match s with
 |.FunctionDef _ a _ _ _ _ _ _ _ _=>a
 |_=>{ posonlyargs:=[],args:=[],vararg:=none,kwonlyargs:=[],kw_defaults:=[],kwarg:=none,defaults:=[] }
noncomputable def a1Q(s:Stmt):List Stmt:=match s with
 |.FunctionDef _ _ b _ _ _ _ _ _ _=>b
 |_=>[]
noncomputable def a0b(s:Stmt):d1R:=match s with
 |.FunctionDef _ _ _ _ _ _ sc _ _ _=>sc
 |_=>{ kind:=.function,names:=[],isGenerator:=false,isCoroutine:=false }
noncomputable abbrev CX0:CXT:=fun _ _ _ _ _ _=>False
noncomputable abbrev E0:XK:=fun _ _ _=>False
theorem c1L{X:Cx}:a9M CX0 X E0:=fun _ _ _ _ _ _ _ h=>h.elim
structure Fun(K:PySem.W.Frag)(x qual:Str)(st:Stmt)(f:Addr)(fd:d0u):Prop where
 ex:∃(oc:c8t) (od:Option Addr) (kV doc pm:c8t) (an:Option Addr) (cdv ct:c8t) (osl:AOV),
  fd=PySem.W.fnOf x qual (a5p st) (a1Q st) (a0b st) .none kV doc pm an cdv ct/\K.lookup f=some ⟨oc,od,.func fd,osl⟩/\PySem.W.codeIn K cdv qual=true
 kp:PySem.W.keepIn K (.ref f)=true
section
variable{P:c8G}{w:c9d}{K:PySem.W.Frag}{mg:SOV}{base:Heap}
theorem Fun.ok{x qual:Str}{st:Stmt}{f:Addr}{fd:d0u}{N ps:LSS}{k:Nat}{sp:Sp}(F:Fun K x qual st f fd)(S:FnScope N ps (a0b st))(len:∀vs H Q E,sp vs H Q E->vs.length=ps.length)
  (hbody:∀(cdv:c8t) (A:c8Z) (outer:List Env) (s:c8u) (H:Hp) (vs:List V) (Q:VK) (E:XK),Room k (A.deeper (envOfC qual (a0b st) s.heap.objs.size f cdv))->sp vs H Q E ->
   ∃t,PSs (cxOf CX0 P w K mg base N qual (a0b st) f cdv A outer s H E).nox (a1Q st) t/\t { nx:=fun _ H'=>Q .non H',rt:=Q } (start N vs) H):FnOk P w K mg base CX0 (k+1) f fd ps sp:=by
 obtain⟨oc,od,kV,doc,pm,an,cdv,ct,osl,rfl,lk,hcd⟩:=F.ex;refine c4O lk hcd S len fun A outer s H vs Q E hr hsp=>?_;obtain⟨t,h,q⟩:=hbody cdv A outer s H vs Q E hr hsp;exact⟨t,h.nox,q⟩
theorem Fun.binds{x qual:Str}{st:Stmt}{f:Addr}{fd:d0u}{ps:LSS}(F:Fun K x qual st f fd)
  (h:∀(kV doc pm:c8t) (an:Option Addr) (cdv ct:c8t) (us:LSV),us.length=ps.length->bindArgs (PySem.W.fnOf x qual (a5p st) (a1Q st) (a0b st) .none kV doc pm an cdv ct) ⟨us,[]⟩=pure (ps.zip us)):a3n K fd ps []:=by
 obtain⟨oc,od,kV,doc,pm,an,cdv,ct,osl,rfl,lk,hcd⟩:=F.ex;exact .all (h kV doc pm an cdv ct)
theorem b0O{x qual:Str}{st:Stmt}{f:Addr}{oc:c8t}{od an:Option Addr}{osl:AOV}{kV doc pm cdv ct:c8t}(l:K.lookup f=some ⟨oc,od,.func (PySem.W.fnOf x qual (a5p st) (a1Q st) (a0b st) .none kV doc pm an cdv ct),osl⟩)
  (c:PySem.W.codeIn K cdv qual=true) (k:PySem.W.keepIn K (.ref f)=true):Fun K x qual st f (PySem.W.fnOf x qual (a5p st) (a1Q st) (a0b st) .none kV doc pm an cdv ct):=⟨⟨oc,od,kV,doc,pm,an,cdv,ct,osl,rfl,l,c⟩,k⟩
end
section
variable{X:Cx}
end
theorem ite2{c A B:Prop}[Decidable c](h1:c->A)(h2:¬c->B):if c then A else B:=by
 by_cases h:c
 ·rw[if_pos h];exact h1 h
 ·rw[if_neg h];exact h2 h
end L2
set_option maxHeartbeats 0
namespace L2
open PySem PySem.Spec PyProof.Rows
section
variable{κ:Type}[DecidableEq κ]
noncomputable def valV(kvs:List (κ×V))(k:κ):Option V:=(kvs.find? fun kv=>decide (kv.1=k)).map (·.2)
noncomputable def putK(kvs:List (κ×V))(k:κ)(v:V):List (κ×V) :=
 if (kvs.any fun kv=>decide (kv.1=k))=true then kvs.map (fun kv=>if kv.1=k then (kv.1,v) else kv) else kvs++[(k,v)]
noncomputable def b3Z(kvs:List (κ×V))(k:κ):List (κ×V):=kvs.filter fun kv=>decide (kv.1≠k)
theorem b0Y{p:κ×V}{r:List (κ×V)}{k:κ}(e:p.1=k):valV (p::r) k=some p.2:=by simp[valV,c9h,e]
theorem b0Z{p:κ×V}{r:List (κ×V)}{k:κ}(e:¬p.1=k):valV (p::r) k=valV r k:=by simp[valV,c9h,e]
theorem b1a(k:κ):∀kvs:List (κ×V),(kvs.any fun kv=>decide (kv.1=k))=(valV kvs k).isSome
 |[]=>rfl
 | p::r=>by
   rw[d0d];by_cases e:p.1=k
   ·simp only[b0Y e,decide_eq_true e,Bool.true_or,d4e]
   ·rw[b0Z e,decide_eq_false e,d4f];exact b1a k r
theorem a8Y(kvs:List (κ×V))(k:κ)(v:V):(putK kvs k v).length<=kvs.length+1:=by
 unfold putK;split
 ·rw[c8a];lia
 ·rw[c8p,c8e,c9L];lia
theorem c1v{kvs:List (κ×V)}{k:κ}(v:V)(h:valV kvs k=none):putK kvs k v=kvs++[(k,v)]:=by
 unfold putK;rw[b1a,h];exact if_neg (by decide)
theorem RelO.isSome_eq{o:Option V}{u:OVA}(r:RelO o u):o.isSome=u.isSome:=by
 cases o with
 | none=>cases u with
   |none=>rfl
   |some _=>exact(show False from r).elim
 | some _=>cases u with
   |none=>exact(show False from r).elim
   |some _=>rfl
theorem RelO.getD{o:Option V}{u:OVA}{d:V}{d':c8t}(r:RelO o u)(rd:RelV d d'):RelV (o.getD d) (u.getD d'):=by
 cases o with
 | none=>cases u with
   |none=>exact rd
   |some _=>exact(show False from r).elim
 | some _=>cases u with
   |none=>exact(show False from r).elim
   |some _=>exact r
theorem KV.val{kvs:List (κ×V)}{vs:List (κ×c8t)}(r:KV kvs vs)(k:κ):RelO (valV kvs k) (valueAt vs k):=by
 unfold KV at r
 induction r with
 |nil=>exact d0m
 | @cons p q ps qs h t ih =>
   obtain⟨h1,h2⟩:=h;by_cases e:p.1=k
   ·have e':q.1=k:=h1.symm.trans e;have b:valueAt (q::qs) k=some q.2:=by simp[valueAt,c9h,e']
    rw[b0Y e,b];exact h2
   ·have e':¬q.1=k:=fun z=>e (h1.trans z);have b:valueAt (q::qs) k=valueAt qs k:=by simp[valueAt,c9h,e']
    rw[b0Z e,b];exact ih
theorem KV.any{kvs:List (κ×V)}{vs:List (κ×c8t)}(r:KV kvs vs)(k:κ):(kvs.any fun kv=>decide (kv.1=k))=vs.any fun kv=>decide (kv.1=k):=by
 unfold KV at r
 induction r with
 |nil=>rfl
 |cons h t ih=>rw[d0d,d0d,ih,h.1]
theorem KV.repl{kvs:List (κ×V)}{vs:List (κ×c8t)}(r:KV kvs vs)(k:κ){y:V}{u:c8t}(ry:RelV y u) :
  KV (kvs.map fun kv=>if kv.1=k then (kv.1,y) else kv) (vs.map fun kv=>if kv.1=k then (kv.1,u) else kv):=by
 unfold KV at r|-
 induction r with
 |nil=>exact .nil
 | @cons p q ps qs h t ih =>
   rw[c8g,c8g];refine .cons ?_ ih;obtain⟨h1,h2⟩:=h;by_cases e:p.1=k
   ·rw[if_pos e,if_pos (h1.symm.trans e)];exact⟨h1,ry⟩
   ·rw[if_neg e,if_neg (fun z=>e (h1.trans z))];exact⟨h1,h2⟩
theorem KV.put{kvs:List (κ×V)}{vs:List (κ×c8t)}(r:KV kvs vs)(k:κ){y:V}{u:c8t}(ry:RelV y u):KV (putK kvs k y) (stored vs k u):=by
 unfold putK stored;rw[r.any k];by_cases e:(vs.any fun kv=>decide (kv.1=k))=true
 ·rw[if_pos e,if_pos e];exact r.repl k ry
 ·rw[if_neg e,if_neg e];exact Paired.snoc r ⟨rfl,ry⟩
theorem KV.drop{kvs:List (κ×V)}{vs:List (κ×c8t)}(r:KV kvs vs)(k:κ):KV (b3Z kvs k) (without vs k):=by
 unfold KV at r|-
 unfold b3Z without
 induction r with
 |nil=>exact .nil
 | @cons p q ps qs h t ih =>
   obtain⟨h1,h2⟩:=h;rw[d0L,d0L];by_cases e:p.1=k
   ·have a:¬decide (p.1≠k)=true:=by simp[e]
    have b:¬decide (q.1≠k)=true:=by simp[h1.symm.trans e]
    rw[if_neg a,if_neg b];exact ih
   ·have e':¬q.1=k:=fun z=>e (h1.trans z);have a:decide (p.1≠k)=true:=by simp[e]
    have b:decide (q.1≠k)=true:=by simp[e']
    rw[if_pos a,if_pos b];exact .cons ⟨h1,h2⟩ ih
theorem KV.keys{kvs:List (κ×V)}{vs:List (κ×c8t)}(r:KV kvs vs):kvs.map (·.1)=vs.map (·.1):=by
 unfold KV at r
 induction r with
 |nil=>rfl
 |cons h t ih=>rw[c8g,c8g,ih,h.1]
theorem KV.length{kvs:List (κ×V)}{vs:List (κ×c8t)}(r:KV kvs vs):kvs.length=vs.length:=Paired.length r
theorem c2B(kvs:List (κ×V))(k:κ):(b3Z kvs k).length<=kvs.length:=d3l _ _
end
theorem b3J{P:c8G}{w:c9d}{k:Key}{u:c8t}(r:RelV (kV k) u):(a0C P w).is k u=true:=by
 cases k with
 |inl i=>obtain⟨t,e⟩:=(show ∃t,u=d0R i t from r);subst e;exact b5b P w i t
 |inr x=>obtain⟨t,e⟩:=(show ∃t,u=d3i x t from r);subst e;exact b5a P w x t
theorem b3K{P:c8G}{w:c9d}:∀{ks:List Key} {us:LSV},Vals (ks.map kV) us->ItemsAre (a0C P w) ks us
 |[],_,r=>by rw[c9g] at r;cases r;exact .nil
 | k::ks,_,r=>by
   rw[c8g] at r;cases r with
   |cons h t=>exact .cons (b3J h) (b3K t)
noncomputable abbrev KT(H:Hp):List (List Key×V)->List (List Key×Addr×c8t)->Prop:=Paired fun p q=>p.1=q.1/\H q.2.1=some (.tup (p.1.map kV))/\RelV p.2 q.2.2
theorem KT.val{H:Hp}{kvs:List (List Key×V)}{xs:List (List Key×Addr×c8t)}(r:KT H kvs xs)(k:List Key):RelO (valV kvs k) ((atKey xs k).map (·.2)):=by
 induction r with
 |nil=>exact d0m
 | @cons p q ps qs h t ih =>
   obtain⟨h1,_,h2⟩:=h;by_cases e:p.1=k
   ·have e':q.1=k:=h1.symm.trans e;have b:atKey (q::qs) k=some q.2:=by simp[atKey,c9h,e']
    rw[b0Y e,b];exact h2
   ·have e':¬q.1=k:=fun z=>e (h1.trans z);have b:atKey (q::qs) k=atKey qs k:=by simp[atKey,c9h,e']
    rw[b0Z e,b];exact ih
theorem KT.repl{H:Hp}{kvs:List (List Key×V)}{xs:List (List Key×Addr×c8t)}(r:KT H kvs xs)(k:List Key){y:V}{u:c8t}(ry:RelV y u) :
  KT H (kvs.map fun kv=>if kv.1=k then (kv.1,y) else kv) (xs.map (putAt k u)):=by
 induction r with
 |nil=>exact .nil
 | @cons p q ps qs h t ih =>
   rw[c8g,c8g];refine .cons ?_ ih;obtain⟨h1,h2,h3⟩:=h;unfold putAt;by_cases e:p.1=k
   ·rw[if_pos e,if_pos (h1.symm.trans e)];exact⟨h1,h2,ry⟩
   ·rw[if_neg e,if_neg (fun z=>e (h1.trans z))];exact⟨h1,h2,h3⟩
theorem KT.put{H:Hp}{kvs:List (List Key×V)}{xs:List (List Key×Addr×c8t)}(r:KT H kvs xs)(k:List Key){b:Addr}{y:V}{u:c8t}(hb:H b=some (.tup (k.map kV)))(ry:RelV y u) :
  KT H (putK kvs k y) (storedH xs k b u):=by
 have e:(kvs.any fun kv=>decide (kv.1=k))=(atKey xs k).isSome:=by
  rw[b1a,(r.val k).isSome_eq,d1d]
 unfold putK storedH;rw[e];by_cases q:(atKey xs k).isSome=true
 ·rw[if_pos q,if_pos q];exact r.repl k ry
 ·rw[if_neg q,if_neg q];exact Paired.snoc r ⟨rfl,hb,ry⟩
theorem KT.keeps{H H':Hp}{kvs:List (List Key×V)}{xs:List (List Key×Addr×c8t)}(r:KT H kvs xs)(ht:∀b ys,H b=some (.tup ys)->H' b=some (.tup ys)):KT H' kvs xs :=
 Paired.mapP r fun _ _ z=>⟨z.1,ht _ _ z.2.1,z.2.2⟩
section
variable{P:c8G}{w:c9d}{H:Hp}{h:Heap}{a:Addr}
theorem c5K{u:HO}(ok:HOk P w H h)(e:Rd H a u):a1d P w H h a u:=e.ok ok
theorem b5n{kvs:List (Key×V)}(ok:HOk P w H h)(e:Rd H a (.dK kvs)):kvs.length<=sizeLine/\(a==sysModules)=false/\∃vs,KV kvs vs/\h.DictOf (a0C P w) a vs :=
 show a1d P w H h a (.dK kvs) from c5K ok e
theorem c4R{kvs:List (Key×V)}(ok:HOk P w H h)(e:H a=some (.dK kvs)):kvs.length<=sizeLine/\(a==sysModules)=false/\∃vs,KV kvs vs/\h.DictOf (a0C P w) a vs:=b5n ok (.inl e)
theorem b0H{ks:List Key}(ok:HOk P w H h)(e:H a=some (.tup (ks.map kV))):(tupleKind (a0C P w)).is h ks a:=by
 obtain⟨_,its,r,o,h1,h2,_,n,h3⟩:=(show a1d P w H h a (.tup (ks.map kV)) from ok a _ e);exact⟨o,its.toArray,n,h1,h2,h3,by simpa using b3K r⟩
theorem b5m{kvs:List (List Key×V)}(ok:HOk P w H h)(e:Rd H a (.dT kvs)):kvs.length<=sizeLine/\(a==sysModules)=false /\
  ∃xs,KT H kvs xs/\h.DictOfH (tupleKind (a0C P w)) a xs:=by
 obtain⟨z,y,xs,r,o,es,ep,h1,h2,h3,h4,h5⟩:=(show a1d P w H h a (.dT kvs) from c5K ok e);refine⟨z,y,xs,r,o,es,ep,h1,h2,h3,h4,fun x hx=>?_,h5⟩
 have all:∀{l:List (List Key×V)} {m:List (List Key×Addr×c8t)},KT H l m->∀x∈m,(tupleKind (a0C P w)).is h x.1 x.2.1:=by
  intro l m q
  induction q with
  |nil=>intro x hx;exact nomatch hx
  | @cons p q ps qs hq t ih =>
    intro x hx;rcases c8n.mp hx with e|hx
    ·subst e;exact b0H ok (by rw[<- hq.1];exact hq.2.1)
    ·exact ih x hx
 exact all r x hx
theorem c7W{kvs:List (List Key×V)}(ok:HOk P w H h)(e:H a=some (.dT kvs)):kvs.length<=sizeLine/\(a==sysModules)=false /\
  ∃xs,KT H kvs xs/\h.DictOfH (tupleKind (a0C P w)) a xs:=b5m ok (.inl e)
end
noncomputable def DGet(H:Hp)(a:Addr)(y:V)(r:Option V):Prop :=
 (∃kvs k,Rd H a (.dK kvs)/\y=kV k/\r=valV kvs k)\/∃kvs k b,Rd H a (.dT kvs)/\y=.ref b/\H b=some (.tup (k.map kV))/\r=valV kvs k
noncomputable def DPut(H:Hp)(a:Addr)(y v:V)(H':Hp):Prop :=
 (∃kvs k,H a=some (.dK kvs)/\y=kV k/\kvs.length<sizeLine/\H'=upd H a (.dK (putK kvs k v))) \/
 ∃kvs k b,H a=some (.dT kvs)/\y=.ref b/\H b=some (.tup (k.map kV))/\kvs.length<sizeLine/\H'=upd H a (.dT (putK kvs k v))
theorem DGet.k{H:Hp}{a:Addr}{kvs:List (Key×V)}{k:Key}(e:H a=some (.dK kvs)):DGet H a (kV k) (valV kvs k):=.inl ⟨kvs,k,.inl e,rfl,rfl⟩
theorem DPut.k{H:Hp}{a:Addr}{kvs:List (Key×V)}{k:Key}{v:V}(e:H a=some (.dK kvs))(hl:kvs.length<sizeLine):DPut H a (kV k) v (upd H a (.dK (putK kvs k v))):=.inl ⟨kvs,k,e,rfl,hl,rfl⟩
section
variable{X:Cx}{pins:PNS}{σ:St}{H:Hp}{s:c8u}{a:Addr}{y v:V}{u r:c8t}{o:Option V}{A:c8Z}{E:VPR}
theorem Inv.big(I:Inv X pins σ H s):sysModules<s.heap.objs.size:=by
 have h:mainGlobals<s.heap.objs.size:=(I.mod.glob.keeps I.bk).lt;exact d0H (by decide) h
theorem c0y{Q:VPR}(hu:A.units+1<cLine)(I:Inv X pins σ H s)(g:DGet H a y (some v))(ry:RelV y u)(h:∀w' s',Inv X pins σ H s'->RelV v w'->Q w' s') :
  wpAny (model X.prog X.w) A (getItem (.ref a) u) Q E s:=by
 rcases g with ⟨kvs,k,e,ey,l⟩|⟨kvs,k,b,e,ey,eb,l⟩
 ·subst ey;obtain⟨z,hd,vs,rel,dd⟩:=b5n I.hok e;obtain⟨w',hw,rw'⟩:=RelO.some_of (v:=v) (o:=valueAt vs k) (by rw[l];exact rel.val k);exact wpAny_getItem_of (b3J ry) dd.mapOf hw (h w' _ (I.tok _) rw')
 ·subst ey;cases (show u=c8T b from ry);obtain⟨z,hd,xs,rel,dd⟩:=b5m I.hok e;obtain⟨w',hw,rw'⟩:=RelO.some_of (v:=v) (o:=(atKey xs k).map (·.2)) (by rw[l];exact rel.val k);obtain⟨p,hp,hp2⟩:=c8L.mp hw;refine wpAny_getItem_heap (d0P hu) (b0H I.hok eb) dd hp ?_;rw[hp2];exact h w' _ (I.tok _) rw'
theorem d_in{Q:VPR}(hu:A.units+1<cLine)(I:Inv X pins σ H s)(g:DGet H a y o)(ry:RelV y u)(h:∀s',Inv X pins σ H s'->Q (.bool o.isSome) s') :
  wpAny (model X.prog X.w) A (compareOp .In u (.ref a)) Q E s:=by
 rcases g with ⟨kvs,k,e,ey,l⟩|⟨kvs,k,b,e,ey,eb,l⟩
 ·subst ey;obtain⟨z,hd,vs,rel,dd⟩:=b5n I.hok e;refine wpAny_in_of (b3J ry) hd dd.mapOf ?_;rw[<- (rel.val k).isSome_eq,<- l];exact h _ (I.tok _)
 ·subst ey;cases (show u=c8T b from ry);obtain⟨z,hd,xs,rel,dd⟩:=b5m I.hok e;refine wpAny_in_heap (d0P hu) (b0H I.hok eb) hd dd ?_;have q:=(rel.val k).isSome_eq;rw[d1d] at q;rw[<- q,<- l];exact h _ (I.tok _)
theorem c4U{Q:VPR}(hu:A.units+1<cLine)(I:Inv X pins σ H s)(g:DGet H a y o)(ry:RelV y u)(h:∀s',Inv X pins σ H s'->Q (.bool (!o.isSome)) s') :
  wpAny (model X.prog X.w) A (compareOp .NotIn u (.ref a)) Q E s:=by
 rcases g with ⟨kvs,k,e,ey,l⟩|⟨kvs,k,b,e,ey,eb,l⟩
 ·subst ey;obtain⟨z,hd,vs,rel,dd⟩:=b5n I.hok e;refine wpAny_notIn_of (b3J ry) hd dd.mapOf ?_;rw[<- (rel.val k).isSome_eq,<- l];exact h _ (I.tok _)
 ·subst ey;cases (show u=c8T b from ry);obtain⟨z,hd,xs,rel,dd⟩:=b5m I.hok e;refine wpAny_notIn_heap (d0P hu) (b0H I.hok eb) hd dd ?_;have q:=(rel.val k).isSome_eq;rw[d1d] at q;rw[<- q,<- l];exact h _ (I.tok _)
theorem b2o{h':Heap}{t':Nat}{ob:HO}(I:Inv X pins σ H s)(mu:Mut (H a))(hs:d1r a s.heap h')(he:∃q,h'.get? a=some q)(new:a1d X.prog X.w (upd H a ob) h' a ob) :
  Inv X pins σ (upd H a ob) { s with heap:=h',toks:=t' } :=
 I.write (x:=a) (e:=a) mu (.inl rfl) (fun b q hb z=>(hs.2 b hb).trans z) he new
theorem c0u{P:c8G}{w:c9d}{H':Hp}{h':Heap}{kvs:List (Key×V)}{vs:List (Key×c8t)}(z:kvs.length<=sizeLine)(hd:(a==sysModules)=false)(rel:KV kvs vs)(dd:h'.DictOf (a0C P w) a vs) :
  a1d P w H' h' a (.dK kvs):=⟨z,hd,vs,rel,dd⟩
theorem c0x{H':Hp}{Q:Unit->c8u->Prop}(hu:A.units+1<cLine)(I:Inv X pins σ H s)(g:DPut H a y v H')(ry:RelV y u)(rv:RelV v r)(h:∀s',Inv X pins σ H' s'->Q () s') :
  wpAny (model X.prog X.w) A (setItem (.ref a) u r) Q E s:=by
 rcases g with ⟨kvs,k,e,ey,l,eH⟩|⟨kvs,k,b,e,ey,eb,l,eH⟩
 ·subst ey eH;obtain⟨z,hd,vs,rel,dd⟩:=c4R I.hok e;have hz:vs.length<=sizeLine:=by rw[<- rel.length];exact z
  have hl:(putK kvs k v).length<=sizeLine:=by have:=a8Y kvs k v;lia
  refine wpAny_setItem_pairs (hsz:=hz) (b3J ry) dd fun h' dd' hs=>h _ ?_
  have he:∃q,h'.get? a=some q:=let ⟨q,_,_,hq,_⟩:=dd';⟨q,hq⟩
  exact b2o I (by rw[e];exact d0m) hs he (c0u hl hd (rel.put k rv) dd')
 ·subst ey eH;cases (show u=c8T b from ry);obtain⟨z,hd,xs,rel,dd⟩:=c7W I.hok e;have hz:xs.length<=sizeLine:=by rw[<- Paired.length rel];exact z
  have hl:(putK kvs k v).length<=sizeLine:=by have:=a8Y kvs k v;lia
  refine wpAny_setItem_heap (hsz:=hz) (d0P hu) (b0H I.hok eb) dd fun h' dd' hs=>h _ ?_;obtain⟨q,es,ep,hq,h2,h3,h4,_,h5⟩:=dd';refine b2o I (by rw[e];exact d0m) hs ⟨q,hq⟩ ⟨hl,hd,_,(rel.put k eb rv).keeps fun c ys ec=>?_,q,es,ep,hq,h2,h3,h4,h5⟩;rw[a0B (c7J ec e (fun z=>nomatch z))];exact ec
end
section
variable{X:Cx}{pins:PNS}{σ:St}{H:Hp}{s:c8u}{a:Addr}{kvs:List (Key×V)}{k:Key}{u:c8t}{A:c8Z}{E:VPR}
theorem c7Y{v:V}{more:LSV}{Q:VPR}(I:Inv X pins σ H s)(e:H a=some (.dK kvs))(ry:RelV (kV k) u)(l:valV kvs k=some v)(hm:more=[]\/∃x,more=[x])
  (h:∀w' s',Inv X pins σ (upd H a (.dK (b3Z kvs k))) s'->RelV v w'->Q w' s'):wpAny (model X.prog X.w) A (call (.builtin "dict.pop") (.ref a::u::more)) Q E s:=by
 obtain⟨z,hd,vs,rel,dd⟩:=c4R I.hok e;obtain⟨w',hw,rw'⟩:=RelO.some_of (v:=v) (o:=valueAt vs k) (by rw[<- l];exact rel.val k)
 have hp:(keyPart u).isSome=true:=by
  cases k with
  |inl i=>obtain⟨t,q⟩:=(show ∃t,u=d0R i t from ry);subst q;rfl
  |inr x=>obtain⟨t,q⟩:=(show ∃t,u=d3i x t from ry);subst q;rfl
 have ha:argsOk "dict.pop" ⟨.ref a::u::more,[]⟩:=by
  rcases hm with q|⟨x,q⟩
  ·subst q;exact PySem.F.args_dict_pop_2 _ _
  ·subst q;exact PySem.F.args_dict_pop_3 _ _ _
 refine d3m PySem.F.slot_dict_pop dd.typeIs PySem.F.entry_dict_pop ha (meets_dict_pop_there (a0C X.prog X.w) a (b3J ry) more hm hp)
  ⟨vs,w',dd,by rw[<- rel.length];exact z,hw,fun h' dd' hs=>h w' _ ?_ rw'⟩
 have he:∃q,h'.get? a=some q:=let ⟨q,_,_,hq,_⟩:=dd';⟨q,hq⟩
 exact b2o I (by rw[e];exact d0m) hs he (c0u (c8C (c2B kvs k) z) hd (rel.drop k) dd')
end
noncomputable def NoSl(i:Expr):Prop:=∀ov iv,subscripted i false ov iv=operate [ov,iv] (getItem ov iv)
theorem c3A{prog:c8G}{w:c9d}{A:c8Z}{E:VPR}{s:c8u}{env:Env}{value slice:Expr}{pos:Pos}{T id:String}{Q:VPR}
  (hl:typeLookup (.type T) "__getitem__"=pure (some (.builtin id))) (hs:NoSl slice)
  (h:wpAny (model prog w) A (eval value env) (fun o s₁=>wpAny (model prog w) A (eval slice env) (fun i s₂=>s₂.TypeIs o T/\wpAny (model prog w) A (getItem o i) Q E s₂) E s₁) E s) :
  wpAny (model prog w) A (eval (.Subscript value slice pos) env) Q E s:=by
 refine d5E (c9G h (fun o s₁ h₁=>c9G h₁ (fun i s₂ h₂=>?_) fun _ _ x=>x) fun _ _ x=>x);obtain⟨hT,h₂⟩:=h₂;unfold subscriptTail;refine c8f ?_;rw[getitemInPython_of_ne hT.not_modules];refine c8f (d1W hT hl ?_)
 have fin:wpAny (model prog w) A (subscripted slice false o i) (fun r s₃=>wpAny (model prog w) A (letTemporaryGo value o r >>= fun _=>pure r) Q E s₃) E s₂:=by
  rw[hs o i];exact wpAny_operating (c9G h₂ (fun r s₃ h₃=>c8f (wpAny_letTemporaryGo (c8x h₃))) fun _ _ x=>x)
 first
  |exact c8x (c8f fin)
  |exact c8f (c8x (c8f fin))
  |exact c8f fin
theorem b5o{X:Cx}{pins:PNS}{σ:St}{H:Hp}{s:c8u}{a:Addr}{y:V}{o:Option V}(I:Inv X pins σ H s)(g:DGet H a y o):s.TypeIs (.ref a) "dict":=by
 rcases g with ⟨kvs,k,e,_,_⟩|⟨kvs,k,b,e,_,_,_⟩
 ·obtain⟨_,_,vs,_,dd⟩:=b5n I.hok e;exact dd.typeIs
 ·obtain⟨_,_,xs,_,dd⟩:=b5m I.hok e;exact dd.typeIs
noncomputable def c7o(td ty:TE):TE:=fun σ H Q=>td σ H fun x H1=>ty σ H1 fun y H2=>∃a v,x=.ref a/\DGet H2 a y (some v)/\Q v H2
noncomputable def c7t(td ty tv:TE):TS:=fun D σ H=>tv σ H fun v H1=>td σ H1 fun x H2=>ty σ H2 fun y H3=>∃a H4,x=.ref a/\DPut H3 a y v H4/\D.nx σ H4
section
variable{X:Cx}{o i e value:Expr}{pos pos' tpos:Pos}{td ty tv:TE}
theorem c4g(hu:X.A.units+1<cLine)(ho:PE X o td)(hi:PE X i ty)(hs:NoSl i):PE X (.Subscript o i pos) (c7o td ty):=by
 intro pins s σ H Q I h;refine c3A PySem.F.slot_dict_getitem.lookup hs (thn (ho pins s σ H _ I h) fun u s1 ⟨x,H1,I1,rx,q1⟩=>thn (hi pins s1 σ H1 _ I1 q1) fun iv s2 ⟨y,H2,I2,ry,a,v,ex,g,q2⟩=>?_);subst ex;obtain rfl:u=c8T a:=rx;exact⟨b5o I2 g,c0y hu I2 g ry fun w' s3 I3 rw'=>⟨v,H2,I3,rw',q2⟩⟩
theorem b8S(hu:X.A.units+1<cLine)(ho:PE X o td)(hi:PE X i ty)(hv:PE X value tv)(hs:swapsWith value (some (.Subscript o i pos')) pos.line X.env=pure false) :
  PS X (.Assign [.Subscript o i pos'] value pos) (c7t td ty tv):=by
 intro pins s σ H D I h;refine wpAny_Assign_Subscript (thn (hv pins s σ H _ I h) fun r s1 ⟨v,H1,I1,rv,q1⟩=>thn (ho pins s1 σ H1 _ I1 q1) fun u s2 ⟨x,H2,I2,rx,q2⟩=>thn (hi pins s2 σ H2 _ I2 q2) fun iv s3 ⟨y,H3,I3,ry,a,H4,ex,g,q3⟩=>?_) hs;subst ex;obtain rfl:u=c8T a:=rx;exact c0x hu I3 g ry rv fun s4 I4=>⟨σ,H4,I4,q3⟩
end
theorem b6v{P:c8G}{w:c9d}{H:Hp}(h:Heap)(hb:sysModules<h.objs.size):a1d P w H (h.push { cls:=.type "dict",data:=.dict #[] }) h.objs.size (.dK []) :=
 ⟨c9j _,beq_eq_false_iff_ne.mpr (d1u (c8P hb)),[],.nil,d5l h⟩
noncomputable def c5y:TE:=fun _ H Q=>∀p,H p=none->Q (.ref p) (upd H p (.dK []))
section
variable{X:Cx}{pos:Pos}
theorem c1I:PE X (.Dict [] [] pos) c5y:=fun pins s σ H Q I h =>
 wpAny_Dict_empty ⟨.ref s.heap.objs.size,_,I.laid (a:=s.heap.objs.size) (o:=.dK []) (t':=s.toks) (fun _ _ q=>c8h _ q) (c8d _) (b6v s.heap I.big),rfl,h _ (I.hok.fresh (c8d _))⟩
end
noncomputable abbrev VV:List (V×V)->List (c8t×c8t)->Prop:=Paired fun p q=>RelV p.1 q.1/\RelV p.2 q.2
noncomputable def b6c(kvs more:List (Key×V)):List (Key×V):=more.foldl (fun acc kv=>putK acc kv.1 kv.2) kvs
theorem KV.merge:∀{more:List (Key×V)} {rs:List (Key×c8t)} {kvs:List (Key×V)} {vs:List (Key×c8t)},KV more rs->KV kvs vs->KV (b6c kvs more) (merged vs rs):=by
 intro more rs kvs vs r;unfold KV at r
 induction r generalizing kvs vs with
 |nil=>intro q;exact q
 | @cons p q ps qs h t ih =>
   intro r0
   have e:KV (putK kvs p.1 p.2) (stored vs q.1 q.2):=by
    have:=r0.put p.1 h.2;rw[<- h.1];exact this
   exact ih e
theorem b0U{P:c8G}{w:c9d}:∀{kvs:List (Key×V)} {ws:List (c8t×c8t)},VV (kvs.map fun kv=>(kV kv.1,kv.2)) ws->∃rs,Carries (a0C P w) ws rs/\KV kvs rs
 |[],_,r=>by rw[c9g] at r;cases r;exact⟨[],d0m,.nil⟩
 | p :: kvs,_,r=>by
   rw[c8g] at r;cases r with
   | @cons a b as bs h t =>
     obtain⟨rs,c,q⟩:=b0U (P:=P) (w:=w) t;obtain⟨b1,b2⟩:=b;exact⟨(p.1,b2)::rs,⟨b3J h.1,rfl,c⟩,.cons ⟨rfl,h.2⟩ q⟩
structure M1(X:Cx)(o:Expr)(m:Str)(apos:Pos)(e:Expr)(cpos:Pos):Prop where
 base:attributeBase o m X.env (eval o X.env)=eval o X.env
 few:((backTo cpos (starEach [e] X.env)).all (fun x=>!x.1)&&(backToKw cpos (keywordEach [] X.env)).all (fun x=>x.1.isSome)
  && decide (([e]:LSE).length+([]:List d1v).length+(if ([]:List d1v).isEmpty then 0 else 1)<30))=true
 line:QLL apos cpos
 trees:backTo cpos (starEach [e] X.env)=[(false,eval e X.env)]
structure M2(X:Cx)(o:Expr)(m:Str)(apos:Pos)(e f:Expr)(cpos:Pos):Prop where
 base:attributeBase o m X.env (eval o X.env)=eval o X.env
 few:((backTo cpos (starEach [e,f] X.env)).all (fun x=>!x.1)&&(backToKw cpos (keywordEach [] X.env)).all (fun x=>x.1.isSome)
  && decide (([e,f]:LSE).length+([]:List d1v).length+(if ([]:List d1v).isEmpty then 0 else 1)<30))=true
 line:QLL apos cpos
 trees:backTo cpos (starEach [e,f] X.env)=[(false,eval e X.env),(false,eval f X.env)]
noncomputable def IsD(H:Hp)(a:Addr):Prop:=(∃kvs,Rd H a (.dK kvs))\/∃kvs,Rd H a (.dT kvs)
theorem c3a{X:Cx}{pins:PNS}{σ:St}{H:Hp}{s:c8u}{a:Addr}(I:Inv X pins σ H s)(d:IsD H a) :
  s.TypeIs (.ref a) "dict"/\(∀b,c8T a=.ref b->∃ob,s.heap.get? b=some ob/\ob.dict=none)/\(a==sysModules)=false:=by
 rcases d with ⟨kvs,e⟩|⟨kvs,e⟩
 ·obtain⟨_,hd,vs,_,dd⟩:=b5n I.hok e;refine⟨dd.typeIs,fun b q=>?_,hd⟩;cases q;obtain⟨ob,_,_,h1,h2,_⟩:=dd;exact⟨ob,h1,h2.2.1⟩
 ·obtain⟨_,hd,xs,_,dd⟩:=b5m I.hok e;refine⟨dd.typeIs,fun b q=>?_,hd⟩;cases q;obtain⟨ob,_,_,h1,h2,_⟩:=dd;exact⟨ob,h1,h2.2.1⟩
section
variable{X:Cx}{pins:PNS}{σ:St}{H:Hp}{s:c8u}{a:Addr}{y d:V}{u r:c8t}{o:Option V}{A:c8Z}{E:VPR}
theorem c6Z{Q:VPR}(hu:A.units+1<cLine)(I:Inv X pins σ H s)(g:DGet H a y o)(ry:RelV y u)(rd:RelV d r)(h:∀w' s',Inv X pins σ H s'->RelV (o.getD d) w'->Q w' s') :
  wpAny (model X.prog X.w) A (call (.builtin "dict.get") [.ref a,u,r]) Q E s:=by
 rcases g with ⟨kvs,k,e,ey,l⟩|⟨kvs,k,b,e,ey,eb,l⟩
 ·subst ey;obtain⟨z,hd,vs,rel,dd⟩:=b5n I.hok e;refine d3m PySem.F.slot_dict_get dd.typeIs PySem.F.entry_dict_get (PySem.F.args_dict_get_3 _ _ _) (meets_dict_get_default (a0C X.prog X.w) a (b3J ry) hd r) ⟨_,dd.mapOf,h _ _ (I.tok _) ?_⟩;rw[l];exact(rel.val k).getD rd
 ·subst ey;cases (show u=c8T b from ry);obtain⟨z,hd,xs,rel,dd⟩:=b5m I.hok e;refine d3m PySem.F.slot_dict_get dd.typeIs PySem.F.entry_dict_get (PySem.F.args_dict_get_3 _ _ _) (meetsH_dict_get_default (tupleKind (a0C X.prog X.w)) a b hd r) ⟨d0P hu,k,xs,b0H I.hok eb,dd,h _ _ (I.tok _) ?_⟩;rw[l];exact(rel.val k).getD rd
end
noncomputable def c5z(td ty tx:TE):TE:=fun σ H Q=>td σ H fun x H1=>∃a,x=.ref a/\IsD H1 a/\ty σ H1 fun y H2=>tx σ H2 fun z H3=>∃o,DGet H3 a y o/\Q (o.getD z) H3
noncomputable def c5x(td ty:TE):TE:=fun σ H Q=>td σ H fun x H1=>∃a,x=.ref a/\IsD H1 a/\ty σ H1 fun y H2=>∃kvs k v,H2 a=some (.dK kvs)/\y=kV k/\valV kvs k=some v/\Q v (upd H2 a (.dK (b3Z kvs k)))
section
variable{X:Cx}{o e f:Expr}{apos cpos:Pos}{td ty tx:TE}
theorem b5U(hu:X.A.units+1<cLine)(ho:PE X o td)(he:PE X e ty)(hf:PE X f tx)(m:M2 X o "get" apos e f cpos):PE X (.Call (.Attribute o "get" apos) [e,f] [] cpos) (c5z td ty tx):=by
 intro pins s σ H Q I h;refine d2E m.base m.few m.line PySem.F.plainAttrs_dict PySem.F.slot_dict_get PySem.F.type_dict_get (thn (ho pins s σ H _ I h) fun u s1 ⟨x,H1,I1,rx,a,ex,d,q1⟩=>?_);subst ex;obtain rfl:u=c8T a:=rx;obtain⟨t1,t2,_⟩:=c3a I1 d;refine⟨t1,t2,?_⟩;rw[m.trees]
 refine c9H rfl (c9W (c9E (thn (he pins s1 σ H1 _ I1 q1) fun iv s2 ⟨y,H2,I2,ry,q2⟩ =>
  c9E (thn (hf pins s2 σ H2 _ I2 q2) fun fv s3 ⟨z,H3,I3,rz,ov,g,q3⟩=>c9Z ?_))))
 exact c6Z hu I3 g ry rz fun w' s4 I4 rw'=>⟨_,H3,I4,rw',q3⟩
theorem c1H(ho:PE X o td)(he:PE X e ty)(m:M1 X o "pop" apos e cpos):PE X (.Call (.Attribute o "pop" apos) [e] [] cpos) (c5x td ty):=by
 intro pins s σ H Q I h;refine d2E m.base m.few m.line PySem.F.plainAttrs_dict PySem.F.slot_dict_pop PySem.F.type_dict_pop (thn (ho pins s σ H _ I h) fun u s1 ⟨x,H1,I1,rx,a,ex,d,q1⟩=>?_);subst ex;obtain rfl:u=c8T a:=rx;obtain⟨t1,t2,_⟩:=c3a I1 d;refine⟨t1,t2,?_⟩;rw[m.trees];refine c9H rfl (c9W (c9E (thn (he pins s1 σ H1 _ I1 q1) fun iv s2 ⟨y,H2,I2,ry,kvs,k,v,ea,ey,l,q2⟩=>c9Z ?_)));subst ey;exact c7Y I2 ea ry l (.inl rfl) fun w' s3 I3 rw'=>⟨v,_,I3,rw',q2⟩
end
noncomputable def a6v(env:Env):List (Str×d0q)->List (Str×Addr)->List (Str×Addr)
 |[],acc=>acc
 |(n,k)::r,acc=>a6v env r (if k==.free then (n,(env.cells.lookup n).getD 0)::acc else acc)
theorem a3W(env:Env)(n:Str)(k:d0q)(r:List (Str×d0q))(acc:List (Str×Addr)):a6v env ((n,k)::r) acc=a6v env r (if k==.free then (n,(env.cells.lookup n).getD 0)::acc else acc):=rfl
theorem a4C(env:Env)(f:Str×d0q->List (Str×Addr)->Sem (ForInStep (List (Str×Addr))))
  (hf:∀n k cs,f (n,k) cs=if (k==.free)=true then (do let a <- cellOf env n;pure (.yield ((n,a)::cs))) else pure (.yield cs)) :
  ∀(names:List (Str×d0q)) (acc:List (Str×Addr)),(∀y∈names,y.2=.free->∃c,env.cells.lookup y.1=some c)->forIn names acc f=(pure (a6v env names acc):Sem _)
 |[],acc,_=>by rw[d5u];rfl
 | (n,k)::r,acc,h=>by
   rw[List.forIn_cons,hf];have hr:∀y∈r,y.2=.free->∃c,env.cells.lookup y.1=some c:=fun y hy=>h y (c8m _ hy);by_cases hk:(k==d0v)=true
   ·rw[if_pos hk];obtain⟨c,hc⟩:=h (n,k) c8r (by simpa using hk);have hc':env.cells.lookup n=some c:=hc;have e:cellOf env n=pure c:=by unfold cellOf;rw[hc']
    rw[e];simp only[pure_bind];rw[a4C env f hf r _ hr];rw[a3W,if_pos hk,hc'];rfl
   ·rw[if_neg hk];simp only[pure_bind];rw[a4C env f hf r _ hr];rw[a3W,if_neg hk]
theorem b2x(scope:d1R)(env:Env)(h:∀y∈scope.names,y.2=.free->∃c,env.cells.lookup y.1=some c):closureFor scope env=pure (a6v env scope.names []):=by
 unfold closureFor;dsimp only;rw[a4C env _ (fun n k cs=>by cases hk:(k==d0v)<;>simp[hk]<;>rfl) scope.names [] h];rfl
theorem a5x(env:Env):∀(names:List (Str×d0q)) (acc:List (Str×Addr)) (x:Str) (c:Addr),(a6v env names acc).lookup x=some c ->
  (acc.lookup x=some c\/((x,.free)∈names/\c=(env.cells.lookup x).getD 0))
 |[],acc,x,c,h=>.inl h
 | (n,k)::r,acc,x,c,h=>by
   rw[a3W] at h;rcases a5x env r _ x c h with q|⟨q1,q2⟩
   ·split at q
    ·rename_i hk;have hk':k=.free:=by simpa using hk
     subst hk';rw[d2Y] at q;split at q
     ·rename_i hx;have:x=n:=by simpa using hx
      subst this;cases q;exact .inr ⟨c8r,rfl⟩
     ·exact .inl q
    ·exact .inl q
   ·exact .inr ⟨c8m _ q1,q2⟩
theorem b4g(env:Env):∀(names:List (Str×d0q)) (acc:List (Str×Addr)) (x:Str),(∃c,acc.lookup x=some c)->∃c,(a6v env names acc).lookup x=some c
 |[],acc,x,h=>h
 | (n,k)::r,acc,x,h=>by
   rw[a3W];refine b4g env r _ x ?_;split
   ·rw[d2Y];split
    ·exact⟨_,rfl⟩
    ·exact h
   ·exact h
theorem a9I(env:Env):∀(names:List (Str×d0q)) (acc:List (Str×Addr)) (x:Str),(x,d0v)∈names->∃c,(a6v env names acc).lookup x=some c
 |[],acc,x,h=>by simp at h
 | (n,k)::r,acc,x,h=>by
   rw[a3W];rcases c8n.mp h with e|h
   ·cases e;refine b4g env r _ _ ?_;rw[if_pos (by decide),d2Y];simp
   ·exact a9I env r _ x h
noncomputable def ownB(names:List (Str×d0q))(x:Str):Bool:=names.any fun y=>y.1==x&&y.2==.cell
theorem b5X{names:List (Str×d0q)}{x:Str}:ownB names x=true<->(x,d1e)∈names:=by
 unfold ownB;rw[List.any_eq_true];constructor
 ·rintro⟨⟨n,k⟩,h,e⟩;simp only[c8S,beq_iff_eq] at e;obtain⟨rfl,rfl⟩:=e;exact h
 ·intro h;exact⟨_,h,by simp⟩
theorem a1g:∀(names:List (Str×d0q)) (n:Nat) (acc:List (Str×Addr)),cellsFrom n names acc=cellsFrom n names []++acc
 |[],_,_=>rfl
 | (x,k)::r,n,acc=>by
   unfold cellsFrom;split
   ·rw[a1g r (n+1) ((x,n)::acc),a1g r (n+1) [(x,n)],c9t];rfl
   ·exact a1g r n acc
theorem a2A:∀(names:List (Str×d0q)) (n:Nat) {x:Str} {c:Addr},(x,c)∈cellsFrom n names []->n<=c/\(x,d1e)∈names
 |[],_,_,_,h=>nomatch h
 | (y,k)::r,n,x,c,h=>by
   unfold cellsFrom at h;split at h
   ·rename_i hk;have hk':k=.cell:=by simpa using hk
    subst hk';rw[a1g] at h;rcases c8U.mp h with h|h
    ·have:=a2A r (n+1) h;exact⟨by lia,c8m _ this.2⟩
    ·cases c8A.mp h;exact⟨c8d _,c8r⟩
   ·have:=a2A r n h;exact⟨this.1,c8m _ this.2⟩
theorem a2X:∀(names:List (Str×d0q)) (n:Nat) {x:Str},(x,d1e)∈names->((cellsFrom n names []).lookup x).isSome=true
 |[],_,_,h=>nomatch h
 | (y,k)::r,n,x,h=>by
   unfold cellsFrom;rcases c8n.mp h with e|h
   ·cases e;rw[if_pos (by decide),a1g,d0Q];cases hh:(cellsFrom (n+1) r []).lookup y with
    |some c=>rfl
    |none=>simp
   ·have i0:=a2X r n h;have i1:=a2X r (n+1) h;split
    ·rw[a1g,d0Q];cases hh:(cellsFrom (n+1) r []).lookup x with
     |some c=>rfl
     |none=>rw[hh] at i1;cases i1
    ·exact i0
theorem a3k:∀(names:List (Str×d0q)) (n:Nat),(cellsFrom n names []).Pairwise fun x y=>x.2≠y.2
 |[],_=>d2D
 | (y,k)::r,n=>by
   unfold cellsFrom;split
   ·rw[a1g];refine List.pairwise_append.mpr ⟨a3k r (n+1),c9D _ _,fun a ha b hb=>?_⟩;rw[c8A.mp hb];have:=(a2A r (n+1) (x:=a.1) (c:=a.2) ha).1;show a.2≠n;exact d0G (Nat.lt_of_succ_le this)
   ·exact a3k r n
theorem a7n{M:d5P}{A:c8Z}{E:VPR}{s:c8u}{scope:d1R}{globals:Addr}{closure:List (Str×Addr)}{qual:Str}{func:Option Addr}{code:c8t}{around:Env}{builtins:Addr}{Q:Env->c8u->Prop}
  (hQ:∀h',h'=pushCells (s.heap.push { cls:=.type "dict",data:=.dict #[] }) scope.names->Q (newEnv scope s.heap.objs.size globals (cellsFrom (s.heap.objs.size+1) scope.names []++closure) qual func code (some around) builtins) { s with heap:=h' }) :
  wpAny M A (newFunctionEnv scope globals closure [] qual func code (some around) builtins) Q E s:=by
 simp only[newFunctionEnv,d4e,if_true];refine c8f (wpAny_alloc ?_);refine c8f (wpAny_layCells _ (fun name kind cells=>by cases hkc:kind==d1e<;>simp[hkc]) _ _ _ _ ?_);rw[a1g,show({ s with heap:=s.heap.push { cls:=.type "dict",data:=.dict #[] } }:c8u).heap.objs.size=s.heap.objs.size+1 from d0N ..];refine c8f ?_;rw[d5u];exact c8x (c8x (hQ _ rfl))
section
variable{prog:c8G}{w:c9d}{A:c8Z}{R:d5S->c8u->Prop}{s:c8u}
theorem a5M{elt target iter:Expr}{ifs:LSE}{scope:d1R}{pos:Pos}{it acc:c8t}{env:Env}(I:Nat->c8u->Prop)
  (turn:∀n s,I n s->wpAny (model prog w) A (pyNext it) (fun r s₁=>match r with
   |none=>R (.ok .next) s₁
   | some v=>wpAny (model prog w) A (letOwnedTupleGo target it v) (fun _ s₁'=>wpAny (model prog w) A (assign target env v) (fun _ s₂ =>
     wpAny (model prog w) A (forIn ifs true fun c r=>if r=true then do let ok <- isTrue c env (eval c env);pure (d1X ok) else pure (d1X r)) (fun ok s₃ =>
      if ok=true then wpAny (model prog w) A (eval elt env) (fun x s₄ =>
       wpAny (model prog w) A (call (.builtin "list.append") [acc,x]) (fun _ s₅=>∃m,m<n/\I m s₅) (notedBy (model prog w) A env fun e s'=>R (.error e) s') s₄) (notedBy (model prog w) A env fun e s'=>R (.error e) s') s₃
      else ∃m,m<n/\I m s₃) (notedBy (model prog w) A env fun e s'=>R (.error e) s') s₂) (notedBy (model prog w) A env fun e s'=>R (.error e) s') s₁') (notedBy (model prog w) A env fun e s'=>R (.error e) s') s₁) (notedBy (model prog w) A env fun e s'=>R (.error e) s') s)
  (n:Nat) (h:I n s) :
  codeAny (model prog w) A (.compLoop (.ListComp elt [⟨target,iter,ifs,0⟩] scope pos) 0 it acc env) R s:=by
 refine codeAny_loop rfl I (fun n s hI=>?_) n h
 show wpAny _ A ((compTurn (.ListComp elt [⟨target,iter,ifs,0⟩] scope pos) 0 it acc env).onRaise (fun x=>do noteFrame x env;theTreesLotGoes x)) _ _ s
 refine wpAny_noted ?_;rw[compTurn_list];refine c8f (d3Y (c8f (c9G (turn n s hI) (fun r s₁ h₁=>?_) fun _ _ h'=>h')));cases r with
 |none=>exact c8x h₁
 | some v =>
   refine c8f (c9G h₁ (fun _ s₁' h₁'=>c8f (c9G h₁' (fun _ s₂ h₂=>c8f (c9G h₂ (fun ok s₃ h₃=>?_) fun _ _ h'=>h')) fun _ _ h'=>h')) fun _ _ h'=>h');cases ok with
   |false=>exact c8x ⟨rfl,h₃⟩
   | true =>
     exact c8f (c8f (c9G h₃ (fun x s₄ h₄=>c8f (c9G h₄ (fun _ s₅ h₅=>c8x (c8x ⟨rfl,h₅⟩)) fun _ _ h'=>h')) fun _ _ h'=>h'))
end
noncomputable def blk(X:Cx)(N':LSS)(scope:d1R)(C:Addr)(s:c8u)(H:Hp)(fp:List Addr)(pins:PNS):Cx where
 prog:=X.prog
 w:=X.w
 K:=X.K
 mg:=X.mg
 base:=X.base
 A:=X.A
 N:=N'
 s₀:=s
 H₀:=H
 env:=compEnvC scope (cellsFrom (C+1) scope.names []++a6v X.env scope.names []) C X.env
 outer:=X.stack
 stack:=X.stack
 ex:=fp
 fn:=ownB scope.names
 calm:=X.calm
 pn:=X.pn++pins
 xe:=fun _ _=>False
structure BlkScope(X:Cx)(N':LSS)(ix:List (Option Nat))(scope:d1R):Prop where
 kind:scope.kind=.function
 locs:∀y∈scope.names,y.2=.local->scope.names.lookup y.1=some .local
 frees:∀y∈scope.names,y.2=.free->(X.env.kindOf y.1=some .cell\/X.env.kindOf y.1=some .free)
 look:∀x k,(relabel scope X.env).names.lookup x=some k->(k=.cell\/k=.free)->(x,d0v)∈scope.names\/(x,d1e)∈scope.names
 lenI:ix.length=N'.length
 at_:∀(i j:Nat) (x:Str),ix[i]?=some (some j)->N'[i]?=some x->X.N[j]?=some x/\(x,d0v)∈scope.names/\ownB scope.names x=false/\(relabel scope X.env).names.lookup x=X.env.kindOf x
variable{X:Cx}{pins:PNS}{σ:St}{H:Hp}{s:c8u}{N':LSS}{ix:List (Option Nat)}{scope:d1R}
noncomputable def pick(ix:List (Option Nat))(σ:St):St:=ix.map fun o=>match o with|some j=>(σ[j]?).join|none=>none
theorem b5T{i:Nat}{v:V}(e:(pick ix σ)[i]?=some (some v)):∃j,ix[i]?=some (some j)/\σ[j]?=some (some v):=by
 unfold pick at e;rw[c8i] at e;cases h:ix[i]? with
 |none=>rw[h] at e;cases e
 | some o =>
   rw[h] at e;cases o with
   | none =>
     have e':(none:Option V)=some v:=c8z e;cases e'
   | some j =>
     have e':(σ[j]?).join=some v:=c8z e;refine⟨j,rfl,?_⟩;cases hj:σ[j]? with
     |none=>rw[hj] at e';cases e'
     |some u=>rw[hj] at e';exact congrArg some e'
theorem a2C(I:Inv X pins σ H s)(S:BlkScope X N' ix scope)(C:Addr){x:Str}{c:Addr}(e:(cellsFrom (C+1) scope.names []++a6v X.env scope.names []).lookup x=some c) :
  (C<c/\(cellsFrom (C+1) scope.names []).lookup x=some c)\/(ownB scope.names x=false/\X.env.cells.lookup x=some c):=by
 rw[d0Q] at e;cases h:(cellsFrom (C+1) scope.names []).lookup x with
 | some c' =>
   rw[h] at e;cases e;exact .inl ⟨(a2A _ _ (mem_of_lookup h)).1,rfl⟩
 | none =>
   rw[h] at e;refine .inr ⟨d1D.mpr fun z=>?_,?_⟩
   ·have:=a2X scope.names (C+1) (b5X.mp z);rw[h] at this;cases this
   ·have e':(a6v X.env scope.names []).lookup x=some c:=e;rcases a5x X.env scope.names [] x c e' with q|⟨q,rfl⟩
    ·cases q
    ·obtain⟨c,hc⟩:=I.ok.has x (S.frees _ q rfl);rw[hc]<;>rfl
theorem c7a{fp:List Addr}{C:Addr}(I:Inv X pins σ H s)(hf:∀b∈fp,FpOk X pins H b)(S:BlkScope X N' ix scope)(hC:s.heap.objs.size<=C)(hfo:∀b∈fp,∃o,s.heap.get? b=some o) :
  (blk X N' scope C s H fp pins).Ok:=by
 have lt:∀x c,X.env.cells.lookup x=some c->c<C:=fun x c e=>by
  obtain⟨v,z⟩:=I.cell x c e;exact c8w z.lt hC
 refine⟨I.ok.mod,?_,I.ok.glob,I.ok.blt,hC,fun x y c h1 h2=>?_,fun x hx=>?_,fun x c hf' e=>?_,I.ok.hd,I.ok.frames,.inl rfl,fun b hb=>?_,I.bs,c8C I.ok.bsz I.sz,fun b o e hb=>?_,fun b hb hs=>?_,I.stack,I.stkFree⟩
 ·exact S.kind
 ·rcases a2C I S C h1 with ⟨a1,a2⟩|⟨a1,a2⟩<;>rcases a2C I S C h2 with ⟨b1,b2⟩|⟨b1,b2⟩
  ·exact name_of_addr (a3k _ _) (mem_of_lookup a2) (mem_of_lookup b2)
  ·exact absurd (d0H (lt _ _ b2) a1) (c9x _)
  ·exact absurd (d0H (lt _ _ a2) b1) (c9x _)
  ·exact I.ok.inj x y c a2 b2
 ·have hx':(relabel scope X.env).names.lookup x=some .cell\/(relabel scope X.env).names.lookup x=some .free:=hx
  have key:(x,d0v)∈scope.names\/(x,d1e)∈scope.names:=by
   rcases hx' with hx'|hx'
   ·exact S.look x _ hx' (.inl rfl)
   ·exact S.look x _ hx' (.inr rfl)
  show ∃c,(cellsFrom (C+1) scope.names []++a6v X.env scope.names []).lookup x=some c;rw[d0Q];cases h:(cellsFrom (C+1) scope.names []).lookup x with
  |some c=>exact⟨c,rfl⟩
  | none =>
    rcases key with k|k
    ·obtain⟨c,hc⟩:=a9I X.env scope.names [] x k;exact⟨c,by rw[hc];rfl⟩
    ·have:=a2X scope.names (C+1) k;rw[h] at this;cases this
 ·rcases a2C I S C e with ⟨a1,a2⟩|⟨a1,a2⟩
  ·exact d0T (c8D hC a1)
  ·have hf2:ownB scope.names x=true:=hf';rw[a1] at hf2;cases hf2
 ·obtain⟨f0,f1,f2,f3,f4,f5⟩:=hf b hb;obtain⟨o,ho⟩:=hfo b hb;refine⟨c8P (c8w (c8o ho) hC),fun x c e=>?_⟩;rcases a2C I S C e with ⟨a1,a2⟩|⟨a1,a2⟩
  ·exact d0G (d0H (c8w (c8o ho) hC) a1)
  ·exact f4 x c a2
 ·obtain⟨f0,f1,f2,f3,f4,f5⟩:=hf b hb;have:=(I.ok.bs b o e).1;rcases f3 with z|z
  ·exact I.ok.noex b o e z
  ·exact absurd (c8w (c8o this) z) (c9x _)
 ·obtain⟨f0,f1,f2,f3,f4,f5⟩:=hf b hb;rcases c8n.mp (I.stkSub b hs) with e|e
  ·exact f1 e
  ·exact f2 e
theorem c0I{fp:List Addr}{C:Addr}{h₁:Heap}{tk:Nat}(I:Inv X pins σ H s)(hf:∀b∈fp,FpOk X pins H b)(S:BlkScope X N' ix scope)(hC:s.heap.objs.size<=C)(hfo:∀b∈fp,∃o,s.heap.get? b=some o)
  (hns:h₁.Ns C (fun _=>none)) (hk:∀b o,s.heap.get? b=some o->h₁.get? b=some o) (hown:∀x c,(x,c)∈cellsFrom (C+1) scope.names []->h₁.IsCell c none) :
  Inv (blk X N' scope C s H fp pins) [] (pick ix σ) H { s with heap:=h₁,toks:=tk }:=by
 have nC:∀b o,s.heap.get? b=some o->b≠C:=fun b o e=>c8P (c8w (c8o e) hC);refine⟨c7a I hf S hC hfo,rfl,I.bare,Un.kept hk,⟨_,hns,fun i x v h1 h2 h3=>?_⟩,fun x c e=>?_,I.hok.fresh hC,fun x c e=>?_,fun p hp=>?_,I.hok.kept hk,?_⟩
 ·obtain⟨j,e1,e2⟩:=b5T h2;obtain⟨a1,a2,a4,a3⟩:=S.at_ i j x e1 h1;have kd:=S.frees _ a2 rfl
  have vis:Vis X.env.scope x:=by
   rcases kd with k|k
   ·exact .inr (.inl k)
   ·exact .inr (.inr k)
  obtain⟨m,hn,hl⟩:=I.loc;obtain⟨u,r,l⟩:=hl j x v a1 e2 vis;refine⟨u,r,.inr ?_⟩;have kd':X.env.kindOf x=some .cell\/X.env.kindOf x=some .free:=kd;rcases l with ⟨k,_⟩|⟨k,c,ec,z⟩
  ·rcases kd' with q|q<;>(rw[q] at k;cases k)
  ·refine⟨?_,c,?_,z.keeps hk⟩
   ·show(relabel scope X.env).names.lookup x=some .cell\/(relabel scope X.env).names.lookup x=some .free;rw[a3];exact kd'
   ·obtain⟨c',hc'⟩:=a9I X.env scope.names [] x a2;show(cellsFrom (C+1) scope.names []++a6v X.env scope.names []).lookup x=some c
    have hn:(cellsFrom (C+1) scope.names []).lookup x=none:=by
     cases h:(cellsFrom (C+1) scope.names []).lookup x with
     |none=>rfl
     | some c2 =>
       have:=b5X.mpr (a2A _ _ (mem_of_lookup h)).2;rw[a4] at this;cases this
    rw[d0Q,hn];show(a6v X.env scope.names []).lookup x=some c;rcases a5x X.env scope.names [] x c' hc' with q|⟨q,q2⟩
    ·cases q
    ·rw[hc',q2,ec];rfl
 ·rcases a2C I S C e with ⟨a1,a2⟩|⟨a1,a2⟩
  ·exact⟨none,hown x c (mem_of_lookup a2)⟩
  ·obtain⟨v,z⟩:=I.cell x c a2;exact⟨v,z.keeps hk⟩
 ·rcases a2C I S C e with ⟨a1,a2⟩|⟨a1,a2⟩
  ·exact I.hok.fresh (d0T (c8D hC a1))
  ·exact I.freeC x c a2
 ·have hp':p∈X.pn++pins:=by
   have:p∈(X.pn++pins)++[]:=hp
   simpa using this
  obtain⟨e,n,ne,nf,d⟩:=I.pin p hp';refine⟨hk _ _ e,n,nC _ _ e,fun hb=>?_,d⟩;rcases c8n.mp (I.stkSub _ hb) with z|z
  ·exact ne z
  ·exact nf z
 ·show(pick ix σ).length=N'.length;unfold pick;rw[c8a,S.lenI]
theorem c4X{fp:List Addr}{C D:Addr}{h':Heap}{H':Hp}{σ':St}{s':c8u}{ys:List V}{its:LSV}{cap:Nat}(I:Inv X pins σ H s)(hf:∀b∈fp,FpOk X pins H b)(hC:s.heap.objs.size<=C)(hD:s.heap.objs.size<=D)(hDC:D≠C)
  (J:Inv (blk X N' scope C s H fp pins) [] σ' H' s') (hDn:H' D=none) (ho:s'.heap.get? D=some { cls:=.type "list",data:=.seq its.toArray cap }) (r:Vals ys its) (hz:ys.length<=sizeLine) (sb:d1r C s'.heap h') :
  Inv X pins σ (upd H' D (.lst ys)) { s' with heap:=h' }:=by
 have sb':∀b o,b≠C->s'.heap.get? b=some o->h'.get? b=some o:=sb.extBut;have nC:∀b o,s.heap.get? b=some o->b≠C:=fun b o e=>c8P (c8w (c8o e) hC);have nD:∀b o,s.heap.get? b=some o->b≠D:=fun b o e=>c8P (c8w (c8o e) hD);have hCn:H' C=none:=J.free;have u:=J.base;refine I.call' (ch:=fp) (s':={ s' with heap:=h' }) J.os ⟨fun b o e n hb hx=>?_,fun b o e n hb hx=>?_,fun b o e n hx=>?_,fun b o e hx=>?_,fun b xs e=>?_,fun b o v e=>?_,fun b ps e=>?_⟩ (fun b o e=>?_) J.bare (fun b hb=>?_)
 ·exact sb' _ _ (nC b o e) (u.keep b o e n hb hx)
 ·obtain⟨sl,q⟩:=u.slot b o e n hb hx;exact⟨sl,sb' _ _ (nC b o e) q⟩
 ·rw[a0B (nD b o e)];exact u.free b o e n hx
 ·obtain⟨o',q⟩:=u.there b o e hx;exact⟨o',sb' _ _ (nC b o e) q⟩
 ·have q:=u.tups b xs e;rw[a0B (a0A q hDn)];exact q
 ·have q:=u.frzs b o v e;rw[a0B (a0A q hDn)];exact q
 ·obtain⟨m,q⟩:=u.tbls b ps e;exact⟨m,by rw[a0B (a0A q hDn)];exact q⟩
 ·by_cases hb:b=D
  ·subst hb;rw[a0O] at e;cases e;exact⟨hz,its,cap,r,sb' _ _ hDC ho⟩
  ·rw[a0B hb] at e;refine(J.hok b o e).stay (fun c v hc q=>sb' c v ?_ q) (fun c q=>by rw[a0B (a0A q hDn)];exact q) fun c xs q=>by rw[a0B (a0A q hDn)];exact q
   rcases hc with rfl|hc
   ·exact a0A e hCn
   ·exact a0A hc hCn
 ·obtain⟨f0,f1,f2,f3,f4,f5⟩:=hf b hb;exact⟨f3,f1,f4,f5⟩
noncomputable def c0Z(wi:TI)(ix:List (Option Nat))(g:TG)(tt:TT)(te:TE):TE:=fun σ H Q=>wi σ H fun J H1=>∃W:Nat->Nat->List V->Hp->Prop,(∃m,W 0 m [] H1)/\∀i m ys H,W i m ys H ->
 (J.stop i H/\ys.length<=sizeLine/\∀p,H p=none->Q (.ref p) (upd H p (.lst ys))) \/
 (J.go i H/\ys.length<sizeLine/\∀x H',J.yld i H x H'->g x (pick ix σ) H' fun σ2 H2=>tt σ2 H2 fun ok H3 =>
  if ok=true then te σ2 H3 fun y H4=>∃m',m'<m/\W (i+1) m' (ys++[y]) H4 else ∃m',m'<m/\W (i+1) m' ys H3)
noncomputable def PTs(X:Cx)(ifs:LSE)(t:TT):Prop :=
 ∀ pins s σ H (Q:Bool->Hp->Prop),Inv X pins σ H s->t σ H Q ->
   wpAny (model X.prog X.w) X.A (forIn ifs true fun c r=>if r=true then do let ok <- isTrue c X.env (eval c X.env);pure (d1X ok) else pure (d1X r)) (TP X pins σ Q) X.xe s
noncomputable def tYes:TT:=fun _ H Q=>Q true H
theorem c3Y:PTs X [] tYes:=fun _ _ _ H _ I h=>wpAny_tests_nil ⟨H,I,h⟩
theorem c3X{c:Expr}{t:TT}(h:PT X c t):PTs X [c] t:=fun pins s σ H Q I hw=>wpAny_tests_one (h pins s σ H Q I hw)
noncomputable def Agr(ix:List (Option Nat))(σ σ2:St):Prop:=σ2.length=σ.length/\∀(k j:Nat),ix[k]?=some (some j)->σ2[k]?=σ[k]?
noncomputable def Own(ix:List (Option Nat))(g:TG):Prop:=∀(x:V) (σ0 σ:St) (H:Hp) (Q:St->Hp->Prop),Agr ix σ0 σ->g x σ H Q->g x σ H fun σ2 H2=>Q σ2 H2/\Agr ix σ0 σ2
theorem c1M{ix:List (Option Nat)}{i:Nat}(h:ix[i]?=some none):Own ix (c0g i):=by
 intro x σ0 σ H Q a q;refine⟨q,by rw[c9K];exact a.1,fun k j hk=>?_⟩;rw[d0z]
 ·exact a.2 k j hk
 ·rintro rfl;rw[h] at hk;cases hk
theorem b4f {elt iter tg:Expr} {ifs:LSE} {pos posc:Pos} {wi:TI} {g:TG} {tt:TT} {te:TE} (use:Option (c8t->Sem Unit)) (QQ:VPR) (hc:X.calm=true) (hi:PI X tg iter wi) (S:BlkScope X N' ix scope) (ow:Own ix g)
  (hg:∀C s H fp pins,PG (blk X N' scope C s H fp pins) tg g) (ht:∀C s H fp pins,PTs (blk X N' scope C s H fp pins) ifs tt) (he:∀C s H fp pins,PE (blk X N' scope C s H fp pins) elt te)
  (hs:∀x,foldedSetIterable iter X.env x=pure x) (pins:PNS) (s:c8u) (σ:St) (H:Hp) (Q:VK) (I:Inv X pins σ H s) (h:c0Z wi ix g tt te σ H Q)
  (hpost:∀(C D:Addr) (H5:Hp) (s4:c8u) (m:SOV),s4.heap.Ns C m->FpOk X pins H5 C->(∀h',d1r C s4.heap h'->Inv X pins σ H5 { s4 with heap:=h' })->Q (.ref D) H5 ->
   compPost (model X.prog X.w) X.A X.xe use QQ (.ref D) C (.ok .next) s4) :
  wpAny (model X.prog X.w) X.A (comprehension (.ListComp elt [⟨tg,iter,ifs,0⟩] scope pos) scope X.env posc (newList []) false (eval iter X.env) use) QQ X.xe s:=by
 refine wpAny_comprehension_free (use:=use) rfl hs (b2x scope X.env fun y hy hk=>I.ok.has y.1 (S.frees y hy hk)) S.kind S.locs (thn (hi pins s σ H _ I h) fun v s1 h1=>thn h1 fun itv s2 h2=>?_);obtain⟨it,fp,tn,J,H2,e,I2,T,st2,f2,W,⟨m0,w0⟩,turn⟩:=h2;subst e
 have hfo:∀b∈fp,∃o,s2.heap.get? b=some o:=fun b hb=>let ⟨o,e,_⟩:=T.obj _ _ st2 b hb;⟨o,e⟩
 refine c9C (a7n (fun h₁ eh₁=>?_))
 dsimp only at eh₁|-
 generalize hH2:s2.heap.push { cls:=.type "list",dict:=none,data:=.seq ([]:LSV).toArray }=Hp2 at eh₁|-
 have hC:Hp2.objs.size=s2.heap.objs.size+1:=by rw[<- hH2,d0N]
 have old1:∀b o,Hp2.get? b=some o->h₁.get? b=some o:=fun b o e=>by rw[eh₁];exact d5m _ _ _ _ (c8h _ e)
 have hns:h₁.Ns Hp2.objs.size (fun _=>none):=by rw[eh₁];exact(Heap.Ns.new Hp2 (.type "dict")).keeps (d5m _ _)
 have hown:∀x c,(x,c)∈cellsFrom (Hp2.objs.size+1) scope.names []->h₁.IsCell c none:=fun x c hm=>by
  have ok:=cellsFrom_ok scope.names (Hp2.push { cls:=.type "dict",data:=.dict #[] }) (Hp2.objs.size+1) [] ⟨fun _ _ hm=>(nomatch hm),d2D⟩ (by rw[d0N];exact c8d _);rw[d0N] at ok;rw[eh₁];exact(ok.empty x c hm).1
 generalize hCC:Hp2.objs.size=C at hns hown hC|-
 generalize hDD:s2.heap.objs.size=D at hC;have hCge:s2.heap.objs.size<=C:=by rw[hDD,hC];exact d1C _
 have hDge:s2.heap.objs.size<=D:=d2i hDD;have hDC:D≠C:=by rw[hC];exact c8P (d0h _)
 have hDlt:D<C:=by rw[hC];exact d0h _
 have old:∀b o,s2.heap.get? b=some o->h₁.get? b=some o:=fun b o e=>old1 b o (hH2▸c8h _ e);have hacc:h₁.get? D=some { cls:=.type "list",data:=.seq ([]:LSV).toArray 0 }:=old1 _ _ (hH2▸hDD▸c8E _ rfl)
 have stat:∀{H':Hp},(∀b∈fp,H' b=none)->∀b∈fp,FpOk (blk X N' scope C s2 H2 fp pins) [] H' b:=fun hn b hb=>by
  obtain⟨f0,f1,f2,f3,f4,f5⟩:=f2 b hb;obtain⟨o,ho⟩:=hfo b hb;refine⟨hn b hb,c8P (c8w (c8o ho) hCge),fun z=>?_,.inl hb,fun x c e=>?_,fun p hp=>?_⟩
  ·rcases c8n.mp (I2.stkSub _ z) with e|e
   ·exact f1 e
   ·exact f2 e
  ·rcases a2C I2 S C e with ⟨a1,a2⟩|⟨a1,a2⟩
   ·exact d0G (d0H (c8w (c8o ho) hCge) a1)
   ·exact f4 x c a2
  ·have:p∈(X.pn++pins)++[]:=hp;exact f5 p (by simpa using this)
 have hDs:D∉(blk X N' scope C s2 H2 fp pins).fs:=fun hb=>by
  rcases c8n.mp (I2.stkSub _ hb) with e|e
  ·rw[e] at hDge;exact absurd (c8w I2.lt hDge) (c9x _)
  ·exact I2.nofs hDge e
 have loop:∀s₃:c8u,s₃={ s2 with heap:=h₁ } ->
   codeAny (model X.prog X.w) X.A (.compLoop (.ListComp elt [⟨tg,iter,ifs,0⟩] scope pos) 0 (.ref it) (.ref D) (compEnvC scope (cellsFrom (C+1) scope.names []++a6v X.env scope.names []) C X.env))
    (compPost (model X.prog X.w) X.A X.xe use QQ (.ref D) C) s₃:=by
  rintro s₃ rfl
  refine a5M (fun n s'=>∃i ys its cap H',Inv (blk X N' scope C s2 H2 fp pins) [] (pick ix σ) H' s'/\tn i s'.heap/\(∀b∈fp,H' b=none)/\H' D=none /\
    s'.heap.get? D=some { cls:=.type "list",data:=.seq (its:LSV).toArray cap }/\Vals ys its/\W i n ys H') ?_ m0
   ⟨0,[],[],0,H2,c0I I2 f2 S hCge hfo hns old hown,T.keep _ _ _ st2 fun b _ o e=>old b o e,fun b hb=>(f2 b hb).1,I2.hok.fresh hDge,hacc,.nil,w0⟩
  rintro n s3 ⟨i,ys,its,cap,H3,I3,st3,fr3,hD3,ho3,r3,w3⟩
  have I3d:Inv (blk X N' scope C s2 H2 fp pins) [(D,{ cls:=.type "list",data:=.seq its.toArray cap })] (pick ix σ) H3 s3:=I3.pins_of fun p hp=>by
   have e:p=(D,{ cls:=.type "list",data:=.seq its.toArray cap }):=by simpa using hp
   subst e;exact⟨ho3,hD3,hDC,hDs,fun v z=>nomatch z⟩
  have statD:∀{H':Hp},(∀b∈fp,H' b=none)->∀b∈fp,FpOk (blk X N' scope C s2 H2 fp pins) [(D,({ cls:=.type "list",data:=.seq its.toArray cap }:Obj))] H' b:=fun hn b hb=>by
   obtain⟨f0,f1,f2,f3,f4,f5⟩:=stat hn b hb;obtain⟨o,ho⟩:=hfo b hb;refine⟨f0,f1,f2,f3,f4,fun p hp=>?_⟩;rcases c8U.mp hp with z|z
   ·exact f5 p (c8O _ z)
   ·have e:p=(D,({ cls:=.type "list",data:=.seq its.toArray cap }:Obj)):=by simpa using z
    subst e;exact d0G (c8w (c8o ho) hDge)
  rcases turn i n ys H3 w3 with ⟨stop,hz,qn⟩|⟨go,hz,step⟩
  ·refine d1f (thn (T.done (blk X N' scope C s2 H2 fp pins) rfl rfl rfl hc i _ s3 (pick ix σ) H3 (fun _ _=>False) I3d (statD fr3) st3 stop) fun r s4 ⟨hr,I4⟩=>?_);subst hr;obtain⟨e4,n4,_⟩:=I4.pin (D,_) (c8Q _ (c8A.mpr rfl));obtain⟨m,hn,_⟩:=id I4.loc;have hC4:H3 C=none:=I4.free;exact hpost C D _ _ m hn (I2.fpOk hCge (by rw[a0B (d1u hDC)];exact hC4)) (fun h' sb=>c4X I2 f2 hCge hDge hDC (Inv.unpinned (pl:=[(D,_)]) (pins:=[]) I4) n4 e4 r3 hz sb) (qn D n4)
  ·refine d1f (thn (T.item (blk X N' scope C s2 H2 fp pins) rfl rfl rfl hc i _ s3 (pick ix σ) H3 (fun _ _=>False) I3d (statD fr3) st3 go) fun r s4 ⟨u,hr,h4⟩=>?_);subst hr;refine d1f (thn h4 fun _ s5 ⟨x,H5,I5,r5,y5,st5,fr5⟩=>?_);have I5':=I5.pinned (statD fr5) (T.obj _ _ st5);have again:∀{σ7:St} {H7:Hp} {s7:c8u},Inv (blk X N' scope C s2 H2 fp pins) ([(D,({ cls:=.type "list",data:=.seq its.toArray cap }:Obj))]++b0w fp s5.heap) σ7 H7 s7 ->
     H7 D=none/\s7.heap.get? D=some { cls:=.type "list",data:=.seq its.toArray cap }/\tn (i+1) s7.heap/\∀b∈fp,H7 b=none:=fun {σ7 H7 s7} I7=>by
    obtain⟨e7,n7,_⟩:=I7.pin (D,_) (c8Q _ (c8O _ (c8A.mpr rfl)));refine⟨n7,e7,T.keep _ _ _ st5 fun b hb o e=>(I7.pin (b,o) (c8Q _ (c8Q _ (a5E hb e)))).1,fun b hb=>?_⟩;obtain⟨o,e,d⟩:=T.obj _ _ st5 b hb;exact(I7.pin (b,o) (c8Q _ (c8Q _ (a5E hb e)))).2.1
   have forget:∀{σ7:St} {H7:Hp} {s7:c8u},Inv (blk X N' scope C s2 H2 fp pins) ([(D,({ cls:=.type "list",data:=.seq its.toArray cap }:Obj))]++b0w fp s5.heap) σ7 H7 s7 ->
     (∀(k:Nat) v,(pick ix σ)[k]?=some (some v)->σ7[k]?=some (some v))->σ7.length=(pick ix σ).length->Inv (blk X N' scope C s2 H2 fp pins) [] (pick ix σ) H7 s7:=fun {σ7 H7 s7} I7 hk hl =>
    (I7.pins_of (pins':=[]) fun _ z=>nomatch z).weak hl.symm hk
   refine d1f (thn (hg C s2 H2 fp pins _ s5 (pick ix σ) H5 x u _ I5' r5 (ow _ _ _ _ _ ⟨rfl,fun _ _ _=>rfl⟩ (step x H5 y5))) fun _ s6 ⟨σ6,H6,I6,q6,l6,k6⟩=>?_)
   have back:∀(k:Nat) v,(pick ix σ)[k]?=some (some v)->σ6[k]?=some (some v):=fun k v e=>by
    obtain⟨j,e1,_⟩:=b5T e;rw[k6 k j e1];exact e
   refine d1f (thn (ht C s2 H2 fp pins _ s6 σ6 H6 _ I6 q6) fun ok s7 ⟨H7,I7,q7⟩=>?_);cases ok with
   | false =>
     rw[if_neg c8F];rw[if_neg c8F] at q7;obtain⟨m',hm,w7⟩:=q7;obtain⟨a1,a2,a3,a4⟩:=again I7;exact⟨m',hm,i+1,ys,its,cap,H7,forget I7 back l6,a3,a4,a1,a2,r3,w7⟩
   | true =>
     rw[if_pos rfl];rw[if_pos rfl] at q7;refine d1f (thn (he C s2 H2 fp pins _ s7 σ6 H7 _ I7 q7) fun z s8 ⟨y,H8,I8,r8,m',hm,w8⟩=>?_);obtain⟨a1,a2,a3,a4⟩:=again I8;have hl:=r3.length;refine d1f (wpAny_list_append_plain ⟨_,a2⟩ (fun h9 ⟨cap9,p9⟩ sb9=>?_) (by rw[c8j,<- hl];exact d0T hz))
     have I9:Inv (blk X N' scope C s2 H2 fp pins) [] (pick ix σ) H8 { s8 with heap:=h9 } :=
      (forget I8 back l6).turned (t':=s8.toks) (it:=D) (fun b o hb e=>sb9.extBut b o hb e) a1 hDC (.inr hDge) (fun x c e=>by
       rcases a2C I2 S C e with ⟨a1,a2⟩|⟨a1,a2⟩
       ·exact d0G (d0H hDlt a1)
       ·obtain⟨v,z⟩:=I2.cell x c a2
        exact c8P (c8w z.lt hDge)) (fun p hp=>by
       have hp':p∈(X.pn++pins)++[]:=hp
       exact c8P (c8w (c8o (I2.pin p (by simpa using hp')).1) hDge))
     refine⟨m',hm,i+1,ys++[y],its++[z],cap9,H8,I9,?_,a4,a1,?_,r3.append (.cons r8 .nil),w8⟩
     ·refine T.keep _ _ _ a3 fun b hb o e=>sb9.extBut b o ?_ e;obtain⟨o',ho'⟩:=hfo b hb;exact c8P (c8w (c8o ho') hDge)
     ·rw[p9];simp
 exact codeAny_compStart_list (loop _ rfl) (T.self _ _ _ _ _ (T.keep _ _ _ st2 fun b _ o e=>old b o e) (loop _ rfl))
theorem c4h{elt iter tg:Expr}{ifs:LSE}{pos:Pos}{wi:TI}{g:TG}{tt:TT}{te:TE}(hc:X.calm=true)(hi:PI X tg iter wi)(S:BlkScope X N' ix scope)(ow:Own ix g)
  (hg:∀C s H fp pins,PG (blk X N' scope C s H fp pins) tg g) (ht:∀C s H fp pins,PTs (blk X N' scope C s H fp pins) ifs tt) (he:∀C s H fp pins,PE (blk X N' scope C s H fp pins) elt te)
  (hs:∀x,foldedSetIterable iter X.env x=pure x:=by intro _;rfl) :
  PE X (.ListComp elt [⟨tg,iter,ifs,0⟩] scope pos) (c0Z wi ix g tt te):=by
 intro pins s σ H Q I h;rw[eval_ListComp];exact b4f none (EP X pins σ Q) hc hi S ow hg ht he hs pins s σ H Q I h fun C D H5 s4 m hn _ inv q=>⟨m,hn,fun h' sb=>⟨.ref D,H5,inv h' sb,rfl,q⟩⟩
theorem c4a{i:Nat}{x:Str}{elt iter tg:Expr}{ifs:LSE}{pos pos' spos:Pos}{wi:TI}{g:TG}{tt:TT}{te:TE}(hN:X.N.Nodup)(hi':X.N[i]?=some x)(hx:Loc X.env.scope x)(hc:X.calm=true)(hi:PI X tg iter wi)(S:BlkScope X N' ix scope)(ow:Own ix g)
  (hg:∀C s H fp pins,PG (blk X N' scope C s H fp pins) tg g) (ht:∀C s H fp pins,PTs (blk X N' scope C s H fp pins) ifs tt) (he:∀C s H fp pins,PE (blk X N' scope C s H fp pins) elt te)
  (hsw:swapsWith (.ListComp elt [⟨tg,iter,ifs,0⟩] scope pos) (some (.Name x pos')) spos.line X.env=pure true)
  (hs:∀x,foldedSetIterable iter X.env x=pure x:=by intro _;rfl) (hf:QXX X x:=by first|exact .inl rfl|exact .inr rfl|assumption) :
  PS X (.Assign [.Name x pos'] (.ListComp elt [⟨tg,iter,ifs,0⟩] scope pos) spos) (tAsg (c0Z wi ix g tt te) (c0g i)):=by
 intro pins s σ H D I h;rw[exec_Assign_Name_used _ _ _ _ hsw];refine c8f (d3Y (c8f ?_))
 show wpAny _ X.A (do let _ <- comprehension (.ListComp elt [⟨tg,iter,ifs,0⟩] scope pos) scope X.env _ (newList []) false (eval iter X.env) (some (assign (.Name x pos') X.env))) _ _ s
 refine c8f (thn (b4f (some (assign (.Name x pos') X.env)) (fun _ s'=>SP X pins D .next s') hc hi S ow hg ht he hs pins s σ H _ I h ?_) fun _ s' hq=>c8x (c8x hq));intro C D2 H5 s4 m hn fp inv q;have I5:Inv X pins σ H5 s4:=inv s4.heap (Heap.SameBut.refl _ _);refine d4s (b2I I5 hN hi' hx (v:=.ref D2) rfl (fun s5 I6 ⟨a,sb,ha⟩=>?_) hf);obtain⟨f0,f1,f2,f3,f4,f5⟩:=fp
 have hac:a≠C:=by
  rcases ha with rfl|ha
  ·exact d1u f1
  ·exact f4 x a ha
 refine⟨m,hn.sameBut sb (d1u hac),fun h' sb'=>⟨_,H5,I6.turned (t':=s5.toks) (it:=C) (fun b o hb e=>sb'.extBut b o hb e) f0 f1 f3 f4 f5,q⟩⟩
noncomputable def b1w(scope outer:d1R):d1R :=
 { scope with names:=scope.names.map fun(n,k)=>if (k==.free&&outer.kind==.function&&outer.names.lookup n==some .cell) then (n,.cell) else (n,k) }
theorem b3c{scope:d1R}{env:Env}{x:Str}{k:d0q}(h:(relabel scope env).names.lookup x=some k)(hk:k=.cell\/k=.free):(x,d0v)∈scope.names\/(x,d1e)∈scope.names:=by
 have hm:(x,k)∈(relabel scope env).names:=PySem.mem_of_lookup h;unfold relabel at hm;obtain⟨⟨n,k0⟩,h1,h2⟩:=c8q.mp hm;dsimp only at h2;split at h2
 ·rename_i hc;have e1:n=x:=(d6g h2).1;subst e1
  have:k0=d0v:=by
   simp only[c8S,beq_iff_eq] at hc;exact hc.1.1
  rw[this] at h1;exact .inl h1
 ·have e1:=d6g h2;obtain⟨rfl,rfl⟩:=e1;rcases hk with rfl|rfl
  ·exact .inr h1
  ·exact .inl h1
noncomputable def blkB(outer:d1R)(N N':LSS)(ix:List (Option Nat))(scope:d1R):Bool :=
 decide (scope.kind=.function)&&decide (outer.kind=.function)&&scope.names.all (fun y=>decide (y.2=.local->scope.names.lookup y.1=some .local)) &&
 scope.names.all (fun y=>decide (y.2=.free->(outer.names.lookup y.1=some .cell\/outer.names.lookup y.1=some .free)))&&decide (ix.length=N'.length) &&
 (c8I ix.length).all fun i=>match ix[i]?,N'[i]? with
  | some (some j),some x=>decide (N[j]?=some x)&&decide ((x,d0v)∈scope.names)&&!ownB scope.names x &&
    decide ((b1w scope outer).names.lookup x=outer.names.lookup x)
  |_,_=>true
theorem b4k{X:Cx}{outer scope:d1R}{N N':LSS}{ix:List (Option Nat)}(h:blkB outer N N' ix scope=true)(ho:X.env.scope=outer)(hN:X.N=N):BlkScope X N' ix scope:=by
 unfold blkB at h;simp only[c8S,decide_eq_true_eq,c9N] at h;obtain⟨⟨⟨⟨⟨h1,h2⟩,h4⟩,h5⟩,h6⟩,h7⟩:=h;subst ho hN;refine⟨h1,h4,h5,fun x k hl hk=>b3c hl hk,h6,fun i j x e1 e2=>?_⟩;have hi:i<ix.length:=(c8k.mp e1).1;have q:=h7 i (c9U.mpr hi);rw[e1,e2] at q;simp only[c8S,decide_eq_true_eq,d0E] at q;exact⟨q.1.1.1,q.1.1.2,q.1.2,q.2⟩
theorem b7Q{X:Cx}{outer scope0 scope:d1R}{N N' N0:LSS}{ix:List (Option Nat)}{C:Addr}{s:c8u}{H:Hp}{fp:List Addr}{pins:PNS}(h:blkB (b1w scope0 outer) N N' ix scope=true)(ho:X.env.scope=outer)(hN:N0=N):BlkScope (blk X N0 scope0 C s H fp pins) N' ix scope :=
 b4k (outer:=b1w scope0 outer) h (by rw[<- ho];rfl) hN
theorem PE.imp{X:Cx}{e:Expr}{t t':TE}(h:PE X e t)(f:∀σ H Q,t' σ H Q->t σ H Q):PE X e t':=fun pins s σ H Q I q=>h pins s σ H Q I (f σ H Q q)
theorem PT.imp{X:Cx}{e:Expr}{t t':TT}(h:PT X e t)(f:∀σ H Q,t' σ H Q->t σ H Q):PT X e t':=fun pins s σ H Q I q=>h pins s σ H Q I (f σ H Q q)
theorem PA.imp{X:Cx}{e:LSE}{t t':TA}(h:PA X e t)(f:∀σ H Q,t' σ H Q->t σ H Q):PA X e t':=fun pos pins s σ H Q I q=>h pos pins s σ H Q I (f σ H Q q)
theorem PS.imp{X:Cx}{e:Stmt}{t t':TS}(h:PS X e t)(f:∀D σ H,t' D σ H->t D σ H):PS X e t':=fun pins s σ H D I q=>h pins s σ H D I (f D σ H q)
theorem PSs.imp{X:Cx}{e:List Stmt}{t t':TS}(h:PSs X e t)(f:∀D σ H,t' D σ H->t D σ H):PSs X e t':=fun pins s σ H D I q=>h pins s σ H D I (f D σ H q)
inductive T where
 |non|bl (b:Bool)|int (i:Int)|str (x:Str)|tup (ts:List T)|adr (a:Addr)
 /-- a list that never changes (the script;a module's own) -/
 |rd (ts:List T)
 /-- a tuple of whole numbers that can be a dict's key -/
 |dic (ks:LSI) (ts:List T)
noncomputable def FzL(K:PySem.W.Frag)(H:Hp)(a:Addr)(xs:List V):Prop :=
 (∃o,H a=some (.frz o (.lst xs))) \/
  ∃(o:Obj) (its:Array c8t) (n:Nat),K.lookup a=some o/\o.cls=.type "list"/\o.dict=none/\o.data=.seq its n/\its.size<=sizeLine/\Vals xs its.toList
theorem FzL.sq{K:PySem.W.Frag}{H:Hp}{a:Addr}{xs:List V}(h:FzL K H a xs):SqL K H a xs:=by
 rcases h with ⟨o,h⟩|h
 ·exact .inl (.inr ⟨o,h⟩)
 ·exact .inr h
mutual
noncomputable def Rep(K:PySem.W.Frag)(H:Hp):V->T->Prop
 |v,.non=>v=.non
 |v,.bl b=>v=.bl b
 |v,.int i=>v=.int i
 |v,.str x=>v=.str x
 |v,.adr a=>v=.ref a
 |v,.tup ts=>∃a xs,v=.ref a/\SqT K H a xs/\Reps K H xs ts
 |v,.rd ts=>∃a xs,v=.ref a/\FzL K H a xs/\Reps K H xs ts
 |v,.dic ks _=>∃b,v=.ref b/\H b=some (.tup (ks.map V.int))
noncomputable def Reps(K:PySem.W.Frag)(H:Hp):List V->List T->Prop
 |vs,[]=>vs=[]
 |vs,t::ts=>∃v r,vs=v::r/\Rep K H v t/\Reps K H r ts
end
structure Kp(K:PySem.W.Frag)(H H':Hp):Prop where
 tup:∀a xs,SqT K H a xs->SqT K H' a xs
 frz:∀a o u,H a=some (.frz o u)->H' a=some (.frz o u)
 tr:∀a xs,H a=some (.tup xs)->H' a=some (.tup xs)
theorem Kp.refl{K:PySem.W.Frag}{H:Hp}:Kp K H H:=⟨fun _ _ h=>h,fun _ _ _ h=>h,fun _ _ h=>h⟩
theorem Kp.trans{K:PySem.W.Frag}{H H1 H2:Hp}(a:Kp K H H1)(b:Kp K H1 H2):Kp K H H2:=⟨fun _ _ h=>b.tup _ _ (a.tup _ _ h),fun _ _ _ h=>b.frz _ _ _ (a.frz _ _ _ h),fun _ _ h=>b.tr _ _ (a.tr _ _ h)⟩
structure KpW(K:PySem.W.Frag)(H H':Hp):Prop where
 tup:∀a xs,SqT K H a xs->SqT K H' a xs
 frz:∀a o u,H a=some (.frz o u)->H' a=some (.frz o u)
 tr:∀a xs,H a=some (.tup xs)->H' a=some (.tup xs)
theorem Kp.w{K:PySem.W.Frag}{H H':Hp}(k:Kp K H H'):KpW K H H':=⟨k.tup,k.frz,k.tr⟩
theorem KpW.fz{K:PySem.W.Frag}{H H':Hp}{a:Addr}{xs:List V}(k:KpW K H H')(h:FzL K H a xs):FzL K H' a xs:=by
 rcases h with ⟨o,h⟩|h
 ·exact .inl ⟨o,k.frz _ _ _ h⟩
 ·exact .inr h
mutual
theorem Rep.kw{K:PySem.W.Frag}{H H':Hp}(k:KpW K H H'):∀(v:V) (t:T),Rep K H v t->Rep K H' v t
 |v,.non,h=>h
 |v,.bl b,h=>h
 |v,.int i,h=>h
 |v,.str x,h=>h
 |v,.adr a,h=>h
 | v,.tup ts,h=>by
   unfold Rep at h|-
   obtain⟨a,xs,e,h1,h2⟩:=h;exact⟨a,xs,e,k.tup _ _ h1,Reps.kw k xs ts h2⟩
 | v,.rd ts,h=>by
   unfold Rep at h|-
   obtain⟨a,xs,e,h1,h2⟩:=h;exact⟨a,xs,e,k.fz h1,Reps.kw k xs ts h2⟩
 | v,.dic ks ts,h=>by
   unfold Rep at h|-
   obtain⟨b,e,h1⟩:=h;exact⟨b,e,k.tr _ _ h1⟩
theorem Reps.kw{K:PySem.W.Frag}{H H':Hp}(k:KpW K H H'):∀(vs:List V) (ts:List T),Reps K H vs ts->Reps K H' vs ts
 |vs,[],h=>h
 | vs,t::ts,h=>by
   unfold Reps at h|-
   obtain⟨v,r,e,h1,h2⟩:=h;exact⟨v,r,e,Rep.kw k v t h1,Reps.kw k r ts h2⟩
end
theorem Rep.kp{K:PySem.W.Frag}{H H':Hp}(k:Kp K H H')(v:V)(t:T)(h:Rep K H v t):Rep K H' v t:=Rep.kw k.w v t h
theorem Reps.kp{K:PySem.W.Frag}{H H':Hp}(k:Kp K H H')(vs:List V)(ts:List T)(h:Reps K H vs ts):Reps K H' vs ts:=Reps.kw k.w vs ts h
section
variable{K:PySem.W.Frag}{H:Hp}
theorem Reps.cons{v:V}{t:T}{vs:List V}{ts:List T}(h:Rep K H v t)(r:Reps K H vs ts):Reps K H (v::vs) (t::ts):=by
 unfold Reps;exact⟨v,vs,rfl,h,r⟩
theorem Reps.nil:Reps K H [] []:=by unfold Reps;rfl
theorem Reps.length:∀{vs:List V} {ts:List T},Reps K H vs ts->vs.length=ts.length
 |vs,[],h=>by unfold Reps at h;subst h;rfl
 | vs,t::ts,h=>by
   unfold Reps at h;obtain⟨v,r,rfl,_,h2⟩:=h;rw[c8e,c8e,Reps.length h2]
theorem Reps.get:∀{vs:List V} {ts:List T} {i:Nat} {t:T},Reps K H vs ts->ts[i]?=some t->∃v,vs[i]?=some v/\Rep K H v t
 |_,[],_,_,_,e=>by simp at e
 | vs,t::ts,0,u,h,e=>by
   unfold Reps at h;obtain⟨v,r,rfl,h1,_⟩:=h;simp at e;subst e;exact⟨v,rfl,h1⟩
 | vs,t::ts,i+1,u,h,e=>by
   unfold Reps at h;obtain⟨v,r,rfl,_,h2⟩:=h;obtain⟨w,q1,q2⟩:=Reps.get (i:=i) h2 (by simpa using e);exact⟨w,by simpa using q1,q2⟩
theorem Reps.append:∀{vs:List V} {ts:List T} {ws:List V} {us:List T},Reps K H vs ts->Reps K H ws us->Reps K H (vs++ws) (ts++us)
 |vs,[],_,_,h,g=>by unfold Reps at h;subst h;exact g
 | vs,t::ts,_,_,h,g=>by
   unfold Reps at h;obtain⟨v,r,rfl,h1,h2⟩:=h;exact .cons h1 (Reps.append h2 g)
theorem Reps.take:∀{vs:List V} {ts:List T} (n:Nat),Reps K H vs ts->Reps K H (vs.take n) (ts.take n)
 |_,_,0,_=>.nil
 |vs,[],n+1,h=>by unfold Reps at h;subst h;exact .nil
 | vs,t::ts,n+1,h=>by
   unfold Reps at h;obtain⟨v,r,rfl,h1,h2⟩:=h;exact .cons h1 (Reps.take n h2)
theorem Reps.drop:∀{vs:List V} {ts:List T} (n:Nat),Reps K H vs ts->Reps K H (vs.drop n) (ts.drop n)
 |_,_,0,h=>h
 |vs,[],n+1,h=>by unfold Reps at h;subst h;exact .nil
 | vs,t::ts,n+1,h=>by
   unfold Reps at h;obtain⟨v,r,rfl,h1,h2⟩:=h;exact Reps.drop n h2
theorem Reps.set{v:V}{t:T}(g:Rep K H v t):∀{vs:List V} {ts:List T} (n:Nat),Reps K H vs ts->Reps K H (vs.set n v) (ts.set n t)
 |vs,[],n,h=>by unfold Reps at h;subst h;exact .nil
 | vs,u::ts,0,h=>by
   unfold Reps at h;obtain⟨v,r,rfl,h1,h2⟩:=h;exact .cons g h2
 | vs,u::ts,n+1,h=>by
   unfold Reps at h;obtain⟨v,r,rfl,h1,h2⟩:=h;exact .cons h1 (Reps.set g n h2)
theorem Reps.dropLast:∀{vs:List V} {ts:List T},Reps K H vs ts->Reps K H vs.dropLast ts.dropLast
 |vs,[],h=>by unfold Reps at h;subst h;exact .nil
 | vs,[u],h=>by
   unfold Reps at h;obtain⟨v,r,rfl,h1,h2⟩:=h;unfold Reps at h2;subst h2;exact .nil
 | vs,u::t::ts,h=>by
   unfold Reps at h;obtain⟨v,r,rfl,h1,h2⟩:=h;have h2':=h2;unfold Reps at h2';obtain⟨v',r',rfl,_,_⟩:=h2';exact .cons h1 (Reps.dropLast h2)
theorem Reps.ints:∀{vs:List V} {ns:LSI},Reps K H vs (ns.map T.int)->vs=ns.map V.int
 |vs,[],h=>by unfold Reps at h;exact h
 | vs,n::ns,h=>by
   have h':Reps K H vs (T.int n::ns.map T.int):=h;unfold Reps at h';obtain⟨v,r,rfl,h1,h2⟩:=h';unfold Rep at h1;subst h1;rw[c8g,Reps.ints h2]
theorem Reps.of_ints:∀(ns:LSI),Reps K H (ns.map V.int) (ns.map T.int)
 |[]=>.nil
 |n::ns=>.cons (by unfold Rep;rfl) (Reps.of_ints ns)
end
inductive MO where
 /-- a list that may be written -/
 |lst (ts:List T)
 /-- a dict that may be written: keys whole numbers or texts -/
 |dk (kvs:List (Key×T))
 /-- the same,keys tuples of such -/
 |dt (kvs:List (List Key×T))
 /-- the same,walked: it may not be written any more -/
 |fz (kvs:List (List Key×T))
 /-- a dict with keys whole numbers or texts that may not be written any more (a walk may go over it) -/
 |fk (kvs:List (Key×T))
 /-- an object of an own class,its fields -/
 |ob (C:Addr) (fs:List (Str×T))
noncomputable abbrev MH:=Addr->Option MO
noncomputable def updM(M:MH)(a:Addr)(o:MO):MH:=fun b=>if b=a then some o else M b
theorem a0d{M:MH}{a:Addr}{o:MO}:updM M a o a=some o:=if_pos rfl
theorem a0k{M:MH}{a b:Addr}{o:MO}(h:b≠a):updM M a o b=M b:=if_neg h
noncomputable def Sub(M M':MH):Prop:=∀a o,M a=some o->M' a=some o
theorem Sub.refl{M:MH}:Sub M M:=fun _ _ h=>h
theorem Sub.trans{M M1 M2:MH}(a:Sub M M1)(b:Sub M1 M2):Sub M M2:=fun _ _ h=>b _ _ (a _ _ h)
theorem Sub.new{M:MH}{p:Addr}{o:MO}(h:M p=none):Sub M (updM M p o):=fun b u q=>by
 rw[a0k]
 ·exact q
 ·rintro rfl;rw[h] at q;cases q
noncomputable def KRep{κ:Type}(K:PySem.W.Frag)(H:Hp):List (κ×V)->List (κ×T)->Prop
 |[],[]=>True
 |p::r,q::u=>p.1=q.1/\Rep K H p.2 q.2/\KRep K H r u
 |_,_=>False
theorem KRep.kp{κ:Type}{K:PySem.W.Frag}{H H':Hp}(k:Kp K H H'):∀{xs:List (κ×V)} {kvs:List (κ×T)},KRep K H xs kvs->KRep K H' xs kvs
 |[],[],_=>trivial
 |p::r,q::u,h=>⟨h.1,Rep.kp k _ _ h.2.1,KRep.kp k h.2.2⟩
 |[],q::u,h=>h.elim
 |p::r,[],h=>h.elim
theorem KRep.length{κ:Type}{K:PySem.W.Frag}{H:Hp}:∀{xs:List (κ×V)} {kvs:List (κ×T)},KRep K H xs kvs->xs.length=kvs.length
 |[],[],_=>rfl
 |p::r,q::u,h=>by rw[c8e,c8e,KRep.length h.2.2]
 |[],q::u,h=>h.elim
 |p::r,[],h=>h.elim
noncomputable def MOk(K:PySem.W.Frag)(H:Hp)(a:Addr):MO->Prop
 |.lst ts=>∃xs,H a=some (.lst xs)/\Reps K H xs ts
 |.dk kvs=>∃xs,H a=some (.dK xs)/\KRep K H xs kvs
 |.dt kvs=>∃xs,H a=some (.dT xs)/\KRep K H xs kvs
 |.fz kvs=>∃o xs,H a=some (.frz o (.dT xs))/\KRep K H xs kvs
 |.fk kvs=>∃xs,Rd H a (.dK xs)/\KRep K H xs kvs
 |.ob C fs=>∃dx xs,H a=some (.ins C dx xs)/\KRep K H xs fs
noncomputable def HR(K:PySem.W.Frag)(H:Hp)(M:MH):Prop:=∀a o,M a=some o->MOk K H a o
theorem HR.sub{K:PySem.W.Frag}{H:Hp}{M M':MH}(h:HR K H M')(s:Sub M M'):HR K H M:=fun a o e=>h a o (s a o e)
noncomputable abbrev En:=List (Option T)
noncomputable def RhoR(K:PySem.W.Frag)(σ:St)(H:Hp)(ρ:En):Prop:=σ.length=ρ.length/\∀(i:Nat) (t:T),ρ[i]?=some (some t)->∃v,σ[i]?=some (some v)/\Rep K H v t
theorem RhoR.kp{K:PySem.W.Frag}{σ:St}{H H':Hp}{ρ:En}(h:RhoR K σ H ρ)(k:Kp K H H'):RhoR K σ H' ρ:=⟨h.1,fun i t e=>let ⟨v,a,b⟩:=h.2 i t e;⟨v,a,Rep.kp k _ _ b⟩⟩
theorem RhoR.set{K:PySem.W.Frag}{σ:St}{H:Hp}{ρ:En}{v:V}{t:T}(h:RhoR K σ H ρ)(i:Nat)(r:Rep K H v t):RhoR K (σ.set i (some v)) H (ρ.set i (some t)):=by
 refine⟨by rw[c9K,c9K,h.1],fun j u e=>?_⟩;by_cases hj:i=j
 ·subst hj
  have hi:i<ρ.length:=by
   have:=(c8k.mp e).1
   rwa [c9K] at this
  rw[d0O hi] at e;cases e;exact⟨v,d0O (show i<d0o σ by rw[h.1];exact hi),r⟩
 ·rw[d0z hj] at e;rw[d0z hj];exact h.2 j u e
noncomputable abbrev VK3:=T->MH->Prop
noncomputable abbrev TE3:=En->MH->VK3->Prop
noncomputable abbrev TT3:=En->MH->(Bool->MH->Prop)->Prop
noncomputable abbrev TA3:=En->MH->(List T->MH->Prop)->Prop
structure Ends3 where
 nx:En->MH->Prop
 rt:VK3
 bk:En->MH->Prop:=fun _ _=>False
 ct:En->MH->Prop:=fun _ _=>False
noncomputable abbrev TS3:=Ends3->En->MH->Prop
noncomputable def EndE(K:PySem.W.Frag)(H:Hp)(Q:VK3)(Q2:VK):Prop:=∀t v M' H',Kp K H H'->HR K H' M'->Rep K H' v t->Q t M'->Q2 v H'
theorem EndE.kp{K:PySem.W.Frag}{H H':Hp}{Q:VK3}{Q2:VK}(h:EndE K H Q Q2)(k:Kp K H H'):EndE K H' Q Q2:=fun t v M' H1 k1=>h t v M' H1 (k.trans k1)
noncomputable def bE(K:PySem.W.Frag)(ρ:En)(M:MH)(Q:VK3):TE:=fun σ H Q2=>RhoR K σ H ρ/\HR K H M/\EndE K H Q Q2
noncomputable def HE(X:Cx)(e:Expr)(t:TE3):Prop:=∀ρ M Q,t ρ M Q->PE X e (bE X.K ρ M Q)
noncomputable def EndT(K:PySem.W.Frag)(H:Hp)(Q:Bool->MH->Prop)(Q2:Bool->Hp->Prop):Prop:=∀b M' H',Kp K H H'->HR K H' M'->Q b M'->Q2 b H'
noncomputable def bT(K:PySem.W.Frag)(ρ:En)(M:MH)(Q:Bool->MH->Prop):TT:=fun σ H Q2=>RhoR K σ H ρ/\HR K H M/\EndT K H Q Q2
noncomputable def HT(X:Cx)(e:Expr)(t:TT3):Prop:=∀ρ M Q,t ρ M Q->PT X e (bT X.K ρ M Q)
noncomputable def EndA(K:PySem.W.Frag)(H:Hp)(Q:List T->MH->Prop)(Q2:List V->Hp->Prop):Prop:=∀ts vs M' H',Kp K H H'->HR K H' M'->Reps K H' vs ts->Q ts M'->Q2 vs H'
noncomputable def bA(K:PySem.W.Frag)(ρ:En)(M:MH)(Q:List T->MH->Prop):TA:=fun σ H Q2=>RhoR K σ H ρ/\HR K H M/\EndA K H Q Q2
noncomputable def HA(X:Cx)(es:LSE)(t:TA3):Prop:=∀ρ M Q,t ρ M Q->PA X es (bA X.K ρ M Q)
structure EndS(K:PySem.W.Frag)(H:Hp)(D:Ends3)(D2:Ends):Prop where
 nx:∀ρ' M' σ' H',Kp K H H'->RhoR K σ' H' ρ'->HR K H' M'->D.nx ρ' M'->D2.nx σ' H'
 rt:EndE K H D.rt D2.rt
 bk:∀ρ' M' σ' H',Kp K H H'->RhoR K σ' H' ρ'->HR K H' M'->D.bk ρ' M'->D2.bk σ' H'
 ct:∀ρ' M' σ' H',Kp K H H'->RhoR K σ' H' ρ'->HR K H' M'->D.ct ρ' M'->D2.ct σ' H'
theorem EndS.kp{K:PySem.W.Frag}{H H':Hp}{D:Ends3}{D2:Ends}(h:EndS K H D D2)(k:Kp K H H'):EndS K H' D D2 :=
 ⟨fun a b c d k1=>h.nx a b c d (k.trans k1),h.rt.kp k,fun a b c d k1=>h.bk a b c d (k.trans k1),fun a b c d k1=>h.ct a b c d (k.trans k1)⟩
noncomputable def bS(K:PySem.W.Frag)(D:Ends3)(ρ:En)(M:MH):TS:=fun D2 σ H=>RhoR K σ H ρ/\HR K H M/\EndS K H D D2
noncomputable def HS(X:Cx)(st:Stmt)(t:TS3):Prop:=∀D ρ M,t D ρ M->PS X st (bS X.K D ρ M)
noncomputable def HSs(X:Cx)(st:List Stmt)(t:TS3):Prop:=∀D ρ M,t D ρ M->PSs X st (bS X.K D ρ M)
noncomputable def dE(K:PySem.W.Frag)(ρ:En)(t:TE3):TE:=fun σ H Q2=>∃M Q,t ρ M Q/\bE K ρ M Q σ H Q2
noncomputable def dT(K:PySem.W.Frag)(ρ:En)(t:TT3):TT:=fun σ H Q2=>∃M Q,t ρ M Q/\bT K ρ M Q σ H Q2
noncomputable def dA(K:PySem.W.Frag)(ρ:En)(t:TA3):TA:=fun σ H Q2=>∃M Q,t ρ M Q/\bA K ρ M Q σ H Q2
noncomputable def dS(K:PySem.W.Frag)(t:TS3):TS:=fun D2 σ H=>∃D ρ M,t D ρ M/\bS K D ρ M D2 σ H
section
variable{X:Cx}{e:Expr}{es:LSE}{st:Stmt}{sts:List Stmt}{ρ:En}
theorem HE.d{t:TE3}(h:HE X e t):PE X e (dE X.K ρ t):=fun pins s σ H Q I ⟨M,Q3,q,b⟩=>h ρ M Q3 q pins s σ H Q I b
theorem HT.d{t:TT3}(h:HT X e t):PT X e (dT X.K ρ t):=fun pins s σ H Q I ⟨M,Q3,q,b⟩=>h ρ M Q3 q pins s σ H Q I b
theorem HA.d{t:TA3}(h:HA X es t):PA X es (dA X.K ρ t):=fun pos pins s σ H Q I ⟨M,Q3,q,b⟩=>h ρ M Q3 q pos pins s σ H Q I b
theorem HS.d{t:TS3}(h:HS X st t):PS X st (dS X.K t):=fun pins s σ H D I ⟨D3,ρ,M,q,b⟩=>h D3 ρ M q pins s σ H D I b
theorem HSs.d{t:TS3}(h:HSs X sts t):PSs X sts (dS X.K t):=fun pins s σ H D I ⟨D3,ρ,M,q,b⟩=>h D3 ρ M q pins s σ H D I b
end
mutual
noncomputable def eqT:T->T->Bool
 |.non,.non=>true
 |.bl a,.bl b=>a==b
 |.bl a,.int b=>(if a then 1 else 0)==b
 |.int a,.bl b=>a==(if b then 1 else 0)
 |.int a,.int b=>a==b
 |.str a,.str b=>a==b
 |.tup a,.tup b=>eqTs a b
 |_,_=>false
noncomputable def eqTs:List T->List T->Bool
 |[],[]=>true
 |x::xs,y::ys=>eqT x y&&eqTs xs ys
 |_,_=>false
end
mutual
noncomputable def a0G:T->Bool
 |.adr _=>false
 |.rd _=>false
 |.dic _ _=>false
 |.tup ts=>a2e ts
 |_=>true
noncomputable def a2e:List T->Bool
 |[]=>true
 |t::ts=>a0G t&&a2e ts
end
mutual
noncomputable def depT:T->Nat
 |.tup ts=>a6Z ts+1
 |_=>0
noncomputable def a6Z:List T->Nat
 |[]=>0
 |t::ts=>max (depT t) (a6Z ts)
end
theorem a3N:∀{ts:List T} {j:Nat} {t:T},a2e ts=true->ts[j]?=some t->a0G t=true
 |[],_,_,_,e=>by simp at e
 |x::ts,0,t,h,e=>by simp at e;subst e;unfold a2e at h;exact(c8S _ _▸h).1
 | x::ts,j+1,t,h,e=>by
   unfold a2e at h;exact a3N (j:=j) (c8S _ _▸h).2 (by simpa using e)
theorem a9o:∀{ts:List T} {j:Nat} {t:T},ts[j]?=some t->depT t<=a6Z ts
 |[],_,_,e=>by simp at e
 |x::ts,0,t,e=>by simp at e;subst e;unfold a6Z;exact Nat.le_max_left _ _
 | x::ts,j+1,t,e=>by
   have:=a9o (ts:=ts) (j:=j) (t:=t) (by simpa using e);unfold a6Z;exact c8C this (Nat.le_max_right _ _)
noncomputable def eqJ(xs ys:List T)(j:Nat):Bool:=match xs[j]?,ys[j]? with
 |some x,some y=>eqT x y
 |_,_=>true
theorem a5H:∀(xs ys:List T),(((c8I (min xs.length ys.length)).all (eqJ xs ys))&&(xs.length==ys.length))=eqTs xs ys
 |[],[]=>by unfold eqTs;rfl
 |[],y::ys=>by unfold eqTs;simp
 |x::xs,[]=>by unfold eqTs;simp
 | x::xs,y::ys=>by
   unfold eqTs;rw[<- a5H xs ys];rw[c8e,c8e,Nat.succ_min_succ,List.range_succ_eq_map,d1c,d4K];have e1:eqJ (x::xs) (y::ys) 0=eqT x y:=rfl
   have e2:(eqJ (x::xs) (y::ys))∘Nat.succ=eqJ xs ys:=by
    funext j;simp[eqJ]
   rw[e1,e2,Bool.and_assoc];congr 2;simp
theorem b6r:∀{xs ys:List T},eqTs xs ys=true->xs.length=ys.length
 |[],[],_=>rfl
 |[],y::ys,h=>by unfold eqTs at h;cases h
 |x::xs,[],h=>by unfold eqTs at h;cases h
 | x::xs,y::ys,h=>by
   unfold eqTs at h;rw[c8S] at h;rw[c8e,c8e,b6r h.2]
mutual
theorem b6s:∀(x:T),a0G x=true->eqT x x=true
 |.non,_=>rfl
 |.bl b,_=>by simp[eqT]
 |.int i,_=>by simp[eqT]
 |.str x,_=>by simp[eqT]
 |.adr a,h=>by unfold a0G at h;cases h
 |.rd a,h=>by unfold a0G at h;cases h
 |.dic ks a,h=>by unfold a0G at h;cases h
 |.tup ts,h=>by unfold a0G at h;unfold eqT;exact b3V ts h
theorem b3V:∀(xs:List T),a2e xs=true->eqTs xs xs=true
 |[],_=>by unfold eqTs;rfl
 | x::xs,h=>by
   unfold a2e at h;rw[c8S] at h;unfold eqTs;rw[b6s x h.1,b3V xs h.2];rfl
end
section
variable{X:Cx}{pins:PNS}{σ:St}{H:Hp}{s:c8u}
theorem b8H (I:Inv X pins σ H s):∀(x y:T) (v:V),a0G x=true->a0G y=true->Rep X.K H v x->Rep X.K H v y->eqT x y=true:=by
 have key:∀n (x y:T) (v:V),depT x<=n->a0G x=true->a0G y=true->Rep X.K H v x->Rep X.K H v y->eqT x y=true:=by
  intro n
  induction n with
  | zero =>
    intro x y v hd px py rx ry;cases x with
    |tup ts=>unfold depT at hd;lia
    |adr a=>unfold a0G at px;cases px
    |rd a=>unfold a0G at px;cases px
    |dic ks a=>unfold a0G at px;cases px
    |_=>unfold Rep at rx;subst rx;cases y<;>unfold Rep at ry<;>first|(obtain⟨_,_,e,_⟩:=ry;cases e;done)|(unfold a0G at py;cases py;done)|(cases ry<;>simp[eqT])
  | succ n ih =>
    intro x y v hd px py rx ry;cases x with
    |adr a=>unfold a0G at px;cases px
    |rd a=>unfold a0G at px;cases px
    |dic ks a=>unfold a0G at px;cases px
    | tup ts =>
      unfold Rep at rx;obtain⟨a,xs,rfl,h1,h2⟩:=rx;cases y with
      |adr a=>unfold a0G at py;cases py
      |rd a=>unfold a0G at py;cases py
      |dic ks a=>unfold a0G at py;cases py
      | tup us =>
        unfold Rep at ry;obtain⟨a',ys,e,g1,g2⟩:=ry;cases e;obtain rfl:=I.tuple_inj h1 g1;unfold a0G at px py;unfold depT at hd;unfold eqT;have hl:=h2.length;have hl2:=g2.length;rw[<- a5H];rw[<- hl,<- hl2];simp only[Nat.min_self,beq_self_eq_true,d5K,c9N,c9U];intro j hj;have e1:ts[j]?=some ts[j]:=c8b (by lia);have e2:us[j]?=some us[j]:=c8b (by lia);obtain⟨v1,q1,r1⟩:=h2.get e1;obtain⟨v2,q2,r2⟩:=g2.get e2;rw[q1] at q2;cases q2;unfold eqJ;rw[e1,e2];have:=a9o e1;exact ih _ _ _ (by lia) (a3N px e1) (a3N py e2) r1 r2
      |_=>unfold Rep at ry;cases ry
    |_=>unfold Rep at rx;subst rx;cases y<;>unfold Rep at ry<;>first|(obtain⟨_,_,e,_⟩:=ry;cases e;done)|(unfold a0G at py;cases py;done)|(cases ry<;>simp[eqT])
 exact fun x y v=>key (depT x) x y v (c8d _)
open SeqAt in
theorem c0p{A:c8Z}(x y:T)(v u:V)(a b:c8t)(px:a0G x=true)(py:a0G y=true)(rx:Rep X.K H v x)(ry:Rep X.K H u y)(ra:RelV v a)(rb:RelV u b)(nx:∀ts,x≠.tup ts)(ny:∀ts,y≠.tup ts) :
  d1b A s a b (eqT x y)/\d3y A s a b (eqT x y)/\d2k A s a b (!(eqT x y)):=by
 cases x with
 |tup ts=>exact absurd rfl (nx ts)
 |adr p=>unfold a0G at px;cases px
 |rd p=>unfold a0G at px;cases px
 |dic ks p=>unfold a0G at px;cases px
 | non =>
   unfold Rep at rx;subst rx;cases ra;cases y with
   |tup ts=>exact absurd rfl (ny ts)
   |adr p=>unfold a0G at py;cases py
   |rd p=>unfold a0G at py;cases py
   |dic ks p=>unfold a0G at py;cases py
   | non =>
     unfold Rep at ry;subst ry;cases rb;have e:eqT .non .non=true:=rfl;rw[e];exact⟨EqAt.same _,RcAt.none_none,RcNeAt.none_none⟩
   | bl c0 =>
     unfold Rep at ry;subst ry;cases rb;have e:eqT .non (.bl c0)=false:=rfl;rw[e];exact⟨EqAt.none_bool _,RcAt.none_bool _,RcNeAt.none_bool _⟩
   | int c0 =>
     unfold Rep at ry;subst ry;obtain⟨t_rb,rfl⟩:=rb;have e:eqT .non (.int c0)=false:=rfl;rw[e];exact⟨EqAt.none_int _ _,RcAt.none_int _ _,RcNeAt.none_int _ _⟩
   | str c0 =>
     unfold Rep at ry;subst ry;obtain⟨t_rb,rfl⟩:=rb;have e:eqT .non (.str c0)=false:=rfl;rw[e];exact⟨EqAt.none_str _ _,RcAt.none_str _ _,RcNeAt.none_str _ _⟩
 | bl b0 =>
   unfold Rep at rx;subst rx;cases ra;cases y with
   |tup ts=>exact absurd rfl (ny ts)
   |adr p=>unfold a0G at py;cases py
   |rd p=>unfold a0G at py;cases py
   |dic ks p=>unfold a0G at py;cases py
   | non =>
     unfold Rep at ry;subst ry;cases rb;have e:eqT (.bl b0) .non=false:=rfl;rw[e];exact⟨EqAt.bool_none _,RcAt.bool_none _,RcNeAt.bool_none _⟩
   | bl c0 =>
     unfold Rep at ry;subst ry;cases rb;have e:eqT (.bl b0) (.bl c0)=(b0==c0):=rfl;rw[e];exact⟨EqAt.bool_bool _ _,RcAt.bool_bool _ _,RcNeAt.bool_bool _ _⟩
   | int c0 =>
     unfold Rep at ry;subst ry;obtain⟨t_rb,rfl⟩:=rb
     have e:eqT (.bl b0) (.int c0)=((if b0 then 1 else 0)==c0):=rfl
     rw[e];exact⟨EqAt.bool_int _ _ _,RcAt.bool_int _ _ _,RcNeAt.bool_int _ _ _⟩
   | str c0 =>
     unfold Rep at ry;subst ry;obtain⟨t_rb,rfl⟩:=rb;have e:eqT (.bl b0) (.str c0)=false:=rfl;rw[e];exact⟨EqAt.bool_str _ _ _,RcAt.bool_str _ _ _,RcNeAt.bool_str _ _ _⟩
 | int b0 =>
   unfold Rep at rx;subst rx;obtain⟨t_ra,rfl⟩:=ra;cases y with
   |tup ts=>exact absurd rfl (ny ts)
   |adr p=>unfold a0G at py;cases py
   |rd p=>unfold a0G at py;cases py
   |dic ks p=>unfold a0G at py;cases py
   | non =>
     unfold Rep at ry;subst ry;cases rb;have e:eqT (.int b0) .non=false:=rfl;rw[e];exact⟨EqAt.int_none _ _,RcAt.int_none _ _,RcNeAt.int_none _ _⟩
   | bl c0 =>
     unfold Rep at ry;subst ry;cases rb
     have e:eqT (.int b0) (.bl c0)=(b0==(if c0 then 1 else 0)):=rfl
     rw[e];exact⟨EqAt.int_bool _ _ _,RcAt.int_bool _ _ _,RcNeAt.int_bool _ _ _⟩
   | int c0 =>
     unfold Rep at ry;subst ry;obtain⟨t_rb,rfl⟩:=rb;have e:eqT (.int b0) (.int c0)=(b0==c0):=rfl;rw[e];exact⟨EqAt.int_int _ _ _ _,RcAt.int_int _ _ _ _,RcNeAt.int_int _ _ _ _⟩
   | str c0 =>
     unfold Rep at ry;subst ry;obtain⟨t_rb,rfl⟩:=rb;have e:eqT (.int b0) (.str c0)=false:=rfl;rw[e];exact⟨EqAt.int_str _ _ _ _,RcAt.int_str _ _ _ _,RcNeAt.int_str _ _ _ _⟩
 | str b0 =>
   unfold Rep at rx;subst rx;obtain⟨t_ra,rfl⟩:=ra;cases y with
   |tup ts=>exact absurd rfl (ny ts)
   |adr p=>unfold a0G at py;cases py
   |rd p=>unfold a0G at py;cases py
   |dic ks p=>unfold a0G at py;cases py
   | non =>
     unfold Rep at ry;subst ry;cases rb;have e:eqT (.str b0) .non=false:=rfl;rw[e];exact⟨EqAt.str_none _ _,RcAt.str_none _ _,RcNeAt.str_none _ _⟩
   | bl c0 =>
     unfold Rep at ry;subst ry;cases rb;have e:eqT (.str b0) (.bl c0)=false:=rfl;rw[e];exact⟨EqAt.str_bool _ _ _,RcAt.str_bool _ _ _,RcNeAt.str_bool _ _ _⟩
   | int c0 =>
     unfold Rep at ry;subst ry;obtain⟨t_rb,rfl⟩:=rb;have e:eqT (.str b0) (.int c0)=false:=rfl;rw[e];exact⟨EqAt.str_int _ _ _ _,RcAt.str_int _ _ _ _,RcNeAt.str_int _ _ _ _⟩
   | str c0 =>
     unfold Rep at ry;subst ry;obtain⟨t_rb,rfl⟩:=rb;have e:eqT (.str b0) (.str c0)=(b0==c0):=rfl;rw[e];exact⟨EqAt.str_str _ _ _ _,RcAt.str_str _ _ _ _,RcNeAt.str_str _ _ _ _⟩
theorem c7X{x:T}(h:∀ts,x≠.tup ts):depT x=0:=by
 cases x with
 |tup ts=>exact absurd rfl (h ts)
 |_=>rfl
open SeqAt in
/-- a tuple against what is none -/
theorem b7L{A:c8Z}{p:Addr}{its:Array c8t}(ht:s.heap.IsTuple p its)(hu:A.units<cLine)(x:T)(us:List T)(v:V)(a:c8t)(px:a0G x=true)(rx:Rep X.K H v x)(ra:RelV v a)(nx:∀ts,x≠.tup ts) :
  d1b A s a (.ref p) (eqT x (.tup us))/\d3y A s a (.ref p) (eqT x (.tup us))/\d2k A s a (.ref p) (!(eqT x (.tup us))):=by
 cases x with
 |tup ts=>exact absurd rfl (nx ts)
 |adr q=>unfold a0G at px;cases px
 |rd q=>unfold a0G at px;cases px
 |dic ks q=>unfold a0G at px;cases px
 | non =>
   unfold Rep at rx;subst rx;cases ra;have e:eqT .non (.tup us)=false:=rfl;rw[e];exact⟨.none_tuple ht hu,.none_tuple ht hu,.none_tuple ht hu⟩
 | bl b0 =>
   unfold Rep at rx;subst rx;cases ra;have e:eqT (.bl b0) (.tup us)=false:=rfl;rw[e];exact⟨.bool_tuple _ ht hu,.bool_tuple _ ht hu,.bool_tuple _ ht hu⟩
 | int b0 =>
   unfold Rep at rx;subst rx;obtain⟨t,rfl⟩:=ra;have e:eqT (.int b0) (.tup us)=false:=rfl;rw[e];exact⟨.int_tuple _ _ ht hu,.int_tuple _ _ ht hu,.int_tuple _ _ ht hu⟩
 | str b0 =>
   unfold Rep at rx;subst rx;obtain⟨t,rfl⟩:=ra;have e:eqT (.str b0) (.tup us)=false:=rfl;rw[e];exact⟨.str_tuple _ _ ht hu,.str_tuple _ _ ht hu,.str_tuple _ _ ht hu⟩
open SeqAt in
theorem b7M{A:c8Z}{p:Addr}{its:Array c8t}(ht:s.heap.IsTuple p its)(hu:A.units<cLine)(x:T)(us:List T)(v:V)(a:c8t)(px:a0G x=true)(rx:Rep X.K H v x)(ra:RelV v a)(nx:∀ts,x≠.tup ts) :
  d1b A s (.ref p) a (eqT (.tup us) x)/\d3y A s (.ref p) a (eqT (.tup us) x)/\d2k A s (.ref p) a (!(eqT (.tup us) x)):=by
 cases x with
 |tup ts=>exact absurd rfl (nx ts)
 |adr q=>unfold a0G at px;cases px
 |rd q=>unfold a0G at px;cases px
 |dic ks q=>unfold a0G at px;cases px
 | non =>
   unfold Rep at rx;subst rx;cases ra;have e:eqT (.tup us) .non=false:=rfl;rw[e];exact⟨.tuple_none ht hu,.tuple_none ht hu,.tuple_none ht hu⟩
 | bl b0 =>
   unfold Rep at rx;subst rx;cases ra;have e:eqT (.tup us) (.bl b0)=false:=rfl;rw[e];exact⟨.tuple_bool _ ht hu,.tuple_bool _ ht hu,.tuple_bool _ ht hu⟩
 | int b0 =>
   unfold Rep at rx;subst rx;obtain⟨t,rfl⟩:=ra;have e:eqT (.tup us) (.int b0)=false:=rfl;rw[e];exact⟨.tuple_int _ _ ht hu,.tuple_int _ _ ht hu,.tuple_int _ _ ht hu⟩
 | str b0 =>
   unfold Rep at rx;subst rx;obtain⟨t,rfl⟩:=ra;have e:eqT (.tup us) (.str b0)=false:=rfl;rw[e];exact⟨.tuple_str _ _ ht hu,.tuple_str _ _ ht hu,.tuple_str _ _ ht hu⟩
theorem b5B(x:T):(∃ts,x=.tup ts)\/∀ts,x≠.tup ts:=by
 cases x with
 |tup ts=>exact .inl ⟨ts,rfl⟩
 |_=>exact .inr fun ts e=>by cases e
theorem b6i{A:c8Z}{n:Nat}{ts us:List T}{xs ys:List V}{its its2:LSV}(px:a2e ts=true)(py:a2e us=true)(hd:a6Z ts<=n)(h2:Reps X.K H xs ts)(g2:Reps X.K H ys us)(r1:Vals xs its)(r2:Vals ys its2)
  (ih:∀(x y:T) (v u:V) (a b:c8t),depT x<=n->a0G x=true->a0G y=true->Rep X.K H v x->Rep X.K H u y->RelV v a->RelV u b->d1b A s a b (eqT x y)) (j:Nat) (hj1:j<its.toArray.size) (hj2:j<its2.toArray.size) :
  d1b A s its.toArray[j] its2.toArray[j] (eqJ ts us j):=by
 have l1:=h2.length;have l2:=g2.length;have m1:=r1.length;have m2:=r2.length;have hj1':j<its.length:=by simpa using hj1
 have hj2':j<its2.length:=by simpa using hj2
 have e1:ts[j]?=some (ts[j]'(by lia)):=c8b (by lia);have e2:us[j]?=some (us[j]'(by lia)):=c8b (by lia);obtain⟨v1,a1,b1⟩:=h2.get e1;obtain⟨v2,a2,b2⟩:=g2.get e2;obtain⟨w1,c1,d1⟩:=r1.get a1;obtain⟨w2,c2,d2⟩:=r2.get a2
 have f1:its.toArray[j]=w1:=by
  have:its[j]?=some (its[j]'hj1'):=c8b hj1';rw[c1] at this
  simpa using (c8z this).symm
 have f2:its2.toArray[j]=w2:=by
  have:its2[j]?=some (its2[j]'hj2'):=c8b hj2';rw[c2] at this
  simpa using (c8z this).symm
 have e3:eqJ ts us j=eqT (ts[j]'(by lia)) (us[j]'(by lia)):=by unfold eqJ;rw[e1,e2]
 rw[f1,f2,e3];have:=a9o e1;exact ih _ _ v1 v2 w1 w2 (by lia) (a3N px e1) (a3N py e2) b1 b2 d1 d2
open SeqAt in
/--==(by identity first),==,!= of two values,by their trees -/
theorem b3W(I:Inv X pins σ H s):∀n (A:c8Z) (x y:T) (v u:V) (a b:c8t),depT x<=n->A.units+n+1<cLine->a0G x=true->a0G y=true->Rep X.K H v x->Rep X.K H u y->RelV v a->RelV u b ->
  d1b A s a b (eqT x y)/\d3y A s a b (eqT x y)/\d2k A s a b (!(eqT x y)):=by
 intro n
 induction n with
 | zero =>
   intro A x y v u a b hd hu px py rx ry ra rb;rcases b5B x with ⟨ts,rfl⟩|nx
   ·unfold depT at hd;lia
   ·rcases b5B y with ⟨us,rfl⟩|ny
    ·unfold Rep at ry;obtain⟨p,ys,rfl,g1,g2⟩:=ry;obtain⟨its,r',ht,_⟩:=I.tuple g1;have ht':s.heap.IsTuple p its.toArray:=ht;cases rb;exact b7L ht' (by lia) x us v a px rx ra nx
    ·exact c0p x y v u a b px py rx ry ra rb nx ny
 | succ n ih =>
   intro A x y v u a b hd hu px py rx ry ra rb;have hu':A.units<cLine:=by lia
   rcases b5B x with ⟨ts,rfl⟩|nx
   ·have rx':=rx;unfold Rep at rx;obtain⟨p,xs,rfl,h1,h2⟩:=rx;cases ra;obtain⟨its,r1,ht,_⟩:=I.tuple h1;have ht':s.heap.IsTuple p its.toArray:=ht;rcases b5B y with ⟨us,rfl⟩|ny
    ·have ry':=ry;unfold Rep at ry;obtain⟨q,ys,rfl,g1,g2⟩:=ry;cases rb;obtain⟨its2,r2,ht2,_⟩:=I.tuple g1;have ht2':s.heap.IsTuple q its2.toArray:=ht2;have px':=px;have py':=py;unfold a0G at px py;unfold depT at hd;have he:=b6i (A:=A.in1) (s:=s) (n:=n) px py (by lia) h2 g2 r1 r2 fun x y v u a b hx px py rx ry ra rb=>(ih A.in1 x y v u a b hx (by show A.units+1+n+1<cLine;lia) px py rx ry ra rb).1
     have ee:((c8I (min its.toArray.size its2.toArray.size)).all (eqJ ts us)&&its.toArray.size==its2.toArray.size)=eqT (.tup ts) (.tup us):=by
      have l1:=h2.length;have l2:=g2.length;have m1:=r1.length;have m2:=r2.length;unfold eqT;rw[<- a5H,c8j,c8j,<- m1,<- m2,l1,l2]
     have rc:=RcAt.tuples (A:=A) (e:=eqJ ts us) ht' ht2' hu' he;have rn:=RcNeAt.tuples (A:=A) (e:=eqJ ts us) ht' ht2' hu' he;rw[ee] at rc rn;refine⟨?_,rc,rn⟩;by_cases hpq:p=q
     ·subst hpq;have e:eqT (.tup ts) (.tup us)=true:=b8H I (.tup ts) (.tup us) (.ref p) px' py' rx' ry';rw[e];exact .same _
     ·exact .of_refs hpq rc
    ·exact b7M ht' hu' y ts u b py ry rb ny
   ·exact ih A x y v u a b (by rw[c7X nx];exact c9j _) (by lia) px py rx ry ra rb
end
noncomputable abbrev R3:=T->T->MH->VK3->Prop
noncomputable def dR(K:PySem.W.Frag)(r:R3):R2:=fun v u H Q2=>∃x y M Q,Rep K H v x/\Rep K H u y/\HR K H M/\r x y M Q/\EndE K H Q Q2
noncomputable def dU(K:PySem.W.Frag)(r:T->MH->VK3->Prop):V->Hp->VK->Prop:=fun v H Q2=>∃x M Q,Rep K H v x/\HR K H M/\r x M Q/\EndE K H Q Q2
noncomputable def dL(K:PySem.W.Frag)(r:List T->MH->VK3->Prop):List V->Hp->VK->Prop:=fun vs H Q2=>∃xs M Q,Reps K H vs xs/\HR K H M/\r xs M Q/\EndE K H Q Q2
theorem Kp.new{K:PySem.W.Frag}{H:Hp}{p:Addr}{o:HO}(h:H p=none):Kp K H (upd H p o):=by
 refine⟨fun a xs q=>?_,fun a ob u q=>by rw[a0B (a0A q h)];exact q,fun a xs q=>by rw[a0B (a0A q h)];exact q⟩;rcases q with (q|⟨ob,q⟩)|q
 ·exact .inl (.inl (by rw[a0B (a0A q h)];exact q))
 ·exact .inl (.inr ⟨ob,by rw[a0B (a0A q h)];exact q⟩)
 ·exact .inr q
theorem Kp.lst{K:PySem.W.Frag}{H:Hp}{p:Addr}{xs ys:List V}(h:H p=some (.lst xs)):Kp K H (upd H p (.lst ys)):=by
 have ne:∀{a:Addr} {o:HO},H a=some o->o≠.lst xs->a≠p:=fun {a o} q hn e=>by
  subst e;rw[h] at q;cases q;exact hn rfl
 refine⟨fun a zs q=>?_,fun a ob u q=>by rw[a0B (ne q (by intro z;cases z))];exact q,fun a xs q=>by rw[a0B (ne q (by intro z;cases z))];exact q⟩;rcases q with (q|⟨ob,q⟩)|q
 ·exact .inl (.inl (by rw[a0B (ne q (by intro z;cases z))];exact q))
 ·exact .inl (.inr ⟨ob,by rw[a0B (ne q (by intro z;cases z))];exact q⟩)
 ·exact .inr q
theorem Kp.dict{K:PySem.W.Frag}{H:Hp}{p:Addr}{o u:HO}(h:H p=some o)(ho:(∃kvs,o=.dK kvs)\/∃kvs,o=.dT kvs):Kp K H (upd H p u):=by
 have ne:∀{a:Addr} {u:HO},H a=some u->((∃xs,u=.tup xs)\/∃b x,u=.frz b x)->a≠p:=fun {a u} q hn e=>by
  subst e;rw[h] at q;cases q;rcases ho with ⟨_,rfl⟩|⟨_,rfl⟩<;>rcases hn with ⟨_,z⟩|⟨_,_,z⟩<;>cases z
 refine⟨fun a zs q=>?_,fun a ob u q=>by rw[a0B (ne q (.inr ⟨_,_,rfl⟩))];exact q,fun a xs q=>by rw[a0B (ne q (.inl ⟨_,rfl⟩))];exact q⟩;rcases q with (q|⟨ob,q⟩)|q
 ·exact .inl (.inl (by rw[a0B (ne q (.inl ⟨_,rfl⟩))];exact q))
 ·exact .inl (.inr ⟨ob,by rw[a0B (ne q (.inr ⟨_,_,rfl⟩))];exact q⟩)
 ·exact .inr q
section
variable{K:PySem.W.Frag}{H:Hp}{M:MH}
noncomputable def Wr:HO->Prop
 |.lst _=>True
 |.dK _=>True
 |.dT _=>True
 |.frz _ _=>True
 |.ins _ _ _=>True
 |_=>False
theorem MOk.kp{H':Hp}{a:Addr}{o:MO}(h:MOk K H a o)(k:Kp K H H')(ha:∀u,Wr u->H a=some u->H' a=some u):MOk K H' a o:=by
 cases o with
 |lst ts=>obtain⟨xs,e,r⟩:=h;exact⟨xs,ha _ trivial e,Reps.kp k _ _ r⟩
 |dk kvs=>obtain⟨xs,e,r⟩:=h;exact⟨xs,ha _ trivial e,r.kp k⟩
 |dt kvs=>obtain⟨xs,e,r⟩:=h;exact⟨xs,ha _ trivial e,r.kp k⟩
 |fz kvs=>obtain⟨ob,xs,e,r⟩:=h;exact⟨ob,xs,k.frz _ _ _ e,r.kp k⟩
 | fk kvs =>
   obtain⟨xs,e,r⟩:=h;rcases e with e|⟨ob,e⟩
   ·exact⟨xs,.inl (ha _ trivial e),r.kp k⟩
   ·exact⟨xs,.inr ⟨ob,k.frz _ _ _ e⟩,r.kp k⟩
 |ob C fs=>obtain⟨dx,xs,e,r⟩:=h;exact⟨dx,xs,ha _ trivial e,r.kp k⟩
theorem MOk.some{a:Addr}{o:MO}(h:MOk K H a o):∃u,H a=Option.some u/\Wr u:=by
 cases o with
 |lst ts=>obtain⟨xs,e,r⟩:=h;exact⟨_,e,trivial⟩
 |dk kvs=>obtain⟨xs,e,r⟩:=h;exact⟨_,e,trivial⟩
 |dt kvs=>obtain⟨xs,e,r⟩:=h;exact⟨_,e,trivial⟩
 |fz kvs=>obtain⟨ob,xs,e,r⟩:=h;exact⟨_,e,trivial⟩
 | fk kvs =>
   obtain⟨xs,e,r⟩:=h;rcases e with e|⟨ob,e⟩
   ·exact⟨_,e,trivial⟩
   ·exact⟨_,e,trivial⟩
 |ob C fs=>obtain⟨dx,xs,e,r⟩:=h;exact⟨_,e,trivial⟩
theorem HR.free{p:Addr}(h:HR K H M)(hp:H p=none):M p=none:=by
 cases q:M p with
 |none=>rfl
 | some o =>
   obtain⟨u,e,_⟩:=(h p o q).some;rw[hp] at e;cases e
theorem HR.keep{p:Addr}{o:HO}(h:HR K H M)(hp:H p=none):HR K (upd H p o) M:=fun a u e =>
 (h a u e).kp (Kp.new hp) fun u _ q=>by rw[a0B (a0A q hp)];exact q
theorem HR.newL{p:Addr}{xs:List V}{ts:List T}(h:HR K H M)(hp:H p=none)(r:Reps K H xs ts):HR K (upd H p (.lst xs)) (updM M p (.lst ts)):=fun a u e=>by
 by_cases ha:a=p
 ·subst ha;rw[a0d] at e;cases e;exact⟨xs,a0O,Reps.kp (Kp.new hp) _ _ r⟩
 ·rw[a0k ha] at e;exact(h.keep hp) a u e
theorem HR.setL{p:Addr}{xs ys:List V}{us:List T}(h:HR K H M)(hp:H p=some (.lst xs))(r:Reps K H ys us):HR K (upd H p (.lst ys)) (updM M p (.lst us)):=fun a u e=>by
 by_cases ha:a=p
 ·subst ha;rw[a0d] at e;cases e;exact⟨ys,a0O,Reps.kp (Kp.lst hp) _ _ r⟩
 ·rw[a0k ha] at e;exact(h a u e).kp (Kp.lst hp) fun u _ q=>by rw[a0B ha];exact q
theorem HR.newK{p:Addr}{xs:List (Key×V)}{kvs:List (Key×T)}(h:HR K H M)(hp:H p=none)(r:KRep K H xs kvs):HR K (upd H p (.dK xs)) (updM M p (.dk kvs)):=fun a u e=>by
 by_cases ha:a=p
 ·subst ha;rw[a0d] at e;cases e;exact⟨xs,a0O,r.kp (Kp.new hp)⟩
 ·rw[a0k ha] at e;exact(h.keep hp) a u e
theorem HR.setK{p:Addr}{o:HO}{xs:List (Key×V)}{kvs:List (Key×T)}(h:HR K H M)(hp:H p=some o)(ho:(∃kvs,o=.dK kvs)\/∃kvs,o=.dT kvs)(r:KRep K H xs kvs):HR K (upd H p (.dK xs)) (updM M p (.dk kvs)):=fun a u e=>by
 by_cases ha:a=p
 ·subst ha;rw[a0d] at e;cases e;exact⟨xs,a0O,r.kp (Kp.dict hp ho)⟩
 ·rw[a0k ha] at e;exact(h a u e).kp (Kp.dict hp ho) fun u _ q=>by rw[a0B ha];exact q
end
noncomputable def OpR3(X:Cx)(f:c8t->c8t->Sem c8t)(r:R3):Prop:=OpR X f (dR X.K r)
noncomputable def UnR3(X:Cx)(f:c8t->Sem c8t)(r:T->MH->VK3->Prop):Prop:=UnR X f (dU X.K r)
noncomputable def a3w(X:Cx)(f:c8t)(r:List T->MH->VK3->Prop):Prop:=b0i X f (dL X.K r)
noncomputable def IxR3(X:Cx)(r:R3):Prop:=IxR X (dR X.K r)
noncomputable def tOp3(r:R3)(ta tb:TE3):TE3:=fun ρ M Q=>ta ρ M fun x M1=>tb ρ M1 fun y M2=>r x y M2 Q
noncomputable def tUn3(r:T->MH->VK3->Prop)(ta:TE3):TE3:=fun ρ M Q=>ta ρ M fun x M1=>r x M1 Q
noncomputable def c0W(i:Nat):TE3:=fun ρ M Q=>match ρ[i]? with
 |some (some t)=>Q t M
 |_=>False
noncomputable def tK(t:T):TE3:=fun _ M Q=>Q t M
section
variable{X:Cx}{a b c e:Expr}{es:LSE}{ta tb tc te:TE3}{pos:Pos}
theorem dOp{ρ:En}{M:MH}{Q:VK3}{r:R3}(h:tOp3 r ta tb ρ M Q){σ:St}{H:Hp}{Q2:VK}(b:bE X.K ρ M Q σ H Q2):tOp (dR X.K r) (dE X.K ρ ta) (dE X.K ρ tb) σ H Q2:=by
 obtain⟨hr,hh,en⟩:=b;refine⟨M,_,h,hr,hh,fun t v M1 H1 k1 h1 r1 q1=>⟨M1,_,q1,hr.kp k1,h1,fun t2 v2 M2 H2 k2 h2 r2 q2=>⟨t,t2,M2,Q,Rep.kp k2 _ _ r1,r2,h2,q2,en.kp (k1.trans k2)⟩⟩⟩
theorem a0z{op:d5e}{r:R3}(ho:OpR3 X (binaryOp op) r)(ha:HE X a ta)(hb:HE X b tb):HE X (.BinOp a op b pos) (tOp3 r ta tb):=fun ρ M Q h =>
 (c7B ho (ha.d (ρ:=ρ)) (hb.d (ρ:=ρ))).imp fun σ H Q2 b=>dOp h b
theorem h_un{op:UnaryOp}{r:T->MH->VK3->Prop}(ho:UnR3 X (unaryOp op) r)(ha:HE X a ta):HE X (.UnaryOp op a pos) (tUn3 r ta):=fun ρ M Q h =>
 (c7A ho (ha.d (ρ:=ρ))).imp fun σ H Q2 ⟨hr,hh,en⟩=>⟨M,_,h,hr,hh,fun t v M1 H1 k1 h1 r1 q1=>⟨t,M1,Q,r1,h1,q1,en.kp k1⟩⟩
theorem c7R{i:Nat}{x:Str}(hN:X.N[i]?=some x)(hv:Vis X.env.scope x)(hd:QDD x:=by decide)(hcd:(x==("__classdict__":Str))=false:=by decide):HE X (.Name x pos) (c0W i):=fun ρ M Q h =>
 (c5Z hN hv hd hcd).imp fun σ H Q2 ⟨hr,hh,en⟩=>by
  unfold c0W at h;split at h
  ·rename_i t e;obtain⟨v,e1,r⟩:=hr.2 i t e;exact⟨v,e1,en t v M H Kp.refl hh r h⟩
  ·exact h.elim
theorem hv(i:Nat){x:Str}{pos:Pos}(hN:X.N[i]?=some x:=by rfl)(hv:Vis X.env.scope x:=by first|exact d3n rfl|exact d2F (d3n rfl)|exact d2F (d2F rfl))(hd:QDD x:=by decide)
  (hcd:(x==("__classdict__":Str))=false:=by decide):HE X (.Name x pos) (c0W i):=c7R hN hv hd hcd
theorem a0x{K:PySem.W.Frag}{H:Hp}{i:Int}:Rep K H (.int i) (.int i):=by unfold Rep;rfl
theorem a1M{K:PySem.W.Frag}{H:Hp}{i:Bool}:Rep K H (.bl i) (.bl i):=by unfold Rep;rfl
theorem a1r{K:PySem.W.Frag}{H:Hp}{i:Str}:Rep K H (.str i) (.str i):=by unfold Rep;rfl
theorem a5j{K:PySem.W.Frag}{H:Hp}:Rep K H .non .non:=by unfold Rep;rfl
theorem a1I{K:PySem.W.Frag}{H:Hp}{a:Addr}:Rep K H (.ref a) (.adr a):=by unfold Rep;rfl
theorem a2d{K:PySem.W.Frag}{H:Hp}{a:Addr}{xs:List V}{ts:List T}(h:SqT K H a xs)(r:Reps K H xs ts):Rep K H (.ref a) (.tup ts):=by unfold Rep;exact⟨a,xs,rfl,h,r⟩
theorem a9k{v:V}{t:T}(h:PE X e (tC v))(r:∀K H,Rep K H v t):HE X e (tK t):=fun ρ M Q q=>h.imp fun σ H Q2 ⟨hr,hh,en⟩=>en t v M H Kp.refl hh (r _ _) q
theorem a0f{i j pos}:HE X (.Constant (.int i) j pos) (tK (.int i)):=a9k c6f fun _ _=>a0x
theorem h_bl{b j pos}:HE X (.Constant (.bool b) j pos) (tK (.bl b)):=a9k c7D fun _ _=>a1M
theorem c4F{j pos}:HE X (.Constant .none j pos) (tK .non):=a9k c6d fun _ _=>a5j
theorem a0t{x j pos}:HE X (.Constant (.str x) j pos) (tK (.str x)):=a9k c6b fun _ _=>a1r
theorem b2a{x:Str}{i:Int}{tk:Tok}{pos:Pos}(hm:X.mg x=some (.int i tk))(hg:Gl X x:=by rfl)(hd:QDD x:=by decide):HE X (.Name x pos) (tK (.int i)):=a9k (v:=.int i) (b4O hg hm ⟨tk,rfl⟩ hd) fun _ _=>a0x
theorem a0v{K:PySem.W.Frag}{H:Hp}{v:V}{i:Int}(r:Rep K H v (.int i)):v=.int i:=by unfold Rep at r;exact r
theorem a0V{K:PySem.W.Frag}{H:Hp}{v:V}{i:Str}(r:Rep K H v (.str i)):v=.str i:=by unfold Rep at r;exact r
theorem a4G{K:PySem.W.Frag}{H:Hp}{v:V}{i:Bool}(r:Rep K H v (.bl i)):v=.bl i:=by unfold Rep at r;exact r
theorem a7I{K:PySem.W.Frag}{H:Hp}{v:V}(r:Rep K H v .non):v=.non:=by unfold Rep at r;exact r
theorem a0q{K:PySem.W.Frag}{H:Hp}{v:V}{a:Addr}(r:Rep K H v (.adr a)):v=.ref a:=by unfold Rep at r;exact r
theorem a1n{K:PySem.W.Frag}{H:Hp}{v:V}{ts:List T}(r:Rep K H v (.tup ts)):∃a xs,v=.ref a/\SqT K H a xs/\Reps K H xs ts:=by unfold Rep at r;exact r
noncomputable def rInt(C:Int->Int->Prop)(g:Int->Int->Int):R3:=fun x y M Q=>match x,y with
 |.int i,.int j=>C i j/\Q (.int (g i j)) M
 |_,_=>False
theorem b4Q{f:c8t->c8t->Sem c8t}{C:Int->Int->Prop}{g:Int->Int->Int}(h:OpR X f (rI C fun i j=>.int (g i j))):OpR3 X f (rInt C g):=by
 intro pins s σ H x y v u Q2 I rx ry q;obtain⟨a,b,M,Q,r1,r2,hh,q,en⟩:=q;unfold rInt at q;split at q
 ·obtain rfl:=a0v r1;obtain rfl:=a0v r2;exact h pins s σ H _ _ v u Q2 I rx ry ⟨_,_,rfl,rfl,q.1,en _ _ M H Kp.refl hh a0x q.2⟩
 ·exact q.elim
noncomputable def c3J:R3:=fun x y M Q=>match x,y with
 |.int i,.int j=>Q (.int (i-j)) M
 |_,_=>False
theorem a1i:OpR3 X (binaryOp .Sub) c3J:=by
 intro pins s σ H x y v u Q2 I rx ry q;obtain⟨a,b,M,Q,r1,r2,hh,q,en⟩:=q;unfold c3J at q;split at q
 ·obtain rfl:=a0v r1;obtain rfl:=a0v r2;exact c6k pins s σ H _ _ v u Q2 I rx ry ⟨_,_,rfl,rfl,en _ _ M H Kp.refl hh a0x q⟩
 ·exact q.elim
noncomputable def c5e(i j:Int):Prop:=0<j/\j.natAbs.log2<9000
theorem c1N:OpR X (binaryOp .FloorDiv) (rI c5e fun i j=>.int (i / j)):=opI fun i j _ _ _ _ _ hc q=>by
 have e:i.fdiv j=i / j:=Int.fdiv_eq_ediv_of_nonneg i (Int.le_of_lt hc.1);exact floordiv_int (d0I hc.1) (by rw[e];exact q) (.inl (PyProof.noPylong_of_log2 hc.2))
noncomputable def c5O:R3:=rInt c5e fun i j=>i / j
noncomputable def c5M:R3:=rInt (fun _ j=>0<j) fun i j=>i%j
noncomputable def c5L:R3:=rInt CPow fun i j=>i^j.toNat
theorem b9g:OpR3 X (binaryOp .FloorDiv) c5O:=b4Q c1N
theorem a6o:OpR3 X (binaryOp .Mod) c5M:=b4Q c6o
theorem b9d:OpR3 X (binaryOp .Pow) c5L:=b4Q c6m
noncomputable def c3L:T->MH->VK3->Prop:=fun x M Q=>match x with
 |.int i=>Q (.int (-i)) M
 |_=>False
theorem a1l:UnR3 X (unaryOp .USub) c3L:=by
 intro pins s σ H x v Q2 I rx q;obtain⟨a,M,Q,r1,hh,q,en⟩:=q;unfold c3L at q;split at q
 ·obtain rfl:=a0v r1;exact c5g pins s σ H _ v Q2 I rx ⟨_,rfl,en _ _ M H Kp.refl hh a0x q⟩
 ·exact q.elim
theorem c1O:OpR X (binaryOp .Add) (fun x y H Q=>∃a b ys,x=.ref a/\y=.ref b/\SqT X.K H a []/\SqT X.K H b ys/\Q (.ref b) H):=by
 intro pins s σ H x y v u Q I rx ry h;obtain⟨a,b,ys,rfl,rfl,hx,hy,q⟩:=h;cases rx;cases ry;obtain⟨its,r,ht,hz⟩:=I.tuple hx;obtain⟨its2,r2,ht2,hz2⟩:=I.tuple hy;have e:its=[]:=r.nil_iff.mpr rfl;subst e;obtain⟨⟨cls,dd,data,sl⟩,ho,hc,n,hd⟩:=id ht;obtain⟨⟨cls2,dd2,data2,sl2⟩,ho2,hc2,n2,hd2⟩:=id ht2;simp only at hc hd hc2 hd2;subst hc hd hc2 hd2;exact d4H ⟨_,ho,rfl⟩ ⟨_,ho2,rfl⟩ d2X d4a PySem.F.slot_tuple_add PySem.F.entry_tuple_add (PySem.F.args_tuple_add_2 _ _)
   (tuple_addW0 a b _ its2.toArray n n2 dd dd2 sl sl2 (by simp)) ⟨ho,ho2,⟨.ref b,H,I,rfl,q⟩⟩
noncomputable def c3U:R3:=fun x y M Q=>match x,y with
 |.int i,.int j=>Q (.int (i+j)) M
 |.str a,.str b=>a.length+b.length<=sizeLine/\Q (.str (a++b)) M
 |.tup a,.tup b=>a.length+b.length<=sizeLine/\Q (.tup (a++b)) M
 | .adr p,.adr q=>match M p,M q with
   |some (.lst a),some (.lst b)=>a.length+b.length<=sizeLine/\∀r,M r=none->Q (.adr r) (updM M r (.lst (a++b)))
   |_,_=>False
 |_,_=>False
theorem a0u:OpR3 X (binaryOp .Add) c3U:=by
 intro pins s σ H x y v u Q2 I rx ry q;obtain⟨a,b,M,Q,r1,r2,hh,q,en⟩:=q;unfold c3U at q;split at q
 ·obtain rfl:=a0v r1;obtain rfl:=a0v r2;exact c6r pins s σ H _ _ v u Q2 I rx ry ⟨_,_,rfl,rfl,en _ _ M H Kp.refl hh a0x q⟩
 ·obtain rfl:=a0V r1;obtain rfl:=a0V r2;exact b7f pins s σ H _ _ v u Q2 I rx ry ⟨_,_,rfl,rfl,q.1,en _ _ M H Kp.refl hh a1r q.2⟩
 ·rename_i ts us;obtain⟨p,xs,rfl,h1,h2⟩:=a1n r1;obtain⟨p',ys,rfl,g1,g2⟩:=a1n r2;have l1:=h2.length;have l2:=g2.length;by_cases hx:xs=[]
  ·subst hx;have ht:ts=[]:=c9e (by rw[<- l1];rfl);subst ht;exact c1O pins s σ H _ _ v u Q2 I rx ry ⟨_,_,ys,rfl,rfl,h1,g1,en _ _ M H Kp.refl hh (a2d g1 g2) q.2⟩
  ·refine c4n pins s σ H _ _ v u Q2 I rx ry ⟨_,_,xs,ys,rfl,rfl,h1,g1,hx,by rw[l1,l2];exact q.1,fun hy=>?_,fun hy r hr=>?_⟩
   ·subst hy;have ht:us=[]:=c9e (by rw[<- l2];rfl);subst ht;have q2:=q.2;rw[c8R] at q2;exact en _ _ M H Kp.refl hh (a2d h1 h2) q2
   ·refine en _ _ M _ (Kp.new hr) (hh.keep hr) (a2d (SqT.of a0O) ?_) q.2;exact Reps.kp (Kp.new hr) _ _ (h2.append g2)
 ·rename_i p p';obtain rfl:=a0q r1;obtain rfl:=a0q r2;split at q
  ·rename_i ts us e1 e2;obtain⟨xs,h1,h2⟩:=hh _ _ e1;obtain⟨ys,g1,g2⟩:=hh _ _ e2;refine c6q pins s σ H _ _ v u Q2 I rx ry ⟨_,_,xs,ys,rfl,rfl,h1,g1,by rw[h2.length,g2.length];exact q.1,fun r hr=>?_⟩;exact en _ _ _ _ (Kp.new hr) (hh.newL hr (h2.append g2)) a1I (q.2 r (hh.free hr))
  ·exact q.elim
 ·exact q.elim
end
theorem a8m:fillsNumberSlot (.type "tuple") "mul"=pure false :=
 PySem.fillsNumberSlot_seq (id:="tuple.__mul__") (r:=some (.builtin "tuple.__rmul__")) d1n.lookup (by decide +kernel) d4w.lookup (by decide +kernel)
theorem b3b:seqRepeat? (.type "tuple")=pure (some (.builtin "tuple.__mul__")):=by
 unfold seqRepeat?;rw[PySem.seqSlot_of (T:="tuple") (name:="__mul__") (id:="tuple.__mul__") d1n.lookup (by decide +kernel),PySem.seqSlot_of (T:="tuple") (name:="__rmul__") (id:="tuple.__rmul__") d4w.lookup (by decide +kernel)];rfl
section
variable(l:Addr)(items:Array c8t)(n:Nat)(x:Int)(u:Tok)(dd:Option Addr)(sl:AOV)
theorem b0a:Meets (d1w.«int.__rmul__» ⟨[.int x u,.ref l],[]⟩) (fun _ R s=>s.heap.get? l=some { cls:=.type "tuple",dict:=dd,data:=.seq items n,slots:=sl }/\R (.ok (.ret Value.notImplemented)) s) :=
 .of_wp fun prog w A R s h=>by obtain⟨hp,g,d,tk,os⟩:=s;obtain⟨hl,h⟩:=h;wp_walk;exact⟨_,rfl,h⟩
theorem b4v(h0:-(2^63)<=x)(h1:x<2^63)(hc:(items.isEmpty||x==1)=true) :
  Meets (d1w.«tuple.__mul__» ⟨[.ref l,.int x u],[]⟩) (fun _ R s=>s.heap.get? l=some { cls:=.type "tuple",dict:=dd,data:=.seq items n,slots:=sl }/\R (.ok (.ret (c8T l))) s) :=
 .of_wp fun prog w A R s h=>by
  obtain⟨hp,g,d,tk,os⟩:=s;obtain⟨hl,h⟩:=h
  have hb:¬(decide (x < -2^63)||decide (x >= 2^63))=true:=by simp;lia
  wp_walk
  rw[if_neg hb]
  wp_walk
  first|exact⟨_,rfl,h⟩|(rw[if_pos hc];wp_walk;exact⟨_,rfl,h⟩)
theorem b4u(h0:-(2^63)<=x)(h1:x<2^63)(hc:¬(items.isEmpty||x==1)=true)(hn:(decide (x<=0)||items.isEmpty)=true) :
  Meets (d1w.«tuple.__mul__» ⟨[.ref l,.int x u],[]⟩) (fun _ R s=>s.heap.get? l=some { cls:=.type "tuple",dict:=dd,data:=.seq items n,slots:=sl }/\R (.ok (.ret (c8T s.heap.objs.size))) { s with heap:=s.heap.push { cls:=.type "tuple",data:=.seq #[] },toks:=s.toks }) :=
 .of_wp fun prog w A R s h=>by
  obtain⟨hp,g,d,tk,os⟩:=s;obtain⟨hl,h⟩:=h
  have hb:¬(decide (x < -2^63)||decide (x >= 2^63))=true:=by simp;lia
  wp_walk
  rw[if_neg hb]
  wp_walk
  first|exact⟨_,rfl,h⟩|(rw[if_neg hc,if_pos hn];wp_walk;exact⟨_,rfl,h⟩)
theorem b4t(h0:-(2^63)<=x)(h1:x<2^63)(hc:¬(items.isEmpty||x==1)=true)(hn:¬(decide (x<=0)||items.isEmpty)=true)(hm:¬items.size*x>(2^63-1) / 8)(hz:¬d2h (items.size*x)=true)(hf:sizeOk (.seq (d2C (fun x1 x2=>x1++x2) #[] (c8B x.toNat items)))) :
  Meets (d1w.«tuple.__mul__» ⟨[.ref l,.int x u],[]⟩) (fun _ R s=>s.heap.get? l=some { cls:=.type "tuple",dict:=dd,data:=.seq items n,slots:=sl }/\R (.ok (.ret (c8T s.heap.objs.size))) { s with heap:=s.heap.push { cls:=.type "tuple",data:=.seq (d2C (fun x1 x2=>x1++x2) #[] (c8B x.toNat items)) },toks:=s.toks }) :=
 .of_wp fun prog w A R s h=>by
  obtain⟨hp,g,d,tk,os⟩:=s;obtain⟨hl,h⟩:=h
  have hb:¬(decide (x < -2^63)||decide (x >= 2^63))=true:=by simp;lia
  wp_walk
  rw[if_neg hb]
  wp_walk
  rw[if_neg hm]
  wp_walk
  first|exact⟨_,rfl,h⟩|(rw[if_neg (d2G.mpr hf)];wp_walk;exact⟨_,rfl,h⟩)
end
section
variable{X:Cx}
noncomputable def c7x(K:PySem.W.Frag):R2:=fun x y H Q=>∃a k xs,x=.ref a/\y=.int k/\SqT K H a xs/\-(2^63)<=k/\k<2^63/\xs.length*k.toNat<=sizeLine /\
 ∀p H',SqT K H' p (c8B k.toNat xs).flatten->(H'=H\/H p=none/\H'=upd H p (.tup (c8B k.toNat xs).flatten))->Q (.ref p) H'
theorem b0P(its:LSV)(m:Nat):d2C (fun x1 x2=>x1++x2) #[] (c8B m its.toArray)=(c8B m its).flatten.toArray:=by
 have:=a9n its m [];rw[d0D] at this;exact this
theorem c4m:OpR X (binaryOp .Mult) (c7x X.K):=by
 intro pins s σ H x y v u Q I rx ry h;obtain⟨a,k,xs,rfl,rfl,hx,h1,h2,hz,q⟩:=h;cases rx;obtain⟨t,rfl⟩:=ry;obtain⟨its,r,p,hl⟩:=I.tuple hx;have hlen:=r.length;obtain⟨⟨cls,dd,data,sl⟩,ho,hc,n,hd⟩:=id p;simp only at hc hd;subst hc hd;refine d2u (T:="tuple") (U:="int") (by decide) ⟨_,ho,rfl⟩ (fun s'=>d3x s' k t) a8m d5j d1V b3b d4S.lookup
  (c9X d1V (d3x s k t) d4T (d4v _ _) (b0a a its.toArray n k t dd sl) ⟨ho,rfl,⟨_,ho,rfl⟩,?_⟩)
 by_cases hc:(its.toArray.isEmpty||k==1)=true
 ·refine c9X d1n ⟨_,ho,rfl⟩ d2H (d2l _ _) (b4v a its.toArray n k t dd sl h1 h2 hc) ⟨ho,?_⟩
  have e:(c8B k.toNat xs).flatten=xs:=by
   simp only[d3o,beq_iff_eq] at hc;rcases hc with hc|hc
   ·have:its=[]:=by simpa using hc
    subst this;cases r;simp
   ·subst hc;simp
  exact⟨.ref a,H,I,rfl,q a H (by rw[e];exact hx) (.inl rfl)⟩
 ·by_cases hn:(decide (k<=0)||its.toArray.isEmpty)=true
  ·refine c9X d1n ⟨_,ho,rfl⟩ d2H (d2l _ _) (b4u a its.toArray n k t dd sl h1 h2 hc hn) ⟨ho,?_⟩
   have hk:k.toNat=0:=by
    simp only[d3o,decide_eq_true_eq] at hn hc;rcases hn with hn|hn
    ·lia
    ·exact absurd (.inl hn) hc
   have e:(c8B k.toNat xs).flatten=[]:=by rw[hk];rfl
   refine⟨.ref s.heap.objs.size,_,I.laid (t':=s.toks) (o:=.tup []) (fun b ob q=>c8h _ q) (c8d _) ?_,rfl,q _ _ ?_ (.inr ⟨I.hok.fresh (c8d _),by rw[e]⟩)⟩
   ·exact⟨c9j _,[],.nil,a3m.new _ _⟩
   ·rw[e];exact SqT.of a0O
  ·have hm:(its.toArray.size:Int)*k<=sizeLine:=by
    have:its.toArray.size=xs.length:=by rw[hlen];simp
    rw[this]
    have hk:(0:Int)<=k:=by
     simp only[d3o,decide_eq_true_eq] at hn;lia
    have e2:k=((k.toNat:Nat):Int):=by lia
    rw[e2,<- Int.natCast_mul]
    exact_mod_cast hz
   have hz2:((c8B k.toNat its).flatten).length<=sizeLine:=by rw[b5c,d4J,<- hlen];exact hz
   refine c9X d1n ⟨_,ho,rfl⟩ d2H (d2l _ _) (b4t a its.toArray n k t dd sl h1 h2 hc hn ?_ ?_ ?_) ⟨ho,?_⟩
   ·have:(sizeLine:Int)<=(2^63-1) / 8:=by decide
    lia
   ·unfold d2h;simp only[decide_eq_true_eq];lia
   ·rw[b0P];show(c8B k.toNat its).flatten.toArray.size<=sizeLine;rw[c8j];exact hz2
   ·rw[b0P];refine⟨.ref s.heap.objs.size,_,I.laid (t':=s.toks) (o:=.tup (c8B k.toNat xs).flatten) (fun b ob q=>c8h _ q) (c8d _) ?_,rfl,q _ _ (SqT.of a0O) (.inr ⟨I.hok.fresh (c8d _),rfl⟩)⟩;exact⟨by rw[b5c,d4J];exact hz,_,r.rep k.toNat,a3m.new _ _⟩
end
theorem Reps.atI{K:PySem.W.Frag}{H:Hp}{vs:List V}{ts:List T}{i:Int}{t:T}(h:Reps K H vs ts)(e:atI ts i=some t):∃v,L2.atI vs i=some v/\Rep K H v t:=by
 unfold L2.atI at e|-
 rw[h.length];cases q:ixN ts.length i with
 |none=>rw[q] at e;cases e
 |some j=>rw[q] at e;exact h.get e
section
variable{X:Cx}{a b c e:Expr}{es:LSE}{ta tb tc te:TE3}{pos:Pos}
noncomputable def rIx3:R3:=fun x y M Q=>match x,y with
 |.tup ts,.int i=>(match atI ts i with|some t=>Q t M|none=>False)
 |.rd ts,.int i=>(match atI ts i with|some t=>Q t M|none=>False)
 |.adr p,.int i=>(match M p with|some (.lst ts)=>(match atI ts i with|some t=>Q t M|none=>False)|_=>False)
 |.str z,.int i=>z.length<=sizeLine/\(match atI z.cps.toList i with|some c=>Q (.str ⟨#[c]⟩) M|none=>False)
 |_,_=>False
theorem b0L{K:PySem.W.Frag}{H:Hp}{v:V}{ts:List T}(r:Rep K H v (.rd ts)):∃a xs,v=.ref a/\FzL K H a xs/\Reps K H xs ts:=by unfold Rep at r;exact r
theorem ix3:IxR3 X rIx3:=by
 intro value slice pins s σ H x y v u Q2 I rx ry q hs;obtain⟨a,b,M,Q,r1,r2,hh,q,en⟩:=q;unfold rIx3 at q;split at q
 ·obtain rfl:=a0v r2;obtain⟨p,xs,rfl,h1,h2⟩:=a1n r1;split at q
  ·rename_i t e;obtain⟨w,ew,rw'⟩:=h2.atI e;exact c6I value slice pins s σ H _ _ v u Q2 I rx ry ⟨_,_,_,w,rfl,rfl,h1,ew,en _ _ M H Kp.refl hh rw' q⟩ hs
  ·exact q.elim
 ·obtain rfl:=a0v r2;obtain⟨p,xs,rfl,h1,h2⟩:=b0L r1;split at q
  ·rename_i t e;obtain⟨w,ew,rw'⟩:=h2.atI e;exact b9A value slice pins s σ H _ _ v u Q2 I rx ry ⟨_,_,_,w,rfl,rfl,h1.sq,ew,en _ _ M H Kp.refl hh rw' q⟩ hs
  ·exact q.elim
 ·obtain rfl:=a0v r2;obtain rfl:=a0q r1;split at q
  ·rename_i ts e0;obtain⟨xs,h1,h2⟩:=hh _ _ e0;split at q
   ·rename_i t e;obtain⟨w,ew,rw'⟩:=h2.atI e;exact b9A value slice pins s σ H _ _ v u Q2 I rx ry ⟨_,_,_,w,rfl,rfl,SqL.of h1,ew,en _ _ M H Kp.refl hh rw' q⟩ hs
   ·exact q.elim
  ·exact q.elim
 ·obtain rfl:=a0v r2;obtain rfl:=a0V r1;obtain⟨hz,q⟩:=q;split at q
  ·rename_i c e;exact c6J value slice pins s σ H _ _ v u Q2 I rx ry ⟨_,_,c,rfl,rfl,hz,e,en _ _ M H Kp.refl hh a1r q⟩ hs
  ·exact q.elim
 ·exact q.elim
theorem h_ix(ha:HE X a ta)(hb:HE X b tb)(hs:c0L b:=by intro _ _;rfl):HE X (.Subscript a b pos) (tOp3 rIx3 ta tb):=fun ρ M Q h =>
 (c7C ix3 (ha.d (ρ:=ρ)) (hb.d (ρ:=ρ)) hs).imp fun σ H Q2 b=>dOp h b
noncomputable def c3M:R3:=fun x y M Q=>match x,y with
 |.int i,.int j=>CMul i j/\Q (.int (i*j)) M
 | .adr p,.int k=>(match M p with
   |some (.lst ts)=>-(2^63)<=k/\k<2^63/\ts.length*k.toNat<=sizeLine/\∀r,M r=none->Q (.adr r) (updM M r (.lst (c8B k.toNat ts).flatten))
   |_=>False)
 |.tup ts,.int k=>-(2^63)<=k/\k<2^63/\ts.length*k.toNat<=sizeLine/\Q (.tup (c8B k.toNat ts).flatten) M
 |_,_=>False
theorem Reps.rep{K:PySem.W.Frag}{H:Hp}{vs:List V}{ts:List T}(h:Reps K H vs ts):∀k:Nat,Reps K H (c8B k vs).flatten (c8B k ts).flatten
 |0=>.nil
 | k+1=>by
   rw[c9P,c9P,d0C,d0C];exact Reps.append h (Reps.rep h k)
theorem a6n:OpR3 X (binaryOp .Mult) c3M:=by
 intro pins s σ H x y v u Q2 I rx ry q;obtain⟨a,b,M,Q,r1,r2,hh,q,en⟩:=q;unfold c3M at q;split at q
 ·obtain rfl:=a0v r1;obtain rfl:=a0v r2;exact c6n pins s σ H _ _ v u Q2 I rx ry ⟨_,_,rfl,rfl,q.1,en _ _ M H Kp.refl hh a0x q.2⟩
 ·obtain rfl:=a0q r1;obtain rfl:=a0v r2;split at q
  ·rename_i ts e0;obtain⟨xs,h1,h2⟩:=hh _ _ e0;obtain⟨q1,q2,q3,q4⟩:=q;refine c6l pins s σ H _ _ v u Q2 I rx ry ⟨_,_,xs,rfl,rfl,h1,q1,q2,by rw[h2.length];exact q3,fun r hr=>?_⟩;exact en _ _ _ _ (Kp.new hr) (hh.newL hr (h2.rep _)) a1I (q4 r (hh.free hr))
  ·exact q.elim
 ·obtain⟨l,xs,rfl,g1,g2⟩:=a1n r1;obtain rfl:=a0v r2;obtain⟨q1,q2,q3,q4⟩:=q;refine c4m pins s σ H _ _ v u Q2 I rx ry ⟨_,_,xs,rfl,rfl,g1,q1,q2,by rw[g2.length];exact q3,fun r H' h' c=>?_⟩;rcases c with rfl|⟨c1,rfl⟩
  ·exact en _ _ _ _ Kp.refl hh (a2d h' (g2.rep _)) q4
  ·exact en _ _ _ _ (Kp.new c1) (hh.keep c1) (a2d h' (Reps.kp (Kp.new c1) _ _ (g2.rep _))) q4
 ·exact q.elim
noncomputable def b4M(g:Int->Int->Bool):R3:=fun x y M Q=>match x,y with
 |.int i,.int j=>Q (.bl (g i j)) M
 |_,_=>False
theorem b1G{f:c8t->c8t->Sem c8t}{g:Int->Int->Bool}(h:OpR X f (rI0 fun i j=>.bl (g i j))):OpR3 X f (b4M g):=by
 intro pins s σ H x y v u Q2 I rx ry q;obtain⟨a,b,M,Q,r1,r2,hh,q,en⟩:=q;unfold b4M at q;split at q
 ·obtain rfl:=a0v r1;obtain rfl:=a0v r2;exact h pins s σ H _ _ v u Q2 I rx ry ⟨_,_,rfl,rfl,en _ _ M H Kp.refl hh a1M q⟩
 ·exact q.elim
noncomputable def rLt3:R3:=b4M fun i j=>decide (i<j)
noncomputable def rLe3:R3:=b4M fun i j=>decide (i<=j)
noncomputable def rGt3:R3:=b4M fun i j=>decide (j<i)
noncomputable def rGe3:R3:=b4M fun i j=>decide (j<=i)
theorem a5P:OpR3 X (compareOp .Lt) rLt3:=b1G c7F
theorem b3j:OpR3 X (compareOp .LtE) rLe3:=b1G c7G
theorem a5k:OpR3 X (compareOp .Gt) rGt3:=b1G c7H
theorem c6s:OpR3 X (compareOp .GtE) rGe3:=b1G c7I
noncomputable def rEqv(g:Bool->Bool):R3:=fun x y M Q=>match x,y with
 | .adr p,.adr q=>(match M p,M q with
   |some (.lst a),some (.lst b)=>a2e a=true/\a2e b=true/\a6Z a<=30/\Q (.bl (g (eqTs a b))) M
   |_,_=>False)
 |x,y=>a0G x=true/\a0G y=true/\depT x<=30/\Q (.bl (g (eqT x y))) M
noncomputable def rEq3:R3:=rEqv id
noncomputable def rNe3:R3:=rEqv not
theorem b3B{pins:PNS}{σ:St}{H:Hp}{s:c8u}(I:Inv X pins σ H s)(hu:X.A.units+64<cLine){p p':Addr}{xs ys:List V}{ts us:List T}(h1:H p=some (.lst xs))(h2:Reps X.K H xs ts)(g1:H p'=some (.lst ys))(g2:Reps X.K H ys us)
  (px:a2e ts=true) (py:a2e us=true) (hd:a6Z ts<=30) :
  d3y X.A s (.ref p) (.ref p') (eqTs ts us)/\d2k X.A s (.ref p) (.ref p') (!(eqTs ts us)):=by
 obtain⟨its,r1,pl,_⟩:=I.list (SqL.of h1);obtain⟨its2,r2,pl2,_⟩:=I.list (SqL.of g1);have l1:=h2.length;have l2:=g2.length;have m1:=r1.length;have m2:=r2.length;have hu':X.A.units<cLine:=by lia
 by_cases hl:its.length=its2.length
 ·have he:=b6i (X:=X) (A:=X.A.in1) (s:=s) (n:=30) px py hd h2 g2 r1 r2 fun x y v u a b hx px py rx ry ra rb=>(b3W I 30 X.A.in1 x y v u a b hx (by show X.A.units+1+30+1<cLine;lia) px py rx ry ra rb).1;have hsz:its.toArray.size=its2.toArray.size:=by simpa using hl
  have rc:=SeqAt.RcAt.lists (A:=X.A) pl.isList pl2.isList hsz hu' he;have rn:=SeqAt.RcNeAt.lists (A:=X.A) pl.isList pl2.isList hsz hu' he
  have ee:(c8I its.toArray.size).all (eqJ ts us)=eqTs ts us:=by
   rw[<- a5H,c8j,<- l1,<- l2,m1,m2,<- hl];simp
  rw[ee] at rc rn;exact⟨rc,rn⟩
 ·have hne:eqTs ts us=false:=by
   cases q:eqTs ts us with
   |false=>rfl
   |true=>have:=b6r q;lia
  have hsz:(its.toArray.size != its2.toArray.size)=true:=by simpa using hl
  rw[hne];exact⟨SeqAt.RcAt.lists_lengths pl.isList pl2.isList hsz hu',SeqAt.RcNeAt.lists_lengths pl.isList pl2.isList hsz hu'⟩
theorem a0T(hu:X.A.units+64<cLine):OpR3 X (compareOp .Eq) rEq3:=by
 intro pins s σ H x y v u Q2 I rx ry q;obtain⟨a,b,M,Q,r1,r2,hh,q,en⟩:=q;unfold rEq3 rEqv at q;split at q
 ·rename_i p p';split at q
  ·rename_i ts us e1 e2;obtain⟨xs,h1,h2⟩:=hh _ _ e1;obtain⟨ys,g1,g2⟩:=hh _ _ e2;obtain rfl:=a0q r1;obtain rfl:=a0q r2;cases rx;cases ry;exact(b3B I hu h1 h2 g1 g2 q.1 q.2.1 q.2.2.1).1 _ _ _ _ ⟨.bl _,H,I,rfl,en _ _ M H Kp.refl hh a1M q.2.2.2⟩
  ·exact q.elim
 ·obtain⟨q1,q2,q3,q⟩:=q;exact(b3W I 30 X.A a b x y v u q3 (by lia) q1 q2 r1 r2 rx ry).2.1 _ _ _ _ ⟨.bl _,H,I,rfl,en _ _ M H Kp.refl hh a1M q⟩
theorem b0y(hu:X.A.units+64<cLine):OpR3 X (compareOp .NotEq) rNe3:=by
 intro pins s σ H x y v u Q2 I rx ry q;obtain⟨a,b,M,Q,r1,r2,hh,q,en⟩:=q;unfold rNe3 rEqv at q;split at q
 ·rename_i p p';split at q
  ·rename_i ts us e1 e2;obtain⟨xs,h1,h2⟩:=hh _ _ e1;obtain⟨ys,g1,g2⟩:=hh _ _ e2;obtain rfl:=a0q r1;obtain rfl:=a0q r2;cases rx;cases ry;exact(b3B I hu h1 h2 g1 g2 q.1 q.2.1 q.2.2.1).2 _ _ _ _ ⟨.bl _,H,I,rfl,en _ _ M H Kp.refl hh a1M q.2.2.2⟩
  ·exact q.elim
 ·obtain⟨q1,q2,q3,q⟩:=q;exact(b3W I 30 X.A a b x y v u q3 (by lia) q1 q2 r1 r2 rx ry).2.2 _ _ _ _ ⟨.bl _,H,I,rfl,en _ _ M H Kp.refl hh a1M q⟩
theorem b9Z{op:d5I}{r:R3}(ho:OpR3 X (compareOp op) r)(ha:HE X a ta)(hb:HE X b tb)(hm:behindInMarks op b=false):HE X (.Compare a [op] [b] pos) (tOp3 r ta tb):=fun ρ M Q h =>
 (c4i ho (ha.d (ρ:=ρ)) (hb.d (ρ:=ρ)) hm).imp fun σ H Q2 b=>dOp h b
noncomputable def b5C(t:TE3):TT3:=fun ρ M Q=>t ρ M fun x M1=>match x with
 |.bl k=>Q k M1
 |_=>False
theorem b2i{K:PySem.W.Frag}{H:Hp}{Q:Bool->MH->Prop}{Q2:Bool->Hp->Prop}(en:EndT K H Q Q2):EndE K H (fun x M1=>match x with|.bl k=>Q k M1|_=>False) (fun x H'=>∃k,x=.bl k/\Q2 k H'):=by
 intro t v M' H' k h r q;split at q
 ·obtain rfl:=a4G r;exact⟨_,rfl,en _ M' H' k h q⟩
 ·exact q.elim
theorem a0o{op:d5I}{r:R3}(ho:OpR3 X (compareOp op) r)(ha:HE X a ta)(hb:HE X b tb)(hm:behindInMarks op b=false):HT X (.Compare a [op] [b] pos) (b5C (tOp3 r ta tb)):=fun ρ M Q h =>
 (b8P ho (ha.d (ρ:=ρ)) (hb.d (ρ:=ρ)) hm).imp fun σ H Q2 ⟨hr,hh,en⟩=>dOp (ta:=ta) (tb:=tb) (r:=r) h ⟨hr,hh,b2i en⟩
noncomputable def b1d(r r':R3)(ta tb tc:TE3):TE3:=fun ρ M Q=>ta ρ M fun x M1=>tb ρ M1 fun y M2=>r x y M2 fun z M3=>match z with
 |.bl k=>(if k=true then tc ρ M3 fun w M4=>r' y w M4 Q else Q (.bl false) M3)
 |_=>False
theorem c3k{ρ:En}{M:MH}{Q:VK3}{r r':R3}(h:b1d r r' ta tb tc ρ M Q){σ:St}{H:Hp}{Q2:VK}(b:bE X.K ρ M Q σ H Q2):b8o (dR X.K r) (dR X.K r') (dE X.K ρ ta) (dE X.K ρ tb) (dE X.K ρ tc) σ H Q2:=by
 obtain⟨hr,hh,en⟩:=b;refine⟨M,_,h,hr,hh,fun t v M1 H1 k1 h1 r1 q1=>⟨M1,_,q1,hr.kp k1,h1,fun t2 v2 M2 H2 k2 h2 r2 q2=>⟨t,t2,M2,_,Rep.kp k2 _ _ r1,r2,h2,q2,fun z v3 M3 H3 k3 h3 r3 q3=>?_⟩⟩⟩;split at q3
 ·rename_i k;obtain rfl:=a4G r3;refine⟨k,rfl,?_⟩;have kk:=k1.trans (k2.trans k3);split
  ·rename_i hk;rw[if_pos hk] at q3;exact⟨M3,_,q3,hr.kp kk,h3,fun t4 v4 M4 H4 k4 h4 r4 q4=>⟨t2,t4,M4,Q,Rep.kp (k3.trans k4) _ _ r2,r4,h4,q4,en.kp (kk.trans k4)⟩⟩
  ·rename_i hk;rw[if_neg hk] at q3;exact en _ _ M3 H3 kk h3 a1M q3
 ·exact q3.elim
theorem b5i{op op':d5I}{r r':R3}(ho:OpR3 X (compareOp op) r)(ho':OpR3 X (compareOp op') r')(ha:HE X a ta)(hb:HE X b tb)(hc:HE X c tc)
  (hm:lastMarks [op,op'] [b,c]=false:=by with_unfolding_all rfl):HE X (.Compare a [op,op'] [b,c] pos) (b1d r r' ta tb tc):=fun ρ M Q h =>
 (c1J ho ho' (ha.d (ρ:=ρ)) (hb.d (ρ:=ρ)) (hc.d (ρ:=ρ)) hm).imp fun σ H Q2 b=>c3k h b
theorem c2h{op op':d5I}{r r':R3}(ho:OpR3 X (compareOp op) r)(ho':OpR3 X (compareOp op') r')(ha:HE X a ta)(hb:HE X b tb)(hc:HE X c tc)
  (hm:lastMarks [op,op'] [b,c]=false:=by with_unfolding_all rfl):HT X (.Compare a [op,op'] [b,c] pos) (b5C (b1d r r' ta tb tc)):=fun ρ M Q h =>
 (c1y ho ho' (ha.d (ρ:=ρ)) (hb.d (ρ:=ρ)) (hc.d (ρ:=ρ)) hm).imp fun σ H Q2 ⟨hr,hh,en⟩=>c3k (ta:=ta) (tb:=tb) (tc:=tc) (r:=r) (r':=r') h ⟨hr,hh,b2i en⟩
noncomputable def truT(M:MH):T->Option Bool
 |.non=>some false
 |.bl b=>some b
 |.int i=>some (i != 0)
 |.str y=>if y.length<=sizeLine then some (decide (y.length≠0)) else none
 |.tup ts=>some (!ts.isEmpty)
 |.rd ts=>some (!ts.isEmpty)
 |.dic _ _=>none
 | .adr p=>match M p with
   |some (.lst ts)=>some (!ts.isEmpty)
   |_=>none
noncomputable def c5m(te:TE3):TT3:=fun ρ M Q=>te ρ M fun x M1=>match truT M1 x with
 |some k=>Q k M1
 |none=>False
theorem b2j{K:PySem.W.Frag}{H:Hp}{xs:List V}{ts:List T}(h:Reps K H xs ts):(!xs.isEmpty)=!ts.isEmpty:=by
 have:=h.length
 cases xs<;>cases ts<;>first|rfl|(simp at this)
theorem a1z (ha:HE X a ta) (he:∀whole,isTrue a X.env whole=(do let v <- whole;standAt a.pos;holding [v] (truthy v)):=by intro _;rfl):HT X a (c5m ta):=fun ρ M Q h =>
 (c1x (ha.d (ρ:=ρ)) he).imp fun σ H Q2 ⟨hr,hh,en⟩=>⟨M,_,h,hr,hh,fun t v M1 H1 k1 h1 r1 q1=>by
  have fin:∀k,truT M1 t=some k->Q2 k H1:=fun k e=>by
   have q:(match truT M1 t with|some k=>Q k M1|none=>False):=q1
   rw[e] at q;exact en k M1 H1 k1 h1 q
  cases t with
  |non=>obtain rfl:=a7I r1;exact⟨false,rfl,fin _ rfl⟩
  |bl b=>obtain rfl:=a4G r1;exact⟨b,rfl,fin _ rfl⟩
  |int i=>obtain rfl:=a0v r1;exact⟨_,rfl,fin _ rfl⟩
  | str y =>
    obtain rfl:=a0V r1;by_cases hy:y.length<=sizeLine
    ·refine⟨_,⟨hy,rfl⟩,fin _ ?_⟩
     show(if y.length<=sizeLine then some (decide (y.length≠0)) else none)=_
     rw[if_pos hy];congr 1;by_cases h0:y.length=0
     ·rw[h0];rfl
     ·have:((y.length:Int) != 0)=true:=by simpa using h0
      rw[this];simpa using h0
    ·have q:(match truT M1 (.str y) with|some k=>Q k M1|none=>False):=q1
     have e:truT M1 (.str y)=none:=if_neg hy;rw[e] at q;exact q.elim
  | tup ts =>
    obtain⟨p,xs,rfl,g1,g2⟩:=a1n r1;exact⟨!xs.isEmpty,.inr (.inl ⟨xs,g1,rfl⟩),fin _ (by rw[b2j g2];rfl)⟩
  | rd ts =>
    obtain⟨p,xs,rfl,g1,g2⟩:=b0L r1;exact⟨!xs.isEmpty,.inl ⟨xs,g1.sq,rfl⟩,fin _ (by rw[b2j g2];rfl)⟩
  | dic ks ts =>
    have q:(match truT M1 (.dic ks ts) with|some k=>Q k M1|none=>False):=q1
    exact q.elim
  | adr p =>
    obtain rfl:=a0q r1;cases e0:M1 p with
    | none =>
      have q:(match truT M1 (.adr p) with|some k=>Q k M1|none=>False):=q1
      have e:truT M1 (.adr p)=none:=by show(match M1 p with|some (.lst ts)=>some (!ts.isEmpty)|_=>none)=none;rw[e0]
      rw[e] at q;exact q.elim
    | some o =>
      cases o with
      | lst ts =>
        obtain⟨xs,g1,g2⟩:=h1 _ _ e0
        exact⟨!xs.isEmpty,.inl ⟨xs,SqL.of g1,rfl⟩,fin _ (by show(match M1 p with|some (.lst ts)=>some (!ts.isEmpty)|_=>none)=_;rw[e0,b2j g2])⟩
      | dk kvs =>
        have q:(match truT M1 (.adr p) with|some k=>Q k M1|none=>False):=q1
        have e:truT M1 (.adr p)=none:=by show(match M1 p with|some (.lst ts)=>some (!ts.isEmpty)|_=>none)=none;rw[e0]
        rw[e] at q;exact q.elim
      | dt kvs =>
        have q:(match truT M1 (.adr p) with|some k=>Q k M1|none=>False):=q1
        have e:truT M1 (.adr p)=none:=by show(match M1 p with|some (.lst ts)=>some (!ts.isEmpty)|_=>none)=none;rw[e0]
        rw[e] at q;exact q.elim
      | fz kvs =>
        have q:(match truT M1 (.adr p) with|some k=>Q k M1|none=>False):=q1
        have e:truT M1 (.adr p)=none:=by show(match M1 p with|some (.lst ts)=>some (!ts.isEmpty)|_=>none)=none;rw[e0]
        rw[e] at q;exact q.elim
      | fk kvs =>
        have q:(match truT M1 (.adr p) with|some k=>Q k M1|none=>False):=q1
        have e:truT M1 (.adr p)=none:=by show(match M1 p with|some (.lst ts)=>some (!ts.isEmpty)|_=>none)=none;rw[e0]
        rw[e] at q;exact q.elim
      | ob C fs =>
        have q:(match truT M1 (.adr p) with|some k=>Q k M1|none=>False):=q1
        have e:truT M1 (.adr p)=none:=by show(match M1 p with|some (.lst ts)=>some (!ts.isEmpty)|_=>none)=none;rw[e0]
        rw[e] at q
        exact q.elim⟩
end
section
variable{X:Cx}{a b c e:Expr}{es rest:LSE}{ta tb tc te:TE3}{tA tB:TT3}{t:TA3}{pos:Pos}
noncomputable def HW(X:Cx)(e:Expr)(t:TT3):Prop:=∀ρ M Q,t ρ M Q->PW X e (bT X.K ρ M Q)
theorem HW.d{t:TT3}{ρ:En}(h:HW X e t):PW X e (dT X.K ρ t):=fun wh pins s σ H Q I ⟨M,Q3,q,b⟩=>h ρ M Q3 q wh pins s σ H Q I b
theorem PW.imp{t t':TT}(h:PW X e t)(f:∀σ H Q,t' σ H Q->t σ H Q):PW X e t':=fun wh pins s σ H Q I q=>h wh pins s σ H Q I (f σ H Q q)
theorem HW.ht{t:TT3}(h:HW X e t):HT X e t:=fun ρ M Q q=>(h ρ M Q q).pt
noncomputable def c5C(t u:TT3):TT3:=fun ρ M Q=>t ρ M fun c M1=>if c=true then u ρ M1 Q else Q false M1
noncomputable def tOr3(t u:TT3):TT3:=fun ρ M Q=>t ρ M fun c M1=>if c=true then Q true M1 else u ρ M1 Q
noncomputable def c5p(t:TT3):TT3:=fun ρ M Q=>t ρ M fun c M1=>Q (!c) M1
theorem a6W(ha:HT X a tA):HT X (.UnaryOp .Not a pos) (c5p tA):=fun ρ M Q h =>
 (c5R (ha.d (ρ:=ρ))).imp fun σ H Q2 ⟨hr,hh,en⟩=>⟨M,_,h,hr,hh,fun b M1 H1 k1 h1 q1=>en _ M1 H1 k1 h1 q1⟩
theorem b5A(ha:HT X a tA):HW X (.BoolOp .And [a] pos) tA:=fun ρ M Q h=>(c3W (ha.d (ρ:=ρ))).imp fun σ H Q2 b=>⟨M,Q,h,b⟩
theorem c3u(ha:HT X a tA):HW X (.BoolOp .Or [a] pos) tA:=fun ρ M Q h=>(c5P (ha.d (ρ:=ρ))).imp fun σ H Q2 b=>⟨M,Q,h,b⟩
theorem c0T(ha:HT X a tA)(hb:HW X (.BoolOp .And (b::rest) pos) tB):HW X (.BoolOp .And (a::b::rest) pos) (c5C tA tB):=fun ρ M Q h =>
 (c5Q (ha.d (ρ:=ρ)) (hb.d (ρ:=ρ))).imp fun σ H Q2 ⟨hr,hh,en⟩=>⟨M,_,h,hr,hh,fun b M1 H1 k1 h1 q1=>by
  dsimp only at q1|-
  split
  ·rename_i hb;rw[if_pos hb] at q1;exact⟨M1,Q,q1,hr.kp k1,h1,fun b' M2 H2 k2=>en b' M2 H2 (k1.trans k2)⟩
  ·rename_i hb;rw[if_neg hb] at q1
   exact en _ M1 H1 k1 h1 q1⟩
theorem w_or(ha:HT X a tA)(hb:HW X (.BoolOp .Or (b::rest) pos) tB):HW X (.BoolOp .Or (a::b::rest) pos) (tOr3 tA tB):=fun ρ M Q h =>
 (c7z (ha.d (ρ:=ρ)) (hb.d (ρ:=ρ))).imp fun σ H Q2 ⟨hr,hh,en⟩=>⟨M,_,h,hr,hh,fun b M1 H1 k1 h1 q1=>by
  dsimp only at q1|-
  split
  ·rename_i hb;rw[if_pos hb] at q1;exact en _ M1 H1 k1 h1 q1
  ·rename_i hb;rw[if_neg hb] at q1
   exact⟨M1,Q,q1,hr.kp k1,h1,fun b' M2 H2 k2=>en b' M2 H2 (k1.trans k2)⟩⟩
noncomputable def c2S(ta tb:TE3):TE3:=fun ρ M Q=>ta ρ M fun x M1=>match x with
 |.bl c=>(if c=true then tb ρ M1 Q else Q (.bl false) M1)
 |_=>False
theorem c2i{op}(ha:HE X a ta):HE X (.BoolOp op [a] pos) ta:=fun ρ M Q h=>c6c (ha ρ M Q h)
theorem c4H(ha:HE X a ta)(hb:HE X (.BoolOp .And (b::rest) pos) tb):HE X (.BoolOp .And (a::b::rest) pos) (c2S ta tb):=fun ρ M Q h =>
 (c6j (ha.d (ρ:=ρ)) (hb.d (ρ:=ρ))).imp fun σ H Q2 ⟨hr,hh,en⟩=>⟨M,_,h,hr,hh,fun x v M1 H1 k1 h1 r1 q1=>by
  dsimp only at q1|-
  split at q1
  ·rename_i c;obtain rfl:=a4G r1;refine⟨c,rfl,?_⟩;split
   ·rename_i hc;rw[if_pos hc] at q1;exact⟨M1,Q,q1,hr.kp k1,h1,en.kp k1⟩
   ·rename_i hc;rw[if_neg hc] at q1;exact en _ _ M1 H1 k1 h1 a1M q1
  ·exact q1.elim⟩
noncomputable def tIf3(t:TT3)(ta tb:TE3):TE3:=fun ρ M Q=>t ρ M fun c M1=>if c=true then ta ρ M1 Q else tb ρ M1 Q
theorem c2j(hc:HT X c tA)(ha:HE X a ta)(hb:HE X b tb):HE X (.IfExp c a b pos) (tIf3 tA ta tb):=fun ρ M Q h =>
 (c1G (hc.d (ρ:=ρ)) (ha.d (ρ:=ρ)) (hb.d (ρ:=ρ))).imp fun σ H Q2 ⟨hr,hh,en⟩=>⟨M,_,h,hr,hh,fun b M1 H1 k1 h1 q1=>by
  dsimp only at q1|-
  split
  ·rename_i hb;rw[if_pos hb] at q1;exact⟨M1,Q,q1,hr.kp k1,h1,en.kp k1⟩
  ·rename_i hb;rw[if_neg hb] at q1
   exact⟨M1,Q,q1,hr.kp k1,h1,en.kp k1⟩⟩
noncomputable def c0Y:TA3:=fun _ M Q=>Q [] M
noncomputable def b8m(ta:TE3)(tr:TA3):TA3:=fun ρ M Q=>ta ρ M fun x M1=>tr ρ M1 fun xs M2=>Q (x::xs) M2
theorem a0e:HA X [] c0Y:=fun ρ M Q h=>b5W.imp fun σ H Q2 ⟨hr,hh,en⟩=>en [] [] M H Kp.refl hh .nil h
theorem a0a(ha:HE X a ta)(hr:HA X es t)(hs:starEach (a::es) X.env=(false,eval a X.env)::starEach es X.env:=by rfl):HA X (a::es) (b8m ta t):=fun ρ M Q h =>
 (a8S (ha.d (ρ:=ρ)) (hr.d (ρ:=ρ)) hs).imp fun σ H Q2 ⟨hr,hh,en⟩=>⟨M,_,h,hr,hh,fun x v M1 H1 k1 h1 r1 q1=>⟨M1,_,q1,hr.kp k1,h1,fun ts vs M2 H2 k2 h2 r2 q2 =>
  en _ _ M2 H2 (k1.trans k2) h2 (.cons (Rep.kp k2 _ _ r1) r2) q2⟩⟩
noncomputable def c5k(t:TA3):TE3:=fun ρ M Q=>t ρ M fun xs M1=>xs.length<=sizeLine/\Q (.tup xs) M1
noncomputable def c5r(t:TA3):TE3:=fun ρ M Q=>t ρ M fun xs M1=>xs.length<=sizeLine/\∀p,M1 p=none->Q (.adr p) (updM M1 p (.lst xs))
theorem a2N{x1}(h:HA X es t):HE X (.Tuple es x1 pos) (c5k t):=fun ρ M Q q =>
 (c6a (h.d (ρ:=ρ))).imp fun σ H Q2 ⟨hr,hh,en⟩=>⟨M,_,q,hr,hh,fun ts vs M1 H1 k1 h1 r1 q1 =>
  ⟨by rw[r1.length];exact q1.1,fun p hp=>en _ _ M1 _ (k1.trans (Kp.new hp)) (h1.keep hp) (a2d (SqT.of a0O) (Reps.kp (Kp.new hp) _ _ r1)) q1.2⟩⟩
theorem a3h(h:HA X es t):HE X (.List es pos) (c5r t):=fun ρ M Q q =>
 (c6e (h.d (ρ:=ρ))).imp fun σ H Q2 ⟨hr,hh,en⟩=>⟨M,_,q,hr,hh,fun ts vs M1 H1 k1 h1 r1 q1 =>
  ⟨by rw[r1.length];exact q1.1,fun p hp=>en _ _ _ _ (k1.trans (Kp.new hp)) (h1.newL hp r1) a1I (q1.2 p (h1.free hp))⟩⟩
noncomputable abbrev Sp3:=List T->MH->VK3->Prop
noncomputable def dSp(K:PySem.W.Frag)(sp:Sp3):Sp:=fun vs H Q2 _=>∃ts M Q,Reps K H vs ts/\HR K H M/\sp ts M Q/\EndE K H Q Q2
structure Df(P:c8G)(w:c9d)(K:PySem.W.Frag)(mg:SOV)(base:Heap)(n:Nat)(x:Str)(ps:LSS)(sp:Sp3):Prop where
 out:∃f fd,FnOk P w K mg base CX0 n f fd ps (dSp K sp)/\mg x=some (.ref f)/\PySem.W.keepIn K (.ref f)=true/\a3n K fd ps []
theorem Df.mono{P:c8G}{w:c9d}{K:PySem.W.Frag}{mg:SOV}{base:Heap}{n m:Nat}{x:Str}{ps:LSS}{sp:Sp3}(D:Df P w K mg base n x ps sp)(h:n<=m):Df P w K mg base m x ps sp:=by
 obtain⟨f,fd,F,a,b,c⟩:=D.out;exact⟨f,fd,F.mono h,a,b,c⟩
noncomputable def b8p(sp:Sp3)(t:TA3):TE3:=fun ρ M Q=>t ρ M fun ts M1=>sp ts M1 Q
theorem a0h{n:Nat}{x:Str}{ps:LSS}{sp:Sp3}{p:Pos}(D:Df X.prog X.w X.K X.mg X.base n x ps sp)(hr:Room n X.A)(ha:HA X (e::es) t)(hg:Gl X x:=by rfl)(hdb:QDD x:=by decide)
  (he:QSS X e es:=by rfl) (hpl:QPP X pos es:=by rfl) :
  HE X (.Call (.Name x p) (e::es) [] pos) (b8p sp t):=fun ρ M Q h=>by
 obtain⟨f,fd,F,hm,hk,hb⟩:=D.out
 exact(c4j F hr hg hm hk hb .nil c1L (ha.d (ρ:=ρ)) hdb he hpl).imp fun σ H Q2 ⟨hr,hh,en⟩=>⟨M,_,h,hr,hh,fun ts vs M1 H1 k1 h1 r1 q1 =>
  ⟨ts,M1,Q,by rw[c8R];exact r1,h1,q1,en.kp k1⟩⟩
noncomputable def tCB3(r:List T->MH->VK3->Prop)(t:TA3):TE3:=fun ρ M Q=>t ρ M fun ts M1=>r ts M1 Q
theorem a0M{x:Str}{id:String}{r:List T->MH->VK3->Prop}{p:Pos}(hc:a3w X (.builtin id) r)(hm:X.mg x=none)(hv:bootBuiltins x=some (.builtin id))(ha:HA X (e::es) t)(hg:Gl X x:=by rfl)(hn:x≠"__name__":=by decide)(hdb:QDD x:=by decide)
  (he:QSS X e es:=by rfl) (hpl:QPP X pos es:=by rfl):HE X (.Call (.Name x p) (e::es) [] pos) (tCB3 r t):=fun ρ M Q h =>
 (c1K hc hg hm hv (ha.d (ρ:=ρ)) hn hdb he hpl).imp fun σ H Q2 ⟨hr,hh,en⟩=>⟨M,_,h,hr,hh,fun ts vs M1 H1 k1 h1 r1 q1=>⟨ts,M1,Q,r1,h1,q1,en.kp k1⟩⟩
theorem a0Q{x:Str}{ty:String}{r:List T->MH->VK3->Prop}{p:Pos}(hc:a3w X (.type ty) r)(hm:X.mg x=none)(hv:bootBuiltins x=some (.type ty))(ha:HA X (e::es) t)(hg:Gl X x:=by rfl)(hn:x≠"__name__":=by decide)(hdb:QDD x:=by decide)
  (he:QSS X e es:=by rfl) (hpl:QPP X pos es:=by rfl):HE X (.Call (.Name x p) (e::es) [] pos) (tCB3 r t):=fun ρ M Q h =>
 (b8Z hc hg hm hv (ha.d (ρ:=ρ)) hn hdb he hpl).imp fun σ H Q2 ⟨hr,hh,en⟩=>⟨M,_,h,hr,hh,fun ts vs M1 H1 k1 h1 r1 q1=>⟨ts,M1,Q,r1,h1,q1,en.kp k1⟩⟩
end
section
variable{X:Cx}
theorem a1L{K:PySem.W.Frag}{H:Hp}{vs:List V}{x:T}(r:Reps K H vs [x]):∃v,vs=[v]/\Rep K H v x:=by
 unfold Reps at r;obtain⟨v,w,rfl,h,r⟩:=r;unfold Reps at r;subst r;exact⟨v,rfl,h⟩
theorem c1l{K:PySem.W.Frag}{H:Hp}{vs:List V}{x y:T}(r:Reps K H vs [x,y]):∃v w,vs=[v,w]/\Rep K H v x/\Rep K H w y:=by
 unfold Reps at r;obtain⟨v,r',rfl,h,r⟩:=r;obtain⟨w,rfl,h'⟩:=a1L r;exact⟨v,w,rfl,h,h'⟩
noncomputable def c3O:List T->MH->VK3->Prop:=fun xs M Q=>match xs with
 |[.tup ts]=>Q (.int ts.length) M
 |[.rd ts]=>Q (.int ts.length) M
 |[.adr p]=>(match M p with|some (.lst ts)=>Q (.int ts.length) M|_=>False)
 |[.str z]=>z.length<=sizeLine/\Q (.int z.length) M
 |_=>False
theorem a0Y:a3w X (.builtin "len") c3O:=by
 intro pins s σ H vs us Q2 I r h;obtain⟨xs,M,Q,rr,hh,q,en⟩:=h;unfold c3O at q;split at q
 ·obtain⟨v,rfl,r1⟩:=a1L rr;obtain⟨p,ys,rfl,g1,g2⟩:=a1n r1;exact a5y pins s σ H _ us Q2 I r ⟨p,ys,rfl,.inr g1,by rw[g2.length];exact en _ _ M H Kp.refl hh a0x q⟩
 ·obtain⟨v,rfl,r1⟩:=a1L rr;obtain⟨p,ys,rfl,g1,g2⟩:=b0L r1;exact a5y pins s σ H _ us Q2 I r ⟨p,ys,rfl,.inl g1.sq,by rw[g2.length];exact en _ _ M H Kp.refl hh a0x q⟩
 ·obtain⟨v,rfl,r1⟩:=a1L rr;obtain rfl:=a0q r1;split at q
  ·rename_i ts e0;obtain⟨ys,g1,g2⟩:=hh _ _ e0;exact a5y pins s σ H _ us Q2 I r ⟨_,ys,rfl,.inl (SqL.of g1),by rw[g2.length];exact en _ _ M H Kp.refl hh a0x q⟩
  ·exact q.elim
 ·obtain⟨v,rfl,r1⟩:=a1L rr;obtain rfl:=a0V r1;exact b4i pins s σ H _ us Q2 I r ⟨_,rfl,q.1,en _ _ M H Kp.refl hh a0x q.2⟩
 ·exact q.elim
noncomputable def c3V:List T->MH->VK3->Prop:=fun xs M Q=>match xs with
 |[.int i]=>Q (.int i.natAbs) M
 |_=>False
theorem a7j:a3w X (.builtin "abs") c3V:=by
 intro pins s σ H vs us Q2 I r h;obtain⟨xs,M,Q,rr,hh,q,en⟩:=h;unfold c3V at q;split at q
 ·rename_i i;obtain⟨v,rfl,r1⟩:=a1L rr;obtain rfl:=a0v r1;refine c2H pins s σ H _ us Q2 I r ⟨_,rfl,en _ _ M H Kp.refl hh ?_ q⟩
  have e:(if i<0 then -i else i)=(i.natAbs:Int):=by split<;>lia
  rw[e];exact a0x
 ·exact q.elim
noncomputable def b4K:List T->MH->VK3->Prop:=fun xs M Q=>match xs with
 |[.tup ts]=>Q (.tup ts) M
 |[.rd ts]=>Q (.tup ts) M
 |[.adr p]=>(match M p with|some (.lst ts)=>Q (.tup ts) M|_=>False)
 |_=>False
theorem a1c:a3w X (.type "tuple") b4K:=by
 intro pins s σ H vs us Q2 I r h;obtain⟨xs,M,Q,rr,hh,q,en⟩:=h;unfold b4K at q;split at q
 ·obtain⟨v,rfl,r1⟩:=a1L rr;obtain⟨p,ys,rfl,g1,g2⟩:=a1n r1;exact a4D pins s σ H _ us Q2 I r ⟨p,ys,rfl,.inr ⟨g1,en _ _ M H Kp.refl hh r1 q⟩⟩
 ·obtain⟨v,rfl,r1⟩:=a1L rr;obtain⟨p,ys,rfl,g1,g2⟩:=b0L r1;exact a4D pins s σ H _ us Q2 I r ⟨p,ys,rfl,.inl ⟨g1.sq,fun l hl=>en _ _ M _ (Kp.new hl) (hh.keep hl) (a2d (SqT.of a0O) (Reps.kp (Kp.new hl) _ _ g2)) q⟩⟩
 ·obtain⟨v,rfl,r1⟩:=a1L rr;obtain rfl:=a0q r1;split at q
  ·rename_i ts e0;obtain⟨ys,g1,g2⟩:=hh _ _ e0;exact a4D pins s σ H _ us Q2 I r ⟨_,ys,rfl,.inl ⟨SqL.of g1,fun l hl=>en _ _ M _ (Kp.new hl) (hh.keep hl) (a2d (SqT.of a0O) (Reps.kp (Kp.new hl) _ _ g2)) q⟩⟩
  ·exact q.elim
 ·exact q.elim
noncomputable def c3P:List T->MH->VK3->Prop:=fun xs M Q=>match xs with
 |[.int i]=>Q (.int i) M
 |[.bl k]=>Q (.int (if k=true then 1 else 0)) M
 |[.str x]=>∃n,PySem.intText? x=some n/\x.length<=640/\Q (.int n) M
 |_=>False
theorem a9J:a3w X (.type "int") c3P:=by
 intro pins s σ H vs us Q2 I r h;obtain⟨xs,M,Q,rr,hh,q,en⟩:=h;unfold c3P at q;split at q
 ·obtain⟨v,rfl,r1⟩:=a1L rr;obtain rfl:=a0v r1;exact b4j pins s σ H _ us Q2 I r (.inl ⟨_,rfl,en _ _ M H Kp.refl hh a0x q⟩)
 ·obtain⟨v,rfl,r1⟩:=a1L rr;obtain rfl:=a4G r1;exact b4j pins s σ H _ us Q2 I r (.inr ⟨_,rfl,en _ _ M H Kp.refl hh a0x q⟩)
 ·obtain⟨n,hn,hl,q⟩:=q;obtain⟨v,rfl,r1⟩:=a1L rr;obtain rfl:=a0V r1;obtain⟨u,rfl,ru⟩:=a3o r;obtain⟨t,rfl⟩:=ru;exact PySem.W.KIN.call_text hn hl ⟨.int n,H,I.kept fun b o e=>e,⟨_,rfl⟩,en _ _ M H Kp.refl hh a0x q⟩
 ·exact q.elim
theorem b0h(hc:X.calm=true):b0i X (.builtin "all") (fun xs H Q=>∃(p:Addr) (bs:List Bool),xs=[.ref p]/\SqL X.K H p (bs.map V.bl)/\Q (.bl (bs.all id)) H):=by
 intro pins s σ H xs us Q I r h;obtain⟨p,bs,rfl,hq,q⟩:=h;obtain⟨u,rfl,rx⟩:=a3o r;cases rx;obtain⟨its,r',pl,hz⟩:=I.list hq;have hlen:=r'.length;refine call_all_walk (d4x pl.isList ?_);have hp:p<s.heap.objs.size:=by obtain⟨o,n,e,_⟩:=pl;exact c8o e
 refine⟨s.heap.objs.size,_,_,_,_,_,fun i=>(bs[i]?).getD true,rfl,Walks.list (A:=X.A.in1) (I.ok.hd hc) s.heap.objs.size p (c8P hp) its.toArray,⟨⟨_,c8E _ rfl,rfl,rfl⟩,pl.isList.push _⟩,?_,fun h' tk hk=>?_⟩
 ·intro i v s' Q' E' hP hQ;have hP':its[i]?=some v:=by simpa using hP
  have hi:i<bs.length:=by
   have:=(c8k.mp hP').1;rw[c8a] at hlen;lia
  obtain⟨w,hw,rw'⟩:=r'.get (i:=i) (x:=.bl bs[i]) (by rw[c8i,c8b hi]<;>rfl);rw[hP'] at hw;cases hw;obtain rfl:v=d3v bs[i]:=rw';refine d0l ?_;have e:(bs[i]?).getD true=bs[i]:=by rw[c8b hi]<;>rfl
  dsimp only at hQ;rw[e] at hQ;exact hQ
 ·have e:(c8I its.toArray.size).all (fun i=>(bs[i]?).getD true)=bs.all id:=by
   rw[c8a] at hlen;rw[c8j,<- hlen];rw[Bool.eq_iff_iff];simp only[c9N,c9U,id];constructor
   ·intro h b hb;obtain⟨i,hi,rfl⟩:=List.getElem_of_mem hb;have:=h i hi;rw[c8b hi] at this;exact this
   ·intro h i hi;rw[c8b hi];exact h _ (c9B hi)
  rw[e]
  have I1:Inv X pins σ H { s with heap:=h',toks:=tk }:=I.kept fun b o eb=>hk b o (by
   intro hm;have:b=s.heap.objs.size:=by simpa using hm
   rw[this] at eb
   exact absurd (c8o eb) (c9x _)) (c8h _ eb)
  exact⟨.bl _,H,I1,rfl,q⟩
noncomputable def b2A:List T->Option (List Bool)
 |[]=>some []
 |.bl b::ts=>(b2A ts).map (b::·)
 |_::_=>none
theorem b0V{K:PySem.W.Frag}{H:Hp}:∀{vs:List V} {ts:List T} {bs:List Bool},Reps K H vs ts->b2A ts=some bs->vs=bs.map V.bl
 |vs,[],bs,h,e=>by unfold b2A at e;cases e;unfold Reps at h;exact h
 | vs, t::ts,bs,h,e=>by
   unfold Reps at h;obtain⟨v,r,rfl,h1,h2⟩:=h;cases t with
   | bl b =>
     unfold b2A at e;cases q:b2A ts with
     |none=>rw[q] at e;cases e
     | some cs =>
       rw[q] at e;cases e;obtain rfl:=a4G h1;rw[b0V h2 q];rfl
   |_=>unfold b2A at e;cases e
noncomputable def c3T:List T->MH->VK3->Prop:=fun xs M Q=>match xs with
 |[.adr p]=>(match M p with|some (.lst ts)=>(match b2A ts with|some bs=>Q (.bl (bs.all id)) M|none=>False)|_=>False)
 |_=>False
theorem a7i(hc:X.calm=true):a3w X (.builtin "all") c3T:=by
 intro pins s σ H vs us Q2 I r h;obtain⟨xs,M,Q,rr,hh,q,en⟩:=h;unfold c3T at q;split at q
 ·obtain⟨v,rfl,r1⟩:=a1L rr;obtain rfl:=a0q r1;split at q
  ·rename_i ts e0;obtain⟨ys,g1,g2⟩:=hh _ _ e0;split at q
   ·rename_i bs eb;obtain rfl:=b0V g2 eb;exact b0h hc pins s σ H _ us Q2 I r ⟨_,bs,rfl,SqL.of g1,en _ _ M H Kp.refl hh a1M q⟩
   ·exact q.elim
  ·exact q.elim
 ·exact q.elim
inductive Ki where
 |non|bool|int|str|tup|list|dict
noncomputable def a9b:Ki->String
 |.non=>"NoneType"|.bool=>"bool"|.int=>"int"|.str=>"str"|.tup=>"tuple"|.list=>"list"|.dict=>"dict"
noncomputable def isiK:Ki->Ki->Bool
 |.bool,.int=>true
 |.non,.non=>true
 |.bool,.bool=>true
 |.int,.int=>true
 |.str,.str=>true
 |.tup,.tup=>true
 |.list,.list=>true
 |.dict,.dict=>true
 |_,_=>false
theorem c6D(K:PySem.W.Frag)(a b:Ki)(hb:b≠.non):PySem.W.kitOne K (.type (a9b a)) (.type (a9b b))=some (isiK a b):=by
 cases b with
 |non=>exact absurd rfl hb
 |_=>cases a<;>rfl
noncomputable def tyK:MH->T->Option Ki
 |_,.non=>some .non
 |_,.bl _=>some .bool
 |_,.int _=>some .int
 |_,.str _=>some .str
 |_,.tup _=>some .tup
 |_,.rd _=>some .list
 |_,.dic _ _=>none
 | M,.adr p=>match M p with
   |some (.lst _)=>some .list
   |some (.dk _)=>some .dict
   |some (.dt _)=>some .dict
   |some (.fz _)=>none
   |some (.fk _)=>none
   |some (.ob _ _)=>none
   |none=>none
theorem a5T(M:MH)(p:Addr):tyK M (.adr p)=(match M p with|some (.lst _)=>some Ki.list|some (.dk _)=>some Ki.dict|some (.dt _)=>some Ki.dict|some (.fz _)=>none|some (.fk _)=>none|some (.ob _ _)=>none|none=>none):=rfl
theorem isi3{pins:PNS}{σ:St}{H:Hp}{s:c8u}{M:MH}{x:T}{v:V}{u:c8t}{n c:Ki}{Q:VPR}(I:Inv X pins σ H s)(hh:HR X.K H M)(r:Rep X.K H v x)(rv:RelV v u)(ht:tyK M x=some n)(hc:c≠.non)
  (h:∀tk,Q (.bool (isiK n c)) { s with toks:=tk }):wpAny (model X.prog X.w) X.A (call (.builtin "isinstance") [u,.type (a9b c)]) Q X.xe s:=by
 have e:=c6D X.K n c hc;cases x with
 |non=>obtain rfl:=a7I r;cases ht;exact a3g I rv .non e h
 |bl k=>obtain rfl:=a4G r;cases ht;exact a3g I rv (.bl k) e h
 |int i=>obtain rfl:=a0v r;cases ht;exact a3g I rv (.int i) e h
 |str z=>obtain rfl:=a0V r;cases ht;exact a3g I rv (.str z) e h
 | tup ts =>
   obtain⟨p,xs,rfl,g1,g2⟩:=a1n r;cases ht;cases rv;obtain⟨its,_,pt,_⟩:=I.tuple g1;obtain⟨o,h1,h2,_⟩:=pt;exact PySem.W.kia_one PySem.W.kitx_tuple I.kIn ⟨o,h1,h2⟩ e (fun z=>nomatch z) h
 | rd ts =>
   obtain⟨p,xs,rfl,g1,g2⟩:=b0L r;cases ht;cases rv;obtain⟨its,_,pl,_⟩:=I.list g1.sq;obtain⟨o,n,h1,h2,_⟩:=pl;exact PySem.W.kia_one PySem.W.kitx_list I.kIn ⟨o,h1,h2⟩ e (fun z=>nomatch z) h
 |dic ks ts=>cases ht
 | adr p =>
   obtain rfl:=a0q r;cases e0:M p with
   | none =>
     have q:tyK M (.adr p)=none:=by rw[a5T,e0]
     rw[q] at ht;cases ht
   | some o =>
     cases o with
     | lst ts =>
       have q:tyK M (.adr p)=some .list:=by rw[a5T,e0]
       rw[q] at ht;cases ht;obtain⟨xs,g1,_⟩:=hh _ _ e0;exact a3g I rv (.lst g1) e h
     | dk kvs =>
       have q:tyK M (.adr p)=some .dict:=by rw[a5T,e0]
       rw[q] at ht;cases ht;obtain⟨xs,g1,_⟩:=hh _ _ e0;exact a3g I rv (.dK g1) e h
     | dt kvs =>
       have q:tyK M (.adr p)=some .dict:=by rw[a5T,e0]
       rw[q] at ht;cases ht;obtain⟨xs,g1,_⟩:=hh _ _ e0;exact a3g I rv (.dT g1) e h
     | fz kvs =>
       have q:tyK M (.adr p)=none:=by rw[a5T,e0]
       rw[q] at ht;cases ht
     | fk kvs =>
       have q:tyK M (.adr p)=none:=by rw[a5T,e0]
       rw[q] at ht;cases ht
     | ob C fs =>
       have q:tyK M (.adr p)=none:=by rw[a5T,e0]
       rw[q] at ht;cases ht
noncomputable def tIsi(c:Ki)(ta:TE3):TE3:=fun ρ M Q=>ta ρ M fun x M1=>match tyK M1 x with
 |some n=>Q (.bl (isiK n c)) M1
 |none=>False
theorem c6S{e:Expr}{te:TE3}{y:Str}{p p' pos:Pos}(c:Ki)(he:HE X e te)(hm:X.mg "isinstance"=none)(hm':X.mg y=none)(hv:bootBuiltins y=some (.type (a9b c)))(hc:c≠.non:=by intro z;cases z)(hg:Gl X "isinstance":=by rfl)(hg':Gl X y:=by rfl)(hn:y≠"__name__":=by decide)
  (hdb:(y==("__debug__":Str))=false:=by decide) (hs:starEach [e,.Name y p'] X.env=(false,eval e X.env)::starEach [.Name y p'] X.env:=by rfl) (hs2:starEach [.Name y p'] X.env=(false,eval (.Name y p') X.env)::starEach [] X.env:=by rfl)
  (hpl:(backTo pos (starEach [.Name y p'] X.env)).any (·.1)=false:=by rfl) :
  HE X (.Call (.Name "isinstance" p) [e,.Name y p'] [] pos) (tIsi c te):=by
 intro ρ M Q h pins s σ H Q2 I b;obtain⟨hr,hh,en⟩:=b;have pa:=a8S (X:=X) (he.d (ρ:=ρ)) (a8S (c4k (v:=.ty (a9b c)) (pos:=p') hg' hm' hv rfl hn hdb) b5W hs2) hs;refine c9o (a2Q I hg hm boot_isinstance ?_ (by decide) (by decide))
 refine d1H (thn (pa pos pins s σ H (fun vs H1=>∃v t M1,vs=[v,.ty (a9b c)]/\Rep X.K H1 v t/\HR X.K H1 M1/\Kp X.K H H1/\(match tyK M1 t with
 |some n=>Q (.bl (isiK n c)) M1
 |none=>False)) I ⟨M,_,h,hr,hh,fun t v M1 H1 k1 h1 r1 q1=>⟨v,t,M1,rfl,r1,h1,k1,q1⟩⟩) fun us s1 ⟨vs,H1,I1,rv,v,t,M1,ev,r1,h1,k1,q1⟩=>?_) hs hpl
 subst ev;obtain⟨u,w',rfl,ru,rw'⟩:=c5f rv;obtain rfl:w'=d5C (a9b c):=rw';split at q1
 ·rename_i n e1;exact isi3 I1 h1 r1 ru e1 hc fun tk=>⟨.bl _,H1,I1.tok _,rfl,en _ _ M1 H1 k1 h1 a1M q1⟩
 ·exact q1.elim
end
section
variable{X:Cx}{a b c e:Expr}{st:Stmt}{rest ba bb body:List Stmt}{ta tb te:TE3}{tA:TT3}{t u:TS3}{pos:Pos}
noncomputable def b8j:TS3:=fun D ρ M=>D.nx ρ M
noncomputable def a3Z(t u:TS3):TS3:=fun D ρ M=>t { D with nx:=u D } ρ M
theorem EndS.nx'{K:PySem.W.Frag}{H:Hp}{D:Ends3}{D2:Ends}{t:TS3}(h:EndS K H D D2):EndS K H { D with nx:=t D } { D2 with nx:=dS K t D2 } :=
 ⟨fun ρ' M' σ' H' k r hh q=>⟨D,ρ',M',q,r,hh,h.kp k⟩,h.rt,h.bk,h.ct⟩
theorem a0w:HSs X [] b8j:=fun D ρ M h=>c3Z.imp fun D2 σ H ⟨hr,hh,en⟩=>en.nx ρ M σ H Kp.refl hr hh h
theorem a0c(h1:HS X st t)(h2:HSs X rest u):HSs X (st::rest) (a3Z t u):=fun D ρ M h =>
 (b5S h1.d h2.d).imp fun D2 σ H ⟨hr,hh,en⟩=>⟨{ D with nx:=u D },ρ,M,h,hr,hh,en.nx'⟩
theorem a0g(h1:HS X st t):HSs X [st] t:=fun D ρ M h=>b8Q (h1 D ρ M h)
noncomputable def c3v(te:TE3):TS3:=fun D ρ M=>te ρ M D.rt
theorem a0l(he:HE X e te):HS X (.Return (some e) pos) (c3v te):=fun D ρ M h =>
 (c2W (he.d (ρ:=ρ))).imp fun D2 σ H ⟨hr,hh,en⟩=>⟨M,_,h,hr,hh,en.rt⟩
noncomputable def c3y(c:TT3)(t u:TS3):TS3:=fun D ρ M=>c ρ M fun b M1=>if b=true then t D ρ M1 else u D ρ M1
theorem s_if(hc:HT X c tA)(ha:HSs X ba t)(hb:HSs X bb u):HS X (.If c ba bb pos) (c3y tA t u):=fun D ρ M h =>
 (c5S (hc.d (ρ:=ρ)) ha.d hb.d).imp fun D2 σ H ⟨hr,hh,en⟩=>⟨M,_,h,hr,hh,fun b M1 H1 k1 h1 q1=>by
  dsimp only at q1|-
  split
  ·rename_i hb;rw[if_pos hb] at q1;exact⟨D,ρ,M1,q1,hr.kp k1,h1,en.kp k1⟩
  ·rename_i hb;rw[if_neg hb] at q1
   exact⟨D,ρ,M1,q1,hr.kp k1,h1,en.kp k1⟩⟩
noncomputable def c3x:TS3:=fun _ _ _=>False
theorem b1t:HS X st c3x:=fun _ _ _ h=>h.elim
noncomputable def b8l(te:TE3):TS3:=fun D ρ M=>te ρ M fun _ M1=>D.nx ρ M1
theorem a2x(he:HE X e te)(hs:swapsWith e none pos.line X.env=pure false:=by rfl):HS X (.Expr e pos) (b8l te):=fun D ρ M h =>
 (b8R (he.d (ρ:=ρ)) hs).imp fun D2 σ H ⟨hr,hh,en⟩=>⟨M,_,h,hr,hh,fun x v M1 H1 k1 h1 r1 q1=>en.nx ρ M1 σ H1 k1 (hr.kp k1) h1 q1⟩
noncomputable def c3z:TS3:=fun D ρ M=>D.bk ρ M
theorem c3G:HS X (.Break pos) c3z:=fun D ρ M h=>c1z.imp fun D2 σ H ⟨hr,hh,en⟩=>en.bk ρ M σ H Kp.refl hr hh h
noncomputable def c0X(i:Nat)(te:TE3):TS3:=fun D ρ M=>te ρ M fun x M1=>D.nx (ρ.set i (some x)) M1
theorem a0y{i:Nat}{x:Str}{pos':Pos}(he:HE X e te)(hN:X.N.Nodup)(hi:X.N[i]?=some x:=by rfl)(hx:Loc X.env.scope x:=by first|exact d3n rfl|exact d2F rfl)(hs:swapsWith e (some (.Name x pos')) pos.line X.env=pure false:=by rfl)
  (hf:QXX X x:=by first|exact .inl rfl|exact .inr rfl|assumption):HS X (.Assign [.Name x pos'] e pos) (c0X i te):=fun D ρ M h =>
 (c2V hN hi hx (he.d (ρ:=ρ)) hs hf).imp fun D2 σ H ⟨hr,hh,en⟩=>⟨M,_,h,hr,hh,fun t v M1 H1 k1 h1 r1 q1=>en.nx _ M1 _ H1 k1 ((hr.kp k1).set i r1) h1 q1⟩
noncomputable abbrev TG3:=T->En->MH->(En->MH->Prop)->Prop
noncomputable abbrev TGs3:=List T->En->MH->(En->MH->Prop)->Prop
noncomputable def EndG(K:PySem.W.Frag)(H:Hp)(Q:En->MH->Prop)(Q2:St->Hp->Prop):Prop:=∀ρ' M' σ' H',Kp K H H'->RhoR K σ' H' ρ'->HR K H' M'->Q ρ' M'->Q2 σ' H'
noncomputable def dG(K:PySem.W.Frag)(g:TG3):TG:=fun v σ H Q2=>∃t ρ M Q,g t ρ M Q/\Rep K H v t/\RhoR K σ H ρ/\HR K H M/\EndG K H Q Q2
noncomputable def dGs(K:PySem.W.Frag)(g:TGs3):TGs:=fun vs σ H Q2=>∃ts ρ M Q,g ts ρ M Q/\Reps K H vs ts/\RhoR K σ H ρ/\HR K H M/\EndG K H Q Q2
noncomputable def HG(X:Cx)(tg:Expr)(g:TG3):Prop:=PG X tg (dG X.K g)
noncomputable def HGs(X:Cx)(tgs:LSE)(g:TGs3):Prop:=PGs X tgs (dGs X.K g)
noncomputable def c0f(i:Nat):TG3:=fun t ρ M Q=>Q (ρ.set i (some t)) M
theorem PG.imp{tg:Expr}{g g':TG}(h:PG X tg g)(f:∀v σ H Q,g' v σ H Q->g v σ H Q):PG X tg g':=fun pins s σ H v u Q I r q=>h pins s σ H v u Q I r (f v σ H Q q)
theorem PGs.imp{tg:LSE}{g g':TGs}(h:PGs X tg g)(f:∀v σ H Q,g' v σ H Q->g v σ H Q):PGs X tg g':=fun pins s σ H v u Q I r q=>h pins s σ H v u Q I r (f v σ H Q q)
theorem a2y{i:Nat}{x:Str}(hN:X.N.Nodup)(hi:X.N[i]?=some x:=by rfl)(hx:Loc X.env.scope x:=by first|exact d3n rfl|exact d2F rfl)(hf:QXX X x:=by first|exact .inl rfl|exact .inr rfl|assumption):HG X (.Name x pos) (c0f i) :=
 (b4N hN hi hx hf).imp fun v σ H Q2 ⟨t,ρ,M,Q,q,r,hr,hh,en⟩=>en _ M _ H Kp.refl (hr.set i r) hh q
noncomputable def c6V:TGs3:=fun ts ρ M Q=>ts=[]/\Q ρ M
noncomputable def c0h(g:TG3)(gs:TGs3):TGs3:=fun ts ρ M Q=>match ts with
 |t::r=>g t ρ M fun ρ1 M1=>gs r ρ1 M1 Q
 |[]=>False
theorem b6o:HGs X [] c6V:=c4d.imp fun v σ H Q2 ⟨ts,ρ,M,Q,⟨e,q⟩,r,hr,hh,en⟩=>by
 subst e;unfold Reps at r;exact⟨r,en ρ M σ H Kp.refl hr hh q⟩
theorem a5m{es:LSE}{g:TG3}{gs:TGs3}(h1:HG X e g)(h2:HGs X es gs)(hs:(assignEach (e::es) X.env).map (·.2)=assign e X.env::(assignEach es X.env).map (·.2):=by rfl):HGs X (e::es) (c0h g gs) :=
 (c1C h1 h2 hs).imp fun vs σ H Q2 ⟨ts,ρ,M,Q,q,r,hr,hh,en⟩=>by
  unfold c0h at q;split at q
  ·rename_i t r';unfold Reps at r;obtain⟨v,vr,rfl,r1,r2⟩:=r;exact⟨v,vr,rfl,t,ρ,M,_,q,r1,hr,hh,fun ρ' M' σ' H' k hr' hh' q'=>⟨r',ρ',M',Q,q',Reps.kp k _ _ r2,hr',hh',fun ρ2 M2 σ2 H2 k2=>en ρ2 M2 σ2 H2 (k.trans k2)⟩⟩
  ·exact q.elim
noncomputable def c4L(n:Nat)(gs:TGs3):TG3:=fun t ρ M Q=>match t with
 |.tup ts=>ts.length=n/\gs ts ρ M Q
 |_=>False
theorem c2t{es:LSE}{k:Nat}{gs:TGs3}{n:Nat}(hc:X.calm=true)(h:HGs X es gs)(hn:(assignEach es X.env).length=n:=by rfl)(hst:(assignEach es X.env).findIdx? (·.1)=none:=by rfl):HG X (.Tuple es k pos) (c4L n gs) :=
 (c5X hc h hn hst).imp fun v σ H Q2 ⟨t,ρ,M,Q,q,r,hr,hh,en⟩=>by
  unfold c4L at q;split at q
  ·rename_i ts;obtain⟨a,xs,rfl,g1,g2⟩:=a1n r;exact⟨a,xs,rfl,g1,by rw[g2.length];exact q.1,ts,ρ,M,Q,q.2,g2,hr,hh,en⟩
  ·exact q.elim
noncomputable def c6U(to ti:TE3):TG3:=fun v ρ M Q=>to ρ M fun o M1=>ti ρ M1 fun i M2=>match o,i with
 | .adr p,.int k=>(match M2 p with
   |some (.lst ts)=>(match ixN ts.length k with|some j=>Q ρ (updM M2 p (.lst (ts.set j v)))|none=>False)
   |_=>False)
 |_,_=>False
theorem c2u{o i:Expr}{to ti:TE3}(ho:HE X o to)(hi:HE X i ti)
  (ha:∀v,assign (.Subscript o i pos) X.env v=(do
   let ov <- holding [v] (eval o X.env)
   let iv <- holding [v,ov] (eval i X.env)
   standAt pos
   holding [v,ov,iv] (setItem ov iv v)
   release [v,ov,iv] []):=by intro _;rfl):HG X (.Subscript o i pos) (c6U to ti):=by
 intro pins s σ H v u Q2 I r h;obtain⟨t,ρ,M,Q,q,rt,hr,hh,en⟩:=h;refine c5Y (ho.d (ρ:=ρ)) (hi.d (ρ:=ρ)) c1f ha pins s σ H v u Q2 I r ?_;refine⟨M,_,q,hr,hh,fun ot ov M1 H1 k1 h1 r1 q1=>⟨M1,_,q1,hr.kp k1,h1,fun it iv M2 H2 k2 h2 r2 q2=>?_⟩⟩;dsimp only at q2;split at q2
 ·obtain rfl:=a0q r1;obtain rfl:=a0v r2;split at q2
  ·rename_i ts e0;obtain⟨xs,g1,g2⟩:=h2 _ _ e0;split at q2
   ·rename_i j ej;have kk:=k1.trans k2;refine⟨_,xs,_,j,rfl,rfl,g1,by rw[g2.length];exact ej,en _ _ σ _ (kk.trans (Kp.lst g1)) (hr.kp (kk.trans (Kp.lst g1))) (h2.setL g1 (g2.set (Rep.kp kk _ _ rt) j)) q2⟩
   ·exact q2.elim
  ·exact q2.elim
 ·exact q2.elim
noncomputable def c5B(te:TE3)(g:TG3):TS3:=fun D ρ M=>te ρ M fun x M1=>g x ρ M1 D.nx
theorem c1i{tg:Expr}{g:TG3}(he:HE X e te)(hg:HG X tg g)(hs:swapsWithSole [tg] e pos.line X.env=pure false:=by rfl)(hw:swappedStores [tg] e X.env=pure none:=by rfl)
  (h1:(assignEach [tg] X.env).map (·.2)=[assign tg X.env]:=by rfl):HS X (.Assign [tg] e pos) (c5B te g):=fun D ρ M h =>
 (c5W (he.d (ρ:=ρ)) hg hs hw h1).imp fun D2 σ H ⟨hr,hh,en⟩=>⟨M,_,h,hr,hh,fun t v M1 H1 k1 h1 r1 q1=>⟨t,ρ,M1,D.nx,q1,r1,hr.kp k1,h1,fun ρ' M' σ' H' k r hh' q=>en.nx ρ' M' σ' H' (k1.trans k) r hh' q⟩⟩
structure It3 where
 items:List T
 stay:MH->Prop:=fun _=>True
noncomputable abbrev TI3:=En->MH->(It3->MH->Prop)->Prop
structure ItOk(K:PySem.W.Frag)(H:Hp)(J2:It)(J:It3):Prop where
 stop:∀H' M',Kp K H H'->HR K H' M'->J.stay M'->J2.stop J.items.length H'
 go:∀(i:Nat) (x:T) H' M',J.items[i]?=some x->Kp K H H'->HR K H' M'->J.stay M'->J2.go i H'/\∀v H'',J2.yld i H' v H''->Kp K H' H''/\HR K H'' M'/\Rep K H'' v x
noncomputable def HI(X:Cx)(tg iter:Expr)(wi:TI3):Prop:=∀ρ M R,wi ρ M R->PI X tg iter (fun σ H R2=>RhoR X.K σ H ρ/\HR X.K H M/\∀J J2 M' H',Kp X.K H H'->HR X.K H' M'->ItOk X.K H' J2 J->R J M'->R2 J2 H')
noncomputable def dI(K:PySem.W.Frag)(ρ:En)(wi:TI3):TI:=fun σ H R2=>∃M R,wi ρ M R/\RhoR K σ H ρ/\HR K H M/\∀J J2 M' H',Kp K H H'->HR K H' M'->ItOk K H' J2 J->R J M'->R2 J2 H'
theorem HI.d{tg iter:Expr}{wi:TI3}{ρ:En}(h:HI X tg iter wi):PI X tg iter (dI X.K ρ wi):=fun pins s σ H R I ⟨M,R3,q,b⟩=>h ρ M R3 q pins s σ H R I b
theorem PI.imp{tg iter:Expr}{w w':TI}(h:PI X tg iter w)(f:∀σ H R,w' σ H R->w σ H R):PI X tg iter w':=fun pins s σ H R I q=>h pins s σ H R I (f σ H R q)
noncomputable def c6P(tl:TE3):TI3:=fun ρ M R=>tl ρ M fun x M1=>match x with
 |.tup ts=>R ⟨ts,fun _=>True⟩ M1
 |.adr p=>(match M1 p with|some (.lst ts)=>R ⟨ts,fun M'=>M' p=some (.lst ts)⟩ M1|_=>False)
 |_=>False
theorem c2a{K:PySem.W.Frag}{H:Hp}{a:Addr}{xs:List V}{ts:List T}(h:SqT K H a xs)(r:Reps K H xs ts):ItOk K H (Itt K a) ⟨ts,fun _=>True⟩:=by
 refine⟨fun H' M' k hh _=>⟨xs,k.tup _ _ h,by rw[r.length];exact c8d _⟩,fun i x H' M' e k hh _=>?_⟩;obtain⟨v,e1,r1⟩:=r.get e;refine⟨⟨xs,v,k.tup _ _ h,e1⟩,fun v' H'' y=>?_⟩;obtain⟨rfl,y⟩:=y;have:=y xs (k.tup _ _ h);rw[e1] at this;cases this;exact⟨Kp.refl,hh,Rep.kp k _ _ r1⟩
theorem c2d{K:PySem.W.Frag}{H:Hp}{a:Addr}{ts:List T}:ItOk K H (Itl K a) ⟨ts,fun M'=>M' a=some (.lst ts)⟩:=by
 refine⟨fun H' M' k hh st=>?_,fun i x H' M' e k hh st=>?_⟩
 ·obtain⟨xs,g1,g2⟩:=hh _ _ st;exact⟨xs,SqL.of g1,by rw[g2.length];exact c8d _⟩
 ·obtain⟨xs,g1,g2⟩:=hh _ _ st;obtain⟨v,e1,r1⟩:=g2.get e;refine⟨⟨xs,v,SqL.of g1,e1⟩,fun v' H'' y=>?_⟩;obtain⟨rfl,y⟩:=y;have:=y xs (SqL.of g1);rw[e1] at this;cases this;exact⟨Kp.refl,hh,r1⟩
noncomputable def a0L(lo:Int)(n:Nat):List T:=(c8I n).map fun i=>T.int (lo+(i:Nat))
theorem b0J{K:PySem.W.Frag}{H:Hp}{lo:Int}{n:Nat}:ItOk K H (Itr lo n) ⟨a0L lo n,fun _=>True⟩:=by
 have hl:(a0L lo n).length=n:=by unfold a0L;simp
 refine⟨fun H' M' k hh _=>by show n<=(a0L lo n).length;rw[hl];exact c8d _,fun i x H' M' e k hh _=>?_⟩;have hi:i<n:=by have:=(c8k.mp e).1;rwa [hl] at this
 have ex:x=.int (lo+(i:Nat)):=by
  unfold a0L at e;rw[c8i,c9r hi] at e;exact(c8z e).symm
 subst ex;refine⟨hi,fun v H'' y=>?_⟩;obtain⟨rfl,rfl⟩:=y;exact⟨Kp.refl,hh,a0x⟩
theorem a1N{tg l:Expr}{tl:TE3}(hl:HE X l tl):HI X tg l (c6P tl):=by
 intro ρ M R h pins s σ H R2 I b;obtain⟨hr,hh,en⟩:=b
 refine thn (hl ρ M _ h pins s σ H (fun v H1=>∃t M1,Kp X.K H H1/\HR X.K H1 M1/\Rep X.K H1 v t/\(match t with
  |.tup ts=>R ⟨ts,fun _=>True⟩ M1
  |.adr p=>(match M1 p with|some (.lst ts)=>R ⟨ts,fun M'=>M' p=some (.lst ts)⟩ M1|_=>False)
  |_=>False)) I ⟨hr,hh,fun t v M1 H1 k1 h1 r1 q1=>⟨t,M1,k1,h1,r1,q1⟩⟩) fun v s1 ⟨x,H1,I1,rv,t,M1,k1,h1,r1,q1⟩=>?_
 split at q1
 ·rename_i ts;obtain⟨a,xs,rfl,g1,g2⟩:=a1n r1;cases rv;obtain⟨its,rv,p,hz⟩:=I1.tuple g1;refine d4g (show s1.heap.IsTuple a its.toArray from p) ?_;refine⟨s1.heap.objs.size,[s1.heap.objs.size],_,_,H1,rfl,I1.kept (t':=s1.toks) fun b o e=>c8h _ e,b6I a _,⟨_,c8E _ rfl,rfl,rfl⟩,fun b hb=>?_,en _ _ M1 H1 k1 h1 (c2a g1 g2) q1⟩;have e:b=s1.heap.objs.size:=by simpa using hb
  subst e;exact I1.fpOk (c8d _) (I1.hok.fresh (c8d _))
 ·rename_i a;obtain rfl:=a0q r1;cases rv;split at q1
  ·rename_i ts e0;obtain⟨xs,g1,g2⟩:=h1 _ _ e0;obtain⟨its,rv,p,hz⟩:=I1.list (SqL.of g1);refine d4x p.isList ?_;refine⟨s1.heap.objs.size,[s1.heap.objs.size],_,_,H1,rfl,I1.kept (t':=s1.toks) fun b o e=>c8h _ e,b8a a _,⟨_,c8E _ rfl,rfl,rfl⟩,fun b hb=>?_,en _ _ M1 H1 k1 h1 c2d q1⟩;have e:b=s1.heap.objs.size:=by simpa using hb
   subst e;exact I1.fpOk (c8d _) (I1.hok.fresh (c8d _))
  ·exact q1.elim
 ·exact q1.elim
noncomputable def b9P(t:TA3):TI3:=fun ρ M R=>t ρ M fun xs M1=>match xs with
 |[.int j]=>-(2^62)<=j/\j<2^62/\R ⟨a0L 0 j.toNat,fun _=>True⟩ M1
 |_=>False
noncomputable def b9O(t:TA3):TI3:=fun ρ M R=>t ρ M fun xs M1=>match xs with
 |[.int i,.int j]=>(-(2^62)<=i/\i<2^62/\-(2^62)<=j/\j<2^62)/\R ⟨a0L i (j-i).toNat,fun _=>True⟩ M1
 |_=>False
theorem a6V{tg:Expr}{t:TA3}{p:Pos}(hm:X.mg "range"=none)(ha:HA X [a] t)(hg:Gl X "range":=by rfl)(hs:starEach [a] X.env=[(false,eval a X.env)]:=by rfl):HI X tg (.Call (.Name "range" p) [a] [] pos) (b9P t):=fun ρ M R h =>
 (b8W hg hm (ha.d (ρ:=ρ)) hs).imp fun σ H R2 ⟨hr,hh,en⟩=>⟨M,_,h,hr,hh,fun ts vs M1 H1 k1 h1 r1 q1=>by
  dsimp only at q1;split at q1
  ·rename_i j;obtain⟨v,rfl,rv⟩:=a1L r1;obtain rfl:=a0v rv;exact⟨j,rfl,q1.1,q1.2.1,en _ _ M1 H1 k1 h1 b0J q1.2.2⟩
  ·exact q1.elim⟩
theorem c2f{tg:Expr}{t:TA3}{p:Pos}(hm:X.mg "range"=none)(ha:HA X [a,b] t)(hg:Gl X "range":=by rfl)(hs:starEach [a,b] X.env=[(false,eval a X.env),(false,eval b X.env)]:=by rfl)(hs2:starEach [b] X.env=[(false,eval b X.env)]:=by rfl):HI X tg (.Call (.Name "range" p) [a,b] [] pos) (b9O t):=fun ρ M R h =>
 (b8V hg hm (ha.d (ρ:=ρ)) hs hs2).imp fun σ H R2 ⟨hr,hh,en⟩=>⟨M,_,h,hr,hh,fun ts vs M1 H1 k1 h1 r1 q1=>by
  dsimp only at q1;split at q1
  ·rename_i i j;obtain⟨v,w',rfl,rv,rw'⟩:=c1l r1;obtain rfl:=a0v rv;obtain rfl:=a0v rw';exact⟨i,j,rfl,q1.1,en _ _ M1 H1 k1 h1 b0J q1.2⟩
  ·exact q1.elim⟩
noncomputable def a8e(wi:TI3)(g:TG3)(tb:TS3):TS3:=fun D ρ M=>wi ρ M fun J M1=>∃W:Nat->En->MH->Prop,W 0 ρ M1/\(∀i ρ M,W i ρ M->J.stay M) /\
 (∀i x ρ M,J.items[i]?=some x->W i ρ M->g x ρ M fun ρ2 M2=>tb { D with nx:=W (i+1),ct:=W (i+1),bk:=D.nx } ρ2 M2)/\∀ρ M,W J.items.length ρ M->D.nx ρ M
theorem a7A{tg iter:Expr}{wi:TI3}{g:TG3}{tb:TS3}(hp:d5R (model X.prog X.w) X.A X.env X.xe)(hc:X.calm=true)(hi:HI X tg iter wi)(hg:HG X tg g)(hb:HSs X body tb)
  (hs:∀x,foldedSetIterable iter X.env x=pure x:=by intro _;rfl):HS X (.For tg iter body [] pos) (a8e wi g tb):=fun D ρ0 M0 h =>
 (c5T hp hc (hi.d (ρ:=ρ0)) hg hb.d hs).imp fun D2 σ0 H0 ⟨hr0,hh0,en⟩=>⟨M0,_,h,hr0,hh0,fun J J2 M1 H1 k1 h1 ok q1=>by
  obtain⟨W,w0,wst,turn,fin⟩:=q1;refine⟨fun i m σ H=>m=J.items.length-i/\i<=J.items.length/\Kp X.K H1 H/\∃ρ M,RhoR X.K σ H ρ/\HR X.K H M/\W i ρ M,⟨_,rfl,c9j _,Kp.refl,ρ0,M1,hr0.kp k1,h1,w0⟩,?_⟩;rintro i m σ H ⟨rfl,hi,kk,ρ,M,hr,hh,w⟩;have st:=wst i ρ M w;by_cases hlt:i<J.items.length
  ·have e:J.items[i]?=some J.items[i]:=c8b hlt;obtain⟨go,yl⟩:=ok.go i _ H M e kk hh st;refine .inr ⟨go,fun σ' H'=>i+1<=J.items.length/\Kp X.K H1 H'/\∃ρ M,RhoR X.K σ' H' ρ/\HR X.K H' M/\W (i+1) ρ M,fun σ' H' ⟨a,b,c⟩=>⟨_,by lia,rfl,a,b,c⟩,fun v H' y=>?_⟩;obtain⟨k2,h2,r2⟩:=yl v H' y;refine⟨J.items[i],ρ,M,_,turn i _ ρ M e w,r2,hr.kp k2,h2,fun ρ3 M3 σ3 H3 k3 hr3 hh3 q3=>⟨_,ρ3,M3,q3,hr3,hh3,?_⟩⟩;have kall:=kk.trans (k2.trans k3);refine⟨fun ρ4 M4 σ4 H4 k4 hr4 hh4 q4=>⟨hlt,kall.trans k4,ρ4,M4,hr4,hh4,q4⟩,fun t v M4 H4 k4 h4 r4 q4=>en.rt t v M4 H4 (k1.trans (kall.trans k4)) h4 r4 q4,fun ρ4 M4 σ4 H4 k4 hr4 hh4 q4=>en.nx ρ4 M4 σ4 H4 (k1.trans (kall.trans k4)) hr4 hh4 q4,fun ρ4 M4 σ4 H4 k4 hr4 hh4 q4=>⟨hlt,kall.trans k4,ρ4,M4,hr4,hh4,q4⟩⟩
  ·have e:i=J.items.length:=by lia
   subst e
   exact .inl ⟨ok.stop H M kk hh st,en.nx ρ M σ H (k1.trans kk) hr hh (fin ρ M w)⟩⟩
noncomputable def a8D(c:TT3)(tb:TS3):TS3:=fun D ρ M=>∃W:Nat->En->MH->Prop,(∃m,W m ρ M)/\∀m ρ M,W m ρ M ->
 c ρ M fun b M1=>if b=true then tb { D with nx:=fun ρ' M'=>∃m',m'<m/\W m' ρ' M',ct:=fun ρ' M'=>∃m',m'<m/\W m' ρ' M',bk:=D.nx } ρ M1 else D.nx ρ M1
theorem b8C{c:Expr}{tc:TT3}{tb:TS3}(hp:d5R (model X.prog X.w) X.A X.env X.xe)(hc:HT X c tc)(hb:HSs X body tb):HS X (.While c body [] pos) (a8D tc tb):=by
 intro D ρ0 M0 h pins s σ H D2 I b;obtain⟨hr0,hh0,en⟩:=b;obtain⟨W,⟨m0,w0⟩,turn⟩:=h;refine wpAny_While (codeAny_whileLoop (fun n s'=>∃σ' H' ρ M,Inv X pins σ' H' s'/\Kp X.K H H'/\RhoR X.K σ' H' ρ/\HR X.K H' M/\W n ρ M) ?_ m0 ⟨σ,H,ρ0,M0,I,Kp.refl,hr0,hh0,w0⟩);rintro n s1 ⟨σ1,H1,ρ,M,I1,k1,hr,hh,w1⟩
 refine d0B hp (thn (hc ρ M _ (turn n ρ M w1) pins s1 σ1 H1 (fun b H2=>∃M2,Kp X.K H1 H2/\HR X.K H2 M2/\(if b=true then tb { D with nx:=fun ρ' M'=>∃m',m'<n/\W m' ρ' M',ct:=fun ρ' M'=>∃m',m'<n/\W m' ρ' M',bk:=D.nx } ρ M2 else D.nx ρ M2)) I1 ⟨hr,hh,fun b M2 H2 k2 h2 q2=>⟨M2,k2,h2,q2⟩⟩) fun b s2 ⟨H2,I2,M2,k2,h2,q2⟩=>?_)
 have kk:=k1.trans k2;cases b with
 | true =>
   rw[if_pos rfl] at q2;rw[if_pos rfl]
   refine d0B hp (thn (hb _ ρ M2 q2 pins s2 σ1 H2 { nx:=fun σ' H'=>∃ρ' M',Kp X.K H2 H'/\RhoR X.K σ' H' ρ'/\HR X.K H' M'/\∃m',m'<n/\W m' ρ' M',rt:=D2.rt,bk:=D2.nx,ct:=fun σ' H'=>∃ρ' M',Kp X.K H2 H'/\RhoR X.K σ' H' ρ'/\HR X.K H' M'/\∃m',m'<n/\W m' ρ' M' } I2
    ⟨hr.kp k2,h2,⟨fun ρ' M' σ' H' k r hh' q=>⟨ρ',M',k,r,hh',q⟩,en.rt.kp kk,fun ρ' M' σ' H' k r hh' q=>en.nx ρ' M' σ' H' (kk.trans k) r hh' q,fun ρ' M' σ' H' k r hh' q=>⟨ρ',M',k,r,hh',q⟩⟩⟩) fun f s3 q3=>?_)
   cases f with
   | next =>
     obtain⟨σ3,H3,I3,ρ',M',k3,r3,h3,m',hm,w3⟩:=q3;exact⟨m',hm,σ3,H3,ρ',M',I3,kk.trans k3,r3,h3,w3⟩
   | cont =>
     obtain⟨σ3,H3,I3,ρ',M',k3,r3,h3,m',hm,w3⟩:=q3;exact⟨m',hm,σ3,H3,ρ',M',I3,kk.trans k3,r3,h3,w3⟩
   |brk=>exact q3
   |ret v=>exact q3
 | false =>
   rw[if_neg c8F] at q2;rw[if_neg c8F];exact d0U ⟨σ1,H2,I2,en.nx ρ M2 σ1 H2 kk (hr.kp k2) h2 q2⟩
noncomputable def b1E(ix:List (Option Nat))(ρ:En):En:=ix.map fun o=>match o with|some j=>(ρ[j]?).join|none=>none
theorem c1k{K:PySem.W.Frag}{σ:St}{H:Hp}{ρ:En}(ix:List (Option Nat))(h:RhoR K σ H ρ):RhoR K (pick ix σ) H (b1E ix ρ):=by
 refine⟨by unfold pick b1E;simp,fun i t e=>?_⟩;unfold b1E at e;unfold pick
 rw[c8i] at e|-
 cases hx:ix[i]? with
 |none=>rw[hx] at e;cases e
 | some o =>
   rw[hx] at e;cases o with
   | none =>
     have e':(none:Option T)=some t:=c8z e;cases e'
   | some j =>
     have e':(ρ[j]?).join=some t:=c8z e;cases hj:ρ[j]? with
     |none=>rw[hj] at e';cases e'
     | some u =>
       rw[hj] at e';have e2:u=some t:=e';subst e2;obtain⟨v,a,b⟩:=h.2 j t hj;exact⟨v,by show some ((σ[j]?).join)=some (some v);rw[a]<;>rfl,b⟩
noncomputable def b5D(wi:TI3)(ix:List (Option Nat))(g:TG3)(tt:TT3)(te:TE3):TE3:=fun ρ M Q=>wi ρ M fun J M1=>∃W:Nat->List T->MH->Prop,W 0 [] M1/\(∀i ys M,W i ys M->J.stay M)/\J.items.length<sizeLine /\
 (∀i x ys M,J.items[i]?=some x->W i ys M->g x (b1E ix ρ) M fun ρ2 M2=>tt ρ2 M2 fun ok M3=>if ok=true then te ρ2 M3 fun y M4=>W (i+1) (ys++[y]) M4 else W (i+1) ys M3) /\
 ∀ys M,W J.items.length ys M->∀p,M p=none->Q (.adr p) (updM M p (.lst ys))
noncomputable def HTs(X:Cx)(ifs:LSE)(t:TT3):Prop:=∀ρ M Q,t ρ M Q->PTs X ifs (bT X.K ρ M Q)
noncomputable def c5j:TT3:=fun _ M Q=>Q true M
theorem a1j:HTs X [] c5j:=fun ρ M Q h pins s σ H Q2 I ⟨hr,hh,en⟩=>c3Y pins s σ H Q2 I (en true M H Kp.refl hh h)
theorem b8d{c:Expr}{t:TT3}(h:HT X c t):HTs X [c] t:=fun ρ M Q q=>c3X (h ρ M Q q)
end
noncomputable def dEx(K:PySem.W.Frag)(t:TE3):TE:=fun σ H Q2=>∃ρ M Q,t ρ M Q/\bE K ρ M Q σ H Q2
noncomputable def dTx(K:PySem.W.Frag)(t:TT3):TT:=fun σ H Q2=>∃ρ M Q,t ρ M Q/\bT K ρ M Q σ H Q2
section
variable{X:Cx}{e:Expr}
theorem HE.dx{t:TE3}(h:HE X e t):PE X e (dEx X.K t):=fun pins s σ H Q I ⟨ρ,M,Q3,q,b⟩=>h ρ M Q3 q pins s σ H Q I b
theorem HTs.dx{ifs:LSE}{t:TT3}(h:HTs X ifs t):PTs X ifs (dTx X.K t):=fun pins s σ H Q I ⟨ρ,M,Q3,q,b⟩=>h ρ M Q3 q pins s σ H Q I b
structure BTg(K:PySem.W.Frag)(ix:List (Option Nat))(g2:TG)(g3:TG3):Prop where
 own:Own ix g2
 br:∀(t:T) (v:V) (ρ:En) (M:MH) (σ:St) (H:Hp) (Q3:En->MH->Prop) (Q2:St->Hp->Prop),Rep K H v t->RhoR K σ H ρ->HR K H M->g3 t ρ M Q3->EndG K H Q3 Q2->g2 v σ H Q2
theorem a0N{K:PySem.W.Frag}{ix:List (Option Nat)}{i:Nat}(h:ix[i]?=some none:=by rfl):BTg K ix (c0g i) (c0f i) :=
 ⟨c1M h,fun t v ρ M σ H Q3 Q2 r hr hh q en=>en _ M _ H Kp.refl (hr.set i r) hh q⟩
variable{elt iter tg:Expr}{ifs:LSE}{pos:Pos}{scope:d1R}{N':LSS}{ix:List (Option Nat)}{wi:TI3}{g2:TG}{g3:TG3}{tt:TT3}{te:TE3}
theorem b6z{X:Cx}{N':LSS}{ix:List (Option Nat)}{wi:TI3}{g2:TG}{g3:TG3}{tt:TT3}{te:TE3}(bt:BTg X.K ix g2 g3)(ρ0:En)(M0:MH)(Q:VK3)(h:b5D wi ix g3 tt te ρ0 M0 Q)(σ0:St)(H0:Hp)(Q2:VK)(bb:bE X.K ρ0 M0 Q σ0 H0 Q2) :
  c0Z (dI X.K ρ0 wi) ix g2 (dTx X.K tt) (dEx X.K te) σ0 H0 Q2:=by
 obtain⟨hr0,hh0,en⟩:=bb
 exact⟨M0,_,h,hr0,hh0,fun J J2 M1 H1 k1 h1 ok q1=>by
  obtain⟨W,w0,wst,hsz,turn,fin⟩:=q1;refine⟨fun i m ys H=>m=J.items.length-i/\i<=J.items.length/\ys.length<=i/\Kp X.K H1 H/\∃ts M,Reps X.K H ys ts/\HR X.K H M/\W i ts M,⟨_,rfl,c9j _,c9j _,Kp.refl,[],M1,.nil,h1,w0⟩,?_⟩;rintro i m ys H ⟨rfl,hi,hy,kk,ts,M,rts,hh,w⟩;have st:=wst i ts M w;by_cases hlt:i<J.items.length
  ·have e:J.items[i]?=some J.items[i]:=c8b hlt;obtain⟨go,yl⟩:=ok.go i _ H M e kk hh st;refine .inr ⟨go,by lia,fun v H' y=>?_⟩;obtain⟨k2,h2,r2⟩:=yl v H' y;have kk2:=kk.trans k2;refine bt.br J.items[i] v _ M _ H' _ _ r2 (c1k ix (hr0.kp (k1.trans kk2))) h2 (turn i _ ts M e w) fun ρ3 M3 σ3 H3 k3 hr3 hh3 q3=>⟨ρ3,M3,_,q3,hr3,hh3,fun b M4 H4 k4 h4 q4=>?_⟩;have kk4:=kk2.trans (k3.trans k4)
   dsimp only at q4|-
   cases b with
   | true =>
     rw[if_pos rfl] at q4|-
     refine⟨ρ3,M4,_,q4,hr3.kp k4,h4,fun t5 v5 M5 H5 k5 h5 r5 q5=>⟨_,d3R hlt (d0h i),rfl,hlt,?_,kk4.trans k5,ts++[t5],M5,?_,h5,q5⟩⟩
     ·rw[c8p,c9A];lia
     ·exact(Reps.kp (k2.trans (k3.trans (k4.trans k5))) _ _ rts).append (.cons r5 .nil)
   | false =>
     rw[if_neg c8F] at q4|-
     exact⟨_,d3R hlt (d0h i),rfl,hlt,by lia,kk4,ts,M4,Reps.kp (k2.trans (k3.trans k4)) _ _ rts,h4,q4⟩
  ·have e:i=J.items.length:=by lia
   subst e;refine .inl ⟨ok.stop H M kk hh st,by lia,fun p hp=>?_⟩
   exact en _ _ _ _ (k1.trans (kk.trans (Kp.new hp))) (hh.newL hp rts) a1I (fin ts M w p (hh.free hp))⟩
theorem a1k(hc:X.calm=true)(hi:HI X tg iter wi)(S:BlkScope X N' ix scope)(bt:BTg X.K ix g2 g3)(hg:∀C s H fp pins,PG (blk X N' scope C s H fp pins) tg g2)
  (ht:∀C s H fp pins,HTs (blk X N' scope C s H fp pins) ifs tt) (he:∀C s H fp pins,HE (blk X N' scope C s H fp pins) elt te)
  (hs:∀x,foldedSetIterable iter X.env x=pure x:=by intro _;rfl) :
  HE X (.ListComp elt [⟨tg,iter,ifs,0⟩] scope pos) (b5D wi ix g3 tt te):=fun ρ0 M0 Q h =>
 (c4h (tt:=dTx X.K tt) (te:=dEx X.K te) hc (hi.d (ρ:=ρ0)) S bt.own hg (fun C s H fp pins=>(ht C s H fp pins).dx) (fun C s H fp pins=>(he C s H fp pins).dx) hs).imp fun σ0 H0 Q2 bb=>b6z (X:=X) (N':=N') bt ρ0 M0 Q h σ0 H0 Q2 bb
theorem b8D{i:Nat}{x:Str}{pos' spos:Pos}(hc:X.calm=true)(hi:HI X tg iter wi)(S:BlkScope X N' ix scope)(bt:BTg X.K ix g2 g3)(hg:∀C s H fp pins,PG (blk X N' scope C s H fp pins) tg g2)
  (ht:∀C s H fp pins,HTs (blk X N' scope C s H fp pins) ifs tt) (he:∀C s H fp pins,HE (blk X N' scope C s H fp pins) elt te) (hN:X.N.Nodup) (hi':X.N[i]?=some x:=by rfl) (hx:Loc X.env.scope x:=by first|exact d3n rfl|exact d2F rfl)
  (hsw:swapsWith (.ListComp elt [⟨tg,iter,ifs,0⟩] scope pos) (some (.Name x pos')) spos.line X.env=pure true:=by rfl)
  (hs:∀x,foldedSetIterable iter X.env x=pure x:=by intro _;rfl) (hf:QXX X x:=by first|exact .inl rfl|exact .inr rfl|assumption) :
  HS X (.Assign [.Name x pos'] (.ListComp elt [⟨tg,iter,ifs,0⟩] scope pos) spos) (c0X i (b5D wi ix g3 tt te)):=fun D ρ M h =>
 (c4a (tt:=dTx X.K tt) (te:=dEx X.K te) hN hi' hx hc (hi.d (ρ:=ρ)) S bt.own hg (fun C s H fp pins=>(ht C s H fp pins).dx) (fun C s H fp pins=>(he C s H fp pins).dx) hsw hs hf).imp fun D2 σ H ⟨hr,hh,en⟩ =>
  b6z (X:=X) (N':=N') bt ρ M (fun x M1=>D.nx (ρ.set i (some x)) M1) h σ H _ ⟨hr,hh,fun t v M1 H1 k1 h1 r1 q1=>en.nx _ M1 _ H1 k1 ((hr.kp k1).set i r1) h1 q1⟩
noncomputable def a2P(N:LSS)(ts:List T):En:=ts.map some++c8B (N.length-ts.length) none
theorem a8O{K:PySem.W.Frag}{H:Hp}{N:LSS}{vs:List V}{ts:List T}(r:Reps K H vs ts):RhoR K (start N vs) H (a2P N ts):=by
 have hl:=r.length;refine⟨by unfold start a2P;simp[hl],fun i t e=>?_⟩;unfold a2P at e;unfold start;by_cases hi:i<ts.length
 ·rw[d0c (by simpa using hi),c8i] at e;cases q:ts[i]? with
  |none=>rw[q] at e;cases e
  | some u =>
    rw[q] at e;cases e;obtain⟨v,a,b⟩:=r.get q;refine⟨v,?_,b⟩;rw[d0c (by simpa [hl] using hi),c8i,a];rfl
 ·rw[c8X (by simpa using hi),d2R] at e;split at e<;>cases e
noncomputable def rt3(M:MH)(Q:VK3):VK3:=fun t M'=>∃M0,Sub M0 M'/\Q t M0
end
section
variable{P:c8G}{w:c9d}{K:PySem.W.Frag}{mg:SOV}{base:Heap}
theorem Fun.fnk{x qual:Str}{st:Stmt}{f:Addr}{fd:d0u}{N ps:LSS}{n:Nat}{sp:Sp3}(F:Fun K x qual st f fd)(S:FnScope N ps (a0b st))(len:∀ts M Q,sp ts M Q->ts.length=ps.length)
  (hbody:∃t:TS3,(∀(cdv:c8t) (A:c8Z) (outer:List Env) (s:c8u) (H:Hp) (E:XK),Room n (A.deeper (envOfC qual (a0b st) s.heap.objs.size f cdv)) ->
   HSs (cxOf CX0 P w K mg base N qual (a0b st) f cdv A outer s H E).nox (a1Q st) t) /\
   ∀ts M Q,sp ts M Q->t { nx:=fun _ M'=>rt3 M Q .non M',rt:=rt3 M Q } (a2P N ts) M):FnOk P w K mg base CX0 (n+1) f fd ps (dSp K sp):=by
 obtain⟨t,hbody,rd⟩:=hbody;refine F.ok S (fun vs H Q E ⟨ts,M,Q3,r,_,q,_⟩=>by rw[r.length];exact len _ _ _ q) (fun cdv A outer s H vs Q E hr ⟨ts,M,Q3,r,hh,q,en⟩=>?_);refine⟨_,hbody cdv A outer s H E hr _ _ _ (rd ts M Q3 q),a8O r,hh,⟨?_,?_,fun _ _ _ _ _ _ _ z=>z.elim,fun _ _ _ _ _ _ _ z=>z.elim⟩⟩
 ·rintro ρ' M' σ' H' k hr' hh' ⟨M0,hs,q'⟩;exact en .non .non M0 H' k (hh'.sub hs) a5j q'
 ·rintro t' v' M' H' k hh' r' ⟨M0,hs,q'⟩;exact en t' v' M0 H' k (hh'.sub hs) r' q'
theorem Fun.dfn{x qual:Str}{st:Stmt}{f:Addr}{fd:d0u}{N ps:LSS}{n:Nat}{sp:Sp3}(F:Fun K x qual st f fd)(hm:mg x=some (.ref f))(hb:a3n K fd ps [])(S:FnScope N ps (a0b st))(len:∀ts M Q,sp ts M Q->ts.length=ps.length)
  (hbody:∃t:TS3,(∀(cdv:c8t) (A:c8Z) (outer:List Env) (s:c8u) (H:Hp) (E:XK),Room n (A.deeper (envOfC qual (a0b st) s.heap.objs.size f cdv)) ->
   HSs (cxOf CX0 P w K mg base N qual (a0b st) f cdv A outer s H E).nox (a1Q st) t) /\
   ∀ts M Q,sp ts M Q->t { nx:=fun _ M'=>rt3 M Q .non M',rt:=rt3 M Q } (a2P N ts) M):Df P w K mg base (n+1) x ps sp :=
 ⟨f,fd,F.fnk S len hbody,hm,F.kp,hb⟩
end
theorem c1X{l:PySem.W.OpenLaw}{k:Nat}{q:c8G}{loose:LSS}{XP:(SOV)->Heap->Prop}{YP:c9d->Heap->Prop}{d:DefRec}{K:Params->PySem.W.Frag}{sp:Sp3}
  (hn:l.most=some 63) (hdf:d.params.defaults=[]) (hr:Room k callerA) (hY:∀(w:c9d) (h:Heap),YP w h->(K w.params).In h)
  (hs:∀(ns:LSI) M Q,ns.length<=63->Q (.bl true) M->sp [.rd (ns.map .int)] M Q)
  (F:∀(w:c9d) (mg:SOV) (fa:Addr) (h:Heap),(K w.params).In h->h.Ns mainGlobals mg->mg d.name=some (.ref fa) ->
   ∃fd:d0u,(∀(s:c8u) (u:c8t),d5i s fd ⟨[u],[]⟩ [("script",u)])/\∀base:Heap,(K w.params).In base->base.Ns mainGlobals mg->FnOk l.prog w (K w.params) mg base CX0 k fa fd ["script"] (dSp (K w.params) sp)) :
  PySem.W.WalkO q loose XP YP l.row.toRowW d [] (fun f vs=>PySem.call f vs):=by
 refine L2.c3t (n:=63) (k:=k) (x:="script") (CX:=fun _=>CX0) (sp:=fun w=>dSp (K w.params) sp) hn (by decide) hdf hr hY F (fun w H a ns hl hO hS=>?_) fun _ _ _ _ _ z=>z
 have fz:FzL (K w.params) H a (ns.map V.int):=by
  rcases hS with (h|⟨o,h⟩)|h
  ·rcases hO a with z|⟨ob,xs,z⟩
   ·rw[h] at z;cases z
   ·rw[h] at z;cases z
  ·exact .inl ⟨o,h⟩
  ·exact .inr h
 refine⟨[.rd (ns.map .int)],fun _=>none,fun t _=>t=.bl true,.cons ?_ .nil,(fun _ _ z=>by cases z),hs ns _ (fun t _=>t=.bl true) hl rfl,fun t v M' H' _ _ r e=>?_⟩
 ·unfold Rep;exact⟨a,_,rfl,fz,Reps.of_ints ns⟩
 ·subst e;exact a4G r
theorem a3b:∀{xs:List V} {us:LSV},xs.length=us.length->(∀(j:Nat) x,xs[j]?=some x->∃u,us[j]?=some u/\RelV x u)->Vals xs us
 |[],[],_,_=>.nil
 |[],_::_,h,_=>by simp at h
 |_::_,[],h,_=>by simp at h
 | x::xs,u::us,h,g=>by
   refine .cons ?_ (a3b (by simpa using h) fun j y e=>?_)
   ·obtain⟨w,e,r⟩:=g 0 x rfl;have:u=w:=by simpa using e
    subst this;exact r
   ·obtain⟨w,e',r⟩:=g (j+1) y (by simpa using e);exact⟨w,by simpa using e',r⟩
noncomputable def a1o(lo:Int)(n:Nat):List V:=(c8I n).map fun i=>V.int (lo+(i:Nat))
theorem a6l{K:PySem.W.Frag}{H:Hp}(lo:Int)(n:Nat):Reps K H (a1o lo n) (a0L lo n):=by
 have e1:a1o lo n=((c8I n).map fun i=>lo+((i:Nat):Int)).map V.int:=by unfold a1o;rw[c9l];rfl
 have e2:a0L lo n=((c8I n).map fun i=>lo+((i:Nat):Int)).map T.int:=by unfold a0L;rw[c9l];rfl
 rw[e1,e2];exact Reps.of_ints _
section
variable{X:Cx}{a b e:Expr}{es:LSE}{ta te:TE3}{t:TA3}{pos:Pos}
noncomputable def c2Q(t:TA3):TE3:=fun ρ M Q=>t ρ M fun xs M1=>match xs with
 |[.int j]=>(-(2^62)<=j/\j<2^24)/\∀p,M1 p=none->Q (.adr p) (updM M1 p (.lst (a0L 0 j.toNat)))
 |_=>False
theorem b3Q{t:TA3}{p p' pos':Pos}(hm:X.mg "list"=none)(hm':X.mg "range"=none)(ha:HA X [a] t)(hc:X.calm=true:=by rfl)(hg:Gl X "list":=by rfl)(hg':Gl X "range":=by rfl)(hs:starEach [a] X.env=[(false,eval a X.env)]:=by rfl)
  (he:starEach [.Call (.Name "range" p') [a] [] pos'] X.env=(false,eval (.Call (.Name "range" p') [a] [] pos') X.env)::starEach [] X.env:=by rfl) :
  HE X (.Call (.Name "list" p) [.Call (.Name "range" p') [a] [] pos'] [] pos) (c2Q t):=by
 intro ρ M Q h pins s σ H Q2 I bb;obtain⟨hr,hh,en⟩:=bb;refine c9o (a2Q I hg hm boot_list ?_ (by decide) (by decide));refine c8H ?_ he rfl;rw[he];refine c9E ?_
 refine d6e (a2Q I hg' hm' d2A (c8H (thn (ha ρ M _ h pos' pins s σ H (fun vs H1=>∃j M1,vs=[V.int j]/\HR X.K H1 M1/\Kp X.K H H1/\(-(2^62)<=j/\j<2^24)/\∀p,M1 p=none->Q (.adr p) (updM M1 p (.lst (a0L 0 j.toNat)))) I
  ⟨hr,hh,fun ts vs M1 H1 k1 h1 r1 q1=>by
   dsimp only at q1;split at q1
   ·rename_i j;obtain⟨v,rfl,rv⟩:=a1L r1;obtain rfl:=a0v rv;exact⟨j,M1,rfl,h1,k1,q1.1,q1.2⟩
   ·exact q1.elim⟩) fun us s1 ⟨vs,H1,I1,rv,j,M1,e1,h1,k1,hj,q1⟩=>?_) hs rfl))
 subst e1;obtain⟨u,rfl,t',rfl⟩:=a3o rv;refine d4E (c9Z ?_);have I2:Inv X pins σ H1 { s1 with heap:=s1.heap.push { cls:=.type "range",data:=.fields #[.int 0 s1.toks,.int j t',.int 1 (s1.toks+1)] },toks:=s1.toks+2 }:=I1.kept fun b o e=>c8h _ e;have hn:c9f 0 j 1=((j.toNat:Nat):Int):=by rw[d2Q];split<;>lia
 refine d5n (I1.ok.hd hc) (d2P ..) (d5h (by lia) (by lia) (by lia) (by lia)) hn (by lia) fun h' tk acc' c' kp e ito=>?_;have hz:j.toNat<=sizeLine:=by rw[c9z];lia
 have vr:Vals (a1o 0 j.toNat) acc'.toList:=by
  refine a3b (by unfold a1o;simp[ito.1]) fun i x ex=>?_;have hi:i<j.toNat:=by have:=(c8k.mp ex).1;simpa [a1o] using this
  have hi':i<acc'.size:=by rw[ito.1];exact hi
  have ea:acc'[i]?=some acc'[i]:=c9M hi';obtain⟨tt,et⟩:=ito.2 i _ ea;refine⟨acc'[i],by rw[c9p];exact ea,?_⟩;unfold a1o at ex;rw[c8i,c9r hi] at ex;have:=c8z ex;subst this;exact⟨tt,by rw[et,d3M]⟩
 have I3:=I2.laid (a:={ s1 with heap:=s1.heap.push { cls:=.type "range",data:=.fields #[.int 0 s1.toks,.int j t',.int 1 (s1.toks+1)] },toks:=s1.toks+2 }.heap.objs.size) (o:=.lst (a1o 0 j.toNat)) (t':=tk) kp (c8d _)
  (show a1d X.prog X.w _ h' _ (.lst (a1o 0 j.toNat)) from ⟨by unfold a1o;simpa using hz,acc'.toList,c',vr,by simpa using e⟩)
 have hf:=I2.hok.fresh (c8d _);exact⟨.ref _,_,I3,rfl,en _ _ _ _ (k1.trans (Kp.new hf)) (h1.newL hf (a6l 0 j.toNat)) a1I (q1 _ (h1.free hf))⟩
noncomputable def b9H(M:MH)(x:T):Prop:=match x with
 |.adr p=>(match M p with|some (.lst _)=>True|_=>False)
 |_=>False
noncomputable abbrev RM3:=T->List T->MH->VK3->Prop
noncomputable def dM(K:PySem.W.Frag)(r:RM3):V->List V->Hp->VK->Prop:=fun v vs H Q2=>∃x xs M Q,Rep K H v x/\Reps K H vs xs/\HR K H M/\r x xs M Q/\EndE K H Q Q2
noncomputable def MtR3(X:Cx)(id:String)(r:RM3):Prop:=MtR X id (dM X.K r)
noncomputable def tLM3(r:RM3)(to:TE3)(t:TA3):TE3:=fun ρ M Q=>to ρ M fun x M1=>b9H M1 x/\t ρ M1 fun xs M2=>r x xs M2 Q
noncomputable def tLM0(r:RM3)(to:TE3):TE3:=fun ρ M Q=>to ρ M fun x M1=>b9H M1 x/\r x [] M1 Q
theorem b1Y{K:PySem.W.Frag}{H:Hp}{M:MH}{x:T}{v:V}(hh:HR K H M)(r:Rep K H v x)(h:b9H M x):tyV K "list" v H:=by
 unfold b9H at h;split at h
 ·rename_i p;split at h
  ·rename_i ts e;obtain⟨xs,g1,_⟩:=hh _ _ e;obtain rfl:=a0q r;exact .inl ⟨rfl,xs,SqL.of g1⟩
  ·exact h.elim
 ·exact h.elim
theorem h_lm{o:Expr}{to:TE3}{name:Str}{apos cpos:Pos}{id:String}{r:RM3}(slot:Slot "list" name id)(hty:typeOf (.builtin id)=pure (.type "method_descriptor"))(hm:MtR3 X id r)(ho:HE X o to)(ha:HA X (e::es) t)
  (hbase:attributeBase o name X.env (eval o X.env)=eval o X.env:=by rfl)
  (hfew:QFF X cpos e es:=by rfl)
  (hline:QLL apos cpos:=by rfl) (hs:QSS X e es:=by rfl) (hplain:QPP X cpos es:=by rfl) :
  HE X (.Call (.Attribute o name apos) (e::es) [] cpos) (tLM3 r to t):=fun ρ M Q h =>
 (c6i PySem.F.plainAttrs_list slot hty hm (ho.d (ρ:=ρ)) (ha.d (ρ:=ρ)) hbase hfew hline hs hplain).imp fun σ H Q2 ⟨hr,hh,en⟩=>⟨M,_,h,hr,hh,fun x v M1 H1 k1 h1 r1 q1=>⟨b1Y h1 r1 q1.1,M1,_,q1.2,hr.kp k1,h1,fun ts vs M2 H2 k2 h2 r2 q2 =>
  ⟨x,ts,M2,Q,Rep.kp k2 _ _ r1,r2,h2,q2,en.kp (k1.trans k2)⟩⟩⟩
theorem c7T{o:Expr}{to:TE3}{name:Str}{apos cpos:Pos}{id:String}{r:RM3}(slot:Slot "list" name id)(hty:typeOf (.builtin id)=pure (.type "method_descriptor"))(hm:MtR3 X id r)(ho:HE X o to)
  (hbase:attributeBase o name X.env (eval o X.env)=eval o X.env:=by rfl) (hline:QLL apos cpos:=by rfl):HE X (.Call (.Attribute o name apos) [] [] cpos) (tLM0 r to):=fun ρ M Q h =>
 (c6h PySem.F.plainAttrs_list slot hty hm (ho.d (ρ:=ρ)) hbase hline).imp fun σ H Q2 ⟨hr,hh,en⟩=>⟨M,_,h,hr,hh,fun x v M1 H1 k1 h1 r1 q1=>⟨b1Y h1 r1 q1.1,x,[],M1,Q,r1,.nil,h1,q1.2,en.kp k1⟩⟩
noncomputable def c1t:RM3:=fun x xs M Q=>match x,xs with
 |.adr p,[y]=>(match M p with|some (.lst ts)=>ts.length<sizeLine/\Q .non (updM M p (.lst (ts++[y])))|_=>False)
 |_,_=>False
theorem b7r:MtR3 X "list.append" c1t:=by
 intro pins s σ H v vs u us Q2 I rv rvs h;obtain⟨x,xs,M,Q,r1,r2,hh,q,en⟩:=h;unfold c1t at q;split at q
 ·rename_i p y;split at q
  ·rename_i ts e0;obtain⟨ys,g1,g2⟩:=hh _ _ e0;obtain rfl:=a0q r1;obtain⟨w,rfl,rw'⟩:=a1L r2;exact b9q pins s σ H _ _ u us Q2 I rv rvs ⟨_,ys,w,rfl,rfl,g1,by rw[g2.length];exact q.1,en _ _ _ _ (Kp.lst g1) (hh.setL g1 (g2.append (.cons rw' .nil))) a5j q.2⟩
  ·exact q.elim
 ·exact q.elim
noncomputable def c1r:RM3:=fun x xs M Q=>match x,xs with
 |.adr p,[]=>(match M p with|some (.lst ts)=>(match ts[ts.length-1]? with|some y=>Q y (updM M p (.lst ts.dropLast))|none=>False)|_=>False)
 |_,_=>False
theorem c4u:MtR3 X "list.pop" c1r:=by
 intro pins s σ H v vs u us Q2 I rv rvs h;obtain⟨x,xs,M,Q,r1,r2,hh,q,en⟩:=h;unfold c1r at q;split at q
 ·rename_i p;split at q
  ·rename_i ts e0;obtain⟨ys,g1,g2⟩:=hh _ _ e0;obtain rfl:=a0q r1;unfold Reps at r2;subst r2;split at q
   ·rename_i y ey;obtain⟨w,ew,rw'⟩:=g2.get ey;rw[<- g2.length] at ew;exact c6w pins s σ H _ _ u us Q2 I rv rvs ⟨_,ys,w,rfl,rfl,g1,ew,en _ _ _ _ (Kp.lst g1) (hh.setL g1 g2.dropLast) (Rep.kp (Kp.lst g1) _ _ rw') q⟩
   ·exact q.elim
  ·exact q.elim
 ·exact q.elim
noncomputable def a9f:List T->Option (LSI)
 |[]=>some []
 |.int i::ts=>(a9f ts).map (i::·)
 |_::_=>none
theorem b3N:∀(ns:LSI),a9f (ns.map T.int)=some ns
 |[]=>rfl
 |n::ns=>by show(a9f (ns.map T.int)).map (n::·)=_;rw[b3N ns];rfl
theorem a7J:∀{ts:List T} {ns:LSI},a9f ts=some ns->ts=ns.map T.int
 |[],ns,e=>by unfold a9f at e;cases e;rfl
 | t :: ts,ns,e=>by
   cases t with
   | int i =>
     unfold a9f at e;cases q:a9f ts with
     |none=>rw[q] at e;cases e
     |some cs=>rw[q] at e;cases e;rw[a7J q];rfl
   |_=>unfold a9f at e;cases e
noncomputable def b1B:RM3:=fun x xs M Q=>match x,xs with
 | .adr p,[.int k]=>(match M p with
   |some (.lst ts)=>(match a9f ts with|some ns=>k∈ns/\Q (.int (ns.idxOf k)) M|none=>False)
   |_=>False)
 |_,_=>False
theorem b9s:MtR3 X "list.index" b1B:=by
 intro pins s σ H v vs u us Q2 I rv rvs h;obtain⟨x,xs,M,Q,r1,r2,hh,q,en⟩:=h;unfold b1B at q;split at q
 ·rename_i p k;split at q
  ·rename_i ts e0;obtain⟨ys,g1,g2⟩:=hh _ _ e0;obtain rfl:=a0q r1;obtain⟨w,rfl,rw'⟩:=a1L r2;obtain rfl:=a0v rw';split at q
   ·rename_i ns en';have et:=a7J en';subst et;obtain rfl:=g2.ints;cases rv;obtain⟨w',rfl,tk,rfl⟩:=a3o rvs;obtain⟨its,r',pl,hz⟩:=I.list (SqL.of g1);have hl:=r'.length;rw[c8a] at hl hz;obtain⟨o,n,eo,ec,edd,ed⟩:=id pl;obtain⟨cls,dd,data,sl⟩:=o;simp only at ec edd ed;subst ec edd ed;have hk:ns.idxOf k<ns.length:=d2I.mpr q.1
    have item:∀(j:Nat) (hj:j<its.toArray.size),∃tk',its.toArray[j]=d0R (ns[j]'(by rw[c8j,<- hl] at hj;exact hj)) tk':=fun j hj=>by
     have hj':j<ns.length:=by rw[c8j,<- hl] at hj;exact hj
     obtain⟨w2,e2,tk',rfl⟩:=r'.get (i:=j) (x:=V.int ns[j]) (by rw[c8i,c8b hj']<;>rfl);have:its[j]?=some its.toArray[j]:=by rw[c8b (by rw[c8j] at hj;exact hj)]<;>simp
     rw[e2] at this;exact⟨tk',(c8z this).symm⟩
    let ee:c8t->Bool:=fun v=>match v with|.int i _=>i==k|_=>false
    have hsz:=c9z;refine c9X PySem.F.slot_list_index ⟨_,eo,rfl⟩ PySem.F.entry_list_index (PySem.F.args_list_index_2 _ _)
     (SeqAt.list_indexAt p its.toArray n none sl (.int k tk) ee (ns.idxOf k) (by rw[c8j,<- hl];exact hk) (by lia) ?_ ?_) ⟨eo,fun y hy=>?_,?_⟩
    ·obtain⟨tk',e⟩:=item (ns.idxOf k) (by rw[c8j,<- hl];exact hk);rw[e];show(ns[ns.idxOf k]==k)=true;simp
    ·intro m hm hlt;obtain⟨tk',e⟩:=item m hm;rw[e];show(ns[m]'_==k)=false;have:=d3g (p:=(·==k)) (xs:=ns) (i:=m) (by simpa [d6n] using hlt)
     simpa using this
    ·obtain⟨j,hj,rfl⟩:=d3C hy;obtain⟨tk',e⟩:=item j hj;rw[e];exact d2j _ _ _ _
    ·exact⟨.int (ns.idxOf k),H,I.tok _,⟨_,rfl⟩,en _ _ M H Kp.refl hh a0x q.2⟩
   ·exact q.elim
  ·exact q.elim
 ·exact q.elim
theorem a7K{o:Expr}{to:TE3}{apos cpos:Pos}(ho:HE X o to)(ha:HA X (e::es) t)
  (hbase:attributeBase o "append" X.env (eval o X.env)=eval o X.env:=by rfl)
  (hfew:QFF X cpos e es:=by rfl)
  (hline:QLL apos cpos:=by rfl) (hs:QSS X e es:=by rfl) (hplain:QPP X cpos es:=by rfl) :
  HE X (.Call (.Attribute o "append" apos) (e::es) [] cpos) (tLM3 c1t to t):=h_lm PySem.F.slot_list_append PySem.F.type_list_append b7r ho ha hbase hfew hline hs hplain
theorem b9W{o:Expr}{to:TE3}{apos cpos:Pos}(ho:HE X o to)(_:HA X [] c0Y)(hbase:attributeBase o "pop" X.env (eval o X.env)=eval o X.env:=by rfl)(hline:QLL apos cpos:=by rfl) :
  HE X (.Call (.Attribute o "pop" apos) [] [] cpos) (tLM0 c1r to):=c7T PySem.F.slot_list_pop PySem.F.type_list_pop c4u ho hbase hline
end
end L2
namespace LM
noncomputable def a1H(n l:Int):Prop:=1<=(l.natAbs:Int)/\(l.natAbs:Int)<n
noncomputable def a0S(n:Int)(w:LSI):Prop:=∀l∈w,a1H n l
noncomputable def b3L(n l:Int):Bool:=decide (1<=l.natAbs)&&decide ((l.natAbs:Int)<n)
noncomputable def isPl(n:Int)(w:LSI):Bool:=decide (1<=n)&&decide (n<=6)&&decide (w.length<=16)&&w.all (b3L n)
noncomputable def PlOK(n:Int)(w:LSI):Prop:=1<=n/\n<=6/\w.length<=16/\a0S n w
theorem b9I{n l:Int}:b3L n l=true<->a1H n l:=by
 unfold b3L a1H;simp only[c8S,decide_eq_true_eq];lia
theorem PlOK.is{n:Int}{w:LSI}(h:PlOK n w):isPl n w=true:=by
 obtain⟨h1,h2,h3,h4⟩:=h;unfold isPl;simp only[c8S,decide_eq_true_eq,c9N];exact⟨⟨⟨h1,h2⟩,h3⟩,fun l hl=>b9I.mpr (h4 l hl)⟩
theorem a0S.append{n:Int}{u v:LSI}(h:a0S n u)(g:a0S n v):a0S n (u++v):=fun l hl=>(c8U.mp hl).elim (h l) (g l)
theorem a0F{α β:Type}(f:α->β){L:List α}{i:Nat}{x:α}(h:L[i]?=some x):(L.take i).map f++[f x]=(L.take (i+1)).map f:=by
 rw[c8Y,h];simp
theorem a0r{α β:Type}{f:α->β}{L:List α}{i:Nat}{y:β}(h:(L.map f)[i]?=some y):∃x,L[i]?=some x/\f x=y:=by
 rw[c8i] at h;cases q:L[i]? with
 |none=>rw[q] at h;cases h
 |some x=>rw[q] at h;exact⟨x,rfl,c8z h⟩
noncomputable def a5U(st:LSI)(l:Int):LSI:=(st.set (l.natAbs-1) (st.getD l.natAbs 0)).set l.natAbs (st.getD (l.natAbs-1) 0)
noncomputable def a0I(n:Int):LSI:=(c8I n.toNat).map fun i=>((i:Nat):Int)
noncomputable def a3p(n:Int)(w:LSI):LSI:=w.foldl a5U (a0I n)
noncomputable def a6N(n:Int)(w:LSI):LSI:=(a0I n).map fun s=>(((a3p n w).idxOf s:Nat):Int)
noncomputable def a1t(p l:Int):Int:=if (l.natAbs:Int)=p then p-1 else if (l.natAbs:Int)=p+1 then p+1 else p
theorem a0J(n:Int):(a0I n).length=n.toNat:=by unfold a0I;simp
theorem a2w(st:LSI)(l:Int):(a5U st l).length=st.length:=by unfold a5U;simp
theorem a7N(w:LSI):∀st:LSI,(w.foldl a5U st).length=st.length:=by
 induction w with
 |nil=>intro st;rfl
 |cons l w ih=>intro st;rw[d0f,ih,a2w]
theorem a1B(n:Int)(w:LSI):(a3p n w).length=n.toNat:=by unfold a3p;rw[a7N,a0J]
theorem b4z{n l:Int}{w:LSI}{i:Nat}(h:w[i]?=some l):a3p n (w.take (i+1))=a5U (a3p n (w.take i)) l:=by
 unfold a3p;rw[c8Y,h,d0F];rfl
theorem a1R{n s:Int}(h:s∈a0I n):0<=s/\s<n:=by
 unfold a0I at h;obtain⟨i,hi,rfl⟩:=c8q.mp h;have:=c9U.mp hi;lia
theorem b6p(l:LSI)(i j:Nat)(x d:Int):(l.set i x).getD j d=if i=j/\j<l.length then x else l.getD j d:=by
 rw[c8l,List.getElem?_set];by_cases h:i=j
 ·subst h;by_cases h2:i<l.length
  ·rw[if_pos rfl,if_pos h2,if_pos ⟨rfl,h2⟩];rfl
  ·rw[if_pos rfl,if_neg h2,if_neg (fun q=>h2 q.2)];rw[c8l,List.getElem?_eq_none (by lia)]
 ·rw[if_neg h,if_neg (fun q=>h q.1),c8l]
theorem b8s(st:LSI)(l:Int)(h:a1H (st.length:Int) l)(k:Nat) :
  (a5U st l).getD k 0=if k=l.natAbs then st.getD (l.natAbs-1) 0 else if k=l.natAbs-1 then st.getD l.natAbs 0 else st.getD k 0:=by
 unfold a1H at h;unfold a5U;rw[b6p,b6p,c9K];by_cases h1:k=l.natAbs
 ·subst h1;rw[if_pos ⟨rfl,by lia⟩,if_pos rfl]
 ·rw[if_neg (fun q=>h1 q.1.symm),if_neg h1];by_cases h2:k=l.natAbs-1
  ·subst h2;rw[if_pos ⟨rfl,by lia⟩,if_pos rfl]
  ·rw[if_neg (fun q=>h2 q.1.symm),if_neg h2]
theorem b5k(st:LSI)(l:Int)(h:a1H (st.length:Int) l)(p s:Int)(h0:0<=p)(h1:p<st.length)(e:st.getD p.toNat 0=s) :
  0<=a1t p l/\a1t p l<st.length/\(a5U st l).getD (a1t p l).toNat 0=s:=by
 have hl:=h;unfold a1H at hl;rw[b8s st l h];unfold a1t;by_cases h2:(l.natAbs:Int)=p
 ·rw[if_pos h2];refine⟨by lia,by lia,?_⟩;have e1:(p-1).toNat=l.natAbs-1:=by lia
  have e2:p.toNat=l.natAbs:=by lia
  rw[e1,if_neg (by lia),if_pos rfl,<- e2];exact e
 ·rw[if_neg h2];by_cases h3:(l.natAbs:Int)=p+1
  ·rw[if_pos h3];refine⟨by lia,by lia,?_⟩;have e1:(p+1).toNat=l.natAbs:=by lia
   have e2:p.toNat=l.natAbs-1:=by lia
   rw[e1,if_pos rfl,<- e2];exact e
  ·rw[if_neg h3];refine⟨h0,h1,?_⟩;rw[if_neg (by lia),if_neg (by lia)];exact e
theorem b7G(w:LSI):∀(st:LSI) (p s:Int),a0S (st.length:Int) w->0<=p->p<st.length->st.getD p.toNat 0=s ->
  0<=w.foldl a1t p/\w.foldl a1t p<st.length/\(w.foldl a5U st).getD (w.foldl a1t p).toNat 0=s:=by
 induction w with
 |nil=>intro st p s _ h0 h1 e;exact⟨h0,h1,e⟩
 | cons l w ih =>
   intro st p s hw h0 h1 e;obtain⟨a,b,c⟩:=b5k st l (hw l c8r) p s h0 h1 e;rw[d0f,d0f];have:=ih (a5U st l) (a1t p l) s (by rw[a2w];exact fun x hx=>hw x (c8m _ hx)) a (by rw[a2w];exact b) c;rw[a2w] at this;exact this
theorem b6Z(n:Int)(s:Int)(h0:0<=s)(h1:s<n):(a0I n).getD s.toNat 0=s:=by
 unfold a0I;rw[c8l,c8i,c9r (by lia)];show((s.toNat:Nat):Int)=s;lia
theorem a7X(n:Int)(w:LSI)(hw:a0S n w)(s:Int)(h0:0<=s)(h1:s<n) :
  0<=w.foldl a1t s/\w.foldl a1t s<n/\(a3p n w).getD (w.foldl a1t s).toNat 0=s:=by
 have hl:((a0I n).length:Int)=n:=by rw[a0J];lia
 have:=b7G w (a0I n) s s (by rw[hl];exact hw) h0 (by rw[hl];exact h1) (b6Z n s h0 h1);rw[hl] at this;exact this
theorem getD_mem{l:LSI}{k:Nat}(h:k<l.length):l.getD k 0∈l:=by
 rw[c8l,c8b h];exact c9B h
theorem b8w(n:Int)(w:LSI)(hw:a0S n w)(s:Int)(h0:0<=s)(h1:s<n):s∈a3p n w:=by
 obtain⟨a,b,c⟩:=a7X n w hw s h0 h1;have:=getD_mem (l:=a3p n w) (k:=(w.foldl a1t s).toNat) (by rw[a1B];lia);rw[c] at this;exact this
theorem a3t(n:Int):(a0I n).Nodup:=by
 unfold a0I;refine List.Pairwise.map _ (fun(a b:Nat) (h:a≠b)=>?_) List.nodup_range;show(a:Int)≠(b:Int);lia
theorem b6K(st:LSI)(l:Int)(h:a1H (st.length:Int) l):(a5U st l).Perm st:=by
 unfold a1H at h;unfold a5U;have ha:l.natAbs-1<st.length:=by lia
 have hb:l.natAbs<st.length:=by lia
 have e1:st.getD l.natAbs 0=st[l.natAbs]:=by rw[c8l,c8b hb];rfl
 have e2:st.getD (l.natAbs-1) 0=st[l.natAbs-1]:=by rw[c8l,c8b ha];rfl
 rw[e1,e2];exact List.set_set_perm ha hb
theorem a9m(w:LSI):∀st:LSI,a0S (st.length:Int) w->(w.foldl a5U st).Perm st:=by
 induction w with
 |nil=>intro st _;exact .refl _
 | cons l w ih =>
   intro st hw;rw[d0f];exact(ih _ (by rw[a2w];exact fun x hx=>hw x (c8m _ hx))).trans (b6K st l (hw l c8r))
theorem b6N(n:Int)(w:LSI)(h0:0<=n)(hw:a0S n w):(a3p n w).Perm (a0I n):=by
 refine a9m w (a0I n) ?_;have e:((n.toNat:Nat):Int)=n:=by lia
 rw[a0J,e];exact hw
theorem b0b{l:LSI}(nd:l.Nodup){k:Nat}(hk:k<l.length)(x:Int)(e:l.getD k 0=x):l.idxOf x=k:=by
 rw[c8l,c8b hk] at e;have e':l[k]=x:=e;subst e';exact nd.idxOf_getElem k hk
theorem b7z(n:Int)(w:LSI)(hw:a0S n w)(s:Int)(h0:0<=s)(h1:s<n):(((a3p n w).idxOf s:Nat):Int)=w.foldl a1t s:=by
 obtain⟨a,b,c⟩:=a7X n w hw s h0 h1;have nd:(a3p n w).Nodup:=(b6N n w (by lia) hw).nodup_iff.mpr (a3t n);rw[b0b nd (k:=(w.foldl a1t s).toNat) (by rw[a1B];lia) s c];lia
theorem b1F(n:Int)(w:LSI):(a6N n w).length=n.toNat:=by unfold a6N;rw[c8a,a0J]
theorem b7H{α β:Type}(f:β->α->β){L:List α}{i:Nat}{x:α}(b:β)(h:L[i]?=some x):(L.take (i+1)).foldl f b=f ((L.take i).foldl f b) x:=by
 rw[c8Y,h,d0F];rfl
noncomputable def a0R(w:LSI):LSI:=w.reverse.map fun l=>-l
noncomputable def b2d(n l:Int):Int:=if l<0 then -(n+l) else n-l
theorem b2u(w:LSI):(a0R w).length=w.length:=by unfold a0R;simp
theorem a1H.neg{n l:Int}(h:a1H n l):a1H n (-l):=by unfold a1H at *;lia
theorem a1H.flip{n l:Int}(h:a1H n l):a1H n (b2d n l):=by unfold a1H b2d at *;split<;>lia
theorem a0S.map{n:Int}{w:LSI}{f:Int->Int}(hf:∀l,a1H n l->a1H n (f l))(h:a0S n w):a0S n (w.map f):=fun l hl=>by
 obtain⟨k,hk,rfl⟩:=c8q.mp hl;exact hf k (h k hk)
theorem a0S.reverse{n:Int}{w:LSI}(h:a0S n w):a0S n w.reverse:=fun l hl=>h l (d2Z.mp hl)
theorem a0S.contr{n:Int}{w:LSI}(h:a0S n w):a0S n (a0R w):=h.reverse.map fun _=>a1H.neg
theorem PlOK.contr{n:Int}{w:LSI}(h:PlOK n w):PlOK n (a0R w):=⟨h.1,h.2.1,by rw[b2u];exact h.2.2.1,h.2.2.2.contr⟩
theorem PlOK.map{n:Int}{w:LSI}{f:Int->Int}(hf:∀l,a1H n l->a1H n (f l))(h:PlOK n w):PlOK n (w.map f):=⟨h.1,h.2.1,by rw[c8a];exact h.2.2.1,h.2.2.2.map hf⟩
theorem b2c{n p l:Int}(h:a1H n l)(h0:0<=p)(h1:p<n):0<=a1t p l/\a1t p l<n:=by
 unfold a1H at h;unfold a1t;split<;>(try split)<;>lia
noncomputable def folL(w:LSI)(p:Int):Int:=w.foldl a1t p
theorem b7I{n:Int}{w:LSI}:∀{p:Int},a0S n w->0<=p->p<n->0<=folL w p/\folL w p<n:=by
 induction w with
 |nil=>intro p _ h0 h1;exact⟨h0,h1⟩
 | cons l w ih =>
   intro p hw h0 h1;have:=b2c (hw l (c8r ..)) h0 h1;exact ih (fun k hk=>hw k (c8m _ hk)) this.1 this.2
theorem a7B{n s:Int}(h0:0<=s)(h1:s<n):s∈a0I n:=by
 unfold a0I;exact c8q.mpr ⟨s.toNat,c9U.mpr (by lia),by lia⟩
theorem b7e(n:Int)(w:LSI)(hw:a0S n w):a6N n w=(a0I n).map (folL w):=by
 unfold a6N;refine d0p fun s hs=>?_;obtain⟨h0,h1⟩:=a1R hs;exact b7z n w hw s h0 h1
theorem c1U{f:Int->Int}{w:LSI}(h:∀l∈w,f l=l):w.map f=w:=by
 conv=>rhs;rw[<- List.map_id w]
 exact d0p h
theorem b4Y(w:LSI):(w.map fun l=>-l).map (fun l=>-l)=w:=by
 rw[c9l];exact c1U fun l _=>d2S l
theorem a5w(w:LSI):a0R (a0R w)=w:=by
 unfold a0R;rw[<- d3a,d1g];exact b4Y w
theorem b2v(u v:LSI):a0R (u++v)=a0R v++a0R u:=by unfold a0R;rw[List.reverse_append,c8v]
theorem b7d{n p:Int}{w:LSI}(hw:a0S n w)(h:p∈a6N n w):0<=p/\p<n:=by
 rw[b7e n w hw] at h;obtain⟨s,hs,rfl⟩:=c8q.mp h;obtain⟨h0,h1⟩:=a1R hs;exact b7I hw h0 h1
noncomputable def a1v(st:LSI)(l:Int):LSI:=match st with
 |[]=>[l]
 |x::t=>if x=-l then t else l::x::t
noncomputable def redS(st w:LSI):LSI:=w.foldl a1v st
noncomputable def redL(w:LSI):LSI:=(redS [] w).reverse
noncomputable def Red:LSI->Prop
 |[]=>True
 |[_]=>True
 |x::y::t=>x≠-y/\Red (y::t)
theorem Red.tail{x:Int}{t:LSI}(h:Red (x::t)):Red t:=by
 cases t with
 |nil=>trivial
 |cons y t=>exact h.2
theorem b0o{st:LSI}(h:Red st)(l:Int):a1v (a1v st l) (-l)=st:=by
 cases st with
 |nil=>unfold a1v;simp
 | cons x t =>
   by_cases c:x=-l
   ·have e:a1v (x::t) l=t:=by show(if x=-l then t else _)=t;rw[if_pos c]
    rw[e];cases t with
    |nil=>show [-l]=_;rw[c]
    | cons y t =>
      have:=h.1
      show(if y=-(-l) then t else -l::y::t)=_
      rw[if_neg (by lia),c]
   ·have e:a1v (x::t) l=l::x::t:=by show(if x=-l then t else _)=_;rw[if_neg c]
    rw[e]
    show(if l=-(-l) then x::t else _)=_
    rw[if_pos (by lia)]
theorem Red.step{st:LSI}(h:Red st)(l:Int):Red (a1v st l):=by
 cases st with
 |nil=>trivial
 | cons x t =>
   show Red (if x=-l then t else l::x::t)
   by_cases c:x=-l
   ·rw[if_pos c];exact h.tail
   ·rw[if_neg c];exact⟨by lia,h⟩
theorem Red.redS{w:LSI}:∀{st:LSI},Red st->Red (redS st w):=by
 induction w with
 |nil=>intro st h;exact h
 |cons l w ih=>intro st h;exact ih (h.step l)
theorem a4u(st u v:LSI):redS st (u++v)=redS (redS st u) v:=by unfold redS;rw[d0F]
theorem a9F(l:Int)(w:LSI):a0R (l::w)=a0R w++[-l]:=by unfold a0R;rw[d0b,c8v];rfl
theorem b6X(w:LSI):∀{st:LSI},Red st->redS st (w++a0R w)=st:=by
 induction w with
 |nil=>intro st _;rfl
 | cons l w ih =>
   intro st h;rw[a9F];show redS (a1v st l) (w++(a0R w++[-l]))=st;rw[<- c9t,a4u,ih (h.step l)];exact b0o h l
theorem b6Y(w:LSI):redL (w++a0R w)=[]:=by unfold redL;rw[b6X w (st:=[]) trivial];rfl
theorem b8v{st:LSI}{l k:Int}(h:k∈a1v st l):k∈st\/k=l:=by
 cases st with
 |nil=>exact .inr (by simpa [a1v] using h)
 | cons x t =>
   have h:k∈(if x=-l then t else l::x::t):=h
   by_cases c:x=-l
   ·rw[if_pos c] at h;exact .inl (c8m _ h)
   ·rw[if_neg c] at h;rcases c8n.mp h with h|h
    ·exact .inr h
    ·exact .inl h
theorem c1n{w:LSI}:∀{st:LSI} {k:Int},k∈redS st w->k∈st\/k∈w:=by
 induction w with
 |nil=>intro st k h;exact .inl h
 | cons l w ih =>
   intro st k h;rcases ih (st:=a1v st l) h with h|h
   ·rcases b8v h with h|h
    ·exact .inl h
    ·exact .inr (h▸c8r ..)
   ·exact .inr (c8m _ h)
theorem a0S.red{n:Int}{w:LSI}(h:a0S n w):a0S n (redL w):=fun l hl=>by
 rcases c1n (d2Z.mp hl) with z|z
 ·cases z
 ·exact h l z
theorem b2J(st:LSI)(l:Int):(a1v st l).length<=st.length+1:=by
 cases st with
 |nil=>simp[a1v]
 | cons x t =>
   show(if x=-l then t else l::x::t).length<=_
   split<;>simp<;>lia
theorem a6k(w:LSI):∀st:LSI,(redS st w).length<=st.length+w.length:=by
 induction w with
 |nil=>intro st;exact c8d _
 | cons l w ih =>
   intro st;have h1:=ih (a1v st l);have h2:=b2J st l;show(redS (a1v st l) w).length<=_;rw[c8e];lia
theorem a8P(w:LSI):(redL w).length<=w.length:=by
 unfold redL;rw[c9c]
 simpa using a6k w []
theorem b3d{L st:LSI}{i:Nat}{x:Int}(h:L[i]?=some x):redS st (L.take (i+1))=a1v (redS st (L.take i)) x:=b7H a1v st h
theorem Red.suffix:∀{u s:LSI},Red (u++s)->Red s
 |[],_,h=>h
 |_::u,_,h=>Red.suffix (u:=u) h.tail
theorem b4J:∀(v st:LSI),Red (v.reverse++st)->redS st v=v.reverse++st
 |[],st,_=>rfl
 | l::v,st,h=>by
   rw[d0b,c9t] at h|-
   have h1:Red (l::st):=Red.suffix (u:=v.reverse) h
   have e:a1v st l=l::st:=by
    cases st with
    |nil=>rfl
    | cons x t =>
      have:=h1.1
      show(if x=-l then t else l::x::t)=_
      rw[if_neg (by lia)]
   show redS (a1v st l) v=_;rw[e];exact b4J v (l::st) h
theorem b3f(w:LSI):redL (redL w)=redL w:=by
 have h:Red (redS [] w):=Red.redS (st:=[]) trivial;have:=b4J (redS [] w).reverse [] (by rw[d1g,c8R];exact h);show(redS [] (redS [] w).reverse).reverse=_;rw[this,d1g,c8R];rfl
theorem Red.get:∀{s:LSI} (j:Nat),Red s->j+1<s.length->s.getD j 0+s.getD (j+1) 0≠0
 |[],_,_,h=>by simp at h
 |[_],j,_,h=>by simp at h
 | x::y::t,0,h,_=>by
   have:=h.1;show x+y≠0;lia
 | x::y::t,j+1,h,hj=>by
   have:=Red.get (s:=y::t) j h.2 (by simpa using hj);exact this
theorem a8a(s:LSI)(k:Nat)(h:k<s.length):s.reverse.getD k 0=s.getD (s.length-1-k) 0:=by
 rw[c8l,c8l,c9T h]
theorem Red.of_get:∀{s:LSI},(∀j,j+1<s.length->s.getD j 0+s.getD (j+1) 0≠0)->Red s
 |[],_=>trivial
 |[_],_=>trivial
 | x::y::t,h=>by
   refine⟨?_,Red.of_get fun j hj=>h (j+1) (by simpa using hj)⟩;have:x+y≠0:=h 0 (by simp);lia
theorem Red.reverse{s:LSI}(h:Red s):Red s.reverse:=Red.of_get fun j hj=>by
 rw[c9c] at hj;rw[a8a s j (by lia),a8a s (j+1) hj];have:=Red.get (s:=s) (s.length-1-(j+1)) h (by lia);have e2:s.length-1-(j+1)+1=s.length-1-j:=by lia
 rw[e2] at this;lia
theorem b1x(l:Int)(w:LSI):redS [] (l::w).reverse=a1v (redS [] w.reverse) l:=by
 rw[d0b,a4u];rfl
theorem b3e(w:LSI):∀st:LSI,Red st->redS st w=redS st (redS [] w.reverse):=by
 induction w with
 |nil=>intro st _;rfl
 | cons l w ih =>
   intro st h;rw[b1x];show redS (a1v st l) w=_;rw[ih _ (h.step l)];generalize redS [] w.reverse=r;cases r with
   |nil=>rfl
   | cons x t =>
     by_cases c:x=-l
     ·have e:a1v (x::t) l=t:=by show(if x=-l then t else _)=t;rw[if_pos c]
      rw[e,c];show redS (a1v (a1v st l) (-l)) t=_;rw[b0o h]
     ·have e:a1v (x::t) l=l::x::t:=by show(if x=-l then t else _)=_;rw[if_neg c]
      rw[e];rfl
theorem b8J(w:LSI):redS [] w.reverse=redL w:=by
 have h:Red (redS [] w.reverse):=Red.redS (st:=[]) trivial;have h1:=b3e w [] trivial;have h2:=b4J (redS [] w.reverse) [] (by rw[c8R];exact h.reverse);rw[c8R] at h2;unfold redL;rw[h1,h2,d1g]
theorem b5K(w:LSI)(st:LSI)(h:Red st):redS st (redL w)=redS st w:=by rw[b3e w st h,b8J]
theorem b8I:Red ([]:LSI):=trivial
theorem b5L(u v:LSI):redL (redL u++redL v)=redL (u++v):=by
 unfold redL;rw[a4u,a4u];have e1:redS [] (redS [] u).reverse=redS [] u:=b5K u [] b8I;rw[e1];have e2:redS (redS [] u) (redS [] v).reverse=redS (redS [] u) v:=b5K v _ (Red.redS b8I);rw[e2]
noncomputable def Eqv(u v:LSI):Prop:=redL u=redL v
theorem Eqv.refl{u:LSI}:Eqv u u:=rfl
theorem Eqv.of{u v:LSI}(h:u=v):Eqv u v:=by rw[h];rfl
theorem Eqv.symm{u v:LSI}(h:Eqv u v):Eqv v u:=Eq.symm h
theorem Eqv.trans{u v w:LSI}(h:Eqv u v)(g:Eqv v w):Eqv u w:=Eq.trans h g
theorem Eqv.app{u u' v v':LSI}(h:Eqv u u')(g:Eqv v v'):Eqv (u++v) (u'++v'):=by
 unfold Eqv at *;rw[<- b5L,h,g,b5L]
theorem Eqv.red(u:LSI):Eqv (redL u) u:=b3f u
theorem c0n(w:LSI):Eqv (w++a0R w) []:=b6Y w
theorem b7K(w:LSI):Eqv (a0R w++w) []:=by
 have:=c0n (a0R w)
 rwa [a5w] at this
structure Hom(g:Int->LSI):Prop where
 neg:∀j,g (-j)=a0R (g j)
theorem b5q(u:LSI){g:Int->LSI}(h:Hom g):(a0R u).flatMap g=a0R (u.flatMap g):=by
 induction u with
 |nil=>rfl
 | cons l u ih =>
   have e:(l::u).flatMap g=g l++u.flatMap g:=c8V ..;rw[e,a9F,c9Q,ih,b2v];congr 1;rw[c8V,d0i,c8R,h.neg]
theorem c1e(g:Int->LSI)(h:Hom g)(st:LSI)(l:Int):Eqv ((a1v st l).reverse.flatMap g) ((l::st).reverse.flatMap g):=by
 cases st with
 |nil=>exact Eqv.refl
 | cons x t =>
   by_cases c:x=-l
   ·have e:a1v (x::t) l=t:=by show(if x=-l then t else _)=t;rw[if_pos c]
    rw[e,c,d0b,d0b,c9t,c9Q]
    have h1:Eqv (([-l].flatMap g)++([l].flatMap g)) []:=by
     rw[c8V,c8V,d0i,c8R,c8R,h.neg];exact b7K _
    rw[c9Q];have:=Eqv.app (Eqv.refl (u:=t.reverse.flatMap g)) h1.symm
    rwa [c8R] at this
   ·have e:a1v (x::t) l=l::x::t:=by show(if x=-l then t else _)=_;rw[if_neg c]
    rw[e];exact Eqv.refl
theorem c1o(g:Int->LSI)(h:Hom g)(w:LSI):∀st:LSI,Eqv ((redS st w).reverse.flatMap g) (st.reverse.flatMap g++w.flatMap g):=by
 induction w with
 |nil=>intro st;rw[d0i,c8R];exact Eqv.refl
 | cons l w ih =>
   intro st;show Eqv ((redS (a1v st l) w).reverse.flatMap g) _;refine(ih _).trans ?_;rw[c8V,<- c9t];refine Eqv.app ((c1e g h st l).trans (Eqv.of ?_)) Eqv.refl;rw[d0b,c9Q,c8V,d0i,c8R]
theorem b6q(g:Int->LSI)(h:Hom g)(w:LSI):Eqv ((redL w).flatMap g) (w.flatMap g):=c1o g h w []
theorem Eqv.flat{g:Int->LSI}(h:Hom g){u v:LSI}(e:Eqv u v):Eqv (u.flatMap g) (v.flatMap g):=by
 refine(b6q g h u).symm.trans ?_;rw[show redL u=redL v from e];exact b6q g h v
noncomputable def mkL(l:Int)(x:Int):LSI :=
 let i:Int:=l.natAbs
 let a:LSI:=if l>0 then [i,i+1,-i] else [i+1]
 let b:LSI:=if l>0 then [i] else [-(i+1),i,i+1]
 if x=i then a else if x=i+1 then b else if x=-i then a0R a else if x=-(i+1) then a0R b else [x]
theorem c4w{l:Int}(hl:l≠0):Hom (mkL l):=⟨fun j=>by
 have hi:(1:Int)<=(l.natAbs:Int):=by lia
 unfold mkL;dsimp only;generalize (l.natAbs:Int)=i at hi;by_cases h1:j=i
 ·subst h1;rw[if_neg (by lia),if_neg (by lia),if_pos rfl,if_pos rfl]
 ·by_cases h2:j=i+1
  ·subst h2;rw[if_neg (show ¬-(i+1)=i by lia),if_neg (show ¬-(i+1)=i+1 by lia),if_neg (show ¬-(i+1)=-i by lia),if_pos rfl,if_neg (show ¬i+1=i by lia),if_pos rfl]
  ·by_cases h3:j=-i
   ·subst h3;rw[d2S,if_pos rfl,if_neg h1,if_neg h2,if_pos rfl,a5w]
   ·by_cases h4:j=-(i+1)
    ·subst h4;rw[d2S,if_neg (by lia),if_pos rfl,if_neg h1,if_neg h2,if_neg h3,if_pos rfl,a5w]
    ·rw[if_neg (by lia),if_neg (by lia),if_neg (by lia),if_neg (by lia),if_neg h1,if_neg h2,if_neg h3,if_neg h4]
     rfl⟩
noncomputable def subW(w:LSI)(u:LSI):LSI:=w.foldl (fun u l=>u.flatMap (mkL l)) u
noncomputable def actW(w:LSI)(u:LSI):LSI:=w.foldl (fun u l=>redL (u.flatMap (mkL l))) u
noncomputable def NZ(w:LSI):Prop:=∀l∈w,l≠0
theorem NZ.tail{l:Int}{w:LSI}(h:NZ (l::w)):NZ w:=fun x hx=>h x (c8m _ hx)
theorem NZ.head{l:Int}{w:LSI}(h:NZ (l::w)):l≠0:=h l c8r
theorem a6A(l:Int)(w u:LSI):subW (l::w) u=subW w (u.flatMap (mkL l)):=rfl
theorem c1b(w:LSI):subW w []=[]:=by
 induction w with
 |nil=>rfl
 |cons l w ih=>rw[a6A,d0i,ih]
theorem b8u(w:LSI):∀(u v:LSI),subW w (u++v)=subW w u++subW w v:=by
 induction w with
 |nil=>intro u v;rfl
 |cons l w ih=>intro u v;rw[a6A,c9Q,ih];rfl
theorem b2F(w:LSI)(u:LSI):subW w u=u.flatMap fun j=>subW w [j]:=by
 induction u with
 |nil=>rw[c1b];rfl
 | cons j u ih =>
   have:j::u=[j]++u:=rfl;rw[this,b8u,ih];rfl
theorem b6L{w:LSI}(hw:NZ w):∀(u:LSI),subW w (a0R u)=a0R (subW w u):=by
 induction w with
 |nil=>intro u;rfl
 |cons l w ih=>intro u;rw[a6A,b5q u (c4w hw.head),ih hw.tail];rfl
theorem c1c{w:LSI}(hw:NZ w):Hom (fun j=>subW w [j]):=⟨fun j=>by
 have:[-j]=a0R [j]:=rfl
 rw[this,b6L hw]⟩
theorem Eqv.sub{w:LSI}(hw:NZ w){u v:LSI}(e:Eqv u v):Eqv (subW w u) (subW w v):=by
 rw[b2F w u,b2F w v];exact e.flat (c1c hw)
theorem c2J{w:LSI}(hw:NZ w):∀u:LSI,Eqv (actW w u) (subW w u):=by
 induction w with
 |nil=>intro u;exact Eqv.refl
 | cons l w ih =>
   intro u;show Eqv (actW w (redL (u.flatMap (mkL l)))) _;refine(ih hw.tail _).trans ?_;rw[a6A];exact Eqv.sub hw.tail (Eqv.red _)
theorem b6F:∀(w u:LSI),redL u=u->redL (actW w u)=actW w u
 |[],u,h=>h
 |l::w,u,_=>b6F w _ (b3f _)
theorem c1p(j:Int):redL [j]=[j]:=rfl
noncomputable def imgL(w:LSI)(j:Int):LSI:=redL (subW w [j])
theorem c2I{w:LSI}(hw:NZ w)(j:Int):actW w [j]=imgL w j:=by
 rw[<- b6F w [j] (c1p j)];exact c2J hw [j]
theorem c0K{w:LSI}{i:Nat}{l:Int}(h:w[i]?=some l)(u:LSI):actW (w.take (i+1)) u=redL ((actW (w.take i) u).flatMap (mkL l)):=by
 unfold actW;rw[c8Y,h,d0F];rfl
noncomputable def cntL(j:Nat)(u:LSI):Nat:=u.countP fun x=>x.natAbs==j
theorem b6B(j:Nat)(u v:LSI):cntL j (u++v)=cntL j u+cntL j v:=List.countP_append ..
theorem a2k(j:Nat)(x:Int)(u:LSI):cntL j (x::u)=cntL j u+if x.natAbs=j then 1 else 0:=by
 unfold cntL;rw[d4U];simp only[beq_iff_eq]
theorem c0A(j:Nat)(st:LSI)(l:Int):cntL j (a1v st l)<=cntL j st+cntL j [l]:=by
 cases st with
 |nil=>show cntL j [l]<=_;lia
 | cons x t =>
   show cntL j (if x=-l then t else l::x::t)<=_
   have h0:cntL j [l]=if l.natAbs=j then 1 else 0:=by rw[a2k];simp[cntL]
   split
   ·rw[a2k];lia
   ·rw[a2k j l,h0];lia
theorem c0B(j:Nat)(w:LSI):∀st:LSI,cntL j (redS st w)<=cntL j st+cntL j w:=by
 induction w with
 |nil=>intro st;exact c8d _
 | cons l w ih =>
   intro st;have h1:=ih (a1v st l);have h2:=c0A j st l;have h3:cntL j (l::w)=cntL j [l]+cntL j w:=b6B j [l] w;show cntL j (redS (a1v st l) w)<=_;lia
theorem c2G(j:Nat)(w:LSI):cntL j (redL w)<=cntL j w:=by
 unfold redL;have h:=c0B j w [];have e:cntL j (redS [] w).reverse=cntL j (redS [] w):=List.countP_reverse;rw[e]
 simpa [cntL] using h
noncomputable def srcL(l:Int):Nat:=if l>0 then l.natAbs else l.natAbs+1
theorem b3A(l x:Int)(hl:l≠0):(mkL l x=[x]/\x.natAbs≠l.natAbs/\x.natAbs≠l.natAbs+1)\/((x.natAbs=l.natAbs\/x.natAbs=l.natAbs+1) /\
  ((x.natAbs≠srcL l/\∃p,mkL l x=[p]/\(p.natAbs=l.natAbs\/p.natAbs=l.natAbs+1))\/(x.natAbs=srcL l/\∃p q,mkL l x=[p,q,-p]/\(p.natAbs=l.natAbs\/p.natAbs=l.natAbs+1)/\(q.natAbs=l.natAbs\/q.natAbs=l.natAbs+1)/\p.natAbs≠q.natAbs))):=by
 unfold mkL srcL;dsimp only;have hi:1<=l.natAbs:=by lia
 generalize (decide (l>0))=d;generalize l.natAbs=i at hi;have one:∀y z:Int,y.natAbs=i\/y.natAbs=i+1->a0R [y]=[-y]:=fun _ _ _=>rfl;by_cases c:l>0
 ·rw [if_pos c,if_pos c,if_pos c];clear one hl c;by_cases h1:x=i
  ·rw[if_pos h1];exact .inr ⟨.inl (by lia),.inr ⟨by lia,_,_,rfl,.inl (by lia),.inr (by lia),by lia⟩⟩
  ·rw [if_neg h1];by_cases h2:x=i+1
   ·rw[if_pos h2];exact .inr ⟨.inr (by lia),.inl ⟨by lia,_,rfl,.inl (by lia)⟩⟩
   ·rw[if_neg h2];by_cases h3:x=-i
    ·rw[if_pos h3];refine .inr ⟨.inl (by lia),.inr ⟨by lia,i,-(i+1),?_,.inl (by lia),.inr (by lia),by lia⟩⟩;show [- -(i:Int),-((i:Int)+1),-(i:Int)]=_;rw[d2S]
    ·rw[if_neg h3];by_cases h4:x=-(i+1)
     ·rw[if_pos h4];exact .inr ⟨.inr (by lia),.inl ⟨by lia,-(i:Int),rfl,.inl (by lia)⟩⟩
     ·rw[if_neg h4];exact .inl ⟨rfl,by lia,by lia⟩
 ·rw [if_neg c,if_neg c,if_neg c];clear one hl c;by_cases h1:x=i
  ·rw[if_pos h1];exact .inr ⟨.inl (by lia),.inl ⟨by lia,_,rfl,.inr (by lia)⟩⟩
  ·rw [if_neg h1];by_cases h2:x=i+1
   ·rw[if_pos h2];refine .inr ⟨.inr (by lia),.inr ⟨by lia,-((i:Int)+1),i,?_,.inr (by lia),.inl (by lia),by lia⟩⟩;rw[d2S]
   ·rw[if_neg h2];by_cases h3:x=-i
    ·rw[if_pos h3];exact .inr ⟨.inl (by lia),.inl ⟨by lia,-((i:Int)+1),rfl,.inr (by lia)⟩⟩
    ·rw[if_neg h3];by_cases h4:x=-(i+1)
     ·rw[if_pos h4];refine .inr ⟨.inr (by lia),.inr ⟨by lia,-((i:Int)+1),-(i:Int),?_,.inr (by lia),.inl (by lia),by lia⟩⟩;show [-((i:Int)+1),-(i:Int),- -((i:Int)+1)]=_;rfl
     ·rw[if_neg h4];exact .inl ⟨rfl,by lia,by lia⟩
theorem c4v{l:Int}(hl:l≠0)(x:Int):(mkL l x).length<=1+2*(if x.natAbs=srcL l then 1 else 0):=by
 rcases b3A l x hl with ⟨e,h1,h2⟩|⟨_,⟨_,p,e,_⟩|⟨h,p,q,e,_⟩⟩
 ·rw[e];exact d1N 1 _
 ·rw[e];exact d1N 1 _
 ·rw[e,if_pos h];exact c8d 3
theorem c0C(j:Nat)(u:LSI):cntL j u<=u.length:=List.countP_le_length
theorem c4x(l x:Int)(hl0:l≠0)(j:Nat):cntL j (mkL l x)<=1+(if x.natAbs=srcL l then 1 else 0):=by
 have z:cntL j ([]:LSI)=0:=rfl;rcases b3A l x hl0 with ⟨e,h1,h2⟩|⟨_,⟨_,p,e,_⟩|⟨h,p,q,e,_,_,hpq⟩⟩
 ·rw[e];exact c8C (c0C j [x]) (d1N 1 _)
 ·rw[e];exact c8C (c0C j [p]) (d1N 1 _)
 ·rw[e,if_pos h,a2k,a2k,a2k,z];by_cases c:p.natAbs=j
  ·rw[if_neg (show ¬q.natAbs=j from fun k=>hpq (c.trans k.symm)),if_pos c,if_pos (show(-p).natAbs=j by rw[d5v];exact c)];exact c8d 2
  ·rw[if_neg c,if_neg (show ¬(-p).natAbs=j from fun k=>c (by rw[<- k,d5v]))];split<;>lia
theorem c2y{l:Int}(hl:l≠0)(u:LSI):(u.flatMap (mkL l)).length<=u.length+2*cntL (srcL l) u:=by
 induction u with
 |nil=>exact c9j _
 | cons x u ih =>
   have h:=c4v hl x;rw[c8V,c8p,c8e,a2k];lia
theorem c2z(l:Int)(hl:l≠0)(j:Nat)(u:LSI):cntL j (u.flatMap (mkL l))<=u.length+cntL (srcL l) u:=by
 induction u with
 |nil=>exact c9j _
 | cons x u ih =>
   have h:=c4x l x hl j;rw[c8V,b6B,c8e,a2k];lia
noncomputable def pell:Nat->Nat×Nat
 |0=>(1,1)
 |k+1=>((pell k).1+2*(pell k).2,(pell k).1+(pell k).2)
theorem b8X(k:Nat):(pell k).1<=(pell (k+1)).1/\(pell k).2<=(pell (k+1)).2:=by
 show(pell k).1<=(pell k).1+2*(pell k).2/\(pell k).2<=(pell k).1+(pell k).2;lia
theorem c4e{j k:Nat}(h:j<=k):(pell j).1<=(pell k).1:=by
 induction k with
 |zero=>rw[Nat.le_zero.mp h];exact c8d _
 | succ k ih =>
   by_cases c:j=k+1
   ·rw[c];exact c8d _
   ·exact c8C (ih (by lia)) (b8X k).1
theorem b8Y{k:Nat}(h:k<=16):(pell k).1<=1607521:=c8C (c4e h) (by decide)
noncomputable def a7l(k:Nat)(u:LSI):Prop:=u.length<=(pell k).1/\∀j,cntL j u<=(pell k).2
theorem a7l.flat{k:Nat}{u:LSI}(h:a7l k u){l:Int}(hl:l≠0):a7l (k+1) (u.flatMap (mkL l)):=by
 have h1:=h.2 (srcL l);refine⟨?_,fun j=>?_⟩
 ·have:=c2y hl u;have:=h.1;show _<=(pell k).1+2*(pell k).2;lia
 ·have:=c2z l hl j u;have:=h.1;show _<=(pell k).1+(pell k).2;lia
theorem a7l.red{k:Nat}{u:LSI}(h:a7l k u):a7l k (redL u):=⟨c8C (a8P u) h.1,fun j=>c8C (c2G j u) (h.2 j)⟩
theorem a7l.one(j:Int):a7l 0 [j]:=⟨c8d _,fun k=>by
 rw[a2k];show 0+_<=1
 split<;>lia⟩
theorem a7l.act:∀(w:LSI),NZ w->∀(k:Nat) (u:LSI),a7l k u->a7l (k+w.length) (actW w u)
 |[],_,k,u,h=>h
 | l::w,hw,k,u,h=>by
   have:=a7l.act w hw.tail (k+1) _ (h.flat hw.head).red;rw[c8e,show k+(w.length+1)=k+1+w.length by lia];exact this
end LM
namespace L2
open PySem PySem.Spec PyProof.Rows LM
theorem b4y(x:Str)(N:LSS)(t:T)(ts:List T):a2P (x::N) (t::ts)=some t::a2P N ts:=by
 unfold a2P;simp only[c8g,c8e,Nat.add_sub_add_right,d0j]
theorem b4x(x:Str)(N:LSS):a2P (x::N) []=none::a2P N []:=by
 unfold a2P;simp only[c9g,c8e,c9L,d4L,d0D,c9P]
theorem b6M:a2P [] []=[]:=rfl
theorem b7c(ix:List (Option Nat))(ρ:En):b1E (none::ix) ρ=none::b1E ix ρ:=rfl
theorem b7b(j:Nat)(ix:List (Option Nat))(ρ:En):b1E (some j::ix) ρ=(ρ[j]?).join::b1E ix ρ:=rfl
theorem b8U(ρ:En):b1E [] ρ=[]:=rfl
theorem b9z{α:Type}(a:Option α):(some a).join=a:=rfl
theorem a0i{M:MH}{Q:VK3}{t:T}{M':MH}(h:Q t M'):rt3 M Q t M':=⟨M',Sub.refl,h⟩
theorem a1u{α:Type}(x:α)(xs:List α):atI (x::xs) 0=some x:=by
 have:=a3L (xs:=x::xs) (j:=0) (v:=x) rfl
 simpa using this
theorem a7k{α:Type}(x y:α)(xs:List α):atI (x::y::xs) 1=some y:=by
 have:=a3L (xs:=x::y::xs) (j:=1) (v:=y) rfl
 simpa using this
theorem c7c{α:Type}(x y z:α)(xs:List α):atI (x::y::z::xs) 2=some z:=by
 have:=a3L (xs:=x::y::z::xs) (j:=2) (v:=z) rfl
 simpa using this
theorem c7N(n:Nat):ixN (n+1) 0=some 0:=by
 unfold ixN;rw[if_pos (by lia),if_pos (by lia)];rfl
theorem a4K{M:MH}{a:Addr}{o u:MO}:updM (updM M a o) a u=updM M a u:=by
 funext b;unfold updM;split<;>rfl
theorem a8x(ns:LSI)(i:Int)(h0:0<=i)(h:i<ns.length):atI (ns.map T.int) i=some (.int (ns.getD i.toNat 0)):=by
 have e:i=((i.toNat:Nat):Int):=by lia
 have hl:i.toNat<ns.length:=by lia
 have:=a3L (xs:=ns.map T.int) (j:=i.toNat) (v:=.int (ns.getD i.toNat 0)) (by
  rw[c8i,c8b hl]
  simp[List.getD,c8b hl])
 rw[<- e] at this;exact this
theorem a5z(bs:List Bool):b2A (bs.map T.bl)=some bs:=by
 induction bs with
 |nil=>rfl
 |cons b bs ih=>show(b2A (bs.map T.bl)).map (b::·)=_;rw[ih];rfl
theorem a1y(ns:LSI):a2e (ns.map T.int)=true:=by
 induction ns with
 |nil=>rfl
 |cons n ns ih=>show(a0G (.int n)&&a2e (ns.map T.int))=true;rw[ih];rfl
theorem a3U(ns:LSI):a6Z (ns.map T.int)=0:=by
 induction ns with
 |nil=>rfl
 |cons n ns ih=>show max (depT (.int n)) (a6Z (ns.map T.int))=0;rw[ih];rfl
theorem a6X(a b:LSI):eqTs (a.map T.int) (b.map T.int)=decide (a=b):=by
 induction a generalizing b with
 |nil=>cases b<;>simp[eqTs]
 | cons x a ih =>
   cases b with
   |nil=>simp[eqTs]
   | cons y b =>
     show(eqT (.int x) (.int y)&&eqTs (a.map T.int) (b.map T.int))=_;rw[ih];have:eqT (.int x) (.int y)=(x==y):=rfl;rw[this];by_cases h1:x=y<;>by_cases h2:a=b<;>simp[h1,h2]
theorem b2f(a b:List T):eqT (.tup a) (.tup b)=eqTs a b:=rfl
theorem b2h(a b:Int):eqT (.int a) (.int b)=decide (a=b):=by
 show(a==b)=_;by_cases h:a=b<;>simp[h]
theorem c0o(x y:T)(a b:List T):eqTs (x::a) (y::b)=(eqT x y&&eqTs a b):=rfl
theorem c2A:eqTs [] []=true:=rfl
theorem a6m(x:T)(a:List T):a2e (x::a)=(a0G x&&a2e a):=rfl
theorem b0v:a2e []=true:=rfl
theorem a3P(i:Int):a0G (.int i)=true:=rfl
theorem c1w(i:Bool):a0G (.bl i)=true:=rfl
theorem a2f(i:List T):a0G (.tup i)=a2e i:=rfl
theorem a7a(i:Int):depT (.int i)=0:=rfl
theorem c4T(i:Bool):depT (.bl i)=0:=rfl
theorem a5I(i:List T):depT (.tup i)=a6Z i+1:=rfl
theorem a7P(x:T)(a:List T):a6Z (x::a)=max (depT x) (a6Z a):=rfl
theorem b4a:a6Z []=0:=rfl
theorem a2v{M:MH}{p:Addr}{o:MO}(h:M p=some o):updM M p o=M:=by
 funext b;unfold updM;split
 ·rename_i e;rw[e,h]
 ·rfl
theorem b4Z{M:MH}{p q:Addr}{o:MO}(h:M p=some o)(h':M q=none):p≠q:=by
 rintro rfl;rw[h] at h';cases h'
theorem Sub.set{M M':MH}{p:Addr}{o u:MO}(h:Sub (updM M p o) M'):Sub (updM M p u) (updM M' p u):=fun a v e=>by
 by_cases ha:a=p
 ·subst ha;rw[a0d] at e|-;exact e
 ·rw[a0k ha] at e|-
  exact h a v (by rw[a0k ha];exact e)
theorem Sub.newr{M M':MH}{r:Addr}{o:MO}(h:Sub M M')(hr:M' r=none):Sub M (updM M' r o):=h.trans (Sub.new hr)
theorem a0s{M:MH}{Q:VK3}{t:T}{M0 M':MH}(h:Q t M0)(s:Sub M0 M'):rt3 M Q t M':=⟨M0,s,h⟩
theorem b9C{n:Nat}{k:Int}(h0:0<=k)(h:k<n):ixN n k=some k.toNat:=by
 unfold ixN;rw[if_pos h0,if_pos h]
theorem b0t(n:Nat):a0L 0 n=((c8I n).map fun i=>((i:Nat):Int)).map T.int:=by
 unfold a0L;rw[c9l];congr 1
 funext i
 simp
theorem c3I(n:Int):a0L 0 n.toNat=(a0I n).map T.int:=b0t _
theorem a1f(a:Int)(n:Nat):(a0L a n).length=n:=by unfold a0L;simp
theorem Sub.updF{M M':MH}{p:Addr}{o:MO}(h:Sub M M')(hp:M p=none):Sub M (updM M' p o):=fun a v e=>by
 have ha:a≠p:=by rintro rfl;rw[hp] at e;cases e
 rw[a0k ha];exact h a v e
end L2
namespace L2
open PySem PySem.Spec PyProof.Rows
theorem b3x:typeLookup (.type "tuple") "__reversed__"=pure none:=by rw[d1x,d0w];kernel_rfl
theorem a9N:isSubtype (.type "tuple") (.type "dict")=pure false:=by rw[d2v];kernel_rfl
noncomputable def revT(t:Addr)(i:Int):Obj:={ cls:=.type "reversed",data:=.fields #[.ref t,rawInt i] }
section
variable{prog:c8G}{w:c9d}{A:c8Z}{E:VPR}{s:c8u}
theorem b2w{t:Addr}{items:Array c8t}{Q₁:VPR}(ht:d5O s.heap t items)(hz:items.size<=sizeLine)
  (h:∀h' tk,(∀b o,s.heap.get? b=some o->h'.get? b=some o)->h'.get? s.heap.objs.size=some (revT t ((items.size:Int)-1))->Q₁ (.ref s.heap.objs.size) { s with heap:=h',toks:=tk }) :
  codeAny (model prog w) A (.call (.builtin "reversed.__new__") ⟨[.type "reversed",.ref t],[]⟩) (wants Q₁ E) s:=by
 refine d5o ?_
 show wpAny _ A.in1 (do checkBuiltinCall "reversed.__new__" ⟨[.type "reversed",.ref t],[]⟩;again (.builtin "reversed.__new__" ⟨[.type "reversed",.ref t],[]⟩)) _ _ s
 refine c8f (d0V (F.newCall_reversed_1 _) (c8x ⟨d1S d1P _,d0W F.entry_reversed_new ?_⟩));rw[d0k d1P _];unfold d1w.«reversed.__new__»;refine c8f (d0V (newClass_reversed _) ?_)
 try dsimp only
 refine c8f (d0V (a:=()) (by first|rfl|kernel_rfl) ?_)
 refine c8f (d0V (a:=()) (by first|rfl|kernel_rfl) ?_)
 try dsimp only
 refine c8f (d1W ht.typeIs b3x ?_)
 try dsimp only
 refine c8f (m:=(do
  if <- isInstance (.ref t) (.type "dict") then return false
  match <- specialOf (.ref t) "__getitem__" with
  |none=>return false
  | some (.builtin id) =>
    if ["tuple.__getitem__","str.__getitem__","bytes.__getitem__","bytearray.__getitem__","memoryview.__getitem__","numpy.ndarray.__getitem__","sqlite3.Row.__getitem__"].contains id then return true
    if id=="sqlite3.Blob.__getitem__" then return false
    unsupported "reversed.__new__:is-it-a-sequence"
  |some _=>return true)) ?_
 refine c8f (d4V ht.typeIs a9N ?_)
 try dsimp only
 rw[if_neg c8F];refine c8f (d1W ht.typeIs c9a.lookup ?_)
 try dsimp only
 rw[if_pos (by decide)];refine c8x ?_;rw[if_neg (by decide)];have hn:=a6U;refine c8f (len_tuple ht (by lia) ?_);refine c8f (d0V (a:=some (items.size:Int)) (by rfl) ?_);dsimp only;refine c8f ?_;unfold Builtin.SmallTypes.newRecord;dsimp only;refine c9C ?_;exact c8x (h _ _ (fun b o e=>c8h _ e) (c8E _ rfl))
theorem b1i:Slot "reversed" "__init__" "object.__init__" :=
 .of (owner:="object") (n:="__init__") (by rw[d1x,d0w];kernel_rfl) (by decide +kernel) (by decide +kernel) (by decide +kernel)
  (by first|exact .inl (by decide +kernel)|exact .inr (by decide +kernel)) (by rw[d2v];kernel_rfl)
theorem a1W:Slot "reversed" "__next__" "reversed.__next__" :=
 .of (owner:="reversed") (n:="__next__") (by rw[d1x,d0w];kernel_rfl) (by decide +kernel) (by decide +kernel) (by decide +kernel)
  (by first|exact .inl (by decide +kernel)|exact .inr (by decide +kernel)) (by rw[d2v];kernel_rfl)
theorem a3l:TypeCalled "reversed" "reversed.__new__" "object.__init__" :=
 ⟨by decide +kernel,by decide +kernel,⟨_,_,F.mro_reversed⟩,F.made_reversed,d1P,F.sub_reversed_self,b1i⟩
theorem b0g{t:Addr}{items:Array c8t}{Q:VPR}(ht:d5O s.heap t items)(hz:items.size<=sizeLine)
  (h:∀h' tk,(∀b o,s.heap.get? b=some o->h'.get? b=some o)->h'.get? s.heap.objs.size=some (revT t ((items.size:Int)-1))->Q (.ref s.heap.objs.size) { s with heap:=h',toks:=tk }) :
  wpAny (model prog w) A (call (.type "reversed") [.ref t]) Q E s:=by
 refine d3K (Q₁:=fun obj s₁=>s₁.TypeIs obj "reversed"/\Q obj s₁) a3l (F.typeCall_reversed_1 _) d3S (b2w ht hz fun h' tk k e=>⟨⟨_,e,rfl⟩,h h' tk k e⟩) fun obj s₁ h₁=>?_;exact⟨h₁.1,d3D obj _,d4y a3l.init.lookup a3l.made (by decide) prog w A.in1 _ s₁ ⟨h₁.1,rfl,h₁.2⟩⟩
theorem a6D:Slot "reversed" "__iter__" "reversed.__iter__" :=
 .of (owner:="reversed") (n:="__iter__") (by rw[d1x,d0w];kernel_rfl) (by decide +kernel) (by decide +kernel) (by decide +kernel)
  (by first|exact .inl (by decide +kernel)|exact .inr (by decide +kernel)) (by rw[d2v];kernel_rfl)
theorem b0d:entryFor table "reversed.__iter__"=some d1w.«dict_keyiterator.__iter__» :=
 entryFor_alias (id':="dict_keyiterator.__iter__") (by kernel_rfl) (by first|rfl|decide +kernel|(unfold String.splitOn;simp +decide [String.splitOnAux])) (by decide +kernel) (by kernel_rfl)
theorem a5Q:entryFor table "reversed.__next__"=some d1w.«reversed.__next__»:=d4W (by kernel_rfl)
theorem b3i:Manifest.owners.lookup (String.ofList ['d','e','s','r','e','v','e','r'].reverse)=some Manifest.sig_reversed:=by kernel_rfl
theorem a5A(a:c8t):argsOk "reversed.__next__" ⟨[a],[]⟩:=by
 unfold argsOk;rw[signature?_of (id:="reversed.__next__") (n:=['_','_','t','x','e','n','_','_']) (o:=['d','e','s','r','e','v','e','r']) (by kernel_rfl) b3i];kernel_rfl
theorem a9L(a:c8t):argsOk "reversed.__iter__" ⟨[a],[]⟩:=by
 unfold argsOk;rw[signature?_of (id:="reversed.__iter__") (n:=['_','_','r','e','t','i','_','_']) (o:=['d','e','s','r','e','v','e','r']) (by kernel_rfl) b3i];kernel_rfl
noncomputable def b7S(h:Heap)(a t:Addr)(i:Int):Prop:=h.get? a=some (revT t i)
theorem a4t{a t:Addr}{i:Int}(x:b7S s.heap a t i):s.TypeIs (.ref a) "reversed":=⟨_,x,rfl⟩
theorem b1Q{it t:Addr}{i:Nat}{items:Array c8t}{x:c8t}{Q:OVA->c8u->Prop}(hit:b7S s.heap it t (i:Int))(ht:d5O s.heap t items)(hx:items[i]?=some x)(hz:items.size<=sizeLine)
  (hQ:∀h' tk,b7S h' it t ((i:Int)-1)->d1r it s.heap h'->Q (some x) { s with heap:=h',toks:=tk }):wpAny (model prog w) A (pyNext (.ref it)) Q E s:=by
 have hn:=a6U;have hi:i<items.size:=(Array.getElem?_eq_some_iff.mp hx).1;have ho:s.heap.get? it=some (revT t (i:Int)):=hit;unfold pyNext
 refine c8f (d4h (d0J (name:=c8c "__next__") (a4t hit) a1W
  (d0s a1W (a4t hit) a5Q ?_ (a5A _))))
 unfold d1w.«reversed.__next__»;refine c8f (d0V (a:=(c8T it,[])) rfl ?_)
 try dsimp only
 refine c8f (d1p ho rfl (x:=.ref t) rfl ?_);refine c8f (d1p ho rfl (x:=rawInt (i:Int)) rfl ?_)
 show wpAny _ _ (if (i:Int)<0 then _ else _) _ _ s
 rw[if_neg (by lia)];refine c8f (d1W ht.typeIs c9a.lookup ?_)
 try dsimp only
 rw[if_neg (by decide)];refine c8f (wpAny_mkInt ?_);refine c8f (d4h (getItem_tuple (j:=i) ht (by lia) (by lia) (d3P (by lia) (by lia)) hx ?_))
 try dsimp only
 refine c8f (d1p (s:={ s with toks:=s.toks+1 }) ho rfl (x:=rawInt (i:Int)) rfl ?_);show wpAny _ _ (setField (.ref it) 1 (rawInt ((i:Int)-1)) >>= fun _=>ret x) _ _ _;refine c8f (wpAny_setField (s:={ s with toks:=s.toks+1 }) ho rfl (by simp) ?_);refine c8x ⟨x,rfl,c8x (hQ _ _ ?_ (Heap.SameBut.update ..))⟩;show Heap.get? _ it=_;rw[d3k _ ho (by simp[revT,d5L,Obj.isFreed])];simp[revT,d5L]
theorem c1d{it t:Addr}{Q:OVA->c8u->Prop}(hh:A.handled=none)(hit:b7S s.heap it t (-1))
  (hQ:∀h',Heap.ExtBut it s.heap h'->Q none { s with heap:=h' }):wpAny (model prog w) A (pyNext (.ref it)) Q E s:=by
 have ho:s.heap.get? it=some (revT t (-1)):=hit;unfold pyNext
 refine c8f (d4h (d0J (name:=c8c "__next__") (a4t hit) a1W
  (d0s a1W (a4t hit) a5Q ?_ (a5A _))))
 unfold d1w.«reversed.__next__»;refine c8f (d0V (a:=(c8T it,[])) rfl ?_)
 try dsimp only
 refine c8f (d1p ho rfl (x:=.ref t) rfl ?_);refine c8f (d1p ho rfl (x:=rawInt (-1)) rfl ?_)
 show wpAny _ _ (if (-1:Int)<0 then _ else _) _ _ s
 rw[if_pos (by decide)];refine c8f (d5F ?_);refine c8f (c8f (m:=setField (.ref it) 1 (rawInt (-1))) (f:=fun _=>setField (.ref it) 0 .none) ?_);refine d4i ho (by simp) fun h1 e1 b1=>?_;refine d4i (s:={ s with heap:=h1 }) e1 (by simp) fun h2 e2 b2=>?_;unfold Builtin.SmallTypes.stopIteration;refine c8f ?_;refine c8f ?_;simp only[newExc,newTuple];refine c8f (c9C ?_ (by size_fits))
 refine c8f (m:=firstArgMember _ _) (d0V (a:=d2z) (by first|rfl|(simp only[firstArgMember];rfl)) ?_)
 refine c9C ?_ (by size_fits);simp only[raiseNew];refine c8f (wpAny_handled ?_)
 first|rw[show A.in1.handled=none from hh]|rw[hh]
 refine c8f (c8x (wpAny_throw ?_));refine c8f (d4V (T:="StopIteration") (b:=true) ⟨_,c8E _ rfl,rfl⟩ isSubtype_stop ?_);exact c8x (hQ _ (((b1.extBut.trans b2.extBut).push _).push _))
theorem b6h{it t:Addr}{i:Int}{Q:VPR}(hit:b7S s.heap it t i)(h:Q (.ref it) s):wpAny (model prog w) A (pyIter (.ref it)) Q E s:=by
 refine wpAny_pyIter_slot (a4t hit) a6D (d0s a6D (a4t hit) b0d ?_ (a9L _));show wpAny _ _ (ret (.ref it)) _ _ s;exact c8x ⟨_,rfl,"reversed",_,a4t hit,a1W.lookup,h⟩
end
noncomputable def Ittr(K:PySem.W.Frag)(a:Addr)(xs:List V):It :=
 ⟨fun i H=>SqT K H a xs/\i<xs.length,fun i H x H'=>H'=H/\xs.reverse[i]?=some x,fun i H=>SqT K H a xs/\i=xs.length⟩
theorem c0V{P:c8G}{w:c9d}{K:PySem.W.Frag}{tg:Expr}(a it:Addr)(xs:List V):Turn P w K tg (Ittr K a xs) [it] it (fun i h=>b7S h it a ((xs.length:Int)-1-(i:Int))) where
 mem:=by simp
 obj:=fun i h st b hb=>by
  have e:b=it:=by simpa using hb
  subst e
  exact⟨_,st,fun v z=>by
   have z':d6d _=Data.cell v:=z
   cases z'⟩
 keep:=fun i h h' st k=>k it (by simp) _ st
 item:=by
  intro X hP hw hK hc i pins s σ H E I hf st hg;subst hP hw hK;obtain⟨hq,hi⟩:=hg;obtain⟨its,rv,p,hz⟩:=I.tuple hq;have hl:=rv.length;obtain⟨x,hx'⟩:∃x,xs[xs.length-1-i]?=some x:=⟨_,c8b (by lia)⟩;obtain⟨u,hu,ru⟩:=rv.get hx';obtain⟨f0,f1,f2,f3,f4,f5⟩:=hf it (by simp);have e1:(xs.length:Int)-1-(i:Int)=((xs.length-1-i:Nat):Int):=by lia
  rw[e1] at st;refine b1Q st p (x:=u) (by simpa using hu) (by simp;lia) fun h' tk st' sb=>?_;have I1:Inv X pins σ H { s with heap:=h',toks:=tk }:=I.turned (fun b o hb e=>(sb.2 b hb).trans e) f0 f1 f3 f4 f5;have e2:((xs.length-1-i:Nat):Int)-1=(xs.length:Int)-1-((i+1:Nat):Int):=by lia
  rw[e2] at st';exact⟨u,rfl,b7D (s:={ s with heap:=h',toks:=tk }) (n:="reversed") st' rfl rfl (by decide) ⟨x,H,I1,ru,⟨rfl,by rw[c9T hi];exact hx'⟩,st',fun b hb=>(hf b hb).1⟩⟩
 done:=by
  intro X hP hw hK hc i pins s σ H E I hf st hg;subst hP hw hK;obtain⟨hq,rfl⟩:=hg;obtain⟨f0,f1,f2,f3,f4,f5⟩:=hf it (by simp);have e1:(xs.length:Int)-1-(xs.length:Int)=-1:=by lia
  rw[e1] at st;exact c1d (I.ok.hd hc) st fun h' eb=>⟨rfl,I.turned (t':=s.toks) (fun b o hb e=>eb b o hb e) f0 f1 f3 f4 f5⟩
 self:=fun _ _ _ _ _ st h=>b6h st h
section
variable{X:Cx}
theorem c2c{K:PySem.W.Frag}{H:Hp}{a:Addr}{xs:List V}{ts:List T}(h:SqT K H a xs)(r:Reps K H xs ts):ItOk K H (Ittr K a xs) ⟨ts.reverse,fun _=>True⟩:=by
 refine⟨fun H' M' k hh _=>⟨k.tup _ _ h,by show ts.reverse.length=_;rw[c9c,r.length]⟩,fun i x H' M' e k hh _=>?_⟩;have e':ts.reverse[i]?=some x:=e;have hi:i<ts.length:=by have:=(c8k.mp e').1;simpa using this
 rw[c9T hi] at e';obtain⟨v,e1,r1⟩:=r.get e';have hl:=r.length;have e2:xs.reverse[i]?=some v:=by rw[c9T (by lia),hl];exact e1
 refine⟨⟨k.tup _ _ h,by lia⟩,fun v' H'' y=>?_⟩;obtain⟨rfl,y⟩:=y;rw[e2] at y;cases y;exact⟨Kp.refl,hh,Rep.kp k _ _ r1⟩
end
theorem a0H{n:Nat}(h:n<10000):n<sizeLine:=c8D (by lia:n<=10000) (by decide)
theorem a0E{n:Nat}(h:n<10000):n<=sizeLine:=d0T (a0H h)
end L2
namespace HT
open PySem PySem.Spec PyProof.Rows
section
variable{prog:c8G}{w:c9d}{A:c8Z}{E:VPR}{s:c8u}
theorem getItem_tuple_all{t sl:Addr}{items:Array c8t}{vl vu:c8t}{lo hi:Option Int}{Q:VPR}(ht:d5O s.heap t items)(hs:s.heap.IsSliceOf sl vl vu .none)(pl:d4b vl lo)(pu:d4b vu hi)
  (hw:sIx items.size 0 lo=0/\sIx items.size items.size hi=items.size) (h:Q (.ref t) s)
  (hsz:items.size<=sizeLine):wpAny (model prog w) A (getItem (.ref t) (.ref sl)) Q E s:=by
 obtain⟨os,hos,hcs,hds⟩:=id hs;have hTs:s.TypeIs (.ref sl) "slice":=⟨os,hos,hcs⟩;unfold getItem
 try with_reducible refine d0t ?_
 first|refine c8f (c8x ?_)|skip
 refine c8f (d4t ht.typeIs (by decide) ?_)
 refine c8f (d0J (name:=c8c "__getitem__") ht.typeIs c9a
  (d0s c9a ht.typeIs d3N ?_ (d4c _ _)))
 show wpAny _ _ (d2g (.ref t) >>= _) _ _ s;refine c8f (tupleItemsOf_ ht ?_);refine c8f (d1I hTs ?_);rw[if_pos (by decide)];refine c8f (a4E hs pl pu ?_)
 have hyes:(((sIx items.size 0 lo:Nat):Int)==0&&(1:Int)==1&&(sIx items.size items.size hi-sIx items.size 0 lo)==items.size)=true:=by
  rw[hw.1,hw.2];simp
 show wpAny _ _ (if (((sIx items.size 0 lo:Nat):Int)==0&&(1:Int)==1&&(sIx items.size items.size hi-sIx items.size 0 lo)==items.size)=true then _ else _) _ _ s
 rw[if_pos hyes];refine c8f (m:=Builtin.Tuple.tupleIsExact (.ref t)) (c8f (d1I ht.typeIs (c8x ?_)));rw[if_pos (by decide)];refine c8f (d5F ?_)
 first
  |exact c8x ⟨_,rfl,c8x h⟩
  |exact c8f (c8x (c8x ⟨_,rfl,c8x h⟩))
end
end HT
namespace L2
open PySem PySem.Spec PyProof.Rows
section
variable{X:Cx}
noncomputable def cutT(xs:List T)(lo hi:Option Int):List T:=(xs.drop (HT.sIx xs.length 0 lo)).take (HT.sIx xs.length xs.length hi-HT.sIx xs.length 0 lo)
noncomputable def c7v(K:PySem.W.Frag):V->Option Int->Option Int->Hp->VK->Prop:=fun x lo hi H Q=>∃a xs,x=.ref a/\SqT K H a xs /\
 ∀p H',SqT K H' p (cutV xs lo hi)->(H'=H\/H p=none/\H'=upd H p (.tup (cutV xs lo hi)))->Q (.ref p) H'
theorem c3B:SlR X (c7v X.K):=by
 intro pins s σ H x v vl vu lo hi sl Q I rx hs pl pu h;obtain⟨a,xs,rfl,hx,q⟩:=h;by_cases hw:HT.sIx xs.length 0 lo=0/\HT.sIx xs.length xs.length hi=xs.length
 ·cases rx;obtain⟨its,r,ht,hz⟩:=I.tuple hx;have hlen:its.toArray.size=xs.length:=by rw[c8j];exact r.length.symm
  refine⟨"tuple",_,c9a.lookup,ht.typeIs,?_⟩;refine HT.getItem_tuple_all ht hs pl pu (by rw[hlen];exact hw) ?_ (by rw[hlen];exact hz)
  have e:cutV xs lo hi=xs:=by
   unfold cutV;rw[hw.1,hw.2];simp
  exact⟨.ref a,H,I,rfl,q a H (by rw[e];exact hx) (.inl rfl)⟩
 ·exact c5D pins s σ H _ v vl vu lo hi sl Q I rx hs pl pu ⟨a,xs,rfl,hx,hw,fun p hp=>q p _ (SqT.of a0O) (.inr ⟨hp,rfl⟩)⟩
theorem Reps.cut{K:PySem.W.Frag}{H:Hp}{xs:List V}{ts:List T}(r:Reps K H xs ts)(lo hi:Option Int):Reps K H (cutV xs lo hi) (cutT ts lo hi):=by
 unfold cutV cutT;rw[r.length];exact(r.drop _).take _
noncomputable abbrev TO3:=En->MH->(Option Int->MH->Prop)->Prop
noncomputable def HPo(X:Cx)(e:Option Expr)(t:TO3):Prop:=∀ρ M Q,t ρ M Q->PO X e (fun σ H Q2=>RhoR X.K σ H ρ/\HR X.K H M/\∀o M' H',Kp X.K H H'->HR X.K H' M'->Q o M'->Q2 o H')
noncomputable def dPo(K:PySem.W.Frag)(ρ:En)(t:TO3):TO:=fun σ H Q2=>∃M Q,t ρ M Q/\RhoR K σ H ρ/\HR K H M/\∀o M' H',Kp K H H'->HR K H' M'->Q o M'->Q2 o H'
theorem HPo.d{e:Option Expr}{t:TO3}{ρ:En}(h:HPo X e t):PO X e (dPo X.K ρ t):=fun pins s σ H Q I ⟨M,Q3,q,b⟩=>h ρ M Q3 q pins s σ H Q I b
theorem PO.imp{e:Option Expr}{w w':TO}(h:PO X e w)(f:∀σ H Q,w' σ H Q->w σ H Q):PO X e w':=fun pins s σ H Q I q=>h pins s σ H Q I (f σ H Q q)
noncomputable def tNo3:TO3:=fun ρ M Q=>Q none M
noncomputable def tPt3(t:TE3):TO3:=fun ρ M Q=>t ρ M fun x M1=>match x with
 |.int i=>Q (some i) M1
 |_=>False
theorem a2n:HPo X none tNo3:=fun ρ M Q h=>c4c.imp fun σ H Q2 ⟨hr,hh,en⟩=>en _ _ _ Kp.refl hh h
theorem a2m{e:Expr}{t:TE3}(he:HE X e t):HPo X (some e) (tPt3 t):=fun ρ M Q h=>(c4b (he.d (ρ:=ρ))).imp fun σ H Q2 ⟨hr,hh,en⟩ =>
 ⟨M,_,h,hr,hh,fun x v M1 H1 k1 h1 r1 q1=>by
  dsimp only at q1;split at q1
  ·obtain rfl:=a0v r1;exact⟨_,rfl,en _ _ _ k1 h1 q1⟩
  ·exact q1.elim⟩
noncomputable def rSlS:V->Option Int->Option Int->Hp->VK->Prop:=fun x lo hi H Q=>∃z,x=.str z/\z.length<=sizeLine/\Q (.str (d4j z lo hi)) H
theorem c5E:SlR X rSlS:=by
 intro pins s σ H x v vl vu lo hi sl Q I rx hs pl pu h;obtain⟨z,rfl,hz,q⟩:=h;obtain⟨t,rfl⟩:=rx;refine⟨"str",_,F.slot_str_getitem.lookup,d1U _ _ _,?_⟩;have fin:∀t' k,EP X pins σ Q (.str (d4j z lo hi) t') { s with toks:=k }:=fun t' k=>⟨.str _,H,I.kept fun b o e=>e,⟨_,rfl⟩,q⟩;have hl:(d4j z lo hi).length<=sizeLine:=c8C (Txt.slice_le z _ _) hz;cases pl with
 | none=>cases pu with
   |none=>exact d0K (l:=none) (u:=none) (st:=none) hs rfl (d1Y ⟨hl,fin⟩)
   |int j uj=>exact d0K (l:=none) (u:=some (j,uj)) (st:=none) hs rfl (d1Y ⟨hl,fin⟩)
 | int i ui=>cases pu with
   |none=>exact d0K (l:=some (i,ui)) (u:=none) (st:=none) hs rfl (d1Y ⟨hl,fin⟩)
   |int j uj=>exact d0K (l:=some (i,ui)) (u:=some (j,uj)) (st:=none) hs rfl (d1Y ⟨hl,fin⟩)
noncomputable def tSl3(te:TE3)(tl th:TO3):TE3:=fun ρ M Q=>te ρ M fun x M1=>tl ρ M1 fun l M2=>th ρ M2 fun u M3=>match x with
 |.tup ts=>Q (.tup (cutT ts l u)) M3
 | .adr p=>(match M3 p with
   |some (.lst ts)=>∀r,M3 r=none->Q (.adr r) (updM M3 r (.lst (cutT ts l u)))
   |_=>False)
 |.str z=>z.length<=sizeLine/\Q (.str (d4j z l u)) M3
 |_=>False
theorem a1s{e:Expr}{lo hi:Option Expr}{te:TE3}{tl th:TO3}{pos p2:Pos}(he:HE X e te)(hl:HPo X lo tl)(hu:HPo X hi th):HE X (.Subscript e (.Slice lo hi none p2) pos) (tSl3 te tl th):=fun ρ M Q h =>
 (c1D ((c3B.or c3C).or c5E) (he.d (ρ:=ρ)) (hl.d (ρ:=ρ)) (hu.d (ρ:=ρ))).imp fun σ H Q2 ⟨hr,hh,en⟩ =>
  ⟨M,_,h,hr,hh,fun x v M1 H1 k1 h1 r1 q1=>⟨M1,_,q1,hr.kp k1,h1,fun l M2 H2 k2 h2 q2=>⟨M2,_,q2,hr.kp (k1.trans k2),h2,fun u M3 H3 k3 h3 q3=>by
   have r3:=Rep.kp (k2.trans k3) _ _ r1;have k13:=(k1.trans k2).trans k3;split at q3
   ·rename_i ts;obtain⟨a,xs,rfl,g1,g2⟩:=a1n r3;refine .inl (.inl ⟨a,xs,rfl,g1,fun p H' h' c=>?_⟩);rcases c with rfl|⟨c1,rfl⟩
    ·exact en _ _ _ _ k13 h3 (a2d h' (g2.cut l u)) q3
    ·exact en _ _ _ _ (k13.trans (Kp.new c1)) (h3.keep c1) (a2d h' (Reps.kp (Kp.new c1) _ _ (g2.cut l u))) q3
   ·obtain rfl:=a0q r3;split at q3
    ·rename_i ts e0;obtain⟨xs,g1,g2⟩:=h3 _ _ e0;refine .inl (.inr ⟨_,xs,rfl,SqL.of g1,fun p hp=>?_⟩);exact en _ _ _ _ (k13.trans (Kp.new hp)) (h3.newL hp (g2.cut l u)) a1I (q3 p (h3.free hp))
    ·exact q3.elim
   ·obtain rfl:=a0V r3;exact .inr ⟨_,rfl,q3.1,en _ _ _ _ k13 h3 a1r q3.2⟩
   ·exact q3.elim⟩⟩⟩
theorem c4V(xs:List T)(k:Int)(h0:0<=k)(h1:k<=xs.length):cutT xs none (some k)=xs.take k.toNat:=by
 unfold cutT;have e:k=((k.toNat:Nat):Int):=by lia
 rw[e,HT.sIx_nat,HT.sIx_none,d2w,d4L,d1y (by lia),d0a]
theorem b4e(xs:List T)(k:Int)(h0:0<=k)(h1:k<=xs.length):cutT xs (some k) none=xs.drop k.toNat:=by
 unfold cutT;have e:k=((k.toNat:Nat):Int):=by lia
 rw[e,HT.sIx_nat,HT.sIx_none,d1y (by lia),d0a];exact c9I (by rw[c9s];exact c8d _)
end
end L2
namespace HT
open PySem PySem.Spec PyProof.Rows
section
variable{prog:c8G}{w:c9d}{A:c8Z}{E:VPR}{s:c8u}
end
end HT
namespace L2
open PySem PySem.Spec PyProof.Rows
section
variable{X:Cx}
end
section
variable{X:Cx}
theorem c2T{body:List Stmt}{h0:ExceptHandler}{hs:List ExceptHandler}{pos:Pos}{tb:TS3}(hb:HSs X.nox body tb):HS X (.Try body (h0::hs) [] [] pos) tb:=fun D ρ M h=>by
 intro pins s σ H D2 I b;refine d4X ?_;have q:=hb D ρ M h pins s σ H D2 (I.wish _) b;refine c9G q (fun f s1 h1=>?_) fun _ _ z=>z.elim;cases f with
 | next =>
   obtain⟨σ',H',I',q'⟩:=h1;exact d0U ⟨σ',H',I'.unwish,q'⟩
 |brk=>obtain⟨σ',H',I',q'⟩:=h1;exact⟨σ',H',I'.unwish,q'⟩
 |cont=>obtain⟨σ',H',I',q'⟩:=h1;exact⟨σ',H',I'.unwish,q'⟩
 |ret u=>obtain⟨v,σ',H',I',q'⟩:=h1;exact⟨v,σ',H',I'.unwish,q'⟩
end
section
variable{X:Cx}
noncomputable def a0p(i:Int):Str:=c8c (toString i)
noncomputable def c3K:List T->MH->VK3->Prop:=fun xs M Q=>match xs with
 |[.int i]=>i.natAbs<10^400/\Q (.str (a0p i)) M
 |_=>False
theorem b0F{i:Int}(h:i.natAbs<10^400):i.natAbs.log2<1920:=by
 by_cases h0:i.natAbs=0
 ·rw[h0];decide
 ·exact(d6h h0).mpr (d0H h (by decide +kernel))
theorem a2B:a3w X (.type "str") c3K:=by
 intro pins s σ H vs us Q2 I r h;obtain⟨xs,M,Q,rr,hh,q,en⟩:=h;unfold c3K at q;split at q
 ·rename_i i;obtain⟨v,rfl,r1⟩:=a1L rr;obtain rfl:=a0v r1;obtain⟨u,rfl,ru⟩:=a3o r;obtain⟨t,rfl⟩:=ru;refine PySem.P.str_of_int (b0F q.1) ?_;exact⟨.str (a0p i),H,I.kept fun b o e=>e,⟨_,rfl⟩,en _ _ M H Kp.refl hh a1r q.2⟩
 ·exact q.elim
end
section
variable{X:Cx}
noncomputable def tFv3(te:TE3):TE3:=fun ρ M Q=>te ρ M fun x M1=>match x with
 |.int i=>i.natAbs<10^400/\Q (.str (a0p i)) M1
 |.str x=>x.length<=sizeLine/\Q (.str x) M1
 |_=>False
theorem h_fv{e:Expr}{te:TE3}{pos:Pos}(he:HE X e te):HE X (.FormattedValue e (-1) none pos) (tFv3 te):=fun ρ M Q h=>by
 intro pins s σ H Q2 I ⟨hr,hh,en⟩
 refine FormattedValue_plain (thn (he.d (ρ:=ρ) pins s σ H (fun v H1=>∃x M1,Kp X.K H H1/\HR X.K H1 M1/\Rep X.K H1 v x/\(match x with
  |.int i=>i.natAbs<10^400/\Q (.str (a0p i)) M1
  |.str x=>x.length<=sizeLine/\Q (.str x) M1
  |_=>False)) I ⟨M,_,h,hr,hh,fun x v M1 H1 k1 h1 r1 q1=>⟨x,M1,k1,h1,r1,q1⟩⟩) fun v s1 ⟨x,H1,I1,r1,x',M1,k1,h1,rx,q1⟩=>?_)
 split at q1
 ·obtain rfl:=a0v rx;obtain⟨t,rfl⟩:=r1;refine PySem.wpAny_formatField_int (b0F q1.1) ?_;exact⟨.str _,H1,I1.kept fun b o e=>e,⟨_,rfl⟩,en _ _ M1 H1 k1 h1 a1r q1.2⟩
 ·obtain rfl:=a0V rx;obtain⟨t,rfl⟩:=r1;refine PySem.wpAny_formatField_str ?_ ?_ q1.1
  ·exact⟨.str _,H1,I1,⟨_,rfl⟩,en _ _ M1 H1 k1 h1 a1r q1.2⟩
  ·exact⟨.str _,H1,I1.kept fun b o e=>e,⟨_,rfl⟩,en _ _ M1 H1 k1 h1 a1r q1.2⟩
 ·exact q1.elim
noncomputable abbrev TJ3:=Str->TE3
noncomputable def HJ(X:Cx)(es:LSE)(t:TJ3):Prop:=∀acc ρ M Q,t acc ρ M Q->∀pins s σ H (Q2:VK),Inv X pins σ H s->bE X.K ρ M Q σ H Q2 ->
 wpAny (model X.prog X.w) X.A (joinParts acc (evalEach es X.env)) (EP X pins σ Q2) X.xe s
noncomputable def tJ0:TJ3:=fun acc ρ M Q=>acc.length<=sizeLine/\Q (.str acc) M
noncomputable def tJ1(te:TE3)(tj:TJ3):TJ3:=fun acc ρ M Q=>te ρ M fun x M1=>match x with
 |.str y=>(acc++y).length<=sizeLine/\tj (acc++y) ρ M1 Q
 |_=>False
theorem c4y:HJ X [] tJ0:=fun acc ρ M Q h pins s σ H Q2 I ⟨hr,hh,en⟩ =>
 joinParts_nil ⟨.str acc,H,I.kept fun b o e=>e,⟨_,rfl⟩,en _ _ M H Kp.refl hh a1r h.2⟩ h.1
theorem b0I{e:Expr}{es:LSE}{te:TE3}{tj:TJ3}(he:HE X e te)(hj:HJ X es tj):HJ X (e::es) (tJ1 te tj):=fun acc ρ M Q h=>by
 intro pins s σ H Q2 I ⟨hr,hh,en⟩;show wpAny _ _ (joinParts acc (eval e X.env::evalEach es X.env)) _ _ s
 refine joinParts_cons (thn (he.d (ρ:=ρ) pins s σ H (fun v H1=>∃x M1,Kp X.K H H1/\HR X.K H1 M1/\Rep X.K H1 v x/\(match x with
  |.str y=>(acc++y).length<=sizeLine/\tj (acc++y) ρ M1 Q
  |_=>False)) I ⟨M,_,h,hr,hh,fun x v M1 H1 k1 h1 r1 q1=>⟨x,M1,k1,h1,r1,q1⟩⟩) fun v s1 ⟨x,H1,I1,r1,x',M1,k1,h1,rx,q1⟩=>?_)
 split at q1
 ·obtain rfl:=a0V rx;obtain⟨t,rfl⟩:=r1;exact⟨q1.1,hj _ ρ M1 Q q1.2 pins s1 σ H1 Q2 I1 ⟨hr.kp k1,h1,en.kp k1⟩⟩
 ·exact q1.elim
theorem b9Y{e1 e2:Expr}{es:LSE}{pos:Pos}{tj:TJ3}(hj:HJ X (e1::e2::es) tj):HE X (.JoinedStr (e1::e2::es) pos) (tj d3Z):=fun ρ M Q h =>
 fun pins s σ H Q2 I b=>JoinedStr_many (hj d3Z ρ M Q h pins s σ H Q2 I b)
end
section
variable{X:Cx}{es:LSE}{e:Expr}{t:TA3}
noncomputable def b6j(x:T):Prop:=match x with
 |.str _=>True
 |_=>False
noncomputable def tSM3(r:RM3)(to:TE3)(t:TA3):TE3:=fun ρ M Q=>to ρ M fun x M1=>b6j x/\t ρ M1 fun xs M2=>r x xs M2 Q
theorem c2e{K:PySem.W.Frag}{H:Hp}{x:T}{v:V}(r:Rep K H v x)(h:b6j x):tyV K "str" v H:=by
 unfold b6j at h;split at h
 ·obtain rfl:=a0V r;rfl
 ·exact h.elim
theorem h_sm{o:Expr}{to:TE3}{name:Str}{apos cpos:Pos}{id:String}{r:RM3}(slot:Slot "str" name id)(hty:typeOf (.builtin id)=pure (.type "method_descriptor"))(hm:MtR3 X id r)(ho:HE X o to)(ha:HA X (e::es) t)
  (hbase:attributeBase o name X.env (eval o X.env)=eval o X.env:=by rfl)
  (hfew:QFF X cpos e es:=by rfl)
  (hline:QLL apos cpos:=by rfl) (hs:QSS X e es:=by rfl) (hplain:QPP X cpos es:=by rfl) :
  HE X (.Call (.Attribute o name apos) (e::es) [] cpos) (tSM3 r to t):=fun ρ M Q h =>
 (c6i PySem.F.plainAttrs_str slot hty hm (ho.d (ρ:=ρ)) (ha.d (ρ:=ρ)) hbase hfew hline hs hplain).imp fun σ H Q2 ⟨hr,hh,en⟩=>⟨M,_,h,hr,hh,fun x v M1 H1 k1 h1 r1 q1=>⟨c2e r1 q1.1,M1,_,q1.2,hr.kp k1,h1,fun ts vs M2 H2 k2 h2 r2 q2 =>
  ⟨x,ts,M2,Q,Rep.kp k2 _ _ r1,r2,h2,q2,en.kp (k1.trans k2)⟩⟩⟩
noncomputable def c4P(x y:Str):Bool:=decide (0+y.length<=x.length)&&Builtin.Str.subAt x y (x.length-y.length)
noncomputable def b5O:RM3:=fun x xs M Q=>match x,xs with
 |.str x,[.str y]=>Q (.bl (c4P x y)) M
 |_,_=>False
theorem b3z:MtR3 X "str.endswith" b5O:=by
 intro pins s σ H v vs u us Q2 I rv rvs h;obtain⟨x,xs,M,Q,r1,r2,hh,q,en⟩:=h;unfold b5O at q;split at q
 ·rename_i x y;obtain rfl:=a0V r1;obtain⟨t,rfl⟩:=rv;obtain⟨w,rfl,rw'⟩:=a1L r2;obtain rfl:=a0V rw';obtain⟨w',rfl,ru⟩:=a3o rvs;obtain⟨t',rfl⟩:=ru;refine call_gives F.slot_str_endswith (d1U _ _ _) F.entry_str_endswith (F.args_str_endswith_2 _ _) (gives_str_endswith x y t t') ?_;exact⟨.bl (c4P x y),H,I,rfl,en _ _ M H Kp.refl hh a1M q⟩
 ·exact q.elim
theorem b3O{o:Expr}{to:TE3}{apos cpos:Pos}(ho:HE X o to)(ha:HA X (e::es) t)
  (hbase:attributeBase o "endswith" X.env (eval o X.env)=eval o X.env:=by rfl)
  (hfew:QFF X cpos e es:=by rfl)
  (hline:QLL apos cpos:=by rfl) (hs:QSS X e es:=by rfl) (hplain:QPP X cpos es:=by rfl) :
  HE X (.Call (.Attribute o "endswith" apos) (e::es) [] cpos) (tSM3 b5O to t):=h_sm PySem.F.slot_str_endswith PySem.F.type_str_endswith b3z ho ha hbase hfew hline hs hplain
end
section
variable{X:Cx}{es:LSE}{e:Expr}{t:TA3}
noncomputable def b1e:List T->Option (LSS)
 |[]=>some []
 |.str i::ts=>(b1e ts).map (i::·)
 |_::_=>none
theorem a1w:∀(ns:LSS),b1e (ns.map T.str)=some ns
 |[]=>rfl
 |n::ns=>by show(b1e (ns.map T.str)).map (n::·)=_;rw[a1w ns];rfl
theorem b0m:∀{ts:List T} {ns:LSS},b1e ts=some ns->ts=ns.map T.str
 |[],ns,e=>by unfold b1e at e;cases e;rfl
 | t :: ts,ns,e=>by
   cases t with
   | str i =>
     unfold b1e at e;cases q:b1e ts with
     |none=>rw[q] at e;cases e
     |some cs=>rw[q] at e;cases e;rw[b0m q];rfl
   |_=>unfold b1e at e;cases e
theorem b3a{K:PySem.W.Frag}{H:Hp}:∀{xs:List V} {ns:LSS},Reps K H xs (ns.map T.str)->xs=ns.map V.str
 |xs,[],h=>by unfold Reps at h;subst h;rfl
 | xs,n::ns,h=>by
   rw[c8g] at h;unfold Reps at h;obtain⟨v,r,rfl,h1,h2⟩:=h;obtain rfl:=a0V h1;rw[b3a h2];rfl
theorem a8E{K:PySem.W.Frag}{H:Hp}:∀(ns:LSS),Reps K H (ns.map V.str) (ns.map T.str)
 |[]=>.nil
 |n::ns=>.cons a1r (a8E ns)
theorem b2D:∀{ns:LSS} {its:LSV},Vals (ns.map V.str) its->∃l:List (Str×Tok),its=strValues l/\l.map (·.1)=ns
 |[],its,r=>by cases r;exact⟨[],rfl,rfl⟩
 | n :: ns,its,r=>by
   cases r with
   | cons r rr =>
     obtain⟨t,rfl⟩:=r;obtain⟨l,rfl,rfl⟩:=b2D rr;exact⟨(n,t)::l,rfl,rfl⟩
theorem b2G:∀(tk:Nat) (ns:LSS),Vals (ns.map V.str) (strsFrom tk ns)
 |_,[]=>.nil
 |tk,n::ns=>.cons ⟨tk,rfl⟩ (b2G (tk+1) ns)
noncomputable def b5N:RM3:=fun x xs M Q=>match x,xs with
 | .str x,[.adr p]=>(match M p with
   | some (.lst ts)=>(match b1e ts with
     |some ns=>d5p x ns=true/\Q (.str (c9O x ns)) M
     |none=>False)
   |_=>False)
 |_,_=>False
theorem c1S:MtR3 X "str.join" b5N:=by
 intro pins s σ H v vs u us Q2 I rv rvs h;obtain⟨x,xs,M,Q,r1,r2,hh,q,en⟩:=h;unfold b5N at q;split at q
 ·rename_i x p;split at q
  ·rename_i ts e0;split at q
   ·rename_i ns en0;obtain rfl:=b0m en0;obtain⟨ys,g1,g2⟩:=hh _ _ e0;obtain rfl:=b3a g2;obtain rfl:=a0V r1;obtain⟨t,rfl⟩:=rv;obtain⟨w,rfl,rw'⟩:=a1L r2;obtain rfl:=a0q rw';obtain⟨w',rfl,ru⟩:=a3o rvs;cases ru;obtain⟨its,r,pl,hz⟩:=I.list (SqL.of g1);obtain⟨l,rfl,hl⟩:=b2D r;refine SC.join pl.isList hl q.1 fun t' k=>?_;exact⟨.str _,H,I.kept fun b o e=>e,⟨_,rfl⟩,en _ _ M H Kp.refl hh a1r q.2⟩
   ·exact q.elim
  ·exact q.elim
 ·exact q.elim
noncomputable def b1y:RM3:=fun x xs M Q=>match x,xs with
 | .str x,[.str y]=>(y.length==0)=false/\x.length<=sizeLine/\(d2J x (d1z x y 0 x.length (x.length+1)) y.length).length<=sizeLine /\
   ∀r,M r=none->Q (.adr r) (updM M r (.lst ((d1k x y).map T.str)))
 |_,_=>False
theorem b9r:MtR3 X "str.split" b1y:=by
 intro pins s σ H v vs u us Q2 I rv rvs h;obtain⟨x,xs,M,Q,r1,r2,hh,q,en⟩:=h;unfold b1y at q;split at q
 ·rename_i x y;obtain⟨hy,hsz,hsz2,q⟩:=q;obtain rfl:=a0V r1;obtain⟨t,rfl⟩:=rv;obtain⟨w,rfl,rw'⟩:=a1L r2;obtain rfl:=a0V rw';obtain⟨w',rfl,ru⟩:=a3o rvs;obtain⟨t',rfl⟩:=ru;have hf:=I.hok.fresh (c8d _)
  have fin:∀ns:LSS,d1k x y=ns->ns.length<=sizeLine->∀(its:LSV) (tk:Nat),Vals (ns.map V.str) its->EP X pins σ Q2 (.ref s.heap.objs.size) { s with toks:=tk,heap:=s.heap.push { cls:=.type "list",data:=.seq its.toArray } }:=by
   rintro ns rfl hns its tk rr;exact⟨.ref _,_,I.lnew (t':=tk) rr (by rw[c8a];exact hns),rfl,en _ _ _ _ (Kp.new hf) (hh.newL hf (a8E _)) a1I (q _ (hh.free hf))⟩
  cases h1:(decide (x.length<y.length)||decide (d3T x<d3T y))
  ·cases hc:(d1z x y 0 x.length (x.length+1)).isEmpty
   ·refine c9X d3b (d1U _ _ _) d2K (d2m _ _) (meets_str_split_sep x y t t' h1 hy hc hsz hsz2) ?_;exact fin _ ((if_neg (ne_true_of_eq_false h1)).trans (if_neg (ne_true_of_eq_false hc))) hsz2 _ _ (b2G _ _)
   ·refine c9X d3b (d1U _ _ _) d2K (d2m _ _) (meets_str_split_not_found x y t t' h1 hy hc) ?_;exact fin [x] ((if_neg (ne_true_of_eq_false h1)).trans (if_pos hc)) (show 1<=sizeLine by decide) [.str x t] s.toks (.cons ⟨t,rfl⟩ .nil)
  ·refine c9X d3b (d1U _ _ _) d2K (d2m _ _) (meets_str_split_cannot_occur x y t t' h1) ?_;exact fin [x] (if_pos h1) (show 1<=sizeLine by decide) [.str x t] s.toks (.cons ⟨t,rfl⟩ .nil)
 ·exact q.elim
theorem a2h{o:Expr}{to:TE3}{apos cpos:Pos}(ho:HE X o to)(ha:HA X (e::es) t)
  (hbase:attributeBase o "join" X.env (eval o X.env)=eval o X.env:=by rfl)
  (hfew:QFF X cpos e es:=by rfl)
  (hline:QLL apos cpos:=by rfl) (hs:QSS X e es:=by rfl) (hplain:QPP X cpos es:=by rfl) :
  HE X (.Call (.Attribute o "join" apos) (e::es) [] cpos) (tSM3 b5N to t):=h_sm PySem.F.slot_str_join PySem.F.type_str_join c1S ho ha hbase hfew hline hs hplain
theorem a9j{o:Expr}{to:TE3}{apos cpos:Pos}(ho:HE X o to)(ha:HA X (e::es) t)
  (hbase:attributeBase o "split" X.env (eval o X.env)=eval o X.env:=by rfl)
  (hfew:QFF X cpos e es:=by rfl)
  (hline:QLL apos cpos:=by rfl) (hs:QSS X e es:=by rfl) (hplain:QPP X cpos es:=by rfl) :
  HE X (.Call (.Attribute o "split" apos) (e::es) [] cpos) (tSM3 b1y to t):=h_sm PySem.F.slot_str_split PySem.F.type_str_split b9r ho ha hbase hfew hline hs hplain
end
end L2
namespace L2
open PySem PySem.Spec PyProof.Rows LM
theorem sI(l:Int)(h0:-6<=l)(h1:l<=6):32∉(a0p l).cps.toList/\(a0p l).length<=3/\PySem.intText? (a0p l)=some l:=by
 have:l=-6\/l=-5\/l=-4\/l=-3\/l=-2\/l=-1\/l=0\/l=1\/l=2\/l=3\/l=4\/l=5\/l=6:=by lia
 rcases this with rfl|rfl|rfl|rfl|rfl|rfl|rfl|rfl|rfl|rfl|rfl|rfl|rfl<;>decide +kernel
theorem c3H(n:Int)(h0:1<=n)(h1:n<=6):c4P (a0p n++":") ":"=true/\d4j (a0p n++":") none (some (-1))=a0p n/\32∉(a0p n++(":":Str)).cps.toList:=by
 have:n=1\/n=2\/n=3\/n=4\/n=5\/n=6:=by lia
 rcases this with rfl|rfl|rfl|rfl|rfl|rfl<;>decide +kernel
theorem a4Q{a b:Str}(h:a.cps.toList=b.cps.toList):a=b:=by
 cases a;cases b;simp only[Str.mk.injEq];exact d4Y.mp h
theorem a5u(a b:Str):(a++b).cps.toList=a.cps.toList++b.cps.toList:=by
 show(a.cps++b.cps).toList=_;simp
theorem a6q(a b:Str):(a++b).length=a.length+b.length:=strLen_append a b
theorem a4B(s:Str):∀(xs:LSS) (x:Str),(d5f s (x::xs)).cps.toList=x.cps.toList++xs.flatMap fun y=>s.cps.toList++y.cps.toList
 |[],x=>by show x.cps.toList=_;simp
 | y::ys,x=>by
   show(x++s++d5f s (y::ys)).cps.toList=_;rw[a5u,a5u,a4B s ys y];simp[c9t]
theorem c0J{c:Nat}:∀{x y r s:List Nat},c∉x->c∉y->x++c::r=y++c::s->x=y/\r=s
 |[],[],r,s,_,_,h=>⟨rfl,by simpa using h⟩
 | [],b::y,r,s,_,hy,h=>by
   simp only[d0D,d0j,d1Z] at h;exact absurd (h.1▸c8r ..) hy
 | a::x,[],r,s,hx,_,h=>by
   simp only[d0D,d0j,d1Z] at h;exact absurd (h.1▸c8r ..) hx
 | a::x,b::y,r,s,hx,hy,h=>by
   simp only[d0j,d1Z] at h;obtain⟨h1,h2⟩:=c0J (fun z=>hx (c8m _ z)) (fun z=>hy (c8m _ z)) h.2;exact⟨by rw[h.1,h1],h2⟩
theorem a9d{c:Nat}:∀{xs ys:List (List Nat)} {x y:List Nat},c∉x->c∉y->(∀a∈xs,c∉a)->(∀a∈ys,c∉a)->x++xs.flatMap (fun a=>c::a)=y++ys.flatMap (fun a=>c::a)->x=y/\xs=ys
 |[],[],x,y,_,_,_,_,h=>⟨by simpa using h,rfl⟩
 | [],b::ys,x,y,hx,_,_,_,h=>by
   rw[d0i,c8R,c8V] at h;exact absurd (h▸c8Q _ (c8O _ (c8r ..))) hx
 | a::xs,[],x,y,_,hy,_,_,h=>by
   rw[d0i,c8R,c8V] at h;exact absurd (h▸c8Q _ (c8O _ (c8r ..))) hy
 | a::xs,b::ys,x,y,hx,hy,hxs,hys,h=>by
   rw[c8V,c8V,d0j,d0j] at h;obtain⟨h1,h2⟩:=c0J hx hy h;obtain⟨h3,h4⟩:=a9d (hxs a (c8r ..)) (hys b (c8r ..)) (fun z hz=>hxs z (c8m _ hz)) (fun z hz=>hys z (c8m _ hz)) h2;exact⟨h1,by rw[h3,h4]⟩
noncomputable def wrS(n:Int)(w:LSI):Str:=w.foldl (fun t l=>t++(" ":Str)++a0p l) (a0p n++(":":Str))
theorem c2F(w:LSI):∀t:Str,(w.foldl (fun t l=>t++(" ":Str)++a0p l) t).cps.toList=t.cps.toList++w.flatMap fun l=>32::(a0p l).cps.toList:=by
 induction w with
 |nil=>intro t;simp
 | cons l w ih =>
   intro t;rw[d0f,ih,a5u,a5u,c8V];have e:((" ":Str)).cps.toList=[32]:=by decide +kernel
   rw[e];simp[c9t]
theorem b5p(n:Int)(w:LSI):(wrS n w).cps.toList=(a0p n++(":":Str)).cps.toList++w.flatMap fun l=>32::(a0p l).cps.toList:=c2F w _
theorem c0Q(n:Int)(w:LSI):d5f (" ":Str) ((a0p n++(":":Str))::w.map a0p)=wrS n w:=by
 refine a4Q ?_;rw[a4B,b5p,d0M];have e:((" ":Str)).cps.toList=[32]:=by decide +kernel
 rw[e];rfl
theorem b7T(n:Int)(w:LSI)(e0:Str)(he:e0.cps.toList=[]):a0p n++(":":Str)++c9O e0 (w.map fun l=>(" ":Str)++a0p l)=wrS n w:=by
 refine a4Q ?_;rw[a5u,b5p];congr 1;show(d1E e0 _).cps.toList=_;rw[d0X];cases w with
 |nil=>rfl
 | cons l w =>
   rw[c8g,a4B,he,a5u,c8V,d0M];have e:((" ":Str)).cps.toList=[32]:=by decide +kernel
   simp only[a5u,e,d0D];rfl
theorem b2C {n:Int} {w:LSI} (h0:1<=n) (h1:n<=6) (hw:∀l∈w,-6<=l/\l<=6):d1k (wrS n w) (" ":Str)=(a0p n++(":":Str))::w.map a0p:=by
 have e:(" ":Str)=⟨#[32]⟩:=by decide +kernel
 have hj:=d4k (wrS n w) (" ":Str);have hf:∀p∈d1k (wrS n w) (" ":Str),32∉p.cps.toList:=by rw[e];exact d4l (wrS n w) 32
 have hp:=split_pos (wrS n w) (" ":Str)
 generalize d1k (wrS n w) (" ":Str)=ps at hj hf hp|-
 cases ps with
 |nil=>simp at hp
 | cons p ps =>
   have hj2:=congrArg (fun z:Str=>z.cps.toList) hj;have es:((" ":Str)).cps.toList=[32]:=by decide +kernel
   simp only[a4B,b5p,es] at hj2;have e1:(ps.flatMap fun y=>[32]++y.cps.toList)=(ps.map fun y=>y.cps.toList).flatMap fun a=>32::a:=by rw[d0M];rfl
   have e2:(w.flatMap fun l=>32::(a0p l).cps.toList)=(w.map fun l=>(a0p l).cps.toList).flatMap fun a=>32::a:=by rw[d0M]
   rw[e1,e2] at hj2
   obtain⟨h3,h4⟩:=a9d (hf p (c8r ..)) (c3H n h0 h1).2.2 (fun a ha=>by
     obtain⟨y,hy,rfl⟩:=c8q.mp ha
     exact hf y (c8m _ hy)) (fun a ha=>by
     obtain⟨l,hl,rfl⟩:=c8q.mp ha
     exact(sI l (hw l hl).1 (hw l hl).2).1) hj2
   rw[a4Q h3];congr 1
   have : ∀{ps:LSS} {qs:LSS},(ps.map fun y=>y.cps.toList)=(qs.map fun y=>y.cps.toList)->ps=qs:=by
    intro ps
    induction ps with
    | nil=>intro qs h;cases qs with
      |nil=>rfl
      |cons q qs=>simp at h
    | cons p ps ih=>intro qs h;cases qs with
      |nil=>simp at h
      | cons q qs =>
        simp only[c8g,d1Z] at h;rw[a4Q h.1,ih h.2]
   refine this ?_;rw[h4,c9l];rfl
theorem c2x(w:LSI)(hw:∀l∈w,-6<=l/\l<=6):∀t:Str,(w.foldl (fun t l=>t++(" ":Str)++a0p l) t).length<=t.length+4*w.length:=by
 induction w with
 |nil=>intro t;exact c8d _
 | cons l w ih =>
   intro t;have h1:=ih (fun k hk=>hw k (c8m _ hk)) (t++(" ":Str)++a0p l);have h2:=(sI l (hw l (c8r ..)).1 (hw l (c8r ..)).2).2.1;have e:((" ":Str)).length=1:=by decide +kernel
   rw[a6q,a6q,e] at h1;rw[d0f,c8e];lia
theorem a8v{n:Int}(h0:1<=n)(h1:n<=6):(a0p n++(":":Str)).length<=4:=by
 have h2:=(sI n (by lia) h1).2.1;have e:((":":Str)).length=1:=by decide +kernel
 rw[a6q,e];lia
theorem b4s{n:Int}{w:LSI}(h0:1<=n)(h1:n<=6)(hw:∀l∈w,-6<=l/\l<=6):(wrS n w).length<=4+4*w.length:=by
 have h1':=c2x w hw (a0p n++(":":Str));have h2:=a8v h0 h1;unfold wrS;lia
theorem a5D{n:Int}{w:LSI}(h:PlOK n w):∀l∈w,-6<=l/\l<=6:=fun l hl=>by
 obtain⟨h1,h2,h3,h4⟩:=h;have:=h4 l hl;unfold a1H at this;lia
theorem a8p{i:Int}(h:i.natAbs<=6):i.natAbs<10^400:=c8D h (by decide +kernel)
theorem b3X(x:Str):d3Z++x=x:=by
 refine a4Q ?_;rw[a5u];rfl
theorem c2w(k:Nat)(ns:LSS)(h:∀y∈ns,y.length<=5):∀acc:Nat,ns.foldl (fun a y=>a+y.length+k) acc<=acc+(5+k)*ns.length:=by
 induction ns with
 |nil=>intro acc;exact c8d _
 | cons y ns ih =>
   intro acc;have h1:=ih (fun z hz=>h z (c8m _ hz)) (acc+y.length+k);have h2:=h y (c8r ..);rw[d0f,c8e,d2n];lia
theorem a7Z{e:Str}{ns:LSS}(he:e.length=0)(h:∀y∈ns,y.length<=5)(hn:ns.length<=100):d5p e ns=true:=by
 unfold d5p d3U;have h1:=c2w e.length ns h 0;have h2:(5+e.length)*ns.length<=500:=by rw[he];lia
 have h3:(500:Nat)<=sizeLine:=by decide
 have h4:ns.toArray.foldl (fun a y=>a+y.length+e.length) 0=ns.foldl (fun a y=>a+y.length+e.length) 0:=by simp
 rw[h4];simp only[d0E,decide_eq_false_iff_not];lia
theorem a4P{α:Type}(f:α->Str){L:List α}{i:Nat}{x:α}(h:L[i]?=some x):((L.take i).map f).map T.str++[T.str (f x)]=((L.take (i+1)).map f).map T.str:=by
 rw[<- LM.a0F f h,c8v];rfl
theorem a8Q(x:Str)(h:x.length<1000):(d2J x (d1z x (" ":Str) 0 x.length (x.length+1)) (" ":Str).length).length<=sizeLine:=by
 rw[len_partsBetween];have:=StrLaws.occ_length_le_len x (" ":Str) 0 x.length (x.length+1);exact c8C (by lia:_<=1002) (by decide)
end L2
namespace L2
open PySem PySem.Spec PyProof.Rows
section
variable{prog:c8G}{w:c9d}{A:c8Z}{E:VPR}{s:c8u}
theorem b5f{R:d5S->c8u->Prop}{S r:Addr}{a b c:Int}{t u v:Tok}{n:Nat}(hh:A.handled=none)(hr:d6i s.heap r a b c t u v)(hsmall:d1q a b c=true)
  (hn:c9f a b c=n) (hlen:n<=2^24) (hS:s.heap.get? S=some { cls:=.type "list",data:=.seq #[] 0 })
  (hR:∀(h':Heap) (tk:Tok) (acc':Array c8t) (c':Nat),(∀b o,b≠S->s.heap.get? b=some o->h'.get? b=some o)->h'.get? S=some { cls:=.type "list",dict:=none,data:=.seq acc' c',slots:=#[] } ->
   d6j (fun i v=>∃t,v=.int (a+i*c) t) acc' n->R (.ok (.ret (.ref S))) { s with heap:=h',toks:=tk }) :
  codeAny (model prog w) A (.builtin "list.__iadd__" ⟨[.ref S,.ref r],[]⟩) R s:=by
 refine d0W F.entry_list_iadd ?_;rw[d0k d4z _];show wpAny _ A.in1 (Builtin.List.listExtendWith (.ref S) (.ref r) (.ref S)) _ _ _;exact wpAny_extend_range hh hr hsmall hn hlen S (.ref S) 0 hS hR
theorem b0e{Q:LSV->c8u->Prop}{r:Addr}{a b c:Int}{t u v:Tok}{n:Nat}(hh:A.handled=none)(hr:d6i s.heap r a b c t u v)(hsmall:d1q a b c=true)
  (hn:c9f a b c=n) (hlen:n<=2^24)
  (hQ:∀(h':Heap) (tk:Tok) (acc':Array c8t),(∀b o,s.heap.get? b=some o->h'.get? b=some o)->d6j (fun i v=>∃t,v=.int (a+i*c) t) acc' n->Q acc'.toList { s with heap:=h',toks:=tk }) :
  wpAny (model prog w) A (collect (.ref r)) Q E s:=by
 unfold collect;refine c8f (wpAny_runValue (d0W F.entry_proto_collect ?_));rw[d0k F.plain_proto_collect _];show wpAny _ A.in1 (newList [] >>= fun l=>again (.builtin "list.__iadd__" ⟨[l,.ref r],[]⟩)) _ _ s;refine c8f (c9C ?_);have hS₁:(s.heap.push { cls:=.type "list",data:=.seq ([]:LSV).toArray }).get? s.heap.objs.size=some { cls:=.type "list",data:=.seq #[] }:=c8E _ rfl;refine c8x ⟨d1S d4z _,b5f (s:={ s with heap:=s.heap.push { cls:=.type "list",data:=.seq ([]:LSV).toArray } }) hh (c8h _ hr) hsmall hn hlen hS₁ fun h' tk acc' c' hk hS hacc=>?_⟩;show wpAny _ A (load s.heap.objs.size >>= _) _ _ _;refine c8f (wpAny_load hS ?_);exact c8x (hQ h' tk acc' (fun b o e=>hk b o (c8P (c8o e)) (c8h _ e)) hacc)
theorem a5L{Q₁:VPR}{r:Addr}{a b c:Int}{t u v:Tok}{n:Nat}(hh:A.handled=none)(hr:d6i s.heap r a b c t u v)(hsmall:d1q a b c=true)
  (hn:c9f a b c=n) (hlen:n<=2^24)
  (h:∀(h':Heap) (tk:Tok) (acc:Array c8t),(∀b o,s.heap.get? b=some o->h'.get? b=some o)->d6j (fun i v=>∃t,v=.int (a+i*c) t) acc n->Q₁ (.ref h'.objs.size) { s with heap:=h'.push { cls:=.type "tuple",data:=.seq acc },toks:=tk }) :
  codeAny (model prog w) A (.call (.builtin "tuple.__new__") ⟨[.type "tuple",.ref r],[]⟩) (wants Q₁ E) s:=by
 refine d5o ?_
 show wpAny _ A.in1 (do checkBuiltinCall "tuple.__new__" ⟨[.type "tuple",.ref r],[]⟩;again (.builtin "tuple.__new__" ⟨[.type "tuple",.ref r],[]⟩)) _ _ s
 refine c8f (d0V (F.newCall_tuple_1 _) (c8x ⟨d1S d4A _,d0W F.entry_tuple_new ?_⟩));rw[d0k d4A _];have hsub:=sub_tuple_self;have hinit:=init_tuple_lookup;have hmh:=madeHere_tuple;have hTI:s.TypeIs (.ref r) "range":=⟨_,hr,rfl⟩
 wp_walk using d1I hTI,b0e (n:=n) (A:=A.in1) hh hr hsmall hn hlen
 intro h' tk acc hk hacc;show wpAny _ _ (c9R acc.toList.toArray >>= fun v=>ret v) _ _ _;unfold c9R;refine c8f (c9C ?_ (by show acc.toList.toArray.size<=sizeLine;simp only[d1Q];rw[hacc.1,c9z];lia));refine c8x ?_;have e:acc.toList.toArray=acc:=by simp
 rw[e];exact h h' tk acc hk hacc
theorem a3X{Q:VPR}{r:Addr}{a b c:Int}{t u v:Tok}{n:Nat}(hh:A.handled=none)(hr:d6i s.heap r a b c t u v)(hsmall:d1q a b c=true)
  (hn:c9f a b c=n) (hlen:n<=2^24)
  (hQ:∀(h':Heap) (tk:Tok) (acc:Array c8t),(∀b o,s.heap.get? b=some o->h'.get? b=some o)->d6j (fun i v=>∃t,v=.int (a+i*c) t) acc n->Q (.ref h'.objs.size) { s with heap:=h'.push { cls:=.type "tuple",data:=.seq acc },toks:=tk }) :
  wpAny (model prog w) A (call (.type "tuple") [.ref r]) Q E s:=by
 refine d3K (Q₁:=fun obj s₁=>s₁.TypeIs obj "tuple"/\Q obj s₁) F.called_tuple (F.typeCall_tuple_1 _) d3S
  (a5L (A:=A.in1) (Q₁:=fun obj s₁=>s₁.TypeIs obj "tuple"/\Q obj s₁) hh hr hsmall hn hlen fun h' tk acc hm hacc=>⟨⟨_,c8E _ rfl,rfl⟩,hQ h' tk acc hm hacc⟩) fun obj s₁ h₁=>?_
 exact⟨h₁.1,d3D obj _,d4y F.called_tuple.init.lookup F.called_tuple.made (by decide) prog w A.in1 _ s₁ ⟨h₁.1,rfl,h₁.2⟩⟩
end
section
open AutoSeq1 (wpAny_loadPart')
open SeqAt (EqAt)
theorem a8y{M:d5P}{A:c8Z}{E:VPR}{s:c8u}{β:Type}(f:Nat->β->Sem (ForInStep β))(I:List Nat->β->c8u->Prop)(Q:β->c8u->Prop)
  (turn:∀x rest b s,I (x::rest) b s->wpAny M A (f x b) (fun r s'=>match r with|.yield b'=>I rest b' s'|.done b'=>Q b' s') E s)
  (fin:∀b s,I [] b s->Q b s) (r:Std.Legacy.Range) (b:β) (h:I (d5q r.start r.size r.step) b s):wpAny M A (forIn r b f) Q E s:=by
 rw[Std.Legacy.Range.forIn_eq_forIn_range'];exact wpAny_forIn_list f I Q turn fin _ b h
theorem b1b(l:Addr)(items:Array c8t)(n:Nat)(dd:Option Addr)(sl:AOV)(x:c8t)(e:c8t->Bool)(j:Nat)(hj:j<items.size)(hit:e items[j]=true)(hno:∀m (hm:m<items.size),m<j->e items[m]=false) :
  Meets (d1w.«tuple.index» ⟨[.ref l,x],[]⟩)
   (fun A R s=>s.heap.get? l=some { cls:=.type "tuple",dict:=dd,data:=.seq items n,slots:=sl }/\(∀y,y∈items->EqAt A.in1 s y x (e y))/\R (.ok (.ret (.int j s.toks))) { s with toks:=s.toks+1 }) :=
 .of_wp fun prog w A R s h=>by
  obtain⟨hp,g,d,tk,os⟩:=s;obtain⟨hl,he,h⟩:=h
  wp_walk using d3p hl,a8y _ (fun rest b s'=>b.1=none/\s'=⟨hp,g,d,tk,os⟩/\∃i,i<=j/\rest=d5q i (items.size-i)) _
  case turn =>
   rintro y rest b s' ⟨hb,rfl,i,hij,hr⟩;have hsz:items.size-i=(items.size-(i+1))+1:=by lia
   rw[hsz,List.range'_succ] at hr;injection hr with hy hr;subst hy;have hys:y<items.size:=by lia
   rw[c9M hys];refine c8f (he items[y] (Array.getElem_mem hys) prog w _ _ ?_);by_cases hyj:y=j
   ·subst hyj;rw[hit]
    wp_walk
    exact⟨_,rfl,h⟩
   ·rw[hno y hys (by lia)]
    wp_walk
    exact⟨rfl,rfl,y+1,by lia,hr⟩
  case fin =>
   rintro⟨b1,b2⟩ s' ⟨hb,rfl,i,hij,hr⟩;exfalso;have:(d5q i (items.size-i)).length=0:=by rw[<- hr];rfl
   rw[List.length_range'] at this;lia
  case h =>
   refine⟨rfl,rfl,0,c9j _,?_⟩;simp[Std.Legacy.Range.size]
end
section
variable{X:Cx}{a b e:Expr}{es:LSE}{ta te:TE3}{t:TA3}{pos:Pos}
noncomputable def c2M(t:TA3):TE3:=fun ρ M Q=>t ρ M fun xs M1=>match xs with
 |[.int j]=>(-(2^62)<=j/\j<2^24)/\Q (.tup (a0L 0 j.toNat)) M1
 |_=>False
theorem a9i{t:TA3}{p p' pos':Pos}(hm:X.mg "tuple"=none)(hm':X.mg "range"=none)(ha:HA X [a] t)(hc:X.calm=true:=by rfl)(hg:Gl X "tuple":=by rfl)(hg':Gl X "range":=by rfl)(hs:starEach [a] X.env=[(false,eval a X.env)]:=by rfl)
  (he:starEach [.Call (.Name "range" p') [a] [] pos'] X.env=(false,eval (.Call (.Name "range" p') [a] [] pos') X.env)::starEach [] X.env:=by rfl) :
  HE X (.Call (.Name "tuple" p) [.Call (.Name "range" p') [a] [] pos'] [] pos) (c2M t):=by
 intro ρ M Q h pins s σ H Q2 I bb;obtain⟨hr,hh,en⟩:=bb;refine c9o (a2Q I hg hm c8W ?_ (by decide) (by decide));refine c8H ?_ he rfl;rw[he];refine c9E ?_
 refine d6e (a2Q I hg' hm' d2A (c8H (thn (ha ρ M _ h pos' pins s σ H (fun vs H1=>∃j M1,vs=[V.int j]/\HR X.K H1 M1/\Kp X.K H H1/\(-(2^62)<=j/\j<2^24)/\Q (.tup (a0L 0 j.toNat)) M1) I
  ⟨hr,hh,fun ts vs M1 H1 k1 h1 r1 q1=>by
   dsimp only at q1;split at q1
   ·rename_i j;obtain⟨v,rfl,rv⟩:=a1L r1;obtain rfl:=a0v rv;exact⟨j,M1,rfl,h1,k1,q1.1,q1.2⟩
   ·exact q1.elim⟩) fun us s1 ⟨vs,H1,I1,rv,j,M1,e1,h1,k1,hj,q1⟩=>?_) hs rfl))
 subst e1;obtain⟨u,rfl,t',rfl⟩:=a3o rv;refine d4E (c9Z ?_);have I2:Inv X pins σ H1 { s1 with heap:=s1.heap.push { cls:=.type "range",data:=.fields #[.int 0 s1.toks,.int j t',.int 1 (s1.toks+1)] },toks:=s1.toks+2 }:=I1.kept fun b o e=>c8h _ e;have hn:c9f 0 j 1=((j.toNat:Nat):Int):=by rw[d2Q];split<;>lia
 refine a3X (I1.ok.hd hc) (d2P ..) (d5h (by lia) (by lia) (by lia) (by lia)) hn (by lia) fun h' tk acc' kp ito=>?_;have hz:j.toNat<=sizeLine:=by rw[c9z];lia
 have vr:Vals (a1o 0 j.toNat) acc'.toList:=by
  refine a3b (by unfold a1o;simp[ito.1]) fun i x ex=>?_;have hi:i<j.toNat:=by have:=(c8k.mp ex).1;simpa [a1o] using this
  have hi':i<acc'.size:=by rw[ito.1];exact hi
  have ea:acc'[i]?=some acc'[i]:=c9M hi';obtain⟨tt,et⟩:=ito.2 i _ ea;refine⟨acc'[i],by rw[c9p];exact ea,?_⟩;unfold a1o at ex;rw[c8i,c9r hi] at ex;have:=c8z ex;subst this;exact⟨tt,by rw[et,d3M]⟩
 have I2':Inv X pins σ H1 { s1 with heap:=h',toks:=tk }:=I2.kept (h':=h') (t':=tk) kp;have eacc:acc'.toList.toArray=acc':=by simp
 have I3:Inv X pins σ (upd H1 h'.objs.size (.tup (a1o 0 j.toNat))) { s1 with heap:=h'.push { cls:=.type "tuple",data:=.seq acc' },toks:=tk } :=
  I2'.laid (t':=tk) (fun b o e=>c8h _ e) (c8d _) (show a1d X.prog X.w _ _ _ (.tup (a1o 0 j.toNat)) from
   ⟨by unfold a1o;simpa using hz,acc'.toList,vr,by rw[eacc];exact a3m.new _ _⟩)
 have hf:=I2'.hok.fresh (c8d _);have nw:=Kp.new (K:=X.K) (H:=H1) (o:=.tup (a1o 0 j.toNat)) hf;exact⟨.ref h'.objs.size,_,I3,rfl,en _ _ _ _ (k1.trans nw) (h1.keep hf) (a2d (SqT.of a0O) (a6l 0 j.toNat)) q1⟩
noncomputable def c4A(M:MH)(x:T):Prop:=match x with
 |.adr p=>(match M p with|some (.lst _)=>True|_=>False)
 |.tup _=>True
 |_=>False
noncomputable def b4L:RM3:=fun x xs M Q=>match x,xs with
 | .adr p,[.int k]=>(match M p with
   |some (.lst ts)=>(match a9f ts with|some ns=>k∈ns/\Q (.int (ns.idxOf k)) M|none=>False)
   |_=>False)
 |.tup ts,[.int k]=>(match a9f ts with|some ns=>k∈ns/\Q (.int (ns.idxOf k)) M|none=>False)
 |_,_=>False
theorem b7p(pins:PNS)(s:c8u)(σ:St)(H:Hp)(v:V)(k:Int)(u:c8t)(us:LSV)(ns:LSI)(M:MH)(Q:VK3)(Q2:VK)(I:Inv X pins σ H s)(rv:RelV v u)(rvs:Vals [.int k] us)(r1:Rep X.K H v (.tup (ns.map T.int)))(hh:HR X.K H M)
  (en:EndE X.K H Q Q2) (hk:k∈ns) (q:Q (.int (ns.idxOf k)) M):wpAny (model X.prog X.w) X.A (call (.builtin "tuple.index") (u::us)) (EP X pins σ Q2) X.xe s:=by
 obtain⟨p,ys,rfl,g1,g2⟩:=a1n r1;obtain rfl:=g2.ints;cases rv;obtain⟨w',rfl,tk,rfl⟩:=a3o rvs;obtain⟨its,r',pl,hz⟩:=I.tuple0 g1;have hl:=r'.length;rw[c8a] at hl hz;obtain⟨o,eo,ec,edd,n,ed⟩:=id pl;obtain⟨cls,dd,data,sl⟩:=o;simp only at ec edd ed;subst ec edd ed;have hk':ns.idxOf k<ns.length:=d2I.mpr hk
 have item:∀(j:Nat) (hj:j<its.toArray.size),∃tk',its.toArray[j]=d0R (ns[j]'(by rw[c8j,<- hl] at hj;exact hj)) tk':=fun j hj=>by
  have hj':j<ns.length:=by rw[c8j,<- hl] at hj;exact hj
  obtain⟨w2,e2,tk',rfl⟩:=r'.get (i:=j) (x:=V.int ns[j]) (by rw[c8i,c8b hj']<;>rfl);have:its[j]?=some its.toArray[j]:=by rw[c8b (by rw[c8j] at hj;exact hj)]<;>simp
  rw[e2] at this;exact⟨tk',(c8z this).symm⟩
 let ee:c8t->Bool:=fun v=>match v with|.int i _=>i==k|_=>false
 refine c9X PySem.F.slot_tuple_index ⟨_,eo,rfl⟩ PySem.F.entry_tuple_index (PySem.F.args_tuple_index_2 _ _)
  (b1b p its.toArray n none sl (.int k tk) ee (ns.idxOf k) (by rw[c8j,<- hl];exact hk') ?_ ?_) ⟨eo,fun y hy=>?_,?_⟩
 ·obtain⟨tk',e⟩:=item (ns.idxOf k) (by rw[c8j,<- hl];exact hk');rw[e];show(ns[ns.idxOf k]==k)=true;simp
 ·intro m hm hlt;obtain⟨tk',e⟩:=item m hm;rw[e];show(ns[m]'_==k)=false;have:=d3g (p:=(·==k)) (xs:=ns) (i:=m) (by simpa [d6n] using hlt)
  simpa using this
 ·obtain⟨j,hj,rfl⟩:=d3C hy;obtain⟨tk',e⟩:=item j hj;rw[e];exact d2j _ _ _ _
 ·exact⟨.int (ns.idxOf k),H,I.tok _,⟨_,rfl⟩,en _ _ M H Kp.refl hh a0x q⟩
noncomputable def tLMS(to:TE3)(t:TA3):TE3:=fun ρ M Q=>to ρ M fun x M1=>c4A M1 x/\t ρ M1 fun xs M2=>b4L x xs M2 Q
theorem b9X{o:Expr}{to:TE3}{apos cpos:Pos}(ho:HE X o to)(ha:HA X (e::es) t)
  (hbase:attributeBase o "index" X.env (eval o X.env)=eval o X.env:=by rfl)
  (hfew:QFF X cpos e es:=by rfl)
  (hline:QLL apos cpos:=by rfl) (hs:QSS X e es:=by rfl) (hplain:QPP X cpos es:=by rfl) :
  HE X (.Call (.Attribute o "index" apos) (e::es) [] cpos) (tLMS to t):=by
 intro ρ M Q h pins s σ H Q2 I bb;obtain⟨hr,hh,en⟩:=bb
 refine d3f hbase hfew hline rfl (thn (ho ρ M _ h pins s σ H (fun v H1=>∃x M1,Rep X.K H1 v x/\HR X.K H1 M1/\Kp X.K H H1/\c4A M1 x/\t ρ M1 fun xs M2=>b4L x xs M2 Q) I
  ⟨hr,hh,fun x v M1 H1 k1 h1 r1 q1=>⟨x,M1,r1,h1,k1,q1.1,q1.2⟩⟩) fun v s1 ⟨vv,H1,I1,rvv,x,M1,r1,h1,k1,sq,q1⟩=>?_)
 have hA:=ha ρ M1 _ q1 cpos pins s1 σ H1;cases x with
 | adr p =>
   have ty:tyV X.K "list" vv H1:=b1Y h1 r1 sq;obtain⟨t1,t2⟩:=b7Y I1 rvv ty;refine⟨"list","list.index",PySem.F.plainAttrs_list,PySem.F.slot_list_index,PySem.F.type_list_index,t1,t2,?_⟩;have hB:=hA (fun vs H2=>∃xs M2,Reps X.K H2 vs xs/\HR X.K H2 M2/\Kp X.K H1 H2/\b4L (.adr p) xs M2 Q) I1 ⟨hr.kp k1,h1,fun ts vs M2 H2 k2 h2 r2 q2=>⟨ts,M2,r2,h2,k2,q2⟩⟩
   rw[hs] at hB|-
   refine c9H (by show(false||(backTo cpos (starEach es X.env)).any (·.1))=false;rw[hplain]<;>rfl) (c9W ?_)
   refine thn hB fun us s2 ⟨vs,H2,I2,rvs,xs,M2,r2,h2,k2,q2⟩=>?_
   have q3:b1B (.adr p) xs M2 Q:=by
    unfold b4L at q2;split at q2
    ·rename_i h;cases h;exact q2
    ·rename_i h;cases h
    ·exact q2.elim
   exact b9s pins s2 σ H2 vv vs v us Q2 I2 rvv rvs ⟨.adr p,xs,M2,Q,Rep.kp k2 _ _ r1,r2,h2,q3,en.kp (k1.trans k2)⟩
 | tup ts =>
   obtain⟨a1,ys,rfl,g1,g2⟩:=a1n r1;have eu:v=.ref a1:=by cases rvv;rfl
   obtain⟨its,_,⟨oo,eo,ec,ed,_⟩,_⟩:=I1.tuple0 g1;refine⟨"tuple","tuple.index",PySem.F.plainAttrs_tuple,PySem.F.slot_tuple_index,PySem.F.type_tuple_index,?_,?_,?_⟩
   ·rw[eu];exact⟨oo,eo,ec⟩
   ·intro a2 e2;rw[eu] at e2;cases e2;exact⟨oo,eo,ed⟩
   have hB:=hA (fun vs H2=>∃xs M2,Reps X.K H2 vs xs/\HR X.K H2 M2/\Kp X.K H1 H2/\b4L (.tup ts) xs M2 Q) I1 ⟨hr.kp k1,h1,fun ts vs M2 H2 k2 h2 r2 q2=>⟨ts,M2,r2,h2,k2,q2⟩⟩
   rw[hs] at hB|-
   refine c9H (by show(false||(backTo cpos (starEach es X.env)).any (·.1))=false;rw[hplain]<;>rfl) (c9W ?_)
   refine thn hB fun us s2 ⟨vs,H2,I2,rvs,xs,M2,r2,h2,k2,q2⟩=>?_;unfold b4L at q2;split at q2
   ·rename_i h;cases h
   ·rename_i ts' k h;cases h;obtain⟨w,rfl,rw'⟩:=a1L r2;obtain rfl:=a0v rw';split at q2
    ·rename_i ns en';have et:=a7J en';subst et;exact b7p pins s2 σ H2 _ k v us ns M2 Q Q2 I2 rvv rvs (Rep.kp k2 _ _ r1) h2 (en.kp (k1.trans k2)) q2.1 q2.2
    ·exact q2.elim
   ·exact q2.elim
 |_=>exact sq.elim
end
section
open AutoSeq1
theorem b2e(l:Addr)(items:Array c8t)(n:Nat)(b:Addr)(items2:Array c8t)(n2:Nat)(sl:AOV)(hs0:¬(!items.isEmpty&&c9S (items.size+items2.size))=true)(hs1:items.size<=sizeLine)(hs2:items.size+items2.size<=sizeLine+1) :
  Meets (d1w.«list.extend» ⟨[.ref l,.ref b],[]⟩) (fun _ R s=>s.heap.get? l=some { cls:=.type "list",dict:=none,data:=.seq items n,slots:=#[] }/\s.heap.get? b=some { cls:=.type "tuple",dict:=none,data:=.seq items2 n2,slots:=sl }/\R (.ok (.ret d2z)) { s with heap:=s.heap.update l (d2B fun x=>x++items2),toks:=s.toks }) :=
 .of_wp fun prog w A R s h=>by
  obtain⟨hp,g,d,tk,os⟩:=s;obtain⟨hl,hb,h⟩:=h;have f1:=idx_int;have f2:=AutoSeq1.sub_tuple_tuple;have f3:=AutoSeq1.sub_list_list;have f4:=AutoSeq1.sub_tuple_list;have f5:=AutoSeq1.sub_list_tuple;have hz':(items++items2).size<=sizeLine+1:=by rw[Array.size_append];exact hs2
  wp_walk using (wpAny_updateSeq hl rfl (hz:=hs1) (_hz':=hz')),d3p hl,d3p hb;exact⟨_,rfl,h⟩
end
section
variable{X:Cx}{a b e f:Expr}{es:LSE}{ta te:TE3}{t:TA3}{pos:Pos}
noncomputable def c1s:RM3:=fun x xs M Q=>match x,xs with
 |.adr p,[.tup us]=>(match M p with|some (.lst ts)=>ts.length+us.length<=sizeLine/\Q .non (updM M p (.lst (ts++us)))|_=>False)
 |.adr p,[.adr q]=>(match M p,M q with|some (.lst ts),some (.lst us)=>ts.length+us.length<=sizeLine/\Q .non (updM M p (.lst (ts++us)))|_,_=>False)
 |_,_=>False
theorem b7q:MtR3 X "list.extend" c1s:=by
 intro pins s σ H v vs u us Q2 I rv rvs h;obtain⟨x,xs,M,Q,r1,r2,hh,q,en⟩:=h;unfold c1s at q;split at q
 ·rename_i p ys;split at q
  ·rename_i ts e0;obtain⟨zs,g1,g2⟩:=hh _ _ e0;obtain rfl:=a0q r1;obtain⟨w,rfl,rw'⟩:=a1L r2;obtain⟨b1,ws,rfl,k1,k2⟩:=a1n rw';cases rv;obtain⟨u2,rfl,ru⟩:=rvs.one;cases ru;obtain⟨z,its,n,r,hl,e⟩:=I.lstM g1;obtain⟨its2,r2',⟨o,eo,ec,ed,n2,edd⟩,hz2⟩:=I.tuple0 k1;obtain⟨cls,dd,data,sl⟩:=o;simp only at ec ed edd;subst ec ed edd;have l2:=r2'.length;have l3:=g2.length;have l4:=k2.length;have hsz:its.toArray.size+its2.toArray.size<=sizeLine:=by rw[c8j,c8j];lia
   have hlong:¬(!its.toArray.isEmpty&&c9S (its.toArray.size+its2.toArray.size))=true:=by
    rw[b1O hsz,d2t];exact c8F
   refine c9X d4d ⟨_,e,rfl⟩ d3Q (d3B _ _)
    (b2e p its.toArray n b1 its2.toArray n2 sl hlong (by rw[c8j];lia) (by lia)) ⟨e,eo,?_⟩
   refine⟨.non,_,I.lset (its':=its++its2) g1 e (by simp) (r.append r2') ?_,rfl,en _ _ _ _ (Kp.lst g1) (hh.setL g1 (g2.append k2)) a5j q.2⟩;rw[c8p];lia
  ·exact q.elim
 ·rename_i p b1;split at q
  ·rename_i ts us' e0 e1;obtain⟨zs,g1,g2⟩:=hh _ _ e0;obtain⟨ws,k1,k2⟩:=hh _ _ e1;obtain rfl:=a0q r1;obtain⟨w,rfl,rw'⟩:=a1L r2;obtain rfl:=a0q rw';have l3:=g2.length;have l4:=k2.length;exact b9p pins s σ H _ _ u us Q2 I rv rvs ⟨_,_,zs,ws,rfl,rfl,g1,k1,by lia,en _ _ _ _ (Kp.lst g1) (hh.setL g1 (g2.append k2)) a5j q.2⟩
  ·exact q.elim
 ·exact q.elim
theorem b7A{o:Expr}{to:TE3}{apos cpos:Pos}(ho:HE X o to)(ha:HA X (e::es) t)
  (hbase:attributeBase o "extend" X.env (eval o X.env)=eval o X.env:=by rfl)
  (hfew:QFF X cpos e es:=by rfl)
  (hline:QLL apos cpos:=by rfl) (hs:QSS X e es:=by rfl) (hplain:QPP X cpos es:=by rfl) :
  HE X (.Call (.Attribute o "extend" apos) (e::es) [] cpos) (tLM3 c1s to t):=h_lm PySem.F.slot_list_extend PySem.F.type_list_extend b7q ho ha hbase hfew hline hs hplain
noncomputable def tP3:List (TE3×TE3)->En->MH->(List T->List T->MH->Prop)->Prop
 |[],_,M,Q=>Q [] [] M
 |(tk,tv)::r,ρ,M,Q=>tk ρ M fun x M1=>tv ρ M1 fun y M2=>tP3 r ρ M2 fun ks vs M3=>Q (x::ks) (y::vs) M3
noncomputable def HPs(X:Cx)(keys:List (Option Expr))(values:LSE)(trs:List (TE3×TE3)):Prop :=
 ∀ (pos:Pos) (ρ:En) (M:MH) (Q:List T->List T->MH->Prop),tP3 trs ρ M Q->∀pins s σ H,Inv X pins σ H s->RhoR X.K σ H ρ->HR X.K H M ->
   wpAny (model X.prog X.w) X.A (evalPairs (pairTrees keys values X.env pos)) (fun vs s'=>∃xs ys ks ts M' H',Inv X pins σ H' s'/\VV (xs.zip ys) vs/\(xs.length=ys.length/\xs.length=keys.length)/\Kp X.K H H'/\HR X.K H' M'/\Reps X.K H' xs ks/\Reps X.K H' ys ts/\Q ks ts M') X.xe s
theorem c4D:HPs X [] [] []:=fun pos ρ M Q h pins s σ H I hr hh=>pairTrees_nil_walk ⟨[],[],[],[],M,H,I,.nil,⟨rfl,rfl⟩,Kp.refl,hh,.nil,.nil,h⟩
theorem a8u{k v:Expr}{ks:List (Option Expr)}{vs:LSE}{tk tv:TE3}{trs:List (TE3×TE3)}(hk:HE X k tk)(hv:HE X v tv)(hr':HPs X ks vs trs):HPs X (some k::ks) (v::vs) ((tk,tv)::trs):=by
 intro pos ρ M Q h pins s σ H I hr hh
 refine pairTrees_cons_walk (thn (hk ρ M _ h pins s σ H (fun v H1=>∃x M1,Rep X.K H1 v x/\HR X.K H1 M1/\Kp X.K H H1/\tv ρ M1 fun y M2=>tP3 trs ρ M2 fun ks vs M3=>Q (x::ks) (y::vs) M3) I
  ⟨hr,hh,fun x v M1 H1 k1 h1 r1 q1=>⟨x,M1,r1,h1,k1,q1⟩⟩) fun u s1 ⟨xv,H1,I1,rx,x,M1,r1,h1,k1,q1⟩=>?_)
 refine thn (hv ρ M1 _ q1 pins s1 σ H1 (fun v H2=>∃y M2,Rep X.K H2 v y/\HR X.K H2 M2/\Kp X.K H1 H2/\tP3 trs ρ M2 fun ks vs M3=>Q (x::ks) (y::vs) M3) I1
  ⟨hr.kp k1,h1,fun y v M2 H2 k2 h2 r2 q2=>⟨y,M2,r2,h2,k2,q2⟩⟩) fun w2 s2 ⟨yv,H2,I2,ry,y,M2,r2,h2,k2,q2⟩=>?_
 refine thn (hr' pos ρ M2 _ q2 pins s2 σ H2 I2 (hr.kp (k1.trans k2)) h2) fun ws s3 ⟨xs,ys,ks',ts',M3,H3,I3,rel,hl,k3,h3,rk,rv,q3⟩=>?_;exact⟨xv::xs,yv::ys,x::ks',y::ts',M3,H3,I3,.cons ⟨rx,ry⟩ rel,⟨by rw[c8e,c8e,hl.1],by rw[c8e,c8e,hl.2]⟩,(k1.trans k2).trans k3,h3,.cons (Rep.kp (k2.trans k3) _ _ r1) rk,.cons (Rep.kp k3 _ _ r2) rv,q3⟩
theorem b0E:∀(more acc:List (Key×V)),(∀kv∈more,valV acc kv.1=none)->(more.map (·.1)).Nodup->b6c acc more=acc++more
 |[],acc,_,_=>by show acc=acc++[];rw[c8R]
 | p :: r,acc,h,nd=>by
   show b6c (putK acc p.1 p.2) r=_;rw[c1v p.2 (h p c8r)];rw[c8g,c9J] at nd;rw[b0E r _ (fun kv hkv=>?_) nd.2,c9t]
   ·rfl
   ·have h1:=h kv (c8m _ hkv)
    unfold valV at h1|-
    rw[List.find?_append]
    have h2:(acc.find? fun x=>decide (x.1=kv.1))=none:=by
     cases q:acc.find? fun x=>decide (x.1=kv.1) with
     |none=>rfl
     |some z=>rw[q] at h1;cases h1
    rw[h2];have h3:p.1≠kv.1:=fun e=>nd.1 (e▸List.mem_map_of_mem hkv);simp[h3]
noncomputable def keyT:Key->T
 |.inl i=>.int i
 |.inr x=>.str x
theorem a3I{K:PySem.W.Frag}{H:Hp}{v:V}{k:Key}(r:Rep K H v (keyT k)):v=kV k:=by
 cases k with
 |inl i=>exact a0v r
 |inr x=>exact a0V r
theorem b5J{K:PySem.W.Frag}{H:Hp}:∀{ks:List Key} {vs:List V},Reps K H vs (ks.map keyT)->vs=ks.map kV
 |[],_,r=>by rw[c9g] at r;unfold Reps at r;exact r
 | k::ks,_,r=>by
   rw[c8g] at r;unfold Reps at r;obtain⟨v,w,rfl,r1,r2⟩:=r;rw[a3I r1,b5J r2];rfl
noncomputable def valT{κ:Type}[DecidableEq κ](kvs:List (κ×T))(k:κ):Option T:=(kvs.find? fun kv=>decide (kv.1=k)).map (·.2)
noncomputable def putT{κ:Type}[DecidableEq κ](kvs:List (κ×T))(k:κ)(v:T):List (κ×T) :=
 if (kvs.any fun kv=>decide (kv.1=k))=true then kvs.map (fun kv=>if kv.1=k then (kv.1,v) else kv) else kvs++[(k,v)]
theorem KRep.val{κ:Type}[DecidableEq κ]{K:PySem.W.Frag}{H:Hp}(k:κ):∀{xs:List (κ×V)} {kvs:List (κ×T)},KRep K H xs kvs->(match valT kvs k with|some t=>∃v,valV xs k=some v/\Rep K H v t|none=>valV xs k=none)
 |[],[],_=>rfl
 | p::r,q::u,h=>by
   have ih:=KRep.val k h.2.2
   unfold valT valV at ih|-
   rw[c9h,c9h,h.1];by_cases c:q.1=k
   ·simp only[c,decide_true,Option.map_some];exact⟨p.2,rfl,h.2.1⟩
   ·simp only[c,decide_false];exact ih
 |[],q::u,h=>h.elim
 |p::r,[],h=>h.elim
theorem KRep.any{κ:Type}[DecidableEq κ]{K:PySem.W.Frag}{H:Hp}(k:κ):∀{xs:List (κ×V)} {kvs:List (κ×T)},KRep K H xs kvs->(xs.any fun kv=>decide (kv.1=k))=kvs.any fun kv=>decide (kv.1=k)
 |[],[],_=>rfl
 |p::r,q::u,h=>by rw[d0d,d0d,h.1,KRep.any k h.2.2]
 |[],q::u,h=>h.elim
 |p::r,[],h=>h.elim
theorem KRep.repl{κ:Type}[DecidableEq κ]{K:PySem.W.Frag}{H:Hp}(k:κ){v:V}{z:T}(rz:Rep K H v z):∀{xs:List (κ×V)} {kvs:List (κ×T)},KRep K H xs kvs->KRep K H (xs.map fun kv=>if kv.1=k then (kv.1,v) else kv) (kvs.map fun kv=>if kv.1=k then (kv.1,z) else kv)
 |[],[],_=>trivial
 | p::r,q::u,h=>by
   rw[c8g,c8g];refine⟨?_,?_,KRep.repl k rz h.2.2⟩
   ·rw[h.1];by_cases c:q.1=k
    ·rw[if_pos c,if_pos c]
    ·rw[if_neg c,if_neg c];exact h.1
   ·rw[h.1];by_cases c:q.1=k
    ·rw[if_pos c,if_pos c];exact rz
    ·rw[if_neg c,if_neg c];exact h.2.1
 |[],q::u,h=>h.elim
 |p::r,[],h=>h.elim
theorem KRep.snoc{κ:Type}{K:PySem.W.Frag}{H:Hp}(k:κ){v:V}{z:T}(rz:Rep K H v z):∀{xs:List (κ×V)} {kvs:List (κ×T)},KRep K H xs kvs->KRep K H (xs++[(k,v)]) (kvs++[(k,z)])
 |[],[],_=>⟨rfl,rz,trivial⟩
 |p::r,q::u,h=>⟨h.1,h.2.1,KRep.snoc k rz h.2.2⟩
 |[],q::u,h=>h.elim
 |p::r,[],h=>h.elim
theorem KRep.put{κ:Type}[DecidableEq κ]{K:PySem.W.Frag}{H:Hp}(k:κ){v:V}{z:T}(rz:Rep K H v z){xs:List (κ×V)}{kvs:List (κ×T)}(h:KRep K H xs kvs):KRep K H (putK xs k v) (putT kvs k z):=by
 unfold putK putT;rw[h.any k];split
 ·exact h.repl k rz
 ·exact h.snoc k rz
theorem b6e{κ:Type}{K:PySem.W.Frag}{H:Hp}:∀{kvs:List (κ×T)} {ys:List V},Reps K H ys (kvs.map Prod.snd)->KRep K H ((kvs.map c8J).zip ys) kvs
 |[],ys,r=>by rw[c9g] at r;unfold Reps at r;subst r;exact trivial
 | q::u,ys,r=>by
   rw[c8g] at r;unfold Reps at r;obtain⟨v,w,rfl,r1,r2⟩:=r;exact⟨rfl,r1,b6e r2⟩
theorem b5y:∀(ks:List Key) (ys:List V),((ks.map kV).zip ys)=(ks.zip ys).map fun kv=>(kV kv.1,kv.2)
 |[],ys=>by simp
 |k::ks,[]=>by simp
 | k::ks,y::ys=>by
   rw[c8g,d4m,d4m,c8g,b5y ks ys]
noncomputable def c5w(trs:List (TE3×TE3)):TE3:=fun ρ M Q=>∀p,M p=none->tP3 trs ρ (updM M p (.dk [])) fun ks ts M1=>M1 p=some (.dk [])/\∃kvs:List (Key×T),ks=kvs.map (fun kv=>keyT kv.1)/\ts=kvs.map Prod.snd/\(kvs.map c8J).Nodup/\Q (.adr p) (updM M1 p (.dk kvs))
theorem c7U{keys:List (Option Expr)}{values:LSE}{trs:List (TE3×TE3)}(h:HPs X keys values trs)(hall:keys.all (·.isSome)=true:=by rfl)(hl:keys.length=values.length:=by rfl)(h0:keys≠[]:=by exact fun z=>nomatch z)
  (h15:keys.length<=15:=by decide):HE X (.Dict keys values pos) (c5w trs):=by
 intro ρ M Q q pins s σ H Q2 I bb;obtain⟨hr,hh,en⟩:=bb;have hn:=I.hok.fresh (c8d s.heap.objs.size);have I1:=I.laid (a:=s.heap.objs.size) (o:=.dK []) (h':=s.heap.push { cls:=.type "dict",data:=.dict #[] }) (t':=s.toks) (fun _ _ q=>c8h _ q) (c8d _) (b6v s.heap I.big);have k0:=Kp.new (K:=X.K) (o:=.dK []) hn;have hh1:HR X.K (upd H s.heap.objs.size (.dK [])) (updM M s.heap.objs.size (.dk [])):=hh.newK hn (kvs:=[]) (xs:=[]) trivial;refine wpAny_Dict_walk (knd:=a0C X.prog X.w) hall hl h0 h15 (thn (h pos ρ _ _ (q _ (hh.free hn)) pins _ σ _ I1 (hr.kp k0) hh1) fun ws s2 ⟨xs,ys,ks,ts,M2,H2,I2,rel,hxy,k2,h2,rk,rv,hM2,kvs,eks,ets,nd,q2⟩=>?_);subst eks ets;have rk':Reps X.K H2 xs ((kvs.map c8J).map keyT):=by rw[c9l];exact rk
 obtain rfl:=b5J rk';rw[b5y] at rel;obtain⟨zs,e,kr0⟩:=h2 _ _ hM2;obtain rfl:zs=[]:=by cases zs with|nil=>rfl|cons a b=>exact kr0.elim
 obtain⟨rs,c,rkv⟩:=b0U (P:=X.prog) (w:=X.w) rel;obtain⟨z,hd,vs0,r0,dd⟩:=c4R I2.hok e;cases r0;have hyl:=rv.length;rw[c8a] at hyl
 have em:b6c [] ((kvs.map c8J).zip ys)=(kvs.map c8J).zip ys:=by
  rw[b0E _ _ (fun _ _=>rfl),d0D];rw[List.map_fst_zip (by rw[c8a];lia)];exact nd
 refine⟨rs,c,dd,fun h' dd' hs=>?_⟩
 have hz:((kvs.map c8J).zip ys).length<=sizeLine:=by
  rw[List.length_zip,c8a,c9z];have h1:=hxy.2;rw[c8a,c8a] at h1;lia
 have he:∃q,h'.get? s.heap.objs.size=some q:=let ⟨q,_,_,hq,_⟩:=dd';⟨q,hq⟩
 have rm:=rkv.merge (kvs:=[]) (vs:=[]) .nil;rw[em] at rm;exact⟨.ref s.heap.objs.size,_,b2o I2 (by rw[e];exact d0m) hs he (c0u hz hd rm dd'),rfl,en _ _ _ _ ((k0.trans k2).trans (Kp.dict e (.inl ⟨_,rfl⟩))) (h2.setK e (.inl ⟨_,rfl⟩) (b6e rv)) a1I q2⟩
noncomputable def c5v(tup:Bool):TE3:=fun _ M Q=>∀p,M p=none->Q (.adr p) (updM M p (if tup then .dt [] else .dk []))
theorem b0M{pos:Pos}:HE X (.Dict [] [] pos) (c5v false):=fun ρ M Q h =>
 (c1I).imp fun σ H Q2 ⟨hr,hh,en⟩=>fun p hp=>en _ _ _ _ (Kp.new hp) (hh.newK hp (kvs:=[]) (xs:=[]) trivial) a1I (h p (hh.free hp))
noncomputable def b9K(M:MH)(x:T):Prop:=match x with
 |.adr p=>(match M p with|some (.dk _)=>True|some (.dt _)=>True|_=>False)
 |_=>False
theorem b6k{K:PySem.W.Frag}{H:Hp}{M:MH}{x:T}{v:V}(hh:HR K H M)(r:Rep K H v x)(d:b9K M x):∃a,v=.ref a/\IsD H a:=by
 cases x with
 | adr p =>
   obtain rfl:=a0q r;unfold b9K at d;dsimp only at d;cases e:M p with
   |none=>rw[e] at d;exact d.elim
   | some o =>
     rw[e] at d;cases o with
     |lst ts=>exact d.elim
     |dk kvs=>obtain⟨xs,g1,_⟩:=hh _ _ e;exact⟨p,rfl,.inl ⟨xs,.of g1⟩⟩
     |dt kvs=>obtain⟨xs,g1,_⟩:=hh _ _ e;exact⟨p,rfl,.inr ⟨xs,.of g1⟩⟩
     |fz kvs=>exact d.elim
     |fk kvs=>exact d.elim
     |ob C fs=>exact d.elim
 |_=>exact d.elim
noncomputable def c5t(td tk tx:TE3):TE3:=fun ρ M Q=>td ρ M fun x M1=>b9K M1 x/\tk ρ M1 fun k M2=>tx ρ M2 fun z M3=>match x with
 | .adr p=>(match M3 p with
   |some (.dk kvs)=>∃kk,k=keyT kk/\Q ((valT kvs kk).getD z) M3
   |_=>False)
 |_=>False
theorem b6n{o:Expr}{td tk tx:TE3}{apos cpos:Pos}(hu:X.A.units+64<cLine)(ho:HE X o td)(he:HE X e tk)(hf:HE X f tx)
  (m1:attributeBase o "get" X.env (eval o X.env)=eval o X.env:=by rfl)
  (m2:((backTo cpos (starEach [e,f] X.env)).all (fun x=>!x.1)&&(backToKw cpos (keywordEach [] X.env)).all (fun x=>x.1.isSome)
   && decide (([e,f]:LSE).length+([]:List d1v).length+(if ([]:List d1v).isEmpty then 0 else 1)<30))=true:=by rfl)
  (m3:QLL apos cpos:=by rfl) (m4:backTo cpos (starEach [e,f] X.env)=[(false,eval e X.env),(false,eval f X.env)]:=by rfl) :
  HE X (.Call (.Attribute o "get" apos) [e,f] [] cpos) (c5t td tk tx):=fun ρ M Q h =>
 (b5U (by lia) (ho.d (ρ:=ρ)) (he.d (ρ:=ρ)) (hf.d (ρ:=ρ)) ⟨m1,m2,m3,m4⟩).imp fun σ H Q2 ⟨hr,hh,en⟩=>⟨M,_,h,hr,hh,fun x v M1 H1 k1 h1 r1 q1=>by
  obtain⟨hd,q1⟩:=q1;obtain⟨a,rfl,isd⟩:=b6k h1 r1 hd;refine⟨a,rfl,isd,M1,_,q1,hr.kp k1,h1,fun y v2 M2 H2 k2 h2 r2 q2=>⟨M2,_,q2,hr.kp (k1.trans k2),h2,fun z v3 M3 H3 k3 h3 r3 q3=>?_⟩⟩;cases x with
  | adr p =>
    cases r1;dsimp only at q3;split at q3
    ·rename_i kvs e;obtain⟨kk,rfl,q3⟩:=q3;obtain rfl:=a3I r2;obtain⟨xs,g1,g2⟩:=h3 _ _ e;refine⟨_,DGet.k g1,en _ _ M3 H3 ((k1.trans k2).trans k3) h3 ?_ q3⟩;have hv:=g2.val kk;cases ev:valT kvs kk with
     |none=>rw[ev] at hv;rw[hv];exact r3
     | some t =>
       rw[ev] at hv;obtain⟨u,e1,e2⟩:=hv;rw[e1];exact e2
    ·exact q3.elim
  |_=>exact hd.elim⟩
noncomputable def tDGK(td tk:TE3):TE3:=fun ρ M Q=>td ρ M fun x M1=>tk ρ M1 fun k M2=>match x with
 | .adr p=>(match M2 p with
   |some (.dk kvs)=>∃kk t,k=keyT kk/\valT kvs kk=some t/\Q t M2
   |_=>False)
 |_=>False
theorem c2k{o i:Expr}{td tk:TE3}{pos:Pos}(hu:X.A.units+64<cLine)(ho:HE X o td)(hi:HE X i tk)(hs:NoSl i:=by intro _ _;rfl):HE X (.Subscript o i pos) (tDGK td tk):=fun ρ M Q h =>
 (c4g (by lia) (ho.d (ρ:=ρ)) (hi.d (ρ:=ρ)) hs).imp fun σ H Q2 ⟨hr,hh,en⟩=>⟨M,_,h,hr,hh,fun x v M1 H1 k1 h1 r1 q1=>⟨M1,_,q1,hr.kp k1,h1,fun y v2 M2 H2 k2 h2 r2 q2=>by
  cases x with
  | adr p =>
    cases r1;dsimp only at q2;split at q2
    ·rename_i kvs e;obtain⟨kk,t,rfl,ev,q2⟩:=q2;obtain rfl:=a3I r2;obtain⟨xs,g1,g2⟩:=h2 _ _ e;have hv:=g2.val kk;rw[ev] at hv;obtain⟨u,e1,e2⟩:=hv;exact⟨_,u,rfl,by rw[<- e1];exact DGet.k g1,en _ _ M2 H2 (k1.trans k2) h2 e2 q2⟩
    ·exact q2.elim
  |_=>exact q2.elim⟩⟩
noncomputable def sDPK(td tk tv:TE3):TS3:=fun D ρ M=>tv ρ M fun z M1=>td ρ M1 fun x M2=>tk ρ M2 fun k M3=>match x with
 | .adr p=>(match M3 p with
   |some (.dk kvs)=>∃kk,k=keyT kk/\kvs.length<sizeLine/\D.nx ρ (updM M3 p (.dk (putT kvs kk z)))
   |_=>False)
 |_=>False
theorem b6W{o i value:Expr}{td tk tv:TE3}{pos pos':Pos}(hu:X.A.units+64<cLine)(hv:HE X value tv)(ho:HE X o td)(hi:HE X i tk)(hs:swapsWith value (some (.Subscript o i pos')) pos.line X.env=pure false:=by rfl) :
  HS X (.Assign [.Subscript o i pos'] value pos) (sDPK td tk tv):=fun D ρ M h =>
 (b8S (by lia) (ho.d (ρ:=ρ)) (hi.d (ρ:=ρ)) (hv.d (ρ:=ρ)) hs).imp fun D2 σ H ⟨hr,hh,en⟩=>⟨M,_,h,hr,hh,fun z v M1 H1 k1 h1 r1 q1=>⟨M1,_,q1,hr.kp k1,h1,fun x v2 M2 H2 k2 h2 r2 q2=>⟨M2,_,q2,hr.kp (k1.trans k2),h2,fun y v3 M3 H3 k3 h3 r3 q3=>by
  cases x with
  | adr p =>
    cases r2;dsimp only at q3;split at q3
    ·rename_i kvs e;obtain⟨kk,rfl,hl,q3⟩:=q3;obtain rfl:=a3I r3;obtain⟨xs,g1,g2⟩:=h3 _ _ e;have kk':=Kp.dict (K:=X.K) (u:=.dK (putK xs kk v)) g1 (.inl ⟨_,rfl⟩);have kall:=(k1.trans k2).trans (k3.trans kk');refine⟨_,_,rfl,DPut.k g1 (by rw[g2.length];exact hl),en.nx _ _ _ _ kall (hr.kp kall) (h3.setK g1 (.inl ⟨_,rfl⟩) (g2.put kk (Rep.kp (k2.trans k3) _ _ r1))) q3⟩
    ·exact q3.elim
  |_=>exact q3.elim⟩⟩⟩
noncomputable def b9G(x:T):Bool:=match x with
 |.non=>true
 |_=>false
theorem b9F{K:PySem.W.Frag}{H:Hp}{v:V}{x:T}(r:Rep K H v x):decide (v=.non)=b9G x:=by
 cases x with
 |non=>obtain rfl:=a7I r;rfl
 |bl b=>obtain rfl:=a4G r;rfl
 |int i=>obtain rfl:=a0v r;rfl
 |str y=>obtain rfl:=a0V r;rfl
 |adr a=>obtain rfl:=a0q r;rfl
 |tup ts=>obtain⟨p,xs,rfl,_,_⟩:=a1n r;rfl
 |rd ts=>obtain⟨p,xs,rfl,_,_⟩:=b0L r;rfl
 |dic ks ts=>unfold Rep at r;obtain⟨b,rfl,_⟩:=r;rfl
noncomputable def c6L(x:T)(c:Bool):Option Bool:=match x with
 |.bl b=>some (b==c)
 |_=>none
noncomputable def rIs3:R3:=fun x y M Q=>match y with
 |.non=>Q (.bl (b9G x)) M
 |.bl c=>(match c6L x c with|some b=>Q (.bl b) M|none=>False)
 |_=>False
theorem c6K{M:d5P}{A:c8Z}{E:VPR}{s:c8u}{Q:VPR}{b c:Bool}(h:Q (.bool (b==c)) s):wpAny M A (compareOp .Is (.bool b) (.bool c)) Q E s:=by
 cases b<;>cases c<;>exact c8x h
theorem c2Y:OpR3 X (compareOp .Is) rIs3:=by
 intro pins s σ H x y v u Q2 I rx ry q;obtain⟨a,b,M,Q,r1,r2,hh,q,en⟩:=q;cases b with
 | non =>
   obtain rfl:=a7I r2;refine c6p pins s σ H _ _ v u Q2 I rx ry ⟨rfl,?_⟩;rw[b9F r1];exact en _ _ M H Kp.refl hh a1M q
 | bl c =>
   cases a with
   | bl b =>
     obtain rfl:=a4G r1;obtain rfl:=a4G r2;cases rx;cases ry;exact c6K ⟨.bl _,H,I,rfl,en _ _ M H Kp.refl hh a1M q⟩
   |_=>exact q.elim
 |_=>exact q.elim
end
end L2
namespace L2
open PySem PySem.Spec PyProof.Rows LM
noncomputable def a4a(st:LSI)(k:Nat):LSI:=(st.set k (st.getD (k+1) 0)).set (k+1) (st.getD k 0)
theorem b4w(st:LSI)(l:Int)(h:1<=l.natAbs):a4a st (l.natAbs-1)=a5U st l:=by
 unfold a4a a5U;rw[show l.natAbs-1+1=l.natAbs by lia]
theorem b8r(st:LSI)(k:Nat)(h:k+1<st.length):st.take k++([st.getD (k+1) 0,st.getD k 0]++st.drop (k+2))=a4a st k:=by
 unfold a4a
 induction st generalizing k with
 |nil=>simp at h
 | cons x t ih =>
   cases k with
   | zero =>
     cases t with
     |nil=>simp at h
     |cons y t=>rfl
   | succ k =>
     have:=ih k (by simp at h;lia)
     simp only[List.take_succ_cons,d0j,List.drop_succ_cons,d4n,List.getD_cons_succ] at this|-
     rw[<- this]
noncomputable def isWd(n:Int)(w:LSI)(k:Int):Bool:=decide (1<=n)&&decide (n<=6)&&decide ((w.length:Int)<=k)&&w.all (b3L n)
theorem c4z(n:Int)(w:LSI):isWd n w 16=isPl n w:=by
 unfold isWd isPl;rw[show decide ((w.length:Int)<=16)=decide (w.length<=16) from decide_eq_decide.mpr (by lia)]
theorem b1U{n:Nat}(h:n<2^23):n<sizeLine:=c8D (by lia:n<=2^23) (by decide)
theorem b9w{n:Nat}(h:n<2^23):n<=sizeLine:=d0T (b1U h)
noncomputable def mkKs(l:Int):LSI:=[(l.natAbs:Int),(l.natAbs:Int)+1,-(l.natAbs:Int),-((l.natAbs:Int)+1)]
noncomputable def mkA(l:Int):LSI:=if l>0 then [(l.natAbs:Int),(l.natAbs:Int)+1,-(l.natAbs:Int)] else [(l.natAbs:Int)+1]
noncomputable def mkB(l:Int):LSI:=if l>0 then [(l.natAbs:Int)] else [-((l.natAbs:Int)+1),(l.natAbs:Int),(l.natAbs:Int)+1]
noncomputable def mkKv(l:Int):List (Key×T):=[(.inl (l.natAbs:Int),.tup ((mkA l).map .int)),(.inl ((l.natAbs:Int)+1),.tup ((mkB l).map .int)),(.inl (-(l.natAbs:Int)),.tup ((a0R (mkA l)).map .int)),(.inl (-((l.natAbs:Int)+1)),.tup ((a0R (mkB l)).map .int))]
theorem a8A{κ:Type}[DecidableEq κ](p:κ×T)(r:List (κ×T))(k:κ):valT (p::r) k=if p.1=k then some p.2 else valT r k:=by
 unfold valT;rw[c9h];by_cases c:p.1=k
 ·simp[c]
 ·simp[c]
theorem c6x(l x:Int):(valT (mkKv l) (.inl x)).getD (.tup ([x].map .int))=.tup ((mkL l x).map .int):=by
 unfold mkKv;simp only[a8A,d5M];unfold mkL;dsimp only;by_cases h1:x=(l.natAbs:Int)
 ·rw[if_pos h1.symm,if_pos h1];rfl
 ·rw[if_neg (fun z=>h1 z.symm),if_neg h1];by_cases h2:x=(l.natAbs:Int)+1
  ·rw[if_pos h2.symm,if_pos h2];rfl
  ·rw[if_neg (fun z=>h2 z.symm),if_neg h2];by_cases h3:x=-(l.natAbs:Int)
   ·rw[if_pos h3.symm,if_pos h3];rfl
   ·rw[if_neg (fun z=>h3 z.symm),if_neg h3];by_cases h4:x=-((l.natAbs:Int)+1)
    ·rw[if_pos h4.symm,if_pos h4];rfl
    ·rw[if_neg (fun z=>h4 z.symm),if_neg h4];rfl
theorem b7s(l:Int)(h:l≠0):(mkKs l).Nodup:=by
 unfold mkKs;simp;lia
theorem b6m{L:LSI}{i:Nat}{x:T}(h:(L.map T.int)[i]?=some x):∃l,L[i]?=some l/\x=.int l:=by
 obtain⟨l,a,b⟩:=a0r h;exact⟨l,a,b.symm⟩
theorem none_of{M M':MH}{p:Addr}(h:Sub M M')(hp:M' p=none):M p=none:=by
 cases q:M p with
 |none=>rfl
 |some o=>have:=h p o q;rw[hp] at this;cases this
theorem c0l{g:Int->LSI}{L:LSI}{i:Nat}{x:Int}(h:L[i]?=some x):(L.take (i+1)).flatMap g=(L.take i).flatMap g++g x:=by
 rw[c8Y,h,c9Q];simp
theorem plNZ{n:Int}{w:LSI}(ok:PlOK n w):∀l∈w,l≠0/\l.natAbs<1000:=fun l hl=>by
 have:=ok.2.2.2 l hl;have:=ok.2.1;unfold a1H at *;lia
theorem a3a{a:Int}{n i:Nat}{x:T}(h:(a0L a n)[i]?=some x):i<n/\x=.int (a+(i:Nat)):=by
 unfold a0L at h;rw[c8i] at h;cases q:(c8I n)[i]? with
 |none=>rw[q] at h;cases h
 | some k =>
   rw[q] at h;have hi:=(c8k.mp q).1;rw[c9u] at hi;rw[c9r hi] at q;cases q;exact⟨hi,(c8z h).symm⟩
noncomputable def a1A(u v:LSI):LSI->Option Int
 |[]=>none
 |j::js=>if imgL u j=imgL v j then a1A u v js else some j
noncomputable def a4M(n:Int)(u v:LSI):Option Int:=a1A u v ((c8I n.toNat).map fun i=>((i:Nat):Int)+1)
noncomputable def a4L(n:Int)(u v:LSI):T:=match a4M n u v with
 |none=>.non
 |some j=>.tup [.int j,.tup ((imgL u j).map .int),.tup ((imgL v j).map .int)]
theorem a4O{u v:LSI}:∀{js:LSI},(∀j∈js,imgL u j=imgL v j)->a1A u v js=none
 |[],_=>rfl
 | j::js,h=>by
   unfold a1A;rw[if_pos (h j c8r)];exact a4O fun k hk=>h k (c8m _ hk)
theorem a4N{u v:LSI}:∀{js:LSI} {i:Nat} {j:Int},js[i]?=some j->(∀k∈js.take i,imgL u k=imgL v k)->imgL u j≠imgL v j->a1A u v js=some j
 |[],i,j,h,_,_=>by simp at h
 | k::js,0,j,h,_,hne=>by
   simp at h;subst h;unfold a1A;rw[if_neg hne]
 | k::js,i+1,j,h,hk,hne=>by
   unfold a1A;rw[if_pos (hk k (by simp))];exact a4N (i:=i) (by simpa using h) (fun m hm=>hk m (by simp[hm])) hne
theorem b6y(xs:List T)(k:Int)(h0:0<=k):cutT xs none (some k)=xs.take k.toNat:=by
 unfold cutT;have e:k=((k.toNat:Nat):Int):=by lia
 rw[e,HT.sIx_nat,HT.sIx_none,d2w,d4L,d0a];by_cases h:k.toNat<=xs.length
 ·rw[d1y h]
 ·rw[d4Z (by lia),c9I (c8d _),c9I (by lia)]
theorem a1e(xs:List T)(k:Int)(h0:0<=k):cutT xs (some k) none=xs.drop k.toNat:=by
 unfold cutT;have e:k=((k.toNat:Nat):Int):=by lia
 rw[e,HT.sIx_nat,HT.sIx_none,d0a];by_cases h:k.toNat<=xs.length
 ·rw[d1y h,c9I (by rw[c9s];lia)]
 ·rw[d4Z (by lia),d2o,d5w,List.drop_of_length_le (by lia)]
noncomputable def gI(w:LSI)(k:Int):Int:=w.getD k.toNat 0
theorem c3f{A B:LSI}{x:Int}{a:Int}(h0:0<=a)(h:A.length=a.toNat):gI (A++x::B) a=x:=by
 unfold gI;rw[c8l,<- h,c8X (c8d _),d2o];rfl
theorem c4M{A B:LSI}{x y:Int}{a:Int}(h0:0<=a)(h:A.length=a.toNat):gI (A++x::y::B) (a+1)=y:=by
 have:A++x::y::B=(A++[x])++y::B:=by simp
 rw[this];exact c3f (by lia) (by simp;lia)
noncomputable def Sm(w:LSI):Prop:=w.length<=4000/\∀x∈w,x.natAbs<7
theorem c6W{w:LSI}{a:Int}(h0:0<=a)(h1:a<w.length):atI (w.map T.int) a=some (.int (gI w a)):=a8x w a h0 h1
theorem Sm.of{n:Int}{ws:LSI}(hl:ws.length<=4000)(h6:n<=6)(hw:a0S n ws):Sm ws:=⟨hl,fun x hx=>by
 have:=hw x hx;unfold a1H at this
 lia⟩
noncomputable def Sn:Nat->LSI->Nat
 |_,[]=>0
 |i,x::r=>i*x.toNat+Sn (i+1) r
theorem b4q(A B:LSI)(i:Nat):Sn i (A++B)=Sn i A+Sn (i+A.length) B:=by
 induction A generalizing i with
 |nil=>simp[Sn]
 | cons x A ih =>
   rw[d0j];show i*x.toNat+Sn (i+1) (A++B)=i*x.toNat+Sn (i+1) A+_;rw[ih,c8e,show i+1+A.length=i+(A.length+1) by lia];lia
noncomputable def IsP(n:Int)(r:LSI):Prop:=r.Perm (a0I n)
theorem IsP.nodup{n:Int}{r:LSI}(h:IsP n r):r.Nodup:=h.nodup_iff.mpr (a3t n)
theorem IsP.len{n:Int}{r:LSI}(h:IsP n r):r.length=n.toNat:=by rw[h.length_eq,a0J]
theorem IsP.mem{n x:Int}{r:LSI}(h:IsP n r):x∈r<->0<=x/\x<n:=by
 rw[h.mem_iff];exact⟨a1R,fun z=>a7B z.1 z.2⟩
noncomputable def begL(row:LSI)(l:Nat):LSI:=row.take (l-1)++[gI row l,gI row ((l:Int)-1)]++row.drop (l+1)
theorem b4P{row:LSI}{l:Nat}(h1:1<=l)(h2:l<row.length):∃A x y B,row=A++x::y::B/\A.length=l-1:=by
 refine⟨row.take (l-1),row[l-1],row[l],row.drop (l+1),?_,by rw[c9b];lia⟩;have e1:=d1J (l-1) row;rw[d1l (show l-1<row.length by lia),show l-1+1=l by lia,d1l h2] at e1;exact e1.symm
theorem b2B{A B:LSI}{x y:Int}{l:Nat}(h1:1<=l)(h:A.length=l-1):begL (A++x::y::B) l=A++y::x::B/\gI (A++x::y::B) ((l:Int)-1)=x/\gI (A++x::y::B) l=y:=by
 have g1:gI (A++x::y::B) ((l:Int)-1)=x:=c3f (by lia) (by lia)
 have g2:gI (A++x::y::B) l=y:=by
  have:=c4M (A:=A) (x:=x) (y:=y) (B:=B) (a:=(l:Int)-1) (by lia) (by lia);rw[show(l:Int)-1+1=l by lia] at this;exact this
 refine⟨?_,g1,g2⟩;unfold begL;rw[g1,g2,<- h,List.take_left];rw[show l+1=A.length+2 by lia,List.drop_append];simp
theorem c7h{A B:LSI}{x y:Int}(hx:0<=x)(hy:0<=y)(h:x>y)(i:Nat):Sn i (A++y::x::B)+y.toNat=Sn i (A++x::y::B)+x.toNat:=by
 rw[b4q,b4q];show Sn i A+((i+A.length)*y.toNat+((i+A.length+1)*x.toNat+Sn (i+A.length+1+1) B))+y.toNat=Sn i A+((i+A.length)*x.toNat+((i+A.length+1)*y.toNat+Sn (i+A.length+1+1) B))+x.toNat;rw[d1F (i+A.length) 1 x.toNat,d1F (i+A.length) 1 y.toNat];lia
theorem a2U(n:Int):a0L 0 n.toNat=(a0I n).map .int:=by
 unfold a0L a0I;rw[c9l];exact d0p fun i _=>by show T.int (0+(i:Nat))=T.int (i:Nat);rw[d2p]
noncomputable def tupT(r:LSI):T:=.tup (r.map .int)
theorem b8c{R:LLI}{i:Nat}(h:i<R.length):atI (R.map tupT) (i:Nat)=some (tupT (R.getD i [])):=by
 refine a3L ?_;rw[c8i,c8l,c8b h];rfl
theorem getD_mem{R:LLI}{i:Nat}(h:i<R.length):R.getD i []∈R:=by
 rw[c8l,c8b h];exact c9B h
theorem b0l{row:LSI}{l:Nat}(h1:1<=l)(h2:l<row.length):a4a row (l-1)=begL row l:=by
 obtain⟨A,x,y,B,rfl,hA⟩:=b4P h1 h2;rw[(b2B (x:=x) (y:=y) (B:=B) h1 hA).1];unfold a4a
 have e1:(A++x::y::B).getD (l-1) 0=x:=by
  rw[c8l,<- hA,c8X (c8d _),d2o];rfl
 have e2:(A++x::y::B).getD (l-1+1) 0=y:=by
  rw[c8l,<- hA,c8X (by lia),show A.length+1-A.length=1 by lia];rfl
 rw[e1,e2,<- hA,d3q _ _ (c8d _),d2o,d3q _ _ (by lia),show A.length+1-A.length=1 by lia];rfl
noncomputable def dsB(row:LSI)(l:Nat):Bool:=decide (gI row ((l:Int)-1)>gI row l)
theorem c7g{B:Nat}:∀(L:LSI) (i:Nat),(∀x∈L,x.toNat<=B)->Sn i L<=(i+L.length)*B*L.length
 |[],i,_=>c9j _
 | x::L,i,h=>by
   have ih:=c7g L (i+1) fun y hy=>h y (by simp[hy]);have hx:=h x (by simp);show i*x.toNat+Sn (i+1) L<=(i+(L.length+1))*B*(L.length+1);rw[show i+(L.length+1)=i+1+L.length by lia,d2n];have h1:i*x.toNat<=(i+1+L.length)*B:=d1m (by lia) hx;lia
theorem b6G{n:Int}{row:LSI}(h:IsP n row)(h6:n<=6):Sn 0 row<=216:=by
 have hl:=h.len;have h1:=c7g (B:=6) row 0 fun x hx=>by have:=h.mem.mp hx;lia
 have h2:(0+row.length)*6*row.length<=6*6*6:=d1m (d1m (by lia) (c8d _)) (by lia);lia
theorem c4Y{n:Int}{row:LSI}{l:Nat}(h:IsP n row)(h1:1<=l)(h2:l<row.length):IsP n (begL row l):=by
 obtain⟨A,x,y,B,rfl,hA⟩:=b4P h1 h2;rw[(b2B (x:=x) (y:=y) (B:=B) h1 hA).1];refine List.Perm.trans (List.perm_iff_count.mpr fun z=>?_) h;simp only[List.count_append,d5r];lia
theorem c7b{n:Int}{row:LSI}{l:Nat}(h:IsP n row)(h1:1<=l)(h2:l<row.length)(hd:dsB row l=true):Sn 0 row<Sn 0 (begL row l):=by
 obtain⟨A,x,y,B,rfl,hA⟩:=b4P h1 h2;obtain⟨b1,b2,b3⟩:=b2B (x:=x) (y:=y) (B:=B) h1 hA;unfold dsB at hd;rw[b2,b3,decide_eq_true_eq] at hd;rw[b1];have hx:=h.mem.mp (show x∈A++x::y::B by simp);have hy:=h.mem.mp (show y∈A++x::y::B by simp);have:=c7h (A:=A) (B:=B) hx.1 hy.1 hd 0;lia
theorem c2Z{n:Int}{L:LSI}(h1:L.Nodup)(h2:∀x,x∈L<->0<=x/\x<n):IsP n L :=
 (List.perm_ext_iff_of_nodup h1 (a3t n)).mpr fun a=>(h2 a).trans ⟨fun z=>a7B z.1 z.2,a1R⟩
noncomputable def invO(ws:LSI):LSI:=(a0I ws.length).map fun s=>((ws.idxOf s:Nat):Int)
theorem c4B{ws:LSI}{a b:Int}(h1:a∈ws)(h2:b∈ws)(h:ws.idxOf a=ws.idxOf b):a=b:=by
 have e1:=d4o (d0Y h1);have e2:=d4o (d0Y h2);exact e1.symm.trans ((getElem_congr_idx h).trans e2)
theorem b9M{n:Int}{ws:LSI}(h0:0<=n)(h:IsP n ws):IsP n (invO ws):=by
 have hl:=h.len;have el:((ws.length:Nat):Int)=n:=by lia
 unfold invO;rw[el];refine c2Z ?_ fun x=>?_
 ·unfold d5G;rw[c9n];refine List.Pairwise.imp_of_mem (fun {a b} ha hb hab z=>?_) (a3t n);exact hab (c4B (h.mem.mpr (a1R ha)) (h.mem.mpr (a1R hb)) (by lia))
 ·rw[c8q];constructor
  ·rintro⟨a,ha,rfl⟩;have:=d0Y (h.mem.mpr (a1R ha));lia
  ·rintro⟨h1,h2⟩;have hx:x.toNat<ws.length:=by lia
   refine⟨ws[x.toNat],?_,?_⟩
   ·have:=h.mem.mp (c9B hx);exact a7B this.1 this.2
   ·rw[h.nodup.idxOf_getElem _ hx];lia
noncomputable def flO(n:Int)(ws:LSI):LSI:=ws.reverse.map fun x=>n-1-x
theorem c3g{n:Int}{ws:LSI}(h:IsP n ws):IsP n (flO n ws):=by
 unfold flO;refine c2Z ?_ fun x=>?_
 ·unfold d5G;rw[c9n,List.pairwise_reverse];exact List.Pairwise.imp (fun {a b} hab z=>hab (by lia)) h.nodup
 ·rw[c8q];constructor
  ·rintro⟨a,ha,rfl⟩;have:=h.mem.mp (d2Z.mp ha);lia
  ·rintro⟨h1,h2⟩;exact⟨n-1-x,List.mem_reverse.mpr (h.mem.mpr (by lia)),by lia⟩
theorem a8o{n:Int}{row:LSI}{k:Nat}(h:IsP n row)(h2:k+1<row.length):IsP n (a4a row k):=by
 have:=b0l (row:=row) (l:=k+1) (by lia) h2;rw[d2q] at this;rw[this];exact c4Y h (by lia) h2
theorem a0j{a b:TS3}{D:Ends3}{ρ:En}{M:MH}(h:∀K:En->MH->Prop,K=b D->a { D with nx:=K } ρ M):a3Z a b D ρ M:=h _ rfl
theorem b1m{a b c:TS3}{D:Ends3}{ρ:En}{M:MH}(h:∀K:En->MH->Prop,K=c D->a3Z a b { D with nx:=K } ρ M):a3Z a (a3Z b c) D ρ M:=h _ rfl
theorem b1l{a b c d:TS3}{D:Ends3}{ρ:En}{M:MH}(h:∀K:En->MH->Prop,K=d D->a3Z a (a3Z b c) { D with nx:=K } ρ M):a3Z a (a3Z b (a3Z c d)) D ρ M:=h _ rfl
theorem b1k{a b c d e:TS3}{D:Ends3}{ρ:En}{M:MH}(h:∀K:En->MH->Prop,K=e D->a3Z a (a3Z b (a3Z c d)) { D with nx:=K } ρ M):a3Z a (a3Z b (a3Z c (a3Z d e))) D ρ M:=h _ rfl
theorem a6y{u v:LSI}:∀{js:LSI} {j:Int},a1A u v js=some j->j∈js/\imgL u j≠imgL v j
 |[],_,h=>nomatch h
 | k::js,j,h=>by
   unfold a1A at h;by_cases c:imgL u k=imgL v k
   ·rw[if_pos c] at h;obtain⟨a,b⟩:=a6y h;exact⟨c8m _ a,b⟩
   ·rw[if_neg c] at h;cases h;exact⟨c8r,c⟩
theorem a7W{n j:Int}{u v:LSI}(h:a4M n u v=some j):1<=j/\j<=n/\¬imgL u j=imgL v j:=by
 obtain⟨a,b⟩:=a6y h;obtain⟨i,hi,rfl⟩:=c8q.mp a;have:=c9U.mp hi;exact⟨by lia,by lia,b⟩
noncomputable def okR(n:Int)(R:LLI):Prop:=∀r∈R,IsP n r
noncomputable def ordF(n l:Int):LSI:=if l>0 then a4a (a0I n) (l-1).toNat else a4a (a0I n).reverse (n+l-1).toNat
noncomputable def flp(n:Int)(s:Nat)(r:LSI):LSI:=if s%2=1 then flO n r else r
noncomputable def negs(ws:LSI):Nat:=(ws.filter fun l=>decide (l<0)).length
theorem a8V{ws:LSI}{i:Nat}{l:Int}(h:ws[i]?=some l):negs (ws.take (i+1))=negs (ws.take i)+if l<0 then 1 else 0:=by
 unfold negs;rw[List.take_succ,h,d1A,c8p];by_cases c:l<0
 ·rw[if_pos c,show(some l).toList=[l] from rfl,d2T (by simpa using c)];rfl
 ·rw[if_neg c,show(some l).toList=[l] from rfl,d2U (by simpa using c)];rfl
theorem b0A(ws:LSI)(i:Nat):negs ws=negs (ws.take i)+negs (ws.drop i):=by
 have:=congrArg negs (d1J i ws)
 unfold negs at this|-
 rw[<- this,d1A,c8p]
theorem b9n{ws:LSI}{i:Nat}{l:Int}(h:ws[i]?=some l):negs (ws.drop i)=negs (ws.drop (i+1))+if l<0 then 1 else 0:=by
 have a:=b0A ws i;have b:=b0A ws (i+1);rw[a8V h] at b;lia
noncomputable abbrev PR:=Int×List (LSI)
section
variable{n:Int}(h6:n<=6)
include h6
end
noncomputable def frT(f:PR):T:=.tup [.int f.1,.tup (f.2.map tupT)]
section
variable{n:Int}
end
section
variable{n:Int}
end
section
variable{n:Int}
end
end L2
namespace L2
open PySem PySem.Spec PyProof.Rows
noncomputable def b0u(hi:Int)(n:Nat):List T:=(c8I n).map fun i=>T.int (hi-(i:Nat))
section
variable{X:Cx}{a b c:Expr}{t:TA3}{pos:Pos}
theorem c7j:∀{x y z:V} {us:LSV},Vals [x,y,z] us->∃u v w,us=[u,v,w]/\RelV x u/\RelV y v/\RelV z w
 |_,_,_,_,.cons r (.cons q (.cons k .nil))=>⟨_,_,_,rfl,r,q,k⟩
theorem c7u{K:PySem.W.Frag}{H:Hp}{vs:List V}{x y z:T}(r:Reps K H vs [x,y,z]):∃u v w,vs=[u,v,w]/\Rep K H u x/\Rep K H v y/\Rep K H w z:=by
 unfold Reps at r;obtain⟨v,r',rfl,h,r⟩:=r;obtain⟨u,w,rfl,h',h''⟩:=c1l r;exact⟨v,u,w,rfl,h,h',h''⟩
noncomputable def c4C(t:TA3):TI3:=fun ρ M R=>t ρ M fun xs M1=>match xs with
 |[.int i,.int j,.int s]=>(s=-1/\-(2^62)<=i/\i<2^62/\-(2^62)<=j/\j<2^62)/\R ⟨b0u i (i-j).toNat,fun _=>True⟩ M1
 |_=>False
noncomputable def c2L(t:TA3):TE3:=fun ρ M Q=>t ρ M fun xs M1=>match xs with
 |[.int i,.int j,.int s]=>(s=-1/\-(2^62)<=i/\i<2^62/\-(2^62)<=j/\j<2^62/\i-j<2^24)/\Q (.tup (b0u i (i-j).toNat)) M1
 |_=>False
noncomputable def a3J(hi:Int)(n:Nat):List V:=(c8I n).map fun i=>V.int (hi-(i:Nat))
theorem b3g{K:PySem.W.Frag}{H:Hp}(hi:Int)(n:Nat):Reps K H (a3J hi n) (b0u hi n):=by
 unfold a3J b0u
 induction c8I n with
 |nil=>unfold Reps;rfl
 | cons i l ih =>
   unfold Reps;exact⟨_,_,rfl,a0x,ih⟩
theorem b5g{t:TA3}{p p' pos':Pos}(hm:X.mg "tuple"=none)(hm':X.mg "range"=none)(ha:HA X [a,b,c] t)(hc:X.calm=true:=by rfl)(hg:Gl X "tuple":=by rfl)(hg':Gl X "range":=by rfl)(hs:starEach [a,b,c] X.env=[(false,eval a X.env),(false,eval b X.env),(false,eval c X.env)]:=by rfl)(hs2:starEach [b,c] X.env=[(false,eval b X.env),(false,eval c X.env)]:=by rfl)
  (he:starEach [.Call (.Name "range" p') [a,b,c] [] pos'] X.env=(false,eval (.Call (.Name "range" p') [a,b,c] [] pos') X.env)::starEach [] X.env:=by rfl) :
  HE X (.Call (.Name "tuple" p) [.Call (.Name "range" p') [a,b,c] [] pos'] [] pos) (c2L t):=by
 intro ρ M Q h pins s σ H Q2 I bb;obtain⟨hr,hh,en⟩:=bb;refine c9o (a2Q I hg hm c8W ?_ (by decide) (by decide));refine c8H ?_ he rfl;rw[he];refine c9E ?_
 refine d6e (a2Q I hg' hm' d2A (c8H (thn (ha ρ M _ h pos' pins s σ H (fun vs H1=>∃i j M1,vs=[V.int i,V.int j,V.int (-1)]/\HR X.K H1 M1/\Kp X.K H H1/\(-(2^62)<=i/\i<2^62/\-(2^62)<=j/\j<2^62/\i-j<2^24)/\Q (.tup (b0u i (i-j).toNat)) M1) I
  ⟨hr,hh,fun ts vs M1 H1 k1 h1 r1 q1=>by
   dsimp only at q1;split at q1
   ·rename_i i j s;obtain⟨v,w',z',rfl,rv,rw',rz⟩:=c7u r1;obtain rfl:=a0v rv;obtain rfl:=a0v rw';obtain rfl:=a0v rz;obtain⟨⟨rfl,q2⟩,q3⟩:=q1;exact⟨i,j,M1,rfl,h1,k1,q2,q3⟩
   ·exact q1.elim⟩) fun us s1 ⟨vs,H1,I1,rv,i,j,M1,e1,h1,k1,hj,q1⟩=>?_) (by rw[hs,hs2]) (by rw[hs2];rfl)))
 subst e1;obtain⟨u,u2,u3,rfl,⟨t0,rfl⟩,⟨t',rfl⟩,t'',rfl⟩:=c7j rv;refine call_range_3 (by decide) (c9Z ?_);have I2:Inv X pins σ H1 { s1 with heap:=s1.heap.push { cls:=.type "range",data:=.fields #[.int i t0,.int j t',.int (-1) t''] },toks:=s1.toks }:=I1.kept fun b o e=>c8h _ e;have hn:c9f i j (-1)=(((i-j).toNat:Nat):Int):=PySem.W.rangeSize_downNat i j;refine a3X (I1.ok.hd hc) (d2P ..) (PySem.W.small_down (by lia) (by lia) (by lia) (by lia)) hn (by lia) fun h' tk acc' kp ito=>?_;have hz:(i-j).toNat<=sizeLine:=by rw[c9z];lia
 have vr:Vals (a3J i (i-j).toNat) acc'.toList:=by
  refine a3b (by unfold a3J;simp[ito.1]) fun k x ex=>?_;have hi:k<(i-j).toNat:=by have:=(c8k.mp ex).1;simpa [a3J] using this
  have hi':k<acc'.size:=by rw[ito.1];exact hi
  have ea:acc'[k]?=some acc'[k]:=c9M hi';obtain⟨tt,et⟩:=ito.2 k _ ea;refine⟨acc'[k],by rw[c9p];exact ea,?_⟩;unfold a3J at ex;rw[c8i,c9r hi] at ex;have:=c8z ex;subst this;exact⟨tt,by rw[et];congr 1;lia⟩
 have I2':Inv X pins σ H1 { s1 with heap:=h',toks:=tk }:=I2.kept (h':=h') (t':=tk) kp;have eacc:acc'.toList.toArray=acc':=by simp
 have I3:Inv X pins σ (upd H1 h'.objs.size (.tup (a3J i (i-j).toNat))) { s1 with heap:=h'.push { cls:=.type "tuple",data:=.seq acc' },toks:=tk } :=
  I2'.laid (t':=tk) (fun b o e=>c8h _ e) (c8d _) (show a1d X.prog X.w _ _ _ (.tup (a3J i (i-j).toNat)) from
   ⟨by unfold a3J;simpa using hz,acc'.toList,vr,by rw[eacc];exact a3m.new _ _⟩)
 have hf:=I2'.hok.fresh (c8d _);have nw:=Kp.new (K:=X.K) (H:=H1) (o:=.tup (a3J i (i-j).toNat)) hf;exact⟨.ref h'.objs.size,_,I3,rfl,en _ _ _ _ (k1.trans nw) (h1.keep hf) (a2d (SqT.of a0O) (b3g i (i-j).toNat)) q1⟩
end
noncomputable def Itlr(K:PySem.W.Frag)(a:Addr)(n:Nat):It :=
 ⟨fun i H=>i<n/\∃xs,SqL K H a xs/\xs.length=n,fun i H x H'=>H'=H/\∀xs,SqL K H a xs->xs.reverse[i]?=some x,fun i H=>i=n⟩
theorem b7Z{P:c8G}{w:c9d}{K:PySem.W.Frag}{tg:Expr}(a it:Addr)(n:Nat):Turn P w K tg (Itlr K a n) [it] it (fun i h=>d5x h it a ((n:Int)-1-(i:Int))) where
 mem:=by simp
 obj:=fun i h st b hb=>by
  have e:b=it:=by simpa using hb
  subst e;obtain⟨o,e,c,d⟩:=st;exact⟨o,e,fun v z=>by rw[d] at z;cases z⟩
 keep:=fun i h h' st k=>st.at fun o e=>k it (by simp) o e
 item:=by
  intro X hP hw hK hc i pins s σ H E I hf st hg;subst hP hw hK;obtain⟨hi,xs,hq,hxn⟩:=hg;subst hxn;obtain⟨its,rv,p,hz⟩:=I.list hq;have hl:=rv.length;obtain⟨x,hx'⟩:∃x,xs[xs.length-1-i]?=some x:=⟨_,c8b (by lia)⟩;obtain⟨u,hu,ru⟩:=rv.get hx';obtain⟨f0,f1,f2,f3,f4,f5⟩:=hf it (by simp);have e1:(xs.length:Int)-1-(i:Int)=((xs.length-1-i:Nat):Int):=by lia
  rw[e1] at st;refine wpAny_pyNext_rev_item st p.isList (x:=u) (by simpa using hu) fun h' st' sb=>?_;have I1:Inv X pins σ H { s with heap:=h' }:=I.turned (t':=s.toks) (fun b o hb e=>(sb.2 b hb).trans e) f0 f1 f3 f4 f5;have e2:((xs.length-1-i:Nat):Int)-1=(xs.length:Int)-1-((i+1:Nat):Int):=by lia
  rw[e2] at st';obtain⟨o,e,c,d⟩:=id st';exact⟨u,rfl,b7D (s:={ s with heap:=h' }) e c d (by decide) ⟨x,H,I1,ru,⟨rfl,fun ys hy=>by rw[I.list_inj hy hq,c9T hi];exact hx'⟩,st',fun b hb=>(hf b hb).1⟩⟩
 done:=by
  intro X hP hw hK hc i pins s σ H E I hf st hg;subst hP hw hK;have hg':i=n:=hg;subst hg';obtain⟨f0,f1,f2,f3,f4,f5⟩:=hf it (by simp);have e1:(i:Int)-1-(i:Int)=-1:=by lia
  rw[e1] at st;exact wpAny_pyNext_rev_end (I.ok.hd hc) st fun h' eb=>⟨rfl,I.turned (t':=s.toks) (fun b o hb e=>eb b o hb e) f0 f1 f3 f4 f5⟩
 self:=fun _ _ _ _ _ st h=>d3E st h
section
variable{X:Cx}
theorem b9D{K:PySem.W.Frag}{H:Hp}{a:Addr}{ts:List T}:ItOk K H (Itlr K a ts.length) ⟨ts.reverse,fun M'=>M' a=some (.lst ts)⟩:=by
 refine⟨fun H' M' k hh st=>by show ts.reverse.length=_;rw[c9c],fun i x H' M' e k hh st=>?_⟩;have e':ts.reverse[i]?=some x:=e;have hi:i<ts.length:=by have:=(c8k.mp e').1;simpa using this
 rw[c9T hi] at e';obtain⟨xs,g1,g2⟩:=hh _ _ st;have hl:=g2.length;obtain⟨v,e1,r1⟩:=g2.get e';refine⟨⟨hi,xs,SqL.of g1,hl⟩,fun v' H'' y=>?_⟩;obtain⟨rfl,y⟩:=y;have y2:=y xs (SqL.of g1);rw[c9T (by lia),hl,e1] at y2;cases y2;exact⟨Kp.refl,hh,r1⟩
noncomputable def c6Q(tl:TE3):TI3:=fun ρ M R=>tl ρ M fun x M1=>match x with
 |.tup ts=>R ⟨ts.reverse,fun _=>True⟩ M1
 |.adr p=>(match M1 p with|some (.lst ts)=>R ⟨ts.reverse,fun M'=>M' p=some (.lst ts)⟩ M1|_=>False)
 |_=>False
theorem a9h{tg l:Expr}{tl:TE3}{p:Pos}(hm:X.mg "reversed"=none)(hl:HE X l tl)(hg:Gl X "reversed":=by rfl)(hs:starEach [l] X.env=[(false,eval l X.env)]:=by rfl):HI X tg (.Call (.Name "reversed" p) [l] [] pos) (c6Q tl):=by
 intro ρ M R h pins s σ H R2 I b;obtain⟨hr,hh,en⟩:=b;have pa:=a8S (X:=X) (hl.d (ρ:=ρ)) b5W hs
 refine d6e (a2Q I hg hm PyProof.Rows.boot_reversed (c8H (thn (pa pos pins s σ H (fun vs H1=>∃v t M1,vs=[v]/\Kp X.K H H1/\HR X.K H1 M1/\Rep X.K H1 v t/\(match t with
  |.tup ts=>R ⟨ts.reverse,fun _=>True⟩ M1
  |.adr p=>(match M1 p with|some (.lst ts)=>R ⟨ts.reverse,fun M'=>M' p=some (.lst ts)⟩ M1|_=>False)
  |_=>False)) I ⟨M,_,h,hr,hh,fun t v M1 H1 k1 h1 r1 q1=>⟨v,t,M1,rfl,k1,h1,r1,q1⟩⟩) fun us s1 ⟨vs,H1,I1,r1,v,t,M1,e,k1,h1,rt,q1⟩=>?_) hs rfl))
 subst e;cases r1 with
 | cons r rr =>
   cases rr;split at q1
   ·rename_i ts;obtain⟨a,xs,rfl,g1,g2⟩:=a1n rt;cases r;obtain⟨its,rv,p,hz⟩:=I1.tuple g1;have hlen:=rv.length;refine b0g p (by simp;lia) fun h' tk kk e=>?_;refine b6h (s:={ s1 with heap:=h',toks:=tk }) e ?_;refine⟨s1.heap.objs.size,[s1.heap.objs.size],_,_,H1,rfl,I1.kept (t':=tk) kk,c0V a _ xs,?_,fun b hb=>?_,en _ _ M1 H1 k1 h1 (c2c g1 g2) q1⟩
    ·have e3:((its.toArray.size:Nat):Int)-1=(xs.length:Int)-1-((0:Nat):Int):=by
      have:its.toArray.size=its.length:=by simp
      lia
     rw[e3] at e;exact e
    ·have e:b=s1.heap.objs.size:=by simpa using hb
     subst e;exact I1.fpOk (c8d _) (I1.hok.fresh (c8d _))
   ·rename_i a;obtain rfl:=a0q rt;cases r;split at q1
    ·rename_i ts e0;obtain⟨xs,g1,g2⟩:=h1 _ _ e0;obtain⟨its,rv,p,hz⟩:=I1.list (SqL.of g1);have hlen:=rv.length;have hl2:=g2.length;refine call_reversed_list p.isList ?_;have st0:d5x (s1.heap.push (revObj a ((its.toArray.size:Int)-1))) s1.heap.objs.size a ((its.toArray.size:Int)-1):=⟨_,c8E _ rfl,rfl,rfl⟩;refine d3E (s:={ s1 with heap:=s1.heap.push (revObj a ((its.toArray.size:Int)-1)) }) st0 ?_;refine⟨s1.heap.objs.size,[s1.heap.objs.size],_,_,H1,rfl,I1.kept (t':=s1.toks) fun b o e=>c8h _ e,b7Z a _ ts.length,?_,fun b hb=>?_,en _ _ M1 H1 k1 h1 b9D q1⟩
     ·have e3:((its.toArray.size:Nat):Int)-1=(ts.length:Int)-1-((0:Nat):Int):=by
       have:its.toArray.size=its.length:=by simp
       lia
      rw[e3] at st0|-
      exact st0
     ·have e:b=s1.heap.objs.size:=by simpa using hb
      subst e;exact I1.fpOk (c8d _) (I1.hok.fresh (c8d _))
    ·exact q1.elim
   ·exact q1.elim
end
theorem Inv.turnNew{X:Cx}{pins:PNS}{σ:St}{H:Hp}{s:c8u}{h':Heap}{t':Nat}{e it T:Addr}{xs:List V}(I:Inv X pins σ H s)(fe:FpOk X pins H e)(fi:FpOk X pins H it)
  (k:∀b o,b≠e->b≠it->s.heap.get? b=some o->h'.get? b=some o) (hT:s.heap.objs.size<=T) (new:a1d X.prog X.w (upd H T (.tup xs)) h' T (.tup xs)) :
  Inv X pins σ (upd H T (.tup xs)) { s with heap:=h',toks:=t' }:=by
 have hn:H T=none:=I.hok.fresh hT;have ne:∀b u,H b=some u->b≠e/\b≠it:=fun b u q=>⟨fun z=>(by rw[z,fe.1] at q;cases q),fun z=>(by rw[z,fi.1] at q;cases q)⟩;have nc:∀{b:Addr},b∉[e,it]->b≠e/\b≠it:=fun hc=>⟨fun z=>hc (by simp[z]),fun z=>hc (by simp[z])⟩;refine I.step (g':=s.gens) (d':=s.drawn) (ch:=[e,it]) (fun b hb=>?_) (fun b o _ _ hc q _=>k b o (nc hc).1 (nc hc).2 q) (fun b o _ _ hc q _=>⟨o.slots,k b o (nc hc).1 (nc hc).2 q⟩)
  (fun b o _ q n=>by rw[a0B (c8P (c8w (c8o q) hT))];exact n)
  (fun b o hc q=>⟨o,k b o (nc hc).1 (nc hc).2 q⟩) (fun b xs q=>by rw[a0B (a0A q hn)];exact q) (fun b o u q=>by rw[a0B (a0A q hn)];exact q) (fun b ps q=>⟨#[],by rw[a0B (a0A q hn),q];simp⟩) (fun m hm=>?_) (fun b u q=>?_) I.bare
 ·have z:b=e\/b=it:=by simpa using hb
  rcases z with rfl|rfl
  ·exact⟨fe.2.2.2.1,fe.2.1,fe.2.2.2.2.1,fe.2.2.2.2.2⟩
  ·exact⟨fi.2.2.2.1,fi.2.1,fi.2.2.2.2.1,fi.2.2.2.2.2⟩
 ·obtain⟨o,es,ep,ho,r⟩:=hm;exact⟨o,es,ep,k _ o (d1u fe.2.1) (d1u fi.2.1) ho,r⟩
 ·by_cases hb:b=T
  ·subst hb;rw[a0O] at q;cases q;exact new
  ·rw[a0B hb] at q;refine(I.hok b u q).stay (fun c v hc z=>?_) (fun c z=>by rw[a0B (a0A z hn)];exact z) fun c xs z=>by rw[a0B (a0A z hn)];exact z
   rcases hc with y|y
   ·rw[y] at z|-;exact k b v (ne b u q).1 (ne b u q).2 z
   ·exact k c v (ne c _ y).1 (ne c _ y).2 z
noncomputable def Iten(K:PySem.W.Frag)(a:Addr)(n:Nat):It :=
 ⟨fun i H=>i<n/\∃xs,SqL K H a xs/\xs.length=n,fun i H x H'=>∃T y,x=.ref T/\H T=none/\H'=upd H T (.tup [.int i,y])/\∀xs,SqL K H a xs->xs[i]?=some y,fun i H=>i=n/\∃xs,SqL K H a xs/\xs.length=n⟩
theorem b8b{P:c8G}{w:c9d}{K:PySem.W.Frag}{es:LSE}{x1}{tp:Pos}(a e it:Addr)(n:Nat)(hne:e≠it):Turn P w K (.Tuple es x1 tp) (Iten K a n) [e,it] e (fun i h=>(∃old,IsEnum h e it (i:Int) old)/\Heap.IsListIter h it a i) where
 mem:=by simp
 obj:=fun i h st b hb=>by
  obtain⟨⟨old,he⟩,hit⟩:=st;have z:b=e\/b=it:=by simpa using hb
  rcases z with rfl|rfl
  ·exact⟨_,he,fun v z=>by cases z⟩
  ·obtain⟨o,q,c,d⟩:=hit;exact⟨o,q,fun v z=>by rw[d] at z;cases z⟩
 keep:=fun i h h' st k=>by
  obtain⟨⟨old,he⟩,hit⟩:=st;exact⟨⟨old,k e (by simp) _ he⟩,hit.at fun o q=>k it (by simp) o q⟩
 item:=by
  intro X hP hw hK hc i pins s σ H E I hf st hg;subst hP hw hK;obtain⟨⟨old,he⟩,hit⟩:=st;obtain⟨hi,xs,hq,hxn⟩:=hg;subst hxn;obtain⟨its,rv,p,hz⟩:=I.list hq;obtain⟨x,hx⟩:∃x,xs[i]?=some x:=⟨_,c8b hi⟩;obtain⟨u,hu,ru⟩:=rv.get hx;have fe:=hf e (by simp);have fi:=hf it (by simp);refine wpAny_pyNext_enum_item he hit p.isList (x:=u) (by simpa using hu) hne fun h1 ho hit1 hT hsz hk=>?_;refine⟨_,rfl,wpAny_letOwnedTupleGo_enum ho fun h2 he2 hs2=>?_⟩;have neT:s.heap.objs.size≠e:=d0G (c8o he);have k2:∀b o,b≠e->b≠it->s.heap.get? b=some o->h2.get? b=some o:=fun b o h3 h4 q=>(hs2.2 b h3).trans (hk b o h3 h4 q);have hT2:h2.get? s.heap.objs.size=some { cls:=.type "tuple",data:=.seq #[.int i s.toks,u] }:=(hs2.2 _ neT).trans hT;have hn:H s.heap.objs.size=none:=I.hok.fresh (c8d _);have I2:Inv X pins σ (upd H s.heap.objs.size (.tup [.int i,x])) { s with heap:=h2,toks:=s.toks+1 }:=I.turnNew fe fi k2 (c8d _)
   ⟨by simp only[c8e,c9L];rw[c9z];decide,[.int i s.toks,u],.cons ⟨_,rfl⟩ (.cons ru .nil),_,hT2,rfl,rfl,_,rfl⟩
  refine⟨.ref s.heap.objs.size,_,I2,rfl,⟨_,x,rfl,hn,rfl,fun ys hy=>by rw[I.list_inj hy hq];exact hx⟩,⟨⟨_,he2⟩,hit1.at fun o q=>(hs2.2 it hne.symm).trans q⟩,fun b hb=>?_⟩;have z:b=e\/b=it:=by simpa using hb
  have hb':b<s.heap.objs.size:=by
   rcases z with rfl|rfl
   ·exact c8o he
   ·obtain⟨o,q,_⟩:=hit;exact c8o q
  rw[a0B (c8P hb')];exact(hf b hb).1
 done:=by
  intro X hP hw hK hc i pins s σ H E I hf st hg;subst hP hw hK;obtain⟨⟨old,he⟩,hit⟩:=st;obtain⟨hi,xs,hq,hxn⟩:=hg;subst hi;obtain⟨its,rv,p,hz⟩:=I.list hq;have hl:=rv.length;obtain⟨f0,f1,f2,f3,f4,f5⟩:=hf it (by simp);exact wpAny_pyNext_enum_end (I.ok.hd hc) he hit p.isList (Array.getElem?_eq_none (by simp;lia)) fun h' eb=>⟨rfl,I.turned (t':=s.toks) (fun b o hb e=>eb b o hb e) f0 f1 f3 f4 f5⟩
 self:=fun A i s Q E st h=>by
  obtain⟨⟨old,he⟩,_⟩:=st;exact d4B he h
theorem a5o{i:TI3}{g:TG3}{b:TS3}{D:Ends3}{ρ:En}{M:MH}(h:∀B:TS3,B=b->a8e i g B D ρ M):a8e i g b D ρ M:=h _ rfl
section
variable{X:Cx}
noncomputable def enT(ts:List T):List T:=(c8I ts.length).map fun i=>.tup [.int (i:Nat),ts.getD i .non]
theorem a7O(ts:List T):(enT ts).length=ts.length:=by unfold enT;rw[c8a,c9u]
theorem c0q{ts:List T}{i:Nat}{x:T}(h:(enT ts)[i]?=some x):∃t,ts[i]?=some t/\x=.tup [.int i,t]:=by
 have hi:i<ts.length:=by have:=(c8k.mp h).1;rwa [a7O] at this
 unfold enT at h;rw[c8i,c9r hi] at h;refine⟨ts[i],c8b hi,?_⟩;have e:ts.getD i .non=ts[i]:=by rw[c8l,c8b hi];rfl
 rw[<- e];exact(c8z h).symm
theorem b9E{K:PySem.W.Frag}{H:Hp}{a:Addr}{ts:List T}:ItOk K H (Iten K a ts.length) ⟨enT ts,fun M'=>M' a=some (.lst ts)⟩:=by
 refine⟨fun H' M' k hh st=>?_,fun i x H' M' e k hh st=>?_⟩
 ·obtain⟨xs,g1,g2⟩:=hh _ _ st;exact⟨by show(enT ts).length=_;rw[a7O],xs,SqL.of g1,g2.length⟩
 ·obtain⟨t,ht,rfl⟩:=c0q e;obtain⟨xs,g1,g2⟩:=hh _ _ st;obtain⟨v,e1,r1⟩:=g2.get ht;refine⟨⟨(c8k.mp ht).1,xs,SqL.of g1,g2.length⟩,fun v' H'' y=>?_⟩;obtain⟨p,y,rfl,hn,rfl,hy⟩:=y;have e2:=hy xs (SqL.of g1);rw[e1] at e2;cases e2;refine⟨Kp.new hn,hh.keep hn,a2d (SqT.of a0O) ?_⟩;unfold Reps;refine⟨_,_,rfl,a0x,?_⟩;unfold Reps;refine⟨_,_,rfl,Rep.kp (Kp.new hn) _ _ r1,?_⟩;unfold Reps;rfl
noncomputable def c6R(tl:TE3):TI3:=fun ρ M R=>tl ρ M fun x M1=>match x with
 |.adr p=>(match M1 p with|some (.lst ts)=>R ⟨enT ts,fun M'=>M' p=some (.lst ts)⟩ M1|_=>False)
 |_=>False
theorem c6N{es:LSE}{x1}{tp pos:Pos}{l:Expr}{tl:TE3}{p:Pos}(hm:X.mg "enumerate"=none)(hl:HE X l tl)(hg:Gl X "enumerate":=by rfl)(hs:starEach [l] X.env=[(false,eval l X.env)]:=by rfl):HI X (.Tuple es x1 tp) (.Call (.Name "enumerate" p) [l] [] pos) (c6R tl):=by
 intro ρ M R h pins s σ H R2 I b;obtain⟨hr,hh,en⟩:=b;have pa:=a8S (X:=X) (hl.d (ρ:=ρ)) b5W hs
 refine d6e (a2Q I hg hm PyProof.Rows.boot_enumerate (c8H (thn (pa pos pins s σ H (fun vs H1=>∃v t M1,vs=[v]/\Kp X.K H H1/\HR X.K H1 M1/\Rep X.K H1 v t/\(match t with
  |.adr p=>(match M1 p with|some (.lst ts)=>R ⟨enT ts,fun M'=>M' p=some (.lst ts)⟩ M1|_=>False)
  |_=>False)) I ⟨M,_,h,hr,hh,fun t v M1 H1 k1 h1 r1 q1=>⟨v,t,M1,rfl,k1,h1,r1,q1⟩⟩) fun us s1 ⟨vs,H1,I1,r1,v,t,M1,e,k1,h1,rt,q1⟩=>?_) hs rfl))
 subst e;cases r1 with
 | cons r rr =>
   cases rr;split at q1
   ·rename_i a;obtain rfl:=a0q rt;cases r;split at q1
    ·rename_i ts e0;obtain⟨xs,g1,g2⟩:=h1 _ _ e0;obtain⟨its,rv,p,hz⟩:=I1.list (SqL.of g1);refine call_enumerate_list p.isList fun h' he hit hsz hk=>?_;refine d4B (s:={ s1 with heap:=h' }) he ?_;refine⟨s1.heap.objs.size+1,[s1.heap.objs.size+1,s1.heap.objs.size],_,_,H1,rfl,I1.kept (t':=s1.toks) hk,b8b a _ _ ts.length (Nat.succ_ne_self _),⟨⟨_,he⟩,hit⟩,fun b hb=>?_,en _ _ M1 H1 k1 h1 b9E q1⟩;have z:b=s1.heap.objs.size+1\/b=s1.heap.objs.size:=by simpa using hb
     rcases z with rfl|rfl
     ·exact I1.fpOk (d1C _) (I1.hok.fresh (d1C _))
     ·exact I1.fpOk (c8d _) (I1.hok.fresh (c8d _))
    ·exact q1.elim
   ·exact q1.elim
end
theorem a1d.has{P:c8G}{w:c9d}{H:Hp}{h:Heap}{a:Addr}{o:HO}(x:a1d P w H h a o):∃ob,h.get? a=some ob:=by
 cases o with
 |lst xs=>obtain⟨_,_,_,_,e⟩:=x;exact⟨_,e⟩
 |tup xs=>obtain⟨_,_,_,o,e,_⟩:=x;exact⟨_,e⟩
 |dK kvs=>obtain⟨_,_,_,_,o,_,_,e,_⟩:=x;exact⟨_,e⟩
 |dT kvs=>obtain⟨_,_,_,_,o,_,_,e,_⟩:=x;exact⟨_,e⟩
 |set S n=>obtain⟨o,_,_,_,e,_⟩:=x;exact⟨_,e⟩
 |ins C dx fs=>obtain⟨_,_,_,e,_⟩:=x;exact⟨_,e⟩
 |own y=>obtain⟨_,e⟩:=x;exact⟨_,e⟩
 |xd fs=>obtain⟨_,⟨_,_,_,e,_⟩,_⟩:=x;exact⟨_,e⟩
 |rng lo hi=>obtain⟨_,_,_,e⟩:=x;exact⟨_,e⟩
 |frz ob u=>obtain⟨e,_⟩:=x;exact⟨_,e⟩
 |tbl ps=>exact⟨_,(show h.get? a=some _ from x)⟩
 |met f y=>exact⟨_,(show h.get? a=some _ from x)⟩
 |ext φ=>obtain⟨_,e,_⟩:=x;exact e
structure Fly(H:Hp)(h0 h:Heap)(a:Addr)(C:c8t):Prop where
 un:H a=none
 new:h0.get? a=none
 obj:∃oe vs a0,h.get? a=some oe/\oe.cls=C/\oe.data=.fields vs/\vs[0]?=some a0 /\
  ∃T oT ts,vs[1]?=some (.ref T)/\T≠a/\H T=none/\h0.get? T=none/\h.get? T=some oT/\oT.data=.fields ts/\ts[3]?=some .none
noncomputable def CXE(P:c8G)(w:c9d):CXT:=fun outer H s E e s'=>∃a C H',e=.ref a/\s'.os=s.os/\d2O s'.gens/\Un (frs outer) [] H H' s.heap s'.heap/\HOk P w H' s'.heap/\Fly H' s.heap s'.heap a C/\E C none H'
theorem a3u{h base B:Heap}:∀{l:List Env},h.FunFrames base l->(∀b∈frs l,B.get? b=none)->h.FunFrames B l
 |[],_,_=>trivial
 | env::rest,⟨hk,⟨L,o,hf,hn,ho,hd⟩,hr⟩,hb=>by
   have e:frs (env::rest)=L::frs rest:=by unfold frs;rw[d0n,hf]
   exact⟨hk,⟨L,o,hf,hb L (by rw[e];exact c8r),ho,hd⟩,a3u hr fun b hm=>hb b (by rw[e];exact c8m _ hm)⟩
section
variable{X:Cx}{pins:PNS}{σ:St}{H:Hp}{s:c8u}
structure Leaves(X:Cx)(E:XK):Prop where
 ex:X.ex=[]
 stk:X.stack=X.env::X.outer
 fr:X.env.frame=some X.env.locals
 xe:∀e s',wpAny (model X.prog X.w) X.A (leaving X.env e) (fun _ s''=>CXE X.prog X.w X.outer X.H₀ X.s₀ E e s'') (fun e' s''=>CXE X.prog X.w X.outer X.H₀ X.s₀ E e' s'') s'->X.xe e s'
theorem c0i{E:XK}(L:Leaves X E):frs X.stack=X.env.locals::X.fs:=by
 rw[L.stk];unfold frs;rw[d0n,L.fr];rfl
theorem Inv.old(I:Inv X pins σ H s)(hx:X.ex=[]){b:Addr}(h:X.s₀.heap.get? b≠none):∃o,s.heap.get? b=some o:=by
 cases q:X.s₀.heap.get? b with
 |none=>exact absurd q h
 |some o=>exact I.base.there b o q (by rw[hx];simp)
theorem b3E{E:XK}{B h2:Heap}{a:Addr}{C a0:c8t}(L:Leaves X E)(I:Inv X pins σ H s)(ha:H a=none)(ha0:X.s₀.heap.get? a=none)
  (hB:∀b o,s.heap.get? b=some o->b∉frs X.stack->b≠a->(H b≠none\/X.s₀.heap.get? b≠none)->B.get? b=some o)
  (k1:B.StaysIn h2) (k3:h2.TracedW B a C a0) (k4:s.heap.UpToSlots h2) (hE:E C none H):CXE X.prog X.w X.outer X.H₀ X.s₀ E (.ref a) { s with heap:=h2 }:=by
 have fs:=c0i L
 have nL:∀b,X.s₀.heap.get? b≠none->b≠X.env.locals:=fun b hb z=>by
  cases q:X.s₀.heap.get? b with
  |none=>exact hb q
  |some o=>exact absurd (c8o q) (d2G.mpr (by rw[z];exact I.ok.above))
 have stay:∀b o,s.heap.get? b=some o->b∉frs X.stack->(H b≠none\/X.s₀.heap.get? b≠none)->h2.get? b=some o:=fun b o q hf hc=>by
  refine k1 b o (hB b o q hf ?_ hc);rintro rfl;rcases hc with z|z
  ·exact z ha
  ·exact z ha0
 have noT:∀b,(H b≠none\/X.s₀.heap.get? b≠none)->∃o,s.heap.get? b=some o:=fun b hc=>by
  rcases hc with z|z
  ·cases q:H b with
   |none=>exact absurd q z
   |some u=>exact(I.hok b u q).has
  ·exact I.old L.ex z
 have dfr:∀b∈frs X.stack,∃o,s.heap.get? b=some o/\∀vs,o.data≠.fields vs:=fun b hb=>(I.stack.mem hb).2;obtain⟨oe,vs,T,oT,ts,t1,⟨t2,t3⟩,t4,t5,t6,t7,t8,t9,t10⟩:=k3
 have hT:T∉frs X.stack:=fun hm=>by
  obtain⟨o,e1,e2⟩:=dfr T hm;obtain⟨sl,e3⟩:=k4 T o e1 e2;rw[t8] at e3;cases e3;exact e2 ts t9
 have key:¬(H T≠none\/X.s₀.heap.get? T≠none):=fun hc=>by
  obtain⟨o,e1⟩:=noT T hc;have:=hB T o e1 hT t7 hc;rw[t6] at this;cases this
 have hT1:H T=none:=c9v fun z=>key (.inl z);have hT2:X.s₀.heap.get? T=none:=c9v fun z=>key (.inr z);refine⟨a,C,H,rfl,I.os,I.bare,⟨fun b o q n hf _=>?_,fun b o q n hf _=>?_,fun b o q n _=>I.base.free b o q n (by rw[L.ex];simp),fun b o q _=>?_,I.base.tups,I.base.frzs,I.base.tbls⟩,fun b u q=>?_,⟨ha,ha0,oe,vs,a0,t1,t2,t4,t3,T,oT,ts,t5,t7,hT1,hT2,t8,t9,t10⟩,hE⟩
 ·have e1:=I.base.keep b o q n hf (by rw[L.ex];simp);refine stay b o e1 ?_ (.inr (by rw[q];simp));rw[fs];intro hm;rcases c8n.mp hm with z|z
  ·exact nL b (by rw[q];simp) z
  ·exact hf z
 ·obtain⟨sl,e1⟩:=I.base.slot b o q n hf (by rw[L.ex];simp);have hm:b∈frs X.stack:=by rw[fs];exact c8m _ hf
  obtain⟨o2,e2,e3⟩:=dfr b hm;rw[e1] at e2;cases e2;obtain⟨sl',e4⟩:=k4 b _ e1 e3;exact⟨sl',e4⟩
 ·obtain⟨o',e1⟩:=I.base.there b o q (by rw[L.ex];simp);by_cases hm:b∈frs X.stack
  ·obtain⟨o2,e2,e3⟩:=dfr b hm;obtain⟨sl,e4⟩:=k4 b o2 e2 e3;exact⟨_,e4⟩
  ·exact⟨_,stay b o' e1 hm (.inr (by rw[q];simp))⟩
 ·refine(I.hok b u q).stay (fun c v hc r=>?_) (fun _ r=>r) fun _ _ r=>r
  have hne:H c≠none:=by
   rcases hc with rfl|hc
   ·rw[q];simp
   ·rw[hc];simp
  refine stay c v r (fun hm=>hne ?_) (.inl hne);exact I.stkFree c hm
theorem b0G{E:XK}{h':Heap}{a:Addr}{C:c8t}{args:LSV}(L:Leaves X E)(I:Inv X pins σ H s)(hx:d5y s.heap h' a C args)(hE:E C none H):X.xe (.ref a) { s with heap:=h' }:=by
 refine L.xe _ _ ?_;have hfr:=I.ok.frames;rw[L.stk] at hfr
 have hl:s.heap.FunFrames (PySem.W.hideAll s.heap (frs X.stack)) (X.env::X.outer):=by
  rw[<- L.stk];exact a3u I.stack fun b hb=>PySem.W.hideAll_none _ hb
 have st:(PySem.W.hideAll s.heap (frs X.stack)).StaysIn s.heap:=fun b o q=>PySem.W.of_hideAll _ q;refine wpAny_leaves_madeW (s:={ s with heap:=h' }) hfr L.fr st hl hx fun h2 t hfl ht htn hsm=>?_;obtain⟨f1,f2,f3,f4⟩:=hfl;have I1:Inv X pins σ H { s with heap:=h',toks:=s.toks }:=I.kept (t':=s.toks) hx.keeps
 have ha:H a=none:=by
  cases q:H a with
  |none=>rfl
  |some u=>obtain⟨ob,e⟩:=(I.hok a u q).has;rw[hx.new] at e;cases e
 have ha0:X.s₀.heap.get? a=none:=c9v fun z=>by
  obtain⟨o,e⟩:=I.old L.ex z;rw[hx.new] at e;cases e
 refine b3E (B:=PySem.W.hideAll s.heap (frs X.stack)) (s:={ s with heap:=h',toks:=s.toks }) L I1 ha ha0 (fun b o q hf hb hc=>?_) f1 f4 hsm hE
 have:∃o',s.heap.get? b=some o':=by
  rcases hc with z|z
  ·cases r:H b with
   |none=>exact absurd r z
   |some u=>exact(I.hok b u r).has
  ·exact I.old L.ex z
 obtain⟨o',e⟩:=this;have e2:=hx.keeps b o' e;have q':h'.get? b=some o:=q;rw[e2] at q';cases q';exact PySem.W.hideAll_get _ e hf
theorem b3D{E:XK}{a:Addr}{C:c8t}(L:Leaves X E)(I:Inv X pins σ H s)(F:Fly H X.s₀.heap s.heap a C)(hE:E C none H):X.xe (.ref a) s:=by
 refine L.xe _ _ ?_;obtain⟨ha,ha0,oe,vs,a0,t1,t2,t3,t4,T,oT,ts,t5,t6,t7,t8,t9,t10,t11⟩:=F;have hfr:=I.ok.frames;rw[L.stk] at hfr
 have nfr:∀b vs' o,s.heap.get? b=some o->o.data=.fields vs'->b∉frs X.stack:=fun b vs' o e d hm=>by
  obtain⟨o',e',d'⟩:=(I.stack.mem hm).2;rw[e] at e';cases e';exact d' _ d
 have hl:s.heap.FunFrames (PySem.W.hideAll s.heap (a::T::frs X.stack)) (X.env::X.outer):=by
  rw[<- L.stk];exact a3u I.stack fun b hb=>PySem.W.hideAll_none _ (c8m _ (c8m _ hb))
 have hfl:d5V (PySem.W.hideAll s.heap (a::T::frs X.stack)) (X.env::X.outer) a C a0 s.heap :=
  ⟨fun b o q=>PySem.W.of_hideAll _ q,PySem.W.hideAll_none _ c8r,hl,oe,vs,T,oT,ts,t1,⟨t2,t4⟩,t3,t5,PySem.W.hideAll_none _ (c8m _ c8r),t6,t9,t10,t11⟩
 refine wpAny_leaves_onW hfr L.fr hfl fun h2 hfl2 hsm=>?_;obtain⟨f1,f2,f3,f4⟩:=hfl2;refine b3E (B:=PySem.W.hideAll s.heap (a::T::frs X.stack)) L I ha ha0 (fun b o q hf hb hc=>PySem.W.hideAll_get _ q fun hm=>?_) f1 f4 hsm hE;rcases c8n.mp hm with z|z
 ·exact hb z
 ·rcases c8n.mp z with z|z
  ·subst z;rcases hc with c|c
   ·exact c t7
   ·exact c t8
  ·exact hf z
end
noncomputable abbrev EK3:=Str->En->MH->Prop
theorem Fly.older{H:Hp}{g h0 h:Heap}{a:Addr}{C:c8t}(F:Fly H h0 h a C)(k:∀b,g.get? b≠none->h0.get? b≠none):Fly H g h a C:=by
 obtain⟨f1,f2,oe,vs,a0,t1,t2,t3,t4,T,oT,ts,t5,t6,t7,t8,t9,t10,t11⟩:=F;exact⟨f1,c9v fun z=>k a z f2,oe,vs,a0,t1,t2,t3,t4,T,oT,ts,t5,t6,t7,c9v fun z=>k T z t8,t9,t10,t11⟩
structure Older(X:Cx)(pins:PNS)(h0:Heap):Prop where
 start:∀b,X.s₀.heap.get? b≠none->h0.get? b≠none
 pins:∀p∈X.pn++pins,h0.get? p.1≠none
 loc:h0.get? X.env.locals≠none
 cells:∀x c,X.env.cells.lookup x=some c->h0.get? c≠none
theorem Inv.older{X:Cx}{pins:PNS}{σ:St}{H:Hp}{s:c8u}(I:Inv X pins σ H s)(hex:X.ex=[]):Older X pins s.heap:=by
 refine⟨fun b hb z=>?_,fun p hp z=>?_,fun z=>?_,fun x c e z=>?_⟩
 ·obtain⟨o,e⟩:=I.old hex hb;rw[z] at e;cases e
 ·have e:=(I.pin p hp).1;rw[z] at e;cases e
 ·obtain⟨m,⟨o,_,_,e,_⟩,_⟩:=I.loc;rw[z] at e;cases e
 ·obtain⟨v,o,e1,_⟩:=I.cell x c e;rw[z] at e1;cases e1
noncomputable def Acc(X:Cx)(Ha:Hp)(E:EK3):Prop:=∀(pins:PNS) (σ:St) (H:Hp) (s:c8u) (h0:Heap) (a C:Addr) (nm:Str) (ρ:En) (M:MH),
 Inv X pins σ H s->Fly H h0 s.heap a (.ref C)->Older X pins h0->X.mg nm=some (.ref C)->Kp X.K Ha H->RhoR X.K σ H ρ->HR X.K H M->E nm ρ M->X.xe (.ref a) s
noncomputable def AccN(X:Cx)(Ha:Hp)(E:EK3):Prop:=∀(pins:PNS) (σ:St) (H:Hp) (s:c8u) (h':Heap) (a C:Addr) (vs:LSV) (nm:Str) (ρ:En) (M:MH),
 Inv X pins σ H s->d5y s.heap h' a (.ref C) vs->X.mg nm=some (.ref C)->Kp X.K Ha H->RhoR X.K σ H ρ->HR X.K H M->E nm ρ M->X.xe (.ref a) { s with heap:=h' }
noncomputable def HEX(X:Cx)(Ha:Hp)(e:Expr)(t:TE3):Prop:=∀ρ M Q,t ρ M Q->PE X e (fun σ H Q2=>Kp X.K Ha H/\bE X.K ρ M Q σ H Q2)
noncomputable def HTX(X:Cx)(Ha:Hp)(e:Expr)(t:TT3):Prop:=∀ρ M Q,t ρ M Q->PT X e (fun σ H Q2=>Kp X.K Ha H/\bT X.K ρ M Q σ H Q2)
noncomputable def HSX(X:Cx)(Ha:Hp)(st:Stmt)(t:TS3):Prop:=∀D ρ M,t D ρ M->PS X st (fun D2 σ H=>Kp X.K Ha H/\bS X.K D ρ M D2 σ H)
noncomputable def HSsX(X:Cx)(Ha:Hp)(st:List Stmt)(t:TS3):Prop:=∀D ρ M,t D ρ M->PSs X st (fun D2 σ H=>Kp X.K Ha H/\bS X.K D ρ M D2 σ H)
noncomputable def dEX(K:PySem.W.Frag)(Ha:Hp)(ρ:En)(t:TE3):TE:=fun σ H Q2=>∃M Q,t ρ M Q/\Kp K Ha H/\bE K ρ M Q σ H Q2
noncomputable def dTX(K:PySem.W.Frag)(Ha:Hp)(ρ:En)(t:TT3):TT:=fun σ H Q2=>∃M Q,t ρ M Q/\Kp K Ha H/\bT K ρ M Q σ H Q2
noncomputable def dSX(K:PySem.W.Frag)(Ha:Hp)(t:TS3):TS:=fun D2 σ H=>∃D ρ M,t D ρ M/\Kp K Ha H/\bS K D ρ M D2 σ H
section
variable{X:Cx}{Ha:Hp}{a b c e:Expr}{es:LSE}{st:Stmt}{rest ba bb body:List Stmt}{ta tb te:TE3}{tA:TT3}{t u:TS3}{pos:Pos}
theorem HEX.d{ρ:En}(h:HEX X Ha e te):PE X e (dEX X.K Ha ρ te):=fun pins s σ H Q I ⟨M,Q3,q,b⟩=>h ρ M Q3 q pins s σ H Q I b
theorem HTX.d{ρ:En}(h:HTX X Ha e tA):PT X e (dTX X.K Ha ρ tA):=fun pins s σ H Q I ⟨M,Q3,q,b⟩=>h ρ M Q3 q pins s σ H Q I b
theorem HSX.d(h:HSX X Ha st t):PS X st (dSX X.K Ha t):=fun pins s σ H D I ⟨D3,ρ,M,q,b⟩=>h D3 ρ M q pins s σ H D I b
theorem HSsX.d(h:HSsX X Ha body t):PSs X body (dSX X.K Ha t):=fun pins s σ H D I ⟨D3,ρ,M,q,b⟩=>h D3 ρ M q pins s σ H D I b
theorem HE.x(h:HE X e te):HEX X Ha e te:=fun ρ M Q q=>(h ρ M Q q).imp fun σ H Q2 b=>b.2
theorem HT.x(h:HT X e tA):HTX X Ha e tA:=fun ρ M Q q=>(h ρ M Q q).imp fun σ H Q2 b=>b.2
theorem HS.x(h:HS X st t):HSX X Ha st t:=fun D ρ M q=>(h D ρ M q).imp fun D2 σ H b=>b.2
theorem HSs.x(h:HSs X body t):HSsX X Ha body t:=fun D ρ M q=>(h D ρ M q).imp fun D2 σ H b=>b.2
theorem PS.nox{s:Stmt}{t:TS}(h:PS X.nox s t):PS X s t:=fun pins s σ H D I hw =>
 c9G (h pins s σ H D (I.wish _) hw) (fun _ _ q=>q.unwish) fun _ _ z=>c9k z
theorem HE.n(h:HE X.nox e te):HE X e te:=fun ρ M Q q=>(h ρ M Q q).nox
theorem HT.n(h:HT X.nox e tA):HT X e tA:=fun ρ M Q q=>(h ρ M Q q).nox
theorem HS.n(h:HS X.nox st t):HS X st t:=fun D ρ M q=>(h D ρ M q).nox
theorem EndS.nxX{K:PySem.W.Frag}{H:Hp}{D:Ends3}{D2:Ends}{t:TS3}(h:EndS K H D D2)(ka:Kp K Ha H):EndS K H { D with nx:=t D } { D2 with nx:=dSX K Ha t D2 } :=
 ⟨fun ρ' M' σ' H' k r hh q=>⟨D,ρ',M',q,ka.trans k,r,hh,h.kp k⟩,h.rt,h.bk,h.ct⟩
theorem a0Z(h1:HSX X Ha st t)(h2:HSsX X Ha rest u):HSsX X Ha (st::rest) (a3Z t u):=fun D ρ M h =>
 (b5S h1.d h2.d).imp fun D2 σ H ⟨ka,hr,hh,en⟩=>⟨{ D with nx:=u D },ρ,M,h,ka,hr,hh,en.nxX ka⟩
theorem a2E(h1:HSX X Ha st t):HSsX X Ha [st] t:=fun D ρ M h=>b8Q (h1 D ρ M h)
theorem b1g:HSsX X Ha [] b8j:=a0w.x
theorem b5G(he:HEX X Ha e te):HSX X Ha (.Return (some e) pos) (c3v te):=fun D ρ M h =>
 (c2W (he.d (ρ:=ρ))).imp fun D2 σ H ⟨ka,hr,hh,en⟩=>⟨M,_,h,ka,hr,hh,en.rt⟩
theorem c3F(he:HEX X Ha e te)(hs:swapsWith e none pos.line X.env=pure false:=by rfl):HSX X Ha (.Expr e pos) (b8l te):=fun D ρ M h =>
 (b8R (he.d (ρ:=ρ)) hs).imp fun D2 σ H ⟨ka,hr,hh,en⟩=>⟨M,_,h,ka,hr,hh,fun x v M1 H1 k1 h1 r1 q1=>en.nx ρ M1 σ H1 k1 (hr.kp k1) h1 q1⟩
theorem c5G{i:Nat}{x:Str}{pos':Pos}(he:HEX X Ha e te)(hN:X.N.Nodup)(hi:X.N[i]?=some x:=by rfl)(hx:Loc X.env.scope x:=by first|exact d3n rfl|exact d2F rfl)(hs:swapsWith e (some (.Name x pos')) pos.line X.env=pure false:=by rfl)
  (hf:QXX X x:=by first|exact .inl rfl|exact .inr rfl|assumption):HSX X Ha (.Assign [.Name x pos'] e pos) (c0X i te):=fun D ρ M h =>
 (c2V hN hi hx (he.d (ρ:=ρ)) hs hf).imp fun D2 σ H ⟨ka,hr,hh,en⟩=>⟨M,_,h,ka,hr,hh,fun t v M1 H1 k1 h1 r1 q1=>en.nx _ M1 _ H1 k1 ((hr.kp k1).set i r1) h1 q1⟩
theorem c1h(hc:HTX X Ha c tA)(ha:HSsX X Ha ba t)(hb:HSsX X Ha bb u):HSX X Ha (.If c ba bb pos) (c3y tA t u):=fun D ρ M h =>
 (c5S (hc.d (ρ:=ρ)) ha.d hb.d).imp fun D2 σ H ⟨ka,hr,hh,en⟩=>⟨M,_,h,ka,hr,hh,fun b M1 H1 k1 h1 q1=>by
  dsimp only at q1|-
  split
  ·rename_i hb;rw[if_pos hb] at q1;exact⟨D,ρ,M1,q1,ka.trans k1,hr.kp k1,h1,en.kp k1⟩
  ·rename_i hb;rw[if_neg hb] at q1
   exact⟨D,ρ,M1,q1,ka.trans k1,hr.kp k1,h1,en.kp k1⟩⟩
theorem dOpX{ρ:En}{M:MH}{Q:VK3}{r:R3}(h:tOp3 r ta tb ρ M Q){σ:St}{H:Hp}{Q2:VK}(ka:Kp X.K Ha H)(b:bE X.K ρ M Q σ H Q2):tOp (dR X.K r) (dEX X.K Ha ρ ta) (dEX X.K Ha ρ tb) σ H Q2:=by
 obtain⟨hr,hh,en⟩:=b;refine⟨M,_,h,ka,hr,hh,fun t v M1 H1 k1 h1 r1 q1=>⟨M1,_,q1,ka.trans k1,hr.kp k1,h1,fun t2 v2 M2 H2 k2 h2 r2 q2=>⟨t,t2,M2,Q,Rep.kp k2 _ _ r1,r2,h2,q2,en.kp (k1.trans k2)⟩⟩⟩
theorem c4E{op:d5I}{r:R3}(ho:OpR3 X (compareOp op) r)(ha:HEX X Ha a ta)(hb:HEX X Ha b tb)(hm:behindInMarks op b=false):HTX X Ha (.Compare a [op] [b] pos) (b5C (tOp3 r ta tb)):=fun ρ M Q h =>
 (b8P ho (ha.d (ρ:=ρ)) (hb.d (ρ:=ρ)) hm).imp fun σ H Q2 ⟨ka,hr,hh,en⟩=>dOpX (ta:=ta) (tb:=tb) (r:=r) h ka ⟨hr,hh,b2i en⟩
end
noncomputable abbrev Sp3X:=List T->MH->VK3->(Str->MH->Prop)->Prop
noncomputable def dSpX(K:PySem.W.Frag)(mg:SOV)(sp:Sp3X):Sp:=fun vs H Q2 E2=>∃ts M Q E,Reps K H vs ts/\HR K H M/\sp ts M Q E/\EndE K H Q Q2 /\
 ∀nm C M' H',Kp K H H'->HR K H' M'->mg nm=some (.ref C)->E nm M'->E2 (.ref C) none H'
structure DfX(P:c8G)(w:c9d)(K:PySem.W.Frag)(mg:SOV)(base:Heap)(n:Nat)(x:Str)(ps:LSS)(sp:Sp3X):Prop where
 out:∃f fd,FnOk P w K mg base (CXE P w) n f fd ps (dSpX K mg sp)/\mg x=some (.ref f)/\PySem.W.keepIn K (.ref f)=true/\a3n K fd ps []
theorem DfX.mono{P:c8G}{w:c9d}{K:PySem.W.Frag}{mg:SOV}{base:Heap}{n m:Nat}{x:Str}{ps:LSS}{sp:Sp3X}(D:DfX P w K mg base n x ps sp)(h:n<=m):DfX P w K mg base m x ps sp:=by
 obtain⟨f,fd,F,a,b,c⟩:=D.out;exact⟨f,fd,F.mono h,a,b,c⟩
section
variable{X:Cx}{Ha:Hp}{e:Expr}{es:LSE}{t:TA3}{pos:Pos}
noncomputable def c2R(E:EK3)(sp:Sp3X)(t:TA3):TE3:=fun ρ M Q=>t ρ M fun ts M1=>sp ts M1 Q fun nm M2=>E nm ρ M2
theorem a6r{n:Nat}{x:Str}{ps:LSS}{sp:Sp3X}{p:Pos}{E:EK3}(A:Acc X Ha E)(hex:X.ex=[])(D:DfX X.prog X.w X.K X.mg X.base n x ps sp)(hr:Room n X.A)(ha:HA X (e::es) t)(hg:Gl X x:=by rfl)(hdb:QDD x:=by decide)
  (he:QSS X e es:=by rfl) (hpl:QPP X pos es:=by rfl) :
  HEX X Ha (.Call (.Name x p) (e::es) [] pos) (c2R E sp t):=by
 intro ρ M Q h pins s σ H Q2 I bb;obtain⟨ka,hrr,hh,en⟩:=bb;obtain⟨f,fd,F,hm,hk,hb⟩:=D.out;refine c9o (a4w I hg hm ?_ hdb);refine PySem.W.callWith_K (h₀:=X.base) I.ok.mod.kin hk (thn (ha ρ M _ h pos pins s σ H (fun vs H1=>∃ts M1,Kp X.K H H1/\HR X.K H1 M1/\Reps X.K H1 vs ts/\sp ts M1 Q fun nm M2=>E nm ρ M2) I ⟨hrr,hh,fun ts vs M1 H1 k1 h1 r1 q1=>⟨ts,M1,k1,h1,r1,q1⟩⟩) fun us s1 ⟨vs,H1,I1,r,ts,M1,k1,h1,r1,q1⟩=>⟨I1.kIn,?_⟩) he hpl;have r2:Vals (vs++[]) (us++[]):=r.append .nil
 have q2:dSpX X.K X.mg sp (vs++[]) H1 Q2 (fun C _ H'=>∃c nm M',C=.ref c/\X.mg nm=some (.ref c)/\Kp X.K H1 H'/\HR X.K H' M'/\E nm ρ M') :=
  ⟨ts,M1,Q,_,by rw[c8R];exact r1,h1,q1,en.kp k1,fun nm C M' H' k' h' m' e'=>⟨C,nm,M',rfl,m',k',h',e'⟩⟩
 have hl:(us++[]).length=ps.length:=by rw[<- r2.length];exact F.len _ _ _ _ q2
 refine d3w (d1s (F.run X.A X.stack s1 H1 ⟨us,[]⟩ (us++[]) (vs++[]) Q2 _ hr I1.env0 (hb s1 us I1.kIn hl) r2 q2) fun r s' hq=>?_);cases r with
 | error e =>
   obtain⟨a,C,H',rfl,os,bare,un,hok,fly,c,nm,M',rfl,m',k',h',e'⟩:=hq;have J:=I1.call' (H':=H') (ch:=[]) os un hok bare (fun b z=>absurd z (by simp));exact A pins σ H' s' s1.heap a c nm ρ M' J fly (I1.older hex) m' (ka.trans (k1.trans k')) (hrr.kp (k1.trans k')) h' e'
 | ok fl =>
   cases fl with
   |ret u=>exact I1.after hq
   |next=>exact c9k hq
   |brk=>exact c9k hq
   |cont=>exact c9k hq
end
noncomputable abbrev bmVE:LSV:=[.type "ValueError",.type "Exception",.type "BaseException",.type "object"]
noncomputable def XCl(K:PySem.W.Frag)(mg:SOV)(nm:Str):Prop:=∃C,mg nm=some (.ref C)/\PySem.W.excIn K C bmVE "ValueError.__new__"=true
theorem c0m{K:PySem.W.Frag}{h:Heap}{C:Addr}(X:K.In h)(q:PySem.W.excIn K C bmVE "ValueError.__new__"=true) :
  ∃bm N nm qn bs hd sn sub ab col dd k0 k1 k2 k3 k5 mN,h.get? C=some (excClassObj nm qn C N bs bm hd sn sub ab col dd k0 k1 k2 k3 k5 "ValueError.__new__")/\h.Ns N mN/\mN "__init__"=none/\OwnTail h bmVE bm:=by
 unfold PySem.W.excIn at q;split at q
 case h_2=>cases q
 rename_i dd cd sl ho;split at q
 case h_2=>cases q
 rename_i C' bm k0 k1 k2 k3 n k5 hm hs;simp only[c8S,beq_iff_eq,d0E] at q;obtain⟨⟨⟨⟨⟨e1,e2⟩,e3⟩,e4⟩,e5⟩,e6⟩:=q;subst e1 e2;refine⟨bm,cd.ns,cd.name,cd.qualname,cd.bases,cd.hasDict,cd.slotNames,cd.subclasses,cd.abstract,cd.collection,dd,k0,k1,k2,k3,k5,_,?_,.of_isNs (PySem.W.isNs_of_in X e5),PySem.W.nsMap_none_of_in X e5 e6,PySem.W.tail_of_in X e4⟩;have es:sl=#[k0,k1,k2,k3,some (.builtin "ValueError.__new__"),k5]:=d4Y.mp (by simpa using hs);rw[X _ _ ho,es];cases cd;simp only at hm e3;subst hm e3;rfl
section
variable{X:Cx}{Ha:Hp}{e:Expr}{te:TE3}{pos:Pos}
noncomputable def b8i(E:EK3)(nm:Str)(te:TE3):TS3:=fun _ ρ M=>te ρ M fun _ M1=>E nm ρ M1
theorem b5I{E:EK3}{x:Str}{np cpos:Pos}(A:AccN X Ha E)(hc:XCl X.K X.mg x)(ha:HE X e te)(hcalm:X.calm=true:=by rfl)(hg:Gl X x:=by rfl)(hdb:QDD x:=by decide)
  (he:starEach [e] X.env=(false,eval e X.env)::starEach [] X.env:=by rfl):HSX X Ha (.Raise (some (.Call (.Name x np) [e] [] cpos)) none pos) (b8i E x te):=by
 intro D ρ M h pins s σ H D2 I bb;obtain⟨ka,hr,hh,en⟩:=bb;obtain⟨C,hm,hx⟩:=hc;obtain⟨bm,N,nm,qn,bs,hd,sn,sub,ab,col,dd,k0,k1,k2,k3,k5,mN,hC,hN,hni,TL⟩:=c0m I.ok.mod.kin hx;refine wpAny_Raise_call_subU (C:=C) (nm:=nm) (q:=qn) (N:=N) (bs:=bs) (bm:=bm) (hdct:=hd) (sn:=sn) (sub:=sub) (ab:=ab) (col:=col) (dd:=dd) (k0:=k0) (k1:=k1) (k2:=k2) (k3:=k3) (k5:=k5)
  PySem.F.excBase_ValueError (by decide) PySem.F.excBase_ValueError (mN:=mN) (TL.hasType (by decide)) (I.ok.hd hcalm) (by rw[he];rfl) hni (a4w I hg hm ⟨rfl,?_⟩ hdb)
 have w1:=(a0a ha a0e he) ρ M (fun ts M1=>ts.length<=1/\E x ρ M1) (show te ρ M (fun y M1=>([y]:List T).length<=1/\E x ρ M1) from by
  have h':te ρ M fun _ M1=>E x ρ M1:=h
  simpa using h') cpos pins s σ H (fun vs H1=>∃M1,vs.length<=1/\Kp X.K H H1/\HR X.K H1 M1/\E x ρ M1) I ⟨hr,hh,fun ts vs M1 H1 k1 h1 r1 q1=>⟨M1,by rw[r1.length];exact q1.1,k1,h1,q1.2⟩⟩
 rw[he] at w1|-
 refine c9W (c9G w1 (fun us s1 ⟨vs,H1,I1,r,M1,hl,kk,h1,q1⟩=>?_) fun _ _ z=>z);refine⟨rfl,?_,I1.bk _ _ hC,hN.keeps I1.bk,TL.keeps I1.bk,fun h' a hmade=>A pins σ H1 s1 h' a C us x ρ M1 I1 hmade hm (ka.trans kk) (hr.kp kk) h1 q1⟩;have:us.length<=1:=by rw[<- r.length];exact hl
 exact c8C this (by decide)
end
theorem b3C{P:c8G}{w:c9d}{K:PySem.W.Frag}{mg:SOV}{base:Heap}{N:LSS}{qual:Str}{scope:d1R}{f:Addr}{cd:c8t}{A:c8Z}{outer:List Env}{s:c8u}{H:Hp}{E:XK} :
  Leaves (cxOf (CXE P w) P w K mg base N qual scope f cd A outer s H E) E:=⟨rfl,rfl,rfl,fun _ _ h=>h⟩
section
variable{P:c8G}{w:c9d}{K:PySem.W.Frag}{mg:SOV}{base:Heap}
theorem Fun.dfnX{x qual:Str}{st:Stmt}{f:Addr}{fd:d0u}{N ps:LSS}{n:Nat}{sp:Sp3X}(F:Fun K x qual st f fd)(hm:mg x=some (.ref f))(hb:a3n K fd ps [])(S:FnScope N ps (a0b st))(len:∀ts M Q E,sp ts M Q E->ts.length=ps.length)
  (hbody:∃t:EK3->TS3,(∀(cdv:c8t) (A:c8Z) (outer:List Env) (s:c8u) (H:Hp) (E:XK) (E3:EK3),Room n (A.deeper (envOfC qual (a0b st) s.heap.objs.size f cdv)) ->
   Acc (cxOf (CXE P w) P w K mg base N qual (a0b st) f cdv A outer s H E) H E3->AccN (cxOf (CXE P w) P w K mg base N qual (a0b st) f cdv A outer s H E) H E3 ->
   HSsX (cxOf (CXE P w) P w K mg base N qual (a0b st) f cdv A outer s H E) H (a1Q st) (t E3)) /\
   ∀ts M Q E,sp ts M Q E->t (fun nm _ M'=>∃M0,Sub M0 M'/\E nm M0) { nx:=fun _ M'=>rt3 M Q .non M',rt:=rt3 M Q } (a2P N ts) M):DfX P w K mg base (n+1) x ps sp:=by
 obtain⟨t,hbody,rd⟩:=hbody;refine⟨f,fd,?_,hm,F.kp,hb⟩;obtain⟨oc,od,kV,doc,pm,an,cdv,ct,osl,rfl,lk,hcd⟩:=F.ex;refine c4O lk hcd S (fun vs H Q E ⟨ts,M,Q3,E3,r,_,q,_⟩=>by rw[r.length];exact len _ _ _ _ q) fun A outer s H vs Q E hr ⟨ts,M,Q3,Ex,r,hh,q,en,ex⟩=>?_;have L:=b3C (P:=P) (w:=w) (K:=K) (mg:=mg) (base:=base) (N:=N) (qual:=qual) (scope:=a0b st) (f:=f) (cd:=cdv) (A:=A) (outer:=outer) (s:=s) (H:=H) (E:=E);refine⟨_,hbody cdv A outer s H E (fun nm _ M'=>∃M0,Sub M0 M'/\Ex nm M0) hr (fun pins σ H' s' h0 a C nm ρ M' I fly old m k _ hh' q'=>?_) (fun pins σ H' s' h' a C vs' nm ρ M' I made m k _ hh' q'=>?_) _ _ _ (rd ts M Q3 Ex q),Kp.refl,a8O r,hh,⟨?_,?_,fun _ _ _ _ _ _ _ z=>z.elim,fun _ _ _ _ _ _ _ z=>z.elim⟩⟩
 ·obtain⟨M0,hs,q2⟩:=q';exact b3D L I (fly.older old.start) (ex nm C M0 H' k (hh'.sub hs) m q2)
 ·obtain⟨M0,hs,q2⟩:=q';exact b0G L I made (ex nm C M0 H' k (hh'.sub hs) m q2)
 ·rintro ρ' M' σ' H' k hr' hh' ⟨M0,hs,q'⟩;exact en .non .non M0 H' k (hh'.sub hs) a5j q'
 ·rintro t' v' M' H' k hh' r' ⟨M0,hs,q'⟩;exact en t' v' M0 H' k (hh'.sub hs) r' q'
end
section
variable{prog:c8G}{w:c9d}{A:c8Z}{E:VPR}{s:c8u}{h:Heap}{g:Array d5d}{d:Drawn}{t:Nat}{os:OsState}{a C:Addr}{o:Obj}{K:PySem.W.Frag}
local macro_rules | `(tactic| walk_at "xc") => `(tactic| (repeat any_goals (first | wp_step | assumption)))
end
section
variable{X:Cx}{pos:Pos}
end
section
variable{X:Cx}{pins:PNS}{σ:St}{H:Hp}{s:c8u}
theorem Inv.flown{B h2:Heap}{a T:Addr}(I:Inv X pins σ H s)(hx:X.ex=[])(hst:X.stack=X.env::X.outer)(hfr:X.env.frame=some X.env.locals)
  (hB:∀b o,s.heap.get? b=some o->b∉frs X.stack->b≠a->b≠T->B.get? b=some o) (k1:B.StaysIn h2) (k4:s.heap.UpToSlots h2)
  (na:H a=none/\X.s₀.heap.get? a=none/\∀p∈X.pn++pins,p.1≠a) (nT:H T=none/\X.s₀.heap.get? T=none/\∀p∈X.pn++pins,p.1≠T):Inv X pins σ H { s with heap:=h2 }:=by
 have fs:frs X.stack=X.env.locals::X.fs:=by
  rw[hst];unfold frs;rw[d0n,hfr];rfl
 have nL:∀b,X.s₀.heap.get? b≠none->b≠X.env.locals:=fun b hb z=>by
  cases q:X.s₀.heap.get? b with
  |none=>exact hb q
  |some o=>exact absurd (c8o q) (d2G.mpr (by rw[z];exact I.ok.above))
 have stay:∀b o,s.heap.get? b=some o->b∉frs X.stack->b≠a->b≠T->h2.get? b=some o:=fun b o q hf h1 h2=>k1 b o (hB b o q hf h1 h2)
 have ne0:∀b o,X.s₀.heap.get? b=some o->b≠a/\b≠T:=fun b o q =>
  ⟨fun z=>(by rw[z,na.2.1] at q;cases q),fun z=>(by rw[z,nT.2.1] at q;cases q)⟩
 have dfr:∀b∈frs X.stack,∃o,s.heap.get? b=some o/\∀vs,o.data≠.fields vs:=fun b hb=>(I.stack.mem hb).2;obtain⟨m,hn,hl⟩:=I.loc
 have cellk:∀c v,s.heap.IsCell c v->h2.IsCell c v:=fun c v hc=>by
  obtain⟨o,ho,hd⟩:=hc;obtain⟨sl,e⟩:=k4 c o ho fun vs q=>by rw[hd] at q;cases q
  exact⟨_,e,hd⟩
 refine⟨I.ok,I.os,I.bare,⟨fun b o q n hf hb=>?_,fun b o q n hf hb=>?_,fun b o q n hb=>I.base.free b o q n hb,fun b o q hb=>?_,I.base.tups,I.base.frzs,I.base.tbls⟩,⟨m,k4.ns hn,fun i x v e1 e2 e3=>?_⟩,fun x c e=>?_,I.free,I.freeC,fun p hp=>?_,fun b u q=>?_,I.len⟩
 ·have e1:=I.base.keep b o q n hf hb;refine stay b o e1 ?_ (ne0 b o q).1 (ne0 b o q).2;rw[fs];intro hm;rcases c8n.mp hm with z|z
  ·exact nL b (by rw[q];simp) z
  ·exact hf z
 ·obtain⟨sl,e1⟩:=I.base.slot b o q n hf hb;obtain⟨o2,e2,e3⟩:=dfr b (by rw[fs];exact c8m _ hf);rw[e1] at e2;cases e2;obtain⟨sl',e4⟩:=k4 b _ e1 e3;exact⟨sl',e4⟩
 ·obtain⟨o',e1⟩:=I.base.there b o q hb;by_cases hm:b∈frs X.stack
  ·obtain⟨o2,e2,e3⟩:=dfr b hm;obtain⟨sl,e4⟩:=k4 b o2 e2 e3;exact⟨_,e4⟩
  ·exact⟨_,stay b o' e1 hm (ne0 b o q).1 (ne0 b o q).2⟩
 ·obtain⟨u,r,q⟩:=hl i x v e1 e2 e3;refine⟨u,r,?_⟩;rcases q with q|⟨k,c,e,z⟩
  ·exact .inl q
  ·exact .inr ⟨k,c,e,cellk _ _ z⟩
 ·obtain⟨v,z⟩:=I.cell x c e;exact⟨v,cellk _ _ z⟩
 ·obtain⟨e,n,ne,nf,d⟩:=I.pin p hp;refine⟨stay p.1 p.2 e ?_ (na.2.2 p hp) (nT.2.2 p hp),n,ne,nf,d⟩;rw[fs];intro hm;rcases c8n.mp hm with z|z
  ·exact ne z
  ·exact nf z
 ·refine(I.hok b u q).stay (fun c v hc r=>?_) (fun _ r=>r) fun _ _ r=>r
  have hne:H c≠none:=by
   rcases hc with rfl|hc
   ·rw[q];simp
   ·rw[hc];simp
  refine stay c v r (fun hm=>hne (I.stkFree c hm)) ?_ ?_
  ·rintro rfl;exact hne na.1
  ·rintro rfl;exact hne nT.1
end
local macro_rules | `(tactic| walk_at "xc") => `(tactic| (repeat any_goals (first | wp_step | assumption)))
theorem b5z{M:d5P}{A:c8Z}{E:VPR}{h:Heap}{g:Array d5d}{d:Drawn}{t:Nat}{os:OsState}{a C P:Addr}{o:Obj}{K:PySem.W.Frag}{Q:Bool->c8u->Prop}
  (X:K.In h) (hx:h.get? a=some o) (hc:o.cls=.ref C) (up:PySem.W.subIn K (.ref C) (.ref P)=some true) (pb:PySem.W.subIn K (.ref P) (.type "BaseException")=some true) (hP:PySem.W.excIn K P bmVE "ValueError.__new__"=true)
  (hq:Q true ⟨h,g,d,t,os⟩):wpAny M A (excMatches (.ref a) (.ref P)) Q E ⟨h,g,d,t,os⟩:=by
 obtain⟨bm,N,nm,qn,bs,hd,sn,sub,ab,col,dd,k0,k1,k2,k3,k5,mN,hC,_⟩:=c0m X hP;have f1:=tc_notTuple;have f2:=PySem.W.looks_subIn (M:=M) X pb;have f3:=PySem.W.looks_subIn (M:=M) X up;obtain⟨oc,od,dt,sl⟩:=o;have hc':oc=.ref C:=hc;subst hc';unfold excMatches;walk_at "xc"
 repeat (first|refine f2.at ?_|refine f3.at ?_|(with_reducible refine d1G hC ?_)|(with_reducible refine d1G hx ?_)|wp_step)
 exact hq
section
variable{X:Cx}{pos:Pos}
end
section
variable{X:Cx}{pins:PNS}{σ σ':St}{H:Hp}{s:c8u}
end
section
variable{X:Cx}{body:List Stmt}
noncomputable abbrev Cx.tried(X:Cx)(pn:PNS)(xe:VPR):Cx:={ X with pn:=pn,xe:=xe }
noncomputable abbrev Cx.held(X:Cx)(a:Addr):Cx:={ X with A:=X.A.mark (some (.ref a)),calm:=false,xe:=fun _ _=>False }
theorem Cx.Ok.tried{X:Cx}(ok:X.Ok)(pn:PNS)(xe:VPR):(X.tried pn xe).Ok :=
 ⟨ok.mod,ok.kind,ok.glob,ok.blt,ok.above,ok.inj,ok.has,ok.cab,ok.hd,ok.frames,ok.stk,ok.exf,ok.bs,ok.bsz,ok.noex,ok.exfs,ok.funs,ok.frf⟩
theorem Cx.Ok.held{X:Cx}(ok:X.Ok)(a:Addr):(X.held a).Ok :=
 ⟨ok.mod,ok.kind,ok.glob,ok.blt,ok.above,ok.inj,ok.has,ok.cab,fun z=>Bool.noConfusion z,ok.frames,ok.stk,ok.exf,ok.bs,ok.bsz,ok.noex,ok.exfs,ok.funs,ok.frf⟩
end
section
variable{K:PySem.W.Frag}{mg:SOV}{P:Addr}{cs:List (Str×Addr)}
end
section
variable{X:Cx}
end
noncomputable def spN(sp:Sp3X):Sp3:=fun ts M Q=>sp ts M Q fun _ _=>False
theorem c0a{X:Cx}{e:Expr}{es:LSE}{t:TA3}{pos:Pos}{n:Nat}{x:Str}{ps:LSS}{sp:Sp3X}{p:Pos}(D:DfX X.prog X.w X.K X.mg X.base n x ps sp)(hr:Room n X.A)(ha:HA X (e::es) t)(hg:Gl X x:=by rfl)(hdb:QDD x:=by decide)
  (he:QSS X e es:=by rfl) (hpl:QPP X pos es:=by rfl) :
  HE X (.Call (.Name x p) (e::es) [] pos) (b8p (spN sp) t):=by
 intro ρ M Q h pins s σ H Q2 I bb;obtain⟨hrr,hh,en⟩:=bb;obtain⟨f,fd,F,hm,hk,hb⟩:=D.out;refine c9o (a4w I hg hm ?_ hdb);refine PySem.W.callWith_K (h₀:=X.base) I.ok.mod.kin hk (thn (ha ρ M _ h pos pins s σ H (fun vs H1=>∃ts M1,Kp X.K H H1/\HR X.K H1 M1/\Reps X.K H1 vs ts/\sp ts M1 Q fun _ _=>False) I ⟨hrr,hh,fun ts vs M1 H1 k1 h1 r1 q1=>⟨ts,M1,k1,h1,r1,q1⟩⟩) fun us s1 ⟨vs,H1,I1,r,ts,M1,k1,h1,r1,q1⟩=>⟨I1.kIn,?_⟩) he hpl;have r2:Vals (vs++[]) (us++[]):=r.append .nil
 have q2:dSpX X.K X.mg sp (vs++[]) H1 Q2 (fun _ _ _=>False) :=
  ⟨ts,M1,Q,_,by rw[c8R];exact r1,h1,q1,en.kp k1,fun nm C M' H' k' h' m' e'=>e'⟩
 have hl:(us++[]).length=ps.length:=by rw[<- r2.length];exact F.len _ _ _ _ q2
 refine d3w (d1s (F.run X.A X.stack s1 H1 ⟨us,[]⟩ (us++[]) (vs++[]) Q2 _ hr I1.env0 (hb s1 us I1.kIn hl) r2 q2) fun r s' hq=>?_);cases r with
 | error e =>
   obtain⟨a,C,H',rfl,os,bare,un,hok,fly,z⟩:=hq;exact z.elim
 | ok fl =>
   cases fl with
   |ret u=>exact I1.after hq
   |next=>exact c9k hq
   |brk=>exact c9k hq
   |cont=>exact c9k hq
section
variable{X:Cx}
theorem rep2{K:PySem.W.Frag}{H:Hp}{vs:List V}{x y:T}(r:Reps K H vs [x,y]):∃v w,vs=[v,w]/\Rep K H v x/\Rep K H w y:=by
 unfold Reps at r;obtain⟨v,w,rfl,h,r⟩:=r;obtain⟨v2,rfl,h2⟩:=a1L r;exact⟨_,_,rfl,h,h2⟩
noncomputable def c3N:List T->MH->VK3->Prop:=fun xs M Q=>match xs with
 |[.int i,.int j]=>Q (.int (if j>i then j else i)) M
 |_=>False
theorem c0H(hc:X.calm=true):a3w X (.builtin "max") c3N:=by
 intro pins s σ H vs us Q2 I r h;obtain⟨xs,M,Q,rr,hh,q,en⟩:=h;unfold c3N at q;split at q
 ·rename_i i j;obtain⟨v,w,rfl,r1,r2⟩:=rep2 rr;obtain rfl:=a0v r1;obtain rfl:=a0v r2;exact c0G hc pins s σ H _ us Q2 I r ⟨_,_,rfl,en _ _ M H Kp.refl hh a0x q⟩
 ·exact q.elim
end
noncomputable def b8q(i:Nat)(te:TE3)(f:Int->Int->Int):TS3:=fun D ρ M=>match ρ[i]? with
 | some (some (.int a))=>te ρ M fun y M1=>match y with
   |.int b=>D.nx (ρ.set i (some (.int (f a b)))) M1
   |_=>False
 |_=>False
theorem b8F{X:Cx}{i:Nat}{x:Str}{e:Expr}{te:TE3}{op:d5e}{f:Int->Int->Int}{pos pos':Pos}(ho:PIp X op (ipI f))(he:HE X e te)(hN:X.N.Nodup)(hi:X.N[i]?=some x:=by rfl)(hx:Loc X.env.scope x:=by first|exact d3n rfl|exact d2F rfl)
  (hf:QXX X x:=by first|exact .inl rfl|exact .inr rfl|assumption):HS X (.AugAssign (.Name x pos') op e pos) (b8q i te f):=fun D ρ M h =>
 (c5V hN hi hx (he.d (ρ:=ρ)) ho hf).imp fun D2 σ H ⟨hr,hh,en⟩=>by
  unfold b8q at h;split at h
  ·rename_i a e;obtain⟨v,ev,rv⟩:=hr.2 i _ e;obtain rfl:=a0v rv;refine⟨_,ev,M,_,h,hr,hh,fun t v M1 H1 k1 h1 r1 q1=>?_⟩;dsimp only at q1;split at q1
   ·obtain rfl:=a0v r1;exact⟨a,_,rfl,rfl,en.nx _ M1 _ H1 k1 ((hr.kp k1).set i a0x) h1 q1⟩
   ·exact q1.elim
  ·exact h.elim
section
variable{X:Cx}{d:Addr}{ks:List (Str×Addr)}
end
structure DfA(P:c8G)(w:c9d)(K:PySem.W.Frag)(mg:SOV)(base:Heap)(n:Nat)(f:Addr)(ps:LSS)(sp:Sp3):Prop where
 out:∃fd,FnOk P w K mg base CX0 n f fd ps (dSp K sp)/\PySem.W.keepIn K (.ref f)=true/\a3n K fd ps []
section
variable{X:Cx}{d:Addr}{ks:List (Str×Addr)}
end
noncomputable def flT:T->Bool
 |.non=>true
 |.bl _=>true
 |.int _=>true
 |.str _=>true
 |_=>false
noncomputable def toV:T->V
 |.bl b=>.bl b
 |.int i=>.int i
 |.str z=>.str z
 |_=>.non
theorem c2U{K:PySem.W.Frag}{H:Hp}{v:V}{t:T}(f:flT t=true)(r:Rep K H v t):v=toV t:=by
 cases t with
 |non=>exact a7I r
 |bl b=>exact a4G r
 |int i=>exact a0v r
 |str z=>exact a0V r
 |_=>cases f
theorem b4I{K:PySem.W.Frag}{H:Hp}:∀{vs:List V} {ts:List T},ts.all flT=true->Reps K H vs ts->vs=ts.map toV
 |vs,[],_,r=>by unfold Reps at r;exact r
 | vs,t::ts,f,r=>by
   unfold Reps at r;obtain⟨v,w,rfl,r1,r2⟩:=r;rw[d1c,c8S] at f;rw[c2U f.1 r1,b4I f.2 r2];rfl
theorem b1c{t:T}(f:flT t=true):b0c (toV t)=true:=by
 cases t<;>first|rfl|cases f
theorem a8B:∀{ts:List T},ts.all flT=true->(ts.map toV).all b0c=true
 |[],_=>rfl
 | t::ts,f=>by
   rw[d1c,c8S] at f;rw[c8g,d1c,b1c f.1,a8B f.2];rfl
theorem c5i{x y:T}(f:flT x=true)(g:flT y=true):eqV (toV x) (toV y)=eqT x y:=by
 cases x with
 |tup _=>cases f
 |adr _=>cases f
 |rd _=>cases f
 |dic _ _=>cases f
 | _ =>
   cases y with
   |tup _=>cases g
   |adr _=>cases g
   |rd _=>cases g
   |dic _ _=>cases g
   |_=>rfl
noncomputable def inT(x:T)(ts:List T):Bool:=ts.any fun y=>eqT y x
theorem b8e{x:T}(f:flT x=true):∀{ts:List T},ts.all flT=true->inV (toV x) (ts.map toV)=inT x ts
 |[],_=>rfl
 | t::ts,g=>by
   rw[d1c,c8S] at g;have:=b8e f g.2
   unfold inV inT at this|-
   rw[c8g,d0d,d0d,c5i g.1 f,this]
noncomputable def rIn3(neg:Bool):R3:=fun x y M Q=>flT x=true/\match y with
 |.tup ts=>ts.all flT=true/\Q (.bl (if neg then !inT x ts else inT x ts)) M
 | .adr p=>match M p with
   |some (.lst ts)=>ts.all flT=true/\Q (.bl (if neg then !inT x ts else inT x ts)) M
   |_=>False
 |_=>False
section
variable{X:Cx}
theorem c4q{neg:Bool}{f:c8t->c8t->Sem c8t}(ho:OpR X f (rIn X.K neg)):OpR3 X f (rIn3 neg):=by
 intro pins s σ H x y v u Q2 I rx ry q;obtain⟨a,b,M,Q,r1,r2,hh,q,en⟩:=q;unfold rIn3 at q;obtain⟨fa,q⟩:=q;obtain rfl:=c2U fa r1;split at q
 ·obtain⟨p,xs,rfl,h1,h2⟩:=a1n r2;obtain rfl:=b4I q.1 h2;refine ho pins s σ H _ _ v u Q2 I rx ry ⟨p,_,rfl,.inr h1,b1c fa,a8B q.1,?_⟩;rw[b8e fa q.1];exact en _ _ M H Kp.refl hh a1M q.2
 ·rename_i p;split at q
  ·rename_i ts e;obtain⟨xs,h1,h2⟩:=hh _ _ e;obtain rfl:=a0q r2;obtain rfl:=b4I q.1 h2;refine ho pins s σ H _ _ v u Q2 I rx ry ⟨p,_,rfl,(.inl (.inl (.inl h1))),b1c fa,a8B q.1,?_⟩;rw[b8e fa q.1];exact en _ _ M H Kp.refl hh a1M q.2
  ·exact q.elim
 ·exact q.elim
theorem b9f:OpR3 X (compareOp .In) (rIn3 false):=c4q b9c
end
section
variable{X:Cx}{Ha:Hp}{body:List Stmt}{pos:Pos}
end
end L2
namespace L2
open PySem PySem.Spec PyProof.Rows
open AutoSeq1 (wpAny_loadPart')
section
variable{prog:c8G}{w:c9d}{A:c8Z}{E:VPR}{s:c8u}
end
section
variable{X:Cx}
end
theorem b2K{es rest:LSE}{x1}{pos:Pos}{env:Env}:starEach (.Tuple es x1 pos::rest) env=(false,eval (.Tuple es x1 pos) env)::starEach rest env:=rfl
theorem b5v{X:Cx}{es1 es:LSE}{x1}{pos:Pos}{ta:TE3}{t:TA3}(ha:HE X (.Tuple es1 x1 pos) ta)(hr:HA X es t):HA X (.Tuple es1 x1 pos::es) (b8m ta t):=a0a ha hr (hs:=b2K)
end L2
namespace L2
open PySem PySem.Spec PyProof.Rows
section
variable{prog:c8G}{w:c9d}{A:c8Z}{E:VPR}{s:c8u}
end
section
variable{X:Cx}
theorem b3M{K:PySem.W.Frag}{H:Hp}:∀ns:LSI,Reps K H (ns.map V.int) (ns.map .int)
 |[]=>by rw[c9g,c9g];unfold Reps;rfl
 | n::ns=>by
   rw[c8g,c8g];unfold Reps;exact⟨_,_,rfl,a0x,b3M ns⟩
end
theorem c6C{α:Type}{us:List α}{P:List α->Prop}(hl:us.length=1)(h:∀a:α,P [a]):P us:=by
 obtain⟨a,rfl⟩:=List.length_eq_one_iff.mp hl;exact h a
theorem c6B{α:Type}{us:List α}{P:List α->Prop}(hl:us.length=2)(h:∀a b:α,P [a,b]):P us:=by
 obtain⟨a,r,rfl⟩:=c9m hl;exact c6C (P:=fun r=>P (a::r)) (d2r hl) (h a)
theorem c6A{α:Type}{us:List α}{P:List α->Prop}(hl:us.length=3)(h:∀a b c:α,P [a,b,c]):P us:=by
 obtain⟨a,r,rfl⟩:=c9m hl;exact c6B (P:=fun r=>P (a::r)) (d2r hl) (h a)
theorem c6z{α:Type}{us:List α}{P:List α->Prop}(hl:us.length=4)(h:∀a b c d:α,P [a,b,c,d]):P us:=by
 obtain⟨a,r,rfl⟩:=c9m hl;exact c6A (P:=fun r=>P (a::r)) (d2r hl) (h a)
theorem c6y{α:Type}{us:List α}{P:List α->Prop}(hl:us.length=5)(h:∀a b c d e:α,P [a,b,c,d,e]):P us:=by
 obtain⟨a,r,rfl⟩:=c9m hl;exact c6z (P:=fun r=>P (a::r)) (d2r hl) (h a)
theorem c7L{α:Type}{us:List α}{P:List α->Prop}(hl:us.length=6)(h:∀a b c d e f:α,P [a,b,c,d,e,f]):P us:=by
 obtain⟨a,r,rfl⟩:=c9m hl;exact c6y (P:=fun r=>P (a::r)) (d2r hl) (h a)
theorem c7M{α:Type}{us:List α}{P:List α->Prop}(hl:us.length=0)(h:P []):P us:=by obtain rfl:=c9e hl;exact h
section
variable{X:Cx}
noncomputable def b1C:RM3:=fun x xs M Q=>match x,xs with
 |.adr p,[.tup us]=>(match M p with|some (.lst ts)=>∃(R:LLI) (r:LSI),ts=R.map (fun r=>T.tup (r.map .int))/\us=r.map .int/\Q (.int ((R.count r:Nat):Int)) M|_=>False)
 |_,_=>False
theorem b9t (hu:X.A.units+64<cLine):MtR3 X "list.count" b1C:=by
 classical
 intro pins s σ H v vs u us Q2 I rv rvs h;obtain⟨x,xs,M,Q,r1,r2,hh,q,en⟩:=h;unfold b1C at q;split at q
 ·rename_i p us';split at q
  ·rename_i ts e0;obtain⟨R,r,rfl,rfl,q⟩:=q;obtain⟨ys,g1,g2⟩:=hh _ _ e0;obtain rfl:=a0q r1;obtain⟨w,rfl,rw'⟩:=a1L r2;cases rv;obtain⟨w',rfl,rvw⟩:=a3o rvs;obtain⟨its,r',pl,hz⟩:=I.list (SqL.of g1);obtain⟨o,n,eo,ec,edd,ed⟩:=id pl;obtain⟨cls,dd,data,sl⟩:=o;simp only at ec edd ed;subst ec edd ed;have pu:∀r:LSI,a0G (T.tup (r.map T.int))=true:=fun r=>by rw[a2f,a1y]
   have du:∀r:LSI,depT (T.tup (r.map T.int))<=30:=fun r=>by rw[a5I,a3U];decide
   let e:c8t->Bool:=fun y=>decide (∃v,Rep X.K H v (T.tup (r.map .int))/\RelV v y)
   have own:∀(a:LSI) (v:V) (y:c8t),Rep X.K H v (T.tup (a.map .int))->RelV v y->d1b X.A.in1 s y w' (decide (a=r))/\e y=decide (a=r):=by
    intro a v y q1 q2;have h1:=(b3W I 30 X.A.in1 (T.tup (a.map T.int)) (T.tup (r.map T.int)) v w y w' (du a) (by show X.A.units+1+30+1<cLine;lia) (pu a) (pu r) q1 rw' q2 rvw).1;have h2:eqT (T.tup (a.map T.int)) (T.tup (r.map T.int))=decide (a=r):=by rw[b2f,a6X]
    rw[h2] at h1;refine⟨h1,?_⟩;by_cases c:a=r
    ·subst c;rw[decide_eq_true rfl];exact decide_eq_true ⟨v,q1,q2⟩
    ·rw[decide_eq_false c];refine decide_eq_false ?_;rintro⟨v',q3,q4⟩;obtain rfl:=RelV.inj q2 q4;have:=b8H I _ _ _ (pu a) (pu r) q1 q3;rw[h2] at this;exact c (of_decide_eq_true this)
   have all:∀(R:LLI) (ys:List V) (its:LSV),Reps X.K H ys (R.map fun r=>T.tup (r.map .int))->Vals ys its->(∀y,y∈its->d1b X.A.in1 s y w' (e y))/\its.countP e=R.count r:=by
    intro R
    induction R with
    | nil =>
      intro ys its a b;rw[c9g] at a;unfold Reps at a;subst a;cases b;exact⟨fun y hy=>(by cases hy),rfl⟩
    | cons a R ih =>
      intro ys its a1 b;rw[c8g] at a1;unfold Reps at a1;obtain⟨v,vs,rfl,q1,q2⟩:=a1;cases b with
      | cons c d =>
        obtain⟨i1,i2⟩:=ih _ _ q2 d;obtain⟨o1,o2⟩:=own a v _ q1 c;refine⟨fun y hy=>?_,?_⟩
        ·rcases c8n.mp hy with rfl|hy
         ·rw[o2];exact o1
         ·exact i1 y hy
        ·rw[d4U,d5r,i2,o2];by_cases c:a=r
         ·simp[c]
         ·simp[c]
   obtain⟨k1,k2⟩:=all R ys its g2 r';refine c9X PySem.F.slot_list_count ⟨_,eo,rfl⟩ PySem.F.entry_list_count (PySem.F.args_list_count_2 _ _) (SeqAt.list_countAt p its.toArray n none sl w' e) ⟨eo,fun y hy=>k1 y (by simpa using hy),?_⟩;rw[show its.toArray.toList=its from rfl,k2];exact⟨.int (R.count r:Nat),H,I.tok _,⟨_,rfl⟩,en _ _ M H Kp.refl hh a0x q⟩
  ·exact q.elim
 ·exact q.elim
theorem b7B{o e:Expr}{es:LSE}{to:TE3}{t:TA3}{apos cpos:Pos}(hu:X.A.units+64<cLine)(ho:HE X o to)(ha:HA X (e::es) t)
  (hbase:attributeBase o "count" X.env (eval o X.env)=eval o X.env:=by rfl)
  (hfew:QFF X cpos e es:=by rfl)
  (hline:QLL apos cpos:=by rfl) (hs:QSS X e es:=by rfl) (hplain:QPP X cpos es:=by rfl) :
  HE X (.Call (.Attribute o "count" apos) (e::es) [] cpos) (tLM3 b1C to t):=h_lm PySem.F.slot_list_count PySem.F.type_list_count (b9t hu) ho ha hbase hfew hline hs hplain
end
section
variable{X:Cx}
end
end L2
namespace L2
open PySem PySem.Spec PyProof.Rows LM
section
variable{κ:Type}[DecidableEq κ]
end
section
variable{X:Cx}
end
section
variable{X:Cx}
end
section
variable{prog:c8G}{w:c9d}{A:c8Z}{E:VPR}{s:c8u}
end
section
variable{X:Cx}{pos:Pos}
end
section
variable{X:Cx}{Ha:Hp}{a b:Expr}{ta tb:TE3}{tA:TT3}{pos:Pos}
end
section
variable{X:Cx}{Ha:Hp}
end
section
variable{X:Cx}{pos:Pos}
end
section
variable{X:Cx}
end
section
variable{X:Cx}
end
section
variable{X:Cx}{e:Expr}{te:TE3}{p p2 pos pos2:Pos}
end
theorem c0e{L:LSI}{i:Nat}(hi:i<L.length):L.getD i 0∈L:=by
 rw[c8l,c8b hi];exact c9B hi
section
variable{X:Cx}
end
section
variable{P:c8G}{w:c9d}{A:c8Z}{E:VPR}{s:c8u}
end
section
variable{X:Cx}
end
section
variable{X:Cx}
end
section
variable{P:c8G}{w:c9d}{A:c8Z}{E:VPR}{s:c8u}
theorem b3y:typeLookup (.type "tuple") "keys"=pure none:=by rw[d1x,d0w];kernel_rfl
set_option maxRecDepth 8000 in
theorem a9K{a:Addr}{xs:Array c8t}{k:Nat}{sl:AOV}{Q:OVA->c8u->Prop}(hx:s.heap.get? a=some { cls:=.type "tuple",dict:=none,data:=.seq xs k,slots:=sl })(hA:A.handled=none)
  (h:∀h' tk,(∀b o,s.heap.get? b=some o->h'.get? b=some o)->Q none { s with heap:=h',toks:=tk }):wpAny (model P w) A (getAttr? (.ref a) "keys") Q E s:=by
 obtain⟨hp,g,d,tk,os⟩:=s;have hT:∀tk',(⟨hp,g,d,tk',os⟩:c8u).TypeIs (.ref a) "tuple":=fun _=>⟨_,hx,rfl⟩;have f1:=sub_AttributeError;have f3:=F.slot_tuple_getattribute.lookup;have f4:=F.slot_tuple_getattribute.bind (.ref a);have f5:=am_tuple_getattr_none;have hname:(["__module__","__name__","__qualname__","__doc__","__annotations__"]:LSS).contains "keys"=false:=by decide +kernel
 unfold getAttr? getAttrBy? getAttrBy
 repeat (any_goals (first|exact hT _|assumption|((with_reducible show wpAny _ _ (call (Value.builtin "tuple.__getattribute__") _ _) _ _ _);refine c9X F.slot_tuple_getattribute (hT _) am_entry_tuple_getattribute (F.args_tuple_getattribute_2 _ _) (meets_getattribute_miss_tuple a xs k sl "keys" _ b3y hname (by rw[c9z];decide +kernel)) ⟨hx,hA,fun h' tk' e hx'=>?_⟩)|wp_step))
 obtain⟨t',u',he⟩:=hx'.there;show wpAny _ _ (getattributeRaised _ _ _ _ _ _ _) _ _ _;unfold getattributeRaised
 repeat (any_goals (first|wp_step|assumption))
 exact h _ _ hx'.of.keeps
theorem a8R:entryFor table "dict.update.loop"=some d1w.«dict.update.loop»:=d4W (by kernel_rfl)
theorem a4v:plainId "dict.update.loop"=true:=by decide +kernel
theorem b0x{K:Type}[DecidableEq K]{knd:KeyKind P w K}{I d:Addr}{fp wr:List Addr}{n:Nat}{V:Nat->c8t->Prop}{St:Nat->Heap->Prop}(W:Walks P w A.in1 I fp wr n V St)(hdf:d∉fp)(res:c8t)(ks:List (K×c8t))(hn:ks.length=n)(hz:n<=sizeLine)(h0:Heap)
  (hV:∀i v,V i v->∃p k x key,v=.ref p/\ks[i]?=some (k,x)/\knd.is k key=true/\h0.IsTuple p #[key,x]/\p≠d/\p∉wr) {R:d5S->c8u->Prop} :
  ∀ (m i:Nat) (s:c8u),n-i=m->i<=n->St i s.heap->s.heap.DictOf knd d (merged [] (ks.take i))->(∀b o,b≠d->b∉wr->h0.get? b=some o->s.heap.get? b=some o) ->
    (∀h' tk,h'.DictOf knd d (merged [] ks)->(∀b o,b≠d->b∉wr->h0.get? b=some o->h'.get? b=some o)->R (.ok (.ret res)) { s with heap:=h',toks:=tk }) ->
    codeAny (model P w) A (.builtin "dict.update.loop" ⟨[.ref d,.ref I,rawInt i,res],[]⟩) R s
 | 0,i,s,hm,hi,st,hd,hk,hR=>by
   obtain rfl:i=n:=by lia
   refine d0W a8R ?_;rw[d0k a4v _];show wpAny _ A.in1 (pyNext (.ref I) >>= _) _ _ s;refine c8f (W.done s _ _ st fun h' tk hk'=>?_);show wpAny _ _ (Builtin.Dict.addKeywords d [] >>= _) _ _ _;refine c8f (c8x (c8x (hR h' tk ?_ fun b o b1 b2 e=>hk' b o b2 (hk b o b1 b2 e))));rw[<- hn,c8y] at hd;obtain⟨o,es,ep,g,r⟩:=hd;exact⟨o,es,ep,hk' d o (fun z=>hdf (W.sub _ z)) g,r⟩
 | m+1,i,s,hm,hi,st,hd,hk,hR=>by
   refine d0W a8R ?_;rw[d0k a4v _];show wpAny _ A.in1 (pyNext (.ref I) >>= _) _ _ s;refine c8f (W.item i s _ _ (by lia) st fun v h' tk hv st' hk'=>?_);obtain⟨p,k,x,key,rfl,ek,hkey,hp,np1,np2⟩:=hV i v hv
   have hd':h'.DictOf knd d (merged [] (ks.take i)):=by
    obtain⟨o,es,ep,g,r⟩:=hd;exact⟨o,es,ep,hk' d o (fun z=>hdf (W.sub _ z)) g,r⟩
   obtain⟨o,ho,hc,nn,hdat⟩:=hp;have ho':h'.get? p=some o:=hk' p o np2 (hk p o np1 np2 ho);show wpAny _ _ (holding [c8T p] _ >>= _) _ _ _;refine c8f (d0t (c8f (wpAny_tryCatch ?_)));unfold Builtin.Dict.pairItems;refine c8f (d1I (T:="tuple") ⟨o,ho',hc⟩ ?_);rw[if_pos (by decide)];refine c8f (wpAny_seqItems ho' hdat (c8x ?_));show wpAny _ _ (holding [key,x] (dictSet d key x)) _ _ _
   have hle:(merged [] (ks.take i)).length<=sizeLine:=by
    have e1:=merged_length_le ([]:List (K×c8t)) (ks.take i);have e2:(ks.take i).length<=ks.length:=by rw[c9b];lia
    simp only[c9L] at e1;lia
   refine d0t (wpAny_dictSet_pairs (hsz:=hle) hkey hd' fun h'' hd'' hs''=>?_);refine c8x ⟨d1S a4v _,?_⟩;have:=b0x W hdf res ks hn hz h0 hV (R:=R) m (i+1) { s with heap:=h'',toks:=tk+1 } (by lia) (by lia) (W.frame _ _ _ st' fun b hb o e=>?_) ?_ (fun b o b1 b2 e=>?_) hR
   ·exact this
   ·exact(hs''.2 b (fun z=>hdf (z▸hb))).trans e
   ·rw[merged_take_succ [] ks i (k,x) ek];exact hd''
   ·exact(hs''.2 b b1).trans (hk' b o b2 (hk b o b1 b2 e))
end
section
variable{P:c8G}{w:c9d}{A:c8Z}{E:VPR}{s:c8u}{K:Type}[DecidableEq K]{knd:KeyKind P w K}
theorem b2m{o:Addr}{vs:LSV}{kk:Nat}{sl:AOV}{ks:List (K×c8t)}{Q:VPR}(ho:s.heap.get? o=some { cls:=.type "tuple",dict:=none,data:=.seq vs.toArray kk,slots:=sl })(hA:A.handled=none)
  (hl:ks.length=vs.length) (hz:vs.length<=sizeLine) (hV:∀(i:Nat) (v:c8t),vs[i]?=some v->∃p k x key,v=.ref p/\ks[i]?=some (k,x)/\knd.is k key=true/\s.heap.IsTuple p #[key,x])
  (h:∀h' tk,h'.DictOf knd s.heap.objs.size (merged [] ks)->(∀b u,s.heap.get? b=some u->h'.get? b=some u)->Q (c8T s.heap.objs.size) { s with heap:=h',toks:=tk }) :
  wpAny (model P w) A (call (.type "dict") [.ref o]) Q E s:=by
 refine d3K (Q₁:=fun obj s₁=>obj=c8T s.heap.objs.size/\s₁={ s with heap:=s.heap.push { cls:=.type "dict",data:=.dict #[] } }) F.kt_called_dict (F.kt_typeCall_dict_1 _) F.entry_dict_init (kt_code_dict_new _ ⟨rfl,rfl⟩) ?_;rintro obj s₁ ⟨rfl,rfl⟩;have hnew:(s.heap.push { cls:=.type "dict",data:=.dict #[] }).DictOf knd s.heap.objs.size []:=d5l s.heap;have hdo:s.heap.objs.size≠o:=d0G (c8o ho);have ho':=c8h { cls:=.type "dict",data:=.dict #[] } ho;refine⟨hnew.typeIs,F.args_dict_init_2 _ _,?_⟩;unfold d1w.«dict.__init__» Builtin.Dict.selfAndRest;refine c8f (c8f (wpAny_notOrdered_dict hnew.typeIs ?_));show wpAny _ _ (pure (s.heap.objs.size,[c8T o])) _ _ _;refine c8x ?_;show wpAny _ _ (d2V "dict.__init__" s.heap.objs.size (.ref o) [] .none) _ _ _;unfold d2V;refine c8f (d1I (T:="tuple") ⟨_,ho',rfl⟩ ?_);rw[if_pos (by decide)];refine c8f (a9K ho' hA fun h1 tk1 k1=>?_);rw[if_pos (by rfl)];have ho1:=k1 _ _ ho';refine c8f (d5F (c8f (d4g (items:=vs.toArray) ⟨_,ho1,rfl,kk,rfl⟩ ?_)));have hI:h1.objs.size≠o:=d0G (c8o ho1)
 have hd1:h1.DictOf knd s.heap.objs.size []:=by
  obtain⟨a,es,ep,g,r⟩:=hnew;exact⟨a,es,ep,k1 _ _ g,r⟩
 have hdI:s.heap.objs.size≠h1.objs.size:=by
  obtain⟨a,es,ep,g,r⟩:=hd1;exact c8P (c8o g)
 have W:=Walks.tuple (prog:=P) (w:=w) (A:=A.in1.in1) (by exact hA) h1.objs.size o (d1u hI) vs.toArray;refine c8x ⟨d1S a4v _,b0x (knd:=knd) (A:=A.in1) (h0:=s.heap) (W:=W) (d:=s.heap.objs.size) (by simp only[c8n,c8M,or_false,not_or];exact⟨hdI,hdo⟩) _ ks (by simpa using hl) (by simpa using hz) ?_ vs.toArray.size 0 _ rfl (c9j _) ⟨⟨_,c8E _ rfl,rfl,rfl⟩,⟨_,c8h _ ho1,rfl,kk,rfl⟩⟩ (hd1.push _) (fun b u _ _ e=>c8h _ (k1 _ _ (c8h _ e))) fun h' tk hd' hk'=>?_⟩
 ·intro i v hv;obtain⟨p,k,x,key,e1,e2,e3,e4⟩:=hV i v (by simpa using hv);obtain⟨ob,g,c⟩:=id e4;refine⟨p,k,x,key,e1,e2,e3,e4,c8P (c8o g),fun z=>?_⟩;have z2:p=h1.objs.size:=by simpa using z
  exact absurd (c8o (k1 _ _ (c8h _ g))) (by rw[z2];exact c9x _)
 ·refine⟨rfl,h h' tk hd' fun b u e=>hk' b u (c8P (c8o e)) (fun z=>?_) e⟩;have z2:b=h1.objs.size:=by simpa using z
  exact absurd (c8o (k1 _ _ (c8h _ e))) (by rw[z2];exact c9x _)
end
noncomputable def c4l(kv:Key×T):T:=.tup [keyT kv.1,kv.2]
noncomputable def b8M:List T->MH->VK3->Prop:=fun xs M Q=>match xs with
 |[.tup ts]=>∃ks:List (Key×T),ts=ks.map c4l/\(ks.map c8J).Nodup/\∀r,M r=none->Q (.adr r) (updM M r (.dk ks))
 |_=>False
section
variable{X:Cx}
theorem c1m{k:Key}{key:c8t}(r:RelV (kV k) key):b1X k key=true:=by
 cases k with
 |inl i=>obtain⟨t,rfl⟩:=r;exact b3I i t
 |inr x=>obtain⟨t,rfl⟩:=r;exact b3H x t
theorem b5V{pins:PNS}{σ:St}{H:Hp}{s:c8u}(I:Inv X pins σ H s):∀{ks:List (Key×T)} {xs:List V} {its:LSV},Reps X.K H xs (ks.map c4l)->Vals xs its ->
  ∃(vs:List (Key×c8t)) (kv:List (Key×V)),vs.length=its.length/\KV kv vs/\KRep X.K H kv ks/\∀(i:Nat) (v:c8t),its[i]?=some v->∃p k x key,v=.ref p/\vs[i]?=some (k,x)/\b1X k key=true/\s.heap.IsTuple p #[key,x]
 | [],xs,its,r,rv=>by
   rw[c9g] at r;unfold Reps at r;subst r;cases rv;exact⟨[],[],rfl,.nil,trivial,fun i v e=>by simp at e⟩
 | (k, t)::ks,xs,its,r,rv=>by
   rw[c8g] at r;unfold Reps at r;obtain⟨v,w,rfl,r1,r2⟩:=r;cases rv with
   | @cons _ u _ us h1 h2 =>
     obtain⟨vs,kv,hl,hk,hr,hat⟩:=b5V I r2 h2;obtain⟨p,ys,rfl,g1,g2⟩:=a1n r1;obtain⟨y1,y2,rfl,q1,q2⟩:=c1l g2;obtain rfl:=a3I q1;cases h1;obtain⟨js,jv,jt,jz⟩:=I.tuple g1;cases jv with
     | @cons _ key _ js2 a1 a2 =>
       cases a2 with
       | @cons _ x _ js3 b1 b2 =>
         cases b2;refine⟨(k,x)::vs,(k,y2)::kv,by rw[c8e,c8e,hl],.cons ⟨rfl,b1⟩ hk,⟨rfl,q2,hr⟩,fun i v e=>?_⟩;cases i with
         | zero =>
           simp at e;subst e;exact⟨p,k,x,key,rfl,rfl,c1m a1,jt⟩
         | succ i =>
           obtain⟨p',k',x',key',e1,e2,e3⟩:=hat i v (by simpa using e);exact⟨p',k',x',key',e1,by simpa using e2,e3⟩
theorem a2g{K:PySem.W.Frag}{H:Hp}:∀{kv:List (Key×V)} {ks:List (Key×T)},KRep K H kv ks->kv.map c8J=ks.map c8J
 |[],[],_=>rfl
 |p::r,q::u,h=>by rw[c8g,c8g,h.1,a2g h.2.2]
 |[],q::u,h=>h.elim
 |p::r,[],h=>h.elim
theorem a6w(hc:X.calm=true):a3w X (.type "dict") b8M:=by
 intro pins s σ H vs us Q2 I r h;obtain⟨xs,M,Q,rr,hh,q,en⟩:=h;unfold b8M at q;split at q
 ·rename_i ts;obtain⟨ks,rfl,hnd,q⟩:=q;obtain⟨v,rfl,r1⟩:=a1L rr;obtain⟨p,ys,rfl,g1,g2⟩:=a1n r1;obtain⟨u,rfl,rx⟩:=a3o r;cases rx;obtain⟨its,rv,⟨ob,ho,hcl,hdd,nn,hdat⟩,hz⟩:=I.tuple0 g1;obtain⟨vs,kv,hl,hk,hr,hat⟩:=b5V I g2 rv;have hlen:=rv.length;obtain⟨c1,c2,c3,c4⟩:=ob;simp only at hcl hdd hdat;subst hcl hdd hdat
  have hndv:(vs.map (·.1)).Nodup:=by
   have e1:=hk.keys;have e2:=a2g hr;rw[<- e1];exact e2▸hnd
  refine b2m (knd:=a0C X.prog X.w) ho (I.ok.hd hc) hl (by lia) hat fun h' tk hd' hk'=>?_;rw[merged_nil_of_nodup vs hndv] at hd';have hfr:H s.heap.objs.size=none:=I.hok.fresh (c8d _)
  have hsys:(s.heap.objs.size==sysModules)=false:=by
   have:=I.big;simp only[beq_eq_false_iff_ne,ne_eq];exact fun z=>absurd this (by rw[z];exact c9x _)
  have kvl:kv.length<=sizeLine:=by
   have:=hk.length;lia
  exact⟨.ref s.heap.objs.size,_,I.laid (t':=tk) hk' (c8d _) (show a1d X.prog X.w _ h' _ (.dK kv) from ⟨kvl,hsys,vs,hk,hd'⟩),rfl,en _ _ _ _ (Kp.new hfr) (hh.newK hfr hr) a1I (q _ (hh.free hfr))⟩
 ·exact q.elim
noncomputable def b1A:List T->MH->VK3->Prop:=fun xs M Q=>match xs with
 |[.adr p]=>(match M p with|some (.dk kvs)=>∃ns:LSI,kvs.map c8J=ns.map d0e/\ns.length<64/\∀ms:LSI,ms.Perm ns->ms.Pairwise (·<=·)->∀r,M r=none->Q (.adr r) (updM M r (.lst (ms.map .int)))|_=>False)
 |_=>False
end
section
variable{P:c8G}{w:c9d}{A:c8Z}{E:VPR}{s:c8u}
theorem b0X:∀{xs:List V} {us:LSV},xs.length=us.length->(∀(i:Nat) (x:V) (u:c8t),xs[i]?=some x->us[i]?=some u->RelV x u)->Vals xs us
 |[],[],_,_=>.nil
 |[],u::us,h,_=>by cases h
 |x::xs,[],h,_=>by cases h
 |x::xs,u::us,h,f=>.cons (f 0 x u rfl rfl) (b0X (by rw[c8e,c8e] at h;lia) fun i x' u' h1 h2=>f (i+1) x' u' (by simpa using h1) (by simpa using h2))
theorem b4C{d:Addr}{kvs:List (Key×c8t)}{ep:Nat}{ns:LSI}{Q:VPR}(hA:A.handled=none)(hd:s.heap.DictAt (a0C P w) d kvs ep)(lo:(d==sysModules)=false)(hk:kvs.map (·.1)=ns.map d0e)(h64:ns.length<64)
  (h:∀(h1 h':Heap) (tk:Nat) (out:Array c8t) (ns':LSI),(∀b u,s.heap.get? b=some u->h1.get? b=some u)->(∀b u,h1.get? b=some u->h'.get? b=some u)->(∃e,h'.get? h1.objs.size=some (seqObj "list" out e))->d3O out.toList ns'->ns'.Perm ns->ns'.Pairwise (·<=·)->Q (.ref h1.objs.size) { s with heap:=h',toks:=tk }) :
  wpAny (model P w) A (call (.builtin "sorted") [.ref d]) Q E s:=by
 have hl:kvs.length=ns.length:=by
  have:=congrArg d0o hk
  rwa [c8a,c8a] at this
 refine d2x kind_sorted plain_sorted entry_sorted (args_sorted1 _) ?_;unfold d1w.«sorted»;refine c8f (m:=checkCount "sorted" 1 1 _) (c8x (c8f (PySem.W.kdu_collect (A:=A.in1) (PySem.W.kdl_dict (knd:=a0C P w) (kvs:=kvs) (ep:=ep) lo) hA hd (by rw[hl,c9z];lia) fun h' tk acc hkp hacc=>?_)));obtain⟨hsz,hat⟩:=hacc
 have hI:d3O acc.toList ns:=b7y (b0X (by rw[c8a];exact(hl.symm.trans hsz.symm).trans c8K.symm) fun i x u h1 h2=>by
  obtain⟨k,y,e1,e2⟩:=hat i u (by rw[<- c9p];exact h2);have e3:(kvs.map (·.1))[i]?=some k:=by rw[c8i,e1];rfl
  rw[hk,c8i] at e3;rw[c8i] at h1;cases en:ns[i]? with
  |none=>rw[en] at h1;cases h1
  | some n =>
    rw[en] at e3 h1;obtain rfl:=c8z h1;have e4:d0e n=k:=c8z e3;subst e4;rw[a7G] at e2;rcases a0U e2 with ⟨j,t,z1,z2⟩|⟨j,t,z1,z2⟩
    ·cases z1;exact⟨t,z2⟩
    ·cases z1)
 refine c8f (wpAny_newList ?_);have hoL:(h'.push (seqObj "list" acc.toList.toArray 0)).get? h'.objs.size=some (seqObj "list" acc.toList.toArray 0):=c8E _ rfl;refine c8f (d0t (d0s slot_list_sort ⟨_,hoL,rfl⟩ d5s (list_sort_tree hoL hI (by rw[c8K,hsz,hl];exact h64) fun out ns' a1 a2 a3=>⟨_,rfl,?_⟩) (args_list_sort _)));exact c8x ⟨_,rfl,h h' _ _ out ns' hkp (fun b u e=>(sortedHeap_old (c8P (c8o e)) (c8w (c8o e) (by show h'.objs.size<=(h'.push (seqObj "list" acc.toList.toArray 0)).objs.size;rw[size_push'];exact d1C _))).trans (c8h _ e)) (sortedHeap_at hoL) a1 a2 a3⟩
end
section
variable{X:Cx}
theorem b2z(hc:X.calm=true):a3w X (.builtin "sorted") b1A:=by
 intro pins s σ H vs us Q2 I r h;obtain⟨xs,M,Q,rr,hh,q,en⟩:=h;unfold b1A at q;split at q
 ·obtain⟨v,rfl,r1⟩:=a1L rr;obtain rfl:=a0q r1;obtain⟨u,rfl,rx⟩:=a3o r;cases rx;split at q
  ·rename_i kvs e0;obtain⟨ns,hk,h64,q⟩:=q;obtain⟨kv,g1,g2⟩:=hh _ _ e0;obtain⟨kz,lo,vs,r1,dd⟩:=(show a1d X.prog X.w H s.heap _ (.dK kv) from I.hok _ _ g1);obtain⟨ep,da⟩:=dd.dictAt
   have e1:vs.map (·.1)=ns.map d0e:=by
    rw[<- r1.keys];exact(a2g g2).trans hk
   refine b4C (I.ok.hd hc) da lo e1 h64 fun h1 h' tk out ns' hkp hkp2 ⟨e,hg⟩ a1 a2 a3=>?_;have I1:Inv X pins σ H { s with heap:=h1,toks:=s.toks }:=I.kept hkp;have hfr:H h1.objs.size=none:=I1.hok.fresh (c8d _);have hn:ns'.length<=sizeLine:=by rw[a2.length_eq,c9z];lia
   exact⟨.ref h1.objs.size,_,I1.laid (t':=tk) hkp2 (c8d _) (show a1d X.prog X.w _ h' _ (.lst (ns'.map V.int)) from ⟨by rw[c8a];exact hn,out.toList,e,a8z a1,by rw[d1Q];exact hg⟩),rfl,en _ _ _ _ (Kp.new hfr) (hh.newL hfr (b3M ns')) a1I (q ns' a2 a3 _ (hh.free hfr))⟩
  ·exact q.elim
 ·exact q.elim
end
noncomputable abbrev Po:=List (Int×Int)
noncomputable def co:Po->Int->Int
 |[],_=>0
 |x::r,k=>(if x.1=k then x.2 else 0)+co r k
noncomputable def CanP(p:Po):Prop:=p.Pairwise (fun a b=>a.1<b.1)/\∀x∈p,x.2≠0
theorem a9H(p q:Po)(k:Int):co (p++q) k=co p k+co q k:=by
 induction p with
 |nil=>show co q k=0+co q k;lia
 | cons x r ih =>
   show(if x.1=k then x.2 else 0)+co (r++q) k=((if x.1=k then x.2 else 0)+co r k)+co q k
   rw[ih];lia
theorem a3K{p:Po}{k:Int}(h:∀x∈p,x.1≠k):co p k=0:=by
 induction p with
 |nil=>rfl
 | cons x r ih =>
   show(if x.1=k then x.2 else 0)+co r k=0
   rw[if_neg (h x (.head _)),ih fun y hy=>h y (.tail _ hy)];rfl
theorem b0T{p:Po}(h:p.Pairwise (fun a b=>a.1<b.1)){x:Int×Int}(hx:x∈p):co p x.1=x.2:=by
 induction p with
 |nil=>cases hx
 | cons y r ih =>
   obtain⟨h1,h2⟩:=c9F.mp h
   show(if y.1=x.1 then y.2 else 0)+co r x.1=x.2
   rcases c8n.mp hx with e|e
   ·subst e;rw[if_pos rfl,a3K fun z hz=>d0I (h1 z hz)];lia
   ·rw[if_neg (d1K (h1 x e)),ih h2 e];lia
theorem b2y:∀{p q:Po},CanP p->CanP q->(∀k,co p k=co q k)->p=q
 |[],[],_,_,_=>rfl
 | [],y::q,_,hq,h=>by
   have e:=b0T hq.1 (c8r (a:=y) (l:=q));rw[<- h] at e;exact absurd e.symm (hq.2 y (.head _))
 | x::p,[],hp,_,h=>by
   have e:=b0T hp.1 (c8r (a:=x) (l:=p));rw[h] at e;exact absurd e.symm (hp.2 x (.head _))
 | x :: p,y::q,hp,hq,h=>by
   obtain⟨p1,p2⟩:=c9F.mp hp.1;obtain⟨q1,q2⟩:=c9F.mp hq.1;have ex:=b0T hp.1 (c8r (a:=x) (l:=p));have ey:=b0T hq.1 (c8r (a:=y) (l:=q));have nx:=hp.2 x (.head _);have ny:=hq.2 y (.head _)
   have e1:x.1=y.1:=by
    rcases Int.lt_trichotomy x.1 y.1 with z|z|z
    ·rw[h,a3K] at ex
     ·exact absurd ex.symm nx
     ·intro w hw;rcases c8n.mp hw with e|e
      ·rw[e];exact d0I z
      ·exact d0I (d4M z (q1 w e))
    ·exact z
    ·rw[<- h,a3K] at ey
     ·exact absurd ey.symm ny
     ·intro w hw;rcases c8n.mp hw with e|e
      ·rw[e];exact d0I z
      ·exact d0I (d4M z (p1 w e))
   have e2:x.2=y.2:=by rw[<- ex,<- ey,e1,h]
   have exy:x=y:=d6m e1 e2;subst exy;refine congrArg (x::·) (b2y ⟨p2,fun z hz=>hp.2 z (.tail _ hz)⟩ ⟨q2,fun z hz=>hq.2 z (.tail _ hz)⟩ fun k=>?_);have:=h k
   have t:(if x.1=k then x.2 else 0)+co p k=(if x.1=k then x.2 else 0)+co q k:=this
   lia
noncomputable def putP(k c:Int):Po->Po
 |[]=>if c=0 then [] else [(k,c)]
 |x::r=>if k<x.1 then (if c=0 then x::r else (k,c)::x::r) else if k=x.1 then (if x.2+c=0 then r else (k,x.2+c)::r) else x::putP k c r
noncomputable def norm:Po->Po
 |[]=>[]
 |x::r=>putP x.1 x.2 (norm r)
noncomputable def N1:Po->Nat
 |[]=>0
 |x::r=>x.2.natAbs+N1 r
theorem c0z(k c:Int):∀(p:Po) (j:Int),co (putP k c p) j=(if k=j then c else 0)+co p j
 | [],j=>by
   show co (if c=0 then [] else [(k,c)]) j=(if k=j then c else 0)+0
   by_cases h:c=0
   ·rw[if_pos h,h]
    show 0=(if k=j then 0 else 0)+0
    split<;>rfl
   ·rw[if_neg h];rfl
 | x :: r,j=>by
   show co (if k<x.1 then (if c=0 then x::r else (k,c)::x::r) else if k=x.1 then (if x.2+c=0 then r else (k,x.2+c)::r) else x::putP k c r) j=(if k=j then c else 0)+((if x.1=j then x.2 else 0)+co r j)
   by_cases h1:k<x.1
   ·rw[if_pos h1];by_cases h:c=0
    ·rw[if_pos h,h]
     show(if x.1=j then x.2 else 0)+co r j=_
     split<;>split<;>lia
    ·rw[if_neg h];rfl
   ·rw[if_neg h1];by_cases h2:k=x.1
    ·rw[if_pos h2];by_cases h:x.2+c=0
     ·rw[if_pos h];split<;>split<;>lia
     ·rw[if_neg h]
      show(if k=j then x.2+c else 0)+co r j=_
      split<;>split<;>lia
    ·rw[if_neg h2]
     show(if x.1=j then x.2 else 0)+co (putP k c r) j=_
     rw[c0z k c r j];lia
theorem b8O{k c m:Int}(hk:m<k):∀{p:Po},(∀x∈p,m<x.1)->∀x∈putP k c p,m<x.1
 | [],_,x,hx=>by
   have hx:x∈(if c=0 then [] else [(k,c)]):=hx
   split at hx
   ·cases hx
   ·rw[c8A.mp hx];exact hk
 | y :: r,h,x,hx=>by
   have hx:x∈(if k<y.1 then (if c=0 then y::r else (k,c)::y::r) else if k=y.1 then (if y.2+c=0 then r else (k,y.2+c)::r) else y::putP k c r):=hx
   split at hx
   ·split at hx
    ·exact h x hx
    ·rcases c8n.mp hx with e|e
     ·rw[e];exact hk
     ·exact h x e
   ·split at hx
    ·split at hx
     ·exact h x (.tail _ hx)
     ·rcases c8n.mp hx with e|e
      ·rw[e];exact hk
      ·exact h x (.tail _ e)
    ·rcases c8n.mp hx with e|e
     ·rw[e];exact h y (.head _)
     ·exact b8O hk (fun z hz=>h z (.tail _ hz)) x e
theorem b4h(k c:Int):∀{p:Po},CanP p->CanP (putP k c p)
 | [],_=>by
   show CanP (if c=0 then [] else [(k,c)])
   split
   ·exact⟨.nil,fun _ h=>absurd h c8M⟩
   ·rename_i h;exact⟨c9D _ _,fun x hx=>by rw[c8A.mp hx];exact h⟩
 | y :: r,h=>by
   obtain⟨h1,h2⟩:=c9F.mp h.1
   show CanP (if k<y.1 then (if c=0 then y::r else (k,c)::y::r) else if k=y.1 then (if y.2+c=0 then r else (k,y.2+c)::r) else y::putP k c r)
   split
   ·rename_i a;split
    ·exact h
    ·rename_i b;refine⟨c9F.mpr ⟨fun z hz=>?_,h.1⟩,fun z hz=>?_⟩
     ·rcases c8n.mp hz with e|e
      ·rw[e];exact a
      ·exact d4M a (h1 z e)
     ·rcases c8n.mp hz with e|e
      ·rw[e];exact b
      ·exact h.2 z e
   ·split
    ·rename_i a b;split
     ·exact⟨h2,fun z hz=>h.2 z (.tail _ hz)⟩
     ·rename_i d;refine⟨c9F.mpr ⟨fun z hz=>by rw[b];exact h1 z hz,h2⟩,fun z hz=>?_⟩;rcases c8n.mp hz with e|e
      ·rw[e];exact d
      ·exact h.2 z (.tail _ e)
    ·rename_i a b;have ih:=b4h k c (p:=r) ⟨h2,fun z hz=>h.2 z (.tail _ hz)⟩;refine⟨c9F.mpr ⟨fun z hz=>b8O (by lia) h1 z hz,ih.1⟩,fun z hz=>?_⟩;rcases c8n.mp hz with e|e
     ·rw[e];exact h.2 y (.head _)
     ·exact ih.2 z e
theorem c0M(k c:Int):∀p:Po,N1 (putP k c p)<=c.natAbs+N1 p
 | []=>by
   show N1 (if c=0 then [] else [(k,c)])<=c.natAbs+0
   split
   ·exact c9j _
   ·exact c8d _
 | x :: r=>by
   have ih:=c0M k c r
   show N1 (if k<x.1 then (if c=0 then x::r else (k,c)::x::r) else if k=x.1 then (if x.2+c=0 then r else (k,x.2+c)::r) else x::putP k c r)<=c.natAbs+(x.2.natAbs+N1 r)
   split
   ·split
    ·show x.2.natAbs+N1 r<=_;lia
    ·exact c8d _
   ·split
    ·split
     ·lia
     ·show(x.2+c).natAbs+N1 r<=_;lia
    ·show x.2.natAbs+N1 (putP k c r)<=_;lia
theorem a9G:∀(p:Po) (k:Int),co (norm p) k=co p k
 |[],_=>rfl
 | x::r,k=>by
   show co (putP x.1 x.2 (norm r)) k=(if x.1=k then x.2 else 0)+co r k
   rw[c0z,a9G r]
theorem a1O:∀p:Po,CanP (norm p)
 |[]=>⟨.nil,fun _ h=>absurd h c8M⟩
 |x::r=>b4h x.1 x.2 (a1O r)
theorem b5w:∀p:Po,N1 (norm p)<=N1 p
 |[]=>c8d _
 |x::r=>c8C (c0M x.1 x.2 (norm r)) (Nat.add_le_add_left (b5w r) _)
theorem b4r(p q:Po):N1 (p++q)=N1 p+N1 q:=by
 induction p with
 |nil=>show N1 q=0+N1 q;lia
 |cons x r ih=>show x.2.natAbs+N1 (r++q)=x.2.natAbs+N1 r+N1 q;lia
theorem b5R{k c:Int}:∀{p:Po},∀x∈putP k c p,x.1=k\/∃y∈p,y.1=x.1
 | [],x,hx=>by
   have hx:x∈(if c=0 then [] else [(k,c)]):=hx
   split at hx
   ·cases hx
   ·rw[c8A.mp hx];exact .inl rfl
 | y :: r,x,hx=>by
   have hx:x∈(if k<y.1 then (if c=0 then y::r else (k,c)::y::r) else if k=y.1 then (if y.2+c=0 then r else (k,y.2+c)::r) else y::putP k c r):=hx
   split at hx
   ·split at hx
    ·exact .inr ⟨x,hx,rfl⟩
    ·rcases c8n.mp hx with e|e
     ·rw[e];exact .inl rfl
     ·exact .inr ⟨x,e,rfl⟩
   ·split at hx
    ·split at hx
     ·exact .inr ⟨x,.tail _ hx,rfl⟩
     ·rcases c8n.mp hx with e|e
      ·rw[e];exact .inl rfl
      ·exact .inr ⟨x,.tail _ e,rfl⟩
    ·rcases c8n.mp hx with e|e
     ·rw[e];exact .inr ⟨y,.head _,rfl⟩
     ·rcases b5R x e with z|⟨z,hz,ez⟩
      ·exact .inl z
      ·exact .inr ⟨z,.tail _ hz,ez⟩
theorem a6R:∀{p:Po},∀x∈norm p,∃y∈p,y.1=x.1
 |[],x,hx=>by cases hx
 | y::r,x,hx=>by
   rcases b5R (k:=y.1) (c:=y.2) (p:=norm r) x hx with z|⟨z,hz,ez⟩
   ·exact⟨y,.head _,z.symm⟩
   ·obtain⟨u,hu,eu⟩:=a6R z hz;exact⟨u,.tail _ hu,eu.trans ez⟩
noncomputable def addP(p q:Po):Po:=norm (p++q)
noncomputable def rawM(p q:Po):Po:=p.flatMap fun a=>q.map fun b=>(a.1+b.1,a.2*b.2)
noncomputable def a2V(p q:Po):Po:=norm (rawM p q)
theorem c0O(p q:Po):N1 (addP p q)<=N1 p+N1 q:=c8C (b5w _) (d2i (b4r p q))
theorem c3o(a:Int×Int):∀q:Po,N1 (q.map fun b=>(a.1+b.1,a.2*b.2))=a.2.natAbs*N1 q
 |[]=>rfl
 | b::q=>by
   show(a.2*b.2).natAbs+N1 (q.map fun b=>(a.1+b.1,a.2*b.2))=a.2.natAbs*(b.2.natAbs+N1 q);rw[c3o a q,Int.natAbs_mul,d6k]
theorem c3p(q:Po):∀p:Po,N1 (rawM p q)=N1 p*N1 q
 |[]=>(d4N _).symm
 | a::p=>by
   show N1 ((q.map fun b=>(a.1+b.1,a.2*b.2))++rawM p q)=(a.2.natAbs+N1 p)*N1 q;rw[b4r,c3o,c3p q p,d1F]
theorem c0N(p q:Po):N1 (a2V p q)<=N1 p*N1 q:=c8C (b5w _) (d2i (c3p q p))
theorem b6H{p:Po}{x:Int×Int}(h:x∈p):x.2.natAbs<=N1 p:=by
 induction p with
 |nil=>cases h
 | cons y r ih =>
   show _<=y.2.natAbs+N1 r;rcases c8n.mp h with e|e
   ·rw[e];lia
   ·have:=ih e;lia
noncomputable def PwB(b:Nat)(p:Po):Prop:=∀x∈p,x.1.natAbs<=b
theorem c5d{b:Nat}{p q:Po}(hp:PwB b p)(hq:PwB b q):PwB b (addP p q):=fun x hx=>by
 obtain⟨y,hy,e⟩:=a6R x hx;rw[<- e];rcases c8U.mp hy with z|z
 ·exact hp y z
 ·exact hq y z
theorem c5c{a b:Nat}{p q:Po}(hp:PwB a p)(hq:PwB b q):PwB (a+b) (a2V p q):=fun x hx=>by
 obtain⟨y,hy,e⟩:=a6R x hx;rw[<- e];obtain⟨u,hu,hy⟩:=d5a.mp hy;obtain⟨v,hv,rfl⟩:=c8q.mp hy;have h1:=hp u hu;have h2:=hq v hv;show(u.1+v.1).natAbs<=a+b;lia
theorem PwB.mono{a b:Nat}{p:Po}(h:PwB a p)(hab:a<=b):PwB b p:=fun x hx=>c8C (h x hx) hab
noncomputable def near(b:Nat):LSI:=(c8I (2*b+1)).map fun(i:Nat)=>((i:Int)-(b:Int))
theorem b1R(b:Nat):(near b).length=2*b+1:=by unfold near;rw[c8a,c9u]
theorem b1S{b:Nat}{x:Int}(h:x.natAbs<=b):x∈near b:=c8q.mpr ⟨(x+(b:Int)).toNat,c9U.mpr (by lia),by show(((x+(b:Int)).toNat:Nat):Int)-(b:Int)=x;lia⟩
noncomputable def prT(x:Int×Int):T:=.tup [.int x.1,.int x.2]
noncomputable def poT(p:Po):T:=.tup (p.map prT)
noncomputable def dkI(m:Po):List (Key×T):=m.map fun x=>(.inl x.1,.int x.2)
theorem b2k(m:Po):(dkI m).map c4l=m.map prT:=by unfold dkI;rw[c9l];rfl
theorem a6Y(m:Po):(dkI m).map c8J=(m.map c8J).map d0e:=by unfold dkI;rw[c9l,c9l];rfl
theorem c0v(m:Po):(dkI m).length=m.length:=by unfold dkI;rw[c8a]
noncomputable def setP(k v:Int):Po->Po
 |[]=>[(k,v)]
 |x::r=>if x.1=k then (k,v)::r else x::setP k v r
theorem a8J(k v:Int):∀m:Po,(setP k v m).map c8J=if k∈m.map c8J then m.map c8J else m.map c8J++[k]
 |[]=>rfl
 | x::r=>by
   show((if x.1=k then (k,v)::r else x::setP k v r).map c8J)=_
   by_cases h:x.1=k
   ·rw[if_pos h,if_pos (by rw[c8g,h];exact .head _),c8g,c8g,h]
   ·rw[if_neg h,c8g,a8J k v r,c8g];by_cases g:k∈r.map c8J
    ·rw[if_pos g,if_pos (.tail _ g)]
    ·rw[if_neg g,if_neg (fun z=>(c8n.mp z).elim (fun e=>h e.symm) g)];rfl
theorem b0z{k v:Int}{m:Po}(h:(m.map c8J).Nodup):((setP k v m).map c8J).Nodup:=by
 rw[a8J];split
 ·exact h
 ·rename_i g;rw[List.nodup_append];exact⟨h,c9D _ _,fun a ha b hb=>by rw[c8A.mp hb];exact fun z=>g (z▸ha)⟩
theorem b1D{k v:Int}:∀{m:Po},(m.map c8J).Nodup->putT (dkI m) (.inl k) (.int v)=dkI (setP k v m)
 |[],_=>rfl
 | x::r,h=>by
   rw[c8g,c9J] at h;have ih:=b1D (k:=k) (v:=v) h.2
   show putT ((.inl x.1,.int x.2)::dkI r) (.inl k) (.int v)=dkI (if x.1=k then (k,v)::r else x::setP k v r)
   by_cases e:x.1=k
   ·rw[if_pos e];unfold putT;rw[if_pos (by rw[d0d,decide_eq_true (show(d0e x.1:Key)=.inl k by rw[e])];rfl)];rw[c8g,if_pos (show(d0e x.1:Key)=.inl k by rw[e])];show _=(d0e k,T.int v)::dkI r;rw[e];congr 1;unfold dkI;rw[c9l];refine d0p fun y hy=>?_
    show(if (d0e y.1:Key)=.inl k then ((d0e y.1:Key),T.int v) else (d0e y.1,T.int y.2))=_
    rw[if_neg (fun z=>h.1 (by rw[e,<- d1o z];exact c8q.mpr ⟨y,hy,rfl⟩))]
   ·have ne:¬(d0e x.1:Key)=.inl k:=fun z=>e (d1o z);rw[if_neg e];show _=(d0e x.1,T.int x.2)::dkI (setP k v r);rw[<- ih];unfold putT;rw[d0d,decide_eq_false ne,d4f];split
    ·rw[c8g,if_neg ne]
    ·rfl
theorem a6x(k:Int):∀{m:Po},(m.map c8J).Nodup->(valT (dkI m) (.inl k)).getD (.int 0)=.int (co m k)
 |[],_=>rfl
 | x::r,h=>by
   rw[c8g,c9J] at h
   show(valT ((.inl x.1,.int x.2)::dkI r) (.inl k)).getD (.int 0)=.int ((if x.1=k then x.2 else 0)+co r k)
   rw[a8A];by_cases e:x.1=k
   ·rw[if_pos (show(d0e x.1:Key)=.inl k by rw[e]),if_pos e,a3K (fun y hy z=>h.1 (by rw[e,<- z];exact c8q.mpr ⟨y,hy,rfl⟩)),d4O];rfl
   ·rw[if_neg (fun z=>e (d1o z)),if_neg e,d2p];exact a6x k h.2
theorem a7V{k:Int}:∀{m:Po},(m.map c8J).Nodup->k∈m.map c8J->valT (dkI m) (.inl k)=some (.int (co m k))
 |[],_,z=>by cases z
 | x::r,h,z=>by
   rw[c8g,c9J] at h
   show valT ((.inl x.1,.int x.2)::dkI r) (.inl k)=some (.int ((if x.1=k then x.2 else 0)+co r k))
   rw[a8A];by_cases e:x.1=k
   ·rw[if_pos (show(d0e x.1:Key)=.inl k by rw[e]),if_pos e,a3K (fun y hy z=>h.1 (by rw[e,<- z];exact c8q.mpr ⟨y,hy,rfl⟩)),d4O]
   ·rw[if_neg (fun z=>e (d1o z)),if_neg e,d2p];rw[c8g] at z;exact a7V h.2 ((c8n.mp z).resolve_left fun y=>e y.symm)
theorem b5r(k v:Int):∀{m:Po},(m.map c8J).Nodup->∀j,co (setP k v m) j=if j=k then v else co m j
 | [],_,j=>by
   show(if k=j then v else 0)+0=if j=k then v else 0
   by_cases e:j=k
   ·rw[if_pos e,if_pos e.symm];lia
   ·rw[if_neg e,if_neg (fun z=>e z.symm)];rfl
 | x::r,h,j=>by
   rw[c8g,c9J] at h
   show co (if x.1=k then (k,v)::r else x::setP k v r) j=if j=k then v else (if x.1=j then x.2 else 0)+co r j
   by_cases e:x.1=k
   ·rw[if_pos e]
    show(if k=j then v else 0)+co r j=_
    by_cases f:j=k
    ·rw[if_pos f,if_pos f.symm,a3K (fun y hy z=>h.1 (by rw[e,<- f,<- z];exact c8q.mpr ⟨y,hy,rfl⟩))];lia
    ·rw[if_neg f,if_neg (fun z=>f z.symm),if_neg (fun z=>f (z.symm.trans e))]
   ·rw[if_neg e]
    show(if x.1=j then x.2 else 0)+co (setP k v r) j=_
    rw[b5r k v h.2 j];by_cases f:j=k
    ·rw[if_pos f,if_pos f,if_neg (fun z=>e (z.trans f))];lia
    ·rw[if_neg f,if_neg f]
theorem b4X{m:Po}{ms:LSI}(hm:(m.map c8J).Nodup)(hp:ms.Perm (m.map c8J))(hs:ms.Pairwise (·<=·)):((ms.filter fun k=>decide (co m k≠0)).map fun k=>(k,co m k))=norm m:=by
 have hnd:ms.Nodup:=hp.nodup_iff.mpr hm;have hst:ms.Pairwise (·<·):=hs.imp₂ (fun a b h1 h2=>Int.lt_iff_le_and_ne.mpr ⟨h1,h2⟩) hnd
 have hc:CanP ((ms.filter fun k=>decide (co m k≠0)).map fun k=>(k,co m k)):=by
  refine⟨c9n.mpr (hst.filter _),fun x hx=>?_⟩;obtain⟨k,hk,rfl⟩:=c8q.mp hx;exact of_decide_eq_true (c9V.mp hk).2
 refine b2y hc (a1O m) fun k=>?_;rw[a9G];by_cases h:k∈ms/\co m k≠0
 ·exact b0T hc.1 (x:=(k,co m k)) (c8q.mpr ⟨k,c9V.mpr ⟨h.1,decide_eq_true h.2⟩,rfl⟩)
 ·rw[a3K]
  ·by_cases g:k∈ms
   ·exact(d4C.mp fun z=>h ⟨g,z⟩).symm
   ·exact(a3K fun x hx z=>g (hp.mem_iff.mpr (c8q.mpr ⟨x,hx,z⟩))).symm
  ·intro x hx z;obtain⟨j,hj,rfl⟩:=c8q.mp hx;obtain rfl:j=k:=z;exact h ⟨(c9V.mp hj).1,of_decide_eq_true (c9V.mp hj).2⟩
theorem a0W{K:PySem.W.Frag}{H:Hp}:Reps K H [] []:=by unfold Reps;rfl
theorem a0m{K:PySem.W.Frag}{H:Hp}{v:V}{t:T}{vs:List V}{ts:List T}(a:Rep K H v t)(b:Reps K H vs ts):Reps K H (v::vs) (t::ts):=by unfold Reps;exact⟨v,vs,rfl,a,b⟩
theorem a0X{K:PySem.W.Frag}{H:Hp}{u:Addr}{xs:List V}{its:Array c8t}{n:Nat}{sl:AOV}{ts:List T}(l:K.lookup u=some ⟨.type "tuple",none,.seq its n,sl⟩)(hz:its.size<=1000)(v:Vals xs its.toList)(r:Reps K H xs ts):Rep K H (.ref u) (.tup ts) :=
 a2d (.inr ⟨_,its,n,l,rfl,rfl,rfl,by rw[c9z];lia,v⟩) r
section
variable{X:Cx}
theorem a2i{x:Str}{a:Addr}{t:T}{pos:Pos}(c:X.mg x=some (.ref a)/\∀H,Rep X.K H (.ref a) t)(hg:Gl X x:=by rfl)(hd:QDD x:=by decide):HE X (.Name x pos) (tK t):=fun ρ M Q q=>(b4O (v:=.ref a) hg c.1 rfl hd).imp fun σ H Q2 ⟨hr,hh,en⟩=>en t _ M H Kp.refl hh (c.2 H) q
theorem b9Q{st:List Stmt}:HSs X st (fun _ _ _=>False):=fun D ρ M h=>h.elim
end
section
variable{X:Cx}{a b e:Expr}{pos:Pos}
noncomputable def c2P(t:TA3):TE3:=fun ρ M Q=>t ρ M fun xs M1=>match xs with
 |[.int i,.int j]=>(-(2^62)<=i/\i<2^62/\-(2^62)<=j/\j<2^62/\j-i<2^24)/\∀p,M1 p=none->Q (.adr p) (updM M1 p (.lst (a0L i (j-i).toNat)))
 |_=>False
theorem b3P{t:TA3}{p p' pos':Pos}(hm:X.mg "list"=none)(hm':X.mg "range"=none)(ha:HA X [a,b] t)(hc:X.calm=true:=by rfl)(hg:Gl X "list":=by rfl)(hg':Gl X "range":=by rfl)(hs:starEach [a,b] X.env=[(false,eval a X.env),(false,eval b X.env)]:=by rfl)(hs2:starEach [b] X.env=[(false,eval b X.env)]:=by rfl)
  (he:starEach [.Call (.Name "range" p') [a,b] [] pos'] X.env=(false,eval (.Call (.Name "range" p') [a,b] [] pos') X.env)::starEach [] X.env:=by rfl) :
  HE X (.Call (.Name "list" p) [.Call (.Name "range" p') [a,b] [] pos'] [] pos) (c2P t):=by
 intro ρ M Q h pins s σ H Q2 I bb;obtain⟨hr,hh,en⟩:=bb;refine c9o (a2Q I hg hm boot_list ?_ (by decide) (by decide));refine c8H ?_ he rfl;rw[he];refine c9E ?_
 refine d6e (a2Q I hg' hm' d2A (c8H (thn (ha ρ M _ h pos' pins s σ H (fun vs H1=>∃i j M1,vs=[V.int i,V.int j]/\HR X.K H1 M1/\Kp X.K H H1/\(-(2^62)<=i/\i<2^62/\-(2^62)<=j/\j<2^62/\j-i<2^24)/\∀p,M1 p=none->Q (.adr p) (updM M1 p (.lst (a0L i (j-i).toNat)))) I
  ⟨hr,hh,fun ts vs M1 H1 k1 h1 r1 q1=>by
   dsimp only at q1;split at q1
   ·rename_i i j;obtain⟨v,w',rfl,rv,rw'⟩:=c1l r1;obtain rfl:=a0v rv;obtain rfl:=a0v rw';exact⟨i,j,M1,rfl,h1,k1,q1.1,q1.2⟩
   ·exact q1.elim⟩) fun us s1 ⟨vs,H1,I1,rv,i,j,M1,e1,h1,k1,hj,q1⟩=>?_) (by rw[hs,hs2]) (by rw[hs2];rfl)))
 subst e1;obtain⟨u,u2,rfl,⟨t0,rfl⟩,t',rfl⟩:=rv.two;refine call_range_2 (c9Z ?_);have I2:Inv X pins σ H1 { s1 with heap:=s1.heap.push { cls:=.type "range",data:=.fields #[.int i t0,.int j t',.int 1 s1.toks] },toks:=s1.toks+1 }:=I1.kept fun b o e=>c8h _ e;have hn:c9f i j 1=(((j-i).toNat:Nat):Int):=by rw[d2Q];split<;>lia
 refine d5n (I1.ok.hd hc) (d2P ..) (d5h (by lia) (by lia) (by lia) (by lia)) hn (by lia) fun h' tk acc' c' kp e ito=>?_;have hz:(j-i).toNat<=sizeLine:=by rw[c9z];lia
 have vr:Vals (a1o i (j-i).toNat) acc'.toList:=by
  refine a3b (by unfold a1o;simp[ito.1]) fun k x ex=>?_;have hi:k<(j-i).toNat:=by have:=(c8k.mp ex).1;simpa [a1o] using this
  have hi':k<acc'.size:=by rw[ito.1];exact hi
  have ea:acc'[k]?=some acc'[k]:=c9M hi';obtain⟨tt,et⟩:=ito.2 k _ ea;refine⟨acc'[k],by rw[c9p];exact ea,?_⟩;unfold a1o at ex;rw[c8i,c9r hi] at ex;have:=c8z ex;subst this;exact⟨tt,by rw[et,d3M]⟩
 have I3:=I2.laid (a:={ s1 with heap:=s1.heap.push { cls:=.type "range",data:=.fields #[.int i t0,.int j t',.int 1 s1.toks] },toks:=s1.toks+1 }.heap.objs.size) (o:=.lst (a1o i (j-i).toNat)) (t':=tk) kp (c8d _)
  (show a1d X.prog X.w _ h' _ (.lst (a1o i (j-i).toNat)) from ⟨by unfold a1o;simpa using hz,acc'.toList,c',vr,by simpa using e⟩)
 have hf:=I2.hok.fresh (c8d _);exact⟨.ref _,_,I3,rfl,en _ _ _ _ (k1.trans (Kp.new hf)) (h1.newL hf (a6l i (j-i).toNat)) a1I (q1 _ (h1.free hf))⟩
end
section
variable{X:Cx}{Ha:Hp}{e:Expr}{te:TE3}{pos:Pos}
end
noncomputable def Wk(M1 M2:MH):Prop:=∀K H,HR K H M1->HR K H M2
noncomputable def tWk(t:TE3):TE3:=fun ρ M Q=>t ρ M fun x M1=>∃M2,Wk M1 M2/\Q x M2
theorem c7i{M:MH}{p:Addr}{kvs:List (Key×T)}(h:M p=some (.dk kvs)):Wk M (updM M p (.fk kvs)):=fun K H hh a o e=>by
 by_cases c:a=p
 ·subst c;rw[a0d] at e;cases e;obtain⟨xs,g1,g2⟩:=hh _ _ h;exact⟨xs,.inl g1,g2⟩
 ·rw[a0k c] at e;exact hh a o e
section
variable{X:Cx}
theorem h_wk{e:Expr}{t:TE3}(h:HE X e t):HE X e (tWk t):=fun ρ M Q q=>(h ρ M _ q).imp fun σ H Q2 ⟨hr,hh,en⟩=>⟨hr,hh,fun x v M1 H1 k1 h1 r1 ⟨M2,w,q1⟩=>en x v M2 H1 k1 (w _ _ h1) r1 q1⟩
theorem c4S{pins:PNS}{σ:St}{H:Hp}{s:c8u}(I:Inv X pins σ H s){p:Addr}{xs:List (Key×V)}(h:Rd H p (.dK xs)):xs.length<=sizeLine/\(p==sysModules)=false/\∃vs,KV xs vs/\s.heap.DictOf (a0C X.prog X.w) p vs:=by
 rcases h with h|⟨o,h⟩
 ·exact(show a1d X.prog X.w H s.heap p (.dK xs) from I.hok p _ h)
 ·exact(show s.heap.get? p=some o/\a1d X.prog X.w H s.heap p (.dK xs) from I.hok p _ h).2
end
section
variable{X:Cx}
end
section
variable{X:Cx}
end
theorem b6w{P P':c8G}{w w':c9d}{h:Heap}{a:Addr}{vs:List (Key×c8t)}(d:h.DictOf (a0C P w) a vs)(hi:∀x∈vs,∃i,x.1=.inl i):h.DictOf (a0C P' w') a vs:=by
 obtain⟨o,es,ep,h1,h2,h3,h4,h5,h6⟩:=d
 have hp:Pairs (a0C P' w') es.toList vs:=by
  have key:∀{l:List d5k} {m:List (Key×c8t)},Pairs (a0C P w) l m->Pairs (a0C P' w') l m:=fun {l m} q=>by
   induction q with
   |nil=>exact .nil
   |cons a b _ ih=>exact .cons a b ih
  exact key h5
 refine⟨o,es,ep,h1,h2,h3,fun e he=>?_,hp,h6⟩;obtain⟨k,hk,hh⟩:=h4 e he;refine⟨k,hk,?_⟩;obtain⟨j,hj,ej⟩:=Array.mem_iff_getElem.mp he;have hl:j<vs.length:=by rw[<- h5.length,c8K];exact hj
 obtain⟨k2,v2⟩:Key×c8t:=vs[j];have e1:=(h5.get? (i:=j) (e:=e) (k:=vs[j].1) (v:=vs[j].2) (by rw[c9p,c9M hj,ej]) (by rw[c8b hl])).1;have ek:k=vs[j].1:=(a0C P w).inj _ _ _ hk e1;obtain⟨i,hi⟩:=hi vs[j] (c9B hl)
 rw[ek,hi] at hh|-
 exact hh
section
variable{X:Cx}
theorem b1W{K:PySem.W.Frag}{H:Hp}:∀{xs:List (Key×V)} {p:Po},KRep K H xs (dkI p)->xs=p.map fun x=>(.inl x.1,V.int x.2)
 |[],[],_=>rfl
 |[],_::_,h=>h.elim
 |_::_,[],h=>h.elim
 | x::xs,y::p,h=>by
   have h1:x.1=.inl y.1:=h.1;have h2:x.2=.int y.2:=a0v h.2.1;rw[c8g,b1W (xs:=xs) (p:=p) h.2.2];congr 1;exact d6m h1 h2
theorem b9x:∀{p:Po} {vs:List (Key×c8t)},KV (p.map fun x=>((.inl x.1:Key),V.int x.2)) vs->(∀x∈vs,∃i,x.1=.inl i)/\∀k:Key,match valueAt vs k with|some v=>∃(i j:Int) (t:Tok),k=.inl i/\v=.int j t/\(i,j)∈p|none=>∀x∈p,k≠.inl x.1
 | [],vs,h=>by
   cases h;exact⟨fun _ z=>absurd z c8M,fun k=>fun _ z=>absurd z c8M⟩
 | x :: p,_,h=>by
   cases h with
   | @cons _ q _ qs h1 h2 =>
     obtain⟨i1,i2⟩:=b9x h2;obtain⟨a1,t,a2⟩:=h1;have hq1:q.1=.inl x.1:=a1.symm;refine⟨fun y hy=>?_,fun k=>?_⟩
     ·rcases c8n.mp hy with e|e
      ·rw[e];exact⟨_,hq1⟩
      ·exact i1 y e
     ·have e:valueAt (q::qs) k=if q.1=k then some q.2 else valueAt qs k:=by
       unfold valueAt;rw[c9h];by_cases c:q.1=k
       ·rw[if_pos c,decide_eq_true c];rfl
       ·rw[if_neg c,decide_eq_false c]
      rw[e];by_cases c:q.1=k
      ·rw[if_pos c];exact⟨x.1,x.2,t,by rw[<- c,hq1],a2,.head _⟩
      ·rw[if_neg c];have:=i2 k;split at this
       ·obtain⟨i,j,t,q1,q2,q3⟩:=this;exact⟨i,j,t,q1,q2,.tail _ q3⟩
       ·intro y hy;rcases c8n.mp hy with z|z
        ·rw[z,<- hq1];exact fun w=>c w.symm
        ·exact this y z
end
noncomputable def oneP(r c:Int):Po:=if r=c then [(0,1)] else []
noncomputable def upP:Po:=[(1,1)]
noncomputable def c2C:Po:=[(-1,1)]
noncomputable def lupP:Po:=[(0,1),(1,-1)]
noncomputable def b6d:Po:=[(-1,-1),(0,1)]
noncomputable def GdP(b B:Nat)(p:Po):Prop:=CanP p/\PwB b p/\N1 p<=B
theorem CanP.len{p:Po}(h:CanP p){b:Nat}(hb:PwB b p):p.length<=2*b+1:=by
 have h1:(p.map c8J).Nodup:=c9n.mpr (h.1.imp fun h z=>d1K h z)
 have h2:(p.map c8J).length<=(near b).length:=d0g h1 fun k hk=>by
  obtain⟨x,hx,rfl⟩:=c8q.mp hk;exact b1S (hb x hx)
 rwa [c8a,b1R] at h2
noncomputable def wl1(l:Int)(a b:Po):Po:=if 0<l then addP (a2V a lupP) b else a2V b c2C
noncomputable def wl2(l:Int)(a b:Po):Po:=if 0<l then a2V a upP else addP a (a2V b b6d)
noncomputable def wlP(ps:List Po)(l:Int):List Po:=ps.take (l.natAbs-1)++([wl1 l (ps.getD (l.natAbs-1) []) (ps.getD l.natAbs []),wl2 l (ps.getD (l.natAbs-1) []) (ps.getD l.natAbs [])]++ps.drop (l.natAbs+1))
theorem GdP.add{b B C:Nat}{p q:Po}(hp:GdP b B p)(hq:GdP b C q):GdP b (B+C) (addP p q):=⟨a1O _,c5d hp.2.1 hq.2.1,c8C (c0O p q) (d5z hp.2.2 hq.2.2)⟩
theorem GdP.mul{a b B C:Nat}{p q:Po}(hp:GdP a B p)(hq:GdP b C q):GdP (a+b) (B*C) (a2V p q):=⟨a1O _,c5c hp.2.1 hq.2.1,c8C (c0N p q) (d1m hp.2.2 hq.2.2)⟩
theorem GdP.mono{a b B C:Nat}{p:Po}(hp:GdP a B p)(h1:a<=b)(h2:B<=C):GdP b C p:=⟨hp.1,hp.2.1.mono h1,c8C hp.2.2 h2⟩
theorem c0b:GdP 1 1 upP:=⟨⟨by decide,by decide⟩,by unfold PwB;decide,by decide⟩
theorem b3S:GdP 1 1 c2C:=⟨⟨by decide,by decide⟩,by unfold PwB;decide,by decide⟩
theorem b2b:GdP 1 2 lupP:=⟨⟨by decide,by decide⟩,by unfold PwB;decide,by decide⟩
theorem a7L:GdP 1 2 b6d:=⟨⟨by decide,by decide⟩,by unfold PwB;decide,by decide⟩
theorem c1a{a b:Nat}{p q:Po}(hp:PwB a p)(hq:PwB b q):∀x∈p,∀y∈q,x.1+y.1∈near (a+b):=fun x hx y hy=>b1S (by
 have h1:=hp x hx;have h2:=hq y hy
 lia)
theorem b5P{a:Nat}{p:Po}(hp:PwB a p):∀x∈p,x.1∈near a:=fun x hx=>b1S (hp x hx)
theorem c7K{p:Po}{b B:Nat}(h:GdP b B p)(hB:B<2^64):∀x∈p,x.2.natAbs<2^64:=fun x hx=>c8D (c8C (b6H hx) h.2.2) hB
theorem c2n{b B:Nat}{l:Int}{p q:Po}(hp:GdP b B p)(hq:GdP b B q):GdP (b+1) (3*B) (wl1 l p q):=by
 unfold wl1;split
 ·exact((hp.mul b2b).add (hq.mono (by lia) (c8d _))).mono (c8d _) (by lia)
 ·exact(hq.mul b3S).mono (c8d _) (by lia)
theorem c2m{b B:Nat}{l:Int}{p q:Po}(hp:GdP b B p)(hq:GdP b B q):GdP (b+1) (3*B) (wl2 l p q):=by
 unfold wl2;split
 ·exact(hp.mul c0b).mono (c8d _) (by lia)
 ·exact((hp.mono (b:=b+1) (by lia) (c8d _)).add (hq.mul a7L)).mono (c8d _) (by lia)
theorem b7U{ps:List Po}{l:Int}(h1:1<=l.natAbs)(h2:l.natAbs<ps.length):(wlP ps l).length=ps.length:=by
 unfold wlP;rw[c8p,c8p,c9b,c9s];simp only[c8e,c9L];lia
theorem b3U{b B:Nat}{ps:List Po}(h:∀p∈ps,GdP b B p){i:Nat}(hi:i<ps.length):GdP b B (ps.getD i []):=h _ (by rw[c8l,c8b hi];exact c9B _)
theorem c0R{b B:Nat}{ps:List Po}{l:Int}(h:∀p∈ps,GdP b B p)(h1:1<=l.natAbs)(h2:l.natAbs<ps.length):∀p∈wlP ps l,GdP (b+1) (3*B) p:=fun p hp=>by
 unfold wlP at hp;have g0:=b3U h (i:=l.natAbs-1) (by lia);have g1:=b3U h (i:=l.natAbs) h2;rcases c8U.mp hp with z|z
 ·exact(h p (d0A z)).mono (by lia) (by lia)
 rcases c8U.mp z with z|z
 ·rcases c8n.mp z with e|z
  ·rw[e];exact c2n g0 g1
  ·rw[c8A.mp z];exact c2m g0 g1
 ·exact(h p (d1h z)).mono (by lia) (by lia)
noncomputable def idP(n:Int):List (List Po):=(a0I n).map fun r=>(a0I n).map fun c=>oneP r c
noncomputable def tabP(n:Int)(ws:LSI):List (List Po):=ws.foldl (fun rs l=>rs.map fun ps=>wlP ps l) (idP n)
noncomputable def b5x(n:Nat)(b B:Nat)(rs:List (List Po)):Prop:=rs.length=n/\∀ps∈rs,ps.length=n/\∀p∈ps,GdP b B p
theorem c2o(r c:Int):GdP 0 1 (oneP r c):=by
 unfold oneP;split
 ·exact⟨⟨by decide,by decide⟩,by unfold PwB;decide,by decide⟩
 ·exact⟨⟨by decide,by decide⟩,by unfold PwB;decide,by decide⟩
theorem c4J(n:Int):b5x n.toNat 0 1 (idP n):=by
 unfold idP;refine⟨by rw[c8a,a0J],fun ps hps=>?_⟩;obtain⟨r,_,rfl⟩:=c8q.mp hps;refine⟨by rw[c8a,a0J],fun p hp=>?_⟩;obtain⟨c,_,rfl⟩:=c8q.mp hp;exact c2o r c
theorem c0c{n b B:Nat}{rs:List (List Po)}(h:b5x n b B rs){l:Int}(h1:1<=l.natAbs)(h2:l.natAbs<n):b5x n (b+1) (3*B) (rs.map fun ps=>wlP ps l):=by
 refine⟨by rw[c8a];exact h.1,fun ps hps=>?_⟩;obtain⟨qs,hq,rfl⟩:=c8q.mp hps;obtain⟨g1,g2⟩:=h.2 qs hq;exact⟨by rw[b7U h1 (by rw[g1];exact h2)];exact g1,c0R g2 h1 (by rw[g1];exact h2)⟩
theorem b3R{n:Nat}:∀(ws:LSI) {b B:Nat} {rs:List (List Po)},b5x n b B rs->(∀l∈ws,1<=l.natAbs/\l.natAbs<n)->b5x n (b+ws.length) (3^ws.length*B) (ws.foldl (fun rs l=>rs.map fun ps=>wlP ps l) rs)
 | [],b,B,rs,h,_=>by
   show b5x n (b+0) (3^0*B) rs;rw[d5W,d2a];exact h
 | l::w,b,B,rs,h,hw=>by
   have h2:=b3R w (c0c h (hw l (.head _)).1 (hw l (.head _)).2) (fun x hx=>hw x (.tail _ hx));have e:3^w.length*(3*B)=3^(w.length+1)*B:=by rw[d5X,d5N]
   rw[e,d4p,d5U 1] at h2;exact h2
theorem b8h{n:Int}{ws:LSI}(hw:a0S n ws):b5x n.toNat ws.length (3^ws.length) (tabP n ws):=by
 have h:=b3R ws (c4J n) (fun l hl=>by obtain⟨a,b⟩:=hw l hl;exact⟨by lia,by lia⟩)
 rwa [d3r,d3V] at h
theorem b8g(n:Int)(ws:LSI)(l:Int):tabP n (ws++[l])=(tabP n ws).map fun ps=>wlP ps l:=by unfold tabP;rw[d0F];rfl
noncomputable def a2D(M:MH)(as:List Addr)(rs:List (List Po)):Prop:=as.length=rs.length/\∀(i:Nat) (a:Addr) (ps:List Po),as[i]?=some a->rs[i]?=some ps->M a=some (.lst (ps.map poT))
theorem a2D.sub{M M':MH}{as:List Addr}{rs:List (List Po)}(h:a2D M as rs)(s:Sub M M'):a2D M' as rs:=⟨h.1,fun i a l h1 h2=>s _ _ (h.2 i a l h1 h2)⟩
theorem a2D.nil{M:MH}:a2D M [] []:=⟨rfl,fun i a l z=>by simp at z⟩
theorem a2D.snoc{M:MH}{as:List Addr}{rs:List (List Po)}{a:Addr}{ps:List Po}(h:a2D M as rs)(ha:M a=some (.lst (ps.map poT))):a2D M (as++[a]) (rs++[ps]):=by
 refine⟨by rw[c8p,c8p,h.1];rfl,fun i b k h1 h2=>?_⟩;by_cases z:i<as.length
 ·rw[d0c z] at h1;rw[d0c (by rw[<- h.1];exact z)] at h2;exact h.2 i b k h1 h2
 ·rw[c8X (by lia)] at h1;rw[c8X (by rw[<- h.1];lia),<- h.1] at h2;obtain⟨l1,e1⟩:=c8k.mp h1;have e:i-as.length=0:=by rw[c9A] at l1;lia
  rw[e] at h1 h2;obtain rfl:=c8z h1;obtain rfl:=c8z h2;exact ha
noncomputable def FrP(M:MH)(as:List Addr):Prop:=∀a∈as,M a=none
theorem FrP.snoc{M:MH}{as:List Addr}{a:Addr}(h:FrP M as)(ha:M a=none):FrP M (as++[a]):=fun b hb=>by
 rcases c8U.mp hb with z|z
 ·exact h b z
 ·rw[c8A.mp z];exact ha
theorem a2D.nd{M:MH}{as:List Addr}{rs:List (List Po)}{a:Addr}(h:a2D M as rs)(hN:as.Nodup)(ha:M a=none):(as++[a]).Nodup:=d4D.mpr ⟨hN,c9D _ _,fun b hb c hc z=>by
 rw[c8A.mp hc] at z;obtain⟨q,hq⟩:=d3F hb;obtain⟨l,el⟩:∃l,rs[q]?=some l:=⟨_,c8b (by rw[<- h.1];exact(c8k.mp hq).1)⟩
 rw[<- z,h.2 q b l hq el] at ha;cases ha⟩
theorem c2K{M:MH}{p:Addr}{kvs:List (Key×T)}:Wk (updM M p (.dk kvs)) (updM M p (.fk kvs)):=by
 have h:=c7i (M:=updM M p (.dk kvs)) (p:=p) (kvs:=kvs) a0d
 have e:updM (updM M p (.dk kvs)) p (.fk kvs)=updM M p (.fk kvs):=by
  funext b;unfold updM;split<;>rfl
 rwa [e] at h
noncomputable abbrev Lp:={p:Po // CanP p}
noncomputable def toL(p:Po):Lp:=⟨norm p,a1O p⟩
theorem co_L(p:Po)(c:Int):co (toL p).1 c=co p c:=a9G p c
noncomputable def a4x(c:Nat)(rs:List (List Po)):List (List Po):=rs.map fun ps=>ps.take c++ps.drop (c+1)
noncomputable def sgnP:Nat->Po
 |0=>[(0,1)]
 |c+1=>a2V (sgnP c) [(0,-1)]
noncomputable def a9O(ps:List Po)(f:Nat->Po)(acc:Po)(c:Nat):Po:=if ps.getD c []=[] then acc else addP acc (a2V (a2V (ps.getD c []) (f c)) (sgnP c))
noncomputable def detP:Nat->List (List Po)->Po
 |0,_=>[]
 |_+1,[]=>[(0,1)]
 |k+1,ps::rs=>(c8I ps.length).foldl (a9O ps fun c=>detP k (a4x c rs)) []
noncomputable def dB(B:Nat):Nat->Nat
 |0=>1
 |m+1=>(m+1)*(B*dB B m)
theorem b0Q{α:Type}(f:α->Nat->α)(z:α)(c:Nat):(c8I (c+1)).foldl f z=f ((c8I c).foldl f z) c:=by rw[d2b,d0F];rfl
noncomputable def c4N:Po->Po
 |[]=>[]
 |x::p=>a2V (x::p) [(-x.1,if 0<x.2 then 1 else -1)]
noncomputable def a5K(n:Int)(ws:LSI):List (List Po):=(c8I (n.toNat-1)).map fun r=>(c8I (n.toNat-1)).map fun c=>addP (oneP ((r+1:Nat):Int) ((c+1:Nat):Int)) (a2V (((tabP n ws).getD (r+1) []).getD (c+1) []) [(0,-1)])
noncomputable def b0f(n:Int)(ws:LSI):Po:=c4N (detP n.toNat (a5K n ws))
theorem b5Q(k c:Int):∀p:Po,(putP k c p).length<=p.length+1
 | []=>by
   show(if c=0 then [] else [(k,c)]).length<=1
   split
   ·exact c9j _
   ·exact c8d _
 | x :: r=>by
   have ih:=b5Q k c r
   show(if k<x.1 then (if c=0 then x::r else (k,c)::x::r) else if k=x.1 then (if x.2+c=0 then r else (k,x.2+c)::r) else x::putP k c r).length<=r.length+1+1
   split
   ·split
    ·rw[c8e];lia
    ·rw[c8e,c8e];lia
   ·split
    ·split
     ·lia
     ·rw[c8e];lia
    ·rw[c8e];lia
theorem b5Z:∀p:Po,(norm p).length<=p.length
 |[]=>c8d _
 |x::r=>c8C (b5Q x.1 x.2 (norm r)) (d5b (b5Z r))
theorem b8K(c:Int×Int):∀p:Po,(rawM p [c]).length=p.length
 |[]=>rfl
 | x::p=>by
   show([(x.1+c.1,x.2*c.2)]++rawM p [c]).length=p.length+1;rw[c8p,b8K c p];show 1+p.length=p.length+1;lia
theorem c0j(p:Po):(c4N p).length<=p.length:=by
 cases p with
 |nil=>exact c8d _
 | cons x p =>
   refine c8C (b5Z _) ?_;rw[b8K];exact c8d _
section
variable{P:c8G}{w:c9d}{A:c8Z}{E:VPR}{s:c8u}
theorem b9y{kvs:List (Key×c8t)}{ns:LSI}(hk:kvs.map (·.1)=ns.map d0e){i:Nat}{v:c8t}(h:∃k x,kvs[i]?=some (k,x)/\(a0C P w).is k v=true):∃t,v=.int (ns.getD i 0) t:=by
 obtain⟨k,x,e1,e2⟩:=h;have e3:(kvs.map (·.1))[i]?=some k:=by rw[c8i,e1];rfl
 rw[hk,c8i] at e3;rw[c8l];cases en:ns[i]? with
 |none=>rw[en] at e3;cases e3
 | some n =>
   rw[en] at e3;have e4:d0e n=k:=c8z e3;subst e4;rw[a7G] at e2;rcases a0U e2 with ⟨j,t,z1,z2⟩|⟨j,t,z1,z2⟩
   ·cases z1;exact⟨t,z2⟩
   ·cases z1
end
section
variable{X:Cx}
noncomputable def c5N:R3:=fun x y M Q=>match x,y with
 |.adr a,.adr b=>∃p:Po,M a=some (.fk (dkI p))/\M b=some (.fk (dkI []))/\Q (.bl p.isEmpty) M
 |_,_=>False
theorem c1P(hu:X.A.units+64<cLine):OpR3 X (compareOp .Eq) c5N:=by
 intro pins s σ H x y v u Q2 I rx ry q;obtain⟨a,b,M,Q,r1,r2,hh,q,en⟩:=q;unfold c5N at q;split at q
 ·obtain⟨p,e1,e2,q⟩:=q;obtain⟨xs,h1,h2⟩:=hh _ _ e1;obtain⟨ys,g1,g2⟩:=hh _ _ e2;obtain rfl:=a0q r1;obtain rfl:=a0q r2;cases rx;cases ry;obtain⟨_,la,vs,kv,dv⟩:=c4S I h1;obtain⟨_,lb,us,ku,du⟩:=c4S I g1;rw[b1W h2] at kv;rw[b1W g2] at ku;have hl:=kv.length;have hl2:=ku.length;rw[c8a] at hl hl2;refine PySem.W.keq_eq (r:=true) (knd:=a0C X.prog X.w) la lb (b6w dv (b9x kv).1) (b6w du (b9x ku).1) (by lia) (fun z=>?_) ?_
  ·have:vs=[]:=c9e (by rw[z,<- hl2];rfl);subst this;exact .nil
  ·have e:(vs.length==us.length&&true)=p.isEmpty:=by
    rw[<- hl,<- hl2];cases p<;>rfl
   rw[e];exact⟨.bl _,H,I,rfl,en _ _ M H Kp.refl hh a1M q⟩
 ·exact q.elim
end
section
variable{R:Type}[Lean.Grind.CommRing R]
end
noncomputable def c7f(a b:Int)(x:Lp):Prop:=∀c,co x.1 c≠0->a<=c/\c<=b
theorem c7f.of{a b:Int}{p:Po}(h:∀z∈p,a<=z.1/\z.1<=b):c7f a b (toL p):=fun c hc=>by
 rw[co_L] at hc;by_cases z:∃y∈p,y.1=c
 ·obtain⟨y,hy,rfl⟩:=z;exact h y hy
 ·exact absurd (a3K fun y hy e=>z ⟨y,hy,e⟩) hc
section
variable{P:c8G}{w:c9d}{A:c8Z}{E:VPR}{s:c8u}
theorem c1T{d:Addr}{kvs:List (Key×c8t)}{ep:Nat}{ns:LSI}{Q:VPR}(hA:A.handled=none)(hd:s.heap.DictAt (a0C P w) d kvs ep)(lo:(d==sysModules)=false)(hk:kvs.map (·.1)=ns.map d0e)(hne:0<ns.length)
  (h:∀h' m (t:Tok) tk,(∀b o,s.heap.get? b=some o->h'.get? b=some o)->m∈ns->(∀a∈ns,a<=m)->Q (.int m t) { s with heap:=h',toks:=tk }) :
  wpAny (model P w) A (call (.builtin "max") [.ref d]) Q E s:=by
 have hl:kvs.length=ns.length:=by
  have:=congrArg d0o hk
  rwa [c8a,c8a] at this
 have hlt:d<s.heap.objs.size:=by obtain⟨_,_,e,_⟩:=hd;exact c8o e
 refine call_max_walk (wpAny_pyIter_dict lo hd ?_);refine⟨_,_,_,_,_,_,_,rfl,Walks.dictKeys (knd:=a0C P w) (A:=A.in1) hA s.heap.objs.size d (c8P hlt) kvs ep,⟨⟨_,c8E _ rfl,rfl,rfl⟩,hd.at' fun o e=>c8h _ e⟩,fun b hb=>?_,by lia,CmpOf.ints_gt (fun i=>ns.getD i 0) (fun i v hv=>b9y hk hv),fun v h' tk hP hkp=>?_⟩
 ·show b<(s.heap.push _).objs.size;rw[d0N];rcases c8n.mp hb with rfl|hb
  ·exact d0h _
  ·rcases c8n.mp hb with rfl|hb
   ·exact Nat.lt_succ_of_lt hlt
   ·cases hb
 ·obtain⟨t,rfl⟩:=b9y hk hP;obtain⟨h1,h2⟩:=argBest_gt (fun i=>ns.getD i 0) (kvs.length-1);refine h _ _ t tk (fun b o eb=>hkp b o (fun hm=>?_) (c8h _ eb)) ?_ fun a ha=>?_
  ·rcases c8n.mp hm with e1|hm
   ·exact absurd (e1▸c8o eb) (c9x _)
   ·cases hm
  ·exact c0e (by lia)
  ·obtain⟨j,hj,rfl⟩:=mem_getD ha;exact h2 j (by lia)
end
section
variable{X:Cx}{e f:Expr}
noncomputable def b8L:List T->MH->VK3->Prop:=fun xs M Q=>match xs with
 |[.adr p]=>(match M p with|some (.fk kvs)=>∃ns:LSI,kvs.map c8J=ns.map d0e/\0<ns.length/\∀m:Int,m∈ns->(∀a∈ns,a<=m)->Q (.int m) M|_=>False)
 |_=>False
theorem b7P(hc:X.calm=true):a3w X (.builtin "max") b8L:=by
 intro pins s σ H vs us Q2 I r h;obtain⟨xs,M,Q,rr,hh,q,en⟩:=h;unfold b8L at q;split at q
 ·obtain⟨v,rfl,r1⟩:=a1L rr;obtain rfl:=a0q r1;obtain⟨u,rfl,rx⟩:=a3o r;cases rx;split at q
  ·rename_i kvs e0;obtain⟨ns,hk,hne,q⟩:=q;obtain⟨kv,g1,g2⟩:=hh _ _ e0;obtain⟨kz,lo,vs,r1,dd⟩:=c4S I g1;obtain⟨ep,da⟩:=dd.dictAt
   have e1:vs.map (·.1)=ns.map d0e:=by
    rw[<- r1.keys];exact(a2g g2).trans hk
   exact c1T (I.ok.hd hc) da lo e1 hne fun h' m t tk k m1 m2=>⟨.int m,H,I.kept k,⟨_,rfl⟩,en _ _ M H Kp.refl hh a0x (q m m1 m2)⟩
  ·exact q.elim
 ·exact q.elim
noncomputable def b6l(M:MH)(x:T):Prop:=match x with
 |.adr p=>(match M p with|some (.fk _)=>True|_=>False)
 |_=>False
noncomputable def c5s(td tk tx:TE3):TE3:=fun ρ M Q=>td ρ M fun x M1=>b6l M1 x/\tk ρ M1 fun k M2=>tx ρ M2 fun z M3=>match x with
 | .adr p=>(match M3 p with
   |some (.fk kvs)=>∃kk,k=keyT kk/\Q ((valT kvs kk).getD z) M3
   |_=>False)
 |_=>False
theorem b9J{K:PySem.W.Frag}{H:Hp}{M:MH}{x:T}{v:V}(hh:HR K H M)(r:Rep K H v x)(d:b6l M x):∃a,v=.ref a/\IsD H a:=by
 cases x with
 | adr p =>
   obtain rfl:=a0q r;unfold b6l at d;dsimp only at d;cases e:M p with
   |none=>rw[e] at d;exact d.elim
   | some o =>
     rw[e] at d;cases o with
     |fk kvs=>obtain⟨xs,g1,_⟩:=hh _ _ e;exact⟨p,rfl,.inl ⟨xs,g1⟩⟩
     |_=>exact d.elim
 |_=>exact d.elim
theorem c6T{o:Expr}{td tk tx:TE3}{apos cpos:Pos}(hu:X.A.units+64<cLine)(ho:HE X o td)(he:HE X e tk)(hf:HE X f tx)
  (m1:attributeBase o "get" X.env (eval o X.env)=eval o X.env:=by rfl)
  (m2:((backTo cpos (starEach [e,f] X.env)).all (fun x=>!x.1)&&(backToKw cpos (keywordEach [] X.env)).all (fun x=>x.1.isSome)
   && decide (([e,f]:LSE).length+([]:List d1v).length+(if ([]:List d1v).isEmpty then 0 else 1)<30))=true:=by rfl)
  (m3:QLL apos cpos:=by rfl) (m4:backTo cpos (starEach [e,f] X.env)=[(false,eval e X.env),(false,eval f X.env)]:=by rfl) :
  HE X (.Call (.Attribute o "get" apos) [e,f] [] cpos) (c5s td tk tx):=fun ρ M Q h =>
 (b5U (by lia) (ho.d (ρ:=ρ)) (he.d (ρ:=ρ)) (hf.d (ρ:=ρ)) ⟨m1,m2,m3,m4⟩).imp fun σ H Q2 ⟨hr,hh,en⟩=>⟨M,_,h,hr,hh,fun x v M1 H1 k1 h1 r1 q1=>by
  obtain⟨hd,q1⟩:=q1;obtain⟨a,rfl,isd⟩:=b9J h1 r1 hd;refine⟨a,rfl,isd,M1,_,q1,hr.kp k1,h1,fun y v2 M2 H2 k2 h2 r2 q2=>⟨M2,_,q2,hr.kp (k1.trans k2),h2,fun z v3 M3 H3 k3 h3 r3 q3=>?_⟩⟩;cases x with
  | adr p =>
    cases r1;dsimp only at q3;split at q3
    ·rename_i kvs e;obtain⟨kk,rfl,q3⟩:=q3;obtain rfl:=a3I r2;obtain⟨xs,g1,g2⟩:=h3 _ _ e;refine⟨_,.inl ⟨xs,kk,g1,rfl,rfl⟩,en _ _ M3 H3 ((k1.trans k2).trans k3) h3 ?_ q3⟩;have hv:=g2.val kk;cases ev:valT kvs kk with
     |none=>rw[ev] at hv;rw[hv];exact r3
     | some t =>
       rw[ev] at hv;obtain⟨u,e1,e2⟩:=hv;rw[e1];exact e2
    ·exact q3.elim
  |_=>exact hd.elim⟩
end
section
variable{X:Cx}{e:Expr}{te:TE3}{p p2 pos pos2:Pos}
end
section
variable{X:Cx}
end
section
variable{X:Cx}{pos:Pos}
end
section
variable{X:Cx}{pos:Pos}
end
section
variable{P:c8G}{w:c9d}{A:c8Z}{E:VPR}{s:c8u}
end
section
variable{X:Cx}
end
noncomputable def rInK(f:Bool->Bool):R3:=fun x y M Q=>match y with
 | .adr p=>(match M p with
   |some (.dk kvs)=>∃kk,x=keyT kk/\Q (.bl (f (valT kvs kk).isSome)) M
   |_=>False)
 |_=>False
theorem b3F{κ:Type}[DecidableEq κ]{K:PySem.W.Frag}{H:Hp}{xs:List (κ×V)}{kvs:List (κ×T)}(h:KRep K H xs kvs)(k:κ):(valV xs k).isSome=(valT kvs k).isSome:=by
 have:=h.val k;cases e:valT kvs k with
 |none=>rw[e] at this;rw[this];rfl
 |some t=>rw[e] at this;obtain⟨v,e1,_⟩:=this;rw[e1];rfl
noncomputable def c0r(kvs:List (Key×T))(k:Key):List (Key×T):=kvs.filter fun kv=>decide (kv.1≠k)
theorem b3G{K:PySem.W.Frag}{H:Hp}(k:Key):∀{xs:List (Key×V)} {kvs:List (Key×T)},KRep K H xs kvs->KRep K H (b3Z xs k) (c0r kvs k)
 |[],[],_=>trivial
 | p::r,q::u,h=>by
   have ih:=b3G k h.2.2
   unfold b3Z c0r at ih|-
   rw[d0L,d0L,h.1];by_cases c:q.1=k
   ·rw[if_neg (by simpa using c),if_neg (by simpa using c)];exact ih
   ·rw[if_pos (by simpa using c),if_pos (by simpa using c)];exact⟨h.1,h.2.1,ih⟩
 |[],q::u,h=>h.elim
 |p::r,[],h=>h.elim
noncomputable def c5o(td tk:TE3):TE3:=fun ρ M Q=>td ρ M fun x M1=>b9K M1 x/\tk ρ M1 fun k M2=>match x with
 | .adr p=>(match M2 p with
   |some (.dk kvs)=>∃kk t,k=keyT kk/\valT kvs kk=some t/\Q t (updM M2 p (.dk (c0r kvs kk)))
   |_=>False)
 |_=>False
section
variable{X:Cx}
theorem c4p(hu:X.A.units+64<cLine):OpR3 X (compareOp .In) (rInK id):=by
 intro pins s σ H x y v u Q2 I rx ry q;obtain⟨a,b,M,Q,r1,r2,hh,q,en⟩:=q;unfold rInK at q;split at q
 ·split at q
  ·rename_i kvs e;obtain⟨kk,rfl,q⟩:=q;obtain rfl:=a0q r2;obtain rfl:=a3I r1;obtain⟨xs,g1,g2⟩:=hh _ _ e;cases ry;refine d_in (by lia) I (DGet.k (k:=kk) g1) rx fun s' I'=>⟨.bl _,H,I',rfl,en _ _ M H Kp.refl hh a1M ?_⟩;rw[b3F g2 kk];exact q
  ·exact q.elim
 ·exact q.elim
theorem b7g(hu:X.A.units+64<cLine):OpR3 X (compareOp .NotIn) (rInK not):=by
 intro pins s σ H x y v u Q2 I rx ry q;obtain⟨a,b,M,Q,r1,r2,hh,q,en⟩:=q;unfold rInK at q;split at q
 ·split at q
  ·rename_i kvs e;obtain⟨kk,rfl,q⟩:=q;obtain rfl:=a0q r2;obtain rfl:=a3I r1;obtain⟨xs,g1,g2⟩:=hh _ _ e;cases ry;refine c4U (by lia) I (DGet.k (k:=kk) g1) rx fun s' I'=>⟨.bl _,H,I',rfl,en _ _ M H Kp.refl hh a1M ?_⟩;rw[b3F g2 kk];exact q
  ·exact q.elim
 ·exact q.elim
theorem c3d{o e:Expr}{td tk:TE3}{apos cpos:Pos}(ho:HE X o td)(he:HE X e tk) 
  (m1:attributeBase o "pop" X.env (eval o X.env)=eval o X.env:=by rfl)
  (m2:((backTo cpos (starEach [e] X.env)).all (fun x=>!x.1)&&(backToKw cpos (keywordEach [] X.env)).all (fun x=>x.1.isSome)
   && decide (([e]:LSE).length+([]:List d1v).length+(if ([]:List d1v).isEmpty then 0 else 1)<30))=true:=by rfl)
  (m3:QLL apos cpos:=by rfl) (m4:backTo cpos (starEach [e] X.env)=[(false,eval e X.env)]:=by rfl):HE X (.Call (.Attribute o "pop" apos) [e] [] cpos) (c5o td tk):=fun ρ M Q h =>
 (c1H (ho.d (ρ:=ρ)) (he.d (ρ:=ρ)) ⟨m1,m2,m3,m4⟩).imp fun σ H Q2 ⟨hr,hh,en⟩=>⟨M,_,h,hr,hh,fun x v M1 H1 k1 h1 r1 q1=>by
  obtain⟨hd,q1⟩:=q1;obtain⟨a,rfl,isd⟩:=b6k h1 r1 hd;refine⟨a,rfl,isd,M1,_,q1,hr.kp k1,h1,fun y v2 M2 H2 k2 h2 r2 q2=>?_⟩;cases x with
  | adr p =>
    cases r1;dsimp only at q2;split at q2
    ·rename_i kvs e0;obtain⟨kk,t,rfl,ev,q2⟩:=q2;obtain rfl:=a3I r2;obtain⟨xs,g1,g2⟩:=h2 _ _ e0;have hv:=g2.val kk;rw[ev] at hv;obtain⟨u,e1,e2⟩:=hv;have kk':=Kp.dict (K:=X.K) (u:=.dK (b3Z xs kk)) g1 (.inl ⟨_,rfl⟩);exact⟨xs,kk,u,g1,rfl,e1,en _ _ _ _ ((k1.trans k2).trans kk') (h2.setK g1 (.inl ⟨_,rfl⟩) (b3G kk g2)) (Rep.kp kk' _ _ e2) q2⟩
    ·exact q2.elim
  |_=>exact hd.elim⟩
end
section
end
section
end
section
end
section
end
section
variable{X:Cx}
end
structure DfXA(P:c8G)(w:c9d)(K:PySem.W.Frag)(mg:SOV)(base:Heap)(n:Nat)(f:Addr)(ps:LSS)(sp:Sp3X):Prop where
 out:∃fd,FnOk P w K mg base (CXE P w) n f fd ps (dSpX K mg sp)/\PySem.W.keepIn K (.ref f)=true/\a3n K fd ps []
section
variable{X:Cx}{Ha:Hp}{o i e:Expr}{es:LSE}{tc:TE3}{t:TA3}{p2 pos:Pos}
end
section
variable{m:Nat}(h1:1<=m)(h5:m<=5)
include h1 h5
end
section
end
end L2
namespace L2
open PySem PySem.Spec PyProof.Rows
section
variable{prog:c8G}{w:c9d}{A:c8Z}{E:VPR}{s:c8u}{z:Array Keyed}{k:c8t->Int}{c:SortKind}
end
section
variable{prog:c8G}{w:c9d}{A:c8Z}{E:VPR}{s:c8u}
end
section
variable{prog:c8G}{w:c9d}{A:c8Z}{E:VPR}{s:c8u}
end
section
variable{X:Cx}{pins:PNS}{σ:St}{H:Hp}{s:c8u}
end
section
variable{X:Cx}
end
theorem b6g{K:PySem.W.Frag}{H:Hp}{f:Str}{t:T}:∀{xs:List (Str×V)} {fs:List (Str×T)},KRep K H xs fs->fs.lookup f=some t->∃v,xs.lookup f=some v/\Rep K H v t
 |[],[],_,e=>by simp at e
 | p::r,q::u,h,e=>by
   obtain⟨h1,h2,h3⟩:=h;obtain⟨a,v⟩:=p;obtain⟨b,t'⟩:=q;dsimp only at h1 h2;subst h1;by_cases c:f=a
   ·have hb:(f==a)=true:=beq_iff_eq.mpr c
    simp only[d0x,hb] at e|-
    obtain rfl:=c8z e;exact⟨v,rfl,h2⟩
   ·have hb:(f==a)=false:=beq_eq_false_iff_ne.mpr c
    simp only[d0x,hb] at e|-
    exact b6g h3 e
 |[],q::u,h,_=>h.elim
 |p::r,[],h,_=>h.elim
theorem b1V{K:PySem.W.Frag}{H:Hp}{f:Str}:∀{xs:List (Str×V)} {fs:List (Str×T)},KRep K H xs fs->fs.lookup f=none->xs.lookup f=none
 |[],[],_,_=>rfl
 | p::r,q::u,h,e=>by
   obtain⟨h1,h2,h3⟩:=h;obtain⟨a,v⟩:=p;obtain⟨b,t'⟩:=q;dsimp only at h1 h2;subst h1;by_cases c:f=a
   ·have hb:(f==a)=true:=beq_iff_eq.mpr c;simp only[d0x,hb] at e;cases e
   ·have hb:(f==a)=false:=beq_eq_false_iff_ne.mpr c
    simp only[d0x,hb] at e|-
    exact b1V h3 e
 |[],q::u,h,_=>h.elim
 |p::r,[],h,_=>h.elim
noncomputable def c1u(f:Str)(t:T):List (Str×T)->List (Str×T)
 |[]=>[(f,t)]
 |(g,x)::r=>if g=f then (g,t)::r else (g,x)::c1u f t r
theorem b6f{K:PySem.W.Frag}{H:Hp}{f:Str}{v:V}{t:T}(rv:Rep K H v t):∀{xs:List (Str×V)} {fs:List (Str×T)},KRep K H xs fs->KRep K H (putF f v xs) (c1u f t fs)
 |[],[],_=>⟨rfl,rv,trivial⟩
 | (a,y)::r,(b,u)::s,h=>by
   obtain⟨h1,h2,h3⟩:=h;dsimp only at h1 h2;subst h1
   show KRep K H (if a=f then (a,v)::r else (a,y)::putF f v r) (if a=f then (a,t)::s else (a,u)::c1u f t s)
   by_cases c:a=f
   ·rw[if_pos c,if_pos c];exact⟨rfl,rv,h3⟩
   ·rw[if_neg c,if_neg c];exact⟨rfl,h2,b6f rv h3⟩
 |[],q::u,h=>h.elim
 |p::r,[],h=>h.elim
theorem Kp.ob{K:PySem.W.Frag}{H:Hp}{a C dx:Addr}{fs:List (Str×V)}{o:HO}(e:H a=some (.ins C dx fs)):Kp K H (upd H a o):=by
 have hn:∀b u,H b=some u->(∀C' dx' fs',u≠.ins C' dx' fs')->upd H a o b=some u:=fun b u hb hu=>by
  rw[a0B (fun z=>by rw[z,e] at hb;cases hb;exact hu _ _ _ rfl)];exact hb
 refine⟨fun b xs h=>?_,fun b o' u h=>hn _ _ h (by intro _ _ _ z;cases z),fun b xs h=>hn _ _ h (by intro _ _ _ z;cases z)⟩;rcases h with (h|⟨o',h⟩)|h
 ·exact .inl (.inl (hn _ _ h (by intro _ _ _ z;cases z)))
 ·exact .inl (.inr ⟨o',hn _ _ h (by intro _ _ _ z;cases z)⟩)
 ·exact .inr h
noncomputable def c5u(C:Addr)(to:TE3)(f:Str):TE3:=fun ρ M Q=>to ρ M fun x M1=>match x with
 |.adr a=>(match M1 a with|some (.ob D fs)=>D=C/\∃t,fs.lookup f=some t/\Q t M1|_=>False)
 |_=>False
noncomputable def c5J(C:Addr)(to tv:TE3)(f:Str):TS3:=fun D ρ M=>tv ρ M fun y M1=>to ρ M1 fun x M2=>match x with
 |.adr a=>(match M2 a with|some (.ob E fs)=>E=C/\fs.length<1000/\D.nx ρ (updM M2 a (.ob E (c1u f y fs)))|_=>False)
 |_=>False
section
variable{X:Cx}{o value:Expr}{f:Str}{pos pos':Pos}{to tv:TE3}{C:Addr}
theorem b5h(c:Cls X.K C)(n:a7m X.K C f)(ho:HE X o to)(hb:attributeBase o f X.env (eval o X.env)=eval o X.env:=by rfl):HE X (.Attribute o f pos) (c5u C to f):=fun ρ M Q h =>
 (c6g (ho.d (ρ:=ρ)) hb).imp fun σ H Q2 ⟨hr,hh,en⟩=>⟨M,_,h,hr,hh,fun x v M1 H1 k1 h1 r1 q1=>by
  dsimp only at q1;split at q1
  ·rename_i a;obtain rfl:=a0q r1;split at q1
   ·rename_i D fs e;obtain⟨rfl,t,el,q1⟩:=q1;obtain⟨dx,xs,g1,g2⟩:=h1 _ _ e;obtain⟨v,ev,rv⟩:=b6g g2 el;exact⟨a,_,dx,xs,v,rfl,g1,c,n,ev,en _ _ M1 H1 k1 h1 rv q1⟩
   ·exact q1.elim
  ·exact q1.elim⟩
theorem c7s(c:Cls X.K C)(n:a7m X.K C f)(ho:HE X o to)(hv:HE X value tv)(hs:swapsWith value (some (.Attribute o f pos')) pos.line X.env=pure false:=by rfl):HS X (.Assign [.Attribute o f pos'] value pos) (c5J C to tv f):=fun D ρ M h =>
 (c5U (ho.d (ρ:=ρ)) (hv.d (ρ:=ρ)) hs).imp fun D2 σ H ⟨hr,hh,en⟩=>⟨M,_,h,hr,hh,fun y w M1 H1 k1 h1 r1 q1=>⟨M1,_,q1,hr.kp k1,h1,fun x v M2 H2 k2 h2 r2 q2=>by
  dsimp only at q2;split at q2
  ·rename_i a;obtain rfl:=a0q r2;split at q2
   ·rename_i E fs e;obtain⟨rfl,l,q2⟩:=q2;obtain⟨dx,xs,g1,g2⟩:=h2 _ _ e;have kk:Kp X.K H2 (upd H2 a (.ins E dx (putF f w xs))):=Kp.ob g1;refine⟨a,_,dx,xs,rfl,g1,c,n,by rw[g2.length];exact l,?_⟩;refine en.nx ρ _ σ _ ((k1.trans k2).trans kk) (hr.kp ((k1.trans k2).trans kk)) (fun b u eb=>?_) q2;by_cases hb:b=a
    ·subst hb;rw[a0d] at eb;cases eb;exact⟨dx,_,a0O,(b6f (Rep.kp k2 _ _ r1) g2).kp kk⟩
    ·rw[a0k hb] at eb;exact(h2 b u eb).kp kk fun u _ q=>by rw[a0B hb];exact q
   ·exact q2.elim
  ·exact q2.elim⟩⟩
end
noncomputable def b8k(C:Addr)(m:Str)(sp:Sp3)(to:TE3)(t:TA3):TE3:=fun ρ M Q=>to ρ M fun x M1=>match x with
 |.adr a=>(match M1 a with|some (.ob D fs)=>D=C/\fs.lookup m=none/\t ρ M1 fun ts M2=>sp (.adr a::ts) M2 Q|_=>False)
 |_=>False
section
variable{X:Cx}{o e:Expr}{es:LSE}{m:Str}{pos apos:Pos}{to:TE3}{t:TA3}{C g:Addr}{n:Nat}{ps:LSS}{sp:Sp3}
theorem a8r{K:PySem.W.Frag}{H:Hp}{a:Addr}{vs:List V}{ts:List T}(r:Reps K H vs ts):Reps K H (.ref a::vs) (.adr a::ts):=by
 unfold Reps;exact⟨_,_,rfl,a1I,r⟩
theorem b9V{pl:Sem Bool}(c:Cls X.K C)(hm:Meth X.K C m g)(D:DfA X.prog X.w X.K X.mg X.base n g ps sp)(hr:Room n X.A)(ho:HE X o to)(ha:HA X (e::es) t)
  (hst:QSS X e es:=by rfl) (hpl:QPP X pos es:=by rfl)
  (ht:eval (.Call (.Attribute o m apos) (e::es) [] pos) X.env=(do
   let ov <- eval o X.env
   standAt apos.atName
   let (f,first) <- holding [ov] (getMethod ov m pl)
   callWith pos f first (backTo pos (starEach (e::es) X.env)) (backToKw pos (keywordEach [] X.env))):=by rfl) :
  HE X (.Call (.Attribute o m apos) (e::es) [] pos) (b8k C m sp to t):=fun ρ M Q h=>by
 obtain⟨fd,F,hk,hb⟩:=D.out
 exact(c4f (ho.d (ρ:=ρ)) c hm F hr hb .nil c1L (ha.d (ρ:=ρ)) hst hpl ht).imp fun σ H Q2 ⟨hrr,hh,en⟩=>⟨M,_,h,hrr,hh,fun x v M1 H1 k1 h1 r1 q1=>by
  dsimp only at q1;split at q1
  ·rename_i a;obtain rfl:=a0q r1;split at q1
   ·rename_i D fs e0;obtain⟨rfl,el,q1⟩:=q1;obtain⟨dx,xs,g1,g2⟩:=h1 _ _ e0;exact⟨a,dx,xs,rfl,g1,b1V g2 el,M1,_,q1,hrr.kp k1,h1,fun ts vs M2 H2 k2 h2 r2 q2=>⟨.adr a::ts,M2,Q,by rw[c8R];exact a8r r2,h2,q2,en.kp (k1.trans k2)⟩⟩
   ·exact q1.elim
  ·exact q1.elim⟩
theorem b9U{pl:Sem Bool}(c:Cls X.K C)(hm:Meth X.K C m g)(D:DfA X.prog X.w X.K X.mg X.base n g ps sp)(hr:Room n X.A)(ho:HE X o to)
  (ht:eval (.Call (.Attribute o m apos) [] [] pos) X.env=(do
   let ov <- eval o X.env
   standAt apos.atName
   let (f,first) <- holding [ov] (getMethod ov m pl)
   callWith pos f first (backTo pos (starEach [] X.env)) (backToKw pos (keywordEach [] X.env))):=by rfl) :
  HE X (.Call (.Attribute o m apos) [] [] pos) (b8k C m sp to c0Y):=fun ρ M Q h=>by
 obtain⟨fd,F,hk,hb⟩:=D.out
 exact(c1E (ho.d (ρ:=ρ)) c hm F hr hb .nil c1L ht).imp fun σ H Q2 ⟨hrr,hh,en⟩=>⟨M,_,h,hrr,hh,fun x v M1 H1 k1 h1 r1 q1=>by
  dsimp only at q1;split at q1
  ·rename_i a;obtain rfl:=a0q r1;split at q1
   ·rename_i D fs e0;obtain⟨rfl,el,q1⟩:=q1;obtain⟨dx,xs,g1,g2⟩:=h1 _ _ e0;exact⟨a,dx,xs,rfl,g1,b1V g2 el,[.adr a],M1,Q,a8r (by unfold Reps;rfl),h1,q1,en.kp k1⟩
   ·exact q1.elim
  ·exact q1.elim⟩
noncomputable def c2O(C:Addr)(sp:Sp3):TE3:=fun _ M Q=>∀x,M x=none->sp [.adr x] (updM M x (.ob C [])) fun v M2=>v=.non/\Q (.adr x) M2
theorem c3e{x:Str}{p:Pos}(Mk:Mk X.K C g)(D:DfA X.prog X.w X.K X.mg X.base n g ps sp)(hr:Room (n+1) X.A)(hmg:X.mg x=some (.ref C))(hg:Gl X x:=by rfl)(hdb:QDD x:=by decide) :
  HE X (.Call (.Name x p) [] [] pos) (c2O C sp):=fun ρ M Q h=>by
 obtain⟨fd,F,hk,hb⟩:=D.out;refine(c1F Mk F hr hg hmg hb .nil c1L hdb).imp fun σ H Q2 ⟨hrr,hh,en⟩=>?_;intro a dx ha hdx ne;have k1:Kp X.K H (upd H dx (.own a)):=Kp.new hdx;have ha1:(upd H dx (.own a)) a=none:=by rw[a0B (d1u ne)];exact ha
 have k2:Kp X.K (upd H dx (.own a)) (upd (upd H dx (.own a)) a (.ins C dx [])):=Kp.new ha1;refine⟨[.adr a],updM M a (.ob C []),_,a8r (by unfold Reps;rfl),fun b u eb=>?_,h a (hh.free ha),fun t v M' H' k hh' r q=>?_⟩
 ·by_cases z:b=a
  ·subst z;rw[a0d] at eb;cases eb;exact⟨dx,[],a0O,trivial⟩
  ·rw[a0k z] at eb;exact(hh.keep hdx).keep ha1 b u eb
 ·obtain⟨rfl,q⟩:=q;obtain rfl:=a7I r;exact⟨rfl,en _ _ M' H' ((k1.trans k2).trans k) hh' a1I q⟩
end
local macro_rules | `(tactic| walk_at "xc") => `(tactic| (repeat any_goals (first | wp_step | assumption)))
theorem c3q{M:d5P}{A:c8Z}{E:VPR}{h:Heap}{g:Array d5d}{d:Drawn}{t:Nat}{os:OsState}{a C P:Addr}{o:Obj}{K:PySem.W.Frag}{Q:Bool->c8u->Prop}
  (X:K.In h) (hx:h.get? a=some o) (hc:o.cls=.ref C) (up:PySem.W.subIn K (.ref C) (.ref P)=some false) (pb:PySem.W.subIn K (.ref P) (.type "BaseException")=some true) (hP:PySem.W.excIn K P bmVE "ValueError.__new__"=true)
  (hq:Q false ⟨h,g,d,t,os⟩):wpAny M A (excMatches (.ref a) (.ref P)) Q E ⟨h,g,d,t,os⟩:=by
 obtain⟨bm,N,nm,qn,bs,hd,sn,sub,ab,col,dd,k0,k1,k2,k3,k5,mN,hC,_⟩:=c0m X hP;have f1:=tc_notTuple;have f2:=PySem.W.looks_subIn (M:=M) X pb;have f3:=PySem.W.looks_subIn (M:=M) X up;obtain⟨oc,od,dt,sl⟩:=o;have hc':oc=.ref C:=hc;subst hc';unfold excMatches;walk_at "xc"
 repeat (first|refine f2.at ?_|refine f3.at ?_|(with_reducible refine d1G hC ?_)|(with_reducible refine d1G hx ?_)|wp_step)
 exact hq
section
variable{X:Cx}{body:List Stmt}
noncomputable def c5l(tb:EK3->TS3)(n1 n2:Str)(t1 t2:TS3):TS3:=fun D ρ M=>tb (fun nm ρ' M'=>(nm=n1/\t1 D ρ' M')\/(nm=n2/\t2 D ρ' M')) D ρ M
structure XTwo(K:PySem.W.Frag)(mg:SOV)(n1 n2:Str):Prop where
 out:∃C1 C2,mg n1=some (.ref C1)/\mg n2=some (.ref C2)/\PySem.W.excIn K C1 bmVE "ValueError.__new__"=true/\PySem.W.excIn K C2 bmVE "ValueError.__new__"=true /\
  PySem.W.subIn K (.ref C1) (.type "BaseException")=some true/\PySem.W.subIn K (.ref C2) (.type "BaseException")=some true /\
  PySem.W.subIn K (.ref C1) (.ref C1)=some true/\PySem.W.subIn K (.ref C2) (.ref C2)=some true/\PySem.W.subIn K (.ref C2) (.ref C1)=some false
theorem c5F{tb:EK3->TS3}{n1 n2:Str}{b1 b2:Stmt}{bs1 bs2:List Stmt}{t1 t2:TS3}{np1 np2 hpos1 hpos2 pos:Pos}
  (hcalm:X.calm=true) (hex:X.ex=[]) (hst:X.stack=X.env::X.outer) (hfr:X.env.frame=some X.env.locals)
  (hb:∀(pn:PNS) (xe:VPR) (Ha:Hp) (E3:EK3),Acc (X.tried pn xe) Ha E3->HSsX (X.tried pn xe) Ha body (tb E3))
  (hx:XTwo X.K X.mg n1 n2) (h1:∀a,HSs (X.held a) (b1::bs1) t1) (h2:∀a,HSs (X.held a) (b2::bs2) t2)
  (hg1:Gl X n1:=by rfl) (hg2:Gl X n2:=by rfl) (hd1:(n1==("__debug__":Str))=false:=by decide) (hd2:(n2==("__debug__":Str))=false:=by decide) :
  HS X (.Try body [.ExceptHandler (some (.Name n1 np1)) none (b1::bs1) hpos1,.ExceptHandler (some (.Name n2 np2)) none (b2::bs2) hpos2] [] [] pos) (c5l tb n1 n2 t1 t2):=by
 intro D3 ρ M h pins s σ H D2 I ⟨hrr,hh,en⟩;obtain⟨C1,C2,m1,m2,x1,x2,p1,p2,u1,u2,u3⟩:=hx;refine d4X ?_
 obtain⟨xe0,hxe⟩:∃xe0:VPR,xe0=fun e s1=>wpAny (model X.prog X.w) X.A (noteFrame e X.env) (fun _ s2=>wpAny (model X.prog X.w) X.A (setFlight e none) (fun _ s3=>wpAny (model X.prog X.w) X.A (handleBy e X.env
   [.ExceptHandler (some (.Name n1 np1)) none (b1::bs1) hpos1,.ExceptHandler (some (.Name n2 np2)) none (b2::bs2) hpos2]) (SP X pins D2) X.xe s3) X.xe s2) X.xe s1:=⟨_,rfl⟩
 have I':Inv (X.tried (X.pn++pins) xe0) [] σ H s :=
  ⟨I.ok.tried _ _,I.os,I.bare,I.base,I.loc,I.cell,I.free,I.freeC,fun p hp=>I.pin p (by simpa using hp),I.hok,I.len⟩
 refine c9G (hb (X.pn++pins) xe0 H _ ?_ D3 ρ M h [] s σ H D2 I' ⟨Kp.refl,hrr,hh,en⟩) (fun f s1 q=>?_) fun _ _ z=>by rw[hxe] at z;exact z
 ·intro pins' σ1 H1 s1 h0 a C nm ρ1 M1 J F old m k r1 hh1 q;have J1:Inv X pins σ1 H1 s1:=⟨I.ok,J.os,J.bare,J.base,J.loc,J.cell,J.free,J.freeC,fun p hp=>J.pin p (c8O _ hp),J.hok,J.len⟩;obtain⟨na,na0,oe,vs,a0,t1',t2',t3,t4,T5,oT,ts,t5,t6,t7,t8,t9,t10,t11⟩:=F;have fA:H1 a=none/\X.s₀.heap.get? a=none/\∀p∈X.pn++pins,p.1≠a:=⟨na,c9v fun z=>old.start a z na0,fun p hp z=>old.pins p (c8O _ hp) (by rw[z];exact na0)⟩;have fT:H1 T5=none/\X.s₀.heap.get? T5=none/\∀p∈X.pn++pins,p.1≠T5:=⟨t7,c9v fun z=>old.start T5 z t8,fun p hp z=>old.pins p (c8O _ hp) (by rw[z];exact t8)⟩;have frames:=I.ok.frames;rw[hst] at frames
  have hl:s1.heap.FunFrames (PySem.W.hideAll s1.heap (a::T5::frs X.stack)) (X.env::X.outer):=by
   rw[<- hst];exact a3u J1.stack fun b hb=>PySem.W.hideAll_none _ (c8m _ (c8m _ hb))
  have hfl:d5V (PySem.W.hideAll s1.heap (a::T5::frs X.stack)) (X.env::X.outer) a (.ref C) a0 s1.heap :=
   ⟨fun b o q=>PySem.W.of_hideAll _ q,PySem.W.hideAll_none _ c8r,hl,oe,vs,T5,oT,ts,t1',⟨t2',t4⟩,t3,t5,PySem.W.hideAll_none _ (c8m _ c8r),t6,t9,t10,t11⟩
  have hB:∀b o,s1.heap.get? b=some o->b∉frs X.stack->b≠a->b≠T5->(PySem.W.hideAll s1.heap (a::T5::frs X.stack)).get? b=some o:=fun b o q hf g1 g2=>PySem.W.hideAll_get _ q fun hm=>by
   rcases c8n.mp hm with z|z
   ·exact g1 z
   ·rcases c8n.mp z with z|z
    ·exact g2 z
    ·exact hf z
  show xe0 (.ref a) s1;rw[hxe];refine wpAny_looks_onW frames hfr hfl fun h4 hheld hsm4=>?_;refine wpAny_landsW (s:={ s1 with heap:=h4 }) hheld fun h5 hfl5 hsm5=>?_;have hsm:s1.heap.UpToSlots h5:=hsm4.trans hsm5
  have J5:Inv (X.held a) pins σ1 H1 { s1 with heap:=h5 }:=by
   have:=J1.flown hex hst hfr hB hfl5.1 hsm fA fT;exact⟨this.ok.held a,this.os,this.bare,this.base,this.loc,this.cell,this.free,this.freeC,this.pin,this.hok,this.len⟩
  obtain⟨ob5,hob5,hcl5⟩:=hfl5.there;have suite:∀(b0:Stmt) (bs:List Stmt) (t:TS3) (hpos:Pos) (R:d5S->c8u->Prop),(∀a,HSs (X.held a) (b0::bs) t)->t D3 ρ1 M1->(∀f s,SP X pins D2 f s->R (.ok f) s) ->
    codeAny (model X.prog X.w) (X.A.mark (some (.ref a))) (Code.handlers (.ref a) [.ExceptHandler none none (b0::bs) hpos] X.env) R { s1 with heap:=h5 }:=fun b0 bs t hpos R hs ht hR=>by
   refine codeAny_handlers_suite ?_;refine lands_againW (s:={ s1 with heap:=h5 }) hfl5 fun h6 hfl6 hsm6=>?_
   have J6:Inv (X.held a) pins σ1 H1 { s1 with heap:=h6 }:=by
    have:=J1.flown hex hst hfr hB hfl6.1 (hsm.trans hsm6) fA fT;exact⟨this.ok.held a,this.os,this.bare,this.base,this.loc,this.cell,this.free,this.freeC,this.pin,this.hok,this.len⟩
   have w:=hs a D3 ρ1 M1 ht pins _ σ1 H1 D2 J6 ⟨r1,hh1,en.kp k⟩;refine c9G w (fun f s9 q9=>hR f s9 ?_) fun _ _ z=>z.elim;cases f with
   | brk =>
     obtain⟨σ',H',J9,q⟩:=q9;exact⟨σ',H',⟨I.ok,J9.os,J9.bare,J9.base,J9.loc,J9.cell,J9.free,J9.freeC,J9.pin,J9.hok,J9.len⟩,q⟩
   | cont =>
     obtain⟨σ',H',J9,q⟩:=q9;exact⟨σ',H',⟨I.ok,J9.os,J9.bare,J9.base,J9.loc,J9.cell,J9.free,J9.freeC,J9.pin,J9.hok,J9.len⟩,q⟩
   | ret u =>
     obtain⟨v,σ',H',J9,r,q⟩:=q9;exact⟨v,σ',H',⟨I.ok,J9.os,J9.bare,J9.base,J9.loc,J9.cell,J9.free,J9.freeC,J9.pin,J9.hok,J9.len⟩,r,q⟩
   | next =>
     obtain⟨σ',H',J9,q⟩:=q9;exact⟨σ',H',⟨I.ok,J9.os,J9.bare,J9.base,J9.loc,J9.cell,J9.free,J9.freeC,J9.pin,J9.hok,J9.len⟩,q⟩
  rcases q with ⟨rfl,q⟩|⟨rfl,q⟩
  ·have hCC:C1=C:=by
    have:=m1.symm.trans m;injection this with e;injection e
   subst hCC;refine d2c (d1L (a4w (X:=X.held a) J5 hg1 m1 ?_ hd1)) (by intro q;cases q);refine b5z J5.kIn hob5 hcl5 u1 p1 x1 ?_;exact suite b1 bs1 t1 hpos1 _ h1 q fun f s q=>q
  ·have hCC:C2=C:=by
    have:=m2.symm.trans m;injection this with e;injection e
   subst hCC;refine d2c (d1L (a4w (X:=X.held a) J5 hg1 m1 ?_ hd1)) (by intro q;cases q);refine c3q J5.kIn hob5 hcl5 u3 p1 x1 ?_;refine d2c (d1L (a4w (X:=X.held a) J5 hg2 m2 ?_ hd2)) (by intro q;cases q);refine b5z J5.kIn hob5 hcl5 u2 p2 x2 ?_;exact suite b2 bs2 t2 hpos2 _ h2 q fun f s q=>q
 ·cases f with
  | next =>
    obtain⟨σ',H',J,q⟩:=q;exact d0U ⟨σ',H',⟨I.ok,J.os,J.bare,J.base,J.loc,J.cell,J.free,J.freeC,fun p hp=>J.pin p (c8O _ hp),J.hok,J.len⟩,q⟩
  | brk =>
    obtain⟨σ',H',J,q⟩:=q;exact⟨σ',H',⟨I.ok,J.os,J.bare,J.base,J.loc,J.cell,J.free,J.freeC,fun p hp=>J.pin p (c8O _ hp),J.hok,J.len⟩,q⟩
  | cont =>
    obtain⟨σ',H',J,q⟩:=q;exact⟨σ',H',⟨I.ok,J.os,J.bare,J.base,J.loc,J.cell,J.free,J.freeC,fun p hp=>J.pin p (c8O _ hp),J.hok,J.len⟩,q⟩
  | ret u =>
    obtain⟨v,σ',H',J,r,q⟩:=q;exact⟨v,σ',H',⟨I.ok,J.os,J.bare,J.base,J.loc,J.cell,J.free,J.freeC,fun p hp=>J.pin p (c8O _ hp),J.hok,J.len⟩,r,q⟩
end
theorem Fun.dfnA{P:c8G}{w:c9d}{K:PySem.W.Frag}{mg:SOV}{base:Heap}{n:Nat}{f:Addr}{fd:d0u}{ps:LSS}{sp:Sp3}(F:FnOk P w K mg base CX0 n f fd ps (dSp K sp))(k:PySem.W.keepIn K (.ref f)=true)(hb:a3n K fd ps []):DfA P w K mg base n f ps sp:=⟨fd,F,k,hb⟩
theorem DfA.u{P w K mg base n m f ps sp}(D:DfA P w K mg base n f ps sp)(h:n<=m:=by decide):DfA P w K mg base m f ps sp:=by
 obtain⟨fd,F,a,b⟩:=D.out;exact⟨fd,F.mono h,a,b⟩
theorem DfXA.u{P w K mg base n m f ps sp}(D:DfXA P w K mg base n f ps sp)(h:n<=m:=by decide):DfXA P w K mg base m f ps sp:=by
 obtain⟨fd,F,a,b⟩:=D.out;exact⟨fd,F.mono h,a,b⟩
section
variable{P:c8G}{w:c9d}{K:PySem.W.Frag}{mg:SOV}{base:Heap}
theorem Fun.dfnXA{x qual:Str}{st:Stmt}{f:Addr}{fd:d0u}{N ps:LSS}{n:Nat}{sp:Sp3X}(F:Fun K x qual st f fd)(hb:a3n K fd ps [])(S:FnScope N ps (a0b st))(len:∀ts M Q E,sp ts M Q E->ts.length=ps.length)
  (hbody:∃t:EK3->TS3,(∀(cdv:c8t) (A:c8Z) (outer:List Env) (s:c8u) (H:Hp) (E:XK) (E3:EK3),Room n (A.deeper (envOfC qual (a0b st) s.heap.objs.size f cdv)) ->
   Acc (cxOf (CXE P w) P w K mg base N qual (a0b st) f cdv A outer s H E) H E3->AccN (cxOf (CXE P w) P w K mg base N qual (a0b st) f cdv A outer s H E) H E3 ->
   HSsX (cxOf (CXE P w) P w K mg base N qual (a0b st) f cdv A outer s H E) H (a1Q st) (t E3)) /\
   ∀ts M Q E,sp ts M Q E->t (fun nm _ M'=>∃M0,Sub M0 M'/\E nm M0) { nx:=fun _ M'=>rt3 M Q .non M',rt:=rt3 M Q } (a2P N ts) M):DfXA P w K mg base (n+1) f ps sp:=by
 obtain⟨t,hbody,rd⟩:=hbody;refine⟨fd,?_,F.kp,hb⟩;obtain⟨oc,od,kV,doc,pm,an,cdv,ct,osl,rfl,lk,hcd⟩:=F.ex;refine c4O lk hcd S (fun vs H Q E ⟨ts,M,Q3,E3,r,_,q,_⟩=>by rw[r.length];exact len _ _ _ _ q) fun A outer s H vs Q E hr ⟨ts,M,Q3,Ex,r,hh,q,en,ex⟩=>?_;have L:=b3C (P:=P) (w:=w) (K:=K) (mg:=mg) (base:=base) (N:=N) (qual:=qual) (scope:=a0b st) (f:=f) (cd:=cdv) (A:=A) (outer:=outer) (s:=s) (H:=H) (E:=E);refine⟨_,hbody cdv A outer s H E (fun nm _ M'=>∃M0,Sub M0 M'/\Ex nm M0) hr (fun pins σ H' s' h0 a C nm ρ M' I fly old m k _ hh' q'=>?_) (fun pins σ H' s' h' a C vs' nm ρ M' I made m k _ hh' q'=>?_) _ _ _ (rd ts M Q3 Ex q),Kp.refl,a8O r,hh,⟨?_,?_,fun _ _ _ _ _ _ _ z=>z.elim,fun _ _ _ _ _ _ _ z=>z.elim⟩⟩
 ·obtain⟨M0,hs,q2⟩:=q';exact b3D L I (fly.older old.start) (ex nm C M0 H' k (hh'.sub hs) m q2)
 ·obtain⟨M0,hs,q2⟩:=q';exact b0G L I made (ex nm C M0 H' k (hh'.sub hs) m q2)
 ·rintro ρ' M' σ' H' k hr' hh' ⟨M0,hs,q'⟩;exact en .non .non M0 H' k (hh'.sub hs) a5j q'
 ·rintro t' v' M' H' k hh' r' ⟨M0,hs,q'⟩;exact en t' v' M0 H' k (hh'.sub hs) r' q'
end
noncomputable def c2N(C:Addr)(m:Str)(E:EK3)(sp:Sp3X)(to:TE3)(t:TA3):TE3:=fun ρ M Q=>to ρ M fun x M1=>match x with
 |.adr a=>(match M1 a with|some (.ob D fs)=>D=C/\fs.lookup m=none/\t ρ M1 fun ts M2=>sp (.adr a::ts) M2 Q fun nm M3=>E nm ρ M3|_=>False)
 |_=>False
section
variable{X:Cx}{Ha:Hp}{o e:Expr}{es:LSE}{m:Str}{pos apos:Pos}{to:TE3}{t:TA3}{C g:Addr}{n:Nat}{ps:LSS}{sp:Sp3X}
theorem c4G{pl:Sem Bool}{E:EK3}(A:Acc X Ha E)(hex:X.ex=[])(c:Cls X.K C)(hm:Meth X.K C m g)(D:DfXA X.prog X.w X.K X.mg X.base n g ps sp)(hr:Room n X.A)(ho:HE X o to)(ha:HA X (e::es) t)
  (hst:QSS X e es:=by rfl) (hpl:QPP X pos es:=by rfl)
  (ht:eval (.Call (.Attribute o m apos) (e::es) [] pos) X.env=(do
   let ov <- eval o X.env
   standAt apos.atName
   let (f,first) <- holding [ov] (getMethod ov m pl)
   callWith pos f first (backTo pos (starEach (e::es) X.env)) (backToKw pos (keywordEach [] X.env))):=by rfl) :
  HEX X Ha (.Call (.Attribute o m apos) (e::es) [] pos) (c2N C m E sp to t):=by
 intro ρ M Q h pins s σ H Q2 I bb;obtain⟨ka,hrr,hh,en⟩:=bb;obtain⟨fd,F,hk,hb⟩:=D.out
 refine PySem.W.methodCall_KW (pl:=pl) (thn (ho ρ M _ h pins s σ H (fun v H1=>∃t' M1,Kp X.K H H1/\HR X.K H1 M1/\Rep X.K H1 v t'/\(match t' with
  |.adr a=>(match M1 a with|some (.ob D fs)=>D=C/\fs.lookup m=none/\t ρ M1 fun ts M2=>sp (.adr a::ts) M2 Q fun nm M3=>E nm ρ M3|_=>False)
  |_=>False)) I ⟨hrr,hh,fun t' v M1 H1 k1 h1 r1 q1=>⟨t',M1,k1,h1,r1,q1⟩⟩) fun u s1 ⟨v,H0,I0,rv,t',M0,k0,h0,rt,q1⟩=>?_) ht
 split at q1
 ·rename_i a;split at q1
  ·rename_i D fs e0;obtain⟨rfl,el,q1⟩:=q1;obtain rfl:=a0q rt;cases rv;obtain⟨dx,xs,g1,g2⟩:=h0 _ _ e0;refine a7M I0 g1 c hm (b1V g2 el) ?_
   refine PySem.W.callWith_K (first:=[.ref a]) (h₀:=X.base) I.ok.mod.kin hm.kp (thn (ha ρ M0 _ q1 pos pins _ σ H0 (fun vs H1=>∃ts M1,Kp X.K H0 H1/\HR X.K H1 M1/\Reps X.K H1 vs ts/\sp (.adr a::ts) M1 Q fun nm M2=>E nm ρ M2) I0 ⟨hrr.kp k0,h0,fun ts vs M1 H1 k1 h1 r1 q1=>⟨ts,M1,k1,h1,r1,q1⟩⟩) fun us s2 ⟨vs,H1,I1,r,ts,M1,k1,h1,r1,q2⟩=>⟨I1.kIn,?_⟩) hst hpl
   have r2:Vals ((V.ref a::vs)++[]) ((c8T a::us)++[]):=(show Vals (V.ref a::vs) (c8T a::us) from .cons rfl r).append .nil;have kk:=k0.trans k1
   have q3:dSpX X.K X.mg sp ((V.ref a::vs)++[]) H1 Q2 (fun C _ H'=>∃c nm M',C=.ref c/\X.mg nm=some (.ref c)/\Kp X.K H1 H'/\HR X.K H' M'/\E nm ρ M') :=
    ⟨.adr a::ts,M1,Q,_,by rw[c8R];exact a8r r1,h1,q2,en.kp kk,fun nm C M' H' k' h' m' e'=>⟨C,nm,M',rfl,m',k',h',e'⟩⟩
   have hl:((c8T a::us)++[]).length=ps.length:=by rw[<- r2.length];exact F.len _ _ _ _ q3
   refine d3w (d1s (F.run X.A X.stack s2 H1 ⟨c8T a::us,[]⟩ ((c8T a::us)++[]) ((V.ref a::vs)++[]) Q2 _ hr I1.env0 (hb s2 (c8T a::us) I1.kIn hl) r2 q3) fun r s' hq=>?_);cases r with
   | error e =>
     obtain⟨a',C',H',rfl,os,bare,un,hok,fly,c',nm,M',rfl,m',k',h',e'⟩:=hq;have J:=I1.call' (H':=H') (ch:=[]) os un hok bare (fun b z=>absurd z (by simp));exact A pins σ H' s' s2.heap a' c' nm ρ M' J fly (I1.older hex) m' (ka.trans (kk.trans k')) (hrr.kp (kk.trans k')) h' e'
   | ok fl =>
     cases fl with
     |ret u=>exact I1.after hq
     |next=>exact c9k hq
     |brk=>exact c9k hq
     |cont=>exact c9k hq
  ·exact q1.elim
 ·exact q1.elim
end
end L2
namespace L2
open PySem PySem.Spec PyProof.Rows LM
noncomputable def b1z:List T->MH->VK3->Prop:=fun xs M Q=>match xs with
 |[.adr p]=>(match M p with|some (.dk kvs)=>∃ns:LSS,kvs.map c8J=ns.map d0S/\ns.length<64/\∀ms:LSS,ms.Perm ns->sortedS ms=true->∀r,M r=none->Q (.adr r) (updM M r (.lst (ms.map .str)))|_=>False)
 |_=>False
theorem b0n:∀{ns:LSS} {us:LSV},Vals (ns.map V.str) us->d6l us ns
 |[],us,h=>by cases h;exact .nil
 | n :: ns,us,h=>by
   cases h with
   | @cons _ u _ us h1 h2 =>
     obtain⟨t,rfl⟩:=h1;exact .cons n t (b0n h2)
theorem b0j:∀{ns:LSS} {us:LSV},d6l us ns->Vals (ns.map V.str) us
 |[],us,h=>by cases h;exact .nil
 | n::ns,us,h=>by
   cases h with
   |cons _ t h=>exact .cons ⟨t,rfl⟩ (b0j h)
section
variable{P:c8G}{w:c9d}{A:c8Z}{E:VPR}{s:c8u}
theorem b2L{d:Addr}{kvs:List (Key×c8t)}{ep:Nat}{ns:LSS}{Q:VPR}(hA:A.handled=none)(hd:s.heap.DictAt (a0C P w) d kvs ep)(lo:(d==sysModules)=false)(hk:kvs.map (·.1)=ns.map d0S)(h64:ns.length<64)
  (h:∀(h1 h':Heap) (tk:Nat) (out:Array c8t) (ns':LSS),(∀b u,s.heap.get? b=some u->h1.get? b=some u)->(∀b u,h1.get? b=some u->h'.get? b=some u)->(∃e,h'.get? h1.objs.size=some (seqObj "list" out e))->d6l out.toList ns'->ns'.Perm ns->sortedS ns'=true->Q (.ref h1.objs.size) { s with heap:=h',toks:=tk }) :
  wpAny (model P w) A (call (.builtin "sorted") [.ref d]) Q E s:=by
 have hl:kvs.length=ns.length:=by
  have:=congrArg d0o hk
  rwa [c8a,c8a] at this
 refine d2x kind_sorted plain_sorted entry_sorted (args_sorted1 _) ?_;unfold d1w.«sorted»;refine c8f (m:=checkCount "sorted" 1 1 _) (c8x (c8f (PySem.W.kdu_collect (A:=A.in1) (PySem.W.kdl_dict (knd:=a0C P w) (kvs:=kvs) (ep:=ep) lo) hA hd (by rw[hl,c9z];lia) fun h' tk acc hkp hacc=>?_)));obtain⟨hsz,hat⟩:=hacc
 have hI:d6l acc.toList ns:=b0n (b0X (by rw[c8a];exact(hl.symm.trans hsz.symm).trans c8K.symm) fun i x u h1 h2=>by
  obtain⟨k,y,e1,e2⟩:=hat i u (by rw[<- c9p];exact h2);have e3:(kvs.map (·.1))[i]?=some k:=by rw[c8i,e1];rfl
  rw[hk,c8i] at e3;rw[c8i] at h1;cases en:ns[i]? with
  |none=>rw[en] at h1;cases h1
  | some n =>
    rw[en] at e3 h1;obtain rfl:=c8z h1;have e4:d0S n=k:=c8z e3;subst e4;rw[a7G] at e2;rcases a0U e2 with ⟨j,t,z1,z2⟩|⟨j,t,z1,z2⟩
    ·cases z1
    ·cases z1;exact⟨t,z2⟩)
 refine c8f (wpAny_newList ?_);have hoL:(h'.push (seqObj "list" acc.toList.toArray 0)).get? h'.objs.size=some (seqObj "list" acc.toList.toArray 0):=c8E _ rfl;refine c8f (d0t (d0s slot_list_sort ⟨_,hoL,rfl⟩ d5s (list_sort_treeK strKind_oneLt hoL hI.keysOf (fun v1 v2 rest e=>keyKind_strs (e▸hI)) (by rw[c8K,hsz,hl];exact h64) fun st' a1 a2=>⟨_,rfl,?_⟩) (args_list_sort _)));obtain⟨ns',b1,b2,b3⟩:=sorted_out_str hI a1 a2;exact c8x ⟨_,rfl,h h' _ _ _ ns' hkp (fun b u e=>(sortedHeap_old (c8P (c8o e)) (c8w (c8o e) (by show h'.objs.size<=(h'.push (seqObj "list" acc.toList.toArray 0)).objs.size;rw[size_push'];exact d1C _))).trans (c8h _ e)) (sortedHeap_at hoL) b1 b2 b3⟩
end
section
variable{X:Cx}
theorem a7h(hc:X.calm=true):a3w X (.builtin "sorted") b1z:=by
 intro pins s σ H vs us Q2 I r h;obtain⟨xs,M,Q,rr,hh,q,en⟩:=h;unfold b1z at q;split at q
 ·obtain⟨v,rfl,r1⟩:=a1L rr;obtain rfl:=a0q r1;obtain⟨u,rfl,rx⟩:=a3o r;cases rx;split at q
  ·rename_i kvs e0;obtain⟨ns,hk,h64,q⟩:=q;obtain⟨kv,g1,g2⟩:=hh _ _ e0;obtain⟨kz,lo,vs,r1,dd⟩:=(show a1d X.prog X.w H s.heap _ (.dK kv) from I.hok _ _ g1);obtain⟨ep,da⟩:=dd.dictAt
   have e1:vs.map (·.1)=ns.map d0S:=by
    rw[<- r1.keys];exact(a2g g2).trans hk
   refine b2L (I.ok.hd hc) da lo e1 h64 fun h1 h' tk out ns' hkp hkp2 ⟨e,hg⟩ a1 a2 a3=>?_;have I1:Inv X pins σ H { s with heap:=h1,toks:=s.toks }:=I.kept hkp;have hfr:H h1.objs.size=none:=I1.hok.fresh (c8d _);have hn:ns'.length<=sizeLine:=by rw[a2.length_eq,c9z];lia
   exact⟨.ref h1.objs.size,_,I1.laid (t':=tk) hkp2 (c8d _) (show a1d X.prog X.w _ h' _ (.lst (ns'.map V.str)) from ⟨by rw[c8a];exact hn,out.toList,e,b0j a1,by rw[d1Q];exact hg⟩),rfl,en _ _ _ _ (Kp.new hfr) (hh.newL hfr (a8E ns')) a1I (q ns' a2 a3 _ (hh.free hfr))⟩
  ·exact q.elim
 ·exact q.elim
noncomputable def b8N:List T->MH->VK3->Prop:=fun xs M Q=>match xs with
 |[.adr p]=>(match M p with|some (.dk kvs)=>∀r,M r=none->Q (.adr r) (updM M r (.dk kvs))|_=>False)
 |_=>False
theorem b5s:a3w X (.type "dict") b8N:=by
 intro pins s σ H vs us Q2 I r h;obtain⟨xs,M,Q,rr,hh,q,en⟩:=h;unfold b8N at q;split at q
 ·obtain⟨v,rfl,r1⟩:=a1L rr;obtain rfl:=a0q r1;obtain⟨u,rfl,rx⟩:=a3o r;cases rx;split at q
  ·rename_i kvs e0;obtain⟨ks,g1,g2⟩:=hh _ _ e0;obtain⟨kz,lo,ws,r1,dd⟩:=(show a1d X.prog X.w H s.heap _ (.dK ks) from I.hok _ _ g1);have hwl:ws.length<=sizeLine:=by have:=r1.length;lia
   refine kt_call_dict lo dd hwl fun h' hd' hs'=>?_;have hfr:H s.heap.objs.size=none:=I.hok.fresh (c8d _)
   have hsys:(s.heap.objs.size==sysModules)=false:=by
    have:=I.big;simp only[beq_eq_false_iff_ne,ne_eq];exact fun z=>absurd this (by rw[z];exact c9x _)
   exact⟨.ref s.heap.objs.size,_,I.laid (t':=s.toks) (fun b o e=>(hs'.2 b (c8P (c8o e))).trans (c8h _ e)) (c8d _) (show a1d X.prog X.w _ h' _ (.dK ks) from ⟨kz,hsys,ws,r1,hd'⟩),rfl,en _ _ _ _ (Kp.new hfr) (hh.newK hfr g2) a1I (q _ (hh.free hfr))⟩
  ·exact q.elim
 ·exact q.elim
noncomputable def c3R:R3:=fun x y M Q=>match x,y with
 |.adr a,.adr b=>∃kvs,M a=some (.dk kvs)/\M b=some (.dk [])/\Q (.bl kvs.isEmpty) M
 |_,_=>False
theorem b5Y(hu:X.A.units+64<cLine):OpR3 X (compareOp .Eq) c3R:=by
 intro pins s σ H x y v u Q2 I rx ry q;obtain⟨a,b,M,Q,r1,r2,hh,q,en⟩:=q;unfold c3R at q;split at q
 ·obtain⟨kvs,e1,e2,q⟩:=q;obtain⟨xs,h1,h2⟩:=hh _ _ e1;obtain⟨ys,g1,g2⟩:=hh _ _ e2;obtain rfl:=a0q r1;obtain rfl:=a0q r2;cases rx;cases ry;obtain⟨_,la,vs,kv,dv⟩:=(show a1d X.prog X.w H s.heap _ (.dK xs) from I.hok _ _ h1);obtain⟨_,lb,us,ku,du⟩:=(show a1d X.prog X.w H s.heap _ (.dK ys) from I.hok _ _ g1);have hl:=kv.length;have hl2:=ku.length;have hl3:xs.length=kvs.length:=by have:=congrArg d0o (a2g h2);rwa [c8a,c8a] at this
  have hl4:ys.length=0:=by have:=congrArg d0o (a2g g2);rwa [c8a,c8a] at this
  refine PySem.W.keq_eq (r:=true) (knd:=a0C X.prog X.w) la lb dv du (by lia) (fun z=>?_) ?_
  ·have:vs=[]:=c9e (by rw[z,<- hl2,hl4]);subst this;exact .nil
  ·have e:(vs.length==us.length&&true)=kvs.isEmpty:=by
    rw[<- hl,<- hl2,hl3,hl4];cases kvs<;>rfl
   rw[e];exact⟨.bl _,H,I,rfl,en _ _ M H Kp.refl hh a1M q⟩
 ·exact q.elim
noncomputable def rNeK:R3:=fun x y M Q=>match x,y with
 |.adr a,.adr b=>∃kvs,M a=some (.dk kvs)/\M b=some (.dk kvs)/\(kvs.map c8J).Nodup/\(∀kv∈kvs,a0G kv.2=true/\depT kv.2<=30)/\Q (.bl false) M
 |_,_=>False
theorem b7X{K:PySem.W.Frag}{H:Hp}:∀{kvs:List (Key×T)} {ys:List (Key×V)} {us:List (Key×c8t)},(kvs.map c8J).Nodup->KRep K H ys kvs->KV ys us->∀kv∈kvs,∃v u,valueAt us kv.1=some u/\RelV v u/\Rep K H v kv.2
 |[],_,_,_,_,_,kv,z=>absurd z c8M
 |q::kvs,[],_,_,h,_,_,_=>h.elim
 | q :: kvs,y::ys,us,nd,h,r,kv,hm=>by
   obtain⟨h1,h2,h3⟩:=h;cases r with
   | @cons _ u _ us a b =>
     obtain⟨a1,a2⟩:=a;rw[c8g,c9J] at nd;unfold valueAt;rw[c9h];rcases c8n.mp hm with rfl|hm
     ·have:u.1=kv.1:=a1.symm.trans h1;rw[this,decide_eq_true rfl];exact⟨y.2,u.2,rfl,a2,h2⟩
     ·have:u.1≠kv.1:=fun e=>nd.1 (by rw[<- h1,a1,e];exact c8q.mpr ⟨kv,hm,rfl⟩);rw[decide_eq_false this];exact b7X nd.2 h3 b kv hm
theorem c3c{pins:PNS}{σ:St}{H:Hp}{s:c8u}{A:c8Z}(I:Inv X pins σ H s)(hu:A.units+40<cLine){kvs:List (Key×T)}{ys:List (Key×V)}{us:List (Key×c8t)}(nd:(kvs.map c8J).Nodup)(hp:∀kv∈kvs,a0G kv.2=true/\depT kv.2<=30)(g:KRep X.K H ys kvs)(r:KV ys us) :
  ∀{l:List (Key×T)} {xs:List (Key×V)} {vs:List (Key×c8t)},(∀kv∈l,kv∈kvs)->KRep X.K H xs l->KV xs vs->PySem.W.KeqHits A s us vs true
 |[],[],vs,_,_,h=>by cases h;exact .nil
 |q::l,[],_,_,h,_=>h.elim
 |[],y::xs,_,_,h,_=>h.elim
 | q :: l,x::xs,vs,hs,h,hv=>by
   obtain⟨h1,h2,h3⟩:=h;cases hv with
   | @cons _ u _ vs a b =>
     obtain⟨a1,a2⟩:=a;obtain⟨v',u',e1,e2,e3⟩:=b7X nd g r q (hs q (.head _));obtain⟨p1,p2⟩:=hp q (hs q (.head _));have ih:=c3c I hu nd hp g r (fun z hz=>hs z (.tail _ hz)) h3 b;have eq:=(b3W I 30 A q.2 q.2 x.2 v' u.2 u' p2 (by lia) p1 p1 h2 e3 a2 e2).1;rw[b6s q.2 p1] at eq;obtain⟨k,w⟩:=u;have ek:k=q.1:=a1.symm.trans h1;subst ek;exact .hit (e:=true) (b:=true) e1 eq ih
theorem c4o(hu:X.A.units+64<cLine):OpR3 X (compareOp .NotEq) rNeK:=by
 intro pins s σ H x y v u Q2 I rx ry q;obtain⟨a,b,M,Q,r1,r2,hh,q,en⟩:=q;unfold rNeK at q;split at q
 ·obtain⟨kvs,e1,e2,nd,hp,q⟩:=q;obtain⟨xs,h1,h2⟩:=hh _ _ e1;obtain⟨ys,g1,g2⟩:=hh _ _ e2;obtain rfl:=a0q r1;obtain rfl:=a0q r2;cases rx;cases ry;obtain⟨_,la,vs,kv,dv⟩:=(show a1d X.prog X.w H s.heap _ (.dK xs) from I.hok _ _ h1);obtain⟨_,lb,us,ku,du⟩:=(show a1d X.prog X.w H s.heap _ (.dK ys) from I.hok _ _ g1)
  have hl:vs.length=us.length:=by
   have e3:=congrArg d0o (a2g h2);have e4:=congrArg d0o (a2g g2);rw[c8a,c8a] at e3 e4;rw[<- kv.length,<- ku.length,e3,e4]
  refine PySem.W.keq_ne (r:=true) (knd:=a0C X.prog X.w) la lb dv du (by lia) (fun _=>c3c I (by show X.A.units+1+40<cLine;lia) nd hp g2 ku (fun _ z=>z) h2 kv) ?_;rw[show(!(vs.length==us.length&&true))=false by rw[hl];simp];exact⟨.bl _,H,I,rfl,en _ _ M H Kp.refl hh a1M q⟩
 ·exact q.elim
end
noncomputable def sgT(z:Str):List T:=z.cps.toList.map fun c=>.str ⟨#[c]⟩
noncomputable def Its(z:Str):It:=⟨fun i _=>i<z.cps.size,fun i H v H'=>H'=H/\∃c,z.cps[i]?=some c/\v=.str ⟨#[c]⟩,fun i _=>i=z.cps.size⟩
theorem c0U{P:c8G}{w:c9d}{K:PySem.W.Frag}{tg:Expr}(it:Addr)(z:Str)(t:Tok):Turn P w K tg (Its z) [it] it (fun i h=>h.IsStrIter it "str_ascii_iterator" z t i) where
 mem:=by simp
 obj:=fun i h st b hb=>by
  have e:b=it:=by simpa using hb
  subst e;obtain⟨o,h1,h2,h3⟩:=st;exact⟨o,h1,fun v q=>by rw[h3] at q;cases q⟩
 keep:=fun i h h' st k=>by
  obtain⟨o,h1,h2,h3⟩:=st;exact⟨o,k it (by simp) o h1,h2,h3⟩
 item:=by
  intro X hP hw hK hc i pins s σ H E I hf st hg;subst hP hw hK;obtain⟨f0,f1,f2,f3,f4,f5⟩:=hf it (by simp);have W:=d5A (prog:=X.prog) (w:=X.w) (I.ok.hd hc) it z t;refine W.item i s _ _ hg st fun v h' tk hv st' kk=>?_;obtain⟨c,u,e,rfl⟩:=hv;have I1:Inv X pins σ H { s with heap:=h',toks:=tk }:=I.turned (fun b o hb e=>kk b o (by simpa using hb) e) f0 f1 f3 f4 f5;obtain⟨o,h1,h2,h3⟩:=id st';refine⟨_,rfl,b7D (s:={ s with heap:=h',toks:=tk }) (n:="str_ascii_iterator") h1 h2 h3 (by decide) ⟨.str ⟨#[c]⟩,H,I1,⟨u,rfl⟩,⟨rfl,c,e,rfl⟩,st',fun b hb=>(hf b hb).1⟩⟩
 done:=by
  intro X hP hw hK hc i pins s σ H E I hf st hg;subst hP hw hK;obtain⟨f0,f1,f2,f3,f4,f5⟩:=hf it (by simp);have W:=d5A (prog:=X.prog) (w:=X.w) (I.ok.hd hc) it z t;have hg':i=z.cps.size:=hg;subst hg';exact W.done s _ _ st fun h' tk kk=>⟨rfl,I.turned (t':=tk) (fun b o hb e=>kk b o (by simpa using hb) e) f0 f1 f3 f4 f5⟩
 self:=fun _ _ _ _ _ st h=>wpAny_pyIter_striter_ascii st h
noncomputable def c6O(tl:TE3):TI3:=fun ρ M R=>tl ρ M fun x M1=>match x with
 |.str z=>strIterType z="str_ascii_iterator"/\R ⟨sgT z,fun _=>True⟩ M1
 |_=>False
theorem c2b{K:PySem.W.Frag}{H:Hp}{z:Str}:ItOk K H (Its z) ⟨sgT z,fun _=>True⟩:=by
 have hl:(sgT z).length=z.cps.size:=by unfold sgT;rw[c8a,c8K]
 refine⟨fun H' M' k hh _=>by show(sgT z).length=z.cps.size;rw[hl],fun i x H' M' e k hh _=>?_⟩;have hi:i<z.cps.size:=by have:=(c8k.mp e).1;rwa [hl] at this
 refine⟨hi,fun v H'' y=>?_⟩;obtain⟨rfl,c,e1,rfl⟩:=y;unfold sgT at e;rw[c8i,c9p,e1] at e;obtain rfl:=c8z e;exact⟨Kp.refl,hh,a1r⟩
section
variable{X:Cx}
theorem c7O{tg l:Expr}{tl:TE3}(hl:HE X l tl):HI X tg l (c6O tl):=by
 intro ρ M R h pins s σ H R2 I b;obtain⟨hr,hh,en⟩:=b
 refine thn (hl ρ M _ h pins s σ H (fun v H1=>∃t M1,Kp X.K H H1/\HR X.K H1 M1/\Rep X.K H1 v t/\(match t with
  |.str z=>strIterType z="str_ascii_iterator"/\R ⟨sgT z,fun _=>True⟩ M1
  |_=>False)) I ⟨hr,hh,fun t v M1 H1 k1 h1 r1 q1=>⟨t,M1,k1,h1,r1,q1⟩⟩) fun v s1 ⟨x,H1,I1,rv,t,M1,k1,h1,r1,q1⟩=>?_
 split at q1
 ·rename_i z;obtain⟨ht,q1⟩:=q1;obtain rfl:=a0V r1;obtain⟨tk,rfl⟩:=rv;refine wpAny_pyIter_strU ?_;refine⟨s1.heap.objs.size,[s1.heap.objs.size],_,_,H1,rfl,I1.kept (t':=s1.toks) fun b o e=>c8h _ e,c0U _ z tk,⟨_,c8E _ rfl,by rw[ht],rfl⟩,fun b hb=>?_,en _ _ M1 H1 k1 h1 c2b q1⟩;have e:b=s1.heap.objs.size:=by simpa using hb
  subst e;exact I1.fpOk (c8d _) (I1.hok.fresh (c8d _))
 ·exact q1.elim
noncomputable def rLeS:R3:=fun x y M Q=>match x,y with
 |.str i,.str j=>Q (.bl (!decide (j.cps.toList<i.cps.toList))) M
 |_,_=>False
theorem b9e:OpR3 X (compareOp .LtE) rLeS:=by
 intro pins s σ H x y v u Q2 I rx ry q;obtain⟨a,b,M,Q,r1,r2,hh,q,en⟩:=q;unfold rLeS at q;split at q
 ·obtain rfl:=a0V r1;obtain rfl:=a0V r2;obtain⟨t1,rfl⟩:=rx;obtain⟨t2,rfl⟩:=ry;exact PySem.P.le_str ⟨.bl _,H,I,rfl,en _ _ M H Kp.refl hh a1M q⟩
 ·exact q.elim
end
noncomputable def a8n(ks:List (Str×Int))(z:Str):Option Int:=(ks.find? fun p=>p.1=z).map (·.2)
structure CitK(K:PySem.W.Frag)(P:c8G)(w:c9d)(d:Addr)(ks:List (Str×Int)):Prop where
 ok:∃o us,K.lookup d=some o/\o.IsDictOf (strKind P w) us/\∀z,(∃i t,a8n ks z=some i/\valueAt us z=some (.int i t))\/(a8n ks z=none/\valueAt us z=none)
 ns:(d==sysModules)=false
noncomputable def ciT:Option Int->T
 |some i=>.int i
 |none=>.non
noncomputable def b8n(ks:List (Str×Int))(te:TE3):TE3:=fun ρ M Q=>te ρ M fun x M1=>match x with
 |.str z=>Q (ciT (a8n ks z)) M1
 |_=>False
section
variable{X:Cx}
theorem c2l{d:Addr}{x:Str}{e:Expr}{te:TE3}{ks:List (Str×Int)}{p apos cpos:Pos}(C:CitK X.K X.prog X.w d ks)(hm:X.mg x=some (.ref d))(he:HE X e te)
  (m1:attributeBase (.Name x p) "get" X.env (eval (.Name x p) X.env)=eval (.Name x p) X.env:=by rfl)
  (m2:((backTo cpos (starEach [e] X.env)).all (fun x=>!x.1)&&(backToKw cpos (keywordEach [] X.env)).all (fun x=>x.1.isSome)
   && decide (([e]:LSE).length+([]:List d1v).length+(if ([]:List d1v).isEmpty then 0 else 1)<30))=true:=by rfl)
  (m3:QLL apos cpos:=by rfl) (m4:backTo cpos (starEach [e] X.env)=[(false,eval e X.env)]:=by rfl)
  (hg:Gl X x:=by rfl) (hdb:QDD x:=by decide) :
  HE X (.Call (.Attribute (.Name x p) "get" apos) [e] [] cpos) (b8n ks te):=by
 intro ρ M Q h pins s σ H Q2 I b;obtain⟨hr,hh,en⟩:=b;have hn:PE X (.Name x p) (tC (.ref d)):=b4O hg hm rfl hdb;obtain⟨o,us,hk,hd,hat⟩:=C.ok;refine d2E m1 m2 m3 PySem.F.plainAttrs_dict PySem.F.slot_dict_get PySem.F.type_dict_get (thn (hn pins s σ H (fun v H1=>v=.ref d/\H1=H) I ⟨rfl,rfl⟩) fun u s1 ⟨x1,H1,I1,rx,e1,e2⟩=>?_);subst e1 e2;cases rx;have dd:s1.heap.DictOf (strKind X.prog X.w) d us:=d5t.mpr ⟨o,I1.kIn d o hk,hd⟩
 refine⟨dd.typeIs,fun b q=>by
  cases q;obtain⟨ob,_,_,h1,h2,_⟩:=dd
  exact⟨ob,h1,h2.2.1⟩,?_⟩
 rw[m4]
 refine c9H rfl (c9W (c9E (thn (he ρ M _ h pins s1 σ H1 (fun v H2=>∃t M1,Kp X.K H1 H2/\HR X.K H2 M1/\Rep X.K H2 v t/\(match t with
  |.str z=>Q (ciT (a8n ks z)) M1
  |_=>False)) I1 ⟨hr,hh,fun t v M1 H2 k1 h1 r1 q1=>⟨t,M1,k1,h1,r1,q1⟩⟩) fun iv s2 ⟨y,H2,I2,ry,t,M1,k1,h1,rt,q1⟩=>c9Z ?_)))
 split at q1
 ·rename_i z;obtain rfl:=a0V rt;obtain⟨tk,rfl⟩:=ry;have dd2:s2.heap.DictOf (strKind X.prog X.w) d us:=d5t.mpr ⟨o,I2.kIn d o hk,hd⟩;refine d3m PySem.F.slot_dict_get dd2.typeIs PySem.F.entry_dict_get (PySem.F.args_dict_get_2 _ _) (meets_dict_get (strKind X.prog X.w) d (strKind_is _ _ z tk) C.ns) ⟨_,dd2.mapOf,?_⟩;rcases hat z with ⟨i,t,e1,e2⟩|⟨e1,e2⟩
  ·rw[e1] at q1;rw[e2];exact⟨.int i,H2,I2.tok _,⟨t,rfl⟩,en _ _ M1 H2 k1 h1 a0x q1⟩
  ·rw[e1] at q1;rw[e2];exact⟨.non,H2,I2.tok _,rfl,en _ _ M1 H2 k1 h1 a5j q1⟩
 ·exact q1.elim
end
theorem b3h{P:c8G}{w:c9d}:∀(L:List (Str×Tok×Int×Tok)),PySem.Pairs (PySem.strKind P w) (L.map fun q=>(⟨c9w w.params q.1,.str q.1 q.2.1,.int q.2.2.1 q.2.2.2⟩:d5k)) (L.map fun q=>(q.1,d0R q.2.2.1 q.2.2.2))
 |[]=>.nil
 |q::L=>.cons (by show(q.1==q.1)=true;exact beq_self_eq_true _) rfl (b3h L)
theorem c3n(z:Str):∀L:List (Str×Tok×Int×Tok),(∃i t,a8n (L.map fun q=>(q.1,q.2.2.1)) z=some i/\valueAt (L.map fun q=>(q.1,d0R q.2.2.1 q.2.2.2)) z=some (.int i t))\/(a8n (L.map fun q=>(q.1,q.2.2.1)) z=none/\valueAt (L.map fun q=>(q.1,d0R q.2.2.1 q.2.2.2)) z=none)
 |[]=>.inr ⟨rfl,rfl⟩
 | q::L=>by
   unfold a8n valueAt;rw[c8g,c8g,c9h,c9h];by_cases c:q.1=z
   ·exact .inl ⟨q.2.2.1,q.2.2.2,by simp[c],by simp[c]⟩
   ·simp only[c,decide_false];exact c3n z L
theorem c4W{K:PySem.W.Frag}{P:c8G}{w:c9d}{d:Addr}{ep:Nat}(L:List (Str×Tok×Int×Tok))(l:K.lookup d=some ⟨.type "dict",none,.dict (L.map fun q=>(⟨c9w w.params q.1,.str q.1 q.2.1,.int q.2.2.1 q.2.2.2⟩:d5k)).toArray ep,#[]⟩)(nd:(L.map fun q=>q.1).Nodup)(ns:(d==sysModules)=false) :
  CitK K P w d (L.map fun q=>(q.1,q.2.2.1)):=by
 refine⟨⟨_,L.map fun q=>(q.1,d0R q.2.2.1 q.2.2.2),l,⟨_,ep,⟨rfl,rfl,rfl⟩,rfl,fun e he=>?_,?_,?_⟩,fun z=>c3n z L⟩,ns⟩
 ·rw[List.mem_toArray] at he;obtain⟨q,_,rfl⟩:=c8q.mp he;exact⟨q.1,by show(q.1==q.1)=true;exact beq_self_eq_true _,rfl⟩
 ·exact b3h L
 ·rw[c9l];exact nd
theorem b2Z:∀{r:LSS} {x:Str},risingS x r=true->(x::r).Pairwise fun a b=>a.cps.toList<=b.cps.toList
 |[],x,_=>c9D _ _
 | y::r,x,h=>by
   unfold risingS at h;rw[c8S,d0E,ltCps_eq,decide_eq_false_iff_not] at h;have ih:=b2Z h.2;have hxy:x.cps.toList<=y.cps.toList:=h.1;refine c9F.mpr ⟨fun z hz=>?_,ih⟩;rcases c8n.mp hz with rfl|hz
   ·exact hxy
   ·exact List.le_trans hxy ((c9F.mp ih).1 z hz)
theorem b0q{l:LSS}(h:sortedS l=true):l.Pairwise fun a b=>a.cps.toList<=b.cps.toList:=by
 cases l with
 |nil=>exact .nil
 |cons x r=>exact b2Z h
theorem b2M{a b c:LSS}(h1:a.Perm c)(h2:b.Perm c)(s1:sortedS a=true)(s2:sortedS b=true):a=b :=
 List.Perm.eq_of_pairwise (fun x y _ _ l1 l2=>a4Q (List.le_antisymm l1 l2)) (b0q s1) (b0q s2) (h1.trans h2.symm)
theorem c3l:((" ":Str)).cps.toList=[32]:=by decide +kernel
theorem a8C(x:Str)(xs:LSS):(c9O (" ":Str) (x::xs)).cps.toList=x.cps.toList++xs.flatMap fun y=>32::y.cps.toList:=by
 show(d1E (" ":Str) _).cps.toList=_;rw[d0X,a4B,c3l];rfl
theorem b6O{x:Str}{xs:LSS}(h:∀w∈x::xs,32∉w.cps.toList):d1k (c9O (" ":Str) (x::xs)) (" ":Str)=x::xs:=by
 have e:(" ":Str)=⟨#[32]⟩:=by decide +kernel
 have hj:=d4k (c9O (" ":Str) (x::xs)) (" ":Str);have hf:∀p∈d1k (c9O (" ":Str) (x::xs)) (" ":Str),32∉p.cps.toList:=by rw[e];exact d4l _ 32
 have hp:=split_pos (c9O (" ":Str) (x::xs)) (" ":Str)
 generalize d1k (c9O (" ":Str) (x::xs)) (" ":Str)=ps at hj hf hp|-
 cases ps with
 |nil=>simp at hp
 | cons p ps =>
   have hj2:=congrArg (fun z:Str=>z.cps.toList) hj;simp only[a4B,a8C,c3l] at hj2;have e1:(ps.flatMap fun y=>[32]++y.cps.toList)=(ps.map fun y=>y.cps.toList).flatMap fun a=>32::a:=by rw[d0M];rfl
   have e2:(xs.flatMap fun y=>32::y.cps.toList)=(xs.map fun y=>y.cps.toList).flatMap fun a=>32::a:=by rw[d0M]
   rw[e1,e2] at hj2
   obtain⟨h3,h4⟩:=a9d (hf p (.head _)) (h x (.head _)) (fun a ha=>by
     obtain⟨y,hy,rfl⟩:=c8q.mp ha
     exact hf y (.tail _ hy)) (fun a ha=>by
     obtain⟨y,hy,rfl⟩:=c8q.mp ha
     exact h y (.tail _ hy)) hj2
   rw[a4Q h3];congr 1
   exact List.map_inj_right (fun a b q=>a4Q q) |>.mp h4
noncomputable def c5b(b:Nat)(ws:LSS):Prop:=∀w∈ws,32∉w.cps.toList/\w.length<=b
theorem c0S{b:Nat}{ws:LSS}(h:c5b b ws):∀w∈ws,32∉w.cps.toList:=fun w hw=>(h w hw).1
theorem c0k(k b:Nat)(ns:LSS)(h:∀y∈ns,y.length<=b):∀acc:Nat,ns.foldl (fun a y=>a+y.length+k) acc<=acc+(b+k)*ns.length:=by
 induction ns with
 |nil=>intro acc;exact c8d _
 | cons y ns ih =>
   intro acc;have h1:=ih (fun z hz=>h z (c8m _ hz)) (acc+y.length+k);have h2:=h y (c8r ..);rw[d0f,c8e,d2n];lia
theorem a5G{e:Str}{ns:LSS}{b:Nat}(he:e.length<=1)(h:∀y∈ns,y.length<=b)(hn:(b+1)*ns.length<=10000):d5p e ns=true:=by
 unfold d5p d3U;have h1:=c0k e.length b ns h 0;have h2:(b+e.length)*ns.length<=(b+1)*ns.length:=d3G _ (by lia);have h3:(10000:Nat)<=sizeLine:=by decide
 have h4:ns.toArray.foldl (fun a y=>a+y.length+e.length) 0=ns.foldl (fun a y=>a+y.length+e.length) 0:=by simp
 rw[h4];simp only[d0E,decide_eq_false_iff_not];lia
theorem b2E{b:Nat}:∀{ws:LSS},(∀y∈ws,y.length<=b)->(c9O (" ":Str) ws).length<=(b+1)*ws.length
 |[],_=>c9j _
 | x::xs,h=>by
   have e:(c9O (" ":Str) (x::xs)).length=x.length+(xs.flatMap fun y=>32::y.cps.toList).length:=by
    have:=congrArg d0o (a8C x xs);rw[c8p,c8K,c8K] at this;exact this
   have g:∀ys:LSS,(∀y∈ys,y.length<=b)->(ys.flatMap fun y=>32::y.cps.toList).length<=(b+1)*ys.length:=by
    intro ys
    induction ys with
    |nil=>intro _;exact c9j _
    | cons y ys ih =>
      intro hy;have i1:=ih fun z hz=>hy z (.tail _ hz);have i2:=hy y (.head _);rw[c8V,c8p,c8e,c8K,c8e,d2n];have:y.cps.size<=b:=i2;lia
   have i1:=g xs fun z hz=>h z (.tail _ hz);have i2:=h x (.head _);rw[e,c8e,d2n];lia
theorem b8f{x:Str}{xs:LSS}(h:1<=x.length):1<=(c9O (" ":Str) (x::xs)).length:=by
 have e:(c9O (" ":Str) (x::xs)).length=x.length+(xs.flatMap fun y=>32::y.cps.toList).length:=by
  have:=congrArg d0o (a8C x xs);rw[c8p,c8K,c8K] at this;exact this
 lia
noncomputable def plW(n:Int)(ws:LSI):LSS:=(a0p n++(":":Str))::ws.map a0p
theorem c1A(n:Int)(ws:LSI):c9O (" ":Str) (plW n ws)=wrS n ws:=by
 show d1E (" ":Str) _=_;rw[d0X];exact c0Q n ws
theorem c2X{n:Int}{ws:LSI}(ok:PlOK n ws):c5b 8 (plW n ws):=fun w hw=>by
 have hn1:=ok.1;have hn6:=ok.2.1;rcases c8n.mp hw with rfl|hw
 ·exact⟨(c3H n hn1 hn6).2.2,by have:=a8v hn1 hn6;lia⟩
 ·obtain⟨l,hl,rfl⟩:=c8q.mp hw;obtain⟨l0,l1⟩:=a5D ok l hl;obtain⟨a,b,_⟩:=sI l l0 l1;exact⟨a,by lia⟩
noncomputable def PwJ(lo hi:Nat)(p:Po):Prop:=∀x∈p,-(lo:Int)<=x.1/\x.1<=(hi:Int)
noncomputable def GdJ(lo hi B:Nat)(p:Po):Prop:=CanP p/\PwJ lo hi p/\N1 p<=B
section
variable{lo hi lo' hi' B C:Nat}{p q:Po}
theorem PwJ.mono(h:PwJ lo hi p)(h1:lo<=lo')(h2:hi<=hi'):PwJ lo' hi' p:=fun x hx=>by
 have:=h x hx;exact⟨by lia,by lia⟩
theorem PwJ.add(hp:PwJ lo hi p)(hq:PwJ lo hi q):PwJ lo hi (addP p q):=fun x hx=>by
 obtain⟨y,hy,e⟩:=a6R x hx;rw[<- e];rcases c8U.mp hy with z|z
 ·exact hp y z
 ·exact hq y z
theorem PwJ.mul(hp:PwJ lo hi p)(hq:PwJ lo' hi' q):PwJ (lo+lo') (hi+hi') (a2V p q):=fun x hx=>by
 obtain⟨y,hy,e⟩:=a6R x hx;rw[<- e];obtain⟨u,hu,hy⟩:=d5a.mp hy;obtain⟨v,hv,rfl⟩:=c8q.mp hy;have h1:=hp u hu;have h2:=hq v hv;exact⟨by show _<=u.1+v.1;lia,by show u.1+v.1<=_;lia⟩
theorem GdJ.mono(h:GdJ lo hi B p)(h1:lo<=lo')(h2:hi<=hi')(h3:B<=C):GdJ lo' hi' C p:=⟨h.1,h.2.1.mono h1 h2,c8C h.2.2 h3⟩
theorem GdJ.add(hp:GdJ lo hi B p)(hq:GdJ lo hi C q):GdJ lo hi (B+C) (addP p q):=⟨a1O _,hp.2.1.add hq.2.1,c8C (c0O p q) (d5z hp.2.2 hq.2.2)⟩
theorem GdJ.mul(hp:GdJ lo hi B p)(hq:GdJ lo' hi' C q):GdJ (lo+lo') (hi+hi') (B*C) (a2V p q):=⟨a1O _,hp.2.1.mul hq.2.1,c8C (c0N p q) (d1m hp.2.2 hq.2.2)⟩
noncomputable def b7o(lo hi:Nat):LSI:=(c8I (lo+hi+1)).map fun(i:Nat)=>((i:Int)-(lo:Int))
theorem a8W(lo hi:Nat):(b7o lo hi).length=lo+hi+1:=by unfold b7o;rw[c8a,c9u]
theorem a6T{x:Int}(h1:-(lo:Int)<=x)(h2:x<=(hi:Int)):x∈b7o lo hi:=c8q.mpr ⟨(x+(lo:Int)).toNat,c9U.mpr (by lia),by show(((x+(lo:Int)).toNat:Nat):Int)-(lo:Int)=x;lia⟩
theorem GdJ.len(h:GdJ lo hi B p):p.length<=lo+hi+1:=by
 have h1:(p.map c8J).Nodup:=c9n.mpr (h.1.1.imp fun h z=>d1K h z)
 have h2:(p.map c8J).length<=(b7o lo hi).length:=d0g h1 fun k hk=>by
  obtain⟨x,hx,rfl⟩:=c8q.mp hk;exact a6T (h.2.1 x hx).1 (h.2.1 x hx).2
 rwa [c8a,a8W] at h2
end
theorem c2q:GdJ 0 1 1 upP:=⟨⟨by decide,by decide⟩,by unfold PwJ;decide,by decide⟩
theorem b7C:GdJ 1 0 1 c2C:=⟨⟨by decide,by decide⟩,by unfold PwJ;decide,by decide⟩
theorem c0d:GdJ 0 1 2 lupP:=⟨⟨by decide,by decide⟩,by unfold PwJ;decide,by decide⟩
theorem b5j:GdJ 1 0 2 b6d:=⟨⟨by decide,by decide⟩,by unfold PwJ;decide,by decide⟩
theorem a3R:GdJ 0 0 1 [(0,-1)]:=⟨⟨by decide,by decide⟩,by unfold PwJ;decide,by decide⟩
theorem a5n:∀c,GdJ 0 0 1 (sgnP c)
 |0=>⟨⟨by decide,by decide⟩,by unfold PwJ;decide,by decide⟩
 |c+1=>(a5n c).mul a3R
theorem b3T(lo hi B:Nat):GdJ lo hi B []:=⟨⟨.nil,fun _ z=>absurd z c8M⟩,fun _ z=>absurd z c8M,c9j _⟩
theorem a9l(r c:Int):GdJ 0 0 1 (oneP r c):=by
 unfold oneP;split
 ·exact⟨⟨by decide,by decide⟩,by unfold PwJ;decide,by decide⟩
 ·exact b3T _ _ _
noncomputable def ltN(l:Int):Nat:=if 0<l then 0 else 1
noncomputable def ltP(l:Int):Nat:=if 0<l then 1 else 0
theorem c2p{lo hi B:Nat}{l:Int}{p q:Po}(hp:GdJ lo hi B p)(hq:GdJ lo hi B q):GdJ (lo+ltN l) (hi+ltP l) (3*B) (wl1 l p q)/\GdJ (lo+ltN l) (hi+ltP l) (3*B) (wl2 l p q):=by
 unfold wl1 wl2 ltN ltP;by_cases c:0<l
 ·rw[if_pos c,if_pos c,if_pos c,if_pos c];exact⟨((hp.mul c0d).add (hq.mono (by lia) (by lia) (c8d _))).mono (by lia) (by lia) (by lia),(hp.mul c2q).mono (by lia) (by lia) (by lia)⟩
 ·rw[if_neg c,if_neg c,if_neg c,if_neg c];exact⟨(hq.mul b7C).mono (by lia) (by lia) (by lia),((hp.mono (lo':=lo+1) (hi':=hi+0) (by lia) (by lia) (c8d _)).add (hq.mul b5j)).mono (by lia) (by lia) (by lia)⟩
theorem a3S{lo hi B:Nat}{ps:List Po}(h:∀p∈ps,GdJ lo hi B p){i:Nat}(hi':i<ps.length):GdJ lo hi B (ps.getD i []):=h _ (by rw[c8l,c8b hi'];exact c9B _)
theorem b7V{lo hi B:Nat}{ps:List Po}{l:Int}(h:∀p∈ps,GdJ lo hi B p)(h1:1<=l.natAbs)(h2:l.natAbs<ps.length):∀p∈wlP ps l,GdJ (lo+ltN l) (hi+ltP l) (3*B) p:=fun p hp=>by
 unfold wlP at hp;obtain⟨g0,g1⟩:=c2p (l:=l) (a3S h (i:=l.natAbs-1) (by lia)) (a3S h (i:=l.natAbs) h2);rcases c8U.mp hp with z|z
 ·exact(h p (d0A z)).mono (by lia) (by lia) (by lia)
 rcases c8U.mp z with z|z
 ·rcases c8n.mp z with e|z
  ·rw[e];exact g0
  ·rw[c8A.mp z];exact g1
 ·exact(h p (d1h z)).mono (by lia) (by lia) (by lia)
noncomputable def a7U(n lo hi B:Nat)(rs:List (List Po)):Prop:=rs.length=n/\∀ps∈rs,ps.length=n/\∀p∈ps,GdJ lo hi B p
noncomputable def ngN:LSI->Nat
 |[]=>0
 |l::w=>ltN l+ngN w
noncomputable def ngP:LSI->Nat
 |[]=>0
 |l::w=>ltP l+ngP w
theorem b9m:∀w:LSI,ngN w+ngP w=w.length
 |[]=>rfl
 | l::w=>by
   have:=b9m w;show ltN l+ngN w+(ltP l+ngP w)=w.length+1;unfold ltN ltP;split<;>lia
theorem b0N{n:Nat}:∀(ws:LSI) {lo hi B:Nat} {rs:List (List Po)},a7U n lo hi B rs->(∀l∈ws,1<=l.natAbs/\l.natAbs<n)->a7U n (lo+ngN ws) (hi+ngP ws) (3^ws.length*B) (ws.foldl (fun rs l=>rs.map fun ps=>wlP ps l) rs)
 | [],lo,hi,B,rs,h,_=>by
   show a7U n (lo+0) (hi+0) (3^0*B) rs;rw[d5W,d2a];exact h
 | l::w,lo,hi,B,rs,h,hw=>by
   have hs:a7U n (lo+ltN l) (hi+ltP l) (3*B) (rs.map fun ps=>wlP ps l):=by
    obtain⟨h1,h2⟩:=hw l (.head _);refine⟨by rw[c8a];exact h.1,fun ps hps=>?_⟩;obtain⟨qs,hq,rfl⟩:=c8q.mp hps;obtain⟨g1,g2⟩:=h.2 qs hq;exact⟨by rw[b7U h1 (by rw[g1];exact h2)];exact g1,b7V g2 h1 (by rw[g1];exact h2)⟩
   have h2:=b0N w hs fun x hx=>hw x (.tail _ hx);have e:3^w.length*(3*B)=3^(w.length+1)*B:=by rw[d5X,d5N]
   rw[e,d4p,d4p] at h2;exact h2
theorem b0k{n:Int}{ws:LSI}(hw:a0S n ws):a7U n.toNat (ngN ws) (ngP ws) (3^ws.length) (tabP n ws):=by
 have hid:a7U n.toNat 0 0 1 (idP n):=by
  unfold idP;refine⟨by rw[c8a,a0J],fun ps hps=>?_⟩;obtain⟨r,_,rfl⟩:=c8q.mp hps;refine⟨by rw[c8a,a0J],fun p hp=>?_⟩;obtain⟨c,_,rfl⟩:=c8q.mp hp;exact a9l r c
 have h:=b0N ws hid (fun l hl=>by obtain⟨a,b⟩:=hw l hl;exact⟨by lia,by lia⟩)
 rwa [d3r,d3r,d3V] at h
theorem a6p{n:Int}{ws:LSI}(ok:PlOK n ws):a7U (n.toNat-1) (ngN ws) (ngP ws) (1+3^ws.length) (a5K n ws):=by
 obtain⟨o1,o2,o3,o4⟩:=ok;have hG:=b0k (n:=n) o4;unfold a5K;refine⟨by rw[c8a,c9u],fun ps hps=>?_⟩;obtain⟨i,hi,rfl⟩:=c8q.mp hps;refine⟨by rw[c8a,c9u],fun q hq=>?_⟩;obtain⟨j,hj,rfl⟩:=c8q.mp hq;have h1:=c9U.mp hi;have h2:=c9U.mp hj;obtain⟨g1,g2⟩:=hG.2 ((tabP n ws).getD (i+1) []) (by rw[c8l,c8b (by rw[hG.1];lia)];exact c9B _);have gj:=a3S g2 (i:=j+1) (by rw[g1];lia)
 exact((a9l ((i+1:Nat):Int) ((j+1:Nat):Int)).mono (lo':=ngN ws+0) (hi':=ngP ws+0) (by lia) (by lia) (c8d _)).add (gj.mul a3R) |>.mono (by lia) (by lia) (by lia)
theorem a6t{n lo hi B c:Nat}{rs:List (List Po)}(h:∀ps∈rs,ps.length=n+1/\∀p∈ps,GdJ lo hi B p)(hc:c<n+1)(hl:rs.length=n):a7U n lo hi B (a4x c rs):=by
 unfold a4x;refine⟨by rw[c8a];exact hl,fun ps hps=>?_⟩;obtain⟨qs,hq,rfl⟩:=c8q.mp hps;obtain⟨g1,g2⟩:=h qs hq;refine⟨by rw[c8p,c9b,c9s];lia,fun p hp=>?_⟩;rcases c8U.mp hp with z|z
 ·exact g2 p (d0A z)
 ·exact g2 p (d1h z)
theorem a6s{lo hi B C m:Nat}{ps:List Po}{f:Nat->Po}(hp:∀p∈ps,GdJ lo hi B p)(hf:∀c,c<ps.length->GdJ (m*lo) (m*hi) C (f c)):∀c,c<=ps.length->GdJ ((m+1)*lo) ((m+1)*hi) (c*(B*C)) ((c8I c).foldl (a9O ps f) [])
 |0,_=>b3T _ _ _
 | c+1,hc=>by
   have ih:=a6s hp hf c (by lia);rw[b0Q];generalize (c8I c).foldl (a9O ps f) []=acc at ih;unfold a9O;have e1:(m+1)*lo=lo+m*lo+0:=by rw[d1F,d2a];lia
   have e2:(m+1)*hi=hi+m*hi+0:=by rw[d1F,d2a];lia
   split
   ·exact ih.mono (c8d _) (c8d _) (d3G _ (d1C _))
   ·have h1:=((a3S hp (i:=c) (by lia)).mul (hf c (by lia))).mul (a5n c);rw[<- e1,<- e2,d3V] at h1;exact(ih.add h1).mono (c8d _) (c8d _) (by rw[d5T];exact c8d _)
theorem a3T{lo hi B:Nat}:∀(m:Nat) {rs:List (List Po)},a7U m lo hi B rs->GdJ (m*lo) (m*hi) (dB B m) (detP (m+1) rs)
 | 0,[],_=>by
   show GdJ (0*lo) (0*hi) 1 [(0,1)];rw[d4N,d4N];exact⟨⟨by decide,by decide⟩,by unfold PwJ;decide,by decide⟩
 |0,_::_,h=>by have:=h.1;simp at this
 |m+1,[],h=>by have:=h.1;simp at this
 | m+1,ps::rs,h=>by
   obtain⟨g1,g2⟩:=h.2 ps (.head _);have hl:rs.length=m:=by have:=h.1;rw[c8e] at this;lia
   have hr:∀qs∈rs,qs.length=m+1/\∀p∈qs,GdJ lo hi B p:=fun qs hq=>h.2 qs (.tail _ hq);have e:=a6s (m:=m) (C:=dB B m) (f:=fun c=>detP (m+1) (a4x c rs)) g2 (fun c hc=>a3T m (a6t hr (by rw[<- g1];exact hc) hl)) ps.length (c8d _);rw[g1] at e;show GdJ ((m+1)*lo) ((m+1)*hi) (dB B (m+1)) ((c8I ps.length).foldl (a9O ps fun c=>detP (m+1) (a4x c rs)) []);rw[g1];exact e
noncomputable def b0W(n:Int)(ws:LSI):Prop:=(n.toNat-1)*ws.length<=62
theorem b0W.two{n:Int}{ws:LSI}(h:b0W n ws):(n.toNat-1)*ngN ws+(n.toNat-1)*ngP ws<=62:=by
 rw[<- d6k,b9m];exact h
theorem c0D{n:Int}{ws:LSI}:CanP (b0f n ws):=by
 unfold b0f;cases detP n.toNat (a5K n ws) with
 |nil=>exact⟨.nil,fun _ z=>absurd z c8M⟩
 |cons x p=>exact a1O _
theorem b7O{n:Int}{ws:LSI}(ok:PlOK n ws)(hs:b0W n ws):(b0f n ws).length<64:=by
 have h:=a3T _ (a6p ok);have e:n.toNat-1+1=n.toNat:=by have:=ok.1;lia
 rw[e] at h;have h1:=h.len;have h2:=hs.two;unfold b0f;exact c8D (c0j _) (by lia)
section
variable{X:Cx}{Ha:Hp}
theorem c5H{o i value:Expr}{td tk tv:TE3}{pos pos':Pos}(hu:X.A.units+64<cLine)(hv:HEX X Ha value tv)(ho:HE X o td)(hi:HE X i tk)(hs:swapsWith value (some (.Subscript o i pos')) pos.line X.env=pure false:=by rfl) :
  HSX X Ha (.Assign [.Subscript o i pos'] value pos) (sDPK td tk tv):=fun D ρ M h =>
 (b8S (by lia) (ho.d (ρ:=ρ)) (hi.d (ρ:=ρ)) (hv.d (ρ:=ρ)) hs).imp fun D2 σ H ⟨ka,hr,hh,en⟩=>⟨M,_,h,ka,hr,hh,fun z v M1 H1 k1 h1 r1 q1=>⟨M1,_,q1,hr.kp k1,h1,fun x v2 M2 H2 k2 h2 r2 q2=>⟨M2,_,q2,hr.kp (k1.trans k2),h2,fun y v3 M3 H3 k3 h3 r3 q3=>by
  cases x with
  | adr p =>
    cases r2;dsimp only at q3;split at q3
    ·rename_i kvs e;obtain⟨kk,rfl,hl,q3⟩:=q3;obtain rfl:=a3I r3;obtain⟨xs,g1,g2⟩:=h3 _ _ e;have kk':=Kp.dict (K:=X.K) (u:=.dK (putK xs kk v)) g1 (.inl ⟨_,rfl⟩);have kall:=(k1.trans k2).trans (k3.trans kk');refine⟨_,_,rfl,DPut.k g1 (by rw[g2.length];exact hl),en.nx _ _ _ _ kall (hr.kp kall) (h3.setK g1 (.inl ⟨_,rfl⟩) (g2.put kk (Rep.kp (k2.trans k3) _ _ r1))) q3⟩
    ·exact q3.elim
  |_=>exact q3.elim⟩⟩⟩
end
noncomputable def c3s(K:PySem.W.Frag)(C1 C2:Addr):Bool :=
 PySem.W.excIn K C1 bmVE "ValueError.__new__"&&(PySem.W.excIn K C2 bmVE "ValueError.__new__"&&((PySem.W.subIn K (.ref C1) (.type "BaseException")==some true)&&((PySem.W.subIn K (.ref C2) (.type "BaseException")==some true)
  && ((PySem.W.subIn K (.ref C1) (.ref C1)==some true)&&((PySem.W.subIn K (.ref C2) (.ref C2)==some true)&&(PySem.W.subIn K (.ref C2) (.ref C1)==some false))))))
theorem c3r{K:PySem.W.Frag}{mg:SOV}{n1 n2:Str}{C1 C2:Addr}(h:c3s K C1 C2=true)(m1:mg n1=some (.ref C1))(m2:mg n2=some (.ref C2)):XTwo K mg n1 n2/\XCl K mg n1/\XCl K mg n2:=by
 unfold c3s at h;simp only[c8S,beq_iff_eq] at h;obtain⟨h1,h2,h3,h4,h5,h6,h7⟩:=h;exact⟨⟨C1,C2,m1,m2,h1,h2,h3,h4,h5,h6,h7⟩,⟨C1,m1,h1⟩,⟨C2,m2,h2⟩⟩
noncomputable def tOrS(ta tb:TE3):TE3:=fun ρ M Q=>ta ρ M fun x M1=>match x with
 |.str y=>y.length<=sizeLine/\(y.length=0->tb ρ M1 Q)/\(y.length≠0->Q (.str y) M1)
 |_=>False
theorem c7S{X:Cx}{a b:Expr}{rest:LSE}{ta tb:TE3}{pos:Pos}(ha:HE X a ta)(hb:HE X (.BoolOp .Or (b::rest) pos) tb):HE X (.BoolOp .Or (a::b::rest) pos) (tOrS ta tb):=by
 intro ρ M Q h pins s σ H Q2 I bb;obtain⟨hr,hh,en⟩:=bb
 refine BoolOp_or (thn (ha ρ M _ h pins s σ H (fun v H1=>∃t M1,Kp X.K H H1/\HR X.K H1 M1/\Rep X.K H1 v t/\(match t with
  |.str y=>y.length<=sizeLine/\(y.length=0->tb ρ M1 Q)/\(y.length≠0->Q (.str y) M1)
  |_=>False)) I ⟨hr,hh,fun t v M1 H1 k1 h1 r1 q1=>⟨t,M1,k1,h1,r1,q1⟩⟩) fun v s1 ⟨x,H1,I1,rv,t,M1,k1,h1,r1,q1⟩=>?_)
 split at q1
 ·rename_i y;obtain⟨hy,q0,q1⟩:=q1;obtain rfl:=a0V r1;obtain⟨tk,rfl⟩:=rv;have hz:¬(y.length:Int) >= 2^63:=by rw[c9z] at hy;clear q0 q1;omega
  refine PySem.P.truthy_str hz ?_;by_cases c:y.length=0
  ·have e:((y.length:Int) != 0)=false:=by rw[c];rfl
   rw[e];exact hb ρ M1 Q (q0 c) pins _ σ H1 Q2 (I1.tok _) ⟨hr.kp k1,h1,en.kp k1⟩
  ·have e:((y.length:Int) != 0)=true:=by simpa using c
   rw[e];exact⟨.str y,H1,I1.tok _,⟨tk,rfl⟩,en _ _ M1 H1 k1 h1 a1r (q1 c)⟩
 ·exact q1.elim
noncomputable abbrev MS:=LSI×List Int×Nat
noncomputable def mvQ(s:MS):MS:=if s.2.2<s.1.length then if (dsB s.2.1 s.2.2&&!dsB s.1 s.2.2)=true then (a4a s.1 (s.2.2-1),a4a s.2.1 (s.2.2-1),max (s.2.2-1) 1) else (s.1,s.2.1,s.2.2+1) else s
noncomputable def mvJ:Nat->MS->MS
 |0,s=>s
 |k+1,s=>mvJ k (mvQ s)
theorem b9o{s:MS}(h:¬s.2.2<s.1.length):∀k,mvJ k s=s
 |0=>rfl
 | k+1=>by
   unfold mvJ;rw[show mvQ s=s from if_neg h];exact b9o h k
theorem c6u{e v:LSI}{l k:Nat}(h:l<e.length)(c:(dsB v l&&!dsB e l)=false):mvJ (k+1) (e,v,l)=mvJ k (e,v,l+1):=by
 show mvJ k (mvQ (e,v,l))=_;rw[show mvQ (e,v,l)=(e,v,l+1) from(if_pos h).trans (if_neg (by show ¬(dsB v l&&!dsB e l)=true;rw[c];decide))]
theorem c6v{e v:LSI}{l k:Nat}(h:l<e.length)(c:(dsB v l&&!dsB e l)=true):mvJ (k+1) (e,v,l)=mvJ k (a4a e (l-1),a4a v (l-1),max (l-1) 1):=by
 show mvJ k (mvQ (e,v,l))=_;rw[show mvQ (e,v,l)=(a4a e (l-1),a4a v (l-1),max (l-1) 1) from(if_pos h).trans (if_pos c)]
noncomputable def mvA(n:Int)(us vs:LSI):LSI×List Int:=if vs=(a0I n).reverse then (vs,flO n us) else (invO (mvJ 3000 (invO us,vs,1)).1,(mvJ 3000 (invO us,vs,1)).2.1)
noncomputable def pbF(n:Int):Nat->LLI->LLI
 |0,R=>R
 |a+1,R=>if (mvA n (R.getD a []) (R.getD (a+1) [])).2=R.getD (a+1) [] then R else pbF n a ((R.set a (mvA n (R.getD a []) (R.getD (a+1) [])).1).set (a+1) (mvA n (R.getD a []) (R.getD (a+1) [])).2)
theorem c7E{n:Int}{a:Nat}{R:LLI}:pbF n (a+1) R=if (mvA n (R.getD a []) (R.getD (a+1) [])).2=R.getD (a+1) [] then R else pbF n a ((R.set a (mvA n (R.getD a []) (R.getD (a+1) [])).1).set (a+1) (mvA n (R.getD a []) (R.getD (a+1) [])).2):=rfl
noncomputable def pbE(n:Int)(R:LLI)(w:LSI):LLI:=if (pbF n R.length (R++[w])).getLast?=some (a0I n) then (pbF n R.length (R++[w])).dropLast else pbF n R.length (R++[w])
noncomputable def fmR(n:Int):LSI->LLI->LLI
 |[],R=>R
 |l::ls,R=>fmR n ls (pbE n R (flp n (negs ls) (ordF n l)))
noncomputable def twR(n:Int)(S:LLI):Nat:=S.count (a0I n).reverse
noncomputable def b7F(p:Int×List Int):PR:=(-(negs p.2:Nat)+(twR p.1 (fmR p.1 p.2 []):Nat),(fmR p.1 p.2 []).drop (twR p.1 (fmR p.1 p.2 [])))
noncomputable abbrev Pl:=Int×List Int
noncomputable abbrev Dk:=List (Str×Pl)
noncomputable def kpT(p:Pl):T:=.tup [.int p.1,.tup (p.2.map .int)]
noncomputable def dkD(D:Dk):List (Key×T):=D.map fun x=>(.inr x.1,kpT x.2)
noncomputable def atD(D:Dk)(s:Str):Option Pl:=(D.find? fun x=>decide (x.1=s)).map (·.2)
noncomputable def putD(D:Dk)(s:Str)(p:Pl):Dk:=if (D.any fun x=>decide (x.1=s))=true then D.map (fun x=>if x.1=s then (x.1,p) else x) else D++[(s,p)]
noncomputable def b7N(D:Dk)(s:Str):Dk:=D.filter fun x=>decide (x.1≠s)
theorem b9N(a b:Str):decide ((d0S a:Key)=d0S b)=decide (a=b):=by
 by_cases c:a=b
 ·rw[c];simp
 ·rw[decide_eq_false c,decide_eq_false fun z=>c (d2N z)]
theorem a3Y(s:Str):∀D:Dk,valT (dkD D) (.inr s)=(atD D s).map kpT
 |[]=>rfl
 | x::D=>by
   have ih:=a3Y s D
   unfold valT atD dkD at ih|-
   rw[c8g,c9h,c9h,b9N];by_cases c:x.1=s
   ·rw[decide_eq_true c];rfl
   ·rw[decide_eq_false c];exact ih
theorem a8s(D:Dk)(s:Str)(p:Pl):putT (dkD D) (.inr s) (kpT p)=dkD (putD D s p):=by
 have e:((dkD D).any fun kv=>decide (kv.1=(.inr s:Key)))=D.any fun x=>decide (x.1=s):=by
  unfold dkD;rw[d5Y];congr 1
  funext x
  exact b9N _ _
 unfold putT putD;rw[e];split
 ·unfold dkD;rw[c9l,c9l];refine d0p fun x _=>?_
  show(if (d0S x.1:Key)=.inr s then _ else _)=_
  by_cases c:x.1=s
  ·simp[c]
  ·have c2:¬(d0S x.1:Key)=.inr s:=fun z=>c (d2N z);rw[if_neg c2];simp[c]
 ·unfold dkD;rw[c8v];rfl
theorem b3Y(D:Dk)(s:Str):c0r (dkD D) (.inr s)=dkD (b7N D s):=by
 unfold c0r b7N dkD;rw[List.filter_map];congr 1;refine List.filter_congr fun x _=>?_;show decide ((d0S x.1:Key)≠.inr s)=decide (x.1≠s);by_cases c:x.1=s
 ·simp[c]
 ·have c2:¬(d0S x.1:Key)=.inr s:=fun z=>c (d2N z);rw[decide_eq_true c,decide_eq_true c2]
theorem b2l(D:Dk):(dkD D).map c8J=(D.map c8J).map d0S:=by unfold dkD;rw[c9l,c9l];rfl
noncomputable def NMs:LSS:=["a","b","ab","knot","zzzzzzzz"]
noncomputable def MKs:LSS:=["turned","mirrored","flipped","shorter","behind"]
structure DkOK(D:Dk):Prop where
 nd:(D.map c8J).Nodup
 nm:∀x∈D,x.1∈NMs
 pl:∀x∈D,PlOK x.2.1 x.2.2/\x.2.1<=4
theorem DkOK.nil:DkOK []:=⟨.nil,fun _ z=>absurd z c8M,fun _ z=>absurd z c8M⟩
theorem DkOK.len{D:Dk}(h:DkOK D):D.length<=5:=by
 have:=d0g h.nd (l₂:=NMs) fun s hs=>by
  obtain⟨x,hx,rfl⟩:=c8q.mp hs;exact h.nm x hx
 rwa [c8a] at this
theorem c5a{D:Dk}{s:Str}{p:Pl}(h:atD D s=some p):(s,p)∈D:=by
 unfold atD at h;obtain⟨x,hx,rfl⟩:=c8L.mp h;have h1:=List.find?_some hx;have h2:=List.mem_of_find?_eq_some hx;rw[<- of_decide_eq_true h1];exact h2
theorem DkOK.put{D:Dk}(h:DkOK D){s:Str}{p:Pl}(hs:s∈NMs)(hp:PlOK p.1 p.2/\p.1<=4):DkOK (putD D s p):=by
 unfold putD;split
 ·have e:(D.map fun x=>if x.1=s then (x.1,p) else x).map c8J=D.map c8J:=by
   rw[c9l];refine d0p fun x _=>?_
   show(if x.1=s then (x.1,p) else x).1=x.1
   split<;>rfl
  refine⟨by rw[e];exact h.nd,fun x hx=>?_,fun x hx=>?_⟩
  ·obtain⟨y,hy,rfl⟩:=c8q.mp hx;split
   ·exact h.nm y hy
   ·exact h.nm y hy
  ·obtain⟨y,hy,rfl⟩:=c8q.mp hx;split
   ·exact hp
   ·exact h.pl y hy
 ·rename_i c;refine⟨?_,fun x hx=>?_,fun x hx=>?_⟩
  ·rw[c8v];refine d4D.mpr ⟨h.nd,c9D _ _,fun a ha b hb z=>c ?_⟩;obtain⟨x,hx,rfl⟩:=c8q.mp ha;rw[c8g,c9g,List.mem_singleton] at hb;exact d5c.mpr ⟨x,hx,decide_eq_true (z.trans hb)⟩
  ·rcases c8U.mp hx with z|z
   ·exact h.nm x z
   ·rw[c8A.mp z];exact hs
  ·rcases c8U.mp hx with z|z
   ·exact h.pl x z
   ·rw[c8A.mp z];exact hp
theorem DkOK.drop{D:Dk}(h:DkOK D)(s:Str):DkOK (b7N D s) :=
 ⟨h.nd.sublist (List.Sublist.map _ List.filter_sublist),fun x hx=>h.nm x ((c9V.mp hx).1),fun x hx=>h.pl x ((c9V.mp hx).1)⟩
noncomputable def a2l(r:LSI):Str:=c9O (c8c "") (r.map fun p=>a0p (p+1))
noncomputable def c2v(f:PR):Str:=c9O (c8c " ") (a0p f.1::f.2.map a2l)
noncomputable def a5v(p:Po):Str:=match p.getLast? with
 |none=>"0"
 |some x=>c9O (c8c " ") (((c8I (x.1+1).toNat).map fun(i:Nat)=>(i:Int)).map fun k=>a0p (co p k))
noncomputable def c1g(p q:Pl):Str:=match a4M p.1 p.2 q.2 with
 |none=>"same"
 |some j=>"unlike at "++a0p j
noncomputable def a3Q(k:Str)(g:List Pl):Pl :=
 let p:=g.getD 0 (0,[])
 if k="turned" then (p.1,a0R p.2) else if k="mirrored" then (p.1,p.2.map fun l=>-l) else if k="flipped" then (p.1,p.2.map (b2d p.1)) else if k="shorter" then (p.1,redL p.2) else (p.1,p.2++(g.getD 1 (0,[])).2)
noncomputable def a6z(k:Str)(g:List Pl):Str :=
 let p:=g.getD 0 (0,[])
 if k="show" then wrS p.1 p.2 else if k="same" then c1g p (g.getD 1 (0,[])) else if k="order" then a2l (a6N p.1 p.2) else if k="form" then c2v (b7F p) else a5v (b0f p.1 p.2)
noncomputable def K1s:LSS:=["drop","show","order","form","closed"]
noncomputable def K2s:LSS:=["turned","mirrored","flipped","shorter","same"]
noncomputable def TKs:LSS:=["show","same","order","form","closed"]
inductive LnOK:Str->LSS->Prop
 |one {k a:Str} (hk:k∈K1s) (ha:a∈NMs):LnOK k [a]
 |two {k a b:Str} (hk:k∈K2s) (ha:a∈NMs) (hb:b∈NMs):LnOK k [a,b]
 |three {a b c:Str} (ha:a∈NMs) (hb:b∈NMs) (hc:c∈NMs):LnOK "behind" [a,b,c]
noncomputable def oldW(k:Str)(rest:LSS):LSS:=if k∈MKs then rest.drop 1 else rest
noncomputable def doF(k nm:Str)(g:List Pl)(D:Dk):Str×Dk :=
 let p:=g.getD 0 (0,[])
 let q:=g.getD 1 p
 if k="drop" then ("dropped",b7N D nm) else if p.1≠q.1 then ("unlike strands",D) else if k="behind"/\16<p.2.length+q.2.length then ("too long",D)
 else if k∈MKs then ("kept",putD D nm (a3Q k g)) else (a6z k g,D)
noncomputable def ansF(D:Dk)(k:Str)(rest:LSS):Str×Dk :=
 if (oldW k rest).all (fun w=>(atD D w).isSome) then doF k (rest.getD 0 "") ((oldW k rest).map fun w=>(atD D w).getD (0,[])) D else ("no such name",D)
noncomputable def GvOK(g:List Pl):Prop:=∀p∈g,PlOK p.1 p.2/\p.1<=4
theorem c4I{D:Dk}(h:DkOK D){ws:LSS}(hs:(ws.all fun w=>(atD D w).isSome)=true):GvOK (ws.map fun w=>(atD D w).getD (0,[])):=fun p hp=>by
 obtain⟨w,hw,rfl⟩:=c8q.mp hp;have:=c9N.mp hs w hw;obtain⟨q,hq⟩:=c9y.mp this;rw[hq];exact h.pl _ (c5a hq)
theorem b9u{k:Str}{g:List Pl}(hg:GvOK g)(h0:1<=g.length)(h2:k="turned"\/k="mirrored"\/k="flipped"\/k="shorter"\/(∃p q,g=[p,q]/\p.1=q.1/\p.2.length+q.2.length<=16)):PlOK (a3Q k g).1 (a3Q k g).2/\(a3Q k g).1<=4:=by
 obtain⟨p,g,rfl⟩:∃p g',g=p::g':=by
  cases g with
  |nil=>cases h0
  |cons p g=>exact⟨p,g,rfl⟩
 obtain⟨ok,h4⟩:=hg p (.head _);unfold a3Q;simp only[d2d];split
 ·exact⟨ok.contr,h4⟩
 split
 ·exact⟨ok.map fun _=>a1H.neg,h4⟩
 split
 ·exact⟨ok.map fun _=>a1H.flip,h4⟩
 split
 ·exact⟨⟨ok.1,ok.2.1,c8C (a8P _) ok.2.2.1,ok.2.2.2.red⟩,h4⟩
 ·rename_i c1 c2 c3 c4;rcases h2 with e|e|e|e|⟨p',q,e,h5,h6⟩
  ·exact absurd e c1
  ·exact absurd e c2
  ·exact absurd e c3
  ·exact absurd e c4
  ·injection e with e1 e2;subst e1 e2;obtain⟨ok2,_⟩:=hg q (.tail _ (.head _));refine⟨⟨ok.1,ok.2.1,?_,?_⟩,h4⟩
   ·show(p.2++q.2).length<=16;rw[c8p];exact h6
   ·show a0S p.1 (p.2++q.2);exact ok.2.2.2.append (h5▸ok2.2.2.2)
noncomputable def b0B(D:Dk)(ms:LSS):Str:=if D.isEmpty then "none" else c9O (c8c " ") ms
theorem c7d{D:Dk}{k:Str}{rest:LSS}(h:DkOK D)(hl:LnOK k rest):DkOK (ansF D k rest).2:=by
 unfold ansF;split
 ·rename_i hs;have hg:=c4I h hs;unfold doF;dsimp only;split
  ·exact h.drop _
  split
  ·exact h
  split
  ·exact h
  split
  ·rename_i c1 c2 c3 c4;cases hl with
   | one hk ha =>
     exfalso;have:∀k∈K1s,k∉MKs:=by decide +kernel
     exact this k hk c4
   | @two _ a b hk ha hb =>
     refine h.put ha (b9u hg ?_ ?_)
     ·rw[c8a];unfold oldW;rw[if_pos c4];exact c8d _
     ·have:∀k∈K2s,k∈MKs->k="turned"\/k="mirrored"\/k="flipped"\/k="shorter":=by decide +kernel
      rcases this k hk c4 with e|e|e|e
      ·exact .inl e
      ·exact .inr (.inl e)
      ·exact .inr (.inr (.inl e))
      ·exact .inr (.inr (.inr (.inl e)))
   | @three a b c ha hb hc =>
     have eo:oldW "behind" [a,b,c]=[b,c]:=by unfold oldW;rw[if_pos c4];rfl
     refine h.put ha (b9u hg ?_ ?_)
     ·rw[eo];exact d5b (c9j _)
     ·rw[eo] at c2 c3|-
      refine .inr (.inr (.inr (.inr ⟨_,_,rfl,d2L.mp c2,?_⟩)));exact Nat.not_lt.mp fun z=>c3 ⟨rfl,z⟩
  ·exact h
 ·exact h
section
variable{k nm:Str}{p q:Pl}{D:Dk}
theorem c0t{g:List Pl}:doF "drop" nm g D=(("dropped":Str),b7N D nm):=by
 unfold doF;dsimp only;rw[if_pos rfl]
theorem b6u(hk:k≠"drop")(hb:k≠"behind"):doF k nm [p] D=if k∈MKs then (("kept":Str),putD D nm (a3Q k [p])) else (a6z k [p],D):=by
 unfold doF;dsimp only;rw[if_neg hk];refine(if_neg (show ¬p.1≠p.1 from fun z=>z rfl)).trans ?_;exact if_neg fun z=>hb z.1
theorem c4Q(hk:k≠"drop")(h:p.1≠q.1):doF k nm [p,q] D=(("unlike strands":Str),D):=by
 unfold doF;dsimp only;rw[if_neg hk];exact if_pos h
theorem c0s(h:p.1=q.1)(h2:16<p.2.length+q.2.length):doF "behind" nm [p,q] D=(("too long":Str),D):=by
 unfold doF;dsimp only;rw[if_neg (by decide +kernel)];refine(if_neg (show ¬p.1≠q.1 from fun z=>z h)).trans ?_;exact if_pos ⟨rfl,h2⟩
theorem b6t(hk:k≠"drop")(h:p.1=q.1)(h2:k="behind"->¬16<p.2.length+q.2.length):doF k nm [p,q] D=if k∈MKs then (("kept":Str),putD D nm (a3Q k [p,q])) else (a6z k [p,q],D):=by
 unfold doF;dsimp only;rw[if_neg hk];refine(if_neg (show ¬p.1≠q.1 from fun z=>z h)).trans ?_;exact if_neg fun z=>h2 z.1 z.2
theorem c1W(hk:k∈MKs)(hb:k≠"behind"):a3Q k [p,q]=a3Q k [p]:=by
 unfold a3Q;by_cases c1:k="turned"
 ·rw[if_pos c1,if_pos c1];rfl
 by_cases c2:k="mirrored"
 ·rw[if_neg c1,if_pos c2,if_neg c1,if_pos c2];rfl
 by_cases c3:k="flipped"
 ·rw[if_neg c1,if_neg c2,if_pos c3,if_neg c1,if_neg c2,if_pos c3];rfl
 by_cases c4:k="shorter"
 ·rw[if_neg c1,if_neg c2,if_neg c3,if_pos c4,if_neg c1,if_neg c2,if_neg c3,if_pos c4];rfl
 ·exfalso;unfold MKs at hk;simp only[c8n,c8M,or_false] at hk;rcases hk with e|e|e|e|e
  ·exact c1 e
  ·exact c2 e
  ·exact c3 e
  ·exact c4 e
  ·exact hb e
end
theorem b2O{i:Int}{k:Nat}(hk:0<k)(h:i.natAbs<10^k):(a0p i).length<=k+1:=by
 unfold a0p;rw[PySem.ofString_length];cases i with
 | ofNat m =>
   have:m.repr.length<=k:=(d3h hk).mpr h;show m.repr.length<=k+1;lia
 | negSucc m =>
   have:(m+1).repr.length<=k:=(d3h hk).mpr h;show("-"++(m+1).repr).length<=k+1;rw[String.length_append];have e:"-".length=1:=rfl;lia
theorem a6C{i:Int}(h:i.natAbs<100):i.natAbs<10^400:=d0H h (by decide +kernel)
noncomputable def OrdS(r:LSI):Prop:=r.length<=6/\∀p∈r,0<=p/\p<6
theorem b9a:∀n:Nat,n<6->(a0p ((n:Int)+1)).length<=3:=by decide +kernel
theorem OrdS.len{r:LSI}(h:OrdS r):∀y∈r.map (fun p=>a0p (p+1)),y.length<=5:=fun y hy=>by
 obtain⟨p,hp,rfl⟩:=c8q.mp hy;obtain⟨a,b⟩:=h.2 p hp;have:=b9a p.toNat (by lia);rw[show((p.toNat:Nat):Int)=p by lia] at this;lia
theorem OrdS.join{r:LSI}(h:OrdS r):d5p (c8c "") (r.map fun p=>a0p (p+1))=true:=a7Z (by decide +kernel) h.len (by rw[c8a];have:=h.1;lia)
theorem b9b{n:Int}{ws:LSI}(ok:PlOK n ws):OrdS (a6N n ws):=by
 have h1:=ok.1;have h2:=ok.2.1;refine⟨by rw[b1F];lia,fun p hp=>?_⟩;have:=b7d ok.2.2.2 hp;lia
theorem OrdS.slen{r:LSI}(h:OrdS r):(a2l r).length<=30:=by
 have h1:=h.1;have h2:=h.len;have e0:(c8c "").cps.toList=[]:=by decide +kernel
 have key:∀ys:LSS,(∀y∈ys,y.length<=5)->(d5f (c8c "") ys).length<=5*ys.length:=by
  intro ys hy;cases ys with
  |nil=>exact c9j _
  | cons x xs =>
    have g:∀zs:LSS,(∀y∈zs,y.length<=5)->(zs.flatMap fun y=>(c8c "").cps.toList++y.cps.toList).length<=5*zs.length:=by
     intro zs
     induction zs with
     |nil=>intro _;exact c9j _
     | cons z zs ih =>
       intro hz;have i1:=ih fun y hy=>hz y (.tail _ hy);have i2:z.cps.size<=5:=hz z (.head _);rw[c8V,c8p,c8p,c8e,show(c8c "").cps.toList.length=0 by rw[e0];rfl,c8K];lia
    have e:=congrArg d0o (a4B (c8c "") xs x);rw[c8K,c8p,c8K] at e;have i1:=g xs fun y hz=>hy y (.tail _ hz);have i2:x.cps.size<=5:=hy x (.head _);show(d5f (c8c "") (x::xs)).cps.size<=_;rw[e,c8e];lia
 unfold a2l;show(d1E (c8c "") _).length<=30;rw[d0X];have:=key _ h2;rw[c8a] at this;lia
noncomputable def FrmS(f:PR):Prop:=f.2.length<=16/\(∀r∈f.2,OrdS r)/\f.1.natAbs<100
theorem FrmS.join{f:PR}(h:FrmS f):d5p (c8c " ") (a0p f.1::f.2.map a2l)=true:=by
 refine a5G (b:=30) (by decide +kernel) (fun y hy=>?_) (by rw[c8e,c8a];have:=h.1;lia);rcases c8n.mp hy with rfl|hy
 ·have:=b2O (i:=f.1) (k:=2) (by decide) h.2.2;lia
 ·obtain⟨r,hr,rfl⟩:=c8q.mp hy;exact(h.2.1 r hr).slen
noncomputable def SumS(p:Po):Prop:=CanP p/\p.length<64/\∀x∈p,x.1.natAbs<=62/\x.2.natAbs<10^100
theorem c2E:∀m:Nat,m<=3->∀l:Nat,l<=16->dB (1+3^l) m<10^100:=by decide +kernel
theorem b8t{n:Int}{ws:LSI}(ok:PlOK n ws)(h4:n<=4):b0W n ws/\SumS (b0f n ws):=by
 have h1:=ok.1;have h3:=ok.2.2.1
 have hs:b0W n ws:=by
  have:(n.toNat-1)*ws.length<=3*16:=d1m (by lia) h3;exact c8C this (by decide)
 refine⟨hs,c0D,b7O ok hs,?_⟩;have h:=a3T _ (a6p ok);have e:n.toNat-1+1=n.toNat:=by lia
 rw[e] at h;have h2:=hs.two;have hd:=c2E (n.toNat-1) (by lia) ws.length h3;unfold b0f
 generalize detP n.toNat (a5K n ws)=D at h|-
 cases D with
 |nil=>exact fun x z=>absurd z c8M
 | cons y D =>
   intro x hx;have hy:=h.2.1 y (.head _)
   have hg:GdJ ((n.toNat-1)*ngP ws) ((n.toNat-1)*ngN ws) 1 [(-y.1,if 0<y.2 then (1:Int) else -1)]:=by
    refine⟨⟨c9D _ _,fun z hz=>?_⟩,fun z hz=>?_,?_⟩
    ·rw[c8A.mp hz]
     show(if 0<y.2 then (1:Int) else -1)≠0
     split<;>decide
    ·rw[c8A.mp hz];exact⟨by show _<=-y.1;lia,by show -y.1<=_;lia⟩
    ·show(if 0<y.2 then (1:Int) else -1).natAbs+0<=1
     split<;>decide
   have hm:=h.mul hg;have h5:=hm.2.1 x hx;have h6:=c8C (b6H hx) hm.2.2;rw[d3V] at h6;exact⟨by lia,c8D h6 hd⟩
theorem c7Z{p:Po}{k:Int}(h:CanP p)(c:co p k≠0):∃x∈p,x.2=co p k:=by
 have:¬∀x∈p,x.1≠k:=fun z=>c (a3K z);obtain⟨x,hx⟩:=Classical.not_forall.mp this;obtain⟨hx,hk⟩:=Classical.not_imp.mp hx;have hk:=d4C.mp hk;exact⟨x,hx,by rw[<- hk];exact(b0T h.1 hx).symm⟩
theorem b6A{p:Po}(h:SumS p)(k:Int):(co p k).natAbs<10^100:=by
 by_cases c:co p k=0
 ·rw[c];decide +kernel
 ·obtain⟨x,hx,e⟩:=c7Z h.1 c;rw[<- e];exact(h.2.2 x hx).2
theorem c3m{p:Po}(h:SumS p)(k:Int):(co p k).natAbs<10^400:=d0H (b6A h k) (by decide +kernel)
theorem SumS.join{p:Po}(h:SumS p){k:Nat}(hk:k<=64):d5p (c8c " ") ((c8I k).map fun(i:Nat)=>a0p (co p (i:Int)))=true:=by
 refine a5G (b:=101) (by decide +kernel) (fun y hy=>?_) (by rw[c8a,c9u];lia);obtain⟨i,_,rfl⟩:=c8q.mp hy;exact b2O (k:=100) (by decide) (b6A h i)
theorem a3O(a:Str):a0G (.str a)=true:=by unfold a0G;rfl
theorem b2n(a:Str):depT (.str a)<=30:=by unfold depT;decide
theorem b2g(a b:Str):eqT (.str a) (.str b)=decide (a=b):=by
 unfold eqT;by_cases c:a=b
 ·simp[c]
 ·simp[c]
theorem a0K{a b:Str}{P R:Prop}(h1:a=b->P)(h2:a≠b->R):a0G (.str a)=true/\a0G (.str b)=true/\depT (.str a)<=30/\(if eqT (.str a) (.str b)=true then P else R):=by
 refine⟨a3O a,a3O b,b2n a,?_⟩;rw[b2g];by_cases c:a=b
 ·rw[decide_eq_true c,if_pos rfl];exact h1 c
 ·rw[decide_eq_false c,if_neg c8F];exact h2 c
theorem b5e(a:Str)(l:LSS):inT (.str a) (l.map .str)=decide (a∈l):=by
 unfold inT;rw[d5Y];have:((fun y=>eqT y (.str a))∘T.str)=fun b=>decide (b=a):=by funext b;exact b2g b a
 rw[this];by_cases c:a∈l
 ·rw[decide_eq_true c];exact d5c.mpr ⟨a,c,decide_eq_true rfl⟩
 ·rw[decide_eq_false c];refine d1D.mpr fun z=>?_;obtain⟨b,hb,e⟩:=List.any_eq_true.mp z;exact c (of_decide_eq_true e▸hb)
theorem Sub.up{M M':MH}{p:Addr}{u:MO}(h:Sub M M'):Sub (updM M p u) (updM M' p u):=fun a v e=>by
 by_cases c:a=p
 ·subst c
  rw[a0d] at e|-;exact e
 ·rw[a0k c] at e|-
  exact h a v e
end L2
namespace L2
open PySem PySem.Spec PyProof.Rows
structure FD0(K:PySem.W.Frag)(mg:SOV)(x:Str)(st:Stmt):Prop where
 e:∃f fd,Fun K x x st f fd/\mg x=some (.ref f)
structure FD(K:PySem.W.Frag)(mg:SOV)(x:Str)(st:Stmt)(ps:LSS):Prop where
 e:∃f fd,Fun K x x st f fd/\mg x=some (.ref f)/\a3n K fd ps []
section
variable{P:c8G}{w:c9d}{K:PySem.W.Frag}{mg:SOV}{base:Heap}{x:Str}{st:Stmt}{ps:LSS}
theorem FD0.of{h:Heap}{f:Addr}{oc:c8t}{od an:Option Addr}{osl:AOV}{kV doc pm cdv ct:c8t}(X:K.In h)(G:h.Ns mainGlobals mg)
  (a:PySem.W.nsIn K mainGlobals x=some (some (.ref f))) (l:K.lookup f=some ⟨oc,od,.func (PySem.W.fnOf x x (a5p st) (a1Q st) (a0b st) .none kV doc pm an cdv ct),osl⟩)
  (c:PySem.W.codeIn K cdv x=true) (k:PySem.W.keepIn K (.ref f)=true):FD0 K mg x st:=⟨f,_,b0O l c k,PySem.W.mg_of X G a⟩
theorem FD0.b(d:FD0 K mg x st)
  (hb:∀(kV doc pm:c8t) (an:Option Addr) (cdv ct:c8t) (us:LSV),us.length=ps.length->bindArgs (PySem.W.fnOf x x (a5p st) (a1Q st) (a0b st) .none kV doc pm an cdv ct) ⟨us,[]⟩=pure (ps.zip us)):FD K mg x st ps:=by
 obtain⟨f,fd,F,m⟩:=d.e;exact⟨f,fd,F,m,F.binds hb⟩
theorem FD.dfn{N:LSS}{n:Nat}{sp:Sp3}{t:TS3}(F:FD K mg x st ps)(S:FnScope N ps (a0b st))(len:∀ts M Q,sp ts M Q->ts.length=ps.length)
  (h:∀{f:Addr} {cdv:c8t} {A:c8Z} {outer:List Env} {s:c8u} {H:Hp} {E:XK},Room n (A.deeper (envOfC x (a0b st) s.heap.objs.size f cdv)) ->
   HSs (cxOf CX0 P w K mg base N x (a0b st) f cdv A outer s H E).nox (a1Q st) t)
  (rd:∀ts M Q,sp ts M Q->t { nx:=fun _ M'=>rt3 M Q .non M',rt:=rt3 M Q } (a2P N ts) M):Df P w K mg base (n+1) x ps sp:=by
 obtain⟨f,fd,F,hm,hb⟩:=F.e;exact F.dfn hm hb S len ⟨t,fun _ _ _ _ _ _=>h,rd⟩
theorem FD.dfnX{N:LSS}{n:Nat}{sp:Sp3X}{t:EK3->TS3}(F:FD K mg x st ps)(S:FnScope N ps (a0b st))(len:∀ts M Q E,sp ts M Q E->ts.length=ps.length)
  (h:∀(f:Addr) (cdv:c8t) (A:c8Z) (outer:List Env) (s:c8u) (H:Hp) (E:XK) (E3:EK3),Room n (A.deeper (envOfC x (a0b st) s.heap.objs.size f cdv)) ->
   Acc (cxOf (CXE P w) P w K mg base N x (a0b st) f cdv A outer s H E) H E3->AccN (cxOf (CXE P w) P w K mg base N x (a0b st) f cdv A outer s H E) H E3 ->
   HSsX (cxOf (CXE P w) P w K mg base N x (a0b st) f cdv A outer s H E) H (a1Q st) (t E3))
  (rd:∀ts M Q E,sp ts M Q E->t (fun nm _ M'=>∃M0,Sub M0 M'/\E nm M0) { nx:=fun _ M'=>rt3 M Q .non M',rt:=rt3 M Q } (a2P N ts) M):DfX P w K mg base (n+1) x ps sp:=by
 obtain⟨f,fd,F,hm,hb⟩:=F.e;exact F.dfnX hm hb S len ⟨t,h f,rd⟩
theorem bkS{X:Cx}{scope:d1R}(outer:d1R)(N N':LSS)(ix:List (Option Nat))(h:blkB outer N N' ix scope=true:=by decide +kernel)(ho:X.env.scope=outer:=by rfl)(hN:X.N=N:=by rfl):BlkScope X N' ix scope:=b4k h ho hN
noncomputable abbrev DfD(x:Str)(ps:LSS)(sp:Sp3)(P w K mg base n):=Df P w K mg base n x ps sp
noncomputable abbrev DfY(x:Str)(ps:LSS)(sp:Sp3X)(P w K mg base n):=DfX P w K mg base n x ps sp
end
end L2
namespace L2
open PySem PySem.Spec PyProof.Rows LM
local macro_rules | `(tactic| walk_at "3") => `(tactic| first | exact d3n rfl | exact d2F (d3n rfl) | exact d2F (d2F rfl))
local macro_rules | `(tactic| walk_at "2") => `(tactic| first | exact d3n rfl | exact d2F rfl)
local macro_rules | `(tactic| walk_at "4") => `(tactic| first | exact .inl rfl | exact .inr rfl | assumption)
local macro_rules | `(tactic| walk_at "ln") => `(tactic| (intro ts M Q h; first | (split at h <;> first | rfl | exact h.elim) | (obtain ⟨_, _, _, _, _, rfl, _⟩ := h; rfl) | (obtain ⟨_, _, _, _, rfl, _⟩ := h; rfl) | (obtain ⟨_, _, _, rfl, _⟩ := h; rfl) | (obtain ⟨_, _, rfl, _⟩ := h; rfl) | (obtain ⟨_, rfl, _⟩ := h; rfl)))
local macro_rules | `(tactic| walk_at "lnx") => `(tactic| (intro ts M Q E h; first | (split at h <;> first | rfl | exact h.elim) | (obtain ⟨_, _, _, _, _, rfl, _⟩ := h; rfl) | (obtain ⟨_, _, _, _, rfl, _⟩ := h; rfl) | (obtain ⟨_, _, _, rfl, _⟩ := h; rfl) | (obtain ⟨_, _, rfl, _⟩ := h; rfl) | (obtain ⟨_, rfl, _⟩ := h; rfl)))
local macro_rules | `(tactic| walk_at "b0") => `(tactic| exact fun _ _ _ _ _ _ us hl => c7M (P := fun us => bindArgs _ ⟨us, []⟩ = pure (d3z _ us)) hl rfl)
local macro_rules | `(tactic| walk_at "b1") => `(tactic| exact fun _ _ _ _ _ _ us hl => c6C (P := fun us => bindArgs _ ⟨us, []⟩ = pure (d3z _ us)) hl (fun _ => rfl))
local macro_rules | `(tactic| walk_at "b2") => `(tactic| exact fun _ _ _ _ _ _ us hl => c6B (P := fun us => bindArgs _ ⟨us, []⟩ = pure (d3z _ us)) hl (fun _ _ => rfl))
local macro_rules | `(tactic| walk_at "b3") => `(tactic| exact fun _ _ _ _ _ _ us hl => c6A (P := fun us => bindArgs _ ⟨us, []⟩ = pure (d3z _ us)) hl (fun _ _ _ => rfl))
local macro_rules | `(tactic| walk_at "b4") => `(tactic| exact fun _ _ _ _ _ _ us hl => c6z (P := fun us => bindArgs _ ⟨us, []⟩ = pure (d3z _ us)) hl (fun _ _ _ _ => rfl))
local macro_rules | `(tactic| walk_at "b5") => `(tactic| exact fun _ _ _ _ _ _ us hl => c6y (P := fun us => bindArgs _ ⟨us, []⟩ = pure (d3z _ us)) hl (fun _ _ _ _ _ => rfl))
local macro_rules | `(tactic| walk_at "b6") => `(tactic| exact fun _ _ _ _ _ _ us hl => c7L (P := fun us => bindArgs _ ⟨us, []⟩ = pure (d3z _ us)) hl (fun _ _ _ _ _ _ => rfl))
local macro_rules | `(tactic| walk_at "sc") => `(tactic| exact ⟨rfl, rfl, rfl, by decide +kernel, rfl, by decide +kernel, by decide +kernel⟩)
local macro_rules | `(tactic| walk_at "rd") => `(tactic| (try simp only [ c6O, rLeS, b1z, b8N, c3R, rNeK, b8n, c5u, c5J, b8k, c2N, c2O, c5l, tOrS, rInK, c5o, b1C, rIn3, b8q, c3N, spN, c3v, b8i, c2R, b1d, tCB3, b8m, c0Y, c0W, tK, tOp3, tUn3, a3Z, c0X, b8j, c3y, b8l, c5B, b5C, c5m, c5p, c5C, tOr3, c2S, tIf3, b5D, c5k, c5r, b8p, tLM3, tLM0, c2Q, c2P, c2M, tLMS, b4L, c4A, c1s, tP3, c5w, c5t, b9K, c5v, tDGK, sDPK, rIs3, b9G, c6L, c5j,
 c0f,c0h,c6V,c4L,c6U,tSM3,b6j,b5O,b5N,b1y,c3K,tFv3,tJ0,tJ1,a1w,tSl3,tNo3,tPt3,c6P,tWk,c5s,b8M,b1A,c6Q,c6R,b9P,b9O,c4C,c2L,c3U,c3J,c3M,c5O,c5M,c5L,rInt,c3L,rIx3,c3O,c3V,b4K,c3P,c3T,c1t,c1r,b1B,rLt3,rLe3,rGt3,rGe3,b4M,rEq3,rNe3,rEqv,truT,b9H,tyK,tIsi,isiK,
 b4y,b4x,b6M,b7c,b7b,b8U,b9z,d2W,List.getElem?_cons_succ,List.set_cons_zero,d4n,c8e,c9L,c9g,d2M,List.isEmpty_nil,a0d,a4K,a1u,a7k,c7c,c7N,a5z,b3N,
 a3P,c1w,a2f,a6m,b0v,a1y,a7a,c4T,a5I,a7P,b4a,a3U,b2f,b2h,c0o,c2A,a6X,id,Bool.not_true,d5B,d5K,Bool.true_and,d5J,d4f,
 decide_eq_true_eq,d0E,decide_eq_false_iff_not,Bool.false_eq_true,↓reduceIte,if_true,if_false,true_and,and_true,and_self,c9j,not_true_eq_false,not_false_eq_true,c8a,c8p,c9A]))
local macro_rules | `(tactic| walk_at "g") => `(tactic| exact fun _ _ _ _ _ => b4N (i := 0) (by dsimp only [blk]; decide +kernel) rfl (d3n rfl) (d2F rfl))
variable{P:c8G}{w:c9d}{K:PySem.W.Frag}{base:Heap}{mg:SOV}{n:Nat}
noncomputable abbrev top(i:Nat):Stmt:=PySem.Challenge.pw_loopwright_k91_whole_a_desk_does_what_is.main.body.getD i (.Pass ⟨0,0,0,0⟩)
noncomputable abbrev a6f:Stmt:=top 9
noncomputable abbrev a6J:Stmt:=top 10
noncomputable abbrev a7z:Stmt:=top 11
noncomputable abbrev b1u:Stmt:=top 12
noncomputable abbrev a4m:Stmt:=top 13
noncomputable abbrev a5C:Stmt:=top 14
noncomputable abbrev a3f:Stmt:=top 15
noncomputable abbrev a6g:Stmt:=top 16
noncomputable abbrev a4k:Stmt:=top 17
noncomputable abbrev b1v:Stmt:=top 18
noncomputable abbrev b1r:Stmt:=top 19
noncomputable abbrev a5B:Stmt:=top 20
noncomputable abbrev a2M:Stmt:=top 21
noncomputable abbrev a6M:Stmt:=top 22
noncomputable abbrev a8M:Stmt:=top 23
noncomputable abbrev a7y:Stmt:=top 24
noncomputable abbrev a4j:Stmt:=top 26
noncomputable abbrev a5g:Stmt:=top 27
noncomputable abbrev a6h:Stmt:=top 28
noncomputable abbrev a1Y:Stmt:=top 29
noncomputable abbrev a6d:Stmt:=top 30
noncomputable abbrev a4l:Stmt:=top 31
noncomputable abbrev a5e:Stmt:=top 32
noncomputable abbrev a1F:Stmt:=top 33
noncomputable abbrev a8N:Stmt:=top 34
noncomputable abbrev a2L:Stmt:=top 36
noncomputable abbrev a3G:Stmt:=top 37
noncomputable abbrev b1q:Stmt:=top 38
noncomputable abbrev b1s:Stmt:=top 40
noncomputable abbrev a6e:Stmt:=top 41
noncomputable abbrev b5H:Stmt:=top 42
noncomputable abbrev a1E:Stmt:=top 47
noncomputable abbrev b4H:Stmt:=top 48
noncomputable abbrev a5f:Stmt:=top 49
noncomputable abbrev a2K:Stmt:=top 55
noncomputable abbrev a4i:Stmt:=top 56
noncomputable abbrev a2Y:Stmt:=top 57
noncomputable abbrev a1Z:Stmt:=top 58
noncomputable abbrev a4n:Stmt:=top 59
noncomputable abbrev a3s:Stmt:=top 60
noncomputable abbrev a6K:Stmt:=top 65
noncomputable abbrev a6L:Stmt:=top 66
noncomputable abbrev b8E:Stmt:=top 67
noncomputable abbrev a6c:Stmt:=top 68
noncomputable abbrev a3r:Stmt:=top 69
noncomputable abbrev a4o:Stmt:=top 70
noncomputable abbrev a2S:Stmt:=top 71
noncomputable abbrev a8L:Stmt:=top 72
noncomputable abbrev a2c:Stmt:=a9g (top 73) 0
noncomputable abbrev a2T:Stmt:=a9g (top 73) 1
noncomputable abbrev a4r:Stmt:=a9g (top 73) 3
noncomputable abbrev a4s:Stmt:=a9g (top 73) 4
noncomputable abbrev a2Z:Stmt:=a9g (top 73) 2
noncomputable abbrev a3H:Stmt:=top 75
noncomputable abbrev a5h:Stmt:=top 76
noncomputable abbrev a4q:Stmt:=top 77
noncomputable abbrev a4p:Stmt:=top 78
noncomputable abbrev a5i:Stmt:=top 79
noncomputable abbrev a1G:Stmt:=top 80
noncomputable abbrev a1P:Stmt:=top 81
noncomputable abbrev a2a:Stmt:=top 82
noncomputable abbrev a6i:Stmt:=top 83
noncomputable abbrev a2b:Stmt:=top 84
noncomputable abbrev a6j:Stmt:=top 85
noncomputable abbrev b4G:Stmt:=top 86
theorem b2R:FnScope ["strands","letter"] ["strands","letter"] (a0b a6f):=by walk_at "sc"
theorem b6S:FnScope ["strands","word","most"] ["strands","word","most"] (a0b a6J):=by walk_at "sc"
theorem b4E:FnScope ["plait"] ["plait"] (a0b a7z):=by walk_at "sc"
theorem b8z:FnScope ["plait"] ["plait"] (a0b b1u):=by walk_at "sc"
theorem a5N:FnScope ["one","other","letters"] ["one","other"] (a0b a4m):=by walk_at "sc"
theorem b4F:FnScope ["word"] ["word"] (a0b a5C):=by walk_at "sc"
theorem a2J:FnScope ["word","kept","letter"] ["word"] (a0b a3f):=by walk_at "sc"
theorem b2T:FnScope ["row","at"] ["row","at"] (a0b a6g):=by walk_at "sc"
theorem b2P:FnScope ["order"] ["order"] (a0b a4k):=by walk_at "sc"
theorem b8A:FnScope ["one","other"] ["one","other"] (a0b b1v):=by walk_at "sc"
theorem b8y:FnScope ["plait"] ["plait"] (a0b b1r):=by walk_at "sc"
theorem b4D:FnScope ["plait"] ["plait"] (a0b a5B):=by walk_at "sc"
theorem a7w:FnScope ["strands","letter"] ["strands","letter"] (a0b a2M):=by walk_at "sc"
theorem b0s:FnScope ["plait","strands"] ["plait"] (a0b a6M):=by walk_at "sc"
theorem b6R:FnScope ["plait"] ["plait"] (a0b a8M):=by walk_at "sc"
theorem a4h:FnScope ["plait","standing","letter"] ["plait"] (a0b a7y):=by walk_at "sc"
theorem a9P:FnScope ["strands"] ["strands"] (a0b a4j):=by walk_at "sc"
theorem b1p:FnScope ["strands"] ["strands"] (a0b a5g):=by walk_at "sc"
theorem b2U:FnScope ["order","letter"] ["order","letter"] (a0b a6h):=by walk_at "sc"
theorem a8f:FnScope ["order"] ["order"] (a0b a1Y):=by walk_at "sc"
theorem b2Q:FnScope ["strands","letter"] ["strands","letter"] (a0b a6d):=by walk_at "sc"
theorem a1h:FnScope ["one","other","ends","letter"] ["one","other"] (a0b a4l):=by walk_at "sc"
theorem a2R:FnScope ["orders","order","at","pair"] ["orders","order"] (a0b a5e):=by walk_at "sc"
theorem a0D:FnScope ["strands","word","still_to_pass","power","orders","letter","order","twists"] ["strands","word"] (a0b a1F):=by walk_at "sc"
theorem b6V:FnScope ["plait"] ["plait"] (a0b a8N):=by walk_at "sc"
theorem a1a:FnScope ["letter","i","first","second"] ["letter"] (a0b a2L):=by walk_at "sc"
theorem a1b:FnScope ["word","j","free","letter","made","letters","x"] ["word","j"] (a0b a3G):=by walk_at "sc"
theorem a6F:FnScope ["one","other","j","of_one","of_other"] ["one","other"] (a0b b1q):=by walk_at "sc"
theorem b5F:FnScope ["plait","strands"] ["plait"] (a0b b1s):=by walk_at "sc"
theorem a7Y:FnScope ["figures","number"] ["figures"] (a0b a6e):=by walk_at "sc"
theorem b1n:FnScope ["text","parts","strands","plait"] ["text"] (a0b b5H):=by walk_at "sc"
theorem a6E:FnScope ["counts"] ["counts"] (a0b a1E):=by walk_at "sc"
theorem a8q:FnScope ["one","other","counts","power","count"] ["one","other"] (a0b b4H):=by walk_at "sc"
theorem a1m:FnScope ["one","other","counts","power","count","other_power","other_count","both"] ["one","other"] (a0b a5f):=by walk_at "sc"
theorem a7v:FnScope ["row","column"] ["row","column"] (a0b a2K):=by walk_at "sc"
theorem a1p:FnScope ["row","letter","at","left","right","pair"] ["row","letter"] (a0b a4i):=by walk_at "sc"
theorem a3e:FnScope ["plait","places","rows","letter"] ["plait"] (a0b a2Y):=by walk_at "sc"
theorem a0P:FnScope ["rows","whole","sign","column","here","rest"] ["rows"] (a0b a1Z):=by walk_at "sc"
theorem a3F:FnScope ["whole","least","sign"] ["whole"] (a0b a4n):=by walk_at "sc"
theorem a1X:FnScope ["plait","table","places","rows","row"] ["plait"] (a0b a3s):=by walk_at "sc"
theorem b6T:FnScope ["word"] ["word"] (a0b a6K):=by walk_at "sc"
theorem b6U:FnScope ["words"] ["words"] (a0b a6L):=by walk_at "sc"
theorem c3E:FnScope ["kind","given"] ["kind","given"] (a0b b8E):=by walk_at "sc"
theorem a5d:FnScope ["one","other","paper","j"] ["one","other"] (a0b a6c):=by walk_at "sc"
theorem b1o:FnScope ["order"] ["order"] (a0b a3r):=by walk_at "sc"
theorem b2S:FnScope ["form"] ["form"] (a0b a4o):=by walk_at "sc"
theorem a5O:FnScope ["whole","counts"] ["whole"] (a0b a2S):=by walk_at "sc"
theorem b6Q:FnScope ["kind","given"] ["kind","given"] (a0b a8L):=by walk_at "sc"
theorem a8g:FnScope ["self"] ["self"] (a0b a2c):=by walk_at "sc"
theorem a9Q:FnScope ["self"] ["self"] (a0b a2T):=by walk_at "sc"
theorem b2X:FnScope ["self","words"] ["self","words"] (a0b a4r):=by walk_at "sc"
theorem b2Y:FnScope ["self","kind","name","given"] ["self","kind","name","given"] (a0b a4s):=by walk_at "sc"
theorem a6b:FnScope ["self","line","words","old"] ["self","line"] (a0b a2Z):=by walk_at "sc"
theorem a8K:FnScope ["script","k"] ["script","k"] (a0b a3H):=by walk_at "sc"
theorem a6G:FnScope ["script","k","cell"] ["script","k"] (a0b a5h):=by walk_at "sc"
theorem a2t:FnScope ["state","many","found","mixed"] ["state","many"] (a0b a4q):=by walk_at "sc"
theorem b2V:FnScope ["state","strands","count"] ["state","strands","count"] (a0b a4p):=by walk_at "sc"
theorem a6H:FnScope ["state","least","most","letters","strands"] ["state","least","most","letters"] (a0b a5i):=by walk_at "sc"
theorem a6I:FnScope ["row"] ["row"] (a0b a1G):=by walk_at "sc"
theorem a7x:FnScope ["form"] ["form"] (a0b a1P):=by walk_at "sc"
theorem a4F:FnScope ["total","counts"] ["total"] (a0b a2a):=by walk_at "sc"
theorem b2W:FnScope ["word","one","other"] ["word","one","other"] (a0b a6i):=by walk_at "sc"
theorem a1K:FnScope ["kept","words","asked","plaits","paper"] ["kept","words"] (a0b a2b):=by walk_at "sc"
theorem a1x:FnScope ["state","names","way","one","other","third","plait"] ["state"] (a0b a6j):=by walk_at "sc"
theorem a3M:FnScope ["script","state","desk","beside","kept","k","words","due","found","told"] ["script"] (a0b b4G):=by walk_at "sc"
structure DeskN(K:PySem.W.Frag)(mg:SOV)(CD f_0 f_1 f_2 f_3 f_4:Addr):Prop where
 c:Cls K CD
 n_kept:a7m K CD "kept"
 mg:mg "Desk"=some (.ref CD)
 mk_:Mk K CD f_0
 m_plaits:Meth K CD "plaits" f_1
 m_keep:Meth K CD "keep" f_2
 m_done:Meth K CD "done" f_3
 m_say:Meth K CD "say" f_4
structure CitN(K:PySem.W.Frag)(P:c8G)(w:c9d)(mg:SOV)(dN:Addr):Prop where
 cit:CitK K P w dN [("drop",1),("show",1),("names",0),("turned",2),("mirrored",2),("flipped",2),("shorter",2),("behind",3),("same",2),("order",1),("form",1),("closed",1)]
 m:mg "NAMES_BEHIND"=some (.ref dN)
structure Zs(K:PySem.W.Frag)(mg:SOV):Prop where
 b_ValueError:mg "ValueError"=none
 b_abs:mg "abs"=none
 b_all:mg "all"=none
 b_dict:mg "dict"=none
 b_enumerate:mg "enumerate"=none
 b_int:mg "int"=none
 b_isinstance:mg "isinstance"=none
 b_len:mg "len"=none
 b_list:mg "list"=none
 b_max:mg "max"=none
 b_range:mg "range"=none
 b_reversed:mg "reversed"=none
 b_sorted:mg "sorted"=none
 b_str:mg "str"=none
 b_tuple:mg "tuple"=none
 x_two:XTwo K mg "NoStep" "NoRoom"
 xc_NoStep:XCl K mg "NoStep"
 xc_NoRoom:XCl K mg "NoRoom"
 c_DOWN:∃u:Addr,mg "DOWN"=some (.ref u)/\∀H,Rep K H (.ref u) (.tup [.tup [.int (-1),.int (1)]])
 c_LESS_DOWN:∃u:Addr,mg "LESS_DOWN"=some (.ref u)/\∀H,Rep K H (.ref u) (.tup [.tup [.int (-1),.int (-1)],.tup [.int (0),.int (1)]])
 c_LESS_ONE:∃u:Addr,mg "LESS_ONE"=some (.ref u)/\∀H,Rep K H (.ref u) (.tup [.tup [.int (0),.int (-1)]])
 c_LESS_UP:∃u:Addr,mg "LESS_UP"=some (.ref u)/\∀H,Rep K H (.ref u) (.tup [.tup [.int (0),.int (1)],.tup [.int (1),.int (-1)]])
 c_MAKING:∃u:Addr,mg "MAKING"=some (.ref u)/\∀H,Rep K H (.ref u) (.tup [.str "turned",.str "mirrored",.str "flipped",.str "shorter",.str "behind"])
 c_MOST_LETTERS:∃tk,mg "MOST_LETTERS"=some (.int 16 tk)
 c_MOST_SIGNS_IN_NAME:∃tk,mg "MOST_SIGNS_IN_NAME"=some (.int 8 tk)
 c_MOST_STRANDS:∃tk,mg "MOST_STRANDS"=some (.int 6 tk)
 c_NOUGHT:∃u:Addr,mg "NOUGHT"=some (.ref u)/\∀H,Rep K H (.ref u) (.tup [])
 c_ONE:∃u:Addr,mg "ONE"=some (.ref u)/\∀H,Rep K H (.ref u) (.tup [.tup [.int (0),.int (1)]])
 c_UP:∃u:Addr,mg "UP"=some (.ref u)/\∀H,Rep K H (.ref u) (.tup [.tup [.int (1),.int (1)]])
noncomputable def a3q:Sp3:=fun ts M Q=>match ts with
 |[.int n,.int l]=>Q (.bl (b3L n l)) M
 |_=>False
noncomputable abbrev a9u:=DfD "is_letter" ["strands","letter"] a3q
theorem b3o(Z:Zs K mg)(F:FD K mg "is_letter" a6f ["strands","letter"]):a9u P w K mg base (n+1):=by
 refine F.dfn b2R (by unfold a3q;walk_at "ln") (fun hr=>(a0g (a0l (b5i b3j a5P a0f (a0M a7j Z.b_abs d0Z (a0a (hv 1) a0e)) (hv 0))))) fun ts M Q h=>?_;unfold a3q b3L at h;split at h
 ·rename_i n l;walk_at "rd";refine ite2 (fun c=>a0i ?_) (fun c=>a0i ?_)
  ·simpa [show 1<=l.natAbs by lia] using h
  ·simpa [show ¬1<=l.natAbs by lia] using h
 ·exact h.elim
noncomputable def a7q:Sp3:=fun ts M Q=>match ts with
 |[.int n,.tup w,.int k]=>∃ws:LSI,w=ws.map .int/\ws.length<10000/\Q (.bl (isWd n ws k)) M
 |_=>False
noncomputable abbrev b4c:=DfD "is_word" ["strands","word","most"] a7q
theorem b7j(Z:Zs K mg)(D_30:a9u P w K mg base n)(F:FD K mg "is_word" a6J ["strands","word","most"]):b4c P w K mg base (n+1):=by
 obtain⟨tk_MOST_STRANDS,c_MOST_STRANDS⟩:=Z.c_MOST_STRANDS;refine F.dfn b6S (by unfold a7q;walk_at "ln") (fun hr=>(a0c (s_if (HW.ht (w_or (a6W (c2h b3j b3j a0f (hv 0) (b2a c_MOST_STRANDS))) (c3u (a0o a5k (a0M a0Y Z.b_len PySem.boot_len (a0a (hv 1) a0e)) (hv 2) (a0n _))))) (a0g (a0l h_bl)) a0w) (a0g (a0l (a0M (a7i rfl) Z.b_all d1a (a0a (a1k rfl (a1N (hv 1)) (bkS (a0b a6J) ["strands","word","most"] ["letter","strands"] [none,some 0]) (a0N (i:=0)) (by walk_at "g") (fun _ _ _ _ _=>a1j) (fun _ _ _ _ _=>(a0h D_30 hr (a0a (hv 1) (a0a (hv 0) a0e))))) a0e)))))) fun ts M Q h=>?_;unfold a7q at h;split at h
 ·rename_i n w k;obtain⟨ws,rfl,hl,h⟩:=h;unfold isWd at h;walk_at "rd";refine ite2 (fun c1=>ite2 (fun c2=>?_) fun c2=>ite2 (fun c3=>?_) fun c3=>?_) fun c1=>?_
  ·rw[decide_eq_false c2,d2t,d1i] at h;exact a0i h
  ·rw[decide_eq_false (show ¬(ws.length:Int)<=k by lia),d2t,d1i] at h;exact a0i h
  ·rw[decide_eq_true c1,decide_eq_true (show n<=6 by lia),decide_eq_true (show(ws.length:Int)<=k by lia)] at h;refine⟨fun i ys M'=>ys=((ws.take i).map (b3L n)).map T.bl/\M'=M,⟨rfl,rfl⟩,fun _ _ _ _=>trivial,c8D (by lia:ws.length<=10000) (by decide),?_,?_⟩
   ·rintro i x ys M' hx ⟨rfl,rfl⟩;obtain⟨l,hl',rfl⟩:=a0r hx;unfold a3q;refine⟨?_,rfl⟩;rw[<- a0F (b3L n) hl',c8v];rfl
   ·rintro ys M' ⟨rfl,rfl⟩ p hp;rw[c8y,a5z];refine a0s (M0:=M') ?_ (Sub.new hp);rw[d4K];exact h
  ·rw[decide_eq_false c1,d1i,d1i,d1i] at h;exact a0i h
 ·exact h.elim
noncomputable def a5Y:Sp3:=fun ts M Q=>match ts with
 |[.tup [.int n,.tup w]]=>∃ws:LSI,w=ws.map .int/\ws.length<10000/\Q (.bl (isPl n ws)) M
 |_=>False
noncomputable abbrev a7S:=DfD "is_plait" ["plait"] a5Y
theorem b4U(Z:Zs K mg)(D_49:b4c P w K mg base n)(F:FD K mg "is_plait" a7z ["plait"]):a7S P w K mg base (n+1):=by
 obtain⟨tk_MOST_LETTERS,c_MOST_LETTERS⟩:=Z.c_MOST_LETTERS;refine F.dfn b4E (by unfold a5Y;walk_at "ln") (fun hr=>(a0g (a0l (a0h D_49 hr (a0a (h_ix (hv 0) a0f) (a0a (h_ix (hv 0) a0f) (a0a (b2a c_MOST_LETTERS) a0e))))))) fun ts M Q h=>?_;unfold a5Y at h;split at h
 ·rename_i n w;obtain⟨ws,rfl,hl,h⟩:=h;walk_at "rd";refine⟨ws,rfl,hl,?_⟩;rw[c4z];exact a0i h
 ·exact h.elim
noncomputable def a8H:Sp3:=fun ts M Q=>match ts with
 |[.tup [.int n,.tup w]]=>∃ws:LSI,w=ws.map .int/\PlOK n ws/\Q (.int ws.length) M
 |_=>False
noncomputable abbrev a2u:=DfD "looked" ["plait"] a8H
theorem b9j(Z:Zs K mg)(D_43:a7S P w K mg base n)(F:FD K mg "looked" b1u ["plait"]):a2u P w K mg base (n+1):=by
 refine F.dfn b8z (by unfold a8H;walk_at "ln") (fun hr=>(a0c (s_if (a6W (a1z (a0h D_43 hr (a0a (hv 0) a0e)))) (a0g b1t) a0w) (a0g (a0l (a0M a0Y Z.b_len PySem.boot_len (a0a (h_ix (hv 0) a0f) a0e)))))) fun ts M Q h=>?_;unfold a8H at h;split at h
 ·rename_i n w;obtain⟨ws,rfl,ok,h⟩:=h;walk_at "rd";refine⟨ws,rfl,by have:=ok.2.2.1;lia,?_⟩;rw[ok.is];walk_at "rd";exact a0i (M:=M) h
 ·exact h.elim
noncomputable def a3A:Sp3X:=fun ts M Q E=>match ts with
 |[.tup [.int n,.tup w],.tup [.int m,.tup v]]=>∃ws vs:LSI,w=ws.map .int/\v=vs.map .int/\PlOK n ws/\PlOK m vs/\(n≠m->E "NoStep" M)/\(n=m->Q (.int (ws.length+vs.length)) M)
 |_=>False
noncomputable abbrev a4z:=DfY "looked_both" ["one","other"] a3A
theorem a9U(Z:Zs K mg)(D_56:a2u P w K mg base n)(F:FD K mg "looked_both" a4m ["one","other"]):a4z P w K mg base (n+1):=by
 refine F.dfnX a5N (by unfold a3A;walk_at "lnx") (fun f cdv A outer s H E E3 hr acc accN=>(a0Z (HS.x (HS.n (a0y (i:=2) (a0z a0u (a0h D_56 hr (a0a (hv 0) a0e)) (a0h D_56 hr (a0a (hv 1) a0e))) a5N.nd))) (a0Z (c1h (HT.x (HT.n (a0o (b0y hr.units) (h_ix (hv 0) a0f) (h_ix (hv 1) a0f) (a0n _)))) (a2E (b5I accN Z.xc_NoStep a0t)) b1g) (a2E (HS.x (HS.n (a0l (hv 2)))))))) fun ts M Q E h=>?_;unfold a3A at h;split at h
 ·rename_i n w m v;obtain⟨ws,vs,rfl,rfl,ok1,ok2,h2,h3⟩:=h;walk_at "rd";refine⟨ws,rfl,ok1,vs,rfl,ok2,?_⟩;walk_at "rd";exact ite2 (fun c=>⟨M,Sub.refl,h2 c⟩) (fun c=>a0i (h3 (d2L.mp c)))
 ·exact h.elim
noncomputable def a5Z:Sp3:=fun ts M Q=>match ts with
 |[.tup w]=>∃ws:LSI,w=ws.map .int/\ws.length<10000/\Q (.tup ((a0R ws).map .int)) M
 |_=>False
noncomputable abbrev a7T:=DfD "contrary" ["word"] a5Z
theorem b4V(Z:Zs K mg)(F:FD K mg "contrary" a5C ["word"]):a7T P w K mg base (n+1):=by
 refine F.dfn b4F (by unfold a5Z;walk_at "ln") (fun hr=>(a0g (a0l (a0Q a1c Z.b_tuple c8W (a0a (a1k rfl (a9h Z.b_reversed (hv 0)) (bkS (a0b a5C) ["word"] ["letter"] [none]) (a0N (i:=0)) (by walk_at "g") (fun _ _ _ _ _=>a1j) (fun _ _ _ _ _=>(h_un a1l (hv 0)))) a0e))))) fun ts M Q h=>?_;unfold a5Z at h;split at h
 ·rename_i w;obtain⟨ws,rfl,hl,h⟩:=h;walk_at "rd";refine⟨fun i ys M'=>ys=((ws.reverse.take i).map (fun l=>-l)).map T.int/\M'=M,⟨rfl,rfl⟩,fun _ _ _ _=>trivial,?_,?_,?_⟩
  ·rw[c9c,c8a];exact c8D (by lia:ws.length<=10000) (by decide)
  ·rintro i x ys M' hx ⟨rfl,rfl⟩;rw[<- d3a] at hx;obtain⟨l,hl',rfl⟩:=a0r hx;walk_at "rd";rw[<- a0F (fun l:Int=>-l) hl',c8v];rfl
  ·rintro ys M' ⟨rfl,rfl⟩ p hp;rw[<- d3a,c8a,c8y];exact a0s (M0:=M') h (Sub.new hp)
 ·exact h.elim
noncomputable def a2F:Sp3:=fun ts M Q=>match ts with
 |[.tup w]=>∃ws:LSI,w=ws.map .int/\ws.length<2^23/\Q (.tup ((redL ws).map .int)) M
 |[.adr q]=>∃ws:LSI,M q=some (.lst (ws.map .int))/\ws.length<2^23/\Q (.tup ((redL ws).map .int)) M
 |_=>False
noncomputable abbrev a3i:=DfD "without_pairs" ["word"] a2F
theorem a8h(Z:Zs K mg)(F:FD K mg "without_pairs" a3f ["word"]):a3i P w K mg base (n+1):=by
 refine F.dfn a2J (by unfold a2F;walk_at "ln") (fun hr=>(a0c (a0y (i:=1) (a3h a0e) a2J.nd) (a0c (a7A c9i rfl (a1N (hv 0)) (a2y (i:=2) a2J.nd) (a0g (s_if (HW.ht (c0T (a1z (hv 1)) (b5A (a0o (a0T hr.units) (h_ix (hv 1) (h_un a1l a0f)) (h_un a1l (hv 2)) (a0n _))))) (a0g (a2x (b9W (hv 1) a0e))) (a0g (a2x (a7K (hv 1) (a0a (hv 2) a0e))))))) (a0g (a0l (a0Q a1c Z.b_tuple c8W (a0a (hv 1) a0e))))))) fun ts M Q h=>?_;unfold a2F at h;split at h
 ·rename_i w;obtain⟨ws,rfl,hl,h⟩:=h;walk_at "rd";refine fun p hp=>⟨fun i ρ M'=>∃c,ρ=[some (T.tup (ws.map T.int)),some (.adr p),c]/\M' p=some (.lst ((redS [] (ws.take i)).reverse.map T.int))/\Sub M M',⟨_,rfl,a0d,Sub.new hp⟩,fun _ _ _ _=>trivial,?_,?_⟩
  ·rintro i x ρ M' hx ⟨c,rfl,hM,hS⟩;obtain⟨l,hl',rfl⟩:=a0r hx;have e:=b3d (st:=[]) hl'
   have hlen:(redS [] (ws.take i)).length<=i:=by
    have:=a6k (ws.take i) [];rw[c9b] at this;simp at this;lia
   have hi:=(c8k.mp hl').1;have hiw:=(c8k.mp hl').1;walk_at "rd";simp only[e,hM]
   generalize redS [] (ws.take i)=st at hM hlen|-
   cases st with
   | nil =>
     have e0:(c8N T.int ([]:LSI).reverse).isEmpty=true:=rfl;rw[if_neg (by rw[e0];decide)];walk_at "rd";exact⟨by decide,_,rfl,rfl,hS.updF hp⟩
   | cons x t =>
     have e0:c8N T.int (x::t).reverse=c8N T.int t.reverse++[T.int x]:=by rw[d0b,c8v];rfl
     have e3:(x::t).reverse.length=t.length+1:=by rw[c9c,c8e]
     have e4:t.length<2^23:=by rw[c8e] at hlen;lia
     rw[e0,e3] at *;have e1:(c8N T.int t.reverse++[T.int x]).isEmpty=false:=by simp
     have e2:(c8N T.int t.reverse++[T.int x])[t.reverse.length+(0+1)-1]?=some (T.int x):=by
      rw[c8X (by simp)];simp
     have e6:(c8N T.int t.reverse++[T.int x]).dropLast=c8N T.int t.reverse:=by simp
     simp only[e1,a5J,e6];walk_at "rd"
     try simp only[e2]
     refine ite2 (fun c=>⟨_,rfl,?_,hS.updF hp⟩) (fun c=>⟨b1U (by rw[c9c];rw[c8e] at hlen;lia),_,rfl,?_,hS.updF hp⟩)
     ·have e5:a1v (x::t) l=t:=by show(if x=-l then t else _)=t;rw[if_pos c]
      rw[e5]
     ·have e5:a1v (x::t) l=l::x::t:=by show(if x=-l then t else _)=_;rw[if_neg c]
      rw[e5];simp
  ·rintro ρ M' ⟨c,rfl,hM,hS⟩;walk_at "rd";have e:(It3.mk (ws.map T.int) fun _=>True).items.length=ws.length:=c8a ..;rw[e,c8y] at hM;simp only[hM];exact a0s h hS
 ·rename_i q;obtain⟨ws,hM0,hl,h⟩:=h;walk_at "rd";refine fun p hp=>?_;have hq:updM M p (.lst []) q=some (.lst (ws.map T.int)):=by rw[a0k (b4Z hM0 hp),hM0]
  unfold a8e;walk_at "rd";simp only[hq];refine⟨fun i ρ M'=>∃c,ρ=[some (T.adr q),some (.adr p),c]/\M' p=some (.lst ((redS [] (ws.take i)).reverse.map T.int))/\Sub M M',⟨_,rfl,a0d,Sub.new hp⟩,fun _ _ _ ⟨_,_,_,hS⟩=>hS _ _ hM0,?_,?_⟩
  ·rintro i x ρ M' hx ⟨c,rfl,hM,hS⟩;obtain⟨l,hl',rfl⟩:=a0r hx;have e:=b3d (st:=[]) hl'
   have hlen:(redS [] (ws.take i)).length<=i:=by
    have:=a6k (ws.take i) [];rw[c9b] at this;simp at this;lia
   have hi:=(c8k.mp hl').1;have hiw:=(c8k.mp hl').1;walk_at "rd";simp only[e,hM]
   generalize redS [] (ws.take i)=st at hM hlen|-
   cases st with
   | nil =>
     have e0:(c8N T.int ([]:LSI).reverse).isEmpty=true:=rfl;rw[if_neg (by rw[e0];decide)];walk_at "rd";exact⟨by decide,_,rfl,rfl,hS.updF hp⟩
   | cons x t =>
     have e0:c8N T.int (x::t).reverse=c8N T.int t.reverse++[T.int x]:=by rw[d0b,c8v];rfl
     have e3:(x::t).reverse.length=t.length+1:=by rw[c9c,c8e]
     have e4:t.length<2^23:=by rw[c8e] at hlen;lia
     rw[e0,e3] at *;have e1:(c8N T.int t.reverse++[T.int x]).isEmpty=false:=by simp
     have e2:(c8N T.int t.reverse++[T.int x])[t.reverse.length+(0+1)-1]?=some (T.int x):=by
      rw[c8X (by simp)];simp
     have e6:(c8N T.int t.reverse++[T.int x]).dropLast=c8N T.int t.reverse:=by simp
     simp only[e1,a5J,e6];walk_at "rd"
     try simp only[e2]
     refine ite2 (fun c=>⟨_,rfl,?_,hS.updF hp⟩) (fun c=>⟨b1U (by rw[c9c];rw[c8e] at hlen;lia),_,rfl,?_,hS.updF hp⟩)
     ·have e5:a1v (x::t) l=t:=by show(if x=-l then t else _)=t;rw[if_pos c]
      rw[e5]
     ·have e5:a1v (x::t) l=l::x::t:=by show(if x=-l then t else _)=_;rw[if_neg c]
      rw[e5];simp
  ·rintro ρ M' ⟨c,rfl,hM,hS⟩;walk_at "rd";have e:(It3.mk (ws.map T.int) fun _=>True).items.length=ws.length:=c8a ..;rw[e,c8y] at hM;simp only[hM];exact a0s h hS
 ·exact h.elim
noncomputable def a4W:Sp3:=fun ts M Q=>match ts with
 |[.tup w,.int k]=>∃ws:LSI,w=ws.map .int/\0<=k/\k+1<ws.length/\ws.length<10000/\Q (.tup ((a4a ws k.toNat).map .int)) M
 |_=>False
noncomputable abbrev a4A:=DfD "exchanged" ["row","at"] a4W
theorem b3q(Z:Zs K mg)(F:FD K mg "exchanged" a6g ["row","at"]):a4A P w K mg base (n+1):=by
 refine F.dfn b2T (by unfold a4W;walk_at "ln") (fun hr=>(a0g (a0l (a0z a0u (a0z a0u (a1s (hv 0) a2n (a2m (hv 1))) (a2N (a0a (h_ix (hv 0) (a0z a0u (hv 1) a0f)) (a0a (h_ix (hv 0) (hv 1)) a0e)))) (a1s (hv 0) (a2m (a0z a0u (hv 1) a0f)) a2n))))) fun ts M Q h=>?_;unfold a4W at h;split at h
 ·rename_i w k;obtain⟨ws,rfl,k0,k1,hl,h⟩:=h;obtain⟨i,rfl⟩:=Int.eq_ofNat_of_zero_le k0;walk_at "rd"
  have a1:atI (ws.map T.int) ((i:Int)+1)=some (.int (ws.getD (i+1) 0)):=by
   have:=a8x ws ((i:Int)+1) (by lia) (by lia)
   rwa [show((i:Int)+1).toNat=i+1 by lia] at this
  have a2:atI (ws.map T.int) (i:Int)=some (.int (ws.getD i 0)):=by
   have:=a8x ws (i:Int) (by lia) (by lia)
   rwa [d0a] at this
  have c1:cutT (ws.map T.int) none (some (i:Int))=(ws.take i).map T.int:=by
   rw[c4V _ _ (by lia) (by rw[c8a];lia),d0a,d4q]
  have c2:cutT (ws.map T.int) (some ((i:Int)+2)) none=(ws.drop (i+2)).map T.int:=by
   have k1':i+1<ws.length:=by lia
   rw[b4e _ _ (by lia) (by rw[c8a];lia),show((i:Int)+2).toNat=i+2 by lia,d1B]
  have l1:(ws.take i).length=i:=by rw[c9b];lia
  have l2:(ws.drop (i+2)).length=ws.length-(i+2):=c9s ..;simp only[a1,a2,c1,c2];walk_at "rd";refine⟨by decide,a0E (by lia),a0E (by lia),?_⟩
  have e:c8N T.int (List.take i ws)++[T.int (ws.getD (i+1) 0),T.int (ws.getD i 0)]++c8N T.int (List.drop (i+2) ws)=c8N T.int (a4a ws i):=by
   rw[<- b8r ws i (by lia)];simp
  rw[e];exact a0i h
 ·exact h.elim
noncomputable def a4S:Sp3:=fun ts M Q=>match ts with
 |[.tup w]=>∃ws:LSI,w=ws.map .int/\ws.length<10000/\(∀s:Int,0<=s->s<ws.length->s∈ws)/\Q (.tup (((a0I ws.length).map fun s=>((ws.idxOf s:Nat):Int)).map .int)) M
 |_=>False
noncomputable abbrev a6u:=DfD "places_in" ["order"] a4S
theorem b3l(Z:Zs K mg)(F:FD K mg "places_in" a4k ["order"]):a6u P w K mg base (n+1):=by
 refine F.dfn b2P (by unfold a4S;walk_at "ln") (fun hr=>(a0g (a0l (a0Q a1c Z.b_tuple c8W (a0a (a1k rfl (a6V Z.b_range (a0a (a0M a0Y Z.b_len PySem.boot_len (a0a (hv 0) a0e)) a0e)) (bkS (a0b a4k) ["order"] ["number","order"] [none,some 0]) (a0N (i:=0)) (by walk_at "g") (fun _ _ _ _ _=>a1j) (fun _ _ _ _ _=>(b9X (hv 1) (a0a (hv 0) a0e)))) a0e))))) fun ts M Q h=>?_;unfold a4S at h;split at h
 ·rename_i w;obtain⟨ws,rfl,hl,hmm,h⟩:=h;walk_at "rd";have lm:(ws.map T.int).length=ws.length:=c8a ..;refine⟨by lia,by lia,fun i ys M2=>ys=(((a0I ws.length).take i).map fun s=>((ws.idxOf s:Nat):Int)).map T.int/\M2=M,⟨rfl,rfl⟩,fun _ _ _ _=>trivial,by rw[a1f];exact c8D (by lia:(ws.length:Int).toNat<=10000) (by decide),?_,?_⟩
  ·rintro i x ys M2 hx ⟨rfl,rfl⟩;rw[c3I] at hx;obtain⟨s,hs,rfl⟩:=a0r hx;obtain⟨s0,s1⟩:=a1R (c8s hs);walk_at "rd";refine⟨hmm s s0 s1,?_⟩;rw[<- a0F (fun s=>((ws.idxOf s:Nat):Int)) hs,c8v];rfl
  ·rintro ys M2 ⟨rfl,rfl⟩ q hq;rw[a1f,c9I (by rw[a0J];exact c8d _)];exact a0s (M0:=M2) h (Sub.new hq)
 ·exact h.elim
noncomputable def a8I:Sp3X:=fun ts M Q E=>match ts with
 | [.tup [.int n,.tup w],.tup [.int m,.tup v]]=>∃ws vs:LSI,w=ws.map .int/\v=vs.map .int/\PlOK n ws/\PlOK m vs/\(n≠m->E "NoStep" M)/\(n=m->16<ws.length+vs.length->E "NoRoom" M) /\
   (n=m->ws.length+vs.length<=16->Q (.tup [.int n,.tup ((ws++vs).map .int)]) M)
 |_=>False
noncomputable abbrev b2s:=DfY "behind" ["one","other"] a8I
theorem b9k(Z:Zs K mg)(D_13:a4z P w K mg base n)(F:FD K mg "behind" b1v ["one","other"]):b2s P w K mg base (n+1):=by
 obtain⟨tk_MOST_LETTERS,c_MOST_LETTERS⟩:=Z.c_MOST_LETTERS;refine F.dfnX b8A (by unfold a8I;walk_at "lnx") (fun f cdv A outer s H E E3 hr acc accN=>(a0Z (c1h (c4E a5k (a6r acc rfl D_13 hr (a0a (hv 0) (a0a (hv 1) a0e))) (HE.x (HE.n (b2a c_MOST_LETTERS))) (a0n _)) (a2E (b5I accN Z.xc_NoRoom a0t)) b1g) (a2E (HS.x (HS.n (a0l (a2N (a0a (h_ix (hv 0) a0f) (a0a (a0z a0u (h_ix (hv 0) a0f) (h_ix (hv 1) a0f)) a0e))))))))) fun ts M Q E h=>?_;unfold a8I at h;split at h
 ·rename_i n w m v;obtain⟨ws,vs,rfl,rfl,ok1,ok2,h2,h3,h4⟩:=h;have o1:=ok1.2.2.1;have o2:=ok2.2.2.1;walk_at "rd";refine⟨ws,vs,rfl,rfl,ok1,ok2,fun c3=>⟨M,Sub.refl,h2 c3⟩,fun c3=>?_⟩;walk_at "rd";refine ite2 (fun c=>⟨M,Sub.refl,h3 c3 (by lia)⟩) (fun c=>?_);rw[List.map_append.symm];exact⟨a0E (n:=ws.length+vs.length) (by lia),by decide,a0i (h4 c3 (by lia))⟩
 ·exact h.elim
noncomputable def a8G:Sp3:=fun ts M Q=>match ts with
 |[.tup [.int n,.tup w]]=>∃ws:LSI,w=ws.map .int/\PlOK n ws/\Q (.tup [.int n,.tup ((a0R ws).map .int)]) M
 |_=>False
noncomputable abbrev b2q:=DfD "turned" ["plait"] a8G
theorem b9i(Z:Zs K mg)(D_56:a2u P w K mg base n)(D_44:a7T P w K mg base n)(F:FD K mg "turned" b1r ["plait"]):b2q P w K mg base (n+1):=by
 refine F.dfn b8y (by unfold a8G;walk_at "ln") (fun hr=>(a0c (a2x (a0h D_56 hr (a0a (hv 0) a0e))) (a0g (a0l (a2N (a0a (h_ix (hv 0) a0f) (a0a (a0h D_44 hr (a0a (h_ix (hv 0) a0f) a0e)) a0e))))))) fun ts M Q h=>?_;unfold a8G at h;split at h
 ·rename_i n w;obtain⟨ws,rfl,ok,h⟩:=h;walk_at "rd";refine⟨ws,rfl,ok,?_⟩;walk_at "rd";refine⟨ws,rfl,by have:=ok.2.2.1;lia,?_⟩;walk_at "rd";exact⟨by decide,a0i h⟩
 ·exact h.elim
noncomputable def a5X:Sp3:=fun ts M Q=>match ts with
 |[.tup [.int n,.tup w]]=>∃ws:LSI,w=ws.map .int/\PlOK n ws/\Q (.tup [.int n,.tup ((ws.map fun l=>-l).map .int)]) M
 |_=>False
noncomputable abbrev a7R:=DfD "mirrored" ["plait"] a5X
theorem b4T(Z:Zs K mg)(D_56:a2u P w K mg base n)(F:FD K mg "mirrored" a5B ["plait"]):a7R P w K mg base (n+1):=by
 refine F.dfn b4D (by unfold a5X;walk_at "ln") (fun hr=>(a0c (a2x (a0h D_56 hr (a0a (hv 0) a0e))) (a0g (a0l (a2N (a0a (h_ix (hv 0) a0f) (a0a (a0Q a1c Z.b_tuple c8W (a0a (a1k rfl (a1N (h_ix (hv 0) a0f)) (bkS (a0b a5B) ["plait"] ["letter"] [none]) (a0N (i:=0)) (by walk_at "g") (fun _ _ _ _ _=>a1j) (fun _ _ _ _ _=>(h_un a1l (hv 0)))) a0e)) a0e))))))) fun ts M Q h=>?_;unfold a5X at h;split at h
 ·rename_i n w;obtain⟨ws,rfl,ok,h⟩:=h;have hl:ws.length<10000:=by have:=ok.2.2.1;lia
  walk_at "rd";refine⟨ws,rfl,ok,?_⟩;walk_at "rd";refine⟨fun i ys M'=>ys=((ws.take i).map (fun l=>-l)).map T.int/\M'=M,⟨rfl,rfl⟩,fun _ _ _ _=>trivial,?_,?_,?_⟩
  ·exact c8D (by lia:ws.length<=10000) (by decide)
  ·rintro i x ys M' hx ⟨rfl,rfl⟩;obtain⟨l,hl',rfl⟩:=a0r hx;walk_at "rd";rw[<- a0F (fun l:Int=>-l) hl',c8v];rfl
  ·rintro ys M' ⟨rfl,rfl⟩ p hp;rw[c8y];exact⟨by decide,a0s (M0:=M') h (Sub.new hp)⟩
 ·exact h.elim
noncomputable def a1D:Sp3:=fun ts M Q=>match ts with
 |[.int n,.int l]=>n.natAbs<1000000/\l.natAbs<1000000/\Q (.int (b2d n l)) M
 |_=>False
noncomputable abbrev a4I:=DfD "flipped_letter" ["strands","letter"] a1D
theorem a7E(Z:Zs K mg)(F:FD K mg "flipped_letter" a2M ["strands","letter"]):a4I P w K mg base (n+1):=by
 refine F.dfn a7w (by unfold a1D;walk_at "ln") (fun hr=>(a0c (s_if (a0o a5P (hv 1) a0f (a0n _)) (a0g (a0l (h_un a1l (a0z a0u (hv 0) (hv 1))))) a0w) (a0g (a0l (a0z a1i (hv 0) (hv 1)))))) fun ts M Q h=>?_;unfold a1D at h;split at h
 ·rename_i n l;obtain⟨h1,h2,h⟩:=h;unfold b2d at h;walk_at "rd";refine ite2 (fun c1=>?_) (fun c1=>?_)
  ·rw[if_pos c1] at h;exact a0i h
  ·rw[if_neg c1] at h;exact a0i h
 ·exact h.elim
noncomputable def a7u:Sp3:=fun ts M Q=>match ts with
 |[.tup [.int n,.tup w]]=>∃ws:LSI,w=ws.map .int/\PlOK n ws/\Q (.tup [.int n,.tup ((ws.map (b2d n)).map .int)]) M
 |_=>False
noncomputable abbrev a9x:=DfD "flipped" ["plait"] a7u
theorem b7n(Z:Zs K mg)(D_56:a2u P w K mg base n)(D_3:a4I P w K mg base n)(F:FD K mg "flipped" a6M ["plait"]):a9x P w K mg base (n+1):=by
 refine F.dfn b0s (by unfold a7u;walk_at "ln") (fun hr=>(a0c (a2x (a0h D_56 hr (a0a (hv 0) a0e))) (a0c (a0y (i:=1) (h_ix (hv 0) a0f) b0s.nd) (a0g (a0l (a2N (a0a (hv 1) (a0a (a0Q a1c Z.b_tuple c8W (a0a (a1k rfl (a1N (h_ix (hv 0) a0f)) (bkS (a0b a6M) ["plait","strands"] ["letter","strands"] [none,some 1]) (a0N (i:=0)) (by walk_at "g") (fun _ _ _ _ _=>a1j) (fun _ _ _ _ _=>(a0h D_3 hr (a0a (hv 1) (a0a (hv 0) a0e))))) a0e)) a0e)))))))) fun ts M Q h=>?_;unfold a7u at h;split at h
 ·rename_i n w;obtain⟨ws,rfl,ok,h⟩:=h;have hl:ws.length<10000:=by have:=ok.2.2.1;lia
  walk_at "rd";refine⟨ws,rfl,ok,?_⟩;walk_at "rd";refine⟨fun i ys M'=>ys=((ws.take i).map (b2d n)).map T.int/\M'=M,⟨rfl,rfl⟩,fun _ _ _ _=>trivial,?_,?_,?_⟩
  ·exact c8D (by lia:ws.length<=10000) (by decide)
  ·rintro i x ys M' hx ⟨rfl,rfl⟩;obtain⟨l,hl',rfl⟩:=a0r hx;obtain⟨l1,l2⟩:=ok.2.2.2 l (c8s hl');have:=ok.1;have:=ok.2.1;unfold a1D;refine⟨by lia,by lia,?_,rfl⟩;rw[<- a0F (b2d n) hl',c8v];rfl
  ·rintro ys M' ⟨rfl,rfl⟩ p hp;rw[c8y];exact⟨by decide,a0s (M0:=M') h (Sub.new hp)⟩
 ·exact h.elim
noncomputable def a7p:Sp3:=fun ts M Q=>match ts with
 |[.tup [.int n,.tup w]]=>∃ws:LSI,w=ws.map .int/\PlOK n ws/\Q (.tup [.int n,.tup ((redL ws).map .int)]) M
 |_=>False
noncomputable abbrev a9p:=DfD "shorter" ["plait"] a7p
theorem b7i(Z:Zs K mg)(D_56:a2u P w K mg base n)(D_7:a3i P w K mg base n)(F:FD K mg "shorter" a8M ["plait"]):a9p P w K mg base (n+1):=by
 refine F.dfn b6R (by unfold a7p;walk_at "ln") (fun hr=>(a0c (a2x (a0h D_56 hr (a0a (hv 0) a0e))) (a0g (a0l (a2N (a0a (h_ix (hv 0) a0f) (a0a (a0h D_7 hr (a0a (h_ix (hv 0) a0f) a0e)) a0e))))))) fun ts M Q h=>?_;unfold a7p at h;split at h
 ·rename_i n w;obtain⟨ws,rfl,ok,h⟩:=h;walk_at "rd";refine⟨ws,rfl,ok,?_⟩;walk_at "rd";refine⟨ws,rfl,by have:=ok.2.2.1;lia,?_⟩;walk_at "rd";exact⟨by decide,a0i h⟩
 ·exact h.elim
noncomputable def a5W:Sp3:=fun ts M Q=>match ts with
 |[.tup [.int n,.tup w]]=>∃ws:LSI,w=ws.map .int/\PlOK n ws/\Q (.tup ((a6N n ws).map .int)) M
 |_=>False
noncomputable abbrev a7Q:=DfD "order_of" ["plait"] a5W
theorem b4S(Z:Zs K mg)(D_56:a2u P w K mg base n)(D_31:a4A P w K mg base n)(D_32:a6u P w K mg base n)(F:FD K mg "order_of" a7y ["plait"]):a7Q P w K mg base (n+1):=by
 refine F.dfn a4h (by unfold a5W;walk_at "ln") (fun hr=>(a0c (a2x (a0h D_56 hr (a0a (hv 0) a0e))) (a0c (a0y (i:=1) (a9i Z.b_tuple Z.b_range (a0a (h_ix (hv 0) a0f) a0e)) a4h.nd) (a0c (a7A c9i rfl (a1N (h_ix (hv 0) a0f)) (a2y (i:=2) a4h.nd) (a0g (a0y (i:=1) (a0h D_31 hr (a0a (hv 1) (a0a (a0z a1i (a0M a7j Z.b_abs d0Z (a0a (hv 2) a0e)) a0f) a0e))) a4h.nd))) (a0g (a0l (a0h D_32 hr (a0a (hv 1) a0e)))))))) fun ts M Q h=>?_;unfold a5W at h;split at h
 ·rename_i n w;obtain⟨ws,rfl,ok,h⟩:=h;obtain⟨o1,o2,o3,o4⟩:=id ok;walk_at "rd";refine⟨ws,rfl,ok,?_⟩;walk_at "rd";refine⟨⟨by lia,by lia⟩,?_⟩
  refine⟨fun i ρ M'=>∃a,ρ=[some (T.tup [T.int n,T.tup (ws.map T.int)]),some (T.tup ((a3p n (ws.take i)).map T.int)),a]/\Sub M M',
   ⟨none,by rw[b0t];rfl,Sub.refl⟩,fun _ _ _ _=>trivial,?_,?_⟩
  ·rintro i x ρ M' hx ⟨a,rfl,hS⟩;obtain⟨l,hl,rfl⟩:=a0r hx;have lk:a1H n l:=o4 l (c8s hl);unfold a1H at lk;have sl:=a1B n (ws.take i);walk_at "rd";refine⟨_,rfl,by lia,by rw[sl];lia,by rw[sl];lia,some (.int l),?_,hS⟩;rw[b4z hl,show((l.natAbs:Int)-1).toNat=l.natAbs-1 by lia,b4w _ _ (by lia)]
  ·rintro ρ M' ⟨a,rfl,hS⟩;rw[c8a,c8y];walk_at "rd";refine⟨_,rfl,by rw[a1B];lia,?_,?_⟩
   ·intro s s0 s1;rw[a1B] at s1;exact b8w n ws o4 s s0 (by lia)
   ·have e:(((a3p n ws).length:Nat):Int)=n:=by rw[a1B];lia
    rw[e];exact a0s h hS
 ·exact h.elim
noncomputable def a3y:Sp3:=fun ts M Q=>match ts with
 |[.int n]=>0<=n/\n<=6/\Q (.tup (a0L 0 n.toNat)) M
 |_=>False
noncomputable abbrev a4y:=DfD "plain_order" ["strands"] a3y
theorem a9S(Z:Zs K mg)(F:FD K mg "plain_order" a4j ["strands"]):a4y P w K mg base (n+1):=by
 refine F.dfn a9P (by unfold a3y;walk_at "ln") (fun hr=>(a0g (a0l (a9i Z.b_tuple Z.b_range (a0a (hv 0) a0e))))) fun ts M Q h=>?_;unfold a3y at h;split at h
 ·rename_i n;obtain⟨h0,h1,h⟩:=h;walk_at "rd";exact⟨⟨by lia,by lia⟩,a0i h⟩
 ·exact h.elim
noncomputable def a4d:Sp3:=fun ts M Q=>match ts with
 |[.int n]=>0<=n/\n<=6/\Q (.tup ((a0I n).reverse.map .int)) M
 |_=>False
noncomputable abbrev a3v:=DfD "half_twist" ["strands"] a4d
theorem b1K(Z:Zs K mg)(F:FD K mg "half_twist" a5g ["strands"]):a3v P w K mg base (n+1):=by
 refine F.dfn b1p (by unfold a4d;walk_at "ln") (fun hr=>(a0g (a0l (b5g Z.b_tuple Z.b_range (a0a (a0z a1i (hv 0) a0f) (a0a (h_un a1l a0f) (a0a (h_un a1l a0f) a0e))))))) fun ts M Q h=>?_;unfold a4d at h;split at h
 ·rename_i n;obtain⟨h0,h1,h⟩:=h;walk_at "rd"
  have e:b0u (n-1) (n-1 - -1).toNat=(a0I n).reverse.map .int:=by
   rcases (show n=0\/n=1\/n=2\/n=3\/n=4\/n=5\/n=6 by lia) with rfl|rfl|rfl|rfl|rfl|rfl|rfl<;>rfl
  rw[e];exact⟨⟨by lia,by lia,by lia,by lia,by lia⟩,a0i h⟩
 ·exact h.elim
noncomputable def a4X:Sp3:=fun ts M Q=>match ts with
 |[.tup r,.int l]=>∃ws:LSI,r=ws.map .int/\1<=l/\l<ws.length/\Q (.bl (decide (gI ws (l-1)>gI ws l))) M
 |_=>False
noncomputable abbrev a9y:=DfD "can_begin" ["order","letter"] a4X
theorem b3r(Z:Zs K mg)(F:FD K mg "can_begin" a6h ["order","letter"]):a9y P w K mg base (n+1):=by
 refine F.dfn b2U (by unfold a4X;walk_at "ln") (fun hr=>(a0g (a0l (b9Z a5k (h_ix (hv 0) (a0z a1i (hv 1) a0f)) (h_ix (hv 0) (hv 1)) (a0n _))))) fun ts M Q h=>?_;unfold a4X at h;split at h
 ·rename_i r l;obtain⟨ws,rfl,h0,h1,h⟩:=h;walk_at "rd";rw[c6W (by lia) (by lia),c6W (by lia) h1];exact a0i h
 ·exact h.elim
noncomputable def a2G:Sp3:=fun ts M Q=>match ts with
 |[.tup r]=>∃(n:Int) (ws:LSI),r=ws.map .int/\0<=n/\n<=6/\IsP n ws/\Q (.tup ((flO n ws).map .int)) M
 |_=>False
noncomputable abbrev a3j:=DfD "flipped_order" ["order"] a2G
theorem a8i(Z:Zs K mg)(F:FD K mg "flipped_order" a1Y ["order"]):a3j P w K mg base (n+1):=by
 refine F.dfn a8f (by unfold a2G;walk_at "ln") (fun hr=>(a0g (a0l (a0Q a1c Z.b_tuple c8W (a0a (a1k rfl (a9h Z.b_reversed (hv 0)) (bkS (a0b a1Y) ["order"] ["place","order"] [none,some 0]) (a0N (i:=0)) (by walk_at "g") (fun _ _ _ _ _=>a1j) (fun _ _ _ _ _=>(a0z a1i (a0z a1i (a0M a0Y Z.b_len PySem.boot_len (a0a (hv 1) a0e)) a0f) (hv 0)))) a0e))))) fun ts M Q h=>?_;unfold a2G at h;split at h
 ·rename_i r;obtain⟨n,ws,rfl,h0,h6,hP,h⟩:=h;have hl:=hP.len;walk_at "rd";rw[show(ws.map T.int).reverse=ws.reverse.map T.int from List.map_reverse.symm];refine⟨fun i ys M'=>ys=((ws.reverse.take i).map fun x=>n-1-x).map T.int/\M'=M,⟨rfl,rfl⟩,fun _ _ _ _=>trivial,a0H (by rw[c8a,c9c];lia),?_,?_⟩
  ·rintro i x ys M' hx ⟨rfl,eM⟩;obtain⟨l,hl',rfl⟩:=a0r hx;refine⟨?_,eM⟩;rw[<- a0F (fun x=>n-1-x) hl',c8v,show((ws.length:Nat):Int)=n by lia];rfl
  ·rintro ys M' ⟨rfl,eM⟩ q hq
   rw[eM] at hq|-
   rw[c8a,c8y];exact a0s h (Sub.new hq)
 ·exact h.elim
noncomputable def a4T:Sp3:=fun ts M Q=>match ts with
 |[.int n,.int l]=>1<=n/\n<=6/\a1H n l/\(IsP n (ordF n l)->Q (.tup ((ordF n l).map .int)) M)
 |_=>False
noncomputable abbrev a9r:=DfD "order_for" ["strands","letter"] a4T
theorem b3m(Z:Zs K mg)(D_31:a4A P w K mg base n)(D_14:a4y P w K mg base n)(D_23:a3v P w K mg base n)(F:FD K mg "order_for" a6d ["strands","letter"]):a9r P w K mg base (n+1):=by
 refine F.dfn b2Q (by unfold a4T;walk_at "ln") (fun hr=>(a0c (s_if (a0o a5k (hv 1) a0f (a0n _)) (a0g (a0l (a0h D_31 hr (a0a (a0h D_14 hr (a0a (hv 0) a0e)) (a0a (a0z a1i (hv 1) a0f) a0e))))) a0w) (a0g (a0l (a0h D_31 hr (a0a (a0h D_23 hr (a0a (hv 0) a0e)) (a0a (a0z a1i (a0z a0u (hv 0) (hv 1)) a0f) a0e))))))) fun ts M Q h=>?_;unfold a4T at h;split at h
 ·rename_i n l;obtain⟨h1,h6,hl,h⟩:=h;have hlen:=a0J n;have hpl:IsP n (a0I n):=.refl _;unfold a1H at hl;refine a0j fun K1 hK1=>?_;walk_at "rd";refine ite2 (fun c=>?_) (fun c=>?_)
  ·refine⟨by lia,h6,?_⟩;rw[a2U];refine⟨a0I n,rfl,by lia,by lia,by lia,?_⟩;unfold ordF at h;rw[if_pos c] at h;exact a0i (h (a8o hpl (by lia)))
  ·rw[hK1];walk_at "rd";refine⟨by lia,h6,?_⟩;refine⟨(a0I n).reverse,rfl,by lia,by rw[c9c];lia,by rw[c9c];lia,?_⟩;unfold ordF at h;rw[if_neg c] at h;exact a0i (h (a8o (List.reverse_perm _) (by rw[c9c];lia)))
 ·exact h.elim
noncomputable def a3z:Sp3:=fun ts M Q=>match ts with
 |[.tup r,.tup r']=>∃(n:Int) (us vs:LSI),r=us.map .int/\r'=vs.map .int/\1<=n/\n<=6/\IsP n us/\IsP n vs/\(IsP n (mvA n us vs).1->IsP n (mvA n us vs).2->Q (.tup [tupT (mvA n us vs).1,tupT (mvA n us vs).2]) M)
 |_=>False
theorem mx1{l:Nat}(h:1<=l):(if (1:Int)>(l:Int)-1 then (1:Int) else (l:Int)-1)=((max (l-1) 1:Nat):Int):=by split<;>lia
theorem b5d{a b:LSI}(c:eqT (.tup (a.map .int)) (.tup (b.map .int))=true):a=b:=by
 rw[b2f,a6X] at c;exact of_decide_eq_true c
theorem b5l(a:LSI):eqT (.tup (a.map .int)) (.tup (a.map .int))=true:=by
 rw[b2f,a6X];exact decide_eq_true rfl
noncomputable abbrev a7c:=DfD "moved_ahead" ["one","other"] a3z
theorem a9T(Z:Zs K mg)(D_23:a3v P w K mg base n)(D_8:a3j P w K mg base n)(D_32:a6u P w K mg base n)(D_33:a9y P w K mg base n)(D_31:a4A P w K mg base n)(F:FD K mg "moved_ahead" a4l ["one","other"]):a7c P w K mg base (n+1):=by
 refine F.dfn a1h (by unfold a3z;walk_at "ln") (fun hr=>(a0c (s_if (a0o (a0T hr.units) (hv 1) (a0h D_23 hr (a0a (a0M a0Y Z.b_len PySem.boot_len (a0a (hv 1) a0e)) a0e)) (a0n _)) (a0g (a0l (a2N (a0a (hv 1) (a0a (a0h D_8 hr (a0a (hv 0) a0e)) a0e))))) a0w) (a0c (a0y (i:=2) (a0h D_32 hr (a0a (hv 0) a0e)) a1h.nd) (a0c (a0y (i:=3) a0f a1h.nd) (a0c (b8C c9i (a0o a5P (hv 3) (a0M a0Y Z.b_len PySem.boot_len (a0a (hv 0) a0e)) (a0n _)) (a0g (s_if (HW.ht (c0T (a1z (a0h D_33 hr (a0a (hv 1) (a0a (hv 3) a0e)))) (b5A (a6W (a1z (a0h D_33 hr (a0a (hv 2) (a0a (hv 3) a0e)))))))) (a0c (a0y (i:=2) (a0h D_31 hr (a0a (hv 2) (a0a (a0z a1i (hv 3) a0f) a0e))) a1h.nd) (a0c (a0y (i:=1) (a0h D_31 hr (a0a (hv 1) (a0a (a0z a1i (hv 3) a0f) a0e))) a1h.nd) (a0g (a0y (i:=3) (a0M (c0H rfl) Z.b_max d3s (a0a (a0z a1i (hv 3) a0f) (a0a a0f a0e))) a1h.nd)))) (a0g (b8F (i:=3) c6M a0f a1h.nd))))) (a0g (a0l (a2N (a0a (a0h D_32 hr (a0a (hv 2) a0e)) (a0a (hv 1) a0e)))))))))) fun ts M Q h=>?_;unfold a3z at h;split at h
 ·rename_i r r';obtain⟨n,us,vs,rfl,rfl,h1,h6,hu,hv,h⟩:=h;have lu:=hu.len;have lv:=hv.len;have hes0:=b9M (n:=n) (by lia) hu;refine a0j fun K1 hK1=>?_;walk_at "rd";refine⟨by lia,by lia,?_⟩;rw[show((vs.length:Nat):Int)=n by lia];dsimp only;refine⟨by rw[a2f,a1y],by decide,ite2 (fun c=>?_) (fun c=>?_)⟩
  ·have e:mvA n us vs=(vs,flO n us):=if_pos (b5d c);rw[e] at h;exact⟨n,us,rfl,by lia,h6,hu,by decide,a0i (h hv (c3g hu))⟩
  ·have e:mvA n us vs=_:=if_neg fun e=>c (by rw[e];exact b5l _);rw[e] at h;rw[hK1];clear hK1;refine b1m fun K2 hK2=>?_;walk_at "rd";refine⟨us,rfl,by lia,fun s a b=>hu.mem.mpr (by lia),?_⟩;rw[hK2];clear hK2;refine a0j fun K3 hK3=>?_;unfold a8D;refine⟨fun m ρ M'=>∃(e vs':LSI) (l:Nat),ρ=[some (.tup (us.map .int)),some (.tup (vs'.map .int)),some (.tup (e.map .int)),some (.int (l:Nat))]/\M'=M/\IsP n e/\IsP n vs'/\1<=l/\l<=us.length/\m=(217-Sn 0 vs')*10+(10-l)/\∃k,m<=k/\mvJ 3000 (invO us,vs,1)=mvJ k (e,vs',l),⟨_,invO us,vs,1,rfl,rfl,hes0,hv,c8d _,by lia,rfl,3000,by lia,rfl⟩,?_⟩;rintro m ρ M' ⟨e,vs',l,rfl,rfl,hes,hvs,hl1,hll,rfl,k,hk,hi⟩;have les:=hes.len;have lvs:=hvs.len;have hsn:=b6G hvs h6;walk_at "rd";refine ite2 (fun hlt=>?_) (fun hge=>?_)
   ·obtain⟨k,rfl⟩:∃q,k=q+1:=⟨k-1,by lia⟩;refine⟨vs',rfl,by lia,by lia,?_⟩;dsimp only;have stay:(dsB vs' l&&!dsB e l)=false->∃m',m'<(217-Sn 0 vs')*10+(10-l)/\∃(e1 vs1:LSI) (l1:Nat),[some (T.tup (us.map .int)),some (.tup (vs'.map .int)),some (.tup (e.map .int)),some (.int ((l:Int)+1))]=[some (T.tup (us.map .int)),some (.tup (vs1.map .int)),some (.tup (e1.map .int)),some (.int (l1:Nat))]/\M'=M'/\IsP n e1/\IsP n vs1/\1<=l1/\l1<=us.length/\m'=(217-Sn 0 vs1)*10+(10-l1)/\∃q,m'<=q/\mvJ 3000 (invO us,vs,1)=mvJ q (e1,vs1,l1):=fun hc=>⟨_,by lia,e,vs',l+1,rfl,rfl,hes,hvs,by lia,by lia,rfl,k,by lia,by rw[hi,c6u (by lia) hc]⟩;refine ite2 (fun hd=>?_) (fun hd=>stay (by rw[show dsB vs' l=false from d1D.mpr hd];rfl));have hdb:dsB vs' l=true:=hd;refine⟨e,rfl,by lia,by lia,?_⟩;dsimp only
    refine ite2 (fun he=>?_) (fun he=>stay (by
     have q:dsB e l=true:=by simpa [dsB] using he
     rw[q];simp))
    have hcu:(dsB vs' l&&!dsB e l)=true:=by
     have q:dsB e l=false:=by simpa [dsB] using he
     rw[q,hdb];rfl
    refine⟨e,rfl,by lia,by lia,by lia,vs',rfl,by lia,by lia,by lia,?_⟩;rw[show((l:Int)-1).toNat=l-1 by lia,mx1 hl1];have hup:=c7b hvs hl1 (by lia) hdb;rw[<- b0l hl1 (by lia)] at hup;have hv2:=a8o hvs (k:=l-1) (by lia);have hsn2:=b6G hv2 h6;exact⟨_,by lia,a4a e (l-1),a4a vs' (l-1),max (l-1) 1,rfl,rfl,a8o hes (by lia),hv2,by lia,by lia,rfl,k,by lia,by rw[hi,c6v (by lia) hcu]⟩
   ·rw[hK3];rw[hi,b9o (show ¬l<e.length by lia)] at h;walk_at "rd";exact⟨e,rfl,by lia,fun s a b=>hes.mem.mpr (by lia),by decide,a0i (h (b9M (by lia) hes) hvs)⟩
 ·exact h.elim
noncomputable def a4b:Sp3:=fun ts M Q=>match ts with
 |[.adr q,.tup r]=>∃(n:Int) (R:LLI) (ws:LSI),M q=some (.lst (R.map tupT))/\r=ws.map .int/\1<=n/\n<=6/\R.length<=600/\IsP n ws/\(∀r∈R,IsP n r)/\((pbE n R ws).length<=R.length+1->(∀r∈pbE n R ws,IsP n r)->Q .non (updM M q (.lst ((pbE n R ws).map tupT))))
 |_=>False
theorem b7W{c:TT3}{b:TS3}{D:Ends3}{ρ:En}{M:MH}(h:∀B:TS3,B=b->a8D c B D ρ M):a8D c b D ρ M:=h _ rfl
noncomputable abbrev a8b:=DfD "put_behind" ["orders","order"] a4b
theorem b1H(Z:Zs K mg)(D_15:a7c P w K mg base n)(D_14:a4y P w K mg base n)(F:FD K mg "put_behind" a5e ["orders","order"]):a8b P w K mg base (n+1):=by
 refine F.dfn a2R (by unfold a4b;walk_at "ln") (fun hr=>(a0c (a2x (a7K (hv 0) (a0a (hv 1) a0e))) (a0c (a0y (i:=2) (a0z a1i (a0M a0Y Z.b_len PySem.boot_len (a0a (hv 0) a0e)) a0f) a2R.nd) (a0c (b8C c9i (a0o a5k (hv 2) a0f (a0n _)) (a0c (a0y (i:=3) (a0h D_15 hr (a0a (h_ix (hv 0) (a0z a1i (hv 2) a0f)) (a0a (h_ix (hv 0) (hv 2)) a0e))) a2R.nd) (a0c (s_if (a0o (a0T hr.units) (h_ix (hv 3) a0f) (h_ix (hv 0) (hv 2)) (a0n _)) (a0g c3G) a0w) (a0c (c1i (h_ix (hv 3) a0f) (c2u (hv 0) (a0z a1i (hv 2) a0f))) (a0c (c1i (h_ix (hv 3) a0f) (c2u (hv 0) (hv 2))) (a0g (b8F (i:=2) c3b a0f a2R.nd))))))) (a0g (s_if (a0o (a0T hr.units) (h_ix (hv 0) (h_un a1l a0f)) (a0h D_14 hr (a0a (a0M a0Y Z.b_len PySem.boot_len (a0a (hv 1) a0e)) a0e)) (a0n _)) (a0g (a2x (b9W (hv 0) a0e))) a0w)))))) fun ts M Q h=>?_;unfold a4b at h;split at h
 ·rename_i q r;obtain⟨n,R,ws,hq,rfl,h1,h6,hRl,hw,hR,h⟩:=h
  have hP0:∀r∈R++[ws],IsP n r:=fun x hx=>by
   rcases c8U.mp hx with hx|hx
   ·exact hR x hx
   ·obtain rfl:=c8A.mp hx;exact hw
  have hwl:=hw.len;refine b1m fun K2 hK2=>?_;walk_at "rd";rw[hq];dsimp only;have e0:R.map tupT++[T.tup (ws.map T.int)]=(R++[ws]).map tupT:=by rw[c8v];rfl
  rw[e0];refine⟨trivial,a0H (by rw[c8a];lia),?_⟩;rw[hK2];clear hK2;refine a0j fun K3 hK3=>?_
  have hk:∀(R':LLI) (a b:Option T),R'.length=R.length+1->(∀r∈R',IsP n r)->R'=pbF n R.length (R++[ws])->K3 [some (.adr q),some (.tup (ws.map .int)),a,b] (updM M q (.lst (R'.map tupT))):=by
   intro R' a b hl hR' hs';rw[hK3];clear hK3;unfold pbE at h;rw[<- hs'] at h;clear hs'
   obtain⟨A,y,rfl⟩:∃A y,R'=A++[y]:=by
    rcases List.eq_nil_or_concat R' with e|⟨A,y,e⟩
    ·rw[e] at hl;cases hl
    ·exact⟨A,y,by rw[e,List.concat_eq_append]⟩
   rw[List.getLast?_append,d3H] at h;rw[c8p,c9A] at hl;walk_at "rd";have e1:(A++[y]).map tupT=A.map tupT++[tupT y]:=by rw[c8v];rfl
   rw[e1,a5J,<- e1];dsimp only;refine⟨by lia,by lia,?_⟩;rw[show((ws.length:Nat):Int)=n by lia,a2U];refine⟨by unfold tupT;rw[a2f,a1y],by rw[a2f,a1y],by unfold tupT;rw[a5I,a3U];decide,ite2 (fun c=>?_) (fun c=>?_)⟩
   ·rw[a0d];dsimp only;refine⟨trivial,?_⟩;rw[e1,c8p,c9A,d2q,c8X (c8d _),d2o,d3H];dsimp only[d2W];rw[a4K];rw[if_pos (by rw[b5d c];rfl)] at h;exact a0i (h (by lia) fun r hr=>hR' r (c8O _ hr))
   ·rw[if_neg fun e=>c (by rw[show y=a0I n from c8z e];exact b5l _)] at h;exact a0i (h (by rw[c8p,c9A];lia) hR')
  refine b7W fun C hC=>?_;unfold a8D;refine⟨fun m ρ M'=>∃(R':LLI) (a:Nat) (b:Option T),ρ=[some (.adr q),some (.tup (ws.map .int)),some (.int (a:Nat)),b]/\M'=updM M q (.lst (R'.map tupT))/\R'.length=R.length+1/\(∀r∈R',IsP n r)/\a<R'.length/\m=a/\pbF n a R'=pbF n R.length (R++[ws]),⟨_,R++[ws],R.length,none,?_,rfl,by rw[c8p];rfl,hP0,by rw[c8p];exact d0h _,rfl,rfl⟩,?_⟩
  ·rw[c8a];show _=[_,_,some (T.int ((R.length:Nat):Int)),none];rw[show((R.length+(0+1):Nat):Int)-1=(R.length:Nat) by lia]
  rintro m ρ M' ⟨R',a,b,rfl,rfl,hl,hR',ha,rfl,pb⟩;walk_at "rd";refine ite2 (fun hlt=>?_) (fun hge=>hk R' _ _ hl hR' (by rw[<- pb,show m=0 by lia];rfl));obtain⟨k,rfl⟩:∃k,m=k+1:=⟨m-1,by lia⟩;rw[hC];clear hC;refine a0j fun K4 hK4=>?_;walk_at "rd";have g1:=b8c (R:=R') (i:=k) (by lia);rw[show((k:Nat):Int)=((k+1:Nat):Int)-1 by lia] at g1;have g2:=b8c (R:=R') (i:=k+1) ha;rw[g1,g2];dsimp only;refine⟨n,_,_,rfl,rfl,h1,h6,hR' _ (getD_mem (by lia)),hR' _ (getD_mem ha),fun hu' hv'=>?_⟩;rw[c7E] at pb
  generalize mvA n (R'.getD k []) (R'.getD (k+1) [])=p at hu' hv' pb|-
  rw[hK4];clear hK4;refine a0j fun K5 hK5=>?_;walk_at "rd";rw[g2];dsimp only;refine⟨by unfold tupT;rw[a2f,a1y],by unfold tupT;rw[a2f,a1y],by unfold tupT;rw[a5I,a3U];decide,ite2 (fun c=>hk R' _ _ hl hR' ?_) (fun c=>?_)⟩
  ·rw[if_pos (b5d c)] at pb;exact pb
  rw[if_neg fun e=>c (by rw[e];exact b5l _)] at pb;rw[hK5];clear hK5;walk_at "rd";rw[b9C (by lia) (by lia),show(((k+1:Nat):Int)-1).toNat=k by lia];dsimp only;rw[c9K,c8a,b9C (by lia) (by lia),d0a];dsimp only;have e9:((R'.map tupT).set k (tupT p.1)).set (k+1) (tupT p.2)=((R'.set k p.1).set (k+1) p.2).map tupT:=by rw[d5Z,d5Z]
  rw[e9];refine⟨k,by lia,(R'.set k p.1).set (k+1) p.2,k,some (.tup [tupT p.1,tupT p.2]),?_,rfl,by rw[c9K,c9K];exact hl,?_,by rw[c9K,c9K];lia,rfl,pb⟩
  ·rw[show((k+1:Nat):Int)-1=(k:Int) by lia]
  ·intro r hr;rcases d2y hr with hr|rfl
   ·rcases d2y hr with hr|rfl
    ·exact hR' r hr
    ·exact hu'
   ·exact hv'
 ·exact h.elim
noncomputable def a1U:Sp3:=fun ts M Q=>match ts with
 |[.int n,.tup w]=>∃ws:LSI,w=ws.map .int/\1<=n/\n<=6/\ws.length<=500/\a0S n ws/\((fmR n ws []).length<=ws.length->okR n (fmR n ws [])->Q (frT (b7F (n,ws))) M)
 |_=>False
noncomputable abbrev a3V:=DfD "form_by_letters" ["strands","word"] a1U
theorem a6P(Z:Zs K mg)(D_34:a9r P w K mg base n)(D_8:a3j P w K mg base n)(D_24:a8b P w K mg base n)(D_23:a3v P w K mg base n)(F:FD K mg "form_by_letters" a1F ["strands","word"]):a3V P w K mg base (n+1):=by
 refine F.dfn a0D (by unfold a1U;walk_at "ln") (fun hr=>(a0c (a0y (i:=2) (a0M a0Y Z.b_len PySem.boot_len (a0a (a1k rfl (a1N (hv 1)) (bkS (a0b a1F) ["strands","word","still_to_pass","power","orders","letter","order","twists"] ["letter"] [none]) (a0N (i:=0)) (by walk_at "g") (fun _ _ _ _ _=>b8d (a0o a5P (hv 0) a0f (a0n _))) (fun _ _ _ _ _=>(hv 0))) a0e)) a0D.nd) (a0c (a0y (i:=3) (h_un a1l (hv 2)) a0D.nd) (a0c (a0y (i:=4) (a3h a0e) a0D.nd) (a0c (a7A c9i rfl (a1N (hv 1)) (a2y (i:=5) a0D.nd) (a0c (s_if (a0o a5P (hv 5) a0f (a0n _)) (a0g (b8F (i:=2) c3b a0f a0D.nd)) a0w) (a0c (a0y (i:=6) (a0h D_34 hr (a0a (hv 0) (a0a (hv 5) a0e))) a0D.nd) (a0c (s_if (a0o (a0T hr.units) (a0z a6o (hv 2) a0f) a0f (a0n _)) (a0g (a0y (i:=6) (a0h D_8 hr (a0a (hv 6) a0e)) a0D.nd)) a0w) (a0g (a2x (a0h D_24 hr (a0a (hv 4) (a0a (hv 6) a0e))))))))) (a0c (a0y (i:=7) (b7B hr.units (hv 4) (a0a (a0h D_23 hr (a0a (hv 0) a0e)) a0e)) a0D.nd) (a0g (a0l (a2N (a0a (a0z a0u (hv 3) (hv 7)) (a0a (a0Q a1c Z.b_tuple c8W (a0a (a1s (hv 4) (a2m (hv 7)) a2n) a0e)) a0e))))))))))) fun ts M Q h=>?_;unfold a1U at h;split at h
 ·rename_i n w;obtain⟨ws,rfl,h1,h6,hl,hw,h⟩:=h;refine a0j fun K1 hK1=>?_;walk_at "rd";refine⟨fun i ys M'=>M'=M/\ys.length=negs (ws.take i),⟨rfl,rfl⟩,fun _ _ _ _=>trivial,a0H (by lia),?_,?_⟩
  ·rintro i x ys M' hx ⟨eM,hy⟩;obtain⟨l,hl',rfl⟩:=a0r hx;exact ite2 (fun c=>⟨eM,by rw[c8p,c9A,a8V hl',if_pos c,hy]⟩) (fun c=>⟨eM,by rw[a8V hl',if_neg c,hy,d6a]⟩)
  ·rintro ys M' ⟨eM,hy⟩ p hp;rw[c8y] at hy
   rw[eM] at hp|-
   rw[hK1];clear hK1;have hS0:Sub M (updM M p (.lst ys)):=Sub.new hp
   generalize updM M p (.lst ys)=M1 at hS0|-
   refine b1l fun K3 hK3=>?_;refine b1m fun K2 hK2=>?_;walk_at "rd";intro q hq;have hqM:=none_of hS0 hq;have hS1:=hS0.newr hq (o:=MO.lst []);have hq1:updM M1 q (.lst []) q=some (.lst (([]:LLI).map tupT)):=a0d
   generalize updM M1 q (.lst [])=M2 at hS1 hq1|-
   rw[hK2];clear hK2;refine a5o fun C hC=>?_;unfold a8e;walk_at "rd";refine⟨fun i ρ M'=>∃(R:LLI) (s pw:Int) (a b:Option T),ρ=[some (.int n),some (.tup (ws.map .int)),some (.int s),some (.int pw),some (.adr q),a,b,none]/\M' q=some (.lst (R.map tupT))/\R.length<=i/\(∀r∈R,IsP n r)/\Sub M M'/\s=(negs (ws.drop i):Nat)/\pw=-(negs ws:Nat)/\fmR n (ws.drop i) R=fmR n ws [],⟨[],_,_,none,none,rfl,hq1,c8d _,(fun r hr=>by cases hr),hS1,by rw[d2w];lia,by lia,by rw[d2w]⟩,fun _ _ _ _=>trivial,?_,?_⟩
   ·rintro i x ρ M' hx ⟨R,s,pw,a,b,rfl,hq',hRl,hR,hS,rfl,rfl,hf⟩;obtain⟨l,hl',rfl⟩:=a0r hx;have hi:=(c8k.mp hl').1;rw[hC];clear hC;refine a0j fun K4 hK4=>?_;have hlo:=hw l (c8s hl');have hdr:=b9n hl'
    have hk4:K4 [some (.int n),some (.tup (ws.map .int)),some (.int (negs (ws.drop (i+1)):Nat)),some (.int (-(negs ws:Nat))),some (.adr q),some (.int l),b,none] M':=by
     rw[hK4];clear hK4;refine a0j fun K5 hK5=>?_;walk_at "rd";refine⟨h1,h6,hlo,fun ho=>?_⟩;rw[hK5];clear hK5;refine a0j fun K6 hK6=>?_
     have hk6:IsP n (flp n (negs (ws.drop (i+1))) (ordF n l))->K6 [some (.int n),some (.tup (ws.map .int)),some (.int (negs (ws.drop (i+1)):Nat)),some (.int (-(negs ws:Nat))),some (.adr q),some (.int l),some (.tup ((flp n (negs (ws.drop (i+1))) (ordF n l)).map .int)),none] M':=by
      intro ho';rw[hK6];clear hK6;walk_at "rd";refine⟨n,R,_,hq',rfl,h1,h6,by lia,ho',hR,fun hl2 hR'=>?_⟩
      have ed:ws.drop i=l::ws.drop (i+1):=by
       rw[d1l hi,show ws[i]=l from(c8k.mp hl').2]
      rw[ed] at hf;exact⟨_,_,_,_,_,rfl,a0d,by lia,hR',hS.updF hqM,rfl,rfl,hf⟩
     walk_at "rd";refine⟨by decide,ite2 (fun c=>?_) (fun c=>?_)⟩
     ·have ef:flp n (negs (ws.drop (i+1))) (ordF n l)=flO n (ordF n l):=by unfold flp;rw[if_pos (by lia)]
      rw[ef] at hk6;exact⟨n,_,rfl,by lia,h6,ho,hk6 (c3g ho)⟩
     ·have ef:flp n (negs (ws.drop (i+1))) (ordF n l)=ordF n l:=by unfold flp;rw[if_neg (by lia)]
      rw[ef] at hk6;exact hk6 ho
    walk_at "rd";refine ite2 (fun c=>?_) (fun c=>?_)
    ·rw[if_pos c] at hdr;rw[show((negs (ws.drop i):Nat):Int)-1=(negs (ws.drop (i+1)):Nat) by lia];exact hk4
    ·rw[if_neg c,d6a] at hdr;rw[hdr];exact hk4
   ·rintro ρ M' ⟨R,s,pw,a,b,rfl,hq',hRl,hR,hS,rfl,rfl,hf⟩;rw[hK3];clear hK3;walk_at "rd";rw[hq'];refine⟨trivial,by lia,h6,?_⟩;dsimp only;rw[hq'];refine⟨R,_,rfl,rfl,?_⟩;dsimp only;intro r2 hr2;rw[a1e _ _ (by lia),<- d1B]
    have eR:R=fmR n ws []:=by
     rw[<- hf,List.drop_length];rfl
    unfold frT b7F at h;dsimp only at h;rw[<- eR] at h;exact⟨by decide,a0s (h hRl hR) (hS.newr hr2)⟩
 ·exact h.elim
noncomputable def a7t:Sp3:=fun ts M Q=>match ts with
 |[.tup [.int n,.tup w]]=>∃ws:LSI,w=ws.map .int/\PlOK n ws/\(FrmS (b7F (n,ws))->Q (frT (b7F (n,ws))) M)
 |_=>False
noncomputable abbrev a9v:=DfD "form_of" ["plait"] a7t
theorem b7m(Z:Zs K mg)(D_56:a2u P w K mg base n)(D_0:a3V P w K mg base n)(F:FD K mg "form_of" a8N ["plait"]):a9v P w K mg base (n+1):=by
 refine F.dfn b6V (by unfold a7t;walk_at "ln") (fun hr=>(a0c (a2x (a0h D_56 hr (a0a (hv 0) a0e))) (a0g (a0l (a0h D_0 hr (a0a (h_ix (hv 0) a0f) (a0a (h_ix (hv 0) a0f) a0e))))))) fun ts M Q h=>?_;unfold a7t at h;split at h
 ·rename_i n w;obtain⟨ws,rfl,ok,h⟩:=h;have h1:=ok.1;have h2:=ok.2.1;have h3:=ok.2.2.1;walk_at "rd";refine⟨ws,rfl,ok,ws,rfl,h1,h2,by lia,ok.2.2.2,fun a b=>a0i (h ⟨?_,fun r hr=>?_,?_⟩)⟩
  ·show((fmR n ws []).drop _).length<=16;rw[c9s];lia
  ·have hp:=b r (d1h hr);refine⟨by have:=hp.len;lia,fun p hp'=>?_⟩;have:=hp.mem.mp hp';lia
  ·have hc:twR n (fmR n ws [])<=_:=List.count_le_length;have hn:negs ws<=ws.length:=d3l _ _;show(-(negs ws:Int)+(twR n (fmR n ws []):Nat)).natAbs<100;lia
 ·exact h.elim
noncomputable def a2o:Sp3:=fun ts M Q=>match ts with
 |[.int l]=>l≠0/\l.natAbs<1000/\∀p,M p=none->Q (.adr p) (updM M p (.dk (mkKv l)))
 |_=>False
theorem b0D(l:Int)(h:l≠0):((mkKv l).map c8J).Nodup:=by
 have:=b7s l h;unfold mkKs at this;unfold mkKv
 simp only[c8g,c9g,c9J,c8n,c8M,or_false,d5M] at this|-
 exact⟨this.1,this.2.1,this.2.2.1,this.2.2.2.1,List.nodup_nil⟩
noncomputable abbrev a4H:=DfD "made_by_letter" ["letter"] a2o
theorem a7D(Z:Zs K mg)(D_44:a7T P w K mg base n)(F:FD K mg "made_by_letter" a2L ["letter"]):a4H P w K mg base (n+1):=by
 refine F.dfn a1a (by unfold a2o;walk_at "ln") (fun hr=>(a0c (a0y (i:=1) (a0M a7j Z.b_abs d0Z (a0a (hv 0) a0e)) a1a.nd) (a0c (s_if (a0o a5k (hv 0) a0f (a0n _)) (a0c (a0y (i:=2) (a2N (a0a (hv 1) (a0a (a0z a0u (hv 1) a0f) (a0a (h_un a1l (hv 1)) a0e)))) a1a.nd) (a0g (a0y (i:=3) (a2N (a0a (hv 1) a0e)) a1a.nd))) (a0c (a0y (i:=2) (a2N (a0a (a0z a0u (hv 1) a0f) a0e)) a1a.nd) (a0g (a0y (i:=3) (a2N (a0a (h_un a1l (a0z a0u (hv 1) a0f)) (a0a (hv 1) (a0a (a0z a0u (hv 1) a0f) a0e)))) a1a.nd)))) (a0g (a0l (c7U (a8u (hv 1) (hv 2) (a8u (a0z a0u (hv 1) a0f) (hv 3) (a8u (h_un a1l (hv 1)) (a0h D_44 hr (a0a (hv 2) a0e)) (a8u (h_un a1l (a0z a0u (hv 1) a0f)) (a0h D_44 hr (a0a (hv 3) a0e)) c4D)))))))))) fun ts M Q h=>?_;unfold a2o at h;split at h
 ·rename_i l;obtain⟨h0,h1,h⟩:=h;walk_at "rd";refine ite2 (fun hl=>?_) (fun hl=>?_)
  ·walk_at "rd";have eA:mkA l=[(l.natAbs:Int),(l.natAbs:Int)+1,-(l.natAbs:Int)]:=if_pos hl;have eB:mkB l=[(l.natAbs:Int)]:=if_pos hl;refine⟨by decide,by decide,fun p hp=>⟨mkA l,by rw[eA];rfl,by rw[eA];exact(by decide:(3:Nat)<10000),mkB l,by rw[eB];rfl,by rw[eB];exact(by decide:(1:Nat)<10000),a0d,mkKv l,rfl,?_,b0D l h0,?_⟩⟩
   ·unfold mkKv;rw[eA,eB];rfl
   ·rw[a4K];exact a0i (h p hp)
  ·walk_at "rd";have eA:mkA l=[(l.natAbs:Int)+1]:=if_neg hl;have eB:mkB l=[-((l.natAbs:Int)+1),(l.natAbs:Int),(l.natAbs:Int)+1]:=if_neg hl;refine⟨by decide,by decide,fun p hp=>⟨mkA l,by rw[eA];rfl,by rw[eA];exact(by decide:(1:Nat)<10000),mkB l,by rw[eB];rfl,by rw[eB];exact(by decide:(3:Nat)<10000),a0d,mkKv l,rfl,?_,b0D l h0,?_⟩⟩
   ·unfold mkKv;rw[eA,eB];rfl
   ·rw[a4K];exact a0i (h p hp)
 ·exact h.elim
noncomputable def a3c:Sp3:=fun ts M Q=>match ts with
 |[.tup w,.int j]=>∃ws:LSI,w=ws.map .int/\ws.length<=16/\(∀l∈ws,l≠0/\l.natAbs<1000)/\Q (.tup ((imgL ws j).map .int)) M
 |_=>False
noncomputable abbrev a5R:=DfD "made_by_word" ["word","j"] a3c
theorem a8T(Z:Zs K mg)(D_4:a4H P w K mg base n)(D_7:a3i P w K mg base n)(F:FD K mg "made_by_word" a3G ["word","j"]):a5R P w K mg base (n+1):=by
 refine F.dfn a1b (by unfold a3c;walk_at "ln") (fun hr=>(a0c (a0y (i:=2) (a2N (a0a (hv 1) a0e)) a1b.nd) (a0c (a7A c9i rfl (a1N (hv 0)) (a2y (i:=3) a1b.nd) (a0c (a0y (i:=4) (a0h D_4 hr (a0a (hv 3) a0e)) a1b.nd) (a0c (a0y (i:=5) (a3h a0e) a1b.nd) (a0c (a7A c9i rfl (a1N (hv 2)) (a2y (i:=6) a1b.nd) (a0g (a2x (b7A (hv 5) (a0a (b6n hr.units (hv 4) (hv 6) (a2N (a0a (hv 6) a0e))) a0e))))) (a0g (a0y (i:=2) (a0h D_7 hr (a0a (hv 5) a0e)) a1b.nd)))))) (a0g (a0l (hv 2)))))) fun ts M Q h=>?_;unfold a3c at h;split at h
 ·rename_i w j;obtain⟨ws,rfl,hl,hz,h⟩:=h;have nz:NZ ws:=fun l hl=>(hz l hl).1;walk_at "rd";refine⟨by decide,fun i ρ M'=>∃a b c d,ρ=[some (T.tup (ws.map T.int)),some (T.int j),some (T.tup ((actW (ws.take i) [j]).map T.int)),a,b,c,d]/\Sub M M',⟨_,_,_,_,rfl,Sub.refl⟩,fun _ _ _ _=>trivial,?_,?_⟩
  ·rintro i x ρ M' hx ⟨a,b,c,d,rfl,hS⟩;obtain⟨l,hl',rfl⟩:=b6m hx;obtain⟨z1,z2⟩:=hz l (c8s hl');have hi:=(c8k.mp hl').1;have nzt:NZ (ws.take i):=fun y hy=>nz y (d0A hy);have sz:=a7l.act (ws.take i) nzt 0 [j] (a7l.one j);rw[c9b,d1y (by lia),d3r] at sz;have sz2:=sz.flat z1;have e:=c0K hl' [j]
   generalize actW (ws.take i) [j]=u at sz sz2 e|-
   have b1:u.length<=1607521:=c8C sz.1 (b8Y (by lia));have b2:(u.flatMap (mkL l)).length<=1607521:=c8C sz2.1 (b8Y (by lia));walk_at "rd";refine⟨z1,z2,fun pd hpd p hp=>?_⟩;have hSd:=hS.newr (o:=.dk (mkKv l)) hpd;have hdp:p≠pd:=fun z=>by rw[z,a0d] at hp;cases hp
   have hS1:=hSd.newr (o:=.lst []) hp;have hd1:updM (updM M' pd (.dk (mkKv l))) p (.lst []) pd=some (.dk (mkKv l)):=by rw[a0k hdp.symm,a0d]
   have hp1:updM (updM M' pd (.dk (mkKv l))) p (.lst []) p=some (.lst []):=a0d;have hpM:M p=none:=none_of hSd hp
   generalize updM (updM M' pd (.dk (mkKv l))) p (.lst [])=M1' at hS1 hd1 hp1|-
   refine⟨fun k ρ2 M2=>∃y,ρ2=[some (T.tup (ws.map T.int)),some (T.int j),some (T.tup (u.map T.int)),some (T.int l),some (T.adr pd),some (T.adr p),y]/\M2 p=some (.lst (((u.take k).flatMap (mkL l)).map T.int))/\Sub M M2/\M2 pd=some (.dk (mkKv l)),
    ⟨_,rfl,hp1,hS1,hd1⟩,fun _ _ _ _=>trivial,?_,?_⟩
   ·rintro k x ρ2 M2 hx2 ⟨y,rfl,hM2,hS2,hd2⟩;obtain⟨v,hv,rfl⟩:=b6m hx2;have fs:=c0l (g:=mkL l) hv
    have bb:((u.take k).flatMap (mkL l)).length+(mkL l v).length<=1607521:=by
     rw[<- c8p,<- fs];have hq:u=u.take (k+1)++u.drop (k+1):=(d1J ..).symm;rw[hq,c9Q,c8p] at b2;lia
    walk_at "rd";have mg:=c6x l v;simp only[c8g,c9g] at mg;simp only[hd2,hM2];refine⟨trivial,trivial,by decide,.inl v,rfl,?_⟩;rw[mg];dsimp only;rw[hM2];dsimp only;refine⟨by simp only[c8a];exact b9w (by lia),_,rfl,by rw[a0d,fs,c8v],hS2.updF hpM,by rw[a0k hdp.symm];exact hd2⟩
   ·rintro ρ2 M2 ⟨y,rfl,hM2,hS2,hd2⟩;rw[c8a,c8y] at hM2;walk_at "rd";refine⟨_,hM2,by lia,?_⟩;rw[<- e];exact⟨_,_,_,_,rfl,hS2⟩
  ·rintro ρ M' ⟨a,b,c,d,rfl,hS⟩;rw[c8a,c8y,c2I nz];walk_at "rd";exact a0s h hS
 ·exact h.elim
noncomputable def a8F:Sp3X:=fun ts M Q E=>match ts with
 |[.tup [.int n,.tup w],.tup [.int m,.tup v]]=>∃ws vs:LSI,w=ws.map .int/\v=vs.map .int/\PlOK n ws/\PlOK m vs/\(n≠m->E "NoStep" M)/\(n=m->Q (a4L n ws vs) M)
 |_=>False
noncomputable abbrev b2p:=DfY "unlike" ["one","other"] a8F
theorem b9h(Z:Zs K mg)(D_13:a4z P w K mg base n)(D_11:a5R P w K mg base n)(F:FD K mg "unlike" b1q ["one","other"]):b2p P w K mg base (n+1):=by
 refine F.dfnX a6F (by unfold a8F;walk_at "lnx") (fun f cdv A outer s H E E3 hr acc accN=>(a0Z (c3F (a6r acc rfl D_13 hr (a0a (hv 0) (a0a (hv 1) a0e)))) (a0Z (HS.x (HS.n (a7A c9i rfl (c2f Z.b_range (a0a a0f (a0a (a0z a0u (h_ix (hv 0) a0f) a0f) a0e))) (a2y (i:=2) a6F.nd) (a0c (a0y (i:=3) (a0h D_11 hr (a0a (h_ix (hv 0) a0f) (a0a (hv 2) a0e))) a6F.nd) (a0c (a0y (i:=4) (a0h D_11 hr (a0a (h_ix (hv 1) a0f) (a0a (hv 2) a0e))) a6F.nd) (a0g (s_if (a0o (b0y hr.units) (hv 3) (hv 4) (a0n _)) (a0g (a0l (a2N (a0a (hv 2) (a0a (hv 3) (a0a (hv 4) a0e)))))) a0w))))))) (a2E (HS.x (HS.n (a0l c4F))))))) fun ts M Q E h=>?_;unfold a8F at h;split at h
 ·rename_i n w m v;obtain⟨ws,vs,rfl,rfl,ok1,ok2,h2,h3⟩:=h;walk_at "rd";refine⟨ws,vs,rfl,rfl,ok1,ok2,fun c3=>⟨M,Sub.refl,h2 c3⟩,fun e=>?_⟩;have h:=h3 e;subst e;obtain⟨o1,o2,o3,o4⟩:=id ok1;walk_at "rd"
  refine⟨⟨by decide,by decide,by lia,by lia⟩,fun i ρ M'=>∃a b c,ρ=[some (T.tup [T.int n,T.tup (ws.map T.int)]),some (T.tup [T.int n,T.tup (vs.map T.int)]),a,b,c]/\Sub M M'/\∀k∈(((c8I n.toNat).map fun i=>((i:Nat):Int)+1)).take i,imgL ws k=imgL vs k,
   ⟨_,_,_,rfl,Sub.refl,by intro k hk;simp at hk⟩,fun _ _ _ _=>trivial,?_,?_⟩
  ·rintro i x ρ M' hx ⟨a,b,c,rfl,hS,hk⟩;obtain⟨hi,rfl⟩:=a3a hx;walk_at "rd";refine⟨ws,rfl,o3,plNZ ok1,?_⟩;walk_at "rd";refine⟨vs,rfl,ok2.2.2.1,plNZ ok2,?_⟩;walk_at "rd";have hi':i<n.toNat:=by lia
   have eg:(((c8I n.toNat).map fun i=>((i:Nat):Int)+1))[i]?=some (((i:Nat):Int)+1):=by
    rw[c8i,c9r hi'];rfl
   rw[show(1:Int)+(i:Nat)=(i:Nat)+1 by lia];refine⟨by decide,ite2 (fun hc=>⟨by decide,?_⟩) (fun hc=>⟨_,_,_,rfl,hS,fun k hk'=>?_⟩)⟩
   ·unfold a4L a4M at h;rw[a4N eg hk hc] at h;exact a0s h hS
   ·rw[c8Y,eg] at hk';rcases c8U.mp hk' with z|z
    ·exact hk k z
    ·have:k=(i:Nat)+1:=by simpa using z
     rw[this];exact d2L.mp hc
  ·rintro ρ M' ⟨a,b,c,rfl,hS,hk⟩;walk_at "rd";have e:(a0L 1 (n+1-1).toNat).length=((c8I n.toNat).map fun i=>((i:Nat):Int)+1).length:=by rw[a1f,c8a,c9u];congr 1;lia
   rw[e,c8y] at hk;unfold a4L a4M at h;rw[a4O hk] at h;exact a0s h hS
 ·exact h.elim
noncomputable def b1h:Sp3:=fun ts M Q=>match ts with
 |[.tup [.int n,.tup w]]=>∃ws:LSI,w=ws.map .int/\PlOK n ws/\Q (.str (wrS n ws)) M
 |_=>False
noncomputable abbrev b2r:=DfD "shown" ["plait"] b1h
theorem c1Q(Z:Zs K mg)(D_56:a2u P w K mg base n)(F:FD K mg "shown" b1s ["plait"]):b2r P w K mg base (n+1):=by
 refine F.dfn b5F (by unfold b1h;walk_at "ln") (fun hr=>(a0c (a2x (a0h D_56 hr (a0a (hv 0) a0e))) (a0c (a0y (i:=1) (h_ix (hv 0) a0f) b5F.nd) (a0g (a0l (a0z a0u (b9Y (b0I (h_fv (hv 1)) (b0I a0t c4y))) (a2h a0t (a0a (a1k rfl (a1N (h_ix (hv 0) a0f)) (bkS (a0b b1s) ["plait","strands"] ["letter"] [none]) (a0N (i:=0)) (by walk_at "g") (fun _ _ _ _ _=>a1j) (fun _ _ _ _ _=>(b9Y (b0I a0t (b0I (h_fv (hv 0)) c4y))))) a0e)))))))) fun ts M Q h=>?_;unfold b1h at h;split at h
 ·rename_i n w;obtain⟨ws,rfl,ok,h⟩:=h;have hn1:=ok.1;have hn6:=ok.2.1;have hl:=ok.2.2.1;have hw:=a5D ok;walk_at "rd";refine⟨ws,rfl,ok,?_⟩;walk_at "rd";have hs:=b7T n ws (c8c "") (by decide +kernel);have hsl:=b4s hn1 hn6 hw;have hh:=a8v hn1 hn6;have hsn:=(sI n (by lia) hn6).2.1;simp only[b3X];refine⟨a8p (by lia),a0E (by lia),a0E (by lia),a0E (by lia),fun i ys M'=>ys=((ws.take i).map (fun l=>c8c " "++a0p l)).map T.str/\M'=M,⟨rfl,rfl⟩,fun _ _ _ _=>trivial,a0H (by lia),?_,?_⟩
  ·rintro i x ys M' hx ⟨rfl,rfl⟩;obtain⟨l,hl',rfl⟩:=a0r hx;obtain⟨l0,l1⟩:=hw l (c8s hl');obtain⟨_,l2,_⟩:=sI l l0 l1;have e:(c8c " ").length=1:=by decide +kernel
   have el:(c8c " "++a0p l).length<=4:=by rw[a6q,e];lia
   dsimp only;exact⟨a0E (by lia),a8p (by lia),a0E (by lia),a0E (by lia),a4P (fun l=>c8c " "++a0p l) hl',rfl⟩
  ·rintro ys M' ⟨rfl,rfl⟩ r hr;rw[c8y,a1w];dsimp only;rw[<- a6q,hs];refine⟨a7Z (by decide +kernel) (fun y hy=>?_) (by rw[c8a];lia),a0E (by lia),a0s h (Sub.new hr)⟩;obtain⟨l,hl',rfl⟩:=c8q.mp hy;obtain⟨l0,l1⟩:=hw l hl';obtain⟨_,l2,_⟩:=sI l l0 l1;have e:(c8c " ").length=1:=by decide +kernel
   rw[a6q,e];lia
 ·exact h.elim
noncomputable def a4U:Sp3:=fun ts M Q=>match ts with
 |[.str x]=>∃i:Int,x=a0p i/\-6<=i/\i<=6/\Q (.int i) M
 |_=>False
noncomputable abbrev a9s:=DfD "number_in" ["figures"] a4U
theorem b3n(Z:Zs K mg)(F:FD K mg "number_in" a6e ["figures"]):a9s P w K mg base (n+1):=by
 refine F.dfn a7Y (by unfold a4U;walk_at "ln") (fun hr=>(a0c (c2T (a0g (a0y (i:=1) (a0Q a9J Z.b_int d1M (a0a (hv 0) a0e)) a7Y.nd))) (a0c (s_if (a0o (b0y hr.units) (a0Q a2B Z.b_str c9q (a0a (hv 1) a0e)) (hv 0) (a0n _)) (a0g b1t) a0w) (a0g (a0l (hv 1)))))) fun ts M Q h=>?_;unfold a4U at h;split at h
 ·rename_i x;obtain⟨i,rfl,h0,h1,h⟩:=h;obtain⟨_,hl,hi⟩:=sI i h0 h1;walk_at "rd";refine⟨i,hi,by lia,?_⟩;walk_at "rd";have e:eqT (T.str (a0p i)) (T.str (a0p i))=true:=by show(a0p i==a0p i)=true;simp
  rw[e];refine⟨c8D (by lia:i.natAbs<=6) (by decide),rfl,rfl,c9j _,?_⟩;rw[if_neg (by decide)];exact a0i h
 ·exact h.elim
noncomputable def b4A:Sp3:=fun ts M Q=>match ts with
 |[.str x]=>∃n ws,x=wrS n ws/\PlOK n ws/\Q (.tup [.int n,.tup (ws.map .int)]) M
 |_=>False
noncomputable abbrev c3i:=DfD "read" ["text"] b4A
theorem c4r(Z:Zs K mg)(D_35:a9s P w K mg base n)(D_43:a7S P w K mg base n)(F:FD K mg "read" b5H ["text"]):c3i P w K mg base (n+1):=by
 refine F.dfn b1n (by unfold b4A;walk_at "ln") (fun hr=>(a0c (a0y (i:=1) (a9j (hv 0) (a0a a0t a0e)) b1n.nd) (a0c (s_if (a6W (a1z (b3O (h_ix (hv 1) a0f) (a0a a0t a0e)))) (a0g b1t) a0w) (a0c (a0y (i:=2) (a0h D_35 hr (a0a (a1s (h_ix (hv 1) a0f) a2n (a2m (h_un a1l a0f))) a0e)) b1n.nd) (a0c (a0y (i:=3) (a2N (a0a (hv 2) (a0a (a0Q a1c Z.b_tuple c8W (a0a (a1k rfl (a1N (a1s (hv 1) (a2m a0f) a2n)) (bkS (a0b b5H) ["text","parts","strands","plait"] ["part"] [none]) (a0N (i:=0)) (by walk_at "g") (fun _ _ _ _ _=>a1j) (fun _ _ _ _ _=>(a0h D_35 hr (a0a (hv 0) a0e)))) a0e)) a0e))) b1n.nd) (a0c (s_if (a6W (a1z (a0h D_43 hr (a0a (hv 3) a0e)))) (a0g b1t) a0w) (a0g (a0l (hv 3))))))))) fun ts M Q h=>?_;unfold b4A at h;split at h
 ·rename_i x;obtain⟨n,ws,rfl,ok,h⟩:=h;have hn1:=ok.1;have hn6:=ok.2.1;have hl:=ok.2.2.1;have hw:=a5D ok;have hlen:=b4s hn1 hn6 hw;walk_at "rd";refine⟨by decide +kernel,a0E (by lia),a8Q _ (by lia),fun r hr=>?_⟩;rw[show d1k (wrS n ws) (c8c " ")=(a0p n++c8c ":")::ws.map a0p from b2C hn1 hn6 hw];have hS0:Sub M (updM M r (.lst (((a0p n++c8c ":")::ws.map a0p).map T.str))):=Sub.new hr;have hM0:updM M r (.lst (((a0p n++c8c ":")::ws.map a0p).map T.str)) r=some (.lst (((a0p n++c8c ":")::ws.map a0p).map T.str)):=a0d
  generalize updM M r (.lst (((a0p n++c8c ":")::ws.map a0p).map T.str))=M0 at hS0 hM0|-
  obtain⟨e1,e2,_⟩:=c3H n hn1 hn6;have hh:=a8v hn1 hn6;rw[c8g] at hM0
  try simp only[c8g,a1u,true_and]
  try simp only[hM0,c8g,a1u,true_and,e1]
  walk_at "rd";rw[if_neg (by decide),e2];refine⟨a0E (by lia),n,rfl,by lia,by lia,?_⟩;simp only[hM0];intro r1 hr1
  have ec:cutT (T.str (a0p n++c8c ":")::c8N T.str (c8N a0p ws)) (some 1) none=c8N T.str (c8N a0p ws):=by
   rw[b4e _ _ (by decide) (by rw[c8e];lia)];rfl
  rw[ec];have hS1:=hS0.newr (o:=.lst (c8N T.str (c8N a0p ws))) hr1;have hM1:updM M0 r1 (.lst (c8N T.str (c8N a0p ws))) r1=some (.lst (c8N T.str (c8N a0p ws))):=a0d
  generalize updM M0 r1 (.lst (c8N T.str (c8N a0p ws)))=M1 at hS1 hM1|-
  refine⟨fun i ys M'=>ys=(ws.take i).map T.int/\M'=M1,⟨rfl,rfl⟩,?_,a0H (by rw[c8a,c8a];lia),?_,?_⟩
  ·rintro i ys M' ⟨_,rfl⟩;exact hM1
  ·rintro i x ys M' hx ⟨rfl,rfl⟩;obtain⟨y,hy,rfl⟩:=a0r hx;obtain⟨l,hl',rfl⟩:=a0r hy;obtain⟨l0,l1⟩:=hw l (c8s hl');refine⟨l,rfl,l0,l1,?_,rfl⟩;rw[<- a0F T.int hl']
  ·rintro ys M' ⟨rfl,rfl⟩ p hp;rw[c8a,c8a,c8y];refine⟨by decide,ws,rfl,by lia,?_⟩;rw[ok.is];walk_at "rd";rw[if_neg (by decide)];exact a0s h (hS1.newr hp)
 ·exact h.elim
noncomputable def a1S:Sp3:=fun ts M Q=>match ts with
 |[.adr d]=>∃m:Po,M d=some (.dk (dkI m))/\(m.map c8J).Nodup/\m.length<64/\Q (poT (norm m)) M
 |_=>False
noncomputable abbrev a2q:=DfD "without_noughts" ["counts"] a1S
theorem a6O(Z:Zs K mg)(F:FD K mg "without_noughts" a1E ["counts"]):a2q P w K mg base (n+1):=by
 refine F.dfn a6E (by unfold a1S;walk_at "ln") (fun hr=>(a0g (a0l (a0Q a1c Z.b_tuple c8W (a0a (a1k rfl (a1N (a0M (b2z rfl) Z.b_sorted d1t (a0a (hv 0) a0e))) (bkS (a0b a1E) ["counts"] ["power","counts"] [none,some 0]) (a0N (i:=0)) (by walk_at "g") (fun _ _ _ _ _=>b8d (a0o (b0y hr.units) (c2k hr.units (hv 1) (hv 0)) a0f (a0n _))) (fun _ _ _ _ _=>(a2N (a0a (hv 0) (a0a (c2k hr.units (hv 1) (hv 0)) a0e))))) a0e))))) fun ts M Q h=>?_;unfold a1S at h;split at h
 ·rename_i d;obtain⟨m,hd,hnd,h64,h⟩:=h;walk_at "rd";rw[hd];dsimp only;refine⟨m.map c8J,a6Y m,by rw[c8a];exact h64,fun ms hp hs r hr=>?_⟩;have hS:=Sub.new hr (o:=MO.lst (ms.map T.int));have hM1:(updM M r (MO.lst (ms.map T.int))) r=some (.lst (ms.map T.int)):=a0d;have hd1:=hS _ _ hd
  generalize updM M r (MO.lst (ms.map T.int))=M1 at hS hM1 hd1|-
  have hml:ms.length<64:=by rw[hp.length_eq,c8a];exact h64
  refine⟨fun i ys M'=>ys=((((ms.take i).filter fun k=>decide (co m k≠0)).map fun k=>(k,co m k)).map prT)/\M'=M1,⟨rfl,rfl⟩,?_,a0H (by lia),?_,?_⟩
  ·rintro i ys M' ⟨_,rfl⟩;exact hM1
  ·rintro i x ys M' hx ⟨rfl,rfl⟩;obtain⟨k,hx2,rfl⟩:=a0r hx;have hk:k∈m.map c8J:=hp.mem_iff.mp (c8s hx2);have hv:=a7V hnd hk;rw[hd1];dsimp only;refine⟨.inl k,_,rfl,hv,rfl,by rw[a7a];decide,?_⟩;have ht:ms.take (i+1)=ms.take i++[k]:=by rw[c8Y,hx2];rfl
   rw[b2h,ht,d1A];by_cases c:co m k=0
   ·rw[decide_eq_true c,if_neg (by decide)];refine⟨?_,rfl⟩;rw[d0L,if_neg (by simpa using c),d3t,c8R]
   ·rw[decide_eq_false c,if_pos rfl];refine⟨.inl k,_,rfl,hv,by decide,?_,rfl⟩;rw[d0L,if_pos (by simpa using c),d3t,c8v,c8v];rfl
  ·rintro ys M' ⟨rfl,rfl⟩ q hq;rw[c8y,b4X hnd hp hs];exact a0s h (hS.newr hq)
 ·exact h.elim
theorem a5F{m:Po}{L:LSI}(hn:(m.map c8J).Nodup)(hs:∀x∈m,x.1∈L):m.length<=L.length:=by
 have h1:(m.map c8J).length<=L.length:=d0g hn fun k hk=>by
  obtain⟨x,hx,rfl⟩:=c8q.mp hk;exact hs x hx
 rwa [c8a] at h1
theorem b5E{k v:Int}{m:Po}{L:LSI}(hk:k∈L)(hs:∀x∈m,x.1∈L):∀x∈setP k v m,x.1∈L:=fun x hx=>by
 have h1:x.1∈(setP k v m).map c8J:=c8q.mpr ⟨x,hx,rfl⟩;rw[a8J] at h1;split at h1
 ·obtain⟨y,hy,e⟩:=c8q.mp h1;rw[<- e];exact hs y hy
 ·rcases c8U.mp h1 with z|z
  ·obtain⟨y,hy,e⟩:=c8q.mp z;rw[<- e];exact hs y hy
  ·rw[c8A.mp z];exact hk
theorem b6a{p q:Po}(h:∀k,co p k=co q k):norm p=norm q:=b2y (a1O p) (a1O q) fun k=>by rw[a9G,a9G,h]
noncomputable def a6B:Sp3:=fun ts M Q=>match ts with
 |[.tup a,.tup b]=>∃(p q:Po) (L:LSI),a=p.map prT/\b=q.map prT/\CanP p/\L.length<64/\(∀x∈p,x.1∈L)/\(∀x∈q,x.1∈L)/\q.length<=5000/\Q (poT (addP p q)) M
 |_=>False
noncomputable abbrev b2t:=DfD "added" ["one","other"] a6B
theorem c1R(Z:Zs K mg)(D_1:a2q P w K mg base n)(F:FD K mg "added" b4H ["one","other"]):b2t P w K mg base (n+1):=by
 refine F.dfn a8q (by unfold a6B;walk_at "ln") (fun hr=>(a0c (a0y (i:=2) (a0Q (a6w rfl) Z.b_dict d0r (a0a (hv 0) a0e)) a8q.nd) (a0c (a7A c9i rfl (a1N (hv 1)) (c2t (n:=2) rfl (a5m (a2y (i:=3) a8q.nd) (a5m (a2y (i:=4) a8q.nd) b6o))) (a0g (b6W hr.units (a0z a0u (b6n hr.units (hv 2) (hv 3) a0f) (hv 4)) (hv 2) (hv 3)))) (a0g (a0l (a0h D_1 hr (a0a (hv 2) a0e))))))) fun ts M Q h=>?_;unfold a6B at h;split at h
 ·rename_i a b;obtain⟨p,q,L,rfl,rfl,hp,hL,hpL,hqL,hql,h⟩:=h;have hnd0:(p.map c8J).Nodup:=c9n.mpr (hp.1.imp fun h z=>d1K h z);refine a0j fun K1 hK1=>?_;walk_at "rd";refine⟨dkI p,(b2k p).symm,by rw[a6Y];exact c9n.mpr (hnd0.imp fun h z=>h (d1o z)),fun d hd=>?_⟩;have hMd:(updM M d (MO.dk (dkI p))) d=some (.dk (dkI p)):=a0d;have hS:=Sub.new hd (o:=MO.dk (dkI p))
  generalize updM M d (MO.dk (dkI p))=M1 at hMd hS|-
  rw[hK1];clear hK1;refine a0j fun K2 hK2=>?_;refine a5o fun B hB=>?_;unfold a8e;walk_at "rd";refine⟨fun i ρ M'=>(∃(x3 x4:Option T),ρ=[some (T.tup (p.map prT)),some (T.tup (q.map prT)),some (T.adr d),x3,x4])/\(∃m:Po,M' d=some (.dk (dkI m))/\(m.map c8J).Nodup/\(∀x∈m,x.1∈L)/\∀k,co m k=co (p++q.take i) k)/\Sub M M',⟨⟨_,_,rfl⟩,⟨p,hMd,hnd0,hpL,fun k=>by rw[d5w,c8R]⟩,hS⟩,fun _ _ _ _=>trivial,?_,?_⟩
  ·rintro i x ρ M' hx ⟨⟨x3,x4,rfl⟩,⟨m,hm,hnd,hmL,hco⟩,hS1⟩
   obtain⟨⟨y1,y2⟩,hx2,rfl⟩:∃y,q[i]?=some y/\prT y=x:=by
    rw[c8i] at hx;exact c8L.mp hx
   have hyL:=hqL _ (c8s hx2);unfold prT;dsimp only;rw[hB];clear hB;walk_at "rd";rw[hm];refine⟨trivial,?_⟩;dsimp only;refine⟨.inl y1,rfl,?_⟩;rw[a6x y1 hnd];dsimp only;have hml:=a5F hnd hmL;refine⟨.inl y1,rfl,a0H (by rw[c0v];lia),⟨_,_,rfl⟩,⟨setP y1 (co m y1+y2) m,by rw[b1D hnd],b0z hnd,b5E hyL hmL,fun k=>?_⟩,hS1.updF hd⟩;have ht:q.take (i+1)=q.take i++[(y1,y2)]:=by rw[c8Y,hx2];rfl
   rw[b5r y1 _ hnd,ht,<- c9t,a9H,<- hco]
   show _=co m k+((if y1=k then y2 else 0)+0)
   by_cases e:k=y1
   ·rw[if_pos e,if_pos e.symm,e];lia
   ·rw[if_neg e,if_neg (fun z=>e z.symm)];lia
  ·rintro ρ M' ⟨⟨x3,x4,rfl⟩,⟨m,hm,hnd,hmL,hco⟩,hS1⟩
   try rw[c8a] at hco
   rw[c8y] at hco;rw[hK2];clear hK2;walk_at "rd";refine⟨m,hm,hnd,c8D (a5F hnd hmL) hL,?_⟩;rw[b6a hco];exact a0s h hS1
 ·exact h.elim
noncomputable def a1T:Sp3:=fun ts M Q=>match ts with
 |[.tup a,.tup b]=>∃(p q:Po) (L:LSI),a=p.map prT/\b=q.map prT/\L.length<64/\(∀x∈p,∀y∈q,x.1+y.1∈L)/\(∀x∈p,∀y∈q,x.2.natAbs<2^64\/y.2.natAbs<2^64)/\p.length<=5000/\q.length<=5000/\Q (poT (a2V p q)) M
 |_=>False
theorem c1q{p q:Po}{i:Nat}{x:Int×Int}(h:p[i]?=some x)(k:Int):co (rawM (p.take (i+1)) q) k=co (rawM (p.take i) q) k+co (q.map fun b=>(x.1+b.1,x.2*b.2)) k:=by
 rw[c8Y,h];unfold rawM;rw[c9Q,a9H];show _+co ([x].flatMap fun a=>q.map fun b=>(a.1+b.1,a.2*b.2)) k=_;rw[c8V,d0i,c8R]
noncomputable abbrev a2z:=DfD "multiplied" ["one","other"] a1T
theorem b1J(Z:Zs K mg)(D_1:a2q P w K mg base n)(F:FD K mg "multiplied" a5f ["one","other"]):a2z P w K mg base (n+1):=by
 refine F.dfn a1m (by unfold a1T;walk_at "ln") (fun hr=>(a0c (a0y (i:=2) b0M a1m.nd) (a0c (a7A c9i rfl (a1N (hv 0)) (c2t (n:=2) rfl (a5m (a2y (i:=3) a1m.nd) (a5m (a2y (i:=4) a1m.nd) b6o))) (a0g (a7A c9i rfl (a1N (hv 1)) (c2t (n:=2) rfl (a5m (a2y (i:=5) a1m.nd) (a5m (a2y (i:=6) a1m.nd) b6o))) (a0c (a0y (i:=7) (a0z a0u (hv 3) (hv 5)) a1m.nd) (a0g (b6W hr.units (a0z a0u (b6n hr.units (hv 2) (hv 7) a0f) (a0z a6n (hv 4) (hv 6))) (hv 2) (hv 7))))))) (a0g (a0l (a0h D_1 hr (a0a (hv 2) a0e))))))) fun ts M Q h=>?_;unfold a1T at h;split at h
 ·rename_i a b;obtain⟨p,q,L,rfl,rfl,hL,hpq,hsz,hpl,hql,h⟩:=h;refine a0j fun K1 hK1=>?_;walk_at "rd";intro d hd;have hMd:(updM M d (MO.dk [])) d=some (.dk (dkI [])):=a0d;have hS:=Sub.new hd (o:=MO.dk [])
  generalize updM M d (MO.dk [])=M1 at hMd hS|-
  rw[hK1];clear hK1;refine a0j fun K2 hK2=>?_;refine a5o fun B hB=>?_;unfold a8e;walk_at "rd";refine⟨fun i ρ M'=>(∃(x3 x4 x5 x6 x7:Option T),ρ=[some (T.tup (p.map prT)),some (T.tup (q.map prT)),some (T.adr d),x3,x4,x5,x6,x7])/\(∃m:Po,M' d=some (.dk (dkI m))/\(m.map c8J).Nodup/\(∀x∈m,x.1∈L)/\∀k,co m k=co (rawM (p.take i) q) k)/\Sub M M',⟨⟨_,_,_,_,_,rfl⟩,⟨[],hMd,.nil,fun _ z=>absurd z c8M,fun k=>rfl⟩,hS⟩,fun _ _ _ _=>trivial,?_,?_⟩
  ·rintro i x ρ M' hx ⟨⟨x3,x4,x5,x6,x7,rfl⟩,⟨m,hm,hnd,hmL,hco⟩,hS1⟩
   obtain⟨⟨y1,y2⟩,hx2,rfl⟩:∃y,p[i]?=some y/\prT y=x:=by
    rw[c8i] at hx;exact c8L.mp hx
   have hyp:=c8s hx2;rw[show prT (y1,y2)=T.tup [T.int y1,T.int y2] from rfl];dsimp only;refine⟨rfl,rfl,?_⟩;rw[hB];clear hB;refine a5o fun B2 hB2=>?_;unfold a8e;walk_at "rd";refine⟨fun j ρ M2=>(∃(x5 x6 x7:Option T),ρ=[some (T.tup (p.map prT)),some (T.tup (q.map prT)),some (T.adr d),some (T.int y1),some (T.int y2),x5,x6,x7])/\(∃m2:Po,M2 d=some (.dk (dkI m2))/\(m2.map c8J).Nodup/\(∀x∈m2,x.1∈L)/\∀k,co m2 k=co m k+co ((q.take j).map fun b=>(y1+b.1,y2*b.2)) k)/\Sub M M2,⟨⟨_,_,_,rfl⟩,⟨m,hm,hnd,hmL,fun k=>by show _=co m k+0;rw[d4O]⟩,hS1⟩,fun _ _ _ _=>trivial,?_,?_⟩
   ·rintro j z ρ M2 hz ⟨⟨x5,x6,x7,rfl⟩,⟨m2,hm2,hnd2,hmL2,hco2⟩,hS2⟩
    obtain⟨⟨z1,z2⟩,hz2,rfl⟩:∃y,q[j]?=some y/\prT y=z:=by
     rw[c8i] at hz;exact c8L.mp hz
    have hzL:=hpq _ hyp _ (c8s hz2)
    have hy2:CMul y2 z2:=by
     rcases hsz _ hyp _ (c8s hz2) with z|z
     ·dsimp only at z;exact .inl ⟨by lia,by lia⟩
     ·dsimp only at z;exact .inr ⟨by lia,by lia⟩
    dsimp only at hzL;rw[show prT (z1,z2)=T.tup [T.int z1,T.int z2] from rfl];dsimp only;refine⟨rfl,rfl,?_⟩;rw[hB2];clear hB2;refine a0j fun K5 hK5=>?_;walk_at "rd";rw[hK5];clear hK5;walk_at "rd";rw[hm2];refine⟨trivial,?_⟩;dsimp only;refine⟨.inl (y1+z1),rfl,hy2,?_⟩;rw[a6x (y1+z1) hnd2];dsimp only;have hml:=a5F hnd2 hmL2;refine⟨.inl (y1+z1),rfl,a0H (by rw[c0v];lia),⟨_,_,_,rfl⟩,⟨setP (y1+z1) (co m2 (y1+z1)+y2*z2) m2,by rw[b1D hnd2],b0z hnd2,b5E hzL hmL2,fun k=>?_⟩,hS2.updF hd⟩;have ht:q.take (j+1)=q.take j++[(z1,z2)]:=by rw[c8Y,hz2];rfl
    rw[b5r (y1+z1) _ hnd2,ht,c8v,a9H,<- Int.add_assoc,<- hco2]
    show _=co m2 k+((if y1+z1=k then y2*z2 else 0)+0)
    by_cases e:k=y1+z1
    ·rw[if_pos e,if_pos e.symm,e];lia
    ·rw[if_neg e,if_neg (fun z=>e z.symm)];lia
   ·rintro ρ M2 ⟨⟨x5,x6,x7,rfl⟩,⟨m2,hm2,hnd2,hmL2,hco2⟩,hS2⟩;refine⟨⟨_,_,_,_,_,rfl⟩,⟨m2,hm2,hnd2,hmL2,fun k=>?_⟩,hS2⟩
    try rw[c8a] at hco2
    rw[c8y] at hco2;rw[hco2 k,hco k,c1q hx2]
  ·rintro ρ M' ⟨⟨x3,x4,x5,x6,x7,rfl⟩,⟨m,hm,hnd,hmL,hco⟩,hS1⟩
   try rw[c8a] at hco
   rw[c8y] at hco;rw[hK2];clear hK2;walk_at "rd";refine⟨m,hm,hnd,c8D (a5F hnd hmL) hL,?_⟩;have e:=b6a hco;rw[e];exact a0s h hS1
 ·exact h.elim
noncomputable def a1C:Sp3:=fun ts M Q=>match ts with
 |[.int r,.int c]=>Q (poT (oneP r c)) M
 |_=>False
noncomputable abbrev a2O:=DfD "one_where_same" ["row","column"] a1C
theorem a7C(Z:Zs K mg)(F:FD K mg "one_where_same" a2K ["row","column"]):a2O P w K mg base (n+1):=by
 obtain⟨tk_ONE,c_ONE⟩:=Z.c_ONE;obtain⟨tk_NOUGHT,c_NOUGHT⟩:=Z.c_NOUGHT;refine F.dfn a7v (by unfold a1C;walk_at "ln") (fun hr=>(a0g (a0l (c2j (a0o (a0T hr.units) (hv 0) (hv 1) (a0n _)) (a2i c_ONE) (a2i c_NOUGHT))))) fun ts M Q h=>?_;unfold a1C at h;split at h
 ·rename_i r c;walk_at "rd";unfold oneP at h;refine ite2 (fun z=>?_) (fun z=>?_)
  ·rw[if_pos z] at h;exact a0i h
  ·rw[if_neg z] at h;exact a0i h
 ·exact h.elim
theorem a8t{a b B C:Nat}{p q:Po}{M:MH}{Q:VK3}(hp:GdP a B p)(hq:GdP b C q)(hab:a+b<=31)(hB:B<2^64)(h:Q (poT (a2V p q)) M):a1T [poT p,poT q] M Q :=
 ⟨p,q,near (a+b),rfl,rfl,by rw[b1R];lia,c1a hp.2.1 hq.2.1,fun x hx y hy=>.inl (c7K hp hB x hx),by have:=hp.1.len hp.2.1;lia,by have:=hq.1.len hq.2.1;lia,h⟩
theorem b6E{a B C:Nat}{p q:Po}{M:MH}{Q:VK3}(hp:GdP a B p)(hq:GdP a C q)(ha:a<=31)(h:Q (poT (addP p q)) M):a6B [poT p,poT q] M Q :=
 ⟨p,q,near a,rfl,rfl,hp.1,by rw[b1R];lia,b5P hp.2.1,b5P hq.2.1,by have:=hq.1.len hq.2.1;lia,h⟩
theorem a6S{lo hi lo' hi' B C:Nat}{p q:Po}{M:MH}{Q:VK3}(hp:GdJ lo hi B p)(hq:GdJ lo' hi' C q)(hab:lo+hi+lo'+hi'<=62)(hB:B<2^64\/C<2^64)(h:Q (poT (a2V p q)) M):a1T [poT p,poT q] M Q :=
 ⟨p,q,b7o (lo+lo') (hi+hi'),rfl,rfl,by rw[a8W];lia,fun x hx y hy=>by
  have h1:=hp.2.1 x hx;have h2:=hq.2.1 y hy
  exact a6T (by lia) (by lia),fun x hx y hy=>by
  have h1:=c8C (b6H hx) hp.2.2;have h2:=c8C (b6H hy) hq.2.2
  lia,by have:=hp.len;lia,by have:=hq.len;lia,h⟩
theorem b4p{lo hi B C:Nat}{p q:Po}{M:MH}{Q:VK3}(hp:GdJ lo hi B p)(hq:GdJ lo hi C q)(hab:lo+hi<=62)(h:Q (poT (addP p q)) M):a6B [poT p,poT q] M Q :=
 ⟨p,q,b7o lo hi,rfl,rfl,hp.1,by rw[a8W];lia,fun x hx=>a6T (hp.2.1 x hx).1 (hp.2.1 x hx).2,fun x hx=>a6T (hq.2.1 x hx).1 (hq.2.1 x hx).2,by have:=hq.len;lia,h⟩
noncomputable def a3x:Sp3:=fun ts M Q=>match ts with
 |[.adr r,.int l]=>∃(ps:List Po) (b B:Nat),M r=some (.lst (ps.map poT))/\1<=l.natAbs/\l.natAbs<ps.length/\ps.length<=6/\(∀p∈ps,GdP b B p)/\b<=29/\B<2^60/\∀(t:Addr) (M':MH),M t=none->Sub M M'->M' t=some (.lst ((wlP ps l).map poT))->Q (.adr t) M'
 |_=>False
noncomputable abbrev a7b:=DfD "with_letter" ["row","letter"] a3x
theorem a9R(Z:Zs K mg)(D_61:b2t P w K mg base n)(D_25:a2z P w K mg base n)(F:FD K mg "with_letter" a4i ["row","letter"]):a7b P w K mg base (n+1):=by
 obtain⟨tk_LESS_UP,c_LESS_UP⟩:=Z.c_LESS_UP;obtain⟨tk_UP,c_UP⟩:=Z.c_UP;obtain⟨tk_DOWN,c_DOWN⟩:=Z.c_DOWN;obtain⟨tk_LESS_DOWN,c_LESS_DOWN⟩:=Z.c_LESS_DOWN;refine F.dfn a1p (by unfold a3x;walk_at "ln") (fun hr=>(a0c (a0y (i:=2) (a0z a1i (a0M a7j Z.b_abs d0Z (a0a (hv 1) a0e)) a0f) a1p.nd) (a0c (a0y (i:=3) (h_ix (hv 0) (hv 2)) a1p.nd) (a0c (a0y (i:=4) (h_ix (hv 0) (a0z a0u (hv 2) a0f)) a1p.nd) (a0c (s_if (a0o a5k (hv 1) a0f (a0n _)) (a0g (a0y (i:=5) (a3h (a0a (a0h D_61 hr (a0a (a0h D_25 hr (a0a (hv 3) (a0a (a2i c_LESS_UP) a0e))) (a0a (hv 4) a0e))) (a0a (a0h D_25 hr (a0a (hv 3) (a0a (a2i c_UP) a0e))) a0e))) a1p.nd)) (a0g (a0y (i:=5) (a3h (a0a (a0h D_25 hr (a0a (hv 4) (a0a (a2i c_DOWN) a0e))) (a0a (a0h D_61 hr (a0a (hv 3) (a0a (a0h D_25 hr (a0a (hv 4) (a0a (a2i c_LESS_DOWN) a0e))) a0e))) a0e))) a1p.nd))) (a0g (a0l (a0z a0u (a0z a0u (a1s (hv 0) a2n (a2m (hv 2))) (hv 5)) (a1s (hv 0) (a2m (a0z a0u (hv 2) a0f)) a2n))))))))) fun ts M Q h=>?_;unfold a3x at h;split at h
 ·rename_i r l;obtain⟨ps,b,B,hr,h1,h2,h6,hg,hb,hB,h⟩:=h;obtain⟨k,hk⟩:∃k:Nat,l.natAbs=k+1:=⟨l.natAbs-1,by lia⟩;have hG0:GdP b B (ps.getD k []):=hg _ (by rw[c8l,c8b (by lia)];exact c9B _);have hG1:GdP b B (ps.getD (k+1) []):=hg _ (by rw[c8l,c8b (by lia)];exact c9B _);have a0:atI (ps.map poT) (k:Int)=some (poT (ps.getD k [])):=a3L (by rw[c8i,c8l,c8b (by lia:k<ps.length)];rfl)
  have a1:atI (ps.map poT) ((k:Int)+1)=some (poT (ps.getD (k+1) [])):=by
   rw[show(k:Int)+1=((k+1:Nat):Int) by lia];exact a3L (by rw[c8i,c8l,c8b (by lia:k+1<ps.length)];rfl)
  refine b1k fun K1 hK1=>?_;walk_at "rd";rw[hk,show((k+1:Nat):Int)-1=(k:Int) by lia,hr];dsimp only;rw[a0];dsimp only;rw[a1];dsimp only
  have key:∀(q1 q2:Po) (v:Addr),M v=none->q1=wl1 l (ps.getD k []) (ps.getD (k+1) [])->q2=wl2 l (ps.getD k []) (ps.getD (k+1) [])->K1 [some (T.adr r),some (T.int l),some (T.int (k:Int)),some (poT (ps.getD k [])),some (poT (ps.getD (k+1) [])),some (T.adr v)] (updM M v (MO.lst [poT q1,poT q2])):=fun q1 q2 v hv e1c e2c=>by
   have hS:=Sub.new hv (o:=MO.lst [poT q1,poT q2]);have hMv:(updM M v (MO.lst [poT q1,poT q2])) v=some (.lst [poT q1,poT q2]):=a0d;have hMr:=hS _ _ hr
   generalize updM M v (MO.lst [poT q1,poT q2])=M1 at hS hMv hMr|-
   rw[hK1];clear hK1;walk_at "rd";rw[hMr];intro c1 hc1;have hS1:=Sub.new hc1 (o:=MO.lst (cutT (ps.map poT) none (some (k:Int))));have h1v:=hS1 _ _ hMv;have h1r:=hS1 _ _ hMr;have hS2:=hS.trans hS1;have h1c:(updM M1 c1 (MO.lst (cutT (ps.map poT) none (some (k:Int))))) c1=some (.lst (cutT (ps.map poT) none (some (k:Int)))):=a0d
   generalize updM M1 c1 (MO.lst (cutT (ps.map poT) none (some (k:Int))))=M2 at h1v h1r hS2 h1c|-
   rw[h1v];dsimp only;have e1:cutT (ps.map poT) none (some (k:Int))=(ps.take k).map poT:=by rw[b6y _ _ (by lia),d4q];rfl
   rw[e1];refine⟨a0E (by rw[c8a,c9b];simp only[c8e,c9L];lia),fun c2 hc2=>?_⟩;have hS3:=hS2.newr hc2 (o:=MO.lst ((ps.take k).map poT++[poT q1,poT q2]));have h2r:=(Sub.new hc2 (o:=MO.lst ((ps.take k).map poT++[poT q1,poT q2]))) _ _ h1r;have h2c:(updM M2 c2 (MO.lst ((ps.take k).map poT++[poT q1,poT q2]))) c2=some (.lst ((ps.take k).map poT++[poT q1,poT q2])):=a0d
   generalize updM M2 c2 (MO.lst ((ps.take k).map poT++[poT q1,poT q2]))=M3 at hS3 h2r h2c|-
   rw[h2r];dsimp only;have e2:cutT (ps.map poT) (some ((k:Int)+2)) none=(ps.drop (k+2)).map poT:=by rw[show(k:Int)+2=((k+2:Nat):Int) by lia,a1e _ _ (by lia),d1B];rfl
   rw[e2];intro c3 hc3;have hS4:=hS3.newr hc3 (o:=MO.lst ((ps.drop (k+2)).map poT));have h3c:=(Sub.new hc3 (o:=MO.lst ((ps.drop (k+2)).map poT))) _ _ h2c
   generalize updM M3 c3 (MO.lst ((ps.drop (k+2)).map poT))=M4 at hS4 h3c|-
   rw[h3c];dsimp only;refine⟨a0E (by rw[c8p,c8a,c8a,c9b,c9s];simp only[c8e,c9L];lia),fun c4 hc4=>?_⟩;refine a0s (h c4 _ (none_of hS4 hc4) (hS4.newr hc4) ?_) Sub.refl;rw[a0d];unfold wlP;rw[hk,d2q,c8v,c8v,<- e1c,<- e2c,<- c9t];rfl
  have hz:0+1+1<=sizeLine:=by decide
  refine ite2 (fun c=>?_) (fun c=>?_)
  ·refine a8t (q:=lupP) hG0 b2b (by lia) (by lia) ?_;refine b6E (hG0.mul b2b) (hG1.mono (by lia) (by lia:B<=B*2)) (by lia) ?_;refine a8t (q:=upP) hG0 c0b (by lia) (by lia) ⟨hz,fun v hv=>key _ _ v hv ?_ ?_⟩
   ·unfold wl1;rw[if_pos c]
   ·unfold wl2;rw[if_pos c]
  ·refine a8t (q:=c2C) hG1 b3S (by lia) (by lia) ?_;refine a8t (q:=b6d) hG1 a7L (by lia) (by lia) ?_;refine b6E (hG0.mono (by lia) (by lia:B<=B*2)) (hG1.mul a7L) (by lia) ⟨hz,fun v hv=>key _ _ v hv ?_ ?_⟩
   ·unfold wl1;rw[if_neg c]
   ·unfold wl2;rw[if_neg c]
 ·exact h.elim
noncomputable def a5V:Sp3:=fun ts M Q=>match ts with
 |[.tup [.int n,.tup w]]=>∃ws:LSI,w=ws.map .int/\PlOK n ws/\∀(r:Addr) (as:List Addr) (M':MH),M r=none->Sub M M'->M' r=some (.lst (as.map T.adr))->a2D M' as (tabP n ws)->FrP M as->as.Nodup->Q (.adr r) M'
 |_=>False
noncomputable abbrev b0R:=DfD "table_of" ["plait"] a5V
theorem b4R(Z:Zs K mg)(D_56:a2u P w K mg base n)(D_5:a2O P w K mg base n)(D_16:a7b P w K mg base n)(F:FD K mg "table_of" a2Y ["plait"]):b0R P w K mg base (n+1):=by
 refine F.dfn a3e (by unfold a5V;walk_at "ln") (fun hr=>(a0c (a2x (a0h D_56 hr (a0a (hv 0) a0e))) (a0c (a0y (i:=1) (b3Q Z.b_list Z.b_range (a0a (h_ix (hv 0) a0f) a0e)) a3e.nd) (a0c (b8D (i:=2) rfl (a1N (hv 1)) (bkS (a0b a2Y) ["plait","places","rows","letter"] ["row","places"] [none,some 1]) a0N (fun _ _ _ _ _=>b4N (i:=0) (show d5G (["row","places"]:LSS) by decide +kernel) rfl (d2F rfl) (d3n rfl)) (fun _ _ _ _ _=>a1j) (fun _ _ _ _ _=>(a1k rfl (a1N (hv 1)) (b7Q (outer:=a0b a2Y) (N:=["row","places"]) (N':=["column","row"]) (ix:=[none,some 0]) (by decide +kernel) rfl rfl) (a0N (i:=0)) (by walk_at "g") (fun _ _ _ _ _=>a1j) (fun _ _ _ _ _=>(a0h D_5 hr (a0a (hv 1) (a0a (hv 0) a0e)))))) a3e.nd) (a0c (a7A c9i rfl (a1N (h_ix (hv 0) a0f)) (a2y (i:=3) a3e.nd) (a0g (b8D (i:=2) rfl (a1N (hv 2)) (bkS (a0b a2Y) ["plait","places","rows","letter"] ["row","letter"] [none,some 3]) (a0N (i:=0)) (by walk_at "g") (fun _ _ _ _ _=>a1j) (fun _ _ _ _ _=>(a0h D_16 hr (a0a (hv 0) (a0a (hv 1) a0e)))) a3e.nd))) (a0g (a0l (hv 2)))))))) fun ts M Q h=>?_;unfold a5V at h;split at h
 ·rename_i n w;obtain⟨ws,rfl,ok,h⟩:=h;walk_at "rd";refine⟨ws,rfl,ok,?_⟩;obtain⟨o1,o2,o3,o4⟩:=id ok;refine⟨⟨by lia,by lia⟩,fun p hp=>?_⟩;have hS0:=Sub.new hp (o:=MO.lst (a0L 0 n.toNat));have hMp:(updM M p (MO.lst (a0L 0 n.toNat))) p=some (.lst ((a0I n).map T.int)):=by rw[a0d,a2U]
  generalize updM M p (MO.lst (a0L 0 n.toNat))=M0 at hS0 hMp|-
  rw[a2U];have hlen:=a0J n;refine⟨fun i ys M'=>(∃as:List Addr,ys=as.map T.adr/\a2D M' as ((idP n).take i)/\FrP M as/\as.Nodup)/\Sub M0 M',⟨⟨[],rfl,a2D.nil,fun _ z=>absurd z c8M,.nil⟩,Sub.refl⟩,?_,a0H (by rw[c8a,hlen];lia),?_,?_⟩
  ·rintro i ys M' ⟨_,hS⟩;exact hS _ _ hMp
  ·rintro i x ys M' hx ⟨⟨as,rfl,hR,hF,hN⟩,hS⟩;obtain⟨r,hx2,rfl⟩:=a0r hx;rw[hS _ _ hMp];dsimp only;refine⟨fun j zs M2=>zs=(((a0I n).take j).map fun c=>oneP r c).map poT/\M2=M',⟨rfl,rfl⟩,?_,a0H (by rw[c8a,hlen];lia),?_,?_⟩
   ·rintro j zs M2 ⟨_,rfl⟩;exact hS _ _ hMp
   ·rintro j y zs M2 hy ⟨rfl,rfl⟩;obtain⟨c,hy2,rfl⟩:=a0r hy;show _/\_;refine⟨?_,rfl⟩;rw[<- a0F (fun c=>oneP r c) hy2,c8v];rfl
   ·rintro zs M2 ⟨rfl,rfl⟩ a ha;rw[c8a,c8y]
    have e:(idP n)[i]?=some ((a0I n).map fun c=>oneP r c):=by
     unfold idP;rw[c8i,hx2];rfl
    have hSa:=Sub.new ha (o:=MO.lst (((a0I n).map fun c=>oneP r c).map poT));refine⟨⟨as++[a],by rw[c8v];rfl,?_,hF.snoc (none_of (hS0.trans hS) ha),hR.nd hN ha⟩,hS.trans hSa⟩;rw[show(idP n).take (i+1)=(idP n).take i++[(a0I n).map fun c=>oneP r c] by rw[c8Y,e];rfl];exact(hR.sub hSa).snoc a0d
  ·rintro ys M' ⟨⟨as,rfl,hR,hF,hN⟩,hS⟩ q hq
   have e:(idP n).take ((a0I n).map T.int).length=idP n:=by
    rw[c8a];exact c9I (by unfold idP;rw[c8a];exact c8d _)
   rw[e] at hR;have hSq:=Sub.new hq (o:=MO.lst (as.map T.adr));have hqM:=none_of (hS0.trans hS) hq;have hMq:(updM M' q (MO.lst (as.map T.adr))) q=some (.lst (as.map T.adr)):=a0d;have hR2:=hR.sub hSq;have hS2:=(hS0.trans hS).trans hSq
   generalize updM M' q (MO.lst (as.map T.adr))=M3 at hMq hR2 hS2|-
   clear hR hSq hq hS hMp hS0;refine a5o fun B hB=>?_;unfold a8e;walk_at "rd";refine⟨fun i ρ M'=>(∃(q:Addr) (as:List Addr) (x3:Option T),ρ=[some (T.tup [T.int n,T.tup (ws.map T.int)]),some (T.adr p),some (T.adr q),x3]/\M' q=some (.lst (as.map T.adr))/\a2D M' as (tabP n (ws.take i))/\FrP M as/\M q=none/\as.Nodup)/\Sub M M',⟨⟨q,as,_,rfl,hMq,hR2,hF,hqM,hN⟩,hS2⟩,fun _ _ _ _=>trivial,?_,?_⟩
   ·rintro i x ρ M' hx ⟨⟨q,as,x3,rfl,hq,hR,hF,hqM,hN⟩,hS⟩;obtain⟨l,hx2,rfl⟩:=a0r hx;obtain⟨z1,z2⟩:=o4 l (c8s hx2);have hG:=b8h (n:=n) (ws:=ws.take i) (fun y hy=>o4 y (d0A hy));have hil:(ws.take i).length<=16:=c8C (by rw[c9b];exact d4Q _ _) o3;have hpow:3^(ws.take i).length<2^60:=c8D (d3I (by decide) hil) (by decide)
    have htab:tabP n (ws.take (i+1))=(tabP n (ws.take i)).map fun ps=>wlP ps l:=by
     rw[show ws.take (i+1)=ws.take i++[l] by rw[c8Y,hx2];rfl,b8g]
    rw[hB];clear hB;walk_at "rd";rw[hq];dsimp only;generalize tabP n (ws.take i)=rs at hR hG htab;have has:as.length=rs.length:=hR.1;refine⟨fun j ys M2=>(∃bs:List Addr,ys=bs.map T.adr/\a2D M2 bs ((rs.take j).map fun ps=>wlP ps l)/\FrP M bs/\bs.Nodup)/\Sub M' M2,⟨⟨[],rfl,a2D.nil,fun _ z=>absurd z c8M,.nil⟩,Sub.refl⟩,?_,a0H (by rw[c8a,has,hG.1];lia),?_,?_⟩
    ·rintro j ys M2 ⟨_,hS2⟩;exact hS2 _ _ hq
    ·rintro j y ys M2 hy ⟨⟨bs,rfl,hR2,hF2,hN2⟩,hS2⟩
     obtain⟨a,ha,rfl⟩:∃a,as[j]?=some a/\T.adr a=y:=by
      rw[c8i] at hy;exact c8L.mp hy
     obtain⟨ps,eps⟩:∃ps,rs[j]?=some ps:=⟨_,c8b (by rw[<- has];exact(c8k.mp ha).1)⟩;have hMa:=hS2 _ _ (hR.2 j a ps ha eps);obtain⟨g1,g2⟩:=hG.2 ps (c8s eps);refine⟨ps,_,_,hMa,by lia,by rw[g1];lia,by rw[g1];lia,g2,by lia,hpow,fun t M5 ht hS5 ht5=>?_⟩
     have ej:(rs.take (j+1)).map (fun ps=>wlP ps l)=(rs.take j).map (fun ps=>wlP ps l)++[wlP ps l]:=by
      rw[c8Y,eps,c8v];rfl
     refine⟨⟨bs++[t],by rw[c8v];rfl,by rw[ej];exact(hR2.sub hS5).snoc ht5,hF2.snoc (none_of (hS.trans hS2) ht),hR2.nd hN2 ht⟩,hS2.trans hS5⟩
    ·rintro ys M2 ⟨⟨bs,rfl,hR2,hF2,hN2⟩,hS2⟩ v hv;rw[c8a,has,c8y,<- htab] at hR2;have hSv:=Sub.new hv (o:=MO.lst (bs.map T.adr));exact⟨⟨v,bs,_,rfl,a0d,hR2.sub hSv,hF2,none_of (hS.trans hS2) hv,hN2⟩,(hS.trans hS2).trans hSv⟩
   ·rintro ρ M' ⟨⟨q,as,x3,rfl,hq,hR,hF,hqM,hN⟩,hS⟩
    try rw[c8a] at hR
    rw[c8y] at hR;show rt3 M Q (T.adr q) M';exact a0s (h q as M' hqM hS hq hR hF hN) Sub.refl
 ·exact h.elim
noncomputable def a2s:Nat->Sp3
 |0=>fun _ _ _=>False
 |k+1=>fun ts M Q=>∃(r:Addr) (as:List Addr) (rs:List (List Po)) (lo hi B:Nat),ts=[.adr r]/\M r=some (.lst (as.map T.adr))/\a2D M as rs/\rs.length<=k/\rs.length<=6/\a7U rs.length lo hi B rs/\rs.length*lo+rs.length*hi<=62/\lo+hi<=62/\B<2^60/\Q (poT (detP (rs.length+1) rs)) M
theorem a9a{k:Nat}{ts:List T}{M:MH}{Q:VK3}(h:a2s (k+1) ts M Q):ts.length=1:=by
 obtain⟨_,_,_,_,_,_,rfl,_⟩:=h;rfl
theorem b6x{k lo hi B:Nat}{r:Addr}{as:List Addr}{rs:List (List Po)}{M:MH}{Q:VK3}(hr:M r=some (.lst (as.map T.adr)))(hR:a2D M as rs)(hk:rs.length<=k)(h6:rs.length<=6)(hG:a7U rs.length lo hi B rs)(h1:rs.length*lo+rs.length*hi<=62)(h2:lo+hi<=62)(h4:B<2^60)(h:Q (poT (detP (rs.length+1) rs)) M):a2s (k+1) [.adr r] M Q:=by
 unfold a2s;exact⟨r,as,rs,lo,hi,B,rfl,hr,hR,hk,h6,hG,h1,h2,h4,h⟩
noncomputable abbrev a2W k:=DfD "determinant" ["rows"] (a2s k)
theorem a8j(F:FD K mg "determinant" a1Z ["rows"]):a2W 0 P w K mg base (n+1):=F.dfn a0P (fun ts M Q h=>h.elim) (fun hr=>b9Q) fun ts M Q h=>h.elim
theorem a1q {k:Nat} (Z:Zs K mg) (D_17:a2W k P w K mg base n) (D_61:b2t P w K mg base n) (D_25:a2z P w K mg base n) (F:FD K mg "determinant" a1Z ["rows"]):a2W (k+1) P w K mg base (n+1):=by
 obtain⟨tk_ONE,c_ONE⟩:=Z.c_ONE;obtain⟨tk_NOUGHT,c_NOUGHT⟩:=Z.c_NOUGHT;obtain⟨tk_LESS_ONE,c_LESS_ONE⟩:=Z.c_LESS_ONE;refine F.dfn a0P (by intro ts M Q h;exact a9a h) (fun hr=>(a0c (s_if (a6W (a1z (hv 0))) (a0g (a0l (a2i c_ONE))) a0w) (a0c (a0y (i:=1) (a2i c_NOUGHT) a0P.nd) (a0c (a0y (i:=2) (a2i c_ONE) a0P.nd) (a0c (a7A c9i rfl (c6N Z.b_enumerate (h_ix (hv 0) a0f)) (c2t (n:=2) rfl (a5m (a2y (i:=3) a0P.nd) (a5m (a2y (i:=4) a0P.nd) b6o))) (a0c (s_if (a1z (hv 4)) (a0c (a0y (i:=5) (a0h D_17 hr (a0a (a1k rfl (a1N (a1s (hv 0) (a2m a0f) a2n)) (bkS (a0b a1Z) ["rows","whole","sign","column","here","rest"] ["row","column"] [none,some 3]) (a0N (i:=0)) (by walk_at "g") (fun _ _ _ _ _=>a1j) (fun _ _ _ _ _=>(a0z a0u (a1s (hv 0) a2n (a2m (hv 1))) (a1s (hv 0) (a2m (a0z a0u (hv 1) a0f)) a2n)))) a0e)) a0P.nd) (a0g (a0y (i:=1) (a0h D_61 hr (a0a (hv 1) (a0a (a0h D_25 hr (a0a (a0h D_25 hr (a0a (hv 4) (a0a (hv 5) a0e))) (a0a (hv 2) a0e))) a0e))) a0P.nd))) a0w) (a0g (a0y (i:=2) (a0h D_25 hr (a0a (hv 2) (a0a (a2i c_LESS_ONE) a0e))) a0P.nd)))) (a0g (a0l (hv 1)))))))) fun ts M Q h=>?_;obtain⟨r,as,rs,lo,hi,B,rfl,hr,hR,hk,h6,hG,hmb,hb,hB,h⟩:=h;refine a0j fun K1 hK1=>?_;walk_at "rd";rw[hr];have hlen:=hR.1;cases rs with
 | nil =>
   cases as with
   | nil =>
     dsimp only;rw[show(!(c8N T.adr []).isEmpty)=false from rfl,if_pos rfl];exact a0i h
   |cons a as=>cases hlen
 | cons ps rs =>
   cases as with
   |nil=>cases hlen
   | cons a as =>
     dsimp only;rw[if_neg (show ¬(!(c8N T.adr (a::as)).isEmpty)=false by intro z;cases z)];obtain⟨g1,g2⟩:=hG.2 ps (.head _);have g3:∀qs∈rs,qs.length=rs.length+1/\∀p∈qs,GdJ lo hi B p:=fun qs hq=>hG.2 qs (.tail _ hq);have hMa:=hR.2 0 a ps rfl rfl;have hpl:ps.length=rs.length+1:=g1;have hR':a2D M as rs:=⟨by rw[c8e,c8e] at hlen;lia,fun i x l h1 h2=>hR.2 (i+1) x l (by simpa using h1) (by simpa using h2)⟩;rw[c8e] at hk h6 hmb;have hmb2:(rs.length+1)*lo=rs.length*lo+lo:=by rw[d1F,d2a]
     have hmb3:(rs.length+1)*hi=rs.length*hi+hi:=by rw[d1F,d2a]
     have hf:∀c,c<ps.length->GdJ (rs.length*lo) (rs.length*hi) (dB B rs.length) (detP (rs.length+1) (a4x c rs)):=fun c hc=>a3T _ (a6t g3 (by rw[<- hpl];exact hc) rfl);change Q (poT ((c8I ps.length).foldl (a9O ps fun c=>detP (rs.length+1) (a4x c rs)) [])) M at h;have hsum:=a6s (m:=rs.length) g2 hf;rw[hK1];clear hK1;refine b1l fun K2 hK2=>?_;walk_at "rd";refine a5o fun Bd hBd=>?_;unfold a8e;walk_at "rd";rw[hr];dsimp only;rw[c8g,a1u];dsimp only;rw[hMa];dsimp only;refine⟨fun c ρ M'=>(∃(x3 x4 x5:Option T),ρ=[some (T.adr r),some (poT ((c8I c).foldl (a9O ps fun c=>detP (rs.length+1) (a4x c rs)) [])),some (poT (sgnP c)),x3,x4,x5])/\Sub M M',⟨⟨_,_,_,rfl⟩,Sub.refl⟩,?_,?_,?_⟩
     ·rintro c ρ M' ⟨_,hS⟩;exact hS _ _ hMa
     ·rintro c x ρ M' hx ⟨⟨x3,x4,x5,rfl⟩,hS⟩;obtain⟨t,ht,rfl⟩:=c0q hx
      obtain⟨p,ep,rfl⟩:∃p,ps[c]?=some p/\poT p=t:=by
       rw[c8i] at ht;exact c8L.mp ht
      have hc:c<ps.length:=(c8k.mp ep).1;have ed:ps.getD c []=p:=by rw[c8l,ep];rfl
      have hgp:=g2 p (c8s ep);have hacc:=hsum c (by lia);dsimp only;refine⟨rfl,rfl,?_⟩;rw[b0Q]
      generalize hA:(c8I c).foldl (a9O ps fun c=>detP (rs.length+1) (a4x c rs)) []=acc at hacc|-
      have hstep:a9O ps (fun c=>detP (rs.length+1) (a4x c rs)) acc c=if p=[] then acc else addP acc (a2V (a2V p (detP (rs.length+1) (a4x c rs))) (sgnP c)):=by unfold a9O;rw[ed]
      rw[hstep];rw[hBd];clear hBd;refine a0j fun K3 hK3=>?_;walk_at "rd"
      have fin:∀(M5:MH) (x5':Option T) (acc':Po),acc'=(if p=[] then acc else addP acc (a2V (a2V p (detP (rs.length+1) (a4x c rs))) (sgnP c)))->Sub M M5->K3 [some (T.adr r),some (poT acc'),some (poT (sgnP c)),some (T.int c),some (poT p),x5'] M5:=fun M5 x5' acc' e hS5=>by
       rw[hK3];clear hK3;walk_at "rd";refine a6S (a5n c) a3R (by decide) (.inl (by decide)) ?_;exact⟨⟨_,_,_,by rw[e];rfl⟩,hS5⟩
      cases p with
      | nil =>
        show(if false=true then _ else _)
        rw[if_neg (by decide)];exact fin M' _ acc rfl hS
      | cons y p =>
        show(if true=true then _ else _)
        rw[if_pos rfl,hS _ _ hr];intro s hs
        have ecut:cutT ((a::as).map T.adr) (some 1) none=as.map T.adr:=by
         rw[a1e _ _ (by decide)];rfl
        rw[ecut];have hSs:=Sub.new hs (o:=MO.lst (as.map T.adr));have hMs:(updM M' s (MO.lst (as.map T.adr))) s=some (.lst (as.map T.adr)):=a0d;have hR4:=(hR'.sub hS).sub hSs;have hS4:=hS.trans hSs
        generalize updM M' s (MO.lst (as.map T.adr))=M4 at hMs hR4 hS4|-
        clear hSs hs;have has:as.length=rs.length:=hR'.1;refine⟨fun j ys M2=>(∃bs:List Addr,ys=bs.map T.adr/\a2D M2 bs (a4x c (rs.take j)))/\Sub M4 M2,⟨⟨[],rfl,a2D.nil⟩,Sub.refl⟩,?_,a0H (by rw[c8a];lia),?_,?_⟩
        ·rintro j ys M2 ⟨_,hS2⟩;exact hS2 _ _ hMs
        ·rintro j x ys M2 hx ⟨⟨bs,rfl,hR2⟩,hS2⟩
         obtain⟨ai,hai,rfl⟩:∃ai,as[j]?=some ai/\T.adr ai=x:=by
          rw[c8i] at hx;exact c8L.mp hx
         obtain⟨qs,eqs⟩:∃qs,rs[j]?=some qs:=⟨_,c8b (by rw[<- has];exact(c8k.mp hai).1)⟩;have hMi:=hS2 _ _ (hR4.2 j ai qs hai eqs);have hql:=(g3 qs (c8s eqs)).1;dsimp only;rw[hMi];intro c1 hc1;have e1:cutT (qs.map poT) none (some (c:Int))=(qs.take c).map poT:=by rw[b6y _ _ (by lia),d4q];rfl
         have e2:cutT (qs.map poT) (some ((c:Int)+1)) none=(qs.drop (c+1)).map poT:=by rw[show(c:Int)+1=((c+1:Nat):Int) by lia,a1e _ _ (by lia),d1B];rfl
         rw[e1];have hS5:=Sub.new hc1 (o:=MO.lst ((qs.take c).map poT));have h5i:=hS5 _ _ hMi;have h5c:(updM M2 c1 (MO.lst ((qs.take c).map poT))) c1=some (.lst ((qs.take c).map poT)):=a0d
         generalize updM M2 c1 (MO.lst ((qs.take c).map poT))=M5 at hS5 h5i h5c|-
         rw[h5i];dsimp only;intro c2 hc2;rw[e2];have hS6:=Sub.new hc2 (o:=MO.lst ((qs.drop (c+1)).map poT));have h6c:=hS6 _ _ h5c;have h6d:(updM M5 c2 (MO.lst ((qs.drop (c+1)).map poT))) c2=some (.lst ((qs.drop (c+1)).map poT)):=a0d
         generalize updM M5 c2 (MO.lst ((qs.drop (c+1)).map poT))=M6 at hS6 h6c h6d|-
         rw[h6c];dsimp only;refine⟨a0E (by rw[c8a,c8a,c9b,c9s];lia),fun v hv=>?_⟩;have hSv:=Sub.new hv (o:=MO.lst ((qs.take c).map poT++(qs.drop (c+1)).map poT))
         have ej:a4x c (rs.take (j+1))=a4x c (rs.take j)++[qs.take c++qs.drop (c+1)]:=by
          unfold a4x;rw[c8Y,eqs,c8v];rfl
         have hRv:=(((hR2.sub hS5).sub hS6).sub hSv).snoc (ps:=qs.take c++qs.drop (c+1)) (a:=v) (by rw[a0d,c8v]);refine⟨⟨bs++[v],by rw[c8v];rfl,by rw[ej];exact hRv⟩,((hS2.trans hS5).trans hS6).trans hSv⟩
        ·rintro ys M2 ⟨⟨bs,rfl,hR2⟩,hS2⟩ v hv;rw[c8a,has,c8y] at hR2;have hSv:=Sub.new hv (o:=MO.lst (bs.map T.adr));have hMv:(updM M2 v (MO.lst (bs.map T.adr))) v=some (.lst (bs.map T.adr)):=a0d;have hR7:=hR2.sub hSv;have hS7:=(hS4.trans hS2).trans hSv
         generalize updM M2 v (MO.lst (bs.map T.adr))=M7 at hMv hR7 hS7|-
         have hdl:(a4x c rs).length=rs.length:=by unfold a4x;rw[c8a]
         have hGd:a7U rs.length lo hi B (a4x c rs):=a6t g3 (by rw[<- hpl];exact hc) rfl;cases k with
         |zero=>lia
         | succ k =>
           refine b6x (lo:=lo) (hi:=hi) (B:=B) hMv hR7 (by rw[hdl];lia) (by rw[hdl];lia) (by rw[hdl];exact hGd) (by rw[hdl];lia) hb hB ?_;rw[hdl];have hgd:=hf c hc;refine a6S hgp hgd (by lia) (.inl (by lia)) ?_;refine a6S (hgp.mul hgd) (a5n c) (by lia) (.inr (by decide)) ?_;refine b4p hacc (((hgp.mul hgd).mul (a5n c)).mono (lo':=(rs.length+1)*lo) (hi':=(rs.length+1)*hi) (by lia) (by lia) (c8d _)) (by lia) ?_;exact fin M7 _ _ (by rw[if_neg (by intro z;cases z)]) hS7
     ·rintro ρ M' ⟨⟨x3,x4,x5,rfl⟩,hS⟩;rw[a7O,c8a];rw[hK2];clear hK2;walk_at "rd";exact a0s h hS
noncomputable def a3B:Sp3:=fun ts M Q=>match ts with
 |[.tup a]=>∃(p:Po) (lo hi B:Nat),a=p.map prT/\GdJ lo hi B p/\lo+hi<=62/\Q (poT (c4N p)) M
 |_=>False
noncomputable abbrev a7d:=DfD "from_nought" ["whole"] a3B
theorem a9V(Z:Zs K mg)(D_25:a2z P w K mg base n)(F:FD K mg "from_nought" a4n ["whole"]):a7d P w K mg base (n+1):=by
 obtain⟨tk_NOUGHT,c_NOUGHT⟩:=Z.c_NOUGHT;refine F.dfn a3F (by unfold a3B;walk_at "ln") (fun hr=>(a0c (s_if (a6W (a1z (hv 0))) (a0g (a0l (a2i c_NOUGHT))) a0w) (a0c (a0y (i:=1) (h_ix (hv 0) a0f) a3F.nd) (a0c (a0y (i:=2) (c2j (a0o a5k (h_ix (hv 1) a0f) a0f (a0n _)) a0f (h_un a1l a0f)) a3F.nd) (a0g (a0l (a0h D_25 hr (a0a (hv 0) (@b5v _ _ _ _ _ _ _ (a2N (@b5v _ _ _ _ _ _ _ (a2N (a0a (h_un a1l (h_ix (hv 1) a0f)) (a0a (hv 2) a0e))) a0e)) a0e))))))))) fun ts M Q h=>?_;unfold a3B at h;split at h
 ·rename_i a;obtain⟨p,lo,hi,B,rfl,hg,hb,h⟩:=h;cases p with
  | nil =>
    refine a0j fun K1 hK1=>?_;walk_at "rd";exact a0i h
  | cons x p =>
    refine a0j fun K1 hK1=>?_;walk_at "rd";rw[if_neg (show ¬(!(c8N prT (x::p)).isEmpty)=false by intro z;cases z)];rw[hK1];clear hK1;refine a0j fun K2 hK2=>?_;walk_at "rd";rw[c8g,a1u];dsimp only;rw[hK2];clear hK2;refine a0j fun K3 hK3=>?_;walk_at "rd"
    have key:∀g:Int,g=(if 0<x.2 then 1 else -1)->K3 [some (T.tup (prT x::c8N prT p)),some (prT x),some (T.int g)] M:=fun g e=>by
     rw[hK3];clear hK3;walk_at "rd";rw[show prT x=T.tup [T.int x.1,T.int x.2] from rfl];dsimp only;rw[a1u];dsimp only;have hlen:=hg.len;refine⟨by decide,by decide,x::p,[(-x.1,g)],(x::p).map fun y=>y.1+-x.1,rfl,rfl,by rw[c8a];lia,fun y hy z hz=>?_,fun y hy z hz=>.inr (by rw[c8A.mp hz];show g.natAbs<2^64;rw[e];split<;>decide),by lia,by show 1<=5000;decide,?_⟩
     ·rw[c8A.mp hz];exact c8q.mpr ⟨y,hy,rfl⟩
     ·rw[e];exact a0i h
    rw[show prT x=T.tup [T.int x.1,T.int x.2] from rfl] at key|-
    dsimp only;rw[a7k];dsimp only;refine ite2 (fun c=>key _ (by rw[if_pos c])) (fun c=>key _ (by rw[if_neg c]))
 ·exact h.elim
noncomputable def a4e:Sp3:=fun ts M Q=>match ts with
 |[.tup [.int n,.tup w]]=>∃ws:LSI,w=ws.map .int/\PlOK n ws/\b0W n ws/\Q (poT (b0f n ws)) M
 |_=>False
noncomputable abbrev a5r:=DfD "closed_sum" ["plait"] a4e
theorem b1L(Z:Zs K mg)(D_47:b0R P w K mg base n)(D_61:b2t P w K mg base n)(D_5:a2O P w K mg base n)(D_25:a2z P w K mg base n)(D_18:a7d P w K mg base n)(D_17:a2W 6 P w K mg base n)(F:FD K mg "closed_sum" a3s ["plait"]):a5r P w K mg base (n+1):=by
 obtain⟨tk_LESS_ONE,c_LESS_ONE⟩:=Z.c_LESS_ONE;refine F.dfn a1X (by unfold a4e;walk_at "ln") (fun hr=>(a0c (a0y (i:=1) (a0h D_47 hr (a0a (hv 0) a0e)) a1X.nd) (a0c (a0y (i:=2) (b3P Z.b_list Z.b_range (a0a a0f (a0a (h_ix (hv 0) a0f) a0e))) a1X.nd) (a0c (a0y (i:=3) (a3h a0e) a1X.nd) (a0c (a7A c9i rfl (a1N (hv 2)) (a2y (i:=4) a1X.nd) (a0g (a2x (a7K (hv 3) (a0a (a1k rfl (a1N (hv 2)) (bkS (a0b a3s) ["plait","table","places","rows","row"] ["column","row","table"] [none,some 4,some 1]) (a0N (i:=0)) (by walk_at "g") (fun _ _ _ _ _=>a1j) (fun _ _ _ _ _=>(a0h D_61 hr (a0a (a0h D_5 hr (a0a (hv 1) (a0a (hv 0) a0e))) (a0a (a0h D_25 hr (a0a (h_ix (h_ix (hv 2) (hv 1)) (hv 0)) (a0a (a2i c_LESS_ONE) a0e))) a0e))))) a0e))))) (a0g (a0l (a0h D_18 hr (a0a (a0h D_17 hr (a0a (hv 3) a0e)) a0e))))))))) fun ts M Q h=>?_;unfold a4e at h;split at h
 ·rename_i n w;obtain⟨ws,rfl,ok,hsm,h⟩:=h;refine a0j fun K1 hK1=>?_;walk_at "rd";refine⟨ws,rfl,ok,fun r as M1 hr hS1 hr1 hR1 hF1 _=>?_⟩;show K1 _ _;obtain⟨o1,o2,o3,o4⟩:=id ok;have hG:=b0k (n:=n) o4;have hng:=b9m ws;have hpow:3^ws.length<2^59:=c8D (d3I (by decide) o3) (by decide);have hlT:(a5K n ws).length=n.toNat-1:=by unfold a5K;rw[c8a,c9u]
  rw[hK1];clear hK1;refine b1l fun K2 hK2=>?_;walk_at "rd";obtain⟨m,hm⟩:∃m:Nat,n=(m:Int)+1:=⟨n.toNat-1,by lia⟩;have hmn:n.toNat=m+1:=by lia
  have hm1:n.toNat-1=m:=by lia
  rw[show(n-1).toNat=m by lia];refine⟨⟨by decide,by decide,by lia,by lia,by lia⟩,fun p hp v hv=>?_⟩;have hSp:=Sub.new hp (o:=MO.lst (a0L 1 m));have hMp0:(updM M1 p (MO.lst (a0L 1 m))) p=some (.lst (a0L 1 m)):=a0d
  generalize updM M1 p (MO.lst (a0L 1 m))=M2 at hSp hMp0 hv|-
  have hSv:=Sub.new hv (o:=MO.lst []);have hMv:(updM M2 v (MO.lst [])) v=some (.lst (([]:List Addr).map T.adr)):=a0d;have hMp:=hSv _ _ hMp0;have hr3:=hSv _ _ (hSp _ _ hr1);have hR3:=(hR1.sub hSp).sub hSv;have hvM:M v=none:=none_of (hS1.trans hSp) hv;have hpv:p≠v:=fun z=>by rw[z,hv] at hMp0;cases hMp0
  have hrv:r≠v:=fun z=>by rw[z] at hr1;rw[hSp _ _ hr1] at hv;cases hv
  have has:as.length=n.toNat:=hR1.1.trans hG.1
  have hav:∀a∈as,a≠v:=fun a ha z=>by
   obtain⟨j,hj⟩:=d3F ha;obtain⟨l,el⟩:∃l,(tabP n ws)[j]?=some l:=⟨_,c8b (by rw[<- hR1.1];exact(c8k.mp hj).1)⟩;rw[<- z,(hR1.sub hSp).2 j a l hj el] at hv;cases hv
  have hS3:=(hS1.trans hSp).trans hSv
  generalize updM M2 v (MO.lst [])=M3 at hMv hMp hr3 hR3 hS3|-
  clear hSp hMp0 hSv hv hp hS1 hr1 hR1 hF1 hr
  have hsd:∀i,i<m->(a5K n ws)[i]?=some ((c8I m).map fun c=>addP (oneP ((i+1:Nat):Int) ((c+1:Nat):Int)) (a2V (((tabP n ws).getD (i+1) []).getD (c+1) []) [(0,-1)])):=fun i hi=>by
   unfold a5K;rw[hm1,c8i,c9r hi];rfl
  refine a5o fun B hB=>?_;unfold a8e;walk_at "rd";rw[hMp];dsimp only;refine⟨fun i ρ M'=>(∃(bs:List Addr) (x4:Option T),ρ=[some (T.tup [T.int n,T.tup (ws.map T.int)]),some (T.adr r),some (T.adr p),some (T.adr v),x4]/\M' v=some (.lst (bs.map T.adr))/\a2D M' bs ((a5K n ws).take i)/\∀b∈bs,b≠v)/\M' p=some (.lst (a0L 1 m))/\M' r=some (.lst (as.map T.adr))/\a2D M' as (tabP n ws)/\Sub M M',⟨⟨[],_,rfl,hMv,a2D.nil,fun _ z=>absurd z c8M⟩,hMp,hr3,hR3,hS3⟩,fun _ _ _ z=>z.2.1,?_,?_⟩
  ·rintro i x ρ M' hx ⟨⟨bs,x4,rfl,hv4,hB4,hbv⟩,hp4,hr4,hR4,hS4⟩;obtain⟨hi,rfl⟩:=a3a hx;obtain⟨a,ha⟩:∃a,as[i+1]?=some a:=⟨_,c8b (by lia)⟩;obtain⟨ps,eps⟩:∃ps,(tabP n ws)[i+1]?=some ps:=⟨_,c8b (by rw[hG.1];lia)⟩;have hMa:=hR4.2 (i+1) a ps ha eps;obtain⟨g1,g2⟩:=hG.2 ps (c8s eps);have egd:(tabP n ws).getD (i+1) []=ps:=by rw[c8l,eps];rfl
   have hsdi:=hsd i hi;rw[egd] at hsdi;rw[hB];clear hB;walk_at "rd";rw[hv4,hp4];refine⟨trivial,?_⟩;dsimp only;refine⟨fun j zs M5=>zs=((c8I j).map fun c=>addP (oneP ((i+1:Nat):Int) ((c+1:Nat):Int)) (a2V (ps.getD (c+1) []) [(0,-1)])).map poT/\M5=M',⟨rfl,rfl⟩,?_,by rw[a1f];exact a0H (by lia),?_,?_⟩
   ·rintro j zs M5 ⟨_,rfl⟩;exact hp4
   ·rintro j y zs M5 hy ⟨rfl,rfl⟩;obtain⟨hj,rfl⟩:=a3a hy
    have e1:atI (as.map T.adr) (1+(i:Int))=some (.adr a):=by
     rw[show 1+(i:Int)=((i+1:Nat):Int) by lia];exact a3L (by rw[c8i,ha];rfl)
    have e2:atI (ps.map poT) (1+(j:Int))=some (poT (ps.getD (j+1) [])):=by
     rw[show 1+(j:Int)=((j+1:Nat):Int) by lia];exact a3L (by rw[c8i,c8l,c8b (by lia:j+1<ps.length)];rfl)
    dsimp only[a1C];rw[hr4];dsimp only;rw[e1];dsimp only;rw[hMa];dsimp only;rw[e2];dsimp only;have gj:=a3S g2 (i:=j+1) (by lia);refine a6S gj a3R (by lia) (.inr (by decide)) ?_;refine b4p ((a9l _ _).mono (lo':=ngN ws+0) (hi':=ngP ws+0) (by lia) (by lia) (c8d _)) (gj.mul a3R) (by lia) ?_;refine⟨?_,rfl⟩;rw[d2b,c8v,c8v,show 1+(i:Int)=((i+1:Nat):Int) by lia,show 1+(j:Int)=((j+1:Nat):Int) by lia];rfl
   ·rintro zs M5 ⟨rfl,rfl⟩ c hc;rw[a1f]
    generalize hrow:((c8I m).map fun c=>addP (oneP ((i+1:Nat):Int) ((c+1:Nat):Int)) (a2V (ps.getD (c+1) []) [(0,-1)]))=row at hsdi|-
    have hSc:=Sub.new hc (o:=MO.lst (row.map poT));have hcv:c≠v:=fun z=>by rw[z,hv4] at hc;cases hc
    have h6v:=hSc _ _ hv4;have h6p:=hSc _ _ hp4;have h6r:=hSc _ _ hr4;have h6R:=hR4.sub hSc;have h6B:=hB4.sub hSc;have h6c:(updM M5 c (MO.lst (row.map poT))) c=some (.lst (row.map poT)):=a0d;have hS6:=hS4.trans hSc
    generalize updM M5 c (MO.lst (row.map poT))=M6 at h6v h6p h6r h6R h6B h6c hS6|-
    rw[h6v];dsimp only;have keepv:∀{xs:List Addr} {rs:List (List Po)} {o:MO},a2D M6 xs rs->(∀x∈xs,x≠v)->a2D (updM M6 v o) xs rs:=fun {xs rs o} hx hn=>⟨hx.1,fun q a l q1 q2=>by rw[a0k (hn a (c8s q1))];exact hx.2 q a l q1 q2⟩;have htk:(a5K n ws).take (i+1)=(a5K n ws).take i++[row]:=by rw[c8Y,hsdi];rfl
    have hbl:bs.length=i:=by rw[h6B.1,c9b,hlT];lia
    refine⟨by rw[c8a];exact a0H (by lia),⟨bs++[c],_,rfl,by rw[c8v];rfl,?_,fun b hb=>?_⟩,?_,?_,?_,hS6.updF hvM⟩
    ·rw[htk];exact(keepv h6B hbv).snoc (by rw[a0k hcv];exact h6c)
    ·rcases c8U.mp hb with z|z
     ·exact hbv b z
     ·rw[c8A.mp z];exact hcv
    ·rw[a0k hpv];exact h6p
    ·rw[a0k hrv];exact h6r
    ·exact keepv h6R hav
  ·rintro ρ M' ⟨⟨bs,x4,rfl,hv4,hB4,hbv⟩,hp4,hr4,hR4,hS4⟩;rw[a1f] at hB4;rw[show(a5K n ws).take m=a5K n ws from c9I (by lia)] at hB4;rw[hK2];clear hK2;walk_at "rd";have hGl:a7U m (ngN ws) (ngP ws) (1+3^ws.length) (a5K n ws):=hm1▸a6p ok;have hlm:(a5K n ws).length=m:=by rw[hlT,hm1]
   have hsm2:=hsm.two;rw[hm1] at hsm2;refine b6x (lo:=ngN ws) (hi:=ngP ws) (B:=1+3^ws.length) hv4 hB4 (by rw[hlm];lia) (by rw[hlm];lia) (by rw[hlm];exact hGl) (by rw[hlm];exact hsm2) (by lia) (by lia) ?_;rw[hlm];have hdet:=a3T m hGl;refine⟨_,_,_,_,rfl,hdet,hsm2,?_⟩;unfold b0f at h;rw[hmn] at h;exact a0s h hS4
 ·exact h.elim
noncomputable def a7r:Sp3:=fun ts M Q=>match ts with
 |[.str w]=>w∈NMs/\Q (.bl true) M
 |_=>False
theorem b0C:∀w∈NMs,strIterType w="str_ascii_iterator"/\1<=w.length/\w.length<=8/\∀c∈w.cps.toList,decide ([c]<[97])=false/\decide ([122]<[c])=false:=by decide +kernel
noncomputable abbrev a9t:=DfD "is_name" ["word"] a7r
theorem b7k(Z:Zs K mg)(F:FD K mg "is_name" a6K ["word"]):a9t P w K mg base (n+1):=by
 obtain⟨tk_MOST_SIGNS_IN_NAME,c_MOST_SIGNS_IN_NAME⟩:=Z.c_MOST_SIGNS_IN_NAME;refine F.dfn b6T (by unfold a7r;walk_at "ln") (fun hr=>(a0g (a0l (c4H (b5i b3j b3j a0f (a0M a0Y Z.b_len PySem.boot_len (a0a (hv 0) a0e)) (b2a c_MOST_SIGNS_IN_NAME)) (c2i (a0M (a7i rfl) Z.b_all d1a (a0a (a1k rfl (c7O (hv 0)) (bkS (a0b a6K) ["word"] ["sign"] [none]) (a0N (i:=0)) (by walk_at "g") (fun _ _ _ _ _=>a1j) (fun _ _ _ _ _=>(b5i b9e b9e a0t (hv 0) a0t))) a0e))))))) fun ts M Q h=>?_;unfold a7r at h;split at h
 ·rename_i w;obtain⟨hw,h⟩:=h;obtain⟨h1,h2,h3,h4⟩:=b0C w hw;walk_at "rd";have hsz:w.length<=sizeLine:=c8C h3 (by decide);have hl:(sgT w).length=w.length:=by unfold sgT;rw[c8a,c8K];rfl
  refine⟨hsz,?_⟩;rw[if_pos (by lia),if_pos (by lia)];refine⟨h1,fun i ys M'=>ys=c8B i (T.bl true)/\M'=M,⟨rfl,rfl⟩,fun _ _ _ _=>trivial,by rw[hl];exact c8D h3 (by decide),?_,?_⟩
  ·rintro i x ys M' hx ⟨rfl,rfl⟩;unfold sgT at hx;rw[c8i] at hx;obtain⟨c,hc,rfl⟩:=c8L.mp hx;obtain⟨g1,g2⟩:=h4 c (c8s hc);dsimp only;have e1:(c8c "a").cps.toList=[97]:=by decide +kernel
   have e2:(c8c "z").cps.toList=[122]:=by decide +kernel
   rw[e1,e2];rw[if_pos (of_decide_eq_false g1),g2];exact⟨by rw[d3J];rfl,rfl⟩
  ·rintro ys M' ⟨rfl,rfl⟩ p hp;rw[show c8B (sgT w).length (T.bl true)=(c8B (sgT w).length true).map T.bl by rw[d4r],a5z];dsimp only;rw[show(c8B (sgT w).length true).all id=true by simp];exact a0s h (Sub.new hp)
 ·exact h.elim
noncomputable def a7s:Sp3:=fun ts M Q=>match ts with
 |[.adr p]=>∃k rest,M p=some (.lst ((k::rest).map .str))/\(LnOK k rest\/(k="names"/\rest=[]))/\Q (.bl true) M
 |_=>False
noncomputable def CLs:List (Str×Int):=[("drop",1),("show",1),("names",0),("turned",2),("mirrored",2),("flipped",2),("shorter",2),("behind",3),("same",2),("order",1),("form",1),("closed",1)]
theorem a8w{k:Str}{rest:LSS}(h:LnOK k rest\/(k="names"/\rest=[])):a8n CLs k=some (rest.length:Int)/\(∀w∈rest,w∈NMs)/\rest.length<=3:=by
 have a1:∀k∈K1s,a8n CLs k=some 1:=by decide +kernel
 have a2:∀k∈K2s,a8n CLs k=some 2:=by decide +kernel
 have a3:a8n CLs "behind"=some 3/\a8n CLs "names"=some 0:=by decide +kernel
 rcases h with h|⟨rfl,rfl⟩
 ·cases h with
  |one hk ha=>exact⟨a1 k hk,fun w hw=>by rw[c8A.mp hw];exact ha,by show 1<=3;decide⟩
  | two hk ha hb =>
    refine⟨a2 k hk,fun w hw=>?_,by show 2<=3;decide⟩;rcases c8n.mp hw with rfl|hw
    ·exact ha
    ·rw[c8A.mp hw];exact hb
  | three ha hb hc =>
    refine⟨a3.1,fun w hw=>?_,by show 3<=3;decide⟩;rcases c8n.mp hw with rfl|hw
    ·exact ha
    rcases c8n.mp hw with rfl|hw
    ·exact hb
    ·rw[c8A.mp hw];exact hc
 ·exact⟨a3.2,fun w hw=>absurd hw c8M,by decide⟩
noncomputable abbrev b4d:=DfD "is_line" ["words"] a7s
theorem b7l(Z:Zs K mg){dN:Addr}(CI:CitN K P w mg dN)(D_53:a9t P w K mg base n)(F:FD K mg "is_line" a6L ["words"]):b4d P w K mg base (n+1):=by
 refine F.dfn b6U (by unfold a7s;walk_at "ln") (fun hr=>(a0g (a0l (c4H (b9Z (a0T hr.units) (c2l CI.cit CI.m (h_ix (hv 0) a0f)) (a0z a1i (a0M a0Y Z.b_len PySem.boot_len (a0a (hv 0) a0e)) a0f) (a0n _)) (c2i (a0M (a7i rfl) Z.b_all d1a (a0a (a1k rfl (a1N (a1s (hv 0) (a2m a0f) a2n)) (bkS (a0b a6L) ["words"] ["word"] [none]) (a0N (i:=0)) (by walk_at "g") (fun _ _ _ _ _=>a1j) (fun _ _ _ _ _=>(a0h D_53 hr (a0a (hv 0) a0e)))) a0e))))))) fun ts M Q h=>?_;unfold a7s at h;split at h
 ·rename_i p;obtain⟨k,rest,hp,hl,h⟩:=h;obtain⟨g1,g2,g3⟩:=a8w hl;unfold CLs at g1;walk_at "rd";rw[hp];dsimp only;rw[c8g,a1u];dsimp only;rw[g1];dsimp only[ciT];rw[c8e,c8a];refine⟨a3P _,a3P _,by rw[a7a];decide,?_⟩;rw[show((rest.length+1:Nat):Int)-1=(rest.length:Int) by lia,b2h,if_pos (decide_eq_true rfl)]
  have ec:cutT (T.str k::rest.map T.str) (some 1) none=rest.map T.str:=by
   rw[a1e _ _ (by decide)];rfl
  intro r hr;rw[ec];have hS:=Sub.new hr (o:=MO.lst (rest.map T.str));have hM:(updM M r (MO.lst (rest.map T.str))) r=some (.lst (rest.map T.str)):=a0d
  generalize updM M r (MO.lst (rest.map T.str))=M1 at hS hM|-
  refine⟨fun i ys M'=>ys=c8B i (T.bl true)/\M'=M1,⟨rfl,rfl⟩,?_,a0H (by rw[c8a];lia),?_,?_⟩
  ·rintro i ys M' ⟨_,rfl⟩;exact hM
  ·rintro i x ys M' hx ⟨rfl,rfl⟩;rw[c8i] at hx;obtain⟨w,hw,rfl⟩:=c8L.mp hx;exact⟨g2 w (c8s hw),by rw[d3J],rfl⟩
  ·rintro ys M' ⟨rfl,rfl⟩ q hq;rw[c8a,show c8B rest.length (T.bl true)=(c8B rest.length true).map T.bl by rw[d4r],a5z];dsimp only;rw[show(c8B rest.length true).all id=true by simp];exact a0s h (hS.newr hq)
 ·exact h.elim
noncomputable def b4B:Sp3X:=fun ts M Q E=>match ts with
 | [.str k,.adr p]=>∃g:List Pl,M p=some (.lst (g.map kpT))/\k∈MKs/\GvOK g/\1<=g.length/\(k="behind"->∃a b,g=[a,b]/\(a.1≠b.1->E "NoStep" M)/\(a.1=b.1->16<a.2.length+b.2.length->E "NoRoom" M)) /\
   ((k="behind"->∃a b,g=[a,b]/\a.1=b.1/\a.2.length+b.2.length<=16)->Q (kpT (a3Q k g)) M)
 |_=>False
noncomputable abbrev c3j:=DfY "made" ["kind","given"] b4B
theorem c4s(Z:Zs K mg)(D_58:b2q P w K mg base n)(D_45:a7R P w K mg base n)(D_50:a9x P w K mg base n)(D_51:a9p P w K mg base n)(D_57:b2s P w K mg base n)(F:FD K mg "made" b8E ["kind","given"]):c3j P w K mg base (n+1):=by
 refine F.dfnX c3E (by unfold b4B;walk_at "lnx") (fun f cdv A outer s H E E3 hr acc accN=>(a0Z (HS.x (HS.n (s_if (a0o (a0T hr.units) (hv 0) a0t (a0n _)) (a0g (a0l (a0h D_58 hr (a0a (h_ix (hv 1) a0f) a0e)))) a0w))) (a0Z (HS.x (HS.n (s_if (a0o (a0T hr.units) (hv 0) a0t (a0n _)) (a0g (a0l (a0h D_45 hr (a0a (h_ix (hv 1) a0f) a0e)))) a0w))) (a0Z (HS.x (HS.n (s_if (a0o (a0T hr.units) (hv 0) a0t (a0n _)) (a0g (a0l (a0h D_50 hr (a0a (h_ix (hv 1) a0f) a0e)))) a0w))) (a0Z (HS.x (HS.n (s_if (a0o (a0T hr.units) (hv 0) a0t (a0n _)) (a0g (a0l (a0h D_51 hr (a0a (h_ix (hv 1) a0f) a0e)))) a0w))) (a2E (b5G (a6r acc rfl D_57 hr (a0a (h_ix (hv 1) a0f) (a0a (h_ix (hv 1) a0f) a0e)))))))))) fun ts M Q E h=>?_;unfold b4B at h;split at h
 ·rename_i k p;obtain⟨g,hp,hk,hg,h1,hb,h⟩:=h
  obtain⟨a,g,rfl⟩:∃a g',g=a::g':=by
   cases g with
   |nil=>cases h1
   |cons a g=>exact⟨a,g,rfl⟩
  obtain⟨ok,h4⟩:=hg a (.head _);walk_at "rd";rw[hp];dsimp only;rw[c8g,a1u];dsimp only
  have key:∀(p:Pl),k≠"behind"->a3Q k (a::g)=p->rt3 M Q (kpT p) M:=fun p hk e=>by
   rw[<- e];exact a0i (h fun z=>absurd z hk)
  unfold a3Q at key;dsimp only[d2d] at key;refine a0K (fun c=>?_) fun c1=>?_
  ·refine⟨a.2,rfl,ok,key (a.1,a0R a.2) (by rw[c];decide +kernel) (by rw[if_pos c];rfl)⟩
  refine a0K (fun c=>?_) fun c2=>?_
  ·refine⟨a.2,rfl,ok,key (a.1,a.2.map fun l=>-l) (by rw[c];decide +kernel) (by rw[if_neg c1,if_pos c];rfl)⟩
  refine a0K (fun c=>?_) fun c3=>?_
  ·refine⟨a.2,rfl,ok,key (a.1,a.2.map (b2d a.1)) (by rw[c];decide +kernel) (by rw[if_neg c1,if_neg c2,if_pos c];rfl)⟩
  refine a0K (fun c=>?_) fun c4=>?_
  ·refine⟨a.2,rfl,ok,key (a.1,redL a.2) (by rw[c];decide +kernel) (by rw[if_neg c1,if_neg c2,if_neg c3,if_pos c];rfl)⟩
  have c5:k="behind":=by
   unfold MKs at hk;simp only[c8n,c8M,or_false] at hk;rcases hk with e|e|e|e|e
   ·exact absurd e c1
   ·exact absurd e c2
   ·exact absurd e c3
   ·exact absurd e c4
   ·exact e
  obtain⟨a',b,e,e1,e2⟩:=hb c5;injection e with ea eb;subst ea eb;obtain⟨ok2,_⟩:=hg b (.tail _ (.head _));rw[c8g,a7k];dsimp only;refine⟨a.2,b.2,rfl,rfl,ok,ok2,fun z=>⟨M,Sub.refl,e1 z⟩,fun z1 z2=>⟨M,Sub.refl,e2 z1 z2⟩,fun z1 z2=>?_⟩;have:=h fun _=>⟨a,b,rfl,z1,z2⟩
  have em:a3Q k [a,b]=(a.1,a.2++b.2):=by
   unfold a3Q;dsimp only[d2d];rw[if_neg c1,if_neg c2,if_neg c3,if_neg c4];rfl
  rw[em] at this;exact a0i this
 ·exact h.elim
noncomputable def a4R:Sp3X:=fun ts M Q E=>match ts with
 |[.tup [.int n,.tup w],.tup [.int m,.tup v]]=>∃ws vs:LSI,w=ws.map .int/\v=vs.map .int/\PlOK n ws/\PlOK m vs/\(n≠m->E "NoStep" M)/\(n=m->Q (.str (c1g (n,ws) (m,vs))) M)
 |_=>False
noncomputable abbrev a9q:=DfY "same_note" ["one","other"] a4R
theorem b3k(Z:Zs K mg)(D_59:b2p P w K mg base n)(F:FD K mg "same_note" a6c ["one","other"]):a9q P w K mg base (n+1):=by
 refine F.dfnX a5d (by unfold a4R;walk_at "lnx") (fun f cdv A outer s H E E3 hr acc accN=>(a0Z (c5G (i:=2) (a6r acc rfl D_59 hr (a0a (hv 0) (a0a (hv 1) a0e))) a5d.nd) (a0Z (HS.x (HS.n (s_if (a0o c2Y (hv 2) c4F (a0n _)) (a0g (a0l a0t)) a0w))) (a0Z (HS.x (HS.n (a0y (i:=3) (h_ix (hv 2) a0f) a5d.nd))) (a2E (HS.x (HS.n (a0l (b9Y (b0I a0t (b0I (h_fv (hv 3)) c4y))))))))))) fun ts M Q E h=>?_;unfold a4R at h;split at h
 ·rename_i n w m v;obtain⟨ws,vs,rfl,rfl,ok1,ok2,h2,h3⟩:=h;walk_at "rd";refine⟨ws,vs,rfl,rfl,ok1,ok2,fun c3=>⟨M,Sub.refl,h2 c3⟩,fun e=>?_⟩;have h:=h3 e;unfold c1g at h;dsimp only at h;unfold a4L;cases hu:a4M n ws vs with
  | none =>
    rw[hu] at h
    dsimp only at h|-
    walk_at "rd";exact a0i h
  | some j =>
    rw[hu] at h
    dsimp only at h|-
    walk_at "rd";obtain⟨j1,j2,_⟩:=a7W hu;have o:=ok1.2.1;have hl:=(sI j (by lia) (by lia)).2.1;have e0:(c8c "unlike at ").length=10:=by decide +kernel
    rw[b3X];have hl2:(c8c "unlike at "++a0p j).length<=20:=by rw[a6q,e0];lia
    exact⟨a0E (by lia),a8p (by lia),a0E (by lia),a0E (by lia),a0i h⟩
 ·exact h.elim
noncomputable def a4c:Sp3:=fun ts M Q=>match ts with
 |[.tup os]=>∃r:LSI,os=r.map .int/\OrdS r/\Q (.str (a2l r)) M
 |_=>False
noncomputable abbrev a5q:=DfD "order_note" ["order"] a4c
theorem b1I(Z:Zs K mg)(F:FD K mg "order_note" a3r ["order"]):a5q P w K mg base (n+1):=by
 refine F.dfn b1o (by unfold a4c;walk_at "ln") (fun hr=>(a0g (a0l (a2h a0t (a0a (a1k rfl (a1N (hv 0)) (bkS (a0b a3r) ["order"] ["place"] [none]) (a0N (i:=0)) (by walk_at "g") (fun _ _ _ _ _=>a1j) (fun _ _ _ _ _=>(a0Q a2B Z.b_str c9q (a0a (a0z a0u (hv 0) a0f) a0e)))) a0e))))) fun ts M Q h=>?_;unfold a4c at h;split at h
 ·rename_i os;obtain⟨r,rfl,ok,h⟩:=h;walk_at "rd";refine⟨fun i ys M'=>ys=((r.take i).map fun p=>a0p (p+1)).map T.str/\M'=M,⟨rfl,rfl⟩,fun _ _ _ _=>trivial,a0H (by have:=ok.1;lia),?_,?_⟩
  ·rintro i x ys M' hx ⟨rfl,rfl⟩;obtain⟨p,hp,rfl⟩:=a0r hx;have g:=ok.2 p (c8s hp);dsimp only;exact⟨a6C (by lia),a4P (fun p=>a0p (p+1)) hp,rfl⟩
  ·rintro ys M' ⟨rfl,rfl⟩ q hq;rw[c8y,a1w];dsimp only;exact⟨ok.join,a0s h (Sub.new hq)⟩
 ·exact h.elim
noncomputable def a4V:Sp3:=fun ts M Q=>match ts with
 |[t]=>∃f:PR,t=frT f/\FrmS f/\Q (.str (c2v f)) M
 |_=>False
noncomputable abbrev a9w:=DfD "form_note" ["form"] a4V
theorem b3p(Z:Zs K mg)(D_27:a5q P w K mg base n)(F:FD K mg "form_note" a4o ["form"]):a9w P w K mg base (n+1):=by
 refine F.dfn b2S (by unfold a4V;walk_at "ln") (fun hr=>(a0g (a0l (a2h a0t (a0a (a0z a0u (a3h (a0a (a0Q a2B Z.b_str c9q (a0a (h_ix (hv 0) a0f) a0e)) a0e)) (a1k rfl (a1N (h_ix (hv 0) a0f)) (bkS (a0b a4o) ["form"] ["order"] [none]) (a0N (i:=0)) (by walk_at "g") (fun _ _ _ _ _=>a1j) (fun _ _ _ _ _=>(a0h D_27 hr (a0a (hv 0) a0e))))) a0e))))) fun ts M Q h=>?_;unfold a4V at h;split at h
 ·obtain⟨⟨a,R⟩,rfl,ok,h⟩:=h;have o1:=ok.1;dsimp only at o1;unfold frT;walk_at "rd";refine⟨a6C ok.2.2,by decide,fun q hq=>?_⟩;have hS:=Sub.new hq (o:=MO.lst [T.str (a0p a)]);have hMq:(updM M q (MO.lst [T.str (a0p a)])) q=some (.lst [T.str (a0p a)]):=a0d
  generalize updM M q (MO.lst [T.str (a0p a)])=M1 at hS hMq|-
  refine⟨fun i ys M'=>ys=((R.take i).map a2l).map T.str/\M'=M1,⟨rfl,rfl⟩,fun _ _ _ _=>trivial,a0H (by lia),?_,?_⟩
  ·rintro i x ys M' hx ⟨rfl,rfl⟩;rw[c8i] at hx;obtain⟨r,hr,rfl⟩:=c8L.mp hx;exact⟨r,rfl,ok.2.1 r (c8s hr),a4P a2l hr,rfl⟩
  ·rintro ys M' ⟨rfl,rfl⟩ p hp;have hSp:=Sub.new hp (o:=MO.lst (((R.take R.length).map a2l).map T.str));rw[hSp _ _ hMq,c8y];dsimp only;refine⟨a0E (by rw[c8a,c8a];simp only[c8e,c9L];lia),fun r hr=>?_⟩;rw[show [T.str (a0p a)]++(R.map a2l).map T.str=(a0p a::R.map a2l).map T.str from rfl,a1w];rw[c8y] at hSp;dsimp only;exact⟨ok.join,a0s h ((hS.trans hSp).newr hr)⟩
 ·exact h.elim
noncomputable def a3C:Sp3:=fun ts M Q=>match ts with
 |[.tup ps]=>∃p:Po,ps=p.map prT/\SumS p/\Q (.str (a5v p)) M
 |_=>False
theorem c2s{p:Po}{y:Int×Int}:atI (((y::p)).map prT) (-1)=some (prT ((y::p).getLast (c9Y _ _))):=by
 rw[show(y::p).map prT=((y::p).dropLast++[(y::p).getLast (c9Y _ _)]).map prT by rw[d1T],c8v];exact a5J _ _
noncomputable abbrev a7e:=DfD "counts_note" ["whole"] a3C
theorem a9W(Z:Zs K mg)(F:FD K mg "counts_note" a2S ["whole"]):a7e P w K mg base (n+1):=by
 refine F.dfn a5O (by unfold a3C;walk_at "ln") (fun hr=>(a0c (s_if (a6W (a1z (hv 0))) (a0g (a0l a0t)) a0w) (a0c (a0y (i:=1) (a0Q (a6w rfl) Z.b_dict d0r (a0a (hv 0) a0e)) a5O.nd) (a0g (a0l (a2h a0t (a0a (a1k rfl (a6V Z.b_range (a0a (a0z a0u (h_ix (h_ix (hv 0) (h_un a1l a0f)) a0f) a0f) a0e)) (bkS (a0b a2S) ["whole","counts"] ["power","counts"] [none,some 1]) (a0N (i:=0)) (by walk_at "g") (fun _ _ _ _ _=>a1j) (fun _ _ _ _ _=>(a0Q a2B Z.b_str c9q (a0a (b6n hr.units (hv 1) (hv 0) a0f) a0e)))) a0e))))))) fun ts M Q h=>?_;unfold a3C at h;split at h
 ·obtain⟨p,rfl,ok,h⟩:=h;refine a0j fun K1 hK1=>?_;walk_at "rd";cases p with
  |nil=>exact a0i (M:=M) h
  | cons y p =>
    rw[if_neg (by intro z;cases z)];rw[hK1];clear hK1;refine a0j fun K2 hK2=>?_;walk_at "rd";have hnd0:((y::p).map c8J).Nodup:=c9n.mpr (ok.1.1.imp fun h z=>d1K h z);refine⟨dkI (y::p),(b2k _).symm,by rw[a6Y];exact c9n.mpr (hnd0.imp fun h z=>h (d1o z)),fun d hd=>?_⟩;have hS:=Sub.new hd (o:=MO.dk (dkI (y::p)));have hMd:(updM M d (MO.dk (dkI (y::p)))) d=some (.dk (dkI (y::p))):=a0d
    generalize updM M d (MO.dk (dkI (y::p)))=M1 at hS hMd|-
    rw[hK2];clear hK2;walk_at "rd";rw[c2s];obtain⟨x,hx⟩:∃x,x=(y::p).getLast (c9Y _ _):=⟨_,rfl⟩;have hxm:=ok.2.2 x (by rw[hx];exact d3c _)
    have ec:a5v (y::p)=c9O (c8c " ") ((c8I (x.1+1).toNat).map fun(i:Nat)=>a0p (co (y::p) (i:Int))):=by
     unfold a5v;rw[d1O (c9Y _ _),<- hx];dsimp only;rw[c9l];rfl
    rw[<- hx,show prT x=T.tup [T.int x.1,T.int x.2] from rfl];dsimp only;rw[a1u];dsimp only;have hk:(x.1+1).toNat<=64:=by lia
    have hrl:(a0L 0 (x.1+1).toNat).length=(x.1+1).toNat:=a1f _ _;refine⟨by lia,by lia,fun i ys M'=>ys=((c8I i).map fun(i:Nat)=>a0p (co (y::p) (i:Int))).map T.str/\M'=M1,⟨rfl,rfl⟩,fun _ _ _ _=>trivial,by rw[hrl];exact a0H (by lia),?_,?_⟩
    ·rintro i z ys M' hz ⟨rfl,rfl⟩;obtain⟨hi,rfl⟩:=a3a hz;rw[hMd];dsimp only;refine⟨trivial,.inl (0+(i:Int)),rfl,?_⟩;rw[d2p,a6x (i:Int) hnd0];dsimp only;refine⟨c3m ok (i:Int),?_,rfl⟩;rw[d2b,c8v,c8v];rfl
    ·rintro ys M' ⟨rfl,rfl⟩ q hq;rw[hrl,a1w];dsimp only;rw[ec] at h;exact⟨ok.join hk,a0s h (hS.newr hq)⟩
 ·exact h.elim
noncomputable def a7o:Sp3X:=fun ts M Q E=>match ts with
 | [.str k,.adr p]=>∃g:List Pl,M p=some (.lst (g.map kpT))/\k∈TKs/\GvOK g/\1<=g.length/\(k="same"->∃a b,g=[a,b]/\(a.1≠b.1->E "NoStep" M)) /\
   ((k="same"->∃a b,g=[a,b]/\a.1=b.1)->Q (.str (a6z k g)) M)
 |_=>False
noncomputable abbrev b4b:=DfY "told_of" ["kind","given"] a7o
theorem b7h(Z:Zs K mg)(D_60:b2r P w K mg base n)(D_36:a9q P w K mg base n)(D_27:a5q P w K mg base n)(D_46:a7Q P w K mg base n)(D_37:a9w P w K mg base n)(D_52:a9v P w K mg base n)(D_19:a7e P w K mg base n)(D_26:a5r P w K mg base n)(F:FD K mg "told_of" a8L ["kind","given"]):b4b P w K mg base (n+1):=by
 refine F.dfnX b6Q (by unfold a7o;walk_at "lnx") (fun f cdv A outer s H E E3 hr acc accN=>(a0Z (HS.x (HS.n (s_if (a0o (a0T hr.units) (hv 0) a0t (a0n _)) (a0g (a0l (a0h D_60 hr (a0a (h_ix (hv 1) a0f) a0e)))) a0w))) (a0Z (c1h (HT.x (HT.n (a0o (a0T hr.units) (hv 0) a0t (a0n _)))) (a2E (b5G (a6r acc rfl D_36 hr (a0a (h_ix (hv 1) a0f) (a0a (h_ix (hv 1) a0f) a0e))))) b1g) (a0Z (HS.x (HS.n (s_if (a0o (a0T hr.units) (hv 0) a0t (a0n _)) (a0g (a0l (a0h D_27 hr (a0a (a0h D_46 hr (a0a (h_ix (hv 1) a0f) a0e)) a0e)))) a0w))) (a0Z (HS.x (HS.n (s_if (a0o (a0T hr.units) (hv 0) a0t (a0n _)) (a0g (a0l (a0h D_37 hr (a0a (a0h D_52 hr (a0a (h_ix (hv 1) a0f) a0e)) a0e)))) a0w))) (a2E (HS.x (HS.n (a0l (a0h D_19 hr (a0a (a0h D_26 hr (a0a (h_ix (hv 1) a0f) a0e)) a0e))))))))))) fun ts M Q E h=>?_;unfold a7o at h;split at h
 ·rename_i k p;obtain⟨g,hp,hk,hg,h1,hb,h⟩:=h
  obtain⟨a,g,rfl⟩:∃a g',g=a::g':=by
   cases g with
   |nil=>cases h1
   |cons a g=>exact⟨a,g,rfl⟩
  obtain⟨ok,h4⟩:=hg a (.head _);walk_at "rd";rw[hp];dsimp only;rw[c8g,a1u];dsimp only
  have key:∀(x:Str),k≠"same"->a6z k (a::g)=x->rt3 M Q (.str x) M:=fun x hk e=>by
   rw[<- e];exact a0i (h fun z=>absurd z hk)
  unfold a6z at key;refine a0K (fun c=>?_) fun c1=>?_
  ·refine⟨a.2,rfl,ok,key (wrS a.1 a.2) (by rw[c];decide +kernel) (by rw[if_pos c];rfl)⟩
  refine a0K (fun c=>?_) fun c2=>?_
  ·obtain⟨a',b,e,e1⟩:=hb c;injection e with ea eb;subst ea eb;obtain⟨ok2,_⟩:=hg b (.tail _ (.head _));rw[c8g,a7k];dsimp only;refine⟨a.2,b.2,rfl,rfl,ok,ok2,fun z=>⟨M,Sub.refl,e1 z⟩,fun z=>?_⟩;have:=h fun _=>⟨a,b,rfl,z⟩;unfold a6z at this;rw[if_neg c1,if_pos c] at this;exact a0i this
  refine a0K (fun c=>?_) fun c3=>?_
  ·walk_at "rd";refine⟨a.2,rfl,ok,?_⟩;refine⟨_,rfl,b9b ok,key (a2l (a6N a.1 a.2)) (by rw[c];decide +kernel) (by rw[if_neg c1,if_neg c2,if_pos c];rfl)⟩
  refine a0K (fun c=>?_) fun c4=>?_
  ·walk_at "rd";refine⟨a.2,rfl,ok,fun hf=>?_⟩;refine⟨_,rfl,hf,key (c2v (b7F a)) (by rw[c];decide +kernel) (by rw[if_neg c1,if_neg c2,if_neg c3,if_pos c];rfl)⟩
  have c5:k≠"same":=c2;obtain⟨g1,g2⟩:=b8t ok h4;walk_at "rd";refine⟨a.2,rfl,ok,g1,?_⟩;refine⟨_,rfl,g2,key (a5v (b0f a.1 a.2)) c5 (by rw[if_neg c1,if_neg c2,if_neg c3,if_neg c4];rfl)⟩
 ·exact h.elim
noncomputable def a2I(C:Addr):Sp3:=fun ts M Q=>match ts with
 |[.adr a]=>M a=some (.ob C [])/\∀b,M b=none->Q .non (updM (updM M b (.dk [])) a (.ob C [("kept",.adr b)]))
 |_=>False
noncomputable abbrev a5t(CD f P w K mg base n):=DfA P w K mg base n f ["self"] (a2I CD)
theorem a8l{f fd}(F:Fun K "__init__" "Desk.__init__" a2c f fd)(hb:a3n K fd ["self"] [])(Z:Zs K mg){CD f_0 f_1 f_2 f_3 f_4:Addr}(DK:DeskN K mg CD f_0 f_1 f_2 f_3 f_4) :a5t CD f P w K mg base (n+1):=by
 refine Fun.dfnA (F.fnk a8g (by unfold a2I;walk_at "ln") ⟨_,fun cdv A outer s H E hr=>(a0g (c7s DK.c DK.n_kept (hv 0) b0M)),fun ts M Q h=>?_⟩) F.kp hb;unfold a2I at h;split at h
 ·rename_i a;obtain⟨ha,h⟩:=h;walk_at "rd";intro b hb;have hab:a≠b:=fun z=>by rw[z,hb] at ha;cases ha
  rw[a0k hab,ha];exact⟨rfl,by show 0<1000;decide,a0i (h b hb)⟩
 ·exact h.elim
noncomputable def a3E(C:Addr):Sp3:=fun ts M Q=>match ts with
 |[.adr a]=>∃b kvs,M a=some (.ob C [("kept",.adr b)])/\M b=some (.dk kvs)/\∀r,M r=none->Q (.adr r) (updM M r (.dk kvs))
 |_=>False
noncomputable abbrev a7g(CD f P w K mg base n):=DfA P w K mg base n f ["self"] (a3E CD)
theorem a9Z{f fd}(F:Fun K "plaits" "Desk.plaits" a2T f fd)(hb:a3n K fd ["self"] [])(Z:Zs K mg){CD f_0 f_1 f_2 f_3 f_4:Addr}(DK:DeskN K mg CD f_0 f_1 f_2 f_3 f_4) :a7g CD f P w K mg base (n+1):=by
 refine Fun.dfnA (F.fnk a9Q (by unfold a3E;walk_at "ln") ⟨_,fun cdv A outer s H E hr=>(a0g (a0l (a0Q b5s Z.b_dict d0r (a0a (b5h DK.c DK.n_kept (hv 0)) a0e)))),fun ts M Q h=>?_⟩) F.kp hb;unfold a3E at h;split at h
 ·rename_i a;obtain⟨b,kvs,ha,hb,h⟩:=h;walk_at "rd";rw[ha];refine⟨rfl,.adr b,rfl,?_⟩;dsimp only;rw[hb];exact fun r hr=>a0i (h r hr)
 ·exact h.elim
noncomputable def a5b(C:Addr):Sp3:=fun ts M Q=>match ts with
 |[.adr a,.adr p]=>∃(b:Addr) (D:Dk) (nm:Str) (n:Int) (ws:LSI),M a=some (.ob C [("kept",.adr b)])/\M b=some (.dk (dkD D))/\D.length<=5/\M p=some (.lst ((nm::plW n ws).map .str))/\nm∈NMs/\PlOK n ws/\Q (.str "kept") (updM M b (.dk (dkD (putD D nm (n,ws)))))
 |_=>False
noncomputable abbrev a9C(CD f P w K mg base n):=DfA P w K mg base n f ["self","words"] (a5b CD)
theorem b3v{f fd}(F:Fun K "keep" "Desk.keep" a4r f fd)(hb:a3n K fd ["self","words"] [])(Z:Zs K mg){CD f_0 f_1 f_2 f_3 f_4:Addr}(DK:DeskN K mg CD f_0 f_1 f_2 f_3 f_4)(D_53:a9t P w K mg base n)(D_62:c3i P w K mg base n):a9C CD f P w K mg base (n+1):=by
 refine Fun.dfnA (F.fnk b2X (by unfold a5b;walk_at "ln") ⟨_,fun cdv A outer s H E hr=>(a0c (s_if (HW.ht (w_or (a6W (a1z (hv 1))) (c3u (a6W (a1z (a0h D_53 hr (a0a (h_ix (hv 1) a0f) a0e))))))) (a0g (a0l a0t)) a0w) (a0c (c2T (a0g (b6W hr.units (a0h D_62 hr (a0a (a2h a0t (a0a (a1s (hv 1) (a2m a0f) a2n) a0e)) a0e)) (b5h DK.c DK.n_kept (hv 0)) (h_ix (hv 1) a0f)))) (a0g (a0l a0t)))),fun ts M Q h=>?_⟩) F.kp hb;unfold a5b at h;split at h
 ·rename_i a p;obtain⟨b,D,nm,n,ws,ha,hb,h5,hp,hnm,ok,h⟩:=h;refine a0j fun K1 hK1=>?_;walk_at "rd";rw[hp];dsimp only;rw[c8g];dsimp only[d2M,d5B];rw[if_neg (by decide),a1u];dsimp only;refine⟨hnm,?_⟩;dsimp only;rw[if_neg (by decide),hK1];clear hK1;refine a0j fun K2 hK2=>?_;walk_at "rd";rw[hp];dsimp only;intro r hr
  have ec:cutT (c8N T.str (nm::plW n ws)) (some 1) none=(plW n ws).map T.str:=by
   rw[a1e _ _ (by decide)];rfl
  rw[ec,a1w];dsimp only;have hS:=Sub.new hr (o:=MO.lst ((plW n ws).map T.str));have a1:=hS _ _ ha;have b1:=hS _ _ hb;have p1:=hS _ _ hp;have hbr:M b≠none:=by rw[hb];intro z;cases z
  generalize updM M r (MO.lst ((plW n ws).map T.str))=M1 at hS a1 b1 p1|-
  refine⟨a5G (b:=8) (by decide +kernel) (fun y hy=>(c2X ok y hy).2) (by unfold plW;rw[c8e,c8a];have:=ok.2.2.1;lia),n,ws,c1A n ws,ok,?_⟩;dsimp only;rw[a1];refine⟨rfl,.adr b,rfl,?_⟩;rw[p1];dsimp only;rw[c8g,a1u];dsimp only;rw[b1];refine⟨.inr nm,rfl,by unfold dkD;rw[c8a];exact c8D h5 (by decide),?_⟩;rw[show(T.tup [T.int n,T.tup (ws.map T.int)])=kpT (n,ws) from rfl,a8s,hK2];clear hK2;walk_at "rd";exact a0s h hS.up
 ·exact h.elim
noncomputable def a5c(C:Addr):Sp3X:=fun ts M Q E=>match ts with
 | [.adr a,.str k,.str nm,.adr p]=>∃(b:Addr) (D:Dk) (g:List Pl),M a=some (.ob C [("kept",.adr b)])/\M b=some (.dk (dkD D))/\DkOK D/\M p=some (.lst (g.map kpT))/\GvOK g /\
   ((k="drop"/\(atD D nm).isSome/\Q (.str "dropped") (updM M b (.dk (dkD (b7N D nm))))) \/
    (k∈MKs/\nm∈NMs/\1<=g.length/\(k="behind"->∃x y,g=[x,y]/\(x.1≠y.1->E "NoStep" M)/\(x.1=y.1->16<x.2.length+y.2.length->E "NoRoom" M))/\((k="behind"->∃x y,g=[x,y]/\x.1=y.1/\x.2.length+y.2.length<=16)->Q (.str "kept") (updM M b (.dk (dkD (putD D nm (a3Q k g))))))) \/
    (k∈TKs/\1<=g.length/\(k="same"->∃x y,g=[x,y]/\(x.1≠y.1->E "NoStep" M))/\((k="same"->∃x y,g=[x,y]/\x.1=y.1)->Q (.str (a6z k g)) M)))
 |_=>False
noncomputable abbrev a9D(CD f P w K mg base n):=DfXA P w K mg base n f ["self","kind","name","given"] (a5c CD)
theorem b3w{f fd}(F:Fun K "done" "Desk.done" a4s f fd)(hb:a3n K fd ["self","kind","name","given"] [])(Z:Zs K mg){CD f_0 f_1 f_2 f_3 f_4:Addr}(DK:DeskN K mg CD f_0 f_1 f_2 f_3 f_4)(D_63:c3j P w K mg base n)(D_55:b4b P w K mg base n):a9D CD f P w K mg base (n+1):=by
 obtain⟨tk_MAKING,c_MAKING⟩:=Z.c_MAKING;refine F.dfnXA hb b2Y (by unfold a5c;walk_at "lnx") ⟨_,fun cdv A outer s H E E3 hr acc accN=>(a0Z (HS.x (HS.n (s_if (a0o (a0T hr.units) (hv 1) a0t (a0n _)) (a0c (a2x (c3d (b5h DK.c DK.n_kept (hv 0)) (hv 2))) (a0g (a0l a0t))) a0w))) (a0Z (c1h (HT.x (HT.n (a0o b9f (hv 1) (a2i c_MAKING) rfl))) (a0Z (c5H hr.units (a6r acc rfl D_63 hr (a0a (hv 1) (a0a (hv 3) a0e))) (b5h DK.c DK.n_kept (hv 0)) (hv 2)) (a2E (HS.x (HS.n (a0l a0t))))) b1g) (a2E (b5G (a6r acc rfl D_55 hr (a0a (hv 1) (a0a (hv 3) a0e))))))),fun ts M Q E h=>?_⟩;unfold a5c at h;split at h
 ·rename_i a k nm p;obtain⟨b,D,g,ha,hb,hD,hp,hg,h⟩:=h;refine a0j fun K1 hK1=>?_;walk_at "rd";refine a0K (fun c=>?_) fun c1=>?_
  ·rw[ha];refine⟨rfl,.adr b,rfl,?_⟩;dsimp only;rw[hb];rcases h with ⟨_,hat,h⟩|⟨hk,_⟩|⟨hk,_⟩
   ·obtain⟨q,hq⟩:=c9y.mp hat;refine⟨trivial,.inr nm,kpT q,rfl,by rw[a3Y,hq];rfl,?_⟩;rw[b3Y];exact a0i h
   ·exfalso;rw[c] at hk
    revert hk;decide +kernel
   ·exfalso;rw[c] at hk
    revert hk;decide +kernel
  ·rw[hK1];clear hK1;walk_at "rd";have e5:[T.str (c8c "turned"),T.str (c8c "mirrored"),T.str (c8c "flipped"),T.str (c8c "shorter"),T.str (c8c "behind")]=MKs.map .str:=rfl;rw[e5,b5e];refine⟨rfl,by unfold MKs;rfl,?_⟩;rcases h with ⟨hk,_⟩|⟨hk,hnm,h1,hx,h⟩|⟨hk,h1,hx,h⟩
   ·exact absurd hk c1
   ·rw[decide_eq_true hk,if_pos rfl];refine⟨g,hp,hk,hg,h1,fun z=>?_,fun z=>?_⟩
    ·obtain⟨x,y,e,e1,e2⟩:=hx z;exact⟨x,y,e,fun w=>⟨M,Sub.refl,e1 w⟩,fun w1 w2=>⟨M,Sub.refl,e2 w1 w2⟩⟩
    ·dsimp only;rw[ha];refine⟨rfl,.adr b,rfl,?_⟩;dsimp only;rw[hb];refine⟨.inr nm,rfl,by unfold dkD;rw[c8a];exact c8D hD.len (by decide),?_⟩;rw[a8s];exact a0i (h z)
   ·have nk:k∉MKs:=by
     have:∀k∈TKs,k∉MKs:=by decide +kernel
     exact this k hk
    rw[decide_eq_false nk,if_neg c8F];refine⟨g,hp,hk,hg,h1,fun z=>?_,fun z=>a0i (h z)⟩;obtain⟨x,y,e,e1⟩:=hx z;exact⟨x,y,e,fun w=>⟨M,Sub.refl,e1 w⟩⟩
 ·exact h.elim
noncomputable def SayW(Q:VK3)(M:MH)(b:Addr)(D:Dk)(k:Str)(rest:LSS):Prop :=
 (k="keep"/\∃(nm:Str) (n:Int) (ws:LSI),rest=nm::plW n ws/\nm∈NMs/\PlOK n ws/\Q (.str "kept") (updM M b (.dk (dkD (putD D nm (n,ws)))))) \/
 (k="names"/\rest=[]/\∀ms:LSS,ms.Perm (D.map c8J)->sortedS ms=true->Q (.str (b0B D ms)) M) \/
 (LnOK k rest/\Q (.str (ansF D k rest).1) (updM M b (.dk (dkD (ansF D k rest).2))))
noncomputable def a6a(C:Addr):Sp3:=fun ts M Q=>match ts with
 |[.adr a,.str line]=>∃(b:Addr) (D:Dk) (k:Str) (rest:LSS),M a=some (.ob C [("kept",.adr b)])/\M b=some (.dk (dkD D))/\DkOK D/\line=c9O (c8c " ") (k::rest)/\SayW Q M b D k rest
 |_=>False
theorem a5l:∀k∈K1s++K2s++[("behind":Str)],(32∉k.cps.toList/\k.length<=8)/\k≠"keep"/\k≠"names":=by decide +kernel
theorem b1P:∀k∈NMs,32∉k.cps.toList/\k.length<=8:=by decide +kernel
theorem a7H{k:Str}{rest:LSS}(h:LnOK k rest):k∈K1s++K2s++[("behind":Str)]:=by
 cases h with
 |one hk _=>exact c8O _ (c8O _ hk)
 |two hk _ _=>exact c8O _ (c8Q _ hk)
 |three _ _ _=>exact c8Q _ (c8A.mpr rfl)
theorem b8B{Q:VK3}{M:MH}{b:Addr}{D:Dk}{k:Str}{rest:LSS}(h:SayW Q M b D k rest):c5b 8 (k::rest)/\(k::rest).length<=20:=by
 rcases h with ⟨rfl,nm,n,ws,rfl,hnm,ok,_⟩|⟨rfl,rfl,_⟩|⟨hl,_⟩
 ·refine⟨fun w hw=>?_,by unfold plW;rw[c8e,c8e,c8e,c8a];have:=ok.2.2.1;lia⟩;rcases c8n.mp hw with rfl|hw
  ·decide +kernel
  rcases c8n.mp hw with rfl|hw
  ·exact b1P _ hnm
  ·exact c2X ok w hw
 ·refine⟨fun w hw=>?_,by decide⟩;rw[c8A.mp hw];decide +kernel
 ·obtain⟨_,g2,g3⟩:=a8w (.inl hl);refine⟨fun w hw=>?_,by rw[c8e];lia⟩;rcases c8n.mp hw with rfl|hw
  ·exact(a5l _ (a7H hl)).1
  ·exact b1P _ (g2 w hw)
noncomputable abbrev b0S(CD f P w K mg base n):=DfA P w K mg base n f ["self","line"] (a6a CD)
theorem b4W {f fd} (F:Fun K "say" "Desk.say" a2Z f fd) (hb:a3n K fd ["self","line"] []) (Z:Zs K mg) {CD f_0 f_1 f_2 f_3 f_4:Addr} (DK:DeskN K mg CD f_0 f_1 f_2 f_3 f_4) (D_38:a9C CD f_2 P w K mg base n) (D_54:b4d P w K mg base n) (D_39:a9D CD f_3 P w K mg base n):b0S CD f P w K mg base (n+1):=by
 obtain⟨tk_MAKING,c_MAKING⟩:=Z.c_MAKING;refine Fun.dfnA (F.fnk a6b (by unfold a6a;walk_at "ln") ⟨_,fun cdv A outer s H E hr=>(a0c (a0y (i:=2) (a9j (hv 1) (a0a a0t a0e)) a6b.nd) (a0c (s_if (a0o (a0T hr.units) (h_ix (hv 2) a0f) a0t (a0n _)) (a0g (a0l (b9V DK.c DK.m_keep D_38 hr (hv 0) (a0a (a1s (hv 2) (a2m a0f) a2n) a0e)))) a0w) (a0c (s_if (a6W (a1z (a0h D_54 hr (a0a (hv 2) a0e)))) (a0g (a0l a0t)) a0w) (a0c (s_if (a0o (a0T hr.units) (h_ix (hv 2) a0f) a0t (a0n _)) (a0g (a0l (c7S (a2h a0t (a0a (a0M (a7h rfl) Z.b_sorted d1t (a0a (b5h DK.c DK.n_kept (hv 0)) a0e)) a0e)) (c2i a0t)))) a0w) (a0c (a0y (i:=3) (c2j (a0o b9f (h_ix (hv 2) a0f) (a2i c_MAKING) rfl) (a1s (hv 2) (a2m a0f) a2n) (a1s (hv 2) (a2m a0f) a2n)) a6b.nd) (a0c (s_if (a6W (a1z (a0M (a7i rfl) Z.b_all d1a (a0a (a1k rfl (a1N (hv 3)) (bkS (a0b a2Z) ["self","line","words","old"] ["name","self"] [none,some 0]) (a0N (i:=0)) (by walk_at "g") (fun _ _ _ _ _=>a1j) (fun _ _ _ _ _=>(b9Z (c4p hr.units) (hv 0) (b5h DK.c DK.n_kept (hv 1)) rfl))) a0e)))) (a0g (a0l a0t)) a0w) (a0g (c5F (n1:="NoStep") (n2:="NoRoom") rfl rfl rfl rfl (fun pn xe Ha E3 acc=>(a2E (b5G (c4G acc rfl DK.c DK.m_done D_39 hr (hv 0) (a0a (h_ix (hv 2) a0f) (a0a (h_ix (hv 2) a0f) (a0a (a1k rfl (a1N (hv 3)) (bkS (a0b a2Z) ["self","line","words","old"] ["name","self"] [none,some 0]) (a0N (i:=0)) (by walk_at "g") (fun _ _ _ _ _=>a1j) (fun _ _ _ _ _=>(c2k hr.units (b5h DK.c DK.n_kept (hv 1)) (hv 0)))) a0e))))))) Z.x_two (fun _=>(a0g (a0l a0t))) (fun _=>(a0g (a0l a0t))))))))))),fun ts M Q h=>?_⟩) F.kp hb;unfold a6a at h;split at h
 ·rename_i a line;obtain⟨b,D,k,rest,ha,hb,hD,rfl,h⟩:=h;obtain⟨w1,w2⟩:=b8B h;have hll:(c9O (c8c " ") (k::rest)).length<=9*20:=c8C (b2E (b:=8) fun y hy=>(w1 y hy).2) (Nat.mul_le_mul_left 9 w2);refine a0j fun K1 hK1=>?_;walk_at "rd";refine⟨by decide +kernel,a0E (by lia),a8Q _ (by lia),fun r hr=>?_⟩;rw[show d1k (c9O (c8c " ") (k::rest)) (c8c " ")=k::rest from b6O (c0S w1)];have hS:=Sub.new hr (o:=MO.lst ((k::rest).map T.str));have a1:=hS _ _ ha;have b1:=hS _ _ hb;have r1:(updM M r (MO.lst ((k::rest).map T.str))) r=some (.lst ((k::rest).map T.str)):=a0d
  generalize updM M r (MO.lst ((k::rest).map T.str))=M1 at hS a1 b1 r1|-
  clear hr;rw[hK1];clear hK1;refine a0j fun K2 hK2=>?_;walk_at "rd";rw[r1];dsimp only;rw[c8g,a1u];dsimp only;refine a0K (fun c=>?_) fun c1=>?_
  ·rcases h with ⟨_,nm,n,ws,rfl,hnm,ok,h⟩|⟨e,_⟩|⟨hl,_⟩
   ·rw[a1];refine⟨rfl,rfl,?_⟩;intro q hq
    have ec:cutT (T.str k::c8N T.str (nm::plW n ws)) (some 1) none=c8N T.str (nm::plW n ws):=by
     rw[a1e _ _ (by decide)];rfl
    rw[ec];have hSq:=Sub.new hq (o:=MO.lst (c8N T.str (nm::plW n ws)));have a2:=hSq _ _ a1;have b2:=hSq _ _ b1;have q2:(updM M1 q (MO.lst (c8N T.str (nm::plW n ws)))) q=some (.lst (c8N T.str (nm::plW n ws))):=a0d;have hS2:=hS.trans hSq
    generalize updM M1 q (MO.lst (c8N T.str (nm::plW n ws)))=M2 at hS2 a2 b2 q2|-
    exact⟨b,D,nm,n,ws,a2,b2,hD.len,q2,hnm,ok,a0s h hS2.up⟩
   ·exfalso;rw[c] at e
    revert e;decide +kernel
   ·exact absurd c (a5l _ (a7H hl)).2.1
  ·rw [hK2];clear hK2;refine a0j fun K3 hK3=>?_;walk_at "rd"
   have h2:LnOK k rest\/(k="names"/\rest=[]):=by
    rcases h with ⟨e,_⟩|⟨e1,e2,_⟩|⟨hl,_⟩
    ·exact absurd e c1
    ·exact .inr ⟨e1,e2⟩
    ·exact .inl hl
   refine⟨k,rest,r1,h2,?_⟩;dsimp only;rw[if_neg (by decide),hK3];clear hK3;refine a0j fun K4 hK4=>?_;walk_at "rd";rw[r1];dsimp only;rw[c8g,a1u];dsimp only;refine a0K (fun c=>?_) fun c2=>?_
   ·rcases h with ⟨e,_⟩|⟨_,_,h⟩|⟨hl,_⟩
    ·exact absurd e c1
    ·rw [a1];refine⟨rfl,.adr b,rfl,?_⟩;dsimp only;rw[b1];refine⟨D.map c8J,b2l D,by rw[c8a];exact c8D hD.len (by decide),fun ms hp hs q hq=>?_⟩
     have hms:∀y∈ms,y.length<=8/\1<=y.length:=fun y hy=>by
      obtain⟨x,hx,rfl⟩:=c8q.mp (hp.mem_iff.mp hy);obtain⟨_,g2,g3,_⟩:=b0C _ (hD.nm x hx);exact⟨g3,g2⟩
     have hml:ms.length=D.length:=by rw[hp.length_eq,c8a]
     have h5:=hD.len;have hjl:=b2E (b:=8) fun y hy=>(hms y hy).1;have hf:=h ms hp hs;have hSq:=hS.newr hq (o:=MO.lst (c8N T.str ms));unfold b0B at hf;refine⟨a5G (b:=8) (by decide +kernel) (fun y hy=>(hms y hy).1) (by lia),c8C (show(c9O (c8c " ") ms).length<=45 from by change (c9O (c8c " ") ms).length<=(8+1)*ms.length at hjl;lia) (by decide),fun z=>?_,fun z=>?_⟩
     ·cases ms with
      | nil =>
        rw[show D.isEmpty=true from List.isEmpty_iff.mpr (c9e hml.symm),if_pos rfl] at hf;exact a0s hf hSq
      | cons y ms =>
        have:=b8f (xs:=ms) (hms y (.head _)).2;exact absurd z (Nat.pos_iff_ne_zero.mp this)
     ·cases ms with
      |nil=>exact absurd (show(c9O (c8c " ") []).length=0 by decide +kernel) z
      | cons y ms =>
        rw[show D.isEmpty=false from d1D.mpr fun w=>by (rw[List.isEmpty_iff.mp w] at hml;cases hml),if_neg c8F] at hf;exact a0s hf hSq
    ·exact absurd c (a5l _ (a7H hl)).2.2
   ·rcases h with ⟨e,_⟩|⟨e,_⟩|⟨hl,h⟩
    ·exact absurd e c1
    ·exact absurd e c2
    rw[hK4];clear hK4;refine a0j fun K5 hK5=>?_;have g3:=(a8w (.inl hl)).2.2
    have key:∀q,M1 q=none->K5 [some (T.adr a),some (T.str (c9O (c8c " ") (k::rest))),some (T.adr r),some (T.adr q)] (updM M1 q (MO.lst ((oldW k rest).map T.str))):=fun q hq=>by
     have hlo:(oldW k rest).length<=3:=by
      unfold oldW;split
      ·rw[c9s];lia
      ·exact g3
     have hS2:=hS.newr hq (o:=MO.lst ((oldW k rest).map T.str));have hSq:=Sub.new hq (o:=MO.lst ((oldW k rest).map T.str));have a2:=hSq _ _ a1;have b2:=hSq _ _ b1;have r2:=hSq _ _ r1;have q2:(updM M1 q (MO.lst ((oldW k rest).map T.str))) q=some (.lst ((oldW k rest).map T.str)):=a0d
     generalize updM M1 q (MO.lst ((oldW k rest).map T.str))=M2 at hS2 a2 b2 r2 q2|-
     clear hSq hq;rw[hK5];clear hK5;refine a0j fun K6 hK6=>?_;walk_at "rd";rw[q2];refine⟨fun i ys M'=>ys=(((oldW k rest).take i).map fun w=>(atD D w).isSome).map T.bl/\M'=M2,⟨rfl,rfl⟩,?_,a0H (by rw[c8a];lia),?_,?_⟩
     ·rintro i ys M' ⟨_,rfl⟩;exact q2
     ·rintro i x ys M' hx ⟨rfl,rfl⟩;rw[c8i] at hx;obtain⟨w,hw,rfl⟩:=c8L.mp hx;rw[a2];refine⟨rfl,.adr b,rfl,?_⟩;dsimp only;rw[b2];refine⟨.inr w,rfl,?_,rfl⟩;rw[a3Y,d1d,<- a0F (fun w=>(atD D w).isSome) hw,c8v];rfl
     ·rintro ys M' ⟨rfl,rfl⟩ p hp;rw[c8a,c8y,a5z];dsimp only;rw[d4K];have hS3:=hS2.newr hp (o:=MO.lst (((oldW k rest).map fun w=>(atD D w).isSome).map T.bl));have hSp:=Sub.new hp (o:=MO.lst (((oldW k rest).map fun w=>(atD D w).isSome).map T.bl));have a3:=hSp _ _ a2;have b3:=hSp _ _ b2;have r3:=hSp _ _ r2;have q3:=hSp _ _ q2
      generalize updM M' p (MO.lst (((oldW k rest).map fun w=>(atD D w).isSome).map T.bl))=M3 at hS3 a3 b3 r3 q3|-
      clear hSp hp;unfold ansF at h;refine ite2 (fun c=>?_) (fun c=>?_)
      ·have c2:(oldW k rest).all (fun w=>(atD D w).isSome)=false:=c;rw[if_neg (by rw[c2];exact c8F)] at h;rw[a2v hb] at h;exact a0s h hS3
      ·have c':(oldW k rest).all (fun w=>(atD D w).isSome)=true:=Bool.not_eq_false _▸c;rw[if_pos c'] at h;have hg:=c4I hD c';rw[hK6];clear hK6;walk_at "rd";rw[a3];refine⟨rfl,rfl,?_⟩;rw[r3];dsimp only;obtain⟨nm,rest',er⟩:∃nm rest',rest=nm::rest':=by cases hl<;>exact⟨_,_,rfl⟩
       rw[er,c8g,c8g,a1u,a7k];dsimp only;rw[q3];refine⟨fun i ys M'=>ys=(((oldW k rest).take i).map fun w=>(atD D w).getD (0,[])).map kpT/\M'=M3,⟨rfl,rfl⟩,?_,a0H (by rw[c8a];lia),?_,?_⟩
       ·rintro i ys M4 ⟨_,rfl⟩;exact q3
       ·rintro i x ys M4 hx ⟨rfl,rfl⟩;rw[c8i] at hx;obtain⟨w,hw,rfl⟩:=c8L.mp hx;rw[a3];refine⟨rfl,.adr b,rfl,?_⟩;dsimp only;rw[b3];obtain⟨z,hz⟩:=c9y.mp (c9N.mp c' w (c8s hw));refine⟨.inr w,kpT z,rfl,by rw[a3Y,hz];rfl,?_,rfl⟩;rw[<- a0F (fun w=>(atD D w).getD (0,[])) hw,c8v,hz];rfl
       ·rintro ys M4 ⟨rfl,rfl⟩ p hp;rw[c8a,c8y];have er2:rest.getD 0 ""=nm:=by rw[er];rfl
        rw[er2] at h;have eg:∀w∈oldW k rest,∃z,atD D w=some z:=fun w hw=>c9y.mp (c9N.mp c' w hw)
        generalize hgg:((oldW k rest).map fun w=>(atD D w).getD (0,[]))=g at h hg|-
        have hS4:=hS3.newr hp (o:=MO.lst (g.map kpT));have hSp:=Sub.new hp (o:=MO.lst (g.map kpT));have a4:=hSp _ _ a3;have b4:=hSp _ _ b3;have p4:(updM M4 p (MO.lst (g.map kpT))) p=some (.lst (g.map kpT)):=a0d
        generalize updM M4 p (MO.lst (g.map kpT))=M5 at hS4 a4 b4 p4|-
        refine⟨b,D,g,a4,b4,hD,p4,hg,?_⟩
        have stay:∀x,doF k nm g D=(x,D)->rt3 M Q (T.str x) M5:=fun x e=>by
         rw[e] at h;dsimp only at h;rw[a2v hb] at h;exact a0s h hS4
        have goes:∀x D',doF k nm g D=(x,D')->rt3 M Q (T.str x) (updM M5 b (.dk (dkD D'))):=fun x D' e=>by
         rw[e] at h;exact a0s h hS4.up
        clear h;cases hl with
        | @one _ x hk hx =>
          obtain⟨rfl,rfl⟩:x=nm/\[]=rest':=by injection er with e1 e2;exact⟨e1,e2⟩
          have nm1:k∉MKs:=(by decide +kernel:∀k∈K1s,k∉MKs) k hk;have eo:oldW k [x]=[x]:=by unfold oldW;exact if_neg nm1
          rw[eo] at hgg eg;obtain⟨z,hz⟩:=eg x (.head _);rw[c8g,c9g,hz] at hgg;subst hgg;by_cases cd:k="drop"
          ·subst cd;exact .inl ⟨rfl,by rw[hz];rfl,goes _ _ c0t⟩
          ·have hb:k≠"behind"/\k≠"same":=(by decide +kernel:∀k∈K1s,k≠"behind"/\k≠"same") k hk;have ht:k∈TKs:=(by decide +kernel:∀k∈K1s,k≠"drop"->k∈TKs) k hk cd;exact .inr (.inr ⟨ht,c8d _,fun w=>absurd w hb.2,fun _=>stay _ (by rw[b6u cd hb.1,if_neg nm1])⟩)
        | @two _ x y hk hx hy =>
          obtain⟨rfl,rfl⟩:x=nm/\[y]=rest':=by injection er with e1 e2;exact⟨e1,e2⟩
          have cd:k≠"drop"/\k≠"behind":=(by decide +kernel:∀k∈K2s,k≠"drop"/\k≠"behind") k hk;by_cases cm:k∈MKs
          ·have eo:oldW k [x,y]=[y]:=by unfold oldW;exact if_pos cm
           rw[eo] at hgg;rw[c8g,c9g] at hgg;subst hgg;exact .inr (.inl ⟨cm,hx,c8d _,fun w=>absurd w cd.2,fun _=>goes _ _ (by rw[b6u cd.1 cd.2,if_pos cm])⟩)
          ·have eo:oldW k [x,y]=[x,y]:=by unfold oldW;exact if_neg cm
           rw[eo] at hgg;rw[c8g,c8g,c9g] at hgg;subst hgg;have hs:k∈TKs:=(by decide +kernel:∀k∈K2s,k∉MKs->k∈TKs) k hk cm;refine .inr (.inr ⟨hs,by show 1<=2;decide,fun w=>⟨_,_,rfl,fun z=>.inl ⟨rfl,stay _ (c4Q cd.1 z)⟩⟩,fun w=>?_⟩);have hk2:k="same":=(by decide +kernel:∀k∈K2s,k∉MKs->k="same") k hk cm;obtain⟨u,v,e,e2⟩:=w hk2;injection e with e3 e4;injection e4 with e4 _;exact stay _ (by rw[b6t cd.1 (by rw[e3,e4];exact e2) fun z=>absurd z cd.2,if_neg cm])
        | @three x y z hx hy hz =>
          obtain⟨rfl,rfl⟩:x=nm/\[y,z]=rest':=by injection er with e1 e2;exact⟨e1,e2⟩
          have cm:("behind":Str)∈MKs:=by decide +kernel
          have cd:("behind":Str)≠"drop":=by decide +kernel
          have eo:oldW "behind" [x,y,z]=[y,z]:=by unfold oldW;exact if_pos cm
          rw[eo] at hgg;rw[c8g,c8g,c9g] at hgg;subst hgg;refine .inr (.inl ⟨cm,hx,by show 1<=2;decide,fun _=>⟨_,_,rfl,fun w=>.inl ⟨rfl,stay _ (c4Q cd w)⟩,fun w1 w2=>.inr ⟨rfl,stay _ (c0s w1 w2)⟩⟩,fun w=>?_⟩);obtain⟨u,v,e,e2,e5⟩:=w rfl;injection e with e3 e4;injection e4 with e4 _;exact goes _ _ (by rw[b6t cd (by rw[e3,e4];exact e2) fun _=>by rw[e3,e4];exact d2G.mpr e5,if_pos cm])
    clear hK5;walk_at "rd";rw[r1];dsimp only;rw[c8g,a1u];dsimp only;have e5:[T.str (c8c "turned"),T.str (c8c "mirrored"),T.str (c8c "flipped"),T.str (c8c "shorter"),T.str (c8c "behind")]=MKs.map .str:=rfl;rw[e5,b5e];refine⟨rfl,by unfold MKs;rfl,?_⟩;unfold oldW at key;by_cases c:k∈MKs
    ·rw[decide_eq_true c,if_pos rfl];rw[if_pos c] at key;intro q hq
     have ec:cutT (T.str k::rest.map T.str) (some 2) none=(rest.drop 1).map T.str:=by
      rw[a1e _ _ (by decide),d1B];rfl
     rw[ec];exact key q hq
    ·rw[decide_eq_false c,if_neg c8F];rw[if_neg c] at key;intro q hq
     have ec:cutT (T.str k::rest.map T.str) (some 1) none=rest.map T.str:=by
      rw[a1e _ _ (by decide)];rfl
     rw[ec];exact key q hq
 ·exact h.elim
noncomputable def a3d:Sp3:=fun ts M Q=>match ts with
 |[.rd s,.int k]=>∃ns:LSI,s=ns.map .int/\0<=k/\∀c,Q (.int c) M
 |_=>False
noncomputable abbrev a5S:=DfD "_law_cell_at" ["script","k"] a3d
theorem a8U(Z:Zs K mg)(F:FD K mg "_law_cell_at" a3H ["script","k"]):a5S P w K mg base (n+1):=by
 refine F.dfn a8K (by unfold a3d;walk_at "ln") (fun hr=>(a0c (s_if (a0o a5P (hv 1) (a0M a0Y Z.b_len PySem.boot_len (a0a (hv 0) a0e)) (a0n _)) (a0g (a0l (h_ix (hv 0) (hv 1)))) a0w) (a0g (a0l a0f)))) fun ts M Q h=>?_;unfold a3d at h;split at h
 ·rename_i s k;obtain⟨ns,rfl,h0,h⟩:=h;walk_at "rd";refine ite2 (fun c=>?_) (fun c=>a0i (h _));rw[a8x ns k h0 c];exact a0i (h _)
 ·exact h.elim
noncomputable def a4f:Sp3:=fun ts M Q=>match ts with
 |[.rd s,.int k]=>∃ns:LSI,s=ns.map .int/\0<=k/\∀p n f,M p=none->Q (.adr p) (updM M p (.lst [.int n,.bl f]))
 |_=>False
noncomputable abbrev a8c:=DfD "_law_state" ["script","k"] a4f
theorem b1M(Z:Zs K mg)(D_12:a5S P w K mg base n)(F:FD K mg "_law_state" a5h ["script","k"]):a8c P w K mg base (n+1):=by
 refine F.dfn a6G (by unfold a4f;walk_at "ln") (fun hr=>(a0c (a0y (i:=2) (a0h D_12 hr (a0a (hv 0) (a0a (hv 1) a0e))) a6G.nd) (a0c (s_if (a0o c6s (hv 2) (a0z b9d a0f a0f) (a0n _)) (a0g (a0l (a3h (a0a (a0z a1i (hv 2) (a0z b9d a0f a0f)) (a0a h_bl a0e))))) a0w) (a0g (a0l (a3h (a0a (a0z a6o (hv 2) a0f) (a0a h_bl a0e)))))))) fun ts M Q h=>?_;unfold a4f at h;split at h
 ·rename_i s k;obtain⟨ns,rfl,h0,h⟩:=h;walk_at "rd";refine⟨ns,rfl,h0,fun c=>?_⟩;walk_at "rd";refine⟨⟨by decide,by decide,by decide⟩,?_⟩;refine ite2 (fun _=>⟨⟨by decide,by decide,by decide⟩,by decide,fun p hp=>a0i (h _ _ _ hp)⟩) (fun _=>⟨by decide,by decide,fun p hp=>a0i (h _ _ _ hp)⟩)
 ·exact h.elim
theorem b6C{x y k:Int}(hk:0<k)(hk':k<=2^64):CMul (x%k) y:=by
 have h1:=d3u x (d0I hk);have h2:=d2s x hk;exact .inl ⟨by lia,by lia⟩
theorem c0F{x m:Int}(h0:0<m)(h1:m<2^100):c5e x m:=by
 refine⟨h0,?_⟩;have:m.natAbs.log2<100:=(d6h (by lia)).mpr (by lia);lia
noncomputable def a1J:Sp3:=fun ts M Q=>match ts with
 |[.adr p,.int m]=>∃s f,M p=some (.lst [.int s,.bl f])/\0<m/\m<2^100/\∀c s',0<=c->c<m->Q (.int c) (updM M p (.lst [.int s',.bl f]))
 |_=>False
noncomputable abbrev a2j:=DfD "_law_choice" ["state","many"] a1J
theorem a9X(Z:Zs K mg)(F:FD K mg "_law_choice" a4q ["state","many"]):a2j P w K mg base (n+1):=by
 refine F.dfn a2t (by unfold a1J;walk_at "ln") (fun hr=>(a0c (s_if (a1z (h_ix (hv 0) a0f)) (a0c (a0y (i:=2) (a0z a6o (h_ix (hv 0) a0f) (hv 1)) a2t.nd) (a0c (c1i (a0z b9g (h_ix (hv 0) a0f) (hv 1)) (c2u (hv 0) a0f)) (a0g (a0l (hv 2))))) a0w) (a0c (c1i (a0z a6o (a0z a0u (a0z a6n (h_ix (hv 0) a0f) a0f) a0f) a0f) (c2u (hv 0) a0f)) (a0c (a0y (i:=3) (a0z a6o (a0z a0u (a0z a0u (a0z a6n (h_ix (hv 0) a0f) (h_ix (hv 0) a0f)) (a0z a6n a0f (h_ix (hv 0) a0f))) a0f) a0f) a2t.nd) (a0c (a0y (i:=3) (a0z a6o (a0z a0u (a0z a6n (hv 3) (hv 3)) (a0z a6n a0f (hv 3))) a0f) a2t.nd) (a0g (a0l (a0z a6o (a0z b9g (hv 3) a0f) (hv 1))))))))) fun ts M Q h=>?_;unfold a1J at h;split at h
 ·rename_i p m;obtain⟨s,f,hM,h0,h1,h⟩:=h;refine a0j fun K1 hK1=>?_
  have hk:K1 [some (.adr p),some (.int m),none,none] M:=by
   rw[hK1];clear hK1;refine a0j fun K2 hK2=>?_;walk_at "rd";simp only[hM];walk_at "rd";refine⟨.inr ⟨by decide,by decide⟩,by decide,?_⟩;have hM2:updM M p (.lst [.int ((s*48271+29)%2147483647),.bl f]) p=some (.lst [.int ((s*48271+29)%2147483647),.bl f]):=a0d;have b0:CMul ((s*48271+29)%2147483647) ((s*48271+29)%2147483647):=b6C (by decide) (by decide)
   generalize (s*48271+29)%2147483647=s1 at hM2 b0|-
   rw[hK2];clear hK2;refine a0j fun K3 hK3=>?_;walk_at "rd";refine⟨b0,.inl ⟨by decide,by decide⟩,by decide,?_⟩;have b1:∀y,CMul ((s1*s1+39373*s1+7)%2147483629) y:=fun y=>b6C (by decide) (by decide)
   generalize (s1*s1+39373*s1+7)%2147483629=mx at b1|-
   rw[hK3];clear hK3;walk_at "rd";refine⟨b1 _,.inl ⟨by decide,by decide⟩,by decide,c0F (by decide) (by decide),h0,?_⟩;have hh:=h (((mx*mx+16807*mx)%2147483587) / 8%m) s1 (d3u _ (d0I h0)) (d2s _ h0);refine a0s hh ?_;exact Sub.refl
  walk_at "rd";simp only[hM];walk_at "rd";exact ite2 (fun c=>⟨h0,c0F h0 h1,a0i (h _ _ (d3u _ (d0I h0)) (d2s _ h0))⟩) (fun c=>hk)
 ·exact h.elim
noncomputable def a4Y:Sp3:=fun ts M Q=>match ts with
 |[.adr p,.int n,.int c]=>∃s f,M p=some (.lst [.int s,.bl f])/\n<2^60/\0<=c/\c<=1000/\∀(w:LSI) s',a0S n w->(w.length:Int)<=c->(2<=n->(w.length:Int)=c)->Q (.tup (w.map .int)) (updM M p (.lst [.int s',.bl f]))
 |_=>False
noncomputable abbrev a9z:=DfD "_law_word" ["state","strands","count"] a4Y
theorem b3s(Z:Zs K mg)(D_21:a2j P w K mg base n)(F:FD K mg "_law_word" a4p ["state","strands","count"]):a9z P w K mg base (n+1):=by
 refine F.dfn b2V (by unfold a4Y;walk_at "ln") (fun hr=>(a0c (s_if (a0o a5P (hv 1) a0f (a0n _)) (a0g (a0l (a2N a0e))) a0w) (a0g (a0l (a0Q a1c Z.b_tuple c8W (a0a (a1k rfl (a6V Z.b_range (a0a (hv 2) a0e)) (bkS (a0b a4p) ["state","strands","count"] ["k","state","strands"] [none,some 0,some 1]) (a0N (i:=0)) (by walk_at "g") (fun _ _ _ _ _=>a1j) (fun _ _ _ _ _=>(a0z a6n (h_ix (a3h (a0a a0f (a0a (h_un a1l a0f) a0e))) (a0h D_21 hr (a0a (hv 1) (a0a a0f a0e)))) (a0z a0u a0f (a0h D_21 hr (a0a (hv 1) (a0a (a0z a1i (hv 2) a0f) a0e))))))) a0e)))))) fun ts M Q h=>?_;unfold a4Y at h;split at h
 ·rename_i p n c;obtain⟨s,f,hM,hn,h0,h1,h⟩:=h;walk_at "rd";refine ite2 (fun hc=>?_) (fun hc=>⟨by lia,by lia,?_⟩)
  ·have:=h [] s (fun _ z=>nomatch z) (by simpa using h0) (by lia);rw[a2v hM] at this;exact a0i this
  ·refine⟨fun i ys M'=>∃w s',ys=w.map T.int/\w.length=i/\a0S n w/\Sub (updM M p (.lst [.int s',.bl f])) M',⟨[],s,rfl,rfl,(fun _ z=>nomatch z),by rw[a2v hM];exact Sub.refl⟩,fun _ _ _ _=>trivial,?_,?_,?_⟩
   ·unfold a0L;rw[c8a,c9u];exact c8D (by lia:c.toNat<=1000) (by decide)
   ·rintro i x ys M' hx ⟨w,s',rfl,rfl,hw,hS⟩;walk_at "rd";refine⟨by decide,fun r hr=>?_⟩;have hM':=hS p _ a0d;have hpr:p≠r:=b4Z hM' hr;refine⟨s',f,by rw[a0k hpr,hM'],by decide,by decide,fun c1 s1 hc0 hc1=>?_⟩;simp only[a0k hpr.symm,a0d];have hcc:c1=0\/c1=1:=by lia
    have fin:∀g:Int,(g=1\/g=-1)->∀c2 s2:Int,0<=c2->c2<n-1->CMul g (1+c2)/\∃w' s'',c8N T.int w++[T.int (g*(1+c2))]=c8N T.int w'/\w'.length=w.length+1/\a0S n w' /\
      Sub (updM M p (.lst [.int s'',.bl f])) (updM (updM M' r (.lst [.int 1,.int (-1)])) p (.lst [.int s2,.bl f])):=by
     intro g hg c2 s2 h20 h21;refine⟨.inl ⟨by lia,by lia⟩,w++[g*(1+c2)],s2,by simp,by simp,fun l hl=>?_,(hS.newr hr).set⟩;rcases c8U.mp hl with z|z
     ·exact hw l z
     ·have e:l=g*(1+c2):=by simpa using z
      subst e;unfold a1H;rcases hg with rfl|rfl
      ·rw[Int.one_mul];lia
      ·rw[Int.neg_one_mul];lia
    rcases hcc with rfl|rfl
    ·walk_at "rd";exact⟨s1,f,a0d,by lia,by lia,fun c2 s2 h20 h21=>by walk_at "rd";exact fin 1 (.inl rfl) c2 s2 h20 h21⟩
    ·walk_at "rd";exact⟨s1,f,a0d,by lia,by lia,fun c2 s2 h20 h21=>by walk_at "rd";exact fin (-1) (.inr rfl) c2 s2 h20 h21⟩
   ·rintro ys M' ⟨w,s',rfl,hl,hw,hS⟩ q hq
    have hlen:(w.length:Int)=c:=by
     rw[hl];unfold a0L;rw[c8a,c9u];lia
    exact a0s (h w s' hw (by lia) (fun _=>hlen)) (hS.newr hq)
 ·exact h.elim
noncomputable def a4g:Sp3:=fun ts M Q=>match ts with
 |[.adr p,.int a,.int b,.int c]=>∃s f,M p=some (.lst [.int s,.bl f])/\a<=b/\0<=a/\b<=1000/\0<=c/\c<1000/\∀(n:Int) (w:LSI) s',a<=n->n<=b->a0S n w->(w.length:Int)<=c->Q (.tup [.int n,.tup (w.map .int)]) (updM M p (.lst [.int s',.bl f]))
 |_=>False
noncomputable abbrev a8d:=DfD "_law_plait" ["state","least","most","letters"] a4g
theorem b1N(Z:Zs K mg)(D_21:a2j P w K mg base n)(D_40:a9z P w K mg base n)(F:FD K mg "_law_plait" a5i ["state","least","most","letters"]):a8d P w K mg base (n+1):=by
 refine F.dfn a6H (by unfold a4g;walk_at "ln") (fun hr=>(a0c (a0y (i:=4) (a0z a0u (hv 1) (a0h D_21 hr (a0a (hv 0) (a0a (a0z a0u (a0z a1i (hv 2) (hv 1)) a0f) a0e)))) a6H.nd) (a0g (a0l (a2N (a0a (hv 4) (a0a (a0h D_40 hr (a0a (hv 0) (a0a (hv 4) (a0a (a0h D_21 hr (a0a (hv 0) (a0a (a0z a0u (hv 3) a0f) a0e))) a0e)))) a0e))))))) fun ts M Q h=>?_;unfold a4g at h;split at h
 ·rename_i p a b c;obtain⟨s,f,hM,h1,h2,h3,h4,h5,h⟩:=h;walk_at "rd";refine⟨s,f,hM,by lia,by lia,fun c1 s1 h10 h11=>?_⟩;walk_at "rd";refine⟨s1,f,a0d,by lia,by lia,fun c2 s2 h20 h21=>?_⟩;walk_at "rd";refine⟨s2,f,by simp only[a0d],by lia,by lia,by lia,fun w s3 hw hl _=>?_⟩;walk_at "rd";exact⟨by decide,a0i (h _ _ _ (by lia) (by lia) hw (by lia))⟩
 ·exact h.elim
noncomputable def a1V:Sp3:=fun ts M Q=>match ts with
 |[.tup os]=>∃r:LSI,os=r.map .int/\OrdS r/\Q (.str (a2l r)) M
 |_=>False
noncomputable abbrev a2r:=DfD "_law_order_text" ["row"] a1V
theorem a6Q(Z:Zs K mg)(F:FD K mg "_law_order_text" a1G ["row"]):a2r P w K mg base (n+1):=by
 refine F.dfn a6I (by unfold a1V;walk_at "ln") (fun hr=>(a0g (a0l (a2h a0t (a0a (a1k rfl (a1N (hv 0)) (bkS (a0b a1G) ["row"] ["there"] [none]) (a0N (i:=0)) (by walk_at "g") (fun _ _ _ _ _=>a1j) (fun _ _ _ _ _=>(a0Q a2B Z.b_str c9q (a0a (a0z a0u (hv 0) a0f) a0e)))) a0e))))) fun ts M Q h=>?_;unfold a1V at h;split at h
 ·rename_i os;obtain⟨r,rfl,ok,h⟩:=h;walk_at "rd";refine⟨fun i ys M'=>ys=((r.take i).map fun p=>a0p (p+1)).map T.str/\M'=M,⟨rfl,rfl⟩,fun _ _ _ _=>trivial,a0H (by have:=ok.1;lia),?_,?_⟩
  ·rintro i x ys M' hx ⟨rfl,rfl⟩;obtain⟨p,hp,rfl⟩:=a0r hx;have g:=ok.2 p (c8s hp);dsimp only;exact⟨a6C (by lia),a4P (fun p=>a0p (p+1)) hp,rfl⟩
  ·rintro ys M' ⟨rfl,rfl⟩ q hq;rw[c8y,a1w];dsimp only;exact⟨ok.join,a0s h (Sub.new hq)⟩
 ·exact h.elim
noncomputable def a2p:Sp3:=fun ts M Q=>match ts with
 |[t]=>∃f:PR,t=frT f/\FrmS f/\Q (.str (c2v f)) M
 |_=>False
noncomputable abbrev a4J:=DfD "_law_form_text" ["form"] a2p
theorem a7F(Z:Zs K mg)(D_2:a2r P w K mg base n)(F:FD K mg "_law_form_text" a1P ["form"]):a4J P w K mg base (n+1):=by
 refine F.dfn a7x (by unfold a2p;walk_at "ln") (fun hr=>(a0g (a0l (a2h a0t (a0a (a0z a0u (a3h (a0a (a0Q a2B Z.b_str c9q (a0a (h_ix (hv 0) a0f) a0e)) a0e)) (a1k rfl (a1N (h_ix (hv 0) a0f)) (bkS (a0b a1P) ["form"] ["row"] [none]) (a0N (i:=0)) (by walk_at "g") (fun _ _ _ _ _=>a1j) (fun _ _ _ _ _=>(a0h D_2 hr (a0a (hv 0) a0e))))) a0e))))) fun ts M Q h=>?_;unfold a2p at h;split at h
 ·obtain⟨⟨a,R⟩,rfl,ok,h⟩:=h;have o1:=ok.1;dsimp only at o1;unfold frT;walk_at "rd";refine⟨a6C ok.2.2,by decide,fun q hq=>?_⟩;have hS:=Sub.new hq (o:=MO.lst [T.str (a0p a)]);have hMq:(updM M q (MO.lst [T.str (a0p a)])) q=some (.lst [T.str (a0p a)]):=a0d
  generalize updM M q (MO.lst [T.str (a0p a)])=M1 at hS hMq|-
  refine⟨fun i ys M'=>ys=((R.take i).map a2l).map T.str/\M'=M1,⟨rfl,rfl⟩,fun _ _ _ _=>trivial,a0H (by lia),?_,?_⟩
  ·rintro i x ys M' hx ⟨rfl,rfl⟩;rw[c8i] at hx;obtain⟨r,hr,rfl⟩:=c8L.mp hx;exact⟨r,rfl,ok.2.1 r (c8s hr),a4P a2l hr,rfl⟩
  ·rintro ys M' ⟨rfl,rfl⟩ p hp;have hSp:=Sub.new hp (o:=MO.lst (((R.take R.length).map a2l).map T.str));rw[hSp _ _ hMq,c8y];dsimp only;refine⟨a0E (by rw[c8a,c8a];simp only[c8e,c9L];lia),fun r hr=>?_⟩;rw[show [T.str (a0p a)]++(R.map a2l).map T.str=(a0p a::R.map a2l).map T.str from rfl,a1w];rw[c8y] at hSp;dsimp only;exact⟨ok.join,a0s h ((hS.trans hSp).newr hr)⟩
 ·exact h.elim
noncomputable def a2H:Sp3:=fun ts M Q=>match ts with
 |[.tup ps]=>∃p:Po,ps=p.map prT/\SumS p/\Q (.str (a5v p)) M
 |_=>False
theorem c1Z{p:Po}{y:Int×Int}(h:CanP (y::p)){m:Int}(h1:m∈(y::p).map c8J)(h2:∀a∈(y::p).map c8J,a<=m):m=((y::p).getLast (c9Y _ _)).1:=by
 have hm:=h2 _ (c8q.mpr ⟨_,d3c (c9Y y p),rfl⟩);obtain⟨x,hx,rfl⟩:=c8q.mp h1;have e:(y::p)=(y::p).dropLast++[(y::p).getLast (c9Y _ _)]:=(d1T _).symm;have hp:=h.1;rw[e] at hp hx;rcases c8U.mp hx with z|z
 ·have:=(List.pairwise_append.mp hp).2.2 x z _ (c8A.mpr rfl);lia
 ·rw[c8A.mp z]
noncomputable abbrev a5s:=DfD "_law_sum_text" ["total"] a2H
theorem a8k(Z:Zs K mg)(F:FD K mg "_law_sum_text" a2a ["total"]):a5s P w K mg base (n+1):=by
 refine F.dfn a4F (by unfold a2H;walk_at "ln") (fun hr=>(a0c (a0y (i:=1) (h_wk (a0Q (a6w rfl) Z.b_dict d0r (a0a (hv 0) a0e))) a4F.nd) (a0c (s_if (a0o (c1P hr.units) (hv 1) (h_wk b0M) (a0n _)) (a0g (a0l a0t)) a0w) (a0g (a0l (a2h a0t (a0a (a1k rfl (a6V Z.b_range (a0a (a0z a0u (a0M (b7P rfl) Z.b_max d3s (a0a (hv 1) a0e)) a0f) a0e)) (bkS (a0b a2a) ["total","counts"] ["power","counts"] [none,some 1]) (a0N (i:=0)) (by walk_at "g") (fun _ _ _ _ _=>a1j) (fun _ _ _ _ _=>(a0Q a2B Z.b_str c9q (a0a (c6T hr.units (hv 1) (hv 0) a0f) a0e)))) a0e))))))) fun ts M Q h=>?_;unfold a2H at h;split at h
 ·obtain⟨p,rfl,ok,h⟩:=h;have hnd0:(p.map c8J).Nodup:=c9n.mpr (ok.1.1.imp fun h z=>d1K h z);refine a0j fun K1 hK1=>?_;walk_at "rd";refine⟨dkI p,(b2k _).symm,by rw[a6Y];exact c9n.mpr (hnd0.imp fun h z=>h (d1o z)),fun d hd=>⟨_,c2K,?_⟩⟩;have hS:=Sub.new hd (o:=MO.fk (dkI p));have hMd:(updM M d (MO.fk (dkI p))) d=some (.fk (dkI p)):=a0d
  generalize updM M d (MO.fk (dkI p))=M1 at hS hMd|-
  rw[hK1];clear hK1;refine a0j fun K2 hK2=>?_;walk_at "rd";intro e he;refine⟨_,c2K,?_⟩;have hSe:=Sub.new he (o:=MO.fk []);have h2d:=hSe _ _ hMd;have hS2:=hS.trans hSe;have h2e:(updM M1 e (MO.fk [])) e=some (.fk []):=a0d
  generalize updM M1 e (MO.fk [])=M2 at h2d hS2 h2e|-
  clear hSe he hMd hS;refine⟨p,h2d,h2e,?_⟩;cases p with
  |nil=>exact a0s (M:=M) h hS2
  | cons y p =>
    dsimp only[d2M];rw[if_neg (by decide)];rw[hK2];clear hK2;walk_at "rd";unfold b8L;dsimp only;rw[h2d];refine⟨(y::p).map c8J,a6Y _,by rw[c8a];exact Nat.succ_pos _,fun m m1 m2=>?_⟩;obtain⟨x,hx⟩:∃x,x=(y::p).getLast (c9Y _ _):=⟨_,rfl⟩;have hxm:=ok.2.2 x (by rw[hx];exact d3c _)
    have ec:a5v (y::p)=c9O (c8c " ") ((c8I (x.1+1).toNat).map fun(i:Nat)=>a0p (co (y::p) (i:Int))):=by
     unfold a5v;rw[d1O (c9Y _ _),<- hx];dsimp only;rw[c9l];rfl
    have em:=c1Z ok.1 m1 m2;rw[<- hx] at em;subst em;have hk:(x.1+1).toNat<=64:=by lia
    have hrl:(a0L 0 (x.1+1).toNat).length=(x.1+1).toNat:=a1f _ _;refine⟨by lia,by lia,fun i ys M'=>ys=((c8I i).map fun(i:Nat)=>a0p (co (y::p) (i:Int))).map T.str/\M'=M2,⟨rfl,rfl⟩,fun _ _ _ _=>trivial,by rw[hrl];exact a0H (by lia),?_,?_⟩
    ·rintro i z ys M' hz ⟨rfl,rfl⟩;obtain⟨hi,rfl⟩:=a3a hz;rw[h2d];dsimp only;refine⟨by unfold b6l;dsimp only;rw[h2d];trivial,.inl (0+(i:Int)),rfl,?_⟩;rw[d2p,a6x (i:Int) hnd0];dsimp only;refine⟨c3m ok (i:Int),?_,rfl⟩;rw[d2b,c8v,c8v];rfl
    ·rintro ys M' ⟨rfl,rfl⟩ q hq;rw[hrl,a1w];dsimp only;rw[ec] at h;exact⟨ok.join hk,a0s h (hS2.newr hq)⟩
 ·exact h.elim
noncomputable def a4Z:Sp3:=fun ts M Q=>match ts with
 |[.str k,t,u]=>∃(a b:Pl),t=kpT a/\u=kpT b/\k∈MKs/\(PlOK a.1 a.2/\a.1<=4)/\(PlOK b.1 b.2/\b.1<=4)/\(k="behind"->a.1=b.1/\a.2.length+b.2.length<=16)/\Q (kpT (a3Q k [a,b])) M
 |_=>False
noncomputable abbrev a9A:=DfD "_law_made" ["word","one","other"] a4Z
theorem b3t(Z:Zs K mg)(D_58:b2q P w K mg base n)(D_45:a7R P w K mg base n)(D_50:a9x P w K mg base n)(D_51:a9p P w K mg base n)(D_57:b2s P w K mg base n)(F:FD K mg "_law_made" a6i ["word","one","other"]):a9A P w K mg base (n+1):=by
 refine F.dfn b2W (by unfold a4Z;walk_at "ln") (fun hr=>(a0c (s_if (a0o (a0T hr.units) (hv 0) a0t (a0n _)) (a0g (a0l (a0h D_58 hr (a0a (hv 1) a0e)))) a0w) (a0c (s_if (a0o (a0T hr.units) (hv 0) a0t (a0n _)) (a0g (a0l (a0h D_45 hr (a0a (hv 1) a0e)))) a0w) (a0c (s_if (a0o (a0T hr.units) (hv 0) a0t (a0n _)) (a0g (a0l (a0h D_50 hr (a0a (hv 1) a0e)))) a0w) (a0c (s_if (a0o (a0T hr.units) (hv 0) a0t (a0n _)) (a0g (a0l (a0h D_51 hr (a0a (hv 1) a0e)))) a0w) (a0g (a0l (c0a D_57 hr (a0a (hv 1) (a0a (hv 2) a0e)))))))))) fun ts M Q h=>?_;unfold a4Z at h;split at h
 ·rename_i k t u;obtain⟨a,b,rfl,rfl,hk,⟨ok,h4⟩,⟨ok2,_⟩,hb,h⟩:=h;unfold a3Q at h;unfold kpT;walk_at "rd";refine a0K (fun c=>?_) fun c1=>?_
  ·rw[if_pos c] at h;exact⟨a.2,rfl,ok,a0i h⟩
  rw[if_neg c1] at h;refine a0K (fun c=>?_) fun c2=>?_
  ·rw[if_pos c] at h;exact⟨a.2,rfl,ok,a0i h⟩
  rw[if_neg c2] at h;refine a0K (fun c=>?_) fun c3=>?_
  ·rw[if_pos c] at h;exact⟨a.2,rfl,ok,a0i h⟩
  rw[if_neg c3] at h;refine a0K (fun c=>?_) fun c4=>?_
  ·rw[if_pos c] at h;exact⟨a.2,rfl,ok,a0i h⟩
  rw[if_neg c4] at h
  have c5:k="behind":=by
   unfold MKs at hk;simp only[c8n,c8M,or_false] at hk;rcases hk with e|e|e|e|e
   ·exact absurd e c1
   ·exact absurd e c2
   ·exact absurd e c3
   ·exact absurd e c4
   ·exact e
  obtain⟨e1,e2⟩:=hb c5;exact⟨a.2,b.2,rfl,rfl,ok,ok2,fun z=>z e1,fun _ z=>absurd z (d2G.mpr e2),fun _ _=>a0i h⟩
 ·exact h.elim
noncomputable def a3D:Sp3:=fun ts M Q=>match ts with
 |[.adr b,.adr r]=>∃(D:Dk) (k:Str) (rest:LSS),M b=some (.dk (dkD D))/\DkOK D/\M r=some (.lst ((k::rest).map .str))/\LnOK k rest/\Q (.str (ansF D k rest).1) (updM M b (.dk (dkD (ansF D k rest).2)))
 |_=>False
noncomputable abbrev a7f:=DfD "_law_answer" ["kept","words"] a3D
theorem a9Y (Z:Zs K mg) (D_60:b2r P w K mg base n) (D_2:a2r P w K mg base n) (D_46:a7Q P w K mg base n) (D_6:a4J P w K mg base n) (D_52:a9v P w K mg base n) (D_10:a5s P w K mg base n) (D_26:a5r P w K mg base n) (D_59:b2p P w K mg base n) (D_41:a9A P w K mg base n) (F:FD K mg "_law_answer" a2b ["kept","words"]):a7f P w K mg base (n+1):=by
 refine F.dfn a1K (by unfold a3D;walk_at "ln") (fun hr=>(a0c (a0y (i:=2) (a1s (hv 1) (a2m a0f) a2n) a1K.nd) (a0c (s_if (a0o b9f (h_ix (hv 1) a0f) (a3h (a0a a0t (a0a a0t (a0a a0t (a0a a0t (a0a a0t a0e)))))) rfl) (a0g (a0y (i:=2) (a1s (hv 1) (a2m a0f) a2n) a1K.nd)) a0w) (a0c (s_if (a0o a5k (a0M a0Y Z.b_len PySem.boot_len (a0a (a1k rfl (a1N (hv 2)) (bkS (a0b a2b) ["kept","words","asked","plaits","paper"] ["word","kept"] [none,some 0]) (a0N (i:=0)) (by walk_at "g") (fun _ _ _ _ _=>b8d (a0o (b7g hr.units) (hv 0) (hv 1) rfl)) (fun _ _ _ _ _=>(hv 0))) a0e)) a0f (a0n _)) (a0g (a0l a0t)) a0w) (a0c (b8D (i:=3) rfl (a1N (hv 2)) (bkS (a0b a2b) ["kept","words","asked","plaits","paper"] ["word","kept"] [none,some 0]) (a0N (i:=0)) (by walk_at "g") (fun _ _ _ _ _=>a1j) (fun _ _ _ _ _=>(c2k hr.units (hv 1) (hv 0))) a1K.nd) (a0c (s_if (a0o (a0T hr.units) (h_ix (hv 1) a0f) a0t (a0n _)) (a0c (a2x (c3d (hv 0) (h_ix (hv 1) a0f))) (a0g (a0l a0t))) a0w) (a0c (s_if (HW.ht (c0T (a0o a5k (a0M a0Y Z.b_len PySem.boot_len (a0a (hv 3) a0e)) a0f (a0n _)) (b5A (a0o (b0y hr.units) (h_ix (h_ix (hv 3) a0f) a0f) (h_ix (h_ix (hv 3) a0f) a0f) (a0n _))))) (a0g (a0l a0t)) a0w) (a0c (s_if (a0o (a0T hr.units) (h_ix (hv 1) a0f) a0t (a0n _)) (a0g (a0l (a0h D_60 hr (a0a (h_ix (hv 3) a0f) a0e)))) a0w) (a0c (s_if (a0o (a0T hr.units) (h_ix (hv 1) a0f) a0t (a0n _)) (a0g (a0l (a0h D_2 hr (a0a (a0h D_46 hr (a0a (h_ix (hv 3) a0f) a0e)) a0e)))) a0w) (a0c (s_if (a0o (a0T hr.units) (h_ix (hv 1) a0f) a0t (a0n _)) (a0g (a0l (a0h D_6 hr (a0a (a0h D_52 hr (a0a (h_ix (hv 3) a0f) a0e)) a0e)))) a0w) (a0c (s_if (a0o (a0T hr.units) (h_ix (hv 1) a0f) a0t (a0n _)) (a0g (a0l (a0h D_10 hr (a0a (a0h D_26 hr (a0a (h_ix (hv 3) a0f) a0e)) a0e)))) a0w) (a0c (s_if (a0o (a0T hr.units) (h_ix (hv 1) a0f) a0t (a0n _)) (a0c (a0y (i:=4) (c0a D_59 hr (a0a (h_ix (hv 3) a0f) (a0a (h_ix (hv 3) a0f) a0e))) a1K.nd) (a0g (a0l (c2j (a0o c2Y (hv 4) c4F (a0n _)) a0t (a0z a0u a0t (a0Q a2B Z.b_str c9q (a0a (h_ix (hv 4) a0f) a0e))))))) a0w) (a0c (s_if (HW.ht (c0T (a0o (a0T hr.units) (h_ix (hv 1) a0f) a0t (a0n _)) (b5A (a0o a5k (a0z a0u (a0M a0Y Z.b_len PySem.boot_len (a0a (h_ix (h_ix (hv 3) a0f) a0f) a0e)) (a0M a0Y Z.b_len PySem.boot_len (a0a (h_ix (h_ix (hv 3) a0f) a0f) a0e))) a0f (a0n _))))) (a0g (a0l a0t)) a0w) (a0c (b6W hr.units (a0h D_41 hr (a0a (h_ix (hv 1) a0f) (a0a (h_ix (hv 3) a0f) (a0a (h_ix (hv 3) (h_un a1l a0f)) a0e)))) (hv 0) (h_ix (hv 1) a0f)) (a0g (a0l a0t)))))))))))))))) fun ts M Q h=>?_;unfold a3D at h;split at h
 ·rename_i b r;obtain⟨D,k,rest,hb,hD,hr,hl,h⟩:=h;have g3:=(a8w (.inl hl)).2.2;refine a0j fun K1 hK1=>?_;walk_at "rd";rw[hr];dsimp only;rw[c8g];intro q hq
  have ec:cutT (T.str k::rest.map T.str) (some 1) none=rest.map T.str:=by
   rw[a1e _ _ (by decide)];rfl
  rw[ec];have hS:=Sub.new hq (o:=MO.lst (rest.map T.str));have b1:=hS _ _ hb;have r1:=hS _ _ hr;have q1:(updM M q (MO.lst (rest.map T.str))) q=some (.lst (rest.map T.str)):=a0d
  generalize updM M q (MO.lst (rest.map T.str))=M1 at hS b1 r1 q1|-
  clear hq;rw[hK1];clear hK1;refine a0j fun K2 hK2=>?_
  have key : ∀(q:Addr) (M2:MH),Sub M M2->M2 b=some (.dk (dkD D))->M2 r=some (.lst ((k::rest).map .str))->M2 q=some (.lst ((oldW k rest).map T.str))->K2 [some (T.adr b),some (T.adr r),some (T.adr q),none,none] M2:=fun q M2 hS2 b2 r2 q2=>by
   have hlo:(oldW k rest).length<=3:=by
    unfold oldW;split
    ·rw[c9s];lia
    ·exact g3
   rw[hK2];clear hK2;refine a0j fun K3 hK3=>?_;walk_at "rd";rw[q2];refine⟨fun i ys M'=>ys=(((oldW k rest).take i).filter fun w=>!(atD D w).isSome).map T.str/\M'=M2,⟨rfl,rfl⟩,?_,a0H (by rw[c8a];lia),?_,?_⟩
   ·rintro i ys M' ⟨_,rfl⟩;exact q2
   ·rintro i x ys M' hx ⟨rfl,rfl⟩;rw[c8i] at hx;obtain⟨w,hw,rfl⟩:=c8L.mp hx;rw[b2];refine⟨.inr w,rfl,?_⟩;rw[a3Y,d1d];dsimp only;rw[c8Y,hw,d1A,c8v];refine ite2 (fun c=>⟨?_,rfl⟩) (fun c=>⟨?_,rfl⟩)
    ·rw[show(some w).toList=[w] from rfl,d2T (by rw[c];rfl)];rfl
    ·have ct:(atD D w).isSome=true:=by cases e:(atD D w).isSome with|true=>rfl|false=>exact absurd e c
     rw[show(some w).toList=[w] from rfl,d2U (by rw[ct];decide),d3t,c9g,c8R]
   ·rintro ys M' ⟨rfl,rfl⟩ p hp;rw[show(c8N T.str (oldW k rest)).length=(oldW k rest).length from c8a _,c8y,c8a];generalize hfl:((oldW k rest).filter fun w=>!(atD D w).isSome)=fl;have hS3:=hS2.newr hp (o:=MO.lst (fl.map T.str));have hSp:=Sub.new hp (o:=MO.lst (fl.map T.str));have b3:=hSp _ _ b2;have r3:=hSp _ _ r2;have q3:=hSp _ _ q2
    generalize updM M' p (MO.lst (fl.map T.str))=M3 at hS3 b3 r3 q3|-
    clear hSp hp;unfold ansF at h;refine ite2 (fun c=>?_) (fun c=>?_)
    ·rw [if_neg (fun z=>by
      cases fl with
      |nil=>exact absurd c (by decide)
      | cons w fl =>
        have hm:w∈(oldW k rest).filter fun w=>!(atD D w).isSome:=by rw[hfl];exact .head _
        obtain⟨m1,m2⟩:=c9V.mp hm;rw[c9N.mp z w m1] at m2
        cases m2)] at h
     dsimp only at h;rw[a2v hb] at h;exact a0s h hS3
    ·have ef:fl=[]:=c9e (by lia)
     have c':(oldW k rest).all (fun w=>(atD D w).isSome)=true:=List.all_eq_true.mpr fun w hw=>by
      cases e:(atD D w).isSome with
      |true=>rfl
      | false =>
        have hm:w∈(oldW k rest).filter fun w=>!(atD D w).isSome:=c9V.mpr ⟨hw,by rw[e];rfl⟩;rw[hfl,ef] at hm;cases hm
     clear hfl ef c;rw[if_pos c'] at h;have hg:=c4I hD c';rw[hK3];clear hK3;refine a0j fun K4 hK4=>?_;walk_at "rd";rw[q3];refine⟨fun i ys M'=>ys=(((oldW k rest).take i).map fun w=>(atD D w).getD (0,[])).map kpT/\M'=M3,⟨rfl,rfl⟩,?_,a0H (by rw[c8a];lia),?_,?_⟩
     ·rintro i ys M4 ⟨_,rfl⟩;exact q3
     ·rintro i x ys M4 hx ⟨rfl,rfl⟩;rw[c8i] at hx;obtain⟨w,hw,rfl⟩:=c8L.mp hx;rw[b3];obtain⟨z,hz⟩:=c9y.mp (c9N.mp c' w (c8s hw));refine⟨.inr w,kpT z,rfl,by rw[a3Y,hz];rfl,?_,rfl⟩;rw[<- a0F (fun w=>(atD D w).getD (0,[])) hw,c8v,hz];rfl
     ·rintro ys M4 ⟨rfl,rfl⟩ v hv;rw[c8a,c8y];have eg:∀w∈oldW k rest,∃z,atD D w=some z:=fun w hw=>c9y.mp (c9N.mp c' w hw)
      generalize hgg:((oldW k rest).map fun w=>(atD D w).getD (0,[]))=g at h hg|-
      have hS4:=hS3.newr hv (o:=MO.lst (g.map kpT));have hSv:=Sub.new hv (o:=MO.lst (g.map kpT));have b4:=hSv _ _ b3;have r4:=hSv _ _ r3;have v4:(updM M4 v (MO.lst (g.map kpT))) v=some (.lst (g.map kpT)):=a0d
      generalize updM M4 v (MO.lst (g.map kpT))=M5 at hS4 b4 r4 v4|-
      obtain⟨nm,rest',er⟩:∃nm rest',rest=nm::rest':=by cases hl<;>exact⟨_,_,rfl⟩
      have er2:rest.getD 0 ""=nm:=by rw[er];rfl
      rw[er2] at h
      have stay:∀x,doF k nm g D=(x,D)->rt3 M Q (T.str x) M5:=fun x e=>by
       rw[e] at h;dsimp only at h;rw[a2v hb] at h;exact a0s h hS4
      have goes:∀x D',doF k nm g D=(x,D')->rt3 M Q (T.str x) (updM M5 b (.dk (dkD D'))):=fun x D' e=>by
       rw[e] at h;exact a0s h hS4.up
      have hsh:((k="same"\/k="behind")/\∃x y,g=[x,y])\/((k≠"same"/\k≠"behind")/\∃z,g=[z]):=by
       rw[<- hgg];cases hl with
       | @one _ x hk hx =>
         have nm1:k∉MKs:=(by decide +kernel:∀k∈K1s,k∉MKs) k hk;have hb:k≠"same"/\k≠"behind":=(by decide +kernel:∀k∈K1s,k≠"same"/\k≠"behind") k hk;exact .inr ⟨hb,(atD D x).getD (0,[]),by unfold oldW;rw[if_neg nm1];rfl⟩
       | @two _ x y hk hx hy =>
         by_cases cm:k∈MKs
         ·have hb:k≠"same"/\k≠"behind":=(by decide +kernel:∀k∈K2s,k∈MKs->k≠"same"/\k≠"behind") k hk cm;exact .inr ⟨hb,(atD D y).getD (0,[]),by unfold oldW;rw[if_pos cm];rfl⟩
         ·have hb:k="same":=(by decide +kernel:∀k∈K2s,k∉MKs->k="same") k hk cm;exact .inl ⟨.inl hb,(atD D x).getD (0,[]),(atD D y).getD (0,[]),by unfold oldW;rw[if_neg cm];rfl⟩
       | @three x y z hx hy hz =>
         exact .inl ⟨.inr rfl,(atD D y).getD (0,[]),(atD D z).getD (0,[]),by unfold oldW;rw[if_pos (by decide +kernel)];rfl⟩
      have hdrop:k="drop"->∃z,atD D nm=some z:=fun e=>by
       subst e;cases hl with
       | one hk hx =>
         injection er with e1 e2;subst e1;refine eg _ ?_;unfold oldW;rw[if_neg (by decide +kernel)];exact .head _
       |two hk hx hy=>exact absurd hk (by decide +kernel)
      have hnm:k∈MKs\/k="drop"\/k∈TKs:=by
       have:=a7H hl;exact(by decide +kernel:∀k∈K1s++K2s++[("behind":Str)],k∈MKs\/k="drop"\/k∈TKs) k this
      clear hgg eg er2 h
      obtain⟨z0,g',eg0⟩:∃z0 g',g=z0::g':=by
       rcases hsh with ⟨_,x,y,e⟩|⟨_,z,e⟩
       ·exact⟨_,_,e⟩
       ·exact⟨_,_,e⟩
      obtain⟨ok,h4⟩:=hg z0 (by rw[eg0];exact .head _);have v0:M5 v=some (.lst (kpT z0::g'.map kpT)):=by rw[v4,eg0];rfl
      rw[er,c8g,c8g] at r4;rw[hK4];clear hK4;refine a0j fun K5 hK5=>?_;walk_at "rd";rw[r4];dsimp only;rw[a1u];dsimp only;refine a0K (fun cd=>?_) fun cd=>?_
      ·rw[a7k];dsimp only;rw[b4];obtain⟨z,hz⟩:=hdrop cd;refine⟨trivial,.inr nm,kpT z,rfl,by rw[a3Y,hz];rfl,?_⟩;rw[b3Y];refine goes _ _ ?_;rw[cd];exact c0t
      ·rw [hK5];clear hK5;refine a0j fun K6 hK6=>?_
       have key2:(∀x y,g=[x,y]->x.1=y.1)->K6 [some (T.adr b),some (T.adr r),some (T.adr q),some (T.adr v),none] M5:=fun heq=>by
        have tell:k∉MKs->rt3 M Q (T.str (a6z k g)) M5:=fun nmk=>by
         have nb:k≠"behind":=fun e=>nmk (by rw[e];decide +kernel);rcases hsh with ⟨_,x,y,e⟩|⟨_,z,e⟩
         ·exact stay _ (by rw[e,b6t cd (heq x y e) fun w=>absurd w nb,if_neg nmk])
         ·exact stay _ (by rw[e,b6u cd nb,if_neg nmk])
        rw[hK6];clear hK6;refine a0j fun K7 hK7=>?_;walk_at "rd";rw[r4];dsimp only;rw[a1u];dsimp only;refine a0K (fun c1=>?_) fun c1=>?_
        ·rw[v0];dsimp only;rw[a1u];refine⟨z0.2,rfl,ok,?_⟩;have:=tell (by rw[c1];decide +kernel);unfold a6z at this;rw[eg0] at this
         rwa [if_pos c1] at this
        rw[hK7];clear hK7;refine a0j fun K8 hK8=>?_;walk_at "rd";rw[r4];dsimp only;rw[a1u];dsimp only;refine a0K (fun c2=>?_) fun c2=>?_
        ·rw[v0];dsimp only;rw[a1u];dsimp only;refine⟨z0.2,rfl,ok,?_⟩;refine⟨_,rfl,b9b ok,?_⟩;have:=tell (by rw[c2];decide +kernel);unfold a6z at this;rw[eg0] at this
         rwa [if_neg c1,if_neg (by rw[c2];decide +kernel),if_pos c2] at this
        rw[hK8];clear hK8;refine a0j fun K9 hK9=>?_;walk_at "rd";rw[r4];dsimp only;rw[a1u];dsimp only;refine a0K (fun c3=>?_) fun c3=>?_
        ·rw[v0];dsimp only;rw[a1u];dsimp only;refine⟨z0.2,rfl,ok,fun hf=>?_⟩;refine⟨_,rfl,hf,?_⟩;have:=tell (by rw[c3];decide +kernel);unfold a6z at this;rw[eg0] at this
         rwa [if_neg c1,if_neg (by rw[c3];decide +kernel),if_neg c2,if_pos c3] at this
        rw[hK9];clear hK9;refine a0j fun K10 hK10=>?_;walk_at "rd";rw[r4];dsimp only;rw[a1u];dsimp only;refine a0K (fun c4=>?_) fun c4=>?_
        ·rw[v0];dsimp only;rw[a1u];dsimp only;obtain⟨g1,g2⟩:=b8t ok h4;refine⟨z0.2,rfl,ok,g1,?_⟩;refine⟨_,rfl,g2,?_⟩;have:=tell (by rw[c4];decide +kernel);unfold a6z at this;rw[eg0] at this
         rwa [if_neg c1,if_neg (by rw[c4];decide +kernel),if_neg c2,if_neg c3] at this
        rw[hK10];clear hK10;refine a0j fun K11 hK11=>?_;walk_at "rd";rw[r4];dsimp only;rw[a1u];dsimp only;refine a0K (fun c5=>?_) fun c5=>?_
        ·rcases hsh with ⟨_,x,y,e⟩|⟨e,_⟩
         ·have exy:=heq x y e;rw[e] at eg0;injection eg0 with e1 e2;subst e1;rw[v4,e];dsimp only;rw[c8g,c8g,a1u,a7k];dsimp only;obtain⟨ok2,_⟩:=hg y (by rw[e];exact .tail _ (.head _));have:=tell (by rw[c5];decide +kernel);unfold a6z at this;rw[e,if_neg c1,if_pos c5] at this;unfold c1g at this
          change rt3 M Q (T.str (match a4M x.1 x.2 y.2 with|none=>("same":Str)|some j=>"unlike at "++a0p j)) M5 at this
          refine⟨x.2,y.2,rfl,rfl,ok,ok2,fun z=>z exy,fun _=>?_⟩;cases hu:a4M x.1 x.2 y.2 with
          | none =>
            have eu:a4L x.1 x.2 y.2=.non:=by unfold a4L;rw[hu]
            rw[hu] at this;rw[eu];exact this
          | some jj =>
            have eu:a4L x.1 x.2 y.2=.tup [.int jj,.tup ((imgL x.2 jj).map .int),.tup ((imgL y.2 jj).map .int)]:=by unfold a4L;rw[hu]
            rw[hu] at this;rw[eu];obtain⟨j1,j2,_⟩:=a7W hu;have o:=ok.2.1;have hl3:=(sI jj (by lia) (by lia)).2.1;have e0:(c8c "unlike at ").length=10:=by decide +kernel
            exact⟨a8p (by lia),a0E (by rw[e0];lia),this⟩
         ·exact absurd c5 e.1
        rw[hK11];clear hK11
        have hm:k∈MKs:=by
         rcases hnm with e|e|e
         ·exact e
         ·exact absurd e cd
         ·exact absurd e (by
           unfold TKs;simp only[c8n,c8M,or_false,not_or]
           exact⟨c1,c5,c2,c3,c4⟩)
        refine a0j fun K12 hK12=>?_
        have key3:(k="behind"->∃x y,g=[x,y]/\x.1=y.1/\x.2.length+y.2.length<=16)->K12 [some (T.adr b),some (T.adr r),some (T.adr q),some (T.adr v),none] M5:=fun hbh=>by
         rw[hK12];clear hK12;walk_at "rd";rw[r4];dsimp only;rw[a1u,v0];dsimp only;rw[a1u];dsimp only
         obtain⟨zl,hzl,ezl,ebh,emd⟩:∃zl∈g,atI (kpT z0::c8N kpT g') (-1)=some (kpT zl)/\(k="behind"->z0.1=zl.1/\z0.2.length+zl.2.length<=16)/\a3Q k [z0,zl]=a3Q k g:=by
          rcases hsh with ⟨_,x,y,e⟩|⟨w,z,e⟩
          ·refine⟨y,by rw[e];exact .tail _ (.head _),?_,fun cb=>?_,?_⟩
           ·rw[e] at eg0;injection eg0 with e1 e2;rw[<- e1,<- e2];exact a5J [kpT x] (kpT y)
           ·obtain⟨x',y',e',q1,q2⟩:=hbh cb;rw[e] at e' eg0;injection eg0 with e1 _;injection e' with e3 e4;injection e4 with e4 _;rw[<- e1,e3,e4];exact⟨q1,q2⟩
           ·rw[e] at eg0|-
            injection eg0 with e1 _;rw[e1]
          ·refine⟨z,by rw[e];exact .head _,?_,fun cb=>absurd cb w.2,?_⟩
           ·rw[e] at eg0;injection eg0 with e1 e2;rw[<- e1,<- e2];exact a5J [] (kpT z)
           ·rw[e] at eg0|-
            injection eg0 with e1 _;rw[<- e1];exact c1W hm w.2
         rw[ezl];dsimp only;refine⟨z0,zl,rfl,rfl,hm,⟨ok,h4⟩,hg zl hzl,ebh,?_⟩;dsimp only;rw[r4];dsimp only;rw[a7k];dsimp only;rw[b4];refine⟨.inr nm,rfl,by unfold dkD;rw[c8a];exact c8D hD.len (by decide),?_⟩;rw[emd,a8s];refine goes _ _ ?_;rcases hsh with ⟨w,x,y,e⟩|⟨w,z,e⟩
         ·have cb:k="behind":=by
           rcases w with w|w
           ·exact absurd w c5
           ·exact w
          obtain⟨x',y',e',q1,q2⟩:=hbh cb;rw[e',b6t cd q1 fun _=>d2G.mpr q2,if_pos hm]
         ·rw[e,b6u cd w.2,if_pos hm]
        clear hK12;walk_at "rd";rw[r4];dsimp only;rw[a1u];dsimp only;refine a0K (fun cb=>?_) fun cb=>?_
        ·rcases hsh with ⟨_,x,y,e⟩|⟨w,_⟩
         ·rw[v4,e];dsimp only;rw[show c8N kpT [x,y]=[T.tup [T.int x.1,T.tup (x.2.map T.int)],T.tup [T.int y.1,T.tup (y.2.map T.int)]] from rfl,a1u];dsimp only;rw[a7k];dsimp only;rw[a7k];dsimp only;rw[a7k];dsimp only;rw[c8a,c8a];refine ite2 (fun c=>?_) (fun c=>key3 fun _=>⟨x,y,e,heq x y e,by lia⟩);refine stay _ ?_;rw[e,cb];exact c0s (heq x y e) (by lia)
         ·exact absurd cb w.2
        ·exact key3 fun w=>absurd w cb
       clear hK6;walk_at "rd";rw[v4];dsimp only;rcases hsh with ⟨_,x,y,e⟩|⟨_,z,e⟩
       ·rw[e,show c8N kpT [x,y]=[T.tup [T.int x.1,T.tup (x.2.map T.int)],T.tup [T.int y.1,T.tup (y.2.map T.int)]] from rfl,if_pos (by show(1:Int)<((2:Nat):Int);decide),a1u];dsimp only;rw[a1u,a7k];dsimp only;rw[a1u];dsimp only;refine⟨a3P _,a3P _,by rw[a7a];decide,?_⟩;rw[b2h];refine ite2 (fun c=>stay _ (by rw[e];exact c4Q cd (of_decide_eq_false c))) (fun c=>key2 fun x' y' e'=>?_);rw[e] at e';injection e' with e1 e2;injection e2 with e2 _;subst e1 e2
        exact of_decide_eq_true (by cases hh:decide (x.1=y.1) with|true=>rfl|false=>exact absurd hh c)
       ·rw[e,show c8N kpT [z]=[kpT z] from rfl,if_neg (by show ¬(1:Int)<((1:Nat):Int);decide)];refine key2 fun x' y' e'=>?_;rw[e] at e';cases e'
  clear hK2;walk_at "rd";rw[r1];dsimp only;rw[c8g,a1u];dsimp only;refine⟨by decide,fun p hp=>?_⟩;have e5:[T.str (c8c "turned"),T.str (c8c "mirrored"),T.str (c8c "flipped"),T.str (c8c "shorter"),T.str (c8c "behind")]=MKs.map .str:=rfl;rw[e5,b5e];have hSp:=Sub.new hp (o:=MO.lst (MKs.map T.str));have b2:=hSp _ _ b1;have r2:=hSp _ _ r1;have q2:=hSp _ _ q1;have hS2:=hS.trans hSp
  generalize updM M1 p (MO.lst (MKs.map T.str))=M2 at hS2 b2 r2 q2|-
  refine⟨rfl,by unfold MKs;rfl,?_⟩;unfold oldW at key;by_cases c:k∈MKs
  ·rw[decide_eq_true c,if_pos rfl,r2];rw[if_pos c] at key;intro u hu
   have ec:cutT (T.str k::rest.map T.str) (some 2) none=(rest.drop 1).map T.str:=by
    rw[a1e _ _ (by decide),d1B];rfl
   rw[c8g,ec];have hSu:=Sub.new hu (o:=MO.lst ((rest.drop 1).map T.str));exact key u _ (hS2.trans hSu) (hSu _ _ b2) (hSu _ _ r2) a0d
  ·rw[decide_eq_false c,if_neg c8F];rw[if_neg c] at key;exact key q _ hS2 b2 r2 q2
 ·exact h.elim
noncomputable def c0P(ws:LSS):Prop:=(∃(nm:Str) (n:Int) (w:LSI),ws=("keep":Str)::nm::plW n w/\nm∈NMs/\PlOK n w/\n<=4)\/ws=[("names":Str)]\/∃k rest,ws=k::rest/\LnOK k rest
noncomputable def a5a:Sp3:=fun ts M Q=>match ts with
 |[.adr p]=>∃s f,M p=some (.lst [.int s,.bl f])/\∀(ws:LSS) (r:Addr) (s':Int),c0P ws->M r=none->Q (.adr r) (updM (updM M p (.lst [.int s',.bl f])) r (.lst (ws.map .str)))
 |_=>False
theorem b2H{L:LSS}{c:Int}{n:Nat}(hn:L.length=n)(h0:0<=c)(h5:c<n):∃w,atI (L.map T.str) c=some (.str w)/\w∈L:=by
 obtain⟨i,rfl⟩:∃i:Nat,c=(i:Int):=⟨c.toNat,by lia⟩;obtain⟨w,hw⟩:∃w,L[i]?=some w:=⟨_,c8b (by lia)⟩;exact⟨w,a3L (by rw[c8i,hw];rfl),c8s hw⟩
structure LnS(M:MH)(p q:Addr)(f:Bool)(s:Int)(Mx:MH):Prop where
 pp:Mx p=some (.lst [.int s,.bl f])
 qq:Mx q=some (.lst (NMs.map .str))
 sub:Sub (updM M p (.lst [.int s,.bl f])) Mx
theorem LnS.next{M:MH}{p q:Addr}{f:Bool}{s s':Int}{Mx:MH}(h:LnS M p q f s Mx)(hpq:p≠q):LnS M p q f s' (updM Mx p (.lst [.int s',.bl f])) :=
 ⟨a0d,by rw[a0k hpq.symm];exact h.qq,h.sub.set⟩
theorem LnS.ch{M:MH}{p q:Addr}{f:Bool}{s:Int}{Mx:MH}{m:Int}{K:VK3}(h:LnS M p q f s Mx)(hpq:p≠q)(h0:0<m)(h1:m<2^100)(k:∀c s' M',0<=c->c<m->LnS M p q f s' M'->K (.int c) M'):a1J [.adr p,.int m] Mx K :=
 ⟨s,f,h.pp,h0,h1,fun c s' a b=>k c s' _ a b (h.next hpq)⟩
theorem LnS.newr{M:MH}{p q r:Addr}{f:Bool}{s:Int}{Mx:MH}{o:MO}(h:LnS M p q f s Mx)(hr:Mx r=none):LnS M p q f s (updM Mx r o) :=
 ⟨Sub.new hr _ _ h.pp,Sub.new hr _ _ h.qq,h.sub.newr hr⟩
theorem LnS.fin{M:MH}{p q r:Addr}{f:Bool}{s:Int}{Mx:MH}{Q:VK3}{ws:LSS}(hs:LnS M p q f s Mx)(h:∀(ws:LSS) (r:Addr) (s':Int),c0P ws->M r=none->Q (.adr r) (updM (updM M p (.lst [.int s',.bl f])) r (.lst (ws.map .str))))(hw:c0P ws)(hr:Mx r=none):rt3 M Q (.adr r) (updM Mx r (.lst (ws.map .str))):=by
 have h1:=none_of hs.sub hr;have hpr:r≠p:=fun z=>by rw[z,a0d] at h1;cases h1
 rw[a0k hpr] at h1;exact a0s (h ws r s hw h1) hs.sub.up
theorem LnS.fin2{M:MH}{p q r:Addr}{f:Bool}{s:Int}{M0 Mx:MH}{Q:VK3}{ws:LSS}{s0:Int}(hs0:LnS M p q f s0 M0)(hr:M0 r=none)(hs:LnS M p q f s Mx)(h:∀(ws:LSS) (r:Addr) (s':Int),c0P ws->M r=none->Q (.adr r) (updM (updM M p (.lst [.int s',.bl f])) r (.lst (ws.map .str))))(hw:c0P ws)(hx:Mx r=some (.lst (ws.map .str))):rt3 M Q (.adr r) Mx:=by
 have h1:=none_of hs0.sub hr;have hpr:r≠p:=fun z=>by rw[z,a0d] at h1;cases h1
 rw[a0k hpr] at h1;refine a0s (h ws r s hw h1) fun a v e=>?_;by_cases c:a=r
 ·subst c;rw[a0d] at e;rw[hx];exact e
 ·rw[a0k c] at e;exact hs.sub a v e
noncomputable abbrev a9B:=DfD "_law_line" ["state"] a5a
theorem b3u (Z:Zs K mg) (D_21:a2j P w K mg base n) (D_29:a8d P w K mg base n) (D_60:b2r P w K mg base n) (F:FD K mg "_law_line" a6j ["state"]):a9B P w K mg base (n+1):=by
 refine F.dfn a1x (by unfold a5a;walk_at "ln") (fun hr=>(a0c (a0y (i:=1) (by exact(a3h (a0a a0t (a0a a0t (a0a a0t (a0a a0t (a0a a0t a0e))))))) a1x.nd) (a0c (a0y (i:=2) (a0h D_21 hr (a0a (hv 0) (a0a a0f a0e))) a1x.nd) (a0c (a0y (i:=3) (h_ix (hv 1) (a0h D_21 hr (a0a (hv 0) (a0a a0f a0e)))) a1x.nd) (a0c (a0y (i:=4) (h_ix (hv 1) (a0h D_21 hr (a0a (hv 0) (a0a a0f a0e)))) a1x.nd) (a0c (a0y (i:=5) (h_ix (hv 1) (a0h D_21 hr (a0a (hv 0) (a0a a0f a0e)))) a1x.nd) (a0c (s_if (a0o a5P (hv 2) a0f (a0n _)) (a0c (a0y (i:=6) (a0h D_29 hr (a0a (hv 0) (a0a (a0z a0u a0f (a0h D_21 hr (a0a (hv 0) (a0a a0f a0e)))) (a0a a0f (a0a a0f a0e))))) a1x.nd) (a0g (a0l (a0z a0u (a3h (a0a a0t (a0a (hv 3) a0e))) (a9j (a0h D_60 hr (a0a (hv 6) a0e)) (a0a a0t a0e)))))) a0w) (a0c (s_if (a0o a5P (hv 2) a0f (a0n _)) (a0g (a0l (a3h (a0a (h_ix (a3h (a0a a0t (a0a a0t (a0a a0t (a0a a0t a0e))))) (a0z a1i (hv 2) a0f)) (a0a (hv 3) (a0a (hv 4) a0e)))))) a0w) (a0c (s_if (a0o a5P (hv 2) a0f (a0n _)) (a0g (a0l (a3h (a0a a0t (a0a (hv 3) (a0a (hv 4) (a0a (hv 5) a0e))))))) a0w) (a0c (s_if (a0o (a0T hr.units) (hv 2) a0f (a0n _)) (a0g (a0l (a3h (a0a a0t (a0a (hv 3) (a0a (hv 4) a0e)))))) a0w) (a0c (s_if (a0o (a0T hr.units) (hv 2) a0f (a0n _)) (a0g (a0l (h_ix (a3h (a0a (a3h (a0a a0t a0e)) (a0a (a3h (a0a a0t (a0a (hv 3) a0e))) a0e))) (a0h D_21 hr (a0a (hv 0) (a0a a0f a0e)))))) a0w) (a0g (a0l (a3h (a0a (h_ix (a3h (a0a a0t (a0a a0t (a0a a0t (a0a a0t a0e))))) (a0h D_21 hr (a0a (hv 0) (a0a a0f a0e)))) (a0a (hv 3) a0e)))))))))))))))) fun ts M Q h=>?_;unfold a5a at h;split at h
 ·rename_i p;obtain⟨s,f,hp,h⟩:=h;refine a0j fun K1 hK1=>?_;walk_at "rd";refine⟨by decide,fun q hq=>?_⟩;rw[hK1];clear hK1;have hpq:p≠q:=b4Z hp hq;have e5:[T.str (c8c "a"),T.str (c8c "b"),T.str (c8c "ab"),T.str (c8c "knot"),T.str (c8c "zzzzzzzz")]=NMs.map .str:=rfl;rw[e5];have hs:LnS M p q f s (updM M q (.lst (NMs.map .str))):=⟨by rw[a0k hpq];exact hp,a0d,by rw[a2v hp];exact Sub.new hq⟩
  generalize updM M q (.lst (NMs.map .str))=M1 at hs|-
  clear hq;refine b1k fun K2 hK2=>?_;walk_at "rd";refine hs.ch hpq (by decide) (by decide) fun way s1 M2 w0 w1 hs=>?_;refine hs.ch hpq (by decide) (by decide) fun c1 s2 M3 a0 a1 hs=>?_;obtain⟨o1,e1,m1⟩:=b2H (L:=NMs) (n:=5) rfl a0 a1;dsimp only;rw[hs.qq];dsimp only;rw[e1];dsimp only;refine hs.ch hpq (by decide) (by decide) fun c2 s3 M4 a0 a1 hs=>?_;obtain⟨o2,e2,m2⟩:=b2H (L:=NMs) (n:=5) rfl a0 a1;dsimp only;rw[hs.qq];dsimp only;rw[e2];dsimp only;refine hs.ch hpq (by decide) (by decide) fun c3 s4 M5 a0 a1 hs=>?_;obtain⟨o3,e3,m3⟩:=b2H (L:=NMs) (n:=5) rfl a0 a1;dsimp only;rw[hs.qq];dsimp only;rw[e3];dsimp only;rw[hK2];clear hK2;refine a0j fun K3 hK3=>?_;walk_at "rd";refine ite2 (fun c=>?_) (fun c=>?_)
  ·refine hs.ch hpq (by decide) (by decide) fun c4 s5 M6 a0 a1 hs=>?_;dsimp only;refine⟨s5,f,hs.pp,by lia,by lia,by decide,by decide,by decide,fun n w s6 n0 n1 hw hl=>?_⟩;have hs:=hs.next (s':=s6) hpq
   generalize updM M6 p (.lst [.int s6,.bl f])=M7 at hs|-
   have ok:PlOK n w:=⟨by lia,by lia,by lia,hw⟩;have hn1:=ok.1;have hn6:=ok.2.1;have hwl:=b4s hn1 hn6 (a5D ok);have hl16:=ok.2.2.1;dsimp only;refine⟨by decide,fun u hu=>?_⟩;have hs:=hs.newr hu (o:=MO.lst [T.str (c8c "keep"),T.str o1]);have hM8:(updM M7 u (MO.lst [T.str (c8c "keep"),T.str o1])) u=some (.lst [T.str (c8c "keep"),T.str o1]):=a0d
   generalize updM M7 u (MO.lst [T.str (c8c "keep"),T.str o1])=M8 at hs hM8|-
   refine⟨w,rfl,ok,trivial,by decide +kernel,a0E (by lia),a8Q _ (by lia),fun r hr=>?_⟩;have es:d1k (wrS n w) (c8c " ")=plW n w:=b2C hn1 hn6 (a5D ok);rw[es];have hs:=hs.newr hr (o:=MO.lst (c8N T.str (plW n w)));rw[Sub.new hr _ _ hM8];dsimp only;refine⟨a0E (by rw[c8a];unfold plW;simp only[c8e,c9L,c8a];lia),fun r2 hr2=>?_⟩;exact hs.fin (ws:=("keep":Str)::o1::plW n w) h (.inl ⟨o1,n,w,rfl,m1,ok,by lia⟩) hr2
  ·rw [hK3];clear hK3;refine a0j fun K4 hK4=>?_;walk_at "rd";refine ite2 (fun c'=>?_) (fun c'=>?_)
   ·refine⟨by decide,fun u hu=>?_⟩;have hs:=hs.newr hu (o:=MO.lst [T.str (c8c "turned"),T.str (c8c "mirrored"),T.str (c8c "flipped"),T.str (c8c "shorter")]);have hM8:(updM M5 u (MO.lst [T.str (c8c "turned"),T.str (c8c "mirrored"),T.str (c8c "flipped"),T.str (c8c "shorter")])) u=some (.lst (c8N T.str [("turned":Str),"mirrored","flipped","shorter"])):=a0d
    generalize updM M5 u (MO.lst [T.str (c8c "turned"),T.str (c8c "mirrored"),T.str (c8c "flipped"),T.str (c8c "shorter")])=M8 at hs hM8|-
    obtain⟨kk,ek,mk⟩:=b2H (L:=[("turned":Str),"mirrored","flipped","shorter"]) (n:=4) rfl (c:=way-5) (by lia) (by lia);rw[show atI [T.str (c8c "turned"),T.str (c8c "mirrored"),T.str (c8c "flipped"),T.str (c8c "shorter")] (way-5)=some (.str kk) from ek];refine⟨by decide,fun r hr=>?_⟩;have hk2:kk∈K2s:=(by decide +kernel:∀k∈[("turned":Str),"mirrored","flipped","shorter"],k∈K2s) kk mk;exact hs.fin (ws:=[kk,o1,o2]) h (.inr (.inr ⟨kk,[o1,o2],rfl,.two hk2 m1 m2⟩)) hr
   ·rw [hK4];clear hK4;refine a0j fun K5 hK5=>?_;walk_at "rd";refine ite2 (fun c'=>?_) (fun c'=>?_)
    ·refine⟨by decide,fun r hr=>?_⟩;exact hs.fin (ws:=[("behind":Str),o1,o2,o3]) h (.inr (.inr ⟨_,[o1,o2,o3],rfl,.three m1 m2 m3⟩)) hr
    ·rw [hK5];clear hK5;refine a0j fun K6 hK6=>?_;walk_at "rd";refine ite2 (fun c'=>?_) (fun c'=>?_)
     ·refine⟨by decide,fun r hr=>?_⟩;exact hs.fin (ws:=[("same":Str),o1,o2]) h (.inr (.inr ⟨_,[o1,o2],rfl,.two (by decide +kernel) m1 m2⟩)) hr
     ·rw[hK6];clear hK6;refine a0j fun K7 hK7=>?_;walk_at "rd";refine ite2 (fun c'=>?_) (fun c'=>?_)
      ·refine⟨by decide,fun r1 hr1=>?_⟩;have hs1:=hs.newr hr1 (o:=MO.lst [T.str (c8c "names")]);have q1:(updM M5 r1 (MO.lst [T.str (c8c "names")])) r1=some (.lst [T.str (c8c "names")]):=a0d
       generalize updM M5 r1 (MO.lst [T.str (c8c "names")])=M6 at hs1 q1|-
       refine⟨by decide,fun r2 hr2=>?_⟩;have hs2:=hs1.newr hr2 (o:=MO.lst [T.str (c8c "drop"),T.str o1]);have q2:(updM M6 r2 (MO.lst [T.str (c8c "drop"),T.str o1])) r1=some (.lst [T.str (c8c "names")]):=Sub.new hr2 _ _ q1;have q3:(updM M6 r2 (MO.lst [T.str (c8c "drop"),T.str o1])) r2=some (.lst [T.str (c8c "drop"),T.str o1]):=a0d
       generalize updM M6 r2 (MO.lst [T.str (c8c "drop"),T.str o1])=M7 at hs2 q2 q3|-
       refine⟨by decide,fun r3 hr3=>?_⟩;have hs3:=hs2.newr hr3 (o:=MO.lst [T.adr r1,T.adr r2]);have q4:=Sub.new hr3 (o:=MO.lst [T.adr r1,T.adr r2]) _ _ q2;have q5:=Sub.new hr3 (o:=MO.lst [T.adr r1,T.adr r2]) _ _ q3;have q6:(updM M7 r3 (MO.lst [T.adr r1,T.adr r2])) r3=some (.lst [T.adr r1,T.adr r2]):=a0d
       generalize updM M7 r3 (MO.lst [T.adr r1,T.adr r2])=M8 at hs3 q4 q5 q6|-
       have n1:r1≠p:=fun z=>by rw[z,hs.pp] at hr1;cases hr1
       have n2:r2≠p:=fun z=>by rw[z,hs1.pp] at hr2;cases hr2
       have n3:r3≠p:=fun z=>by rw[z,hs2.pp] at hr3;cases hr3
       refine⟨_,f,hs3.pp,by decide,by decide,fun c s9 a0 a1=>?_⟩;have hs4:=hs3.next (s':=s9) hpq;dsimp only;rw[a0k n3,q6];dsimp only;rcases (by lia:c=0\/c=1) with rfl|rfl
       ·rw[a1u];exact LnS.fin2 hs hr1 hs4 h (ws:=[("names":Str)]) (.inr (.inl rfl)) (by rw[a0k n1];exact q4)
       ·rw[a7k];exact LnS.fin2 hs1 hr2 hs4 h (ws:=[("drop":Str),o1]) (.inr (.inr ⟨_,[o1],rfl,.one (by decide +kernel) m1⟩)) (by rw[a0k n2];exact q5)
      ·rw[hK7];clear hK7;walk_at "rd";refine⟨by decide,fun u hu=>?_⟩;have hs1:=hs.newr hu (o:=MO.lst (c8N T.str [("show":Str),"order","form","closed"]));have q1:(updM M5 u (MO.lst (c8N T.str [("show":Str),"order","form","closed"]))) u=some (.lst (c8N T.str [("show":Str),"order","form","closed"])):=a0d;change a1J _ (updM M5 u (MO.lst (c8N T.str [("show":Str),"order","form","closed"]))) _
       generalize updM M5 u (MO.lst (c8N T.str [("show":Str),"order","form","closed"]))=M6 at hs1 q1|-
       have n1:u≠p:=fun z=>by rw[z,hs.pp] at hu;cases hu
       refine⟨_,f,hs1.pp,by decide,by decide,fun c s9 a0 a1=>?_⟩;have hs4:=hs1.next (s':=s9) hpq;dsimp only;rw[a0k n1,q1];dsimp only;obtain⟨kk,ek,mk⟩:=b2H (L:=[("show":Str),"order","form","closed"]) (n:=4) rfl (c:=c) (by lia) (by lia);rw[ek];refine⟨by decide,fun r hr=>?_⟩;have hk1:kk∈K1s:=(by decide +kernel:∀k∈[("show":Str),"order","form","closed"],k∈K1s) kk mk;exact hs4.fin (ws:=[kk,o1]) h (.inr (.inr ⟨kk,[o1],rfl,.one hk1 m1⟩)) hr
 ·exact h.elim
noncomputable def b0p:Sp3:=fun ts M Q=>match ts with
 |[.rd s]=>∃ns:LSI,s=ns.map .int/\ns.length<=63/\Q (.bl true) M
 |_=>False
theorem b7w(ns:LSI)(M:MH)(Q:VK3)(hl:ns.length<=63)(h:Q (.bl true) M):b0p [.rd (ns.map .int)] M Q:=⟨ns,rfl,hl,h⟩
structure LwS(M:MH)(C x1 b1 x2 b2 kd:Addr)(D D':Dk)(Mx:MH):Prop where
 o1:Mx x1=some (.ob C [("kept",.adr b1)])
 d1:Mx b1=some (.dk (dkD D))
 o2:Mx x2=some (.ob C [("kept",.adr b2)])
 d2:Mx b2=some (.dk (dkD []))
 dk:Mx kd=some (.dk (dkD D'))
 sub:Sub M Mx
structure LwN(M:MH)(x1 b1 x2 b2 kd:Addr):Prop where
 n1:b1≠x1/\b1≠x2/\b1≠b2/\b1≠kd
 n2:kd≠x1/\kd≠b1/\kd≠x2/\kd≠b2
 f1:M b1=none
 f2:M kd=none
theorem LwS.newr{M:MH}{C x1 b1 x2 b2 kd r:Addr}{D D':Dk}{Mx:MH}{o:MO}(h:LwS M C x1 b1 x2 b2 kd D D' Mx)(hr:Mx r=none):LwS M C x1 b1 x2 b2 kd D D' (updM Mx r o) :=
 ⟨Sub.new hr _ _ h.o1,Sub.new hr _ _ h.d1,Sub.new hr _ _ h.o2,Sub.new hr _ _ h.d2,Sub.new hr _ _ h.dk,h.sub.newr hr⟩
theorem LwS.b{M:MH}{C x1 b1 x2 b2 kd:Addr}{D D' E:Dk}{Mx:MH}(h:LwS M C x1 b1 x2 b2 kd D D' Mx)(n:LwN M x1 b1 x2 b2 kd):LwS M C x1 b1 x2 b2 kd E D' (updM Mx b1 (.dk (dkD E))) :=
 ⟨by rw[a0k n.n1.1.symm];exact h.o1,a0d,by rw[a0k n.n1.2.1.symm];exact h.o2,by rw[a0k n.n1.2.2.1.symm];exact h.d2,by rw[a0k n.n1.2.2.2.symm];exact h.dk,h.sub.updF n.f1⟩
theorem LwS.k{M:MH}{C x1 b1 x2 b2 kd:Addr}{D D' E:Dk}{Mx:MH}(h:LwS M C x1 b1 x2 b2 kd D D' Mx)(n:LwN M x1 b1 x2 b2 kd):LwS M C x1 b1 x2 b2 kd D E (updM Mx kd (.dk (dkD E))) :=
 ⟨by rw[a0k n.n2.1.symm];exact h.o1,by rw[a0k n.n2.2.1.symm];exact h.d1,by rw[a0k n.n2.2.2.1.symm];exact h.o2,by rw[a0k n.n2.2.2.2.symm];exact h.d2,a0d,h.sub.updF n.f2⟩
theorem c0w{D:Dk}(h:DkOK D):((dkD D).map c8J).Nodup:=by
 rw[b2l];exact c9n.mpr (h.nd.imp fun h z=>h (d2N z))
theorem c2D(D:Dk):∀kv∈dkD D,a0G kv.2=true/\depT kv.2<=30:=fun kv hkv=>by
 obtain⟨x,_,rfl⟩:=c8q.mp hkv;show a0G (kpT x.2)=true/\depT (kpT x.2)<=30;unfold kpT;constructor
 ·rw[a2f,a6m,a6m,b0v,a3P,a2f,a1y];rfl
 ·rw[a5I,a7P,a7P,b4a,a7a,a5I,a3U];decide
theorem b9S{n:Int}(h0:1<=n)(h1:n<=6):∃c,atI (a0p n++c8c ":").cps.toList 0=some c/\intText? (⟨#[c]⟩:Str)=some n/\(⟨#[c]⟩:Str).length<=640/\(a0p n++c8c ":").length<=sizeLine:=by
 have:n=1\/n=2\/n=3\/n=4\/n=5\/n=6:=by lia
 rcases this with rfl|rfl|rfl|rfl|rfl|rfl
 ·exact⟨49,by decide +kernel⟩
 ·exact⟨50,by decide +kernel⟩
 ·exact⟨51,by decide +kernel⟩
 ·exact⟨52,by decide +kernel⟩
 ·exact⟨53,by decide +kernel⟩
 ·exact⟨54,by decide +kernel⟩
theorem c6t{f fd}(F:Fun K "law" "law" b4G f fd)(Z:Zs K mg){CD f_0 f_1 f_2 f_3 f_4:Addr}(DK:DeskN K mg CD f_0 f_1 f_2 f_3 f_4){n0:Nat}(h0:n0+1<=n)(D_28:a8c P w K mg base n)(D_9:a5t CD f_0 P w K mg base n0)(D_21:a2j P w K mg base n)(D_42:a9B P w K mg base n)(D_22:a7f P w K mg base n)(D_48:b0S CD f_4 P w K mg base n)(D_20:a7g CD f_1 P w K mg base n):FnOk P w K mg base CX0 (n+1) f fd ["script"] (dSp K b0p):=by
 refine F.fnk a3M (by unfold b0p;walk_at "ln") ⟨_,fun cdv A outer s H E hr=>(a0c (a0y (i:=1) (a0h D_28 hr (a0a (hv 0) (a0a a0f a0e))) a3M.nd) (a0c (a0y (i:=2) (c3e DK.mk_ D_9 (hr.mono h0) DK.mg) a3M.nd) (a0c (a0y (i:=3) (c3e DK.mk_ D_9 (hr.mono h0) DK.mg) a3M.nd) (a0c (a0y (i:=4) b0M a3M.nd) (a0c (a7A c9i rfl (a6V Z.b_range (a0a (a0h D_21 hr (a0a (hv 1) (a0a a0f a0e))) a0e)) (a2y (i:=5) a3M.nd) (a0c (a0y (i:=6) (a0h D_42 hr (a0a (a0h D_28 hr (a0a (hv 0) (a0a (a0z a0u a0f (hv 5)) a0e))) a0e)) a3M.nd) (a0c (s_if (a0o (a0T hr.units) (h_ix (hv 6) a0f) a0t (a0n _)) (a0c (a0y (i:=7) a0t a3M.nd) (a0g (b6W hr.units (a2N (a0a (a0Q a9J Z.b_int d1M (a0a (h_ix (h_ix (hv 6) a0f) a0f) a0e)) (a0a (a0Q a1c Z.b_tuple c8W (a0a (a1k rfl (a1N (a1s (hv 6) (a2m a0f) a2n)) (bkS (a0b b4G) ["script","state","desk","beside","kept","k","words","due","found","told"] ["word"] [none]) (a0N (i:=0)) (by walk_at "g") (fun _ _ _ _ _=>a1j) (fun _ _ _ _ _=>(a0Q a9J Z.b_int d1M (a0a (hv 0) a0e)))) a0e)) a0e))) (hv 4) (h_ix (hv 6) a0f)))) (a0g (s_if (a0o (a0T hr.units) (h_ix (hv 6) a0f) a0t (a0n _)) (a0c (a0y (i:=7) (a2h a0t (a0a (a0M (a7h rfl) Z.b_sorted d1t (a0a (hv 4) a0e)) a0e)) a3M.nd) (a0g (s_if (a0o (b5Y hr.units) (hv 4) b0M (a0n _)) (a0g (a0y (i:=7) a0t a3M.nd)) a0w))) (a0g (a0y (i:=7) (a0h D_22 hr (a0a (hv 4) (a0a (hv 6) a0e))) a3M.nd))))) (a0c (a0y (i:=8) (b9V DK.c DK.m_say D_48 hr (hv 2) (a0a (a2h a0t (a0a (hv 6) a0e)) a0e)) a3M.nd) (a0c (a0y (i:=9) (b9U DK.c DK.m_plaits D_20 hr (hv 2)) a3M.nd) (a0c (s_if (HW.ht (w_or (a6W (a1z (c6S .str (hv 8) Z.b_isinstance Z.b_str c9q))) (w_or (a0o (b0y hr.units) (hv 8) (hv 7) (a0n _)) (w_or (a6W (a1z (c6S .dict (hv 9) Z.b_isinstance Z.b_dict d0r))) (c3u (a0o (c4o hr.units) (hv 9) (hv 4) (a0n _))))))) (a0g (a0l h_bl)) a0w) (a0g (b6W hr.units (a2N (a0a a0f (@b5v _ _ _ _ _ _ _ (a2N a0e) a0e))) (hv 9) a0t)))))))) (a0g (a0l (c4H (b9Z (b5Y hr.units) (b9U DK.c DK.m_plaits D_20 hr (hv 3)) b0M (a0n _)) (c2i (b9Z (a0T hr.units) (b9V DK.c DK.m_say D_48 hr (hv 3) (a0a a0t a0e)) a0t (a0n _))))))))))),fun ts M Q h=>?_⟩;unfold b0p at h;split at h
 ·rename_i s;obtain⟨ns,rfl,hns,h⟩:=h;refine b1k fun K1 hK1=>?_;walk_at "rd";have ne:∀{Mx:MH} {r a:Addr} {o:MO},Mx r=none->Mx a=some o->a≠r:=fun h1 h2 z=>by rw[z,h1] at h2;cases h2
  refine⟨ns,rfl,by decide,fun p s0 f0 hp=>?_⟩;have hS:=Sub.new hp (o:=MO.lst [.int s0,.bl f0]);have pp:(updM M p (.lst [.int s0,.bl f0])) p=some (.lst [.int s0,.bl f0]):=a0d
  generalize updM M p (.lst [.int s0,.bl f0])=A0 at hS pp|-
  intro x1 hx1;refine⟨a0d,fun b1 hb1=>?_⟩;have hx1M:=none_of hS hx1;have hS1:=hS.newr hx1 (o:=MO.ob CD []);have hb1M:=none_of hS1 hb1;have px:=ne hx1 pp;have pb:=ne hb1 (Sub.new hx1 _ _ pp);have xb:=ne hb1 a0d;have hS2:=(hS1.newr hb1 (o:=MO.dk [])).updF hx1M (o:=MO.ob CD [("kept",.adr b1)]);have pp2:(updM (updM (updM A0 x1 (MO.ob CD [])) b1 (MO.dk [])) x1 (MO.ob CD [("kept",.adr b1)])) p=some (.lst [.int s0,.bl f0]):=by rw[a0k px,a0k pb,a0k px];exact pp
  have o1:(updM (updM (updM A0 x1 (MO.ob CD [])) b1 (MO.dk [])) x1 (MO.ob CD [("kept",.adr b1)])) x1=some (.ob CD [("kept",.adr b1)]):=a0d;have d1:(updM (updM (updM A0 x1 (MO.ob CD [])) b1 (MO.dk [])) x1 (MO.ob CD [("kept",.adr b1)])) b1=some (.dk (dkD [])):=by rw[a0k xb.symm,a0d];rfl
  generalize updM (updM (updM A0 x1 (MO.ob CD [])) b1 (MO.dk [])) x1 (MO.ob CD [("kept",.adr b1)])=A1 at hS2 pp2 o1 d1|-
  clear hb1 hS1 hx1 hS pp pb px;refine⟨rfl,fun x2 hx2=>⟨a0d,fun b2 hb2=>?_⟩⟩;have hx2M:=none_of hS2 hx2;have q1:=Sub.new hx2 (o:=MO.ob CD []);have q2:=Sub.new hb2 (o:=MO.dk []);have n1:=ne hx2 o1;have n2:=ne hx2 d1;have n3:=ne hx2 pp2;have n4:=ne hb2 (q1 _ _ o1);have n5:=ne hb2 (q1 _ _ d1);have n6:=ne hb2 (q1 _ _ pp2);have n7:=ne hb2 a0d;have hS3:=((hS2.newr hx2 (o:=MO.ob CD [])).newr hb2 (o:=MO.dk [])).updF hx2M (o:=MO.ob CD [("kept",.adr b2)]);have pp3:(updM (updM (updM A1 x2 (MO.ob CD [])) b2 (MO.dk [])) x2 (MO.ob CD [("kept",.adr b2)])) p=some (.lst [.int s0,.bl f0]):=by rw[a0k n3];exact q2 _ _ (q1 _ _ pp2)
  have o13:(updM (updM (updM A1 x2 (MO.ob CD [])) b2 (MO.dk [])) x2 (MO.ob CD [("kept",.adr b2)])) x1=some (.ob CD [("kept",.adr b1)]):=by rw[a0k n1];exact q2 _ _ (q1 _ _ o1)
  have d13:(updM (updM (updM A1 x2 (MO.ob CD [])) b2 (MO.dk [])) x2 (MO.ob CD [("kept",.adr b2)])) b1=some (.dk (dkD [])):=by rw[a0k n2];exact q2 _ _ (q1 _ _ d1)
  have o23:(updM (updM (updM A1 x2 (MO.ob CD [])) b2 (MO.dk [])) x2 (MO.ob CD [("kept",.adr b2)])) x2=some (.ob CD [("kept",.adr b2)]):=a0d;have d23:(updM (updM (updM A1 x2 (MO.ob CD [])) b2 (MO.dk [])) x2 (MO.ob CD [("kept",.adr b2)])) b2=some (.dk (dkD [])):=by rw[a0k n7.symm,a0d];rfl
  generalize updM (updM (updM A1 x2 (MO.ob CD [])) b2 (MO.dk [])) x2 (MO.ob CD [("kept",.adr b2)])=A2 at hS3 pp3 o13 d13 o23 d23|-
  clear q1 q2 hx2 hb2 hS2 o1 d1 pp2 n3 n6;refine⟨rfl,fun kd hkd=>?_⟩;have hn:LwN M x1 b1 x2 b2 kd:=⟨⟨xb.symm,n2,n5,ne hkd d13⟩,⟨(ne hkd o13).symm,(ne hkd d13).symm,(ne hkd o23).symm,(ne hkd d23).symm⟩,hb1M,none_of hS3 hkd⟩;have r1:=Sub.new hkd (o:=MO.dk []);have hs:LwS M CD x1 b1 x2 b2 kd [] [] (updM A2 kd (.dk [])):=⟨r1 _ _ o13,r1 _ _ d13,r1 _ _ o23,r1 _ _ d23,a0d,hS3.newr hkd⟩;have pp4:=r1 _ _ pp3
  have pn:p≠b1/\p≠kd/\p≠x1/\p≠x2/\p≠b2:=by
   refine⟨fun z=>?_,fun z=>?_,fun z=>?_,fun z=>?_,fun z=>?_⟩
   ·rw[z,d13] at pp3;cases pp3
   ·rw[z,hkd] at pp3;cases pp3
   ·rw[z,o13] at pp3;cases pp3
   ·rw[z,o23] at pp3;cases pp3
   ·rw[z,d23] at pp3;cases pp3
  generalize updM A2 kd (MO.dk [])=A3 at hs pp4|-
  clear r1 pp3 o13 d13 o23 d23 hkd hS3;rw[hK1];clear hK1;refine a0j fun K2 hK2=>?_;refine a5o fun B hB=>?_;unfold a8e;walk_at "rd";refine⟨s0,f0,pp4,by decide,by decide,fun cn s1 c0 c1=>?_⟩;have hpM:M p=none:=hp;have hs':LwS M CD x1 b1 x2 b2 kd [] [] (updM A3 p (.lst [.int s1,.bl f0])):=⟨by rw[a0k pn.2.2.1.symm];exact hs.o1,by rw[a0k pn.1.symm];exact hs.d1,by rw[a0k pn.2.2.2.1.symm];exact hs.o2,by rw[a0k pn.2.2.2.2.symm];exact hs.d2,by rw[a0k pn.2.1.symm];exact hs.dk,hs.sub.updF hpM⟩
  generalize updM A3 p (.lst [.int s1,.bl f0])=A4 at hs'|-
  clear hs pp4;dsimp only;refine⟨by lia,by lia,fun i ρ M'=>∃(D:Dk) (x5 x6 x7 x8 x9:Option T),ρ=[some (T.rd (c8N T.int ns)),some (T.adr p),some (T.adr x1),some (T.adr x2),some (T.adr kd),x5,x6,x7,x8,x9]/\DkOK D/\LwS M CD x1 b1 x2 b2 kd D D M',⟨[],_,_,_,_,_,rfl,DkOK.nil,hs'⟩,fun _ _ _ _=>trivial,?_,?_⟩
  ·rintro i x ρ M1 hx ⟨D,x5,x6,x7,x8,x9,rfl,hD,hs⟩;obtain⟨hi,rfl⟩:=a3a hx;rw[hB];clear hB;refine a0j fun K3 hK3=>?_;walk_at "rd";refine⟨ns,rfl,by lia,fun u n f hu=>?_⟩;refine⟨n,f,a0d,fun ws r s' hw hr=>?_⟩;rw[a4K]
   have hru:(updM M1 u (.lst [.int s',.bl f])) r=none:=by
    have hur:u≠r:=fun z=>by rw[<- z,a0d] at hr;cases hr
    rw[a0k hur.symm] at hr|-;exact hr
   have hs:=(hs.newr hu (o:=MO.lst [.int s',.bl f])).newr hru (o:=MO.lst (ws.map .str));have hr2:(updM (updM M1 u (.lst [.int s',.bl f])) r (.lst (ws.map .str))) r=some (.lst (ws.map .str)):=a0d
   generalize updM (updM M1 u (.lst [.int s',.bl f])) r (.lst (ws.map .str))=M2 at hs hr2|-
   clear hr hru hu;rw[hK3];clear hK3;refine a0j fun K4 hK4=>?_
   obtain⟨k,rest,rfl⟩:∃k rest,ws=k::rest:=by
    rcases hw with ⟨nm,n,w,e,_⟩|e|⟨k,rest,e,_⟩
    ·exact⟨_,_,e⟩
    ·exact⟨_,_,e⟩
    ·exact⟨_,_,e⟩
   have key:∀(due:Str) (D':Dk) (M3:MH) (x8 x9:Option T),DkOK D'->LwS M CD x1 b1 x2 b2 kd D D' M3->M3 r=some (.lst ((k::rest).map .str))->(∀(Q':VK3) (Mz:MH),Mz b1=some (.dk (dkD D))->Q' (.str due) (updM Mz b1 (.dk (dkD D')))->SayW Q' Mz b1 D k rest) ->
     K4 [some (T.rd (c8N T.int ns)),some (T.adr p),some (T.adr x1),some (T.adr x2),some (T.adr kd),some (T.int (0+(i:Int))),some (T.adr r),some (T.str due),x8,x9] M3:=fun due D' M3 x8 x9 hD' hs3 hr3 hsay=>by
    rw[hK4];clear hK4;refine a0j fun K5 hK5=>?_;walk_at "rd";rw[hs3.o1];refine⟨rfl,rfl,?_⟩;rw[hr3];dsimp only;rw[a1w];dsimp only;have wl:=b8B (hsay (fun _ _=>True) M3 hs3.d1 trivial);refine⟨a5G (b:=8) (by decide +kernel) (fun y hy=>(wl.1 y hy).2) (by have:=wl.2;lia),b1,D,k,rest,hs3.o1,hs3.d1,hD,rfl,hsay _ M3 hs3.d1 ?_⟩;have hs4:=hs3.b hn (E:=D')
    generalize updM M3 b1 (.dk (dkD D'))=M4 at hs4|-
    rw[hK5];clear hK5;refine a0j fun K6 hK6=>?_;walk_at "rd";rw[hs4.o1];refine⟨rfl,rfl,b1,dkD D',hs4.o1,hs4.d1,fun t ht=>?_⟩;have hs5:=hs4.newr ht (o:=MO.dk (dkD D'));have ht5:(updM M4 t (.dk (dkD D'))) t=some (.dk (dkD D')):=a0d;have ntk:∀a o,M4 a=some o->a≠t:=fun a o e=>ne ht e;have t1:=ntk _ _ hs4.o1;have t2:=ntk _ _ hs4.d1;have t3:=ntk _ _ hs4.o2;have t4:=ntk _ _ hs4.d2;have t5:=ntk _ _ hs4.dk;have tM:=none_of hs4.sub ht
    generalize updM M4 t (.dk (dkD D'))=M5 at hs5 ht5|-
    rw[hK6];clear hK6;refine a0j fun K7 hK7=>?_;walk_at "rd";refine⟨a3O _,a3O _,b2n _,?_⟩;rw[b2g,decide_eq_true rfl,if_neg (by decide),ht5];dsimp only;rw[if_neg (by decide)];refine⟨dkD D',rfl,hs5.dk,c0w hD',c2D D',?_⟩;rw[hK7];clear hK7;walk_at "rd";refine⟨by decide,?_⟩;rw[ht5];refine⟨.inr "x",rfl,by unfold dkD;rw[c8a];exact c8D hD'.len (by decide),?_⟩;exact⟨D',_,_,_,_,_,rfl,hD',⟨by rw[a0k t1];exact hs5.o1,by rw[a0k t2];exact hs5.d1,by rw[a0k t3];exact hs5.o2,by rw[a0k t4];exact hs5.d2,by rw[a0k t5];exact hs5.dk,hs5.sub.updF tM⟩⟩
   clear hK4;walk_at "rd";rw[hr2];dsimp only;rw[c8g,a1u];dsimp only;refine a0K (fun c=>?_) fun c=>?_
   ·rcases hw with ⟨nm,n,w,e,hnm,ok,h4⟩|e|⟨k',rest',e,hl⟩
    ·injection e with e1 e2;subst e1 e2;have hn1:=ok.1;have hn6:=ok.2.1;have hl16:=ok.2.2.1;obtain⟨cc,g1,g2,g3,g4⟩:=b9S hn1 hn6
     have ec:cutT (T.str (c8c "keep")::c8N T.str (nm::plW n w)) (some 3) none=(w.map a0p).map T.str:=by
      rw[a1e _ _ (by decide)];rfl
     rw[ec,show T.str (c8c "keep")::c8N T.str (nm::plW n w)=T.str (c8c "keep")::T.str nm::T.str (a0p n++c8c ":")::(w.map a0p).map T.str from rfl,c7c];dsimp only;refine⟨g4,?_⟩;rw[g1];dsimp only;refine⟨n,g2,g3,fun u hu=>?_⟩;have hs1:=hs.newr hu (o:=MO.lst ((w.map a0p).map T.str));have q1:=Sub.new hu (o:=MO.lst ((w.map a0p).map T.str)) _ _ hr2;have u1:(updM M2 u (MO.lst ((w.map a0p).map T.str))) u=some (.lst ((w.map a0p).map T.str)):=a0d
     generalize updM M2 u (MO.lst ((w.map a0p).map T.str))=M3 at hs1 q1 u1|-
     refine⟨fun i ys M'=>ys=(w.take i).map T.int/\M'=M3,⟨rfl,rfl⟩,?_,a0H (by rw[c8a,c8a];lia),?_,?_⟩
     ·rintro i ys M' ⟨_,rfl⟩;exact u1
     ·rintro i x ys M' hx ⟨rfl,rfl⟩;obtain⟨y,hy,rfl⟩:=a0r hx;obtain⟨l,hl',rfl⟩:=a0r hy;obtain⟨l0,l1⟩:=a5D ok l (c8s hl');obtain⟨_,s2,s3⟩:=sI l l0 l1;refine⟨l,s3,by lia,?_,rfl⟩;rw[<- a0F T.int hl']
     ·rintro ys M' ⟨rfl,rfl⟩ v hv;rw[c8a,c8a,c8y];have hs2:=hs1.newr hv (o:=MO.lst (w.map T.int));have q2:=Sub.new hv (o:=MO.lst (w.map T.int)) _ _ q1
      generalize updM M' v (MO.lst (w.map T.int))=M4 at hs2 q2|-
      refine⟨by decide,?_⟩;rw[q2];dsimp only;rw[c8g,c8g,a7k];dsimp only;rw[hs2.dk];refine⟨.inr nm,rfl,by unfold dkD;rw[c8a];exact c8D hD.len (by decide),?_⟩;rw[show T.tup [T.int n,T.tup (w.map T.int)]=kpT (n,w) from rfl,a8s];refine key (c8c "kept") (putD D nm (n,w)) _ _ _ (hD.put hnm ⟨ok,h4⟩) (hs2.k hn) ?_ fun Q' Mz hz hq=>.inl ⟨rfl,nm,n,w,rfl,hnm,ok,hq⟩;rw[a0k (fun z=>by rw[z,hs2.dk] at q2;cases q2)];exact q2
    ·exfalso;injection e with e1 _;rw[c] at e1
     revert e1;decide +kernel
    ·injection e with e1 _;exact absurd c (e1▸(a5l _ (a7H hl)).2.1)
   ·refine a0K (fun c2=>?_) fun c2=>?_
    ·rw[hs.dk];refine⟨D.map c8J,b2l D,by rw[c8a];exact c8D hD.len (by decide),fun ms hp hsrt q hq=>?_⟩
     have hms:∀y∈ms,y.length<=8:=fun y hy=>by
      obtain⟨x,hx,rfl⟩:=c8q.mp (hp.mem_iff.mp hy);exact(b1P _ (hD.nm x hx)).2
     have hml:ms.length=D.length:=by rw[hp.length_eq,c8a]
     have h5:=hD.len;refine⟨a5G (b:=8) (by decide +kernel) hms (by lia),fun e he=>?_⟩;have hs1:=(hs.newr hq (o:=MO.lst (ms.map T.str))).newr he (o:=MO.dk []);have q1:=Sub.new he (o:=MO.dk []) _ _ (Sub.new hq (o:=MO.lst (ms.map T.str)) _ _ hr2);refine⟨dkD D,hs1.dk,?_⟩
     have hre:rest=[]:=by
      rcases hw with ⟨nm,n,w,e,_⟩|e|⟨k',rest',e,hl⟩
      ·injection e with e1 _;exact absurd e1 c
      ·injection e
      ·injection e with e1 _;exact absurd c2 (e1▸(a5l _ (a7H hl)).2.2)
     have fin:∀due,due=b0B D ms->∀(Q':VK3) (Mz:MH),Mz b1=some (.dk (dkD D))->Q' (.str due) (updM Mz b1 (.dk (dkD D)))->SayW Q' Mz b1 D k rest:=fun due ed Q' Mz hz hq=>by
      rw[a2v hz] at hq;refine .inr (.inl ⟨c2,hre,fun ms' hp' hs'=>?_⟩);rw[b2M hp' hp hs' hsrt,<- ed];exact hq
     generalize updM (updM M2 q (MO.lst (ms.map T.str))) e (MO.dk [])=M3 at hs1 q1|-
     have ei:(dkD D).isEmpty=D.isEmpty:=by cases D<;>rfl
     rw[ei];refine ite2 (fun z=>?_) (fun z=>?_)
     ·exact key _ D M3 _ _ hD hs1 q1 (fin _ (by unfold b0B;rw[if_pos z]))
     ·exact key _ D M3 _ _ hD hs1 q1 (fin _ (by unfold b0B;rw[if_neg z]))
    ·rcases hw with ⟨nm,n,w,e,_⟩|e|⟨k',rest',e,hl⟩
     ·injection e with e1 _;exact absurd e1 c
     ·injection e with e1 _;exact absurd e1 c2
     ·injection e with e1 e2;subst e1 e2;refine⟨D,k,rest,hs.dk,hD,hr2,hl,?_⟩;refine key (ansF D k rest).1 (ansF D k rest).2 _ _ _ (c7d hD hl) (hs.k hn) ?_ fun Q' Mz hz hq=>.inr (.inr ⟨hl,hq⟩);rw[a0k (fun z=>by rw[z,hs.dk] at hr2;cases hr2)];exact hr2
  ·rintro ρ M1 ⟨D,x5,x6,x7,x8,x9,rfl,hD,hs⟩;rw[hK2];clear hK2;walk_at "rd";rw[hs.o2];refine⟨rfl,rfl,b2,dkD [],hs.o2,hs.d2,fun r hr=>?_⟩;intro e he;dsimp only;refine⟨dkD [],Sub.new he _ _ a0d,a0d,?_⟩;rw[if_pos (by rfl),Sub.new he _ _ (Sub.new hr _ _ hs.o2)];refine⟨rfl,rfl,b2,[],"names",[],Sub.new he _ _ (Sub.new hr _ _ hs.o2),Sub.new he _ _ (Sub.new hr _ _ hs.d2),DkOK.nil,by decide +kernel,.inr (.inl ⟨rfl,rfl,fun ms hp hsrt=>?_⟩)⟩;refine⟨a3O _,a3O _,b2n _,?_⟩;rw[b2g,show decide (b0B [] ms=c8c "none")=true from decide_eq_true rfl];exact a0s h ((hs.sub.newr hr).newr he)
 ·exact h.elim
theorem Df.u{P w K mg base n m x ps sp}(D:Df P w K mg base n x ps sp)(h:n<=m:=by decide):Df P w K mg base m x ps sp:=D.mono h
theorem DfX.u{P w K mg base n m x ps sp}(D:DfX P w K mg base n x ps sp)(h:n<=m:=by decide):DfX P w K mg base m x ps sp:=D.mono h
noncomputable abbrev RwN(K:PySem.W.Frag)(x:Str)(v:OVA):Prop:=PySem.W.nsIn K mainGlobals x=some v
noncomputable abbrev RwL(K:PySem.W.Frag)(x q:Str)(s:Stmt)(f:Addr)(oc:c8t)(od:Option Addr)(kV dc pm:c8t)(an:Option Addr)(cd ct:c8t)(sl:AOV):Prop:=K.lookup f=some ⟨oc,od,.func (PySem.W.fnOf x q (a5p s) (a1Q s) (a0b s) .none kV dc pm an cd ct),sl⟩
noncomputable abbrev RwC(K:PySem.W.Frag)(cd:c8t)(x:Str):Prop:=PySem.W.codeIn K cd x=true
noncomputable abbrev RwK(K:PySem.W.Frag)(f:Addr):Prop:=PySem.W.keepIn K (.ref f)=true
theorem c7e{l:PySem.W.OpenLaw}{w:c9d}{h:Heap}{fa f49 f50 f51 f52 f53:Addr}(X:K.In h)(G:h.Ns mainGlobals mg)(hfa:mg "law"=some (.ref fa))
  {od49 od50 od51 od52 od53 an49 an50 an51 an52 an53:Option Addr} {sl49 sl50 sl51 sl52 sl53:AOV} {oc49 oc50 oc51 oc52 oc53 kV49 kV50 kV51 kV52 kV53 dc49 dc50 dc51 dc52 dc53 pm49 pm50 pm51 pm52 pm53 cd49 cd50 cd51 cd52 cd53 ct49 ct50 ct51 ct52 ct53:c8t}
  {CD:Addr} (aC:RwN K "Desk" (some (.ref CD)))
  (d1:FD0 K mg "is_letter" a6f)
  (d2:FD0 K mg "is_word" a6J)
  (d3:FD0 K mg "is_plait" a7z)
  (d4:FD0 K mg "looked" b1u)
  (d5:FD0 K mg "looked_both" a4m)
  (d6:FD0 K mg "contrary" a5C)
  (d7:FD0 K mg "without_pairs" a3f)
  (d8:FD0 K mg "exchanged" a6g)
  (d9:FD0 K mg "places_in" a4k)
  (d10:FD0 K mg "behind" b1v)
  (d11:FD0 K mg "turned" b1r)
  (d12:FD0 K mg "mirrored" a5B)
  (d13:FD0 K mg "flipped_letter" a2M)
  (d14:FD0 K mg "flipped" a6M)
  (d15:FD0 K mg "shorter" a8M)
  (d16:FD0 K mg "order_of" a7y)
  (d17:FD0 K mg "plain_order" a4j)
  (d18:FD0 K mg "half_twist" a5g)
  (d19:FD0 K mg "can_begin" a6h)
  (d20:FD0 K mg "flipped_order" a1Y)
  (d21:FD0 K mg "order_for" a6d)
  (d22:FD0 K mg "moved_ahead" a4l)
  (d23:FD0 K mg "put_behind" a5e)
  (d24:FD0 K mg "form_by_letters" a1F)
  (d25:FD0 K mg "form_of" a8N)
  (d26:FD0 K mg "made_by_letter" a2L)
  (d27:FD0 K mg "made_by_word" a3G)
  (d28:FD0 K mg "unlike" b1q)
  (d29:FD0 K mg "shown" b1s)
  (d30:FD0 K mg "number_in" a6e)
  (d31:FD0 K mg "read" b5H)
  (d32:FD0 K mg "without_noughts" a1E)
  (d33:FD0 K mg "added" b4H)
  (d34:FD0 K mg "multiplied" a5f)
  (d35:FD0 K mg "one_where_same" a2K)
  (d36:FD0 K mg "with_letter" a4i)
  (d37:FD0 K mg "table_of" a2Y)
  (d38:FD0 K mg "determinant" a1Z)
  (d39:FD0 K mg "from_nought" a4n)
  (d40:FD0 K mg "closed_sum" a3s)
  (d41:FD0 K mg "is_name" a6K)
  (d42:FD0 K mg "is_line" a6L)
  (d43:FD0 K mg "made" b8E)
  (d44:FD0 K mg "same_note" a6c)
  (d45:FD0 K mg "order_note" a3r)
  (d46:FD0 K mg "form_note" a4o)
  (d47:FD0 K mg "counts_note" a2S)
  (d48:FD0 K mg "told_of" a8L)
  (a49:PySem.W.findIn K (.ref CD) "__init__"=some (some (.ref f49))) (i49:PySem.W.isFn K (.ref f49)=true) (l49:RwL K "__init__" "Desk.__init__" a2c f49 oc49 od49 kV49 dc49 pm49 an49 cd49 ct49 sl49) (c49:RwC K cd49 "Desk.__init__") (k49:RwK K f49)
  (a50:PySem.W.findIn K (.ref CD) "plaits"=some (some (.ref f50))) (i50:PySem.W.isFn K (.ref f50)=true) (l50:RwL K "plaits" "Desk.plaits" a2T f50 oc50 od50 kV50 dc50 pm50 an50 cd50 ct50 sl50) (c50:RwC K cd50 "Desk.plaits") (k50:RwK K f50)
  (a51:PySem.W.findIn K (.ref CD) "keep"=some (some (.ref f51))) (i51:PySem.W.isFn K (.ref f51)=true) (l51:RwL K "keep" "Desk.keep" a4r f51 oc51 od51 kV51 dc51 pm51 an51 cd51 ct51 sl51) (c51:RwC K cd51 "Desk.keep") (k51:RwK K f51)
  (a52:PySem.W.findIn K (.ref CD) "done"=some (some (.ref f52))) (i52:PySem.W.isFn K (.ref f52)=true) (l52:RwL K "done" "Desk.done" a4s f52 oc52 od52 kV52 dc52 pm52 an52 cd52 ct52 sl52) (c52:RwC K cd52 "Desk.done") (k52:RwK K f52)
  (a53:PySem.W.findIn K (.ref CD) "say"=some (some (.ref f53))) (i53:PySem.W.isFn K (.ref f53)=true) (l53:RwL K "say" "Desk.say" a2Z f53 oc53 od53 kV53 dc53 pm53 an53 cd53 ct53 sl53) (c53:RwC K cd53 "Desk.say") (k53:RwK K f53)
  (d54:FD0 K mg "_law_cell_at" a3H)
  (d55:FD0 K mg "_law_state" a5h)
  (d56:FD0 K mg "_law_choice" a4q)
  (d57:FD0 K mg "_law_word" a4p)
  (d58:FD0 K mg "_law_plait" a5i)
  (d59:FD0 K mg "_law_order_text" a1G)
  (d60:FD0 K mg "_law_form_text" a1P)
  (d61:FD0 K mg "_law_sum_text" a2a)
  (d62:FD0 K mg "_law_made" a6i)
  (d63:FD0 K mg "_law_answer" a2b)
  (d64:FD0 K mg "_law_line" a6j)
  (d65:FD0 K mg "law" b4G)
  (pg:PySem.W.plainGet K CD d3Z=true) (hd:PySem.W.hasDictIn K CD=true) (po:PySem.W.plainOver K CD=true) (sa:PySem.W.findIn K (.ref CD) "__setattr__"=some (some (.builtin "object.__setattr__"))) (mk:PySem.W.makesIn K CD=true) (kc:RwK K CD) (nK:PySem.W.findIn K (.ref CD) "kept"=some none)
  {dN:Addr} {e_cit:Nat} {tk_cit1 tv_cit1 tk_cit2 tv_cit2 tk_cit3 tv_cit3 tk_cit4 tv_cit4 tk_cit5 tv_cit5 tk_cit6 tv_cit6 tk_cit7 tv_cit7 tk_cit8 tv_cit8 tk_cit9 tv_cit9 tk_cit10 tv_cit10 tk_cit11 tv_cit11 tk_cit12 tv_cit12:Tok} (n_cit:RwN K "NAMES_BEHIND" (some (.ref dN))) (l_cit:K.lookup dN=some ⟨.type "dict",none,.dict #[⟨c9w w.params "drop",.str "drop" tk_cit1,.int 1 tv_cit1⟩,⟨c9w w.params "show",.str "show" tk_cit2,.int 1 tv_cit2⟩,⟨c9w w.params "names",.str "names" tk_cit3,.int 0 tv_cit3⟩,⟨c9w w.params "turned",.str "turned" tk_cit4,.int 2 tv_cit4⟩,⟨c9w w.params "mirrored",.str "mirrored" tk_cit5,.int 2 tv_cit5⟩,⟨c9w w.params "flipped",.str "flipped" tk_cit6,.int 2 tv_cit6⟩,⟨c9w w.params "shorter",.str "shorter" tk_cit7,.int 2 tv_cit7⟩,⟨c9w w.params "behind",.str "behind" tk_cit8,.int 3 tv_cit8⟩,⟨c9w w.params "same",.str "same" tk_cit9,.int 2 tv_cit9⟩,⟨c9w w.params "order",.str "order" tk_cit10,.int 1 tv_cit10⟩,⟨c9w w.params "form",.str "form" tk_cit11,.int 1 tv_cit11⟩,⟨c9w w.params "closed",.str "closed" tk_cit12,.int 1 tv_cit12⟩] e_cit,#[]⟩) (s_cit:(dN==sysModules)=false)
  {zx1 zx2:Addr} (nx1:RwN K "NoStep" (some (.ref zx1))) (nx2:RwN K "NoRoom" (some (.ref zx2))) (x_tw:c3s K zx1 zx2=true)
  (z_b:∀x∈(["ValueError","abs","all","dict","enumerate","int","isinstance","len","list","max","range","reversed","sorted","str","tuple"]:LSS),RwN K x none)
  {u_DOWN:Addr} (g_DOWN:RwN K "DOWN" (some (.ref u_DOWN)))
  {n_DOWN:Nat} {s_DOWN:AOV} {u_DOWN_0:Addr} (l_DOWN:K.lookup u_DOWN=some ⟨.type "tuple",none,.seq #[.ref u_DOWN_0] n_DOWN,s_DOWN⟩)
  {n_DOWN_0:Nat} {s_DOWN_0:AOV} {t_DOWN_0_0:Tok} {t_DOWN_0_1:Tok} (l_DOWN_0:K.lookup u_DOWN_0=some ⟨.type "tuple",none,.seq #[.int (-1) t_DOWN_0_0,.int (1) t_DOWN_0_1] n_DOWN_0,s_DOWN_0⟩)
  {u_LESS_DOWN:Addr} (g_LESS_DOWN:RwN K "LESS_DOWN" (some (.ref u_LESS_DOWN)))
  {n_LESS_DOWN:Nat} {s_LESS_DOWN:AOV} {u_LESS_DOWN_0:Addr} {u_LESS_DOWN_1:Addr} (l_LESS_DOWN:K.lookup u_LESS_DOWN=some ⟨.type "tuple",none,.seq #[.ref u_LESS_DOWN_0,.ref u_LESS_DOWN_1] n_LESS_DOWN,s_LESS_DOWN⟩)
  {n_LESS_DOWN_0:Nat} {s_LESS_DOWN_0:AOV} {t_LESS_DOWN_0_0:Tok} {t_LESS_DOWN_0_1:Tok} (l_LESS_DOWN_0:K.lookup u_LESS_DOWN_0=some ⟨.type "tuple",none,.seq #[.int (-1) t_LESS_DOWN_0_0,.int (-1) t_LESS_DOWN_0_1] n_LESS_DOWN_0,s_LESS_DOWN_0⟩)
  {n_LESS_DOWN_1:Nat} {s_LESS_DOWN_1:AOV} {t_LESS_DOWN_1_0:Tok} {t_LESS_DOWN_1_1:Tok} (l_LESS_DOWN_1:K.lookup u_LESS_DOWN_1=some ⟨.type "tuple",none,.seq #[.int (0) t_LESS_DOWN_1_0,.int (1) t_LESS_DOWN_1_1] n_LESS_DOWN_1,s_LESS_DOWN_1⟩)
  {u_LESS_ONE:Addr} (g_LESS_ONE:RwN K "LESS_ONE" (some (.ref u_LESS_ONE)))
  {n_LESS_ONE:Nat} {s_LESS_ONE:AOV} {u_LESS_ONE_0:Addr} (l_LESS_ONE:K.lookup u_LESS_ONE=some ⟨.type "tuple",none,.seq #[.ref u_LESS_ONE_0] n_LESS_ONE,s_LESS_ONE⟩)
  {n_LESS_ONE_0:Nat} {s_LESS_ONE_0:AOV} {t_LESS_ONE_0_0:Tok} {t_LESS_ONE_0_1:Tok} (l_LESS_ONE_0:K.lookup u_LESS_ONE_0=some ⟨.type "tuple",none,.seq #[.int (0) t_LESS_ONE_0_0,.int (-1) t_LESS_ONE_0_1] n_LESS_ONE_0,s_LESS_ONE_0⟩)
  {u_LESS_UP:Addr} (g_LESS_UP:RwN K "LESS_UP" (some (.ref u_LESS_UP)))
  {n_LESS_UP:Nat} {s_LESS_UP:AOV} {u_LESS_UP_0:Addr} {u_LESS_UP_1:Addr} (l_LESS_UP:K.lookup u_LESS_UP=some ⟨.type "tuple",none,.seq #[.ref u_LESS_UP_0,.ref u_LESS_UP_1] n_LESS_UP,s_LESS_UP⟩)
  {n_LESS_UP_0:Nat} {s_LESS_UP_0:AOV} {t_LESS_UP_0_0:Tok} {t_LESS_UP_0_1:Tok} (l_LESS_UP_0:K.lookup u_LESS_UP_0=some ⟨.type "tuple",none,.seq #[.int (0) t_LESS_UP_0_0,.int (1) t_LESS_UP_0_1] n_LESS_UP_0,s_LESS_UP_0⟩)
  {n_LESS_UP_1:Nat} {s_LESS_UP_1:AOV} {t_LESS_UP_1_0:Tok} {t_LESS_UP_1_1:Tok} (l_LESS_UP_1:K.lookup u_LESS_UP_1=some ⟨.type "tuple",none,.seq #[.int (1) t_LESS_UP_1_0,.int (-1) t_LESS_UP_1_1] n_LESS_UP_1,s_LESS_UP_1⟩)
  {u_MAKING:Addr} (g_MAKING:RwN K "MAKING" (some (.ref u_MAKING)))
  {n_MAKING:Nat} {s_MAKING:AOV} {t_MAKING_0:Tok} {t_MAKING_1:Tok} {t_MAKING_2:Tok} {t_MAKING_3:Tok} {t_MAKING_4:Tok} (l_MAKING:K.lookup u_MAKING=some ⟨.type "tuple",none,.seq #[.str "turned" t_MAKING_0,.str "mirrored" t_MAKING_1,.str "flipped" t_MAKING_2,.str "shorter" t_MAKING_3,.str "behind" t_MAKING_4] n_MAKING,s_MAKING⟩)
  {tk_MOST_LETTERS:Tok} (g_MOST_LETTERS:RwN K "MOST_LETTERS" (some (.int 16 tk_MOST_LETTERS)))
  {tk_MOST_SIGNS_IN_NAME:Tok} (g_MOST_SIGNS_IN_NAME:RwN K "MOST_SIGNS_IN_NAME" (some (.int 8 tk_MOST_SIGNS_IN_NAME)))
  {tk_MOST_STRANDS:Tok} (g_MOST_STRANDS:RwN K "MOST_STRANDS" (some (.int 6 tk_MOST_STRANDS)))
  {u_NOUGHT:Addr} (g_NOUGHT:RwN K "NOUGHT" (some (.ref u_NOUGHT)))
  {n_NOUGHT:Nat} {s_NOUGHT:AOV} (l_NOUGHT:K.lookup u_NOUGHT=some ⟨.type "tuple",none,.seq #[] n_NOUGHT,s_NOUGHT⟩)
  {u_ONE:Addr} (g_ONE:RwN K "ONE" (some (.ref u_ONE)))
  {n_ONE:Nat} {s_ONE:AOV} {u_ONE_0:Addr} (l_ONE:K.lookup u_ONE=some ⟨.type "tuple",none,.seq #[.ref u_ONE_0] n_ONE,s_ONE⟩)
  {n_ONE_0:Nat} {s_ONE_0:AOV} {t_ONE_0_0:Tok} {t_ONE_0_1:Tok} (l_ONE_0:K.lookup u_ONE_0=some ⟨.type "tuple",none,.seq #[.int (0) t_ONE_0_0,.int (1) t_ONE_0_1] n_ONE_0,s_ONE_0⟩)
  {u_UP:Addr} (g_UP:RwN K "UP" (some (.ref u_UP)))
  {n_UP:Nat} {s_UP:AOV} {u_UP_0:Addr} (l_UP:K.lookup u_UP=some ⟨.type "tuple",none,.seq #[.ref u_UP_0] n_UP,s_UP⟩)
  {n_UP_0:Nat} {s_UP_0:AOV} {t_UP_0_0:Tok} {t_UP_0_1:Tok} (l_UP_0:K.lookup u_UP_0=some ⟨.type "tuple",none,.seq #[.int (1) t_UP_0_0,.int (1) t_UP_0_1] n_UP_0,s_UP_0⟩)
  : ∃fd:d0u,(∀(s:c8u) (v:c8t),d5i s fd ⟨[v],[]⟩ [("script",v)])/\∀base:Heap,K.In base->base.Ns mainGlobals mg->FnOk l.prog w K mg base CX0 14 fa fd ["script"] (dSp K b0p):=by
 obtain⟨f,fd,F,hm⟩:=d65.e;cases hm.symm.trans hfa;have F':=F;obtain⟨oc,od,kV,doc,pm,an,cdv,ct,osl,rfl,lk,hcd⟩:=F.ex;have mo:∀{x:Str} {f:Addr},RwN K x (some (.ref f))->mg x=some (.ref f):=fun a=>PySem.W.mg_of X G a;obtain⟨x_two,xc_1,xc_2⟩:=c3r x_tw (mo nx1) (mo nx2)
 have Z:Zs K mg:=by constructor<;>first
  |exact PySem.W.mg_none_of X G (z_b _ (by decide))
  |assumption
  |exact⟨u_DOWN,PySem.W.mg_of X G g_DOWN,fun H=>(a0X (xs:=[.ref u_DOWN_0]) l_DOWN (by show 1<=1000;decide) (.cons rfl .nil) (a0m (a0X (xs:=[.int (-1),.int (1)]) l_DOWN_0 (by show 2<=1000;decide) (.cons ⟨_,rfl⟩ (.cons ⟨_,rfl⟩ .nil)) (a0m a0x (a0m a0x a0W))) a0W))⟩
  |exact⟨u_LESS_DOWN,PySem.W.mg_of X G g_LESS_DOWN,fun H=>(a0X (xs:=[.ref u_LESS_DOWN_0,.ref u_LESS_DOWN_1]) l_LESS_DOWN (by show 2<=1000;decide) (.cons rfl (.cons rfl .nil)) (a0m (a0X (xs:=[.int (-1),.int (-1)]) l_LESS_DOWN_0 (by show 2<=1000;decide) (.cons ⟨_,rfl⟩ (.cons ⟨_,rfl⟩ .nil)) (a0m a0x (a0m a0x a0W))) (a0m (a0X (xs:=[.int (0),.int (1)]) l_LESS_DOWN_1 (by show 2<=1000;decide) (.cons ⟨_,rfl⟩ (.cons ⟨_,rfl⟩ .nil)) (a0m a0x (a0m a0x a0W))) a0W)))⟩
  |exact⟨u_LESS_ONE,PySem.W.mg_of X G g_LESS_ONE,fun H=>(a0X (xs:=[.ref u_LESS_ONE_0]) l_LESS_ONE (by show 1<=1000;decide) (.cons rfl .nil) (a0m (a0X (xs:=[.int (0),.int (-1)]) l_LESS_ONE_0 (by show 2<=1000;decide) (.cons ⟨_,rfl⟩ (.cons ⟨_,rfl⟩ .nil)) (a0m a0x (a0m a0x a0W))) a0W))⟩
  |exact⟨u_LESS_UP,PySem.W.mg_of X G g_LESS_UP,fun H=>(a0X (xs:=[.ref u_LESS_UP_0,.ref u_LESS_UP_1]) l_LESS_UP (by show 2<=1000;decide) (.cons rfl (.cons rfl .nil)) (a0m (a0X (xs:=[.int (0),.int (1)]) l_LESS_UP_0 (by show 2<=1000;decide) (.cons ⟨_,rfl⟩ (.cons ⟨_,rfl⟩ .nil)) (a0m a0x (a0m a0x a0W))) (a0m (a0X (xs:=[.int (1),.int (-1)]) l_LESS_UP_1 (by show 2<=1000;decide) (.cons ⟨_,rfl⟩ (.cons ⟨_,rfl⟩ .nil)) (a0m a0x (a0m a0x a0W))) a0W)))⟩
  |exact⟨u_MAKING,PySem.W.mg_of X G g_MAKING,fun H=>(a0X (xs:=[.str "turned",.str "mirrored",.str "flipped",.str "shorter",.str "behind"]) l_MAKING (by show 5<=1000;decide) (.cons ⟨_,rfl⟩ (.cons ⟨_,rfl⟩ (.cons ⟨_,rfl⟩ (.cons ⟨_,rfl⟩ (.cons ⟨_,rfl⟩ .nil))))) (a0m a1r (a0m a1r (a0m a1r (a0m a1r (a0m a1r a0W))))))⟩
  |exact⟨tk_MOST_LETTERS,PySem.W.mg_of X G g_MOST_LETTERS⟩
  |exact⟨tk_MOST_SIGNS_IN_NAME,PySem.W.mg_of X G g_MOST_SIGNS_IN_NAME⟩
  |exact⟨tk_MOST_STRANDS,PySem.W.mg_of X G g_MOST_STRANDS⟩
  |exact⟨u_NOUGHT,PySem.W.mg_of X G g_NOUGHT,fun H=>(a0X (xs:=[]) l_NOUGHT (by show 0<=1000;decide) .nil a0W)⟩
  |exact⟨u_ONE,PySem.W.mg_of X G g_ONE,fun H=>(a0X (xs:=[.ref u_ONE_0]) l_ONE (by show 1<=1000;decide) (.cons rfl .nil) (a0m (a0X (xs:=[.int (0),.int (1)]) l_ONE_0 (by show 2<=1000;decide) (.cons ⟨_,rfl⟩ (.cons ⟨_,rfl⟩ .nil)) (a0m a0x (a0m a0x a0W))) a0W))⟩
  |exact⟨u_UP,PySem.W.mg_of X G g_UP,fun H=>(a0X (xs:=[.ref u_UP_0]) l_UP (by show 1<=1000;decide) (.cons rfl .nil) (a0m (a0X (xs:=[.int (1),.int (1)]) l_UP_0 (by show 2<=1000;decide) (.cons ⟨_,rfl⟩ (.cons ⟨_,rfl⟩ .nil)) (a0m a0x (a0m a0x a0W))) a0W))⟩
 have F49:=b0O (st:=a2c) l49 c49 k49;have F50:=b0O (st:=a2T) l50 c50 k50;have F51:=b0O (st:=a4r) l51 c51 k51;have F52:=b0O (st:=a4s) l52 c52 k52;have F53:=b0O (st:=a2Z) l53 c53 k53;refine⟨PySem.W.fnOf "law" "law" (a5p b4G) (a1Q b4G) (a0b b4G) .none kV doc pm an cdv ct,fun s v=>.of_eq rfl,fun base _ _=>?_⟩;have DK:DeskN K mg CD f49 f50 f51 f52 f53:=⟨⟨pg,hd,po,sa⟩,nK,mo aC,⟨mk,a49,i49,kc⟩,⟨a50,i50,k50⟩,⟨a51,i51,k51⟩,⟨a52,i52,k52⟩,⟨a53,i53,k53⟩⟩;have CI:CitN K l.prog w mg dN:=⟨c4W [("drop",tk_cit1,1,tv_cit1),("show",tk_cit2,1,tv_cit2),("names",tk_cit3,0,tv_cit3),("turned",tk_cit4,2,tv_cit4),("mirrored",tk_cit5,2,tv_cit5),("flipped",tk_cit6,2,tv_cit6),("shorter",tk_cit7,2,tv_cit7),("behind",tk_cit8,3,tv_cit8),("same",tk_cit9,2,tv_cit9),("order",tk_cit10,1,tv_cit10),("form",tk_cit11,1,tv_cit11),("closed",tk_cit12,1,tv_cit12)] l_cit (by show(["drop","show","names","turned","mirrored","flipped","shorter","behind","same","order","form","closed"]:LSS).Nodup;decide) s_cit,PySem.W.mg_of X G n_cit⟩;have D1:=b3o (P:=l.prog) (w:=w) (base:=base) (n:=0) Z  (d1.b (by walk_at "b2"));have D2:=b7j (n:=1) Z D1.u (d2.b (by walk_at "b3"));have D3:=b4U (n:=2) Z D2.u (d3.b (by walk_at "b1"));have D4:=b9j (n:=3) Z D3.u (d4.b (by walk_at "b1"));have D5:=a9U (n:=4) Z D4.u (d5.b (by walk_at "b2"));have D6:=b4V (P:=l.prog) (w:=w) (base:=base) (n:=0) Z  (d6.b (by walk_at "b1"));have D7:=a8h (P:=l.prog) (w:=w) (base:=base) (n:=0) Z  (d7.b (by walk_at "b1"));have D8:=b3q (P:=l.prog) (w:=w) (base:=base) (n:=0) Z  (d8.b (by walk_at "b2"));have D9:=b3l (P:=l.prog) (w:=w) (base:=base) (n:=0) Z  (d9.b (by walk_at "b1"));have D10:=b9k (n:=5) Z D5.u (d10.b (by walk_at "b2"));have D11:=b9i (n:=4) Z D4.u D6.u (d11.b (by walk_at "b1"));have D12:=b4T (n:=4) Z D4.u (d12.b (by walk_at "b1"));have D13:=a7E (P:=l.prog) (w:=w) (base:=base) (n:=0) Z  (d13.b (by walk_at "b2"));have D14:=b7n (n:=4) Z D4.u D13.u (d14.b (by walk_at "b1"));have D15:=b7i (n:=4) Z D4.u D7.u (d15.b (by walk_at "b1"));have D16:=b4S (n:=4) Z D4.u D8.u D9.u (d16.b (by walk_at "b1"));have D17:=a9S (P:=l.prog) (w:=w) (base:=base) (n:=0) Z  (d17.b (by walk_at "b1"));have D18:=b1K (P:=l.prog) (w:=w) (base:=base) (n:=0) Z  (d18.b (by walk_at "b1"));have D19:=b3r (P:=l.prog) (w:=w) (base:=base) (n:=0) Z  (d19.b (by walk_at "b2"));have D20:=a8i (P:=l.prog) (w:=w) (base:=base) (n:=0) Z  (d20.b (by walk_at "b1"));have D21:=b3m (n:=1) Z D8.u D17.u D18.u (d21.b (by walk_at "b2"));have D22:=a9T (n:=1) Z D18.u D20.u D9.u D19.u D8.u (d22.b (by walk_at "b2"));have D23:=b1H (n:=2) Z D22.u D17.u (d23.b (by walk_at "b2"));have D24:=a6P (n:=3) Z D21.u D20.u D23.u D18.u (d24.b (by walk_at "b2"));have D25:=b7m (n:=4) Z D4.u D24.u (d25.b (by walk_at "b1"));have D26:=a7D (n:=1) Z D6.u (d26.b (by walk_at "b1"));have D27:=a8T (n:=2) Z D26.u D7.u (d27.b (by walk_at "b2"));have D28:=b9h (n:=5) Z D5.u D27.u (d28.b (by walk_at "b2"));have D29:=c1Q (n:=4) Z D4.u (d29.b (by walk_at "b1"));have D30:=b3n (P:=l.prog) (w:=w) (base:=base) (n:=0) Z  (d30.b (by walk_at "b1"));have D31:=c4r (n:=3) Z D30.u D3.u (d31.b (by walk_at "b1"));have D32:=a6O (P:=l.prog) (w:=w) (base:=base) (n:=0) Z  (d32.b (by walk_at "b1"));have D33:=c1R (n:=1) Z D32.u (d33.b (by walk_at "b2"));have D34:=b1J (n:=1) Z D32.u (d34.b (by walk_at "b2"));have D35:=a7C (P:=l.prog) (w:=w) (base:=base) (n:=0) Z  (d35.b (by walk_at "b2"));have D36:=a9R (n:=2) Z D33.u D34.u (d36.b (by walk_at "b2"));have D37:=b4R (n:=4) Z D4.u D35.u D36.u (d37.b (by walk_at "b1"));have D38_0:=a8j (P:=l.prog) (w:=w) (base:=base) (n:=2) (d38.b (by walk_at "b1"));have D38_1:=a1q (n:=3) (k:=0) Z D38_0.u D33.u D34.u (d38.b (by walk_at "b1"));have D38_2:=a1q (n:=4) (k:=1) Z D38_1.u D33.u D34.u (d38.b (by walk_at "b1"));have D38_3:=a1q (n:=5) (k:=2) Z D38_2.u D33.u D34.u (d38.b (by walk_at "b1"));have D38_4:=a1q (n:=6) (k:=3) Z D38_3.u D33.u D34.u (d38.b (by walk_at "b1"));have D38_5:=a1q (n:=7) (k:=4) Z D38_4.u D33.u D34.u (d38.b (by walk_at "b1"));have D38:=a1q (n:=8) (k:=5) Z D38_5.u D33.u D34.u (d38.b (by walk_at "b1"));have D39:=a9V (n:=2) Z D34.u (d39.b (by walk_at "b1"));have D40:=b1L (n:=9) Z D37.u D33.u D35.u D34.u D39.u D38.u (d40.b (by walk_at "b1"));have D41:=b7k (P:=l.prog) (w:=w) (base:=base) (n:=0) Z  (d41.b (by walk_at "b1"));have D42:=b7l (n:=1) Z CI D41.u (d42.b (by walk_at "b1"));have D43:=c4s (n:=6) Z D11.u D12.u D14.u D15.u D10.u (d43.b (by walk_at "b2"));have D44:=b3k (n:=6) Z D28.u (d44.b (by walk_at "b2"));have D45:=b1I (P:=l.prog) (w:=w) (base:=base) (n:=0) Z  (d45.b (by walk_at "b1"));have D46:=b3p (n:=1) Z D45.u (d46.b (by walk_at "b1"));have D47:=a9W (P:=l.prog) (w:=w) (base:=base) (n:=0) Z  (d47.b (by walk_at "b1"));have D48:=b7h (n:=10) Z D29.u D44.u D45.u D16.u D46.u D25.u D47.u D40.u (d48.b (by walk_at "b2"));have D49:=a8l (P:=l.prog) (w:=w) (base:=base) (n:=0) F49 (F49.binds (by walk_at "b1")) Z DK ;have D50:=a9Z (P:=l.prog) (w:=w) (base:=base) (n:=0) F50 (F50.binds (by walk_at "b1")) Z DK ;have D51:=b3v (P:=l.prog) (w:=w) (base:=base) (n:=4) F51 (F51.binds (by walk_at "b2")) Z DK D41.u D31.u;have D52:=b3w (P:=l.prog) (w:=w) (base:=base) (n:=11) F52 (F52.binds (by walk_at "b4")) Z DK D43.u D48.u;have D53:=b4W (P:=l.prog) (w:=w) (base:=base) (n:=12) F53 (F53.binds (by walk_at "b2")) Z DK D51.u D42.u D52.u;have D54:=a8U (P:=l.prog) (w:=w) (base:=base) (n:=0) Z  (d54.b (by walk_at "b2"));have D55:=b1M (n:=1) Z D54.u (d55.b (by walk_at "b2"));have D56:=a9X (P:=l.prog) (w:=w) (base:=base) (n:=0) Z  (d56.b (by walk_at "b2"));have D57:=b3s (n:=1) Z D56.u (d57.b (by walk_at "b3"));have D58:=b1N (n:=2) Z D56.u D57.u (d58.b (by walk_at "b4"));have D59:=a6Q (P:=l.prog) (w:=w) (base:=base) (n:=0) Z  (d59.b (by walk_at "b1"));have D60:=a7F (n:=1) Z D59.u (d60.b (by walk_at "b1"));have D61:=a8k (P:=l.prog) (w:=w) (base:=base) (n:=0) Z  (d61.b (by walk_at "b1"));have D62:=b3t (n:=6) Z D11.u D12.u D14.u D15.u D10.u (d62.b (by walk_at "b3"));have D63:=a9Y (n:=10) Z D29.u D59.u D16.u D60.u D25.u D61.u D40.u D28.u D62.u (d63.b (by walk_at "b2"));have D64:=b3u (n:=5) Z D56.u D58.u D29.u (d64.b (by walk_at "b1"));exact c6t (n:=13) F' Z DK (by decide) D55.u D49 D56.u D64.u D63.u D53.u D50.u
end L2
namespace PySem.W.Fast
theorem tw1082667677100099261:True:=⟨⟩
theorem tw8885664715698290531:True:=⟨⟩
theorem tw17447376242571586113:True:=⟨⟩
theorem tw17542913434620197663:True:=⟨⟩
theorem tw4853036348530008847:True:=⟨⟩
theorem tw15134287050723136075:True:=⟨⟩
theorem tw643407694697098883:True:=⟨⟩
theorem tw13175815487194218802:True:=⟨⟩
theorem tw18236109922855895405:True:=⟨⟩
theorem tw17351677926193256115:True:=⟨⟩
theorem tw3255378746956337809:True:=⟨⟩
theorem tw16016954080534364438:True:=⟨⟩
theorem tw8158638985057507228:True:=⟨⟩
theorem tw15682965832272850254:True:=⟨⟩
theorem tw8423335929444636775:True:=⟨⟩
theorem tw11342975986502356885:True:=⟨⟩
theorem tw8446932057183832103:True:=⟨⟩
theorem tw234995776938345489:True:=⟨⟩
theorem tw13983388959629985558:True:=⟨⟩
theorem tw9053913309248642424:True:=⟨⟩
theorem tw8155925128175670499:True:=⟨⟩
theorem tw17216740094319302763:True:=⟨⟩
theorem tw7568357650025214567:True:=⟨⟩
theorem tw5408844854042510358:True:=⟨⟩
theorem tw14521286863780452682:True:=⟨⟩
theorem tw10846420042642744160:True:=⟨⟩
theorem tw2561968165771400167:True:=⟨⟩
theorem tw5675043058198490086:True:=⟨⟩
theorem tw9427077906186965793:True:=⟨⟩
theorem tw420805963225986062:True:=⟨⟩
theorem tw11555009804865278256:True:=⟨⟩
theorem tw2894840791772440690:True:=⟨⟩
theorem tw15080493217929197612:True:=⟨⟩
theorem tw6247033628935151209:True:=⟨⟩
theorem tw5585911851768078063:True:=⟨⟩
theorem tw6706283920769895949:True:=⟨⟩
theorem tw3136679588483903317:True:=⟨⟩
theorem tw172469185883745420:True:=⟨⟩
theorem tw2494138920758753845:True:=⟨⟩
theorem tw1939929549544362324:True:=⟨⟩
theorem tw8742712810245700409:True:=⟨⟩
theorem tw4422354611241169876:True:=⟨⟩
theorem tw11506413501045342627:True:=⟨⟩
theorem tw12971873103247599711:True:=⟨⟩
theorem tw1792712208649562099:True:=⟨⟩
theorem tw8056997014075899775:True:=⟨⟩
theorem tw5932295778312210102:True:=⟨⟩
theorem tw2111519505195093158:True:=⟨⟩
theorem tw17192951809893396909:True:=⟨⟩
theorem tw11278526486312789847:True:=⟨⟩
theorem tw18369320438060168575:True:=⟨⟩
theorem tw7766292243797547502:True:=⟨⟩
theorem tw14238034003664471747:True:=⟨⟩
theorem tw4661988960124223687:True:=⟨⟩
theorem tw15506908826799622978:True:=⟨⟩
theorem tw11790341000598992762:True:=⟨⟩
theorem tw3209890266107016978:True:=⟨⟩
theorem tw9222059614021041241:True:=⟨⟩
theorem tw4954155452537486744:True:=⟨⟩
theorem tw16969501355834548497:True:=⟨⟩
theorem tw16922740258188937658:True:=⟨⟩
theorem tw11426671969597457913:True:=⟨⟩
theorem tw7036137599116053003:True:=⟨⟩
theorem tw7287011536232858633:True:=⟨⟩
theorem tw16134054088265937330:True:=⟨⟩
theorem tw8798363472916143673:True:=⟨⟩
theorem tw9508782042065712420:True:=⟨⟩
theorem tw1418858238799514550:True:=⟨⟩
theorem tw948601825260298500:True:=⟨⟩
theorem tw5544709333528148246:True:=⟨⟩
theorem tw15880264734458550771:True:=⟨⟩
theorem tw15838123607163862496:True:=⟨⟩
theorem tw17345927257299495856:True:=⟨⟩
theorem tw14744363606135102678:True:=⟨⟩
theorem tw10293691990223058129:True:=⟨⟩
theorem tw16375422919587065976:True:=⟨⟩
theorem tw17275229118138477691:True:=⟨⟩
theorem tw17579528229252058298:True:=⟨⟩
theorem tw10472023886325664194:True:=⟨⟩
theorem tw3857550705107580396:True:=⟨⟩
theorem tw2437594986663901487:True:=⟨⟩
theorem tw4842744305799730186:True:=⟨⟩
theorem tw10146262793626633605:True:=⟨⟩
theorem tw1179771961501777633:True:=⟨⟩
theorem tw3020987620295812706:True:=⟨⟩
theorem tw15933406659328656576:True:=⟨⟩
theorem tw18053828725558317275:True:=⟨⟩
theorem tw16745532319566335041:True:=⟨⟩
theorem tw7558914011563602666:True:=⟨⟩
theorem tw13310479310166803227:True:=⟨⟩
theorem tw12879483317763474194:True:=⟨⟩
theorem tw12887328403822409219:True:=⟨⟩
theorem tw11199966946526574682:True:=⟨⟩
theorem tw11672062726111333027:True:=⟨⟩
theorem tw12541066327779287260:True:=⟨⟩
theorem tw11637503483230472009:True:=⟨⟩
theorem tw17387764973100549340:True:=⟨⟩
theorem tw2018706924413585765:True:=⟨⟩
theorem tw17007872837256648006:True:=⟨⟩
theorem tw8281123709324841100:True:=⟨⟩
theorem tw1756738047851957722:True:=⟨⟩
theorem tw929140119055980252:True:=⟨⟩
theorem tw5833340842264364010:True:=⟨⟩
theorem tw3045910936510640665:True:=⟨⟩
theorem tw1071354504729073693:True:=⟨⟩
theorem tw132471964753525382:True:=⟨⟩
theorem tw14003903549638661166:True:=⟨⟩
theorem tw12619711357748106975:True:=⟨⟩
theorem tw10296729852434145213:True:=⟨⟩
theorem tw3878425007255683620:True:=⟨⟩
theorem tw8302988784327838915:True:=⟨⟩
theorem tw7147065531875465043:True:=⟨⟩
theorem tw16377614120589847143:True:=⟨⟩
theorem tw70004865302408048:True:=⟨⟩
theorem tw10902485226041536496:True:=⟨⟩
theorem tw7846605887963877892:True:=⟨⟩
theorem tw5689659474493876600:True:=⟨⟩
theorem tw3024971856265952795:True:=⟨⟩
theorem tw18368040910365641126:True:=⟨⟩
theorem tw16569465677562428941:True:=⟨⟩
theorem tw13070201219122302183:True:=⟨⟩
theorem tw7263748572783753936:True:=⟨⟩
theorem tw6843202201869363263:True:=⟨⟩
theorem tw15676736308367815236:True:=⟨⟩
theorem tw10263033072591377955:True:=⟨⟩
theorem tw13540927230131541373:True:=⟨⟩
theorem tw6226504939158162900:True:=⟨⟩
theorem tw16808940486220004588:True:=⟨⟩
theorem tw9268952568099692167:True:=⟨⟩
theorem tw6834673462672651048:True:=⟨⟩
theorem tw7376256529694718731:True:=⟨⟩
theorem tw11924218396736086669:True:=⟨⟩
theorem tw7814595714401685455:True:=⟨⟩
theorem tw7613466930200606345:True:=⟨⟩
theorem tw7712364499752878413:True:=⟨⟩
theorem tw1728866280859407528:True:=⟨⟩
theorem tw13631280954721914318:True:=⟨⟩
theorem tw3445051444861787896:True:=⟨⟩
theorem tw11345931881825074078:True:=⟨⟩
theorem tw17012224782392821090:True:=⟨⟩
theorem tw6724628554896525232:True:=⟨⟩
theorem tw2230623557880015524:True:=⟨⟩
theorem tw15681930917374768349:True:=⟨⟩
theorem tw13887471763491706836:True:=⟨⟩
theorem tw3457340164647755797:True:=⟨⟩
theorem tw1982519608563802612:True:=⟨⟩
theorem tw7469107252428079658:True:=⟨⟩
theorem tw3970395214889698990:True:=⟨⟩
theorem tw1083335663261408086:True:=⟨⟩
theorem tw10251711902719874114:True:=⟨⟩
theorem tw10870713691976238083:True:=⟨⟩
theorem tw2535750499427969721:True:=⟨⟩
theorem tw13206184094489262237:True:=⟨⟩
theorem tw4558905575987093906:True:=⟨⟩
theorem tw7452295928163283546:True:=⟨⟩
theorem tw15720883037634742846:True:=⟨⟩
theorem tw1332250330834664757:True:=⟨⟩
theorem tw12975929812166868059:True:=⟨⟩
theorem tw10097034204213755568:True:=⟨⟩
theorem tw1226639965235604000:True:=⟨⟩
theorem tw11191612463912289547:True:=⟨⟩
theorem tw14939275223261911723:True:=⟨⟩
theorem tw14306922566167827418:True:=⟨⟩
theorem tw14283000566511819565:True:=⟨⟩
theorem tw17087451417537306281:True:=⟨⟩
theorem tw16304060755856728454:True:=⟨⟩
theorem tw7994473193138665958:True:=⟨⟩
theorem tw9220807945730837211:True:=⟨⟩
theorem tw13363161761613183411:True:=⟨⟩
theorem tw2419656207662148864:True:=⟨⟩
theorem tw8136942777349929588:True:=⟨⟩
theorem tw6118172255417356433:True:=⟨⟩
theorem tw759333466528032787:True:=⟨⟩
theorem tw11456836184953731602:True:=⟨⟩
theorem tw16637175471136447362:True:=⟨⟩
theorem tw1980500522281680:True:=⟨⟩
theorem tw4417824877928381566:True:=⟨⟩
theorem tw3867284105548914582:True:=⟨⟩
theorem tw14474223370897878766:True:=⟨⟩
theorem tw49260915379844962:True:=⟨⟩
theorem tw3399582290877447803:True:=⟨⟩
theorem tw6523332315467167673:True:=⟨⟩
theorem tw14553085825360347405:True:=⟨⟩
theorem tw18348436960716132458:True:=⟨⟩
theorem tw5645577208836082125:True:=⟨⟩
theorem tw878756858031985962:True:=⟨⟩
theorem tw14048164156772925599:True:=⟨⟩
theorem tw13689225089355249504:True:=⟨⟩
theorem tw2106546822294149256:True:=⟨⟩
theorem tw13092585775175818620:True:=⟨⟩
theorem tw10775968098233367551:True:=⟨⟩
theorem tw3309458469539840399:True:=⟨⟩
theorem tw11164817561317564107:True:=⟨⟩
theorem tw3226912795919310363:True:=⟨⟩
theorem tw14716340618855935863:True:=⟨⟩
theorem tw16626275178050571709:True:=⟨⟩
theorem tw11122450411183332278:True:=⟨⟩
theorem tw9332159743467140906:True:=⟨⟩
theorem tw16557828364912706933:True:=⟨⟩
theorem tw9176788068239604550:True:=⟨⟩
theorem tw3265842789839911787:True:=⟨⟩
theorem tw15368995575018849333:True:=⟨⟩
theorem tw4374445812352489818:True:=⟨⟩
theorem tw2284730087265518152:True:=⟨⟩
theorem tw8944926993166404865:True:=⟨⟩
theorem tw2473295074937718898:True:=⟨⟩
theorem tw6776664063525810056:True:=⟨⟩
theorem tw14947133720081202395:True:=⟨⟩
theorem tw9493351429671658728:True:=⟨⟩
theorem tw2927257677564640652:True:=⟨⟩
theorem tw8923235132872566393:True:=⟨⟩
theorem tw8474584484435965153:True:=⟨⟩
theorem tw4927902862670562520:True:=⟨⟩
theorem tw3052590023472661002:True:=⟨⟩
theorem tw16363011225261840820:True:=⟨⟩
theorem tw2310478713388872559:True:=⟨⟩
theorem tw12243712954362209804:True:=⟨⟩
theorem tw18159349874125256091:True:=⟨⟩
theorem tw2234655380495009092:True:=⟨⟩
theorem tw16865094512945104234:True:=⟨⟩
theorem tw12972096279724541495:True:=⟨⟩
end PySem.W.Fast
open PySem PySem.W PyProof.Rows
set_option maxRecDepth 100000 in
set_option maxHeartbeats 0 in
theorem PySem.Challenge.cw_loopwright_k91_whole_a_desk_does_what_is_holds : PySem.Challenge.rw_loopwright_k91_whole_a_desk_does_what_is.Holds := by
 w_on;o_law;k_head;(case hw=>w_witness2)
 k_fill
 refine L2.c1X (l:=PySem.Challenge.rw_loopwright_k91_whole_a_desk_does_what_is) (k:=14) (sp:=L2.b0p) rfl rfl ⟨rfl,by decide,by decide⟩ (fun w h Y=>PySem.W.kIn_of Y) L2.b7w ?F
 case F =>
  intro w mg fa h KX G hmg;refine' L2.c7e KX G hmg ?aC ?d1 ?d2 ?d3 ?d4 ?d5 ?d6 ?d7 ?d8 ?d9 ?d10 ?d11 ?d12 ?d13 ?d14 ?d15 ?d16 ?d17 ?d18 ?d19 ?d20 ?d21 ?d22 ?d23 ?d24 ?d25 ?d26 ?d27 ?d28 ?d29 ?d30 ?d31 ?d32 ?d33 ?d34 ?d35 ?d36 ?d37 ?d38 ?d39 ?d40 ?d41 ?d42 ?d43 ?d44 ?d45 ?d46 ?d47 ?d48 ?a49 ?i49 ?l49 ?c49 ?k49 ?a50 ?i50 ?l50 ?c50 ?k50 ?a51 ?i51 ?l51 ?c51 ?k51 ?a52 ?i52 ?l52 ?c52 ?k52 ?a53 ?i53 ?l53 ?c53 ?k53 ?d54 ?d55 ?d56 ?d57 ?d58 ?d59 ?d60 ?d61 ?d62 ?d63 ?d64 ?d65 ?pg ?hd ?po ?sa ?mk ?kc ?nK ?n_cit ?l_cit ?s_cit ?nx1 ?nx2 ?x_tw ?z_b ?g_DOWN ?l_DOWN ?l_DOWN_0 ?g_LESS_DOWN ?l_LESS_DOWN ?l_LESS_DOWN_0 ?l_LESS_DOWN_1 ?g_LESS_ONE ?l_LESS_ONE ?l_LESS_ONE_0 ?g_LESS_UP ?l_LESS_UP ?l_LESS_UP_0 ?l_LESS_UP_1 ?g_MAKING ?l_MAKING ?g_MOST_LETTERS ?g_MOST_SIGNS_IN_NAME ?g_MOST_STRANDS ?g_NOUGHT ?l_NOUGHT ?g_ONE ?l_ONE ?l_ONE_0 ?g_UP ?l_UP ?l_UP_0
  (case d1|d2|d3|d4|d5|d6|d7|d8|d9|d10|d11|d12|d13|d14|d15|d16|d17|d18|d19|d20|d21|d22|d23|d24|d25|d26|d27|d28|d29|d30|d31|d32|d33|d34|d35|d36|d37|d38|d39|d40|d41|d42|d43|d44|d45|d46|d47|d48|d54|d55|d56|d57|d58|d59|d60|d61|d62|d63|d64|d65=>(refine' L2.FD0.of KX G ?a ?l ?c ?k;(case a|l|c|k=>change _=_;k_is)))
  (case aC|a49|i49|l49|c49|k49|a50|i50|l50|c50|k50|a51|i51|l51|c51|k51|a52|i52|l52|c52|k52|a53|i53|l53|c53|k53|pg|hd|po|sa|mk|kc|nK|n_cit|l_cit|nx1|nx2|g_DOWN|l_DOWN|l_DOWN_0|g_LESS_DOWN|l_LESS_DOWN|l_LESS_DOWN_0|l_LESS_DOWN_1|g_LESS_ONE|l_LESS_ONE|l_LESS_ONE_0|g_LESS_UP|l_LESS_UP|l_LESS_UP_0|l_LESS_UP_1|g_MAKING|l_MAKING|g_MOST_LETTERS|g_MOST_SIGNS_IN_NAME|g_MOST_STRANDS|g_NOUGHT|l_NOUGHT|g_ONE|l_ONE|l_ONE_0|g_UP|l_UP|l_UP_0=>change _=_;k_is)
  (case z_b=>simp only[c8n,c8M,or_false,forall_eq_or_imp,forall_eq];(repeat' apply And.intro)<;>(change _=_;k_is))
  (case s_cit=>kernel_rfl)
  (case x_tw=>kernel_rfl)
