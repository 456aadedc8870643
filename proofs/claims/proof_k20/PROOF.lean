import PyProof.Rows.All
import Wide.All
import OpenK.AllK
import Wide.FinOn
import Lean
import PyProof.EqAt
import PyProof.EqKinds
import PyProof.TupleCall
import PyProof.NeKinds
import PyProof.ForAny
import PyProof.ZipIter
import PyProof.Draws
import PyProof.ListRange
import PyProof.TupleOfGen
import KE.KRevIter
import KE.KMinKey
import PyProof.ConsumeWalk
import OpenK.KOwn
import KE.KTryMore
import KE.KIsAll
import PyProof.ExcArgs
import PyProof.NsDelKeeps
import PyProof.TupleOfSeq
import PyProof.Rows.SetFrom
import PyProof.WalksMore
import PyProof.ListNew
import KE.IntBitsLaws
import PyProof.EnumMake
import KE.KDictOf
import PyProof.AttrMissHeap
import PyProof.Rows.EnumRows
import KE.KDictSum
import PyProof.SumAny
import PyProof.DictValues
import PyProof.SetScanFacts
import PyProof.TupleKey
import PyProof.SetKind
import PySem.Challenge.RW_rillturn_k20_all_falls
open List renaming getElem?_eq_getElem->wA,length_map->wB,getD_eq_getElem?_getD->wH,mem_cons_of_mem->wI,size_toArray->wJ,mem_cons_self->wL,getElem?_eq_some_iff->wM,replicate->wO,getElem?_map->wQ,length_append->wV,length_cons->wW,mem_cons->wX,mem_singleton->wY,range->zA,getElem?_set->zC,mem_map->zD,mem_append_right->zE,map_cons->zF,length_replicate->zG,append_nil->zI,mem_filter->zL,mem_range->zN,getElem?_append_right->zO,length_take->zP,mem_append->zR,mem_append_left->zT,not_mem_nil->zU,nodup_cons->zX,map_map->yB,mem_of_getElem?->yD,append_assoc->yF,getElem_mem->yI,map_append->yJ,getElem?_append_left->yL,take_length->yO,replicate_zero->yT,lookup_cons->yU,take_succ_eq_append_getElem->yW,nodup_iff_pairwise_ne->yZ,length_range->vB,length_set->vC,nodup_nil->vD,getElem?_eq_none->vI,length_filter_le->vK,pairwise_map->vL,getElem?_replicate->vN,replicate_succ->vV,sum_cons->vY,take_sublist->xG,perm_ext_iff_of_nodup->xJ,getElem_of_mem->xM,find?_cons->xN,take_append_drop->xP,length_drop->xQ,filter_cons->xR,nil_append->uB,length_nil->uC,getElem?_set_self->uF,take_zero->uO,getElem?_set_ne->uT,flatten_cons->uU,mem_of_mem_take->uW,take_add_one->kA,flatMap_cons->kB,mem_filterMap->kI,any_cons->kR,ext_getElem?->kY,contains_eq_mem->hG,nodup_range->hX,pairwise_iff_getElem->gD,filterMap_cons->gE,map_congr_left->gG,pairwise_cons->gN,length_eq_zero_iff->gQ,Perm->gR,getElem_take->fA,length->fL,mem_iff_getElem->fN,reverse_append->fQ,map_nil->fR,lookup_append->fX,drop_eq_getElem_cons->ZC,extract_eq_drop_take->ZD,nodup_append->ZI,take_of_length_le->ZZ,drop_of_length_le->WA,getElem_toArray->WL,mem_of_mem_drop->WN,getElem?_range->WT,getElem?_drop->VA,toArray->VJ,getElem_drop->VM,getElem_inj->VR,all_eq_true->VZ,any_eq_true->UB,take_append_of_le_length->UD,eq_nil_of_length_eq_zero->UE,of_mem_zip->UH,foldl_cons->UI,forIn_cons->UJ,drop_drop->TN,getElem?_take_of_lt->TV,pairwise_singleton->SK,getElem?_cons_succ->SM
open PySem renaming wpAny_bind->wC,wpAny_pure->wK,Spec->yR,wpAny_call_entry->yX,mem_of_lookup->vH,wpAny_holding->vR,wpAny_newObj_type->vW,wpAny_mono->xB,wpAny_callSpecial?_slot->xD,boot_len->xK,sizeLine_eq->xW,wpAny_field->kF,wpAny_Call_Name_kw->kK,wpAny_passesOwn->kO,wpAny_standAt->gI,wpAny_attempt->gL,wpAny_truthy_bool->gU,codeAny_mono->gX,wpAny_loadPart'->fO,tupleKind_room_in1->fW,wpAny_setField->fY,wpAny_comprehension_free->ZK,wpAny_typeOf->ZV,wpAny_rule->ZX,wpAny_execs_nil->WB,wpAny_ite_split->WD,call_meets->WY,concat_meets->VG,wpAny_pyIter_list->VI,noFill_tuple_add->VS,wpAny_of_eq->UC,codeAny_of_tree->UK,codeAny_builtin->UQ,wpAny_call->UW,typeIs_int->TC,wpAny_seqItems->TJ,seq_tuple_add->TX,wpAny_newList->TY,strLen_append->TZ
open PySem.W renaming Frag->wD,kitOne->vQ,kia_one->vS,findIn->xX,nsIn->uV,mroIn->kC,mg_of->kU,fnOf->hV,InstAt->gW,notCls->gY,OpenLaw->WC,exmOne->WM,clsIn->WV,methodObj->VD,specialIn->VF,instObj->UF,takesIn->UG,findObj->UM,lookIn->UV,keepIn->UX,codeIn->UY,kitAny->TL
open Nat renaming le_refl->wF,le_trans->zK,lt_of_le_of_lt->zQ,lt_of_lt_of_le->zS,zero_le->zV,ne_of_lt->zZ,le_add_right->yV,testBit_zero->vA,le_of_not_lt->vG,le_of_lt_succ->vM,not_lt_zero->vT,lt_irrefl->vX,testBit_succ->xE,testBit_two_pow_of_ne->xO,le_of_lt->xU,add_sub_cancel_left->xY,lt_succ_of_le->xZ,le_of_eq->uJ,zero_testBit->uM,and_le_right->kE,zero_add->kL,testBit_and->kP,testBit_xor->kQ,eq_of_testBit_eq->hJ,ne_of_gt->gV,succ_pos->fB,le_of_ble_eq_true->fH,add_zero->fT,lt_or_eq_of_le->fZ,lt_succ_of_lt->ZH,testBit_two_pow_self->ZP,succ_le_succ->ZR,lt_succ_self->ZT,not_lt->VB,lt_trans->VH,sub_self->VN,pow_succ->VO,not_lt_of_gt->VT,succ_lt_succ->VW,le_antisymm->UP,mod_lt->TR
open PySem.Heap renaming get?_push_of_some->wG,lt_size->wZ,get?_push_size->zB,get?_update_other->uI,get?_update_self->uR,SameBut->kG,size_push->WK
open Array renaming length_toList->wN,getElem?_eq_getElem->zJ,toList_append->yC,getElem?_toList->yE,getD_eq_getD_getElem?->yG,mem_toList_iff->yN,getElem?_eq_some_iff->yS,perm_iff_toList_perm->uP,getElem_toList->uY,toList_reverse->hE,toList_push->gZ,mem_iff_getElem->fG,toList_extract->fM,size_setIfInBounds->ZL,toList_map->ZS,getD->ZY,getElem?_setIfInBounds_self_of_lt->WI,getElem_mem->VL,toList_inj->VX,toList_setIfInBounds->TQ,getElem?_replicate->SB
open Bool renaming false_ne_true->wR,and_eq_true->yY,eq_iff_iff->vZ,false_eq_true->uN,not_eq_true'->kZ,eq_false_iff->ZG,xor_false->WO,not_eq_true->UA,and_false->TF,and_true->SC
open PySem.SetTable renaming bits->wU,below->vE,runEnd->xA,turns->xI,leap->xV,put->uZ,grown->kD,sizeAbove->kM,advance->hW,insertAt->fE,toList_insertAt->ZM,layClean->VP
open Option.some renaming inj->zH
open Int renaming toNat_natCast->zM,natCast_nonneg->uQ,toNat_of_nonneg->gH,emod_lt_of_pos->gO,emod_nonneg->fP,natCast_add->UR
open PySem.Value renaming ref->zW,none->vP,int->fU,str->WQ,type->US
open Classical renaming propDecidable->zY,byContradiction->yM
open PySem.PassesOwn renaming never->yQ
open PyProof.Rows renaming boot_isinstance->vF,slot_tuple_getitem->vO,callWith_type1->uG,boot_tuple->gS,boot_list->fF,callWith_builtin1->fI,envOfC->WU,boot_range->SN
open List.Nodup renaming length_le_of_subset->vU
open PySem.F renaming slot_dict_keyiterator_next->xC,plainAttrs_list->uA,slot_enumerate_next->kW,called_set->hZ,args_tuple_add_2->ZJ,slot_list_append->ZN,type_list_append->ZO,entry_tuple_add->ZQ,slot_tuple_add->ZU,slot_dict_get->WE,slot_dict_len->WH,args_dict_keyiterator_next_1->WS,entry_dict_keyiterator_next->WW,slot_tuple_iterator_next->TH,slot_list_extend->SD,type_list_extend->SE,args_dict_get_3->SH,plainAttrs_dict->SJ,args_enumerate_next_1->SL
open PySem.NameKind renaming free->xF,cell->kS
open Option renaming map_eq_some_iff->xH,bind_some->VU,isSome_iff_exists->TU
open List.Sublist renaming nodup->xS
open ForInStep renaming yield->uD
open PySem.Heap.SameBut renaming update->uE
open PySem.Str renaming ofString->uH,empty->WR
open PySem.Obj renaming mapFields->uK,mapSeq->fJ,isFreed_of_fields->WG
open List.cons renaming inj->uL
open Sum renaming inl->uS,inr->VC
open PySem.SetTable.probe renaming go->uX
open False renaming elim->kH
open True renaming intro->kJ
open Ne renaming symm->kX
open PySem.Builtin.Slice renaming slicePlaces->gC,sliceAdjust->ZA,sliceApplied->UZ
open PySem.Builtin.Tuple renaming tupleExact->gJ,tupleItemsOf->TB
open PySem.Builtin.List renaming listTooLong->gK
open PySem.Calls renaming spliced_cons->gM,call_function_entry->ZE,spliced_nil->ZF,callWith_builtin->ZW,evalArgs_plain->WJ,Constant_str->WX,Name_function_global->UT
open PySem.Builtin.Range renaming rangeSize->gP
open PySem.SetTable.layClean renaming free->fC
open PySem.Paired renaming length->fK
open PySem.SeqAt renaming EqAt->fV
open PySem.SeqAt.EqAt renaming of_refs->WZ,same->UL
open Nat.succ renaming inj->VQ
open And renaming intro->VY
open Array.Perm renaming refl->UN
open PySem.Builtin.Dict_items renaming ownsTuple->UO
open PySem.Builtin renaming bitAnd->UU
open List.Perm renaming refl->TM
open PySem.AutoSeq1 renaming wpAny_loadPart'->SA
open List.Pairwise renaming imp_of_mem->SF
set_option Elab.async false
set_option linter.all false
noncomputable section
set_option maxRecDepth 100000
namespace L2
open PySem PySem.Spec PyProof.Rows
noncomputable abbrev Key:=Sum Int Str
noncomputable def qDp:Key->Value->Bool
 | .inl k,v=>Value.isInt k v
 | .inr x,v=>Value.isStrOf x v
noncomputable def qNg (w:World):Key->Int
 | .inl k=>hashInt k
 | .inr x=>hashStr w x
theorem ql:∀{k:Key} {v:Value},qDp k v=true->(∃ i t,k=uS i/\v=fU i t)\/(∃ x t,k=VC x/\v=WQ x t)
 | .inl i,v,h=>by
  obtain ⟨t,e⟩:=Value.isInt_shape (k:=i) (v:=v) h
  exact .inl ⟨i,t,rfl,e⟩
 | .inr x,v,h=>by
  obtain ⟨t,e⟩:=Value.isStrOf_shape (x:=x) (v:=v) h
  exact .inr ⟨x,t,rfl,e⟩
theorem qFg (i:Int) (t:Tok):qDp (.inl i) (.int i t)=true:=by simp [qDp,Value.isInt]
theorem qEp (x:Str) (t:Tok):qDp (.inr x) (.str x t)=true:=by simp [qDp,Value.isStrOf]
theorem qLN (a b:Int):decide ((uS a:Key)=uS b)=(a == b):=by
 by_cases e:a=b
 ·subst e; simp
 ·have h:¬ (uS a:Key)=uS b:=fun q=>e (Sum.inl.inj q)
  rw [decide_eq_false h]
  exact (beq_eq_false_iff_ne.mpr e).symm
theorem qKk (a b:Str):decide ((VC a:Key)=VC b)=decide (a=b):=by
 by_cases e:a=b
 ·subst e; simp
 ·have h:¬ (VC a:Key)=VC b:=fun q=>e (Sum.inr.inj q)
  rw [decide_eq_false h,decide_eq_false e]
theorem qLD (a:Int) (b:Str):decide ((uS a:Key)=VC b)=false:=decide_eq_false (fun q=>nomatch q)
theorem qLG (a:Str) (b:Int):decide ((VC a:Key)=uS b)=false:=decide_eq_false (fun q=>nomatch q)
noncomputable def qt (prog:Program) (w:World):PySem.KeyKind prog w Key where
 is:=qDp
 hash:=qNg w
 inj:=fun v a b ha hb=>by
  rcases ql ha with ⟨i,t,rfl,rfl⟩ | ⟨x,t,rfl,rfl⟩
  ·rcases ql hb with ⟨j,u,rfl,e⟩ | ⟨y,u,rfl,e⟩
   ·injection e with e1 _; rw [e1]
   ·exact nomatch e
  ·rcases ql hb with ⟨j,u,rfl,e⟩ | ⟨y,u,rfl,e⟩
   ·exact nomatch e
   ·injection e with e1 _; rw [e1]
 byValue:=fun k v h=>by
  rcases ql h with ⟨i,t,rfl,rfl⟩ | ⟨x,t,rfl,rfl⟩ <;> rfl
 pyHash:=fun hv h=>by
  rcases ql hv with ⟨i,t,rfl,rfl⟩ | ⟨x,t,rfl,rfl⟩
  ·exact wpAny_pyHash_int h
  ·exact wpAny_pyHash_str h
 eqBool:=fun hu hv h=>by
  rcases ql hu with ⟨i,t,rfl,rfl⟩ | ⟨x,t,rfl,rfl⟩
  ·rcases ql hv with ⟨j,u,rfl,rfl⟩ | ⟨y,u,rfl,rfl⟩
   ·rw [qLN] at h; exact wpAny_eqBool_int h
   ·rw [qLD] at h; exact SeqAt.EqAt.int_str i t y u _ _ _ _ h
  ·rcases ql hv with ⟨j,u,rfl,rfl⟩ | ⟨y,u,rfl,rfl⟩
   ·rw [qLG] at h; exact SeqAt.EqAt.str_int x t j u _ _ _ _ h
   ·rw [qKk] at h; exact wpAny_eqBool_str h
 «strs»:=fun k x t v h=>by
  rcases ql h with ⟨i,u,rfl,e⟩ | ⟨y,u,rfl,e⟩
  ·exact nomatch e
  ·injection e with e1 _
   subst e1
   cases v <;> rfl
theorem qCX (prog:Program) (w:World) (i:Int) (t:Tok):(qt prog w).is (.inl i) (.int i t)=true:=qFg i t
theorem qCQ (prog:Program) (w:World) (x:Str) (t:Tok):(qt prog w).is (.inr x) (.str x t)=true:=qEp x t
inductive V where
 | non | bl (b:Bool) | int (i:Int) | str (x:Str) | byt (b:Array UInt8) | flt (b:UInt64) | ref (a:Addr) | ty (n:String)
 deriving DecidableEq
noncomputable def RelV:V->Value->Prop
 | .non,u=>u=vP
 | .bl b,u=>u=Value.bool b
 | .int i,u=>∃ t,u=fU i t
 | .str x,u=>∃ t,u=WQ x t
 | .byt b,u=>∃ t,u=Value.bytes b t
 | .flt b,u=>∃ t,u=Value.float b t
 | .ref a,u=>u=zW a
 | .ty n,u=>u=US n
noncomputable abbrev qh:List V->List Value->Prop:=Paired RelV
theorem qh.length {xs:List V} {us:List Value} (r:qh xs us):xs.length=us.length:=fK r
theorem qh.get:∀{xs:List V} {us:List Value} {i:Nat} {x:V},qh xs us->xs[i]? = some x->∃ u,us[i]? = some u/\RelV x u
 | _,_,_,_,.nil,e=>by simp at e
 | _,_,0,_,.cons r _,e=>by simp at e; subst e; exact ⟨_,rfl,r⟩
 | _,_,i+1,x,.cons _ t,e=>by
  obtain ⟨u,h1,h2⟩:=qh.get (i:=i) (x:=x) t (by simpa using e)
  exact ⟨u,by simpa using h1,h2⟩
theorem qh.set {x:V} {u:Value} (r:RelV x u):∀{xs:List V} {us:List Value} (i:Nat),qh xs us->qh (xs.set i x) (us.set i u)
 | _,_,_,.nil=>.nil
 | _,_,0,.cons _ t=>.cons r t
 | _,_,i+1,.cons q t=>.cons q (qh.set r i t)
theorem qh.append:∀{xs ys:List V} {us ws:List Value},qh xs us->qh ys ws->qh (xs++ys) (us++ws)
 | _,_,_,_,.nil,s=>s
 | _,_,_,_,.cons r t,s=>.cons r (qh.append t s)
theorem qh.take:∀{xs:List V} {us:List Value} (n:Nat),qh xs us->qh (xs.take n) (us.take n)
 | _,_,0,_=>.nil
 | _,_,_+1,.nil=>.nil
 | _,_,n+1,.cons r t=>.cons r (qh.take n t)
theorem qh.drop:∀{xs:List V} {us:List Value} (n:Nat),qh xs us->qh (xs.drop n) (us.drop n)
 | _,_,0,r=>r
 | _,_,_+1,.nil=>.nil
 | _,_,n+1,.cons _ t=>qh.drop n t
noncomputable def qDg:Option V->Option Value->Prop
 | some v,some u=>RelV v u
 | none,none=>True
 | _,_=>False
noncomputable def KV {κ:Type}:List (κ×V)->List (κ×Value)->Prop:=Paired fun (p:κ×V) (q:κ×Value)=>p.1=q.1/\RelV p.2 q.2
noncomputable def kV:Key->V
 | .inl i=>.int i
 | .inr x=>.str x
noncomputable def NoD (h:Heap) (a:Addr):Prop:=∀ o,h.get? a=some o->o.dict=none
theorem NoD.new {h:Heap} {o:Obj} (hd:o.dict=none) (hf:o.isFreed=false:=by rfl):NoD (h.push o) h.objs.size:=fun u e=>by
 rw [zB _ hf] at e
 cases e
 exact hd
inductive HO where
 /-- a list -/
 | lst (xs:List V)
 /-- a tuple (never changes) -/
 | tup (xs:List V)
 /-- a dict whose keys are ints and texts; one whose keys are tuples of ints and texts (the empty one is both) -/
 | dK (kvs:List (Key×V)) | dT (kvs:List (List Key×V))
 /-- a set of ints: its members, its size -/
 | set (S:Int->Bool) (n:Nat)
 /-- an instance of the class at C, its dict at dx, its attributes -/
 | ins (C dx:Addr) (fs:List (Str×V))
 /-- the dict of the instance at x -/
 | own (x:Addr)
 /-- the dict of an exception -/
 | xd (fs:List (Str×V))
 /-- a bound method, f of x -/
 | met (f x:Addr)
 /-- a range object lo, lo + 1, .. below hi -/
 | rng (lo hi:Int)
 /-- a thing that is known to the object (the script; a dict while a loop walks it): read, never written while it is so -/
 | frz (o:Obj) (u:HO)
 /-- a code object's table -/
 | tbl (ps:Array Value)
 /-- any other thing, by what is true of its one object (a def of one's own: SetO a S n := HO.ext fun h => ..) -/
 | ext (φ:Heap->Prop)
noncomputable abbrev Hp:=Addr->Option HO
noncomputable def upd (H:Hp) (a:Addr) (o:HO):Hp:=fun b=>if b=a then some o else H b
theorem qH {H:Hp} {a:Addr} {o:HO}:upd H a o a=some o:=by unfold upd; rw [if_pos rfl]
theorem qI {H:Hp} {a b:Addr} {o:HO} (h:b≠a):upd H a o b=H b:=by unfold upd; rw [if_neg h]
theorem qMg {H:Hp} {a b:Addr} {o u:HO} (h:H a=some o) (h':H b=some u) (d:o≠u):a≠b:=by
 intro e; subst e; rw [h] at h'; exact d (zH h')
theorem qr {H:Hp} {a b:Addr} {o:HO} (h:H a=some o) (h':H b=none):a≠b:=by
 intro e; subst e; rw [h] at h'; cases h'
section
variable (P:Program) (w:World)
noncomputable def jD (H:Hp) (h:Heap) (a:Addr):HO->Prop
 | .lst xs=>xs.length<=sizeLine/\∃(its:List Value) (n:Nat),qh xs its/\h.get? a=some { cls:=.type "list",data:=.seq its.toArray n }
 | .tup xs=>xs.length<=sizeLine/\∃ its:List Value,qh xs its/\IsTup h a its.toArray/\NoD h a
 | .dK kvs=>kvs.length<=sizeLine/\(a == sysModules)=false/\∃ vs,KV kvs vs/\h.DictOf (qt P w) a vs
 | .dT kvs=>kvs.length<=sizeLine/\(a == sysModules)=false/\∃ xs:List (List Key×Addr×Value),
   Paired (fun (p:List Key×V) (q:List Key×Addr×Value)=>p.1=q.1/\H q.2.1=some (.tup (p.1.map kV))/\RelV p.2 q.2.2) kvs xs/\
   ∃ o es ep,h.get? a=some o/\o.ExactDict/\o.data=.dict es ep/\es.toList=xs.map (entryOfKey (tupleKind (qt P w)))/\(xs.map (·.1)).Nodup
 | .set S n=>h.SetOf (intKind P w) a S n
 | .ins C dx fs=>H dx=some (.own a)/\fs.length<=1000/\dx≠a/\h.get? a=some (UF C dx)/\
   ∃ mA,h.Ns1 dx mA/\(∀ f,qDg (fs.lookup f) (mA f))/\PySem.Within mA (fs.map (·.1))
 | .own _=>∃ o,h.get? a=some o
 | .xd fs=>∃ mA,h.Ns1 a mA/\∀ f,qDg (fs.lookup f) (mA f)
 | .rng lo hi=>∃ t u v,h.get? a=some { cls:=.type "range",data:=.fields #[.int lo t,.int hi u,.int 1 v] }
 | .frz o u=>h.get? a=some o/\jD H h a u
 | .tbl ps=>h.get? a=some { cls:=.none,data:=.fields ps }
 | .met f x=>h.get? a=some (VD (.ref f) (.ref x))
 | .ext φ=>φ h/\(∃ o,h.get? a=some o)/\∀ h1 h2:Heap,φ h1->(∀ o,h1.get? a=some o->h2.get? a=some o)->φ h2
noncomputable def HOk (H:Hp) (h:Heap):Prop:=∀ a o,H a=some o->jD P w H h a o
end
section
variable {P:Program} {w:World} {H H':Hp} {h h':Heap} {a:Addr} {o:HO}
theorem jD.lt (x:jD P w H h a o):a<h.objs.size:=by
 cases o with
 | lst xs=>obtain ⟨_,_,_,_,e⟩:=x; exact wZ e
 | tup xs=>obtain ⟨_,_,_,p,_⟩:=x; exact p.lt
 | dK kvs=>obtain ⟨_,_,_,_,o,_,_,e,_⟩:=x; exact wZ e
 | dT kvs=>obtain ⟨_,_,_,_,o,_,_,e,_⟩:=x; exact wZ e
 | set S n=>obtain ⟨o,_,_,_,e,_⟩:=x; exact wZ e
 | ins C dx fs=>obtain ⟨_,_,_,e,_⟩:=x; exact wZ e
 | own y=>obtain ⟨_,e⟩:=x; exact wZ e
 | xd fs=>obtain ⟨_,⟨_,_,_,e,_⟩,_⟩:=x; exact wZ e
 | rng lo hi=>obtain ⟨_,_,_,e⟩:=x; exact wZ e
 | frz ob u=>obtain ⟨e,_⟩:=x; exact wZ e
 | tbl ps=>exact wZ (show h.get? a=some _ from x)
 | met f y=>exact wZ (show h.get? a=some _ from x)
 | ext φ=>obtain ⟨_,⟨_,e⟩,_⟩:=x; exact wZ e
theorem Paired.mapP {α β:Type} {F G:α->β->Prop}:∀{l₁:List α} {l₂:List β},Paired F l₁ l₂->(∀ a b,F a b->G a b)->Paired G l₁ l₂
 | _,_,.nil,_=>.nil
 | _,_,.cons r t,f=>.cons (f _ _ r) (Paired.mapP t f)
theorem jD.stay (x:jD P w H h a o) (k:∀ b u,(b=a\/H b=some (.own a))->h.get? b=some u->h'.get? b=some u)
  (ho:∀ b,H b=some (.own a)->H' b=some (.own a)) (ht:∀ b xs,H b=some (.tup xs)->H' b=some (.tup xs)):jD P w H' h' a o:=by
 induction o with
 | lst xs=>obtain ⟨z,its,n,r,e⟩:=x; exact ⟨z,its,n,r,k _ _ (.inl rfl) e⟩
 | tup xs=>obtain ⟨z,its,r,⟨ob,e,c⟩,nd⟩:=x; exact ⟨z,its,r,⟨ob,k _ _ (.inl rfl) e,c⟩,fun o' e'=>by rw [k _ _ (.inl rfl) e] at e'; cases e'; exact nd _ e⟩
 | dK kvs=>obtain ⟨z,y,vs,r,ob,es,ep,e,c⟩:=x; exact ⟨z,y,vs,r,ob,es,ep,k _ _ (.inl rfl) e,c⟩
 | dT kvs=>
  obtain ⟨z,y,xs,r,ob,es,ep,e,c⟩:=x
  exact ⟨z,y,xs,Paired.mapP r fun p q z=>⟨z.1,ht _ _ z.2.1,z.2.2⟩,ob,es,ep,k _ _ (.inl rfl) e,c⟩
 | set S n=>obtain ⟨ob,es,ep,t,e,c⟩:=x; exact ⟨ob,es,ep,t,k _ _ (.inl rfl) e,c⟩
 | ins C dx fs=>
  obtain ⟨d,z,ne,e,mA,⟨od,es,ep,e2,c⟩,r⟩:=x
  exact ⟨ho _ d,z,ne,k _ _ (.inl rfl) e,mA,⟨od,es,ep,k _ _ (.inr d) e2,c⟩,r⟩
 | own y=>obtain ⟨ob,e⟩:=x; exact ⟨ob,k _ _ (.inl rfl) e⟩
 | xd fs=>obtain ⟨mA,⟨od,es,ep,e,c⟩,r⟩:=x; exact ⟨mA,⟨od,es,ep,k _ _ (.inl rfl) e,c⟩,r⟩
 | rng lo hi=>obtain ⟨t,u,v,e⟩:=x; exact ⟨t,u,v,k _ _ (.inl rfl) e⟩
 | frz ob u ih=>obtain ⟨e,q⟩:=x; exact ⟨k _ _ (.inl rfl) e,ih q⟩
 | tbl ps=>
  have e:h.get? a=some { cls:=.none,data:=.fields ps }:=x
  show h'.get? a=some { cls:=.none,data:=.fields ps }
  exact k a _ (.inl rfl) e
 | met f y=>
  have e:h.get? a=some (VD (.ref f) (.ref y)):=x
  show h'.get? a=some (VD (.ref f) (.ref y))
  exact k a _ (.inl rfl) e
 | ext φ=>obtain ⟨p,⟨o,e⟩,st⟩:=x; exact ⟨st _ _ p fun o q=>k _ _ (.inl rfl) q,⟨o,k _ _ (.inl rfl) e⟩,st⟩
theorem HOk.lt (x:HOk P w H h) (e:H a=some o):a<h.objs.size:=(x a o e).lt
theorem HOk.fresh (x:HOk P w H h) (e:h.objs.size<=a):H a=none:=by
 cases q:H a with
 | none=>rfl
 | some u=>exact absurd (zS (x.lt q) e) (vX _)
theorem HOk.kept (x:HOk P w H h) (k:∀ b u,h.get? b=some u->h'.get? b=some u):HOk P w H h':=fun a o e=>
 (x a o e).stay (fun b u _ q=>k b u q) (fun _ q=>q) fun _ _ q=>q
theorem HOk.laid (x:HOk P w H h) (k:∀ b u,h.get? b=some u->h'.get? b=some u) (hp:h.objs.size<=a) (new:jD P w (upd H a o) h' a o):HOk P w (upd H a o) h':=fun b u e=>by
 have hn:=x.fresh hp
 by_cases hb:b=a
 ·subst hb; rw [qH] at e; cases e; exact new
 ·rw [qI hb] at e
  exact (x b u e).stay (fun c v _ q=>k c v q) (fun c q=>by rw [qI (qr q hn)]; exact q) fun c xs q=>by rw [qI (qr q hn)]; exact q
end
noncomputable def Rd (H:Hp) (a:Addr) (u:HO):Prop:=H a=some u\/∃ o,H a=some (.frz o u)
theorem Rd.ok {P:Program} {w:World} {H:Hp} {h:Heap} {a:Addr} {u:HO} (r:Rd H a u) (x:HOk P w H h):jD P w H h a u:=by
 rcases r with r | ⟨o,r⟩
 ·exact x a u r
 ·obtain ⟨_,q⟩:=x a _ r
  exact q
noncomputable def Mut:Option HO->Prop
 | some (.lst _)=>True
 | some (.dK _)=>True
 | some (.dT _)=>True
 | some (.set _ _)=>True
 | some (.ins _ _ _)=>True
 | some (.ext _)=>True
 | _=>False
section
variable {P:Program} {w:World} {H:Hp} {h h':Heap} {x e:Addr} {o':HO}
theorem HOk.write (ok:HOk P w H h) (mu:Mut (H x)) (he:e=x\/H e=some (.own x)) (k:∀ b u,b≠e->h.get? b=some u->h'.get? b=some u) (heo:∃ u,h'.get? e=some u)
  (new:jD P w (upd H x o') h' x o'):HOk P w (upd H x o') h':=fun b u q=>by
 have nown:∀ c y,H c=some (.own y)->c≠x:=fun c y r z=>by subst z; rw [r] at mu; exact mu
 have ntup:∀ c xs,H c=some (.tup xs)->c≠x:=fun c xs r z=>by subst z; rw [r] at mu; exact mu
 by_cases hb:b=x
 ·subst hb; rw [qH] at q; cases q; exact new
 ·rw [qI hb] at q
  by_cases hbe:b=e
  ·have q':H b=some (.own x):=by
    rcases he with z | z
    ·exact absurd (hbe.trans z) hb
    ·rw [hbe]; exact z
   rw [q] at q'; cases q'
   obtain ⟨v,hv⟩:=heo
   exact ⟨v,by rw [hbe]; exact hv⟩
  ·refine (ok b u q).stay (fun c v hc r=>k c v ?_ r) (fun c r=>by rw [qI (nown c b r)]; exact r) fun c xs r=>by rw [qI (ntup c xs r)]; exact r
   rcases hc with rfl | hc
   ·exact hbe
   ·rintro rfl
    rcases he with z | z
    ·exact nown c b hc z
    ·rw [hc] at z; cases z; exact hb rfl
end
structure Un (fs ex:List Addr) (H H':Hp) (h h':Heap):Prop where
 keep:∀ b o,h.get? b=some o->H b=none->b∉fs->b∉ex->h'.get? b=some o
 slot:∀ b o,h.get? b=some o->H b=none->b∈fs->b∉ex->∃ sl,h'.get? b=some { o with slots:=sl }
 free:∀ b o,h.get? b=some o->H b=none->b∉ex->H' b=none
 there:∀ b o,h.get? b=some o->b∉ex->∃ o',h'.get? b=some o'
 tups:∀ b xs,H b=some (.tup xs)->H' b=some (.tup xs)
 frzs:∀ b o u,H b=some (.frz o u)->H' b=some (.frz o u)
 tbls:∀ b ps,H b=some (.tbl ps)->∃ more,H' b=some (.tbl (ps++more))
section
variable {fs fs' ex ex':List Addr} {H H1 H2:Hp} {h h1 h2 h':Heap} {a x e:Addr} {o:HO}
theorem Un.any (u:Un fs ex H H1 h h1) {b:Addr} {ob:Obj} (q:h.get? b=some ob) (n:H b=none) (hx:b∉ex):∃ sl,h1.get? b=some { ob with slots:=sl }:=by
 by_cases hb:b∈fs
 ·exact u.slot b ob q n hb hx
 ·exact ⟨ob.slots,u.keep b ob q n hb hx⟩
theorem Un.kept (k:∀ b u,h.get? b=some u->h'.get? b=some u):Un fs ex H H h h':=
 ⟨fun b ob q _ _ _=>k b ob q,fun b ob q _ _ _=>⟨ob.slots,k b ob q⟩,fun _ _ _ n _=>n,fun b ob q _=>⟨ob,k b ob q⟩,fun _ _ q=>q,fun _ _ _ q=>q,fun _ ps q=>⟨#[],by rw [q]; simp⟩⟩
theorem Un.refl:Un fs ex H H h h:=Un.kept fun _ _ q=>q
theorem Un.laid (k:∀ b u,h.get? b=some u->h'.get? b=some u) (hp:h.objs.size<=a) (hn:H a=none):Un fs ex H (upd H a o) h h' where
 keep:=fun b u q _ _ _=>k b u q
 slot:=fun b u q _ _ _=>⟨u.slots,k b u q⟩
 free:=fun b u q n _=>by rw [qI (zZ (zS (wZ q) hp))]; exact n
 there:=fun b u q _=>⟨u,k b u q⟩
 tups:=fun b xs q=>by rw [qI (qr q hn)]; exact q
 frzs:=fun b u xs q=>by rw [qI (qr q hn)]; exact q
 tbls:=fun b ps q=>⟨#[],by rw [qI (qr q hn),q]; simp⟩
theorem Un.write (mu:Mut (H x)) (he:e=x\/H e=some (.own x)) (k:∀ b u,b≠e->h.get? b=some u->h'.get? b=some u) (heo:∃ u,h'.get? e=some u):Un fs ex H (upd H x o) h h':=by
 have hx:∀ b,H b=none->b≠x:=fun b n z=>by subst z; rw [n] at mu; exact mu
 have hb:∀ b,H b=none->b≠e:=fun b n z=>by
  subst z
  rcases he with r | r
  ·exact hx b n r
  ·rw [n] at r; cases r
 have hm:∀ b u,H b=some u->¬ Mut (some u)->b≠x:=fun b u q nm z=>by subst z; rw [q] at mu; exact nm mu
 refine ⟨fun b u q n _ _=>k b u (hb b n) q,fun b u q n _ _=>⟨u.slots,k b u (hb b n) q⟩,fun b u q n _=>by rw [qI (hx b n)]; exact n,fun b u q _=>?_,
  fun b xs q=>by rw [qI (hm b _ q fun z=>z)]; exact q,fun b u xs q=>by rw [qI (hm b _ q fun z=>z)]; exact q,fun b ps q=>⟨#[],by rw [qI (hm b _ q fun z=>z),q]; simp⟩⟩
 by_cases hbe:b=e
 ·subst hbe; exact heo
 ·exact ⟨u,k b u hbe q⟩
end
noncomputable def trk (h:Heap) (H:Hp):List Addr:=(zA h.objs.size).filter fun a=>(H a).isSome
noncomputable def qGj (h:Heap) (H:Hp):Heap:=PySem.W.hideAll h (trk h H)
theorem qFB (h:Heap) (H:Hp):(qGj h H).objs.size=h.objs.size:=PySem.W.hideAll_size _ _
theorem qGY {h:Heap} {H:Hp} {b:Addr} {o:Obj} (e:h.get? b=some o) (n:H b=none):(qGj h H).get? b=some o:=
 PySem.W.hideAll_get _ e fun hm=>by
  have q:(H b).isSome=true:=(zL.mp hm).2
  rw [n] at q; simp at q
theorem qIM {h:Heap} {H:Hp} {b:Addr} {o:Obj} (e:(qGj h H).get? b=some o):h.get? b=some o/\H b=none:=by
 have e':h.get? b=some o:=PySem.W.of_hideAll (trk h H) e
 refine ⟨e',?_⟩
 cases q:H b with
 | none=>rfl
 | some x=>
  have hm:b∈trk h H:=zL.mpr ⟨zN.mpr (wZ e'),by simp [q]⟩
  have z:(qGj h H).get? b=none:=PySem.W.hideAll_none (trk h H) hm
  rw [z] at e; cases e
noncomputable def qJt (g h:Heap) (L:Addr):List (Addr×Obj):=(zA h.objs.size).filterMap fun a=>if a=L\/(g.get? a).isSome=true then none else (h.get? a).map fun o=>(a,o)
noncomputable def rest (g h:Heap) (L d:Addr):List (Addr×Obj):=(qJt g h L).filter fun p=>decide (p.1≠d)
structure Mod (K:wD) (mg:Str->Option Value) (base:Heap):Prop where
 kin:K.In base
 glob:base.Ns mainGlobals mg
 blt:∃ mb,base.Ns builtinsNs mb/\∀ x:Str,x≠"__name__"->mb x=bootBuiltins x
 nolimit:base.NoLimit
structure Cx where
 prog:Program
 w:World
 K:wD
 mg:Str->Option Value
 base:Heap
 A:Around
 N:List Str
 s₀:Shared
 H₀:Hp
 env:Env
 outer:List Env
 stack:List Env
 ex:List Addr
 fn:Str->Bool
 calm:Bool
 pn:List (Addr×Obj)
 xe:Value->Shared->Prop
noncomputable def frs (l:List Env):List Addr:=l.filterMap (·.frame)
noncomputable abbrev Cx.fs (X:Cx):List Addr:=frs X.outer
noncomputable def Vis (sc:Scope) (x:Str):Prop:=sc.names.lookup x=some .local\/sc.names.lookup x=some .cell\/sc.names.lookup x=some .free
noncomputable def Loc (sc:Scope) (x:Str):Prop:=sc.names.lookup x=some .local\/sc.names.lookup x=some .cell
noncomputable def Look (env:Env) (h:Heap) (m:Str->Option Value) (x:Str) (u:Value):Prop:=
 (env.kindOf x=some .local/\m x=some u)\/((env.kindOf x=some .cell\/env.kindOf x=some .free)/\∃ c,env.cells.lookup x=some c/\h.IsCell c (some u))
structure Cx.Ok (X:Cx):Prop where
 mod:Mod X.K X.mg X.base
 kind:X.env.scope.kind=.function
 glob:X.env.globals=mainGlobals
 blt:X.env.builtins=builtinsNs
 above:X.s₀.heap.objs.size<=X.env.locals
 inj:∀ x y c,X.env.cells.lookup x=some c->X.env.cells.lookup y=some c->x=y
 has:∀ x,(X.env.kindOf x=some .cell\/X.env.kindOf x=some .free)->∃ c,X.env.cells.lookup x=some c
 cab:∀ x c,X.fn x=true->X.env.cells.lookup x=some c->X.s₀.heap.objs.size<=c
 hd:X.calm=true->X.A.handled=none
 frames:X.A.frames=some X.stack
 stk:X.stack=X.outer\/(X.stack=X.env::X.outer/\X.env.frame=some X.env.locals)
 exf:∀ b∈X.ex,b≠X.env.locals/\∀ x c,X.env.cells.lookup x=some c->c≠b
 bs:∀ b o,X.base.get? b=some o->X.s₀.heap.get? b=some o/\X.H₀ b=none
 bsz:X.base.objs.size<=X.s₀.heap.objs.size
 noex:∀ b o,X.base.get? b=some o->b∉X.ex
 exfs:∀ b∈X.ex,b∉X.fs
 funs:X.s₀.heap.FunFrames X.base X.outer
 frf:∀ b∈X.fs,X.H₀ b=none
structure Inv (X:Cx) (pins:List (Addr×Obj)) (σ:List (Option V)) (H:Hp) (s:Shared):Prop where
 ok:X.Ok
 os:s.os=X.s₀.os
 bare:AllBare s.gens
 base:Un X.fs X.ex X.H₀ H X.s₀.heap s.heap
 loc:∃ m,s.heap.Ns X.env.locals m/\∀(i:Nat) (x:Str) (v:V),X.N[i]? = some x->σ[i]? = some (some v)->Vis X.env.scope x->∃ u,RelV v u/\Look X.env s.heap m x u
 cell:∀ x c,X.env.cells.lookup x=some c->∃ v,s.heap.IsCell c v
 free:H X.env.locals=none
 freeC:∀ x c,X.env.cells.lookup x=some c->H c=none
 pin:∀ p∈X.pn++pins,s.heap.get? p.1=some p.2/\H p.1=none/\p.1≠X.env.locals/\p.1∉X.fs/\∀ v,p.2.data≠.cell v
 hok:HOk X.prog X.w H s.heap
 len:σ.length=X.N.length
section
variable {X:Cx} {pins:List (Addr×Obj)} {σ:List (Option V)} {H H':Hp} {s:Shared} {h':Heap}
theorem Cx.Ok.nofr (ok:X.Ok) {b:Addr} {o:Obj} (e:X.base.get? b=some o):b∉X.fs:=fun hb=>by
 have:=(ok.funs.mem hb).1
 rw [e] at this; cases this
theorem Inv.bs (I:Inv X pins σ H s):∀ b o,X.base.get? b=some o->s.heap.get? b=some o/\H b=none:=fun b o e=>
 ⟨I.base.keep b o (I.ok.bs b o e).1 (I.ok.bs b o e).2 (I.ok.nofr e) (I.ok.noex b o e),I.base.free b o (I.ok.bs b o e).1 (I.ok.bs b o e).2 (I.ok.noex b o e)⟩
theorem Inv.bk (I:Inv X pins σ H s):∀ b o,X.base.get? b=some o->s.heap.get? b=some o:=fun b o e=>(I.bs b o e).1
theorem Inv.mod (I:Inv X pins σ H s):Mod X.K X.mg X.base:=I.ok.mod
theorem Inv.kIn (I:Inv X pins σ H s):X.K.In s.heap:=I.ok.mod.kin.keeps I.bk
theorem Inv.lt (I:Inv X pins σ H s):X.env.locals<s.heap.objs.size:=let ⟨_,hn,_⟩:=I.loc; hn.lt
theorem Inv.sz (I:Inv X pins σ H s):X.s₀.heap.objs.size<=s.heap.objs.size:=zK I.ok.above (xU I.lt)
theorem Inv.nofs (I:Inv X pins σ H s) {a:Addr} (h:s.heap.objs.size<=a):a∉X.fs:=fun hb=>by
 obtain ⟨_,o,ho,_⟩:=I.ok.funs.mem hb
 exact absurd (zS (wZ ho) (zK I.sz h)) (vX _)
theorem Inv.cne (I:Inv X pins σ H s):∀ x c,X.env.cells.lookup x=some c->c≠X.env.locals:=fun x c e z=>by
 obtain ⟨v,o,ho,hd⟩:=I.cell x c e
 obtain ⟨m,⟨o',es,ep,ho',hd',_⟩,_⟩:=I.loc
 rw [z,ho'] at ho; cases ho; rw [hd'] at hd; cases hd
theorem Inv.funs (I:Inv X pins σ H s):s.heap.FunFrames X.base X.outer:=by
 have all:∀(l:List Env),(∀ b∈frs l,b∈X.fs)->X.s₀.heap.FunFrames X.base l->s.heap.FunFrames X.base l:=by
  intro l
  induction l with
  | nil=>intro _ _; trivial
  | cons env r ih=>
   intro hs hl
   obtain ⟨hk,⟨L,o,hf,hn,ho,hd⟩,hr⟩:=hl
   have hL:L∈X.fs:=hs L (by unfold frs; rw [gE,hf]; exact wL)
   obtain ⟨sl,e⟩:=I.base.slot L o ho (I.ok.frf L hL) hL fun z=>I.ok.exfs L z hL
   exact ⟨hk,⟨L,_,hf,hn,e,hd⟩,ih (fun b hb=>hs b (by unfold frs; rw [gE,hf]; exact wI _ hb)) hr⟩
 exact all X.outer (fun _ hb=>hb) I.ok.funs
theorem Inv.stack (I:Inv X pins σ H s):s.heap.FunFrames X.base X.stack:=by
 rcases I.ok.stk with e | ⟨e,hf⟩
 ·rw [e]; exact I.funs
 ·rw [e]
  obtain ⟨m,hn,_⟩:=I.loc
  refine .cons (by rw [I.ok.kind]; decide) hf hn ?_ I.funs
  exact Heap.get?_none_of_le (zK I.ok.bsz I.ok.above)
theorem Inv.stkSub (I:Inv X pins σ H s):∀ b∈frs X.stack,b∈X.env.locals::X.fs:=fun b hb=>by
 rcases I.ok.stk with e | ⟨e,hf⟩
 ·rw [e] at hb; exact wI _ hb
 ·rw [e] at hb
  unfold frs at hb
  rw [gE,hf] at hb
  exact hb
theorem Inv.stkFree (I:Inv X pins σ H s):∀ b∈frs X.stack,H b=none:=fun b hb=>by
 rcases wX.mp (I.stkSub b hb) with e | hb
 ·rw [e]; exact I.free
 ·obtain ⟨_,o,ho,_⟩:=I.ok.funs.mem hb
  exact I.base.free b o ho (I.ok.frf b hb) fun z=>I.ok.exfs b z hb
theorem Inv.step {g':Array GenState} {t':Nat} {d':Drawn} {ch:List Addr} (I:Inv X pins σ H s)
  (hch:∀ b∈ch,(b∈X.ex\/X.s₀.heap.objs.size<=b)/\b≠X.env.locals/\(∀ x c,X.env.cells.lookup x=some c->c≠b)/\∀ p∈X.pn++pins,p.1≠b)
  (keep:∀ b o,b≠X.env.locals->b∉X.fs->b∉ch->s.heap.get? b=some o->H b=none->h'.get? b=some o)
  (slot:∀ b o,b≠X.env.locals->b∈X.fs->b∉ch->s.heap.get? b=some o->H b=none->∃ sl,h'.get? b=some { o with slots:=sl }) (free:∀ b o,b∉ch->s.heap.get? b=some o->H b=none->H' b=none)
  (there:∀ b o,b∉ch->s.heap.get? b=some o->∃ o',h'.get? b=some o')
  (tups:∀ b xs,H b=some (.tup xs)->H' b=some (.tup xs)) (frzs:∀ b o u,H b=some (.frz o u)->H' b=some (.frz o u)) (tbls:∀ b ps,H b=some (.tbl ps)->∃ more,H' b=some (.tbl (ps++more)))
  (ns:∀ m,s.heap.Ns X.env.locals m->h'.Ns X.env.locals m) (hok:HOk X.prog X.w H' h') (hg:AllBare g') :
  Inv X pins σ H' { s with heap:=h',gens:=g',drawn:=d',toks:=t' }:=by
 have neL:∀ b o,X.s₀.heap.get? b=some o->b≠X.env.locals:=fun b o e=>zZ (zS (wZ e) I.ok.above)
 have neC:∀ b o,X.s₀.heap.get? b=some o->b∉X.ex->b∉ch:=fun b o e hx hb=>by
  rcases (hch b hb).1 with z | z
  ·exact hx z
  ·exact absurd (zS (wZ e) z) (vX _)
 have cellK:∀ x c,X.env.cells.lookup x=some c->∀ v,s.heap.IsCell c v->h'.IsCell c v:=fun x c e v ⟨o,ho,hd⟩=>by
  have nch:c∉ch:=fun z=>(hch c z).2.2.1 x c e rfl
  by_cases hc:c∈X.fs
  ·obtain ⟨sl,q⟩:=slot c o (I.cne x c e) hc nch ho (I.freeC x c e)
   exact ⟨_,q,hd⟩
  ·exact ⟨o,keep c o (I.cne x c e) hc nch ho (I.freeC x c e),hd⟩
 refine ⟨I.ok,I.os,hg,⟨fun b o e n hb hx=>?_,fun b o e n hb hx=>?_,fun b o e n hx=>?_,fun b o e hx=>?_,fun b xs e=>tups b xs (I.base.tups b xs e),fun b o xs e=>frzs b o xs (I.base.frzs b o xs e),fun b ps e=>?_⟩,?_,fun x c e=>?_,?_,fun x c e=>?_,fun p hp=>?_,hok,I.len⟩
 ·exact keep b o (neL b o e) hb (neC b o e hx) (I.base.keep b o e n hb hx) (I.base.free b o e n hx)
 ·obtain ⟨sl,e1⟩:=I.base.slot b o e n hb hx
  obtain ⟨sl',e2⟩:=slot b _ (neL b o e) hb (neC b o e hx) e1 (I.base.free b o e n hx)
  exact ⟨sl',e2⟩
 ·obtain ⟨o',e1⟩:=I.base.there b o e hx
  exact free b o' (neC b o e hx) e1 (I.base.free b o e n hx)
 ·obtain ⟨o',e1⟩:=I.base.there b o e hx
  exact there b o' (neC b o e hx) e1
 ·obtain ⟨m1,e1⟩:=I.base.tbls b ps e
  obtain ⟨m2,e2⟩:=tbls b _ e1
  exact ⟨m1++m2,by rw [e2,Array.append_assoc]⟩
 ·obtain ⟨m,hn,hl⟩:=I.loc
  refine ⟨m,ns m hn,fun i x v e1 e2 e3=>?_⟩
  obtain ⟨u,r,l⟩:=hl i x v e1 e2 e3
  refine ⟨u,r,?_⟩
  rcases l with l | ⟨k,c,e,z⟩
  ·exact .inl l
  ·exact .inr ⟨k,c,e,cellK x c e _ z⟩
 ·obtain ⟨v,z⟩:=I.cell x c e
  exact ⟨v,cellK x c e v z⟩
 ·obtain ⟨m,⟨o,_,_,ho,_⟩,_⟩:=I.loc
  exact free _ o (fun z=>(hch _ z).2.1 rfl) ho I.free
 ·obtain ⟨v,o,ho,hd⟩:=I.cell x c e
  exact free c o (fun z=>(hch c z).2.2.1 x c e rfl) ho (I.freeC x c e)
 ·obtain ⟨e,n,ne,nf,d⟩:=I.pin p hp
  have nch:p.1∉ch:=fun z=>(hch p.1 z).2.2.2 p hp rfl
  exact ⟨keep p.1 p.2 ne nf nch e n,free p.1 p.2 nch e n,ne,nf,d⟩
theorem Inv.un {t':Nat} (I:Inv X pins σ H s) (u:Un X.fs [] H H' s.heap h') (hok:HOk X.prog X.w H' h'):Inv X pins σ H' { s with heap:=h',toks:=t' }:=by
 obtain ⟨m,⟨o,es,ep,ho,r⟩,_⟩:=id I.loc
 obtain ⟨sl,hL⟩:=u.any ho I.free (by simp)
 exact I.step (g':=s.gens) (d':=s.drawn) (ch:=[]) (fun _ z=>nomatch z) (fun b o _ hb _ e n=>u.keep b o e n hb (by simp)) (fun b o _ hb _ e n=>u.slot b o e n hb (by simp)) (fun b o _ e n=>u.free b o e n (by simp)) (fun b o _ e=>u.there b o e (by simp)) u.tups u.frzs u.tbls (fun m' hm=>by
  obtain ⟨o',es',ep',ho',r'⟩:=hm
  rw [ho] at ho'; cases ho'
  exact ⟨_,es',ep',hL,r'⟩) hok I.bare
theorem Inv.call {g':Array GenState} {t':Nat} {d':Drawn} {ch:List Addr} (I:Inv X pins σ H s) (u:Un (frs X.stack) ch H H' s.heap h') (hok:HOk X.prog X.w H' h') (hg:AllBare g')
  (hch:∀ b∈ch,(b∈X.ex\/X.s₀.heap.objs.size<=b)/\b≠X.env.locals/\(∀ x c,X.env.cells.lookup x=some c->c≠b)/\∀ p∈X.pn++pins,p.1≠b) :
  Inv X pins σ H' { s with heap:=h',gens:=g',drawn:=d',toks:=t' }:=by
 obtain ⟨m,⟨o,es,ep,ho,r⟩,_⟩:=id I.loc
 obtain ⟨sl,hL⟩:=u.any ho I.free fun z=>(hch _ z).2.1 rfl
 exact I.step (ch:=ch) hch (fun b o hL hb hc e n=>u.keep b o e n (fun z=>(wX.mp (I.stkSub b z)).elim hL hb) hc) (fun b o _ _ hc e n=>u.any e n hc) (fun b o hc e n=>u.free b o e n hc) (fun b o hc e=>u.there b o e hc) u.tups u.frzs u.tbls (fun m' hm=>by
  obtain ⟨o',es',ep',ho',r'⟩:=hm
  rw [ho] at ho'; cases ho'
  exact ⟨_,es',ep',hL,r'⟩) hok hg
theorem Inv.turned {t':Nat} {it:Addr} (I:Inv X pins σ H s) (k:∀ b o,b≠it->s.heap.get? b=some o->h'.get? b=some o) (hn:H it=none) (hL:it≠X.env.locals)
  (h1:it∈X.ex\/X.s₀.heap.objs.size<=it) (h2:∀ x c,X.env.cells.lookup x=some c->c≠it) (h3:∀ p∈X.pn++pins,p.1≠it):Inv X pins σ H { s with heap:=h',toks:=t' }:=by
 have nit:∀ b u,H b=some u->b≠it:=fun b u e z=>by rw [z,hn] at e; cases e
 refine I.step (g':=s.gens) (d':=s.drawn) (ch:=[it]) (fun b hb=>?_) (fun b o _ _ hc e _=>k b o (fun z=>hc (by simp [z])) e) (fun b o _ _ hc e _=>⟨o.slots,k b o (fun z=>hc (by simp [z])) e⟩) (fun _ _ _ _ n=>n)
  (fun b o hc e=>⟨o,k b o (fun z=>hc (by simp [z])) e⟩) (fun _ _ e=>e) (fun _ _ _ e=>e) (fun b ps e=>⟨#[],by rw [e]; simp⟩) (fun m hm=>?_) (fun b u e=>?_) I.bare
 ·have e:b=it:=by simpa using hb
  subst e
  exact ⟨h1,hL,h2,h3⟩
 ·obtain ⟨o,es,ep,ho,r⟩:=hm
  exact ⟨o,es,ep,k _ o (kX hL) ho,r⟩
 ·refine (I.hok b u e).stay (fun c v hc q=>k c v ?_ q) (fun _ q=>q) fun _ _ q=>q
  rcases hc with z | z
  ·rw [z]; exact nit b u e
  ·exact nit c _ z
theorem Inv.tok (I:Inv X pins σ H s) (t:Nat):Inv X pins σ H { s with toks:=t }:=I.un (h':=s.heap) (t':=t) Un.refl I.hok
theorem Inv.kept {t':Nat} (I:Inv X pins σ H s) (k:∀ b u,s.heap.get? b=some u->h'.get? b=some u):Inv X pins σ H { s with heap:=h',toks:=t' }:=I.un (Un.kept k) (I.hok.kept k)
theorem Inv.laid {a:Addr} {o:HO} {t':Nat} (I:Inv X pins σ H s) (k:∀ b u,s.heap.get? b=some u->h'.get? b=some u) (hp:s.heap.objs.size<=a) (new:jD X.prog X.w (upd H a o) h' a o) :
  Inv X pins σ (upd H a o) { s with heap:=h',toks:=t' }:=I.un (Un.laid k hp (I.hok.fresh hp)) (I.hok.laid k hp new)
theorem Inv.write {x e:Addr} {o:HO} {t':Nat} (I:Inv X pins σ H s) (mu:Mut (H x)) (he:e=x\/H e=some (.own x)) (k:∀ b u,b≠e->s.heap.get? b=some u->h'.get? b=some u) (heo:∃ u,h'.get? e=some u)
  (new:jD X.prog X.w (upd H x o) h' x o):Inv X pins σ (upd H x o) { s with heap:=h',toks:=t' }:=I.un (Un.write mu he k heo) (I.hok.write mu he k heo new)
theorem Inv.pins_of {pins':List (Addr×Obj)} (I:Inv X pins σ H s) (h:∀ p∈pins',s.heap.get? p.1=some p.2/\H p.1=none/\p.1≠X.env.locals/\p.1∉X.fs/\∀ v,p.2.data≠.cell v):Inv X pins' σ H s:=
 ⟨I.ok,I.os,I.bare,I.base,I.loc,I.cell,I.free,I.freeC,fun p hp=>(zR.mp hp).elim (fun z=>I.pin p (zT _ z)) (h p),I.hok,I.len⟩
theorem qDA {N:List Str} (hN:N.Nodup) {i j:Nat} {x:Str} (a:N[i]? = some x) (b:N[j]? = some x):i=j:=by
 obtain ⟨h1,e1⟩:=wM.mp a
 obtain ⟨h2,e2⟩:=wM.mp b
 exact (VR hN).mp (e1.trans e2.symm)
theorem qA2 {M:Model} {A:Around} {E:Value->Shared->Prop} {i:Nat} {x:Str} {v:V} {u:Value} {Q:Unit->Shared->Prop} (I:Inv X pins σ H s) (hN:X.N.Nodup) (hi:X.N[i]? = some x) (hx:Loc X.env.scope x) (r:RelV v u)
  (h:∀ s',Inv X pins (σ.set i (some v)) H s'->(∃ a,kG a s.heap s'.heap/\(a=X.env.locals\/X.env.cells.lookup x=some a))->Q () s') (hf:X.fn x=true\/X.env.scope.names.lookup x=some .local:=by first | exact .inl rfl | exact .inr rfl | assumption):wpAny M A (storeName X.env x u) Q E s:=by
 obtain ⟨m,hn,hl⟩:=id I.loc
 have hcls:(X.env.scope.kind == .class || (X.env.scope.kind == .module && X.env.locals != X.env.globals))=false:=by rw [I.ok.kind]; rfl
 have hiσ:i<σ.length:=by rw [I.len]; exact (wM.mp hi).1
 have cne:=I.cne
 have tracked:∀{a:Addr} {h':Heap},(∃ o,s.heap.get? a=some o/\H a=none)->kG a s.heap h'->HOk X.prog X.w H h':=fun {a h'} ha hs b ob e=>by
  obtain ⟨_,_,hfree⟩:=ha
  refine (I.hok b ob e).stay (fun c w' hc q=>(hs.2 c ?_).trans q) (fun _ q=>q) fun _ _ q=>q
  rintro rfl
  rcases hc with rfl | hc
  ·rw [hfree] at e; cases e
  ·rw [hfree] at hc; cases hc
 rcases hx with hk | hk
 ·refine wpAny_storeName_local hk hn (fun h' hn' hs=>?_) hcls
  obtain ⟨oL,_,_,hoL,_⟩:=id hn
  refine h _ ⟨I.ok,I.os,I.bare,⟨fun b o e n hb hx=>?_,fun b o e n hb hx=>?_,I.base.free,fun b o e hx=>?_,I.base.tups,I.base.frzs,I.base.tbls⟩,⟨_,hn',fun j y v' e1 e2 e3=>?_⟩,fun y c e=>?_,I.free,I.freeC,fun p hp=>?_,tracked ⟨oL,hoL,I.free⟩ hs,by simpa using I.len⟩ ⟨_,hs,.inl rfl⟩
  ·exact (hs.2 b (zZ (zS (wZ e) I.ok.above))).trans (I.base.keep b o e n hb hx)
  ·obtain ⟨sl,e1⟩:=I.base.slot b o e n hb hx
   exact ⟨sl,(hs.2 b (zZ (zS (wZ e) I.ok.above))).trans e1⟩
  ·obtain ⟨o',e1⟩:=I.base.there b o e hx
   exact ⟨o',(hs.2 b (zZ (zS (wZ e) I.ok.above))).trans e1⟩
  ·by_cases hj:j=i
   ·subst hj
    rw [hi] at e1; cases e1
    rw [uF hiσ] at e2
    cases e2
    exact ⟨u,r,.inl ⟨hk,by simp⟩⟩
   ·rw [uT (kX hj)] at e2
    obtain ⟨u',r',q⟩:=hl j y v' e1 e2 e3
    refine ⟨u',r',?_⟩
    rcases q with ⟨k,e⟩ | ⟨k,c,e,z⟩
    ·refine .inl ⟨k,?_⟩
     have:y≠x:=fun e=>hj (qDA hN e1 (e ▸ hi))
     simp [this,e]
    ·exact .inr ⟨k,c,e,z.sameBut hs (cne y c e)⟩
  ·obtain ⟨w',z⟩:=I.cell y c e
   exact ⟨w',z.sameBut hs (cne y c e)⟩
  ·obtain ⟨e,n,ne,nf,d⟩:=I.pin p hp
   exact ⟨(hs.2 p.1 ne).trans e,n,ne,nf,d⟩
 ·have hfn:X.fn x=true:=by
   rcases hf with z | z
   ·exact z
   ·rw [z] at hk; cases hk
  obtain ⟨c,hc⟩:=I.ok.has x (.inl hk)
  obtain ⟨w',z⟩:=I.cell x c hc
  refine wpAny_storeName_cell I.ok.kind hk hc z (fun h' hc' hs=>?_)
  obtain ⟨oc,hoc,hocd⟩:=id z
  refine h { s with heap:=h' } ⟨I.ok,I.os,I.bare,⟨fun b o e n hb hx=>?_,fun b o e n hb hx=>?_,I.base.free,fun b o e hx=>?_,I.base.tups,I.base.frzs,I.base.tbls⟩,⟨m,hn.sameBut hs (kX (cne x c hc)),fun j y v' e1 e2 e3=>?_⟩,fun y c' e=>?_,I.free,I.freeC,fun p hp=>?_,tracked ⟨oc,hoc,I.freeC x c hc⟩ hs,by simpa using I.len⟩ ⟨c,hs,.inr hc⟩
  ·exact (hs.2 b (zZ (zS (wZ e) (I.ok.cab x c hfn hc)))).trans (I.base.keep b o e n hb hx)
  ·obtain ⟨sl,e1⟩:=I.base.slot b o e n hb hx
   exact ⟨sl,(hs.2 b (zZ (zS (wZ e) (I.ok.cab x c hfn hc)))).trans e1⟩
  ·obtain ⟨o',e1⟩:=I.base.there b o e hx
   exact ⟨o',(hs.2 b (zZ (zS (wZ e) (I.ok.cab x c hfn hc)))).trans e1⟩
  ·by_cases hj:j=i
   ·subst hj
    rw [hi] at e1; cases e1
    rw [uF hiσ] at e2
    cases e2
    exact ⟨u,r,.inr ⟨.inl hk,c,hc,hc'⟩⟩
   ·rw [uT (kX hj)] at e2
    obtain ⟨u',r',q⟩:=hl j y v' e1 e2 e3
    refine ⟨u',r',?_⟩
    rcases q with q | ⟨k,c',e,z'⟩
    ·exact .inl q
    ·refine .inr ⟨k,c',e,z'.sameBut hs ?_⟩
     rintro rfl
     exact hj (qDA hN e1 (I.ok.inj _ _ _ e hc ▸ hi))
  ·by_cases hcc:c'=c
   ·subst hcc; exact ⟨_,hc'⟩
   ·obtain ⟨w2,z2⟩:=I.cell y c' e
    exact ⟨w2,z2.sameBut hs hcc⟩
  ·obtain ⟨e,n,ne,nf,d⟩:=I.pin p hp
   refine ⟨(hs.2 p.1 ?_).trans e,n,ne,nf,d⟩
   intro q
   rw [q,hoc] at e
   have q':oc=p.2:=zH e
   exact d w' (by rw [<- q']; exact hocd)
theorem Ji {M:Model} {A:Around} {E:Value->Shared->Prop} {i:Nat} {x:Str} {v:V} {u:Value} {Q:Unit->Shared->Prop} (I:Inv X pins σ H s) (hN:X.N.Nodup) (hi:X.N[i]? = some x) (hx:Loc X.env.scope x) (r:RelV v u)
  (h:∀ s',Inv X pins (σ.set i (some v)) H s'->Q () s') (hf:X.fn x=true\/X.env.scope.names.lookup x=some .local:=by first | exact .inl rfl | exact .inr rfl | assumption):wpAny M A (storeName X.env x u) Q E s:=
 qA2 I hN hi hx r (fun s' I' _=>h s' I') hf
theorem Inv.call' {s':Shared} {ch:List Addr} (I:Inv X pins σ H s) (ho:s'.os=s.os) (u:Un (frs X.stack) ch H H' s.heap s'.heap) (hok:HOk X.prog X.w H' s'.heap) (hg:AllBare s'.gens)
  (hch:∀ b∈ch,(b∈X.ex\/X.s₀.heap.objs.size<=b)/\b≠X.env.locals/\(∀ x c,X.env.cells.lookup x=some c->c≠b)/\∀ p∈X.pn++pins,p.1≠b):Inv X pins σ H' s':=by
 obtain ⟨h',g',d',t',o'⟩:=s'
 have e:o'=s.os:=ho
 subst e
 exact I.call (g':=g') (t':=t') (d':=d') u hok hg hch
end
noncomputable abbrev XK:=Value->Option Addr->Hp->Prop
noncomputable abbrev St:=List (Option V)
noncomputable abbrev VK:=V->Hp->Prop
noncomputable abbrev TE:=St->Hp->VK->Prop
noncomputable abbrev TT:=St->Hp->(Bool->Hp->Prop)->Prop
noncomputable abbrev TA:=St->Hp->(List V->Hp->Prop)->Prop
structure Ends where
 nx:St->Hp->Prop
 rt:VK
 bk:St->Hp->Prop:=fun _ _=>False
 ct:St->Hp->Prop:=fun _ _=>False
noncomputable abbrev TS:=Ends->St->Hp->Prop
noncomputable def EP (X:Cx) (pins:List (Addr×Obj)) (σ:St) (Q:VK) (u:Value) (s':Shared):Prop:=∃ v H',Inv X pins σ H' s'/\RelV v u/\Q v H'
noncomputable def TP (X:Cx) (pins:List (Addr×Obj)) (σ:St) (Q:Bool->Hp->Prop) (b:Bool) (s':Shared):Prop:=∃ H',Inv X pins σ H' s'/\Q b H'
noncomputable def AP (X:Cx) (pins:List (Addr×Obj)) (σ:St) (Q:List V->Hp->Prop) (us:List Value) (s':Shared):Prop:=∃ vs H',Inv X pins σ H' s'/\qh vs us/\Q vs H'
noncomputable def SP (X:Cx) (pins:List (Addr×Obj)) (D:Ends) (f:Flow) (s':Shared):Prop:=
 match f with
 | .next=>∃ σ' H',Inv X pins σ' H' s'/\D.nx σ' H'
 | .brk=>∃ σ' H',Inv X pins σ' H' s'/\D.bk σ' H'
 | .cont=>∃ σ' H',Inv X pins σ' H' s'/\D.ct σ' H'
 | .ret u=>∃ v σ' H',Inv X pins σ' H' s'/\RelV v u/\D.rt v H'
noncomputable def PE (X:Cx) (e:Expr) (t:TE):Prop:=
 ∀(pins:List (Addr×Obj)) (s:Shared) (σ:St) (H:Hp) (Q:VK),Inv X pins σ H s->t σ H Q->wpAny (model X.prog X.w) X.A (eval e X.env) (EP X pins σ Q) X.xe s
noncomputable def PT (X:Cx) (e:Expr) (t:TT):Prop:=
 ∀(pins:List (Addr×Obj)) (s:Shared) (σ:St) (H:Hp) (Q:Bool->Hp->Prop),Inv X pins σ H s->t σ H Q->wpAny (model X.prog X.w) X.A (isTrue e X.env (eval e X.env)) (TP X pins σ Q) X.xe s
noncomputable def PW (X:Cx) (e:Expr) (t:TT):Prop:=
 ∀(whole:Sem Value) (pins:List (Addr×Obj)) (s:Shared) (σ:St) (H:Hp) (Q:Bool->Hp->Prop),Inv X pins σ H s->t σ H Q->wpAny (model X.prog X.w) X.A (isTrue e X.env whole) (TP X pins σ Q) X.xe s
theorem PW.pt {X:Cx} {e:Expr} {t:TT} (h:PW X e t):PT X e t:=h _
noncomputable def PA (X:Cx) (es:List Expr) (t:TA):Prop:=
 ∀(pos:Pos) (pins:List (Addr×Obj)) (s:Shared) (σ:St) (H:Hp) (Q:List V->Hp->Prop),Inv X pins σ H s->t σ H Q->wpAny (model X.prog X.w) X.A (spliced (backTo pos (starEach es X.env))) (AP X pins σ Q) X.xe s
noncomputable def PS (X:Cx) (st:Stmt) (t:TS):Prop:=
 ∀(pins:List (Addr×Obj)) (s:Shared) (σ:St) (H:Hp) (D:Ends),Inv X pins σ H s->t D σ H->wpAny (model X.prog X.w) X.A (exec st X.env) (SP X pins D) X.xe s
noncomputable def PSs (X:Cx) (st:List Stmt) (t:TS):Prop:=
 ∀(pins:List (Addr×Obj)) (s:Shared) (σ:St) (H:Hp) (D:Ends),Inv X pins σ H s->t D σ H->wpAny (model X.prog X.w) X.A (execs st X.env) (SP X pins D) X.xe s
theorem thn {α:Type} {t:Sem α} {Q Q':α->Shared->Prop} {M:Model} {A:Around} {E:Value->Shared->Prop} {s:Shared} (h:wpAny M A t Q E s) (hQ:∀ a s,Q a s->Q' a s):wpAny M A t Q' E s:=xB h hQ fun _ _ x=>x
section
variable {X:Cx}
theorem bin {a b:Expr} {ta tb:TE} (ha:PE X a ta) (hb:PE X b tb) {pins:List (Addr×Obj)} {s:Shared} {σ:St} {H:Hp} {R:V->V->Hp->Prop} (I:Inv X pins σ H s) (h:ta σ H fun x H1=>tb σ H1 fun y H2=>R x y H2)
  {α:Type} {Q:α->Shared->Prop} {f:Value->Value->Sem α}
  (hf:∀ v u s2 x y H2,Inv X pins σ H2 s2->RelV x v->RelV y u->R x y H2->wpAny (model X.prog X.w) X.A (f v u) Q X.xe s2) :
  wpAny (model X.prog X.w) X.A (eval a X.env) (fun v s₁=>wpAny (model X.prog X.w) X.A (eval b X.env) (fun u s₂=>wpAny (model X.prog X.w) X.A (f v u) Q X.xe s₂) X.xe s₁) X.xe s:=by
 refine thn (ha pins s σ H _ I h) fun v s1 ⟨x,H1,I1,r1,q1⟩=>?_
 refine thn (hb pins s1 σ H1 _ I1 q1) fun u s2 ⟨y,H2,I2,r2,q2⟩=>?_
 exact hf v u s2 x y H2 I2 r1 r2 q2
noncomputable def qGD (i:Nat):TE:=fun σ H Q=>∃ v,σ[i]? = some (some v)/\Q v H
noncomputable def tC (v:V):TE:=fun _ H Q=>Q v H
theorem qKo {i:Nat} {x:Str} {pos:Pos} (hN:X.N[i]? = some x) (hv:Vis X.env.scope x) (hd:(x == ("__debug__" : Str))=false:=by decide) (hcd:(x == ("__classdict__" : Str))=false:=by decide):PE X (.Name x pos) (qGD i):=by
 intro pins s σ H Q I h
 obtain ⟨v,e,h⟩:=h
 obtain ⟨m,hn,hl⟩:=I.loc
 obtain ⟨u,r,l⟩:=hl i x v hN e hv
 have fin:EP X pins σ Q u s:=⟨v,H,I,r,h⟩
 rcases l with ⟨hk,hm⟩ | ⟨hk,c,hc,hcell⟩
 ·exact wpAny_Name (wpAny_loadName_local I.ok.kind hk hn hm fin) hd
 ·rcases hk with hk | hk
  ·exact wpAny_Name (wpAny_loadName_cell I.ok.kind hk hc hcell fin) hd
  ·exact wpAny_Name (wpAny_loadName_free I.ok.kind hk hc hcell fin hcd) hd
theorem qF {i j pos}:PE X (.Constant (.int i) j pos) (tC (.int i)):=fun _ _ _ H _ I h=>wpAny_Constant_int ⟨.int i,H,I.tok _,⟨_,rfl⟩,h⟩
theorem YF {b j pos}:PE X (.Constant (.bool b) j pos) (tC (.bl b)):=fun _ _ _ H _ I h=>Constant_bool ⟨.bl b,H,I,rfl,h⟩
theorem qCn {x j pos}:PE X (.Constant (.str x) j pos) (tC (.str x)):=fun _ _ _ H _ I h=>WX ⟨.str x,H,I.tok _,⟨_,rfl⟩,h⟩
noncomputable def Gl (X:Cx) (x:Str):Prop:=X.env.kindOf x=some .globalImplicit
theorem YQ {E:Value->Shared->Prop} {pins:List (Addr×Obj)} {s:Shared} {σ:St} {H:Hp} {x:Str} {u:Value} {pos:Pos} {Q:Value->Shared->Prop} (I:Inv X pins σ H s) (hg:Gl X x) (hm:X.mg x=some u) (h:Q u s)
  (hd:(x == ("__debug__" : Str))=false:=by decide):wpAny (model X.prog X.w) X.A (eval (.Name x pos) X.env) Q E s:=
 UT I.ok.kind hg (Calls.loadGlobal_global (by rw [I.ok.glob]; exact I.mod.glob.keeps I.bk) hm h) hd
theorem Ql {E:Value->Shared->Prop} {pins:List (Addr×Obj)} {s:Shared} {σ:St} {H:Hp} {x:Str} {u:Value} {pos:Pos} {Q:Value->Shared->Prop} (I:Inv X pins σ H s) (hg:Gl X x) (hm:X.mg x=none) (hv:bootBuiltins x=some u) (h:Q u s)
  (hn:x≠"__name__":=by decide) (hd:(x == ("__debug__" : Str))=false:=by decide):wpAny (model X.prog X.w) X.A (eval (.Name x pos) X.env) Q E s:=by
 obtain ⟨mb,h1,h2⟩:=I.mod.blt
 exact UT I.ok.kind hg (Calls.loadGlobal_builtin (by rw [I.ok.glob]; exact I.mod.glob.keeps I.bk) hm (by rw [I.ok.blt]; exact h1.keeps I.bk) ((h2 x hn).trans hv) h) hd
theorem qJ9 {x:Str} {v:V} {u:Value} {pos:Pos} (hg:Gl X x) (hm:X.mg x=some u) (r:RelV v u) (hd:(x == ("__debug__" : Str))=false:=by decide):PE X (.Name x pos) (tC v):=
 fun _ _ _ H _ I h=>YQ I hg hm ⟨v,H,I,r,h⟩ hd
theorem J9 {x:Str} {v:V} {u:Value} {pos:Pos} (hg:Gl X x) (hm:X.mg x=none) (hv:bootBuiltins x=some u) (r:RelV v u) (hn:x≠"__name__":=by decide) (hd:(x == ("__debug__" : Str))=false:=by decide):PE X (.Name x pos) (tC v):=
 fun _ _ _ H _ I h=>Ql I hg hm hv ⟨v,H,I,r,h⟩ hn hd
variable {a b:Expr} {ta tb:TE} {pos:Pos}
noncomputable def PC (X:Cx) (op:CmpOp) (a b:Expr) (t:TE):Prop:=
 ∀(pins:List (Addr×Obj)) (s:Shared) (σ:St) (H:Hp) (Q:VK),Inv X pins σ H s->t σ H Q->
  wpAny (model X.prog X.w) X.A (eval a X.env) (fun v s₁=>wpAny (model X.prog X.w) X.A (eval b X.env) (fun u s₂=>wpAny (model X.prog X.w) X.A (compareOp op v u) (EP X pins σ Q) X.xe s₂) X.xe s₁) X.xe s
noncomputable def tB (t:TE):TT:=fun σ H Q=>t σ H fun x H1=>∃ c,x=.bl c/\Q c H1
theorem qKO {op:CmpOp} {t:TE} (h:PC X op a b t) (h1:behindInMarks op b=false:=by first | exact nobehind _ (by decide) (by decide) | rfl):PT X (.Compare a [op] [b] pos) (tB t):=by
 intro pins s σ H Q I hw
 refine wpAny_isTrue_Compare1 (thn (h pins s σ H _ I hw) fun v s1 h1=>thn h1 fun u s2 h2=>thn h2 fun c s3 ⟨x,H1,I1,r1,q1⟩=>?_) h1
 obtain ⟨d,rfl,q⟩:=q1
 cases r1
 exact gU ⟨H1,I1,q⟩
variable {tA tB':TT} {rest:List Expr}
noncomputable def qME (t u:TT):TT:=fun σ H Q=>t σ H fun c H1=>if c=true then u σ H1 Q else Q false H1
noncomputable def tOr (t u:TT):TT:=fun σ H Q=>t σ H fun c H1=>if c=true then Q true H1 else u σ H1 Q
noncomputable def qNa (t:TT):TT:=fun σ H Q=>t σ H fun c H1=>Q (!c) H1
theorem JF (ha:PT X a tA):PW X (.BoolOp .And [a] pos) tA:=by
 intro wh pins s σ H Q I h
 refine isTrue_and (thn (ha pins s σ H Q I h) fun c s1 e=>?_)
 cases c with
 | true=>exact isTrue_and_nil e
 | false=>exact e
theorem qIG (ha:PT X a tA):PW X (.BoolOp .Or [a] pos) tA:=by
 intro wh pins s σ H Q I h
 refine isTrue_or (thn (ha pins s σ H Q I h) fun c s1 e=>?_)
 cases c with
 | false=>exact isTrue_or_nil e
 | true=>exact e
theorem JO (ha:PT X a tA) (hb:PW X (.BoolOp .And (b::rest) pos) tB'):PW X (.BoolOp .And (a::b::rest) pos) (qME tA tB'):=by
 intro wh pins s σ H Q I h
 refine isTrue_and (thn (ha pins s σ H _ I h) fun c s1 ⟨H1,I1,q1⟩=>?_)
 cases c with
 | true=>exact hb wh pins s1 σ H1 Q I1 q1
 | false=>exact ⟨H1,I1,q1⟩
theorem qHW (ha:PT X a tA) (hb:PW X (.BoolOp .Or (b::rest) pos) tB'):PW X (.BoolOp .Or (a::b::rest) pos) (tOr tA tB'):=by
 intro wh pins s σ H Q I h
 refine isTrue_or (thn (ha pins s σ H _ I h) fun c s1 ⟨H1,I1,q1⟩=>?_)
 cases c with
 | true=>exact ⟨H1,I1,q1⟩
 | false=>exact hb wh pins s1 σ H1 Q I1 q1
theorem Ye (ha:PT X a tA):PT X (.UnaryOp .Not a pos) (qNa tA):=by
 intro pins s σ H Q I h
 exact isTrue_not (ha pins s σ H (fun c H1=>Q (!c) H1) I h)
noncomputable def qIK (ta tb:TE):TE:=fun σ H Q=>ta σ H fun x H1=>∃ c,x=.bl c/\if c=true then tb σ H1 Q else Q (.bl false) H1
theorem qLs {op} {t:TE} (h:PE X a t):PE X (.BoolOp op [a] pos) t:=fun pins s σ H Q I hw=>BoolOp_one (h pins s σ H Q I hw)
theorem qLi (ha:PE X a ta) (hb:PE X (.BoolOp .And (b::rest) pos) tb):PE X (.BoolOp .And (a::b::rest) pos) (qIK ta tb):=by
 intro pins s σ H Q I h
 refine BoolOp_and (thn (ha pins s σ H _ I h) fun v s1 ⟨x,H1,I1,r1,q1⟩=>?_)
 obtain ⟨c,rfl,q1⟩:=q1
 cases r1
 refine gU ?_
 cases c with
 | true=>exact hb pins s1 σ H1 Q I1 q1
 | false=>exact ⟨.bl false,H1,I1,rfl,q1⟩
noncomputable def tIf (t:TT) (ta tb:TE):TE:=fun σ H Q=>t σ H fun c H1=>if c=true then ta σ H1 Q else tb σ H1 Q
theorem qCz {c:Expr} (hc:PT X c tA) (ha:PE X a ta) (hb:PE X b tb):PE X (.IfExp c a b pos) (tIf tA ta tb):=by
 intro pins s σ H Q I h
 refine wpAny_IfExp (thn (hc pins s σ H _ I h) fun d s1 ⟨H1,I1,q1⟩=>?_)
 cases d with
 | true=>exact ha pins s1 σ H1 Q I1 q1
 | false=>exact hb pins s1 σ H1 Q I1 q1
end
noncomputable def SqL (K:wD) (H:Hp) (a:Addr) (xs:List V):Prop:=
 Rd H a (.lst xs)\/
  ∃(o:Obj) (its:Array Value) (n:Nat),K.lookup a=some o/\o.cls=.type "list"/\o.dict=none/\o.data=.seq its n/\its.size<=sizeLine/\qh xs its.toList
noncomputable def SqT (K:wD) (H:Hp) (a:Addr) (xs:List V):Prop:=
 Rd H a (.tup xs)\/
  ∃(o:Obj) (its:Array Value) (n:Nat),K.lookup a=some o/\o.cls=.type "tuple"/\o.data=.seq its n/\its.size<=sizeLine/\qh xs its.toList
noncomputable def qNt:Value->Option V
 | .none=>some .non
 | .bool b=>some (.bl b)
 | .int i _=>some (.int i)
 | .str x _=>some (.str x)
 | .bytes b _=>some (.byt b)
 | .float b _=>some (.flt b)
 | .ref a=>some (.ref a)
 | .type n=>some (.ty n)
 | _=>none
theorem RelV.abs {x:V} {u:Value} (r:RelV x u):qNt u=some x:=by
 cases x with
 | non=>cases r; rfl
 | bl _=>cases r; rfl
 | int _=>obtain ⟨t,rfl⟩:=r; rfl
 | str _=>obtain ⟨t,rfl⟩:=r; rfl
 | byt _=>obtain ⟨t,rfl⟩:=r; rfl
 | flt _=>obtain ⟨t,rfl⟩:=r; rfl
 | ref _=>cases r; rfl
 | ty _=>cases r; rfl
theorem RelV.inj {x y:V} {u:Value} (r:RelV x u) (q:RelV y u):x=y:=zH (r.abs.symm.trans q.abs)
theorem qh.inj:∀{xs ys:List V} {us:List Value},qh xs us->qh ys us->xs=ys
 | _,_,_,.nil,.nil=>rfl
 | _,_,_,.cons r t,.cons r' t'=>by rw [r.inj r',qh.inj t t']
section
variable {X:Cx} {pins:List (Addr×Obj)} {σ:St} {H:Hp} {s:Shared} {a:Addr} {xs ys:List V}
theorem SqL.of {K:wD} (h:H a=some (.lst xs)):SqL K H a xs:=.inl (.inl h)
theorem SqT.of {K:wD} (h:H a=some (.tup xs)):SqT K H a xs:=.inl (.inl h)
theorem Inv.list (I:Inv X pins σ H s) (h:SqL X.K H a xs):∃ its:List Value,qh xs its/\PlainL s.heap a its.toArray/\xs.length<=sizeLine:=by
 rcases h with h | ⟨o,its,n,hk,hc,hd,hs,hz,r⟩
 ·obtain ⟨z,its,n,r,e⟩:=h.ok I.hok
  exact ⟨its,r,⟨_,n,e,rfl,rfl,rfl⟩,z⟩
 ·refine ⟨its.toList,r,⟨o,n,I.kIn a o hk,hc,hd,by simpa using hs⟩,?_⟩
  have e:=r.length
  simp only [wN] at e
  omega
theorem Inv.tuple (I:Inv X pins σ H s) (h:SqT X.K H a xs):∃ its:List Value,qh xs its/\IsTup s.heap a its.toArray/\xs.length<=sizeLine:=by
 rcases h with h | ⟨o,its,n,hk,hc,hs,hz,r⟩
 ·obtain ⟨z,its,r,p⟩:=h.ok I.hok
  exact ⟨its,r,p.1,z⟩
 ·refine ⟨its.toList,r,⟨o,I.kIn a o hk,hc,n,by simpa using hs⟩,?_⟩
  have e:=r.length
  simp only [wN] at e
  omega
theorem Inv.list_inj (I:Inv X pins σ H s) (h:SqL X.K H a xs) (h':SqL X.K H a ys):xs=ys:=by
 obtain ⟨its,r,⟨o,n,e,_,_,d⟩,_⟩:=I.list h
 obtain ⟨its',r',⟨o',n',e',_,_,d'⟩,_⟩:=I.list h'
 rw [e] at e'; cases e'
 rw [d] at d'
 injection d' with d1 _
 have:its=its':=by simpa using congrArg Array.toList d1
 subst this
 exact r.inj r'
theorem Inv.tuple_inj (I:Inv X pins σ H s) (h:SqT X.K H a xs) (h':SqT X.K H a ys):xs=ys:=by
 obtain ⟨its,r,⟨o,e,_,n,d⟩,_⟩:=I.tuple h
 obtain ⟨its',r',⟨o',e',_,n',d'⟩,_⟩:=I.tuple h'
 rw [e] at e'; cases e'
 rw [d] at d'
 injection d' with d1 _
 have:its=its':=by simpa using congrArg Array.toList d1
 subst this
 exact r.inj r'
end
noncomputable abbrev Cx.wish (X:Cx) (E:Value->Shared->Prop):Cx:={ X with xe:=E }
noncomputable abbrev Cx.nox (X:Cx):Cx:=X.wish fun _ _=>False
theorem Cx.Ok.wish {X:Cx} (ok:X.Ok) (E:Value->Shared->Prop):(X.wish E).Ok:=
 ⟨ok.mod,ok.kind,ok.glob,ok.blt,ok.above,ok.inj,ok.has,ok.cab,ok.hd,ok.frames,ok.stk,ok.exf,ok.bs,ok.bsz,ok.noex,ok.exfs,ok.funs,ok.frf⟩
theorem Cx.Ok.unwish {X:Cx} {E:Value->Shared->Prop} (ok:(X.wish E).Ok):X.Ok:=
 ⟨ok.mod,ok.kind,ok.glob,ok.blt,ok.above,ok.inj,ok.has,ok.cab,ok.hd,ok.frames,ok.stk,ok.exf,ok.bs,ok.bsz,ok.noex,ok.exfs,ok.funs,ok.frf⟩
section
variable {X:Cx} {pins:List (Addr×Obj)} {σ:St} {H:Hp} {s:Shared} {E:Value->Shared->Prop}
theorem Inv.wish (I:Inv X pins σ H s) (E:Value->Shared->Prop):Inv (X.wish E) pins σ H s:=⟨I.ok.wish E,I.os,I.bare,I.base,I.loc,I.cell,I.free,I.freeC,I.pin,I.hok,I.len⟩
theorem Inv.unwish (I:Inv (X.wish E) pins σ H s):Inv X pins σ H s:=⟨I.ok.unwish,I.os,I.bare,I.base,I.loc,I.cell,I.free,I.freeC,I.pin,I.hok,I.len⟩
theorem SP.unwish {D:Ends} {f:Flow} {s':Shared} (h:SP (X.wish E) pins D f s'):SP X pins D f s':=by
 cases f with
 | next=>obtain ⟨σ',H',I,q⟩:=h; exact ⟨σ',H',I.unwish,q⟩
 | brk=>obtain ⟨σ',H',I,q⟩:=h; exact ⟨σ',H',I.unwish,q⟩
 | cont=>obtain ⟨σ',H',I,q⟩:=h; exact ⟨σ',H',I.unwish,q⟩
 | ret u=>obtain ⟨v,σ',H',I,r,q⟩:=h; exact ⟨v,σ',H',I.unwish,r,q⟩
theorem PSs.nox {st:List Stmt} {t:TS} (h:PSs X.nox st t):PSs X st t:=fun pins s σ H D I hw=>
 xB (h pins s σ H D (I.wish _) hw) (fun _ _ q=>q.unwish) fun _ _ z=>kH z
end
section
variable {X:Cx} {st:Stmt} {rest:List Stmt} {t u:TS} {e:Expr} {te:TE} {pos:Pos}
noncomputable def qLn:TS:=fun D σ H=>D.nx σ H
noncomputable def Qg (t u:TS):TS:=fun D σ H=>t { D with nx:=u D } σ H
theorem jA:PSs X [] qLn:=fun _ _ σ H _ I h=>WB ⟨σ,H,I,h⟩
theorem qC (h1:PS X st t) (h2:PSs X rest u):PSs X (st::rest) (Qg t u):=by
 intro pins s σ H D I h
 refine wpAny_execs_cons (thn (h1 pins s σ H { D with nx:=u D } I h) fun f s1 q=>?_)
 cases f with
 | next=>
  obtain ⟨σ',H',I',q⟩:=q
  exact h2 pins s1 σ' H' D I' q
 | ret v=>exact q
 | brk=>exact q
 | cont=>exact q
theorem qG (h1:PS X st t):PSs X [st] t:=by
 intro pins s σ H D I h
 refine wpAny_execs_cons (thn (h1 pins s σ H D I h) fun f s1 q=>?_)
 cases f with
 | next=>exact WB q
 | ret v=>exact q
 | brk=>exact q
 | cont=>exact q
theorem Inv.quiet {pins:List (Addr×Obj)} {σ:St} {H:Hp} {s:Shared} (I:Inv X pins σ H s):interactive X.env=false:=by simp [interactive,I.ok.kind]
noncomputable def qK1 (te:TE):TS:=fun D σ H=>te σ H fun _ H1=>D.nx σ H1
theorem Jw (he:PE X e te) (hs:swapsWith e none pos.line X.env=pure false:=by rfl):PS X (.Expr e pos) (qK1 te):=by
 intro pins s σ H D I h
 exact wpAny_Expr_any (thn (he pins s σ H _ I h) fun v s1 ⟨x,H1,I1,r1,q1⟩=>⟨σ,H1,I1,q1⟩) I.quiet hs
noncomputable def qL8 (te:TE):TS:=fun D σ H=>te σ H D.rt
theorem qu (he:PE X e te):PS X (.Return (some e) pos) (qL8 te):=by
 intro pins s σ H D I h
 exact wpAny_Return_some (thn (he pins s σ H _ I h) fun v s1 ⟨x,H1,I1,r1,q1⟩=>⟨x,σ,H1,I1,r1,q1⟩)
noncomputable def qMK (c:TT) (t u:TS):TS:=fun D σ H=>c σ H fun b H1=>if b=true then t D σ H1 else u D σ H1
theorem QX {c:Expr} {a b:List Stmt} {tc:TT} (hc:PT X c tc) (ha:PSs X a t) (hb:PSs X b u):PS X (.If c a b pos) (qMK tc t u):=by
 intro pins s σ H D I h
 refine wpAny_If (thn (hc pins s σ H _ I h) fun d s1 ⟨H1,I1,q1⟩=>?_)
 cases d with
 | true=>exact ha pins s1 σ H1 D I1 q1
 | false=>exact hb pins s1 σ H1 D I1 q1
noncomputable def qIE:TS:=fun _ _ _=>False
theorem qGm:PS X st qIE:=fun _ _ _ _ _ _ h=>h.elim
theorem qEY {sts:List Stmt}:PSs X sts qIE:=fun _ _ _ _ _ _ h=>h.elim
end
noncomputable abbrev TG:=V->St->Hp->(St->Hp->Prop)->Prop
noncomputable abbrev TGs:=List V->St->Hp->(St->Hp->Prop)->Prop
noncomputable def PG (X:Cx) (target:Expr) (t:TG):Prop:=
 ∀(pins:List (Addr×Obj)) (s:Shared) (σ:St) (H:Hp) (v:V) (u:Value) (Q:St->Hp->Prop),Inv X pins σ H s->RelV v u->t v σ H Q->
  wpAny (model X.prog X.w) X.A (assign target X.env u) (fun _ s'=>∃ σ' H',Inv X pins σ' H' s'/\Q σ' H') X.xe s
noncomputable def PGs (X:Cx) (ts:List Expr) (t:TGs):Prop:=
 ∀(pins:List (Addr×Obj)) (s:Shared) (σ:St) (H:Hp) (vs:List V) (us:List Value) (Q:St->Hp->Prop),Inv X pins σ H s->qh vs us->t vs σ H Q->
  wpAny (model X.prog X.w) X.A (assignInOrder ((assignEach ts X.env).map (·.2)) us) (fun _ s'=>∃ σ' H',Inv X pins σ' H' s'/\Q σ' H') X.xe s
noncomputable abbrev qMZ:=V->V->V->Hp->(Hp->Prop)->Prop
noncomputable def qNO (X:Cx) (t:qMZ):Prop:=
 ∀(pins:List (Addr×Obj)) (s:Shared) (σ:St) (H:Hp) (o i v:V) (ov iv u:Value) (Q:Hp->Prop),Inv X pins σ H s->RelV o ov->RelV i iv->RelV v u->t o i v H Q->
  wpAny (model X.prog X.w) X.A (setItem ov iv u) (fun _ s'=>∃ H',Inv X pins σ H' s'/\Q H') X.xe s
noncomputable abbrev TIp:=V->V->Hp->VK->Prop
noncomputable def PIp (X:Cx) (op:Operator) (t:TIp):Prop:=
 ∀(pins:List (Addr×Obj)) (s:Shared) (σ:St) (H:Hp) (x y:V) (v u:Value) (Q:VK),Inv X pins σ H s->RelV x v->RelV y u->t x y H Q->
  wpAny (model X.prog X.w) X.A (inplaceOp op v u) (EP X pins σ Q) X.xe s
section
variable {X:Cx} {pos:Pos}
noncomputable def qCM (i:Nat):TG:=fun v σ H Q=>Q (σ.set i (some v)) H
theorem qEF {i:Nat} {x:Str} (hN:X.N.Nodup) (hi:X.N[i]? = some x) (hx:Loc X.env.scope x) (hf:X.fn x=true\/X.env.scope.names.lookup x=some .local:=by first | exact .inl rfl | exact .inr rfl | assumption):PG X (.Name x pos) (qCM i):=by
 intro pins s σ H v u Q I r h
 exact wpAny_assign_Name (Ji I hN hi hx r (fun s' I'=>⟨_,H,I',h⟩) hf)
noncomputable def qNS:TGs:=fun vs σ H Q=>vs=[]/\Q σ H
noncomputable def qKj (t:TG) (u:TGs):TGs:=fun vs σ H Q=>∃ v r,vs=v::r/\t v σ H fun σ' H'=>u r σ' H' Q
theorem ju:PGs X [] qNS:=by
 intro pins s σ H vs us Q I r h
 obtain ⟨e,h⟩:=h
 subst e
 cases r
 exact assignInOrder_nil ⟨σ,H,I,h⟩
theorem qc {e:Expr} {es:List Expr} {t:TG} {u:TGs} (h1:PG X e t) (h2:PGs X es u)
  (hs:(assignEach (e::es) X.env).map (·.2)=assign e X.env::(assignEach es X.env).map (·.2):=by rfl):PGs X (e::es) (qKj t u):=by
 intro pins s σ H vs us Q I r h
 obtain ⟨v,vr,e1,h⟩:=h
 subst e1
 cases r with
 | cons r rr=>
  rw [hs]
  refine assignInOrder_cons (thn (h1 pins s σ H _ _ _ I r h) fun _ s1 ⟨σ1,H1,I1,q1⟩=>?_)
  exact h2 pins s1 σ1 H1 _ _ Q I1 rr q1
noncomputable def qMN (K:wD) (n:Nat) (t:TGs):TG:=fun v σ H Q=>∃ a xs,v=.ref a/\SqT K H a xs/\xs.length=n/\t xs σ H Q
theorem qKT {es:List Expr} {k:Nat} {t:TGs} {n:Nat} (hc:X.calm=true) (h:PGs X es t)
  (hn:(assignEach es X.env).length=n:=by rfl) (hst:(assignEach es X.env).findIdx? (·.1)=none:=by rfl):PG X (.Tuple es k pos) (qMN X.K n t):=by
 intro pins s σ H v u Q I r hw
 obtain ⟨a,xs,e1,hq,hl,hw⟩:=hw
 subst e1
 cases r
 obtain ⟨its,rv,ht,hz⟩:=I.tuple hq
 refine assign_Tuple_tuple (I.ok.hd hc) ht (by simp [hn,<- hl,rv.length]) hst fun h' hx=>?_
 have I1:Inv X pins σ H { s with heap:=h' }:=I.kept (t':=s.toks) fun b o e=>hx b o (zZ (wZ e)) e
 exact h pins _ σ H xs _ Q I1 (by simpa using rv) hw
noncomputable def qMX (to ti:TE) (t:qMZ):TG:=fun v σ H Q=>to σ H fun o H1=>ti σ H1 fun i H2=>t o i v H2 fun H3=>Q σ H3
theorem qAx {o i:Expr} {to ti:TE} {t:qMZ} (ho:PE X o to) (hi:PE X i ti) (hs:qNO X t)
  (ha:∀ v,assign (.Subscript o i pos) X.env v=(do
   let ov <- holding [v] (eval o X.env)
   let iv <- holding [v,ov] (eval i X.env)
   standAt pos
   holding [v,ov,iv] (setItem ov iv v)
   release [v,ov,iv] []):=by intro _; rfl):PG X (.Subscript o i pos) (qMX to ti t):=by
 intro pins s σ H v u Q I r h
 rw [ha]
 refine wC (vR (thn (ho pins s σ H _ I h) fun ov s1 ⟨x,H1,I1,r1,q1⟩=>?_))
 refine wC (vR (thn (hi pins s1 σ H1 _ I1 q1) fun iv s2 ⟨y,H2,I2,r2,q2⟩=>?_))
 refine wC (gI (wC (vR (thn (hs pins s2 σ H2 x y v ov iv u _ I2 r1 r2 r q2) fun _ s3 ⟨H3,I3,q3⟩=>?_))))
 exact wpAny_release ⟨σ,H3,I3,q3⟩
noncomputable def qJl (te:TE) (g:TG):TS:=fun D σ H=>te σ H fun x H1=>g x σ H1 D.nx
theorem Yy {tg e:Expr} {te:TE} {g:TG} (he:PE X e te) (hg:PG X tg g) (hs:swapsWithSole [tg] e pos.line X.env=pure false:=by rfl) (hw:swappedStores [tg] e X.env=pure none:=by rfl)
  (h1:(assignEach [tg] X.env).map (·.2)=[assign tg X.env]:=by rfl):PS X (.Assign [tg] e pos) (qJl te g):=by
 intro pins s σ H D I h
 refine wpAny_Assign_stores (thn (he pins s σ H _ I h) fun v s1 ⟨x,H1,I1,r1,q1⟩=>?_) hs hw
 rw [h1]
 exact thn (hg pins s1 σ H1 x v _ I1 r1 q1) fun _ s2 q=>q
theorem qHm {i:Nat} {x:Str} {e:Expr} {te:TE} {pos':Pos} (hN:X.N.Nodup) (hi:X.N[i]? = some x) (hx:Loc X.env.scope x) (he:PE X e te) (hs:swapsWith e (some (.Name x pos')) pos.line X.env=pure false:=by rfl) (hf:X.fn x=true\/X.env.scope.names.lookup x=some .local:=by first | exact .inl rfl | exact .inr rfl | assumption) :
  PS X (.Assign [.Name x pos'] e pos) (qJl te (qCM i)):=by
 intro pins s σ H D I h
 refine wpAny_Assign_Name (thn (he pins s σ H _ I h) fun v s1 ⟨y,H1,I1,r1,q1⟩=>?_) hs
 exact Ji I1 hN hi hx r1 (fun s2 I2=>⟨_,H1,I2,q1⟩) hf
noncomputable def qNW (i:Nat) (te:TE) (ti:TIp):TS:=fun D σ H=>∃ x,σ[i]? = some (some x)/\te σ H fun y H1=>ti x y H1 fun z H2=>D.nx (σ.set i (some z)) H2
theorem qKt {i:Nat} {x:Str} {e:Expr} {te:TE} {op:Operator} {ti:TIp} {pos':Pos} (hN:X.N.Nodup) (hi:X.N[i]? = some x) (hx:Loc X.env.scope x) (he:PE X e te) (ho:PIp X op ti) (hf:X.fn x=true\/X.env.scope.names.lookup x=some .local:=by first | exact .inl rfl | exact .inr rfl | assumption) :
  PS X (.AugAssign (.Name x pos') op e pos) (qNW i te ti):=by
 intro pins s σ H D I h
 obtain ⟨v,e1,h⟩:=h
 obtain ⟨m,hn,hl⟩:=I.loc
 have vis:Vis X.env.scope x:=by rcases hx with k | k; exact .inl k; exact .inr (.inl k)
 obtain ⟨u,r,l⟩:=hl i x v hi e1 vis
 refine wpAny_AugAssign_Name ?_
 have go:wpAny (model X.prog X.w) X.A (eval e X.env) (fun w s₂=>wpAny (model X.prog X.w) X.A (inplaceOp op u w) (fun r s₃=>wpAny (model X.prog X.w) X.A (storeName X.env x r) (fun _=>SP X pins D .next) X.xe s₃) X.xe s₂) X.xe s:=by
  refine thn (he pins s σ H _ I h) fun w s1 ⟨y,H1,I1,r1,q1⟩=>?_
  refine thn (ho pins s1 σ H1 v y u w _ I1 r r1 q1) fun z s2 ⟨zv,H2,I2,r2,q2⟩=>?_
  exact Ji I2 hN hi hx r2 (fun s3 I3=>⟨_,H2,I3,q2⟩) hf
 rcases l with ⟨hk,hm⟩ | ⟨hk,c,hc,hcell⟩
 ·exact wpAny_loadName_local I.ok.kind hk hn hm go
 ·rcases hk with hk | hk
  ·exact wpAny_loadName_cell I.ok.kind hk hc hcell go
  ·rcases hx with k | k
   ·have:X.env.scope.names.lookup x=some .free:=hk
    rw [k] at this; cases this
   ·have:X.env.scope.names.lookup x=some .free:=hk
    rw [k] at this; cases this
end
section
variable {X:Cx} {pos:Pos}
noncomputable def qCo (c:TT) (tb:TS):TS:=fun D σ H=>∃ W:Nat->St->Hp->Prop,(∃ m,W m σ H)/\∀ m σ H,W m σ H->
 c σ H fun b H1=>if b=true then ∃ N:St->Hp->Prop,(∀ σ' H',N σ' H'->∃ m',m'<m/\W m' σ' H')/\tb { D with nx:=N,ct:=N,bk:=D.nx } σ H1 else D.nx σ H1
theorem Jb {c:Expr} {body:List Stmt} {tc:TT} {tb:TS} (hp:PassesOwn (model X.prog X.w) X.A X.env X.xe) (hc:PT X c tc) (hb:PSs X body tb):PS X (.While c body [] pos) (qCo tc tb):=by
 intro pins s σ H D I h
 obtain ⟨W,⟨m0,w0⟩,turn⟩:=h
 refine wpAny_While (codeAny_whileLoop (fun n s'=>∃ σ' H',Inv X pins σ' H' s'/\W n σ' H') ?_ m0 ⟨σ,H,I,w0⟩)
 rintro n s1 ⟨σ1,H1,I1,w1⟩
 refine kO hp (thn (hc pins s1 σ1 H1 _ I1 (turn n σ1 H1 w1)) fun b s2 ⟨H2,I2,q2⟩=>?_)
 cases b with
 | true=>
  obtain ⟨N,hN,q2⟩:=q2
  rw [if_pos rfl]
  refine kO hp (thn (hb pins s2 σ1 H2 _ I2 q2) fun f s3 q3=>?_)
  cases f with
  | next=>
   obtain ⟨σ3,H3,I3,n3⟩:=q3
   obtain ⟨m',hm,w3⟩:=hN σ3 H3 n3
   exact ⟨m',hm,σ3,H3,I3,w3⟩
  | cont=>
   obtain ⟨σ3,H3,I3,n3⟩:=q3
   obtain ⟨m',hm,w3⟩:=hN σ3 H3 n3
   exact ⟨m',hm,σ3,H3,I3,w3⟩
  | brk=>exact q3
  | ret v=>exact q3
 | false=>
  rw [if_neg wR]
  exact WB ⟨σ1,H2,I2,q2⟩
end
structure It where
 go:Nat->Hp->Prop
 yld:Nat->Hp->V->Hp->Prop
 stop:Nat->Hp->Prop
noncomputable def qBv (X:Cx) (pins:List (Addr×Obj)) (H:Hp) (b:Addr):Prop:=
 H b=none/\b≠X.env.locals/\b∉X.fs/\(b∈X.ex\/X.s₀.heap.objs.size<=b)/\(∀ x c,X.env.cells.lookup x=some c->c≠b)/\∀ p∈X.pn++pins,p.1≠b
theorem Inv.fpOk {X:Cx} {pins:List (Addr×Obj)} {σ:St} {H H':Hp} {s:Shared} {b:Addr} (I:Inv X pins σ H s) (hb:s.heap.objs.size<=b) (hn:H' b=none):qBv X pins H' b:=by
 refine ⟨hn,gV (zS I.lt hb),I.nofs hb,.inr (zK I.sz hb),fun x c e z=>?_,fun p hp z=>?_⟩
 ·obtain ⟨v,q⟩:=I.cell x c e
  exact absurd (zS q.lt (by rw [z]; exact hb)) (vX _)
 ·exact absurd (zS (wZ (I.pin p hp).1) (by rw [z]; exact hb)) (vX _)
structure Turn (P:Program) (w:World) (K:wD) (tg:Expr) (J:It) (fp:List Addr) (it:Addr) (tn:Nat->Heap->Prop):Prop where
 mem:it∈fp
 obj:∀ i h,tn i h->∀ b∈fp,∃ o,h.get? b=some o/\∀ v,o.data≠.cell v
 keep:∀ i h h',tn i h->(∀ b∈fp,∀ o,h.get? b=some o->h'.get? b=some o)->tn i h'
 item:∀(X:Cx),X.prog=P->X.w=w->X.K=K->X.calm=true->∀(i:Nat) (pins:List (Addr×Obj)) (s:Shared) (σ:St) (H:Hp) (E:Value->Shared->Prop),Inv X pins σ H s->(∀ b∈fp,qBv X pins H b)->tn i s.heap->J.go i H->
  wpAny (model P w) X.A (pyNext (.ref it)) (fun r s1=>∃ u,r=some u/\
   wpAny (model P w) X.A (letOwnedTupleGo tg (.ref it) u) (fun _ s2=>∃ x H',Inv X pins σ H' s2/\RelV x u/\J.yld i H x H'/\tn (i+1) s2.heap/\∀ b∈fp,H' b=none) E s1) E s
 done:∀(X:Cx),X.prog=P->X.w=w->X.K=K->X.calm=true->∀(i:Nat) (pins:List (Addr×Obj)) (s:Shared) (σ:St) (H:Hp) (E:Value->Shared->Prop),Inv X pins σ H s->(∀ b∈fp,qBv X pins H b)->tn i s.heap->J.stop i H->
  wpAny (model P w) X.A (pyNext (.ref it)) (fun r s1=>r=none/\Inv X pins σ H s1) E s
 self:∀(A:Around) (i:Nat) (s:Shared) (Q:Value->Shared->Prop) (E:Value->Shared->Prop),tn i s.heap->Q (.ref it) s->wpAny (model P w) A (pyIter (.ref it)) Q E s
noncomputable abbrev TI:=St->Hp->(It->Hp->Prop)->Prop
noncomputable def PIE (X:Cx) (pins:List (Addr×Obj)) (σ:St) (tg:Expr) (R:It->Hp->Prop) (itv:Value) (s2:Shared):Prop:=
 ∃(it:Addr) (fp:List Addr) (tn:Nat->Heap->Prop) (J:It) (H':Hp),itv=.ref it/\Inv X pins σ H' s2/\Turn X.prog X.w X.K tg J fp it tn/\tn 0 s2.heap/\(∀ b∈fp,qBv X pins H' b)/\R J H'
noncomputable def PI (X:Cx) (tg iter:Expr) (wi:TI):Prop:=
 ∀(pins:List (Addr×Obj)) (s:Shared) (σ:St) (H:Hp) (R:It->Hp->Prop),Inv X pins σ H s->wi σ H R->
  wpAny (model X.prog X.w) X.A (eval iter X.env) (fun v s1=>wpAny (model X.prog X.w) X.A (pyIter v) (PIE X pins σ tg R) X.xe s1) X.xe s
theorem qIg {M:Model} {A:Around} {E:Value->Shared->Prop} {s:Shared} {tg:Expr} {it:Addr} {u:Value} {o:Obj} {n:String} {vs:Array Value} {Q:Unit->Shared->Prop} (ho:s.heap.get? it=some o) (hc:o.cls=.type n) (hd:o.data=.fields vs)
  (hn : ["enumerate","zip","dict_itemiterator","dict_reverseitemiterator","odict_iterator","itertools.zip_longest","itertools.pairwise"].contains n=false) (hQ:Q () s):wpAny M A (letOwnedTupleGo tg (.ref it) u) Q E s:=by
 unfold letOwnedTupleGo
 cases tg <;> first
  | exact wK hQ
  | (cases u <;> first
    | exact wK hQ
    | (refine wC (wpAny_load ho ?_)
       rw [hc,hd]
       show wpAny M A (if (["enumerate","zip","dict_itemiterator","dict_reverseitemiterator","odict_iterator","itertools.zip_longest","itertools.pairwise"].contains n && vs[0]? == some (rawInt _))=true then _ else _) Q E s
       rw [if_neg (by intro h; rw [hn,Bool.false_and] at h; cases h)]
       exact wK hQ))
noncomputable def Itl (K:wD) (a:Addr):It:=
 ⟨fun i H=>∃ xs x,SqL K H a xs/\xs[i]? = some x,fun i H x H'=>H'=H/\∀ xs,SqL K H a xs->xs[i]? = some x,fun i H=>∃ xs,SqL K H a xs/\xs.length<=i⟩
noncomputable def Itt (K:wD) (a:Addr):It:=
 ⟨fun i H=>∃ xs x,SqT K H a xs/\xs[i]? = some x,fun i H x H'=>H'=H/\∀ xs,SqT K H a xs->xs[i]? = some x,fun i H=>∃ xs,SqT K H a xs/\xs.length<=i⟩
noncomputable def Itr (lo:Int) (n:Nat):It:=⟨fun i _=>i<n,fun i H x H'=>H'=H/\x=.int (lo+i),fun i _=>n<=i⟩
theorem qEO {P:Program} {w:World} {K:wD} {tg:Expr} (a it:Addr):Turn P w K tg (Itl K a) [it] it (fun i h=>h.IsListIter it a i) where
 mem:=by simp
 obj:=fun i h st b hb=>by
  have e:b=it:=by simpa using hb
  subst e
  obtain ⟨o,e,c,d⟩:=st
  exact ⟨o,e,fun v z=>by rw [d] at z; cases z⟩
 keep:=fun i h h' st k=>st.at fun o e=>k it (by simp) o e
 item:=by
  intro X hP hw hK hc i pins s σ H E I hf st hg
  subst hP hw hK
  obtain ⟨xs,x,hq,hx⟩:=hg
  obtain ⟨its,rv,p,hz⟩:=I.list hq
  obtain ⟨u,hu,ru⟩:=rv.get hx
  obtain ⟨f0,f1,f2,f3,f4,f5⟩:=hf it (by simp)
  refine wpAny_pyNext_list_item st p.isList (x:=u) (by simpa using hu) fun h' st' sb=>?_
  have I1:Inv X pins σ H { s with heap:=h' }:=I.turned (t':=s.toks) (fun b o hb e=>(sb.2 b hb).trans e) f0 f1 f3 f4 f5
  obtain ⟨o,e,c,d⟩:=id st'
  exact ⟨u,rfl,qIg (s:={ s with heap:=h' }) e c d (by decide) ⟨x,H,I1,ru,⟨rfl,fun ys hy=>by rw [I.list_inj hy hq]; exact hx⟩,st',fun b hb=>(hf b hb).1⟩⟩
 done:=by
  intro X hP hw hK hc i pins s σ H E I hf st hg
  subst hP hw hK
  obtain ⟨xs,hq,hx⟩:=hg
  obtain ⟨its,rv,p,hz⟩:=I.list hq
  obtain ⟨f0,f1,f2,f3,f4,f5⟩:=hf it (by simp)
  have hl:=rv.length
  exact wpAny_pyNext_list_end (I.ok.hd hc) st p.isList (by simp; omega) fun h' eb=>⟨rfl,I.turned (t':=s.toks) (fun b o hb e=>eb b o hb e) f0 f1 f3 f4 f5⟩
 self:=fun _ _ _ _ _ st h=>wpAny_pyIter_listiter st h
theorem qDb {P:Program} {w:World} {K:wD} {tg:Expr} (a it:Addr):Turn P w K tg (Itt K a) [it] it (fun i h=>h.IsTupleIter it a i) where
 mem:=by simp
 obj:=fun i h st b hb=>by
  have e:b=it:=by simpa using hb
  subst e
  obtain ⟨o,e,c,d⟩:=st
  exact ⟨o,e,fun v z=>by rw [d] at z; cases z⟩
 keep:=fun i h h' st k=>st.at fun o e=>k it (by simp) o e
 item:=by
  intro X hP hw hK hc i pins s σ H E I hf st hg
  subst hP hw hK
  obtain ⟨xs,x,hq,hx⟩:=hg
  obtain ⟨its,rv,p,hz⟩:=I.tuple hq
  obtain ⟨u,hu,ru⟩:=rv.get hx
  obtain ⟨f0,f1,f2,f3,f4,f5⟩:=hf it (by simp)
  refine wpAny_pyNext_tuple_item st (show s.heap.IsTuple a its.toArray from p) (x:=u) (by simpa using hu) fun h' st' sb=>?_
  have I1:Inv X pins σ H { s with heap:=h' }:=I.turned (t':=s.toks) (fun b o hb e=>(sb.2 b hb).trans e) f0 f1 f3 f4 f5
  obtain ⟨o,e,c,d⟩:=id st'
  exact ⟨u,rfl,qIg (s:={ s with heap:=h' }) e c d (by decide) ⟨x,H,I1,ru,⟨rfl,fun ys hy=>by rw [I.tuple_inj hy hq]; exact hx⟩,st',fun b hb=>(hf b hb).1⟩⟩
 done:=by
  intro X hP hw hK hc i pins s σ H E I hf st hg
  subst hP hw hK
  obtain ⟨xs,hq,hx⟩:=hg
  obtain ⟨its,rv,p,hz⟩:=I.tuple hq
  obtain ⟨f0,f1,f2,f3,f4,f5⟩:=hf it (by simp)
  have hl:=rv.length
  exact wpAny_pyNext_tuple_end (I.ok.hd hc) st (show s.heap.IsTuple a its.toArray from p) (by simp; omega) fun h' eb=>⟨rfl,I.turned (t':=s.toks) (fun b o hb e=>eb b o hb e) f0 f1 f3 f4 f5⟩
 self:=fun _ _ _ _ _ st h=>wpAny_pyIter_tupleiter st h
theorem qDz {P:Program} {w:World} {K:wD} {tg:Expr} (it:Addr) (lo:Int) (n:Nat):Turn P w K tg (Itr lo n) [it] it (fun i h=>IsRangeIter h it (lo+(i:Nat)*1) ((n:Int) - (i:Nat)) 1) where
 mem:=by simp
 obj:=fun i h st b hb=>by
  have e:b=it:=by simpa using hb
  subst e
  exact ⟨_,st,fun v z=>by
   have z':Data.fields _=Data.cell v:=z
   cases z'⟩
 keep:=fun i h h' st k=>k it (by simp) _ st
 item:=by
  intro X hP hw hK hc i pins s σ H E I hf st hg
  subst hP hw hK
  obtain ⟨f0,f1,f2,f3,f4,f5⟩:=hf it (by simp)
  have W:=Walks.range (prog:=X.prog) (w:=X.w) (I.ok.hd hc) it lo 1 n
  refine W.item i s _ _ hg st fun v h' tk hv st' kk=>?_
  obtain ⟨t,rfl⟩:=hv
  have I1:Inv X pins σ H { s with heap:=h',toks:=tk }:=I.turned (fun b o hb e=>kk b o (by simpa using hb) e) f0 f1 f3 f4 f5
  refine ⟨_,rfl,qIg (s:={ s with heap:=h',toks:=tk }) (n:="range_iterator") st' rfl rfl (by decide) ⟨.int (lo+i),H,I1,⟨t,?_⟩,⟨rfl,rfl⟩,st',fun b hb=>(hf b hb).1⟩⟩
  rw [Int.mul_one]
 done:=by
  intro X hP hw hK hc i pins s σ H E I hf st hg
  subst hP hw hK
  obtain ⟨f0,f1,f2,f3,f4,f5⟩:=hf it (by simp)
  exact wpAny_pyNext_range_end (I.ok.hd hc) st (by have:n<=i:=hg; omega) fun h' eb=>⟨rfl,I.turned (t':=s.toks) (fun b o hb e=>eb b o hb e) f0 f1 f3 f4 f5⟩
 self:=fun _ _ _ _ _ st h=>wpAny_pyIter_rangeiter st h
section
variable {X:Cx} {tg:Expr}
theorem qDV {pins:List (Addr×Obj)} {σ:St} {H:Hp} {s:Shared} {R:It->Hp->Prop} {E:Value->Shared->Prop} {lo hi:Int} {t u v:Tok} {tk:Nat} (I:Inv X pins σ H s) (h1 : -(2 ^ 62)<=lo) (h2:lo<2 ^ 62) (h3 : -(2 ^ 62)<=hi) (h4:hi<2 ^ 62)
  (q:R (Itr lo (hi - lo).toNat) H):wpAny (model X.prog X.w) X.A (pyIter (.ref s.heap.objs.size)) (PIE X pins σ tg R) E { s with heap:=s.heap.push { cls:=.type "range",data:=.fields #[.int lo t,.int hi u,.int 1 v] },toks:=tk }:=by
 refine wpAny_pyIter_range (IsRange.new ..) (small_one h1 h2 h3 h4) ?_
 have I1:Inv X pins σ H { s with heap:=s.heap.push { cls:=.type "range",data:=.fields #[.int lo t,.int hi u,.int 1 v] },toks:=tk }:=I.kept fun b o e=>wG _ e
 refine ⟨(s.heap.push { cls:=.type "range",data:=.fields #[.int lo t,.int hi u,.int 1 v] }).objs.size,[(s.heap.push { cls:=.type "range",data:=.fields #[.int lo t,.int hi u,.int 1 v] }).objs.size],_,_,H,rfl,
  I1.kept (t':=tk) fun b o e=>wG _ e,qDz _ lo (hi - lo).toNat,?_,fun b hb=>?_,q⟩
 ·have e1:lo+((0:Nat):Int)*1=lo:=by simp
  have e2:(((hi - lo).toNat:Nat):Int) - ((0:Nat):Int)=gP lo hi 1:=by rw [rangeSize_one]; split <;> omega
  show IsRangeIter _ _ (lo+((0:Nat):Int)*1) ((((hi - lo).toNat:Nat):Int) - ((0:Nat):Int)) 1
  rw [e1,e2]
  exact zB _ rfl
 ·have e:b=(s.heap.push { cls:=.type "range",data:=.fields #[.int lo t,.int hi u,.int 1 v] }).objs.size:=by simpa using hb
  subst e
  exact I1.fpOk (wF _) (I1.hok.fresh (wF _))
noncomputable def qLM (ta:TA):TI:=fun σ H R=>ta σ H fun vs H1=>∃ j:Int,vs=[.int j]/\-(2 ^ 62)<=j/\j<2 ^ 62/\R (Itr 0 j.toNat) H1
noncomputable def qLL (ta:TA):TI:=fun σ H R=>ta σ H fun vs H1=>∃ i j:Int,vs=[.int i,.int j]/\(-(2 ^ 62)<=i/\i<2 ^ 62/\-(2 ^ 62)<=j/\j<2 ^ 62)/\R (Itr i (j - i).toNat) H1
theorem Qn {a:Expr} {ta:TA} {p pos:Pos} (hg:Gl X "range") (hm:X.mg "range" = none) (ha:PA X [a] ta) (hs:starEach [a] X.env=[(false,eval a X.env)]:=by rfl):PI X tg (.Call (.Name "range" p) [a] [] pos) (qLM ta):=by
 intro pins s σ H R I h
 refine Call_ (Ql I hg hm boot_range (uG (thn (ha pos pins s σ H _ I h) fun us s1 ⟨vs,H1,I1,r1,q1⟩=>?_) hs rfl))
 obtain ⟨j,e,q1,q2,q⟩:=q1
 subst e
 cases r1 with
 | cons r rr=>
  cases rr
  obtain ⟨t,rfl⟩:=r
  exact call_range_1 (qDV I1 (by omega) (by omega) q1 q2 (by simpa using q))
theorem Jr {a b:Expr} {ta:TA} {p pos:Pos} (hg:Gl X "range") (hm:X.mg "range" = none) (ha:PA X [a,b] ta) (hs:starEach [a,b] X.env=[(false,eval a X.env),(false,eval b X.env)]:=by rfl) (hs2:starEach [b] X.env=[(false,eval b X.env)]:=by rfl) :
  PI X tg (.Call (.Name "range" p) [a,b] [] pos) (qLL ta):=by
 intro pins s σ H R I h
 refine Call_ (Ql I hg hm boot_range (uG (thn (ha pos pins s σ H _ I h) fun us s1 ⟨vs,H1,I1,r1,q1⟩=>?_) (by rw [hs,hs2]) (by rw [hs2]; rfl)))
 obtain ⟨i,j,e,⟨q1,q2,q3,q4⟩,q⟩:=q1
 subst e
 cases r1 with
 | cons r rr=>
  cases rr with
  | cons r' rr=>
   cases rr
   obtain ⟨t,rfl⟩:=r
   obtain ⟨t',rfl⟩:=r'
   exact call_range_2 (qDV I1 q1 q2 q3 q4 q)
noncomputable def qHz (wi:TI) (g:TG) (tb:TS):TS:=fun D σ H=>wi σ H fun J H1=>∃ W:Nat->Nat->St->Hp->Prop,(∃ m,W 0 m σ H1)/\∀ i m σ H,W i m σ H->
 (J.stop i H/\D.nx σ H)\/(J.go i H/\∃ N:St->Hp->Prop,(∀ σ' H',N σ' H'->∃ m',m'<m/\W (i+1) m' σ' H')/\∀ x H',J.yld i H x H'->g x σ H' fun σ2 H2=>tb { D with nx:=N,ct:=N,bk:=D.nx } σ2 H2)
noncomputable def YA (fp:List Addr) (h:Heap):List (Addr×Obj):=fp.filterMap fun b=>(h.get? b).map fun o=>(b,o)
theorem jK {fp:List Addr} {h:Heap} {b:Addr} {o:Obj} (hb:b∈fp) (e:h.get? b=some o):(b,o)∈YA fp h:=kI.mpr ⟨b,hb,by rw [e]; rfl⟩
theorem qE3 {fp:List Addr} {h:Heap} {p:Addr×Obj} (hp:p∈YA fp h):p.1∈fp/\h.get? p.1=some p.2:=by
 obtain ⟨b,hb,e⟩:=kI.mp hp
 cases q:h.get? b with
 | none=>rw [q] at e; cases e
 | some o=>
  rw [q] at e
  have e':(b,o)=p:=zH e
  subst e'
  exact ⟨hb,q⟩
theorem Inv.pinned {pins:List (Addr×Obj)} {σ:St} {H:Hp} {s:Shared} {fp:List Addr} (I:Inv X pins σ H s) (hf:∀ b∈fp,qBv X pins H b) (ho:∀ b∈fp,∃ o,s.heap.get? b=some o/\∀ v,o.data≠.cell v):Inv X (pins++YA fp s.heap) σ H s:=
 I.pins_of fun p hp=>(zR.mp hp).elim (fun z=>I.pin p (zE _ z)) fun z=>by
  obtain ⟨hb,e⟩:=qE3 z
  obtain ⟨f0,f1,f2,_⟩:=hf p.1 hb
  obtain ⟨o,e',d⟩:=ho p.1 hb
  rw [e] at e'; cases e'
  exact ⟨e,f0,f1,f2,d⟩
theorem Inv.unpinned {pins pl:List (Addr×Obj)} {σ:St} {H:Hp} {s:Shared} (I:Inv X (pins++pl) σ H s):Inv X pins σ H s:=I.pins_of fun p hp=>I.pin p (zE _ (zT _ hp))
theorem jh {iter:Expr} {body:List Stmt} {wi:TI} {g:TG} {tb:TS} {pos:Pos} (hp:PassesOwn (model X.prog X.w) X.A X.env X.xe) (hc:X.calm=true) (hi:PI X tg iter wi) (hg:PG X tg g) (hb:PSs X body tb)
  (hs:∀ x,foldedSetIterable iter X.env x=pure x:=by intro _; rfl):PS X (.For tg iter body [] pos) (qHz wi g tb):=by
 intro pins s σ H D I h
 refine wpAny_For (thn (hi pins s σ H _ I h) fun v s1 h1=>thn h1 fun itv s2 h2=>?_) hs
 obtain ⟨it,fp,tn,J,H2,e,I2,T,st2,f2,W,⟨m0,w0⟩,turn⟩:=h2
 subst e
 have stat:∀{H':Hp},(∀ b∈fp,H' b=none)->∀ b∈fp,qBv X pins H' b:=fun hn b hb=>⟨hn b hb,(f2 b hb).2⟩
 refine codeAny_forLoop_any (fun n s'=>∃ i σ' H',Inv X pins σ' H' s'/\tn i s'.heap/\(∀ b∈fp,H' b=none)/\W i n σ' H') ?_ m0 ⟨0,σ,H2,I2,st2,fun b hb=>(f2 b hb).1,w0⟩
 rintro n s3 ⟨i,σ3,H3,I3,st3,fr3,w3⟩
 rcases turn i n σ3 H3 w3 with ⟨stop,qn⟩ | ⟨go,N,hN,step⟩
 ·refine kO hp (thn (T.done X rfl rfl rfl hc i pins s3 σ3 H3 X.xe I3 (stat fr3) st3 stop) fun r s4 ⟨hr,I4⟩=>?_)
  subst hr
  exact WB ⟨σ3,H3,I4,qn⟩
 ·refine kO hp (thn (T.item X rfl rfl rfl hc i pins s3 σ3 H3 X.xe I3 (stat fr3) st3 go) fun r s4 ⟨u,hr,h4⟩=>?_)
  subst hr
  refine kO hp (thn h4 fun _ s5 ⟨x,H5,I5,r5,y5,st5,fr5⟩=>?_)
  have I5':=I5.pinned (stat fr5) (T.obj _ _ st5)
  refine kO hp (thn (hg _ s5 σ3 H5 x u _ I5' r5 (step x H5 y5)) fun _ s6 ⟨σ6,H6,I6,q6⟩=>?_)
  refine kO hp (thn (hb _ s6 σ6 H6 _ I6 q6) fun f s7 q7=>?_)
  have again:∀{σ7:St} {H7:Hp},Inv X (pins++YA fp s5.heap) σ7 H7 s7->N σ7 H7->∃ m,m<n/\∃ i σ' H',Inv X pins σ' H' s7/\tn i s7.heap/\(∀ b∈fp,H' b=none)/\W i m σ' H':=fun {σ7 H7} I7 n7=>by
   obtain ⟨m',hm,w7⟩:=hN σ7 H7 n7
   refine ⟨m',hm,i+1,σ7,H7,I7.unpinned,T.keep _ _ _ st5 fun b hb o e=>(I7.pin (b,o) (zE _ (zE _ (jK hb e)))).1,fun b hb=>?_,w7⟩
   obtain ⟨o,e,d⟩:=T.obj _ _ st5 b hb
   exact (I7.pin (b,o) (zE _ (zE _ (jK hb e)))).2.1
  cases f with
  | next=>obtain ⟨σ7,H7,I7,n7⟩:=q7; exact again I7 n7
  | cont=>obtain ⟨σ7,H7,I7,n7⟩:=q7; exact again I7 n7
  | brk=>obtain ⟨σ7,H7,I7,q7⟩:=q7; exact ⟨σ7,H7,I7.unpinned,q7⟩
  | ret v=>obtain ⟨x7,σ7,H7,I7,r7,q7⟩:=q7; exact ⟨x7,σ7,H7,I7.unpinned,r7,q7⟩
end
noncomputable abbrev R2:=V->V->Hp->VK->Prop
noncomputable def OpR (X:Cx) (f:Value->Value->Sem Value) (r:R2):Prop:=
 ∀(pins:List (Addr×Obj)) (s:Shared) (σ:St) (H:Hp) (x y:V) (v u:Value) (Q:VK),Inv X pins σ H s->RelV x v->RelV y u->r x y H Q->
  wpAny (model X.prog X.w) X.A (f v u) (EP X pins σ Q) X.xe s
noncomputable def UnR (X:Cx) (f:Value->Sem Value) (r:V->Hp->VK->Prop):Prop:=
 ∀(pins:List (Addr×Obj)) (s:Shared) (σ:St) (H:Hp) (x:V) (v:Value) (Q:VK),Inv X pins σ H s->RelV x v->r x H Q->
  wpAny (model X.prog X.w) X.A (f v) (EP X pins σ Q) X.xe s
noncomputable def j5 (X:Cx) (f:Value) (r:List V->Hp->VK->Prop):Prop:=
 ∀(pins:List (Addr×Obj)) (s:Shared) (σ:St) (H:Hp) (xs:List V) (us:List Value) (Q:VK),Inv X pins σ H s->qh xs us->r xs H Q->
  wpAny (model X.prog X.w) X.A (call f us) (EP X pins σ Q) X.xe s
noncomputable def qNj (X:Cx) (r:V->Hp->(Bool->Hp->Prop)->Prop):Prop:=
 ∀(pins:List (Addr×Obj)) (s:Shared) (σ:St) (H:Hp) (x:V) (v:Value) (Q:Bool->Hp->Prop),Inv X pins σ H s->RelV x v->r x H Q->
  wpAny (model X.prog X.w) X.A (truthy v) (TP X pins σ Q) X.xe s
noncomputable def tOp (r:R2) (ta tb:TE):TE:=fun σ H Q=>ta σ H fun x H1=>tb σ H1 fun y H2=>r x y H2 Q
noncomputable def tUn (r:V->Hp->VK->Prop) (ta:TE):TE:=fun σ H Q=>ta σ H fun x H1=>r x H1 Q
noncomputable def rI (C:Int->Int->Prop) (g:Int->Int->V):R2:=fun x y H Q=>∃ i j,x=.int i/\y=.int j/\C i j/\Q (g i j) H
noncomputable def rI0 (g:Int->Int->V):R2:=fun x y H Q=>∃ i j,x=.int i/\y=.int j/\Q (g i j) H
noncomputable def rU (g:Int->V):V->Hp->VK->Prop:=fun x H Q=>∃ i,x=.int i/\Q (g i) H
section
variable {X:Cx} {a b c:Expr} {ta tb tc:TE} {pos:Pos}
theorem qMC (ha:PE X a ta) (hb:PE X b tb) {pins:List (Addr×Obj)} {s:Shared} {σ:St} {H:Hp} {R:V->V->Hp->Prop} (I:Inv X pins σ H s)
  (h:ta σ H fun x H1=>tb σ H1 fun y H2=>R x y H2) {Q:Value->Shared->Prop} {f:Value->Value->Sem Value}
  (hf:∀ v u s2 x y H2,Inv X pins σ H2 s2->RelV x v->RelV y u->R x y H2->wpAny (model X.prog X.w) X.A (f v u) Q X.xe s2) :
  wpAny (model X.prog X.w) X.A (eval a X.env) (fun v s₁=>wpAny (model X.prog X.w) X.A (eval b X.env) (fun u s₂=>wpAny (model X.prog X.w) X.A (f v u) Q X.xe s₂) X.xe s₁) X.xe s:=by
 refine thn (ha pins s σ H _ I h) fun v s1 ⟨x,H1,I1,r1,q1⟩=>?_
 refine thn (hb pins s1 σ H1 _ I1 q1) fun u s2 ⟨y,H2,I2,r2,q2⟩=>?_
 exact hf v u s2 x y H2 I2 r1 r2 q2
theorem qd {op:Operator} {r:R2} (ho:OpR X (binaryOp op) r) (ha:PE X a ta) (hb:PE X b tb):PE X (.BinOp a op b pos) (tOp r ta tb):=by
 intro pins s σ H Q I h
 exact wpAny_BinOp (qMC ha hb I h fun v u s2 x y H2 I2 rx ry q=>ho pins s2 σ H2 x y v u Q I2 rx ry q)
theorem qM2 {op:UnaryOp} {r:V->Hp->VK->Prop} (ho:UnR X (unaryOp op) r) (ha:PE X a ta):PE X (.UnaryOp op a pos) (tUn r ta):=by
 intro pins s σ H Q I h
 exact UnaryOp_ (thn (ha pins s σ H _ I h) fun v s1 ⟨x,H1,I1,r1,q1⟩=>ho pins s1 σ H1 x v Q I1 r1 q1)
theorem opI {f:Value->Value->Sem Value} {C:Int->Int->Prop} {g:Int->Int->Int}
  (rule:∀(i j:Int) (t u:Tok) (s:Shared) (Q:Value->Shared->Prop) (E:Value->Shared->Prop),C i j->Q (.int (g i j) s.toks) { s with toks:=s.toks+1 }->wpAny (model X.prog X.w) X.A (f (.int i t) (.int j u)) Q E s) :
  OpR X f (rI C fun i j=>.int (g i j)):=by
 intro pins s σ H x y v u Q I rx ry h
 obtain ⟨i,j,rfl,rfl,hc,q⟩:=h
 obtain ⟨t,rfl⟩:=rx
 obtain ⟨t',rfl⟩:=ry
 exact rule i j t t' s _ _ hc ⟨.int (g i j),H,I.tok _,⟨_,rfl⟩,q⟩
theorem qLx {f:Value->Value->Sem Value} {g:Int->Int->Int}
  (rule:∀(i j:Int) (t u:Tok) (s:Shared) (Q:Value->Shared->Prop) (E:Value->Shared->Prop),Q (.int (g i j) s.toks) { s with toks:=s.toks+1 }->wpAny (model X.prog X.w) X.A (f (.int i t) (.int j u)) Q E s) :
  OpR X f (rI0 fun i j=>.int (g i j)):=by
 intro pins s σ H x y v u Q I rx ry h
 obtain ⟨i,j,rfl,rfl,q⟩:=h
 obtain ⟨t,rfl⟩:=rx
 obtain ⟨t',rfl⟩:=ry
 exact rule i j t t' s _ _ ⟨.int (g i j),H,I.tok _,⟨_,rfl⟩,q⟩
theorem qMP {f:Value->Value->Sem Value} {g:Int->Int->Bool}
  (rule:∀(i j:Int) (t u:Tok) (s:Shared) (Q:Value->Shared->Prop) (E:Value->Shared->Prop),Q (.bool (g i j)) s->wpAny (model X.prog X.w) X.A (f (.int i t) (.int j u)) Q E s) :
  OpR X f (rI0 fun i j=>.bl (g i j)):=by
 intro pins s σ H x y v u Q I rx ry h
 obtain ⟨i,j,rfl,rfl,q⟩:=h
 obtain ⟨t,rfl⟩:=rx
 obtain ⟨t',rfl⟩:=ry
 exact rule i j t t' s _ _ ⟨.bl (g i j),H,I,rfl,q⟩
noncomputable def qNb (i j:Int):Prop:=0<j/\j<1073741824
noncomputable def qH7 (i j:Int):Prop:=0<=j/\j<=1000000/\i.natAbs<2 ^ 64
noncomputable def qL5 (i j:Int):Prop:=(-(2 ^ 64)<i/\i<2 ^ 64)\/(-(2 ^ 64)<j/\j<2 ^ 64)
theorem qL5.ok {i j:Int} (h:qL5 i j):IntMulOk i j:=by
 rcases h with ⟨h1,h2⟩ | ⟨h1,h2⟩
 ·exact .of_left (intBits_le_64 h1 h2)
 ·exact .of_right (intBits_le_64 h1 h2)
theorem qKy:OpR X (binaryOp .Add) (rI0 fun i j=>.int (i+j)):=qLx fun _ _ _ _ _ _ _ q=>add_int q
theorem YX:OpR X (binaryOp .Sub) (rI0 fun i j=>.int (i - j)):=qLx fun _ _ _ _ _ _ _ q=>sub_int q
theorem qKn:OpR X (binaryOp .Mult) (rI qL5 fun i j=>.int (i*j)):=opI fun _ _ _ _ _ _ _ hc q=>mul_int q hc.ok
theorem qCB:OpR X (binaryOp .FloorDiv) (rI qNb fun i j=>.int (i / j)):=opI fun i j _ _ _ _ _ hc q=>by
 have h1:(0:Int)<j:=hc.1
 have h2:j<1073741824:=hc.2
 exact floordiv_int (by omega) (by rw [Int.fdiv_eq_ediv_of_nonneg i (by omega)]; exact q) (.inl (PyProof.noPylong_small (by omega)))
theorem J8:OpR X (binaryOp .Mod) (rI (fun _ j=>0<j) fun i j=>.int (i % j)):=opI fun i j _ _ _ _ _ hc q=>by
 have h1:(0:Int)<j:=hc
 exact mod_int' (by omega) (by rw [Int.fmod_eq_emod_of_nonneg i (by omega)]; exact q)
theorem qHt:OpR X (binaryOp .Pow) (rI qH7 fun i j=>.int (i ^ j.toNat)):=opI fun _ _ _ _ _ _ _ hc q=>pow_int_small hc.1 hc.2.1 hc.2.2 q
theorem Yf:OpR X (binaryOp .LShift) (rI qH7 fun i j=>.int (i*2 ^ j.toNat)):=opI fun _ _ _ _ _ _ _ hc q=>lshift_int_small hc.1 hc.2.1 hc.2.2 q
theorem qHp:OpR X (binaryOp .BitAnd) (rI0 fun i j=>.int (UU i j)):=qLx fun _ _ _ _ _ _ _ q=>and_int q
theorem qI9:OpR X (inplaceOp .Add) (rI0 fun i j=>.int (i+j)):=qLx fun _ _ _ _ _ _ _ q=>iadd_int q
theorem unI {f:Value->Sem Value} {g:Int->Int}
  (rule:∀(i:Int) (t:Tok) (s:Shared) (Q:Value->Shared->Prop) (E:Value->Shared->Prop),Q (.int (g i) s.toks) { s with toks:=s.toks+1 }->wpAny (model X.prog X.w) X.A (f (.int i t)) Q E s) :
  UnR X f (rU fun i=>.int (g i)):=by
 intro pins s σ H x v Q I rx h
 obtain ⟨i,rfl,q⟩:=h
 obtain ⟨t,rfl⟩:=rx
 exact rule i t s _ _ ⟨.int (g i),H,I.tok _,⟨_,rfl⟩,q⟩
theorem qKS:UnR X (unaryOp .USub) (rU fun i=>.int (-i)):=unI fun _ _ _ _ _ q=>neg_int q
end
noncomputable def qL4:V->V->Bool
 | .non,.non=>true | .non,.int _=>true | .int _,.non=>true | .non,.bl _=>true | .bl _,.non=>true | .non,.str _=>true | .str _,.non=>true
 | .int _,.int _=>true | .bl _,.bl _=>true | .str _,.str _=>true | .byt _,.byt _=>true
 | .int _,.str _=>true | .str _,.int _=>true | .bl _,.str _=>true | .str _,.bl _=>true
 | _,_=>false
noncomputable def rEq:R2:=fun x y H Q=>qL4 x y=true/\Q (.bl (decide (x=y))) H
noncomputable def rNe:R2:=fun x y H Q=>qL4 x y=true/\Q (.bl (!decide (x=y))) H
theorem qFM {i j:Int}:decide (V.int i=V.int j)=(i == j):=by
 rw [vZ]
 simp
theorem qHe {i j:Bool}:decide (V.bl i=V.bl j)=(i == j):=by
 rw [vZ]
 simp
theorem qFX {i j:Str}:decide (V.str i=V.str j)=(i == j):=by
 rw [vZ]
 simp
theorem qFf {i j:Array UInt8}:decide (V.byt i=V.byt j)=(i.toList == j.toList):=by
 rw [vZ]
 cases i
 cases j
 simp
section
variable {X:Cx} {a b c:Expr} {ta tb tc:TE} {pos:Pos}
theorem qV {pins:List (Addr×Obj)} {σ:St} {H:Hp} {s:Shared} {Q:VK} {k k':Bool} (I:Inv X pins σ H s) (q:Q (.bl k) H) (e:k=k'):EP X pins σ Q (.bool k') s:=by
 subst e
 exact ⟨.bl k,H,I,rfl,q⟩
theorem qMz:OpR X (compareOp .Eq) rEq:=by
 intro pins s σ H x y v u Q I rx ry h
 obtain ⟨hs,q⟩:=h
 cases x with
 | non=>
  cases rx
  cases y with
  | non=>cases ry; exact PySem.EqNone.eq_none_none (qV I q (by simp))
  | bl j=>cases ry; exact PySem.EqNone.eq_none_bool (qV I q (by simp))
  | int j=>obtain ⟨t',rfl⟩:=ry; exact PySem.EqNone.eq_none_int (qV I q (by simp))
  | str j=>obtain ⟨t',rfl⟩:=ry; exact PySem.EqNone.eq_none_str (qV I q (by simp))
  | _=>exact absurd (show false=true from hs) wR
 | bl i=>
  cases rx
  cases y with
  | non=>cases ry; exact PySem.EqNone.eq_bool_none (qV I q (by simp))
  | bl j=>cases ry; exact eq_bool (qV I q qHe)
  | str j=>obtain ⟨t',rfl⟩:=ry; exact PySem.EqMixed.eq_bool_str (qV I q (by simp))
  | _=>exact absurd (show false=true from hs) wR
 | int i=>
  obtain ⟨t,rfl⟩:=rx
  cases y with
  | non=>cases ry; exact PySem.EqNone.eq_int_none (qV I q (by simp))
  | int j=>obtain ⟨t',rfl⟩:=ry; exact eq_int (qV I q qFM)
  | str j=>obtain ⟨t',rfl⟩:=ry; exact PySem.EqMixed.eq_int_str (qV I q (by simp))
  | _=>exact absurd (show false=true from hs) wR
 | str i=>
  obtain ⟨t,rfl⟩:=rx
  cases y with
  | non=>cases ry; exact PySem.EqNone.eq_str_none (qV I q (by simp))
  | bl j=>cases ry; exact PySem.EqMixed.eq_str_bool (qV I q (by simp))
  | int j=>obtain ⟨t',rfl⟩:=ry; exact PySem.EqMixed.eq_str_int (qV I q (by simp))
  | str j=>obtain ⟨t',rfl⟩:=ry; exact eq_str (qV I q qFX)
  | _=>exact absurd (show false=true from hs) wR
 | byt i=>
  obtain ⟨t,rfl⟩:=rx
  cases y with
  | byt j=>obtain ⟨t',rfl⟩:=ry; exact PySem.W.eq_bytes (qV I q qFf)
  | _=>exact absurd (show false=true from hs) wR
 | _=>cases y <;> exact absurd (show false=true from hs) wR
theorem qMo:OpR X (compareOp .NotEq) rNe:=by
 intro pins s σ H x y v u Q I rx ry h
 obtain ⟨hs,q⟩:=h
 cases x with
 | non=>
  cases rx
  cases y with
  | non=>cases ry; exact PySem.EqNone.ne_none_none (qV I q (by simp))
  | bl j=>cases ry; exact PySem.EqNone.ne_none_bool (qV I q (by simp))
  | int j=>obtain ⟨t',rfl⟩:=ry; exact PySem.EqNone.ne_none_int (qV I q (by simp))
  | str j=>obtain ⟨t',rfl⟩:=ry; exact PySem.EqNone.ne_none_str (qV I q (by simp))
  | _=>exact absurd (show false=true from hs) wR
 | bl i=>
  cases rx
  cases y with
  | non=>cases ry; exact PySem.EqNone.ne_bool_none (qV I q (by simp))
  | bl j=>cases ry; exact ne_bool (qV I q (congrArg not qHe))
  | str j=>obtain ⟨t',rfl⟩:=ry; exact PySem.EqMixed.ne_bool_str (qV I q (by simp))
  | _=>exact absurd (show false=true from hs) wR
 | int i=>
  obtain ⟨t,rfl⟩:=rx
  cases y with
  | non=>cases ry; exact PySem.EqNone.ne_int_none (qV I q (by simp))
  | int j=>obtain ⟨t',rfl⟩:=ry; exact ne_int (qV I q (congrArg not qFM))
  | str j=>obtain ⟨t',rfl⟩:=ry; exact PySem.EqMixed.ne_int_str (qV I q (by simp))
  | _=>exact absurd (show false=true from hs) wR
 | str i=>
  obtain ⟨t,rfl⟩:=rx
  cases y with
  | non=>cases ry; exact PySem.EqNone.ne_str_none (qV I q (by simp))
  | bl j=>cases ry; exact PySem.EqMixed.ne_str_bool (qV I q (by simp))
  | int j=>obtain ⟨t',rfl⟩:=ry; exact PySem.EqMixed.ne_str_int (qV I q (by simp))
  | str j=>obtain ⟨t',rfl⟩:=ry; exact ne_str (qV I q (congrArg not qFX))
  | _=>exact absurd (show false=true from hs) wR
 | byt i=>
  obtain ⟨t,rfl⟩:=rx
  cases y with
  | byt j=>obtain ⟨t',rfl⟩:=ry; exact PySem.W.ne_bytes (qV I q (congrArg not qFf))
  | _=>exact absurd (show false=true from hs) wR
 | _=>cases y <;> exact absurd (show false=true from hs) wR
theorem qFo:OpR X (compareOp .Lt) (rI0 fun i j=>.bl (decide (i<j))):=qMP fun _ _ _ _ _ _ _ q=>lt_int q
theorem qLA:OpR X (compareOp .LtE) (rI0 fun i j=>.bl (decide (i<=j))):=qMP fun _ _ _ _ _ _ _ q=>le_int q
theorem qDX:OpR X (compareOp .Gt) (rI0 fun i j=>.bl (decide (j<i))):=qMP fun _ _ _ _ _ _ _ q=>gt_int q
theorem OpR.or {f:Value->Value->Sem Value} {r r':R2} (h:OpR X f r) (h':OpR X f r'):OpR X f (fun x y H Q=>r x y H Q\/r' x y H Q):=by
 intro pins s σ H x y v u Q I rx ry q
 rcases q with q | q
 ·exact h pins s σ H x y v u Q I rx ry q
 ·exact h' pins s σ H x y v u Q I rx ry q
theorem qp (b:Expr) {op:CmpOp} (h:op≠.In:=by decide) (h2:op≠.NotIn:=by decide):behindInMarks op b=false:=by
 have e1:(op == CmpOp.In)=false:=by cases op <;> first | rfl | exact absurd rfl h
 have e2:(op == CmpOp.NotIn)=false:=by cases op <;> first | rfl | exact absurd rfl h2
 cases b <;> simp [behindInMarks,e1,e2]
theorem qFq {op:CmpOp} {r:R2} (ho:OpR X (compareOp op) r) (ha:PE X a ta) (hb:PE X b tb) (hm:behindInMarks op b=false):PE X (.Compare a [op] [b] pos) (tOp r ta tb):=by
 intro pins s σ H Q I h
 exact wpAny_Compare1 (qMC ha hb I h fun v u s2 x y H2 I2 rx ry q=>ho pins s2 σ H2 x y v u Q I2 rx ry q) hm
noncomputable def qKf (t:TE):TT:=fun σ H Q=>t σ H fun x H'=>∃ k,x=.bl k/\Q k H'
theorem qX {op:CmpOp} {r:R2} (ho:OpR X (compareOp op) r) (ha:PE X a ta) (hb:PE X b tb) (hm:behindInMarks op b=false):PT X (.Compare a [op] [b] pos) (qKf (tOp r ta tb)):=by
 intro pins s σ H Q I h
 refine wpAny_isTrue_Compare1 (thn (ha pins s σ H _ I h) fun v s1 ⟨x,H1,I1,r1,q1⟩=>thn (hb pins s1 σ H1 _ I1 q1) fun u s2 ⟨y,H2,I2,r2,q2⟩=>
  thn (ho pins s2 σ H2 x y v u _ I2 r1 r2 q2) fun c s3 ⟨z,H3,I3,r3,k,e,q3⟩=>?_) hm
 subst e
 cases r3
 exact gU ⟨H3,I3,q3⟩
noncomputable def qLP (K:wD) (x:V) (H:Hp) (k:Bool):Prop:=
 match x with
 | .non=>k=false
 | .bl b=>k=b
 | .int i=>k=(i != 0)
 | .str y=>y.length<=sizeLine/\k=((y.length:Int) != 0)
 | .byt y=>y.size<=sizeLine/\k=((y.size:Int) != 0)
 | .ref p=>(∃ xs,SqL K H p xs/\k = !xs.isEmpty)\/(∃ xs,SqT K H p xs/\k = !xs.isEmpty)\/∃ kvs,H p=some (.dK kvs)/\k = !kvs.isEmpty
 | _=>False
theorem qD6 {κ:Type} {kvs:List (κ×V)} {vs:List (κ×Value)} (r:KV kvs vs):(!vs.isEmpty) = !kvs.isEmpty:=by
 cases r <;> rfl
theorem Yu {xs:List V} {its:List Value} (r:qh xs its):(!its.toArray.isEmpty) = !xs.isEmpty:=by
 cases r <;> simp
theorem Yr:(sizeLine:Nat)<2 ^ 63:=by rw [xW]; decide
theorem qHv:qNj X (fun x H Q=>∃ k,qLP X.K x H k/\Q k H):=by
 intro pins s σ H x v Q I rx h
 obtain ⟨k,e,q⟩:=h
 have hl:=Yr
 have hs:sizeLine=16777216:=xW
 cases x with
 | non=>
  cases rx
  have e':k=false:=e
  subst e'
  exact truthy_none ⟨H,I,q⟩
 | bl b=>
  cases rx
  have e':k=b:=e
  subst e'
  exact gU ⟨H,I,q⟩
 | int i=>
  obtain ⟨t,rfl⟩:=rx
  have e':k=(i != 0):=e
  subst e'
  exact PySem.P.truthy_int ⟨H,I,q⟩
 | str y=>
  obtain ⟨t,rfl⟩:=rx
  obtain ⟨hy,e'⟩:y.length<=sizeLine/\k=((y.length:Int) != 0):=e
  subst e'
  exact PySem.P.truthy_str (by omega) ⟨H,I.tok _,q⟩
 | byt y=>
  obtain ⟨t,rfl⟩:=rx
  obtain ⟨hy,e'⟩:y.size<=sizeLine/\k=((y.size:Int) != 0):=e
  subst e'
  exact PySem.W.truthy_bytes (by omega) ⟨H,I.tok _,q⟩
 | ref p=>
  cases rx
  have e':(∃ xs,SqL X.K H p xs/\k = !xs.isEmpty)\/(∃ xs,SqT X.K H p xs/\k = !xs.isEmpty)\/∃ kvs,H p=some (.dK kvs)/\k = !kvs.isEmpty:=e
  rcases e' with ⟨xs,hx,e'⟩ | ⟨xs,hx,e'⟩ | ⟨kvs,hx,e'⟩
  ·subst e'
   obtain ⟨its,r,pl,hz⟩:=I.list hx
   have hlen:=r.length
   exact wpAny_truthy_list pl.isList (by simp only [wJ]; omega) ⟨H,I.tok _,by rw [Yu r]; exact q⟩
  ·subst e'
   obtain ⟨its,r,pl,hz⟩:=I.tuple hx
   have hlen:=r.length
   exact truthy_tuple pl (by simp only [wJ]; omega) ⟨H,I.tok _,by rw [Yu r]; exact q⟩
  ·subst e'
   obtain ⟨hz,hS,vs,r,m⟩:kvs.length<=sizeLine/\(p == sysModules)=false/\∃ vs,KV kvs vs/\s.heap.DictOf (qt X.prog X.w) p vs:=I.hok p _ hx
   have hlen:kvs.length=vs.length:=fK r
   exact wpAny_truthy_dict hS m (by omega) ⟨H,I.tok _,by rw [qD6 r]; exact q⟩
 | _=>exact (show False from e).elim
theorem qHB (ha:PE X a ta) (he:∀ whole,isTrue a X.env whole=(do let v <- whole; standAt a.pos; holding [v] (truthy v))) :
  PT X a (fun σ H Q=>ta σ H fun x H'=>∃ k,qLP X.K x H' k/\Q k H'):=by
 intro pins s σ H Q I h
 exact isTrue_plain (thn (ha pins s σ H _ I h) fun v s1 ⟨x,H1,I1,r1,q1⟩=>qHv pins s1 σ H1 x v Q I1 r1 q1) (he _)
theorem vals1 {x:V} {us:List Value} (r:qh [x] us):∃ u,us=[u]/\RelV x u:=by
 cases r with
 | cons r1 r2=>cases r2; exact ⟨_,rfl,r1⟩
theorem vals2 {x y:V} {us:List Value} (r:qh [x,y] us):∃ u w',us=[u,w']/\RelV x u/\RelV y w':=by
 cases r with
 | cons r1 r2=>
  cases r2 with
  | cons r3 r4=>cases r4; exact ⟨_,_,rfl,r1,r3⟩
theorem qBa (hc:X.calm=true):j5 X (.builtin "max") (fun xs H Q=>∃ i j,xs=[.int i,.int j]/\Q (.int (if j > i then j else i)) H):=by
 intro pins s σ H xs us Q I r h
 obtain ⟨i,j,rfl,q⟩:=h
 obtain ⟨u,w',rfl,⟨t,rfl⟩,⟨t',rfl⟩⟩:=vals2 r
 refine max_two_ints (I.ok.hd hc) fun h' tk k=>⟨_,H,I.kept k,?_,q⟩
 by_cases hj:j > i
 ·rw [if_pos hj,if_pos hj]; exact ⟨_,rfl⟩
 ·rw [if_neg hj,if_neg hj]; exact ⟨_,rfl⟩
theorem qE6 (hc:X.calm=true):j5 X (.builtin "min") (fun xs H Q=>∃ i j,xs=[.int i,.int j]/\Q (.int (if j<i then j else i)) H):=by
 intro pins s σ H xs us Q I r h
 obtain ⟨i,j,rfl,q⟩:=h
 obtain ⟨u,w',rfl,⟨t,rfl⟩,⟨t',rfl⟩⟩:=vals2 r
 refine min_two_ints (I.ok.hd hc) fun h' tk k=>⟨_,H,I.kept k,?_,q⟩
 by_cases hj:j<i
 ·rw [if_pos hj,if_pos hj]; exact ⟨_,rfl⟩
 ·rw [if_neg hj,if_neg hj]; exact ⟨_,rfl⟩
end
structure qMp (h:Heap) (x dx C:Addr) (mA:Str->Option Value):Prop where
 obj:h.get? x=some (UF C dx)
 ns:h.Ns1 dx mA
 ne:dx≠x
theorem qEt {h:Heap} {dx:Addr} {mA:Str->Option Value} (n:h.Ns1 dx mA):∃ od,h.get? dx=some od/\∀ name,UV name od=some (mA name):=by
 obtain ⟨o,es,ep,ho,hd,hk,_,hm⟩:=n
 refine ⟨o,ho,fun name=>?_⟩
 have e:=hm name
 unfold nsFind findBy at e
 rw [<- Array.find?_toList] at e
 unfold UV
 rw [hd]
 dsimp only
 split
 ·rename_i y q
  rw [q] at e
  exact congrArg some e
 ·rename_i q
  rw [q] at e
  have a:es.toList.any (·.refKey)=false:=by
   rw [List.any_eq_false]
   intro y hy
   obtain ⟨z,t,hkey⟩:=hk y (yN.mp hy)
   simp [DictEntry.refKey,hkey]
  have a':¬ es.toList.any (·.refKey)=true:=by rw [a]; exact wR
  rw [if_neg a']
  exact congrArg some e
theorem qMp.look {h:Heap} {x dx C:Addr} {mA:Str->Option Value} (I:qMp h x dx C mA):∃ od,gW h x (UF C dx) C (some od)/\∀ name,UV name od=some (mA name):=
 let ⟨od,ho,hl⟩:=qEt I.ns
 ⟨od,⟨I.obj,rfl,rfl,ho⟩,hl⟩
theorem qDg.some_of {v:V} {o:Option Value} (r:qDg (some v) o):∃ u,o=some u/\RelV v u:=by
 cases o with
 | none=>exact (show False from r).elim
 | some u=>exact ⟨u,rfl,r⟩
section
variable {P:Program} {w:World} {H H':Hp} {h h':Heap} {a C dx:Addr} {fs fs':List (Str×V)}
theorem qJr (hok:HOk P w H h) (e:H a=some (.ins C dx fs)):∃ mA,qMp h a dx C mA/\(∀ f,qDg (fs.lookup f) (mA f))/\PySem.Within mA (fs.map (·.1))/\fs.length<=1000/\H dx=some (.own a):=by
 obtain ⟨d,z,ne,ob,mA,n,r,q⟩:=(show jD P w H h a (.ins C dx fs) from hok a _ e)
 exact ⟨mA,⟨ob,n,ne⟩,r,q,z,d⟩
end
structure Cls (K:wD) (C:Addr):Prop where
 pg:PySem.W.plainGet K C WR=true
 hd:PySem.W.hasDictIn K C=true
 po:PySem.W.plainOver K C=true
 sa:xX K (.ref C) "__setattr__" = some (some (.builtin "object.__setattr__"))
theorem Cls.get {K:wD} {C:Addr} (c:Cls K C) (f:Str):PySem.W.plainGet K C f=true:=c.pg
section
variable {X:Cx} {pins:List (Addr×Obj)} {σ:St} {H:Hp} {s:Shared} {A:Around} {E:Value->Shared->Prop} {Q:Value->Shared->Prop} {c:Value} {b:Bool}
inductive qBt (K:wD) (H:Hp):V->Value->Prop where
 | non:qBt K H .non (.type "NoneType")
 | bl (x:Bool):qBt K H (.bl x) (.type "bool")
 | int (i:Int):qBt K H (.int i) (.type "int")
 | str (x:Str):qBt K H (.str x) (.type "str")
 | flt (x:UInt64):qBt K H (.flt x) (.type "float")
 | lst {a:Addr} {xs:List V} (e:H a=some (.lst xs)):qBt K H (.ref a) (.type "list")
 | frz {a:Addr} {o:Obj} {xs:List V} (e:H a=some (.frz o (.lst xs))):qBt K H (.ref a) (.type "list")
 | tup {a:Addr} {xs:List V} (e:H a=some (.tup xs)):qBt K H (.ref a) (.type "tuple")
 | dK {a:Addr} {kvs:List (Key×V)} (e:H a=some (.dK kvs)):qBt K H (.ref a) (.type "dict")
 | dT {a:Addr} {kvs:List (List Key×V)} (e:H a=some (.dT kvs)):qBt K H (.ref a) (.type "dict")
 | ins {a C dx:Addr} {fs:List (Str×V)} (e:H a=some (.ins C dx fs)) (cl:Cls K C) (ha:xX K (.ref C) "__class__" = some (some (.builtin "object.__class__")))
   (hn:VF K (.builtin "object.__class__") "__get__" = some (some (.builtin "getset_descriptor.__get__"))) (htk:UG K (.builtin "object.__class__")=some true)
   (hm:kC K C (.type "object")=some true):qBt K H (.ref a) (.ref C)
theorem qF7 {x:V} {u t:Value} (I:Inv X pins σ H s) (rx:RelV x u) (ty:qBt X.K H x t) (e:vQ X.K t c=some b) (h:∀ tk,Q (.bool b) { s with toks:=tk }) :
  wpAny (model X.prog X.w) A (call (.builtin "isinstance") [u,c]) Q E s:=by
 cases ty with
 | non=>cases (show u=vP from rx); exact vS PySem.W.kitx_none I.kIn kJ e (fun z=>nomatch z) h
 | bl y=>cases (show u=Value.bool y from rx); exact vS PySem.W.kitx_bool I.kIn kJ e (fun z=>nomatch z) h
 | int i=>obtain ⟨t,q⟩:=(show ∃ t,u=fU i t from rx); cases q; exact vS PySem.W.kitx_int I.kIn kJ e (fun z=>nomatch z) h
 | str y=>obtain ⟨t,q⟩:=(show ∃ t,u=WQ y t from rx); cases q; exact vS PySem.W.kitx_str I.kIn kJ e (fun z=>nomatch z) h
 | flt y=>obtain ⟨t,q⟩:=(show ∃ t,u=Value.float y t from rx); cases q; exact vS PySem.W.kitx_float I.kIn kJ e (fun z=>nomatch z) h
 | @lst a xs ea=>
  cases (show u=zW a from rx)
  obtain ⟨_,_,n,_,h1⟩:=(show jD X.prog X.w H s.heap a (.lst xs) from I.hok a _ ea)
  exact vS PySem.W.kitx_list I.kIn ⟨_,h1,rfl⟩ e (fun z=>nomatch z) h
 | @frz a ob xs ea=>
  cases (show u=zW a from rx)
  obtain ⟨_,_,_,n,_,h1⟩:=(show jD X.prog X.w H s.heap a (.frz ob (.lst xs)) from I.hok a _ ea)
  exact vS PySem.W.kitx_list I.kIn ⟨_,h1,rfl⟩ e (fun z=>nomatch z) h
 | @tup a xs ea=>
  cases (show u=zW a from rx)
  obtain ⟨_,_,_,p⟩:=(show jD X.prog X.w H s.heap a (.tup xs) from I.hok a _ ea)
  obtain ⟨⟨o,h1,h2,_⟩,_⟩:=p
  exact vS PySem.W.kitx_tuple I.kIn ⟨o,h1,h2⟩ e (fun z=>nomatch z) h
 | @dK a kvs ea=>
  cases (show u=zW a from rx)
  obtain ⟨_,_,vs,_,p⟩:=(show jD X.prog X.w H s.heap a (.dK kvs) from I.hok a _ ea)
  obtain ⟨o,es,ep,h1,h2,_⟩:=p
  exact vS PySem.W.kitx_dict I.kIn ⟨o,h1,h2.1⟩ e (fun z=>nomatch z) h
 | @dT a kvs ea=>
  cases (show u=zW a from rx)
  obtain ⟨_,_,xs,_,o,es,ep,h1,h2,_⟩:=(show jD X.prog X.w H s.heap a (.dT kvs) from I.hok a _ ea)
  exact vS PySem.W.kitx_dict I.kIn ⟨o,h1,h2.1⟩ e (fun z=>nomatch z) h
 | @ins a C dx fs ea cl ha hn htk hm=>
  cases (show u=zW a from rx)
  obtain ⟨mA,O,_⟩:=qJr I.hok ea
  obtain ⟨od,J,_⟩:=O.look
  exact vS (PySem.W.kitx_own (cl.get _) cl.hd ha hn htk hm) I.kIn J e (fun z=>nomatch z) h
end
structure Yd (k:Nat) (A:Around):Prop where
 hd:A.handled=none
 dp:A.depth+3*k+5<recursionLimit
 un:A.units+16*k+200<cLine
theorem Yd.mono {j k:Nat} {A:Around} (r:Yd k A) (h:j<=k):Yd j A:=⟨r.hd,by have:=r.dp; omega,by have:=r.un; omega⟩
theorem Yd.deeper {k:Nat} {A:Around} (r:Yd (k+1) A) (env:Env):Yd k (A.deeper env):=
 ⟨r.hd,by have:=r.dp; show A.depth+1+3*k+5<_; omega,by have:=r.un; show A.units+3+16*k+200<_; omega⟩
theorem Yd.depth {k:Nat} {A:Around} (r:Yd k A):A.depth<recursionLimit:=by have:=r.dp; omega
theorem Yd.units {k:Nat} {A:Around} (r:Yd k A):A.units+64<cLine:=by have:=r.un; omega
noncomputable def qMw:TA:=fun _ H Q=>Q [] H
noncomputable def qJZ (ta:TE) (tr:TA):TA:=fun σ H Q=>ta σ H fun x H1=>tr σ H1 fun xs H2=>Q (x::xs) H2
section
variable {X:Cx} {e:Expr} {es:List Expr} {te:TE} {t:TA} {pos:Pos}
theorem qE:PA X [] qMw:=fun _ _ _ _ H Q I h=>ZF ⟨[],H,I,.nil,h⟩
theorem qB (ha:PE X e te) (hr:PA X es t) (hs:starEach (e::es) X.env=(false,eval e X.env)::starEach es X.env:=by rfl):PA X (e::es) (qJZ te t):=by
 intro pos pins s σ H Q I h
 rw [hs]
 show wpAny _ _ (spliced ((false,eval e X.env)::backTo pos (starEach es X.env))) _ _ s
 refine gM (thn (ha pins s σ H _ I h) fun u s1 ⟨x,H1,I1,r1,q1⟩=>?_)
 exact thn (hr pos pins s1 σ H1 _ I1 q1) fun us s2 ⟨xs,H2,I2,r2,q2⟩=>⟨x::xs,H2,I2,.cons r1 r2,q2⟩
noncomputable def qNK (t:TA):TE:=fun σ H Q=>t σ H fun xs H1=>xs.length<=sizeLine/\∀ p,H1 p=none->Q (.ref p) (upd H1 p (.tup xs))
noncomputable def qNC (t:TA):TE:=fun σ H Q=>t σ H fun xs H1=>xs.length<=sizeLine/\∀ p,H1 p=none->Q (.ref p) (upd H1 p (.lst xs))
theorem QF {x1} (h:PA X es t):PE X (.Tuple es x1 pos) (qNK t):=by
 intro pins s σ H Q I hq
 refine wpAny_Tuple_spliced (thn (h pos pins s σ H _ I hq) fun us s1 ⟨xs,H1,I1,r,z,q⟩=>⟨by rw [<- r.length]; exact z,?_⟩)
 have hf:H1 s1.heap.objs.size=none:=I1.hok.fresh (wF _)
 refine ⟨.ref s1.heap.objs.size,upd H1 s1.heap.objs.size (.tup xs),I1.laid (t':=s1.toks) (fun b u e=>wG _ e) (wF _) ?_,rfl,q _ hf⟩
 exact ⟨z,us,r,⟨_,zB _ rfl,rfl,_,rfl⟩,NoD.new rfl⟩
theorem jB (h:PA X es t):PE X (.List es pos) (qNC t):=by
 intro pins s σ H Q I hq
 refine wpAny_List_spliced (thn (h pos pins s σ H _ I hq) fun us s1 ⟨xs,H1,I1,r,z,q⟩=>⟨by rw [<- r.length]; exact z,?_⟩)
 have hf:H1 s1.heap.objs.size=none:=I1.hok.fresh (wF _)
 refine ⟨.ref s1.heap.objs.size,upd H1 s1.heap.objs.size (.lst xs),I1.laid (t':=s1.toks) (fun b u e=>wG _ e) (wF _) ?_,rfl,q _ hf⟩
 exact ⟨z,us,0,r,zB _ rfl⟩
end
noncomputable abbrev Sp:=List V->Hp->VK->XK->Prop
noncomputable abbrev CXT:=List Env->Hp->Shared->XK->Value->Shared->Prop
structure qL3 (P:Program) (w:World) (K:wD) (mg:Str->Option Value) (base:Heap) (A:Around) (outer:List Env) (s:Shared) (H:Hp):Prop where
 frames:A.frames=some outer
 mod:Mod K mg base
 bs:∀ b o,base.get? b=some o->s.heap.get? b=some o/\H b=none
 bsz:base.objs.size<=s.heap.objs.size
 funs:s.heap.FunFrames base outer
 frf:∀ b∈frs outer,H b=none
 hok:HOk P w H s.heap
 bare:AllBare s.gens
noncomputable def CE (outer:List Env) (P:Program) (w:World) (H:Hp) (s:Shared) (Q:VK) (u:Value) (s':Shared):Prop:=
 ∃ v H',s'.os=s.os/\AllBare s'.gens/\Un (frs outer) [] H H' s.heap s'.heap/\HOk P w H' s'.heap/\RelV v u/\Q v H'
noncomputable def CR (CX:CXT) (outer:List Env) (P:Program) (w:World) (H:Hp) (s:Shared) (Q:VK) (E:XK) (r:Result) (s':Shared):Prop:=
 match r with
 | .ok (.ret u)=>CE outer P w H s Q u s'
 | .ok _=>False
 | .error e=>CX outer H s E e s'
structure j7 (P:Program) (w:World) (K:wD) (mg:Str->Option Value) (base:Heap) (CX:CXT) (k:Nat) (f:Addr) (fd:FuncData) (ps:List Str) (sp:Sp):Prop where
 len:∀ vs H Q E,sp vs H Q E->vs.length=ps.length
 run:∀(A:Around) (outer:List Env) (s:Shared) (H:Hp) (args:Args) (us:List Value) (vs:List V) (Q:VK) (E:XK),Yd k A->qL3 P w K mg base A outer s H->BindsTo s fd args (ps.zip us)->qh vs us->sp vs H Q E->
  codeAny (model P w) A (.call (.ref f) args) (CR CX outer P w H s Q E) s
section
variable {X:Cx} {pins:List (Addr×Obj)} {σ:St} {H:Hp} {s s':Shared}
theorem Inv.env0 (I:Inv X pins σ H s):qL3 X.prog X.w X.K X.mg X.base X.A X.stack s H:=
 ⟨I.ok.frames,I.ok.mod,I.bs,zK I.ok.bsz I.sz,I.stack,I.stkFree,I.hok,I.bare⟩
theorem Inv.after {Q:VK} {u:Value} (I:Inv X pins σ H s) (h:CE X.stack X.prog X.w H s Q u s'):EP X pins σ Q u s':=by
 obtain ⟨v,H',os,bare,un,hok,r,q⟩:=h
 obtain ⟨hh,g,d,t,os'⟩:=s'
 obtain rfl:os'=s.os:=os
 exact ⟨v,H',I.call (h':=hh) (g':=g) (d':=d) (t':=t) (ch:=[]) un hok bare (fun b z=>absurd z (by simp)),r,q⟩
end
noncomputable def qGn (sp:Sp) (dvs:List V) (E:XK) (t:TA):TE:=fun σ H Q=>t σ H fun vs H1=>sp (vs++dvs) H1 Q E
noncomputable def Binds (K:wD) (fd:FuncData) (ps:List Str) (ds:List Value):Prop:=
 ∀(s:Shared) (us:List Value),K.In s.heap->(us++ds).length=ps.length->BindsTo s fd ⟨us,[]⟩ (ps.zip (us++ds))
theorem Binds.all {K:wD} {fd:FuncData} {ps:List Str} (h:∀ us:List Value,us.length=ps.length->bindArgs fd ⟨us,[]⟩=pure (ps.zip us)):Binds K fd ps []:=fun s us _ hl=>by
 rw [zI] at hl ⊢
 exact .of_eq (h us hl)
noncomputable def qAy (CX:CXT) (X:Cx) (E:XK):Prop:=∀(pins:List (Addr×Obj)) (σ:St) (H:Hp) (s:Shared) (e:Value) (s':Shared),Inv X pins σ H s->CX X.stack H s E e s'->X.xe e s'
section
variable {X:Cx} {CX:CXT} {k:Nat} {f C:Addr} {fd:FuncData} {ps:List Str} {sp:Sp} {dvs:List V} {ds:List Value} {E:XK} {x m:Str} {p pos apos:Pos} {e o:Expr} {es:List Expr} {ta:TE} {t:TA}
theorem qLX {pins:List (Addr×Obj)} {σ:St} {H:Hp} {s:Shared} {Q:VK} {us:List Value} {vs:List V} (F:j7 X.prog X.w X.K X.mg X.base CX k f fd ps sp) (hr:Yd k X.A) (hb:Binds X.K fd ps ds) (hd:qh dvs ds) (hx:qAy CX X E)
  (I:Inv X pins σ H s) (r:qh vs us) (h:sp (vs++dvs) H Q E):wpAny (model X.prog X.w) X.A (call (.ref f) us) (EP X pins σ Q) X.xe s:=by
 have r2:qh (vs++dvs) (us++ds):=r.append hd
 have hl:(us++ds).length=ps.length:=by rw [<- r2.length]; exact F.len _ _ _ _ h
 refine UW (gX (F.run X.A X.stack s H ⟨us,[]⟩ (us++ds) (vs++dvs) Q E hr I.env0 (hb s us I.kIn hl) r2 h) fun r s' hq=>?_)
 cases r with
 | error e=>exact hx pins σ H s e s' I hq
 | ok fl=>
  cases fl with
  | ret u=>exact I.after hq
  | next=>exact kH hq
  | brk=>exact kH hq
  | cont=>exact kH hq
theorem qGB (F:j7 X.prog X.w X.K X.mg X.base CX k f fd ps sp) (hr:Yd k X.A) (hg:Gl X x) (hm:X.mg x=some (.ref f)) (hk:UX X.K (.ref f)=true) (hb:Binds X.K fd ps ds) (hd:qh dvs ds) (hx:qAy CX X E)
  (ha:PA X (e::es) t) (hdb:(x == ("__debug__" : Str))=false:=by decide) (he:starEach (e::es) X.env=(false,eval e X.env)::starEach es X.env:=by rfl) (hpl:(backTo pos (starEach es X.env)).any (·.1)=false:=by rfl) :
  PE X (.Call (.Name x p) (e::es) [] pos) (qGn sp dvs E t):=by
 intro pins s σ H Q I h
 refine kK (YQ I hg hm ?_ hdb)
 refine PySem.W.callWith_K (h₀:=X.base) I.ok.mod.kin hk (thn (ha pos pins s σ H _ I h) fun us s1 ⟨vs,H1,I1,r,q⟩=>⟨I1.kIn,?_⟩) he hpl
 exact qLX F hr hb hd hx I1 r q
end
structure qb (N P:List Str) (sc:Scope):Prop where
 kind:sc.kind=.function
 co:sc.isCoroutine=false
 gen:sc.isGenerator=false
 nd:N.Nodup
 pre:N.take P.length=P
 par:∀ x∈P,sc.names.lookup x=some .local\/sc.names.lookup x=some .cell
 nofree:∀ y∈sc.names,y.2≠.free
theorem qBN {kindOf:Str->Option NameKind} {x:Str}:∀{binds:List (Str×Value)} {m:Str->Option Value},(∀ v,(x,v)∉binds)->bindL kindOf binds m x=m x
 | [],_,_=>rfl
 | (n,v)::r,m,h=>by
  unfold bindL
  rw [qBN fun w hw=>h w (wI _ hw)]
  split
  ·have:x≠n:=by rintro rfl; exact h v wL
   simp [this]
  ·rfl
theorem qBE {kindOf:Str->Option NameKind} {x:Str}:∀{binds:List (Str×Value)} {m:Str->Option Value},(∀ v,(x,v)∉binds)->bindC kindOf binds m x=m x
 | [],_,_=>rfl
 | (n,v)::r,m,h=>by
  unfold bindC
  rw [qBE fun w hw=>h w (wI _ hw)]
  split
  ·rfl
  ·have:x≠n:=by rintro rfl; exact h v wL
   simp [this]
theorem qAw {kindOf:Str->Option NameKind} {x:Str} {v:Value}:∀{P:List Str} {vs:List Value} {i:Nat} {m:Str->Option Value},P.Nodup->P[i]? = some x->vs[i]? = some v->kindOf x=some .local->
  bindL kindOf (P.zip vs) m x=some v
 | [],_,_,_,_,h,_,_=>by simp at h
 | _::_,[],_,_,_,_,h,_=>by simp at h
 | p::P,w::vs,0,m,nd,h1,h2,hk=>by
  simp at h1 h2; subst h1; subst h2
  show bindL kindOf ((p,w)::P.zip vs) m p=_
  unfold bindL
  rw [qBN fun v hv=>(zX.mp nd).1 (UH hv).1,if_pos hk]
  simp
 | p::P,w::vs,i+1,m,nd,h1,h2,hk=>by
  show bindL kindOf ((p,w)::P.zip vs) m x=_
  unfold bindL
  exact qAw (i:=i) (zX.mp nd).2 (by simpa using h1) (by simpa using h2) hk
theorem qBI {kindOf:Str->Option NameKind} {x:Str} {v:Value}:∀{P:List Str} {vs:List Value} {i:Nat} {m:Str->Option Value},P.Nodup->P[i]? = some x->vs[i]? = some v->kindOf x≠some .local->
  bindC kindOf (P.zip vs) m x=some v
 | [],_,_,_,_,h,_,_=>by simp at h
 | _::_,[],_,_,_,_,h,_=>by simp at h
 | p::P,w::vs,0,m,nd,h1,h2,hk=>by
  simp at h1 h2; subst h1; subst h2
  show bindC kindOf ((p,w)::P.zip vs) m p=_
  unfold bindC
  rw [qBE fun v hv=>(zX.mp nd).1 (UH hv).1,if_neg hk]
  simp
 | p::P,w::vs,i+1,m,nd,h1,h2,hk=>by
  show bindC kindOf ((p,w)::P.zip vs) m x=_
  unfold bindC
  exact qBI (i:=i) (zX.mp nd).2 (by simpa using h1) (by simpa using h2) hk
noncomputable def start (N:List Str) (vs:List V):St:=vs.map some++wO (N.length - vs.length) none
noncomputable def qD8 (CX:CXT) (P:Program) (w:World) (K:wD) (mg:Str->Option Value) (base:Heap) (N:List Str) (qual:Str) (scope:Scope) (f:Addr) (cd:Value) (A:Around) (outer:List Env) (s:Shared) (H:Hp) (E:XK):Cx where
 prog:=P
 w:=w
 K:=K
 mg:=mg
 base:=base
 A:=A.deeper (envOfC qual scope s.heap.objs.size f cd)
 N:=N
 s₀:=s
 H₀:=H
 env:=envOfC qual scope s.heap.objs.size f cd
 outer:=outer
 stack:=envOfC qual scope s.heap.objs.size f cd::outer
 ex:=[]
 calm:=true
 fn:=fun _=>true
 pn:=[]
 xe:=fun e s'=>wpAny (model P w) (A.deeper (envOfC qual scope s.heap.objs.size f cd)) (leaving (envOfC qual scope s.heap.objs.size f cd) e) (fun _ s''=>CX outer H s E e s'') (fun e' s''=>CX outer H s E e' s'') s'
theorem Jh {sc:Scope} {n:Nat} {x:Str} (h:sc.names.lookup x=some .cell):∃ c,(cellsFrom n sc.names []).lookup x=some c:=by
 have q:=PySem.W.cellsFrom_some sc.names n [] (.inl h)
 exact TU.mp q
theorem qEq {CX:CXT} {P:Program} {w:World} {K:wD} {mg:Str->Option Value} {base:Heap} {N ps:List Str} {qual:Str} {scope:Scope} {f:Addr} {cd:Value} {A:Around} {outer:List Env} {s s1:Shared} {H:Hp} {E:XK} {us:List Value} {vs:List V}
  (S:qb N ps scope) (hd:A.handled=none) (e0:qL3 P w K mg base A outer s H) (hl:vs.length=ps.length) (r:qh vs us)
  (x:InCallC s s.heap.objs.size (bindL (envOfC qual scope s.heap.objs.size f cd).kindOf (ps.zip us) fun _=>none) (cellsFrom (s.heap.objs.size+1) scope.names []) (bindC (envOfC qual scope s.heap.objs.size f cd).kindOf (ps.zip us) fun _=>none) s1) :
  Inv (qD8 CX P w K mg base N qual scope f cd A outer s H E) [] (start N vs) H s1:=by
 have hpl:ps.length<=N.length:=by have:=congrArg fL S.pre; rw [zP] at this; omega
 obtain ⟨h1,tk,rfl,hk⟩:=x.done
 have noA:∀ b:Addr,b∉(qD8 CX P w K mg base N qual scope f cd A outer s H E).ex:=fun b z=>absurd (show b∈([]:List Addr) from z) (by simp)
 refine ⟨⟨e0.mod,S.kind,rfl,rfl,wF _,fun y z c h1 h2=>?_,fun y hy=>?_,fun y c _ h=>?_,fun _=>hd,Around.frames_deeper e0.frames,.inr ⟨rfl,rfl⟩,fun b z=>absurd z (noA b),e0.bs,e0.bsz,fun b _ _=>noA b,fun b z=>absurd z (noA b),e0.funs,e0.frf⟩,
  rfl,e0.bare,Un.kept hk,⟨_,x.toInCall.ns,fun i y v h1 h2 h3=>?_⟩,fun y c h=>⟨_,x.cell y c h⟩,e0.hok.fresh (wF _),fun y c h=>?_,fun p hp=>absurd (show p∈([]:List (Addr×Obj)) from hp) (by simp),e0.hok.kept hk,?_⟩
 ·exact name_of_addr x.apart (vH h1) (vH h2)
 ·have hy:scope.names.lookup y=some .cell\/scope.names.lookup y=some .free:=hy
  rcases hy with hy | hy
  ·exact Jh hy
  ·exact absurd rfl (S.nofree _ (vH hy))
 ·exact xU (x.above y c (vH h))
 ·have hi:i<vs.length:=by
   unfold start at h2
   by_cases hi:i<vs.length
   ·exact hi
   ·rw [zO (by simpa using hi)] at h2
    rw [vN] at h2
    split at h2 <;> cases h2
  have ha:vs[i]? = some v:=by
   unfold start at h2
   rw [yL (by simpa using hi),wQ] at h2
   cases e:vs[i]? with
   | none=>rw [e] at h2; cases h2
   | some a=>rw [e] at h2; cases h2; rfl
  obtain ⟨u,hu,rv⟩:=r.get ha
  have hp:ps[i]? = some y:=by
   rw [<- S.pre,TV (by omega)]; exact h1
  have ndP:ps.Nodup:=by rw [<- S.pre]; exact S.nd.sublist (xG _ _)
  refine ⟨u,rv,?_⟩
  rcases S.par y (yD hp) with k | k
  ·exact .inl ⟨k,qAw ndP hp hu k⟩
  ·obtain ⟨c,e⟩:=Jh (n:=s.heap.objs.size+1) k
   refine .inr ⟨.inl k,c,e,?_⟩
   have q:=x.cell y c e
   rw [qBI ndP hp hu (by show scope.names.lookup y≠_; rw [k]; decide)] at q
   exact q
 ·exact e0.hok.fresh (xU (x.above y c (vH h)))
 ·unfold start
  show _=N.length
  rw [wV,wB,zG]
  omega
theorem qKa {CX:CXT} {P:Program} {w:World} {K:wD} {mg:Str->Option Value} {base:Heap} {k:Nat} {f:Addr} {name qual:Str} {params:Arguments} {body:List Stmt} {scope:Scope} {dV kV doc pm cdv ct oc:Value} {an od:Option Addr}
  {osl:Array (Option Value)} {N ps:List Str} {sp:Sp} (lk:K.lookup f=some ⟨oc,od,.func (hV name qual params body scope dV kV doc pm an cdv ct),osl⟩) (hcd:UY K cdv qual=true) (S:qb N ps scope)
  (len:∀ vs H Q E,sp vs H Q E->vs.length=ps.length)
  (hbody:∀(A:Around) (outer:List Env) (s:Shared) (H:Hp) (vs:List V) (Q:VK) (E:XK),Yd k (A.deeper (envOfC qual scope s.heap.objs.size f cdv))->sp vs H Q E->
   ∃ t,PSs (qD8 CX P w K mg base N qual scope f cdv A outer s H E) body t/\t { nx:=fun _ H'=>Q .non H',rt:=Q } (start N vs) H) :
  j7 P w K mg base CX (k+1) f (hV name qual params body scope dV kV doc pm an cdv ct) ps sp:=by
 refine ⟨len,fun A outer s H args us vs Q E hr e0 hb r hsp=>?_⟩
 have hl:=len _ _ _ _ hsp
 have KX:K.In s.heap:=e0.mod.kin.keeps fun b o e=>(e0.bs b o e).1
 have lim:s.heap.NoLimit:=e0.mod.nolimit.keeps fun b o e=>(e0.bs b o e).1
 have hkind:∀ y∈ps.zip us,scope.names.lookup y.1=some .local\/(scope.names.lookup y.1=some .cell/\((cellsFrom (s.heap.objs.size+1) scope.names []).lookup y.1).isSome=true):=fun ⟨n,v⟩ hy=>by
  rcases S.par n (UH hy).1 with q | q
  ·exact .inl q
  ·exact .inr ⟨q,PySem.W.cellsFrom_some _ _ _ (.inl q)⟩
 refine codeAny_call_function hr.depth (KX _ _ lk) rfl S.co S.gen rfl (PySem.W.codeRec_of KX hcd) (hb _ _ _ _ ?_)
 refine wpAny_newFunctionEnv_cells S.kind hkind fun env he s1 x=>?_
 subst he
 refine ⟨lim.keeps x.toInCall.keep,codeAny_func ?_⟩
 obtain ⟨t,ht,hq⟩:=hbody A outer s H vs Q E (hr.deeper _) hsp
 have I:Inv (qD8 CX P w K mg base N qual scope f cdv A outer s H E) [] (start N vs) H s1:=qEq S hr.hd e0 hl r x
 refine xB (ht [] s1 (start N vs) H _ I hq) (fun fl s' hs=>?_) fun e s' hs=>hs
 have fin:∀{σ':St} {H':Hp} {v:V} {u:Value},Inv (qD8 CX P w K mg base N qual scope f cdv A outer s H E) [] σ' H' s'->RelV v u->Q v H'->CE outer P w H s Q u s':=
  fun {σ' H' v u} J rv q=>⟨v,H',J.os,J.bare,J.base,J.hok,rv,q⟩
 cases fl with
 | ret u=>
  obtain ⟨v,σ',H',J,rv,q⟩:=hs
  exact fin J rv q
 | next=>
  obtain ⟨σ',H',J,q⟩:=hs
  exact fin (v:=V.non) (u:=vP) J rfl q
 | brk=>
  obtain ⟨_,_,_,q⟩:=hs
  exact kH q
 | cont=>
  obtain ⟨_,_,_,q⟩:=hs
  exact kH q
section
variable {X:Cx} {x:Str} {p pos:Pos} {e:Expr} {es:List Expr} {t:TA} {id T:String} {r:List V->Hp->VK->Prop}
noncomputable def tCB (r:List V->Hp->VK->Prop) (t:TA):TE:=fun σ H Q=>t σ H fun vs H1=>r vs H1 Q
theorem qW (hc:j5 X (.builtin id) r) (hg:Gl X x) (hm:X.mg x=none) (hv:bootBuiltins x=some (.builtin id)) (ha:PA X (e::es) t) (hn:x≠"__name__":=by decide) (hdb:(x == ("__debug__" : Str))=false:=by decide)
  (he:starEach (e::es) X.env=(false,eval e X.env)::starEach es X.env:=by rfl) (hpl:(backTo pos (starEach es X.env)).any (·.1)=false:=by rfl):PE X (.Call (.Name x p) (e::es) [] pos) (tCB r t):=by
 intro pins s σ H Q I h
 refine kK (Ql I hg hm hv ?_ hn hdb)
 exact fI (thn (ha pos pins s σ H _ I h) fun us s1 ⟨vs,H1,I1,r1,q1⟩=>hc pins s1 σ H1 vs us Q I1 r1 q1) he hpl
theorem jO (hc:j5 X (.type T) r) (hg:Gl X x) (hm:X.mg x=none) (hv:bootBuiltins x=some (.type T)) (ha:PA X (e::es) t) (hn:x≠"__name__":=by decide) (hdb:(x == ("__debug__" : Str))=false:=by decide)
  (he:starEach (e::es) X.env=(false,eval e X.env)::starEach es X.env:=by rfl) (hpl:(backTo pos (starEach es X.env)).any (·.1)=false:=by rfl):PE X (.Call (.Name x p) (e::es) [] pos) (tCB r t):=by
 intro pins s σ H Q I h
 refine kK (Ql I hg hm hv ?_ hn hdb)
 exact uG (thn (ha pos pins s σ H _ I h) fun us s1 ⟨vs,H1,I1,r1,q1⟩=>hc pins s1 σ H1 vs us Q I1 r1 q1) he hpl
end
end L2
namespace HT
open PySem PyProof.Rows
noncomputable def lexLt:List Int->List Int->Bool
 | [],[]=>false
 | [],_::_=>true
 | _::_,[]=>false
 | x::xs,y::ys=>if x=y then lexLt xs ys else decide (x<y)
theorem lexLt_cons (x y:Int) (xs ys:List Int):lexLt (x::xs) (y::ys)=if x=y then lexLt xs ys else decide (x<y):=rfl
theorem lexLt_nil_nil:lexLt [] []=false:=rfl
theorem lexLt_nil_cons (y:Int) (ys:List Int):lexLt [] (y::ys)=true:=rfl
theorem lexLt_cons_nil (x:Int) (xs:List Int):lexLt (x::xs) []=false:=rfl
theorem eqAt_int (A:Around) (s:Shared) (a:Int) (t:Tok) (c:Int) (u:Tok):∃ e,fV A s (.int a t) (.int c u) e/\(e=true↔a=c):=
 ⟨(a == c),SeqAt.EqAt.int_int a t c u,by simp⟩
theorem rcLt_int (A:Around) (s:Shared) (a:Int) (t:Tok) (c:Int) (u:Tok) (prog:Program) (w:World) (E:Value->Shared->Prop) (Q:Value->Shared->Prop) (h:Q (.bool (decide (a<c))) s) :
  wpAny (model prog w) A (richCompare .Lt (.int a t) (.int c u)) Q E s:=
 (PyProof.Rows.lt_int h:wpAny (model prog w) A (compareOp .Lt (.int a t) (.int c u)) Q E s)
section
open PySem.SeqAt
open PySem.AutoSeq1 (wpAny_loadPart')
open PySem.MeetsSeq PySem.MeetsSeq2 PySem.MeetsSeq3
end
section
variable {prog:Program} {w:World} {A:Around} {E:Value->Shared->Prop} {s:Shared}
theorem cat_tup {t b:Addr} {vs ws:List Value} {Q:Value->Shared->Prop} (ht:IsTup s.heap t vs.toArray) (hb:IsTup s.heap b ws.toArray) (hv:vs≠[])
  (h1:ws=[]->Q (.ref t) s) (h2:ws≠[]->Q (.ref s.heap.objs.size) { s with heap:=s.heap.push { cls:=.type "tuple",data:=.seq (vs++ws).toArray } })
  (hsz:vs.length+ws.length<=sizeLine):wpAny (model prog w) A (binaryOp .Add (.ref t) (.ref b)) Q E s:=by
 obtain ⟨⟨cls,dd,data,sl⟩,ho,hc,n,hd⟩:=id ht
 obtain ⟨⟨cls2,dd2,data2,sl2⟩,ho2,hc2,n2,hd2⟩:=id hb
 simp only at hc hd hc2 hd2
 subst hc hd hc2 hd2
 have e:vs.toArray++ws.toArray=(vs++ws).toArray:=by simp
 by_cases hw:ws=[]
 ·exact VG ⟨_,ho,rfl⟩ ⟨_,ho2,rfl⟩ VS TX ZU ZQ (ZJ _ _)
   (tuple_addW1 t b vs.toArray ws.toArray n n2 dd dd2 sl sl2 (by simpa using hv) (by simp [hw])) ⟨ho,ho2,h1 hw⟩
 ·refine VG ⟨_,ho,rfl⟩ ⟨_,ho2,rfl⟩ VS TX ZU ZQ (ZJ _ _)
   (tuple_addW2 t b vs.toArray ws.toArray n n2 dd dd2 sl sl2 (by simpa using hv) (by simpa using hw) (by rw [wJ,wJ]; exact hsz)) ⟨ho,ho2,?_⟩
  rw [e]
  exact h2 hw
noncomputable def sIx (n d:Nat):Option Int->Nat
 | none=>d
 | some v=>if v<0 then (v+(n:Int)).toNat else min v.toNat n
theorem qKR (n d:Nat) (hd:d<=n) (o:Option Int):sIx n d o<=n:=by
 cases o with
 | none=>exact hd
 | some v=>
  show (if v<0 then (v+(n:Int)).toNat else min v.toNat n)<=n
  by_cases hv:v<0
  ·rw [if_pos hv]; omega
  ·rw [if_neg hv]; exact Nat.min_le_right _ _
theorem qER (v:Int) (n d:Nat):(if v<0 then max (v+(n:Int)) 0 else min v (n:Int))=((sIx n d (some v):Nat):Int):=by
 show (if v<0 then max (v+(n:Int)) 0 else min v (n:Int))=(((if v<0 then (v+(n:Int)).toNat else min v.toNat n):Nat):Int)
 by_cases hv:v<0
 ·simp only [if_pos hv]; omega
 ·simp only [if_neg hv]; omega
theorem qD1 (lo hi:Option Int) (n:Nat):ZA lo hi 1 (n:Int)=(((sIx n 0 lo:Nat):Int),((sIx n n hi:Nat):Int)):=by
 have h1:¬ ((1:Int)<0):=by omega
 unfold ZA
 simp only [h1,if_false]
 refine Prod.ext ?_ ?_
 ·cases lo with
  | none=>rfl
  | some v=>exact qER v n 0
 ·cases hi with
  | none=>rfl
  | some v=>exact qER v n n
theorem qDY (i j:Nat):gC (i:Int) (j:Int) 1=j - i:=by
 unfold gC
 have h1:(1:Int) > 0:=by omega
 simp only [h1,if_true,Int.ediv_one]
 split <;> omega
theorem Yl {v:Value} {o:Option Int} {Q:Option Int->Shared->Prop} (p:IsPart v o) (h:Q o s):wpAny (model prog w) A (Builtin.Slice.slicePartIndex v) Q E s:=by
 cases p with
 | none=>exact slicePart_none h
 | int i t=>exact slicePart_int h
theorem jz {sl:Addr} {vl vu:Value} {lo hi:Option Int} {n:Nat} {Q:Int×Int×Nat->Shared->Prop} (hs:s.heap.IsSliceOf sl vl vu .none) (pl:IsPart vl lo) (pu:IsPart vu hi)
  (h:Q (((sIx n 0 lo:Nat):Int),1,sIx n n hi - sIx n 0 lo) s):wpAny (model prog w) A (UZ (.ref sl) (pure (n:Int))) Q E s:=by
 obtain ⟨os,hos,hcs,hds⟩:=id hs
 unfold UZ Builtin.Slice.sliceFields
 refine wC (wC (kF hos hds (x:=vl) rfl (wC (kF hos hds (x:=vu) rfl (wC (kF hos hds (x:=.none) rfl (wK ?_)))))))
 refine wC (slicePart_none ?_)
 show wpAny _ _ (if ((1:Int) == 0)=true then _ else _) _ _ s
 rw [if_neg (by decide)]
 refine wC (Yl pl (wC (Yl pu (wC (wK ?_)))))
 show wpAny _ _ (match ZA lo hi 1 (n:Int) with | (lo,hi)=>pure (lo,(1:Int),gC lo hi 1)) _ _ s
 rw [qD1 lo hi n]
 show wpAny _ _ (pure (((sIx n 0 lo:Nat):Int),(1:Int),gC ((sIx n 0 lo:Nat):Int) ((sIx n n hi:Nat):Int) 1)) _ _ s
 rw [qDY]
 exact wK h
theorem qHJ (xs:Array Value) (i k:Nat):((zA k).filterMap fun (m:Nat)=>xs[((i:Int)+(m:Int)*1).toNat]?).toArray=((xs.toList.drop i).take k).toArray:=by
 have e:(fun (m:Nat)=>xs[((i:Int)+(m:Int)*1).toNat]?)=fun m=>xs[i+m]?:=by
  funext m
  have:((i:Int)+(m:Int)*1).toNat=i+m:=by omega
  rw [this]
 rw [e]
 have:=pick_run xs i k
 rw [List.filterMap_map] at this
 have e2:((fun x=>xs[x]?)∘fun x=>i+x)=fun m=>xs[i+m]?:=rfl
 rw [e2] at this
 rw [this]
theorem getItem_tuple_cut {t sl:Addr} {items:Array Value} {vl vu:Value} {lo hi:Option Int} {Q:Value->Shared->Prop} (ht:IsTup s.heap t items) (hs:s.heap.IsSliceOf sl vl vu .none) (pl:IsPart vl lo) (pu:IsPart vu hi)
  (hw:¬ (sIx items.size 0 lo=0/\sIx items.size items.size hi=items.size))
  (h:Q (.ref s.heap.objs.size) { s with heap:=s.heap.push { cls:=.type "tuple",data:=.seq ((items.toList.drop (sIx items.size 0 lo)).take (sIx items.size items.size hi - sIx items.size 0 lo)).toArray } })
  (hsz:items.size<=sizeLine):wpAny (model prog w) A (getItem (.ref t) (.ref sl)) Q E s:=by
 have htake:sizeOk (.seq ((items.toList.drop (sIx items.size 0 lo)).take (sIx items.size items.size hi - sIx items.size 0 lo)).toArray):=by
  show ((items.toList.drop (sIx items.size 0 lo)).take (sIx items.size items.size hi - sIx items.size 0 lo)).toArray.size<=sizeLine
  rw [wJ,zP,xQ,wN]
  omega
 have hj:sIx items.size items.size hi<=items.size:=qKR _ _ (wF _) hi
 obtain ⟨os,hos,hcs,hds⟩:=id hs
 have hTs:s.TypeIs (.ref sl) "slice":=⟨os,hos,hcs⟩
 unfold getItem
 try with_reducible refine vR ?_
 first | refine wC (wK ?_) | skip
 refine wC (wpAny_sequenceKey ht.typeIs (by decide) ?_)
 refine wC (xD (name:=uH "__getitem__") ht.typeIs vO
  (yX vO ht.typeIs entry_tuple_getitem ?_ (args_tuple_getitem _ _)))
 show wpAny _ _ (TB (.ref t) >>= _) _ _ s
 refine wC (tupleItemsOf_ ht ?_)
 refine wC (ZV hTs ?_)
 rw [if_pos (by decide)]
 refine wC (jz hs pl pu ?_)
 have hno:¬ ((((sIx items.size 0 lo:Nat):Int) == 0 && (1:Int) == 1 && (sIx items.size items.size hi - sIx items.size 0 lo) == items.size)=true):=by
  intro q
  rw [yY,yY] at q
  have q1:((sIx items.size 0 lo:Nat):Int)=0:=eq_of_beq q.1.1
  have q2:sIx items.size items.size hi - sIx items.size 0 lo=items.size:=eq_of_beq q.2
  exact hw ⟨by omega,by omega⟩
 show wpAny _ _ (if (((sIx items.size 0 lo:Nat):Int) == 0 && (1:Int) == 1 && (sIx items.size items.size hi - sIx items.size 0 lo) == items.size)=true then _ else _) _ _ s
 rw [if_neg hno,qHJ]
 first
  | exact wC (m:=gJ _) (vW (wK ⟨_,rfl,wK h⟩) htake)
  | exact wC (m:=gJ _) (vW (wC (wK (wK ⟨_,rfl,wK h⟩))) htake)
  | exact wC (wC (m:=gJ _) (vW (wK (wK ⟨_,rfl,wK h⟩)) htake))
  | exact wC (wC (m:=gJ _) (vW (wK ⟨_,rfl,wK h⟩) htake))
end
end HT
namespace L2
open PySem PySem.Spec PyProof.Rows
noncomputable abbrev TO:=St->Hp->(Option Int->Hp->Prop)->Prop
noncomputable def PO (X:Cx) (e:Option Expr) (t:TO):Prop:=
 ∀(pins:List (Addr×Obj)) (s:Shared) (σ:St) (H:Hp) (Q:Option Int->Hp->Prop),Inv X pins σ H s->t σ H Q->
  wpAny (model X.prog X.w) X.A (evalPart e X.env) (fun u s'=>∃ o H',Inv X pins σ H' s'/\IsPart u o/\Q o H') X.xe s
noncomputable def qEy:TO:=fun _ H Q=>Q none H
noncomputable def qKV (t:TE):TO:=fun σ H Q=>t σ H fun x H1=>∃ i,x=.int i/\Q (some i) H1
theorem intsAre_of {ns:List Int}:∀{us:List Value},qh (ns.map V.int) us->IntsAre us ns:=by
 induction ns with
 | nil=>intro us r; rw [fR] at r; cases r; exact .nil
 | cons n ns ih=>
  intro us r
  rw [zF] at r
  cases r with
  | cons r1 r2=>
   obtain ⟨t,e⟩:=r1
   subst e
   exact .cons n t (ih r2)
section
variable {X:Cx} {e:Expr} {te:TE} {lo hi:Option Expr} {tl th:TO} {pos p2:Pos}
theorem qF0:PO X none qEy:=by
 intro pins s σ H Q I h
 rw [evalPart_none]
 exact wK ⟨none,H,I,.none,h⟩
theorem qEd (h:PE X e te):PO X (some e) (qKV te):=by
 intro pins s σ H Q I hw
 rw [evalPart_some]
 refine thn (h pins s σ H _ I hw) fun u s1 ⟨x,H1,I1,r1,q1⟩=>?_
 obtain ⟨i,rfl,q⟩:=q1
 obtain ⟨t,rfl⟩:=r1
 exact ⟨some i,H1,I1,.int i t,q⟩
noncomputable def SlR (X:Cx) (r:V->Option Int->Option Int->Hp->VK->Prop):Prop:=
 ∀(pins:List (Addr×Obj)) (s:Shared) (σ:St) (H:Hp) (x:V) (v vl vu:Value) (lo hi:Option Int) (sl:Addr) (Q:VK),Inv X pins σ H s->RelV x v->s.heap.IsSliceOf sl vl vu .none->IsPart vl lo->IsPart vu hi->r x lo hi H Q->
  ∃ T id,typeLookup (.type T) "__getitem__" = pure (some (.builtin id))/\s.TypeIs v T/\wpAny (model X.prog X.w) X.A (getItem v (.ref sl)) (EP X pins σ Q) X.xe s
theorem SlR.or {r r':V->Option Int->Option Int->Hp->VK->Prop} (h:SlR X r) (h':SlR X r'):SlR X (fun x lo hi H Q=>r x lo hi H Q\/r' x lo hi H Q):=by
 intro pins s σ H x v vl vu lo hi sl Q I rx hs pl pu q
 rcases q with q | q
 ·exact h pins s σ H x v vl vu lo hi sl Q I rx hs pl pu q
 ·exact h' pins s σ H x v vl vu lo hi sl Q I rx hs pl pu q
noncomputable def tSl (r:V->Option Int->Option Int->Hp->VK->Prop) (te:TE) (tl th:TO):TE:=fun σ H Q=>te σ H fun x H1=>tl σ H1 fun l H2=>th σ H2 fun u H3=>r x l u H3 Q
theorem qCm {r:V->Option Int->Option Int->Hp->VK->Prop} (hr:SlR X r) (he:PE X e te) (hl:PO X lo tl) (hu:PO X hi th):PE X (.Subscript e (.Slice lo hi none p2) pos) (tSl r te tl th):=by
 intro pins s σ H Q I h
 refine Subscript_ (thn (he pins s σ H _ I h) fun v s1 ⟨x,H1,I1,r1,q1⟩=>?_)
 refine wpAny_Slice (thn (hl pins s1 σ H1 _ I1 q1) fun vl s2 ⟨l,H2,I2,pl,q2⟩=>thn (hu pins s2 σ H2 _ I2 q2) fun vu s3 ⟨u,H3,I3,pu,q3⟩=>?_)
 rw [evalPart_none]
 refine wK ?_
 have I4:Inv X pins σ H3 { s3 with heap:=s3.heap.push { cls:=.type "slice",data:=.fields #[vl,vu,.none] } }:=I3.kept (t':=s3.toks) fun b ob q=>wG _ q
 obtain ⟨T,id,hT,ht,hg⟩:=hr pins { s3 with heap:=s3.heap.push { cls:=.type "slice",data:=.fields #[vl,vu,.none] } } σ H3 x v vl vu l u s3.heap.objs.size Q I4 r1 (Heap.IsSliceOf.new ..) pl pu q3
 show wpAny (model X.prog X.w) X.A (subscriptTail e (.Slice lo hi none p2) v (.ref s3.heap.objs.size)) (EP X pins σ Q) X.xe { s3 with heap:=s3.heap.push { cls:=.type "slice",data:=.fields #[vl,vu,.none] } }
 exact tail_any (ops:=[.ref s3.heap.objs.size,v]) ht hT hg (by with_unfolding_all rfl)
noncomputable def qG4 (xs:List V) (lo hi:Option Int):List V:=(xs.drop (HT.sIx xs.length 0 lo)).take (HT.sIx xs.length xs.length hi - HT.sIx xs.length 0 lo)
theorem YR (xs:List V) (lo hi:Option Int):(qG4 xs lo hi).length<=xs.length:=by
 unfold qG4
 rw [zP,xQ]
 omega
noncomputable def qNk (K:wD):V->Option Int->Option Int->Hp->VK->Prop:=fun x lo hi H Q=>∃ a xs,x=.ref a/\SqT K H a xs/\
 ¬ (HT.sIx xs.length 0 lo=0/\HT.sIx xs.length xs.length hi=xs.length)/\∀ p,H p=none->Q (.ref p) (upd H p (.tup (qG4 xs lo hi)))
theorem qLZ:SlR X (qNk X.K):=by
 intro pins s σ H x v vl vu lo hi sl Q I rx hs pl pu h
 obtain ⟨a,xs,rfl,hx,hw,q⟩:=h
 cases rx
 obtain ⟨its,r,ht,hz⟩:=I.tuple hx
 have hlen:its.toArray.size=xs.length:=by rw [wJ]; exact r.length.symm
 refine ⟨"tuple",_,vO.lookup,ht.typeIs,?_⟩
 refine HT.getItem_tuple_cut ht hs pl pu (by rw [hlen]; exact hw) ?_ (by rw [hlen]; exact hz)
 rw [hlen]
 refine ⟨.ref s.heap.objs.size,_,I.laid (t':=s.toks) (o:=.tup (qG4 xs lo hi)) (fun b ob q=>wG _ q) (wF _) ?_,rfl,q _ (I.hok.fresh (wF _))⟩
 exact ⟨zK (YR xs lo hi) hz,_,(r.drop (HT.sIx xs.length 0 lo)).take (HT.sIx xs.length xs.length hi - HT.sIx xs.length 0 lo),IsTup.new _ _,NoD.new rfl⟩
noncomputable def qMB (K:wD):R2:=fun x y H Q=>∃ a b xs ys,x=.ref a/\y=.ref b/\SqT K H a xs/\SqT K H b ys/\xs≠[]/\xs.length+ys.length<=sizeLine/\
 (ys=[]->Q (.ref a) H)/\(ys≠[]->∀ p,H p=none->Q (.ref p) (upd H p (.tup (xs++ys))))
theorem qh.nil_iff {xs:List V} {us:List Value} (r:qh xs us):us=[]↔xs=[]:=by
 cases r with
 | nil=>simp
 | cons _ _=>simp
theorem qJu:OpR X (binaryOp .Add) (qMB X.K):=by
 intro pins s σ H x y v u Q I rx ry h
 obtain ⟨a,b,xs,ys,rfl,rfl,ha,hb,hx,hz,q1,q2⟩:=h
 cases rx
 cases ry
 obtain ⟨its,r1,p1,_⟩:=I.tuple ha
 obtain ⟨its2,r2,p2,_⟩:=I.tuple hb
 refine HT.cat_tup p1 p2 (fun z=>hx (r1.nil_iff.mp z)) (fun z=>⟨.ref a,H,I,rfl,q1 (r2.nil_iff.mp z)⟩) (fun z=>?_) (by rw [<- r1.length,<- r2.length]; exact hz)
 refine ⟨.ref s.heap.objs.size,_,I.laid (t':=s.toks) (o:=.tup (xs++ys)) (fun b ob q=>wG _ q) (wF _) ?_,rfl,q2 (fun w=>z (r2.nil_iff.mpr w)) _ (I.hok.fresh (wF _))⟩
 exact ⟨by rw [wV]; exact hz,_,r1.append r2,IsTup.new _ _,NoD.new rfl⟩
end
noncomputable def ixN (n:Nat) (i:Int):Option Nat:=if 0<=i then (if i<n then some i.toNat else none) else if -(n:Int)<=i then some (i+n).toNat else none
noncomputable def atI {α:Type} (xs:List α) (i:Int):Option α:=(ixN xs.length i).bind fun j=>xs[j]?
theorem qCT {n:Nat} {i:Int} {j:Nat} (h:ixN n i=some j):seqIndex? i n=some j/\j<n/\-(n:Int)<=i/\i<n:=by
 unfold ixN at h
 by_cases h0:0<=i
 ·rw [if_pos h0] at h
  by_cases h1:i<n
  ·rw [if_pos h1] at h
   have e:i.toNat=j:=zH h
   exact ⟨by rw [seqIndex_of h0 h1,e],by omega,by omega,h1⟩
  ·rw [if_neg h1] at h; cases h
 ·rw [if_neg h0] at h
  by_cases h1 : -(n:Int)<=i
  ·rw [if_pos h1] at h
   have e:(i+n).toNat=j:=zH h
   exact ⟨by rw [seqIndex_neg (by omega) h1,e],by omega,h1,by omega⟩
  ·rw [if_neg h1] at h; cases h
theorem qCR {α:Type} {xs:List α} {i:Int} {v:α} (h:atI xs i=some v):∃ j,seqIndex? i xs.length=some j/\xs[j]? = some v/\j<xs.length/\-(xs.length:Int)<=i/\i<xs.length:=by
 unfold atI at h
 cases e:ixN xs.length i with
 | none=>rw [e] at h; cases h
 | some j=>
  rw [e] at h
  obtain ⟨h1,h2,h3,h4⟩:=qCT e
  exact ⟨j,h1,h,h2,h3,h4⟩
theorem Qd {α:Type} {xs:List α} {j:Nat} {v:α} (h:xs[j]? = some v):atI xs (j:Int)=some v:=by
 have hj:j<xs.length:=(wM.mp h).1
 have e:ixN xs.length (j:Int)=some j:=by
  unfold ixN
  rw [if_pos (by omega),if_pos (by omega)]; simp
 unfold atI; rw [e]; exact h
theorem qHR {α:Type} (xs:List α) (v:α):atI (xs++[v]) (-1)=some v:=by
 have hl:(xs++[v]).length=xs.length+1:=by simp
 have e:ixN (xs++[v]).length (-1)=some xs.length:=by
  unfold ixN
  rw [hl,if_neg (by decide),if_pos (by omega)]
  congr 1
  omega
 unfold atI
 rw [e]
 show (xs++[v])[xs.length]? = some v
 simp
noncomputable def qFl (b:Expr):Prop:=∀ o i,subscripted b false o i=operate [o,i] (getItem o i)
noncomputable def IxR (X:Cx) (r:R2):Prop:=
 ∀(value slice:Expr) (pins:List (Addr×Obj)) (s:Shared) (σ:St) (H:Hp) (x y:V) (v u:Value) (Q:VK),Inv X pins σ H s->RelV x v->RelV y u->r x y H Q->
  subscripted slice false v u=operate [v,u] (getItem v u)->wpAny (model X.prog X.w) X.A (subscriptTail value slice v u) (EP X pins σ Q) X.xe s
noncomputable def MtR (X:Cx) (id:String) (r:V->List V->Hp->VK->Prop):Prop:=
 ∀(pins:List (Addr×Obj)) (s:Shared) (σ:St) (H:Hp) (x:V) (xs:List V) (v:Value) (us:List Value) (Q:VK),Inv X pins σ H s->RelV x v->qh xs us->r x xs H Q->
  wpAny (model X.prog X.w) X.A (call (.builtin id) (v::us)) (EP X pins σ Q) X.xe s
section
variable {X:Cx} {a b:Expr} {ta tb:TE} {pos:Pos}
theorem IxR.or {r r':R2} (h:IxR X r) (h':IxR X r'):IxR X (fun x y H Q=>r x y H Q\/r' x y H Q):=by
 intro value slice pins s σ H x y v u Q I rx ry q hs
 rcases q with q | q
 ·exact h value slice pins s σ H x y v u Q I rx ry q hs
 ·exact h' value slice pins s σ H x y v u Q I rx ry q hs
theorem qMA {r:R2} (hr:IxR X r) (ha:PE X a ta) (hb:PE X b tb) (hs:qFl b):PE X (.Subscript a b pos) (tOp r ta tb):=by
 intro pins s σ H Q I h
 exact Subscript_ (qMC ha hb I h fun v u s2 x y H2 I2 rx ry q=>hr a b pins s2 σ H2 x y v u Q I2 rx ry q (hs _ _))
noncomputable def qNQ (K:wD):R2:=fun x y H Q=>∃ p xs i v,x=.ref p/\y=.int i/\SqL K H p xs/\atI xs i=some v/\Q v H
noncomputable def qNN (K:wD):R2:=fun x y H Q=>∃ p xs i v,x=.ref p/\y=.int i/\SqT K H p xs/\atI xs i=some v/\Q v H
noncomputable def qNV:R2:=fun x y H Q=>∃ z i c,x=.str z/\y=.int i/\z.length<=sizeLine/\atI z.cps.toList i=some c/\Q (.str ⟨#[c]⟩) H
theorem qJc:IxR X (qNQ X.K):=by
 intro value slice pins s σ H x y v u Q I rx ry h hs
 obtain ⟨p,xs,i,z,rfl,rfl,hq,he,q⟩:=h
 cases rx
 obtain ⟨t,rfl⟩:=ry
 obtain ⟨its,r,pl,hz⟩:=I.list hq
 obtain ⟨j,h1,h2,h3,h4,h5⟩:=qCR he
 obtain ⟨w,ew,rw'⟩:=r.get h2
 have hl:=r.length
 have hn:=Yr
 have fin:EP X pins σ Q w s:=⟨z,H,I,rw',q⟩
 by_cases h0:0<=i
 ·have hj:i.toNat=j:=by
   rw [seqIndex_of h0 h5] at h1
   exact zH h1
  exact item_listR pl.isList h0 (by omega) (by rw [hj]; simpa using ew) fin hs
 ·have hj:(i+(its.toArray.size:Int)).toNat=j:=by
   rw [seqIndex_neg (by omega) h4] at h1
   rw [wJ,<- hl]
   exact zH h1
  exact subscriptTail_builtinR (x:=w) pl.isList.typeIs slot_list_getitem.lookup
   (wpAny_getItem_list_neg (Q:=fun r s'=>r=w/\EP X pins σ Q r s') pl.isList (by omega) (by rw [wJ] <;> omega) (by omega) (by rw [hj]; simpa using ew) ⟨rfl,fin⟩) hs
theorem qKw:IxR X (qNN X.K):=by
 intro value slice pins s σ H x y v u Q I rx ry h hs
 obtain ⟨p,xs,i,z,rfl,rfl,hq,he,q⟩:=h
 cases rx
 obtain ⟨t,rfl⟩:=ry
 obtain ⟨its,r,pl,hz⟩:=I.tuple hq
 obtain ⟨j,h1,h2,h3,h4,h5⟩:=qCR he
 obtain ⟨w,ew,rw'⟩:=r.get h2
 have hl:=r.length
 have hn:=Yr
 have fin:EP X pins σ Q w s:=⟨z,H,I,rw',q⟩
 exact subscriptTail_builtinR (x:=w) pl.typeIs slot_tuple_getitem.lookup
  (getItem_tuple (j:=j) (Q:=fun r s'=>r=w/\EP X pins σ Q r s') pl (by omega) (by omega) (by rw [wJ,<- hl]; exact h1) (by simpa using ew) ⟨rfl,fin⟩) hs
theorem qLp:IxR X qNV:=by
 intro value slice pins s σ H x y v u Q I rx ry h hs
 obtain ⟨z,i,c,rfl,rfl,hz,he,q⟩:=h
 obtain ⟨t,rfl⟩:=rx
 obtain ⟨t',rfl⟩:=ry
 obtain ⟨j,h1,h2,h3,h4,h5⟩:=qCR he
 have hl:z.cps.toList.length=z.length:=by simp [Str.length]
 rw [hl] at h1 h4 h5
 have hn:=Yr
 exact tail_any (typeIs_str s z t) slot_str_getitem.lookup (getItem_str (c:=c) (by
  have e1:decide (i < -(2 ^ 63:Int))=false:=decide_eq_false (by omega)
  have e2:decide (i≥2 ^ 63)=false:=decide_eq_false (by omega)
  rw [e1,e2,Bool.or_false]) (by rw [h1]; simpa using h2) ⟨.str ⟨#[c]⟩,H,I.tok _,⟨_,rfl⟩,q⟩) hs
noncomputable def rIx (K:wD):R2:=fun x y H Q=>qNQ K x y H Q\/qNN K x y H Q\/qNV x y H Q
theorem qLl:IxR X (rIx X.K):=qJc.or (qKw.or qLp)
theorem qD4 (its:List Value) (n j:Nat) (u:Value):fJ (·.setIfInBounds j u) { cls:=.type "list",data:=.seq its.toArray n } = { cls:=.type "list",data:=.seq (its.set j u).toArray n }:=by
 simp [fJ]
theorem Inv.lst {pins:List (Addr×Obj)} {σ:St} {H:Hp} {s:Shared} {p:Addr} {xs:List V} (I:Inv X pins σ H s) (h:H p=some (.lst xs)) :
  ∃(its:List Value) (n:Nat),qh xs its/\s.heap.get? p=some { cls:=.type "list",data:=.seq its.toArray n }/\xs.length<=sizeLine:=by
 obtain ⟨z,its,n,r,e⟩:=I.hok p _ h
 exact ⟨its,n,r,e,z⟩
theorem Inv.lstUpd {pins:List (Addr×Obj)} {σ:St} {H:Hp} {s:Shared} {p:Addr} {xs ys:List V} {its its':List Value} {n n':Nat} {f:Obj->Obj} (I:Inv X pins σ H s) (h:H p=some (.lst xs))
  (ho:s.heap.get? p=some { cls:=.type "list",data:=.seq its.toArray n }) (hf:f { cls:=.type "list",data:=.seq its.toArray n } = { cls:=.type "list",data:=.seq its'.toArray n' }) (r:qh ys its') (hz:ys.length<=sizeLine) (t:Nat) :
  Inv X pins σ (upd H p (.lst ys)) { s with heap:=s.heap.update p f,toks:=t }:=by
 have e:(s.heap.update p f).get? p=some { cls:=.type "list",data:=.seq its'.toArray n' }:=by
  rw [uR f ho (by rw [hf] <;> rfl),hf]
 refine I.write (x:=p) (e:=p) (by rw [h]; trivial) (.inl rfl) (fun b u hb q=>(uI _ _ (kX hb)).trans q) ⟨_,e⟩ ?_
 exact ⟨hz,its',n',r,e⟩
noncomputable def qJs:V->V->V->Hp->(Hp->Prop)->Prop:=fun o i v H Q=>∃ p xs k j,o=.ref p/\i=.int k/\H p=some (.lst xs)/\ixN xs.length k=some j/\Q (upd H p (.lst (xs.set j v)))
theorem set_list:qNO X qJs:=by
 intro pins s σ H o i v ov iv u Q I ro ri rv h
 obtain ⟨p,xs,k,j,rfl,rfl,hp,hj,q⟩:=h
 cases ro
 obtain ⟨t,rfl⟩:=ri
 obtain ⟨its,n,r,ho,hz⟩:=I.lst hp
 obtain ⟨h1,h2,h3,h4⟩:=qCT hj
 have hl:=r.length
 have hn:=Yr
 have I':Inv X pins σ (upd H p (.lst (xs.set j v))) { s with heap:=s.heap.update p (fJ (·.setIfInBounds j u)) }:=
  I.lstUpd hp ho (qD4 its n j u) (r.set rv j) (by rw [vC]; exact hz) s.toks
 by_cases h0:0<=k
 ·have hk:k.toNat=j:=by
   rw [seqIndex_of h0 h4] at h1
   exact zH h1
  exact PySem.W.ki_setAt ho h0 (by omega) (by rw [wJ,<- hl]; exact h4) (by rw [hk]; exact ⟨_,I',q⟩)
 ·have hk:(k+(its.toArray.size:Int)).toNat=j:=by
   rw [seqIndex_neg (by omega) h3] at h1
   rw [wJ,<- hl]
   exact zH h1
  exact PySem.W.ki_setBack ho (by omega) (by rw [wJ,<- hl]; exact h3) (by omega) (by rw [hk]; exact ⟨_,I',q⟩)
theorem qBY (lo hi:Option Int) (n:Nat):(sliceBounds lo hi none n).1=((HT.sIx n 0 lo:Nat):Int)/\(sliceBounds lo hi none n).2.1=((HT.sIx n n hi:Nat):Int)/\(sliceBounds lo hi none n).2.2=1:=by
 refine ⟨?_,?_,rfl⟩
 ·cases lo with
  | none=>simp [sliceBounds,HT.sIx]
  | some i=>
   simp only [sliceBounds,HT.sIx,Option.getD_none,show (1:Int) > 0 by decide,if_true]
   by_cases h:i<0
   ·simp only [h,if_true] <;> omega
   ·simp only [h,if_false] <;> omega
 ·cases hi with
  | none=>simp [sliceBounds,HT.sIx]
  | some i=>
   simp only [sliceBounds,HT.sIx,Option.getD_none,show (1:Int) > 0 by decide,if_true]
   by_cases h:i<0
   ·simp only [h,if_true] <;> omega
   ·simp only [h,if_false] <;> omega
theorem qAJ (its:List Value) (lo hi:Option Int):slicePick its.toArray lo hi none=((its.drop (HT.sIx its.length 0 lo)).take (HT.sIx its.length its.length hi - HT.sIx its.length 0 lo)).toArray:=by
 obtain ⟨h1,h2,h3⟩:=qBY lo hi its.toArray.size
 unfold slicePick
 rw [h1,h2,h3]
 simp only [sliceRange_one,pick_run,wJ] <;> rfl
noncomputable def qLv (K:wD):V->Option Int->Option Int->Hp->VK->Prop:=fun x lo hi H Q=>∃ a xs,x=.ref a/\SqL K H a xs/\∀ p,H p=none->Q (.ref p) (upd H p (.lst (qG4 xs lo hi)))
theorem qJK:SlR X (qLv X.K):=by
 intro pins s σ H x v vl vu lo hi sl Q I rx hs pl pu h
 obtain ⟨a,xs,rfl,hx,q⟩:=h
 cases rx
 obtain ⟨its,r,ht,hz⟩:=I.list hx
 have hlen:=r.length
 refine ⟨"list",_,slot_list_getitem.lookup,ht.isList.typeIs,?_⟩
 refine wpAny_getItem_list_slice ht.isList hs pl pu .none (by simp) ?_ (by rw [wJ] <;> omega)
 rw [qAJ,<- hlen]
 refine ⟨.ref s.heap.objs.size,_,I.laid (t':=s.toks) (o:=.lst (qG4 xs lo hi)) (fun b ob q=>wG _ q) (wF _) ?_,rfl,q _ (I.hok.fresh (wF _))⟩
 exact ⟨zK (YR xs lo hi) hz,_,0,(r.drop (HT.sIx xs.length 0 lo)).take (HT.sIx xs.length xs.length hi - HT.sIx xs.length 0 lo),zB _ rfl⟩
theorem qBD:j5 X (.builtin "len") (fun xs H Q=>∃ p ys,xs=[.ref p]/\(SqL X.K H p ys\/SqT X.K H p ys)/\Q (.int ys.length) H):=by
 intro pins s σ H xs us Q I r h
 obtain ⟨p,ys,rfl,hq,q⟩:=h
 obtain ⟨u,rfl,rx⟩:=vals1 r
 cases rx
 have hn:=Yr
 rcases hq with hq | hq
 ·obtain ⟨its,r',pl,hz⟩:=I.list hq
  have hlen:=r'.length
  exact Calls.call_len_list pl.isList (by simp only [wJ] <;> omega) ⟨.int ys.length,H,I.tok _,⟨s.toks+1,by rw [wJ,hlen]⟩,q⟩
 ·obtain ⟨its,r',pl,hz⟩:=I.tuple hq
  have hlen:=r'.length
  exact len_tuple pl (by simp only [wJ] <;> omega) ⟨.int ys.length,H,I.tok _,⟨s.toks+1,by rw [wJ,hlen]⟩,q⟩
theorem qBJ:j5 X (.type "list") (fun xs H Q=>∃ p ys,xs=[.ref p]/\(SqL X.K H p ys\/SqT X.K H p ys)/\∀ l,H l=none->Q (.ref l) (upd H l (.lst ys))):=by
 intro pins s σ H xs us Q I r h
 obtain ⟨p,ys,rfl,hq,q⟩:=h
 obtain ⟨u,rfl,rx⟩:=vals1 r
 cases rx
 have fin:∀(its:List Value),qh ys its->ys.length<=sizeLine->∀(h':Heap) (c':Nat),(∀ b o',s.heap.get? b=some o'->h'.get? b=some o')->
   h'.get? s.heap.objs.size=some { cls:=.type "list",dict:=none,data:=.seq its.toArray c',slots:=#[] }->EP X pins σ Q (.ref s.heap.objs.size) { s with heap:=h' }:=fun its r' hz h' c' kp e=>
  ⟨.ref s.heap.objs.size,_,I.laid (t':=s.toks) kp (wF _) (show jD X.prog X.w _ h' _ (.lst ys) from ⟨hz,its,c',r',e⟩),rfl,q _ (I.hok.fresh (wF _))⟩
 rcases hq with hq | hq
 ·obtain ⟨its,r',pl,hz⟩:=I.list hq
  have hlen:=r'.length
  obtain ⟨o,ho,hc,n,hd⟩:=pl.isList
  exact call_list_seq p (.inl rfl) ho hc hd (fun h' c' kp e=>fin its r' hz h' c' kp e) (by simp only [wJ] <;> omega)
 ·obtain ⟨its,r',pl,hz⟩:=I.tuple hq
  have hlen:=r'.length
  obtain ⟨o,ho,hc,n,hd⟩:=pl
  exact call_list_seq p (.inr rfl) ho hc hd (fun h' c' kp e=>fin its r' hz h' c' kp e) (by simp only [wJ] <;> omega)
theorem qAN:j5 X (.type "tuple") (fun xs H Q=>∃ p ys,xs=[.ref p]/\((SqL X.K H p ys/\∀ l,H l=none->Q (.ref l) (upd H l (.tup ys)))\/(SqT X.K H p ys/\Q (.ref p) H))):=by
 intro pins s σ H xs us Q I r h
 obtain ⟨p,ys,rfl,h⟩:=h
 obtain ⟨u,rfl,rx⟩:=vals1 r
 cases rx
 rcases h with ⟨hq,q⟩ | ⟨hq,q⟩
 ·obtain ⟨its,r',pl,hz⟩:=I.list hq
  have hlen:=r'.length
  refine call_tuple_list pl.isList (fun h' kp=>?_) (by simp only [wJ] <;> omega)
  have I1:Inv X pins σ H { s with heap:=h' }:=I.kept (t':=s.toks) kp
  have I2:Inv X pins σ (upd H h'.objs.size (.tup ys)) { s with heap:=h'.push { cls:=.type "tuple",data:=.seq its.toArray } }:=
   I1.laid (t':=s.toks) (fun b o e=>wG _ e) (wF _) (show jD X.prog X.w _ _ _ (.tup ys) from ⟨hz,its,r',IsTup.new _ _,NoD.new rfl⟩)
  exact ⟨.ref h'.objs.size,_,I2,rfl,q _ (I1.hok.fresh (wF _))⟩
 ·obtain ⟨its,r',pl,hz⟩:=I.tuple hq
  exact call_tuple_same pl ⟨.ref p,H,I,rfl,q⟩
noncomputable def tyV (K:wD) (T:String) (x:V) (H:Hp):Prop:=match x with
 | .str _=>T = "str"
 | .int _=>T = "int"
 | .ref p=>(T = "list"/\∃ xs,SqL K H p xs)\/(T = "tuple"/\∃ o,K.lookup p=some o/\o.cls=.type "tuple"/\o.dict=none)\/
   (T = "dict"/\((∃ kvs,H p=some (.dK kvs))\/∃ kvs,H p=some (.dT kvs)))\/(T = "set"/\∃ S n,H p=some (.set S n))
 | _=>False
theorem qLE {pins:List (Addr×Obj)} {σ:St} {H:Hp} {s:Shared} {T:String} {x:V} {v:Value} (I:Inv X pins σ H s) (r:RelV x v) (ty:tyV X.K T x H) :
  s.TypeIs v T/\∀ a,v=.ref a->∃ ob,s.heap.get? a=some ob/\ob.dict=none:=by
 cases x with
 | str z=>
  obtain ⟨t,rfl⟩:=r
  cases (show T = "str" from ty)
  exact ⟨typeIs_str s z t,fun _ e=>nomatch e⟩
 | int i=>
  obtain ⟨t,rfl⟩:=r
  cases (show T = "int" from ty)
  exact ⟨TC s i t,fun _ e=>nomatch e⟩
 | ref p=>
  cases r
  rcases ty with ⟨rfl,xs,hq⟩ | ⟨rfl,o,hk,hc,hd⟩ | ⟨rfl,hk⟩ | ⟨rfl,S,n,hk⟩
  ·obtain ⟨its,_,pl,_⟩:=I.list hq
   refine ⟨pl.isList.typeIs,fun a e=>?_⟩
   cases e
   obtain ⟨o,n,e,c,hd,_⟩:=pl
   exact ⟨o,e,hd⟩
  ·refine ⟨⟨o,I.kIn p o hk,hc⟩,fun a e=>?_⟩
   cases e
   exact ⟨o,I.kIn _ o hk,hd⟩
  ·have z:∃ o,s.heap.get? p=some o/\o.ExactDict:=by
    rcases hk with ⟨kvs,hk⟩ | ⟨kvs,hk⟩
    ·obtain ⟨_,_,_,_,o,_,_,e,ex,_⟩:=I.hok p _ hk
     exact ⟨o,e,ex⟩
    ·obtain ⟨_,_,_,_,o,_,_,e,ex,_⟩:=I.hok p _ hk
     exact ⟨o,e,ex⟩
   obtain ⟨o,e,ex⟩:=z
   refine ⟨⟨o,e,ex.1⟩,fun a e2=>?_⟩
   cases e2
   exact ⟨o,e,ex.2.1⟩
  ·obtain ⟨o,_,_,_,e,ex,_⟩:=I.hok p _ hk
   refine ⟨⟨o,e,ex.1⟩,fun a e2=>?_⟩
   cases e2
   exact ⟨o,e,ex.2.1⟩
 | _=>exact kH ty
noncomputable def tBM (K:wD) (T:String) (r:V->List V->Hp->VK->Prop) (to:TE) (t:TA):TE:=fun σ H Q=>to σ H fun x H1=>tyV K T x H1/\t σ H1 fun xs H2=>r x xs H2 Q
variable {o e:Expr} {es:List Expr} {to:TE} {t:TA} {name:Str} {apos cpos:Pos} {T id:String} {r:V->List V->Hp->VK->Prop}
theorem qMG (pa:PlainAttrs T) (slot:Slot T name id) (hty:typeOf (.builtin id)=pure (.type "method_descriptor")) (hm:MtR X id r) (ho:PE X o to) (ha:PA X (e::es) t)
  (hbase:attributeBase o name X.env (eval o X.env)=eval o X.env:=by rfl)
  (hfew:((backTo cpos (starEach (e::es) X.env)).all (fun x=>!x.1) && (backToKw cpos (keywordEach [] X.env)).all (fun x=>x.1.isSome)
   && decide ((e::es).length+([]:List Keyword).length+(if ([]:List Keyword).isEmpty then 0 else 1)<30))=true:=by rfl)
  (hline:(apos.endLine == cpos.line)=true:=by rfl) (hs:starEach (e::es) X.env=(false,eval e X.env)::starEach es X.env:=by rfl) (hplain:(backTo cpos (starEach es X.env)).any (·.1)=false:=by rfl) :
  PE X (.Call (.Attribute o name apos) (e::es) [] cpos) (tBM X.K T r to t):=by
 intro pins s σ H Q I h
 refine wpAny_Call_method_late hbase hfew hline rfl (thn (ho pins s σ H _ I h) fun v s1 ⟨x,H1,I1,r1,ty,q1⟩=>?_)
 obtain ⟨h1,h2⟩:=qLE I1 r1 ty
 refine ⟨T,id,pa,slot,hty,h1,h2,?_⟩
 have hA:=ha cpos pins s1 σ H1 _ I1 q1
 rw [hs] at hA ⊢
 refine ZW (by show (false || (backTo cpos (starEach es X.env)).any (·.1))=false; rw [hplain] <;> rfl) (WJ ?_)
 exact thn hA fun us s2 ⟨vs,H2,I2,r2,q2⟩=>hm pins s2 σ H2 x vs v us Q I2 r1 r2 q2
end
noncomputable def MtM (X:Cx) (id:String) (r:V->List V->Hp->VK->Prop):Prop:=
 ∀(pins:List (Addr×Obj)) (s:Shared) (σ:St) (H:Hp) (x:V) (xs:List V) (v:Value) (us:List Value) (Q:VK),Inv X pins σ H s->RelV x v->qh xs us->r x xs H Q->
  wpAny (model X.prog X.w) X.A (call (.builtin id) (v::us)) (EP X pins σ Q) X.xe s
theorem qh.one:∀{x:V} {us:List Value},qh [x] us->∃ u,us=[u]/\RelV x u
 | _,_,.cons r .nil=>⟨_,rfl,r⟩
theorem qh.eraseIdx:∀{xs:List V} {us:List Value} (i:Nat),qh xs us->qh (xs.eraseIdx i) (us.eraseIdx i)
 | _,_,_,.nil=>.nil
 | _,_,0,.cons _ t=>t
 | _,_,i+1,.cons r t=>.cons r (qh.eraseIdx i t)
theorem qh.rep {xs:List V} {us:List Value} (h:qh xs us):∀ k:Nat,qh (wO k xs).flatten (wO k us).flatten
 | 0=>.nil
 | k+1=>by
  rw [vV,vV,uU,uU]
  exact qh.append h (qh.rep h k)
theorem qBL {α:Type}:∀(l:List α) (i:Nat),(l.eraseIdx i).length<=l.length
 | [],_=>wF _
 | _::_,0=>Nat.le_succ _
 | _::r,i+1=>ZR (qBL r i)
theorem foldl_rep (its:List Value):∀(k:Nat) (acc:List Value),
  List.foldl (fun x1 x2=>x1++x2) acc.toArray (wO k its.toArray)=(acc++(wO k its).flatten).toArray
 | 0,acc=>by simp
 | k+1,acc=>by
  have e:acc.toArray++its.toArray=(acc++its).toArray:=by simp
  have e2:(acc++its)++(wO k its).flatten=acc++(wO (k+1) its).flatten:=by
   rw [vV,uU,yF]
  rw [<- e2,<- foldl_rep its k (acc++its),<- e,vV,UI]
section
variable {X:Cx} {pins:List (Addr×Obj)} {σ:St} {H:Hp} {s:Shared} {l b:Addr} {xs ys zs:List V}
theorem Inv.lset {its its':List Value} {n:Nat} {f:Array Value->Array Value} {t':Nat} (I:Inv X pins σ H s) (hH:H l=some (.lst xs))
  (e:s.heap.get? l=some { cls:=.type "list",data:=.seq its.toArray n }) (hf:f its.toArray=its'.toArray) (hv:qh ys its') (hz:ys.length<=sizeLine) :
  Inv X pins σ (upd H l (.lst ys)) { s with heap:=s.heap.update l (fJ f),toks:=t' }:=by
 have q:=PySem.IsL.update e f
 rw [hf] at q
 refine I.write (x:=l) (e:=l) (by rw [hH]; exact trivial) (.inl rfl) (fun b' u hb hu=>(uI s.heap (fJ f) (kX hb)).trans hu) ⟨_,q⟩ ?_
 exact ⟨hz,its',_,hv,q⟩
theorem Inv.lnew {its:List Value} {t':Nat} (I:Inv X pins σ H s) (hv:qh ys its) (hz:ys.length<=sizeLine) :
  Inv X pins σ (upd H s.heap.objs.size (.lst ys)) { s with heap:=s.heap.push { cls:=.type "list",data:=.seq its.toArray },toks:=t' }:=
 I.laid (fun _ _ q=>wG _ q) (wF _) ⟨hz,its,0,hv,zB _ rfl⟩
theorem Inv.fresh (I:Inv X pins σ H s):H s.heap.objs.size=none:=I.hok.fresh (wF _)
theorem Inv.lstM (I:Inv X pins σ H s) (hH:H l=some (.lst xs)):xs.length<=sizeLine/\∃(its:List Value) (n:Nat),qh xs its/\xs.length=its.length/\s.heap.get? l=some { cls:=.type "list",data:=.seq its.toArray n }:=by
 obtain ⟨z,its,n,r,e⟩:=I.hok l _ hH
 exact ⟨z,its,n,r,r.length,e⟩
theorem qCl {n:Nat} (h:n<=sizeLine):gK n=false:=by
 unfold gK
 exact decide_eq_false (by omega)
end
section
variable {X:Cx}
noncomputable def qET:V->List V->Hp->VK->Prop:=fun x vs H Q=>∃ l xs y,x=.ref l/\vs=[y]/\H l=some (.lst xs)/\xs.length<sizeLine/\Q .non (upd H l (.lst (xs++[y])))
theorem j8:MtM X "list.append" qET:=by
 intro pins s σ H x vs v us Q I rx rv h
 obtain ⟨l,xs,y,rfl,rfl,hH,hz,q⟩:=h
 cases rx
 obtain ⟨u,rfl,ru⟩:=rv.one
 obtain ⟨z,its,n,r,hl,e⟩:=I.lstM hH
 refine WY F.slot_list_append ⟨_,e,rfl⟩ F.entry_list_append (F.args_list_append_2 _ _) (PySem.list_append l its.toArray n u (by rw [wJ]; omega)) ⟨e,?_⟩
 refine ⟨.non,_,I.lset (its':=its++[u]) hH e (by simp) (r.append (.cons ru .nil)) ?_,rfl,q⟩
 rw [wV,List.length_singleton]
 omega
noncomputable def qEV:V->List V->Hp->VK->Prop:=fun x vs H Q=>∃ l b xs zs,x=.ref l/\vs=[.ref b]/\H l=some (.lst xs)/\H b=some (.lst zs)/\xs.length+zs.length<=sizeLine/\Q .non (upd H l (.lst (xs++zs)))
theorem qBC:MtM X "list.extend" qEV:=by
 intro pins s σ H x vs v us Q I rx rv h
 obtain ⟨l,b,xs,zs,rfl,rfl,hH,hB,hz,q⟩:=h
 cases rx
 obtain ⟨u,rfl,ru⟩:=rv.one
 cases ru
 obtain ⟨z,its,n,r,hl,e⟩:=I.lstM hH
 obtain ⟨z2,its2,n2,r2,hl2,e2⟩:=I.lstM hB
 have hsz:its.toArray.size+its2.toArray.size<=sizeLine:=by rw [wJ,wJ]; omega
 have hlong:¬ (!its.toArray.isEmpty && gK (its.toArray.size+its2.toArray.size))=true:=by
  rw [qCl hsz,TF]
  exact wR
 refine WY F.slot_list_extend ⟨_,e,rfl⟩ F.entry_list_extend (F.args_list_extend_2 _ _)
  (AutoSeq1.list_extend_list_list_0 l its.toArray n b its2.toArray n2 hlong (by rw [wJ]; omega) (by omega)) ⟨e,e2,?_⟩
 refine ⟨.non,_,I.lset (its':=its++its2) hH e (by simp) (r.append r2) ?_,rfl,q⟩
 rw [wV]
 omega
noncomputable def qH8:V->List V->Hp->VK->Prop:=fun x vs H Q=>∃ l xs i k y,x=.ref l/\vs=[.int i]/\H l=some (.lst xs)/\-(2 ^ 63)<=i/\i<2 ^ 63/\seqIndex? i xs.length=some k/\xs[k]? = some y/\Q y (upd H l (.lst (xs.eraseIdx k)))
theorem qHG:MtM X "list.pop" qH8:=by
 intro pins s σ H x vs v us Q I rx rv h
 obtain ⟨l,xs,i,k,y,rfl,rfl,hH,h1,h2,hk,hy,q⟩:=h
 cases rx
 obtain ⟨u,rfl,ru⟩:=rv.one
 obtain ⟨t,rfl⟩:=ru
 obtain ⟨z,its,n,r,hl,e⟩:=I.lstM hH
 obtain ⟨w,hw,rw'⟩:=r.get hy
 refine WY F.slot_list_pop ⟨_,e,rfl⟩ F.entry_list_pop (F.args_list_pop_2 _ _)
  (MeetsSeq.list_pop_at l its.toArray n i t k w (fitsIndex_both h1 h2) (by rw [wJ,<- hl]; exact hk) (by rw [<- yE]; exact hw) (by rw [wJ]; omega)) ⟨e,?_⟩
 refine ⟨y,_,I.lset (its':=its.eraseIdx k) hH e ?_ (r.eraseIdx k) ?_,rw',q⟩
 ·show its.toArray.eraseIdxIfInBounds k=(its.eraseIdx k).toArray
  rw [List.eraseIdxIfInBounds_toArray]
 ·have:=qBL xs k
  omega
noncomputable def qMY:R2:=fun x y H Q=>∃ l k xs,x=.ref l/\y=.int k/\H l=some (.lst xs)/\-(2 ^ 63)<=k/\k<2 ^ 63/\xs.length*k.toNat<=sizeLine/\
 ∀ p,H p=none->Q (.ref p) (upd H p (.lst (wO k.toNat xs).flatten))
theorem len_rep {α:Type} (xs:List α) (k:Nat):(wO k xs).flatten.length=k*xs.length:=by
 induction k with
 | zero=>simp
 | succ k ih=>rw [vV,uU,wV,ih,Nat.succ_mul,Nat.add_comm]
theorem qLo:OpR X (binaryOp .Mult) qMY:=by
 intro pins s σ H x y v u Q I rx ry h
 obtain ⟨l,k,xs,rfl,rfl,hH,h1,h2,hz,q⟩:=h
 cases rx
 obtain ⟨t,rfl⟩:=ry
 obtain ⟨z,its,n,r,hl,e⟩:=I.lstM hH
 have hlen:its.toArray.size*k.toNat<=sizeLine:=by rw [wJ,<- hl]; exact hz
 have hcap:¬ its.toArray.size*k.toNat > (2 ^ 63 - 1) / 8:=by
  have:(sizeLine:Nat)<=(2 ^ 63 - 1) / 8:=by decide
  omega
 have hfit:¬ (!Builtin.List.listFitsIndex k)=true:=by
  rw [fitsIndex_both h1 h2]
  exact wR
 have hlong:¬ gK (its.toArray.size*k.toNat)=true:=by
  rw [qCl hlen]
  exact wR
 have hnew:List.foldl (fun x1 x2=>x1++x2) #[] (wO (if its.toArray.isEmpty=true then 0 else k.toNat) its.toArray)=(wO k.toNat its).flatten.toArray:=by
  have f0:∀ m:Nat,List.foldl (fun x1 x2=>x1++x2) #[] (wO m its.toArray)=(wO m its).flatten.toArray:=fun m=>by
   have:=foldl_rep its m []
   rw [uB] at this
   exact this
  rw [f0]
  cases its with
  | nil=>simp
  | cons a r'=>rw [if_neg (by simp)]
 refine wpAny_binaryOp_repeat_ref (T:="list") (U:="int") (by decide) ⟨_,e,rfl⟩ (fun s'=>TC s' k t) noFill_list_mul F.fills_int_mul F.slot_int_rmul repeat_list F.slot_int_index.lookup
  (WY F.slot_int_rmul (TC s k t) F.entry_int_rmul (F.args_int_rmul_2 _ _) (int___rmul___int_list k t l its.toArray n)
   ⟨e,rfl,⟨_,e,rfl⟩,WY F.slot_list_mul ⟨_,e,rfl⟩ F.entry_list_mul (F.args_list_mul_2 _ _) (AutoListH.list___mul___list_int_3 l its.toArray n k t hfit hcap hlong) ⟨e,?_⟩⟩)
 rw [hnew]
 exact ⟨.ref _,_,I.lnew (t':=s.toks) (r.rep k.toNat) (by rw [len_rep,Nat.mul_comm]; exact hz),rfl,q _ I.fresh⟩
end
end L2
namespace Att
open PySem PySem.W PySem.Calls PyProof.Rows
theorem Jm {P:Params} {h:Heap}:∀(ns:List Int) (vs:List Value),WellAll P h vs (ns.map WData.int)->IntsAre vs ns:=by
 intro ns
 induction ns with
 | nil=>
  intro vs w
  rw [fR] at w
  cases w
  exact .nil
 | cons n ns ih=>
  intro vs w
  rw [zF] at w
  cases w with
  | cons a b=>
   cases a
   exact .cons _ _ (ih _ b)
theorem qF4 {l:OpenLaw} {n:Nat} (hn:l.most=some n) {P:Params} {h:Heap} {args:List WData} {vals:List Value}
  (hpre:l.row.toRowW.claim.pre args=true) (hwl:WellAll P h vals args) :
  ∃ a vs ns,vals=[zW a]/\args=[WData.list (ns.map WData.int)]/\h.get? a=some { cls:=.type "list",data:=.seq vs.toArray }/\IntsAre vs ns/\ns.length<=n:=by
 have hsh:WShape.hasAll [] args [.list .int]=true:=(pre_splitW hpre).1
 have hc:l.pre.holds [] { args:=args } = true:=(pre_splitW hpre).2
 obtain ⟨d,r,rfl,h1,h2⟩:=hasAllW_cons hsh
 obtain rfl:=hasAllW_nil h2
 obtain ⟨xs,rfl,h3⟩:=hasW_list h1
 obtain ⟨ns,rfl⟩:=items_int h3
 have hlen:ns.length<=n:=by
  unfold OpenLaw.pre at hc
  have h4:(WTm.not (.lt (.lit (.int (n:Int))) (.len (.arg 0)))).holds [] { args:=[.list (ns.map .int)] } = true:=by
   have h4:=(holds_andW hc).1
   rw [hn] at h4
   exact h4
  have h5:=condW_of h4 (w_not (w_lt w_lit (w_len_list (w_arg rfl))))
  rw [wB] at h5
  refine vG fun q=>?_
  have q':(n:Int)<((ns.length:Nat):Int):=by omega
  first
   | (rw [decide_eq_true q'] at h5; exact absurd h5 (by decide))
   | (simp at h5; omega)
 cases hwl with
 | cons w1 w2=>
  cases w2
  cases w1 with
  | list ho hall=>exact ⟨_,_,ns,rfl,rfl,ho,Jm ns _ hall,hlen⟩
theorem qEW (l:OpenLaw) (args:List WData):l.row.toRowW.claim.post args (.bool true) args=true:=
 postW_of (r:=l.row.toRowW) (X:=(true == true))
  (show WShape.has [] (.bool true) .bool=true by first | rfl | decide | simp [WShape.has,WShape.arms,WShape.armsAll])
  (show (WTm.eq .res (.lit (.bool true))).value [] { args:=args,res:=some (.bool true),after:=args } = some (.bool (true == true)) from w_eq_bool (w_res rfl) w_lit) rfl
theorem attach_call {l:OpenLaw} {n:Nat} {q:Program} {loose:List Str} {XP:(Str->Option Value)->Heap->Prop} {YP:World->Heap->Prop} {d:DefRec}
  (hn:l.most=some n) (hdf:d.params.defaults=[])
  (call:∀(w:World) (s₀ s₁:Shared) (mg mb:Str->Option Value) (fa:Addr) (o:Obj) (pm cd doc:Value) (a:Addr) (vs:List Value) (ns:List Int),
   Ground q loose [] XP w s₀ mg mb s₁.heap->YP w s₁.heap->
   s₁.heap.get? fa=some o->o.data=.func (docDef d.name d.params d.body d.scope pm cd doc)->s₁.heap.CodeRec cd d.name->mg d.name=some (.ref fa)->
   s₁.heap.get? a=some { cls:=.type "list",data:=.seq vs.toArray }->IntsAre vs ns->ns.length<=n->s₁.gens = #[]->
   codeAny (model l.prog w) callerA (.call (.ref fa) ⟨[.ref a],[]⟩) (fun r s'=>r=.ok (.ret (.bool true))/\OldK s₁.heap s'.heap/\s'.os=s₁.os/\AllBare s'.gens) s₁) :
  WalkO q loose XP YP l.row.toRowW d [] (fun f vs=>PySem.call f vs):=by
 intro w s₀ s₁ mg mb G Y fa o pm cd doc dV kV ho hd hcd hD hmg hg args vals as hpre hlay hrd hwl hlo
 obtain rfl:dV=.none:=Dflts.none hD hdf
 obtain rfl:kV=.none:=Dflts.noKw hD
 obtain ⟨a,vs,ns,rfl,rfl,hobj,hints,hlen⟩:=qF4 hn hpre hwl
 refine enter_call (gX (call w s₀ s₁ mg mb fa o pm cd doc a vs ns G Y ho (fd_plain hd) hcd hmg hobj hints hlen hg) fun r s' hq=>?_)
 obtain ⟨rfl,h2,h3,h4⟩:=hq
 exact ⟨.inl ⟨.bool true,.bool true,[],rfl,fun _=>rfl,.bool true,qEW l _,fun _=>⟨List.Pairwise.nil,fun _ hm=>(nomatch hm)⟩⟩,h2,h3,h4⟩
section
variable {prog:Program} {w:World} {A:Around} {E:Value->Shared->Prop} {s:Shared} {K:Frag}
noncomputable def ledger (h:Heap) (L d:Addr):List (Addr×Obj):=(zA h.objs.size).filterMap fun a=>if a=L\/a=d then none else (h.get? a).map fun o=>(a,o)
end
end Att
namespace L2
open PySem PySem.Spec PyProof.Rows
theorem qBg:∀{vs:List Value} {ns:List Int},IntsAre vs ns->qh (ns.map V.int) vs
 | _,_,.nil=>.nil
 | _,_,.cons n t h=>.cons ⟨t,rfl⟩ (qBg h)
noncomputable def qMn (H:Hp):Prop:=∀ b,H b=none\/∃ o xs,H b=some (.frz o (.lst xs))
theorem qHU {P:Program} {w:World} {K:wD} {mg mb:Str->Option Value} {CX:CXT} {k:Nat} {fa a:Addr} {fd:FuncData} {x:Str} {sp:Sp} {s₁:Shared} {vs:List Value} {ns:List Int}
  (KX:K.In s₁.heap) (hns:s₁.heap.Ns mainGlobals mg) (hb:s₁.heap.Ns builtinsNs mb) (hbb:∀ x:Str,x≠"__name__"->mb x=bootBuiltins x) (hlim:s₁.heap.NoLimit) (hg:s₁.gens = #[])
  (ha:s₁.heap.get? a=some { cls:=.type "list",data:=.seq vs.toArray }) (hi:IntsAre vs ns) (hl:ns.length<=sizeLine) (hr:Yd k callerA)
  (F:∀ base:Heap,K.In base->base.Ns mainGlobals mg->j7 P w K mg base CX k fa fd [x] sp) (hbind:∀(s:Shared) (u:Value),BindsTo s fd ⟨[u],[]⟩ [(x,u)])
  (hsp:∀ H:Hp,qMn H->SqL K H a (ns.map V.int)->sp [.ref a] H (fun v _=>v=.bl true) fun _ _ _=>False)
  (hCX:∀ H e s',CX [] H s₁ (fun _ _ _=>False) e s'->False) :
  codeAny (model P w) callerA (.call (.ref fa) ⟨[.ref a],[]⟩) (fun r s'=>r=.ok (.ret (.bool true))/\OldK s₁.heap s'.heap/\s'.os=s₁.os/\AllBare s'.gens) s₁:=by
 have rv:=qBg hi
 have lenV:=hi.length
 have core:∀ H:Hp,qMn H->SqL K H a (ns.map V.int)->HOk P w H s₁.heap->(∀ b,H b≠none->b=a)->(H a≠none->K.lookup a=none)->
   codeAny (model P w) callerA (.call (.ref fa) ⟨[.ref a],[]⟩) (fun r s'=>r=.ok (.ret (.bool true))/\OldK s₁.heap s'.heap/\s'.os=s₁.os/\AllBare s'.gens) s₁:=by
  intro H hO hS hok hA hK
  have base_of:∀{b:Addr} {o:Obj},s₁.heap.get? b=some o->H b=none->(qGj s₁.heap H).get? b=some o:=fun e n=>qGY e n
  have noA:∀{b:Addr} {o:Obj} {es:Array DictEntry} {ep:Nat},s₁.heap.get? b=some o->o.data=.dict es ep->H b=none:=fun {b o es ep} e d=>by
   cases q:H b with
   | none=>rfl
   | some u=>
    have e':b=a:=hA b (by rw [q]; simp)
    subst e'
    rw [ha] at e; cases e
    have d':Data.seq vs.toArray _=Data.dict es ep:=d
    cases d'
  have nsK:∀{b:Addr} {m:Str->Option Value},s₁.heap.Ns b m->(qGj s₁.heap H).Ns b m:=fun {b m} ⟨o,es,ep,e,d,r⟩=>⟨o,es,ep,base_of e (noA e d),d,r⟩
  have hKb:K.In (qGj s₁.heap H):=fun b o e=>base_of (KX b o e) (by
   cases q:H b with
   | none=>rfl
   | some u=>
    have e':b=a:=hA b (by rw [q]; simp)
    subst e'
    rw [hK (by rw [q]; simp)] at e; cases e)
  have hM:Mod K mg (qGj s₁.heap H):=⟨hKb,nsK hns,⟨mb,nsK hb,hbb⟩,let ⟨mc,h1,h2⟩:=hlim; ⟨mc,nsK h1,h2⟩⟩
  have e0:qL3 P w K mg (qGj s₁.heap H) callerA [] s₁ H:=⟨rfl,hM,fun b o e=>qIM e,uJ (qFB _ _),trivial,fun b hb=>absurd (show b∈([]:List Addr) from hb) (by simp),hok,.of_eq hg⟩
  refine gX ((F _ hKb (nsK hns)).run callerA [] s₁ H ⟨[.ref a],[]⟩ [.ref a] [.ref a] _ _ hr e0 (hbind s₁ (.ref a)) (.cons rfl .nil) (hsp H hO hS)) fun r s' h=>?_
  cases r with
  | error e=>exact (hCX H e s' h).elim
  | ok fl=>
   cases fl with
   | next=>exact kH h
   | brk=>exact kH h
   | cont=>exact kH h
   | ret u=>
    obtain ⟨v,H',os,bare,un,hok',r',q⟩:=h
    have q':v=.bl true:=q
    subst q'
    obtain rfl:u=Value.bool true:=r'
    refine ⟨rfl,OldK.of_keep fun b o e=>?_,os,bare⟩
    cases q:H b with
    | none=>exact un.keep b o e q (by intro z; exact absurd (show b∈([]:List Addr) from z) (by simp)) (by simp)
    | some u=>
     rcases hO b with z | ⟨ob,xs,z⟩
     ·rw [q] at z; cases z
     ·have z2:=un.frzs b ob _ z
      obtain ⟨e1,_⟩:=hok b _ z
      obtain ⟨e2,_⟩:=hok' b _ z2
      rw [e] at e1; cases e1
      exact e2
 cases hk:K.lookup a with
 | some o=>
  have e:=KX a o hk
  rw [ha] at e
  cases e
  refine core (fun _=>none) (fun _=>.inl rfl) (.inr ⟨_,vs.toArray,_,hk,rfl,rfl,rfl,by rw [wJ,lenV]; exact hl,by simpa using rv⟩) (fun b u z=>by have z':(none:Option HO)=some u:=z; cases z') (fun b z=>absurd rfl z) fun z=>absurd rfl z
 | none=>
  refine core (fun b=>if b=a then some (.frz { cls:=.type "list",data:=.seq vs.toArray } (.lst (ns.map V.int))) else none) (fun b=>?_) (.inl (.inr ⟨{ cls:=.type "list",data:=.seq vs.toArray },if_pos rfl⟩)) (fun b u z=>?_) (fun b z=>?_) fun _=>hk
  ·by_cases hb:b=a
   ·exact .inr ⟨_,_,if_pos hb⟩
   ·exact .inl (if_neg hb)
  ·by_cases hb:b=a
   ·have z':=(if_pos hb).symm.trans z
    cases z'
    subst hb
    exact ⟨ha,by rw [wB]; exact hl,vs,_,rv,ha⟩
   ·have z':=(if_neg hb).symm.trans z
    cases z'
  ·by_cases hb:b=a
   ·exact hb
   ·exact absurd (if_neg hb) z
theorem qJC {l:WC} {n k:Nat} {q:Program} {loose:List Str} {XP:(Str->Option Value)->Heap->Prop} {YP:World->Heap->Prop} {d:DefRec} {K:Params->wD} {CX:World->CXT} {sp:World->Sp} {x:Str}
  (hn:l.most=some n) (hn2:n<=sizeLine) (hdf:d.params.defaults=[]) (hr:Yd k callerA)
  (hY:∀(w:World) (h:Heap),YP w h->(K w.params).In h)
  (F:∀(w:World) (mg:Str->Option Value) (fa:Addr) (h:Heap),(K w.params).In h->h.Ns mainGlobals mg->mg d.name=some (.ref fa)->
   ∃ fd:FuncData,(∀(s:Shared) (u:Value),BindsTo s fd ⟨[u],[]⟩ [(x,u)])/\
    ∀ base:Heap,(K w.params).In base->base.Ns mainGlobals mg->j7 l.prog w (K w.params) mg base (CX w) k fa fd [x] (sp w))
  (hsp:∀(w:World) (H:Hp) (a:Addr) (ns:List Int),ns.length<=n->qMn H->SqL (K w.params) H a (ns.map V.int)->sp w [.ref a] H (fun v _=>v=.bl true) fun _ _ _=>False)
  (hCX:∀(w:World) (H:Hp) (s:Shared) (e:Value) (s':Shared),CX w [] H s (fun _ _ _=>False) e s'->False) :
  PySem.W.WalkO q loose XP YP l.row.toRowW d [] (fun f vs=>PySem.call f vs):=by
 refine Att.attach_call hn hdf fun w s₀ s₁ mg mb fa o pm cd doc a vs ns G Y ho hd hcd hmg hobj hints hlen hg=>?_
 have KX:=hY w _ Y
 obtain ⟨fd,hb,hF⟩:=F w mg fa _ KX G.T.g hmg
 exact qHU KX G.T.g G.T.b G.T.builtins G.T.nolimit hg hobj hints (zK hlen hn2) hr hF hb (fun H hO hS=>hsp w H a ns hlen hO hS) fun H e s'=>hCX w H s₁ e s'
noncomputable def JB (s:Stmt):Arguments:=match s with
 | .FunctionDef _ a _ _ _ _ _ _ _ _=>a
 | _=>{ posonlyargs:=[],args:=[],vararg:=none,kwonlyargs:=[],kw_defaults:=[],kwarg:=none,defaults:=[] }
noncomputable def jd (s:Stmt):List Stmt:=match s with
 | .FunctionDef _ _ b _ _ _ _ _ _ _=>b
 | _=>[]
noncomputable def qJ (s:Stmt):Scope:=match s with
 | .FunctionDef _ _ _ _ _ _ sc _ _ _=>sc
 | _=>{ kind:=.function,names:=[],isGenerator:=false,isCoroutine:=false }
noncomputable abbrev CX0:CXT:=fun _ _ _ _ _ _=>False
noncomputable abbrev E0:XK:=fun _ _ _=>False
theorem qL9 {X:Cx}:qAy CX0 X E0:=fun _ _ _ _ _ _ _ h=>h.elim
structure Fun (K:wD) (x qual:Str) (st:Stmt) (f:Addr) (fd:FuncData):Prop where
 ex:∃(oc:Value) (od:Option Addr) (kV doc pm:Value) (an:Option Addr) (cdv ct:Value) (osl:Array (Option Value)),
  fd=hV x qual (JB st) (jd st) (qJ st) .none kV doc pm an cdv ct/\K.lookup f=some ⟨oc,od,.func fd,osl⟩/\UY K cdv qual=true
 kp:UX K (.ref f)=true
section
variable {P:Program} {w:World} {K:wD} {mg:Str->Option Value} {base:Heap}
theorem Fun.ok {x qual:Str} {st:Stmt} {f:Addr} {fd:FuncData} {N ps:List Str} {k:Nat} {sp:Sp} (F:Fun K x qual st f fd) (S:qb N ps (qJ st)) (len:∀ vs H Q E,sp vs H Q E->vs.length=ps.length)
  (hbody:∀(cdv:Value) (A:Around) (outer:List Env) (s:Shared) (H:Hp) (vs:List V) (Q:VK) (E:XK),Yd k (A.deeper (envOfC qual (qJ st) s.heap.objs.size f cdv))->sp vs H Q E->
   ∃ t,PSs (qD8 CX0 P w K mg base N qual (qJ st) f cdv A outer s H E).nox (jd st) t/\t { nx:=fun _ H'=>Q .non H',rt:=Q } (start N vs) H):j7 P w K mg base CX0 (k+1) f fd ps sp:=by
 obtain ⟨oc,od,kV,doc,pm,an,cdv,ct,osl,rfl,lk,hcd⟩:=F.ex
 refine qKa lk hcd S len fun A outer s H vs Q E hr hsp=>?_
 obtain ⟨t,h,q⟩:=hbody cdv A outer s H vs Q E hr hsp
 exact ⟨t,h.nox,q⟩
theorem Fun.binds {x qual:Str} {st:Stmt} {f:Addr} {fd:FuncData} {ps:List Str} (F:Fun K x qual st f fd)
  (h:∀(kV doc pm:Value) (an:Option Addr) (cdv ct:Value) (us:List Value),us.length=ps.length->bindArgs (hV x qual (JB st) (jd st) (qJ st) .none kV doc pm an cdv ct) ⟨us,[]⟩=pure (ps.zip us)):Binds K fd ps []:=by
 obtain ⟨oc,od,kV,doc,pm,an,cdv,ct,osl,rfl,lk,hcd⟩:=F.ex
 exact .all (h kV doc pm an cdv ct)
theorem qLk {x qual:Str} {st:Stmt} {f:Addr} {oc:Value} {od an:Option Addr} {osl:Array (Option Value)} {kV doc pm cdv ct:Value} (l:K.lookup f=some ⟨oc,od,.func (hV x qual (JB st) (jd st) (qJ st) .none kV doc pm an cdv ct),osl⟩)
  (c:UY K cdv qual=true) (k:UX K (.ref f)=true):Fun K x qual st f (hV x qual (JB st) (jd st) (qJ st) .none kV doc pm an cdv ct):=⟨⟨oc,od,kV,doc,pm,an,cdv,ct,osl,rfl,l,c⟩,k⟩
end
theorem qP {n:Nat} (h:n<=1000):n<sizeLine:=zQ h (by decide)
section
variable {X:Cx}
theorem pv (i:Nat) {x:Str} {pos:Pos} (hN:X.N[i]? = some x:=by rfl) (hv:Vis X.env.scope x:=by first | exact Or.inl rfl | exact Or.inr (Or.inl rfl) | exact Or.inr (Or.inr rfl)) (hd:(x == ("__debug__" : Str))=false:=by decide)
  (hcd:(x == ("__classdict__" : Str))=false:=by decide):PE X (.Name x pos) (qGD i):=qKo hN hv hd hcd
end
theorem qBu {c A B:Prop} [Decidable c] (h1:c->A) (h2:¬ c->B):if c then A else B:=by
 by_cases h:c
 ·rw [if_pos h]
  exact h1 h
 ·rw [if_neg h]
  exact h2 h
noncomputable def qL (H H':Hp):Prop:=∀ b o,H b=some o->H' b=some o
theorem qL.refl (H:Hp):qL H H:=fun _ _ h=>h
theorem qL.trans {H H1 H2:Hp} (a:qL H H1) (b:qL H1 H2):qL H H2:=fun c o h=>b c o (a c o h)
theorem qL.free {H H':Hp} (e:qL H H') {l:Addr} (h:H' l=Option.none):H l=Option.none:=by
 cases q:H l with
 | none=>rfl
 | some o=>
  rw [e l o q] at h
  cases h
theorem qL.seq {K:wD} {H H':Hp} {a:Addr} {xs:List V} (e:qL H H') (h:SqL K H a xs):SqL K H' a xs:=by
 rcases h with (h | ⟨o,h⟩) | h
 ·exact .inl (.inl (e _ _ h))
 ·exact .inl (.inr ⟨o,e _ _ h⟩)
 ·exact .inr h
end L2
set_option maxHeartbeats 16000000
namespace L2
open PySem PySem.Spec PyProof.Rows
section
variable {κ:Type} [DecidableEq κ]
noncomputable def qBx (kvs:List (κ×V)) (k:κ):Option V:=(kvs.find? fun kv=>decide (kv.1=k)).map (·.2)
noncomputable def putK (kvs:List (κ×V)) (k:κ) (v:V):List (κ×V):=
 if (kvs.any fun kv=>decide (kv.1=k))=true then kvs.map (fun kv=>if kv.1=k then (kv.1,v) else kv) else kvs++[(k,v)]
theorem Jc {p:κ×V} {r:List (κ×V)} {k:κ} (e:p.1=k):qBx (p::r) k=some p.2:=by simp [qBx,xN,e]
theorem Ja {p:κ×V} {r:List (κ×V)} {k:κ} (e:¬ p.1=k):qBx (p::r) k=qBx r k:=by simp [qBx,xN,e]
theorem qC5 (k:κ):∀ kvs:List (κ×V),(kvs.any fun kv=>decide (kv.1=k))=(qBx kvs k).isSome
 | []=>rfl
 | p::r=>by
  rw [kR]
  by_cases e:p.1=k
  ·simp only [Jc e,decide_eq_true e,Bool.true_or,Option.isSome_some]
  ·rw [Ja e,decide_eq_false e,Bool.false_or]; exact qC5 k r
theorem QY (kvs:List (κ×V)) (k:κ) (v:V):(putK kvs k v).length<=kvs.length+1:=by
 unfold putK
 split
 ·rw [wB]; omega
 ·rw [wV,wW,uC]; omega
theorem qDg.isSome_eq {o:Option V} {u:Option Value} (r:qDg o u):o.isSome=u.isSome:=by
 cases o with
 | none=>cases u with
  | none=>rfl
  | some _=>exact (show False from r).elim
 | some _=>cases u with
  | none=>exact (show False from r).elim
  | some _=>rfl
theorem qDg.getD {o:Option V} {u:Option Value} {d:V} {d':Value} (r:qDg o u) (rd:RelV d d'):RelV (o.getD d) (u.getD d'):=by
 cases o with
 | none=>cases u with
  | none=>exact rd
  | some _=>exact (show False from r).elim
 | some _=>cases u with
  | none=>exact (show False from r).elim
  | some _=>exact r
theorem KV.val {kvs:List (κ×V)} {vs:List (κ×Value)} (r:KV kvs vs) (k:κ):qDg (qBx kvs k) (valueAt vs k):=by
 unfold KV at r
 induction r with
 | nil=>exact kJ
 | @cons p q ps qs h t ih=>
  obtain ⟨h1,h2⟩:=h
  by_cases e:p.1=k
  ·have e':q.1=k:=h1.symm.trans e
   have b:valueAt (q::qs) k=some q.2:=by simp [valueAt,xN,e']
   rw [Jc e,b]; exact h2
  ·have e':¬ q.1=k:=fun z=>e (h1.trans z)
   have b:valueAt (q::qs) k=valueAt qs k:=by simp [valueAt,xN,e']
   rw [Ja e,b]; exact ih
theorem KV.any {kvs:List (κ×V)} {vs:List (κ×Value)} (r:KV kvs vs) (k:κ):(kvs.any fun kv=>decide (kv.1=k))=vs.any fun kv=>decide (kv.1=k):=by
 unfold KV at r
 induction r with
 | nil=>rfl
 | cons h t ih=>rw [kR,kR,ih,h.1]
theorem KV.repl {kvs:List (κ×V)} {vs:List (κ×Value)} (r:KV kvs vs) (k:κ) {y:V} {u:Value} (ry:RelV y u) :
  KV (kvs.map fun kv=>if kv.1=k then (kv.1,y) else kv) (vs.map fun kv=>if kv.1=k then (kv.1,u) else kv):=by
 unfold KV at r ⊢
 induction r with
 | nil=>exact .nil
 | @cons p q ps qs h t ih=>
  rw [zF,zF]
  refine .cons ?_ ih
  obtain ⟨h1,h2⟩:=h
  by_cases e:p.1=k
  ·rw [if_pos e,if_pos (h1.symm.trans e)]; exact ⟨h1,ry⟩
  ·rw [if_neg e,if_neg (fun z=>e (h1.trans z))]; exact ⟨h1,h2⟩
theorem KV.put {kvs:List (κ×V)} {vs:List (κ×Value)} (r:KV kvs vs) (k:κ) {y:V} {u:Value} (ry:RelV y u):KV (putK kvs k y) (stored vs k u):=by
 unfold putK stored
 rw [r.any k]
 by_cases e:(vs.any fun kv=>decide (kv.1=k))=true
 ·rw [if_pos e,if_pos e]; exact r.repl k ry
 ·rw [if_neg e,if_neg e]; exact Paired.snoc r ⟨rfl,ry⟩
theorem KV.length {kvs:List (κ×V)} {vs:List (κ×Value)} (r:KV kvs vs):kvs.length=vs.length:=fK r
end
theorem qDm {P:Program} {w:World} {k:Key} {u:Value} (r:RelV (kV k) u):(qt P w).is k u=true:=by
 cases k with
 | inl i=>obtain ⟨t,e⟩:=(show ∃ t,u=fU i t from r); subst e; exact qCX P w i t
 | inr x=>obtain ⟨t,e⟩:=(show ∃ t,u=WQ x t from r); subst e; exact qCQ P w x t
theorem qBH {P:Program} {w:World}:∀{ks:List Key} {us:List Value},qh (ks.map kV) us->ItemsAre (qt P w) ks us
 | [],_,r=>by rw [fR] at r; cases r; exact .nil
 | k::ks,_,r=>by
  rw [zF] at r
  cases r with
  | cons h t=>exact .cons (qDm h) (qBH t)
noncomputable abbrev KT (H:Hp):List (List Key×V)->List (List Key×Addr×Value)->Prop:=Paired fun p q=>p.1=q.1/\H q.2.1=some (.tup (p.1.map kV))/\RelV p.2 q.2.2
theorem KT.val {H:Hp} {kvs:List (List Key×V)} {xs:List (List Key×Addr×Value)} (r:KT H kvs xs) (k:List Key):qDg (qBx kvs k) ((atKey xs k).map (·.2)):=by
 induction r with
 | nil=>exact kJ
 | @cons p q ps qs h t ih=>
  obtain ⟨h1,_,h2⟩:=h
  by_cases e:p.1=k
  ·have e':q.1=k:=h1.symm.trans e
   have b:atKey (q::qs) k=some q.2:=by simp [atKey,xN,e']
   rw [Jc e,b]; exact h2
  ·have e':¬ q.1=k:=fun z=>e (h1.trans z)
   have b:atKey (q::qs) k=atKey qs k:=by simp [atKey,xN,e']
   rw [Ja e,b]; exact ih
theorem KT.repl {H:Hp} {kvs:List (List Key×V)} {xs:List (List Key×Addr×Value)} (r:KT H kvs xs) (k:List Key) {y:V} {u:Value} (ry:RelV y u) :
  KT H (kvs.map fun kv=>if kv.1=k then (kv.1,y) else kv) (xs.map (putAt k u)):=by
 induction r with
 | nil=>exact .nil
 | @cons p q ps qs h t ih=>
  rw [zF,zF]
  refine .cons ?_ ih
  obtain ⟨h1,h2,h3⟩:=h
  unfold putAt
  by_cases e:p.1=k
  ·rw [if_pos e,if_pos (h1.symm.trans e)]; exact ⟨h1,h2,ry⟩
  ·rw [if_neg e,if_neg (fun z=>e (h1.trans z))]; exact ⟨h1,h2,h3⟩
theorem KT.put {H:Hp} {kvs:List (List Key×V)} {xs:List (List Key×Addr×Value)} (r:KT H kvs xs) (k:List Key) {b:Addr} {y:V} {u:Value} (hb:H b=some (.tup (k.map kV))) (ry:RelV y u) :
  KT H (putK kvs k y) (storedH xs k b u):=by
 have e:(kvs.any fun kv=>decide (kv.1=k))=(atKey xs k).isSome:=by
  rw [qC5,(r.val k).isSome_eq,Option.isSome_map]
 unfold putK storedH
 rw [e]
 by_cases q:(atKey xs k).isSome=true
 ·rw [if_pos q,if_pos q]; exact r.repl k ry
 ·rw [if_neg q,if_neg q]; exact Paired.snoc r ⟨rfl,hb,ry⟩
theorem KT.keeps {H H':Hp} {kvs:List (List Key×V)} {xs:List (List Key×Addr×Value)} (r:KT H kvs xs) (ht:∀ b ys,H b=some (.tup ys)->H' b=some (.tup ys)):KT H' kvs xs:=
 Paired.mapP r fun _ _ z=>⟨z.1,ht _ _ z.2.1,z.2.2⟩
section
variable {P:Program} {w:World} {H:Hp} {h:Heap} {a:Addr}
theorem qLV {u:HO} (ok:HOk P w H h) (e:Rd H a u):jD P w H h a u:=e.ok ok
theorem qDW {kvs:List (Key×V)} (ok:HOk P w H h) (e:Rd H a (.dK kvs)):kvs.length<=sizeLine/\(a == sysModules)=false/\∃ vs,KV kvs vs/\h.DictOf (qt P w) a vs:=
 show jD P w H h a (.dK kvs) from qLV ok e
theorem qKm {kvs:List (Key×V)} (ok:HOk P w H h) (e:H a=some (.dK kvs)):kvs.length<=sizeLine/\(a == sysModules)=false/\∃ vs,KV kvs vs/\h.DictOf (qt P w) a vs:=qDW ok (.inl e)
theorem qBB {ks:List Key} (ok:HOk P w H h) (e:H a=some (.tup (ks.map kV))):(tupleKind (qt P w)).is h ks a:=by
 obtain ⟨_,its,r,⟨o,h1,h2,n,h3⟩,_⟩:=(show jD P w H h a (.tup (ks.map kV)) from ok a _ e)
 exact ⟨o,its.toArray,n,h1,h2,h3,by simpa using qBH r⟩
theorem qDh {kvs:List (List Key×V)} (ok:HOk P w H h) (e:Rd H a (.dT kvs)):kvs.length<=sizeLine/\(a == sysModules)=false/\
  ∃ xs,KT H kvs xs/\h.DictOfH (tupleKind (qt P w)) a xs:=by
 obtain ⟨z,y,xs,r,o,es,ep,h1,h2,h3,h4,h5⟩:=(show jD P w H h a (.dT kvs) from qLV ok e)
 refine ⟨z,y,xs,r,o,es,ep,h1,h2,h3,h4,fun x hx=>?_,h5⟩
 have all:∀{l:List (List Key×V)} {m:List (List Key×Addr×Value)},KT H l m->∀ x∈m,(tupleKind (qt P w)).is h x.1 x.2.1:=by
  intro l m q
  induction q with
  | nil=>intro x hx; exact nomatch hx
  | @cons p q ps qs hq t ih=>
   intro x hx
   rcases wX.mp hx with e | hx
   ·subst e
    exact qBB ok (by rw [<- hq.1]; exact hq.2.1)
   ·exact ih x hx
 exact all r x hx
theorem qIh {kvs:List (List Key×V)} (ok:HOk P w H h) (e:H a=some (.dT kvs)):kvs.length<=sizeLine/\(a == sysModules)=false/\
  ∃ xs,KT H kvs xs/\h.DictOfH (tupleKind (qt P w)) a xs:=qDh ok (.inl e)
end
noncomputable def qJk (H:Hp) (a:Addr) (y:V) (r:Option V):Prop:=
 (∃ kvs k,Rd H a (.dK kvs)/\y=kV k/\r=qBx kvs k)\/∃ kvs k b,Rd H a (.dT kvs)/\y=.ref b/\H b=some (.tup (k.map kV))/\r=qBx kvs k
noncomputable def qNX (H:Hp) (a:Addr) (y v:V) (H':Hp):Prop:=
 (∃ kvs k,H a=some (.dK kvs)/\y=kV k/\kvs.length<sizeLine/\H'=upd H a (.dK (putK kvs k v)))\/
 ∃ kvs k b,H a=some (.dT kvs)/\y=.ref b/\H b=some (.tup (k.map kV))/\kvs.length<sizeLine/\H'=upd H a (.dT (putK kvs k v))
section
variable {X:Cx} {pins:List (Addr×Obj)} {σ:St} {H:Hp} {s:Shared} {a:Addr} {y v:V} {u r:Value} {o:Option V} {A:Around} {E:Value->Shared->Prop}
theorem Inv.big (I:Inv X pins σ H s):sysModules<s.heap.objs.size:=by
 have h:mainGlobals<s.heap.objs.size:=(I.mod.glob.keeps I.bk).lt
 exact VH (by decide) h
theorem qEu {Q:Value->Shared->Prop} (hu:A.units+1<cLine) (I:Inv X pins σ H s) (g:qJk H a y (some v)) (ry:RelV y u) (h:∀ w' s',Inv X pins σ H s'->RelV v w'->Q w' s') :
  wpAny (model X.prog X.w) A (getItem (.ref a) u) Q E s:=by
 rcases g with ⟨kvs,k,e,ey,l⟩ | ⟨kvs,k,b,e,ey,eb,l⟩
 ·subst ey
  obtain ⟨z,hd,vs,rel,dd⟩:=qDW I.hok e
  obtain ⟨w',hw,rw'⟩:=qDg.some_of (v:=v) (o:=valueAt vs k) (by rw [l]; exact rel.val k)
  exact wpAny_getItem_of (qDm ry) dd.mapOf hw (h w' _ (I.tok _) rw')
 ·subst ey
  cases (show u=zW b from ry)
  obtain ⟨z,hd,xs,rel,dd⟩:=qDh I.hok e
  obtain ⟨w',hw,rw'⟩:=qDg.some_of (v:=v) (o:=(atKey xs k).map (·.2)) (by rw [l]; exact rel.val k)
  obtain ⟨p,hp,hp2⟩:=xH.mp hw
  refine wpAny_getItem_heap (fW hu) (qBB I.hok eb) dd hp ?_
  rw [hp2]
  exact h w' _ (I.tok _) rw'
theorem qOL {Q:Value->Shared->Prop} (hu:A.units+1<cLine) (I:Inv X pins σ H s) (g:qJk H a y o) (ry:RelV y u) (h:∀ s',Inv X pins σ H s'->Q (.bool o.isSome) s') :
  wpAny (model X.prog X.w) A (compareOp .In u (.ref a)) Q E s:=by
 rcases g with ⟨kvs,k,e,ey,l⟩ | ⟨kvs,k,b,e,ey,eb,l⟩
 ·subst ey
  obtain ⟨z,hd,vs,rel,dd⟩:=qDW I.hok e
  refine wpAny_in_of (qDm ry) hd dd.mapOf ?_
  rw [<- (rel.val k).isSome_eq,<- l]
  exact h _ (I.tok _)
 ·subst ey
  cases (show u=zW b from ry)
  obtain ⟨z,hd,xs,rel,dd⟩:=qDh I.hok e
  refine wpAny_in_heap (fW hu) (qBB I.hok eb) hd dd ?_
  have q:=(rel.val k).isSome_eq
  rw [Option.isSome_map] at q
  rw [<- q,<- l]
  exact h _ (I.tok _)
theorem qCJ {h':Heap} {t':Nat} {ob:HO} (I:Inv X pins σ H s) (mu:Mut (H a)) (hs:kG a s.heap h') (he:∃ q,h'.get? a=some q) (new:jD X.prog X.w (upd H a ob) h' a ob) :
  Inv X pins σ (upd H a ob) { s with heap:=h',toks:=t' }:=
 I.write (x:=a) (e:=a) mu (.inl rfl) (fun b q hb z=>(hs.2 b hb).trans z) he new
theorem qHo {P:Program} {w:World} {H':Hp} {h':Heap} {kvs:List (Key×V)} {vs:List (Key×Value)} (z:kvs.length<=sizeLine) (hd:(a == sysModules)=false) (rel:KV kvs vs) (dd:h'.DictOf (qt P w) a vs) :
  jD P w H' h' a (.dK kvs):=⟨z,hd,vs,rel,dd⟩
theorem qE0 {H':Hp} {Q:Unit->Shared->Prop} (hu:A.units+1<cLine) (I:Inv X pins σ H s) (g:qNX H a y v H') (ry:RelV y u) (rv:RelV v r) (h:∀ s',Inv X pins σ H' s'->Q () s') :
  wpAny (model X.prog X.w) A (setItem (.ref a) u r) Q E s:=by
 rcases g with ⟨kvs,k,e,ey,l,eH⟩ | ⟨kvs,k,b,e,ey,eb,l,eH⟩
 ·subst ey eH
  obtain ⟨z,hd,vs,rel,dd⟩:=qKm I.hok e
  have hz:vs.length<=sizeLine:=by rw [<- rel.length]; exact z
  have hl:(putK kvs k v).length<=sizeLine:=by have:=QY kvs k v; omega
  refine wpAny_setItem_pairs (hsz:=hz) (qDm ry) dd fun h' dd' hs=>h _ ?_
  have he:∃ q,h'.get? a=some q:=let ⟨q,_,_,hq,_⟩:=dd'; ⟨q,hq⟩
  exact qCJ I (by rw [e]; exact kJ) hs he (qHo hl hd (rel.put k rv) dd')
 ·subst ey eH
  cases (show u=zW b from ry)
  obtain ⟨z,hd,xs,rel,dd⟩:=qIh I.hok e
  have hz:xs.length<=sizeLine:=by rw [<- fK rel]; exact z
  have hl:(putK kvs k v).length<=sizeLine:=by have:=QY kvs k v; omega
  refine wpAny_setItem_heap (hsz:=hz) (fW hu) (qBB I.hok eb) dd fun h' dd' hs=>h _ ?_
  obtain ⟨q,es,ep,hq,h2,h3,h4,_,h5⟩:=dd'
  refine qCJ I (by rw [e]; exact kJ) hs ⟨q,hq⟩ ⟨hl,hd,_,(rel.put k eb rv).keeps fun c ys ec=>?_,q,es,ep,hq,h2,h3,h4,h5⟩
  rw [qI (qMg ec e (fun z=>nomatch z))]
  exact ec
end
noncomputable def qNP (i:Expr):Prop:=∀ ov iv,subscripted i false ov iv=operate [ov,iv] (getItem ov iv)
theorem qIX {prog:Program} {w:World} {A:Around} {E:Value->Shared->Prop} {s:Shared} {env:Env} {value slice:Expr} {pos:Pos} {T id:String} {Q:Value->Shared->Prop}
  (hl:typeLookup (.type T) "__getitem__" = pure (some (.builtin id))) (hs:qNP slice)
  (h:wpAny (model prog w) A (eval value env) (fun o s₁=>wpAny (model prog w) A (eval slice env) (fun i s₂=>s₂.TypeIs o T/\wpAny (model prog w) A (getItem o i) Q E s₂) E s₁) E s) :
  wpAny (model prog w) A (eval (.Subscript value slice pos) env) Q E s:=by
 refine Subscript_ (xB h (fun o s₁ h₁=>xB h₁ (fun i s₂ h₂=>?_) fun _ _ x=>x) fun _ _ x=>x)
 obtain ⟨hT,h₂⟩:=h₂
 unfold subscriptTail
 refine wC ?_
 rw [getitemInPython_of_ne hT.not_modules]
 refine wC (wpAny_specialOf hT hl ?_)
 have fin:wpAny (model prog w) A (subscripted slice false o i) (fun r s₃=>wpAny (model prog w) A (letTemporaryGo value o r >>= fun _=>pure r) Q E s₃) E s₂:=by
  rw [hs o i]
  exact wpAny_operating (xB h₂ (fun r s₃ h₃=>wC (wpAny_letTemporaryGo (wK h₃))) fun _ _ x=>x)
 first
  | exact wK (wC fin)
  | exact wC (wK (wC fin))
  | exact wC fin
theorem qB3 {X:Cx} {pins:List (Addr×Obj)} {σ:St} {H:Hp} {s:Shared} {a:Addr} {y:V} {o:Option V} (I:Inv X pins σ H s) (g:qJk H a y o):s.TypeIs (.ref a) "dict":=by
 rcases g with ⟨kvs,k,e,_,_⟩ | ⟨kvs,k,b,e,_,_,_⟩
 ·obtain ⟨_,_,vs,_,dd⟩:=qDW I.hok e
  exact dd.typeIs
 ·obtain ⟨_,_,xs,_,dd⟩:=qDh I.hok e
  exact dd.typeIs
noncomputable def qKb (td ty:TE):TE:=fun σ H Q=>td σ H fun x H1=>ty σ H1 fun y H2=>∃ a v,x=.ref a/\qJk H2 a y (some v)/\Q v H2
noncomputable def qNF (ty td:TE):TE:=fun σ H Q=>ty σ H fun y H1=>td σ H1 fun x H2=>∃ a o,x=.ref a/\qJk H2 a y o/\Q (.bl o.isSome) H2
noncomputable def qIm (td ty tv:TE):TS:=fun D σ H=>tv σ H fun v H1=>td σ H1 fun x H2=>ty σ H2 fun y H3=>∃ a H4,x=.ref a/\qNX H3 a y v H4/\D.nx σ H4
section
variable {X:Cx} {o i e value:Expr} {pos pos' tpos:Pos} {td ty tv:TE}
theorem qJ5 (hu:X.A.units+1<cLine) (ho:PE X o td) (hi:PE X i ty) (hs:qNP i):PE X (.Subscript o i pos) (qKb td ty):=by
 intro pins s σ H Q I h
 refine qIX PySem.F.slot_dict_getitem.lookup hs (thn (ho pins s σ H _ I h) fun u s1 ⟨x,H1,I1,rx,q1⟩=>thn (hi pins s1 σ H1 _ I1 q1) fun iv s2 ⟨y,H2,I2,ry,a,v,ex,g,q2⟩=>?_)
 subst ex
 obtain rfl:u=zW a:=rx
 exact ⟨qB3 I2 g,qEu hu I2 g ry fun w' s3 I3 rw'=>⟨v,H2,I3,rw',q2⟩⟩
theorem qLd (hu:X.A.units+1<cLine) (hi:PE X i ty) (ho:PE X o td):PC X .In i o (qNF ty td):=by
 intro pins s σ H Q I h
 refine thn (hi pins s σ H _ I h) fun iv s1 ⟨y,H1,I1,ry,q1⟩=>thn (ho pins s1 σ H1 _ I1 q1) fun u s2 ⟨x,H2,I2,rx,a,ov,ex,g,q2⟩=>?_
 subst ex
 obtain rfl:u=zW a:=rx
 exact qOL hu I2 g ry fun s3 I3=>⟨.bl ov.isSome,H2,I3,rfl,q2⟩
theorem qAH (hu:X.A.units+1<cLine) (ho:PE X o td) (hi:PE X i ty) (hv:PE X value tv) (hs:swapsWith value (some (.Subscript o i pos')) pos.line X.env=pure false) :
  PS X (.Assign [.Subscript o i pos'] value pos) (qIm td ty tv):=by
 intro pins s σ H D I h
 refine wpAny_Assign_Subscript (thn (hv pins s σ H _ I h) fun r s1 ⟨v,H1,I1,rv,q1⟩=>thn (ho pins s1 σ H1 _ I1 q1) fun u s2 ⟨x,H2,I2,rx,q2⟩=>thn (hi pins s2 σ H2 _ I2 q2) fun iv s3 ⟨y,H3,I3,ry,a,H4,ex,g,q3⟩=>?_) hs
 subst ex
 obtain rfl:u=zW a:=rx
 exact qE0 hu I3 g ry rv fun s4 I4=>⟨σ,H4,I4,q3⟩
end
theorem qGi {P:Program} {w:World} {H:Hp} (h:Heap) (hb:sysModules<h.objs.size):jD P w H (h.push { cls:=.type "dict",data:=.dict #[] }) h.objs.size (.dK []):=
 ⟨zV _,beq_eq_false_iff_ne.mpr (kX (zZ hb)),[],.nil,Heap.DictOf.new h⟩
theorem qG3 {P:Program} {w:World} {H:Hp} (h:Heap) (hb:sysModules<h.objs.size):jD P w H (h.push { cls:=.type "dict",data:=.dict #[] }) h.objs.size (.dT []):=
 ⟨zV _,beq_eq_false_iff_ne.mpr (kX (zZ hb)),[],.nil,_,#[],0,zB _ rfl,⟨rfl,rfl,rfl⟩,rfl,rfl,vD⟩
noncomputable def qHq:TE:=fun _ H Q=>∀ p,H p=none->Q (.ref p) (upd H p (.dT []))
section
variable {X:Cx} {pos:Pos}
theorem qGo:PE X (.Dict [] [] pos) qHq:=fun pins s σ H Q I h=>
 wpAny_Dict_empty ⟨.ref s.heap.objs.size,_,I.laid (a:=s.heap.objs.size) (o:=.dT []) (t':=s.toks) (fun _ _ q=>wG _ q) (wF _) (qG3 s.heap I.big),rfl,h _ (I.hok.fresh (wF _))⟩
end
noncomputable def qEI:List (TE×TE)->St->Hp->(List (V×V)->Hp->Prop)->Prop
 | [],_,H,Q=>Q [] H
 | (tk,tv)::r,σ,H,Q=>tk σ H fun x H1=>tv σ H1 fun y H2=>qEI r σ H2 fun ps H3=>Q ((x,y)::ps) H3
noncomputable abbrev VV:List (V×V)->List (Value×Value)->Prop:=Paired fun p q=>RelV p.1 q.1/\RelV p.2 q.2
noncomputable def PPs (X:Cx) (pos:Pos) (keys:List (Option Expr)) (values:List Expr) (trs:List (TE×TE)):Prop:=
 ∀(pins:List (Addr×Obj)) (s:Shared) (σ:St) (H:Hp) (Q:List (V×V)->Hp->Prop),Inv X pins σ H s->qEI trs σ H Q->
  wpAny (model X.prog X.w) X.A (evalPairs (pairTrees keys values X.env pos)) (fun vs s'=>∃ ps H',Inv X pins σ H' s'/\VV ps vs/\Q ps H') X.xe s
theorem qIT {X:Cx} {pos:Pos}:PPs X pos [] [] []:=fun pins s σ H Q I h=>pairTrees_nil_walk ⟨[],H,I,.nil,h⟩
theorem qGH {X:Cx} {pos:Pos} {k v:Expr} {ks:List (Option Expr)} {vs:List Expr} {tk tv:TE} {trs:List (TE×TE)} (hk:PE X k tk) (hv:PE X v tv) (hr:PPs X pos ks vs trs) :
  PPs X pos (some k::ks) (v::vs) ((tk,tv)::trs):=fun pins s σ H Q I h=>
 pairTrees_cons_walk (thn (hk pins s σ H _ I h) fun u s1 ⟨x,H1,I1,rx,q1⟩=>thn (hv pins s1 σ H1 _ I1 q1) fun w2 s2 ⟨y,H2,I2,ry,q2⟩=>
  thn (hr pins s2 σ H2 _ I2 q2) fun ws s3 ⟨ps,H3,I3,rel,q3⟩=>⟨(x,y)::ps,H3,I3,.cons ⟨rx,ry⟩ rel,q3⟩)
noncomputable def Y7 (kvs more:List (Key×V)):List (Key×V):=more.foldl (fun acc kv=>putK acc kv.1 kv.2) kvs
theorem KV.merge:∀{more:List (Key×V)} {rs:List (Key×Value)} {kvs:List (Key×V)} {vs:List (Key×Value)},KV more rs->KV kvs vs->KV (Y7 kvs more) (merged vs rs):=by
 intro more rs kvs vs r
 unfold KV at r
 induction r generalizing kvs vs with
 | nil=>intro q; exact q
 | @cons p q ps qs h t ih=>
  intro r0
  have e:KV (putK kvs p.1 p.2) (stored vs q.1 q.2):=by
   have:=r0.put p.1 h.2
   rw [<- h.1]; exact this
  exact ih e
theorem Qx:∀(more kvs:List (Key×V)),(Y7 kvs more).length<=kvs.length+more.length
 | [],kvs=>by show kvs.length<=kvs.length+0; omega
 | p::r,kvs=>by
  have h1:=Qx r (putK kvs p.1 p.2)
  have h2:=QY kvs p.1 p.2
  show (Y7 (putK kvs p.1 p.2) r).length<=_
  rw [wW]; omega
theorem Yk {P:Program} {w:World}:∀{kvs:List (Key×V)} {ws:List (Value×Value)},VV (kvs.map fun kv=>(kV kv.1,kv.2)) ws->∃ rs,Carries (qt P w) ws rs/\KV kvs rs
 | [],_,r=>by rw [fR] at r; cases r; exact ⟨[],kJ,.nil⟩
 | p::kvs,_,r=>by
  rw [zF] at r
  cases r with
  | @cons a b as bs h t=>
   obtain ⟨rs,c,q⟩:=Yk (P:=P) (w:=w) t
   obtain ⟨b1,b2⟩:=b
   exact ⟨(p.1,b2)::rs,⟨qDm h.1,rfl,c⟩,.cons ⟨rfl,h.2⟩ q⟩
noncomputable def qKs (trs:List (TE×TE)):TE:=fun σ H Q=>∀ p,H p=none->qEI trs σ (upd H p (.dK [])) fun ps H2=>H2 p=some (.dK [])/\∃ kvs:List (Key×V),ps=kvs.map (fun kv=>(kV kv.1,kv.2))/\kvs.length<=15/\Q (.ref p) (upd H2 p (.dK (Y7 [] kvs)))
theorem qJw {X:Cx} {pos:Pos} {keys:List (Option Expr)} {values:List Expr} {trs:List (TE×TE)} (h:PPs X pos keys values trs) (hall:keys.all (·.isSome)=true) (hl:keys.length=values.length) (h0:keys≠[])
  (h15:keys.length<=15):PE X (.Dict keys values pos) (qKs trs):=by
 intro pins s σ H Q I q
 have hn:=I.hok.fresh (wF s.heap.objs.size)
 have I1:=I.laid (a:=s.heap.objs.size) (o:=.dK []) (h':=s.heap.push { cls:=.type "dict",data:=.dict #[] }) (t':=s.toks) (fun _ _ q=>wG _ q) (wF _) (qGi s.heap I.big)
 refine wpAny_Dict_walk (knd:=qt X.prog X.w) hall hl h0 h15 (thn (h pins _ σ _ _ I1 (q _ hn)) fun ws s2 ⟨ps,H2,I2,rel,e,kvs,ep,lk,q2⟩=>?_)
 subst ep
 obtain ⟨rs,c,rk⟩:=Yk (P:=X.prog) (w:=X.w) rel
 obtain ⟨z,hd,vs0,r0,dd⟩:=qKm I2.hok e
 cases r0
 refine ⟨rs,c,dd,fun h' dd' hs=>⟨.ref s.heap.objs.size,_,?_,rfl,q2⟩⟩
 have hz:(Y7 [] kvs).length<=sizeLine:=by
  have h1:=Qx kvs []
  rw [uC] at h1
  rw [xW]; omega
 have he:∃ q,h'.get? s.heap.objs.size=some q:=let ⟨q,_,_,hq,_⟩:=dd'; ⟨q,hq⟩
 exact qCJ I2 (by rw [e]; exact kJ) hs he (qHo hz hd (rk.merge .nil) dd')
structure M2 (X:Cx) (o:Expr) (m:Str) (apos:Pos) (e f:Expr) (cpos:Pos):Prop where
 base:attributeBase o m X.env (eval o X.env)=eval o X.env
 few:((backTo cpos (starEach [e,f] X.env)).all (fun x=>!x.1) && (backToKw cpos (keywordEach [] X.env)).all (fun x=>x.1.isSome)
  && decide (([e,f]:List Expr).length+([]:List Keyword).length+(if ([]:List Keyword).isEmpty then 0 else 1)<30))=true
 line:(apos.endLine == cpos.line)=true
 trees:backTo cpos (starEach [e,f] X.env)=[(false,eval e X.env),(false,eval f X.env)]
noncomputable def IsD (H:Hp) (a:Addr):Prop:=(∃ kvs,Rd H a (.dK kvs))\/∃ kvs,Rd H a (.dT kvs)
theorem qHu {X:Cx} {pins:List (Addr×Obj)} {σ:St} {H:Hp} {s:Shared} {a:Addr} (I:Inv X pins σ H s) (d:IsD H a) :
  s.TypeIs (.ref a) "dict"/\(∀ b,zW a=.ref b->∃ ob,s.heap.get? b=some ob/\ob.dict=none)/\(a == sysModules)=false:=by
 rcases d with ⟨kvs,e⟩ | ⟨kvs,e⟩
 ·obtain ⟨_,hd,vs,_,dd⟩:=qDW I.hok e
  refine ⟨dd.typeIs,fun b q=>?_,hd⟩
  cases q
  obtain ⟨ob,_,_,h1,h2,_⟩:=dd
  exact ⟨ob,h1,h2.2.1⟩
 ·obtain ⟨_,hd,xs,_,dd⟩:=qDh I.hok e
  refine ⟨dd.typeIs,fun b q=>?_,hd⟩
  cases q
  obtain ⟨ob,_,_,h1,h2,_⟩:=dd
  exact ⟨ob,h1,h2.2.1⟩
section
variable {X:Cx} {pins:List (Addr×Obj)} {σ:St} {H:Hp} {s:Shared} {a:Addr} {y d:V} {u r:Value} {o:Option V} {A:Around} {E:Value->Shared->Prop}
theorem qKD {Q:Value->Shared->Prop} (hu:A.units+1<cLine) (I:Inv X pins σ H s) (g:qJk H a y o) (ry:RelV y u) (rd:RelV d r) (h:∀ w' s',Inv X pins σ H s'->RelV (o.getD d) w'->Q w' s') :
  wpAny (model X.prog X.w) A (call (.builtin "dict.get") [.ref a,u,r]) Q E s:=by
 rcases g with ⟨kvs,k,e,ey,l⟩ | ⟨kvs,k,b,e,ey,eb,l⟩
 ·subst ey
  obtain ⟨z,hd,vs,rel,dd⟩:=qDW I.hok e
  refine call_meetsIn WE dd.typeIs PySem.F.entry_dict_get (SH _ _ _) (meets_dict_get_default (qt X.prog X.w) a (qDm ry) hd r) ⟨_,dd.mapOf,h _ _ (I.tok _) ?_⟩
  rw [l]
  exact (rel.val k).getD rd
 ·subst ey
  cases (show u=zW b from ry)
  obtain ⟨z,hd,xs,rel,dd⟩:=qDh I.hok e
  refine call_meetsIn WE dd.typeIs PySem.F.entry_dict_get (SH _ _ _) (meetsH_dict_get_default (tupleKind (qt X.prog X.w)) a b hd r) ⟨fW hu,k,xs,qBB I.hok eb,dd,h _ _ (I.tok _) ?_⟩
  rw [l]
  exact (rel.val k).getD rd
end
noncomputable def qHy (td ty tx:TE):TE:=fun σ H Q=>td σ H fun x H1=>∃ a,x=.ref a/\IsD H1 a/\ty σ H1 fun y H2=>tx σ H2 fun z H3=>∃ o,qJk H3 a y o/\Q (o.getD z) H3
section
variable {X:Cx} {o e f:Expr} {apos cpos:Pos} {td ty tx:TE}
theorem qG5 (hu:X.A.units+1<cLine) (ho:PE X o td) (he:PE X e ty) (hf:PE X f tx) (m:M2 X o "get" apos e f cpos):PE X (.Call (.Attribute o "get" apos) [e,f] [] cpos) (qHy td ty tx):=by
 intro pins s σ H Q I h
 refine wpAny_Call_method m.base m.few m.line SJ WE PySem.F.type_dict_get (thn (ho pins s σ H _ I h) fun u s1 ⟨x,H1,I1,rx,a,ex,d,q1⟩=>?_)
 subst ex
 obtain rfl:u=zW a:=rx
 obtain ⟨t1,t2,_⟩:=qHu I1 d
 refine ⟨t1,t2,?_⟩
 rw [m.trees]
 refine ZW rfl (WJ (gM (thn (he pins s1 σ H1 _ I1 q1) fun iv s2 ⟨y,H2,I2,ry,q2⟩=>
  gM (thn (hf pins s2 σ H2 _ I2 q2) fun fv s3 ⟨z,H3,I3,rz,ov,g,q3⟩=>ZF ?_))))
 exact qKD hu I3 g ry rz fun w' s4 I4 rw'=>⟨_,H3,I4,rw',q3⟩
end
section
variable {w:World} {prog:Program} {A:Around} {s:Shared} {R:Result->Shared->Prop}
theorem qBr {elt target iter:Expr} {ifs:List Expr} {scope:Scope} {pos:Pos} {it acc:Value} {env:Env} (J:Nat->Shared->Prop)
  (turn:∀ n s,J n s->wpAny (model prog w) A (pyNext it) (fun r s1=>match r with
   | none=>R (.ok .next) s1
   | some v=>wpAny (model prog w) A (letOwnedTupleGo target it v) (fun _ s1'=>wpAny (model prog w) A (assign target env v) (fun _ s2=>
     wpAny (model prog w) A (forIn ifs true fun c r=>if r=true then do let ok <- isTrue c env (eval c env); pure (uD ok) else pure (uD r)) (fun ok s3=>
      if ok=true then wpAny (model prog w) A (eval elt env) (fun x s4=>
       wpAny (model prog w) A (call (.builtin "list.append") [acc,x]) (fun _ s5=>∃ m,m<n/\J m s5) (fun _ _=>False) s4) (fun _ _=>False) s3
      else ∃ m,m<n/\J m s3) (fun _ _=>False) s2) (fun _ _=>False) s1') (fun _ _=>False) s1) (fun _ _=>False) s)
  (n:Nat) (h:J n s):codeAny (model prog w) A (.compLoop (.ListComp elt [⟨target,iter,ifs,0⟩] scope pos) 0 it acc env) R s:=by
 refine codeAny_loop rfl J (fun n s hI=>?_) n h
 refine wpAny_noted (env:=env) (m:=compTurn (.ListComp elt [⟨target,iter,ifs,0⟩] scope pos) 0 it acc env) ?_
 rw [compTurn_list]
 refine wC (gI (wC (xB (turn n s hI) (fun r s1 h1=>?_) fun _ _ h'=>h'.elim)))
 cases r with
 | none=>exact wK h1
 | some v=>
  refine wC (xB h1 (fun _ s1' h1'=>?_) fun _ _ h'=>h'.elim)
  refine wC (xB h1' (fun _ s2 h2=>wC (xB h2 (fun ok s3 h3=>?_) fun _ _ h'=>h'.elim)) fun _ _ h'=>h'.elim)
  cases ok with
  | false=>exact wK ⟨rfl,h3⟩
  | true=>
   exact wC (wC (xB h3 (fun x s4 h4=>wC (xB h4 (fun _ s5 h5=>wK (wK ⟨rfl,h5⟩)) fun _ _ h'=>h'.elim)) fun _ _ h'=>h'.elim))
end
theorem JK {env:Env}:∀(names:List (Str×NameKind)) (cs:List (Str×Addr)),(∀ x∈names,x.2=.free->∃ c,env.cells.lookup x.1=some c)->(∀ x c,cs.lookup x=some c->env.cells.lookup x=some c)->
  ∃ cl,(forIn names cs fun (x:Str×NameKind) (cs:List (Str×Addr))=>(if (x.2 == xF)=true then do let a <- cellOf env x.1; pure (uD ((x.1,a)::cs)) else pure (uD cs):Sem (ForInStep (List (Str×Addr)))))=pure cl/\
   (∀ x c,cl.lookup x=some c->env.cells.lookup x=some c)/\(∀ x,(cs.lookup x).isSome=true->(cl.lookup x).isSome=true)/\∀ x∈names,x.2=.free->(cl.lookup x.1).isSome=true
 | [],cs,_,h=>⟨cs,rfl,h,fun _ z=>z,fun x z=>by cases z⟩
 | (n,k)::r,cs,hf,h=>by
  by_cases hk:k=.free
  ·subst hk
   obtain ⟨c,hc⟩:=hf (n,.free) wL rfl
   have hc':env.cells.lookup n=some c:=hc
   obtain ⟨cl,e,h1,h2,h3⟩:=JK (env:=env) r ((n,c)::cs) (fun x hx=>hf x (wI _ hx)) (fun x d hd=>by
    rw [yU] at hd
    by_cases hx:x=n
    ·subst hx
     simp at hd
     subst hd
     exact hc
    ·have:(x == n)=false:=by simpa using hx
     rw [this] at hd
     exact h x d hd)
   refine ⟨cl,?_,h1,fun x hx=>h2 x ?_,fun x hx hk=>?_⟩
   ·rw [UJ]
    simp only [beq_self_eq_true,if_true,cellOf,hc',pure_bind]
    exact e
   ·rw [yU]
    by_cases hx':x=n
    ·subst hx'; simp
    ·have:(x == n)=false:=by simpa using hx'
     rw [this]; exact hx
   ·rcases wX.mp hx with z | z
    ·subst z
     refine h2 _ ?_
     rw [yU]
     simp
    ·exact h3 x z hk
  ·obtain ⟨cl,e,h1,h2,h3⟩:=JK (env:=env) r cs (fun x hx=>hf x (wI _ hx)) h
   refine ⟨cl,?_,h1,h2,fun x hx hk'=>?_⟩
   ·rw [UJ]
    have:(k == xF)=false:=by simpa using hk
    simp only [this,uN,if_false,pure_bind]
    exact e
   ·rcases wX.mp hx with z | z
    ·subst z; exact absurd hk' hk
    ·exact h3 x z hk'
theorem JI {env:Env} {scope:Scope} (hf:∀ x∈scope.names,x.2=.free->∃ c,env.cells.lookup x.1=some c) :
  ∃ cl,closureFor scope env=pure cl/\(∀ x c,cl.lookup x=some c->env.cells.lookup x=some c)/\∀ x∈scope.names,x.2=.free->(cl.lookup x.1).isSome=true:=by
 obtain ⟨cl,e,h1,_,h3⟩:=JK (env:=env) scope.names [] hf (fun x c z=>by cases z)
 refine ⟨cl,?_,h1,h3⟩
 unfold closureFor
 simp only [bind_pure]
 exact e
noncomputable def qCY (scope:Scope) (x:Str):Bool:=match scope.names.lookup x with
 | some .cell=>true
 | _=>false
theorem qDv {scope:Scope} {x:Str} (h:qCY scope x=true):scope.names.lookup x=some .cell:=by
 unfold qCY at h
 split at h
 ·assumption
 ·cases h
noncomputable def qT (n:Nat) (scope:Scope):List (Str×Addr):=cellsFrom (n+1) scope.names []
theorem QA:∀(names:List (Str×NameKind)) (n:Nat) (cl:List (Str×Addr)),cellsFrom n names cl=cellsFrom n names []++cl
 | [],_,_=>rfl
 | (x,k)::r,n,cl=>by
  unfold cellsFrom
  split
  ·rw [QA r (n+1) ((x,n)::cl),QA r (n+1) [(x,n)],yF]
   rfl
  ·exact QA r n cl
theorem Jt:∀(names:List (Str×NameKind)) (n:Nat) {x:Str} {c:Addr},(x,c)∈cellsFrom n names []->(x,kS)∈names
 | [],_,_,_,h=>absurd h zU
 | (y,k)::r,n,x,c,h=>by
  unfold cellsFrom at h
  split at h
  ·rename_i hk
   rw [QA] at h
   rcases zR.mp h with z | z
   ·exact wI _ (Jt r _ z)
   ·cases wY.mp z
    rw [beq_iff_eq.mp hk]
    exact wL
  ·exact wI _ (Jt r _ h)
structure qAg (s:Shared) (scope:Scope) (h':Heap):Prop where
 ns:h'.Ns s.heap.objs.size fun _=>none
 keep:∀ b o,s.heap.get? b=some o->h'.get? b=some o
 cell:∀ x c,(qT s.heap.objs.size scope).lookup x=some c->h'.IsCell c none/\s.heap.objs.size<c
 one:∀ x y c,(qT s.heap.objs.size scope).lookup x=some c->(qT s.heap.objs.size scope).lookup y=some c->x=y
theorem qBR {M:Model} {A:Around} {E:Value->Shared->Prop} {s:Shared} {scope:Scope} {gl:Addr} {cl:List (Str×Addr)} {q:Str} {env:Env} {Q:Env->Shared->Prop}
  (h:∀ h',qAg s scope h'->Q (newEnv scope s.heap.objs.size gl (qT s.heap.objs.size scope++cl) q none .none (some env) builtinsNs) { s with heap:=h',toks:=s.toks }) :
  wpAny M A (newFunctionEnv scope gl cl [] q none .none (some env)) Q E s:=by
 unfold newFunctionEnv
 refine wC (wpAny_alloc (wC (wpAny_layCells _ (fun x k cs=>?_) _ _ _ _ (wC ?_))))
 ·by_cases z:(k == kS)=true
  ·rw [if_pos z]
   simp only [z,if_true,pure_bind,bind_assoc]
  ·rw [if_neg z]
   simp only [ZG.mpr z,uN,if_false,pure_bind]
 ·have sz:=WK s.heap { cls:=.type "dict",data:=.dict #[] }
  have ok:=cellsFrom_ok scope.names (s.heap.push { cls:=.type "dict",data:=.dict #[] }) (s.heap.objs.size+1) [] ⟨fun x c z=>absurd z zU,.nil⟩ (uJ sz.symm)
  rw [sz] at ok
  have b:qAg s scope (pushCells (s.heap.push { cls:=.type "dict",data:=.dict #[] }) scope.names):=by
   refine ⟨(Heap.Ns.new s.heap (.type "dict")).keeps (pushCells_keeps _ _),fun b o e=>pushCells_keeps _ _ b o (wG _ e),fun x c e=>?_,fun x y c e1 e2=>name_of_addr ok.apart (vH e1) (vH e2)⟩
   obtain ⟨z1,z2⟩:=ok.empty x c (vH e)
   exact ⟨z1,z2⟩
  have this:=h _ b
  unfold qT at this
  rw [<- QA,<- sz] at this
  rw [List.forIn_nil]
  exact wK (wK this)
noncomputable def qY (X:Cx) (NY:List Str) (scope:Scope) (cl:List (Str×Addr)) (C:Addr) (s0:Shared) (H0:Hp) (ex:List Addr):Cx:=
 { X with N:=NY,s₀:=s0,H₀:=H0,env:=compEnvC scope cl C X.env,outer:=X.stack,ex:=ex,fn:=qCY scope,pn:=[],xe:=fun _ _=>False }
noncomputable def YL (X:Cx) (scope:Scope):List (Str×Nat)->Prop
 | []=>True
 | p::r=>(X.N[p.2]? = some p.1/\scope.names.lookup p.1=some .free/\(X.env.kindOf p.1=some .cell\/X.env.kindOf p.1=some .free))/\YL X scope r
theorem YL.all {X:Cx} {scope:Scope}:∀{fr:List (Str×Nat)},YL X scope fr->∀ p∈fr,X.N[p.2]? = some p.1/\scope.names.lookup p.1=some .free/\(X.env.kindOf p.1=some .cell\/X.env.kindOf p.1=some .free)
 | [],_,p,hp=>by cases hp
 | q::r,h,p,hp=>by
  rcases wX.mp hp with z | z
  ·subst z; exact h.1
  ·exact YL.all h.2 p z
noncomputable def qk (own:List Str) (fr:List (Str×Nat)) (σ:St):St:=own.map (fun _=>none)++fr.map fun p=>(σ[p.2]?).join
theorem QH {env:Env}:∀{names:List (Str×NameKind)} {x:Str} {k:NameKind},(names.map fun (n,k)=>if (k == xF && env.scope.kind == .function && env.kindOf n == some .cell) then (n,kS) else (n,k)).lookup x=some k->
  k=.cell\/k=.free->names.lookup x=some .free\/names.lookup x=some .cell
 | [],_,_,h,_=>by simp at h
 | (n,k0)::r,x,k,h,hk=>by
  have ih:=@QH env r x k
  have h':List.lookup x ((if (k0 == xF && env.scope.kind == .function && env.kindOf n == some .cell)=true then (n,kS) else (n,k0))::(r.map fun (n,k)=>if (k == xF && env.scope.kind == .function && env.kindOf n == some .cell) then (n,kS) else (n,k)))=some k:=h
  clear h
  cases hx:x == n with
  | true=>
   simp only [yU,hx]
   by_cases hc:(k0 == xF && env.scope.kind == .function && env.kindOf n == some .cell)=true
   ·simp only [yY,beq_iff_eq] at hc
    exact .inl (by rw [hc.1.1])
   ·rw [if_neg hc] at h'
    simp only [yU,hx] at h'
    cases h'
    rcases hk with rfl | rfl
    ·exact .inr rfl
    ·exact .inl rfl
  | false=>
   simp only [yU,hx]
   by_cases hc:(k0 == xF && env.scope.kind == .function && env.kindOf n == some .cell)=true
   ·rw [if_pos hc] at h'; simp only [yU,hx] at h'; exact ih h' hk
   ·rw [if_neg hc] at h'; simp only [yU,hx] at h'; exact ih h' hk
theorem Q2 {env:Env}:∀{names:List (Str×NameKind)} {x:Str},(names.map fun (n,k)=>if (k == xF && env.scope.kind == .function && env.kindOf n == some .cell) then (n,kS) else (n,k)).lookup x=some .local->
  names.lookup x=some .local
 | [],_,h=>by simp at h
 | (n,k0)::r,x,h=>by
  have ih:=@Q2 env r x
  have h':List.lookup x ((if (k0 == xF && env.scope.kind == .function && env.kindOf n == some .cell)=true then (n,kS) else (n,k0))::(r.map fun (n,k)=>if (k == xF && env.scope.kind == .function && env.kindOf n == some .cell) then (n,kS) else (n,k)))=some .local:=h
  clear h
  cases hx:x == n with
  | true=>
   simp only [yU,hx]
   by_cases hc:(k0 == xF && env.scope.kind == .function && env.kindOf n == some .cell)=true
   ·rw [if_pos hc] at h'; simp [yU,hx] at h'
   ·rw [if_neg hc] at h'; simpa [yU,hx] using h'
  | false=>
   simp only [yU,hx]
   by_cases hc:(k0 == xF && env.scope.kind == .function && env.kindOf n == some .cell)=true
   ·rw [if_pos hc] at h'; simp only [yU,hx] at h'; exact ih h'
   ·rw [if_neg hc] at h'; simp only [yU,hx] at h'; exact ih h'
structure qz (X:Cx) (own:List Str) (fr:List (Str×Nat)) (scope:Scope):Prop where
 kind:scope.kind=.function
 cells:∀ y∈scope.names,y.2=.cell->scope.names.lookup y.1=some .cell
 names:∀ x∈scope.names,x.2=.local->scope.names.lookup x.1=some .local
 frees:YL X scope fr
 allf:∀ x∈scope.names,x.2=.free->∃ p∈fr,p.1=x.1
section
variable {X:Cx} {pins:List (Addr×Obj)} {σ:St} {H:Hp} {s:Shared}
theorem qz.has {own:List Str} {fr:List (Str×Nat)} {scope:Scope} (S:qz X own fr scope) (ok:X.Ok):∀ x∈scope.names,x.2=.free->∃ c,X.env.cells.lookup x.1=some c:=fun x hx hk=>by
 obtain ⟨p,hp,e⟩:=S.allf x hx hk
 obtain ⟨_,_,h⟩:=S.frees.all p hp
 rw [<- e]
 exact ok.has p.1 h
theorem Q1 {n:Nat} {scope:Scope} {cl:List (Str×Addr)} {x:Str} {c:Addr} (h:(qT n scope++cl).lookup x=some c):(qT n scope).lookup x=some c\/cl.lookup x=some c:=by
 rw [fX] at h
 cases e:(qT n scope).lookup x with
 | none=>rw [e] at h; exact .inr h
 | some d=>rw [e] at h; exact .inl h
theorem qz.outer {own:List Str} {fr:List (Str×Nat)} {scope:Scope} (S:qz X own fr scope) {n:Nat} {cl:List (Str×Addr)} {x:Str} (h:scope.names.lookup x=some .free):(qT n scope++cl).lookup x=cl.lookup x:=by
 rw [fX]
 cases e:(qT n scope).lookup x with
 | none=>rfl
 | some d=>
  have:=S.cells _ (Jt _ _ (vH e)) rfl
  rw [h] at this
  cases this
theorem qAk {scope:Scope} {cl:List (Str×Addr)} {h':Heap} (B:qAg s scope h') {b:Addr} {o:Obj} (hb:s.heap.get? b=some o) {x:Str} {c:Addr} (h:(qT s.heap.objs.size scope++cl).lookup x=some c) (g:cl.lookup x=some c->c≠b):c≠b:=by
 rcases Q1 h with z | z
 ·exact fun e=>absurd (wZ hb) (VT (e ▸ (B.cell x c z).2))
 ·exact g z
theorem qDP {own:List Str} {fr:List (Str×Nat)} {scope:Scope} {cl:List (Str×Addr)} {fp:List Addr} {h':Heap} {tk:Nat} (S:qz X own fr scope) (I:Inv X pins σ H s)
  (hcl:∀ x c,cl.lookup x=some c->X.env.cells.lookup x=some c) (hcs:∀ x∈scope.names,x.2=.free->(cl.lookup x.1).isSome=true)
  (hf:∀ b∈fp,qBv X pins H b) (hfo:∀ b∈fp,∃ o,s.heap.get? b=some o)
  (B:qAg s scope h') :
  Inv (qY X (own++fr.map (·.1)) scope (qT s.heap.objs.size scope++cl) s.heap.objs.size s H fp) [] (qk own fr σ) H { s with heap:=h',toks:=tk }:=by
 have keep:=B.keep
 have old:∀ x c,cl.lookup x=some c->c<s.heap.objs.size:=fun x c e=>by
  obtain ⟨v,z⟩:=I.cell x c (hcl x c e)
  exact z.lt
 have freeOf:∀ x,scope.names.lookup x=some .free->∃ c,cl.lookup x=some c:=fun x hx=>by
  have hm:=vH hx
  exact TU.mp (hcs _ hm rfl)
 refine ⟨⟨I.ok.mod,?_,I.ok.glob,I.ok.blt,wF _,?_,?_,?_,I.ok.hd,I.ok.frames,.inl rfl,?_,I.bs,zK I.ok.bsz I.sz,?_,?_,I.stack,I.stkFree⟩,rfl,I.bare,Un.kept keep,⟨_,B.ns,?_⟩,?_,I.hok.fresh (wF _),?_,?_,I.hok.kept keep,?_⟩
 ·exact S.kind
 ·intro x y c h1 h2
  rcases Q1 h1 with z1 | z1 <;> rcases Q1 h2 with z2 | z2
  ·exact B.one x y c z1 z2
  ·exact absurd (old y c z2) (VT (B.cell x c z1).2)
  ·exact absurd (old x c z1) (VT (B.cell y c z2).2)
  ·exact I.ok.inj x y c (hcl x c z1) (hcl y c z2)
 ·intro x hx
  have hx':(relabel scope X.env).names.lookup x=some .cell\/(relabel scope X.env).names.lookup x=some .free:=hx
  have:scope.names.lookup x=some .free\/scope.names.lookup x=some .cell:=by
   rcases hx' with z | z
   ·exact QH z (.inl rfl)
   ·exact QH z (.inr rfl)
  rcases this with z | z
  ·obtain ⟨c,hc⟩:=freeOf x z
   exact ⟨c,(S.outer z).trans hc⟩
  ·obtain ⟨c,hc⟩:=Jh (n:=s.heap.objs.size+1) z
   refine ⟨c,?_⟩
   show (qT s.heap.objs.size scope++cl).lookup x=some c
   rw [fX,show (qT s.heap.objs.size scope).lookup x=some c from hc]
   rfl
 ·intro x c hx z
  obtain ⟨d,hd⟩:=Jh (n:=s.heap.objs.size+1) (qDv hx)
  have e:(qT s.heap.objs.size scope++cl).lookup x=some d:=by
   rw [fX,show (qT s.heap.objs.size scope).lookup x=some d from hd]
   rfl
  have z':(qT s.heap.objs.size scope++cl).lookup x=some c:=z
  rw [e] at z'
  cases z'
  exact xU (B.cell x c hd).2
 ·intro b hb
  obtain ⟨o,ho⟩:=hfo b hb
  exact ⟨zZ (wZ ho),fun x c e=>qAk B ho e fun z=>(hf b hb).2.2.2.2.1 x c (hcl x c z)⟩
 ·intro b o e hb
  obtain ⟨_,_,_,z,_⟩:=hf b hb
  rcases z with z | z
  ·exact I.ok.noex b o e z
  ·exact absurd (zS (wZ (I.ok.bs b o e).1) z) (vX _)
 ·intro b hb hs
  obtain ⟨_,f1,f2,_⟩:=hf b hb
  rcases wX.mp (I.stkSub b hs) with e | e
  ·exact f1 e
  ·exact f2 e
 ·intro i x v h1 h2 h3
  have h1':(own++fr.map (·.1))[i]? = some x:=h1
  have h2':(own.map (fun _=>(none:Option V))++fr.map fun p=>(σ[p.2]?).join)[i]? = some (some v):=h2
  by_cases hi:i<own.length
  ·rw [yL (by simpa using hi),wQ] at h2'
   rw [wA hi] at h2'
   cases h2'
  ·rw [zO (by omega),wQ] at h1'
   rw [zO (by simp; omega),wQ,wB] at h2'
   cases e:fr[i - own.length]? with
   | none=>rw [e] at h1'; cases h1'
   | some p=>
    rw [e] at h1' h2'
    have e1:p.1=x:=by simpa using h1'
    have e2:(σ[p.2]?).join=some v:=by simpa using h2'
    have e3:σ[p.2]? = some (some v):=by
     cases q:σ[p.2]? with
     | none=>rw [q] at e2; cases e2
     | some y=>rw [q] at e2; cases y with
      | none=>cases e2
      | some y=>simpa using e2
    obtain ⟨g1,g2,g3⟩:=S.frees.all p (yD e)
    subst e1
    obtain ⟨m,hn,hl⟩:=I.loc
    have vis:Vis X.env.scope p.1:=by
     rcases g3 with z | z
     ·exact .inr (.inl z)
     ·exact .inr (.inr z)
    obtain ⟨u,r,l⟩:=hl p.2 p.1 v g1 e3 vis
    refine ⟨u,r,.inr ⟨?_,?_⟩⟩
    ·have h3':Vis (relabel scope X.env) p.1:=h3
     rcases h3' with z | z | z
     ·have:=Q2 z
      rw [g2] at this
      cases this
     ·exact .inl z
     ·exact .inr z
    ·rcases l with ⟨k,_⟩ | ⟨k,c,hc,hcell⟩
     ·rcases g3 with z | z
      ·rw [z] at k; cases k
      ·rw [z] at k; cases k
     ·obtain ⟨c',hc'⟩:=freeOf p.1 g2
      have:=hcl _ _ hc'
      rw [hc] at this
      cases this
      obtain ⟨o,ho,hd⟩:=hcell
      exact ⟨c,(S.outer g2).trans hc',o,keep c o ho,hd⟩
 ·intro x c e
  rcases Q1 e with z | z
  ·exact ⟨none,(B.cell x c z).1⟩
  ·obtain ⟨v,o,ho,hd⟩:=I.cell x c (hcl x c z)
   exact ⟨v,o,keep c o ho,hd⟩
 ·intro x c e
  rcases Q1 e with z | z
  ·exact I.hok.fresh (xU (B.cell x c z).2)
  ·exact I.freeC x c (hcl x c z)
 ·intro p hp
  exact absurd (show p∈([]:List (Addr×Obj)) from hp) (by simp)
 ·show (own.map (fun _=>(none:Option V))++fr.map fun p=>(σ[p.2]?).join).length=(own++fr.map (·.1)).length
  simp
end
noncomputable def PF (X:Cx) (ifs:List Expr) (t:TT):Prop:=
 ∀(pins:List (Addr×Obj)) (s:Shared) (σ:St) (H:Hp) (Q:Bool->Hp->Prop),Inv X pins σ H s->t σ H Q->
  wpAny (model X.prog X.w) X.A (forIn ifs true fun c r=>if r=true then do let ok <- isTrue c X.env (eval c X.env); pure (uD ok) else pure (uD r)) (TP X pins σ Q) X.xe s
noncomputable def qLI:TT:=fun _ H Q=>Q true H
theorem QV {X:Cx}:PF X [] qLI:=fun _ _ _ H _ I h=>wpAny_tests_nil ⟨H,I,h⟩
theorem qDL {X:Cx} {c:Expr} {t:TT} (h:PT X c t):PF X [c] t:=fun pins s σ H Q I q=>wpAny_tests_one (h pins s σ H Q I q)
noncomputable def qAc (J:It) (g:TG) (tt:TT) (te:TE) (σ0:St) (H1:Hp) (D:Addr) (Q:Hp->Prop):Prop:=
 ∃ W:Nat->Nat->List V->St->Hp->Prop,(∃ m,W 0 m [] σ0 (upd H1 D (.lst [])))/\∀ i m ys σ H,W i m ys σ H->H D=some (.lst ys)/\
  ((J.stop i H/\Q H)\/(J.go i H/\ys.length<sizeLine/\∃ N:List V->St->Hp->Prop,(∀ ys' σ' H',N ys' σ' H'->∃ m',m'<m/\W (i+1) m' ys' σ' H')/\
   ∀ x H',J.yld i H x H'->g x σ H' fun σ2 H2=>tt σ2 H2 fun b H3=>if b=true then te σ2 H3 fun y H4=>H4 D=some (.lst ys)/\N (ys++[y]) σ2 (upd H4 D (.lst (ys++[y]))) else N ys σ2 H3))
noncomputable def qFv (own:List Str) (fr:List (Str×Nat)) (wi:TI) (g:TG) (tt:TT) (te:TE):TE:=fun σ H Q=>wi σ H fun J H1=>∀ D,H1 D=none->qAc J g tt te (qk own fr σ) H1 D fun H2=>Q (.ref D) H2
section
variable {X:Cx} {pins:List (Addr×Obj)} {σ:St} {H:Hp} {s:Shared}
theorem qGk {own:List Str} {fr:List (Str×Nat)} {scope:Scope} {cl:List (Str×Addr)} {elt tg iter:Expr} {ifs:List Expr} {pos:Pos} {g:TG} {tt:TT} {te:TE} {Q:Addr->Hp->Prop} {RR:Value->Addr->Result->Shared->Prop} {E:Value->Shared->Prop}
  {it:Addr} {fp:List Addr} {tn:Nat->Heap->Prop} {J:It}
  (hc:X.calm=true) (S:qz X own fr scope) (I:Inv X pins σ H s) (hcl:∀ x c,cl.lookup x=some c->X.env.cells.lookup x=some c) (hcs:∀ x∈scope.names,x.2=.free->(cl.lookup x.1).isSome=true)
  (T:Turn X.prog X.w X.K tg J fp it tn) (st:tn 0 s.heap) (hf:∀ b∈fp,qBv X pins H b)
  (hB:∀(cl:List (Str×Addr)) (C:Addr) (s0:Shared) (H0:Hp),PG (qY X (own++fr.map (·.1)) scope cl C s0 H0 fp) tg g/\PF (qY X (own++fr.map (·.1)) scope cl C s0 H0 fp) ifs tt/\PE (qY X (own++fr.map (·.1)) scope cl C s0 H0 fp) elt te)
  (body:∀ D,H D=none->qAc J g tt te (qk own fr σ) H D (Q D))
  (hR:∀ D C s' H',Inv X pins σ H' s'->Q D H'->C≠X.env.locals->(∃ m,s'.heap.Ns C m)->qBv X pins H' C->(∃ o,s'.heap.get? C=some o)->RR (.ref D) C (.ok .next) s') :
  wpAny (model X.prog X.w) X.A (newList []) (fun acc s3=>wpAny (model X.prog X.w) X.A (newFunctionEnv scope X.env.globals cl [] X.env.qual none .none (some X.env)) (fun cenv s4=>
   codeAny (model X.prog X.w) X.A (.compStart (.ListComp elt [⟨tg,iter,ifs,0⟩] scope pos) 0 (.ref it) acc { cenv with scope:=relabel scope X.env }) (RR acc cenv.locals) s4) E s3) E s:=by
 refine vW ?_
 have nD:H s.heap.objs.size=none:=I.hok.fresh (wF _)
 have I3:Inv X pins σ (upd H s.heap.objs.size (.lst [])) { s with heap:=s.heap.push { cls:=.type "list",data:=.seq ([]:List Value).toArray },toks:=s.toks }:=I.lnew (t':=s.toks) .nil (zV _)
 generalize hs3:({ s with heap:=s.heap.push { cls:=.type "list",data:=.seq ([]:List Value).toArray },toks:=s.toks }:Shared)=s3 at I3
 generalize hD:s.heap.objs.size=D at I3 nD
 have st3:tn 0 s3.heap:=by
  subst hs3
  exact T.keep _ _ _ st fun b _ o e=>wG _ e
 have fD:∀ b∈fp,b≠D:=fun b hb z=>by
  obtain ⟨o,ho,_⟩:=T.obj _ _ st b hb
  exact absurd (wZ ho) (by rw [hD,z]; exact vX _)
 have hf3:∀ b∈fp,qBv X pins (upd H D (.lst [])) b:=fun b hb=>⟨by rw [qI (fD b hb)]; exact (hf b hb).1,(hf b hb).2⟩
 obtain ⟨W,⟨m0,w0⟩,turn⟩:=body D nD
 refine qBR fun h4 B4=>?_
 have keep4:=B4.keep
 have far:∀ b∈fp,∀ x c,(qT s3.heap.objs.size scope++cl).lookup x=some c->c≠b:=fun b hb x c e=>by
  obtain ⟨o,ho,_⟩:=T.obj _ _ st3 b hb
  exact qAk B4 ho e fun z=>(hf b hb).2.2.2.2.1 x c (hcl x c z)
 generalize hs4:({ s3 with heap:=h4,toks:=s3.toks }:Shared)=s4
 have I4:Inv (qY X (own++fr.map (·.1)) scope (qT s3.heap.objs.size scope++cl) s3.heap.objs.size s3 (upd H D (.lst [])) fp) [] (qk own fr σ) (upd H D (.lst [])) s4:=by
  subst hs4
  exact qDP S I3 hcl hcs hf3 (fun b hb=>let ⟨o,e,_⟩:=T.obj _ _ st3 b hb; ⟨o,e⟩) B4
 have st4:tn 0 s4.heap:=by
  subst hs4
  exact T.keep _ _ _ st3 fun b _ o e=>keep4 b o e
 have Cne:s3.heap.objs.size≠X.env.locals:=gV I3.lt
 generalize hcl2:qT s3.heap.objs.size scope++cl=cl2 at I4 far
 generalize hC:s3.heap.objs.size=C at I4 Cne
 obtain ⟨pG,pF,pE⟩:=hB cl2 C s3 (upd H D (.lst []))
 generalize hY:qY X (own++fr.map (·.1)) scope cl2 C s3 (upd H D (.lst [])) fp=Y at I4 pG pF pE
 have yP:Y.prog=X.prog:=by rw [<- hY]; rfl
 have yw:Y.w=X.w:=by rw [<- hY]; rfl
 have yK:Y.K=X.K:=by rw [<- hY]; rfl
 have yA:Y.A=X.A:=by rw [<- hY]; rfl
 have yc:Y.calm=true:=by rw [<- hY]; exact hc
 have yx:Y.xe=fun _ _=>False:=by rw [<- hY]; rfl
 have yfs:Y.fs=frs X.stack:=by rw [<- hY]; rfl
 have yex:Y.ex=fp:=by rw [<- hY]; rfl
 have yH:Y.H₀=upd H D (.lst []):=by rw [<- hY]; rfl
 have ys:Y.s₀=s3:=by rw [<- hY]; rfl
 have yl:Y.env.locals=C:=by rw [<- hY]; rfl
 have ypn:Y.pn=[]:=by rw [<- hY]; rfl
 have ycl:Y.env.cells=cl2:=by rw [<- hY]; rfl
 have yenv:Y.env=compEnvC scope cl2 C X.env:=by rw [<- hY]; rfl
 have e5:{ (newEnv scope C X.env.globals cl2 X.env.qual none .none (some X.env) builtinsNs:Env) with scope:=relabel scope X.env } = Y.env:=by rw [yenv]; rfl
 have hCe:(newEnv scope C X.env.globals cl2 X.env.qual none .none (some X.env) builtinsNs:Env).locals=C:=rfl
 have fpY:∀{H':Hp},(∀ b∈fp,H' b=none)->∀ b∈fp,qBv Y [] H' b:=fun hn b hb=>by
  obtain ⟨o,ho,_⟩:=T.obj _ _ st3 b hb
  have hlt:=wZ ho
  refine ⟨hn b hb,?_,?_,.inl (by rw [yex]; exact hb),fun x c e=>?_,fun p hp=>?_⟩
  ·rw [yl,<- hC]; exact zZ hlt
  ·rw [yfs]
   intro z
   obtain ⟨_,f1,f2,_⟩:=hf b hb
   rcases wX.mp (I.stkSub b z) with e | e
   ·exact f1 e
   ·exact f2 e
  ·rw [ycl] at e
   exact far b hb x c e
  ·rw [ypn] at hp
   cases hp
 have main:codeAny (model X.prog X.w) X.A (.compLoop (.ListComp elt [⟨tg,iter,ifs,0⟩] scope pos) 0 (.ref it) (.ref D) Y.env) (RR (.ref D) C) s4:=by
  refine qBr (fun n s'=>∃ i ys σ' H',Inv Y [] σ' H' s'/\tn i s'.heap/\(∀ b∈fp,H' b=none)/\W i n ys σ' H') ?_ m0 ⟨0,[],_,_,I4,st4,fun b hb=>(hf3 b hb).1,w0⟩
  rintro n s5 ⟨i,ys5,σ5,H5,I5,st5,fr5,w5⟩
  obtain ⟨hD5,hw⟩:=turn i n ys5 σ5 H5 w5
  rcases hw with ⟨stop,q⟩ | ⟨go,hz,N,hN,step⟩
  ·have:=T.done Y yP yw yK yc i [] s5 σ5 H5 (fun _ _=>False) I5 (fpY fr5) st5 stop
   rw [yA] at this
   refine thn this fun r s6 ⟨hr,I6⟩=>?_
   subst hr
   have I7:Inv X pins σ H5 s6:=by
    refine I3.call' (ch:=fp) (H':=H5) ?_ ?_ ?_ I6.bare fun b hb=>?_
    ·rw [<- ys]; exact I6.os
    ·have:=I6.base
     rw [yfs,yex,yH,ys] at this
     exact this
    ·have:=I6.hok
     rw [yP,yw] at this
     exact this
    ·obtain ⟨_,f1,_,f3,f4,f5⟩:=hf b hb
     exact ⟨f3,f1,f4,f5⟩
   obtain ⟨mC,hnC,_⟩:=I6.loc
   rw [yl] at hnC
   refine hR D C s6 H5 I7 q Cne ⟨mC,hnC⟩ ?_ ?_
   ·refine I3.fpOk (by rw [hC]; exact wF _) ?_
    have:=I6.free
    rw [yl] at this
    exact this
   ·obtain ⟨o,_,_,ho,_⟩:=hnC
    exact ⟨o,ho⟩
  ·have h5:=T.item Y yP yw yK yc i [] s5 σ5 H5 (fun _ _=>False) I5 (fpY fr5) st5 go
   rw [yA] at h5
   refine thn h5 fun r s6 ⟨u,hr,h6⟩=>?_
   subst hr
   refine thn h6 fun _ s7 ⟨x,H7,I7,r7,y7,st7,fr7⟩=>?_
   have I7':=I7.pinned (fpY fr7) (T.obj _ _ st7)
   have h8:=pG _ s7 σ5 H7 x u _ I7' r7 (step x H7 y7)
   rw [yP,yw,yA,yx] at h8
   refine thn h8 fun _ s8 ⟨σ8,H8,I8,q8⟩=>?_
   have h9:=pF _ s8 σ8 H8 _ I8 q8
   rw [yP,yw,yA,yx] at h9
   refine thn h9 fun b s9 ⟨H9,I9,q9⟩=>?_
   have again:∀{ys':List V} {σ':St} {H':Hp} {s':Shared},Inv Y ([]++YA fp s7.heap) σ' H' s'->N ys' σ' H'->∃ m,m<n/\∃ i ys σ' H',Inv Y [] σ' H' s'/\tn i s'.heap/\(∀ b∈fp,H' b=none)/\W i m ys σ' H':=fun {ys' σ' H' s'} I' n'=>by
    obtain ⟨m',hm,w'⟩:=hN ys' σ' H' n'
    refine ⟨m',hm,i+1,ys',σ',H',I'.unpinned,T.keep _ _ _ st7 fun b hb o e=>(I'.pin (b,o) (zE _ (zE _ (jK hb e)))).1,fun b hb=>?_,w'⟩
    obtain ⟨o,e,d⟩:=T.obj _ _ st7 b hb
    exact (I'.pin (b,o) (zE _ (zE _ (jK hb e)))).2.1
   cases b with
   | false=>
    simp only [uN,if_false] at q9 ⊢
    exact again I9 q9
   | true=>
    simp only [if_true] at q9 ⊢
    have h10:=pE _ s9 σ8 H9 _ I9 q9
    rw [yP,yw,yA,yx] at h10
    refine thn h10 fun y s10 ⟨z,H10,I10,r10,hD10,n10⟩=>?_
    have h11:=j8 (X:=Y) _ s10 σ8 H10 (.ref D) [z] (.ref D) [y] (fun _ H'=>N (ys5++[z]) σ8 H') I10 rfl (.cons r10 .nil) ⟨D,ys5,z,rfl,rfl,hD10,hz,n10⟩
    rw [yP,yw,yA,yx] at h11
    refine thn h11 fun _ s11 ⟨_,H11,I11,_,n11⟩=>?_
    exact again I11 n11
 have start:codeAny (model X.prog X.w) X.A (.compStart (.ListComp elt [⟨tg,iter,ifs,0⟩] scope pos) 0 (.ref it) (.ref D) Y.env) (RR (.ref D) C) s4:=
  codeAny_compStart_list main (T.self X.A 0 s4 _ _ st4 main)
 have goal:codeAny (model X.prog X.w) X.A (.compStart (.ListComp elt [⟨tg,iter,ifs,0⟩] scope pos) 0 (.ref it) (.ref D) { (newEnv scope C X.env.globals cl2 X.env.qual none .none (some X.env) builtinsNs:Env) with scope:=relabel scope X.env }) (RR (.ref D) (newEnv scope C X.env.globals cl2 X.env.qual none .none (some X.env) builtinsNs:Env).locals) s4:=by
  rw [e5,hCe]; exact start
 subst hC hD
 exact goal
end
section
variable {X:Cx}
theorem jf {own:List Str} {fr:List (Str×Nat)} {scope:Scope} {elt tg iter:Expr} {ifs:List Expr} {pos:Pos} {wi:TI} {g:TG} {tt:TT} {te:TE} (hc:X.calm=true) (S:qz X own fr scope) (hi:PI X tg iter wi)
  (hB:∀(cl:List (Str×Addr)) (C:Addr) (s0:Shared) (H0:Hp) (fp:List Addr),PG (qY X (own++fr.map (·.1)) scope cl C s0 H0 fp) tg g/\PF (qY X (own++fr.map (·.1)) scope cl C s0 H0 fp) ifs tt/\PE (qY X (own++fr.map (·.1)) scope cl C s0 H0 fp) elt te)
  (hs:∀ x,foldedSetIterable iter X.env x=pure x:=by intro _; rfl):PE X (.ListComp elt [⟨tg,iter,ifs,0⟩] scope pos) (qFv own fr wi g tt te):=by
 intro pins s σ H Q I h
 obtain ⟨cl,e1,e2,e3⟩:=JI (S.has I.ok)
 rw [eval_ListComp]
 refine ZK (use:=none) rfl hs e1 S.kind S.names (thn (hi pins s σ H _ I h) fun v s1 h1=>thn h1 fun itv s2 h2=>?_)
 obtain ⟨it,fp,tn,J,H2,e,I2,T,st2,f2,body⟩:=h2
 subst e
 refine qGk (Q:=fun D H'=>Q (.ref D) H') (RR:=fun acc C=>compPost (model X.prog X.w) X.A X.xe none (EP X pins σ Q) acc C) hc S I2 e2 e3 T st2 f2 (fun cl' C s0 H0=>hB cl' C s0 H0 fp) body ?_
 intro D C s' H' I' q hne ⟨m,hn⟩ ⟨f0,f1,f2',f3,f4,f5⟩ _
 exact ⟨m,hn,fun h'' hs''=>⟨.ref D,H',I'.turned (it:=C) (t':=s'.toks) (fun b o hb e=>hs''.extBut b o hb e) f0 f1 f3 f4 f5,rfl,q⟩⟩
end
noncomputable abbrev jH (elt tg iter:Expr) (ifs:List Expr) (tg1 iter1:Expr) (ifs1:List Expr) (scope:Scope) (pos:Pos):Expr:=.ListComp elt [⟨tg,iter,ifs,0⟩,⟨tg1,iter1,ifs1,0⟩] scope pos
noncomputable abbrev qF5 (ifs:List Expr) (env:Env):Sem Bool:=forIn ifs true fun c r=>if r=true then do let ok <- isTrue c env (eval c env); pure (uD ok) else pure (uD r)
noncomputable abbrev noR:Value->Shared->Prop:=fun _ _=>False
theorem th0 {α:Type} {t:Sem α} {Q Q':α->Shared->Prop} {M:Model} {A:Around} {E:Value->Shared->Prop} {s:Shared} (h:wpAny M A t Q noR s) (hQ:∀ a s,Q a s->Q' a s):wpAny M A t Q' E s:=xB h hQ fun _ _ x=>x.elim
section
variable {w:World} {prog:Program} {A:Around} {s:Shared} {R:Result->Shared->Prop} {elt tg iter tg1 iter1:Expr} {ifs ifs1:List Expr} {scope:Scope} {pos:Pos} {it acc:Value} {env:Env}
theorem qK6 (J:Nat->Shared->Prop)
  (turn:∀ n s,J n s->wpAny (model prog w) A (pyNext it) (fun r s1=>match r with
   | none=>R (.ok .next) s1
   | some v=>wpAny (model prog w) A (letOwnedTupleGo tg1 it v) (fun _ s2=>wpAny (model prog w) A (assign tg1 env v) (fun _ s3=>wpAny (model prog w) A (qF5 ifs1 env) (fun ok s4=>
     if ok=true then wpAny (model prog w) A (eval elt env) (fun x s5=>wpAny (model prog w) A (call (.builtin "list.append") [acc,x]) (fun _ s6=>∃ m,m<n/\J m s6) noR s5) noR s4
     else ∃ m,m<n/\J m s4) noR s3) noR s2) noR s1) noR s)
  (n:Nat) (h:J n s):codeAny (model prog w) A (.compLoop (jH elt tg iter ifs tg1 iter1 ifs1 scope pos) 1 it acc env) R s:=by
 refine codeAny_loop rfl J (fun n s hI=>?_) n h
 refine wpAny_noted (env:=env) (m:=compTurn (jH elt tg iter ifs tg1 iter1 ifs1 scope pos) 1 it acc env) ?_
 refine wC (gI (wC (th0 (turn n s hI) fun r s1 h1=>?_)))
 cases r with
 | none=>exact wK h1
 | some v=>
  refine wC (th0 h1 fun _ s2 h2=>wC (th0 h2 fun _ s3 h3=>wC (th0 h3 fun ok s4 h4=>?_)))
  cases ok with
  | false=>exact wK ⟨rfl,h4⟩
  | true=>exact wC (wC (th0 h4 fun x s5 h5=>wC (th0 h5 fun _ s6 h6=>wK (wK ⟨rfl,h6⟩))))
theorem qFE (h0:codeAny (model prog w) A (.compLoop (jH elt tg iter ifs tg1 iter1 ifs1 scope pos) 1 it acc env) R s)
  (h:wpAny (model prog w) A (pyIter it) (fun i s'=>codeAny (model prog w) A (.compLoop (jH elt tg iter ifs tg1 iter1 ifs1 scope pos) 1 i acc env) R s') noR s) :
  codeAny (model prog w) A (.compStart (jH elt tg iter ifs tg1 iter1 ifs1 scope pos) 1 it acc env) R s:=by
 refine UK (wpAny_notedAt (env:=env) (m:=compStart (jH elt tg iter ifs tg1 iter1 ifs1 scope pos) 1 it acc env) ?_)
 refine wC ?_
 refine wpAny_askSetting ?_
 refine wpAny_ite ?_
 split
 ·exact wK ⟨rfl,h0⟩
 ·exact wC (ZX (wC (gI (wC (th0 h fun _ _ z=>wK ⟨rfl,z⟩)))))
theorem qIR (J:Nat->Shared->Prop) (hs:∀ x,foldedSetIterable iter1 env x=pure x)
  (turn:∀ n s,J n s->wpAny (model prog w) A (pyNext it) (fun r s1=>match r with
   | none=>R (.ok .next) s1
   | some v=>wpAny (model prog w) A (letOwnedTupleGo tg it v) (fun _ s2=>wpAny (model prog w) A (assign tg env v) (fun _ s3=>wpAny (model prog w) A (qF5 ifs env) (fun ok s4=>
     if ok=true then wpAny (model prog w) A (eval iter1 env) (fun x s5=>wpAny (model prog w) A (pyIter x) (fun i s6=>
      codeAny (model prog w) A (.compStart (jH elt tg iter ifs tg1 iter1 ifs1 scope pos) 1 i acc env) (fun r s7=>(∃ f,r=.ok f)/\∃ m,m<n/\J m s7) s6) noR s5) noR s4
     else ∃ m,m<n/\J m s4) noR s3) noR s2) noR s1) noR s)
  (n:Nat) (h:J n s):codeAny (model prog w) A (.compLoop (jH elt tg iter ifs tg1 iter1 ifs1 scope pos) 0 it acc env) R s:=by
 refine codeAny_loop rfl J (fun n s hI=>?_) n h
 refine wpAny_noted (env:=env) (m:=compTurn (jH elt tg iter ifs tg1 iter1 ifs1 scope pos) 0 it acc env) ?_
 refine wC (gI (wC (th0 (turn n s hI) fun r s1 h1=>?_)))
 cases r with
 | none=>exact wK h1
 | some v=>
  refine wC (th0 h1 fun _ s2 h2=>wC (th0 h2 fun _ s3 h3=>wC (th0 h3 fun ok s4 h4=>?_)))
  cases ok with
  | false=>exact wK ⟨rfl,h4⟩
  | true=>
   refine wC (th0 h4 fun x s5 h5=>wC (gI ?_))
   refine wC (m:=foldedSetIterable iter1 env x) (UC (hs x) ?_)
   refine wC (vR (m:=pyIter x) (th0 h5 fun i s6 h6=>wC (wpAny_runOwn (h:=none) ?_)))
   refine gX h6 fun r s7 h7=>?_
   obtain ⟨⟨f,e⟩,h7⟩:=h7
   subst e
   exact wK ⟨rfl,h7⟩
end
noncomputable def qEm (wi:TI) (g:TG) (tt:TT) (te:TE) (D:Addr) (ys:List V) (σ:St) (H:Hp) (N:List V->St->Hp->Prop):Prop:=
 wi σ H fun J H1=>∃ W:Nat->Nat->List V->St->Hp->Prop,(∃ m,W 0 m ys σ H1)/\∀ i m ys σ H,W i m ys σ H->H D=some (.lst ys)/\
  ((J.stop i H/\N ys σ H)\/(J.go i H/\ys.length<sizeLine/\∃ M:List V->St->Hp->Prop,(∀ ys' σ' H',M ys' σ' H'->∃ m',m'<m/\W (i+1) m' ys' σ' H')/\
   ∀ x H',J.yld i H x H'->g x σ H' fun σ2 H2=>tt σ2 H2 fun b H3=>if b=true then te σ2 H3 fun y H4=>H4 D=some (.lst ys)/\M (ys++[y]) σ2 (upd H4 D (.lst (ys++[y]))) else M ys σ2 H3))
noncomputable def qEs (J:It) (g:TG) (tt:TT) (wi1:TI) (g1:TG) (tt1:TT) (te:TE) (σ0:St) (H1:Hp) (D:Addr) (Q:Hp->Prop):Prop:=
 ∃ W:Nat->Nat->List V->St->Hp->Prop,(∃ m,W 0 m [] σ0 (upd H1 D (.lst [])))/\∀ i m ys σ H,W i m ys σ H->H D=some (.lst ys)/\
  ((J.stop i H/\Q H)\/(J.go i H/\∃ N:List V->St->Hp->Prop,(∀ ys' σ' H',N ys' σ' H'->∃ m',m'<m/\W (i+1) m' ys' σ' H')/\
   ∀ x H',J.yld i H x H'->g x σ H' fun σ2 H2=>tt σ2 H2 fun b H3=>if b=true then qEm wi1 g1 tt1 te D ys σ2 H3 N else N ys σ2 H3))
noncomputable def qMt (own:List Str) (fr:List (Str×Nat)) (wi:TI) (g:TG) (tt:TT) (wi1:TI) (g1:TG) (tt1:TT) (te:TE):TE:=fun σ H Q=>wi σ H fun J H1=>∀ D,H1 D=none->qEs J g tt wi1 g1 tt1 te (qk own fr σ) H1 D fun H2=>Q (.ref D) H2
section
variable {X:Cx} {pins:List (Addr×Obj)} {σ:St} {H:Hp} {s:Shared}
theorem qLF {elt tg iter tg1 iter1:Expr} {ifs ifs1:List Expr} {scope:Scope} {pos:Pos} {wi:TI} {g:TG} {tt:TT} {te:TE} {D:Addr} {ys:List V} {N:List V->St->Hp->Prop}
  (hc:X.calm=true) (hx:X.xe=noR) (hi:PI X tg1 iter1 wi) (pG:PG X tg1 g) (pF:PF X ifs1 tt) (pE:PE X elt te) (I:Inv X pins σ H s) (h:qEm wi g tt te D ys σ H N) :
  wpAny (model X.prog X.w) X.A (eval iter1 X.env) (fun v s1=>wpAny (model X.prog X.w) X.A (pyIter v) (fun i s2=>codeAny (model X.prog X.w) X.A (.compStart (jH elt tg iter ifs tg1 iter1 ifs1 scope pos) 1 i (.ref D) X.env)
   (fun r s3=>(∃ f,r=.ok f)/\∃ ys' σ' H',Inv X pins σ' H' s3/\N ys' σ' H') s2) noR s1) noR s:=by
 have h0:=hi pins s σ H _ I h
 rw [hx] at h0
 refine thn h0 fun v s1 h1=>thn h1 fun itv s2 h2=>?_
 obtain ⟨it,fp,tn,J,H2,e,I2,T,st2,f2,W,⟨m0,w0⟩,turn⟩:=h2
 subst e
 have stat:∀{H':Hp},(∀ b∈fp,H' b=none)->∀ b∈fp,qBv X pins H' b:=fun hn b hb=>⟨hn b hb,(f2 b hb).2⟩
 have main:codeAny (model X.prog X.w) X.A (.compLoop (jH elt tg iter ifs tg1 iter1 ifs1 scope pos) 1 (.ref it) (.ref D) X.env) (fun r s3=>(∃ f,r=.ok f)/\∃ ys' σ' H',Inv X pins σ' H' s3/\N ys' σ' H') s2:=by
  refine qK6 (fun n s'=>∃ i ys σ' H',Inv X pins σ' H' s'/\tn i s'.heap/\(∀ b∈fp,H' b=none)/\W i n ys σ' H') ?_ m0 ⟨0,ys,σ,H2,I2,st2,fun b hb=>(f2 b hb).1,w0⟩
  rintro n s3 ⟨i,ys3,σ3,H3,I3,st3,fr3,w3⟩
  obtain ⟨hD,hw⟩:=turn i n ys3 σ3 H3 w3
  rcases hw with ⟨stop,q⟩ | ⟨go,hz,M,hM,step⟩
  ·refine thn (T.done X rfl rfl rfl hc i pins s3 σ3 H3 noR I3 (stat fr3) st3 stop) fun r s4 ⟨hr,I4⟩=>?_
   subst hr
   exact ⟨⟨_,rfl⟩,ys3,σ3,H3,I4,q⟩
  ·refine thn (T.item X rfl rfl rfl hc i pins s3 σ3 H3 noR I3 (stat fr3) st3 go) fun r s4 ⟨u,hr,h4⟩=>?_
   subst hr
   refine thn h4 fun _ s5 ⟨x,H5,I5,r5,y5,st5,fr5⟩=>?_
   have I5':=I5.pinned (stat fr5) (T.obj _ _ st5)
   have h6:=pG _ s5 σ3 H5 x u _ I5' r5 (step x H5 y5)
   rw [hx] at h6
   refine thn h6 fun _ s6 ⟨σ6,H6,I6,q6⟩=>?_
   have h7:=pF _ s6 σ6 H6 _ I6 q6
   rw [hx] at h7
   refine thn h7 fun b s7 ⟨H7,I7,q7⟩=>?_
   have again:∀{ys':List V} {σ':St} {H':Hp} {s':Shared},Inv X (pins++YA fp s5.heap) σ' H' s'->M ys' σ' H'->∃ m,m<n/\∃ i ys σ' H',Inv X pins σ' H' s'/\tn i s'.heap/\(∀ b∈fp,H' b=none)/\W i m ys σ' H':=fun {ys' σ' H' s'} I' n'=>by
    obtain ⟨m',hm,w'⟩:=hM ys' σ' H' n'
    have pin:=fun b hb o e=>I'.pin (b,o) (zE _ (zE _ (jK (fp:=fp) (h:=s5.heap) hb e)))
    refine ⟨m',hm,i+1,ys',σ',H',I'.unpinned,T.keep _ _ _ st5 fun b hb o e=>(pin b hb o e).1,fun b hb=>?_,w'⟩
    obtain ⟨o,e,_⟩:=T.obj _ _ st5 b hb
    exact (pin b hb o e).2.1
   cases b with
   | false=>
    rw [if_neg wR] at q7 ⊢
    exact again I7 q7
   | true=>
    rw [if_pos rfl] at q7 ⊢
    have h8:=pE _ s7 σ6 H7 _ I7 q7
    rw [hx] at h8
    refine thn h8 fun y s8 ⟨z,H8,I8,r8,hD8,n8⟩=>?_
    have h9:=j8 (X:=X) _ s8 σ6 H8 (.ref D) [z] (.ref D) [y] (fun _ H'=>M (ys3++[z]) σ6 H') I8 rfl (.cons r8 .nil) ⟨D,ys3,z,rfl,rfl,hD8,hz,n8⟩
    rw [hx] at h9
    exact thn h9 fun _ s9 ⟨_,H9,I9,_,n9⟩=>again I9 n9
 exact qFE main (T.self X.A 0 s2 _ _ st2 main)
end
section
variable {X:Cx} {pins:List (Addr×Obj)} {σ:St} {H:Hp} {s:Shared}
theorem qFL {own:List Str} {fr:List (Str×Nat)} {scope:Scope} {cl:List (Str×Addr)} {elt tg iter tg1 iter1:Expr} {ifs ifs1:List Expr} {pos:Pos} {g:TG} {tt:TT} {wi1:TI} {g1:TG} {tt1:TT} {te:TE} {Q:Addr->Hp->Prop} {RR:Value->Addr->Result->Shared->Prop} {E:Value->Shared->Prop}
  {it:Addr} {fp:List Addr} {tn:Nat->Heap->Prop} {J:It}
  (hc:X.calm=true) (S:qz X own fr scope) (I:Inv X pins σ H s) (hcl:∀ x c,cl.lookup x=some c->X.env.cells.lookup x=some c) (hcs:∀ x∈scope.names,x.2=.free->(cl.lookup x.1).isSome=true)
  (T:Turn X.prog X.w X.K tg J fp it tn) (st:tn 0 s.heap) (hf:∀ b∈fp,qBv X pins H b)
  (hB:∀(cl:List (Str×Addr)) (C:Addr) (s0:Shared) (H0:Hp),PG (qY X (own++fr.map (·.1)) scope cl C s0 H0 fp) tg g/\PF (qY X (own++fr.map (·.1)) scope cl C s0 H0 fp) ifs tt/\PI (qY X (own++fr.map (·.1)) scope cl C s0 H0 fp) tg1 iter1 wi1/\PG (qY X (own++fr.map (·.1)) scope cl C s0 H0 fp) tg1 g1/\PF (qY X (own++fr.map (·.1)) scope cl C s0 H0 fp) ifs1 tt1/\PE (qY X (own++fr.map (·.1)) scope cl C s0 H0 fp) elt te)
  (hs1:∀(env:Env) (x:Value),foldedSetIterable iter1 env x=pure x)
  (body:∀ D,H D=none->qEs J g tt wi1 g1 tt1 te (qk own fr σ) H D (Q D))
  (hR:∀ D C s' H',Inv X pins σ H' s'->Q D H'->C≠X.env.locals->(∃ m,s'.heap.Ns C m)->qBv X pins H' C->(∃ o,s'.heap.get? C=some o)->RR (.ref D) C (.ok .next) s') :
  wpAny (model X.prog X.w) X.A (newList []) (fun acc s3=>wpAny (model X.prog X.w) X.A (newFunctionEnv scope X.env.globals cl [] X.env.qual none .none (some X.env)) (fun cenv s4=>
   codeAny (model X.prog X.w) X.A (.compStart (jH elt tg iter ifs tg1 iter1 ifs1 scope pos) 0 (.ref it) acc { cenv with scope:=relabel scope X.env }) (RR acc cenv.locals) s4) E s3) E s:=by
 refine vW ?_
 have nD:H s.heap.objs.size=none:=I.hok.fresh (wF _)
 have I3:Inv X pins σ (upd H s.heap.objs.size (.lst [])) { s with heap:=s.heap.push { cls:=.type "list",data:=.seq ([]:List Value).toArray },toks:=s.toks }:=I.lnew (t':=s.toks) .nil (zV _)
 generalize hs3:({ s with heap:=s.heap.push { cls:=.type "list",data:=.seq ([]:List Value).toArray },toks:=s.toks }:Shared)=s3 at I3
 generalize hD:s.heap.objs.size=D at I3 nD
 have st3:tn 0 s3.heap:=by
  subst hs3
  exact T.keep _ _ _ st fun b _ o e=>wG _ e
 have fD:∀ b∈fp,b≠D:=fun b hb z=>by
  obtain ⟨o,ho,_⟩:=T.obj _ _ st b hb
  exact absurd (wZ ho) (by rw [hD,z]; exact vX _)
 have hf3:∀ b∈fp,qBv X pins (upd H D (.lst [])) b:=fun b hb=>⟨by rw [qI (fD b hb)]; exact (hf b hb).1,(hf b hb).2⟩
 obtain ⟨W,⟨m0,w0⟩,turn⟩:=body D nD
 refine qBR fun h4 B4=>?_
 have keep4:=B4.keep
 have far:∀ b∈fp,∀ x c,(qT s3.heap.objs.size scope++cl).lookup x=some c->c≠b:=fun b hb x c e=>by
  obtain ⟨o,ho,_⟩:=T.obj _ _ st3 b hb
  exact qAk B4 ho e fun z=>(hf b hb).2.2.2.2.1 x c (hcl x c z)
 generalize hs4:({ s3 with heap:=h4,toks:=s3.toks }:Shared)=s4
 have I4:Inv (qY X (own++fr.map (·.1)) scope (qT s3.heap.objs.size scope++cl) s3.heap.objs.size s3 (upd H D (.lst [])) fp) [] (qk own fr σ) (upd H D (.lst [])) s4:=by
  subst hs4
  exact qDP S I3 hcl hcs hf3 (fun b hb=>let ⟨o,e,_⟩:=T.obj _ _ st3 b hb; ⟨o,e⟩) B4
 have st4:tn 0 s4.heap:=by
  subst hs4
  exact T.keep _ _ _ st3 fun b _ o e=>keep4 b o e
 have Cne:s3.heap.objs.size≠X.env.locals:=gV I3.lt
 generalize hcl2:qT s3.heap.objs.size scope++cl=cl2 at I4 far
 generalize hC:s3.heap.objs.size=C at I4 Cne
 obtain ⟨pG,pF,pI1,pG1,pF1,pE⟩:=hB cl2 C s3 (upd H D (.lst []))
 generalize hY:qY X (own++fr.map (·.1)) scope cl2 C s3 (upd H D (.lst [])) fp=Y at I4 pG pF pI1 pG1 pF1 pE
 have yP:Y.prog=X.prog:=by rw [<- hY]; rfl
 have yw:Y.w=X.w:=by rw [<- hY]; rfl
 have yK:Y.K=X.K:=by rw [<- hY]; rfl
 have yA:Y.A=X.A:=by rw [<- hY]; rfl
 have yc:Y.calm=true:=by rw [<- hY]; exact hc
 have yx:Y.xe=fun _ _=>False:=by rw [<- hY]; rfl
 have yfs:Y.fs=frs X.stack:=by rw [<- hY]; rfl
 have yex:Y.ex=fp:=by rw [<- hY]; rfl
 have yH:Y.H₀=upd H D (.lst []):=by rw [<- hY]; rfl
 have ys:Y.s₀=s3:=by rw [<- hY]; rfl
 have yl:Y.env.locals=C:=by rw [<- hY]; rfl
 have ypn:Y.pn=[]:=by rw [<- hY]; rfl
 have ycl:Y.env.cells=cl2:=by rw [<- hY]; rfl
 have yenv:Y.env=compEnvC scope cl2 C X.env:=by rw [<- hY]; rfl
 have e5:{ (newEnv scope C X.env.globals cl2 X.env.qual none .none (some X.env) builtinsNs:Env) with scope:=relabel scope X.env } = Y.env:=by rw [yenv]; rfl
 have hCe:(newEnv scope C X.env.globals cl2 X.env.qual none .none (some X.env) builtinsNs:Env).locals=C:=rfl
 have fpY:∀{H':Hp},(∀ b∈fp,H' b=none)->∀ b∈fp,qBv Y [] H' b:=fun hn b hb=>by
  obtain ⟨o,ho,_⟩:=T.obj _ _ st3 b hb
  have hlt:=wZ ho
  refine ⟨hn b hb,?_,?_,.inl (by rw [yex]; exact hb),fun x c e=>?_,fun p hp=>?_⟩
  ·rw [yl,<- hC]; exact zZ hlt
  ·rw [yfs]
   intro z
   obtain ⟨_,f1,f2,_⟩:=hf b hb
   rcases wX.mp (I.stkSub b z) with e | e
   ·exact f1 e
   ·exact f2 e
  ·rw [ycl] at e
   exact far b hb x c e
  ·rw [ypn] at hp
   cases hp
 have main:codeAny (model X.prog X.w) X.A (.compLoop (jH elt tg iter ifs tg1 iter1 ifs1 scope pos) 0 (.ref it) (.ref D) Y.env) (RR (.ref D) C) s4:=by
  refine qIR (fun n s'=>∃ i ys σ' H',Inv Y [] σ' H' s'/\tn i s'.heap/\(∀ b∈fp,H' b=none)/\W i n ys σ' H') (hs1 _) ?_ m0 ⟨0,[],_,_,I4,st4,fun b hb=>(hf3 b hb).1,w0⟩
  rintro n s5 ⟨i,ys5,σ5,H5,I5,st5,fr5,w5⟩
  obtain ⟨hD5,hw⟩:=turn i n ys5 σ5 H5 w5
  rcases hw with ⟨stop,q⟩ | ⟨go,N,hN,step⟩
  ·have:=T.done Y yP yw yK yc i [] s5 σ5 H5 (fun _ _=>False) I5 (fpY fr5) st5 stop
   rw [yA] at this
   refine thn this fun r s6 ⟨hr,I6⟩=>?_
   subst hr
   have I7:Inv X pins σ H5 s6:=by
    refine I3.call' (ch:=fp) (H':=H5) ?_ ?_ ?_ I6.bare fun b hb=>?_
    ·rw [<- ys]; exact I6.os
    ·have:=I6.base
     rw [yfs,yex,yH,ys] at this
     exact this
    ·have:=I6.hok
     rw [yP,yw] at this
     exact this
    ·obtain ⟨_,f1,_,f3,f4,f5⟩:=hf b hb
     exact ⟨f3,f1,f4,f5⟩
   obtain ⟨mC,hnC,_⟩:=I6.loc
   rw [yl] at hnC
   refine hR D C s6 H5 I7 q Cne ⟨mC,hnC⟩ ?_ ?_
   ·refine I3.fpOk (by rw [hC]; exact wF _) ?_
    have:=I6.free
    rw [yl] at this
    exact this
   ·obtain ⟨o,_,_,ho,_⟩:=hnC
    exact ⟨o,ho⟩
  ·have h5:=T.item Y yP yw yK yc i [] s5 σ5 H5 (fun _ _=>False) I5 (fpY fr5) st5 go
   rw [yA] at h5
   refine thn h5 fun r s6 ⟨u,hr,h6⟩=>?_
   subst hr
   refine thn h6 fun _ s7 ⟨x,H7,I7,r7,y7,st7,fr7⟩=>?_
   have I7':=I7.pinned (fpY fr7) (T.obj _ _ st7)
   have h8:=pG _ s7 σ5 H7 x u _ I7' r7 (step x H7 y7)
   rw [yP,yw,yA,yx] at h8
   refine thn h8 fun _ s8 ⟨σ8,H8,I8,q8⟩=>?_
   have h9:=pF _ s8 σ8 H8 _ I8 q8
   rw [yP,yw,yA,yx] at h9
   refine thn h9 fun b s9 ⟨H9,I9,q9⟩=>?_
   have again:∀{ys':List V} {σ':St} {H':Hp} {s':Shared},Inv Y ([]++YA fp s7.heap) σ' H' s'->N ys' σ' H'->∃ m,m<n/\∃ i ys σ' H',Inv Y [] σ' H' s'/\tn i s'.heap/\(∀ b∈fp,H' b=none)/\W i m ys σ' H':=fun {ys' σ' H' s'} I' n'=>by
    obtain ⟨m',hm,w'⟩:=hN ys' σ' H' n'
    refine ⟨m',hm,i+1,ys',σ',H',I'.unpinned,T.keep _ _ _ st7 fun b hb o e=>(I'.pin (b,o) (zE _ (zE _ (jK hb e)))).1,fun b hb=>?_,w'⟩
    obtain ⟨o,e,d⟩:=T.obj _ _ st7 b hb
    exact (I'.pin (b,o) (zE _ (zE _ (jK hb e)))).2.1
   cases b with
   | false=>
    simp only [uN,if_false] at q9 ⊢
    exact again I9 q9
   | true=>
    simp only [if_true] at q9 ⊢
    have h10:=qLF (elt:=elt) (tg:=tg) (iter:=iter) (ifs:=ifs) (scope:=scope) (pos:=pos) yc yx pI1 pG1 pF1 pE I9 q9
    rw [yP,yw,yA] at h10
    exact thn h10 fun v s10 h11=>thn h11 fun i s11 h12=>gX h12 fun r s12 ⟨hr,ys',σ',H',I',n'⟩=>⟨hr,again I' n'⟩
 have start:codeAny (model X.prog X.w) X.A (.compStart (jH elt tg iter ifs tg1 iter1 ifs1 scope pos) 0 (.ref it) (.ref D) Y.env) (RR (.ref D) C) s4:=
  codeAny_compStart_list main (T.self X.A 0 s4 _ _ st4 main)
 have goal:codeAny (model X.prog X.w) X.A (.compStart (jH elt tg iter ifs tg1 iter1 ifs1 scope pos) 0 (.ref it) (.ref D) { (newEnv scope C X.env.globals cl2 X.env.qual none .none (some X.env) builtinsNs:Env) with scope:=relabel scope X.env }) (RR (.ref D) (newEnv scope C X.env.globals cl2 X.env.qual none .none (some X.env) builtinsNs:Env).locals) s4:=by
  rw [e5,hCe]; exact start
 subst hC hD
 exact goal
end
section
variable {X:Cx}
theorem qNY {own:List Str} {fr:List (Str×Nat)} {scope:Scope} {elt tg iter tg1 iter1:Expr} {ifs ifs1:List Expr} {pos:Pos} {wi:TI} {g:TG} {tt:TT} {wi1:TI} {g1:TG} {tt1:TT} {te:TE} (hc:X.calm=true) (S:qz X own fr scope) (hi:PI X tg iter wi)
  (hB:∀(cl:List (Str×Addr)) (C:Addr) (s0:Shared) (H0:Hp) (fp:List Addr),PG (qY X (own++fr.map (·.1)) scope cl C s0 H0 fp) tg g/\PF (qY X (own++fr.map (·.1)) scope cl C s0 H0 fp) ifs tt/\PI (qY X (own++fr.map (·.1)) scope cl C s0 H0 fp) tg1 iter1 wi1/\PG (qY X (own++fr.map (·.1)) scope cl C s0 H0 fp) tg1 g1/\PF (qY X (own++fr.map (·.1)) scope cl C s0 H0 fp) ifs1 tt1/\PE (qY X (own++fr.map (·.1)) scope cl C s0 H0 fp) elt te)
  (hs1:∀(env:Env) (x:Value),foldedSetIterable iter1 env x=pure x:=by intro _ _; rfl)
  (hs:∀ x,foldedSetIterable iter X.env x=pure x:=by intro _; rfl):PE X (jH elt tg iter ifs tg1 iter1 ifs1 scope pos) (qMt own fr wi g tt wi1 g1 tt1 te):=by
 intro pins s σ H Q I h
 obtain ⟨cl,e1,e2,e3⟩:=JI (S.has I.ok)
 rw [eval_ListComp]
 refine ZK (use:=none) rfl hs e1 S.kind S.names (thn (hi pins s σ H _ I h) fun v s1 h1=>thn h1 fun itv s2 h2=>?_)
 obtain ⟨it,fp,tn,J,H2,e,I2,T,st2,f2,body⟩:=h2
 subst e
 refine qFL (Q:=fun D H'=>Q (.ref D) H') (RR:=fun acc C=>compPost (model X.prog X.w) X.A X.xe none (EP X pins σ Q) acc C) hc S I2 e2 e3 T st2 f2 (fun cl' C s0 H0=>hB cl' C s0 H0 fp) hs1 body ?_
 intro D C s' H' I' q hne ⟨m,hn⟩ ⟨f0,f1,f2',f3,f4,f5⟩ _
 exact ⟨m,hn,fun h'' hs''=>⟨.ref D,H',I'.turned (it:=C) (t':=s'.toks) (fun b o hb e=>hs''.extBut b o hb e) f0 f1 f3 f4 f5,rfl,q⟩⟩
theorem qBk {i:Nat} {x:Str} {pos' spos:Pos} {own:List Str} {fr:List (Str×Nat)} {scope:Scope} {elt tg iter tg1 iter1:Expr} {ifs ifs1:List Expr} {pos:Pos} {wi:TI} {g:TG} {tt:TT} {wi1:TI} {g1:TG} {tt1:TT} {te:TE} (hc:X.calm=true)
  (hN:X.N.Nodup) (hi':X.N[i]? = some x) (hx:X.env.scope.names.lookup x=some .local) (S:qz X own fr scope) (hi:PI X tg iter wi)
  (hB:∀(cl:List (Str×Addr)) (C:Addr) (s0:Shared) (H0:Hp) (fp:List Addr),PG (qY X (own++fr.map (·.1)) scope cl C s0 H0 fp) tg g/\PF (qY X (own++fr.map (·.1)) scope cl C s0 H0 fp) ifs tt/\PI (qY X (own++fr.map (·.1)) scope cl C s0 H0 fp) tg1 iter1 wi1/\PG (qY X (own++fr.map (·.1)) scope cl C s0 H0 fp) tg1 g1/\PF (qY X (own++fr.map (·.1)) scope cl C s0 H0 fp) ifs1 tt1/\PE (qY X (own++fr.map (·.1)) scope cl C s0 H0 fp) elt te)
  (hs1:∀(env:Env) (x:Value),foldedSetIterable iter1 env x=pure x:=by intro _ _; rfl)
  (hs:∀ x,foldedSetIterable iter X.env x=pure x:=by intro _; rfl)
  (hsw:swapsWith (jH elt tg iter ifs tg1 iter1 ifs1 scope pos) (some (.Name x pos')) spos.line X.env=pure true:=by rfl):PS X (.Assign [.Name x pos'] (jH elt tg iter ifs tg1 iter1 ifs1 scope pos) spos) (qJl (qMt own fr wi g tt wi1 g1 tt1 te) (qCM i)):=by
 intro pins s σ H D0 I h
 obtain ⟨cl,e1,e2,e3⟩:=JI (S.has I.ok)
 have un:=exec_Assign_Name_used _ _ _ _ hsw
 rw [un]
 apply wC
 apply gI
 apply wC
 show wpAny _ X.A (do let _ <- comprehension (jH elt tg iter ifs tg1 iter1 ifs1 scope pos) scope X.env _ (newList []) false (eval iter X.env) (some (assign (.Name x pos') X.env))) _ _ s
 refine wC (thn (ZK (use:=some (assign (.Name x pos') X.env)) (Q:=fun _ s'=>SP X pins D0 .next s') rfl hs e1 S.kind S.names
  (thn (hi pins s σ H _ I h) fun v s1 h1=>thn h1 fun itv s2 h2=>?_)) fun _ s' hq=>wK (wK hq))
 obtain ⟨it,fp,tn,J,H2,e,I2,T,st2,f2,body⟩:=h2
 subst e
 refine qFL (Q:=fun D H'=>D0.nx (σ.set i (some (.ref D))) H') (RR:=fun acc C=>compPost (model X.prog X.w) X.A X.xe (some (assign (.Name x pos') X.env)) (fun _ s'=>SP X pins D0 .next s') acc C) hc S I2 e2 e3 T st2 f2 (fun cl' C s0 H0=>hB cl' C s0 H0 fp) hs1 body ?_
 intro D C s' H' I' q hne ⟨m,hn⟩ ⟨f0,f1,f2',f3,f4,f5⟩ _
 show wpAny _ X.A (assign (.Name x pos') X.env (.ref D)) _ _ s'
 refine wpAny_assign_Name (qA2 I' hN hi' (.inl hx) (v:=.ref D) rfl (fun s'' I'' hk=>?_) (.inr hx))
 have hC2:∃ m,s''.heap.Ns C m:=by
  obtain ⟨a,hsb,ha⟩:=hk
  obtain ⟨o,es,ep,ho,r⟩:=hn
  refine ⟨m,o,es,ep,hsb.extBut C o ?_ ho,r⟩
  rcases ha with z | z
  ·rw [z]; exact hne
  ·exact fun e=>f4 x a z e.symm
 obtain ⟨m2,hn2⟩:=hC2
 exact ⟨m2,hn2,fun h'' hs''=>⟨_,H',I''.turned (it:=C) (t':=s''.toks) (fun b o hb e=>hs''.extBut b o hb e) f0 f1 f3 f4 f5,q⟩⟩
end
inductive D where
 | non | bl (b:Bool) | int (i:Int) | str (x:Str) | tup (l:List D) | lst (l:List D) | dic
mutual
noncomputable def Den (H:Hp):D->V->Prop
 | .non,v=>v=.non
 | .bl b,v=>v=.bl b
 | .int i,v=>v=.int i
 | .str x,v=>v=.str x
 | .tup l,v=>∃ a xs,v=.ref a/\H a=some (.tup xs)/\qR H l xs
 | .lst l,v=>∃ a xs,v=.ref a/\H a=some (.lst xs)/\qR H l xs
 | .dic,v=>∃ a kvs,v=.ref a/\H a=some (.dK kvs)
noncomputable def qR (H:Hp):List D->List V->Prop
 | [],xs=>xs=[]
 | d::l,xs=>∃ x r,xs=x::r/\Den H d x/\qR H l r
end
mutual
noncomputable def dEq:D->D->Bool
 | .non,.non=>true
 | .bl a,.bl b=>a == b
 | .bl a,.int b=>(if a then 1 else 0) == b
 | .int a,.bl b=>a == (if b then 1 else 0)
 | .int a,.int b=>a == b
 | .str a,.str b=>a == b
 | .tup l,.tup m=>Qr l m
 | .lst l,.lst m=>Qr l m
 | .dic,.dic=>true
 | _,_=>false
noncomputable def Qr:List D->List D->Bool
 | [],[]=>true
 | d::l,e::m=>dEq d e && Qr l m
 | _,_=>false
end
mutual
noncomputable def jN:D->Nat
 | .tup l=>qK l+1
 | .lst l=>qK l+1
 | .dic=>cLine
 | _=>0
noncomputable def qK:List D->Nat
 | []=>0
 | d::l=>max (jN d) (qK l)
end
mutual
theorem Den.mono {H H':Hp} (e:qL H H'):∀(d:D) (v:V),Den H d v->Den H' d v
 | .non,v,h=>h
 | .bl _,v,h=>h
 | .int _,v,h=>h
 | .str _,v,h=>h
 | .tup l,v,h=>by
  obtain ⟨a,xs,r,h1,h2⟩:=h
  exact ⟨a,xs,r,e _ _ h1,qR.mono e l xs h2⟩
 | .lst l,v,h=>by
  obtain ⟨a,xs,r,h1,h2⟩:=h
  exact ⟨a,xs,r,e _ _ h1,qR.mono e l xs h2⟩
 | .dic,v,h=>by
  obtain ⟨a,xs,r,h1⟩:=h
  exact ⟨a,xs,r,e _ _ h1⟩
theorem qR.mono {H H':Hp} (e:qL H H'):∀(l:List D) (xs:List V),qR H l xs->qR H' l xs
 | [],xs,h=>h
 | d::l,xs,h=>by
  obtain ⟨x,r,h0,h1,h2⟩:=h
  exact ⟨x,r,h0,Den.mono e d x h1,qR.mono e l r h2⟩
end
theorem qR.length {H:Hp}:∀{l:List D} {xs:List V},qR H l xs->xs.length=l.length
 | [],xs,h=>by
  have h':xs=[]:=h
  subst h'; rfl
 | d::l,xs,h=>by
  obtain ⟨x,r,h0,h1,h2⟩:=h
  subst h0
  rw [wW,wW,qR.length h2]
theorem qR.get {H:Hp}:∀{l:List D} {xs:List V} {i:Nat} {x:V},qR H l xs->xs[i]? = some x->∃ d,l[i]? = some d/\Den H d x
 | [],xs,i,x,h,e=>by
  have h':xs=[]:=h
  subst h'; simp at e
 | d::l,xs,i,x,h,e=>by
  obtain ⟨y,r,h0,h1,h2⟩:=h
  subst h0
  cases i with
  | zero=>simp at e; subst e; exact ⟨d,rfl,h1⟩
  | succ i=>
   obtain ⟨d',g1,g2⟩:=qR.get h2 (by simpa using e:r[i]? = some x)
   exact ⟨d',by simpa using g1,g2⟩
theorem qR.get' {H:Hp} {l:List D} {xs:List V} {i:Nat} {d:D} (h:qR H l xs) (e:l[i]? = some d):∃ x,xs[i]? = some x/\Den H d x:=by
 have hi:i<xs.length:=by rw [h.length]; exact (wM.mp e).1
 obtain ⟨d',g1,g2⟩:=h.get (wA hi)
 rw [e] at g1
 cases g1
 exact ⟨_,wA hi,g2⟩
theorem qR.append {H:Hp}:∀{l m:List D} {xs ys:List V},qR H l xs->qR H m ys->qR H (l++m) (xs++ys)
 | [],m,xs,ys,h,g=>by
  have h':xs=[]:=h
  subst h'; exact g
 | d::l,m,xs,ys,h,g=>by
  obtain ⟨y,r,h0,h1,h2⟩:=h
  subst h0
  exact ⟨y,r++ys,rfl,h1,qR.append h2 g⟩
theorem qR.snoc {H:Hp} {l:List D} {xs:List V} {d:D} {x:V} (h:qR H l xs) (g:Den H d x):qR H (l++[d]) (xs++[x]):=h.append ⟨x,[],rfl,g,rfl⟩
theorem qR.ints (H:Hp):∀(ns:List Int),qR H (ns.map D.int) (ns.map V.int)
 | []=>rfl
 | n::ns=>⟨.int n,_,rfl,rfl,qR.ints H ns⟩
theorem qR.ints_eq {H:Hp}:∀{ns:List Int} {xs:List V},qR H (ns.map D.int) xs->xs=ns.map V.int
 | [],xs,h=>h
 | n::ns,xs,h=>by
  obtain ⟨y,r,h0,h1,h2⟩:=h
  subst h0
  have h1':y=.int n:=h1
  subst h1'
  rw [qR.ints_eq h2,zF]
theorem qAo:∀{l:List D} {j:Nat} {d:D},l[j]? = some d->jN d<=qK l
 | [],_,_,h=>by simp at h
 | c::l,0,d,h=>by
  simp at h
  subst h
  exact Nat.le_max_left _ _
 | c::l,j+1,d,h=>zK (qAo (l:=l) (j:=j) (by simpa using h)) (Nat.le_max_right _ _)
noncomputable def qGh (l m:List D) (j:Nat):Bool:=match l[j]?,m[j]? with | some d,some e=>dEq d e | _,_=>false
theorem qBy {l m:List D} {j:Nat} {d e:D} (h1:l[j]? = some d) (h2:m[j]? = some e):qGh l m j=dEq d e:=by
 unfold qGh
 rw [h1,h2]
theorem jJ:∀(l m:List D),l.length=m.length->(zA l.length).all (qGh l m)=Qr l m
 | [],[],_=>by simp [Qr]
 | [],_::_,h=>by simp at h
 | _::_,[],h=>by simp at h
 | d::l,e::m,h=>by
  have ih:=jJ l m (by simpa using h)
  rw [wW,List.range_succ_eq_map,List.all_cons,List.all_map]
  unfold Qr
  rw [<- ih]
  rfl
theorem jr:∀(l m:List D),l.length≠m.length->Qr l m=false
 | [],[],h=>absurd rfl h
 | [],_::_,_=>by simp [Qr]
 | _::_,[],_=>by simp [Qr]
 | d::l,e::m,h=>by
  unfold Qr
  rw [jr l m (by simpa using h),TF]
mutual
theorem qCt:∀ d:D,dEq d d=true
 | .non=>rfl
 | .bl b=>by simp [dEq]
 | .int i=>by simp [dEq]
 | .str x=>by simp [dEq]
 | .tup l=>by simp only [dEq]; exact QD l
 | .lst l=>by simp only [dEq]; exact QD l
 | .dic=>by simp [dEq]
theorem QD:∀ l:List D,Qr l l=true
 | []=>by simp [Qr]
 | d::l=>by simp only [Qr]; rw [qCt d,QD l]; rfl
end
mutual
noncomputable def nb:D->Bool
 | .bl _=>false
 | .tup l=>nbs l
 | .lst l=>nbs l
 | _=>true
noncomputable def nbs:List D->Bool
 | []=>true
 | d::l=>nb d && nbs l
end
mutual
theorem qKZ:∀(d e:D),nb d=true->nb e=true->dEq d e=true->d=e
 | .non,e,h1,h2,h=>by cases e <;> simp [dEq,nb] at * 
 | .bl b,e,h1,h2,h=>by simp [nb] at h1
 | .int i,e,h1,h2,h=>by cases e <;> simp [dEq,nb] at * ; exact h
 | .str x,e,h1,h2,h=>by cases e <;> simp [dEq,nb] at * ; exact h
 | .tup l,e,h1,h2,h=>by
  cases e <;> simp only [dEq,nb,uN] at *
  rw [qCO l _ h1 h2 h]
 | .lst l,e,h1,h2,h=>by
  cases e <;> simp only [dEq,nb,uN] at *
  rw [qCO l _ h1 h2 h]
 | .dic,e,h1,h2,h=>by cases e <;> simp [dEq,nb] at *
theorem qCO:∀(l m:List D),nbs l=true->nbs m=true->Qr l m=true->l=m
 | [],[],_,_,_=>rfl
 | [],_::_,_,_,h=>by simp [Qr] at h
 | _::_,[],_,_,h=>by simp [Qr] at h
 | d::l,e::m,h1,h2,h=>by
  simp only [nbs,Qr,yY] at h1 h2 h
  rw [qKZ d e h1.1 h2.1 h.1,qCO l m h1.2 h2.2 h.2]
end
mutual
theorem Den.inj {H:Hp}:∀(d e:D) (x:V),Den H d x->Den H e x->d=e
 | .non,e,x,h,g=>by
  cases (show x=.non from h)
  cases e with
  | non=>rfl
  | bl b=>exact nomatch (show V.non=.bl b from g)
  | int b=>exact nomatch (show V.non=.int b from g)
  | str b=>exact nomatch (show V.non=.str b from g)
  | tup m=>obtain ⟨_,_,z,_⟩:=g; cases z
  | lst m=>obtain ⟨_,_,z,_⟩:=g; cases z
  | dic=>obtain ⟨_,_,z,_⟩:=g; cases z
 | .bl c,e,x,h,g=>by
  cases (show x=.bl c from h)
  cases e with
  | non=>exact nomatch (show V.bl c=.non from g)
  | bl b=>cases (show V.bl c=.bl b from g); rfl
  | int b=>exact nomatch (show V.bl c=.int b from g)
  | str b=>exact nomatch (show V.bl c=.str b from g)
  | tup m=>obtain ⟨_,_,z,_⟩:=g; cases z
  | lst m=>obtain ⟨_,_,z,_⟩:=g; cases z
  | dic=>obtain ⟨_,_,z,_⟩:=g; cases z
 | .int c,e,x,h,g=>by
  cases (show x=.int c from h)
  cases e with
  | non=>exact nomatch (show V.int c=.non from g)
  | bl b=>exact nomatch (show V.int c=.bl b from g)
  | int b=>cases (show V.int c=.int b from g); rfl
  | str b=>exact nomatch (show V.int c=.str b from g)
  | tup m=>obtain ⟨_,_,z,_⟩:=g; cases z
  | lst m=>obtain ⟨_,_,z,_⟩:=g; cases z
  | dic=>obtain ⟨_,_,z,_⟩:=g; cases z
 | .str c,e,x,h,g=>by
  cases (show x=.str c from h)
  cases e with
  | non=>exact nomatch (show V.str c=.non from g)
  | bl b=>exact nomatch (show V.str c=.bl b from g)
  | int b=>exact nomatch (show V.str c=.int b from g)
  | str b=>cases (show V.str c=.str b from g); rfl
  | tup m=>obtain ⟨_,_,z,_⟩:=g; cases z
  | lst m=>obtain ⟨_,_,z,_⟩:=g; cases z
  | dic=>obtain ⟨_,_,z,_⟩:=g; cases z
 | .tup l,e,x,h,g=>by
  obtain ⟨a,xs,rfl,h1,h2⟩:=h
  cases e with
  | non=>exact nomatch (show V.ref a=.non from g)
  | bl b=>exact nomatch (show V.ref a=.bl b from g)
  | int b=>exact nomatch (show V.ref a=.int b from g)
  | str b=>exact nomatch (show V.ref a=.str b from g)
  | tup m=>
   obtain ⟨b,ys,z,g1,g2⟩:=g
   cases z
   rw [h1] at g1
   cases g1
   rw [qR.inj l m xs h2 g2]
  | lst m=>
   obtain ⟨b,ys,z,g1,g2⟩:=g
   cases z
   rw [h1] at g1
   cases g1
  | dic=>
   obtain ⟨b,ys,z,g1⟩:=g
   cases z
   rw [h1] at g1
   cases g1
 | .lst l,e,x,h,g=>by
  obtain ⟨a,xs,rfl,h1,h2⟩:=h
  cases e with
  | non=>exact nomatch (show V.ref a=.non from g)
  | bl b=>exact nomatch (show V.ref a=.bl b from g)
  | int b=>exact nomatch (show V.ref a=.int b from g)
  | str b=>exact nomatch (show V.ref a=.str b from g)
  | tup m=>
   obtain ⟨b,ys,z,g1,g2⟩:=g
   cases z
   rw [h1] at g1
   cases g1
  | lst m=>
   obtain ⟨b,ys,z,g1,g2⟩:=g
   cases z
   rw [h1] at g1
   cases g1
   rw [qR.inj l m xs h2 g2]
  | dic=>
   obtain ⟨b,ys,z,g1⟩:=g
   cases z
   rw [h1] at g1
   cases g1
 | .dic,e,x,h,g=>by
  obtain ⟨a,xs,rfl,h1⟩:=h
  cases e with
  | non=>exact nomatch (show V.ref a=.non from g)
  | bl b=>exact nomatch (show V.ref a=.bl b from g)
  | int b=>exact nomatch (show V.ref a=.int b from g)
  | str b=>exact nomatch (show V.ref a=.str b from g)
  | tup m=>
   obtain ⟨b,ys,z,g1,_⟩:=g
   cases z
   rw [h1] at g1
   cases g1
  | lst m=>
   obtain ⟨b,ys,z,g1,_⟩:=g
   cases z
   rw [h1] at g1
   cases g1
  | dic=>rfl
theorem qR.inj {H:Hp}:∀(l m:List D) (xs:List V),qR H l xs->qR H m xs->l=m
 | [],m,xs,h,g=>by
  cases (show xs=[] from h)
  cases m with
  | nil=>rfl
  | cons e m=>obtain ⟨_,_,z,_⟩:=g; cases z
 | d::l,m,xs,h,g=>by
  obtain ⟨x,r,rfl,h1,h2⟩:=h
  cases m with
  | nil=>exact nomatch (show x::r=[] from g)
  | cons e m=>
   obtain ⟨y,r',z,g1,g2⟩:=g
   cases z
   rw [Den.inj d e x h1 g1,qR.inj l m r h2 g2]
end
theorem qR.same_eq {H:Hp} {l m:List D} {xs:List V} (h:qR H l xs) (g:qR H m xs):Qr l m=true:=by
 rw [qR.inj l m xs h g]
 exact QD m
section
variable {X:Cx} {pins:List (Addr×Obj)} {σ:St} {H:Hp} {s:Shared}
mutual
theorem qLe (I:Inv X pins σ H s):∀(d e:D) (A:Around) (x y:V) (u v:Value),Den H d x->Den H e y->RelV x u->RelV y v->A.units+jN d<cLine->A.units+jN e<cLine->fV A s u v (dEq d e)
 | .non,e,A,x,y,u,v,h1,h2,r1,r2,hu,he=>by
  have h1':x=.non:=h1
  subst h1'
  cases r1
  cases e with
  | non=>cases (show y=.non from h2); cases r2; simp only [dEq]; exact UL _
  | bl b=>cases (show y=.bl b from h2); cases r2; simp only [dEq]; exact SeqAt.EqAt.none_bool b
  | int b=>cases (show y=.int b from h2); obtain ⟨t,rfl⟩:=r2; simp only [dEq]; exact SeqAt.EqAt.none_int b t
  | str b=>cases (show y=.str b from h2); obtain ⟨t,rfl⟩:=r2; simp only [dEq]; exact SeqAt.EqAt.none_str b t
  | tup m=>
   obtain ⟨a,xs,rfl,g1,_⟩:=h2
   cases r2
   obtain ⟨its,_,p,_⟩:=I.tuple (SqT.of (K:=X.K) g1)
   simp only [dEq]
   exact SeqAt.EqAt.none_tuple p (zQ (yV _ _) hu)
  | lst m=>
   obtain ⟨a,xs,rfl,g1,_⟩:=h2
   cases r2
   obtain ⟨its,_,p,_⟩:=I.list (SqL.of (K:=X.K) g1)
   simp only [dEq]
   exact SeqAt.EqAt.none_list p.isList (zQ (yV _ _) hu)
  | dic=>exact absurd (show A.units+cLine<cLine from he) (by omega)
 | .bl c,e,A,x,y,u,v,h1,h2,r1,r2,hu,he=>by
  have h1':x=.bl c:=h1
  subst h1'
  cases r1
  cases e with
  | non=>cases (show y=.non from h2); cases r2; simp only [dEq]; exact SeqAt.EqAt.bool_none c
  | bl b=>cases (show y=.bl b from h2); cases r2; simp only [dEq]; exact SeqAt.EqAt.bool_bool c b
  | int b=>cases (show y=.int b from h2); obtain ⟨t,rfl⟩:=r2; simp only [dEq]; exact SeqAt.EqAt.bool_int c b t
  | str b=>cases (show y=.str b from h2); obtain ⟨t,rfl⟩:=r2; simp only [dEq]; exact SeqAt.EqAt.bool_str c b t
  | tup m=>
   obtain ⟨a,xs,rfl,g1,_⟩:=h2
   cases r2
   obtain ⟨its,_,p,_⟩:=I.tuple (SqT.of (K:=X.K) g1)
   simp only [dEq]
   exact SeqAt.EqAt.bool_tuple c p (zQ (yV _ _) hu)
  | lst m=>
   obtain ⟨a,xs,rfl,g1,_⟩:=h2
   cases r2
   obtain ⟨its,_,p,_⟩:=I.list (SqL.of (K:=X.K) g1)
   simp only [dEq]
   exact SeqAt.EqAt.bool_list c p.isList (zQ (yV _ _) hu)
  | dic=>exact absurd (show A.units+cLine<cLine from he) (by omega)
 | .int c,e,A,x,y,u,v,h1,h2,r1,r2,hu,he=>by
  have h1':x=.int c:=h1
  subst h1'
  obtain ⟨t',rfl⟩:=r1
  cases e with
  | non=>cases (show y=.non from h2); cases r2; simp only [dEq]; exact SeqAt.EqAt.int_none c t'
  | bl b=>cases (show y=.bl b from h2); cases r2; simp only [dEq]; exact SeqAt.EqAt.int_bool c t' b
  | int b=>cases (show y=.int b from h2); obtain ⟨t,rfl⟩:=r2; simp only [dEq]; exact SeqAt.EqAt.int_int c t' b t
  | str b=>cases (show y=.str b from h2); obtain ⟨t,rfl⟩:=r2; simp only [dEq]; exact SeqAt.EqAt.int_str c t' b t
  | tup m=>
   obtain ⟨a,xs,rfl,g1,_⟩:=h2
   cases r2
   obtain ⟨its,_,p,_⟩:=I.tuple (SqT.of (K:=X.K) g1)
   simp only [dEq]
   exact SeqAt.EqAt.int_tuple c t' p (zQ (yV _ _) hu)
  | lst m=>
   obtain ⟨a,xs,rfl,g1,_⟩:=h2
   cases r2
   obtain ⟨its,_,p,_⟩:=I.list (SqL.of (K:=X.K) g1)
   simp only [dEq]
   exact SeqAt.EqAt.int_list c t' p.isList (zQ (yV _ _) hu)
  | dic=>exact absurd (show A.units+cLine<cLine from he) (by omega)
 | .str c,e,A,x,y,u,v,h1,h2,r1,r2,hu,he=>by
  have h1':x=.str c:=h1
  subst h1'
  obtain ⟨t',rfl⟩:=r1
  cases e with
  | non=>cases (show y=.non from h2); cases r2; simp only [dEq]; exact SeqAt.EqAt.str_none c t'
  | bl b=>cases (show y=.bl b from h2); cases r2; simp only [dEq]; exact SeqAt.EqAt.str_bool c t' b
  | int b=>cases (show y=.int b from h2); obtain ⟨t,rfl⟩:=r2; simp only [dEq]; exact SeqAt.EqAt.str_int c t' b t
  | str b=>cases (show y=.str b from h2); obtain ⟨t,rfl⟩:=r2; simp only [dEq]; exact SeqAt.EqAt.str_str c t' b t
  | tup m=>
   obtain ⟨a,xs,rfl,g1,_⟩:=h2
   cases r2
   obtain ⟨its,_,p,_⟩:=I.tuple (SqT.of (K:=X.K) g1)
   simp only [dEq]
   exact SeqAt.EqAt.str_tuple c t' p (zQ (yV _ _) hu)
  | lst m=>
   obtain ⟨a,xs,rfl,g1,_⟩:=h2
   cases r2
   obtain ⟨its,_,p,_⟩:=I.list (SqL.of (K:=X.K) g1)
   simp only [dEq]
   exact SeqAt.EqAt.str_list c t' p.isList (zQ (yV _ _) hu)
  | dic=>exact absurd (show A.units+cLine<cLine from he) (by omega)
 | .tup l,e,A,x,y,u,v,h1,h2,r1,r2,hu,he=>by
  obtain ⟨a,xs,rfl,g1,g2⟩:=h1
  cases r1
  obtain ⟨its,rv,p,hz⟩:=I.tuple (SqT.of (K:=X.K) g1)
  have hu0:A.units<cLine:=zQ (yV _ _) hu
  cases e with
  | non=>cases (show y=.non from h2); cases r2; simp only [dEq]; exact SeqAt.EqAt.tuple_none p hu0
  | bl b=>cases (show y=.bl b from h2); cases r2; simp only [dEq]; exact SeqAt.EqAt.tuple_bool b p hu0
  | int b=>cases (show y=.int b from h2); obtain ⟨t,rfl⟩:=r2; simp only [dEq]; exact SeqAt.EqAt.tuple_int b t p hu0
  | str b=>cases (show y=.str b from h2); obtain ⟨t,rfl⟩:=r2; simp only [dEq]; exact SeqAt.EqAt.tuple_str b t p hu0
  | tup m=>
   obtain ⟨b,ys,rfl,k1,k2⟩:=h2
   cases r2
   obtain ⟨its2,rv2,p2,_⟩:=I.tuple (SqT.of (K:=X.K) k1)
   simp only [dEq]
   have key:=YH I l A.in1 (by have:A.units+(qK l+1)<cLine:=hu; show A.units+1+qK l<cLine; omega)
   by_cases hab:a=b
   ·subst hab
    rw [g1] at k1
    cases k1
    have e1:fV A s (.ref a) (.ref a) true:=UL _
    by_cases hd:Qr l m=true
    ·rw [hd]; exact e1
    ·exact absurd (qR.same_eq g2 k2) hd
   ·have l1:=rv.length
    have l2:=rv2.length
    have n1:=g2.length
    have n2:=k2.length
    have h0:=SeqAt.RcAt.tuples (A:=A) (e:=qGh l m) p p2 hu0 (fun j hj1 hj2=>by
     simp only [WL]
     have a1:j<its.length:=by simpa using hj1
     have a2:j<its2.length:=by simpa using hj2
     obtain ⟨d,q1,q2⟩:=g2.get (wA (by omega:j<xs.length))
     obtain ⟨e,q3,q4⟩:=k2.get (wA (by omega:j<ys.length))
     obtain ⟨w1,z1,z2⟩:=rv.get (wA (by omega:j<xs.length))
     obtain ⟨w2,z3,z4⟩:=rv2.get (wA (by omega:j<ys.length))
     rw [wA a1] at z1
     rw [wA a2] at z3
     cases z1
     cases z3
     rw [qBy q1 q3]
     exact key j d q1 e _ _ _ _ q2 q4 z2 z4 (by have h3:=qAo q3; have h4:A.units+(qK m+1)<cLine:=he; show A.units+1+jN e<cLine; omega))
    have h1:=WZ hab h0
    have e2:((zA (min its.toArray.size its2.toArray.size)).all (qGh l m) && its.toArray.size == its2.toArray.size)=Qr l m:=by
     rw [wJ,wJ,<- l1,<- l2,n1,n2]
     by_cases hl:l.length=m.length
     ·rw [<- hl,Nat.min_self,jJ l m hl]; simp
     ·rw [jr l m hl]; simp [hl]
    rw [e2] at h1
    exact h1
  | lst m=>
   obtain ⟨b,ys,rfl,k1,k2⟩:=h2
   cases r2
   obtain ⟨its2,rv2,p2,_⟩:=I.list (SqL.of (K:=X.K) k1)
   simp only [dEq]
   exact SeqAt.EqAt.tuple_list p p2.isList hu0
  | dic=>exact absurd (show A.units+cLine<cLine from he) (by omega)
 | .lst l,e,A,x,y,u,v,h1,h2,r1,r2,hu,he=>by
  obtain ⟨a,xs,rfl,g1,g2⟩:=h1
  cases r1
  obtain ⟨its,rv,p,hz⟩:=I.list (SqL.of (K:=X.K) g1)
  have hu0:A.units<cLine:=zQ (yV _ _) hu
  cases e with
  | non=>cases (show y=.non from h2); cases r2; simp only [dEq]; exact SeqAt.EqAt.list_none p.isList hu0
  | bl b=>cases (show y=.bl b from h2); cases r2; simp only [dEq]; exact SeqAt.EqAt.list_bool b p.isList hu0
  | int b=>cases (show y=.int b from h2); obtain ⟨t,rfl⟩:=r2; simp only [dEq]; exact SeqAt.EqAt.list_int b t p.isList hu0
  | str b=>cases (show y=.str b from h2); obtain ⟨t,rfl⟩:=r2; simp only [dEq]; exact SeqAt.EqAt.list_str b t p.isList hu0
  | tup m=>
   obtain ⟨b,ys,rfl,k1,k2⟩:=h2
   cases r2
   obtain ⟨its2,rv2,p2,_⟩:=I.tuple (SqT.of (K:=X.K) k1)
   simp only [dEq]
   exact SeqAt.EqAt.list_tuple p.isList p2 hu0
  | lst m=>
   obtain ⟨b,ys,rfl,k1,k2⟩:=h2
   cases r2
   obtain ⟨its2,rv2,p2,_⟩:=I.list (SqL.of (K:=X.K) k1)
   simp only [dEq]
   have key:=YH I l A.in1 (by have:A.units+(qK l+1)<cLine:=hu; show A.units+1+qK l<cLine; omega)
   by_cases hab:a=b
   ·subst hab
    rw [g1] at k1
    cases k1
    have e1:fV A s (.ref a) (.ref a) true:=UL _
    by_cases hd:Qr l m=true
    ·rw [hd]; exact e1
    ·exact absurd (qR.same_eq g2 k2) hd
   ·have l1:=rv.length
    have l2:=rv2.length
    have n1:=g2.length
    have n2:=k2.length
    by_cases hl:l.length=m.length
    ·have hsz:its.toArray.size=its2.toArray.size:=by rw [wJ,wJ]; omega
     have h0:=SeqAt.RcAt.lists (A:=A) (e:=qGh l m) p.isList p2.isList hsz hu0 (fun j hj1 hj2=>by
      simp only [WL]
      have a1:j<its.length:=by simpa using hj1
      have a2:j<its2.length:=by simpa using hj2
      obtain ⟨d,q1,q2⟩:=g2.get (wA (by omega:j<xs.length))
      obtain ⟨e,q3,q4⟩:=k2.get (wA (by omega:j<ys.length))
      obtain ⟨w1,z1,z2⟩:=rv.get (wA (by omega:j<xs.length))
      obtain ⟨w2,z3,z4⟩:=rv2.get (wA (by omega:j<ys.length))
      rw [wA a1] at z1
      rw [wA a2] at z3
      cases z1
      cases z3
      rw [qBy q1 q3]
      exact key j d q1 e _ _ _ _ q2 q4 z2 z4 (by have h3:=qAo q3; have h4:A.units+(qK m+1)<cLine:=he; show A.units+1+jN e<cLine; omega))
     have h1:=WZ hab h0
     rw [wJ,<- l1,n1,jJ l m hl] at h1
     exact h1
    ·rw [jr l m hl]
     have hsz:(its.toArray.size != its2.toArray.size)=true:=by rw [wJ,wJ,<- l1,<- l2,n1,n2]; simpa using hl
     exact WZ hab (SeqAt.RcAt.lists_lengths p.isList p2.isList hsz hu0)
  | dic=>exact absurd (show A.units+cLine<cLine from he) (by omega)
 | .dic,e,A,x,y,u,v,h1,h2,r1,r2,hu,he=>absurd (show A.units+cLine<cLine from hu) (by omega)
theorem YH (I:Inv X pins σ H s):∀(l:List D) (A:Around),A.units+qK l<cLine->∀(j:Nat) (d:D),l[j]? = some d->∀(e:D) (x y:V) (u v:Value),Den H d x->Den H e y->RelV x u->RelV y v->A.units+jN e<cLine->fV A s u v (dEq d e)
 | [],A,hu,j,d,h,e,x,y,u,v,_,_,_,_,_=>by simp at h
 | d0::l,A,hu,j,d,h,e,x,y,u,v,h1,h2,r1,r2,he=>by
  have hu':A.units+max (jN d0) (qK l)<cLine:=hu
  cases j with
  | zero=>
   simp at h
   subst h
   exact qLe I d0 e A x y u v h1 h2 r1 r2 (by omega) he
  | succ j=>exact YH I l A (by omega) j d (by simpa using h) e x y u v h1 h2 r1 r2 he
end
end
noncomputable def qNr (H:Hp) (l:List D) (v:V):Prop:=Den H (.tup l) v\/Den H (.lst l) v
noncomputable def dIn (d:D) (l:List D):Bool:=l.any fun e=>dEq e d
section
variable {X:Cx}
theorem anyB {α β:Type} {f:α->Bool} {g:β->Bool}:∀{l:List α} {m:List β},l.length=m.length->(∀(j:Nat) (a:α) (b:β),l[j]? = some a->m[j]? = some b->f a=g b)->l.any f=m.any g
 | [],[],_,_=>rfl
 | [],_::_,h,_=>absurd h (by simp)
 | _::_,[],h,_=>absurd h (by simp)
 | a::l,b::m,h,k=>by
  rw [kR,kR,k 0 a b rfl rfl,anyB (by simpa using h) fun j a b h1 h2=>k (j+1) a b (by simpa using h1) (by simpa using h2)]
theorem qGK {pins:List (Addr×Obj)} {σ:St} {H:Hp} {s:Shared} {A:Around} {l:List D} {xs:List V} {its:List Value} {d:D} {x:V} {u:Value} (I:Inv X pins σ H s) (h:qR H l xs) (rv:qh xs its) (hd:Den H d x) (r:RelV x u) (hu:A.units+qK l<cLine) (hu2:A.units+jN d<cLine) :
  ∃ e:Value->Bool,(∀ w,w∈its->fV A s w u (e w))/\its.any e=dIn d l:=by
 have key:∀(j:Nat) (w:Value),its[j]? = some w->∃ c,l[j]? = some c/\∃ y,xs[j]? = some y/\Den H c y/\RelV y w:=fun j w hw=>by
  have hj:j<xs.length:=by rw [rv.length]; exact (wM.mp hw).1
  obtain ⟨c,g1,g2⟩:=h.get (wA hj)
  obtain ⟨w',g3,g4⟩:=rv.get (wA hj)
  rw [hw] at g3
  cases g3
  exact ⟨c,g1,_,wA hj,g2,g4⟩
 have uniq:∀(w:Value) (c c':D) (y y':V),Den H c y->RelV y w->Den H c' y'->RelV y' w->c=c':=fun w c c' y y' h1 r1 h2 r2=>by
  have e:=r1.inj r2
  subst e
  exact Den.inj c c' y h1 h2
 classical
 refine ⟨fun w=>if hw:∃(c:D) (y:V),Den H c y/\RelV y w then dEq hw.choose d else false,fun w hw=>?_,?_⟩
 ·obtain ⟨j,hj,e⟩:=xM hw
  obtain ⟨c,g1,y,g2,g3,g4⟩:=key j w (by rw [wA hj,e])
  have hex:∃(c:D) (y:V),Den H c y/\RelV y w:=⟨c,y,g3,g4⟩
  simp only [hex,dif_pos]
  obtain ⟨y',q1,q2⟩:=hex.choose_spec
  have:hex.choose=c:=uniq w _ _ _ _ q1 q2 g3 g4
  rw [this]
  exact YH I l A hu j c g1 d _ _ _ _ g3 hd g4 r hu2
 ·refine anyB (by rw [<- rv.length,h.length]) fun j w c h1 h2=>?_
  obtain ⟨c',g1,y,g2,g3,g4⟩:=key j w h1
  rw [h2] at g1
  cases g1
  have hex:∃(c:D) (y:V),Den H c y/\RelV y w:=⟨c,y,g3,g4⟩
  simp only [hex,dif_pos]
  obtain ⟨y',q1,q2⟩:=hex.choose_spec
  have:hex.choose=c:=uniq w _ _ _ _ q1 q2 g3 g4
  rw [this]
noncomputable def qJ2 (neg:Bool):R2:=fun x y H Q=>∃ d l,Den H d x/\qNr H l y/\qK l<=50/\jN d<=50/\Q (.bl (if neg then !dIn d l else dIn d l)) H
theorem qKK (hu:X.A.units+64<cLine):OpR X (compareOp .In) (qJ2 false):=by
 intro pins s σ H x y v u Q I rx ry h
 obtain ⟨d,l,hd,hl,hz,hz2,q⟩:=h
 have hu1:X.A.in1.units+qK l<cLine:=by show X.A.units+1+qK l<cLine; omega
 have hu2:X.A.in1.units+jN d<cLine:=by show X.A.units+1+jN d<cLine; omega
 rcases hl with ⟨a,xs,rfl,h1,h2⟩ | ⟨a,xs,rfl,h1,h2⟩
 ·cases ry
  obtain ⟨its,rv,p,_⟩:=I.tuple (SqT.of (K:=X.K) h1)
  obtain ⟨e,e1,e2⟩:=qGK (A:=X.A.in1) I h2 rv hd rx hu1 hu2
  refine SeqAt.in_tupleAt e p (fun w hw=>e1 w (by simpa using hw)) ⟨.bl _,H,I,rfl,?_⟩
  rw [show its.toArray.any e=its.any e by simp,e2]
  exact q
 ·cases ry
  obtain ⟨its,rv,p,_⟩:=I.list (SqL.of (K:=X.K) h1)
  obtain ⟨e,e1,e2⟩:=qGK (A:=X.A.in1) I h2 rv hd rx hu1 hu2
  refine SeqAt.in_listAt e p.isList (fun w hw=>e1 w (by simpa using hw)) ⟨.bl _,H,I,rfl,?_⟩
  rw [show its.toArray.any e=its.any e by simp,e2]
  exact q
theorem qE4 (hu:X.A.units+64<cLine):OpR X (compareOp .NotIn) (qJ2 true):=by
 intro pins s σ H x y v u Q I rx ry h
 obtain ⟨d,l,hd,hl,hz,hz2,q⟩:=h
 have hu1:X.A.in1.units+qK l<cLine:=by show X.A.units+1+qK l<cLine; omega
 have hu2:X.A.in1.units+jN d<cLine:=by show X.A.units+1+jN d<cLine; omega
 rcases hl with ⟨a,xs,rfl,h1,h2⟩ | ⟨a,xs,rfl,h1,h2⟩
 ·cases ry
  obtain ⟨its,rv,p,_⟩:=I.tuple (SqT.of (K:=X.K) h1)
  obtain ⟨e,e1,e2⟩:=qGK (A:=X.A.in1) I h2 rv hd rx hu1 hu2
  refine SeqAt.notIn_tupleAt e p (fun w hw=>e1 w (by simpa using hw)) ⟨.bl _,H,I,rfl,?_⟩
  rw [show its.toArray.any e=its.any e by simp,e2]
  exact q
 ·cases ry
  obtain ⟨its,rv,p,_⟩:=I.list (SqL.of (K:=X.K) h1)
  obtain ⟨e,e1,e2⟩:=qGK (A:=X.A.in1) I h2 rv hd rx hu1 hu2
  refine SeqAt.notIn_listAt e p.isList (fun w hw=>e1 w (by simpa using hw)) ⟨.bl _,H,I,rfl,?_⟩
  rw [show its.toArray.any e=its.any e by simp,e2]
  exact q
theorem qDJ {pins:List (Addr×Obj)} {σ:St} {H:Hp} {s:Shared} {A:Around} {l m:List D} {xs ys:List V} {its its2:List Value} (I:Inv X pins σ H s) (h:qR H l xs) (rv:qh xs its) (g:qR H m ys) (rw2:qh ys its2) (hu:A.units+qK l<cLine) (hum:A.units+qK m<cLine)
  (j:Nat) (h1:j<its.toArray.size) (h2:j<its2.toArray.size):fV A s its.toArray[j] its2.toArray[j] (qGh l m j):=by
 simp only [WL]
 have a1:j<its.length:=by simpa using h1
 have a2:j<its2.length:=by simpa using h2
 have l1:=rv.length
 have l2:=rw2.length
 obtain ⟨d,q1,q2⟩:=h.get (wA (by omega:j<xs.length))
 obtain ⟨e,q3,q4⟩:=g.get (wA (by omega:j<ys.length))
 obtain ⟨w1,z1,z2⟩:=rv.get (wA (by omega:j<xs.length))
 obtain ⟨w2,z3,z4⟩:=rw2.get (wA (by omega:j<ys.length))
 rw [wA a1] at z1
 rw [wA a2] at z3
 cases z1
 cases z3
 rw [qBy q1 q3]
 exact YH I l A hu j d q1 e _ _ _ _ q2 q4 z2 z4 (zQ (Nat.add_le_add_left (qAo q3) _) hum)
noncomputable def qIH (neg:Bool):R2:=fun x y H Q=>∃ l m,((Den H (.tup l) x/\Den H (.tup m) y)\/(Den H (.lst l) x/\Den H (.lst m) y))/\qK l<=50/\qK m<=50/\Q (.bl (if neg then !Qr l m else Qr l m)) H
theorem qLr (hu:X.A.units+64<cLine):OpR X (compareOp .Eq) (qIH false):=by
 intro pins s σ H x y v u Q I rx ry h
 obtain ⟨l,m,hl,hz,hz3,q⟩:=h
 have hu0:X.A.units<cLine:=by omega
 have hu3:X.A.in1.units+qK m<cLine:=by show X.A.units+1+qK m<cLine; omega
 have hu1:X.A.in1.units+qK l<cLine:=by show X.A.units+1+qK l<cLine; omega
 rcases hl with ⟨⟨a,xs,rfl,h1,h2⟩,⟨b,ys,rfl,k1,k2⟩⟩ | ⟨⟨a,xs,rfl,h1,h2⟩,⟨b,ys,rfl,k1,k2⟩⟩
 ·cases rx
  cases ry
  obtain ⟨its,rv,p,_⟩:=I.tuple (SqT.of (K:=X.K) h1)
  obtain ⟨its2,rv2,p2,_⟩:=I.tuple (SqT.of (K:=X.K) k1)
  have l1:=rv.length
  have l2:=rv2.length
  have n1:=h2.length
  have n2:=k2.length
  refine SeqAt.eq_tupleAt p p2 hu0 (qDJ I h2 rv k2 rv2 hu1 hu3) ⟨.bl _,H,I,rfl,?_⟩
  have e2:((zA (min its.toArray.size its2.toArray.size)).all (qGh l m) && its.toArray.size == its2.toArray.size)=Qr l m:=by
   rw [wJ,wJ,<- l1,<- l2,n1,n2]
   by_cases hl:l.length=m.length
   ·rw [<- hl,Nat.min_self,jJ l m hl]; simp
   ·rw [jr l m hl]; simp [hl]
  rw [e2]
  exact q
 ·cases rx
  cases ry
  obtain ⟨its,rv,p,_⟩:=I.list (SqL.of (K:=X.K) h1)
  obtain ⟨its2,rv2,p2,_⟩:=I.list (SqL.of (K:=X.K) k1)
  have l1:=rv.length
  have l2:=rv2.length
  have n1:=h2.length
  have n2:=k2.length
  by_cases hl:l.length=m.length
  ·have hsz:its.toArray.size=its2.toArray.size:=by rw [wJ,wJ]; omega
   refine SeqAt.eq_listAt p.isList p2.isList hsz hu0 (qDJ I h2 rv k2 rv2 hu1 hu3) ⟨.bl _,H,I,rfl,?_⟩
   rw [wJ,<- l1,n1,jJ l m hl]
   exact q
  ·have hsz:(its.toArray.size != its2.toArray.size)=true:=by rw [wJ,wJ,<- l1,<- l2,n1,n2]; simpa using hl
   refine SeqAt.eq_list_lengthsAt p.isList p2.isList hsz hu0 ⟨.bl _,H,I,rfl,?_⟩
   rw [jr l m hl] at q
   exact q
theorem qKq (hu:X.A.units+64<cLine):OpR X (compareOp .NotEq) (qIH true):=by
 intro pins s σ H x y v u Q I rx ry h
 obtain ⟨l,m,hl,hz,hz3,q⟩:=h
 have hu0:X.A.units<cLine:=by omega
 have hu3:X.A.in1.units+qK m<cLine:=by show X.A.units+1+qK m<cLine; omega
 have hu1:X.A.in1.units+qK l<cLine:=by show X.A.units+1+qK l<cLine; omega
 rcases hl with ⟨⟨a,xs,rfl,h1,h2⟩,⟨b,ys,rfl,k1,k2⟩⟩ | ⟨⟨a,xs,rfl,h1,h2⟩,⟨b,ys,rfl,k1,k2⟩⟩
 ·cases rx
  cases ry
  obtain ⟨its,rv,p,_⟩:=I.tuple (SqT.of (K:=X.K) h1)
  obtain ⟨its2,rv2,p2,_⟩:=I.tuple (SqT.of (K:=X.K) k1)
  have l1:=rv.length
  have l2:=rv2.length
  have n1:=h2.length
  have n2:=k2.length
  refine SeqAt.RcNeAt.tuples p p2 hu0 (qDJ I h2 rv k2 rv2 hu1 hu3) X.prog X.w X.xe _ ⟨.bl _,H,I,rfl,?_⟩
  have e2:((zA (min its.toArray.size its2.toArray.size)).all (qGh l m) && its.toArray.size == its2.toArray.size)=Qr l m:=by
   rw [wJ,wJ,<- l1,<- l2,n1,n2]
   by_cases hl:l.length=m.length
   ·rw [<- hl,Nat.min_self,jJ l m hl]; simp
   ·rw [jr l m hl]; simp [hl]
  rw [e2]
  exact q
 ·cases rx
  cases ry
  obtain ⟨its,rv,p,_⟩:=I.list (SqL.of (K:=X.K) h1)
  obtain ⟨its2,rv2,p2,_⟩:=I.list (SqL.of (K:=X.K) k1)
  have l1:=rv.length
  have l2:=rv2.length
  have n1:=h2.length
  have n2:=k2.length
  by_cases hl:l.length=m.length
  ·have hsz:its.toArray.size=its2.toArray.size:=by rw [wJ,wJ]; omega
   refine SeqAt.RcNeAt.lists p.isList p2.isList hsz hu0 (qDJ I h2 rv k2 rv2 hu1 hu3) X.prog X.w X.xe _ ⟨.bl _,H,I,rfl,?_⟩
   rw [wJ,<- l1,n1,jJ l m hl]
   exact q
  ·have hsz:(its.toArray.size != its2.toArray.size)=true:=by rw [wJ,wJ,<- l1,<- l2,n1,n2]; simpa using hl
   refine SeqAt.RcNeAt.lists_lengths p.isList p2.isList hsz hu0 X.prog X.w X.xe _ ⟨.bl _,H,I,rfl,?_⟩
   rw [jr l m hl] at q
   exact q
theorem qEC (hc:X.calm=true):j5 X (.builtin "all") (fun xs H Q=>∃(p:Addr) (bs:List Bool),xs=[.ref p]/\H p=some (.lst (bs.map V.bl))/\Q (.bl (bs.all id)) H):=by
 intro pins s σ H xs us Q I r h
 obtain ⟨p,bs,rfl,hp,q⟩:=h
 obtain ⟨u,rfl,rx⟩:=vals1 r
 cases rx
 obtain ⟨its,rv,pl,hzz⟩:=I.list (SqL.of (K:=X.K) hp)
 clear hzz
 have hb:LSm.BoolsAre its bs:=by
  clear q pl hp
  induction bs generalizing its with
  | nil=>cases rv; exact .nil
  | cons b bs ih=>
   cases rv with
   | cons r1 r2=>cases r1; exact .cons b (ih _ r2)
 have hlt:p<s.heap.objs.size:=by obtain ⟨_,e,_⟩:=pl.isList; exact wZ e
 refine call_all_walk (VI pl.isList ?_)
 refine ⟨s.heap.objs.size,[s.heap.objs.size,p],[s.heap.objs.size],its.toArray.size,_,_,fun i=>(bs[i]?).getD true,rfl,Walks.list (A:=X.A.in1) (I.ok.hd hc) _ p (zZ hlt) its.toArray,
  ⟨⟨_,zB _ rfl,rfl,rfl⟩,pl.isList.push _⟩,fun i v s' Q' E' hP hQ=>?_,fun h' tk hk=>?_⟩
 ·rcases hb.get i v (by simpa using hP) with ⟨b,eb,rfl⟩
  replace hQ:Q' b s':=by simpa [eb] using hQ
  exact gU hQ
 ·have e:((zA its.toArray.size).all fun i=>(bs[i]?).getD true)=bs.all id:=by
   rw [wJ,hb.length,LSm.range_all]
  rw [e]
  exact ⟨.bl _,H,I.kept (LSm.kept_iter hk),rfl,q⟩
noncomputable def qJg (K:wD):R2:=fun x y H Q=>∃ l b xs zs,x=.ref l/\y=.ref b/\SqL K H l xs/\SqL K H b zs/\xs.length+zs.length<=sizeLine/\∀ p,H p=none->Q (.ref p) (upd H p (.lst (xs++zs)))
theorem qIr:OpR X (binaryOp .Add) (qJg X.K):=by
 intro pins s σ H x y v u Q I rx ry h
 obtain ⟨l,b,xs,zs,rfl,rfl,hH,hB,hz,q⟩:=h
 cases rx
 cases ry
 obtain ⟨its,r,pl,_⟩:=I.list hH
 obtain ⟨its2,r2,pl2,_⟩:=I.list hB
 have n1:=r.length
 have n2:=r2.length
 obtain ⟨⟨cls,dd,data,sl⟩,ho,hc,n,hd⟩:=pl.isList
 obtain ⟨⟨cls2,dd2,data2,sl2⟩,ho2,hc2,n2',hd2⟩:=pl2.isList
 simp only at hc hd hc2 hd2
 subst hc hd hc2 hd2
 have e:its.toArray++its2.toArray=(its++its2).toArray:=by simp
 refine VG ⟨_,ho,rfl⟩ ⟨_,ho2,rfl⟩ noFill_list_add seq_list_add PySem.F.slot_list_add PySem.F.entry_list_add (PySem.F.args_list_add_2 _ _) (list_addW l b its.toArray its2.toArray n n2' dd dd2 sl sl2 (by simp only [wJ]; omega)) ⟨ho,ho2,?_⟩
 rw [e]
 exact ⟨.ref _,_,I.lnew (t':=s.toks) (r.append r2) (by rw [wV]; omega),rfl,q _ I.fresh⟩
theorem qCI:j5 X (.builtin "isinstance") (fun xs H Q=>∃ x t T b,xs=[x,.ty T]/\qBt X.K H x t/\vQ X.K t (.type T)=some b/\Q (.bl b) H):=by
 intro pins s σ H xs us Q I r h
 obtain ⟨x,t,T,b,rfl,ty,e,q⟩:=h
 obtain ⟨u,w',rfl,rx,ry⟩:=vals2 r
 cases ry
 exact qF7 I rx ty e fun tk=>⟨.bl b,H,I.tok _,rfl,q⟩
end
example (K:wD):vQ K (.type "list") (.type "list")=some true:=rfl
example (K:wD):vQ K (.type "int") (.type "bool")=some false:=by rfl
example (K:wD):vQ K (.type "bool") (.type "int")=some true:=by rfl
end L2
namespace L2
open PySem PySem.Spec PyProof.Rows PySem.W
noncomputable abbrev qNR:=Int×List (Int×Int)
noncomputable abbrev qNn:=qNR×Addr×Addr
end L2
namespace L2
open PySem PySem.Spec PyProof.Rows
section
variable {X:Cx} {a:Expr} {ta:TE} {pos:Pos} {tg:Expr}
theorem opM:OpR X (binaryOp .Mult) (fun x y H Q=>(rI qL5 fun i j=>.int (i*j)) x y H Q\/qMY x y H Q):=qKn.or qLo
theorem qK2 (hu:X.A.units+64<cLine):OpR X (compareOp .Eq) (fun x y H Q=>rEq x y H Q\/qIH false x y H Q):=qMz.or (qLr hu)
theorem qIJ (hu:X.A.units+64<cLine):OpR X (compareOp .NotEq) (fun x y H Q=>rNe x y H Q\/qIH true x y H Q):=qMo.or (qKq hu)
theorem qMm (hu:X.A.units+64<cLine):OpR X (compareOp .In) (qJ2 false):=qKK hu
theorem qJ3 (hu:X.A.units+64<cLine):OpR X (compareOp .NotIn) (qJ2 true):=qE4 hu
noncomputable def qJG (K:wD) (tl:TE):TI:=fun σ H R=>tl σ H fun x H1=>∃ a,x=.ref a/\(((∃ xs,SqL K H1 a xs)/\R (Itl K a) H1)\/((∃ xs,SqT K H1 a xs)/\R (Itt K a) H1))
theorem qKL {l:Expr} {tl:TE} (hl:PE X l tl):PI X tg l (qJG X.K tl):=by
 intro pins s σ H R I h
 refine thn (hl pins s σ H _ I h) fun v s1 ⟨x,H1,I1,r1,q1⟩=>?_
 obtain ⟨a,e,q⟩:=q1
 subst e
 cases r1
 rcases q with ⟨⟨xs,hq⟩,q⟩ | ⟨⟨xs,hq⟩,q⟩
 ·obtain ⟨its,rv,p,hz⟩:=I1.list hq
  refine VI p.isList ?_
  refine ⟨s1.heap.objs.size,[s1.heap.objs.size],_,_,H1,rfl,I1.kept (t':=s1.toks) fun b o e=>wG _ e,qEO a _,⟨_,zB _ rfl,rfl,rfl⟩,fun b hb=>?_,q⟩
  have e:b=s1.heap.objs.size:=by simpa using hb
  subst e
  exact I1.fpOk (wF _) (I1.hok.fresh (wF _))
 ·obtain ⟨its,rv,p,hz⟩:=I1.tuple hq
  refine wpAny_pyIter_tuple (show s1.heap.IsTuple a its.toArray from p) ?_
  refine ⟨s1.heap.objs.size,[s1.heap.objs.size],_,_,H1,rfl,I1.kept (t':=s1.toks) fun b o e=>wG _ e,qDb a _,⟨_,zB _ rfl,rfl,rfl⟩,fun b hb=>?_,q⟩
  have e:b=s1.heap.objs.size:=by simpa using hb
  subst e
  exact I1.fpOk (wF _) (I1.hok.fresh (wF _))
noncomputable def qJy (ta:TE) (K:wD):TE:=fun σ H Q=>ta σ H fun x H1=>∃ k,qLP K x H1 k/\Q (.bl (!k)) H1
theorem qJ4 (ha:PE X a ta):PE X (.UnaryOp .Not a pos) (qJy ta X.K):=by
 intro pins s σ H Q I h
 refine UnaryOp_ (thn (ha pins s σ H _ I h) fun v s1 ⟨x,H1,I1,r1,k,e,q1⟩=>not_of ?_)
 exact thn (qHv pins s1 σ H1 x v (fun k H'=>Q (.bl (!k)) H') I1 r1 ⟨k,e,q1⟩) fun b s2 ⟨H2,I2,q2⟩=>⟨.bl (!b),H2,I2,rfl,q2⟩
end
theorem qL.new {H:Hp} {p:Addr} {o:HO} (h:H p=none):qL H (upd H p o):=fun b u e=>by rw [qI (qr e h)]; exact e
noncomputable def qLB (H H':Hp):Prop:=∀ a xs,H a=some (.tup xs)->H' a=some (.tup xs)
mutual
noncomputable def qGl:D->Bool
 | .lst _=>false
 | .dic=>false
 | .tup l=>qDI l
 | _=>true
noncomputable def qDI:List D->Bool
 | []=>true
 | d::l=>qGl d && qDI l
end
mutual
theorem Den.monoT {H H':Hp} (e:qLB H H'):∀(d:D) (v:V),qGl d=true->Den H d v->Den H' d v
 | .non,v,_,h=>h
 | .bl _,v,_,h=>h
 | .int _,v,_,h=>h
 | .str _,v,_,h=>h
 | .tup l,v,t,h=>by
  obtain ⟨a,xs,r,h1,h2⟩:=h
  exact ⟨a,xs,r,e _ _ h1,qR.monoT e l xs t h2⟩
 | .lst l,v,t,h=>by simp [qGl] at t
 | .dic,v,t,h=>by simp [qGl] at t
theorem qR.monoT {H H':Hp} (e:qLB H H'):∀(l:List D) (xs:List V),qDI l=true->qR H l xs->qR H' l xs
 | [],xs,_,h=>h
 | d::l,xs,t,h=>by
  obtain ⟨x,r,h0,h1,h2⟩:=h
  simp only [qDI,yY] at t
  exact ⟨x,r,h0,Den.monoT e d x t.1 h1,qR.monoT e l r t.2 h2⟩
end
section
variable {X:Cx} {K:wD} {a b o e:Expr} {es:List Expr} {ta tb to:TE} {t:TA} {pos:Pos} {tg:Expr}
theorem ixK (h:X.K=K):IxR X (rIx K):=by subst h; exact qLl
theorem qm {l:Expr} {tl:TE} (h:X.K=K) (hl:PE X l tl):PI X tg l (qJG K tl):=by subst h; exact qKL hl
theorem qGz (h:X.K=K) (ha:PE X a ta):PE X (.UnaryOp .Not a pos) (qJy ta K):=by subst h; exact qJ4 ha
noncomputable def qNM (K:wD) (ta:TE):TT:=fun σ H Q=>ta σ H fun x H'=>∃ k,qLP K x H' k/\Q k H'
theorem jG (h:X.K=K) (ha:PE X a ta) (he:∀ whole,isTrue a X.env whole=(do let v <- whole; standAt a.pos; holding [v] (truthy v))):PT X a (qNM K ta):=by subst h; exact qHB ha he
theorem qHs (h:X.K=K):j5 X (.builtin "len") (fun xs H Q=>∃ p ys,xs=[.ref p]/\(SqL K H p ys\/SqT K H p ys)/\Q (.int ys.length) H):=by subst h; exact qBD
theorem qFF (h:X.K=K):j5 X (.type "tuple") (fun xs H Q=>∃ p ys,xs=[.ref p]/\((SqL K H p ys/\∀ l,H l=none->Q (.ref l) (upd H l (.tup ys)))\/(SqT K H p ys/\Q (.ref p) H))):=by subst h; exact qAN
theorem qMs (h:X.K=K):j5 X (.type "list") (fun xs H Q=>∃ p ys,xs=[.ref p]/\(SqL K H p ys\/SqT K H p ys)/\∀ l,H l=none->Q (.ref l) (upd H l (.lst ys))):=by subst h; exact qBJ
theorem qAA (h:X.K=K):j5 X (.builtin "isinstance") (fun xs H Q=>∃ x t T b,xs=[x,.ty T]/\qBt K H x t/\vQ K t (.type T)=some b/\Q (.bl b) H):=by subst h; exact qCI
theorem Ym {name:Str} {apos cpos:Pos} {T id:String} {r:V->List V->Hp->VK->Prop} (h:X.K=K) (pa:PlainAttrs T) (slot:Slot T name id) (hty:typeOf (.builtin id)=pure (.type "method_descriptor")) (hm:MtR X id r) (ho:PE X o to) (ha:PA X (e::es) t)
  (hbase:attributeBase o name X.env (eval o X.env)=eval o X.env:=by rfl)
  (hfew:((backTo cpos (starEach (e::es) X.env)).all (fun x=>!x.1) && (backToKw cpos (keywordEach [] X.env)).all (fun x=>x.1.isSome)
   && decide ((e::es).length+([]:List Keyword).length+(if ([]:List Keyword).isEmpty then 0 else 1)<30))=true:=by rfl)
  (hline:(apos.endLine == cpos.line)=true:=by rfl) (hs:starEach (e::es) X.env=(false,eval e X.env)::starEach es X.env:=by rfl) (hplain:(backTo cpos (starEach es X.env)).any (·.1)=false:=by rfl) :
  PE X (.Call (.Attribute o name apos) (e::es) [] cpos) (tBM K T r to t):=by subst h; exact qMG pa slot hty hm ho ha hbase hfew hline hs hplain
theorem jw {es:List Expr} {k:Nat} {t:TGs} {n:Nat} (h:X.K=K) (hc:X.calm=true) (hg:PGs X es t)
  (hn:(assignEach es X.env).length=n:=by rfl) (hst:(assignEach es X.env).findIdx? (·.1)=none:=by rfl):PG X (.Tuple es k pos) (qMN K n t):=by subst h; exact qKT hc hg hn hst
end
structure qGS (K:wD) (mg:Str->Option Value) (x:Str) (st:Stmt) (ps:List Str) (f:Addr) (fd:FuncData):Prop where
 fn:Fun K x x st f fd
 bd:Binds K fd ps []
 mg:mg x=some (.ref f)
end L2
namespace L2
open PySem
noncomputable abbrev Fo (h:Heap) (c:String) (a:Addr) (fs:Array Value):Prop:=h.get? a=some ⟨.type c,none,.fields fs,#[]⟩
noncomputable def Q5 (a:Addr) (h h':Heap):Prop:=∀ c o,c≠a->h.get? c=some o->h'.get? c=some o
theorem Q5.refl (a:Addr) (h:Heap):Q5 a h h:=fun _ _ _ y=>y
theorem Q5.then {a:Addr} {h h' h'':Heap} (x:Q5 a h h') (y:Q5 a h' h''):Q5 a h h'':=fun c o n z=>y c o n (x c o n z)
theorem Q5.new {a:Addr} {h h':Heap} (x:Q5 a h h') (o:Obj):Q5 a h (h'.push o):=fun c u n z=>wG o (x c u n z)
theorem Q5.of {a:Addr} {h h':Heap} (x:kG a h h'):Q5 a h h':=x.extBut
section
variable {prog:Program} {w:World} {A:Around} {E:Value->Shared->Prop} {s:Shared} {a:Addr} {c:String} {fs:Array Value} {β:Type} {Q:β->Shared->Prop}
theorem ask {k:Nat} {x:Value} {g:Value->Sem β} (o:Fo s.heap c a fs) (hx:fs[k]? = some x) (K:wpAny (model prog w) A (g x) Q E s):wpAny (model prog w) A (field (.ref a) k >>= g) Q E s:=wC (kF o rfl hx K)
theorem qMI {k:Nat} {v:Value} {Q:Unit->Shared->Prop} (o:Fo s.heap c a fs) (hk:k<fs.size) (K:∀ h',Fo h' c a (fs.setIfInBounds k v)->Q5 a s.heap h'->h'.objs.size=s.heap.objs.size->Q () { s with heap:=h' }):wpAny (model prog w) A (setField (.ref a) k v) Q E s:=
 wpAny_setField_rec o hk fun h' o' same=>K h' o' (.of same) same.1
theorem put {k:Nat} {v:Value} {g:Unit->Sem β} (o:Fo s.heap c a fs) (hk:k<fs.size) (K:∀ h',Fo h' c a (fs.setIfInBounds k v)->Q5 a s.heap h'->h'.objs.size=s.heap.objs.size->wpAny (model prog w) A (g ()) Q E { s with heap:=h' }):wpAny (model prog w) A (setField (.ref a) k v >>= g) Q E s:=
 wC (qMI o hk K)
theorem alive {b:Addr} {g:Option Obj->Sem β} (K:wpAny (model prog w) A (g (s.heap.get? b)) Q E s):wpAny (model prog w) A (loadIfAlive b >>= g) Q E s:=by
 refine wC ?_
 intro Γ p _
 exact (Sem.wp_loadIfAlive ..).symm ▸ K
end
end L2
namespace L2
open PySem PySem.Spec PyProof.Rows
section
variable {w:World} {prog:Program} {A:Around} {s:Shared} {E:Value->Shared->Prop}
theorem qMk {α:Type} {Q:α->Shared->Prop} (calm:A.handled=none) (K:∀ h' e,(∀ b o,s.heap.get? b=some o->h'.get? b=some o)->(∃ o,h'.get? e=some o/\o.cls=.type "StopIteration")->E (.ref e) { s with heap:=h' }):wpAny (model prog w) A (Builtin.SmallTypes.stopIteration:Sem α) Q E s:=by
 refine wC (m:=newExc _ _) (wC (vW (wC (m:=firstArgMember _ _) (UC (a:=vP) (by simp only [firstArgMember]; rfl) (vW (wpAny_raiseNew_none calm (K _ _ (fun b o y=>?_) ⟨_,zB _ rfl,rfl⟩)) (by size_fits)))) (by size_fits)))
 exact wG _ (wG _ y)
theorem nextT {nx tu:Addr} {i:Nat} {its:Array Value} {Q:Value->Shared->Prop} (hi:s.heap.IsTupleIter nx tu i) (ht:s.heap.IsTuple tu its) (yes:∀ y h',its[i]? = some y->h'.IsTupleIter nx tu (i+1)->kG nx s.heap h'->Q y { s with heap:=h' })
  (no:its[i]? = none->A.handled=none/\∀ h' e,Heap.ExtBut nx s.heap h'->(∃ o,h'.get? e=some o/\o.cls=.type "StopIteration")->E (.ref e) { s with heap:=h' }):wpAny (model prog w) A (Builtin.SmallTypes.nextOf (.ref nx)) Q E s:=by
 obtain ⟨ob,eb,cb,db⟩:=id hi
 obtain ⟨ot,et,_,nt,dt⟩:=ht
 refine wC (xD (name:=uH "__next__") hi.typeIs TH (yX TH hi.typeIs F.entry_tuple_iterator_next ?_ (F.args_tuple_iterator_next_1 _)))
 refine wC (UC (a:=(.ref nx,[])) rfl (wC (kF eb db (x:=.ref tu) rfl (WD (fun z=>absurd z wR) fun _=>wC (kF eb db (x:=.int i 0) rfl (wC (TJ et dt ?_)))))))
 simp only [zM]
 cases e:its[i]? with
 | some y=>
  refine wC (fY eb db (by simp) (wK ⟨y,rfl,wK (yes y _ e ⟨_,uR _ eb (WG (Obj.data_mapFields db _)),(Obj.cls_mapFields ..).trans cb,?_⟩ (uE ..))⟩))
  rw [Obj.data_mapFields db]
  simp [rawInt]
 | none=>
  obtain ⟨calm,over⟩:=no e
  exact wC (ZX (wC (fY eb db (by simp) (qMk calm fun h' x old new=>over h' x (fun b o n y=>old b o ((uE ..).extBut b o n y)) new))))
end
theorem qH4 {prog:Program} {w:World} {A:Around} (hh:A.handled=none) (nx tu:Addr) (hne:tu≠nx) (its:Array Value) :
  Draws prog w A nx [nx,tu] its.size (fun i v=>its[i]? = some v) (fun i h=>h.IsTupleIter nx tu i/\h.IsTuple tu its) where
 live:=fun _ _ st=>by obtain ⟨o,ho,_⟩:=st.1; exact ⟨o,ho⟩
 frame:=fun _ _ _ st hk=>⟨st.1.at fun o e=>hk nx (by simp) o e,by obtain ⟨o,e,r⟩:=st.2; exact ⟨o,hk tu (by simp) o e,r⟩⟩
 item:=fun i s Q E hi st k=>nextT st.1 st.2 (no:=fun z=>absurd z (by simp [hi])) (yes:=fun y h' ey g1 g2=>k y h' s.toks ey ⟨g1,by obtain ⟨o,e,r⟩:=st.2; exact ⟨o,g2.extBut tu o hne e,r⟩⟩ g2)
 done:=fun s Q E st k=>nextT st.1 st.2 (yes:=fun y _ ey=>absurd ey (by simp)) (no:=fun _=>⟨hh,k⟩)
end L2
namespace L2
open PySem PyProof.Rows
end L2
namespace L2
open PySem PySem.Spec PyProof.Rows
end L2
namespace L2
open PySem PySem.Spec PyProof.Rows PySem.SeqAt
open PySem.AutoSeq1 (wpAny_loadPart')
section
variable {X:Cx}
theorem qKl {its:List Value} {ds:List D} {e:Value->Bool} {d:D}:∀{its:List Value} {ds:List D},its.length=ds.length->(∀(j:Nat) (w:Value) (c:D),its[j]? = some w->ds[j]? = some c->e w=dEq c d)->its.countP e=ds.countP fun c=>dEq c d
 | [],[],_,_=>rfl
 | [],_::_,h,_=>absurd h (by simp)
 | _::_,[],h,_=>absurd h (by simp)
 | w::its,c::ds,h,k=>by
  rw [List.countP_cons,List.countP_cons,k 0 w c rfl rfl,qKl (its:=its) (ds:=ds) (by simpa using h) fun j a b h1 h2=>k (j+1) a b (by simpa using h1) (by simpa using h2)]
theorem Yx (j:Int):gP 0 j 1=j.toNat:=by
 delta gP
 by_cases h:0<j
 ·rw [if_pos (by decide),if_pos h]; omega
 ·rw [if_pos (by decide),if_neg h]; omega
theorem qEE {n:Nat} {acc:Array Value} (h:ItemsOf (fun i v=>∃ t,v=.int (0+i*1) t) acc n):qh ((zA n).map fun k:Nat=>V.int k) acc.toList:=by
 obtain ⟨h1,h2⟩:=h
 have key:∀(m:Nat) (l:List Value) (c:Nat),l.length=m->(∀ j v,l[j]? = some v->∃ t,v=fU ((c+j:Nat):Int) t)->qh ((List.range' c m).map fun k:Nat=>V.int k) l:=by
  intro m
  induction m with
  | zero=>intro l c hl _; cases gQ.mp hl; exact .nil
  | succ m ih=>
   intro l c hl hv
   cases l with
   | nil=>simp at hl
   | cons v l=>
    rw [List.range'_succ,zF]
    obtain ⟨t,e⟩:=hv 0 v rfl
    refine .cons ⟨t,by rw [e]; rfl⟩ (ih l (c+1) (by simpa using hl) fun j w hw=>?_)
    obtain ⟨t,e⟩:=hv (j+1) w (by simpa using hw)
    exact ⟨t,by rw [e]; congr 2; omega⟩
 rw [List.range_eq_range']
 refine key n acc.toList 0 (by simpa using h1) fun j v hj=>?_
 obtain ⟨t,e⟩:=h2 j v (by simpa using hj)
 exact ⟨t,by rw [e]; congr 1; omega⟩
noncomputable def qFm:List V->Hp->VK->Prop:=fun xs H Q=>∃ j:Int,xs=[.int j]/\∀ p,H p=none->Q (.ref p) (upd H p (.rng 0 j))
theorem YG:j5 X (.type "range") qFm:=by
 intro pins s σ H xs us Q I r h
 obtain ⟨j,rfl,q⟩:=h
 obtain ⟨u,rfl,ru⟩:=vals1 r
 obtain ⟨t,rfl⟩:=ru
 refine call_range_1 ?_
 refine ⟨.ref s.heap.objs.size,_,I.laid (t':=s.toks+1+1) (o:=.rng 0 j) (fun b ob q=>wG _ q) (wF _) ?_,rfl,q _ (I.hok.fresh (wF _))⟩
 exact ⟨_,_,_,zB _ rfl⟩
noncomputable def qCr:List V->Hp->VK->Prop:=fun xs H Q=>∃(p:Addr) (j:Int),xs=[.ref p]/\H p=some (.rng 0 j)/\j<=1000/\-(2 ^ 62)<=j/\∀ l,H l=none->Q (.ref l) (upd H l (.lst ((zA j.toNat).map fun k:Nat=>V.int k)))
theorem JN (hc:X.calm=true):j5 X (.type "list") qCr:=by
 intro pins s σ H xs us Q I r h
 obtain ⟨p,j,rfl,hp,h1,h2,q⟩:=h
 obtain ⟨u,rfl,ru⟩:=vals1 r
 cases ru
 obtain ⟨t,u',v,e⟩:=I.hok p _ hp
 have hh:X.A.handled=none:=I.ok.hd hc
 refine call_list_range (n:=j.toNat) hh e ?_ (Yx j) (by omega) fun h' tk acc' c' hk hS hacc=>?_
 ·have hb:gP 0 j 1=j.toNat:=Yx j
  unfold Builtin.Range.small
  rw [hb]
  simp only [Builtin.Range.rangeFitsLong,yY,Bool.or_eq_true,decide_eq_true_eq,beq_iff_eq,show ((1:Int) > 0) by decide,if_true]
  omega
 ·refine ⟨.ref s.heap.objs.size,_,I.laid (t':=tk) (o:=.lst ((zA j.toNat).map fun k:Nat=>V.int k)) hk (wF _) ?_,rfl,q _ (I.hok.fresh (wF _))⟩
  have hv:=qEE hacc
  refine ⟨?_,acc'.toList,c',hv,?_⟩
  ·rw [wB,vB]
   exact zK (by omega:j.toNat<=1000) (xU (qP (wF _)))
  ·rw [hS]
end
end L2
namespace L2
open PySem PySem.Spec PyProof.Rows
theorem QU {α:Type} (l:List α) (d:α):(zA l.length).map (fun i=>l.getD i d)=l:=by
 apply kY
 intro i
 rw [wQ]
 by_cases h:i<l.length
 ·rw [wA h]
  simp [h]
 ·rw [vI (by simpa using h)]
  simp [h]
theorem jD.there {P:Program} {w:World} {H:Hp} {h:Heap} {a:Addr} {o:HO} (x:jD P w H h a o):∃ u,h.get? a=some u:=by
 cases o with
 | lst xs=>obtain ⟨_,_,_,_,e⟩:=x; exact ⟨_,e⟩
 | tup xs=>obtain ⟨_,_,_,⟨_,e,_⟩,_⟩:=x; exact ⟨_,e⟩
 | dK kvs=>obtain ⟨_,_,_,_,_,_,_,e,_⟩:=x; exact ⟨_,e⟩
 | dT kvs=>obtain ⟨_,_,_,_,_,_,_,e,_⟩:=x; exact ⟨_,e⟩
 | set S n=>obtain ⟨_,_,_,_,e,_⟩:=x; exact ⟨_,e⟩
 | ins C dx fs=>obtain ⟨_,_,_,e,_⟩:=x; exact ⟨_,e⟩
 | own y=>exact x
 | xd fs=>obtain ⟨_,⟨_,_,_,e,_⟩,_⟩:=x; exact ⟨_,e⟩
 | rng lo hi=>obtain ⟨_,_,_,e⟩:=x; exact ⟨_,e⟩
 | frz ob u=>exact ⟨_,x.1⟩
 | tbl ps=>exact ⟨_,x⟩
 | met f y=>exact ⟨_,x⟩
 | ext φ=>exact x.2.1
structure ExcAt (g h:Heap) (H:Hp) (e:Addr) (cls:Value) (fl:Option Value) (xs:List Addr):Prop where
 me:e∈xs
 own:∀ b∈xs,g.get? b=none/\H b=none
 obj:∃ oe vs,h.get? e=some oe/\oe.cls=cls/\oe.dict=none/\oe.data=.fields vs/\match fl with
  | none=>vs[1]? = some .none
  | some v=>∃ T oT ts,vs[1]? = some (.ref T)/\T≠e/\T∈xs/\h.get? T=some oT/\oT.data=.fields ts/\ts[3]? = some v
theorem ExcAt.far {g g' h:Heap} {H:Hp} {e:Addr} {cls:Value} {fl:Option Value} {xs:List Addr} (x:ExcAt g h H e cls fl xs) (k:∀ b o,g'.get? b=some o->∃ o',g.get? b=some o'):ExcAt g' h H e cls fl xs:=by
 refine ⟨x.me,fun b hb=>⟨?_,(x.own b hb).2⟩,x.obj⟩
 cases q:g'.get? b with
 | none=>rfl
 | some o=>
  obtain ⟨o',e'⟩:=k b o q
  rw [(x.own b hb).1] at e'
  cases e'
theorem qBS (T:Addr):(zW T != vP)=true:=rfl
theorem qIo (L:Addr):¬ (vP == rawInt L)=true:=fun z=>Bool.noConfusion (show false=true from z)
theorem JQ {base h h':Heap}:∀{l:List Env},h.FunFrames base l->(∀ b∈frs l,∀ o,h.get? b=some o->∃ sl,h'.get? b=some { o with slots:=sl })->h'.FunFrames base l
 | [],_,_=>trivial
 | env::r,⟨hk,⟨L,o,hf,hn,ho,hd⟩,hr⟩,k=>by
  obtain ⟨sl,q⟩:=k L (kI.mpr ⟨env,.head _,hf⟩) o ho
  refine ⟨hk,⟨L,_,hf,hn,q,hd⟩,JQ hr fun b hb=>k b ?_⟩
  obtain ⟨v,hv,z⟩:=kI.mp hb
  exact kI.mpr ⟨v,.tail _ hv,z⟩
theorem JA (o:Obj) {vs:Array Value} (hd:o.data=.fields vs) (i:Nat) (v:Value):(uK (·.setIfInBounds i v) o).cls=o.cls/\(uK (·.setIfInBounds i v) o).dict=o.dict/\(uK (·.setIfInBounds i v) o).data=.fields (vs.setIfInBounds i v):=by
 obtain ⟨c,d,dt,sl⟩:=o
 cases (show dt=.fields vs from hd)
 exact ⟨rfl,rfl,rfl⟩
structure qJn (h h':Heap) (l:List Env) (xs:List Addr):Prop where
 keep:∀ b o,h.get? b=some o->b∉frs l->b∉xs->h'.get? b=some o
 slot:∀ b o,h.get? b=some o->b∈frs l->∃ sl,h'.get? b=some { o with slots:=sl }
section
variable {M:Model} {A:Around} {E:Value->Shared->Prop} {s:Shared} {P:Program} {w:World} {base g:Heap} {env:Env} {outer l:List Env} {L e:Addr} {cls:Value} {fl:Option Value} {xs:List Addr} {H:Hp} {Q:Unit->Shared->Prop}
theorem HOk.gone {h h':Heap} (hH:HOk P w H h) (G:qJn h h' l xs) (frf:∀ b∈frs l,H b=none) (hx:∀ b∈xs,H b=none):HOk P w H h':=fun a o q=>(hH a o q).stay (fun b u m q'=>by
  have kept:∀ o',H b=some o'->h'.get? b=some u:=fun o' t=>G.keep b u q' (fun m=>by rw [frf b m] at t; cases t) fun m=>by rw [hx b m] at t; cases t
  rcases m with rfl | m
  ·exact kept _ q
  ·exact kept _ m) (fun _ z=>z) fun _ _ z=>z
theorem qEf {vs:Array Value} {oe:Obj} {head:Value} {more:Bool} (hfr:A.frames=some (env::outer)) (hf:env.frame=some L) (hl:s.heap.FunFrames base (env::outer)) (he:s.heap.get? e=some oe) (hd:oe.data=.fields vs) (h1:1<vs.size)
  (h:∀ h' oT ts,qJn s.heap h' (env::outer) [e]->h'.get? e=some (uK (·.setIfInBounds 1 (.ref s.heap.objs.size)) oe)->h'.get? s.heap.objs.size=some oT->oT.data=.fields ts->ts[3]? = some (rawInt L)->Q () { s with heap:=h' }) :
  wpAny M A (do setField (.ref e) 1 (<- EntryCells.newEntry head (<- frameOf env) .none (rawInt L) .none (<- entryPlaceOf L more))) Q E s:=by
 have nf:e∉frs (env::outer):=fun m=>by
  obtain ⟨_,o,q,z⟩:=hl.mem m
  rw [he] at q
  cases q
  exact z vs hd
 refine wC (wpAny_frameOf_fun hfr hl hf fun k ⟨sz,same,slots⟩=>wC (wpAny_entryPlaceOf fun pl ok=>?_))
 dsimp only [EntryCells.newEntry,newFields]
 have qe:k.get? e=some oe:=(same e nf).trans he
 refine wC (vW (fY (wG _ qe) hd h1 ?_) (ok.sizeOk5 _ _ _ _ _))
 have ne:k.objs.size≠e:=gV (wZ qe)
 have sz':k.objs.size=s.heap.objs.size:=sz
 rw [sz'] at ne ⊢
 have old:∀ b o,b≠e->k.get? b=some o->((k.push { cls:=.type "traceback",dict:=none,data:=.fields ([head,.ref L,.none,rawInt L,.none]++(if pl.isEmpty then wO 6 .none else pl)).toArray }).update e (uK (·.setIfInBounds 1 (.ref s.heap.objs.size)))).get? b=some o:=fun b o n q=>
  (uI _ _ (kX n)).trans (wG _ q)
 refine h _ _ _ ⟨fun b o q n m=>old b o (fun z=>m (z ▸ .head _)) ((same b n).trans q),fun b o q m=>?_⟩ (uR _ (wG _ qe) (WG (JA oe hd 1 _).2.2)) ((uI _ _ (kX ne)).trans (by rw [<- sz']; exact zB _ rfl)) rfl rfl
 obtain ⟨sl,q'⟩:=slots b o q
 exact ⟨sl,old b _ (fun z=>nf (z ▸ m)) q'⟩
theorem qLS (hfr:A.frames=some (env::outer)) (hf:env.frame=some L) (hl:s.heap.FunFrames base (env::outer)) (hH:HOk P w H s.heap) (frf:∀ b∈frs (env::outer),H b=none) (gs:∀ b o,g.get? b=some o->∃ o',s.heap.get? b=some o')
  (x:ExcAt g s.heap H e cls fl xs) (hfl:fl=none\/fl=some .none) (h:∀ h',qJn s.heap h' (env::outer) xs->HOk P w H h'->(∃ ys,ExcAt g h' H e cls (some (rawInt L)) ys)->Q () { s with heap:=h' }):wpAny M A (noteFrame (.ref e) env) Q E s:=by
 have nx:∀{b:Addr},s.heap.get? b=none->g.get? b=none/\H b=none:=fun {b} z=>by
  constructor
  ·cases q:g.get? b with
   | none=>rfl
   | some o=>
    obtain ⟨o',q'⟩:=gs b o q
    rw [z] at q'
    cases q'
  ·cases q:H b with
   | none=>rfl
   | some o=>
    obtain ⟨o',q'⟩:=(hH b o q).there
    rw [z] at q'
    cases q'
 have nT:=nx (b:=s.heap.objs.size) (by
  cases q:s.heap.get? s.heap.objs.size with
  | none=>rfl
  | some o=>exact absurd (wZ q) (vX _))
 obtain ⟨oe,vs,he,hc,hdi,hd,hv⟩:=x.obj
 have done:∀ h' oT ts,qJn s.heap h' (env::outer) xs->h'.get? e=some (uK (·.setIfInBounds 1 (.ref s.heap.objs.size)) oe)->h'.get? s.heap.objs.size=some oT->oT.data=.fields ts->ts[3]? = some (rawInt L)->1<vs.size->Q () { s with heap:=h' }:=fun h' oT ts G q1 q2 q3 q4 v1=>by
  obtain ⟨p1,p2,p3⟩:=JA oe hd 1 (.ref s.heap.objs.size)
  refine h h' G (hH.gone G frf fun b m=>(x.own b m).2) ⟨[e,s.heap.objs.size],.head _,fun b m=>?_,_,_,q1,p1.trans hc,p2.trans hdi,p3,_,oT,ts,?_,gV (wZ he),.tail _ (.head _),q2,q3,q4⟩
  ·rcases wX.mp m with rfl | m
   ·exact x.own _ x.me
   ·rw [wY.mp m]
    exact nT
  ·rw [WI v1]
 unfold noteFrame
 simp only [hf]
 rcases hfl with rfl | rfl
 ·have v1:1<vs.size:=(yS.mp hv).1
  refine wC (kF he hd hv ?_)
  rw [if_neg (by decide)]
  exact qEf hfr hf hl he hd v1 fun h' oT ts G q1 q2 q3 q4=>done h' oT ts ⟨fun b o q n m=>G.keep b o q n fun z=>m (wY.mp z ▸ x.me),G.slot⟩ q1 q2 q3 q4 v1
 ·obtain ⟨T,oT,ts,hv,ne,tx,hT,hdT,h3⟩:=hv
  have v1:1<vs.size:=(yS.mp hv).1
  have t3:3<ts.size:=(yS.mp h3).1
  refine wC (kF he hd hv (if_pos (qBS T) ▸ wC (kF hT hdT h3 ?_)))
  rw [if_neg (qIo L)]
  refine wC (fY hT hdT t3 ?_)
  have other:∀ b,b≠T->(s.heap.update T (uK (·.setIfInBounds 3 .none))).get? b=s.heap.get? b:=fun b n=>uI _ _ (kX n)
  have nTf:T∉frs (env::outer):=fun m=>by
   obtain ⟨_,o,q,z⟩:=hl.mem m
   rw [hT] at q
   cases q
   exact z ts hdT
  have sz:(s.heap.update T (uK (·.setIfInBounds 3 .none))).objs.size=s.heap.objs.size:=Heap.size_after_update ..
  refine qEf hfr hf (hl.of_keeps fun b o q n=>⟨o,(other b fun z=>?_).trans q,rfl⟩) ((other e (kX ne)).trans he) hd v1 fun h' oT' ts' G q1 q2 q3 q4=>?_
  ·rw [z,hT] at q
   cases q
   exact n ts hdT
  ·rw [sz] at q1 q2
   refine done h' oT' ts' ⟨fun b o q n m=>G.keep b o ((other b fun z=>m (z ▸ tx)).trans q) n fun z=>m (wY.mp z ▸ x.me),fun b o q m=>G.slot b o ((other b fun z=>nTf (z ▸ m)).trans q) m⟩ q1 q2 q3 q4 v1
theorem landed {B:Around} {v:Value} (hl:s.heap.FunFrames base l) (hH:HOk P w H s.heap) (frf:∀ b∈frs l,H b=none) (x:ExcAt g s.heap H e cls (some v) xs) (h:∀ h',qJn s.heap h' l xs->HOk P w H h'->(∃ ys,ExcAt g h' H e cls (some .none) ys)->Q () { s with heap:=h' }) :
  wpAny M B (setFlight (.ref e) none) Q E s:=by
 obtain ⟨oe,vs,he,hc,hdi,hd,T,oT,ts,hv,ne,tx,hT,hdT,h3⟩:=x.obj
 have t3:3<ts.size:=(yS.mp h3).1
 have other:∀ b,b≠T->(s.heap.update T (uK (·.setIfInBounds 3 .none))).get? b=s.heap.get? b:=fun b n=>uI _ _ (kX n)
 have nTf:T∉frs l:=fun m=>by
  obtain ⟨_,o,q,z⟩:=hl.mem m
  rw [hT] at q
  cases q
  exact z ts hdT
 have p3:=(JA oT hdT 3 .none).2.2
 have G:qJn s.heap (s.heap.update T (uK (·.setIfInBounds 3 .none))) l xs:=⟨fun b o q n m=>(other b fun z=>m (z ▸ tx)).trans q,fun b o q m=>⟨o.slots,(other b fun z=>nTf (z ▸ m)).trans q⟩⟩
 unfold setFlight
 refine wC (kF he hd hv ?_)
 rw [if_pos (qBS T)]
 refine fY hT hdT t3 (h _ G (hH.gone G frf fun b m=>(x.own b m).2) ⟨xs,x.me,x.own,oe,vs,(other e (kX ne)).trans he,hc,hdi,hd,T,_,_,hv,ne,tx,uR _ hT (WG p3),p3,?_⟩)
 rw [WI t3]
theorem leave (hfr:A.frames=some (env::outer)) (hf:env.frame=some L) (hl:s.heap.FunFrames base (env::outer)) (hH:HOk P w H s.heap) (frf:∀ b∈frs (env::outer),H b=none) (gs:∀ b o,g.get? b=some o->∃ o',s.heap.get? b=some o')
  (x:ExcAt g s.heap H e cls fl xs) (hfl:fl=none\/fl=some .none) (h:∀ h',(∀ b o,g.get? b=some o->∀ u,s.heap.get? b=some u->(b∉frs (env::outer)->h'.get? b=some u)/\(b∈frs (env::outer)->∃ sl,h'.get? b=some { u with slots:=sl }))->HOk P w H h'->(∃ ys,ExcAt g h' H e cls (some .none) ys)->Q () { s with heap:=h' }):wpAny M A (leaving env (.ref e)) Q E s:=by
 have far:∀{h:Heap} {fl:Option Value} {xs:List Addr},ExcAt g h H e cls fl xs->∀ b o,g.get? b=some o->b∉xs:=fun x b o q m=>by
  rw [(x.own b m).1] at q
  cases q
 unfold leaving
 refine wC (qLS hfr hf hl hH frf gs x hfl fun h1 G1 ok1 ⟨ys,y⟩=>?_)
 have hl1:h1.FunFrames base (env::outer):=JQ hl fun b m o q=>G1.slot b o q m
 refine landed (s:={ s with heap:=h1 }) hl1 ok1 frf y fun h2 G2 ok2 z=>h h2 (fun b o q u q'=>⟨fun n=>?_,fun m=>?_⟩) ok2 z
 ·exact G2.keep b u (G1.keep b u q' n (far x b o q)) n (far y b o q)
 ·obtain ⟨sl,e1⟩:=G1.slot b u q' m
  obtain ⟨sl2,e2⟩:=G2.slot b _ e1 m
  exact ⟨sl2,e2⟩
end
noncomputable def CXA (P:Program) (w:World):CXT:=fun outer H s E e s'=>∃ a cls H' xs,e=.ref a/\s'.os=s.os/\AllBare s'.gens/\Un (frs outer) [] H H' s.heap s'.heap/\HOk P w H' s'.heap/\ExcAt s.heap s'.heap H' a cls (some .none) xs/\E cls none H'
section
variable {P:Program} {w:World} {K:wD} {mg:Str->Option Value} {base:Heap} {N:List Str} {qual:Str} {scope:Scope} {f:Addr} {cd:Value} {A:Around} {outer:List Env} {s:Shared} {H:Hp} {E:XK}
theorem fly {pins:List (Addr×Obj)} {σ:St} {H1:Hp} {s1:Shared} {a:Addr} {cls:Value} {fl:Option Value} {xs:List Addr} (I:Inv (qD8 (CXA P w) P w K mg base N qual scope f cd A outer s H E) pins σ H1 s1) (x:ExcAt s.heap s1.heap H1 a cls fl xs) (hfl:fl=none\/fl=some .none) (q:E cls none H1) :
  (qD8 (CXA P w) P w K mg base N qual scope f cd A outer s H E).xe (.ref a) s1:=by
 have nL:∀ b o,s.heap.get? b=some o->b∉frs outer->b∉frs (envOfC qual scope s.heap.objs.size f cd::outer):=fun b o e n m=>by
  have m':b∈s.heap.objs.size::frs outer:=m
  rcases wX.mp m' with z | z
  ·exact absurd (wZ e) (by rw [z]; exact vX _)
  ·exact n z
 refine leave (P:=P) (w:=w) I.ok.frames rfl I.stack I.hok I.stkFree (fun b o e=>I.base.there b o e (fun z=>nomatch z)) x hfl fun h' G ok ⟨ys,y⟩=>?_
 refine ⟨a,cls,H1,ys,rfl,I.os,I.bare,⟨fun b o e n hb _=>?_,fun b o e n hb _=>?_,fun b o e n _=>I.base.free b o e n (fun z=>nomatch z),fun b o e _=>?_,I.base.tups,I.base.frzs,I.base.tbls⟩,ok,y,q⟩
 ·exact (G b o e o (I.base.keep b o e n hb fun z=>nomatch z)).1 (nL b o e hb)
 ·obtain ⟨sl,e1⟩:=I.base.slot b o e n hb fun z=>nomatch z
  obtain ⟨sl2,e2⟩:=(G b o e _ e1).2 (wI _ hb)
  exact ⟨sl2,e2⟩
 ·obtain ⟨o1,e1⟩:=I.base.there b o e fun z=>nomatch z
  by_cases m:b∈frs (envOfC qual scope s.heap.objs.size f cd::outer)
  ·obtain ⟨sl2,e2⟩:=(G b o e _ e1).2 m
   exact ⟨_,e2⟩
  ·exact ⟨_,(G b o e _ e1).1 m⟩
theorem qOD:qAy (CXA P w) (qD8 (CXA P w) P w K mg base N qual scope f cd A outer s H E) E:=fun pins σ H1 s1 e s2 I h=>by
 obtain ⟨a,cls,H2,xs,rfl,os,bare,un,hok,x,q⟩:=h
 obtain ⟨hh,gg,dd,tt,os2⟩:=s2
 obtain rfl:os2=s1.os:=os
 exact fly (I.call (h':=hh) (g':=gg) (d':=dd) (t':=tt) (ch:=[]) un hok bare fun b z=>nomatch z) (x.far fun b o e=>I.base.there b o e fun z=>nomatch z) (.inr rfl) q
end
noncomputable def bmV:List Value:=[.type "ValueError",.type "Exception",.type "BaseException",.type "object"]
structure qMr (K:wD) (C:Addr):Prop where
 ex:∃ bm N nm q bs hdct sn sub ab col dd k0 k1 k2 k3 k5,K.lookup C=some (excClassObj nm q C N bs bm hdct sn sub ab col dd k0 k1 k2 k3 k5 "ValueError.__new__")/\PySem.W.nsOkIn K N=true/\uV K N "__init__" = some none/\PySem.W.tailIn K bmV bm=true
noncomputable def qIB (ta:TA) (φ:Hp->Prop):TS:=fun _ σ H=>ta σ H fun vs H1=>vs.length<=1000/\φ H1
section
variable {X:Cx}
theorem qIx {pins:List (Addr×Obj)} {σ:St} {H:Hp} {s:Shared} {h':Heap} {e:Addr} {cls:Value} {us:List Value} (hx:X.ex=[]) (I:Inv X pins σ H s) (m:Heap.MadeExcOf s.heap h' e cls us):Inv X pins σ H { s with heap:=h' }/\ExcAt X.s₀.heap h' H e cls none [e]:=by
 obtain ⟨t,he,_,_⟩:=m.there
 refine ⟨I.kept m.keeps,.head _,fun b hb=>?_,_,_,he,rfl,rfl,rfl,rfl⟩
 rw [wY.mp hb]
 constructor
 ·cases q:X.s₀.heap.get? e with
  | none=>rfl
  | some o=>
   obtain ⟨o',q'⟩:=I.base.there e o q (by rw [hx]; exact fun z=>nomatch z)
   rw [m.new] at q'
   cases q'
 ·cases q:H e with
  | none=>rfl
  | some o=>
   obtain ⟨o',q'⟩:=(I.hok e o q).there
   rw [m.new] at q'
   cases q'
theorem qG7 {x:Str} {C:Addr} {a:Expr} {ta:TA} {φ:Hp->Prop} {np cpos pos:Pos} (hC:qMr X.K C) (hm:X.mg x=some (.ref C)) (hg:Gl X x) (hc:X.calm=true) (hx:X.ex=[]) (ha:PA X [a] ta)
  (hf:∀ pins σ H s e xs,Inv X pins σ H s->ExcAt X.s₀.heap s.heap H e (.ref C) none xs->φ H->X.xe (.ref e) s) (hd:(x == ("__debug__" : Str))=false:=by decide)
  (hs:starEach [a] X.env=(false,eval a X.env)::starEach [] X.env:=by rfl):PS X (.Raise (some (.Call (.Name x np) [a] [] cpos)) none pos) (qIB ta φ):=by
 intro pins s σ H D I h
 obtain ⟨bm,N,nm,q,bs,hdct,sn,sub,ab,col,dd,k0,k1,k2,k3,k5,hl,hn,hi,ht⟩:=hC.ex
 have tl:∀{h:Heap},X.K.In h->OwnTail h bmV bm:=fun k=>PySem.W.tail_of_in k ht
 refine' wpAny_Raise_call_subT (C:=C) (bm:=bm) (N:=N) PySem.F.excBase_ValueError ((tl I.kIn).hasType rfl) (I.ok.hd hc) ?_ (PySem.W.nsMap_none_of_in I.mod.kin hn hi) (YQ I hg hm ⟨rfl,?run⟩ hd)
 all_goals try (rw [hs]; rfl)
 case run=>
  have run:=ha cpos pins s σ H _ I h
  rw [hs] at run ⊢
  refine WJ (thn run fun us s1 r=>?_)
  obtain ⟨vs,H1,I1,rv,few,p⟩:=r
  refine ⟨rfl,?_,I1.kIn _ _ hl,?_,tl I1.kIn,fun h' e m=>?_⟩
  ·rw [<- rv.length]
   exact xU (qP few)
  ·exact Heap.Ns.keeps (.of_isNs (PySem.W.isNs_of_in I.mod.kin hn)) I1.bk
  ·obtain ⟨I2,x2⟩:=qIx hx I1 m
   exact hf _ _ _ _ _ _ I2 x2 p
end
noncomputable abbrev Cx.inner (X:Cx) (pn:List (Addr×Obj)) (E:Value->Shared->Prop):Cx:={ X with pn:=pn,xe:=E }
noncomputable abbrev Cx.caught (X:Cx) (a:Addr) (pn:List (Addr×Obj)):Cx:={ X with A:=X.A.mark (some (.ref a)),calm:=false,pn:=pn,xe:=fun _ _=>False }
section
variable {X:Cx} {pins:List (Addr×Obj)} {σ:St} {H H1 H2:Hp} {s s1 s':Shared}
theorem Inv.inner (I:Inv X pins σ H s) (E:Value->Shared->Prop):Inv (X.inner (X.pn++pins) E) [] σ H s:=by
 have ok:=I.ok
 exact ⟨⟨ok.mod,ok.kind,ok.glob,ok.blt,ok.above,ok.inj,ok.has,ok.cab,ok.hd,ok.frames,ok.stk,ok.exf,ok.bs,ok.bsz,ok.noex,ok.exfs,ok.funs,ok.frf⟩,I.os,I.bare,I.base,I.loc,I.cell,I.free,I.freeC,fun p hp=>I.pin p (by rw [zI] at hp; exact hp),I.hok,I.len⟩
theorem Inv.outer {E:Value->Shared->Prop} {ps:List (Addr×Obj)} (I:Inv (X.inner (X.pn++pins) E) ps σ H s):Inv X pins σ H s:=by
 have ok:=I.ok
 exact ⟨⟨ok.mod,ok.kind,ok.glob,ok.blt,ok.above,ok.inj,ok.has,ok.cab,ok.hd,ok.frames,ok.stk,ok.exf,ok.bs,ok.bsz,ok.noex,ok.exfs,ok.funs,ok.frf⟩,I.os,I.bare,I.base,I.loc,I.cell,I.free,I.freeC,fun p hp=>I.pin p (zT _ hp),I.hok,I.len⟩
theorem Inv.caught {a:Addr} {oe:Obj} (I:Inv X pins σ H s) (hp:s.heap.get? a=some oe/\H a=none/\a≠X.env.locals/\a∉X.fs/\∀ v,oe.data≠.cell v):Inv (X.caught a ((a,oe)::(X.pn++pins))) [] σ H s:=by
 have ok:=I.ok
 refine ⟨⟨ok.mod,ok.kind,ok.glob,ok.blt,ok.above,ok.inj,ok.has,ok.cab,fun z=>Bool.noConfusion z,ok.frames,ok.stk,ok.exf,ok.bs,ok.bsz,ok.noex,ok.exfs,ok.funs,ok.frf⟩,I.os,I.bare,I.base,I.loc,I.cell,I.free,I.freeC,fun p hp'=>?_,I.hok,I.len⟩
 rw [zI] at hp'
 rcases wX.mp hp' with rfl | hp'
 ·exact hp
 ·exact I.pin p hp'
theorem Inv.uncaught {a:Addr} {oe:Obj} {ps:List (Addr×Obj)} (hd:X.calm=true->X.A.handled=none) (I:Inv (X.caught a ((a,oe)::(X.pn++pins))) ps σ H s):Inv X pins σ H s:=by
 have ok:=I.ok
 exact ⟨⟨ok.mod,ok.kind,ok.glob,ok.blt,ok.above,ok.inj,ok.has,ok.cab,hd,ok.frames,ok.stk,ok.exf,ok.bs,ok.bsz,ok.noex,ok.exfs,ok.funs,ok.frf⟩,I.os,I.bare,I.base,I.loc,I.cell,I.free,I.freeC,fun p hp=>I.pin p (zT _ (wI _ hp)),I.hok,I.len⟩
structure qFp (X:Cx) (H1 H2:Hp) (s1:Shared) (a:Addr) (cls fl:Value) (s':Shared):Prop where
 os:s'.os=s1.os
 bare:AllBare s'.gens
 un:Un (frs X.stack) [] H1 H2 s1.heap s'.heap
 hok:HOk X.prog X.w H2 s'.heap
 exc:∃ xs,ExcAt s1.heap s'.heap H2 a cls (some fl) xs
theorem qFp.inv {a:Addr} {cls fl:Value} (h:qFp X H1 H2 s1 a cls fl s') (I:Inv X pins σ H1 s1):Inv X pins σ H2 s':=I.call' h.os h.un h.hok h.bare fun b z=>nomatch z
theorem qFp.step {a:Addr} {cls fl fl':Value} {xs:List Addr} {h':Heap} (h:qFp X H1 H2 s1 a cls fl s') (x:ExcAt s1.heap s'.heap H2 a cls (some fl) xs) (G:qJn s'.heap h' X.stack xs) (ok:HOk X.prog X.w H2 h') (y:∃ ys,ExcAt s1.heap h' H2 a cls (some fl') ys):qFp X H1 H2 s1 a cls fl' { s' with heap:=h' }:=by
 have nx:∀ b o,s1.heap.get? b=some o->b∉xs:=fun b o e m=>by
  rw [(x.own b m).1] at e
  cases e
 refine ⟨h.os,h.bare,⟨fun b o e n hb he=>?_,fun b o e n hb he=>?_,h.un.free,fun b o e he=>?_,h.un.tups,h.un.frzs,h.un.tbls⟩,ok,y⟩
 ·exact G.keep b o (h.un.keep b o e n hb he) hb (nx b o e)
 ·obtain ⟨sl,e1⟩:=h.un.slot b o e n hb he
  obtain ⟨sl2,e2⟩:=G.slot b _ e1 hb
  exact ⟨sl2,e2⟩
 ·obtain ⟨o1,e1⟩:=h.un.there b o e he
  by_cases m:b∈frs X.stack
  ·obtain ⟨sl2,e2⟩:=G.slot b _ e1 m
   exact ⟨_,e2⟩
  ·exact ⟨_,G.keep b _ e1 m (nx b o e)⟩
theorem qFp.there {a:Addr} {cls fl:Value} (h:qFp X H1 H2 s1 a cls fl s'):∃ oe vs,s'.heap.get? a=some oe/\(oe.cls=cls/\oe.dict=none/\gY oe=true)/\oe.data=.fields vs/\H2 a=none:=by
 obtain ⟨xs,x⟩:=h.exc
 obtain ⟨oe,vs,he,hc,hi,hd,_⟩:=x.obj
 exact ⟨oe,vs,he,⟨hc,hi,by unfold gY; rw [hd]⟩,hd,(x.own a x.me).2⟩
theorem qFp.land {A:Around} {E:Value->Shared->Prop} {a:Addr} {cls fl:Value} {Q:Unit->Shared->Prop} (h:qFp X H1 H2 s1 a cls fl s') (I:Inv X pins σ H1 s1) (k:∀ s2,qFp X H1 H2 s1 a cls .none s2->Q () s2):wpAny (model X.prog X.w) A (setFlight (.ref a) none) Q E s':=by
 obtain ⟨xs,x⟩:=h.exc
 have J:=h.inv I
 exact landed (P:=X.prog) (w:=X.w) J.stack h.hok J.stkFree x fun h' G ok y=>k _ (h.step x G ok y)
end
theorem Inv.unname {h8:Heap} {m8:Str->Option Value} {t:Nat} {X:Cx} {pins:List (Addr×Obj)} {σ:St} {H:Hp} {s:Shared} (I:Inv X pins σ H s) (n8:h8.Ns X.env.locals m8) (sb:kG X.env.locals s.heap h8):Inv X pins (wO X.N.length none) H { s with heap:=h8,toks:=t }:=by
 have same:∀ b,b≠X.env.locals->h8.get? b=s.heap.get? b:=sb.2
 have ne:∀ b o,X.s₀.heap.get? b=some o->b≠X.env.locals:=fun b o e=>zZ (zS (wZ e) I.ok.above)
 have tr:∀ b o,H b=some o->b≠X.env.locals:=fun b o e=>qr e I.free
 refine ⟨I.ok,I.os,I.bare,⟨fun b o e n hb hx=>(same b (ne b o e)).trans (I.base.keep b o e n hb hx),fun b o e n hb hx=>?_,I.base.free,fun b o e hx=>?_,I.base.tups,I.base.frzs,I.base.tbls⟩,⟨m8,n8,fun i x v h1 h2 h3=>?_⟩,fun x c e=>?_,I.free,I.freeC,fun p hp=>?_,fun a o e=>(I.hok a o e).stay (fun b u m q=>?_) (fun _ z=>z) fun _ _ z=>z,?_⟩
 ·obtain ⟨sl,q⟩:=I.base.slot b o e n hb hx
  exact ⟨sl,(same b (ne b o e)).trans q⟩
 ·obtain ⟨o1,q⟩:=I.base.there b o e hx
  exact ⟨o1,(same b (ne b o e)).trans q⟩
 ·rw [vN] at h2
  split at h2 <;> cases h2
 ·obtain ⟨v,o,ho,hd⟩:=I.cell x c e
  exact ⟨v,o,(same c (I.cne x c e)).trans ho,hd⟩
 ·obtain ⟨q,n,nl,nf,d⟩:=I.pin p hp
  exact ⟨(same p.1 nl).trans q,n,nl,nf,d⟩
 ·refine (same b ?_).trans q
  rcases m with rfl | m
  ·exact tr _ _ e
  ·exact tr _ _ m
 ·rw [zG]
end L2
namespace L2
open PySem
section
variable {prog:Program} {w:World} {A:Around} {E:Value->Shared->Prop} {s:Shared} {a C:Addr} {o:Obj} {K:wD}
theorem qDu {M:Model} {id owner n:String} {rest:List Value} {Q:Unit->Shared->Prop} (X:K.In s.heap) (J:gW s.heap a o C none) (k:builtinKind id=some .slot) (sp:splitId id=some (owner,n)) (m:kC K C (.type owner)=some true)
  (ha:argsOk id ⟨.ref a::rest,[]⟩) (q:Q () s):wpAny M A (checkBuiltinCall id ⟨.ref a::rest,[]⟩) Q E s:=by
 have T:PySem.W.Looks M s.heap (isInstance (.ref a) (.type owner)) true:=J.type.andThen (PySem.W.looks_mroIn X m)
 unfold checkBuiltinCall
 rw [k,sp]
 refine wC (T.at ?_)
 repeat wp_step
 cases z:Manifest.signature? id with
 | none=>exact wK q
 | some sg=>
  unfold argsOk at ha
  rw [z] at ha
  show wpAny M A (Bind.checkArgs id sg ⟨.ref a::rest,[]⟩) Q E s
  rw [show Bind.checkArgs id sg ⟨.ref a::rest,[]⟩=pure () from ha]
  exact wK q
theorem qBd {tk:Tok} {Q:Fin->Shared->Prop} (X:K.In s.heap) (J:gW s.heap a o C none) (hf:UM K C none "__class__" = some (.bind (.builtin "getset_descriptor.__get__") (.builtin "object.__class__"))) (m:kC K C (.type "object")=some true) (q:Q (.done (.ret (.ref C))) s) :
  wpAny (model prog w) A (Builtin.«object.__getattribute__» ⟨[.ref a,.str "__class__" tk],[]⟩) Q E s:=by
 have Lf:=PySem.W.looks_find (M:=model prog w) X J hf
 refine wC (show wpAny (model prog w) A (pure (zW a,[WQ "__class__" tk])) _ _ _ from wK (wC (wK (wC (J.type.at (wC (Lf.at ?_)))))))
 exact wC (vR (UW (PySem.W.class_get X J m (wK q))))
theorem qE1:builtinKind "BaseException.__getattribute__" = some .slot/\splitId "BaseException.__getattribute__" = some ("BaseException","__getattribute__"):=⟨by decide +kernel,by decide +kernel⟩
theorem qHO {Q:Option Value->Shared->Prop} (X:K.In s.heap) (J:gW s.heap a o C none)
  (hga:xX K (.ref C) "__getattribute__" = some (some (.builtin "BaseException.__getattribute__"))) (hgn:xX K (.ref C) "__getattr__" = some none)
  (hf:UM K C none "__class__" = some (.bind (.builtin "getset_descriptor.__get__") (.builtin "object.__class__"))) (m:kC K C (.type "object")=some true) (mb:kC K C (.type "BaseException")=some true) (q:Q (some (.ref C)) { s with toks:=s.toks+1 }) :
  wpAny (model prog w) A (getAttr? (.ref a) "__class__") Q E s:=by
 have Lg:=PySem.W.looks_findIn (M:=model prog w) X hga
 have Ln:=PySem.W.looks_findIn (M:=model prog w) X hgn
 refine wC (wpAny_mkText (wC (gL (vR (wC (J.type.at (wC (Lg.at ?_))))))))
 show wpAny (model prog w) _ (getAttrByItsOwn _ _ _ _ _ _) _ _ _
 unfold getAttrByItsOwn hookBefore
 refine wC (Ln.at (wC (gL (vR ?_))))
 show wpAny (model prog w) _ (boundAndCalled _ _ _) _ _ _
 unfold boundAndCalled
 rw [F.excAttr_ValueError.ga.bind]
 refine wC (wK (UW ?_))
 have Y:K.In ({ s with toks:=s.toks+1 }:Shared).heap:=X
 have I:gW ({ s with toks:=s.toks+1 }:Shared).heap a o C none:=J
 refine codeAny_call_builtin F.excAttr_ValueError.ga.plain F.entry_bexc_ga ?_
 refine qDu (s:={ s with toks:=s.toks+1 }) (id:="BaseException.__getattribute__") (owner:="BaseException") (n:="__getattribute__") Y I qE1.1 qE1.2 mb (F.args_bexc_ga _ _) ?_
 refine qBd (s:={ s with toks:=s.toks+1 }) Y I hf m ?_
 exact PySem.W.handed_on rfl (wK q)
end
end L2
namespace L2
open PySem PySem.Spec PyProof.Rows
structure qM7 (K:wD) (C:Addr):Prop where
 cls:∃ cd,WV K C=some cd
 get:xX K (.ref C) "__getattribute__" = some (some (.builtin "BaseException.__getattribute__"))
 gno:xX K (.ref C) "__getattr__" = some none
 fnd:xX K (.ref C) "__class__" = some (some (.builtin "object.__class__"))
 spc:VF K (.builtin "object.__class__") "__get__" = some (some (.builtin "getset_descriptor.__get__"))
 tak:UG K (.builtin "object.__class__")=some true
 mro:kC K C (.type "object")=some true
 mrb:kC K C (.type "BaseException")=some true
theorem qHg {h:Heap} {a C:Addr} {oe:Obj} (q:h.get? a=some oe) (c:oe.cls=.ref C/\oe.dict=none/\gY oe=true):gW h a oe C none:=⟨q,c.1,c.2.2,by rw [c.2.1]; trivial⟩
theorem qFH {K:wD} {C:Addr} {cd:ClassData} (e:WV K C=some cd):∃ c d l,K.lookup C=some ⟨c,d,.cls cd,l⟩:=by
 unfold WV at e
 split at e
 ·next q=>
  cases e
  exact ⟨_,_,_,q⟩
 ·cases e
theorem qHX {K:wD} {a C:Addr} {oe:Obj} (x:qM7 K C) (c:oe.cls=.ref C/\oe.dict=none/\gY oe=true):PySem.W.KitX K (.ref a) (.ref C) (fun h=>h.get? a=some oe):=by
 obtain ⟨cd,hc⟩:=x.cls
 obtain ⟨_,_,_,ho⟩:=qFH hc
 refine ⟨fun M h X q=>(qHg q c).type,fun M h X q A Q E s k p=>?_,fun h tp dd its n sl X q=>ZG.mpr fun z=>?_,fun {prog w A E Q s} X q p=>?_⟩
 ·unfold isType loadHead
  exact wC (wpAny_loadPart (k _ _ (X _ _ ho)) (wK p))
 ·have e:C=tp:=Value.ref.inj (beq_iff_eq.mp z)
  rw [<- e,X _ _ ho] at q
  cases q
 ·refine qHO X (qHg q c) x.get x.gno ?_ x.mro x.mrb p
  unfold UM
  simp only [hc,x.fnd,x.spc,x.tak,VU]
noncomputable def clV:V->Option Value
 | .ref C=>some (.ref C)
 | .ty T=>some (.type T)
 | _=>none
theorem qH2 {c:V} {v u:Value} (e:clV c=some v) (r:RelV c u):u=v:=by
 cases c <;> cases e <;> exact r
noncomputable def qL1:List V->Option (List Value)
 | []=>some []
 | c::r=>(clV c).bind fun v=>(qL1 r).map (v :: ·)
theorem qFU:∀{cs:List V} {vs us:List Value},qL1 cs=some vs->qh cs us->us=vs
 | [],vs,us,e,r=>by
  cases r
  cases e
  rfl
 | c::cs,vs,us,e,r=>by
  cases r with
  | cons r1 r2=>
   unfold qL1 at e
   obtain ⟨v,e1,e2⟩:=Option.bind_eq_some_iff.mp e
   obtain ⟨l,e3,rfl⟩:=xH.mp e2
   rw [qH2 e1 r1,qFU e3 r2]
noncomputable def qOB (K:wD) (a:Addr) (cls:Value):List V->Hp->VK->Prop:=fun xs H Q=>∃ C,cls=.ref C/\qM7 K C/\((∃ c v b,xs=[.ref a,c]/\clV c=some v/\vQ K cls v=some b/\Q (.bl b) H)\/∃ p cs vs b,xs=[.ref a,.ref p]/\H p=some (.tup cs)/\qL1 cs=some vs/\TL K cls vs=some b/\Q (.bl b) H)
section
variable {X:Cx}
theorem qAb {K:wD} {a:Addr} {oe:Obj} {cls:Value} (hK:X.K=K) (hp:(a,oe)∈X.pn) (c:oe.cls=cls/\oe.dict=none/\gY oe=true):j5 X (.builtin "isinstance") (qOB K a cls):=by
 intro pins s σ H xs us Q I r h
 subst hK
 obtain ⟨C,rfl,xi,h⟩:=h
 have q:s.heap.get? a=some oe:=(I.pin (a,oe) (zT _ hp)).1
 have Z:=qHX (a:=a) xi c
 rcases h with ⟨k,v,b,rfl,e,kb,z⟩ | ⟨p,cs,vs,b,rfl,hq,e,kb,z⟩
 ·obtain ⟨u1,u2,rfl,r1,r2⟩:=vals2 r
  cases r1
  rw [qH2 e r2]
  exact vS Z I.kIn q kb (fun y=>nomatch y) fun tk=>⟨.bl b,H,I.tok _,rfl,z⟩
 ·obtain ⟨u1,u2,rfl,r1,r2⟩:=vals2 r
  cases r1
  cases r2
  obtain ⟨its,rv,tp,_⟩:=I.tuple (SqT.of (K:=X.K) hq)
  obtain ⟨⟨oc,od,odt,osl⟩,ho,hc,n,hd⟩:=tp
  cases (show oc=.type "tuple" from hc)
  cases (show odt=.seq its.toArray n from hd)
  rw [<- qFU e rv] at kb
  exact PySem.W.kia_tup Z I.kIn q ho kb (fun y=>nomatch y) fun tk=>⟨.bl b,H,I.tok _,rfl,z⟩
theorem qAd {x:Str} {C:Addr} {pos:Pos} (hg:Gl X x) (hm:X.mg x=some (.ref C)) (hd:(x == ("__debug__" : Str))=false:=by decide):PE X (.Name x pos) (tC (.ref C)):=by
 intro pins s σ H Q I h
 exact YQ I hg hm ⟨.ref C,H,I,rfl,h⟩ hd
end
theorem Inv.forget {h8:Heap} {m7:Str->Option Value} {v:Option Value} {t:Nat} {X:Cx} {pins:List (Addr×Obj)} {σ:St} {H:Hp} {s:Shared} {i:Nat} {n:Str} (I:Inv X pins σ H s) (hN:X.N.Nodup) (hi:X.N[i]? = some n) (hm:s.heap.Ns X.env.locals m7) (hv:∀(i:Nat) (x:Str) (v:V),X.N[i]? = some x->σ[i]? = some (some v)->Vis X.env.scope x->∃ u,RelV v u/\Look X.env s.heap m7 x u)
  (n8:h8.Ns X.env.locals (fun x=>if x=n then v else m7 x)) (sb:kG X.env.locals s.heap h8):Inv X pins (σ.set i none) H { s with heap:=h8,toks:=t }:=by
 have same:∀ b,b≠X.env.locals->h8.get? b=s.heap.get? b:=sb.2
 have ne:∀ b o,X.s₀.heap.get? b=some o->b≠X.env.locals:=fun b o e=>zZ (zS (wZ e) I.ok.above)
 have tr:∀ b o,H b=some o->b≠X.env.locals:=fun b o e=>qr e I.free
 refine ⟨I.ok,I.os,I.bare,⟨fun b o e n hb hx=>(same b (ne b o e)).trans (I.base.keep b o e n hb hx),fun b o e n hb hx=>?_,I.base.free,fun b o e hx=>?_,I.base.tups,I.base.frzs,I.base.tbls⟩,⟨_,n8,fun j x w h1 h2 h3=>?_⟩,fun x c e=>?_,I.free,I.freeC,fun p hp=>?_,fun a o e=>(I.hok a o e).stay (fun b u m q=>?_) (fun _ z=>z) fun _ _ z=>z,?_⟩
 ·obtain ⟨sl,q⟩:=I.base.slot b o e n hb hx
  exact ⟨sl,(same b (ne b o e)).trans q⟩
 ·obtain ⟨o1,q⟩:=I.base.there b o e hx
  exact ⟨o1,(same b (ne b o e)).trans q⟩
 ·have ji:i≠j:=fun z=>by
   subst z
   rw [List.getElem?_set_self'] at h2
   cases hq:σ[i]? <;> rw [hq] at h2 <;> cases h2
  rw [uT ji] at h2
  obtain ⟨u,r,l⟩:=hv j x w h1 h2 h3
  refine ⟨u,r,l.imp (fun ⟨k,e⟩=>⟨k,?_⟩) fun ⟨k,c,e1,e2⟩=>⟨k,c,e1,?_⟩⟩
  ·have xn:x≠n:=fun z=>by
    subst z
    exact ji ((List.getElem?_inj (wM.mp hi).1 hN).mp (hi.trans h1.symm))
   show (if x=n then v else m7 x)=some u
   rw [if_neg xn]
   exact e
  ·obtain ⟨o,ho,hd⟩:=e2
   exact ⟨o,(same c (I.cne x c e1)).trans ho,hd⟩
 ·obtain ⟨v,o,ho,hd⟩:=I.cell x c e
  exact ⟨v,o,(same c (I.cne x c e)).trans ho,hd⟩
 ·obtain ⟨q,n,nl,nf,d⟩:=I.pin p hp
  exact ⟨(same p.1 nl).trans q,n,nl,nf,d⟩
 ·refine (same b ?_).trans q
  rcases m with rfl | m
  ·exact tr _ _ e
  ·exact tr _ _ m
 ·rw [vC]
  exact I.len
noncomputable def qJH (K:wD) (n i:Nat) (Ch:Addr) (tb:XK->TS) (ts:Value->Addr->TS):TS:=fun D σ H=>tb (fun cls _ H'=>WM K cls (.ref Ch)=some true/\∀(σ':St) (a:Addr),H' a=none->σ'.length=n->ts cls a { nx:=fun σ2 H2=>D.nx (σ2.set i none) H2,rt:=D.rt } (σ'.set i (some (.ref a))) H') D σ H
section
variable {X:Cx}
theorem qE7 {i:Nat} {n c:Str} {Ch:Addr} {body suite:List Stmt} {b0:Stmt} {tb:XK->TS} {ts:Value->Addr->TS} {cp hp pos:Pos} (hstk:X.stack=X.env::X.outer) (hfrm:X.env.frame=some X.env.locals) (hN:X.N.Nodup) (hi:X.N[i]? = some n) (hl:X.env.scope.names.lookup n=some .local)
  (hg:Gl X c) (hm:X.mg c=some (.ref Ch)) (hb:∀ pn E' E,qAy (CXA X.prog X.w) (X.inner pn E') E->PSs (X.inner pn E') body (tb E)) (hs:∀ cls a oe pn,(a,oe)∈pn->(oe.cls=cls/\oe.dict=none/\gY oe=true)->PSs (X.caught a pn) (b0::suite) (ts cls a)) (hd:(c == ("__debug__" : Str))=false:=by decide) :
  PS X (.Try body [.ExceptHandler (some (.Name c cp)) (some n) (b0::suite) hp] [] [] pos) (qJH X.K X.N.length i Ch tb ts):=by
 intro pins s σ H D I h
 refine wpAny_Try_except ?_
 refine xB (hb (X.pn++pins) (fun e s1=>wpAny (model X.prog X.w) X.A (noteFrame e X.env) (fun _ s2=>wpAny (model X.prog X.w) X.A (setFlight e none) (fun _ s3=>wpAny (model X.prog X.w) X.A (handleBy e X.env [.ExceptHandler (some (.Name c cp)) (some n) (b0::suite) hp]) (SP X pins D) X.xe s3) X.xe s2) X.xe s1) _ ?pass [] s σ H D (I.inner _) h) (fun f s1 q=>?flow) (fun e s1 q=>q)
 case flow=>
  cases f with
  | next=>
   obtain ⟨σ',H',J,z⟩:=q
   exact wK ⟨σ',H',J.outer,z⟩
  | brk=>obtain ⟨σ',H',J,z⟩:=q; exact ⟨σ',H',J.outer,z⟩
  | cont=>obtain ⟨σ',H',J,z⟩:=q; exact ⟨σ',H',J.outer,z⟩
  | ret u=>obtain ⟨v,σ',H',J,r,z⟩:=q; exact ⟨v,σ',H',J.outer,r,z⟩
 case pass=>
  intro ps σ1 H1 s1 e s2 J1 hx
  obtain ⟨a,cls,H2,xs,rfl,os,bare,un,hok,x,em,run⟩:=hx
  have I1:Inv X pins σ1 H1 s1:=J1.outer
  have hf:X.A.frames=some (X.env::X.outer):=by rw [<- hstk]; exact I1.ok.frames
  have h0:qFp X H1 H2 s1 a cls .none s2:=⟨os,bare,un,hok,xs,x⟩
  have K0:=h0.inv I1
  have st:=K0.stack
  have sf:=K0.stkFree
  rw [hstk] at st sf
  refine qLS (P:=X.prog) (w:=X.w) hf hfrm st hok sf (fun b o e=>un.there b o e fun z=>nomatch z) x (.inr rfl) fun h3 G3 ok3 y3=>?_
  rw [<- hstk] at G3
  have q3:=h0.step x G3 ok3 y3
  refine q3.land I1 fun s4 q4=>?_
  have I4:=q4.inv I1
  obtain ⟨oe,vs,he,hc,hdt,hn⟩:=q4.there
  have pinned:∀{s5:Shared} {oe:Obj} {vs:Array Value},Inv X pins σ1 H2 s5->s5.heap.get? a=some oe->oe.data=.fields vs->s5.heap.get? a=some oe/\H2 a=none/\a≠X.env.locals/\a∉X.fs/\∀ v,oe.data≠.cell v:=fun {s5 oe vs} I5 he hd=>by
   refine ⟨he,hn,fun z=>?_,fun z=>?_,fun v z=>by rw [hd] at z; cases z⟩
   ·obtain ⟨m,⟨o,es,ep,ho,hod,_⟩,_⟩:=I5.loc
    rw [<- z,he] at ho
    cases ho
    rw [hd] at hod
    cases hod
   ·obtain ⟨_,o,ho,nf⟩:=I5.funs.mem z
    rw [he] at ho
    cases ho
    exact nf vs hd
  refine wpAny_handleBy_cons (codeAny_handlers_test ?_) (fun z=>nomatch z)
  have I4c:=I4.caught (pinned I4 he hdt)
  refine YQ I4c hg hm ?_ hd
  have lt:PySem.W.Looks (model X.prog X.w) s4.heap (typeOf (.ref a)) cls:=by
   obtain ⟨rfl,_⟩:=hc
   exact (PySem.W.Looks.ld he).andThen .now
  refine PySem.W.exm_one I4.kIn lt em _ _ _ s4 (fun _ _ z=>z) ?_
  refine codeAny_handlers_suite_as (q4.land I1 fun s5 q5=>?_)
  obtain ⟨oe5,vs5,he5,hc5,hd5,_⟩:=q5.there
  have I5:=q5.inv I1
  refine Ji (X:=X.caught a ((a,oe5)::(X.pn++pins))) (I5.caught (pinned I5 he5 hd5)) hN hi (.inl hl) (show RelV (.ref a) (.ref a) from rfl) (fun s6 J6=>?_) (.inr hl)
  refine xB (hs cls a oe5 _ (.head _) hc5 [] s6 _ H2 _ J6 (run σ1 a hn I5.len)) (fun f s7 z=>?_) (fun _ _ z=>kH z)
  cases f with
  | next=>
   obtain ⟨σ7,H7,J7,z⟩:=z
   have I7:Inv X pins σ7 H7 s7:=J7.uncaught I.ok.hd
   obtain ⟨m7,hm7,hv7⟩:=I7.loc
   exact wpAny_nameGoes_keeps hl hm7 (by rw [I7.ok.kind]; rfl) fun h8 v n8 sb=>⟨_,H7,I7.forget hN hi hm7 hv7 n8 sb,z⟩
  | brk=>obtain ⟨_,_,_,z⟩:=z; exact z.elim
  | cont=>obtain ⟨_,_,_,z⟩:=z; exact z.elim
  | ret u=>
   obtain ⟨v,σ7,H7,J7,r7,z⟩:=z
   have I7:Inv X pins σ7 H7 s7:=J7.uncaught I.ok.hd
   obtain ⟨m7,hm7,_⟩:=I7.loc
   exact wpAny_nameGoes hl hm7 (by rw [I7.ok.kind]; rfl) fun h8 m8 n8 sb=>⟨v,_,H7,I7.unname n8 sb,r7,z⟩
end
end L2
namespace LSo
open PySem PySem.W PyProof.Rows
theorem YT:∀ a:List Int,HT.lexLt a a=false
 | []=>rfl
 | x::a=>by rw [HT.lexLt_cons,if_pos rfl]; exact YT a
theorem lex_trans:∀ a b c:List Int,HT.lexLt a b=true->HT.lexLt b c=true->HT.lexLt a c=true
 | [],b,[],h1,h2=>by cases b <;> cases h2
 | [],_,_::_,_,_=>rfl
 | _::_,[],_,h1,_=>by cases h1
 | _::_,_::_,[],_,h2=>by cases h2
 | x::a,y::b,z::c,h1,h2=>by
  rw [HT.lexLt_cons] at h1 h2 ⊢
  by_cases e1:x=y
  ·rw [if_pos e1] at h1
   by_cases e2:y=z
   ·rw [if_pos e2] at h2
    rw [if_pos (e1.trans e2)]
    exact lex_trans a b c h1 h2
   ·rw [if_neg e2] at h2
    rw [if_neg (fun z'=>e2 (e1.symm.trans z'))]
    have:=of_decide_eq_true h2
    refine decide_eq_true ?_
    omega
  ·rw [if_neg e1] at h1
   have h1':=of_decide_eq_true h1
   by_cases e2:y=z
   ·rw [if_neg (by omega)]
    refine decide_eq_true ?_
    omega
   ·rw [if_neg e2] at h2
    have:=of_decide_eq_true h2
    rw [if_neg (by omega)]
    refine decide_eq_true ?_
    omega
theorem qAn:∀ a b:List Int,HT.lexLt a b=false->HT.lexLt b a=false->a=b
 | [],[],_,_=>rfl
 | [],_::_,hq,_=>by cases hq
 | _::_,[],_,hq=>by cases hq
 | x::a,y::b,h1,h2=>by
  rw [HT.lexLt_cons] at h1 h2
  by_cases e:x=y
  ·rw [if_pos e] at h1
   rw [if_pos e.symm] at h2
   rw [e,qAn a b h1 h2]
  ·rw [if_neg e] at h1
   rw [if_neg (fun z=>e z.symm)] at h2
   have a1:=of_decide_eq_false h1
   have a2:=of_decide_eq_false h2
   omega
theorem qEl (a b c:List Int) (h:HT.lexLt a c=true):HT.lexLt a b=true\/HT.lexLt b c=true:=by
 cases h1:HT.lexLt a b with
 | true=>exact .inl rfl
 | false=>
  right
  cases h2:HT.lexLt b a with
  | true=>exact lex_trans _ _ _ h2 h
  | false=>rw [<- qAn a b h1 h2]; exact h
noncomputable def qNi:KeyOrd:=⟨List Int,HT.lexLt,YT,lex_trans,qEl,qAn⟩
section
variable {O:KeyOrd} {key:Nat->O.α} {N:Nat} {cmp:Nat->Nat->(Bool->Shared->Prop)->Shared->Prop} {s:Shared}
noncomputable def qOA (key:Nat->O.α) (N:Nat) (cmp:Nat->Nat->(Bool->Shared->Prop)->Shared->Prop) (s:Shared):Prop:=∀ i j C,i<N->j<N->C (O.blt (key i) (key j)) s->cmp i j C s
structure Pm (N:Nat) (p:Array Nat):Prop where
 pm:p.Perm (VJ (zA N))
theorem Pm.size {p:Array Nat} (h:Pm N p):p.size=N:=by rw [h.pm.size_eq]; simp
end
section
variable {prog:Program} {w:World} {A:Around} {E:Value->Shared->Prop} {s:Shared} {O:KeyOrd} {key:Nat->O.α}
noncomputable def jY (h:Heap) (a:Addr) (vs:List Value):Heap:=((h.update a (fJ fun _=>(#[]:Array Value))).push (seqObj "tuple" vs.toArray 0)).push (seqObj "list" #[] 0)
noncomputable def JV (vs:List Value) (p:Array Nat):Array Value:=(p.toList.map fun i=>vs.getD i vP).toArray
theorem qFj (vs:List Value):JV vs (VJ (zA vs.length))=vs.toArray:=by
 unfold JV
 congr 1
 apply kY
 intro i
 rw [wQ]
 by_cases h:i<vs.length
 ·rw [wA h]
  simp [h]
 ·rw [vI (by simpa using h)]
  simp [h]
theorem qGX {a b:List Value} {ns ms:List Int} {fin:Bool} {Q:Bool->Shared->Prop} (hu:A.units<cLine):∀{a b:List Value} {ns ms:List Int} (i:Nat),IntsAre a ns->IntsAre b ms->(∀ ns' ms',ns'.length+ms.length=ms'.length+ns.length->(ns'=[]\/ms'=[])->HT.lexLt ns' ms'=fin)->Q (HT.lexLt ns ms) s->KatLex prog w A true fin Q (a.zip b) i s:=by
 intro a b ns ms i ha hb hf hq
 induction ha generalizing b ms i with
 | nil=>
  rw [List.zip_nil_left]
  refine kat_nil ?_
  rw [<- hf [] ms (by simp) (.inl rfl)]
  exact hq
 | @cons x t a ns ha ih=>
  cases hb with
  | nil=>
   rw [List.zip_nil_right]
   refine kat_nil ?_
   rw [<- hf (x::ns) [] (by simp) (.inr rfl)]
   exact hq
  | cons y u hb=>
   rw [List.zip_cons_cons]
   refine kat_cons ?_
   obtain ⟨e,he,hiff⟩:=HT.eqAt_int A s x t y u
   refine he prog w _ _ ?_
   rw [HT.lexLt_cons] at hq
   cases e with
   | true=>
    rw [if_pos (hiff.mp rfl)] at hq
    refine kat_yes (ih (i+1) hb (fun ns' ms' hl ho=>hf ns' ms' (by simp only [wW]; omega) ho) hq)
   | false=>
    rw [if_neg (fun q=>absurd (hiff.mpr q) wR)] at hq
    refine kat_no ?_
    by_cases hi:i=0
    ·subst hi
     exact oneLt_int hq
    ·have e:(true && i == 0)=false:=by simp [hi]
     rw [e]
     exact kat_one _ _ (HT.rcLt_int A s x t y u prog w _ _ hq)
theorem qJV {a b:List Int}:∀ ns' ms':List Int,ns'.length+b.length=ms'.length+a.length->(ns'=[]\/ms'=[])->HT.lexLt ns' ms'=decide (a.length<b.length)
 | [],[],h,_=>by
  rw [HT.lexLt_nil_nil]
  simp only [uC] at h
  exact (decide_eq_false (by omega)).symm
 | [],_::_,h,_=>by
  rw [HT.lexLt_nil_cons]
  simp only [uC,wW] at h
  exact (decide_eq_true (by omega)).symm
 | _::_,[],h,_=>by
  rw [HT.lexLt_cons_nil]
  simp only [uC,wW] at h
  exact (decide_eq_false (by omega)).symm
 | _::_,_::_,_,h=>by rcases h with h | h <;> cases h
noncomputable def Rows (h:Heap):List Value->List (List Int)->Prop
 | [],[]=>True
 | v::vs,ns::nss=>(∃ b its,v=.ref b/\IsTup h b its/\IntsAre its.toList ns/\ns≠[])/\Rows h vs nss
 | _,_=>False
theorem Rows.len:∀{h:Heap} {vs:List Value} {nss:List (List Int)},Rows h vs nss->vs.length=nss.length
 | _,[],[],_=>rfl
 | _,[],_::_,r=>r.elim
 | _,_::_,[],r=>r.elim
 | _,_::vs,_::nss,r=>by rw [wW,wW,Rows.len r.2]
theorem Rows.kept {h h':Heap} (k:∀ b o,h.get? b=some o->h'.get? b=some o):∀{vs:List Value} {nss:List (List Int)},Rows h vs nss->Rows h' vs nss
 | [],[],_=>trivial
 | [],_::_,r=>r.elim
 | _::_,[],r=>r.elim
 | _::vs,_::nss,⟨⟨b,its,e,p,q⟩,r⟩=>⟨⟨b,its,e,p.keeps k,q⟩,Rows.kept k r⟩
theorem Rows.at:∀{h:Heap} {vs:List Value} {nss:List (List Int)} {i:Nat},Rows h vs nss->i<vs.length->∃ b its,vs.getD i vP=.ref b/\IsTup h b its/\IntsAre its.toList (nss.getD i [])/\nss.getD i []≠[]
 | _,[],[],i,_,hi=>by cases hi
 | _,[],_::_,_,r,_=>r.elim
 | _,_::_,[],_,r,_=>r.elim
 | _,_::vs,_::nss,0,r,_=>r.1
 | _,_::vs,_::nss,i+1,r,hi=>Rows.at (i:=i) r.2 (by simpa using hi)
theorem Rows.firsts:∀{h:Heap} {vs:List Value} {nss:List (List Int)},Rows h vs nss->∃ fs,KatTups h vs fs/\fs.length=vs.length/\∀ v∈fs,∃ n t,v=fU n t
 | _,[],[],_=>⟨[],KatTups.nil,rfl,fun _ h=>by cases h⟩
 | _,[],_::_,r=>r.elim
 | _,_::_,[],r=>r.elim
 | _,_::vs,ns::nss,⟨⟨b,its,e,⟨o,ho,hc,n,hd⟩,q,hne⟩,r⟩=>by
  obtain ⟨fs,f1,f2,f3⟩:=Rows.firsts r
  cases hi:its.toList with
  | nil=>
   rw [hi] at q
   cases q
   exact absurd rfl hne
  | cons v rest=>
   rw [hi] at q
   cases q with
   | cons x t q=>
    have h0:its[0]? = some (fU x t):=by
     rw [<- yE,hi]
     rfl
    subst e
    refine ⟨fU x t::fs,KatTups.cons ho hc hd h0 f1,by rw [wW,wW,f2],fun v hv=>?_⟩
    rcases wX.mp hv with z | z
    ·exact ⟨x,t,z⟩
    ·exact f3 v z
theorem qFw {vs:List Value} {nss:List (List Int)} (hu:A.units<cLine) (r:Rows s.heap vs nss):qOA (O:=qNi) (fun i=>nss.getD i []) vs.length (kas_cmp prog w A (tuples' true) (pairsOf vs)) s:=by
 intro i j C hi hj hc
 obtain ⟨b1,its1,e1,⟨o1,g1,c1,n1,d1⟩,q1,_⟩:=r.at hi
 obtain ⟨b2,its2,e2,⟨o2,g2,c2,n2,d2⟩,q2,_⟩:=r.at hj
 unfold kas_cmp
 rw [kas_item_eq,kas_item_eq,e1,e2]
 refine kat_lt g1 d1 g2 d2 ?_
 have z1:its1.size=(nss.getD i []).length:=by rw [<- q1.length]; simp
 have z2:its2.size=(nss.getD j []).length:=by rw [<- q2.length]; simp
 refine qGX (a:=[]) (b:=[]) (ns:=[]) (ms:=[]) hu 0 q1 q2 (fun ns' ms' hl ho=>?_) hc
 rw [z1,z2]
 exact qJV ns' ms' hl ho
theorem qCe {h:Heap} {a:Addr} {vs:List Value} {b:Addr} {o:Obj} (hb:b≠a) (e:h.get? b=some o):(jY h a vs).get? b=some o:=by
 unfold jY
 refine wG _ (wG _ ?_)
 rw [Heap.get?_update_ne _ _ _ _ hb]
 exact e
theorem Y4 {h:Heap} {a:Addr} {vs:List Value} {out:Array Value} {b:Addr} {o:Obj} (hb:b≠a) (e:h.get? b=some o):(sortedHeap h a vs out).get? b=some o:=
 (Heap.get?_update_ne _ _ _ _ hb).trans (qCe (vs:=vs) hb e)
theorem Ys {h:Heap} {a:Addr} {vs:List Value} {out:Array Value} {n:Nat} (ho:h.get? a=some (seqObj "list" vs.toArray n)):∃ m,(sortedHeap h a vs out).get? a=some (seqObj "list" out m):=
 ⟨_,get?_update_seq (wG _ (wG _ (get?_update_seq ho _))) _⟩
end
end LSo
namespace L2
open PySem PySem.Spec PyProof.Rows
noncomputable abbrev QT (ns:List Int):D:=.tup (ns.map D.int)
section
variable {X:Cx} {pins:List (Addr×Obj)} {σ:St} {H:Hp} {s:Shared}
theorem qI8 (I:Inv X pins σ H s):∀{nss:List (List Int)} {xs:List V} {its:List Value},qR H (nss.map QT) xs->qh xs its->(∀ ns∈nss,ns≠[])->LSo.Rows s.heap its nss:=by
 intro nss
 induction nss with
 | nil=>
  intro xs its h r _
  cases (show xs=[] from h)
  cases r
  trivial
 | cons ns nss ih=>
  intro xs its h r hn
  obtain ⟨x,xr,rfl,h1,h2⟩:=h
  cases r with
  | cons r1 r2=>
   refine ⟨?_,ih h2 r2 fun m hm=>hn m (wI _ hm)⟩
   obtain ⟨a,ys,rfl,e1,e2⟩:=h1
   cases r1
   obtain ⟨js,q1,q2,_⟩:=I.tuple (SqT.of (K:=X.K) e1)
   have e3:=e2.ints_eq
   subst e3
   exact ⟨a,_,rfl,q2,intsAre_of q1,hn ns (wL ..)⟩
theorem Jn {xs:List V} {its:List Value} (r:qh xs its):∀(is:List Nat),(∀ i∈is,i<xs.length)->qh (is.map fun i=>xs.getD i V.non) (is.map fun i=>its.getD i vP)
 | [],_=>.nil
 | i::is,h=>by
  have hi:=h i (wL ..)
  obtain ⟨u,g1,g2⟩:=r.get (wA hi)
  refine .cons ?_ (Jn r is fun j hj=>h j (wI _ hj))
  show RelV (xs.getD i V.non) (its.getD i vP)
  rw [wH,wH,wA hi,g1]
  exact g2
theorem YB {nss:List (List Int)} {xs:List V} (h:qR H (nss.map QT) xs):∀(is:List Nat),(∀ i∈is,i<xs.length)->qR H ((is.map fun i=>nss.getD i []).map QT) (is.map fun i=>xs.getD i V.non)
 | [],_=>rfl
 | i::is,g=>by
  have hi:=g i (wL ..)
  obtain ⟨d,g1,g2⟩:=h.get (wA hi)
  refine ⟨_,_,rfl,?_,YB h is fun j hj=>g j (wI _ hj)⟩
  rw [wQ] at g1
  show Den H (QT (nss.getD i [])) (xs.getD i V.non)
  rw [wH,wH,wA hi]
  cases e:nss[i]? with
  | none=>rw [e] at g1; cases g1
  | some ns=>
   rw [e] at g1
   cases g1
   exact g2
end
end L2
namespace LSo
open PySem PySem.W PyProof.Rows
noncomputable def qJB:Bool->Keyed->Array Keyed->Nat->Nat->Nat->StateT SortSt Sem (Option Nat):=sortPriv% PySem.Builtin.gallop
section
variable {prog:Program} {w:World} {A:Around} {E:Value->Shared->Prop} {s:Shared} {κ:SortKind} {S:Keyed->Prop} {key:Keyed->Nat}
noncomputable def Kn (prog:Program) (w:World) (A:Around) (s:Shared) (κ:SortKind) (S:Keyed->Prop) (key:Keyed->Nat):Prop:=
 ∀ x y,S x->S y->∀(Q:Bool->Shared->Prop) (E:Value->Shared->Prop),Q (decide (key x<key y)) s->wpAny (model prog w) A (keyLt' κ x.1 y.1) Q E s
theorem qLg {x y:Keyed} {Q:Option Bool->SortSt->Prop} {st:SortSt} (C:Kn prog w A s κ S key) (hk:kindOf st=κ) (hx:S x) (hy:S y) (h:Q (some (decide (key x<key y))) st):wpS (model prog w) A E s (lt' x y) Q st:=by
 rw [lt'_eq]
 refine wpS_bind (wpS_get (wpS_bind (wpS_lift (gL ?_))))
 rw [hk]
 exact C x y hx hy _ _ ⟨rfl,wpS_pure h⟩
theorem qv {a:Array Keyed} {i:Nat} {x:Keyed} {Q:Keyed->SortSt->Prop} {st:SortSt} (h:a[i]? = some x) (q:Q x st):wpS (model prog w) A E s (elem' a i) Q st:=by
 rw [elem'_eq,h]
 exact wpS_pure q
noncomputable def qJP (prog:Program) (w:World) (A:Around) (E:Value->Shared->Prop) (s:Shared) (st:SortSt) (l:Bool) (k:Keyed) (a:Array Keyed) (b n kk:Nat):Prop:=
 ∀ i,i<n->∀ Q:Option Bool->SortSt->Prop,Q (some (decide (i<kk))) st->wpS (model prog w) A E s (elem' a (b+i) >>= fun x=>if l=true then lt' x k else lt' k x >>= fun r=>pure (Option.map (fun y=>!y) r)) Q st
theorem jg {l:Bool} {k:Keyed} {a:Array Keyed} {b n h kk:Nat} {Q:Option Nat->SortSt->Prop} {st:SortSt} (hn:h<n) (kn:kk<=n) (hb:qJP prog w A E s st l k a b n kk) (q:Q (some kk) st):wpS (model prog w) A E s (qJB l k a b n h) Q st:=by
 refine wpS_bind (hb h hn _ ?_)
 by_cases z:h<kk
 ·rw [decide_eq_true z]
  dsimp only
  rw [if_pos rfl]
  refine wpS_bind (wpS_mono (wpS_forRange (I:=fun i c st'=>st'=st/\c.1=none/\h+c.2.1<kk/\c.2.1<c.2.2/\i+1<=c.2.2) (Q:=fun c st'=>st'=st/\c.1=none/\h+c.2.1<kk/\c.2.1<c.2.2/\(n - h<=c.2.2\/kk<=h+c.2.2)) ?_ ?_ ?_) ?_)
  ·rintro i ⟨c1,c2,c3⟩ st' _ hi ⟨rfl,rfl,i1,i2,i3⟩
   dsimp only at i1 i2 i3 ⊢
   by_cases y:c3≥n - h
   ·rw [if_pos y]
    exact wpS_pure ⟨rfl,rfl,i1,i2,.inl y⟩
   ·rw [if_neg y]
    refine wpS_bind (hb (h+c3) (by omega) _ ?_)
    by_cases x:h+c3<kk
    ·rw [decide_eq_true x]
     exact wpS_pure ⟨rfl,rfl,x,by dsimp only; omega,by dsimp only; omega⟩
    ·rw [decide_eq_false x]
     exact wpS_pure ⟨rfl,rfl,i1,i2,.inr (by dsimp only; omega)⟩
  ·rintro ⟨c1,c2,c3⟩ st' ⟨rfl,rfl,i1,i2,i3⟩
   dsimp only at i1 i2 i3 ⊢
   exact ⟨rfl,rfl,i1,i2,.inl (by omega)⟩
  ·exact ⟨rfl,rfl,z,by decide,by decide⟩
  ·rintro ⟨c1,c2,c3⟩ st' ⟨rfl,rfl,i1,i2,i3⟩
   dsimp only at i1 i2 i3 ⊢
   refine wpS_bind (wpS_mono (wpS_forRange (I:=fun i c st2=>st2=st'/\c.1=none/\c.2.1<=kk/\kk<=c.2.2/\c.2.2<=n/\c.2.2+i<=c.2.1+n) (Q:=fun c st2=>st2=st'/\c.1=none/\c.2.2=kk) ?_ ?_ ?_) ?_)
   ·rintro i ⟨c1,lo,hi⟩ st2 _ hi' ⟨rfl,rfl,j1,j2,j3,j4⟩
    dsimp only at j1 j2 j3 j4 ⊢
    by_cases y:lo≥hi
    ·rw [if_pos y]
     exact wpS_pure ⟨rfl,rfl,by dsimp only; omega⟩
    ·rw [if_neg y]
     refine wpS_bind (hb (lo+(hi - lo) / 2) (by omega) _ ?_)
     by_cases x:lo+(hi - lo) / 2<kk
     ·rw [decide_eq_true x]
      exact wpS_pure ⟨rfl,rfl,x,j2,j3,by dsimp only; omega⟩
     ·rw [decide_eq_false x]
      exact wpS_pure ⟨rfl,rfl,j1,by dsimp only; omega,by dsimp only; omega,by dsimp only; omega⟩
   ·rintro ⟨c1,lo,hi⟩ st2 ⟨rfl,rfl,j1,j2,j3,j4⟩
    dsimp only at j1 j2 j3 j4 ⊢
    exact ⟨rfl,rfl,by omega⟩
   ·refine ⟨rfl,rfl,?_,?_,?_,?_⟩ <;> dsimp only <;> omega
   ·rintro ⟨c1,lo,hi⟩ st2 ⟨rfl,rfl,rfl⟩
    exact wpS_pure q
 ·rw [decide_eq_false z]
  dsimp only
  rw [if_neg wR]
  refine wpS_bind (wpS_mono (wpS_forRange (I:=fun i c st'=>st'=st/\c.1=none/\kk+c.2.1<=h/\c.2.1<c.2.2/\i+1<=c.2.2) (Q:=fun c st'=>st'=st/\c.1=none/\kk+c.2.1<=h/\c.2.1<c.2.2/\(h+1<=c.2.2\/(c.2.2<=h/\h<kk+c.2.2))) ?_ ?_ ?_) ?_)
  ·rintro i ⟨c1,c2,c3⟩ st' _ hi ⟨rfl,rfl,i1,i2,i3⟩
   dsimp only at i1 i2 i3 ⊢
   by_cases y:c3≥h+1
   ·rw [if_pos y]
    exact wpS_pure ⟨rfl,rfl,i1,i2,.inl y⟩
   ·rw [if_neg y]
    refine wpS_bind (hb (h - c3) (by omega) _ ?_)
    by_cases x:h - c3<kk
    ·rw [decide_eq_true x]
     exact wpS_pure ⟨rfl,rfl,i1,i2,.inr (by dsimp only; omega)⟩
    ·rw [decide_eq_false x]
     exact wpS_pure ⟨rfl,rfl,by dsimp only; omega,by dsimp only; omega,by dsimp only; omega⟩
  ·rintro ⟨c1,c2,c3⟩ st' ⟨rfl,rfl,i1,i2,i3⟩
   dsimp only at i1 i2 i3 ⊢
   exact ⟨rfl,rfl,i1,i2,.inl (by omega)⟩
  ·exact ⟨rfl,rfl,by dsimp only; omega,by decide,by decide⟩
  ·rintro ⟨c1,c2,c3⟩ st' ⟨rfl,rfl,i1,i2,i3⟩
   dsimp only at i1 i2 i3 ⊢
   refine wpS_bind (wpS_mono (wpS_forRange (I:=fun i c st2=>st2=st'/\c.1=none/\c.2.1<=kk/\kk<=c.2.2/\c.2.2<=n/\c.2.2+i<=c.2.1+n) (Q:=fun c st2=>st2=st'/\c.1=none/\c.2.2=kk) ?_ ?_ ?_) ?_)
   ·rintro i ⟨c1,lo,hi⟩ st2 _ hi' ⟨rfl,rfl,j1,j2,j3,j4⟩
    dsimp only at j1 j2 j3 j4 ⊢
    by_cases y:lo≥hi
    ·rw [if_pos y]
     exact wpS_pure ⟨rfl,rfl,by dsimp only; omega⟩
    ·rw [if_neg y]
     refine wpS_bind (hb (lo+(hi - lo) / 2) (by omega) _ ?_)
     by_cases x:lo+(hi - lo) / 2<kk
     ·rw [decide_eq_true x]
      exact wpS_pure ⟨rfl,rfl,x,j2,j3,by dsimp only; omega⟩
     ·rw [decide_eq_false x]
      exact wpS_pure ⟨rfl,rfl,j1,by dsimp only; omega,by dsimp only; omega,by dsimp only; omega⟩
   ·rintro ⟨c1,lo,hi⟩ st2 ⟨rfl,rfl,j1,j2,j3,j4⟩
    dsimp only at j1 j2 j3 j4 ⊢
    exact ⟨rfl,rfl,by omega⟩
   ·refine ⟨rfl,rfl,?_,?_,?_,?_⟩ <;> dsimp only <;> omega
   ·rintro ⟨c1,lo,hi⟩ st2 ⟨rfl,rfl,rfl⟩
    exact wpS_pure q
end
section
variable {α:Type} (key:α->Nat)
noncomputable def mrg:List α->List α->List α
 | [],bs=>bs
 | x::as,[]=>x::as
 | x::as,y::bs=>if key y<key x then y::mrg (x::as) bs else x::mrg as (y::bs)
 termination_by as bs=>as.length+bs.length
noncomputable abbrev Ord (l:List α):Prop:=l.Pairwise fun x y=>key x<=key y
theorem je (as:List α):mrg key as []=as:=by
 cases as <;> unfold mrg <;> rfl
theorem jc (bs:List α):mrg key [] bs=bs:=by unfold mrg; rfl
theorem qHE {x y:α} {as bs:List α} (h:key y<key x):mrg key (x::as) (y::bs)=y::mrg key (x::as) bs:=by
 rw [mrg,if_pos h]
theorem qK7 {x y:α} {as bs:List α} (h:¬ key y<key x):mrg key (x::as) (y::bs)=x::mrg key as (y::bs):=by
 rw [mrg,if_neg h]
theorem qAi {x:α}:∀{bs:List α},(∀ y∈bs,key y<key x)->mrg key [x] bs=bs++[x]
 | [],_=>je key _
 | y::bs,h=>by rw [qHE key (h y wL),qAi fun z hz=>h z (wI _ hz)]; rfl
theorem qEN {y:α} {bs:List α}:∀{l as:List α},(∀ x∈l,¬ key y<key x)->mrg key (l++as) (y::bs)=l++mrg key as (y::bs)
 | [],_,_=>rfl
 | x::l,as,h=>by
  show mrg key (x::(l++as)) (y::bs)=x::(l++_)
  rw [qK7 key (h x wL),qEN fun z hz=>h z (wI _ hz)]
theorem qH5 {x:α} {as:List α}:∀{l bs:List α},(∀ y∈l,key y<key x)->mrg key (x::as) (l++bs)=l++mrg key (x::as) bs
 | [],_,_=>rfl
 | y::l,bs,h=>by
  show mrg key (x::as) (y::(l++bs))=y::(l++_)
  rw [qHE key (h y wL),qH5 fun z hz=>h z (wI _ hz)]
theorem qCV:∀ as bs:List α,(mrg key as bs).length=as.length+bs.length
 | [],bs=>by rw [jc]; simp
 | x::as,[]=>by rw [je]; simp
 | x::as,y::bs=>by
  rw [mrg]
  split
  ·rw [wW,qCV (x::as) bs]
   simp only [wW]
   omega
  ·rw [wW,qCV as (y::bs)]
   simp only [wW]
   omega
 termination_by as bs=>as.length+bs.length
theorem Qo:∀ as bs:List α,(mrg key as bs).Perm (as++bs)
 | [],bs=>by rw [jc]; exact TM _
 | x::as,[]=>by rw [je,zI]
 | x::as,y::bs=>by
  rw [mrg]
  split
  ·exact ((Qo (x::as) bs).cons y).trans (List.perm_middle (l₁:=x::as)).symm
  ·exact (Qo as (y::bs)).cons x
 termination_by as bs=>as.length+bs.length
theorem qCZ:∀{as bs:List α},Ord key as->Ord key bs->Ord key (mrg key as bs)
 | [],bs,_,h=>by rw [jc]; exact h
 | x::as,[],h,_=>by rw [je]; exact h
 | x::as,y::bs,h,g=>by
  have hh:=gN.mp h
  have gg:=gN.mp g
  rw [mrg]
  split
  ·refine gN.mpr ⟨fun z hz=>?_,qCZ h gg.2⟩
   rcases zR.mp ((Qo key _ _).mem_iff.mp hz) with q | q
   ·rcases wX.mp q with e | e
    ·rw [e]; omega
    ·have:=hh.1 z e
     omega
   ·exact gg.1 z q
  ·refine gN.mpr ⟨fun z hz=>?_,qCZ hh.2 g⟩
   rcases zR.mp ((Qo key _ _).mem_iff.mp hz) with q | q
   ·exact hh.1 z q
   ·rcases wX.mp q with e | e
    ·rw [e]; omega
    ·have:=gg.1 z e
     omega
 termination_by as bs=>as.length+bs.length
theorem JW {x:α}:∀{as bs:List α},(∀ y∈bs,key y<key x)->mrg key (as++[x]) bs=mrg key as bs++[x]
 | [],bs,h=>by rw [jc]; exact qAi key h
 | z::as,[],h=>by rw [je,je]
 | z::as,y::bs,h=>by
  show mrg key (z::(as++[x])) (y::bs)=_
  rw [mrg,mrg]
  split
  ·show y::mrg key ((z::as)++[x]) bs=_
   rw [JW fun q hq=>h q (wI _ hq)]
   rfl
  ·rw [JW h]
   rfl
 termination_by as bs=>as.length+bs.length
theorem JZ {y:α}:∀{as bs:List α},(∀ x∈as,¬ key y<key x)->mrg key as (bs++[y])=mrg key as bs++[y]
 | [],bs,h=>by rw [jc,jc]
 | x::as,[],h=>by
  rw [je]
  have:=qEN key (y:=y) (bs:=[]) (l:=x::as) (as:=[]) h
  rw [zI,jc] at this
  exact this
 | x::as,z::bs,h=>by
  show mrg key (x::as) (z::(bs++[y]))=_
  rw [mrg,mrg]
  split
  ·rw [JZ h]
   rfl
  ·show x::mrg key as ((z::bs)++[y])=_
   rw [JZ fun q hq=>h q (wI _ hq)]
   rfl
 termination_by as bs=>as.length+bs.length
theorem qFR {as bs:List α}:∀{l:List α},(∀ x∈l,∀ y∈bs,key y<key x)->mrg key (as++l) bs=mrg key as bs++l:=by
 intro l
 induction l generalizing as with
 | nil=>intro _; rw [zI,zI]
 | cons x l ih=>
  intro h
  have e:as++x::l=(as++[x])++l:=by simp
  rw [e,ih fun z hz=>h z (wI _ hz),JW key (h x wL)]
  simp
theorem qEX {as bs:List α}:∀{l:List α},(∀ y∈l,∀ x∈as,¬ key y<key x)->mrg key as (bs++l)=mrg key as bs++l:=by
 intro l
 induction l generalizing bs with
 | nil=>intro _; rw [zI,zI]
 | cons y l ih=>
  intro h
  have e:bs++y::l=(bs++[y])++l:=by simp
  rw [e,ih fun z hz=>h z (wI _ hz),JZ key (h y wL)]
  simp
end
theorem qMy {P:Nat->Prop}:∀ n:Nat,(∀ i j,i<=j->j<n->P j->P i)->∃ kk,kk<=n/\∀ i,i<n->(P i↔i<kk)
 | 0,_=>⟨0,wF _,fun i h=>absurd h (vT i)⟩
 | n+1,h=>by
  obtain ⟨kk,h1,h2⟩:=qMy n fun i j a b=>h i j a (by omega)
  by_cases z:P n
  ·exact ⟨n+1,wF _,fun i hi=>⟨fun _=>hi,fun _=>h i n (by omega) (by omega) z⟩⟩
  ·refine ⟨kk,by omega,fun i hi=>?_⟩
   by_cases e:i=n
   ·subst e
    exact ⟨fun q=>absurd q z,fun q=>by omega⟩
   ·exact h2 i (by omega)
section
variable {prog:Program} {w:World} {A:Around} {E:Value->Shared->Prop} {s:Shared} {κ:SortKind} {S:Keyed->Prop} {key:Keyed->Nat}
noncomputable abbrev dK:Keyed:=(vP,vP)
noncomputable def gt (a:Array Keyed) (i:Nat):Keyed:=a.getD i dK
theorem qZ {a:Array Keyed} {i:Nat} (h:i<a.size):a[i]? = some (gt a i):=by simp [gt,ZY,h]
theorem ja {a:Array Keyed} {i:Nat} (h:i<a.size):gt a i∈a:=by
 have e:gt a i=a[i]:=by simp [gt,ZY,h]
 rw [e]
 exact VL h
theorem QW {a:Array Keyed} {i:Nat} (h:i<a.size):a.toList.drop i=gt a i::a.toList.drop (i+1):=by
 have e:gt a i=a.toList[i]'(by simpa using h):=by simp [gt,ZY,h]
 rw [e]
 exact ZC (by simpa using h)
noncomputable abbrev qFI (key:Keyed->Nat) (a:Array Keyed):Prop:=∀ i j,i<=j->j<a.size->key (gt a i)<=key (gt a j)
theorem qFa {st:SortSt} {k:Keyed} {a:Array Keyed} {b n:Nat} (C:Kn prog w A s κ S key) (hk:kindOf st=κ) (Sk:S k) (Sa:∀ x∈a,S x) (hn:b+n<=a.size) (o:∀ i j,b<=i->i<=j->j<b+n->key (gt a i)<=key (gt a j)) :
  ∃ kk,kk<=n/\qJP prog w A E s st false k a b n kk/\∀ i,i<n->(¬ key k<key (gt a (b+i))↔i<kk):=by
 obtain ⟨kk,h1,h2⟩:=qMy (P:=fun i=>¬ key k<key (gt a (b+i))) n fun i j ij hj h=>by
  have:=o (b+i) (b+j) (by omega) (by omega) (by omega)
  omega
 refine ⟨kk,h1,fun i hi Q q=>?_,h2⟩
 refine wpS_bind (qv (qZ (by omega)) ?_)
 rw [if_neg wR]
 refine wpS_bind (qLg C hk Sk (Sa _ (ja (by omega))) (wpS_pure ?_))
 have e:(Option.map (fun y=>!y) (some (decide (key k<key (gt a (b+i))))))=some (decide (i<kk)):=by
  show some (!decide (key k<key (gt a (b+i))))=_
  congr 1
  rw [vZ,kZ,decide_eq_false_iff_not,decide_eq_true_iff]
  exact h2 i hi
 rw [e]
 exact q
theorem qF6 {st:SortSt} {k:Keyed} {a:Array Keyed} {b n:Nat} (C:Kn prog w A s κ S key) (hk:kindOf st=κ) (Sk:S k) (Sa:∀ x∈a,S x) (hn:b+n<=a.size) (o:∀ i j,b<=i->i<=j->j<b+n->key (gt a i)<=key (gt a j)) :
  ∃ kk,kk<=n/\qJP prog w A E s st true k a b n kk/\∀ i,i<n->(key (gt a (b+i))<key k↔i<kk):=by
 obtain ⟨kk,h1,h2⟩:=qMy (P:=fun i=>key (gt a (b+i))<key k) n fun i j ij hj h=>by
  have:=o (b+i) (b+j) (by omega) (by omega) (by omega)
  omega
 refine ⟨kk,h1,fun i hi Q q=>?_,h2⟩
 refine wpS_bind (qv (qZ (by omega)) ?_)
 rw [if_pos rfl]
 refine qLg C hk (Sa _ (ja (by omega))) Sk ?_
 have e:decide (key (gt a (b+i))<key k)=decide (i<kk):=by
  rw [vZ,decide_eq_true_iff,decide_eq_true_iff]
  exact h2 i hi
 rw [e]
 exact q
end
noncomputable def qGg:Array Keyed->Array Keyed->StateT SortSt Sem (Array Keyed):=sortPriv% PySem.Builtin.mergeLo
noncomputable def SG (st0 st:SortSt):Prop:=∃ g,st=SortSt.mk' (kindOf st0) (arrOf st0) (pendingOf st0) g (failedOf st0)
theorem SG.set {st0 st:SortSt} (h:SG st0 st) (g:Nat):SG st0 (SortSt.mk' (kindOf st) (arrOf st) (pendingOf st) g (failedOf st)):=by
 obtain ⟨g',rfl⟩:=h
 exact ⟨g,rfl⟩
theorem SG.kind {st0 st:SortSt} (h:SG st0 st):kindOf st=kindOf st0:=by
 obtain ⟨g',rfl⟩:=h
 rfl
theorem JJ (a:Array Keyed) (i:Nat):(a.extract i).toList=a.toList.drop i:=by
 rw [fM,List.extract_eq_drop_take',ZZ (by simp)]
theorem qFt (a:Array Keyed) (i k:Nat):(a.extract i (i+k)).toList=(a.toList.drop i).take k:=by
 rw [fM,ZD,xY]
section
variable {key:Keyed->Nat} {a b out:Array Keyed} {ia ib k:Nat}
noncomputable def Wl (key:Keyed->Nat) (a b out:Array Keyed) (ia ib:Nat):List Keyed:=out.toList++mrg key (a.toList.drop ia) (b.toList.drop ib)
theorem qMQ (h1:ia<a.size) (h2:ib<b.size) (h:key (gt b ib)<key (gt a ia)):Wl key a b (out.push (gt b ib)) ia (ib+1)=Wl key a b out ia ib:=by
 unfold Wl
 rw [QW h1,QW h2,qHE key h,gZ,yF]
 rfl
theorem qNL (h1:ia<a.size) (h2:ib<b.size) (h:¬ key (gt b ib)<key (gt a ia)):Wl key a b (out.push (gt a ia)) (ia+1) ib=Wl key a b out ia ib:=by
 unfold Wl
 rw [QW h1,QW h2,qK7 key h,gZ,yF]
 rfl
theorem qEg {a:Array Keyed} {i k:Nat} {P:Keyed->Prop} (hk:i+k<=a.size) (h:∀ j,j<k->P (gt a (i+j))):∀ x∈(a.toList.drop i).take k,P x:=fun x hx=>by
 obtain ⟨j,hj,e⟩:=xM hx
 rw [zP,xQ,wN] at hj
 have:=h j (by omega)
 have e2:gt a (i+j)=x:=by
  rw [<- e,fA,VM]
  simp [gt,ZY,show i+j<a.size by omega]
 rwa [e2] at this
theorem qMT (h1:ia+k<=a.size) (h2:ib<b.size) (h:∀ i,i<k->¬ key (gt b ib)<key (gt a (ia+i))):Wl key a b (out++a.extract ia (ia+k)) (ia+k) ib=Wl key a b out ia ib:=by
 unfold Wl
 have e:a.toList.drop ia=(a.toList.drop ia).take k++a.toList.drop (ia+k):=by
  rw [<- TN]
  exact (xP k _).symm
 rw [yC,qFt,yF]
 conv=>rhs; rw [e]
 rw [QW h2,qEN key (qEg h1 h)]
theorem qMR (h1:ia<a.size) (h2:ib+k<=b.size) (h:∀ i,i<k->key (gt b (ib+i))<key (gt a ia)):Wl key a b (out++b.extract ib (ib+k)) ia (ib+k)=Wl key a b out ia ib:=by
 unfold Wl
 have e:b.toList.drop ib=(b.toList.drop ib).take k++b.toList.drop (ib+k):=by
  rw [<- TN]
  exact (xP k _).symm
 rw [yC,qFt,yF]
 conv=>rhs; rw [e]
 rw [QW h1,qH5 key (qEg h2 h)]
theorem Jd (h:ib=b.size):(out++a.extract ia++b.extract ib).toList=Wl key a b out ia ib:=by
 unfold Wl
 rw [yC,yC,JJ,JJ,h,WA (show b.toList.length<=b.size by simp),je,zI]
theorem qGb (h:ia=a.size):(out++a.extract ia++b.extract ib).toList=Wl key a b out ia ib:=by
 unfold Wl
 rw [yC,yC,JJ,JJ,h,WA (show a.toList.length<=a.size by simp),jc,zI]
theorem qAm (h:ia+1=a.size) (hb:∀ j,j<b.size->key (gt b j)<key (gt a ia)):(out++b.extract ib++a.extract ia).toList=Wl key a b out ia ib:=by
 unfold Wl
 rw [yC,yC,JJ,JJ,QW (show ia<a.size by omega),WA (show a.toList.length<=ia+1 by simp; omega),qAi key,yF]
 intro y hy
 obtain ⟨j,hj,e⟩:=xM (WN hy)
 have:=hb j (by simpa using hj)
 have e2:gt b j=y:=by rw [<- e]; simp [gt,ZY,show j<b.size by simpa using hj]
 rwa [e2] at this
end
section
variable {prog:Program} {w:World} {A:Around} {E:Value->Shared->Prop} {s:Shared} {κ:SortKind} {S:Keyed->Prop} {key:Keyed->Nat}
theorem Y3 {tag:String} {Q:Unit->SortSt->Prop} {st:SortSt} (q:Q () st):wpS (model prog w) A E s (liftM (rule tag):StateT SortSt Sem Unit) Q st:=wpS_lift (ZX ⟨rfl,q⟩)
noncomputable def qMf:Nat->StateT SortSt Sem Unit:=sortPriv% PySem.Builtin.setMinGallop
theorem qCi {g:Nat} {Q:Unit->SortSt->Prop} {st:SortSt} (q:Q () (SortSt.mk' (kindOf st) (arrOf st) (pendingOf st) g (failedOf st))):wpS (model prog w) A E s (qMf g) Q st:=wpS_modify q
theorem qDy {a b:Array Keyed} {st0 st:SortSt} {Q:Array Keyed->SortSt->Prop} (C:Kn prog w A s κ S key) (hk:kindOf st0=κ) (Sa:∀ x∈a,S x) (Sb:∀ x∈b,S x) (oa:qFI key a) (ob:qFI key b) (na:1<=a.size) (nb:1<=b.size)
  (first:key (gt b 0)<key (gt a 0)) (last:∀ j,j<b.size->key (gt b j)<key (gt a (a.size - 1))) (g:SG st0 st) (q:∀ r st',SG st0 st'->r.toList=mrg key a.toList b.toList->Q r st'):wpS (model prog w) A E s (qGg a b) Q st:=by
 have q':∀ r st',SG st0 st'->r.toList=Wl key a b #[] 0 0->Q r st':=fun r st' g' e=>q r st' g' (by rw [e]; rfl)
 have lst:∀{ia:Nat},ia+1=a.size->∀ j,j<b.size->key (gt b j)<key (gt a ia):=fun {ia} e j hj=>by
  have:=last j hj
  rwa [show a.size - 1=ia by omega] at this
 refine wpS_bind (Y3 ?_)
 refine wpS_bind (qv (qZ (show 0<b.size by omega)) ?_)
 have w0:Wl key a b #[gt b 0] 0 1=Wl key a b #[] 0 0:=qMQ (out:=#[]) (show 0<a.size by omega) (show 0<b.size by omega) first
 dsimp only
 by_cases z1:1=b.size
 ·rw [if_pos (by rw [<- z1]; rfl)]
  exact wpS_pure (q' _ _ g ((Jd z1).trans w0))
 rw [if_neg (by simpa using z1)]
 by_cases z2:0+1=a.size
 ·rw [if_pos (by rw [<- z2]; rfl)]
  exact wpS_pure (q' _ _ g ((qAm z2 (lst z2)).trans w0))
 rw [if_neg (by simpa using z2)]
 refine wpS_bind (wpS_get ?_)
 refine wpS_bind (wpS_mono (wpS_forRange (I:=fun i c st'=>SG st0 st'/\c.1=none/\c.2.2.1+1<a.size/\c.2.2.2.1<b.size/\Wl key a b c.2.1 c.2.2.1 c.2.2.2.1=Wl key a b #[] 0 0/\i+1<=c.2.2.1+c.2.2.2.1) (Q:=fun c st'=>SG st0 st'/\∃ r,c.1=some r/\r.toList=Wl key a b #[] 0 0) ?_ ?_ ?_) ?_)
 ·rintro i ⟨c1,out,ia,ib,mg⟩ st1 _ hi ⟨g1,rfl,i1,i2,i3,i4⟩
  dsimp only at i1 i2 i3 i4 ⊢
  refine wpS_bind (wpS_mono (wpS_forRange (I:=fun j c st'=>SG st0 st'/\c.1=none/\c.2.2.1+1<a.size/\c.2.2.2.1<b.size/\Wl key a b c.2.1 c.2.2.1 c.2.2.2.1=Wl key a b #[] 0 0/\ia+ib+j<=c.2.2.1+c.2.2.2.1) (Q:=fun c st'=>SG st0 st'/\((∃ r,c.1=some r/\r.toList=Wl key a b #[] 0 0)\/(c.1=none/\c.2.2.1+1<a.size/\c.2.2.2.1<b.size/\Wl key a b c.2.1 c.2.2.1 c.2.2.2.1=Wl key a b #[] 0 0/\ia+ib+1<=c.2.2.1+c.2.2.2.1))) ?_ ?_ ?_) ?_)
  ·rintro j ⟨c1,o1,x,y,ac,bc⟩ st2 _ hj ⟨g2,rfl,j1,j2,j3,j4⟩
   dsimp only at j1 j2 j3 j4 ⊢
   refine wpS_bind (qv (qZ j2) (wpS_bind (qv (qZ (show x<a.size by omega)) (wpS_bind (qLg C (g2.kind.trans hk) (Sb _ (ja j2)) (Sa _ (ja (show x<a.size by omega))) ?_)))))
   by_cases lt:key (gt b y)<key (gt a x)
   ·rw [decide_eq_true lt]
    refine wpS_bind (qv (qZ j2) ?_)
    have e:=(qMQ (out:=o1) (show x<a.size by omega) j2 lt).trans j3
    by_cases z:y+1=b.size
    ·rw [if_pos (by simpa using z)]
     exact wpS_pure ⟨g2,.inl ⟨_,rfl,(Jd z).trans e⟩⟩
    rw [if_neg (by simpa using z)]
    split
    ·exact wpS_pure ⟨g2,.inr ⟨rfl,j1,by dsimp only; omega,e,by dsimp only; omega⟩⟩
    ·exact wpS_pure ⟨g2,rfl,j1,by dsimp only; omega,e,by dsimp only; omega⟩
   ·rw [decide_eq_false lt]
    refine wpS_bind (qv (qZ (show x<a.size by omega)) ?_)
    have e:=(qNL (out:=o1) (show x<a.size by omega) j2 lt).trans j3
    by_cases z:x+1+1=a.size
    ·rw [if_pos (by simpa using z)]
     exact wpS_pure ⟨g2,.inl ⟨_,rfl,(qAm z (lst z)).trans e⟩⟩
    rw [if_neg (by simpa using z)]
    split
    ·exact wpS_pure ⟨g2,.inr ⟨rfl,by dsimp only; omega,j2,e,by dsimp only; omega⟩⟩
    ·exact wpS_pure ⟨g2,rfl,by dsimp only; omega,j2,e,by dsimp only; omega⟩
  ·rintro ⟨c1,o1,x,y,ac,bc⟩ st2 ⟨g2,rfl,j1,j2,j3,j4⟩
   dsimp only at j1 j2 j3 j4 ⊢
   exact ⟨g2,.inr ⟨rfl,j1,j2,j3,by omega⟩⟩
  ·exact ⟨g1,rfl,i1,i2,i3,wF _⟩
  rintro ⟨c1,o1,x,y,ac,bc⟩ st2 ⟨g2,⟨r,rfl,e⟩ | ⟨rfl,j1,j2,j3,j4⟩⟩
  ·exact wpS_pure ⟨g2,r,rfl,e⟩
  dsimp only at j1 j2 j3 j4 ⊢
  refine wpS_bind (Y3 ?_)
  refine wpS_bind (wpS_mono (wpS_forRange (I:=fun _ c st'=>SG st0 st'/\c.1=none/\c.2.2.1+1<a.size/\c.2.2.2.1<b.size/\Wl key a b c.2.1 c.2.2.1 c.2.2.2.1=Wl key a b #[] 0 0/\ia+ib+1<=c.2.2.1+c.2.2.2.1) (Q:=fun c st'=>SG st0 st'/\((∃ r,c.1=some r/\r.toList=Wl key a b #[] 0 0)\/(c.1=none/\c.2.2.1+1<a.size/\c.2.2.2.1<b.size/\Wl key a b c.2.1 c.2.2.1 c.2.2.2.1=Wl key a b #[] 0 0/\ia+ib+1<=c.2.2.1+c.2.2.2.1))) ?_ ?_ ?_) ?_)
  ·rintro j ⟨c1,o,x,y,mg3,ac3,bc3⟩ st3 _ hj ⟨g3,rfl,k1,k2,k3,k4⟩
   dsimp only at k1 k2 k3 k4 ⊢
   clear j1 j2 j3 j4 i1 i2 i3 i4
   by_cases mz:mg3 > 1
   case' pos=>
    rw [if_pos mz]
    generalize mg3 - 1=mg4
   case' neg=>
    rw [if_neg mz]
   all_goals
    refine wpS_bind (qCi ?_)
    refine wpS_bind (qv (qZ k2) ?_)
    have hk4:∀ g,kindOf (SortSt.mk' (kindOf st3) (arrOf st3) (pendingOf st3) g (failedOf st3))=κ:=fun g=>g3.kind.trans hk
    obtain ⟨kk,n1,n2,n3⟩:=qFa (E:=E) (b:=x) (n:=a.size - x) C (hk4 _) (Sb _ (ja k2)) Sa (by omega) (fun i j _ h1 h2=>oa i j h1 (by omega))
    refine wpS_bind (jg (by omega) n1 n2 ?_)
    dsimp only
    have less:x+kk<a.size->key (gt b y)<key (gt a (x+kk)):=fun q=>yM fun z=>by
     have:=(n3 kk (by omega)).mp z
     omega
    have w1:=(qMT (out:=o) (show x+kk<=a.size by omega) k2 (fun i hi=>(n3 i (by omega)).mpr hi)).trans k3
    by_cases kz:kk > 0
    case' pos=>
     rw [if_pos kz]
     by_cases z:x+kk+1=a.size
     case pos=>
      rw [if_pos (by simpa using z)]
      exact wpS_pure ⟨g3.set _,.inl ⟨_,rfl,(qAm z (lst z)).trans w1⟩⟩
     case' neg=>
     rw [if_neg (by simpa using z)]
     by_cases z':x+kk=a.size
     case pos=>
      rw [if_pos (by simpa using z')]
      exact wpS_pure ⟨g3.set _,.inl ⟨_,rfl,(qGb z').trans w1⟩⟩
     case' neg=>
     rw [if_neg (by simpa using z')]
     have xa:x+kk+1<a.size:=by omega
     have xm:x<=x+kk:=by omega
     have ls:=less (by omega)
     clear less n3 n2 z z'
     generalize o++a.extract x (x+kk)=o2 at w1
     generalize x+kk=x2 at w1 xa ls xm
    case' neg=>
     rw [if_neg kz]
     have w1:=k3
     have xa:=k1
     have ls:=less (by omega)
     rw [show x+kk=x by omega] at ls
     obtain ⟨o2,x2,ho,hx⟩:∃ o2 x2,o2=o/\x2=x:=⟨o,x,rfl,rfl⟩
     rw [<- ho,<- hx] at w1 ⊢
     rw [<- hx] at xa ls
     have xm:x<=x2:=by omega
     clear less n3 n2
    all_goals
     refine wpS_bind (qv (qZ k2) ?_)
     have w2:=(qMQ (out:=o2) (show x2<a.size by omega) k2 ls).trans w1
     by_cases z:y+1=b.size
     case pos=>
      rw [if_pos (by simpa using z)]
      exact wpS_pure ⟨g3.set _,.inl ⟨_,rfl,(Jd z).trans w2⟩⟩
     case' neg=>
     rw [if_neg (by simpa using z)]
     have y1:y+1<b.size:=by omega
     have xs:x2<a.size:=by omega
     refine wpS_bind (qv (qZ xs) ?_)
     obtain ⟨kb,m1,m2,m3⟩:=qF6 (E:=E) (b:=y+1) (n:=b.size - (y+1)) C (hk4 _) (Sa _ (ja xs)) Sb (by omega) (fun i j _ h1 h2=>ob i j h1 (by omega))
     refine wpS_bind (jg (by omega) m1 m2 ?_)
     dsimp only
     have notl:y+1+kb<b.size->¬ key (gt b (y+1+kb))<key (gt a x2):=fun q z=>by
      have:=(m3 kb (by omega)).mp z
      omega
     have w3:=(qMR (out:=o2.push (gt b y)) xs (show y+1+kb<=b.size by omega) (fun i hi=>(m3 i (by omega)).mpr hi)).trans w2
     generalize o2.push (gt b y)=o3 at w2 w3 ⊢
     by_cases kz2:kb > 0
     case' pos=>
      rw [if_pos kz2]
      by_cases z2:y+1+kb=b.size
      case pos=>
       rw [if_pos (by simpa using z2)]
       exact wpS_pure ⟨g3.set _,.inl ⟨_,rfl,(Jd z2).trans w3⟩⟩
      case' neg=>
      rw [if_neg (by simpa using z2)]
      have yb:y+1+kb<b.size:=by omega
      have nl:=notl yb
      have ym:y+1<=y+1+kb:=by omega
      clear notl m3 m2 z2
      generalize o3++b.extract (y+1) (y+1+kb)=o4 at w3 ⊢
      generalize y+1+kb=y4 at w3 yb nl ym ⊢
     case' neg=>
      rw [if_neg kz2]
      have nl:=notl (by omega)
      rw [show y+1+kb=y+1 by omega] at nl
      clear w3 notl m3 m2
      have w3:=w2
      obtain ⟨o4,y4,ho4,hy4⟩:∃ o4 y4,o4=o3/\y4=y+1:=⟨o3,y+1,rfl,rfl⟩
      rw [<- ho4,<- hy4] at w3 ⊢
      rw [<- hy4] at nl
      have yb:y4<b.size:=by omega
      have ym:y+1<=y4:=by omega
     all_goals
      refine wpS_bind (qv (qZ xs) ?_)
      have w4:=(qNL (out:=o4) xs yb nl).trans w3
      by_cases z3:x2+1+1=a.size
      ·rw [if_pos (by simpa using z3)]
       exact wpS_pure ⟨g3.set _,.inl ⟨_,rfl,(qAm z3 (lst z3)).trans w4⟩⟩
      rw [if_neg (by simpa using z3)]
      by_cases z4:(decide (kk<7) && decide (kb<7))=true
      ·rw [if_pos z4]
       exact wpS_pure ⟨g3.set _,.inr ⟨rfl,by dsimp only; omega,yb,w4,by dsimp only; omega⟩⟩
      ·rw [if_neg z4]
       exact wpS_pure ⟨g3.set _,rfl,by dsimp only; omega,yb,w4,by dsimp only; omega⟩
  ·rintro ⟨c1,o,x,y,mg3,ac3,bc3⟩ st3 ⟨g3,rfl,k1,k2,k3,k4⟩
   exact ⟨g3,.inr ⟨rfl,k1,k2,k3,k4⟩⟩
  ·exact ⟨g2,rfl,j1,j2,j3,j4⟩
  rintro ⟨c1,o,x,y,mg3,ac3,bc3⟩ st3 ⟨g3,⟨r,rfl,e⟩ | ⟨rfl,k1,k2,k3,k4⟩⟩
  ·exact wpS_pure ⟨g3,r,rfl,e⟩
  dsimp only at k1 k2 k3 k4 ⊢
  refine wpS_bind (qCi ?_)
  exact wpS_pure ⟨g3.set _,rfl,k1,k2,k3,by dsimp only; omega⟩
 ·rintro ⟨c1,out,ia,ib,mg⟩ st1 ⟨g1,rfl,i1,i2,i3,i4⟩
  dsimp only at i1 i2 i3 i4
  omega
 ·exact ⟨g,rfl,by dsimp only; omega,by dsimp only; omega,w0,by dsimp only; omega⟩
 ·rintro ⟨c1,out,ia,ib,mg⟩ st1 ⟨g1,r,rfl,e⟩
  exact wpS_pure (q' r st1 g1 e)
end
noncomputable def qGr:Array Keyed->Array Keyed->StateT SortSt Sem (Array Keyed):=sortPriv% PySem.Builtin.mergeHi
theorem Yv (a:Array Keyed) (n:Nat):(a.extract 0 n).toList=a.toList.take n:=by
 rw [fM,ZD,List.drop_zero,Nat.sub_zero]
theorem YI (a:Array Keyed) (i j:Nat):(a.extract i j).toList=(a.toList.drop i).take (j - i):=by
 rw [fM,ZD]
theorem JC {a:Array Keyed} {j:Nat} (h:j<a.toList.length):a.toList[j]=gt a j:=by
 have h':j<a.size:=by simpa using h
 simp [gt,ZY,h']
theorem qBj {a:Array Keyed} {n:Nat} {x:Keyed} (h:x∈a.toList.take n):∃ j,j<n/\j<a.size/\gt a j=x:=by
 have ⟨j,hj,e⟩:=fN.mp h
 rw [zP] at hj
 rw [fA,JC] at e
 exact ⟨j,by omega,by have:=wN (xs:=a); omega,e⟩
theorem qC7 {a:Array Keyed} {i m:Nat} {x:Keyed} (h:x∈(a.toList.drop i).take m):∃ j,i<=j/\j<i+m/\j<a.size/\gt a j=x:=by
 have ⟨j,hj,e⟩:=fN.mp h
 rw [zP,xQ,wN] at hj
 rw [fA,VM,JC] at e
 exact ⟨i+j,by omega,by omega,by omega,e⟩
theorem qCf {a:Array Keyed} {n:Nat} (h1:1<=n) (h2:n<=a.size):a.toList.take n=a.toList.take (n - 1)++[gt a (n - 1)]:=by
 have hl:n - 1<a.toList.length:=by rw [wN]; omega
 have:=yW hl
 rw [JC hl,show n - 1+1=n by omega] at this
 exact this
theorem qEk {a:Array Keyed} {k n:Nat} (h:k<=n):a.toList.take n=a.toList.take k++(a.toList.drop k).take (n - k):=by
 have:=List.take_add (l:=a.toList) (i:=k) (j:=n - k)
 rwa [show k+(n - k)=n by omega] at this
section
variable {key:Keyed->Nat} {a b out:Array Keyed} {na nb k:Nat}
noncomputable def Wh (key:Keyed->Nat) (a b out:Array Keyed) (na nb:Nat):List Keyed:=mrg key (a.toList.take na) (b.toList.take nb)++out.toList.reverse
theorem qMl (h1:1<=na) (h2:na<=a.size) (ob:qFI key b) (hb:nb<=b.size) (h:1<=nb->key (gt b (nb - 1))<key (gt a (na - 1))):Wh key a b (out.push (gt a (na - 1))) (na - 1) nb=Wh key a b out na nb:=by
 unfold Wh
 rw [qCf h1 h2,JW key,gZ,fQ,yF]
 ·rfl
 ·intro y hy
  obtain ⟨j,j1,j2,rfl⟩:=qBj hy
  have:=ob j (nb - 1) (by omega) (by omega)
  have:=h (by omega)
  omega
theorem qNT (h1:1<=nb) (h2:nb<=b.size) (oa:qFI key a) (ha:na<=a.size) (h:1<=na->¬ key (gt b (nb - 1))<key (gt a (na - 1))):Wh key a b (out.push (gt b (nb - 1))) na (nb - 1)=Wh key a b out na nb:=by
 unfold Wh
 rw [qCf h1 h2,JZ key,gZ,fQ,yF]
 ·rfl
 ·intro y hy
  obtain ⟨j,j1,j2,rfl⟩:=qBj hy
  have:=oa j (na - 1) (by omega) (by omega)
  have:=h (by omega)
  omega
theorem qMq (h1:k<=na) (h2:na<=a.size) (ob:qFI key b) (hb:1<=nb) (hb2:nb<=b.size) (h:∀ i,k<=i->i<na->key (gt b (nb - 1))<key (gt a i)):Wh key a b (out++(a.extract k na).reverse) k nb=Wh key a b out na nb:=by
 unfold Wh
 rw [qEk h1,qFR key,yC,hE,YI,fQ,List.reverse_reverse,yF]
 intro x hx y hy
 obtain ⟨j,j1,j2,_,rfl⟩:=qBj hy |> fun ⟨j,j1,j2,e⟩=>(⟨j,j1,j2,j2,e⟩:∃ j,j<nb/\j<b.size/\j<b.size/\gt b j=y)
 obtain ⟨i,i1,i2,i3,rfl⟩:=qC7 hx
 have:=ob j (nb - 1) (by omega) (by omega)
 have:=h i i1 (by omega)
 omega
theorem qM3 (h1:k<=nb) (h2:nb<=b.size) (oa:qFI key a) (ha:1<=na) (ha2:na<=a.size) (h:∀ i,k<=i->i<nb->¬ key (gt b i)<key (gt a (na - 1))):Wh key a b (out++(b.extract k nb).reverse) na k=Wh key a b out na nb:=by
 unfold Wh
 rw [qEk h1,qEX key,yC,hE,YI,fQ,List.reverse_reverse,yF]
 intro x hx y hy
 obtain ⟨j,j1,j2,rfl⟩:=qBj hy
 obtain ⟨i,i1,i2,i3,rfl⟩:=qC7 hx
 have:=oa j (na - 1) (by omega) (by omega)
 have:=h i i1 (by omega)
 omega
theorem Jj (h:na=0):(a.extract 0 na++b.extract 0 nb++out.reverse).toList=Wh key a b out na nb:=by
 unfold Wh
 rw [yC,yC,Yv,Yv,hE,h,uO,jc]
 rfl
theorem qGV (h:nb=0):(a.extract 0 na++b.extract 0 nb++out.reverse).toList=Wh key a b out na nb:=by
 unfold Wh
 rw [yC,yC,Yv,Yv,hE,h,uO,je,zI]
theorem Jf (h:nb=1) (hb:1<=b.size) (f:∀ i,i<a.size->key (gt b 0)<key (gt a i)):(b.extract 0 nb++a.extract 0 na++out.reverse).toList=Wh key a b out na nb:=by
 unfold Wh
 subst h
 have e:b.toList.take 1=[gt b 0]:=by
  have:=qCf (a:=b) (n:=1) (wF _) hb
  simpa using this
 rw [yC,yC,Yv,Yv,hE,e]
 have hm:∀ x∈a.toList.take na,key (gt b 0)<key x:=fun x hx=>by
  obtain ⟨j,_,j2,rfl⟩:=qBj hx
  exact f j j2
 generalize a.toList.take na=as at hm
 cases as with
 | nil=>rw [jc]; rfl
 | cons x as=>rw [qHE key (hm x wL),je]; rfl
end
section
variable {prog:Program} {w:World} {A:Around} {E:Value->Shared->Prop} {s:Shared} {κ:SortKind} {S:Keyed->Prop} {key:Keyed->Nat}
theorem qDr {a b:Array Keyed} {st0 st:SortSt} {Q:Array Keyed->SortSt->Prop} (C:Kn prog w A s κ S key) (hk:kindOf st0=κ) (Sa:∀ x∈a,S x) (Sb:∀ x∈b,S x) (oa:qFI key a) (ob:qFI key b) (na1:1<=a.size) (nb1:1<=b.size)
  (first:key (gt b 0)<key (gt a 0)) (last:∀ j,j<b.size->key (gt b j)<key (gt a (a.size - 1))) (g:SG st0 st) (q:∀ r st',SG st0 st'->r.toList=mrg key a.toList b.toList->Q r st'):wpS (model prog w) A E s (qGr a b) Q st:=by
 have whole:∀ c:Array Keyed,c.toList.take c.size=c.toList:=fun c=>ZZ (by simp)
 have q':∀ r st',SG st0 st'->r.toList=Wh key a b #[] a.size b.size->Q r st':=fun r st' g' e=>q r st' g' (by
  rw [e]
  unfold Wh
  rw [whole,whole]
  exact zI _)
 have fst:∀ i,i<a.size->key (gt b 0)<key (gt a i):=fun i hi=>zS first (oa 0 i (zV _) hi)
 refine wpS_bind (Y3 ?_)
 refine wpS_bind (qv (qZ (show a.size - 1<a.size by omega)) ?_)
 have w0:Wh key a b #[gt a (a.size - 1)] (a.size - 1) b.size=Wh key a b #[] a.size b.size:=qMl (out:=#[]) na1 (wF _) ob (wF _) fun _=>last _ (by omega)
 by_cases z1:a.size - 1=0
 ·rw [if_pos (by rw [z1]; rfl)]
  exact wpS_pure (q' _ _ g ((Jj z1).trans w0))
 rw [if_neg (by simpa using z1)]
 by_cases z2:b.size=1
 ·rw [if_pos (by rw [z2]; rfl)]
  exact wpS_pure (q' _ _ g ((Jf z2 nb1 fst).trans w0))
 rw [if_neg (by simpa using z2)]
 refine wpS_bind (wpS_get ?_)
 refine wpS_bind (wpS_mono (wpS_forRange (I:=fun i c st'=>SG st0 st'/\c.1=none/\(1<=c.2.1/\c.2.1<a.size/\2<=c.2.2.1/\c.2.2.1<=b.size)/\Wh key a b c.2.2.2.1 c.2.1 c.2.2.1=Wh key a b #[] a.size b.size/\c.2.1+c.2.2.1+i+1<=a.size+b.size) (Q:=fun c st'=>SG st0 st'/\∃ r,c.1=some r/\r.toList=Wh key a b #[] a.size b.size) ?_ ?_ ?_) ?_)
 ·rintro i ⟨c1,na,nb,out,mg⟩ st1 _ hi ⟨g1,rfl,i1,i3,i4⟩
  dsimp only at i1 i3 i4 ⊢
  refine wpS_bind (wpS_mono (wpS_forRange (I:=fun j c st'=>SG st0 st'/\c.1=none/\(1<=c.2.1/\c.2.1<a.size/\2<=c.2.2.1/\c.2.2.1<=b.size)/\Wh key a b c.2.2.2.1 c.2.1 c.2.2.1=Wh key a b #[] a.size b.size/\c.2.1+c.2.2.1+j<=na+nb) (Q:=fun c st'=>SG st0 st'/\((∃ r,c.1=some r/\r.toList=Wh key a b #[] a.size b.size)\/(c.1=none/\(1<=c.2.1/\c.2.1<a.size/\2<=c.2.2.1/\c.2.2.1<=b.size)/\Wh key a b c.2.2.2.1 c.2.1 c.2.2.1=Wh key a b #[] a.size b.size/\c.2.1+c.2.2.1+1<=na+nb))) ?_ ?_ ?_) ?_)
  ·rintro j ⟨c1,x,y,o1,ac,bc⟩ st2 _ hj ⟨g2,rfl,j1,j3,j4⟩
   dsimp only at j1 j3 j4 ⊢
   have hx:x - 1<a.size:=by omega
   have hy:y - 1<b.size:=by omega
   refine wpS_bind (qv (qZ hy) (wpS_bind (qv (qZ hx) (wpS_bind (qLg C (g2.kind.trans hk) (Sb _ (ja hy)) (Sa _ (ja hx)) ?_)))))
   by_cases lt:key (gt b (y - 1))<key (gt a (x - 1))
   ·rw [decide_eq_true lt]
    refine wpS_bind (qv (qZ hx) ?_)
    have e:=(qMl (out:=o1) j1.1 (by omega) ob j1.2.2.2 fun _=>lt).trans j3
    by_cases z:x - 1=0
    ·rw [if_pos (by rw [z]; rfl)]
     exact wpS_pure ⟨g2,.inl ⟨_,rfl,(Jj z).trans e⟩⟩
    rw [if_neg (by simpa using z)]
    by_cases zz:ac+1≥mg
    ·rw [if_pos zz]
     exact wpS_pure ⟨g2,.inr ⟨rfl,by dsimp only; omega,e,by dsimp only; omega⟩⟩
    ·rw [if_neg zz]
     exact wpS_pure ⟨g2,rfl,by dsimp only; omega,e,by dsimp only; omega⟩
   ·rw [decide_eq_false lt]
    refine wpS_bind (qv (qZ hy) ?_)
    have e:=(qNT (out:=o1) (show 1<=y by omega) j1.2.2.2 oa (show x<=a.size by omega) fun _=>lt).trans j3
    by_cases z:y - 1=1
    ·rw [if_pos (by rw [z]; rfl)]
     exact wpS_pure ⟨g2,.inl ⟨_,rfl,(Jf z nb1 fst).trans e⟩⟩
    rw [if_neg (by simpa using z)]
    by_cases zz:bc+1≥mg
    ·rw [if_pos zz]
     exact wpS_pure ⟨g2,.inr ⟨rfl,by dsimp only; omega,e,by dsimp only; omega⟩⟩
    ·rw [if_neg zz]
     exact wpS_pure ⟨g2,rfl,by dsimp only; omega,e,by dsimp only; omega⟩
  ·rintro ⟨c1,x,y,o1,ac,bc⟩ st2 ⟨g2,rfl,j1,j3,j4⟩
   dsimp only at j1 j3 j4 ⊢
   exact ⟨g2,.inr ⟨rfl,j1,j3,by omega⟩⟩
  ·exact ⟨g1,rfl,i1,i3,wF _⟩
  rintro ⟨c1,x0,y0,o0,ac,bc⟩ st2 ⟨g2,⟨r,rfl,e⟩ | ⟨rfl,j1,j3,j4⟩⟩
  ·exact wpS_pure ⟨g2,r,rfl,e⟩
  dsimp only at j1 j3 j4 ⊢
  refine wpS_bind (Y3 ?_)
  refine wpS_bind (wpS_mono (wpS_forRange (I:=fun _ c st'=>SG st0 st'/\c.1=none/\(1<=c.2.1/\c.2.1<a.size/\2<=c.2.2.1/\c.2.2.1<=b.size)/\Wh key a b c.2.2.2.1 c.2.1 c.2.2.1=Wh key a b #[] a.size b.size/\c.2.1+c.2.2.1+1<=na+nb) (Q:=fun c st'=>SG st0 st'/\((∃ r,c.1=some r/\r.toList=Wh key a b #[] a.size b.size)\/(c.1=none/\(1<=c.2.1/\c.2.1<a.size/\2<=c.2.2.1/\c.2.2.1<=b.size)/\Wh key a b c.2.2.2.1 c.2.1 c.2.2.1=Wh key a b #[] a.size b.size/\c.2.1+c.2.2.1+1<=na+nb))) ?_ ?_ ?_) ?_)
  ·rintro j ⟨c1,x,y,o,mg3,ac3,bc3⟩ st3 _ hj ⟨g3,rfl,k1,k3,k4⟩
   dsimp only at k1 k3 k4 ⊢
   clear j1 j3 j4 i1 i3 i4
   have hk4:∀ g,kindOf (SortSt.mk' (kindOf st3) (arrOf st3) (pendingOf st3) g (failedOf st3))=κ:=fun g=>g3.kind.trans hk
   by_cases mz:mg3 > 1
   case' pos=>
    rw [if_pos mz]
    generalize mg3 - 1=mg4
   case' neg=>
    rw [if_neg mz]
   all_goals
    have hy:y - 1<b.size:=by omega
    refine wpS_bind (qCi ?_)
    refine wpS_bind (qv (qZ hy) ?_)
    obtain ⟨kk,n1,n2,n3⟩:=qFa (E:=E) (b:=0) (n:=x) C (hk4 _) (Sb _ (ja hy)) Sa (by omega) (fun i j _ h1 h2=>oa i j h1 (by omega))
    refine wpS_bind (jg (by omega) n1 n2 ?_)
    dsimp only
    have w1:=(qMq (out:=o) n1 (show x<=a.size by omega) ob (show 1<=y by omega) k1.2.2.2 (fun i h1 h2=>yM fun z=>by
     have:=(n3 i h2).mp (by rwa [kL])
     omega)).trans k3
    have notl:1<=kk->¬ key (gt b (y - 1))<key (gt a (kk - 1)):=fun q=>by
     have:=(n3 (kk - 1) (by omega)).mpr (by omega)
     rwa [kL] at this
    by_cases kz:x - kk > 0
    case' pos=>
     rw [if_pos kz]
     by_cases z:kk=0
     case pos=>
      rw [if_pos (by simpa using z)]
      exact wpS_pure ⟨g3.set _,.inl ⟨_,rfl,(Jj z).trans w1⟩⟩
     case' neg=>
     rw [if_neg (by simpa using z)]
     have nl:=notl (by omega)
     have xr:1<=kk/\kk<=x:=by omega
     generalize o++(a.extract kk x).reverse=o2 at w1 ⊢
     generalize x - kk=kq
     generalize kk=x2 at w1 nl xr ⊢
    case' neg=>
     rw [if_neg kz]
     have ek:kk=x:=by omega
     rw [ek] at notl
     have nl:=notl (by omega)
     clear w1
     have w1:=k3
     obtain ⟨o2,x2,ho,hx⟩:∃ o2 x2,o2=o/\x2=x:=⟨o,x,rfl,rfl⟩
     generalize x - kk=kq
     rw [<- ho,<- hx] at w1 ⊢
     rw [<- hx] at nl
     have xr:1<=x2/\x2<=x:=by omega
    all_goals
     refine wpS_bind (qv (qZ hy) ?_)
     have w2:=(qNT (out:=o2) (show 1<=y by omega) k1.2.2.2 oa (show x2<=a.size by omega) fun _=>nl).trans w1
     by_cases z1:y - 1=1
     case pos=>
      rw [if_pos (by rw [z1]; rfl)]
      exact wpS_pure ⟨g3.set _,.inl ⟨_,rfl,(Jf z1 nb1 fst).trans w2⟩⟩
     case' neg=>
     rw [if_neg (by simpa using z1)]
     have xs:x2 - 1<a.size:=by omega
     refine wpS_bind (qv (qZ xs) ?_)
     obtain ⟨kb,m1,m2,m3⟩:=qF6 (E:=E) (b:=0) (n:=y - 1) C (hk4 _) (Sa _ (ja xs)) Sb (by omega) (fun i j _ h1 h2=>ob i j h1 (by omega))
     refine wpS_bind (jg (by omega) m1 m2 ?_)
     dsimp only
     generalize o2.push (gt b (y - 1))=o3 at w2 ⊢
     have w3:=(qM3 (out:=o3) m1 (show y - 1<=b.size by omega) oa xr.1 (show x2<=a.size by omega) (fun i h1 h2 z=>by
      have:=(m3 i h2).mp (by rwa [kL])
      omega)).trans w2
     have less:1<=kb->key (gt b (kb - 1))<key (gt a (x2 - 1)):=fun q=>by
      have:=(m3 (kb - 1) (by omega)).mpr (by omega)
      rwa [kL] at this
     by_cases kz2:y - 1 - kb > 0
     case' pos=>
      rw [if_pos kz2]
      by_cases z2:kb=1
      case pos=>
       rw [if_pos (by simpa using z2)]
       exact wpS_pure ⟨g3.set _,.inl ⟨_,rfl,(Jf z2 nb1 fst).trans w3⟩⟩
      case' neg=>
      rw [if_neg (by simpa using z2)]
      by_cases z3:kb=0
      case pos=>
       rw [if_pos (by simpa using z3)]
       exact wpS_pure ⟨g3.set _,.inl ⟨_,rfl,(qGV z3).trans w3⟩⟩
      case' neg=>
      rw [if_neg (by simpa using z3)]
      have ls:=less (by omega)
      have yr:2<=kb/\kb<=y - 1:=by omega
      generalize o3++(b.extract kb (y - 1)).reverse=o4 at w3 ⊢
      generalize y - 1 - kb=kr
      generalize kb=y4 at w3 ls yr ⊢
     case' neg=>
      rw [if_neg kz2]
      have ek2:kb=y - 1:=by omega
      rw [ek2] at less
      have ls:=less (by omega)
      clear w3
      have w3:=w2
      obtain ⟨o4,y4,ho4,hy4⟩:∃ o4 y4,o4=o3/\y4=y - 1:=⟨o3,y - 1,rfl,rfl⟩
      generalize y - 1 - kb=kr
      rw [<- ho4,<- hy4] at w3 ⊢
      rw [<- hy4] at ls
      have yr:2<=y4/\y4<=y - 1:=by omega
     all_goals
      refine wpS_bind (qv (qZ xs) ?_)
      have w4:=(qMl (out:=o4) xr.1 (show x2<=a.size by omega) ob (show y4<=b.size by omega) fun _=>ls).trans w3
      by_cases z4:x2 - 1=0
      ·rw [if_pos (by rw [z4]; rfl)]
       exact wpS_pure ⟨g3.set _,.inl ⟨_,rfl,(Jj z4).trans w4⟩⟩
      rw [if_neg (by simpa using z4)]
      by_cases z5:(decide (kq<7) && decide (kr<7))=true
      ·rw [if_pos z5]
       exact wpS_pure ⟨g3.set _,.inr ⟨rfl,by dsimp only; omega,w4,by dsimp only; omega⟩⟩
      ·rw [if_neg z5]
       exact wpS_pure ⟨g3.set _,rfl,by dsimp only; omega,w4,by dsimp only; omega⟩
  ·rintro ⟨c1,x,y,o,mg3,ac3,bc3⟩ st3 ⟨g3,rfl,k1,k3,k4⟩
   exact ⟨g3,.inr ⟨rfl,k1,k3,k4⟩⟩
  ·exact ⟨g2,rfl,j1,j3,j4⟩
  rintro ⟨c1,x,y,o,mg3,ac3,bc3⟩ st3 ⟨g3,⟨r,rfl,e⟩ | ⟨rfl,k1,k3,k4⟩⟩
  ·exact wpS_pure ⟨g3,r,rfl,e⟩
  dsimp only at k1 k3 k4 ⊢
  refine wpS_bind (qCi ?_)
  exact wpS_pure ⟨g3.set _,rfl,k1,k3,by dsimp only; omega⟩
 ·rintro ⟨c1,na,nb,out,mg⟩ st1 ⟨g1,rfl,i1,i3,i4⟩
  dsimp only at i1 i3 i4
  omega
 ·exact ⟨g,rfl,by dsimp only; omega,w0,by dsimp only; omega⟩
 ·rintro ⟨c1,na,nb,out,mg⟩ st1 ⟨g1,r,rfl,e⟩
  exact wpS_pure (q' r st1 g1 e)
end
noncomputable def Seg (key:Keyed->Nat) (a:Array Keyed) (lo hi:Nat):Prop:=∀ i j,lo<=i->i<=j->j<hi->key (gt a i)<=key (gt a j)
noncomputable def Down (key:Keyed->Nat) (a:Array Keyed) (lo hi:Nat):Prop:=∀ i j,lo<=i->i<=j->j<hi->key (gt a j)<=key (gt a i)
structure Chg (a a':Array Keyed) (lo hi:Nat):Prop where
 perm:a'.Perm a
 out:∀ k,k<lo\/hi<=k->gt a' k=gt a k
theorem Chg.refl (a:Array Keyed) (lo hi:Nat):Chg a a lo hi:=⟨UN _,fun _ _=>rfl⟩
theorem Chg.trans {a b c:Array Keyed} {lo hi:Nat} (h:Chg a b lo hi) (g:Chg b c lo hi):Chg a c lo hi:=⟨g.perm.trans h.perm,fun k hk=>(g.out k hk).trans (h.out k hk)⟩
theorem Chg.wide {a b:Array Keyed} {lo hi lo' hi':Nat} (h:Chg a b lo hi) (h1:lo'<=lo) (h2:hi<=hi'):Chg a b lo' hi':=⟨h.perm,fun k hk=>h.out k (by omega)⟩
theorem qD7 {a b:Array Keyed} {i j:Nat} (h:a[i]? = b[j]?):gt a i=gt b j:=by
 unfold gt
 rw [yG,yG,h]
theorem qA5 {a:Array Keyed} {i j:Nat} (hj:j<=a.size) (k:Nat):gt (mirror a i j ((j - i) / 2)) k=if i<=k/\k<j then gt a (i+j - 1 - k) else gt a k:=by
 have e:=(getElem?_mirror_all (i:=i) hj k :)
 split
 ·next h=>rw [if_pos h] at e; exact qD7 e
 ·next h=>rw [if_neg h] at e; exact qD7 e
theorem qDo {a:Array Keyed} {i j:Nat} (hj:j<=a.size):Chg a (mirror a i j ((j - i) / 2)) i j:=⟨mirror_perm _ _ _ _,fun k hk=>by rw [qA5 hj,if_neg (by omega)]⟩
structure Bs (κ:SortKind) (a0:Array Keyed) (p0:Array (Nat×Nat×Nat)) (st:SortSt):Prop where
 kind:kindOf st=κ
 failed:failedOf st=none
 pend:pendingOf st=p0
 perm:(arrOf st).Perm a0
section
variable {prog:Program} {w:World} {A:Around} {E:Value->Shared->Prop} {s:Shared} {κ:SortKind} {S:Keyed->Prop} {key:Keyed->Nat} {a0:Array Keyed} {p0:Array (Nat×Nat×Nat)}
theorem Bs.size {st:SortSt} (B:Bs κ a0 p0 st):(arrOf st).size=a0.size:=B.perm.size_eq
theorem Bs.in {st:SortSt} (B:Bs κ a0 p0 st) (h0:∀ x∈a0,S x):∀ x∈arrOf st,S x:=fun x hx=>h0 x (B.perm.mem_iff.mp hx)
theorem qAr {st:SortSt} {i j:Nat} {Q:Option Bool->SortSt->Prop} (C:Kn prog w A s κ S key) (h0:∀ x∈a0,S x) (B:Bs κ a0 p0 st) (hi:i<a0.size) (hj:j<a0.size) (q:Q (some (decide (key (gt (arrOf st) i)<key (gt (arrOf st) j)))) st):wpS (model prog w) A E s (ltAt' i j) Q st:=by
 have hi':i<(arrOf st).size:=by rw [B.size]; exact hi
 have hj':j<(arrOf st).size:=by rw [B.size]; exact hj
 refine wpS_bind (wpS_get (wpS_bind (qv (qZ hi') (wpS_bind (qv (qZ hj') ?_)))))
 exact qLg C B.kind (B.in h0 _ (ja hi')) (B.in h0 _ (ja hj')) q
theorem Bs.setA {st:SortSt} (B:Bs κ a0 p0 st) {b:Array Keyed} (p:b.Perm (arrOf st)):Bs κ a0 p0 (setArr st b):=⟨B.kind,B.failed,B.pend,p.trans B.perm⟩
theorem qGy {st:SortSt} {i j:Nat} {Q:Unit->SortSt->Prop} (B:Bs κ a0 p0 st) (hj:j<=a0.size) (q:∀ st',Bs κ a0 p0 st'->Chg (arrOf st) (arrOf st') i j->(∀ k,i<=k->k<j->gt (arrOf st') k=gt (arrOf st) (i+j - 1 - k))->Q () st'):wpS (model prog w) A E s (reverseSlice' i j) Q st:=by
 have hj':j<=(arrOf st).size:=by rw [B.size]; exact hj
 rw [reverseSlice'_eq]
 exact wpS_modify (q _ (B.setA (mirror_perm _ _ _ _)) (qDo hj') fun k h1 h2=>(qA5 hj' k).trans (if_pos ⟨h1,h2⟩))
theorem qGA {lo nrem m:Nat} {st:SortSt} {Q:Option (Option Nat)×Nat->SortSt->Prop} (C:Kn prog w A s κ S key) (h0:∀ x∈a0,S x) (B:Bs κ a0 p0 st) (hz:lo+nrem<=a0.size) (h1:1<=m) (hm:m<=nrem) (sg:Seg key (arrOf st) lo (lo+m))
  (q:∀ n,m<=n->n<=nrem->Seg key (arrOf st) lo (lo+n)->(n<nrem->key (gt (arrOf st) (lo+n))<key (gt (arrOf st) (lo+n - 1)))->Q (none,n) st):wpS (model prog w) A E s (forIn [m:nrem] ((none,m):Option (Option Nat)×Nat) fun _ t=>ltAt' (lo+t.2) (lo+t.2 - 1) >>= fun x=>match x with
   | some b=>if b=true then pure (ForInStep.done (none,t.2)) else pure (uD (none,t.2+1))
   | _=>pure (ForInStep.done (some none,t.2))) Q st:=by
 refine wpS_mono (wpS_forRange (I:=fun i c st'=>st'=st/\c=(none,i)/\m<=i/\Seg key (arrOf st) lo (lo+i)) (Q:=fun c st'=>st'=st/\∃ n,c=(none,n)/\m<=n/\n<=nrem/\Seg key (arrOf st) lo (lo+n)/\(n<nrem->key (gt (arrOf st) (lo+n))<key (gt (arrOf st) (lo+n - 1)))) ?_ ?_ ?_) ?_
 ·rintro i c st' _ hi ⟨rfl,rfl,hmi,sgi⟩
  refine wpS_bind (qAr C h0 B (by dsimp only; omega) (by dsimp only; omega) ?_)
  dsimp only
  by_cases lt:key (gt (arrOf st') (lo+i))<key (gt (arrOf st') (lo+i - 1))
  ·rw [decide_eq_true lt]
   exact wpS_pure ⟨rfl,i,rfl,hmi,by omega,sgi,fun _=>lt⟩
  ·rw [decide_eq_false lt]
   refine wpS_pure ⟨rfl,rfl,by omega,fun x y hx hxy hy=>?_⟩
   by_cases e:y=lo+i
   ·subst e
    by_cases e2:x=lo+i
    ·rw [e2]; omega
    ·have:=sgi x (lo+i - 1) hx (by omega) (by omega)
     omega
   ·exact sgi x y hx hxy (by omega)
 ·rintro c st' ⟨rfl,rfl,hmi,sgi⟩
  rw [Nat.max_eq_right hm] at hmi sgi ⊢
  exact ⟨rfl,nrem,rfl,hmi,wF _,sgi,fun z=>absurd z (vX _)⟩
 ·exact ⟨rfl,rfl,wF _,sg⟩
 ·rintro c st' ⟨rfl,n,rfl,n1,n2,n3,n4⟩
  exact q n n1 n2 n3 n4
theorem qFD {lo n ok:Nat} {st:SortSt} {Q:Bool->SortSt->Prop} (C:Kn prog w A s κ S key) (h0:∀ x∈a0,S x) (B:Bs κ a0 p0 st) (hz:lo+n<=a0.size) (h1:1<=ok) (hn:ok<=n) (sg:Seg key (arrOf st) lo (lo+ok))
  (q:∀ st',Bs κ a0 p0 st'->Chg (arrOf st) (arrOf st') lo (lo+n)->Seg key (arrOf st') lo (lo+n)->Q true st'):wpS (model prog w) A E s (binarySort' lo n ok) Q st:=by
 refine wpS_bind (wpS_mono (wpS_forRange (I:=fun k c st'=>c=(none,())/\ok<=k/\Bs κ a0 p0 st'/\Chg (arrOf st) (arrOf st') lo (lo+n)/\Seg key (arrOf st') lo (lo+k)) (Q:=fun c st'=>c=(none,())/\Bs κ a0 p0 st'/\Chg (arrOf st) (arrOf st') lo (lo+n)/\Seg key (arrOf st') lo (lo+n)) ?_ ?_ ?_) ?_)
 ·rintro k c st1 _ hk ⟨rfl,hok,B1,g1,s1⟩
  have sz:=B1.size
  refine wpS_bind (wpS_mono (wpS_forRange (I:=fun i c st'=>st'=st1/\c.1=none/\c.2.1<=c.2.2/\c.2.2<=k/\(∀ x,x<c.2.1->¬ key (gt (arrOf st1) (lo+k))<key (gt (arrOf st1) (lo+x)))/\(∀ x,c.2.2<=x->x<k->key (gt (arrOf st1) (lo+k))<key (gt (arrOf st1) (lo+x)))/\c.2.2+i<=c.2.1+k) (Q:=fun c st'=>st'=st1/\c.1=none/\c.2.1<=k/\(∀ x,x<c.2.1->¬ key (gt (arrOf st1) (lo+k))<key (gt (arrOf st1) (lo+x)))/\(∀ x,c.2.1<=x->x<k->key (gt (arrOf st1) (lo+k))<key (gt (arrOf st1) (lo+x)))) ?_ ?_ ?_) ?_)
  ·rintro i ⟨c1,l,r⟩ st2 _ hi ⟨rfl,rfl,i1,i2,i3,i4,i5⟩
   dsimp only at i1 i2 i3 i4 i5 ⊢
   by_cases z:l≥r
   ·rw [if_pos z]
    have e:l=r:=by omega
    subst e
    exact wpS_pure ⟨rfl,rfl,i2,i3,i4⟩
   rw [if_neg z]
   refine wpS_bind (qAr C h0 B1 (by omega) (by omega) ?_)
   by_cases lt:key (gt (arrOf st2) (lo+k))<key (gt (arrOf st2) (lo+(l+r) / 2))
   ·rw [decide_eq_true lt]
    refine wpS_pure ⟨rfl,rfl,by dsimp only; omega,by dsimp only; omega,i3,fun x h1 h2=>?_,by dsimp only; omega⟩
    dsimp only at h1
    by_cases e:r<=x
    ·exact i4 x e h2
    ·have:=s1 (lo+(l+r) / 2) (lo+x) (by omega) (by omega) (by omega)
     omega
   ·rw [decide_eq_false lt]
    refine wpS_pure ⟨rfl,rfl,by dsimp only; omega,i2,fun x h1=>?_,i4,by dsimp only; omega⟩
    dsimp only at h1
    by_cases e:x<l
    ·exact i3 x e
    ·have:=s1 (lo+x) (lo+(l+r) / 2) (by omega) (by omega) (by omega)
     omega
  ·rintro ⟨c1,l,r⟩ st2 ⟨rfl,rfl,i1,i2,i3,i4,i5⟩
   dsimp only at i1 i2 i3 i4 i5 ⊢
   have e:l=r:=by omega
   subst e
   exact ⟨rfl,rfl,i2,i3,i4⟩
  ·exact ⟨rfl,rfl,zV _,wF _,fun x h=>absurd h (vT x),fun x h1 h2=>absurd h2 (by dsimp only at h1; omega),by dsimp only; omega⟩
  rintro ⟨c1,l,r⟩ st2 ⟨rfl,rfl,i2,i3,i4⟩
  dsimp only at i2 i3 i4 ⊢
  refine wpS_bind (wpS_modify (wpS_pure ?_))
  have hs:lo+k<(arrOf st2).size:=by omega
  have gb:∀ x,gt (bubble (arrOf st2) (lo+k) (lo+k - (lo+l))) x=if x=lo+l then gt (arrOf st2) (lo+k) else if lo+l<x/\x<=lo+k then gt (arrOf st2) (x - 1) else gt (arrOf st2) x:=fun x=>by
   have e:=getElem?_bubble hs (lo+k - (lo+l)) (by omega) x
   rw [show lo+k - (lo+k - (lo+l))=lo+l by omega] at e
   split
   ·next h=>rw [if_pos h] at e; exact qD7 e
   ·next h=>
    rw [if_neg h] at e
    split
    ·next h2=>rw [if_pos h2] at e; exact qD7 e
    ·next h2=>rw [if_neg h2] at e; exact qD7 e
  refine ⟨rfl,by omega,B1.setA (bubble_perm _ _ _),g1.trans ⟨bubble_perm _ _ _,fun x hx=>?_⟩,fun x y h1 h2 h3=>?_⟩
  ·show gt (bubble _ _ _) x=_
   rw [gb,if_neg (by omega),if_neg (by omega)]
  ·show key (gt (bubble _ _ _) x)<=key (gt (bubble _ _ _) y)
   rw [gb,gb]
   have a1:∀ z,lo<=z->z<lo+l->key (gt (arrOf st2) z)<=key (gt (arrOf st2) (lo+k)):=fun z z1 z2=>by
    have:=i3 (z - lo) (by omega)
    rw [show lo+(z - lo)=z by omega] at this
    omega
   have a2:∀ z,lo+l<=z->z<lo+k->key (gt (arrOf st2) (lo+k))<=key (gt (arrOf st2) z):=fun z z1 z2=>by
    have:=i4 (z - lo) (by omega) (by omega)
    rw [show lo+(z - lo)=z by omega] at this
    omega
   by_cases x1:x=lo+l
   ·rw [if_pos x1]
    by_cases y1:y=lo+l
    ·rw [if_pos y1]; exact wF _
    ·rw [if_neg y1,if_pos (by omega)]
     exact a2 _ (by omega) (by omega)
   ·rw [if_neg x1]
    by_cases x2:lo+l<x/\x<=lo+k
    ·rw [if_pos x2,if_neg (by omega),if_pos (by omega)]
     exact s1 _ _ (by omega) (by omega) (by omega)
    ·rw [if_neg x2]
     by_cases y1:y=lo+l
     ·rw [if_pos y1]
      exact a1 _ (by omega) (by omega)
     ·rw [if_neg y1]
      by_cases y2:lo+l<y/\y<=lo+k
      ·rw [if_pos y2]
       exact s1 _ _ (by omega) (by omega) (by omega)
      ·rw [if_neg y2]
       exact s1 _ _ (by omega) (by omega) (by omega)
 ·rintro c st' ⟨rfl,h1,h2,h3,h4⟩
  have e:max (max ok 1) n=n:=by omega
  rw [e] at h4
  exact ⟨rfl,h2,h3,h4⟩
 ·have e:max ok 1=ok:=by omega
  rw [e]
  exact ⟨rfl,wF _,B,Chg.refl _ _ _,sg⟩
 ·rintro c st' ⟨rfl,h2,h3,h4⟩
  exact wpS_pure (q st' h2 h3 h4)
end
section
variable {prog:Program} {w:World} {A:Around} {E:Value->Shared->Prop} {s:Shared} {κ:SortKind} {S:Keyed->Prop} {key:Keyed->Nat} {a0:Array Keyed} {p0:Array (Nat×Nat×Nat)}
theorem qAI {a b:Array Keyed} {i j:Nat} (c:Chg a b i j) (r:∀ k,i<=k->k<j->gt b k=gt a (i+j - 1 - k)) (e:∀ k,i<=k->k<j->key (gt a k)=key (gt a (j - 1))) (k:Nat):key (gt b k)=key (gt a k):=by
 by_cases h:i<=k/\k<j
 ·rw [r k h.1 h.2,e (i+j - 1 - k) (by omega) (by omega),e k h.1 h.2]
 ·rw [c.out k (by omega)]
theorem YV {a b:Array Keyed} {lo hi:Nat} (e:∀ k,key (gt b k)=key (gt a k)) (d:Down key a lo hi):Down key b lo hi:=fun i j h1 h2 h3=>by
 rw [e,e]
 exact d i j h1 h2 h3
theorem J4 {a:Array Keyed} {lo hi:Nat} (d:Down key a lo hi) (h:lo<hi->key (gt a hi)<=key (gt a (hi - 1))):Down key a lo (hi+1):=fun i j h1 h2 h3=>by
 by_cases e:j=hi
 ·subst e
  by_cases e2:i=j
  ·rw [e2]; exact wF _
  ·have:=h (by omega)
   have:=d i (j - 1) h1 (by omega) (by omega)
   omega
 ·exact d i j h1 h2 (by omega)
theorem qJm {lo nrem:Nat} {st:SortSt} {Q:Option Nat->SortSt->Prop} (C:Kn prog w A s κ S key) (h0:∀ x∈a0,S x) (B:Bs κ a0 p0 st) (hz:lo+nrem<=a0.size) (h1:1<=nrem)
  (q:∀ n st',Bs κ a0 p0 st'->Chg (arrOf st) (arrOf st') lo (lo+nrem)->1<=n->n<=nrem->Seg key (arrOf st') lo (lo+n)->Q (some n) st'):wpS (model prog w) A E s (countRun' lo nrem) Q st:=by
 refine wpS_bind (qGA C h0 B hz (wF 1) h1 (fun i j h1 h2 h3=>by rw [show i=j by omega]; exact wF _) fun n n1 n2 sg nx=>?_)
 dsimp only
 by_cases z:n=nrem
 ·rw [if_pos (by simpa using z)]
  exact wpS_pure (q n st B (Chg.refl _ _ _) n1 n2 sg)
 rw [if_neg (by simpa using z)]
 have nx:=nx (by omega)
 by_cases n2':n > 1
 case' pos=>
  rw [if_pos n2']
  refine wpS_bind (qAr C h0 B (by omega) (by omega) ?_)
  by_cases rose:key (gt (arrOf st) lo)<key (gt (arrOf st) (lo+n - 1))
  case pos=>
   rw [decide_eq_true rose]
   exact wpS_pure (q n st B (Chg.refl _ _ _) n1 n2 sg)
  case' neg=>
  rw [decide_eq_false rose]
  dsimp only
  rw [if_neg wR]
  have eq:∀ k,lo<=k->k<lo+n->key (gt (arrOf st) k)=key (gt (arrOf st) (lo+n - 1)):=fun k k1 k2=>by
   have:=sg lo k (wF _) k1 k2
   have:=sg k (lo+n - 1) k1 (by omega) (by omega)
   omega
  refine wpS_bind (qGy B (show lo+n<=a0.size by omega) fun st1 B1 c1 r1=>?_)
  have ke:=qAI (key:=key) c1 r1 eq
  have d1:Down key (arrOf st1) lo (lo+(n+1)):=J4 (hi:=lo+n) (YV ke fun i j h1 h2 h3=>by rw [eq i h1 (by omega),eq j (by omega) h3]; exact wF _) fun _=>by
   rw [ke,ke]
   omega
  have g1:=c1.wide (wF lo) (show lo+n<=lo+nrem by omega)
 case' neg=>
  rw [if_neg n2']
  obtain ⟨st1,e1⟩:∃ st1,st1=st:=⟨_,rfl⟩
  have d1:Down key (arrOf st) lo (lo+(n+1)):=J4 (hi:=lo+n) (fun i j h1 h2 h3=>by rw [show i=j by omega]; exact wF _) fun _=>by omega
  have B1:=B
  have g1:=Chg.refl (arrOf st) lo (lo+nrem)
  have gg:Chg (arrOf st) (arrOf st1) lo (lo+nrem):=by rw [e1]; exact g1
  clear g1
  have g1:=gg
  rw [<- e1] at d1 B1
  have hw:∀{m:StateT SortSt Sem (Option Nat)},wpS (model prog w) A E s m Q st1->wpS (model prog w) A E s m Q st:=fun h=>e1 ▸ h
  refine hw ?_
 all_goals
  refine wpS_bind (Y3 ?_)
  refine wpS_bind (wpS_mono (wpS_forRange (I:=fun i c st'=>∃ neq,c=(none,i,neq)/\n+1<=i/\Bs κ a0 p0 st'/\Chg (arrOf st) (arrOf st') lo (lo+nrem)/\Down key (arrOf st') lo (lo+i)/\neq+1<=i/\∀ x,lo+i - (neq+1)<=x->x<lo+i->key (gt (arrOf st') x)=key (gt (arrOf st') (lo+i - 1)))
   (Q:=fun c st'=>∃ i neq,c=(none,i,neq)/\n+1<=i/\i<=nrem/\Bs κ a0 p0 st'/\Chg (arrOf st) (arrOf st') lo (lo+nrem)/\Down key (arrOf st') lo (lo+i)/\neq+1<=i/\∀ x,lo+i - (neq+1)<=x->x<lo+i->key (gt (arrOf st') x)=key (gt (arrOf st') (lo+i - 1))) ?_ ?_ ?_) ?_)
  ·rintro i c st2 _ hi ⟨neq,rfl,i1,B2,g2,d2,i2,i3⟩
   dsimp only
   refine wpS_bind (qAr C h0 B2 (by omega) (by omega) ?_)
   by_cases lt:key (gt (arrOf st2) (lo+i))<key (gt (arrOf st2) (lo+i - 1))
   ·rw [decide_eq_true lt]
    dsimp only
    rw [if_pos rfl]
    by_cases nz:neq > 0
    ·rw [if_pos nz]
     refine wpS_bind (qGy B2 (by omega) fun st3 B3 c3 r3=>wpS_pure ?_)
     have ke:=qAI (key:=key) c3 r3 (by rw [show lo+i - (neq+1)=lo+i - (neq+1) from rfl]; exact i3)
     refine ⟨0,rfl,by omega,B3,g2.trans (c3.wide (by omega) (by omega)),J4 (hi:=lo+i) (YV ke d2) fun _=>?_,by omega,fun x h1 h2=>?_⟩
     ·rw [ke,ke]; omega
     ·rw [show x=lo+(i+1) - 1 by omega]
    ·rw [if_neg nz]
     refine wpS_pure ⟨0,rfl,by omega,B2,g2,J4 (hi:=lo+i) d2 fun _=>by omega,by omega,fun x h1 h2=>?_⟩
     rw [show x=lo+(i+1) - 1 by omega]
   ·rw [decide_eq_false lt]
    dsimp only
    rw [if_neg wR]
    refine wpS_bind (qAr C h0 B2 (by omega) (by omega) ?_)
    by_cases lt2:key (gt (arrOf st2) (lo+i - 1))<key (gt (arrOf st2) (lo+i))
    ·rw [decide_eq_true lt2]
     dsimp only
     rw [if_pos rfl]
     exact wpS_pure ⟨i,neq,rfl,i1,by omega,B2,g2,d2,i2,i3⟩
    ·rw [decide_eq_false lt2]
     dsimp only
     rw [if_neg wR]
     refine wpS_pure ⟨neq+1,rfl,by omega,B2,g2,J4 (hi:=lo+i) d2 fun _=>by omega,by omega,fun x h1 h2=>?_⟩
     rw [show lo+(i+1) - 1=lo+i by omega]
     by_cases e:x=lo+i
     ·rw [e]
     ·rw [i3 x (by omega) (by omega)]
      omega
  ·rintro c st2 ⟨neq,rfl,i1,B2,g2,d2,i2,i3⟩
   have e:max (n+1) nrem=nrem:=by omega
   rw [e] at i1 d2 i2 i3 ⊢
   exact ⟨nrem,neq,rfl,i1,wF _,B2,g2,d2,i2,i3⟩
  ·exact ⟨0,rfl,wF _,B1,g1,d1,by omega,fun x h1 h2=>by rw [show x=lo+(n+1) - 1 by omega]⟩
  rintro c st2 ⟨i,neq,rfl,i1,i4,B2,g2,d2,i2,i3⟩
  dsimp only
  by_cases nz:neq > 0
  case' pos=>
   rw [if_pos nz]
   refine wpS_bind (qGy B2 (by omega) fun st3 B3 c3 r3=>?_)
   have ke:=qAI (key:=key) c3 r3 i3
   have d3:=YV ke d2
   have g3:=g2.trans (c3.wide (show lo<=lo+i - (neq+1) by omega) (show lo+i<=lo+nrem by omega))
  case' neg=>
   rw [if_neg nz]
   obtain ⟨st3,e3⟩:∃ st3,st3=st2:=⟨_,rfl⟩
   rw [<- e3] at B2 g2 d2 ⊢
   have B3:=B2
   have d3:=d2
   have g3:=g2
  all_goals
   refine wpS_bind (qGy B3 (show lo+i<=a0.size by omega) fun st4 B4 c4 r4=>?_)
   have g4:=g3.trans (c4.wide (wF lo) (show lo+i<=lo+nrem by omega))
   have s4:Seg key (arrOf st4) lo (lo+i):=fun x y h1 h2 h3=>by
    rw [r4 x h1 (by omega),r4 y (by omega) h3]
    exact d3 _ _ (by omega) (by omega) (by omega)
   refine wpS_bind (qGA C h0 B4 hz (by omega) i4 s4 fun m m1 m2 m3 _=>?_)
   exact wpS_pure (q m st4 B4 g4 (by omega) m2 m3)
end
noncomputable def QS (key:Keyed->Nat) (a:Array Keyed):List (Nat×Nat×Nat)->Nat->Nat->Prop
 | [],s,e=>s=e
 | x::r,s,e=>x.1=s/\1<=x.2.1/\Seg key a s (s+x.2.1)/\QS key a r (s+x.2.1) e
section
variable {key:Keyed->Nat} {a b:Array Keyed}
theorem QG:∀{l m:List (Nat×Nat×Nat)} {s e:Nat},QS key a (l++m) s e↔∃ k,QS key a l s k/\QS key a m k e
 | [],m,s,e=>⟨fun h=>⟨s,rfl,h⟩,fun ⟨k,h1,h2⟩=>by rw [show s=k from h1]; exact h2⟩
 | x::l,m,s,e=>by
  show (_/\_/\_/\QS key a (l++m) _ e)↔_
  rw [QG]
  exact ⟨fun ⟨h1,h2,h3,k,h4,h5⟩=>⟨k,⟨h1,h2,h3,h4⟩,h5⟩,fun ⟨k,⟨h1,h2,h3,h4⟩,h5⟩=>⟨h1,h2,h3,k,h4,h5⟩⟩
theorem Qv:∀{l:List (Nat×Nat×Nat)} {s e:Nat},QS key a l s e->s+l.length<=e
 | [],s,e,h=>uJ h
 | x::l,s,e,h=>by
  have:=Qv h.2.2.2
  have:=h.2.1
  rw [wW]
  omega
theorem qDB {lo hi:Nat} (h:∀ k,lo<=k->k<hi->gt b k=gt a k) (g:Seg key a lo hi):Seg key b lo hi:=fun i j h1 h2 h3=>by
 rw [h i h1 (by omega),h j (by omega) h3]
 exact g i j h1 h2 h3
theorem QL:∀{l:List (Nat×Nat×Nat)} {s e:Nat},(∀ k,s<=k->k<e->gt b k=gt a k)->QS key a l s e->QS key b l s e
 | [],s,e,_,h=>h
 | x::l,s,e,g,h=>by
  have l1:=Qv h.2.2.2
  exact ⟨h.1,h.2.1,qDB (fun k k1 k2=>g k k1 (by omega)) h.2.2.1,QL (fun k k1 k2=>g k (by omega) k2) h.2.2.2⟩
theorem qDi {l1 l2:List (Nat×Nat×Nat)} {sa na p sb nb r lo:Nat} (h:QS key a (l1++(sa,na,p)::(sb,nb,r)::l2) 0 lo) (o:∀ k,k<sa\/sa+na+nb<=k->gt b k=gt a k) (sg:Seg key b sa (sa+na+nb)):QS key b (l1++(sa,na+nb,p)::l2) 0 lo:=by
 obtain ⟨k,h1,h2⟩:=QG.mp h
 obtain ⟨e1,q1,q2,e2,q3,q4,q5⟩:=h2
 simp only at e1 q1 q2 e2 q3 q4 q5
 subst e1
 refine QG.mpr ⟨sa,QL (fun k _ k2=>o k (.inl k2)) h1,rfl,by show 1<=na+nb; omega,?_,?_⟩
 ·show Seg key b sa (sa+(na+nb))
  rw [<- Nat.add_assoc]
  exact sg
 ·show QS key b l2 (sa+(na+nb)) lo
  rw [<- Nat.add_assoc]
  exact QL (fun k k1 _=>o k (.inr k1)) q5
theorem Yg {i j t:Nat} (h:i+t<j) (hj:j<=a.size):gt (a.extract i j) t=gt a (i+t):=by
 refine qD7 ?_
 rw [Array.getElem?_extract,if_pos (by omega)]
theorem Jg {i j:Nat} (hj:j<=a.size):(a.extract i j).size=j - i:=by rw [Array.size_extract]; omega
theorem qAK {i j:Nat} {S:Keyed->Prop} (h:∀ x∈a,S x):∀ x∈a.extract i j,S x:=fun x hx=>by
 rw [<- yN,YI] at hx
 exact h x (yN.mp (WN (uW hx)))
theorem qIF {c:Array Keyed} (o:qFI key c):Ord key c.toList:=by
 refine gD.mpr fun i j hi hj ij=>?_
 rw [JC hi,JC hj]
 exact o i j (by omega) (by simpa using hj)
noncomputable def wrote (s0:Nat) (m:List Keyed) (a:Array Keyed):Array Keyed:=m.zipIdx.foldl (fun a x=>a.setIfInBounds (s0+x.2) x.1) a
theorem Y6 (s0:Nat):∀(m:List Keyed) (c:Nat) (a:Array Keyed),s0+c+m.length<=a.size->((m.zipIdx c).foldl (fun a x=>a.setIfInBounds (s0+x.2) x.1) a).toList=a.toList.take (s0+c)++m++a.toList.drop (s0+c+m.length)
 | [],c,a,h=>by
  show a.toList=a.toList.take (s0+c)++[]++a.toList.drop (s0+c+0)
  rw [zI,fT,xP]
 | x::m,c,a,h=>by
  rw [wW] at h
  rw [List.zipIdx_cons,UI,Y6 s0 m (c+1) _ (by rw [ZL]; omega),TQ]
  have hl:s0+c<a.toList.length:=by rw [wN]; omega
  rw [wW,show s0+(c+1)=s0+c+1 by omega,show s0+c+(m.length+1)=s0+c+1+m.length by omega]
  rw [yW (by rw [vC]; exact hl),List.getElem_set_self,List.take_set_of_le (wF _),List.drop_set_of_lt (by omega)]
  simp
theorem qEH {l1 m l2:List Keyed} {c:Array Keyed} (e:c.toList=l1++m++l2):(∀ k,k<l1.length->gt c k=l1.getD k dK)/\(∀ k,k<m.length->gt c (l1.length+k)=m.getD k dK)/\∀ k,gt c (l1.length+m.length+k)=l2.getD k dK:=by
 have g:∀ k,gt c k=(l1++m++l2).getD k dK:=fun k=>by
  rw [<- e]
  unfold gt
  rw [yG,wH,yE]
 refine ⟨fun k hk=>?_,fun k hk=>?_,fun k=>?_⟩
 ·rw [g,wH,yF,yL hk,wH]
 ·rw [g,wH,yL (by rw [wV]; omega),zO (by omega),xY,wH]
 ·rw [g,wH,zO (by rw [wV]; omega),wV,xY,wH]
theorem qFK (a:Array Keyed) (k:Nat):a.toList.getD k dK=gt a k:=by
 unfold gt
 rw [yG,wH,yE]
theorem qG0 {s1 sb kb:Nat} {r:List Keyed} (h1:s1<=sb) (h2:sb+kb<=a.size) {sa e:Nat} (ha:sa<=s1) (he:sb+kb<=e) (es:e<=a.size) (A1:Seg key a sa sb) (A2:Seg key a sb e)
  (lo:∀ t,sa<=t->t<s1->key (gt a t)<=key (gt a sb)) (hi:∀ t,sb+kb<=t->t<e->sa<sb->key (gt a (sb - 1))<=key (gt a t)) (hr:r=mrg key (a.extract s1 sb).toList (a.extract sb (sb+kb)).toList):(wrote s1 r a).Perm a/\(∀ k,k<s1\/sb+kb<=k->gt (wrote s1 r a) k=gt a k)/\Seg key (wrote s1 r a) sa e:=by
 have x1:(a.extract s1 sb).size=sb - s1:=Jg (by omega)
 have x2:(a.extract sb (sb+kb)).size=kb:=by rw [Jg h2]; omega
 have rl:r.length=sb - s1+kb:=by rw [hr,qCV,wN,wN,x1,x2]
 have rp:r.Perm ((a.extract s1 sb).toList++(a.extract sb (sb+kb)).toList):=hr ▸ Qo key _ _
 have ro:Ord key r:=by
  rw [hr]
  refine qCZ key (qIF fun i j ij hj=>?_) (qIF fun i j ij hj=>?_)
  ·rw [x1] at hj
   rw [Yg (by omega) (by omega),Yg (by omega) (by omega)]
   exact A1 _ _ (by omega) (by omega) (by omega)
  ·rw [x2] at hj
   rw [Yg (by omega) h2,Yg (by omega) h2]
   exact A2 _ _ (by omega) (by omega) (by omega)
 have wl:(wrote s1 r a).toList=a.toList.take s1++r++a.toList.drop (sb+kb):=by
  have:=Y6 s1 r 0 a (by omega)
  rw [fT,rl,show s1+(sb - s1+kb)=sb+kb by omega] at this
  exact this
 have tl:(a.toList.take s1).length=s1:=by rw [zP,wN]; omega
 obtain ⟨g1,g2,g3⟩:=qEH wl
 rw [tl] at g1 g2 g3
 have o1:∀ k,k<s1->gt (wrote s1 r a) k=gt a k:=fun k hk=>by
  rw [g1 k hk,wH,TV hk,<- wH,qFK]
 have o3:∀ k,sb+kb<=k->gt (wrote s1 r a) k=gt a k:=fun k hk=>by
  have:=g3 (k - (sb+kb))
  rw [rl,show s1+(sb - s1+kb)+(k - (sb+kb))=k by omega] at this
  rw [this,wH,VA,show sb+kb+(k - (sb+kb))=k by omega,<- wH,qFK]
 have o2:∀ k,s1<=k->k<sb+kb->∃ h:k - s1<r.length,gt (wrote s1 r a) k=r[k - s1]:=fun k k1 k2=>by
  have hk:k - s1<r.length:=by omega
  have:=g2 (k - s1) hk
  rw [show s1+(k - s1)=k by omega] at this
  exact ⟨hk,by rw [this,wH,wA hk]; rfl⟩
 have src:∀ x∈r,∃ t,s1<=t/\t<sb+kb/\gt a t=x:=fun x hx=>by
  rcases zR.mp (rp.mem_iff.mp hx) with z | z
  ·rw [YI] at z
   obtain ⟨j,j1,j2,_,rfl⟩:=qC7 z
   exact ⟨j,j1,by omega,rfl⟩
  ·rw [YI] at z
   obtain ⟨j,j1,j2,_,rfl⟩:=qC7 z
   exact ⟨j,by omega,by omega,rfl⟩
 refine ⟨?_,fun k hk=>hk.elim (o1 k) (o3 k),fun i j hi' ij hj=>?_⟩
 ·rw [uP,wl]
  have e1:a.toList=a.toList.take s1++((a.toList.drop s1).take (sb - s1)++(a.toList.drop sb).take kb)++a.toList.drop (sb+kb):=by
   have c1:=(xP (sb+kb) a.toList).symm
   rw [qEk (show s1<=sb+kb by omega)] at c1
   have c2:(a.toList.drop s1).take (sb+kb - s1)=(a.toList.drop s1).take (sb - s1)++(a.toList.drop sb).take kb:=by
    have:=List.take_add (l:=a.toList.drop s1) (i:=sb - s1) (j:=kb)
    rw [TN,show s1+(sb - s1)=sb by omega,show sb - s1+kb=sb+kb - s1 by omega] at this
    exact this
   rw [c2] at c1
   exact c1
  rw [YI,YI,show sb+kb - sb=kb by omega] at rp
  conv=>rhs; rw [e1]
  exact (rp.append_left _).append_right _
 ·by_cases z:i=j
  ·rw [z]; exact wF _
  by_cases i1:i<s1
  ·rw [o1 i i1]
   by_cases j1:j<s1
   ·rw [o1 j j1]
    exact A1 i j hi' ij (by omega)
   ·by_cases j2:j<sb+kb
    ·obtain ⟨h,e⟩:=o2 j (by omega) j2
     rw [e]
     obtain ⟨t,t1,t2,e'⟩:=src _ (yI h)
     rw [<- e']
     by_cases t3:t<sb
     ·exact A1 i t hi' (by omega) t3
     ·have:=lo i hi' i1
      have:=A2 sb t (wF _) (by omega) (by omega)
      omega
    ·rw [o3 j (by omega)]
     have:=lo i hi' i1
     have:=A2 sb j (wF _) (by omega) hj
     omega
  ·by_cases i2:i<sb+kb
   ·obtain ⟨h,e⟩:=o2 i (by omega) i2
    rw [e]
    by_cases j2:j<sb+kb
    ·obtain ⟨h',e'⟩:=o2 j (by omega) j2
     rw [e']
     exact gD.mp ro _ _ h h' (by omega)
    ·rw [o3 j (by omega)]
     obtain ⟨t,t1,t2,e'⟩:=src _ (yI h)
     rw [<- e']
     by_cases t3:t<sb
     ·have:=hi j (by omega) hj (by omega)
      have:=A1 t (sb - 1) (by omega) (by omega) (by omega)
      omega
     ·exact A2 t j (by omega) (by omega) hj
   ·rw [o3 i (by omega),o3 j (by omega)]
    exact A2 i j (by omega) (by omega) hj
end
theorem qBK {α:Type} (x y z:α) (l2:List α):∀ l1:List α,((l1++x::y::l2).set l1.length z).eraseIdx (l1.length+1)=l1++z::l2
 | []=>rfl
 | a::l1=>congrArg (a :: ·) (qBK x y z l2 l1)
theorem JR {α:Type} {l:List α} {i:Nat} (h:i+1<l.length):∃ l1 x y l2,l=l1++x::y::l2/\l1.length=i:=by
 refine ⟨l.take i,l[i],l[i+1],l.drop (i+2),?_,by rw [zP]; omega⟩
 have e1:=ZC (show i<l.length by omega)
 have e2:=ZC h
 rw [<- e2,<- e1]
 exact (xP i l).symm
structure Rn (κ:SortKind) (key:Keyed->Nat) (a0:Array Keyed) (lo:Nat) (st:SortSt):Prop where
 kind:kindOf st=κ
 failed:failedOf st=none
 perm:(arrOf st).Perm a0
 ch:QS key (arrOf st) (pendingOf st).toList 0 lo
section
variable {prog:Program} {w:World} {A:Around} {E:Value->Shared->Prop} {s:Shared} {κ:SortKind} {S:Keyed->Prop} {key:Keyed->Nat} {a0:Array Keyed}
theorem qMa {st st':SortSt} {Q:PUnit->SortSt->Prop} (q:Q ⟨⟩ st'):wpS (model prog w) A E s (set st':StateT SortSt Sem PUnit) Q st:=by
 unfold wpS
 rw [StateT.run_set]
 exact wK ⟨rfl,q⟩
theorem qA4 {i lo:Nat} {st:SortSt} {Q:Bool->SortSt->Prop} (C:Kn prog w A s κ S key) (h0:∀ x∈a0,S x) (B:Rn κ key a0 lo st) (hlo:lo<=a0.size) (hi:i+1<(pendingOf st).size)
  (q:∀ st',Rn κ key a0 lo st'->(pendingOf st').size+1=(pendingOf st).size->(∀ k,lo<=k->gt (arrOf st') k=gt (arrOf st) k)->Q true st'):wpS (model prog w) A E s (mergeAt' i) Q st:=by
 obtain ⟨l1,⟨sa,na,p⟩,⟨sb,nb,r⟩,l2,el,ll⟩:=JR (l:=(pendingOf st).toList) (i:=i) (by rw [wN]; exact hi)
 have ch:=B.ch
 rw [el] at ch
 obtain ⟨k,c1,c2⟩:=QG.mp ch
 obtain ⟨z1,q1,A1,z2,q2,A2,c3⟩:=c2
 simp only at z1 q1 A1 z2 q2 A2 c3
 subst z1
 subst z2
 have cl:=Qv c3
 have sz:(arrOf st).size=a0.size:=B.perm.size_eq
 have e1:(pendingOf st)[i]? = some (sa,na,p):=by
  rw [<- yE,el,zO (by omega),ll,VN]
  rfl
 have e2:(pendingOf st)[i+1]? = some (sa+na,nb,r):=by
  rw [<- yE,el,zO (by omega),ll,xY]
  rfl
 have pe:(((pendingOf st).setIfInBounds i (sa,na+nb,p)).eraseIdxIfInBounds (i+1)).toList=l1++(sa,na+nb,p)::l2:=by
  rw [Array.toList_eraseIdxIfInBounds,TQ,el,<- ll]
  exact qBK _ _ _ _ _
 generalize hpd:((pendingOf st).setIfInBounds i (sa,na+nb,p)).eraseIdxIfInBounds (i+1)=pd at pe
 have ps:pd.size+1=(pendingOf st).size:=by
  have h1:=congrArg fL pe
  have h2:=congrArg fL el
  simp only [wN,wV,wW] at h1 h2
  omega
 have Sarr:∀ x∈arrOf st,S x:=fun x hx=>h0 x (B.perm.mem_iff.mp hx)
 have fin:∀ st':SortSt,kindOf st'=κ->failedOf st'=none->pendingOf st'=pd->(arrOf st').Perm (arrOf st)->(∀ k,k<sa\/sa+na+nb<=k->gt (arrOf st') k=gt (arrOf st) k)->Seg key (arrOf st') sa (sa+na+nb)->Q true st':=fun st' f1 f2 f3 f4 f5 f6=>
  q st' ⟨f1,f2,f4.trans B.perm,by rw [f3,pe]; exact qDi ch f5 f6⟩ (by rw [f3]; exact ps) fun k hk=>f5 k (.inr (by omega))
 refine wpS_bind (wpS_get ?_)
 rw [e1,e2]
 dsimp only
 rw [hpd]
 refine wpS_bind (qMa (st':=SortSt.mk' (kindOf st) (arrOf st) pd (gallopOf st) (failedOf st)) ?_)
 generalize hst:(SortSt.mk' (kindOf st) (arrOf st) pd (gallopOf st) (failedOf st))=st1
 have k1:kindOf st1=κ:=by rw [<- hst]; exact B.kind
 have f1:failedOf st1=none:=by rw [<- hst]; exact B.failed
 have p1:pendingOf st1=pd:=by rw [<- hst]
 have a1:arrOf st1=arrOf st:=by rw [<- hst]
 have hsb:sa+na<(arrOf st).size:=by omega
 refine wpS_bind (qv (qZ hsb) ?_)
 obtain ⟨kk,n1,n2,n3⟩:=qFa (st:=st1) (E:=E) (b:=sa) (n:=na) C k1 (Sarr _ (ja hsb)) Sarr (by omega) A1
 refine wpS_bind (jg (by omega) n1 n2 ?_)
 dsimp only
 have low:∀ t,sa<=t->t<sa+kk->key (gt (arrOf st) t)<=key (gt (arrOf st) (sa+na)):=fun t t1 t2=>by
  have:=(n3 (t - sa) (by omega)).mpr (by omega)
  rw [show sa+(t - sa)=t by omega] at this
  omega
 have both:(∀ t,sa<=t->t<sa+na->key (gt (arrOf st) t)<=key (gt (arrOf st) (sa+na)))->Seg key (arrOf st) sa (sa+na+nb):=fun h x y x1 xy y1=>by
  by_cases y2:y<sa+na
  ·exact A1 x y x1 xy y2
  ·by_cases x2:x<sa+na
   ·have:=h x x1 x2
    have:=A2 (sa+na) y (wF _) (by omega) y1
    omega
   ·exact A2 x y (by omega) xy y1
 by_cases z:na - kk=0
 ·rw [if_pos (by simpa using z)]
  refine wpS_pure (fin st1 k1 f1 p1 (by rw [a1]) (fun k _=>by rw [a1]) ?_)
  rw [a1]
  exact both fun t t1 t2=>low t t1 (by omega)
 rw [if_neg (by simpa using z)]
 have hla:sa+kk+(na - kk) - 1<(arrOf st).size:=by omega
 refine wpS_bind (qv (qZ hla) ?_)
 rw [show sa+kk+(na - kk) - 1=sa+na - 1 by omega] at hla ⊢
 obtain ⟨kb,m1,m2,m3⟩:=qF6 (st:=st1) (E:=E) (b:=sa+na) (n:=nb) C k1 (Sarr _ (ja hla)) Sarr (by omega) A2
 refine wpS_bind (jg (by omega) m1 m2 ?_)
 dsimp only
 by_cases z':kb=0
 ·rw [if_pos (by simpa using z')]
  refine wpS_pure (fin st1 k1 f1 p1 (by rw [a1]) (fun k _=>by rw [a1]) ?_)
  rw [a1]
  refine both fun t t1 t2=>?_
  have h1:¬ key (gt (arrOf st) (sa+na+0))<key (gt (arrOf st) (sa+na - 1)):=fun q=>by
   have:=(m3 0 (by omega)).mp q
   omega
  have:=A1 t (sa+na - 1) t1 (by omega) (by omega)
  rw [fT] at h1
  omega
 rw [if_neg (by simpa using z')]
 have x1:((arrOf st).extract (sa+kk) (sa+na)).size=na - kk:=by rw [Jg (by omega)]; omega
 have x2:((arrOf st).extract (sa+na) (sa+na+kb)).size=kb:=by rw [Jg (by omega)]; omega
 have g1:∀ t,t<na - kk->gt ((arrOf st).extract (sa+kk) (sa+na)) t=gt (arrOf st) (sa+kk+t):=fun t ht=>Yg (by omega) (by omega)
 have g2:∀ t,t<kb->gt ((arrOf st).extract (sa+na) (sa+na+kb)) t=gt (arrOf st) (sa+na+t):=fun t ht=>Yg (by omega) (by omega)
 have oa:qFI key ((arrOf st).extract (sa+kk) (sa+na)):=fun i j ij hj=>by
  rw [x1] at hj
  rw [g1 i (by omega),g1 j hj]
  exact A1 _ _ (by omega) (by omega) (by omega)
 have ob:qFI key ((arrOf st).extract (sa+na) (sa+na+kb)):=fun i j ij hj=>by
  rw [x2] at hj
  rw [g2 i (by omega),g2 j hj]
  exact A2 _ _ (by omega) (by omega) (by omega)
 have first:key (gt ((arrOf st).extract (sa+na) (sa+na+kb)) 0)<key (gt ((arrOf st).extract (sa+kk) (sa+na)) 0):=by
  rw [g1 0 (by omega),g2 0 (by omega),fT,fT]
  exact yM fun q=>by
   have:=(n3 kk (by omega)).mp q
   omega
 have last:∀ j,j<((arrOf st).extract (sa+na) (sa+na+kb)).size->key (gt ((arrOf st).extract (sa+na) (sa+na+kb)) j)<key (gt ((arrOf st).extract (sa+kk) (sa+na)) (((arrOf st).extract (sa+kk) (sa+na)).size - 1)):=fun j hj=>by
  rw [x2] at hj
  rw [x1,g1 _ (by omega),g2 j hj,show sa+kk+(na - kk - 1)=sa+na - 1 by omega]
  exact (m3 j (by omega)).mpr hj
 have done:∀(r:Array Keyed) (st':SortSt),SG st1 st'->r.toList=mrg key ((arrOf st).extract (sa+kk) (sa+na)).toList ((arrOf st).extract (sa+na) (sa+na+kb)).toList->
   Q true (SortSt.mk' (kindOf st') (wrote (sa+kk) r.toList (arrOf st')) (pendingOf st') (gallopOf st') (failedOf st')):=fun r st' g er=>by
  obtain ⟨mg,rfl⟩:=g
  have hs:=qG0 (key:=key) (a:=arrOf st) (s1:=sa+kk) (sb:=sa+na) (kb:=kb) (r:=r.toList) (sa:=sa) (e:=sa+na+nb) (by omega) (by omega) (by omega) (by omega) (by omega) A1 A2 low (fun t t1 t2 _=>by
   have:¬ key (gt (arrOf st) (sa+na+(t - (sa+na))))<key (gt (arrOf st) (sa+na - 1)):=fun q=>by
    have:=(m3 (t - (sa+na)) (by omega)).mp q
    omega
   rw [show sa+na+(t - (sa+na))=t by omega] at this
   omega) er
  refine fin _ k1 f1 p1 ?_ (fun k hk=>?_) ?_
  ·show (wrote (sa+kk) r.toList (arrOf st1)).Perm _
   rw [a1]
   exact hs.1
  ·show gt (wrote (sa+kk) r.toList (arrOf st1)) k=_
   rw [a1]
   exact hs.2.1 k (by omega)
  ·show Seg key (wrote (sa+kk) r.toList (arrOf st1)) _ _
   rw [a1]
   exact hs.2.2
 have isn:∀ st':SortSt,SG st1 st'->(failedOf st').isNone=true:=fun st' g=>by
  obtain ⟨mg,rfl⟩:=g
  show (failedOf st1).isNone=true
  rw [f1]
  rfl
 have y1:1<=((arrOf st).extract (sa+kk) (sa+na)).size:=by rw [x1]; omega
 have y2:1<=((arrOf st).extract (sa+na) (sa+na+kb)).size:=by rw [x2]; omega
 by_cases sm:na - kk<=kb
 ·rw [if_pos sm]
  refine wpS_bind (qDy (st0:=st1) C k1 (qAK Sarr) (qAK Sarr) oa ob y1 y2 first last ⟨gallopOf st1,rfl⟩ fun r st' g er=>?_)
  refine wpS_bind (wpS_modify (wpS_bind (wpS_get (wpS_pure ?_))))
  have d:=done r st' g er
  have i:=isn st' g
  show Q ((failedOf st').isNone) _
  rw [i]
  exact d
 ·rw [if_neg sm]
  refine wpS_bind (qDr (st0:=st1) C k1 (qAK Sarr) (qAK Sarr) oa ob y1 y2 first last ⟨gallopOf st1,rfl⟩ fun r st' g er=>?_)
  refine wpS_bind (wpS_modify (wpS_bind (wpS_get (wpS_pure ?_))))
  have d:=done r st' g er
  have i:=isn st' g
  show Q ((failedOf st').isNone) _
  rw [i]
  exact d
end
section
variable {key:Keyed->Nat} {a:Array Keyed}
theorem Yh {g:Nat×Nat×Nat->Nat×Nat×Nat} (h:∀ x,(g x).1=x.1/\(g x).2.1=x.2.1):∀{l:List (Nat×Nat×Nat)} {i s e:Nat},QS key a l s e->QS key a (l.modify i g) s e
 | [],i,s,e,c=>by rw [List.modify_nil]; exact c
 | x::l,0,s,e,c=>by
  rw [List.modify_zero_cons]
  refine ⟨(h x).1.trans c.1,?_,?_,?_⟩
  ·rw [(h x).2]; exact c.2.1
  ·rw [(h x).2]; exact c.2.2.1
  ·rw [(h x).2]; exact c.2.2.2
 | x::l,i+1,s,e,c=>by
  rw [List.modify_succ_cons]
  exact ⟨c.1,c.2.1,c.2.2.1,Yh h c.2.2.2⟩
end
section
variable {prog:Program} {w:World} {A:Around} {E:Value->Shared->Prop} {s:Shared} {κ:SortKind} {S:Keyed->Prop} {key:Keyed->Nat} {a0:Array Keyed}
theorem qIk {c:Prop} [Decidable c] {n m:Nat} (h:n+1<m):(if c then n - 1 else n)+1<m:=by
 split <;> omega
theorem Rn.push {lo n:Nat} {st:SortSt} (R:Rn κ key a0 lo st) (h1:1<=n) (sg:Seg key (arrOf st) lo (lo+n)):Rn κ key a0 (lo+n) (SortSt.mk' (kindOf st) (arrOf st) ((pendingOf st).push (lo,n,0)) (gallopOf st) (failedOf st)):=
 ⟨R.kind,R.failed,R.perm,by
  show QS key (arrOf st) ((pendingOf st).push (lo,n,0)).toList 0 (lo+n)
  rw [gZ]
  exact QG.mpr ⟨lo,R.ch,rfl,h1,sg,rfl⟩⟩
theorem Rn.pows {lo i:Nat} {st:SortSt} (R:Rn κ key a0 lo st) (g:Nat×Nat×Nat->Nat×Nat×Nat) (h:∀ x,(g x).1=x.1/\(g x).2.1=x.2.1):Rn κ key a0 lo (SortSt.mk' (kindOf st) (arrOf st) ((pendingOf st).modify i g) (gallopOf st) (failedOf st)):=
 ⟨R.kind,R.failed,R.perm,by
  show QS key (arrOf st) ((pendingOf st).modify i g).toList 0 lo
  rw [Array.toList_modify]
  exact Yh h R.ch⟩
theorem qGR {st:SortSt} {Q:Unit->SortSt->Prop} (C:Kn prog w A s κ S key) (h0:∀ x∈a0,S x) (k0:kindOf st=κ) (f0:failedOf st=none) (p0:pendingOf st = #[]) (pm:(arrOf st).Perm a0) (h2:2<=a0.size)
  (q:∀ st':SortSt,failedOf st'=none->(arrOf st').Perm a0->Seg key (arrOf st') 0 a0.size->Q () st'):wpS (model prog w) A E s sortRuns' Q st:=by
 have sz:(arrOf st).size=a0.size:=pm.size_eq
 refine wpS_bind (wpS_get ?_)
 dsimp only
 rw [sz]
 generalize (sortPriv% PySem.Builtin.minRun) a0.size a0.size 0=mr
 refine wpS_bind (wpS_mono (wpS_forRange (I:=fun i c st'=>c.1=none/\i<=c.2/\c.2<=a0.size/\Rn κ key a0 c.2 st') (Q:=fun c st'=>c=(none,a0.size)/\Rn κ key a0 a0.size st') ?_ ?_ ?_) ?_)
 ·rintro i ⟨c1,lo⟩ st1 _ hi ⟨rfl,i1,i2,R⟩
  dsimp only at i1 i2 R ⊢
  by_cases z:lo≥a0.size
  ·rw [if_pos z]
   have e:lo=a0.size:=by omega
   subst e
   exact wpS_pure ⟨rfl,R⟩
  rw [if_neg z]
  have B1:Bs κ a0 (pendingOf st1) st1:=⟨R.kind,R.failed,rfl,R.perm⟩
  refine wpS_bind (qJm C h0 B1 (show lo+(a0.size - lo)<=a0.size by omega) (by omega) fun n st2 B2 c2 n1 n2 sg2=>?_)
  dsimp only
  by_cases sm:n<mr
  case' pos=>
   rw [if_pos sm]
   refine wpS_bind (Y3 ?_)
   have n4:n<=min (a0.size - lo) mr:=by omega
   have n5:lo+min (a0.size - lo) mr<=a0.size:=by omega
   generalize min (a0.size - lo) mr=fo at n4 n5 ⊢
   refine wpS_bind (qFD C h0 B2 n5 n1 n4 sg2 fun st3 B3 c3 sg3=>?_)
   rw [if_neg (show ¬ (!true)=true by decide)]
   have g3:=c2.trans (c3.wide (wF lo) (show lo+fo<=lo+(a0.size - lo) by omega))
   have m1:1<=fo:=by omega
   clear sg2 n2 sm
  case' neg=>
   rw [if_neg sm]
   obtain ⟨fo,ef⟩:∃ fo,fo=n:=⟨_,rfl⟩
   obtain ⟨st3,e3⟩:∃ st3,st3=st2:=⟨_,rfl⟩
   rw [<- ef,<- e3]
   rw [<- e3] at B2 c2 sg2
   rw [<- ef] at n1 n2 sg2
   have n5:lo+fo<=a0.size:=by omega
   have m1:=n1
   have B3:=B2
   have g3:=c2
   have sg3:=sg2
   clear sg2 sm
  all_goals
   have R3:Rn κ key a0 lo st3:=⟨B3.kind,B3.failed,B3.perm,by rw [B3.pend]; exact QL (fun k _ k2=>g3.out k (.inl k2)) R.ch⟩
   refine wpS_bind (wpS_get ?_)
   cases hb:(pendingOf st3).back? with
   | none=>
    dsimp only
    refine wpS_bind (wpS_modify (wpS_pure ⟨rfl,by dsimp only; omega,by dsimp only; omega,R3.push m1 sg3⟩))
   | some x=>
    obtain ⟨s1,l1,pw0⟩:=x
    dsimp only
    refine wpS_bind (wpS_mono (wpS_forRange (I:=fun _ c st'=>c=(none,())/\Rn κ key a0 lo st'/\∀ k,lo<=k->gt (arrOf st') k=gt (arrOf st3) k) (Q:=fun c st'=>c=(none,())/\Rn κ key a0 lo st'/\∀ k,lo<=k->gt (arrOf st') k=gt (arrOf st3) k) ?_ ?_ ?_) ?_)
    ·rintro j c st4 _ hj ⟨rfl,R4,g4⟩
     refine wpS_bind (wpS_get ?_)
     by_cases ps:(pendingOf st4).size > 1
     ·rw [if_pos ps,zJ (show (pendingOf st4).size - 2<(pendingOf st4).size by omega)]
      generalize (pendingOf st4)[(pendingOf st4).size - 2]=tr
      obtain ⟨t1,t2,older⟩:=tr
      dsimp only
      by_cases ol:older<=(sortPriv% PySem.Builtin.power) a0.size (2*s1+l1) (2*s1+l1+l1+fo) a0.size
      ·rw [if_pos ol]
       exact wpS_pure ⟨rfl,R4,g4⟩
      ·rw [if_neg ol]
       refine wpS_bind (qA4 C h0 R4 i2 (show (pendingOf st4).size - 2+1<(pendingOf st4).size by omega) fun st5 R5 _ g5=>?_)
       rw [if_neg (show ¬ (!true)=true by decide)]
       exact wpS_pure ⟨rfl,R5,fun k hk=>(g5 k hk).trans (g4 k hk)⟩
     ·rw [if_neg ps]
      exact wpS_pure ⟨rfl,R4,g4⟩
    ·exact fun c st4 h=>h
    ·exact ⟨rfl,R3,fun k _=>rfl⟩
    rintro c st4 ⟨rfl,R4,g4⟩
    dsimp only
    refine wpS_bind (wpS_modify (wpS_bind (wpS_modify (wpS_pure ?_))))
    have R5:=R4.pows (i:=(pendingOf st4).size - 1) (fun x=>match x with | (a,b,_)=>(a,b,(sortPriv% PySem.Builtin.power) a0.size (2*s1+l1) (2*s1+l1+l1+fo) a0.size)) fun x=>⟨rfl,rfl⟩
    exact ⟨rfl,by dsimp only; omega,by dsimp only; omega,R5.push m1 (qDB (fun k k1 _=>g4 k k1) sg3)⟩
 ·rintro ⟨c1,lo⟩ st1 ⟨rfl,i1,i2,R⟩
  dsimp only at i1 i2 R
  have e:lo=a0.size:=by omega
  subst e
  exact ⟨rfl,R⟩
 ·refine ⟨rfl,wF _,zV _,k0,f0,pm,?_⟩
  rw [p0]
  rfl
 rintro c st1 ⟨rfl,R⟩
 refine wpS_bind (wpS_mono (wpS_forRange (I:=fun i c st'=>c=(none,())/\Rn κ key a0 a0.size st'/\((pendingOf st').size<=1\/(pendingOf st').size+i<=a0.size)) (Q:=fun c st'=>c=(none,())/\Rn κ key a0 a0.size st'/\(pendingOf st').size<=1) ?_ ?_ ?_) ?_)
 ·rintro i c st2 _ hi ⟨rfl,R2,i1⟩
  refine wpS_bind (wpS_get ?_)
  by_cases z:(pendingOf st2).size<=1
  ·rw [if_pos z]
   exact wpS_pure ⟨rfl,R2,z⟩
  rw [if_neg z]
  refine wpS_bind (qA4 C h0 R2 (wF _) ?_ fun st3 R3 p3 _=>?_)
  ·exact qIk (show (pendingOf st2).size - 2+1<(pendingOf st2).size by omega)
  ·rw [if_neg (show ¬ (!true)=true by decide)]
   exact wpS_pure ⟨rfl,R3,by omega⟩
 ·rintro c st2 ⟨rfl,R2,i1⟩
  exact ⟨rfl,R2,by omega⟩
 ·have:=Qv R.ch
  rw [wN] at this
  exact ⟨rfl,R,.inr (by omega)⟩
 rintro c st2 ⟨rfl,R2,i1⟩
 refine wpS_pure (q st2 R2.failed R2.perm ?_)
 have ch:=R2.ch
 have hl:(pendingOf st2).toList.length<=1:=by rw [wN]; exact i1
 generalize (pendingOf st2).toList=l at ch hl
 match l,ch,hl with
 | [],ch,_=>exact absurd (show 0=a0.size from ch) (by omega)
 | [x],ch,_=>
  obtain ⟨e1,e2,e3,e4⟩:=ch
  have e4:0+x.2.1=a0.size:=e4
  rw [e4] at e3
  exact e3
end
theorem qGt {α β:Type} {f:α->β} {l m:List β} (h:l.Perm m):∀ js:List α,m=js.map f->∃ is:List α,is.Perm js/\l=is.map f:=by
 induction h with
 | nil=>
  intro js e
  cases js with
  | nil=>exact ⟨[],.nil,rfl⟩
  | cons _ _=>cases e
 | cons x _ ih=>
  intro js e
  cases js with
  | nil=>cases e
  | cons j js=>
   obtain ⟨e1,e2⟩:=uL e
   obtain ⟨is,i1,i2⟩:=ih js e2
   exact ⟨j::is,i1.cons j,by rw [i2,e1]; rfl⟩
 | swap x y l=>
  intro js e
  match js,e with
  | [],e=>cases e
  | [_],e=>cases e
  | j::k::js,e=>
   obtain ⟨e1,e2⟩:=uL e
   obtain ⟨e3,e4⟩:=uL e2
   exact ⟨k::j::js,.swap j k js,by rw [e1,e3,e4]; rfl⟩
 | trans _ _ h1 h2=>
  intro js e
  obtain ⟨is,i1,i2⟩:=h2 js e
  obtain ⟨ks,k1,k2⟩:=h1 is i2
  exact ⟨ks,k1.trans i1,k2⟩
theorem qCK {α:Type} {p q:α->Bool}:∀{l:List α},(∀ x∈l,p x=true->q x=true)->(l.filter p).length<=(l.filter q).length/\((∃ x∈l,q x=true/\p x=false)->(l.filter p).length<(l.filter q).length)
 | [],_=>⟨wF _,fun ⟨_,h,_⟩=>absurd h zU⟩
 | x::l,h=>by
  obtain ⟨h1,h2⟩:=qCK (l:=l) fun y hy=>h y (wI _ hy)
  have hx:=h x wL
  rw [xR,xR]
  cases hp:p x with
  | true=>
   rw [hx hp]
   refine ⟨ZR h1,fun ⟨y,hy,y1,y2⟩=>VW (h2 ?_)⟩
   rcases wX.mp hy with e | e
   ·rw [e,hp] at y2; cases y2
   ·exact ⟨y,e,y1,y2⟩
  | false=>
   rw [if_neg wR]
   cases hq:q x with
   | true=>exact ⟨Nat.le_succ_of_le h1,fun _=>xZ h1⟩
   | false=>
    refine ⟨h1,fun ⟨y,hy,y1,y2⟩=>h2 ?_⟩
    rcases wX.mp hy with e | e
    ·rw [e,hq] at y1; cases y1
    ·exact ⟨y,e,y1,y2⟩
noncomputable def rk (nss:List (List Int)) (ns:List Int):Nat:=(nss.filter fun m=>HT.lexLt m ns).length
theorem qKJ {nss:List (List Int)} {a b:List Int} (ha:a∈nss):decide (rk nss a<rk nss b)=HT.lexLt a b:=by
 cases h:HT.lexLt a b with
 | true=>exact decide_eq_true ((qCK fun m _ hm=>lex_trans m a b hm h).2 ⟨a,ha,h,YT a⟩)
 | false=>
  refine decide_eq_false (VB.mpr (qCK fun m _ hm=>?_).1)
  rcases qEl m a b hm with z | z
  ·exact z
  ·rw [h] at z; cases z
theorem J0:∀{vs:List Value} {ns ms:List Int},IntsAre vs ns->IntsAre vs ms->ns=ms
 | [],_,_,h,g=>by cases h; cases g; rfl
 | _::_,_,_,h,g=>by
  cases h with
  | cons x t h=>
   cases g with
   | cons y u g=>rw [J0 h g]
section
variable {prog:Program} {w:World} {A:Around} {E:Value->Shared->Prop} {s:Shared}
noncomputable def keyOf (vs:List Value) (nss:List (List Int)) (x:Keyed):Nat:=@dite Nat (∃ j,j<vs.length/\vs.getD j vP=x.1) (zY _) (fun h=>rk nss (nss.getD h.choose [])) fun _=>0
theorem JX {h:Heap} {vs:List Value} {nss:List (List Int)} (r:Rows h vs nss) {i:Nat} (hi:i<vs.length) {x:Keyed} (e:x.1=vs.getD i vP):keyOf vs nss x=rk nss (nss.getD i []):=by
 unfold keyOf
 have ex:∃ j,j<vs.length/\vs.getD j vP=x.1:=⟨i,hi,e.symm⟩
 rw [dif_pos ex]
 obtain ⟨j1,j2⟩:=ex.choose_spec
 generalize ex.choose=j at j1 j2
 obtain ⟨b1,its1,e1,t1,q1,_⟩:=r.at j1
 obtain ⟨b2,its2,e2,t2,q2,_⟩:=r.at hi
 rw [j2,e,e2] at e1
 cases e1
 obtain ⟨o1,g1,c1,n1,d1⟩:=t1
 obtain ⟨o2,g2,c2,n2,d2⟩:=t2
 rw [g1] at g2
 cases g2
 rw [d1] at d2
 cases d2
 rw [J0 q1 q2]
theorem qIN {vs:List Value} {nss:List (List Int)} (hu:A.units<cLine) (r:Rows s.heap vs nss):Kn prog w A s (tuples' true) (fun x=>∃ i,i<vs.length/\x=kas_item (pairsOf vs) i) (keyOf vs nss):=by
 rintro x y ⟨i,hi,rfl⟩ ⟨j,hj,rfl⟩ Q E hq
 have hn:=r.len
 rw [JX r hi (by rw [kas_item_eq]),JX r hj (by rw [kas_item_eq]),qKJ (by
  rw [wH,wA (by omega)]
  exact yI (by omega))] at hq
 exact xB (qFw (prog:=prog) (w:=w) hu r i j Q hi hj hq) (fun _ _ z=>z) fun _ _ z=>z.elim
theorem qDZ {R:Array Nat->Prop} {a:Addr} {vs:List Value} {n:Nat} {κ:SortKind} {P:PySem.Fin->Shared->Prop} (ho:s.heap.get? a=some (seqObj "list" vs.toArray n)) (fit:vs.length<=sizeLine)
  (hk:2<=vs.length->∀ Q:SortKind->Shared->Prop,Q κ { s with heap:=jY s.heap a vs }->wpAny (model prog w) A (keyKind' vs.toArray) Q E { s with heap:=jY s.heap a vs })
  (few:vs.length<2->R (VJ (zA vs.length)))
  (many:2<=vs.length->∀ Q:Unit->SortSt->Prop,(∀(st':SortSt) (p:Array Nat),failedOf st'=none->Pm vs.length p->R p->arrOf st'=p.map (kas_item (pairsOf vs))->Q () st')->wpS (model prog w) A E { s with heap:=jY s.heap a vs } sortRuns' Q (SortSt.mk' κ (pairsOf vs) #[] 7 none))
  (h:∀ p,Pm vs.length p->R p->P (.done (.ret .none)) { s with heap:=sortedHeap s.heap a vs (JV vs p) }):wpAny (model prog w) A (Builtin.«list.sort» ⟨[.ref a],[]⟩) P E s:=by
 have fitA:vs.toArray.size<=sizeLine:=by simpa using fit
 obtain ⟨m,o1⟩:∃ m,(s.heap.update a (fJ fun _=>(#[]:Array Value))).get? a=some (seqObj "list" #[] m):=⟨_,get?_update_seq ho _⟩
 have o2:(jY s.heap a vs).get? a=some (seqObj "list" #[] m):=wG _ (wG _ o1)
 have quiet:∀ k:Nat,(k != k)=false:=bne_self_eq_false
 rw [list_sort_plain]
 refine wC (listItems_at ho rfl (wC (listUpdate_at ho rfl (wC (seqEpoch_at o1 rfl (wC (wpAny_newTuple (wC (TY (vR ?_) (zV _))) fit)))) fitA (zV _))))
 show wpAny (model prog w) A _ P E { s with heap:=jY s.heap a vs }
 dsimp only
 rcases Nat.lt_or_ge vs.toArray.size 2 with one | more
 ·have hv:vs.length<2:=by simpa using one
  have snds:Array.map (fun x:Value×Value=>x.2) (vs.toArray.zip vs.toArray)=vs.toArray:=by
   apply VX.mp
   rw [ZS,Array.toList_zip]
   exact List.map_snd_zip (wF _)
  have g:=h _ ⟨UN _⟩ (few hv)
  rw [qFj] at g
  rw [if_pos one,if_pos one]
  refine wC (wK ?_)
  rw [StateT.run_pure]
  refine wC (wK ?_)
  show wpAny (model prog w) A (seqEpoch a >>= _) P E _
  refine wC (seqEpoch_at o2 rfl (wC (listUpdate_at o2 rfl ?_ (zV _) (by show (Array.map (fun x:Value×Value=>x.2) (vs.toArray.zip vs.toArray)).size<=_; rw [snds]; omega))))
  rw [quiet,if_neg wR]
  refine wK ?_
  show P (.done (.ret .none)) { s with heap:=(jY s.heap a vs).update a (fJ fun _=>Array.map (fun x:Value×Value=>x.2) (vs.toArray.zip vs.toArray)) }
  exact snds.symm ▸ g
 ·have hv:2<=vs.length:=by simpa using more
  have less:¬ vs.toArray.size<2:=VB.mpr more
  rw [if_neg less,if_neg less]
  refine wC (hk hv _ ?_)
  have run:=many hv (fun _ st'=>∃ p:Array Nat,Pm vs.length p/\R p/\arrOf st'=p.map (kas_item (pairsOf vs))/\failedOf st'=none) fun st' p f1 f2 f3 f4=>⟨p,f2,f3,f4,f1⟩
  refine wC (xB run (fun ⟨_,st'⟩ s' ⟨es,p,P1,P2,har,hf⟩=>?_) fun _ _ z=>z)
  cases es
  have hout:(arrOf st').map (·.2)=JV vs p:=by
   rw [har]
   apply VX.mp
   show ((p.map (kas_item (pairsOf vs))).map (·.2)).toList=p.toList.map fun i=>vs.getD i vP
   simp only [ZS,yB]
   apply gG
   intro i _
   show (kas_item (pairsOf vs) i).2=vs.getD i vP
   rw [kas_item_eq]
  have hsz:(JV vs p).size=vs.length:=by
   unfold JV
   rw [wJ,wB,wN,P1.size]
  dsimp only
  rw [hout]
  refine wC (seqEpoch_at o2 rfl (wC (listUpdate_at o2 rfl ?_ (zV _) (by show (JV vs p).size<=_; omega))))
  rw [hf,quiet,if_neg wR]
  exact wK (h p P1 P2)
theorem Y1 {a:Addr} {vs:List Value} {nss:List (List Int)} {n:Nat} {P:PySem.Fin->Shared->Prop} (hu2:A.units<cLine) (ho:s.heap.get? a=some (seqObj "list" vs.toArray n)) (r2:2<=vs.length->Rows (jY s.heap a vs) vs nss) (fit:vs.length<=sizeLine)
  (h:∀ p:Array Nat,Pm vs.length p->(p.toList.map fun i=>nss.getD i []).Pairwise (fun a b=>HT.lexLt b a=false)->P (.done (.ret .none)) { s with heap:=sortedHeap s.heap a vs (JV vs p) }):wpAny (model prog w) A (Builtin.«list.sort» ⟨[.ref a],[]⟩) P E s:=by
 refine qDZ (R:=fun p=>(p.toList.map fun i=>nss.getD i []).Pairwise (fun a b=>HT.lexLt b a=false)) (κ:=tuples' true) ho fit (fun hv Q hq=>?_) (fun few=>?_) (fun hv Q hq=>?_) h
 ·obtain ⟨fs,f1,f2,f3⟩:=(r2 hv).firsts
  refine kat_kind (T:=.type "int") f1 (by omega) (fun v hv=>?_) (by decide) hq
  obtain ⟨n,t,rfl⟩:=f3 v hv
  exact fun A Q E s' _ hq=>ZV (TC s' n t) hq
 ·have e:vs.length=0\/vs.length=1:=by omega
  rcases e with e | e
  ·rw [e]
   exact List.Pairwise.nil
  ·rw [e]
   exact SK _ _
 ·have rr:=r2 hv
  refine qGR (a0:=pairsOf vs) (qIN hu2 rr) (fun x hx=>?_) rfl rfl rfl (UN _) (by rw [pairsOf_size]; exact hv) fun st' f1 f2 f3=>?_
  ·rw [<- yN] at hx
   obtain ⟨i,hi,e⟩:=xM hx
   rw [wN,pairsOf_size] at hi
   refine ⟨i,hi,?_⟩
   rw [JC] at e
   exact e.symm
  ·have whole:(pairsOf vs).toList=(zA vs.length).map (kas_item (pairsOf vs)):=by
    have e:=(kas_range (pairsOf vs) :)
    have e2:=congrArg Array.toList e
    rw [pairsOf_size] at e2
    rw [<- e2]
    simp
   obtain ⟨is,i1,i2⟩:=qGt (uP.mp f2) (zA vs.length) whole
   have ar:arrOf st'=is.toArray.map (kas_item (pairsOf vs)):=VX.mp (by rw [ZS]; exact i2)
   refine hq st' is.toArray f1 ⟨uP.mpr (by simpa using i1)⟩ ?_ ar
   refine vL.mpr (gD.mpr fun x y hx hy xy=>?_)
   have li:=i1.length_eq
   rw [vB] at li
   have hx':x<is.length:=by simpa using hx
   have hy':y<is.length:=by simpa using hy
   have g:=f3 x y (by omega) (by omega) (by rw [pairsOf_size]; omega)
   have at':∀ z (hz:z<is.length),gt (arrOf st') z=kas_item (pairsOf vs) is[z]:=fun z hz=>by
    rw [ar]
    unfold gt
    rw [yG,Array.getElem?_map]
    simp [hz]
   have inr:∀ z (hz:z<is.length),is[z]<vs.length:=fun z hz=>zN.mp (i1.mem_iff.mp (yI hz))
   rw [at' x hx',at' y hy',JX rr (inr x hx') (by rw [kas_item_eq]),JX rr (inr y hy') (by rw [kas_item_eq])] at g
   have nl:=rr.len
   rw [<- qKJ (nss:=nss) (by
    rw [wH,wA (by rw [<- nl]; exact inr y hy')]
    exact yI _)]
   exact decide_eq_false (VB.mpr g)
theorem qAs {l:Addr} {vs:List Value} {nss:List (List Int)} {Q:Value->Shared->Prop} (hu:A.units+8<cLine) (hl:s.heap.IsList l vs.toArray\/IsTup s.heap l vs.toArray) (r:2<=vs.length->Rows s.heap vs nss) (fit:vs.length<=sizeLine)
  (h:∀(p:Array Nat) (h1 h2:Heap) (m:Nat),Pm vs.length p->(p.toList.map fun i=>nss.getD i []).Pairwise (fun a b=>HT.lexLt b a=false)->(∀ b o,s.heap.get? b=some o->h1.get? b=some o)->(∀ b o,h1.get? b=some o->h2.get? b=some o)->h2.get? h1.objs.size=some (seqObj "list" (JV vs p) m)->Q (.ref h1.objs.size) { s with heap:=h2 }):wpAny (model prog w) A (call (.builtin "sorted") [.ref l]) Q E s:=by
 obtain ⟨T,o,n,hT,ho,hc,hd⟩:∃ T o n,(T = "list"\/T = "tuple")/\s.heap.get? l=some o/\o.cls=.type T/\o.data=.seq vs.toArray n:=by
  rcases hl with ⟨o,y,c,n,d⟩ | ⟨o,y,c,n,d⟩
  ·exact ⟨_,o,n,.inl rfl,y,c,d⟩
  ·exact ⟨_,o,n,.inr rfl,y,c,d⟩
 refine ZE kind_sorted plain_sorted entry_sorted (args_sorted1 _) (wC (m:=checkCount "sorted" 1 1 _) (wK (wC (wpAny_collect_seq l hT ho hc hd (fun h1 k1=>wC (TY ?_ fit)) (by simpa using fit)))))
 have oL:(h1.push (seqObj "list" vs.toArray 0)).get? h1.objs.size=some (seqObj "list" vs.toArray 0):=zB h1 rfl
 have apart:∀ b u,h1.get? b=some u->b≠h1.objs.size:=fun b u y=>zZ (wZ y)
 have r2:2<=vs.length->Rows (jY (h1.push (seqObj "list" vs.toArray 0)) h1.objs.size vs) vs nss:=fun hv=>(r hv).kept fun b u y=>qCe (apart b u (k1 b u y)) (wG _ (k1 b u y))
 refine wC (vR (yX slot_list_sort (s:={ s with heap:=h1.push (seqObj "list" vs.toArray 0) }) ⟨_,oL,rfl⟩ entry_list_sort (Y1 (nss:=nss) (by show A.units+1+1<cLine; omega) oL r2 fit fun p P1 P2=>?_) (args_list_sort _)))
 obtain ⟨m,om⟩:=Ys (out:=JV vs p) oL
 exact ⟨_,rfl,wK ⟨_,rfl,h p h1 _ m P1 P2 k1 (fun b u y=>Y4 (apart b u y) (wG _ y)) om⟩⟩
end
end LSo
namespace L2
open PySem PySem.Spec PyProof.Rows
noncomputable def qIA:List V->Hp->VK->Prop:=fun vs H Q=>∃(a:Addr) (xs:List V) (nss:List (List Int)),vs=[.ref a]/\(H a=some (.tup xs)\/H a=some (.lst xs))/\qR H (nss.map QT) xs/\(2<=nss.length->∀ ns∈nss,ns≠[])/\nss.length<=sizeLine/\
 ∀(is:List Nat) (l:Addr),is.Perm (zA nss.length)->(is.map fun i=>nss.getD i []).Pairwise (fun a b=>HT.lexLt b a=false)->H l=none->Q (.ref l) (upd H l (.lst (is.map fun i=>xs.getD i V.non)))
section
variable {X:Cx} {pins:List (Addr×Obj)} {σ:St} {H:Hp} {s:Shared}
theorem qBA (hu:X.A.units+64<cLine):j5 X (.builtin "sorted") qIA:=by
 intro pins s σ H xs us Q I r h
 obtain ⟨a,ys,nss,rfl,hx,hd,hn,h64,q⟩:=h
 obtain ⟨u,rfl,rx⟩:=vals1 r
 have main:∀(its:List Value),u=.ref a->qh ys its->(s.heap.IsList a its.toArray\/IsTup s.heap a its.toArray)->wpAny (model X.prog X.w) X.A (call (.builtin "sorted") [u]) (EP X pins σ Q) X.xe s:=by
  intro its eu rv hl
  subst eu
  have ly:ys.length=nss.length:=by rw [hd.length,wB]
  have li:its.length=ys.length:=rv.length.symm
  refine LSo.qAs (by omega) hl (fun hv=>qI8 I hd rv (hn (by omega))) (by omega) fun p h1 h2 e P1 P2 k1 k2 he=>?_
  have I1:Inv X pins σ H { s with heap:=h1 }:=I.kept (t':=s.toks) k1
  have pin:∀ i∈p.toList,i<ys.length:=fun i hi=>by
   have:i∈(VJ (zA its.length)):=P1.pm.mem_iff.mp (yN.mp hi)
   have:i<its.length:=by simpa using this
   omega
  have pl:p.toList.Perm (zA its.length):=by
   have:=P1.pm
   rw [uP] at this
   exact this
  have hl:p.toList.length<=sizeLine:=by
   rw [pl.length_eq,vB]
   omega
  refine ⟨.ref h1.objs.size,upd H h1.objs.size (.lst (p.toList.map fun i=>ys.getD i V.non)),I1.laid (t':=s.toks) k2 (wF _) ?_,rfl,
   q p.toList _ ?_ ?_ (I1.hok.fresh (wF _))⟩
  ·refine ⟨by rw [wB]; exact hl,(p.toList.map fun i=>its.getD i vP),e,Jn rv _ pin,?_⟩
   rw [he]
   rfl
  ·rw [li,ly] at pl
   exact pl
  ·exact P2
 rcases hx with h1 | h1
 ·cases rx
  obtain ⟨its,rv,p,_⟩:=I.tuple (SqT.of (K:=X.K) h1)
  exact main its rfl rv (.inr p)
 ·cases rx
  obtain ⟨its,rv,p,_⟩:=I.list (SqL.of (K:=X.K) h1)
  exact main its rfl rv (.inl p.isList)
end
end L2
namespace LSo
open PySem PySem.W PyProof.Rows
end LSo
namespace L2
open PySem PySem.Spec PyProof.Rows
end L2
namespace LTu
open PySem PyProof.Rows HT
section
variable {s:Shared} {prog:Program} {w:World} {A:Around} {E:Value->Shared->Prop}
theorem get_whole {t sl:Addr} {items:Array Value} {vl vu:Value} {lo hi:Option Int} {Q:Value->Shared->Prop} (ht:IsTup s.heap t items) (hs:s.heap.IsSliceOf sl vl vu .none) (pl:IsPart vl lo) (pu:IsPart vu hi)
  (hw:sIx items.size 0 lo=0/\sIx items.size items.size hi=items.size) (h:Q (.ref t) s):wpAny (model prog w) A (getItem (.ref t) (.ref sl)) Q E s:=by
 obtain ⟨os,hos,hcs,hds⟩:=id hs
 have hTs:s.TypeIs (.ref sl) "slice":=⟨os,hos,hcs⟩
 unfold getItem
 try with_reducible refine vR ?_
 first | refine wC (wK ?_) | skip
 refine wC (wpAny_sequenceKey ht.typeIs (by decide) ?_)
 refine wC (xD (name:=uH "__getitem__") ht.typeIs vO (yX vO ht.typeIs entry_tuple_getitem ?_ (args_tuple_getitem _ _)))
 show wpAny _ _ (TB (.ref t) >>= _) _ _ s
 refine wC (tupleItemsOf_ ht ?_)
 refine wC (ZV hTs ?_)
 rw [if_pos (by decide)]
 refine wC (jz hs pl pu ?_)
 have hy:(((sIx items.size 0 lo:Nat):Int) == 0 && (1:Int) == 1 && (sIx items.size items.size hi - sIx items.size 0 lo) == items.size)=true:=by
  rw [hw.1,hw.2]
  simp
 show wpAny _ _ (if (((sIx items.size 0 lo:Nat):Int) == 0 && (1:Int) == 1 && (sIx items.size items.size hi - sIx items.size 0 lo) == items.size)=true then _ else _) _ _ s
 rw [if_pos hy]
 unfold Builtin.Tuple.tupleIsExact
 refine wC (wC (ZV ht.typeIs (wK ?_)))
 rw [if_pos (by decide)]
 exact wC (ZX (wK ⟨_,rfl,wK h⟩))
end
section
variable {s:Shared} {prog:Program} {w:World} {A:Around} {E:Value->Shared->Prop}
section
open PySem.SeqAt
open PySem.AutoSeq1 (wpAny_loadPart')
open PySem.MeetsSeq PySem.MeetsSeq2 PySem.MeetsSeq3
end
theorem cat_nil {t b:Addr} {ws:List Value} {Q:Value->Shared->Prop} (ht:IsTup s.heap t ([]:List Value).toArray) (hb:IsTup s.heap b ws.toArray) (h:Q (.ref b) s):wpAny (model prog w) A (binaryOp .Add (.ref t) (.ref b)) Q E s:=by
 obtain ⟨⟨cls,dd,data,sl⟩,ho,hc,n,hd⟩:=id ht
 obtain ⟨⟨cls2,dd2,data2,sl2⟩,ho2,hc2,n2,hd2⟩:=id hb
 simp only at hc hd hc2 hd2
 subst hc hd hc2 hd2
 exact VG ⟨_,ho,rfl⟩ ⟨_,ho2,rfl⟩ VS TX ZU ZQ (ZJ _ _) (tuple_addW0 t b _ ws.toArray n n2 dd dd2 sl sl2 (by simp)) ⟨ho,ho2,h⟩
end
end LTu
namespace L2
open PySem PySem.Spec PyProof.Rows
section
variable {X:Cx} {K:wD} {e st:Expr} {te ts:TE} {pos p2:Pos}
theorem qAj {x:Str} {i:Int} {pos:Pos} (hg:Gl X x) (hm:∃ t,X.mg x=some (.int i t)) (hd:(x == ("__debug__" : Str))=false:=by decide):PE X (.Name x pos) (tC (.int i)):=
 hm.elim fun _ h=>qJ9 (v:=.int i) hg h ⟨_,rfl⟩ hd
noncomputable def qKX (K:wD):R2:=fun x y H Q=>∃ a b xs ys,x=.ref a/\y=.ref b/\SqT K H a xs/\SqT K H b ys/\xs.length+ys.length<=sizeLine/\(xs=[]->Q (.ref b) H)/\(xs≠[]->ys=[]->Q (.ref a) H)/\(xs≠[]->ys≠[]->∀ p,H p=none->Q (.ref p) (upd H p (.tup (xs++ys))))
theorem qJM:OpR X (binaryOp .Add) (qKX X.K):=by
 intro pins s σ H x y v u Q I rx ry h
 obtain ⟨a,b,xs,ys,rfl,rfl,ha,hb,hz,q0,q1,q2⟩:=h
 by_cases hx:xs=[]
 ·subst hx
  cases rx
  cases ry
  obtain ⟨its,r1,p1,_⟩:=I.tuple ha
  obtain ⟨its2,r2,p2,_⟩:=I.tuple hb
  cases r1
  exact LTu.cat_nil p1 p2 ⟨.ref b,H,I,rfl,q0 rfl⟩
 ·exact qJu pins s σ H (.ref a) (.ref b) v u Q I rx ry ⟨a,b,xs,ys,rfl,rfl,ha,hb,hx,hz,q1 hx,q2 hx⟩
theorem qD9 (h:X.K=K):OpR X (binaryOp .Add) (fun x y H Q=>(rI0 fun i j=>.int (i+j)) x y H Q\/(qJg K x y H Q\/qKX K x y H Q)):=by subst h; exact qKy.or (qIr.or qJM)
noncomputable def qNB (K:wD):V->Option Int->Option Int->Hp->VK->Prop:=fun x lo hi H Q=>∃ a xs,x=.ref a/\SqT K H a xs/\
 ((HT.sIx xs.length 0 lo=0/\HT.sIx xs.length xs.length hi=xs.length)->Q (.ref a) H)/\(¬ (HT.sIx xs.length 0 lo=0/\HT.sIx xs.length xs.length hi=xs.length)->∀ p,H p=none->Q (.ref p) (upd H p (.tup (qG4 xs lo hi))))
theorem qKg:SlR X (qNB X.K):=by
 intro pins s σ H x v vl vu lo hi sl Q I rx hs pl pu h
 obtain ⟨a,xs,rfl,hx,q1,q2⟩:=h
 by_cases hw:HT.sIx xs.length 0 lo=0/\HT.sIx xs.length xs.length hi=xs.length
 ·cases rx
  obtain ⟨its,r,ht,hz⟩:=I.tuple hx
  have hlen:its.toArray.size=xs.length:=by rw [wJ]; exact r.length.symm
  refine ⟨"tuple",_,vO.lookup,ht.typeIs,?_⟩
  exact LTu.get_whole ht hs pl pu (by rw [hlen]; exact hw) ⟨.ref a,H,I,rfl,q1 hw⟩
 ·exact qLZ pins s σ H (.ref a) v vl vu lo hi sl Q I rx hs pl pu ⟨a,xs,rfl,hx,hw,q2 hw⟩
theorem qNG (h:X.K=K):SlR X (fun x lo hi H Q=>qLv K x lo hi H Q\/qNB K x lo hi H Q):=by
 subst h
 exact qJK.or qKg
end
end L2
namespace LTu
open PySem PyProof.Rows HT
end LTu
namespace L2
open PySem PyProof.Rows HT
end L2
namespace LTu
open PySem PyProof.Rows HT
end LTu
namespace L2
open PySem PyProof.Rows HT
end L2
namespace L2
open PySem PySem.Spec PyProof.Rows
section
variable {X:Cx}
noncomputable def qID (ta:TE) (y:Str):TE:=fun σ H Q=>ta σ H fun v H1=>∃ i:Nat,v=.int i/\i<1000/\(uH (toString ((i:Nat):Int))).length<=3/\y.length<=1000/\∀ z,Q (.str z) H1
theorem qGQ {a:Expr} {ta:TE} {x y:Str} {j j2 p0 p1 p2 pos} (hx:x.length<=1000) (ha:PE X a ta):PE X (.JoinedStr [.Constant (.str x) j2 p0,.FormattedValue a (-1) none p1,.Constant (.str y) j p2] pos) (qID ta y):=by
 intro pins s σ H Q I h
 have big:2100<=sizeLine:=by decide
 have lx:∀ z:Str,(WR++z).length=z.length:=fun z=>by
  rw [TZ]
  show 0+_=_
  omega
 refine JoinedStr_many (joinParts_cons ?_)
 have go:∀(hx:x.length<=1000),wpAny (model X.prog X.w) X.A (eval (.Constant (.str x) j2 p0) X.env) (fun v s₁=>
   match v with
   | WQ y_1 tok=>
    (WR++y_1).length<=sizeLine/\
     wpAny (model X.prog X.w) X.A
      (joinParts (WR++y_1)
       (eval (a.FormattedValue (-1) none p1) X.env::evalEach [Expr.Constant (Const.str y) j p2] X.env))
      (EP X pins σ Q) X.xe s₁
   | _=>False) X.xe s:=fun hx=>by
  refine WX ?_
  refine ⟨by rw [lx]; omega,joinParts_cons (FormattedValue_plain (thn (ha pins _ σ H _ (I.tok _) h) fun v s1 ⟨w,H1,I1,r1,i,e,i1,t1,y1,q⟩=>?_))⟩
  subst e
  obtain ⟨t,rfl⟩:=r1
  have l1:((WR++x)++uH (toString ((i:Nat):Int))).length<=1003:=by rw [TZ,lx]; omega
  refine formatField_int_small (zQ (Nat.log2_le_self _) (by rw [Int.natAbs_natCast]; omega)) ?_
  have l2:(((WR++x)++uH (toString ((i:Nat):Int)))++y).length<=sizeLine:=by rw [TZ]; omega
  exact ⟨by omega,joinParts_cons (WX ⟨l2,joinParts_nil ⟨.str _,H1,(I1.tok _).tok _,⟨_,rfl⟩,q _⟩ l2⟩)⟩
 exact go hx
end
section
variable {w:World} {prog:Program} {s:Shared} {A:Around} {E:Value->Shared->Prop}
noncomputable abbrev qCv (led:Bool):Obj:={ cls:=.type "set",dict:=none,data:=.set #[] 0 (.fresh 0 0 led) }
end
section
variable {X:Cx}
theorem qJO {its:List Value}:∀{ns:List Int},qh (ns.map V.int) its->IntsAre its ns:=by
 induction its with
 | nil=>intro ns h; cases ns with
  | nil=>exact .nil
  | cons n ns=>cases h
 | cons u us ih=>intro ns h; cases ns with
  | nil=>cases h
  | cons n ns=>
   cases h with
   | cons r t=>
    obtain ⟨tk,rfl⟩:=r
    exact .cons n tk (ih t)
end
end L2
namespace L2
open PySem PyProof.Rows
noncomputable def Own (f0 f1:Value):Prop:=(f0=.none\/∃ b:Nat,f0=rawInt b)/\(f1=.bool true\/f1=.bool false)
noncomputable def En (h:Heap) (e it:Addr) (i:Nat):Prop:=∃ f0 f1 old,Own f0 f1/\Fo h "enumerate" e #[f0,f1,.ref it,rawInt i,.none,old]
noncomputable abbrev qAZ (x y:Value):Obj:=⟨.type "tuple",none,.seq #[x,y] 0,#[]⟩
theorem En.ty {s:Shared} {e it:Addr} {i:Nat} (x:En s.heap e it i):s.TypeIs (.ref e) "enumerate":=let ⟨_,_,_,_,o⟩:=x; ⟨_,o,rfl⟩
theorem En.lt {h:Heap} {e it:Addr} {i:Nat} (x:En h e it i):e<h.objs.size:=let ⟨_,_,_,_,o⟩:=x; wZ o
theorem En.at {h h':Heap} {e it:Addr} {i:Nat} (x:En h e it i) (k:∀ o,h.get? e=some o->h'.get? e=some o):En h' e it i:=let ⟨f0,f1,u,w,o⟩:=x; ⟨f0,f1,u,w,k _ o⟩
section
variable {prog:Program} {w:World} {A:Around} {E:Value->Shared->Prop} {s:Shared} {e it:Addr} {fp:List Addr} {n:Nat} {P:Nat->Value->Prop} {S:Nat->Heap->Prop}
theorem owned? {c:String} {f0 f1 p q r u:Value} {Q:Bool->Shared->Prop} (own:Own f0 f1) (o:Fo s.heap c e #[f0,f1,p,q,r,u]) (yes:Q true s)
  (no:∀ h' g0,Own g0 (.bool true)->Fo h' c e #[g0,.bool true,p,q,r,u]->Q5 e s.heap h'->Q false { s with heap:=h' }):wpAny (model prog w) A (Builtin.SmallTypes.ownedTupleIsFree (.ref e)) Q E s:=by
 refine ask (k:=0) o rfl ?_
 obtain ⟨rfl | ⟨b,rfl⟩,h1⟩:=own
 ·exact wK yes
 refine alive (b:=b) ?_
 cases s.heap.get? b with
 | none=>exact wK yes
 | some _=>
  rcases h1 with rfl | rfl
  ·refine ask (k:=1) (x:=.bool true) o rfl (WD (fun z=>absurd z (by decide)) fun _=>wK ?_)
   exact no s.heap (rawInt b) ⟨.inr ⟨b,rfl⟩,.inl rfl⟩ o (Q5.refl _ _)
  ·refine ask (k:=1) (x:=.bool false) o rfl (WD (fun _=>?_) fun z=>absurd (by decide) z)
   exact put o (show 1<6 by decide) fun h' o' k' _=>wK (no h' (rawInt b) ⟨.inr ⟨b,rfl⟩,.inl rfl⟩ o' k')
theorem qIt {i:Nat} {Q:Value->Shared->Prop} (D:Draws prog w A it fp n P S) (en:En s.heap e it i) (st:S i s.heap) (lt:i<n) (ne:e≠it) (nf:e∉fp)
  (K:∀ x h1 h' t t',P i x->En h' e it (i+1)->S (i+1) h'->h'.get? s.heap.objs.size=some (qAZ (.int i t) x)->Q5 it s.heap h1->Q5 e h1 h'->Q (.ref s.heap.objs.size) { s with heap:=h',toks:=t' }) :
  wpAny (model prog w) A (Builtin.«enumerate.__next__» ⟨[.ref e],[]⟩) (fun r s'=>∃ v,r=.done (.ret v)/\Q v s') E s:=by
 have el:=en.lt
 obtain ⟨f0,f1,old,own,o0⟩:=en
 refine ask (k:=2) o0 rfl ?_
 refine wC (D.item i _ _ _ lt st fun x h1 t px st1 same=>?_)
 have o1:Fo h1 "enumerate" e _:=(same.2 e ne).trans o0
 have z1:h1.objs.size=s.heap.objs.size:=same.1
 refine ask (s:={ s with heap:=h1,toks:=t }) (k:=3) o1 rfl (ask (k:=4) o1 rfl (wC (wpAny_mkInt ?_)))
 refine put (s:={ s with heap:=h1,toks:=t+1 }) (k:=3) o1 (show 3<6 by decide) fun h2 o2 k2 z2=>put (k:=4) o2 (show 4<6 by decide) fun h3 o3 k3 z3=>wC (wpAny_newTuple ?_)
 have z:h3.objs.size=s.heap.objs.size:=by
  replace z3:h3.objs.size=h2.objs.size:=z3
  replace z2:h2.objs.size=h1.objs.size:=z2
  omega
 have nE:s.heap.objs.size≠e:=gV el
 have k4:Q5 e h1 (h3.push (qAZ (.int i t) x)):=((Q5.then k2 k3).new _)
 have o4:Fo (h3.push (qAZ (.int i t) x)) "enumerate" e #[f0,f1,.ref it,rawInt ((i+1:Nat):Int),.none,old]:=wG _ o3
 have p4:(h3.push (qAZ (.int i t) x)).get? s.heap.objs.size=some (qAZ (.int i t) x):=z ▸ zB h3 (o:=qAZ (.int i t) x) rfl
 have told:∀ h' t',En h' e it (i+1)->Q5 e (h3.push (qAZ (.int i t) x)) h'->Q (.ref h3.objs.size) { s with heap:=h',toks:=t' }:=fun h' t' en' k'=>by
  rw [z]
  exact K x h1 h' t t' px en' (D.frame _ _ _ st1 fun c hc u y=>(k4.then k') c u (fun q=>nf (q ▸ hc)) y) (k' _ _ nE p4) (.of same) (k4.then k')
 refine wC (owned? (s:={ s with heap:=h3.push (qAZ (.int i t) x),toks:=t+1 }) own o4 ?_ fun h' g0 own' o' k'=>wK ⟨_,rfl,told h' _ ⟨_,_,_,own',o'⟩ k'⟩)
 refine wC (ZX (ask (k:=5) o4 rfl (put (k:=5) o4 (show 5<6 by decide) fun h5 o5 k5 _=>?_)))
 refine wC (put (k:=0) o5 (show 0<6 by decide) fun h6 o6 k6 _=>qMI (k:=1) o6 (show 1<6 by decide) fun h7 o7 k7 _=>?_)
 exact wC (wpAny_letGo (wK ⟨_,rfl,told h7 _ ⟨_,_,_,⟨.inr ⟨h3.objs.size,rfl⟩,.inr rfl⟩,o7⟩ ((Q5.then k5 k6).then k7)⟩))
theorem qIU {i:Nat} {Q:Option Value->Shared->Prop} (D:Draws prog w A.in1 it fp n P S) (en:En s.heap e it i) (st:S i s.heap) (lt:i<n) (ne:e≠it) (nf:e∉fp)
  (K:∀ x h1 h' t t',P i x->En h' e it (i+1)->S (i+1) h'->h'.get? s.heap.objs.size=some (qAZ (.int i t) x)->Q5 it s.heap h1->Q5 e h1 h'->Q (some (.ref s.heap.objs.size)) { s with heap:=h',toks:=t' }) :
  wpAny (model prog w) A (pyNext (.ref e)) Q E s:=
 wC (gL (xD (name:=uH "__next__") en.ty kW (yX kW en.ty F.entry_enumerate_next
  (qIt D en st lt ne nf fun x h1 h' t t' a b c d k q=>wK (K x h1 h' t t' a b c d k q)) (SL _))))
theorem qJW {i:Nat} {Q:Option Value->Shared->Prop} (D:Draws prog w A.in1 it fp n P S) (en:En s.heap e it i) (st:S n s.heap) (K:∀ h',Q5 it s.heap h'->Q none { s with heap:=h' }):wpAny (model prog w) A (pyNext (.ref e)) Q E s:=by
 refine wC (gL (xD (name:=uH "__next__") en.ty kW (yX kW en.ty F.entry_enumerate_next ?_ (SL _))))
 obtain ⟨_,_,_,_,o⟩:=en
 refine ask (k:=2) o rfl (wC (D.done _ _ _ st fun h' x k ⟨u,hu,cu⟩=>?_))
 exact wC (wpAny_isInstance (T:="StopIteration") (b:=true) ⟨u,hu,cu⟩ isSubtype_stop (wK (K h' k)))
end
noncomputable abbrev itO (l:Addr):Obj:=⟨.type "tuple_iterator",none,.fields #[.ref l,.int 0 0],#[]⟩
noncomputable abbrev enO (it:Addr):Obj:=⟨.type "enumerate",none,.fields #[.none,.bool false,.ref it,rawInt 0,.none,.none],#[]⟩
theorem qI6 (l:Addr) (xs:Array Value) (m:Nat) (dd:Option Addr) (sl:Array (Option Value)) :
  Meets (Builtin.«enumerate.__new__» ⟨[.type "enumerate",.ref l],[]⟩) fun _ R s=>s.heap.get? l=some ⟨.type "tuple",dd,.seq xs m,sl⟩/\R (.ok (.ret (.ref (s.heap.push (itO l)).objs.size))) { s with heap:=(s.heap.push (itO l)).push (enO s.heap.objs.size) }:=
 .of_wp fun prog w A R ⟨h,g,d,t,os⟩ ⟨hl,k⟩=>by
  have sub:=sub_enumerate
  have tup:Heap.IsTuple (Shared.heap ⟨h,g,d,t,os⟩) l xs:=⟨_,hl,rfl,m,rfl⟩
  (wp_walk using SA hl); refine wpAny_stack_any fun _=>wK ?_
  split <;> (try (rename_i c _ _ _ _ _; cases c == US "enumerate")) <;> (wp_walk using SA hl,wpAny_pyIter_tuple tup; exact ⟨_,rfl,k⟩)
section
variable {prog:Program} {w:World} {A:Around} {E:Value->Shared->Prop} {s:Shared} {e it l:Addr} {xs:Array Value}
theorem qDk {Q:Value->Shared->Prop} (tup:s.heap.IsTuple l xs)
  (K:∀ h',Fo h' "enumerate" (s.heap.objs.size+1) (#[.none,.bool false,.ref s.heap.objs.size,rawInt 0,.none,.none])->h'.IsTupleIter s.heap.objs.size l 0->h'.objs.size=s.heap.objs.size+2->(∀ b o,s.heap.get? b=some o->h'.get? b=some o)->Q (.ref (s.heap.objs.size+1)) { s with heap:=h' }):wpAny (model prog w) A (call (.type "enumerate") [.ref l]) Q E s:=by
 obtain ⟨⟨c,dd,u,sl⟩,hl,hc,m,hd⟩:=tup
 cases (hc:c=.type "tuple")
 cases (hd:u=.seq xs m)
 refine callType_new F.called_enumerate (by decide) (F.typeCall_enumerate_1 _) (F.newCall_enumerate_1 _) (fun o=>F.args_object_init_2 o _) F.entry_enumerate_new (qI6 l xs m dd sl) ⟨hl,?_⟩
 have z:(s.heap.push (itO l)).objs.size=s.heap.objs.size+1:=WK ..
 have o:Fo ((s.heap.push (itO l)).push (enO s.heap.objs.size)) "enumerate" (s.heap.objs.size+1) _:=z ▸ zB (s.heap.push (itO l)) (o:=enO s.heap.objs.size) rfl
 have fin:=K _ o ⟨itO l,wG _ (zB s.heap (o:=itO l) rfl),rfl,rfl⟩ (by rw [WK,z]) fun b o y=>wG _ (wG _ y)
 exact z.symm ▸ ⟨⟨_,o,rfl⟩,fin⟩
end
end L2
namespace L2
open PySem Spec
open PyProof.Rows
end L2
namespace L2
open PySem PySem.Spec PyProof.Rows
section
variable {prog:Program} {w:World} {A:Around} {E:Value->Shared->Prop} {s:Shared} {e it T:Addr} {i:Nat}
theorem qKc {es:List Expr} {kx:Nat} {tp:Pos} {Q:Unit->Shared->Prop} (x:En s.heap e it i) (K:∀ h',En h' e it i->Q5 e s.heap h'->Q () { s with heap:=h' }):wpAny (model prog w) A (letOwnedTupleGo (.Tuple es kx tp) (.ref e) (.ref T)) Q E s:=by
 obtain ⟨f0,f1,old,own,o⟩:=id x
 delta letOwnedTupleGo
 refine wC (wpAny_load o ?_)
 refine WD (fun _=>?_) fun _=>wK (K s.heap x (Q5.refl _ _))
 refine wC (ZX ?_)
 exact qMI (k:=0) o (show 0<6 by decide) fun h' o' k' _=>K h' ⟨.none,f1,old,⟨.inl rfl,own.2⟩,o'⟩ k'
end
noncomputable def Ite (l:Addr):It:=
 ⟨fun i H=>∃ xs x,H l=some (.tup xs)/\xs[i]? = some x,
  fun i H v H'=>∃ T,v=.ref T/\H T=none/\∀ xs x,H l=some (.tup xs)->xs[i]? = some x->H'=upd H T (.tup [.int i,x]),
  fun i H=>∃ xs,H l=some (.tup xs)/\xs.length=i⟩
noncomputable def qL0 (e it l:Addr) (i:Nat) (h:Heap):Prop:=En h e it i/\h.IsTupleIter it l i
theorem qL0.obj {e it l:Addr} {i:Nat} {h:Heap} (st:qL0 e it l i h):∀ b∈[e,it],∃ o,h.get? b=some o/\∀ v,o.data≠.cell v:=by
 obtain ⟨⟨f0,f1,old,_,o⟩,o2,e2,c2,d2⟩:=st
 intro b hb
 rcases wX.mp hb with z | z
 ·rw [z]
  exact ⟨_,o,fun v q=>by cases (show Data.fields _=Data.cell v from q)⟩
 ·rw [wY.mp z]
  exact ⟨_,e2,fun v q=>by rw [d2] at q; cases q⟩
theorem qGN {P:Program} {w:World} {K:wD} {es:List Expr} {kx:Nat} {tp:Pos} {e it:Addr} (l:Addr) (ne:e≠it) :
  Turn P w K (.Tuple es kx tp) (Ite l) [e,it] e (qL0 e it l) where
 mem:=by simp
 obj:=fun i h st=>st.obj
 keep:=fun i h h' st kk=>⟨st.1.at fun o y=>kk e (by simp) o y,st.2.at fun o y=>kk it (by simp) o y⟩
 item:=by
  intro X hP hw hK hc i pins s σ H E I hf st hg
  subst hP hw hK
  obtain ⟨xs,x,h1,hx⟩:=hg
  obtain ⟨its,rv,p1,_⟩:=I.tuple (SqT.of (K:=X.K) h1)
  obtain ⟨u,hu,ru⟩:=rv.get hx
  have hn:∀ b∈[e,it],H b=none:=fun b hb=>(hf b hb).1
  have nl:l≠it:=fun q=>by subst q; rw [hn l (by simp)] at h1; cases h1
  have el:e∉[it,l]:=fun q=>by
   rcases wX.mp q with z | z
   ·exact ne z
   ·rw [<- wY.mp z,hn e (by simp)] at h1
    cases h1
  have a1:i<its.toArray.size:=by simpa using (wM.mp hu).1
  have hh:X.A.in1.handled=none:=I.ok.hd hc
  refine qIU (qH4 hh it l nl its.toArray) st.1 ⟨st.2,p1⟩ a1 ne el fun x' ha h' t t' q1 q2 q3 q4 k1 k2=>?_
  have ex:x'=u:=by
   have q1':its.toArray[i]? = some x':=q1
   rw [List.getElem?_toArray,hu] at q1'
   exact (zH q1').symm
  subst ex
  have hfr:H s.heap.objs.size=none:=I.hok.fresh (wF _)
  have nch:∀ b o,s.heap.get? b=some o->b≠s.heap.objs.size:=fun b o y=>zZ (wZ y)
  have kk:∀ b o,b∉[e,it]->s.heap.get? b=some o->h'.get? b=some o:=fun b o hb y=>k2 b o (fun q=>hb (by simp [q])) (k1 b o (fun q=>hb (by simp [q])) y)
  have ntr:∀ b u,H b=some u->b∉[e,it]:=fun b u y hb=>by rw [hn b hb] at y; cases y
  have I1:Inv X pins σ (upd H s.heap.objs.size (.tup [.int i,x])) { s with heap:=h',toks:=t' }:=by
   refine I.step (g':=s.gens) (d':=s.drawn) (ch:=[e,it]) (fun b hb=>?_) (fun b o _ _ hb y _=>kk b o hb y) (fun b o _ _ hb y _=>⟨o.slots,kk b o hb y⟩) (fun b o _ y n=>by rw [qI (nch b o y)]; exact n)
    (fun b o hb y=>⟨o,kk b o hb y⟩) (fun b xs y=>qL.new hfr _ _ y) (fun b o u y=>qL.new hfr _ _ y) (fun b ps y=>⟨#[],by rw [qL.new hfr _ _ y]; simp⟩) (fun m hm=>?_) (fun b u y=>?_) I.bare
   ·obtain ⟨_,f1,_,f3,f4,f5⟩:=hf b hb
    exact ⟨f3,f1,f4,f5⟩
   ·obtain ⟨o,es',ep,ho,r⟩:=hm
    exact ⟨o,es',ep,kk _ o (fun hb=>(hf _ hb).2.1 rfl) ho,r⟩
   ·by_cases hb:b=s.heap.objs.size
    ·subst hb
     rw [qH] at y
     cases y
     exact ⟨by show 2<=sizeLine; decide,[.int i t,x'],.cons ⟨_,rfl⟩ (.cons ru .nil),⟨_,q4,rfl,_,rfl⟩,fun o' y'=>by rw [q4] at y'; cases y'; rfl⟩
    ·rw [qI hb] at y
     refine (I.hok b u y).stay (fun c' v hc' q=>kk c' v ?_ q) (fun c' q=>qL.new hfr _ _ q) fun c' xs' q=>qL.new hfr _ _ q
     rcases hc' with q0 | q0
     ·rw [q0]; exact ntr b u y
     ·exact ntr c' _ q0
  refine ⟨.ref s.heap.objs.size,rfl,qKc (s:={ s with heap:=h',toks:=t' }) q2 fun h'' en'' past=>?_⟩
  have el2:e≠s.heap.objs.size:=zZ st.1.lt
  obtain ⟨_,f1,_,f3,f4,f5⟩:=hf e (by simp)
  refine ⟨.ref s.heap.objs.size,upd H s.heap.objs.size (.tup [.int i,x]),I1.turned (it:=e) (t':=t') (fun b o hb y=>past b o hb y) (by rw [qI el2]; exact hn e (by simp)) f1 f3 f4 f5,rfl,
   ⟨_,rfl,hfr,fun xs' x'' e1 e2=>?_⟩,⟨en'',q3.1.at fun o y=>past it o ne.symm y⟩,fun b hb=>?_⟩
  ·rw [h1] at e1
   cases e1
   rw [hx] at e2
   cases e2
   rfl
  ·obtain ⟨o,y,_⟩:=st.obj b hb
   rw [qI (nch b o y)]
   exact hn b hb
 done:=by
  intro X hP hw hK hc i pins s σ H E I hf st hg
  subst hP hw hK
  obtain ⟨xs,h1,hl⟩:=hg
  obtain ⟨its,rv,p1,_⟩:=I.tuple (SqT.of (K:=X.K) h1)
  have hn:∀ b∈[e,it],H b=none:=fun b hb=>(hf b hb).1
  have nl:l≠it:=fun q=>by subst q; rw [hn l (by simp)] at h1; cases h1
  have hh:X.A.in1.handled=none:=I.ok.hd hc
  have ll:i=its.toArray.size:=by
   have n1:=rv.length
   simp only [wJ]
   omega
  refine qJW (qH4 hh it l nl its.toArray) st.1 ⟨by rw [<- ll]; exact st.2,p1⟩ fun h' past=>⟨rfl,?_⟩
  obtain ⟨z,f1,_,f3,f4,f5⟩:=hf it (by simp)
  exact I.turned (it:=it) (t':=s.toks) (fun b o hb y=>past b o hb y) z f1 f3 f4 f5
 self:=fun _ _ s _ _ st h=>by
  have ty:=st.1.ty
  refine wpAny_pyIter_slot ty F.slot_enumerate_iter (yX F.slot_enumerate_iter ty F.entry_enumerate_iter ?_ (F.args_enumerate_iter_1 _))
  exact wK ⟨_,rfl,"enumerate",_,ty,kW.lookup,h⟩
section
variable {X:Cx}
noncomputable def qNJ (ta:TA):TI:=fun σ H R=>ta σ H fun vs H1=>∃ l,vs=[.ref l]/\(∃ xs,H1 l=some (.tup xs))/\R (Ite l) H1
theorem qLU {es:List Expr} {kx:Nat} {tp:Pos} {a:Expr} {ta:TA} {p pos:Pos} (hg:Gl X "enumerate") (hm:X.mg "enumerate" = none) (ha:PA X [a] ta) (hs:starEach [a] X.env=[(false,eval a X.env)]:=by rfl) (hs2:starEach [] X.env=[]:=by rfl) :
  PI X (.Tuple es kx tp) (.Call (.Name "enumerate" p) [a] [] pos) (qNJ ta):=by
 intro pins s σ H R I h
 refine Call_ (Ql I hg hm boot_enumerate (uG (thn (ha pos pins s σ H _ I h) fun us s1 ⟨vs,H1,I1,r1,q1⟩=>?_) (by rw [hs,hs2]) (by rw [hs2]; rfl)))
 obtain ⟨l,rfl,⟨xs,h1⟩,q⟩:=q1
 obtain ⟨u,rfl,r2⟩:=vals1 r1
 cases r2
 obtain ⟨its,_,p1,_⟩:=I1.tuple (SqT.of (K:=X.K) h1)
 refine qDk p1 fun h' o it z kk=>?_
 have st:qL0 (s1.heap.objs.size+1) s1.heap.objs.size l 0 h':=⟨⟨_,_,_,⟨.inl rfl,.inr rfl⟩,o⟩,it⟩
 have new:∀ b∈[s1.heap.objs.size+1,s1.heap.objs.size],s1.heap.objs.size<=b:=fun b hb=>by
  rcases wX.mp hb with y | y
  ·rw [y]; exact Nat.le_succ _
  ·rw [wY.mp y]; exact wF _
 have T:=qGN (P:=X.prog) (w:=X.w) (K:=X.K) (es:=es) (kx:=kx) (tp:=tp) l (Nat.succ_ne_self s1.heap.objs.size)
 refine T.self _ 0 { s1 with heap:=h' } _ _ st ⟨_,[s1.heap.objs.size+1,s1.heap.objs.size],_,Ite l,H1,rfl,I1.kept (t':=s1.toks) kk,T,st,fun b hb=>I1.fpOk (new b hb) (I1.hok.fresh (new b hb)),q⟩
end
end L2
namespace L2
open PySem PySem.Spec PyProof.Rows PySem.W
noncomputable def Raw (h:Heap) (d:Addr) (es:Array DictEntry) (ep:Nat):Prop:=∃ o,h.get? d=some o/\o.ExactDict/\o.data=.dict es ep
theorem Raw.at {h h':Heap} {d:Addr} {es:Array DictEntry} {ep:Nat} (x:Raw h d es ep) (k:∀ o,h.get? d=some o->h'.get? d=some o):Raw h' d es ep:=let ⟨o,y,z⟩:=x; ⟨o,k o y,z⟩
theorem Raw.low {h:Heap} {d:Addr} {es:Array DictEntry} {ep:Nat} (x:Raw h d es ep):d<h.objs.size:=let ⟨_,y,_⟩:=x; wZ y
theorem Raw.ty {s:Shared} {d:Addr} {es:Array DictEntry} {ep:Nat} (x:Raw s.heap d es ep):s.TypeIs (.ref d) "dict":=let ⟨o,y,z,_⟩:=x; ⟨o,y,z.1⟩
noncomputable abbrev kvw (d:Addr):Obj:=⟨.type "dict_keys",none,.fields #[.ref d],#[]⟩
noncomputable abbrev kit (d:Addr) (i n ep:Nat):Obj:=⟨.type "dict_keyiterator",none,.fields #[.ref d,.int i 0,.int n 0,.int ep 0],#[]⟩
section
variable {prog:Program} {w:World} {A:Around} {E:Value->Shared->Prop} {s:Shared} {d v it:Addr} {es:Array DictEntry} {ep:Nat}
theorem qIS {Q:Value->Shared->Prop} (x:Raw s.heap d es ep) (hd:(d == sysModules)=false) (K:Q (.ref s.heap.objs.size) { s with heap:=s.heap.push (kvw d) }):wpAny (model prog w) A (call (.builtin "dict.keys") [.ref d]) Q E s:=by
 have ty:=x.ty
 obtain ⟨⟨oc,od,odt,osl⟩,y,z1,z2⟩:=id x
 obtain ⟨c1,c2⟩:=id z1
 cases (show oc=.type "dict" from c1)
 cases (show odt=.dict es ep from z2)
 refine yX PySem.F.slot_dict_keys ty PySem.F.entry_dict_keys ?_ (PySem.F.args_dict_keys_1 _)
 delta Builtin.«dict.keys»
 wp_walk using fO y
 exact ⟨_,rfl,K⟩
theorem qFx {Q:Value->Shared->Prop} (hv:s.heap.get? v=some (kvw d)) (x:Raw s.heap d es ep) (K:Q (.ref s.heap.objs.size) { s with heap:=s.heap.push (kit d 0 es.size ep) }):wpAny (model prog w) A (pyIter (.ref v)) Q E s:=by
 obtain ⟨⟨oc,od,odt,osl⟩,y,z1,z2⟩:=id x
 obtain ⟨c1,c2⟩:=id z1
 cases (show oc=.type "dict" from c1)
 cases (show odt=.dict es ep from z2)
 have ty:s.TypeIs (.ref v) "dict_keys":=⟨_,hv,rfl⟩
 refine wpAny_pyIter_slot ty kdl_slot_keys_iter (yX kdl_slot_keys_iter ty kdl_entry_keys_iter ?_ (kdl_args_keys_iter _))
 delta Builtin.«dict_keys.__iter__»
 repeat' first | assumption | wp_step
 have own:UO "dict_keyiterator" = false:=by decide
 rw [own]
 exact ⟨_,rfl,"dict_keyiterator",_,⟨_,zB _ rfl,rfl⟩,xC.lookup,K⟩
theorem qGx {i:Nat} {Q:Option Value->Shared->Prop} (hi:s.heap.get? it=some (kit d i es.size ep)) (x:Raw s.heap d es ep) (l:i<es.size) (K:∀ h',h'.get? it=some (kit d (i+1) es.size ep)->Q5 it s.heap h'->Q (some es[i].key) { s with heap:=h' }):wpAny (model prog w) A (pyNext (.ref it)) Q E s:=by
 obtain ⟨⟨oc,od,odt,osl⟩,y,z1,z2⟩:=id x
 obtain ⟨c1,c2⟩:=id z1
 cases (show oc=.type "dict" from c1)
 cases (show odt=.dict es ep from z2)
 have ty:s.TypeIs (.ref it) "dict_keyiterator":=⟨_,hi,rfl⟩
 delta pyNext
 refine wC (gL (xD (name:=uH "__next__") ty xC (yX xC ty WW ?_ (WS _))))
 repeat' first | assumption | wp_step
 rw [if_neg (by omega),zM,zJ l]
 repeat' first | assumption | wp_step
 rw [if_neg (c:=UO ((Manifest.find? "dict_keyiterator").elim "dict_keyiterator" fun x=>x.tpName)=true) (by decide +kernel),if_neg (by decide +kernel)]
 exact ⟨_,rfl,wK (K _ (uR _ hi rfl) (.of (uE ..)))⟩
theorem qEw {i:Nat} {Q:Option Value->Shared->Prop} (hh:A.handled=none) (hi:s.heap.get? it=some (kit d i es.size ep)) (x:Raw s.heap d es ep) (l:es.size<=i) (K:∀ h' tk,Q5 it s.heap h'->Q none { s with heap:=h',toks:=tk }):wpAny (model prog w) A (pyNext (.ref it)) Q E s:=by
 obtain ⟨⟨oc,od,odt,osl⟩,y,z1,z2⟩:=id x
 obtain ⟨c1,c2⟩:=id z1
 cases (show oc=.type "dict" from c1)
 cases (show odt=.dict es ep from z2)
 have ty:s.TypeIs (.ref it) "dict_keyiterator":=⟨_,hi,rfl⟩
 delta pyNext
 refine wC (gL (xD (name:=uH "__next__") ty xC (yX xC ty WW ?_ (WS _))))
 repeat' first | assumption | wp_step
 rw [if_neg (by omega),zM,Array.getElem?_eq_none l]
 repeat' first | assumption | wp_step
 exact wpAny_raiseNew_none hh (wC (wpAny_isInstance (T:="StopIteration") (b:=true) ⟨_,zB _ rfl,rfl⟩ isSubtype_stop (wK (K _ _ (((Q5.of (uE ..)).new _).new _)))))
noncomputable def qLJ (es:Array DictEntry) (i:Nat) (v:Value):Prop:=∃ e,es[i]? = some e/\v=e.key
theorem qFZ (calm:A.handled=none) (apart:d≠it):Walks prog w A it [it,d] [it] es.size (qLJ es) (fun i h=>h.get? it=some (kit d i es.size ep)/\Raw h d es ep) where
 sub:=fun b hb=>by rw [wY.mp hb]; exact wL
 frame:=fun i h h' st k=>⟨k it wL _ st.1,st.2.at fun o e=>k d (wI _ wL) o e⟩
 item:=fun i s Q E hi st hQ=>qGx st.1 st.2 hi fun h' y past=>hQ _ h' s.toks ⟨_,zJ hi,rfl⟩ ⟨y,st.2.at fun o e=>past d o apart e⟩ fun b o hb e=>past b o (fun z=>hb (by rw [z]; exact wL)) e
 done:=fun s Q E st hQ=>qEw calm st.1 st.2 (wF _) fun h' tk past=>hQ h' tk fun b o hb e=>past b o (fun z=>hb (by rw [z]; exact wL)) e
 self:=fun i s Q E st hQ=>wpAny_pyIter_keyiter ⟨_,st.1,rfl,rfl⟩ hQ
theorem qHQ:KdlSrc prog w "dict_keys" v d es.size (qLJ es) (fun h=>h.get? v=some (kvw d)/\Raw h d es ep) where
 type:=fun s x=>⟨_,x.1,rfl⟩
 there:=fun h x=>⟨wZ x.1,x.2.low⟩
 keep:=fun h h' x k=>⟨k v (.inl rfl) _ x.1,x.2.at fun o e=>k d (.inr rfl) o e⟩
 notList:=by decide
 notTuple:=by decide
 hint:=fun A E s Q x q=>kdl_hint_keys ⟨_,x.1,rfl⟩ q
 iter:=fun A s calm x=>⟨_,_,fun E Q q=>qFx x.1 x.2 q,qFZ calm (zZ x.2.low),⟨zB _ rfl,x.2.at fun o e=>wG _ e⟩⟩
end
end L2
namespace LSo
open PySem PySem.W PyProof.Rows
section
variable {prog:Program} {w:World} {A:Around} {E:Value->Shared->Prop} {s:Shared}
theorem qD5 {T:String} {r d:Addr} {n:Nat} {P:Nat->Value->Prop} {OK:Heap->Prop} {vs:List Value} {nss:List (List Int)} {Q:Value->Shared->Prop} (hu:A.units+8<cLine) (calm:A.handled=none) (K:KdlSrc prog w T r d n P OK) (ok:OK s.heap)
  (all:∀ acc:Array Value,ItemsOf P acc n->acc.toList=vs) (hn:n=vs.length) (rw':Rows s.heap vs nss) (h64:vs.length<64)
  (h:∀(p:Array Nat) (h1 h2:Heap) (m tk:Nat),Pm vs.length p->(∀ b o,s.heap.get? b=some o->h1.get? b=some o)->(∀ b o,h1.get? b=some o->h2.get? b=some o)->h2.get? h1.objs.size=some (seqObj "list" (JV vs p) m)->Q (.ref h1.objs.size) { s with heap:=h2,toks:=tk }):wpAny (model prog w) A (call (.builtin "sorted") [.ref r]) Q E s:=by
 have fit:vs.length<=sizeLine:=zK (xU h64) (by rw [xW]; decide)
 refine ZE kind_sorted plain_sorted entry_sorted (args_sorted1 _) (wC (m:=checkCount "sorted" 1 1 _) (wK (wC (kdu_collect (A:=A.in1) K calm ok (by rw [hn]; exact fit) fun h1 tk acc k1 it=>?_))))
 rw [all acc it]
 refine wC (TY ?_ fit)
 have oL:(h1.push (seqObj "list" vs.toArray 0)).get? h1.objs.size=some (seqObj "list" vs.toArray 0):=zB h1 rfl
 have apart:∀ b u,h1.get? b=some u->b≠h1.objs.size:=fun b u y=>zZ (wZ y)
 have r2:Rows (jY (h1.push (seqObj "list" vs.toArray 0)) h1.objs.size vs) vs nss:=rw'.kept fun b u y=>qCe (apart b u (k1 b u y)) (wG _ (k1 b u y))
 refine wC (vR (yX slot_list_sort (s:={ s with heap:=h1.push (seqObj "list" vs.toArray 0),toks:=tk }) ⟨_,oL,rfl⟩ entry_list_sort (Y1 (nss:=nss) (by show A.units+1+1<cLine; omega) oL (fun _=>r2) fit fun p P1 _=>?_) (args_list_sort _)))
 obtain ⟨m,om⟩:=Ys (out:=JV vs p) oL
 exact ⟨_,rfl,wK ⟨_,rfl,h p h1 _ m tk P1 k1 (fun b u y=>Y4 (apart b u y) (wG _ y)) om⟩⟩
end
end LSo
namespace L2
open PySem PySem.Spec PyProof.Rows PySem.W
noncomputable def qA7 (td:TE):TE:=fun σ H Q=>td σ H fun x H1=>∃(a:Addr) (kvs:List (List Key×V)) (nss:List (List Int)),x=.ref a/\H1 a=some (.dT kvs)/\kvs.map (·.1)=nss.map (fun ns=>ns.map uS)/\(∀ ns∈nss,ns≠[])/\nss.length<64/\
 ∀(bs:List Addr) (is:List Nat) (l:Addr),bs.length=nss.length->(∀ i b,bs[i]? = some b->H1 b=some (.tup ((nss.getD i []).map V.int)))->is.Perm (zA nss.length)->H1 l=none->Q (.ref l) (upd H1 l (.lst (is.map fun i=>(bs.map V.ref).getD i V.non)))
structure M0 (X:Cx) (o:Expr) (m:Str) (apos cpos:Pos):Prop where
 base:attributeBase o m X.env (eval o X.env)=eval o X.env
 few:((backTo cpos (starEach [] X.env)).all (fun x=>!x.1) && (backToKw cpos (keywordEach [] X.env)).all (fun x=>x.1.isSome)
  && decide (([]:List Expr).length+([]:List Keyword).length+(if ([]:List Keyword).isEmpty then 0 else 1)<30))=true
 line:(apos.endLine == cpos.line)=true
 trees:backTo cpos (starEach [] X.env)=[]
section
variable {X:Cx} {pins:List (Addr×Obj)} {σ:St} {H:Hp} {s:Shared}
theorem qIq (I:Inv X pins σ H s):∀{kvs:List (List Key×V)} {xs:List (List Key×Addr×Value)} {nss:List (List Int)},KT H kvs xs->kvs.map (·.1)=nss.map (fun ns=>ns.map uS)->(∀ ns∈nss,ns≠[])->
  LSo.Rows s.heap (xs.map fun x=>zW x.2.1) nss/\∀ i b,(xs.map fun x=>x.2.1)[i]? = some b->H b=some (.tup ((nss.getD i []).map V.int)):=by
 intro kvs xs nss r
 induction r generalizing nss with
 | nil=>
  intro e hn
  cases nss with
  | nil=>exact ⟨trivial,fun i b z=>by simp at z⟩
  | cons a l=>cases e
 | @cons p q ps qs hq t ih=>
  intro e hn
  cases nss with
  | nil=>cases e
  | cons ns nss=>
   obtain ⟨e1,e2⟩:=uL e
   obtain ⟨r1,r2⟩:=ih e2 fun m hm=>hn m (wI _ hm)
   have hb:H q.2.1=some (.tup (ns.map V.int)):=by
    have:=hq.2.1
    rw [show p.1=ns.map uS from e1,yB] at this
    exact this
   obtain ⟨js,q1,q2,_⟩:=I.tuple (SqT.of (K:=X.K) hb)
   refine ⟨⟨⟨q.2.1,_,rfl,q2,intsAre_of q1,hn ns wL⟩,r1⟩,fun i b z=>?_⟩
   cases i with
   | zero=>
    cases z
    exact hb
   | succ i=>exact r2 i b z
theorem qBc:∀ xs:List (List Key×Addr×Value),qh ((xs.map fun x=>x.2.1).map V.ref) (xs.map fun x=>zW x.2.1)
 | []=>.nil
 | _::xs=>.cons rfl (qBc xs)
theorem qAX {o:Expr} {td:TE} {p apos cpos pos:Pos} (hc:X.calm=true) (hu:X.A.units+64<cLine) (hg:Gl X "sorted") (hm:X.mg "sorted" = none) (ho:PE X o td) (m:M0 X o "keys" apos cpos)
  (he:starEach [.Call (.Attribute o "keys" apos) [] [] cpos] X.env=(false,eval (.Call (.Attribute o "keys" apos) [] [] cpos) X.env)::starEach [] X.env:=by rfl) (hpl:(backTo pos (starEach [] X.env)).any (·.1)=false:=by rfl):PE X (.Call (.Name "sorted" p) [.Call (.Attribute o "keys" apos) [] [] cpos] [] pos) (qA7 td):=by
 intro pins s σ H Q I h
 refine kK (Ql I hg hm boot_sorted ?_)
 refine fI ?_ he hpl
 refine gM ?_
 refine wpAny_Call_method m.base m.few m.line SJ PySem.F.slot_dict_keys PySem.F.type_dict_keys (thn (ho pins s σ H _ I h) fun u s1 ⟨x,H1,I1,rx,a,kvs,nss,ex,ea,ek,en,e64,q⟩=>?_)
 subst ex
 obtain rfl:u=zW a:=rx
 obtain ⟨t1,t2,_⟩:=qHu I1 (.inr ⟨kvs,.inl ea⟩)
 refine ⟨t1,t2,?_⟩
 rw [m.trees]
 refine ZW rfl (PyProof.Rows.evalArgs_none ?_)
 obtain ⟨z,hd,xs,rel,ob,es,ep,g1,g2,g3,g4,g5,g6⟩:=qIh I1.hok ea
 have raw:Raw s1.heap a es ep:=⟨ob,g1,g2,g3⟩
 refine qIS raw hd (ZF ?_)
 have k1:∀ b o,s1.heap.get? b=some o->(s1.heap.push (kvw a)).get? b=some o:=fun b o e=>wG _ e
 have I2:Inv X pins σ H1 { s1 with heap:=s1.heap.push (kvw a) }:=I1.kept (t':=s1.toks) k1
 obtain ⟨rows,at_⟩:=qIq I2 rel ek en
 have lx:xs.length=nss.length:=by
  have h1:=fK rel
  have h2:=congrArg fL ek
  rw [wB,wB] at h2
  omega
 have ls:es.size=xs.length:=by
  rw [<- wN,g4,wB]
 refine LSo.qD5 (by omega) (I1.ok.hd hc) (qHQ (es:=es) (ep:=ep)) ⟨zB _ rfl,raw.at fun o e=>k1 a o e⟩ (vs:=xs.map fun x=>zW x.2.1) (fun acc it=>?_) (by rw [wB]; exact ls) rows (by rw [wB,lx]; exact e64) fun p h1 h2 m tk P1 k2 k3 new=>?_
 ·obtain ⟨i1,i2⟩:=it
  apply kY
  intro j
  rw [yE,wQ]
  by_cases hj:j<es.size
  ·have hj':j<xs.length:=by omega
   obtain ⟨e,y1,y2⟩:=i2 j (acc[j]'(by omega)) (zJ (by omega))
   rw [zJ (by omega),y2,wA hj']
   have y3:es.toList[j]? = some e:=by rw [yE]; exact y1
   rw [g4,wQ,wA hj'] at y3
   rw [<- zH y3]
   rfl
  ·rw [Array.getElem?_eq_none (by omega),vI (by omega)]
   rfl
 have I3:Inv X pins σ H1 { s1 with heap:=h1,toks:=tk }:=I2.kept (t':=tk) k2
 have rv:=qBc xs
 have ly:((xs.map fun x=>x.2.1).map V.ref).length=xs.length:=by rw [wB,wB]
 have pl:p.toList.Perm (zA xs.length):=by
  have y:=P1.pm
  rw [uP,wB] at y
  exact y
 have pin:∀ i∈p.toList,i<((xs.map fun x=>x.2.1).map V.ref).length:=fun i hi=>by
  have:=zN.mp (pl.mem_iff.mp hi)
  omega
 have hl:p.toList.length<=sizeLine:=by
  rw [pl.length_eq,vB,xW]
  omega
 refine ⟨.ref h1.objs.size,upd H1 h1.objs.size (.lst (p.toList.map fun i=>((xs.map fun x=>x.2.1).map V.ref).getD i V.non)),I3.laid (t':=tk) k3 (wF _) ?_,rfl,q (xs.map fun x=>x.2.1) p.toList _ (by rw [wB]; exact lx) at_ (by rw [<- lx]; exact pl) (I3.hok.fresh (wF _))⟩
 refine ⟨by rw [wB]; exact hl,(p.toList.map fun i=>(xs.map fun x=>zW x.2.1).getD i vP),m,Jn rv _ pin,?_⟩
 rw [new]
 rfl
end
noncomputable abbrev atKey (ob:Obj) (n:Nat) (a it:Addr) (i:Nat) (h:Heap):Prop:=∃ es ep,ob.data=.dict es ep/\es.size=n/\h.get? it=some (kit a i n ep)
section
variable {prog:Program} {w:World} {A:Around} {E:Value->Shared->Prop} {s:Shared} {d v it:Addr} {es:Array DictEntry} {ep:Nat}
theorem qHA {Q:Value->Shared->Prop} (x:Raw s.heap d es ep) (hd:(d == sysModules)=false) (K:∀ t tk,Q (.int es.size t) { s with toks:=tk }):wpAny (model prog w) A (call (.builtin "dict.__len__") [.ref d]) Q E s:=by
 have ty:=x.ty
 obtain ⟨⟨oc,od,odt,osl⟩,y,z1,z2⟩:=id x
 obtain ⟨c1,c2⟩:=id z1
 cases (show oc=.type "dict" from c1)
 cases (show odt=.dict es ep from z2)
 refine yX WH ty PySem.F.entry_dict_len ?_ (PySem.F.args_dict_len_1 _)
 delta Builtin.«dict.__len__»
 wp_walk using fO y
 exact ⟨_,rfl,K _ _⟩
theorem qJv {Q:Value->Shared->Prop} (x:Raw s.heap d es ep) (hd:(d == sysModules)=false) (fit:(es.size:Int)<2 ^ 63) (K:∀ t tk,Q (.int es.size t) { s with toks:=tk }):wpAny (model prog w) A (call (.builtin "len") [.ref d]) Q E s:=by
 have ty:=x.ty
 obtain ⟨l1,l2⟩:=VY WH.lookup (WH.bind (.ref d))
 refine ZE kind_len plain_len entry_len (args_len1 (.ref d)) ?_
 delta Builtin.len
 repeat' first | assumption | (refine qHA x hd fun t tk=>?_) | wp_step
 rw [if_neg (by omega)]
 repeat' first | assumption | wp_step
 exact ⟨_,rfl,K _ _⟩
end
noncomputable def qKQ:List V->Hp->VK->Prop:=fun xs H Q=>∃(a:Addr) (kvs:List (List Key×V)),xs=[.ref a]/\H a=some (.dT kvs)/\Q (.int kvs.length) H
theorem qBQ {X:Cx}:j5 X (.builtin "len") qKQ:=by
 intro pins s σ H xs us Q I r h
 obtain ⟨a,kvs,rfl,ea,q⟩:=h
 obtain ⟨u,rfl,rx⟩:=vals1 r
 cases rx
 obtain ⟨z,hd,xs,rel,ob,es,ep,g1,g2,g3,g4,_⟩:=qIh I.hok ea
 have ls:es.size=kvs.length:=by rw [<- wN,g4,wB,<- fK rel]
 have fit:(es.size:Int)<2 ^ 63:=by
  rw [xW] at z
  omega
 refine qJv ⟨ob,g1,g2,g3⟩ hd fit fun t tk=>?_
 refine ⟨.int kvs.length,H,I.kept (t':=tk) fun b o e=>e,?_,q⟩
 rw [ls]
 exact ⟨_,rfl⟩
end L2
namespace L2
open PySem
noncomputable abbrev ST:=SetTable
noncomputable def qKA (xs:Array Nat):Prop:=∀ a b (ha:a<b) (hb:b<xs.size),xs[a]<xs[b]
theorem qKA.le {xs:Array Nat} (R:qKA xs) {a b:Nat} (h:a<=b) (hb:b<xs.size):xs[a]<=xs[b]:=by
 rcases fZ h with z | z
 ·exact xU (R a b z hb)
 ·subst z
  exact wF _
theorem qIv {xs:Array Nat} {k:Nat} (h:k<xs.size) (d:Nat):xs.getD k d=xs[k]:=by
 rw [yG,zJ h]
 rfl
structure Cut (xs:Array Nat) (j r:Nat):Prop where
 le:r<=xs.size
 lt:∀ k (h:k<r) (hk:k<xs.size),xs[k]<j
 ge:∀ k (h:r<=k) (hk:k<xs.size),j<=xs[k]
theorem qEQ {xs:Array Nat} (R:qKA xs) (j:Nat):∀(fuel lo hi:Nat),lo<=hi->hi<=xs.size->hi - lo<=fuel->(∀ k (h:k<lo) (hk:k<xs.size),xs[k]<j)->(∀ k (h:hi<=k) (hk:k<xs.size),j<=xs[k])->Cut xs j (SetTable.below.go xs j fuel lo hi)
 | 0,lo,hi,h1,h2,h3,h4,h5=>by
  have e:lo=hi:=by omega
  subst e
  exact ⟨h2,h4,h5⟩
 | fuel+1,lo,hi,h1,h2,h3,h4,h5=>by
  unfold SetTable.below.go
  by_cases z:lo<hi
  ·rw [if_pos z]
   have m1:(lo+hi) / 2<xs.size:=by omega
   dsimp only
   rw [qIv m1]
   by_cases y:xs[(lo+hi) / 2]<j
   ·rw [if_pos y]
    refine qEQ R j fuel _ hi (by omega) h2 (by omega) (fun k hk hs=>?_) h5
    exact zQ (R.le (show k<=(lo+hi) / 2 by omega) m1) y
   ·rw [if_neg y]
    refine qEQ R j fuel lo _ (by omega) (by omega) (by omega) h4 fun k hk hs=>?_
    exact zK (vG y) (R.le hk hs)
  ·rw [if_neg z]
   have e:lo=hi:=by omega
   subst e
   exact ⟨h2,h4,h5⟩
theorem YU {xs:Array Nat} (R:qKA xs) (j:Nat):Cut xs j (vE xs j):=qEQ R j xs.size 0 xs.size (zV _) (wF _) (by omega) (fun k h=>absurd h (vT _)) fun k h hk=>absurd hk (VB.mpr h)
structure Tab (t:ST) (n:Nat):Prop where
 rise:qKA t.place
 size:t.place.size=n
 bare:t.dummies = #[]
 mask:∀ k (h:k<t.place.size),t.place[k]<=t.mask
theorem YN {t:ST} {n:Nat} (T:Tab t n) {j i:Nat} (h:t.place[i]? = some j):t.slot j=.live i:=by
 obtain ⟨hi,e⟩:=yS.mp h
 have c:=YU T.rise j
 have eb:vE t.place j=i:=by
  refine UP (vG fun z=>?_) (vG fun z=>?_)
  ·have:=c.lt i z hi
   omega
  ·have:=c.ge _ (wF _) (VH z hi)
   have:=T.rise _ _ z hi
   omega
 unfold SetTable.slot
 dsimp only
 rw [eb,h]
 simp
theorem qDs {t:ST} {n:Nat} (T:Tab t n) {j:Nat} (h:∀ i:Nat,t.place[i]?≠some j):t.slot j=.empty:=by
 unfold SetTable.slot
 dsimp only
 have e1:(t.place[vE t.place j]? == some j)=false:=beq_eq_false_iff_ne.mpr (h _)
 have e2:SetTable.has t.dummies j=false:=by
  rw [T.bare]
  rfl
 rw [e1,e2]
 rfl
theorem qCA {t:ST} {n:Nat} (T:Tab t n) (j:Nat):t.slot j=.empty\/∃ i:Nat,t.slot j=.live i/\t.place[i]? = some j:=by
 by_cases h:∃ i:Nat,t.place[i]? = some j
 ·obtain ⟨i,hi⟩:=h
  exact .inr ⟨i,YN T hi,hi⟩
 ·exact .inl (qDs T fun i z=>h ⟨i,z⟩)
noncomputable def qD (t:ST) (h:Int):Nat->SetTable.Probe
 | 0=>t.probeStart h
 | n+1=>t.advance (qD t h n)
noncomputable def qa (mask:Nat) (b:Nat):Nat->Nat×Nat
 | 0=>(b % (mask+1),b)
 | k+1=>xV mask (qa mask b k).1 (qa mask b k).2
theorem Qt (mask b:Nat):∀ k,(qa mask b k).2=b / 32 ^ k
 | 0=>by
  show b=b / 1
  rw [Nat.div_one]
 | k+1=>by
  show (qa mask b k).2 / 32=_
  rw [Qt mask b k,Nat.div_div_eq_div_mul,VO]
theorem qBs (mask b:Nat):∀ k,(qa mask b k).1<=mask
 | 0=>vM (TR _ (fB _))
 | _+1=>vM (TR _ (fB _))
structure qEa (t:ST) (h:Int) (k n:Nat):Prop where
 few:n<=10*k
 j:(qD t h n).j=(qa t.mask (wU h) k).1
 i:(qD t h n).i=(qa t.mask (wU h) k).1
 p:(qD t h n).perturb=(qa t.mask (wU h) k).2
 more:(qD t h n).more=xA t.mask (qa t.mask (wU h) k).1 - (qa t.mask (wU h) k).1
theorem Yo (t:ST) (h:Int) {n:Nat}:∀ r,r<=(qD t h n).more->(qD t h (n+r)).j=(qD t h n).j+r/\(qD t h (n+r)).i=(qD t h n).i/\(qD t h (n+r)).perturb=(qD t h n).perturb/\(qD t h (n+r)).more=(qD t h n).more - r
 | 0,_=>⟨rfl,rfl,rfl,rfl⟩
 | r+1,hr=>by
  obtain ⟨h1,h2,h3,h4⟩:=Yo t h r (Nat.le_of_succ_le hr)
  have e:qD t h (n+(r+1)) = { qD t h (n+r) with j:=(qD t h (n+r)).j+1,more:=(qD t h (n+r)).more - 1 }:=by
   show t.advance (qD t h (n+r))=_
   unfold hW
   rw [if_pos (by omega)]
  rw [e]
  dsimp only
  exact ⟨by omega,h2,h3,by omega⟩
theorem qDQ (t:ST) (h:Int):∀ k,∃ n,qEa t h k n
 | 0=>⟨0,wF _,rfl,rfl,rfl,rfl⟩
 | k+1=>by
  obtain ⟨n,b⟩:=qDQ t h k
  obtain ⟨h1,h2,h3,h4⟩:=Yo t h (n:=n) (qD t h n).more (wF _)
  have m9:(qD t h n).more<=9:=by
   rw [b.more]
   unfold xA
   split <;> omega
  have e:qD t h (n+(qD t h n).more+1) = { qD t h (n+(qD t h n).more) with j:=(xV t.mask (qa t.mask (wU h) k).1 (qa t.mask (wU h) k).2).1,more:=xA t.mask (xV t.mask (qa t.mask (wU h) k).1 (qa t.mask (wU h) k).2).1 - (xV t.mask (qa t.mask (wU h) k).1 (qa t.mask (wU h) k).2).1,i:=(xV t.mask (qa t.mask (wU h) k).1 (qa t.mask (wU h) k).2).1,perturb:=(xV t.mask (qa t.mask (wU h) k).1 (qa t.mask (wU h) k).2).2 }:=by
   show t.advance (qD t h (n+(qD t h n).more))=_
   unfold hW
   rw [if_neg (by omega),h2,h3,b.i,b.p]
  refine ⟨n+(qD t h n).more+1,?_,?_,?_,?_,?_⟩
  ·have:=b.few
   omega
  ·rw [e]; rfl
  ·rw [e]; rfl
  ·rw [e]; rfl
  ·rw [e]; rfl
noncomputable def qGe (m i:Nat):Nat:=(i*5+1) % m
noncomputable def qAE (m:Nat):Nat->Nat->Nat
 | 0,i=>i
 | q+1,i=>qGe m (qAE m q i)
theorem Qk (m a:Nat) (i:Nat):∀ b,qAE m (a+b) i=qAE m b (qAE m a i)
 | 0=>rfl
 | b+1=>congrArg (qGe m) (Qk m a i b)
noncomputable def qJb (m:Nat):Nat->Nat->List Nat
 | 0,_=>[]
 | k+1,i=>i::qJb m k (qGe m i)
noncomputable def qJf (m:Nat):Bool:=(zA m).all (fun e=>(qJb m m 0).contains e) && qAE m m 0 == 0
theorem YC {m:Nat}:∀{k i e:Nat},e∈qJb m k i->∃ q,q<k/\qAE m q i=e
 | 0,i,e,h=>absurd h zU
 | k+1,i,e,h=>by
  rcases wX.mp h with z | z
  ·exact ⟨0,fB _,z.symm⟩
  ·obtain ⟨q,hq,e1⟩:=YC z
   refine ⟨q+1,VW hq,?_⟩
   rw [Nat.add_comm,Qk]
   exact e1
theorem qC3 {m:Nat} (h:qJf m=true) {i e:Nat} (hi:i<m) (he:e<m):∃ q,q<m/\qAE m q i=e:=by
 unfold qJf at h
 rw [yY,VZ,beq_iff_eq] at h
 obtain ⟨h1,h2⟩:=h
 obtain ⟨a,ha,ea⟩:=YC (List.contains_iff_mem.mp (h1 i (zN.mpr hi)))
 obtain ⟨b,hb,eb⟩:=YC (List.contains_iff_mem.mp (h1 e (zN.mpr he)))
 by_cases z:a<=b
 ·refine ⟨b - a,by omega,?_⟩
  rw [<- ea,<- Qk,Nat.add_sub_cancel' z]
  exact eb
 ·refine ⟨m - a+b,by omega,?_⟩
  rw [<- ea,<- Qk,show a+(m - a+b)=m+b by omega,Qk,h2]
  exact eb
noncomputable def Fits (mask:Nat):Prop:=mask=7\/mask=31\/mask=127\/mask=511
theorem qAq {mask:Nat} (h:Fits mask):qJf (mask+1)=true:=by
 rcases h with rfl | rfl | rfl | rfl <;> decide +kernel
theorem qG2 (h:Int):wU h / 32 ^ 13=0:=by
 refine Nat.div_eq_of_lt ?_
 unfold wU
 have h1:=gO h (show (0:Int)<2 ^ 64 by decide)
 have h2:=fP h (show (2 ^ 64:Int)≠0 by decide)
 have e:(32:Nat) ^ 13=36893488147419103232:=by decide
 have e2:(2:Int) ^ 64=18446744073709551616:=by decide
 rw [e]
 rw [e2] at *
 omega
theorem JH (mask:Nat) (h:Int):∀ q,(qa mask (wU h) (13+q)).1=qAE (mask+1) q (qa mask (wU h) 13).1
 | 0=>rfl
 | q+1=>by
  have e0:(qa mask (wU h) (13+q)).2=0:=by
   rw [Qt,Nat.pow_add,<- Nat.div_div_eq_div_mul,qG2,Nat.zero_div]
  show ((qa mask (wU h) (13+q)).1*5+1+(qa mask (wU h) (13+q)).2 / 32) % (mask+1)=qGe (mask+1) (qAE (mask+1) q (qa mask (wU h) 13).1)
  rw [e0,Nat.zero_div,fT,JH mask h q]
  rfl
theorem asked {t:ST} (F:Fits t.mask) (h:Int) {e:Nat} (he:e<=t.mask):∃ n,n<10*xI t.mask/\(qD t h n).j=e:=by
 obtain ⟨q,hq,eq⟩:=qC3 (qAq F) (xZ (qBs t.mask (wU h) 13)) (xZ he)
 obtain ⟨n,b⟩:=qDQ t h (13+q)
 refine ⟨n,?_,?_⟩
 ·have:=b.few
  unfold xI
  omega
 ·rw [b.j,JH]
  exact eq
theorem Y5 (t:ST) (h:Int):∀ n,(qD t h n).dummy=none
 | 0=>rfl
 | n+1=>by
  have ih:=Y5 t h n
  show (t.advance (qD t h n)).dummy=none
  unfold hW
  split
  ·exact ih
  ·exact ih
structure qF2 (t:ST) (hs:Nat->Int) (h:Int) (a c:Nat):Prop where
 le:a<=c
 past:∀ q,a<=q->q<c->∃ i,t.slot (qD t h q).j=.live i/\hs i≠h
theorem qH3 {t:ST} {n:Nat} (T:Tab t n) (hs:Nat->Int) (h:Int):∀(fuel a b:Nat),a<=b->b<a+fuel->t.slot (qD t h b).j=.empty->
  ∃ c,c<=b/\qF2 t hs h a c/\((t.slot (qD t h c).j=.empty/\uX t hs h fuel (qD t h a)=some (.empty (qD t h c).j none))\/∃ i,t.slot (qD t h c).j=.live i/\hs i=h/\uX t hs h fuel (qD t h a)=some (.candidate (qD t h c).j i (qD t h (c+1))))
 | 0,a,b,h1,h2,_=>absurd h2 (by omega)
 | fuel+1,a,b,h1,h2,h3=>by
  have nil:qF2 t hs h a a:=⟨wF _,fun q z y=>absurd y (VB.mpr z)⟩
  rcases qCA T (qD t h a).j with e | ⟨i,e,_⟩
  ·refine ⟨a,h1,nil,.inl ⟨e,?_⟩⟩
   unfold uX
   rw [e]
   dsimp only
   rw [Y5]
  ·by_cases z:hs i=h
   ·refine ⟨a,h1,nil,.inr ⟨i,e,z,?_⟩⟩
    unfold uX
    rw [e]
    dsimp only
    rw [if_pos (beq_iff_eq.mpr z)]
    rfl
   ·have ne:a≠b:=fun y=>by
     rw [y,h3] at e
     cases e
    have eg:uX t hs h (fuel+1) (qD t h a)=uX t hs h fuel (qD t h (a+1)):=by
     conv=>lhs; unfold uX
     rw [e]
     dsimp only
     rw [if_neg (fun y=>z (beq_iff_eq.mp y))]
     rfl
    obtain ⟨c,c1,m,r⟩:=qH3 T hs h fuel (a+1) b (by omega) (by omega) h3
    rw [<- eg] at r
    refine ⟨c,c1,⟨Nat.le_of_succ_le m.le,fun q q1 q2=>?_⟩,r⟩
    by_cases y:q=a
    ·rw [y]
     exact ⟨i,e,z⟩
    ·exact m.past q (by omega) q2
theorem Y2 {m j:Nat} (h:j<=m):j+(xA m j - j)<=m:=by
 unfold xA
 split <;> omega
theorem QB (t:ST) (h:Int):∀ n,(qD t h n).j+(qD t h n).more<=t.mask
 | 0=>Y2 (vM (TR (wU h) (fB t.mask)))
 | n+1=>by
  have ih:=QB t h n
  show (t.advance (qD t h n)).j+(t.advance (qD t h n)).more<=t.mask
  unfold hW
  by_cases z:(qD t h n).more > 0
  ·rw [if_pos z]
   dsimp only
   omega
  ·rw [if_neg z]
   exact Y2 (vM (TR _ (fB t.mask)))
theorem JD {t u:ST} (e:t.mask=u.mask) (h:Int):∀ n,qD t h n=qD u h n
 | 0=>by
  show t.probeStart h=u.probeStart h
  unfold SetTable.probeStart
  rw [e]
 | n+1=>by
  show t.advance (qD t h n)=u.advance (qD u h n)
  rw [JD e h n]
  unfold hW
  rw [e]
theorem YJ {xs:Array Nat}:qKA xs↔xs.toList.Pairwise (· < ·):=by
 refine Iff.trans ?_ gD.symm
 constructor
 ·intro R i j hi hj hij
  rw [uY,uY]
  exact R i j hij (by simpa using hj)
 ·intro P a b ha hb
  have:=P a b (by simp; omega) (by simpa using hb) ha
  rwa [uY,uY] at this
structure jv (t:ST) (hs:List Int):Prop where
 tab:Tab t hs.length
 fits:Fits t.mask
 room:hs.length<=t.mask
 meet:∀(i:Nat) (h:Int),hs[i]? = some h->∃ c,t.place[i]? = some (qD t h c).j/\∀ q,q<c->t.slot (qD t h q).j≠.empty
theorem Qp {t:ST} {n:Nat} (T:Tab t n) (j:Nat):t.slot j≠.empty↔j∈t.place.toList:=by
 constructor
 ·intro h
  rcases qCA T j with z | ⟨i,_,z⟩
  ·exact absurd z h
  ·exact yN.mpr (Array.mem_of_getElem? z)
 ·intro h z
  obtain ⟨i,hi,e⟩:=fG.mp (yN.mp h)
  have:=YN T (yS.mpr ⟨hi,e⟩)
  rw [this] at z
  cases z
theorem qBl {t:ST} {hs:List Int} (k:jv t hs):∃ e,e<=t.mask/\t.slot e=.empty:=by
 refine yM fun no=>?_
 have all:∀ e∈zA (t.mask+1),e∈t.place.toList:=fun e he=>(Qp k.tab e).mp fun z=>no ⟨e,vM (zN.mp he),z⟩
 have:=vU hX all
 rw [vB,wN,k.tab.size] at this
 have:=k.room
 omega
theorem qFS {t:ST} {hs:List Int} (k:jv t hs) (g:Nat->Int) (h:Int) (a:Nat) (ha:∀ b,t.slot (qD t h b).j=.empty->b<10*xI t.mask->a<=b) :
  ∃ c,qF2 t g h a c/\((t.slot (qD t h c).j=.empty/\t.probe g h (qD t h a)=some (.empty (qD t h c).j none))\/∃ i,t.slot (qD t h c).j=.live i/\g i=h/\t.probe g h (qD t h a)=some (.candidate (qD t h c).j i (qD t h (c+1)))):=by
 obtain ⟨e,he,se⟩:=qBl k
 obtain ⟨b,hb,eb⟩:=asked k.fits h he
 have sb:t.slot (qD t h b).j=.empty:=by rw [eb]; exact se
 obtain ⟨c,_,m,r⟩:=qH3 k.tab g h (10*xI t.mask) a b (ha b sb hb) (by omega) sb
 exact ⟨c,m,r⟩
noncomputable def qDj {α:Type} (xs:List α) (p:Nat) (x:α):List α:=xs.take p++x::xs.drop p
theorem qCw {α:Type} {xs:List α} {p:Nat} (x:α) (hp:p<=xs.length) (i:Nat):(qDj xs p x)[i]? = if i<p then xs[i]? else if i=p then some x else xs[i - 1]?:=by
 unfold qDj
 have l:(xs.take p).length=p:=by rw [zP]; omega
 by_cases z:i<p
 ·rw [if_pos z,yL (by omega),List.getElem?_take,if_pos z]
 ·rw [if_neg z,zO (by omega),l]
  by_cases y:i=p
  ·subst y
   rw [if_pos rfl,VN]
   rfl
  ·rw [if_neg y]
   have e:i - p=(i - 1 - p)+1:=by omega
   rw [e,SM,VA]
   congr 1
   omega
theorem qAh {α:Type} {xs:List α} {p:Nat} (x:α):(qDj xs p x).length=xs.length+1:=by
 unfold qDj
 rw [wV,zP,wW,xQ]
 omega
theorem qCx {α:Type} {xs:List α} {p:Nat} {x y:α}:y∈qDj xs p x↔y=x\/y∈xs:=by
 unfold qDj
 have e:y∈xs↔y∈xs.take p\/y∈xs.drop p:=by
  rw [<- zR,xP]
 rw [zR,wX,e]
 constructor
 ·rintro (h | h | h)
  ·exact .inr (.inl h)
  ·exact .inl h
  ·exact .inr (.inr h)
 ·rintro (h | h | h)
  ·exact .inr (.inl h)
  ·exact .inl h
  ·exact .inr (.inr h)
theorem has_none (j:Nat):SetTable.has #[] j=false:=rfl
theorem QE {t:ST} {n:Nat} (T:Tab t n) (j:Nat):(t.put j).1.place.toList=qDj t.place.toList (vE t.place j) j:=ZM _ _ _
theorem qHV {t:ST} {n:Nat} (T:Tab t n) (j:Nat):(t.put j).1.dummies = #[]:=by
 show (if SetTable.has t.dummies j then _ else t.dummies)=_
 rw [T.bare,has_none]
 rfl
theorem qJq {t:ST} {n:Nat} (T:Tab t n) {j:Nat} (hj:j<=t.mask) (s:t.slot j=.empty):Tab (t.put j).1 (n+1):=by
 have c:=YU T.rise j
 have no:j∉t.place.toList:=fun h=>(Qp T j).mpr h s
 have pw:=YJ.mp T.rise
 have lo:∀ a∈t.place.toList.take (vE t.place j),a<j:=by
  intro a ha
  obtain ⟨k,hk,e⟩:=fN.mp ha
  rw [zP] at hk
  rw [fA,uY] at e
  rw [<- e]
  exact c.lt k (by omega) (by rw [<- wN]; omega)
 have hi:∀ a∈t.place.toList.drop (vE t.place j),j<a:=by
  intro a ha
  have ne:a≠j:=fun e=>no (e ▸ WN ha)
  obtain ⟨k,hk,e⟩:=fN.mp ha
  rw [xQ] at hk
  rw [VM,uY] at e
  have:=c.ge (vE t.place j+k) (by omega) (by rw [<- wN]; omega)
  rw [e] at this
  omega
 refine ⟨YJ.mpr ?_,?_,qHV T j,?_⟩
 ·rw [QE T]
  unfold qDj
  rw [List.pairwise_append,gN]
  refine ⟨pw.sublist (xG _ _),⟨hi,pw.sublist (List.drop_sublist _ _)⟩,fun a ha b hb=>?_⟩
  rcases wX.mp hb with z | z
  ·rw [z]
   exact lo a ha
  ·exact VH (lo a ha) (hi b z)
 ·rw [<- wN,QE T,qAh,wN,T.size]
 ·intro k hk
  have:(t.put j).1.place[k]∈(t.put j).1.place.toList:=yN.mpr (VL hk)
  rw [QE T,qCx] at this
  show _<=t.mask
  rcases this with z | z
  ·rw [z]
   exact hj
  ·obtain ⟨q,hq,e⟩:=fG.mp (yN.mp z)
   rw [<- e]
   exact T.mask q hq
theorem qGW {t:ST} {hs:List Int} (k:jv t hs) (room:hs.length+1<=t.mask) {h:Int} {c:Nat} (s:t.slot (qD t h c).j=.empty) (all:∀ q,q<c->t.slot (qD t h q).j≠.empty) :
  jv (t.put (qD t h c).j).1 (qDj hs (vE t.place (qD t h c).j) h):=by
 have hj:(qD t h c).j<=t.mask:=zK (yV _ _) (QB t h c)
 have T:=qJq k.tab hj s
 have cu:=YU k.tab.rise (qD t h c).j
 have sz:=k.tab.size
 have same:∀(h':Int) (n:Nat),qD (t.put (qD t h c).j).1 h' n=qD t h' n:=fun h' n=>JD (t:=(t.put (qD t h c).j).1) (u:=t) rfl h' n
 have more:∀ j':Nat,t.slot j'≠.empty->(t.put (qD t h c).j).1.slot j'≠.empty:=by
  intro j' n
  refine (Qp T j').mpr ?_
  rw [QE k.tab,qCx]
  exact .inr ((Qp k.tab j').mp n)
 refine ⟨by rw [qAh]; exact T,k.fits,by rw [qAh]; exact room,fun i h' hi=>?_⟩
 rw [qCw _ (by have:=cu.le; omega)] at hi
 have hp:(t.put (qD t h c).j).1.place[i]? = if i<vE t.place (qD t h c).j then t.place[i]? else if i=vE t.place (qD t h c).j then some (qD t h c).j else t.place[i - 1]?:=by
  rw [<- yE,QE k.tab,qCw _ (by rw [wN]; exact cu.le),yE,yE]
 rw [hp]
 have old:∀ i:Nat,hs[i]? = some h'->∃ c',t.place[i]? = some (qD (t.put (qD t h c).j).1 h' c').j/\∀ q,q<c'->(t.put (qD t h c).j).1.slot (qD (t.put (qD t h c).j).1 h' q).j≠.empty:=by
  intro i hi
  obtain ⟨c',e,al⟩:=k.meet i h' hi
  refine ⟨c',by rw [same]; exact e,fun q hq=>?_⟩
  rw [same]
  exact more _ (al q hq)
 by_cases z:i<vE t.place (qD t h c).j
 ·rw [if_pos z] at hi ⊢
  exact old i hi
 ·rw [if_neg z] at hi ⊢
  by_cases y:i=vE t.place (qD t h c).j
  ·rw [if_pos y] at hi ⊢
   cases hi
   refine ⟨c,by rw [same],fun q hq=>?_⟩
   rw [same]
   exact more _ (all q hq)
  ·rw [if_neg y] at hi ⊢
   exact old (i - 1) hi
theorem qDx (finger moves:Nat) (led:Bool):jv (SetTable.fresh finger moves led) []:=by
 refine ⟨⟨fun a b _ hb=>absurd hb (vT _),rfl,rfl,fun k h=>absurd h (vT _)⟩,.inl rfl,zV _,fun i h hi=>?_⟩
 cases hi
theorem qDc {t:ST} {h:Int} {k n:Nat} (b:qEa t h k n):qEa t h (k+1) (n+(qD t h n).more+1):=by
 obtain ⟨h1,h2,h3,h4⟩:=Yo t h (n:=n) (qD t h n).more (wF _)
 have m9:(qD t h n).more<=9:=by
  rw [b.more]
  unfold xA
  split <;> omega
 have e:qD t h (n+(qD t h n).more+1) = { qD t h (n+(qD t h n).more) with j:=(xV t.mask (qa t.mask (wU h) k).1 (qa t.mask (wU h) k).2).1,more:=xA t.mask (xV t.mask (qa t.mask (wU h) k).1 (qa t.mask (wU h) k).2).1 - (xV t.mask (qa t.mask (wU h) k).1 (qa t.mask (wU h) k).2).1,i:=(xV t.mask (qa t.mask (wU h) k).1 (qa t.mask (wU h) k).2).1,perturb:=(xV t.mask (qa t.mask (wU h) k).1 (qa t.mask (wU h) k).2).2 }:=by
  show t.advance (qD t h (n+(qD t h n).more))=_
  unfold hW
  rw [if_neg (by omega),h2,h3,b.i,b.p]
 refine ⟨?_,?_,?_,?_,?_⟩
 ·have:=b.few
  omega
 ·rw [e]; rfl
 ·rw [e]; rfl
 ·rw [e]; rfl
 ·rw [e]; rfl
noncomputable abbrev qBf (o:Array (Option Nat)) (j:Nat):Prop:=(o.getD j (some 0)).isNone=true
theorem qHS {t:ST} {h:Int} {k n r:Nat} (b:qEa t h k n) (hr:r∈zA (xA t.mask (qa t.mask (wU h) k).1+1 - (qa t.mask (wU h) k).1)):r<=(qD t h n).more/\(qD t h (n+r)).j=(qa t.mask (wU h) k).1+r:=by
 have l:=zN.mp hr
 have m:=b.more
 have le:r<=(qD t h n).more:=by omega
 refine ⟨le,?_⟩
 rw [(Yo t h r le).1,b.j]
theorem qDC {t:ST} (o:Array (Option Nat)) (h:Int):∀(fuel k n:Nat),qEa t h k n->(∀ q,q<n->¬ qBf o (qD t h q).j)->(∃ k',k<=k'/\k'<k+fuel/\qBf o (qa t.mask (wU h) k').1)->
  ∃ c,fC t.mask o fuel (qa t.mask (wU h) k).1 (qa t.mask (wU h) k).2=some (qD t h c).j/\qBf o (qD t h c).j/\∀ q,q<c->¬ qBf o (qD t h q).j
 | 0,k,n,b,al,⟨k',h1,h2,_⟩=>absurd h2 (by omega)
 | fuel+1,k,n,b,al,⟨k',h1,h2,h3⟩=>by
  unfold fC
  cases f:(zA (xA t.mask (qa t.mask (wU h) k).1+1 - (qa t.mask (wU h) k).1)).find? (fun r=>(o.getD ((qa t.mask (wU h) k).1+r) (some 0)).isNone) with
  | some r=>
   obtain ⟨p,mem,lo⟩:=List.find?_range_eq_some.mp f
   obtain ⟨le,e⟩:=qHS b mem
   refine ⟨n+r,by rw [e],by rw [e]; exact p,fun q hq=>?_⟩
   by_cases z:q<n
   ·exact al q z
   ·have q':q=n+(q - n):=by omega
    rw [q',(Yo t h (q - n) (by omega)).1,b.j]
    have:=lo (q - n) (by omega)
    intro w
    rw [w] at this
    cases this
  | none=>
   have no:=List.find?_eq_none.mp f
   have here:∀ r,r<=(qD t h n).more->¬ qBf o ((qa t.mask (wU h) k).1+r):=fun r hr=>no r (zN.mpr (by
    have m:=b.more
    have:(qa t.mask (wU h) k).1<=xA t.mask (qa t.mask (wU h) k).1:=by
     unfold xA
     split <;> omega
    omega))
   refine qDC o h fuel (k+1) _ (qDc b) (fun q hq=>?_) ⟨k',?_,by omega,h3⟩
   ·by_cases z:q<n
    ·exact al q z
    ·have q':q=n+(q - n):=by omega
     rw [q',(Yo t h (q - n) (by omega)).1,b.j]
     exact here (q - n) (by omega)
   ·rcases fZ h1 with z | z
    ·exact z
    ·subst z
     exact absurd h3 (here 0 (zV _))
theorem qJz {t:ST} (F:Fits t.mask) (o:Array (Option Nat)) (h:Int) {e:Nat} (he:e<=t.mask) (be:qBf o e) :
  ∃ c,fC t.mask o (xI t.mask) (wU h % (t.mask+1)) (wU h)=some (qD t h c).j/\qBf o (qD t h c).j/\∀ q,q<c->¬ qBf o (qD t h q).j:=by
 obtain ⟨q,hq,eq⟩:=qC3 (qAq F) (xZ (qBs t.mask (wU h) 13)) (xZ he)
 refine qDC o h (xI t.mask) 0 0 ⟨wF _,rfl,rfl,rfl,rfl⟩ (fun q hq=>absurd hq (vT _)) ⟨13+q,zV _,?_,?_⟩
 ·unfold xI
  omega
 ·rw [JH,eq]
  exact be
structure qGu (t:ST) (o:Array (Option Nat)) (hs:List Int):Prop where
 size:o.size=t.mask+1
 low:∀(j k:Nat),o[j]? = some (some k)->k<hs.length
 once:∀(j j' k:Nat),o[j]? = some (some k)->o[j']? = some (some k)->j=j'
 meet:∀(i:Nat) (h:Int),hs[i]? = some h->∃ c,o[(qD t h c).j]? = some (some i)/\∀ q,q<c->¬ qBf o (qD t h q).j
theorem Q7 {o:Array (Option Nat)} {j:Nat} (hj:j<o.size):qBf o j↔o[j]? = some none:=by
 unfold qBf
 rw [yG,zJ hj,Option.getD_some]
 cases o[j] with
 | none=>exact ⟨fun _=>rfl,fun _=>rfl⟩
 | some k=>exact ⟨fun h=>(by cases h),fun h=>(by cases h)⟩
theorem qIi {t:ST} {o:Array (Option Nat)} {hs:List Int} (O:qGu t o hs) {h:Int} {c:Nat} (b:qBf o (qD t h c).j) (al:∀ q,q<c->¬ qBf o (qD t h q).j):qGu t (o.setIfInBounds (qD t h c).j (some hs.length)) (hs++[h]):=by
 have hj:(qD t h c).j<o.size:=by
  rw [O.size]
  exact xZ (zK (yV _ _) (QB t h c))
 have at0:=(Q7 hj).mp b
 have get:∀ j:Nat,(o.setIfInBounds (qD t h c).j (some hs.length))[j]? = if (qD t h c).j=j then some (some hs.length) else o[j]?:=by
  intro j
  refine Eq.trans Array.getElem?_setIfInBounds ?_
  by_cases z:(qD t h c).j=j
  ·rw [if_pos z,if_pos z,if_pos hj]
  ·rw [if_neg z,if_neg z]
 have keep:∀ j:Nat,j<=t.mask->¬ qBf o j->¬ qBf (o.setIfInBounds (qD t h c).j (some hs.length)) j:=by
  intro j hm nb w
  have w':=(Q7 (by rw [ZL,O.size]; omega)).mp w
  rw [get] at w'
  by_cases z:(qD t h c).j=j
  ·rw [if_pos z] at w'
   cases w'
  ·rw [if_neg z] at w'
   exact nb ((Q7 (by rw [O.size]; omega)).mpr w')
 have lowj:∀(h':Int) (q:Nat),(qD t h' q).j<=t.mask:=fun h' q=>zK (yV _ _) (QB t h' q)
 refine ⟨by rw [ZL]; exact O.size,fun j k e=>?_,fun j j' k e e'=>?_,fun i h' hi=>?_⟩
 ·rw [get] at e
  rw [wV]
  by_cases z:(qD t h c).j=j
  ·rw [if_pos z] at e
   cases e
   exact ZT _
  ·rw [if_neg z] at e
   exact ZH (O.low j k e)
 ·rw [get] at e e'
  by_cases z:(qD t h c).j=j
  ·by_cases z':(qD t h c).j=j'
   ·exact z.symm.trans z'
   ·rw [if_pos z] at e
    rw [if_neg z'] at e'
    cases e
    exact absurd (O.low j' _ e') (vX _)
  ·by_cases z':(qD t h c).j=j'
   ·rw [if_neg z] at e
    rw [if_pos z'] at e'
    cases e'
    exact absurd (O.low j _ e) (vX _)
   ·rw [if_neg z] at e
    rw [if_neg z'] at e'
    exact O.once j j' k e e'
 ·by_cases z:i<hs.length
  ·rw [yL z] at hi
   obtain ⟨c',e,al'⟩:=O.meet i h' hi
   refine ⟨c',?_,fun q hq=>keep _ (lowj h' q) (al' q hq)⟩
   rw [get,if_neg,e]
   intro w
   rw [<- w,at0] at e
   cases e
  ·rw [zO (vG z)] at hi
   have i0:i=hs.length:=by
    refine UP (vG fun y=>?_) (vG z)
    rw [show i - hs.length=(i - hs.length - 1)+1 by omega] at hi
    cases hi
   subst i0
   rw [VN] at hi
   cases hi
   refine ⟨c,by rw [get,if_pos rfl],fun q hq=>keep _ (lowj h q) (al q hq)⟩
theorem qHY {t:ST} {o:Array (Option Nat)} {hs:List Int} (O:qGu t o hs) (room:hs.length<=t.mask):∃ e,e<=t.mask/\qBf o e:=by
 refine yM fun no=>?_
 have all:∀ e:Nat,e<=t.mask->∃ k,o[e]? = some (some k):=by
  intro e he
  have hl:e<o.size:=by rw [O.size]; omega
  have nb:¬ qBf o e:=fun b=>no ⟨e,he,b⟩
  cases z:o[e] with
  | none=>exact absurd ((Q7 hl).mpr (by rw [zJ hl,z])) nb
  | some k=>exact ⟨k,by rw [zJ hl,z]⟩
 have val:∀(e k:Nat),o[e]? = some (some k)->(o.getD e none).getD 0=k:=by
  intro e k h
  rw [yG,h]
  rfl
 have nd:((zA (t.mask+1)).map fun e=>(o.getD e none).getD 0).Nodup:=by
  unfold List.Nodup
  rw [vL]
  refine (hX (n:=t.mask+1)).imp_of_mem fun {a b} ha hb ne w=>ne ?_
  obtain ⟨k,hk⟩:=all a (vM (zN.mp ha))
  obtain ⟨k',hk'⟩:=all b (vM (zN.mp hb))
  rw [val a k hk,val b k' hk'] at w
  subst w
  exact O.once a b k hk hk'
 have sub:∀ k∈(zA (t.mask+1)).map fun e=>(o.getD e none).getD 0,k∈zA hs.length:=by
  intro k hk
  obtain ⟨e,he,ek⟩:=zD.mp hk
  obtain ⟨k',hk'⟩:=all e (vM (zN.mp he))
  rw [val e k' hk'] at ek
  subst ek
  exact zN.mpr (O.low e _ hk')
 have:=vU nd sub
 rw [wB,vB,vB] at this
 omega
noncomputable def qAB (mask:Nat) (acc:Option (Array (Option Nat)×Nat)) (h:Int):Option (Array (Option Nat)×Nat):=
 acc.bind fun x=>(fC mask x.1 (xI mask) (wU h % (mask+1)) (wU h)).bind fun j=>some (x.1.setIfInBounds j (some x.2),x.2+1)
theorem qGs (mask:Nat) (hs:Array Int):VP mask hs=(hs.toList.foldl (qAB mask) (some (Array.replicate (mask+1) none,0))).map (·.1):=by
 unfold VP
 rw [<- Array.foldl_toList]
 rfl
theorem qHi {t:ST} (F:Fits t.mask):∀(rest done:List Int) (o:Array (Option Nat)),qGu t o done->done.length+rest.length<=t.mask->
  ∃ o',rest.foldl (qAB t.mask) (some (o,done.length))=some (o',done.length+rest.length)/\qGu t o' (done++rest)
 | [],done,o,O,_=>⟨o,rfl,by rw [zI]; exact O⟩
 | h::rest,done,o,O,room=>by
  rw [wW] at room
  obtain ⟨e,he,be⟩:=qHY O (by omega)
  obtain ⟨c,fr,b,al⟩:=qJz F o h he be
  obtain ⟨o',r,O'⟩:=qHi F rest (done++[h]) _ (qIi O b al) (by rw [wV,List.length_singleton]; omega)
  refine ⟨o',?_,by rw [yF] at O'; exact O'⟩
  rw [UI]
  have st:qAB t.mask (some (o,done.length)) h=some (o.setIfInBounds (qD t h c).j (some done.length),(done++[h]).length):=by
   unfold qAB
   rw [VU,fr,VU,wV]
   rfl
  rw [st,r]
  simp only [wV,wW,uC]
  congr 2
  omega
theorem qHd (t:ST):qGu t (Array.replicate (t.mask+1) none) []:=by
 refine ⟨Array.size_replicate,fun j k e=>?_,fun j j' k e _=>?_,fun i h hi=>by cases hi⟩
 ·rw [SB] at e
  split at e <;> cases e
 ·rw [SB] at e
  split at e <;> cases e
theorem qJA {t:ST} (F:Fits t.mask) (hs:Array Int) (room:hs.size<=t.mask):∃ o,VP t.mask hs=some o/\qGu t o hs.toList:=by
 obtain ⟨o,r,O⟩:=qHi F hs.toList [] _ (qHd t) (by rw [uC,kL,wN]; exact room)
 refine ⟨o,?_,O⟩
 rw [qGs]
 rw [uC] at r
 rw [r]
 rfl
noncomputable def qy (mask:Nat) (o:Array (Option Nat)):List (Nat×Nat):=(zA (mask+1)).filterMap fun j=>(o.getD j none).map (j,·)
theorem jn {t:ST} {o:Array (Option Nat)} {hs:List Int} (O:qGu t o hs) {j k:Nat}:(j,k)∈qy t.mask o↔o[j]? = some (some k):=by
 unfold qy
 rw [kI]
 constructor
 ·rintro ⟨a,ha,e⟩
  have hl:a<o.size:=by rw [O.size]; exact zN.mp ha
  rw [yG,zJ hl,Option.getD_some] at e
  cases z:o[a] with
  | none=>rw [z] at e; cases e
  | some b=>
   rw [z] at e
   cases e
   rw [zJ hl,z]
 ·intro e
  have hl:j<o.size:=(yS.mp e).1
  refine ⟨j,zN.mpr (by rw [<- O.size]; exact hl),?_⟩
  rw [yG,e]
  rfl
theorem qBM (mask:Nat) (o:Array (Option Nat)):((qy mask o).map (·.1)).Pairwise (· < ·):=by
 rw [vL]
 unfold qy
 rw [List.pairwise_filterMap]
 refine (List.pairwise_lt_range (n:=mask+1)).imp fun {a b} ab x hx y hy=>?_
 cases za:o.getD a none with
 | none=>rw [za] at hx; cases hx
 | some k=>
  cases zb:o.getD b none with
  | none=>rw [zb] at hy; cases hy
  | some k'=>
   rw [za] at hx
   rw [zb] at hy
   cases hx
   cases hy
   exact ab
theorem qFO {t:ST} {o:Array (Option Nat)} {hs:List Int} (O:qGu t o hs):gR ((qy t.mask o).map (·.2)) (zA hs.length):=by
 refine (xJ ?_ hX).mpr fun k=>?_
 ·unfold List.Nodup
  rw [vL]
  have r:=qBM t.mask o
  rw [vL] at r
  refine r.imp_of_mem fun {a b} ha hb lt w=>?_
  obtain ⟨a1,a2⟩:=a
  obtain ⟨b1,b2⟩:=b
  have w':a2=b2:=w
  subst w'
  have:=O.once a1 b1 a2 ((jn O).mp ha) ((jn O).mp hb)
  have lt':a1<b1:=lt
  omega
 ·rw [zD,zN]
  constructor
  ·rintro ⟨⟨j,k'⟩,m,e⟩
   cases e
   exact O.low j _ ((jn O).mp m)
  ·intro hk
   obtain ⟨c,e,_⟩:=O.meet k hs[k] (wA hk)
   exact ⟨(_,k),(jn O).mpr e,rfl⟩
theorem qCs {α:Type} (xs:List α):∀(l:List Nat),(∀ k∈l,k<xs.length)->∀ i:Nat,(l.filterMap (xs[·]?))[i]? = (l[i]?).bind (xs[·]?)
 | [],_,i=>rfl
 | k::l,h,i=>by
  have hk:=h k wL
  rw [gE,wA hk]
  cases i with
  | zero=>
   show some _=xs[k]?
   rw [wA hk]
  | succ i=>exact qCs xs l (fun a ha=>h a (wI _ ha)) i
theorem qFh {t:ST} (F:Fits t.mask) (hs:Array Int) (room:hs.size<=t.mask) (finger moves:Nat) (led plain:Bool) :
  ∃(u:ST) (order:Array Nat),SetTable.laid t.mask finger moves led plain hs=some (u,order)/\gR order.toList (zA hs.size)/\jv u (order.toList.filterMap (hs.toList[·]?))/\u.mask=t.mask/\u.led=led/\u.plain=plain:=by
 obtain ⟨o,lo,O⟩:=qJA F hs room
 have pm:=qFO O
 rw [wN] at pm
 have low:∀ k∈(qy t.mask o).map (·.2),k<hs.toList.length:=fun k hk=>by
  rw [wN]
  exact zN.mp (pm.mem_iff.mp hk)
 have len:(((qy t.mask o).map (·.2)).filterMap (hs.toList[·]?)).length=(qy t.mask o).length:=by
  have:∀(l:List Nat),(∀ k∈l,k<hs.toList.length)->(l.filterMap (hs.toList[·]?)).length=l.length:=by
   intro l
   induction l with
   | nil=>intro _; rfl
   | cons k l ih=>
    intro h
    rw [gE,wA (h k wL)]
    exact congrArg (· + 1) (ih fun a ha=>h a (wI _ ha))
  rw [this _ low,wB]
 have full:(qy t.mask o).length=hs.size:=by
  have:=pm.length_eq
  rwa [wB,vB] at this
 refine ⟨{ mask:=t.mask,place:=((qy t.mask o).map (·.1)).toArray,dummies:=#[],finger,led,moves,plain },((qy t.mask o).map (·.2)).toArray,?_,pm,?_,rfl,rfl,rfl⟩
 ·unfold SetTable.laid
  rw [lo]
  rfl
 ·have T:Tab { mask:=t.mask,place:=((qy t.mask o).map (·.1)).toArray,dummies:=#[],finger,led,moves,plain } (((qy t.mask o).map (·.2)).filterMap (hs.toList[·]?)).length:=by
   refine ⟨YJ.mpr (qBM t.mask o),?_,rfl,fun k hk=>?_⟩
   ·rw [len]
    exact (wJ).trans (wB _)
   ·have m:((qy t.mask o).map (·.1)).toArray[k]∈(qy t.mask o).map (·.1):=List.mem_toArray.mp (VL hk)
    obtain ⟨⟨j,k'⟩,mm,e⟩:=zD.mp m
    show ((qy t.mask o).map (·.1)).toArray[k]<=t.mask
    rw [<- e]
    have:=(yS.mp ((jn O).mp mm)).1
    rw [O.size] at this
    exact vM this
  refine ⟨T,F,by show _<=t.mask; rw [len,full]; exact room,fun i h hi=>?_⟩
  rw [qCs _ _ low,wQ] at hi
  cases z:(qy t.mask o)[i]? with
  | none=>rw [z] at hi; cases hi
  | some p=>
   rw [z] at hi
   obtain ⟨j,k⟩:=p
   have hk:hs.toList[k]? = some h:=hi
   have own:=(jn O).mp (yD z)
   obtain ⟨c,e,al⟩:=O.meet k h hk
   have ej:=O.once _ _ _ e own
   have same:∀ q,qD { mask:=t.mask,place:=((qy t.mask o).map (·.1)).toArray,dummies:=#[],finger,led,moves,plain } h q=qD t h q:=fun q=>JD (t:={ mask:=t.mask,place:=((qy t.mask o).map (·.1)).toArray,dummies:=#[],finger,led,moves,plain }) (u:=t) rfl h q
   refine ⟨c,?_,fun q hq=>?_⟩
   ·rw [same,ej]
    show ((qy t.mask o).map (·.1)).toArray[i]? = some j
    rw [List.getElem?_toArray,wQ,z]
    rfl
   ·rw [same]
    refine (Qp T _).mpr ?_
    show (qD t h q).j∈(qy t.mask o).map (·.1)
    have hl:(qD t h q).j<o.size:=by
     rw [O.size]
     exact xZ (zK (yV _ _) (QB t h q))
    cases y:o[(qD t h q).j] with
    | none=>exact absurd ((Q7 hl).mpr (by rw [zJ hl,y])) (al q hq)
    | some k'=>exact zD.mpr ⟨(_,k'),(jn O).mpr (by rw [zJ hl,y]),rfl⟩
theorem qDe {t:ST} {hs:List Int} (k:jv t hs) {h:Int} {c i:Nat} (s:t.slot (qD t h c).j=.empty) (hi:hs[i]? = some h):∃ c',c'<c/\t.slot (qD t h c').j=.live i:=by
 obtain ⟨c',e,al⟩:=k.meet i h hi
 have lv:=YN k.tab e
 refine ⟨c',Nat.lt_of_le_of_ne (vG fun z=>al c z s) fun z=>?_,lv⟩
 rw [<- z,lv] at s
 cases s
structure Q9 (t:ST) (hs:List Int):Prop where
 kept:jv t hs
 few:hs.length*5<t.mask*3
theorem Q9.fill {t:ST} {hs:List Int} (k:jv t hs):t.fill=hs.length:=by
 unfold SetTable.fill
 rw [k.tab.size,k.tab.bare]
 rfl
theorem Jl (finger moves:Nat) (led:Bool):Q9 (SetTable.fresh finger moves led) []:=⟨qDx finger moves led,by show 0<7*3; decide⟩
theorem qAu {mask n:Nat} (F:Fits mask) (few:n*5<mask*3) (full:(n+1)*5≥mask*3) (hn:n+1<307) :
  Fits (kM (kD (n+1)) - 1)/\(n+1)*5<(kM (kD (n+1)) - 1)*3/\kM (kD (n+1))<=512:=by
 rcases F with z | z | z | z
 ·subst z
  have e:n=4:=by omega
  subst e
  exact ⟨.inr (.inl (by decide)),by decide,by decide⟩
 ·subst z
  have e:n=18:=by omega
  subst e
  exact ⟨.inr (.inr (.inl (by decide))),by decide,by decide⟩
 ·subst z
  have e:n=76:=by omega
  subst e
  exact ⟨.inr (.inr (.inr (by decide))),by decide,by decide⟩
 ·omega
theorem qB1 {t:ST} {hs:List Int} (k:jv t hs) {n:Nat} (hn:hs.length=n+1) (few:n*5<t.mask*3) (full:t.tooFull=true) (lim:n+1<307) (ha:Array Int) (eh:ha.toList=hs) :
  ∃(u:ST) (order:Array Nat),t.relaid ha (kD (n+1))=some (u,order)/\gR order.toList (zA hs.length)/\Q9 u (order.toList.filterMap (hs[·]?))/\u.led=t.led/\u.plain=t.plain:=by
 have f:=of_decide_eq_true full
 rw [Q9.fill k,hn] at f
 obtain ⟨F,fw,_⟩:=qAu k.fits few f lim
 have sz:ha.size=n+1:=by rw [<- wN,eh,hn]
 obtain ⟨u,order,e,pm,kp,em,el,ep⟩:=qFh (t:={ t with mask:=kM (kD (n+1)) - 1 }) F ha (by rw [sz]; show n+1<=kM (kD (n+1)) - 1; omega) t.finger (t.movedTo (kM (kD (n+1)) - 1)) t.led t.plain
 rw [eh] at kp
 rw [sz,<- hn] at pm
 refine ⟨u,order,e,pm,⟨kp,?_⟩,el,ep⟩
 have len:(order.toList.filterMap (hs[·]?)).length=n+1:=by
  have:=pm.filterMap (hs[·]?)
  have:=this.length_eq
  rw [this]
  have q:=congrArg fL (PySem.List.filterMap_getElem?_range_length hs)
  rw [<- hn]
  exact q
 rw [len,em]
 exact fw
theorem qE9 {t:ST} {hs:List Int} (R:Q9 t hs) {h:Int} {c:Nat} (s:t.slot (qD t h c).j=.empty) (all:∀ q,q<c->t.slot (qD t h q).j≠.empty) :
  jv (t.put (qD t h c).j).1 (qDj hs (vE t.place (qD t h c).j) h)/\((t.put (qD t h c).j).1.tooFull=false->Q9 (t.put (qD t h c).j).1 (qDj hs (vE t.place (qD t h c).j) h)):=by
 have lo:7<=t.mask:=by
  rcases R.kept.fits with z | z | z | z <;> omega
 have few:=R.few
 have kp:=qGW R.kept (by omega) s all
 refine ⟨kp,fun nf=>⟨kp,?_⟩⟩
 have:=of_decide_eq_false nf
 rw [Q9.fill kp] at this
 omega
section
variable {w:World} {prog:Program} {A:Around} {E:Value->Shared->Prop} {s:Shared}
theorem ifF {α:Type} {x y:Sem α} {Q:α->Shared->Prop} (h:wpAny (model prog w) A y Q E s):wpAny (model prog w) A (if false=true then x else y) Q E s:=h
theorem told {α β:Type} {m:Sem α} {a:α} {g:α->Sem β} {Q:β->Shared->Prop} (e:m=pure a) (h:wpAny (model prog w) A (g a) Q E s):wpAny (model prog w) A (m >>= g) Q E s:=by
 subst e
 exact wC (wK h)
theorem Q8 {α β:Type} {P:α->Prop} {f:α->β->Sem (ForInStep β)} {b:β} {Q:β->Shared->Prop} (go:∀(x:α) (R:ForInStep β->Shared->Prop),P x->R (.yield b) s->wpAny (model prog w) A (f x b) R E s) (q:Q b s):∀ l:List α,(∀ x∈l,P x)->wpAny (model prog w) A (forIn l b f) Q E s
 | [],_=>wK q
 | x::l,h=>by
  rw [UJ]
  exact wC (go x _ (h x wL) (Q8 go q l fun y hy=>h y (wI _ hy)))
noncomputable def isI (v:Value):Prop:=∃ k t,v=.int k t
theorem all_ints {ks:List Int} {vs:List Value} (h:ItemsAre (intKind prog w) ks vs):∀ v∈vs,isI v:=by
 induction h with
 | nil=>exact fun v z=>nomatch z
 | cons one _ rest=>
  exact fun v z=>(wX.mp z).elim (fun e=>let ⟨t,y⟩:=Value.isInt_shape one; ⟨_,t,e.trans y⟩) (rest v)
theorem qCF (n:Nat) {v:Value} (h:isI v):ofAClassStatement n v=pure false:=by
 obtain ⟨k,t,rfl⟩:=h
 cases n <;> rfl
theorem qCD (n:Nat) {v:Value} (h:isI v):hashByValue n v=pure true:=by
 obtain ⟨k,t,rfl⟩:=h
 cases n <;> rfl
theorem YK {ks:List Int} {a:Addr} {Q:Bool->Shared->Prop} (hk:IsTupleKey (intKind prog w) s.heap ks a) (h:Q false s):wpAny (model prog w) A (ofAClassStatement 8 (.ref a)) Q E s:=by
 obtain ⟨o,xs,n,at_,cl,dt,its⟩:=hk
 unfold ofAClassStatement
 refine wC (ZV (T:="tuple") ⟨o,at_,cl⟩ (wC (wK ?_)))
 refine ifF (wC (TJ at_ dt (wC ?_)))
 rw [<- Array.forIn_toList]
 refine Q8 (P:=isI) ?_ ?_ _ (all_ints its)
 ·exact fun x R hx r=>told (qCF _ hx) (ifF (wK r))
 ·exact wK h
noncomputable def qEn (prog:Program) (w:World) (h:Heap) (vs:List Value):Prop:=∀ v∈vs,∃(b:Addr) (ks:List Int),v=zW b/\IsTupleKey (intKind prog w) h ks b
theorem qGG {ks:List Int} {a:Addr} {ys:List Value} {Q:Bool->Shared->Prop} (hk:IsTupleKey (intKind prog w) s.heap ks a) (hy:qEn prog w s.heap ys) (h:Q false s):wpAny (model prog w) A (searchCouldBeSeen (.ref a) ys) Q E s:=by
 unfold searchCouldBeSeen
 refine wC ?_
 refine Q8 (P:=fun v=>∃(b:Addr) (ks:List Int),v=zW b/\IsTupleKey (intKind prog w) s.heap ks b) (fun x R hx r=>?_) ?_ ys hy
 rotate_left
 ·exact wK h
 obtain ⟨b,kb,rfl,hb⟩:=hx
 dsimp only
 split
 ·exact wK r
 ·refine wC (wpAny_eqIsQuiet_tuple hk (ifF (wC (wpAny_eqIsQuiet_tuple hb (ifF ?_)))))
  exact wC (YK hk (ifF (wC (YK hb (ifF (wK r))))))
theorem qDf {ks:List Int} {a:Addr} {Q:Bool->Shared->Prop} (hk:IsTupleKey (intKind prog w) s.heap ks a) (h:Q true s):wpAny (model prog w) A (hashByValue 8 (.ref a)) Q E s:=by
 have ty:=hk.typeIs
 obtain ⟨o,xs,n,at_,cl,dt,its⟩:=hk
 unfold hashByValue
 refine wC (wpAny_specialOf ty F.slot_tuple_hash.lookup (wC (TJ at_ dt (wC ?_))))
 show wpAny _ _ (forIn xs _ _) _ _ _
 rw [<- Array.forIn_toList]
 refine Q8 (P:=isI) ?_ ?_ _ (all_ints its)
 ·exact fun x R hx r=>told (qCD _ hx) (ifF (wK r))
 ·exact wK h
end
section
variable {prog:Program} {w:World} {A:Around} {E:Value->Shared->Prop} {s:Shared}
theorem Qm {t:ST} {hs:List Int} (k:jv t hs) {n:Nat} (hn:hs.length=n):t.fits n=true:=by
 unfold SetTable.fits
 rw [Q9.fill k,k.tab.size,hn]
 have:=k.room
 rw [hn] at this
 simp [this]
theorem asks {β:Type} {prog:Program} {w:World} {A:Around} {E:Value->Shared->Prop} {s:Shared} {a:Addr} {o:Obj} {es:Array (Int×Value)} {ep:Nat} {t:ST} {g:Array (Int×Value)×Nat×ST->Sem β} {Q:β->Shared->Prop} (ho:s.heap.get? a=some o) (hd:o.data=.set es ep t) (k:jv t (es.toList.map (·.1))) (h:wpAny (model prog w) A (g (es,ep,t)) Q E s):wpAny (model prog w) A (setState a >>= g) Q E s:=
 wC (wpAny_setState_of ho hd (Qm k (by rw [wB,wN])) h)
theorem qHL {t:ST} {hs:List Int} (k:jv t hs):t.gaveWay=false:=by
 unfold SetTable.gaveWay
 rcases k.fits with z | z | z | z <;> rw [z] <;> rfl
theorem Jy {a ax:Addr} {kx:List Int} {h:Int} {o:Obj} {es:Array (Int×Value)} {ep:Nat} {t:ST} {Q:SetFound->Shared->Prop}
  (ho:s.heap.get? a=some o) (hd:o.data=.set es ep t) (k:jv t (es.toList.map (·.1))) (hu:A.units<cLine) (hx:IsTupleKey (intKind prog w) s.heap kx ax)
  (hes:∀(i:Nat) (h':Int) (v:Value),es[i]? = some (h',v)->∃(b:Addr) (kv:List Int),v=.ref b/\IsTupleKey (intKind prog w) s.heap kv b)
  (yes:∀(i:Nat) (h':Int) (b:Addr),es[i]? = some (h',.ref b)->IsTupleKey (intKind prog w) s.heap kx b->Q (.there none) s)
  (no:∀ c,t.slot (qD t h c).j=.empty->(∀ q,q<c->t.slot (qD t h q).j≠.empty)->(∀(i:Nat) (b:Addr),es[i]? = some (h,.ref b)->¬ IsTupleKey (intKind prog w) s.heap kx b)->Q (.free (qD t h c).j false) s) :
  ∀(f c:Nat) (st:Option SetTable.Probe),st.getD (t.probeStart h)=qD t h c->(∀ q,q<c->t.slot (qD t h q).j≠.empty)->
   (∀(q i:Nat) (b:Addr),q<c->t.slot (qD t h q).j=.live i->es[i]? = some (h,.ref b)->¬ IsTupleKey (intKind prog w) s.heap kx b)->10*xI t.mask<f+c->
   wpAny (model prog w) A (setSearchFrom a (.ref ax) h true f st) Q E s
 | 0,c,st,hst,ne,un,fu=>by
  obtain ⟨e,he,se⟩:=qBl k
  obtain ⟨b,hb,eb⟩:=asked k.fits h he
  exact absurd (by rw [eb]; exact se) (ne b (by omega))
 | f+1,c,st,hst,ne,un,fu=>by
  have hf:t.fits es.size=true:=Qm k (by rw [wB,wN])
  obtain ⟨c',m,r⟩:=qFS k (fun i=>(es[i]?.map (·.1)).getD 0) h c (fun b sb _=>vG fun z=>ne b z sb)
  unfold setSearchFrom
  refine asks ho hd k ?_
  dsimp only
  rw [qHL k,hst]
  refine ifF ?_
  have gh:∀(i:Nat) (v:Value),es[i]? = some (h,v)->(Option.map (fun x:Int×Value=>x.fst) es[i]?).getD 0=h:=fun i v e=>by rw [e]; rfl
  have low:∀ q,q<c'->t.slot (qD t h q).j≠.empty:=by
   intro q hq
   by_cases z:q<c
   ·exact ne q z
   ·obtain ⟨i,e,_⟩:=m.past q (vG z) hq
    rw [e]
    exact fun w=>by cases w
  have unl:∀(q i:Nat) (b:Addr),q<c'->t.slot (qD t h q).j=.live i->es[i]? = some (h,.ref b)->¬ IsTupleKey (intKind prog w) s.heap kx b:=by
   intro q i b hq e ei
   by_cases z:q<c
   ·exact un q i b z e ei
   ·obtain ⟨i',e',g⟩:=m.past q (vG z) hq
    rw [e] at e'
    cases e'
    exact absurd (gh i _ ei) g
  rcases r with ⟨e,pe⟩ | ⟨i,sl,gi,pe⟩
  ·split
   ·rename_i met hm
    have em:=hm.symm.trans pe
    cases em
    refine wK (no c' e low fun i b ei=>?_)
    obtain ⟨q,hq,lv⟩:=qDe k (i:=i) e (by rw [wQ,yE,ei]; rfl)
    exact unl q i b hq lv ei
   ·rename_i hm
    exact (hm _ pe).elim
  ·split
   ·rename_i met hm
    have em:=hm.symm.trans pe
    cases em
    have il:i<es.size:=by
     rcases qCA k.tab (qD t h c').j with z | ⟨i',z,pl⟩
     ·rw [z] at sl
      cases sl
     ·rw [z] at sl
      cases sl
      have:=(yS.mp pl).1
      rw [k.tab.size,wB,wN] at this
      exact this
    obtain ⟨h',v,hi⟩:∃ h' v,es[i]? = some (h',v):=⟨es[i].1,es[i].2,zJ il⟩
    have eh:h'=h:=by rw [hi] at gi; exact gi
    subst eh
    obtain ⟨b,kv,rfl,hb⟩:=hes i _ v hi
    have tu:qEn prog w s.heap (List.map (fun x=>x.snd) (Array.filter (fun x=>x.fst == h') es).toList):=by
     intro v hv
     obtain ⟨x,hx',rfl⟩:=zD.mp hv
     have mem:=(Array.mem_filter.mp (yN.mp hx')).1
     obtain ⟨q,hq,eq⟩:=fG.mp mem
     exact hes q x.1 x.2 (by rw [zJ hq,eq])
    dsimp only
    by_cases hl:(!t.led)=true
    case' pos=>
     rw [if_pos hl]
     refine wC (qGG hx tu ?_)
     refine ifF ?_
    case' neg=>
     rw [if_neg hl]
    all_goals
     rw [hi]
     dsimp only
     refine wC (vR (wpAny_eqBool_tuple hu hb hx ?_))
     refine asks ho hd k ?_
     dsimp only
     by_cases kk:kv=kx
     ·subst kk
      simp only [decide_true,SC,if_true]
      exact wK (yes i _ b hi hb)
     ·have sm:t.sameMemory t.moves t.mask=some true:=by
       unfold SetTable.sameMemory
       rw [if_pos (by exact beq_self_eq_true _)]
      rw [decide_eq_false kk,sm]
      simp only [TF,uN,if_false,if_true]
      rw [sl]
      dsimp only
      rw [hi]
      dsimp only
      refine wC (wpAny_isSame_ref_self ?_)
      simp only [if_true]
      refine wC (wK ?_)
      dsimp only
      refine Jy ho hd k hu hx hes yes no f (c'+1) (some _) rfl (fun q hq=>?_) (fun q j b' hq lv ej=>?_) (by have:=m.le; omega)
      ·rcases fZ (vM hq) with z | z
       ·exact low q z
       ·rw [z,sl]
        exact fun w=>by cases w
      ·rcases fZ (vM hq) with z | z
       ·exact unl q j b' z lv ej
       ·rw [z,sl] at lv
        cases lv
        rw [hi] at ej
        cases ej
        exact fun w=>kk (hb.inj w)
   ·rename_i hm
    exact (hm _ pe).elim
end
section
variable {prog:Program} {w:World} {A:Around} {E:Value->Shared->Prop} {s:Shared}
theorem ins_map (es:Array (Int×Value)) (p:Nat) (x:Int×Value):(fE es p x).toList.map (·.1)=qDj (es.toList.map (·.1)) p x.1:=by
 rw [ZM]
 unfold qDj
 rw [yJ,zF,List.map_take,List.map_drop]
theorem qFe {t:ST} {hs:List Int} (k:jv t hs):10*xI t.mask<100000+0:=by
 unfold xI
 rcases k.fits with z | z | z | z <;> omega
theorem qDa {a ax:Addr} {kx:List Int} {h:Int} {o:Obj} {es:Array (Int×Value)} {ep:Nat} {t:ST} {Q:SetFound->Shared->Prop}
  (ho:s.heap.get? a=some o) (hd:o.data=.set es ep t) (k:jv t (es.toList.map (·.1))) (hu:A.units<cLine) (hx:IsTupleKey (intKind prog w) s.heap kx ax)
  (hes:∀(i:Nat) (h':Int) (v:Value),es[i]? = some (h',v)->∃(b:Addr) (kv:List Int),v=.ref b/\IsTupleKey (intKind prog w) s.heap kv b)
  (yes:∀(i:Nat) (h':Int) (b:Addr),es[i]? = some (h',.ref b)->IsTupleKey (intKind prog w) s.heap kx b->Q (.there none) s)
  (no:∀ c,t.slot (qD t h c).j=.empty->(∀ q,q<c->t.slot (qD t h q).j≠.empty)->(∀(i:Nat) (b:Addr),es[i]? = some (h,.ref b)->¬ IsTupleKey (intKind prog w) s.heap kx b)->Q (.free (qD t h c).j false) s) :
  wpAny (model prog w) A (setSearch a (.ref ax) h true) Q E s:=
 Jy ho hd k hu hx hes yes no 100000 0 none rfl (fun q hq=>absurd hq (vT _)) (fun q _ _ hq=>absurd hq (vT _)) (qFe k)
theorem qFN {a:Addr} {o:Obj} {es:Array (Int×Value)} {ep n:Nat} {t:ST} {Q:Unit->Shared->Prop}
  (ho:s.heap.get? a=some o) (hd:o.data=.set es ep t) (k:jv t (es.toList.map (·.1))) (hn:es.size=n+1) (few:n*5<t.mask*3) (full:t.tooFull=true) (lim:n+1<307)
  (q:∀(es':Array (Int×Value)) (t':ST),gR es'.toList es.toList->Q9 t' (es'.toList.map (·.1))->t'.led=t.led->t'.plain=t.plain->Q () { s with heap:=s.heap.update a (Obj.putSet es' t') }) :
  wpAny (model prog w) A (setRelay a (kD (n+1))) Q E s:=by
 have hl:(es.toList.map (·.1)).length=n+1:=by rw [wB,wN,hn]
 obtain ⟨u,order,e,pm,R,el,epl⟩:=qB1 k hl few full lim (es.map (·.1)) (by rw [ZS])
 have f:=of_decide_eq_true full
 rw [Q9.fill k,hl] at f
 have sz:=(qAu k.fits few f lim).2.2
 rw [hl,<- hn,<- wN] at pm
 have p2:gR (order.filterMap (es[·]?)).toList es.toList:=by
  rw [Array.toList_filterMap]
  refine (pm.filterMap (es[·]?)).trans ?_
  rw [wN,filterMap_getElem?_range]
 have m2:(order.filterMap (es[·]?)).toList.map (·.1)=order.toList.filterMap ((es.toList.map (·.1))[·]?):=by
  rw [Array.toList_filterMap,List.map_filterMap]
  congr 1
  funext i
  rw [wQ,yE]
 have s2:(order.filterMap (es[·]?)).size=es.size:=by
  have:=p2.length_eq
  rwa [wN,wN] at this
 unfold setRelay
 refine asks ho hd k ?_
 dsimp only
 rw [if_neg (by rw [xW]; omega),e]
 refine wC (show wpAny (model prog w) A (if ((order.filterMap (es[·]?)).size != es.size)=true then (do unsupported "internal:set-table-lost-an-element"; pure (order.filterMap (es[·]?),u)) else pure (order.filterMap (es[·]?),u)) _ E s from ?_)
 rw [if_neg (by rw [s2]; simp)]
 refine wK (wpAny_storeSet_of ho hd (q _ _ p2 ?_ el epl) ?_)
 ·rw [m2]
  exact R
 ·rw [s2,hn,xW]
  omega
theorem qIn {a ax:Addr} {kx:List Int} {h:Int} {o:Obj} {es:Array (Int×Value)} {ep:Nat} {t:ST} {Q:Bool->Shared->Prop}
  (ho:s.heap.get? a=some o) (hd:o.data=.set es ep t) (R:Q9 t (es.toList.map (·.1))) (hu:A.units<cLine) (hx:IsTupleKey (intKind prog w) s.heap kx ax) (lim:es.size+1<307)
  (hes:∀(i:Nat) (h':Int) (v:Value),es[i]? = some (h',v)->∃(b:Addr) (kv:List Int),v=.ref b/\IsTupleKey (intKind prog w) s.heap kv b)
  (yes:∀(i:Nat) (h':Int) (b:Addr),es[i]? = some (h',.ref b)->IsTupleKey (intKind prog w) s.heap kx b->Q false s)
  (no:(∀(i:Nat) (b:Addr),es[i]? = some (h,.ref b)->¬ IsTupleKey (intKind prog w) s.heap kx b)->∀(es':Array (Int×Value)) (t':ST) (ep':Nat) (hp:Heap),gR es'.toList ((h,.ref ax)::es.toList)->Q9 t' (es'.toList.map (·.1))->t'.led=t.led->t'.plain=t.plain->hp.get? a=some { o with data:=.set es' ep' t' }->kG a s.heap hp->Q true { s with heap:=hp }) (f:Nat) :
  wpAny (model prog w) A (setAddHashedIn a (.ref ax) h (f+1)) Q E s:=by
 have k:=R.kept
 have hf:t.fits es.size=true:=Qm k (by rw [wB,wN])
 unfold setAddHashedIn
 refine asks ho hd k ?_
 dsimp only
 have bs:byScan (.ref ax) es=false:=rfl
 rw [bs]
 refine ifF ?_
 refine wC (qDa ho hd k hu hx hes (fun i h' b e1 e2=>wK (yes i h' b e1 e2)) fun c se al un=>?_)
 dsimp only
 refine asks ho hd k ?_
 dsimp only
 have p1:gR (fE es (uZ t (qD t h c).j).snd (h,zW ax)).toList ((h,zW ax)::es.toList):=by
  rw [ZM]
  refine List.perm_middle.trans ?_
  rw [xP]
 obtain ⟨kp,rm⟩:=qE9 R se al
 have em:=ins_map es (uZ t (qD t h c).j).snd (h,zW ax)
 have kp':jv (uZ t (qD t h c).j).fst ((fE es (uZ t (qD t h c).j).snd (h,zW ax)).toList.map (·.1)):=by
  rw [em]
  exact kp
 have sz:(fE es (uZ t (qD t h c).j).snd (h,zW ax)).size=es.size+1:=by
  have:=p1.length_eq
  rwa [wN,wW,wN] at this
 have few:es.size*5<t.mask*3:=by
  have:=R.few
  rwa [wB,wN] at this
 have get:∀(hp:Heap) (o:Obj) (e1:Array (Int×Value)) (n1:Nat) (t1:ST) (es':Array (Int×Value)) (t':ST),hp.get? a=some o->o.data=.set e1 n1 t1->(hp.update a (Obj.putSet es' t')).get? a=some { o with data:=.set es' (n1+1) t' }:=by
  intro hp o e1 n1 t1 es' t' g d
  have:=uR (Obj.putSet es' t') g (by rw [putSet_of es' t' d]; rfl)
  rw [putSet_of es' t' d] at this
  exact this
 by_cases pl:(uZ t (qD t h c).j).fst.plain=true
 case' pos=>
  rw [if_pos pl]
  refine wC (qDf hx ?_)
 case' neg=>
  rw [if_neg pl]
  refine wC (wK ?_)
 all_goals
  simp only [if_true,Bool.not_false,Bool.true_and]
  refine wC (wpAny_storeSet_of ho hd ?_ (by rw [sz,xW]; omega))
  have g1:=get s.heap o es ep t (fE es (uZ t (qD t h c).j).snd (h,zW ax)) (uZ t (qD t h c).j).fst ho hd
  by_cases full:(uZ t (qD t h c).j).fst.tooFull=true
  ·rw [if_pos full]
   refine wC (qFN g1 rfl kp' sz few full lim fun es'' t'' p R' l1 l2=>wK ?_)
   have g2:=get _ _ _ _ _ es'' t'' g1 rfl
   exact no un es'' t'' _ _ (p.trans p1) R' l1 l2 g2 ((uE ..).trans (uE ..))
  ·rw [if_neg full]
   refine wK (no un _ (uZ t (qD t h c).j).fst _ _ p1 ?_ rfl rfl g1 (uE ..))
   rw [em]
   exact rm (by rw [<- UA]; exact full)
end
end L2
namespace L2
open PySem PySem.Spec PyProof.Rows PySem.W
noncomputable abbrev jI (w:World):Bool:=w.params.followText "set-order"
section
variable {prog:Program} {w:World} {A:Around} {E:Value->Shared->Prop} {s:Shared} {a it:Addr} {es:Array (Int×Value)} {ep:Nat} {t:ST}
theorem qDn {Q:Bool->Shared->Prop} (q:Q (jI w) s):wpAny (model prog w) A setsByText Q E s:=by
 unfold setsByText
 exact wC (wpAny_askSetting (wK q))
end
theorem qB0 {α β:Type} {f:α->β} {l l':List β} (p:gR l l'):∀{m:List α},l'=m.map f->∃ m',gR m' m/\l=m'.map f:=by
 induction p with
 | nil=>exact fun {m} _=>⟨m,.refl _,by assumption⟩
 | cons x _ ih=>
  intro m e
  cases m with
  | nil=>cases e
  | cons y m=>
   obtain ⟨e1,e2⟩:=uL e
   obtain ⟨m',q,g⟩:=ih e2
   exact ⟨y::m',.cons _ q,by rw [g,e1]; rfl⟩
 | swap x y l=>
  intro m e
  match m,e with
  | [],e=>cases e
  | [_],e=>cases (uL e).2
  | a::b::m,e=>
   obtain ⟨e1,e2⟩:=uL e
   obtain ⟨e3,e4⟩:=uL e2
   exact ⟨b::a::m,.swap _ _ _,by rw [e1,e3,e4]; rfl⟩
 | trans _ _ ih1 ih2=>
  intro m e
  obtain ⟨m',q,g⟩:=ih2 e
  obtain ⟨m'',q',g'⟩:=ih1 g
  exact ⟨m'',q'.trans q,g'⟩
noncomputable abbrev TRw:=Addr×List Int
noncomputable def qKB (prog:Program) (w:World) (r:TRw):Int×Value:=(tupleKeyHash (intKind prog w) r.2,zW r.1)
noncomputable def qAP (prog:Program) (w:World) (hp:Heap) (a:Addr) (R:List TRw):Prop:=∃(o:Obj) (es:Array (Int×Value)) (ep:Nat) (t:ST),hp.get? a=some o/\o.ExactSet/\o.data=.set es ep t/\Q9 t (es.toList.map (·.1))/\es.toList=R.map (qKB prog w)/\(R.map (·.2)).Nodup/\(jI w=true\/t.led=true)/\t.plain=true
section
variable {prog:Program} {w:World} {A:Around} {E:Value->Shared->Prop} {s:Shared} {a:Addr} {R:List TRw}
theorem qAP.at {hp hp':Heap} (S:qAP prog w hp a R) (k:∀ o,hp.get? a=some o->hp'.get? a=some o):qAP prog w hp' a R:=
 let ⟨o,es,ep,t,ho,r⟩:=S; ⟨o,es,ep,t,k o ho,r⟩
theorem qIz {Q:Value->Shared->Prop} (q:qAP prog w (s.heap.push (qCv (!jI w))) s.heap.objs.size []->Q (.ref s.heap.objs.size) { s with heap:=s.heap.push (qCv (!jI w)) }):wpAny (model prog w) A (newSet (.type "set")) Q E s:=by
 delta newSet
 refine wC (qDn ?_)
 refine vW ?_
 refine q ⟨_,#[],0,_,zB _ rfl,⟨rfl,rfl,rfl⟩,rfl,Jl 0 0 _,rfl,vD,?_,rfl⟩
 cases jI w
 ·exact .inr rfl
 ·exact .inl rfl
theorem qF1 {es:Array (Int×Value)} (e:es.toList=R.map (qKB prog w)) {i:Nat} {x:Int×Value} (h:es[i]? = some x):∃ r,r∈R/\x=qKB prog w r:=by
 have:x∈R.map (qKB prog w):=e ▸ yN.mpr (Array.mem_of_getElem? h)
 obtain ⟨r,hr,e⟩:=zD.mp this
 exact ⟨r,hr,e.symm⟩
noncomputable def qNI (R:List TRw) (r:TRw) (R':List TRw):Prop:=(r.2∈R.map (·.2)/\R'=R)\/(r.2∉R.map (·.2)/\gR R' (r::R))
end
section
variable {X:Cx} {pins:List (Addr×Obj)} {σ:St} {H:Hp} {s:Shared}
theorem qGT {its:List Value}:∀{ns:List Int},IntsAre its ns->ItemsAre (intKind X.prog X.w) ns its:=by
 intro ns h
 induction h with
 | nil=>exact .nil
 | cons n t _ ih=>exact .cons (by show Value.isInt n (.int n t)=true; exact decide_eq_true rfl) ih
theorem qFz (I:Inv X pins σ H s) {p:Addr} {ks:List Int} (h:H p=some (.tup (ks.map V.int))):IsTupleKey (intKind X.prog X.w) s.heap ks p:=by
 obtain ⟨its,rv,⟨o,ho,hc,n,hd⟩,_⟩:=I.tuple (SqT.of (K:=X.K) h)
 exact ⟨o,_,n,ho,hc,hd,qGT (X:=X) (qJO rv)⟩
end
end L2
namespace LSo
open PySem PySem.W PyProof.Rows
end LSo
namespace L2
open PySem PySem.Spec PyProof.Rows PySem.W
noncomputable abbrev IRw:=Int×Nat
section
variable {prog:Program} {w:World} {A:Around} {E:Value->Shared->Prop} {s:Shared} {a:Addr} {R:List IRw}
noncomputable def Holds (R:List IRw) (ns:List Int):Prop:=(R.map (·.1)).Nodup/\(∀ k,k∈R.map (·.1)↔k∈ns)/\R.length<=ns.length
theorem qEc {I:Addr} {RR:Result->Shared->Prop} (h:wpAny (model prog w) A.in1 (Builtin.«set.update.loop» ⟨[.ref a,.ref I],[]⟩) (fun fin s'=>match fin with
  | .done f=>RR (.ok f) s'
  | .again c=>c.quiet=true/\codeAny (model prog w) A c RR s') (fun e s'=>RR (.error e) s') s):codeAny (model prog w) A (.builtin "set.update.loop" ⟨[.ref a,.ref I],[]⟩) RR s:=
 UQ F.entry_set_update_loop (by rw [show A.under (.builtin "set.update.loop" ⟨[.ref a,.ref I],[]⟩)=A.in1 from Around.under_plainId F.plain_set_update_loop _]; exact h)
theorem qGq {x:Value} {Q:Value->Shared->Prop} (q:Q (.ref s.heap.objs.size) { s with heap:=s.heap.push (qCv (!jI w)) }):codeAny (model prog w) A (.call (.builtin "set.__new__") ⟨[.type "set",x],[]⟩) (wants Q E) s:=by
 refine UK (wC (m:=checkBuiltinCall "set.__new__" ⟨[.type "set",x],[]⟩) (UC (F.newCall_set_1 x) (wK ⟨plainId_quiet F.plain_set_new _,UQ F.entry_set_new ?_⟩)))
 rw [show A.under (.builtin "set.__new__" ⟨[.type "set",x],[]⟩)=A.in1 from Around.under_plainId F.plain_set_new _]
 delta Builtin.«set.__new__» Builtin.Frozenset.newClass
 have sb:=sub_set_self
 repeat' first | assumption | (refine qIz fun _=>?_) | wp_step
theorem qBw {x:Value} {Q:Value->Shared->Prop} (K:codeAny (model prog w) A.in1 (.call (.builtin "set.__init__") ⟨[.ref s.heap.objs.size,x],[]⟩) (wants (fun r s2=>r=.none/\Q (.ref s.heap.objs.size) s2) E) { s with heap:=s.heap.push (qCv (!jI w)) }):wpAny (model prog w) A (call (.type "set") [x]) Q E s:=by
 obtain ⟨m0,ms,mro⟩:=hZ.mro
 obtain ⟨b1,b2,b3,b4⟩:=VY hZ.made (VY hZ.sub (VY hZ.notType hZ.canCreate))
 have ck:=F.typeCall_set_1 x
 refine UW (UK (show wpAny _ _ (callAny (.type "set") _) _ _ _ from wK ⟨Code.quiet_builtin _ (by decide +kernel),UQ F.entry_type_call ?_⟩))
 rw [Around.under_plain (weight_type_call_type "set" [x] []) rfl]
 repeat' first | assumption | wp_step
 refine gX (qGq (x:=x) (E:=E) (Q:=fun r s1=>r=.ref s.heap.objs.size/\s1 = { s with heap:=s.heap.push (qCv (!jI w)) }) ⟨rfl,rfl⟩) fun r s1 hr=>?_
 rcases r with _ | fl
 ·exact hr
 cases fl with
 | ret v=>
  obtain ⟨rfl,rfl⟩:=hr
  have ty:Shared.TypeIs { s with heap:=s.heap.push (qCv (!jI w)) } (.ref s.heap.objs.size) "set":=⟨qCv (!jI w),zB s.heap (o:=qCv (!jI w)) rfl,rfl⟩
  obtain ⟨i1,i2⟩:=VY hZ.init.lookup (hZ.init.bind (.ref s.heap.objs.size))
  repeat' first | assumption | wp_step
  refine gX K fun r2 s2 hr2=>?_
  rcases r2 with _ | fl2
  ·exact hr2
  cases fl2 with
  | ret v2=>
   obtain ⟨rfl,q⟩:=hr2
   repeat (any_goals (first | exact q | assumption | wp_step))
  | _=>exact hr2.elim
 | _=>exact hr.elim
end
section
variable {prog:Program} {w:World} {A:Around} {E:Value->Shared->Prop} {s:Shared} {a:Addr} {R:List TRw}
theorem qIO {ax:Addr} {kx:List Int} {Q:Bool->Shared->Prop} (S:qAP prog w s.heap a R) (hu:A.units+8<cLine) (hx:IsTupleKey (intKind prog w) s.heap kx ax) (all:∀ r∈R,IsTupleKey (intKind prog w) s.heap r.2 r.1) (lim:R.length+1<307)
  (q:∀(b:Bool) (hp:Heap) (R':List TRw) (tk:Nat),kG a s.heap hp->qAP prog w hp a R'->qNI R (ax,kx) R'->Q b { s with heap:=hp,toks:=tk }):wpAny (model prog w) A (setAdd a (.ref ax)) Q E s:=by
 obtain ⟨o,es,ep,t,ho,hex,hd,Rm,er,nd,l1,l2⟩:=S
 have sz:es.size=R.length:=by rw [<- wN,er,wB]
 delta setAdd setAddHashed
 have hu':A.units<cLine:=by omega
 have lim':es.size+1<307:=by omega
 have e1:∀(i:Nat) (h':Int) (v:Value),es[i]? = some (h',v)->∃(b:Addr) (kv:List Int),v=.ref b/\IsTupleKey (intKind prog w) s.heap kv b:=fun i h' v z=>by
  obtain ⟨r,hr,y⟩:=qF1 er z
  cases y
  exact ⟨r.1,r.2,rfl,all r hr⟩
 have e2:∀(i:Nat) (h':Int) (b:Addr),es[i]? = some (h',.ref b)->IsTupleKey (intKind prog w) s.heap kx b->kx∈R.map (·.2):=fun i h' b z k=>by
  obtain ⟨r,hr,y⟩:=qF1 er z
  cases y
  rw [k.inj (all r hr)]
  exact List.mem_map_of_mem hr
 have e3:(∀(i:Nat) (b:Addr),es[i]? = some (tupleKeyHash (intKind prog w) kx,.ref b)->¬ IsTupleKey (intKind prog w) s.heap kx b)->kx∉R.map (·.2):=fun un m=>by
  obtain ⟨r,hr,y⟩:=zD.mp m
  have m2:qKB prog w r∈es.toList:=er ▸ List.mem_map_of_mem hr
  obtain ⟨i,hi,ei⟩:=fG.mp (yN.mp m2)
  refine un i r.1 ?_ (y ▸ all r hr)
  rw [zJ hi,ei,<- y]
  rfl
 repeat' first | assumption | (refine wpAny_pyHash_tuple hu' hx ?_) | (refine qIn (s:={ s with toks:=s.toks+(kx.length+1) }) ho hd Rm hu' hx lim' e1 (fun i h' b z k=>?_) (fun un es' t' ep' hp p R' m1 m2 g sb=>?_) 99999) | wp_step
 ·exact q _ s.heap R _ (Heap.SameBut.refl ..) ⟨o,es,ep,t,ho,hex,hd,Rm,er,nd,l1,l2⟩ (.inl ⟨e2 i h' b z k,rfl⟩)
 ·have nin:=e3 un
  obtain ⟨R2,p2,g2⟩:=qB0 (f:=qKB prog w) p (m:=(ax,kx)::R) (by rw [er]; rfl)
  refine q _ hp R2 _ sb ⟨_,es',ep',t',g,hex,rfl,R',g2,?_,m1 ▸ l1,m2.trans l2⟩ (.inr ⟨nin,p2⟩)
  exact (p2.map (·.2)).nodup_iff.mpr (zX.mpr ⟨nin,nd⟩)
noncomputable def Qh (R rs:List TRw):Prop:=(R.map (·.2)).Nodup/\(∀ k,k∈R.map (·.2)↔k∈rs.map (·.2))/\R.length<=rs.length/\∀ r∈R,r∈rs
theorem Qh.next {R R' rs:List TRw} {r:TRw} (h:Qh R rs) (m:qNI R r R'):Qh R' (rs++[r]):=by
 obtain ⟨h1,h2,h3,h4⟩:=h
 have e:∀ k,k∈(rs++[r]).map (·.2)↔k∈R.map (·.2)\/k=r.2:=fun k=>by rw [yJ,zR,h2]; exact or_congr_right wY
 have l:(rs++[r]).length=rs.length+1:=by rw [wV]; rfl
 rcases m with ⟨z,rfl⟩ | ⟨z,p⟩
 ·exact ⟨h1,fun k=>(Iff.intro .inl fun y=>y.elim id fun e=>e ▸ z).trans (e k).symm,by omega,fun x hx=>zT _ (h4 x hx)⟩
 ·refine ⟨(p.map (·.2)).nodup_iff.mpr (zX.mpr ⟨z,h1⟩),fun k=>?_,?_,fun x hx=>?_⟩
  ·rw [(p.map (·.2)).mem_iff,e k]
   show k∈r.2::R.map (·.2)↔_
   rw [wX]
   exact Or.comm
  ·rw [p.length_eq,wW,l]
   omega
  ·rcases wX.mp (p.mem_iff.mp hx) with z | z
   ·exact zE _ (wY.mpr z)
   ·exact zT _ (h4 x z)
theorem qAS {hp hp':Heap} {b:Addr} {ks:List Int} (h:IsTupleKey (intKind prog w) hp ks b) (k:∀ o,hp.get? b=some o->hp'.get? b=some o):IsTupleKey (intKind prog w) hp' ks b:=
 let ⟨o,its,n,ho,hc,hd,x⟩:=h; ⟨o,its,n,k o ho,hc,hd,x⟩
theorem qFA {I:Addr} {fp wr:List Addr} {n:Nat} {P:Nat->Value->Prop} {St:Nat->Heap->Prop} {rs:List TRw} {RR:Result->Shared->Prop} (hu:A.units+16<cLine) (W:Walks prog w A.in1 I fp wr n P St) (far:a∉fp) (hn:n=rs.length) (few:n<306) (val:∀ i v,P i v->∃ r,rs[i]? = some r/\v=.ref r.1) (apart:∀ r∈rs,r.1∉a::wr) :
  ∀(k i:Nat) (s:Shared) (R:List TRw),n - i=k->i<=n->St i s.heap->qAP prog w s.heap a R->Qh R (rs.take i)->(∀ r∈rs,IsTupleKey (intKind prog w) s.heap r.2 r.1)->
   (∀(h':Heap) (tk:Nat) (R':List TRw),qAP prog w h' a R'->Qh R' rs->(∀ b o,b∉a::wr->s.heap.get? b=some o->h'.get? b=some o)->RR (.ok (.ret .none)) { s with heap:=h',toks:=tk })->codeAny (model prog w) A (.builtin "set.update.loop" ⟨[.ref a,.ref I],[]⟩) RR s:=by
 have farw:a∉wr:=fun z=>far (W.sub _ z)
 have out:∀ r∈rs,r.1≠a/\r.1∉wr:=fun r hr=>⟨fun z=>apart r hr (z ▸ wL),fun z=>apart r hr (wI _ z)⟩
 intro k
 induction k with
 | zero=>
  intro i s R hk hi st S h keys q
  have e:i=n:=by omega
  refine qEc ?_
  refine wC (m:=pyNext (.ref I)) (W.done s _ _ (e ▸ st) fun h' tk kp=>?_)
  refine wK (q h' tk R (S.at fun o y=>kp a o farw y) ?_ fun b o nb y=>kp b o (fun z=>nb (wI _ z)) y)
  rw [e,hn,yO] at h
  exact h
 | succ k ih=>
  intro i s R hk hi st S h keys q
  have lt:i<n:=by omega
  refine qEc ?_
  refine wC (m:=pyNext (.ref I)) (W.item i s _ _ lt st fun v h' tk hp st' kp=>?_)
  obtain ⟨⟨x,ks⟩,ex,rfl⟩:=val i v hp
  have xin:=yD ex
  have keys':∀ r∈rs,IsTupleKey (intKind prog w) h' r.2 r.1:=fun r hr=>qAS (keys r hr) fun o y=>kp r.1 o (out r hr).2 y
  have hin:∀ r∈R,r∈rs:=fun r hr=>uW (h.2.2.2 r hr)
  refine wC (m:=holding [zW x] (setAdd a (.ref x))) (vR (qIO (s:={ s with heap:=h',toks:=tk }) (S.at fun o y=>kp a o farw y) (by show A.units+1+8<cLine; omega) (keys' _ xin) (fun r hr=>keys' r (hin r hr)) ?_ fun b hp' R' tk' sb S' mo=>?_))
  ·have:=h.2.2.1
   rw [zP] at this
   omega
  ·refine wK ⟨plainId_quiet F.plain_set_update_loop _,ih (i+1) _ R' (by omega) lt (W.frame _ _ _ st' fun c hc o y=>?_) S' ?_ (fun r hr=>qAS (keys' r hr) fun o y=>?_) fun h'' tk'' R'' S'' hh kp'=>q h'' tk'' R'' S'' hh fun c o nc y=>kp' c o nc ?_⟩
   ·rw [sb.2 c fun z=>far (z ▸ hc)]
    exact y
   ·have:=h.next mo
    rw [kA,ex]
    exact this
   ·show hp'.get? r.1=some o
    rw [sb.2 r.1 (out r hr).1]
    exact y
   ·show hp'.get? c=some o
    rw [sb.2 c fun z=>nc (z ▸ wL)]
    exact kp c o (fun z=>nc (wI _ z)) y
theorem qHH {l:Addr} {rs:List TRw} {Q:Value->Shared->Prop} (hu:A.units+32<cLine) (hh:A.handled=none) (ht:s.heap.IsList l (rs.map fun r=>zW r.1).toArray) (keys:∀ r∈rs,IsTupleKey (intKind prog w) s.heap r.2 r.1) (hb:rs.length<306)
  (k:∀(h':Heap) (tk:Nat) (R:List TRw),qAP prog w h' s.heap.objs.size R->Qh R rs->(∀ b o,s.heap.get? b=some o->h'.get? b=some o)->Q (.ref s.heap.objs.size) { s with heap:=h',toks:=tk }):wpAny (model prog w) A (call (.type "set") [.ref l]) Q E s:=by
 refine qBw ?_
 have oS:(s.heap.push (qCv (!jI w))).get? s.heap.objs.size=some (qCv (!jI w)):=zB s.heap rfl
 have ty:Shared.TypeIs { s with heap:=s.heap.push (qCv (!jI w)) } (.ref s.heap.objs.size) "set":=⟨_,oS,rfl⟩
 have tup:=ht.push (qCv (!jI w))
 have z:(s.heap.push (qCv (!jI w))).objs.size=s.heap.objs.size+1:=WK _ _
 have low:∀ r∈rs,r.1<s.heap.objs.size:=fun r hr=>let ⟨_,_,_,ho,_⟩:=keys r hr; wZ ho
 generalize hv:(rs.map fun r=>zW r.1).toArray=vs at ht tup
 have hlen:vs.size=rs.length:=by rw [<- hv]; simp
 obtain ⟨⟨c,dd,u,sl⟩,hol,hc,m,hd⟩:=ht
 cases (hc:c=.type "list")
 cases (hd:u=.seq vs m)
 have ll:l<s.heap.objs.size:=wZ hol
 have ol:(s.heap.push (qCv (!jI w))).get? l=some ⟨.type "list",dd,.seq vs m,sl⟩:=wG _ hol
 refine codeAny_call_builtin hZ.init.plain F.entry_set_init (check_set_init_1 ty ?_)
 have q1:=F.sub_list_set
 have q2:=F.sub_list_frozenset
 have q3:(US "list" == US "dict")=false:=by decide
 unfold Builtin.«set.__init__»; unfold noKeywords; unfold Builtin.Frozenset.updateFrom
 generalize walks:pyIter=PI; wp_walk; subst walks
 refine VI tup (wC (wpAny_runValue (qFA (a:=s.heap.objs.size) (rs:=rs) ?_ (Walks.list (A:=A.in1.in1.in1) (by simp [hh]) _ l ?_ vs) ?_ hlen (by omega) (fun i v hv'=>?_) ?_ (vs.size - 0) 0 _ [] (by omega) (zV _) ⟨⟨_,zB _ rfl,rfl,rfl⟩,tup.push _⟩ ?_ ⟨vD,fun k=>by simp,zV _,fun r hr=>absurd hr zU⟩ (fun r hr=>qAS (keys r hr) fun o y=>wG _ (wG _ y)) ?_)))
 ·show A.units+1+1+16<cLine
  omega
 ·rw [z]
  exact zZ (ZH ll)
 ·rw [z]
  simp only [wX,zU,or_false,not_or]
  exact ⟨zZ (ZT _),gV ll⟩
 ·rw [<- hv] at hv'
  have:(rs.map fun r=>zW r.1)[i]? = some v:=by simpa using hv'
  rw [wQ] at this
  obtain ⟨r,e1,e2⟩:=xH.mp this
  exact ⟨r,e1,e2.symm⟩
 ·intro r hr
  have:=low r hr
  rw [z]
  simp only [wX,zU,or_false,not_or]
  exact ⟨zZ this,zZ (ZH this)⟩
 ·refine ⟨_,#[],0,_,wG _ oS,⟨rfl,rfl,rfl⟩,rfl,Jl 0 0 _,rfl,vD,?_,rfl⟩
  cases jI w
  ·exact .inr rfl
  ·exact .inl rfl
 ·intro h' tk R S hs kp
  refine wK (wK ⟨rfl,k h' tk R S hs fun b o e=>kp b o ?_ (wG _ (wG _ e))⟩)
  have lb:=wZ e
  simp only [wX,zU,or_false,not_or]
  exact ⟨zZ lb,z ▸ zZ (ZH lb)⟩
end
noncomputable def qLC (ta:TA):TE:=fun σ H Q=>ta σ H fun xs H1=>∃(p:Addr) (rs:List TRw),xs=[.ref p]/\H1 p=some (.lst (rs.map fun r=>V.ref r.1))/\(∀ r∈rs,H1 r.1=some (.tup (r.2.map V.int)))/\(∀ R,Qh R rs->2<=R.length->∀ r∈R,r.2≠[])/\rs.length<306/\
 ∀(R:List TRw) (l:Addr),Qh R rs->(R.map (·.2)).Pairwise (fun a b=>HT.lexLt b a=false)->H1 l=none->Q (.ref l) (upd H1 l (.lst (R.map fun r=>V.ref r.1)))
section
variable {X:Cx} {pins:List (Addr×Obj)} {σ:St} {H:Hp} {s:Shared}
theorem qFP:∀{rs:List TRw} {its:List Value},qh (rs.map fun r=>V.ref r.1) its->its=rs.map fun r=>zW r.1
 | [],[],_=>rfl
 | [],_::_,h=>by cases h
 | _::_,[],h=>by cases h
 | r::rs,v::vs,h=>by
  cases h with
  | cons a b=>
   have e:v=zW r.1:=a
   rw [e,qFP b]
   rfl
noncomputable def qC8 (ta:TA):TE:=fun σ H Q=>ta σ H fun xs H1=>∃(p:Addr) (rs:List TRw),xs=[.ref p]/\H1 p=some (.lst (rs.map fun r=>V.ref r.1))/\(∀ r∈rs,H1 r.1=some (.tup (r.2.map V.int)))/\rs.length<306/\∀ R:List TRw,Qh R rs->Q (.int R.length) H1
theorem qDd {e:Expr} {ta:TA} {p p2 cpos pos:Pos} (hc:X.calm=true) (hu:X.A.units+64<cLine) (hg:Gl X "len") (hm:X.mg "len" = none) (hg2:Gl X "set") (hm2:X.mg "set" = none) (ha:PA X [e] ta)
  (h1:starEach [.Call (.Name "set" p2) [e] [] cpos] X.env=(false,eval (.Call (.Name "set" p2) [e] [] cpos) X.env)::starEach [] X.env:=by rfl) (h2:starEach [e] X.env=(false,eval e X.env)::starEach [] X.env:=by rfl)
  (hp1:(backTo pos (starEach [] X.env)).any (·.1)=false:=by rfl) (hp2:(backTo cpos (starEach [] X.env)).any (·.1)=false:=by rfl):PE X (.Call (.Name "len" p) [.Call (.Name "set" p2) [e] [] cpos] [] pos) (qC8 ta):=by
 intro pins s σ H Q I h
 refine kK (Ql I hg hm xK ?_)
 refine fI ?_ h1 hp1
 refine gM ?_
 refine kK (Ql I hg2 hm2 PyProof.Rows.boot_set ?_)
 refine uG (thn (ha cpos pins s σ H _ I h) fun us s1 ⟨vs,H1,I1,r1,a,rs,ev,ea,et,few,q⟩=>?_) h2 hp2
 subst ev
 obtain ⟨u,rfl,rx⟩:=vals1 r1
 obtain rfl:u=zW a:=rx
 obtain ⟨its,rv,pt,_⟩:=I1.list (SqL.of (K:=X.K) ea)
 have ei:=qFP rv
 subst ei
 refine qHH (by omega) (I1.ok.hd hc) pt.isList (fun r hr=>qFz I1 (et r hr)) few fun h' tk R S hs k=>ZF ?_
 obtain ⟨o,es,ep,t,ho,hex,hd,Rm,er,nd,l1,l2⟩:=S
 have sz:es.size=R.length:=by rw [<- wN,er,wB]
 have hl:=hs.2.2.1
 refine call_len_set ho hex hd (Qm Rm.kept (by rw [wB,wN])) (by omega) ?_
 rw [sz]
 exact ⟨.int R.length,H1,(I1.kept (t':=tk) k).tok _,⟨_,rfl⟩,q R hs⟩
end
end L2
namespace L4
open PySem L2
inductive Pl where
 | li (xs:List D) | di (ks:List (Key×D)) | dt (ks:List (List Key×D)) | ex (φ:Hp->Addr->HO->Prop)
inductive Sl where
 | u | d (x:D) | o (p:Pl) | f (K:wD) (xs:List D)
inductive Rs where
 | d (x:D) | o (p:Pl) | b (i:Nat) | raw (v:V)
noncomputable abbrev Sl.l (xs:List D):Sl:=.o (.li xs)
noncomputable abbrev Rs.l (xs:List D):Rs:=.o (.li xs)
noncomputable def QQ {κ:Type} (G:Hp):List (κ×D)->List (κ×V)->Prop
 | [],vs=>vs=[]
 | x::xs,vs=>∃ v r,vs=(x.1,v)::r/\Den G x.2 v/\QQ G xs r
theorem QQ.mono {κ:Type} {G G':Hp} (g:qL G G'):∀{xs:List (κ×D)} {vs:List (κ×V)},QQ G xs vs->QQ G' xs vs
 | [],_,h=>h
 | _::_,_,⟨v,r,e,h1,h2⟩=>⟨v,r,e,Den.mono g _ _ h1,QQ.mono g h2⟩
noncomputable def qGF (G:Hp):Pl->Addr->HO->Prop
 | .li xs,_,o=>∃ vs,o=.lst vs/\qR G xs vs
 | .di ks,_,o=>∃ vs,o=.dK vs/\QQ G ks vs
 | .dt ks,_,o=>∃ vs,o=.dT vs/\QQ G ks vs
 | .ex φ,a,o=>(∀ xs,o≠.tup xs)/\∀ G',qL G G'->φ G' a o
theorem qGF.ntup {G:Hp} {p:Pl} {a:Addr} {o:HO} (h:qGF G p a o) (xs:List V):o≠.tup xs:=by
 cases p with
 | ex φ=>exact h.1 xs
 | _=>obtain ⟨_,rfl,_⟩:=h; exact fun z=>by cases z
theorem qGF.mono {G G':Hp} (g:qL G G') {p:Pl} {a:Addr} {o:HO} (h:qGF G p a o):qGF G' p a o:=by
 cases p with
 | li xs=>obtain ⟨vs,e,h⟩:=h; exact ⟨vs,e,qR.mono g _ _ h⟩
 | di ks=>obtain ⟨vs,e,h⟩:=h; exact ⟨vs,e,h.mono g⟩
 | dt ks=>obtain ⟨vs,e,h⟩:=h; exact ⟨vs,e,h.mono g⟩
 | ex φ=>exact ⟨h.1,fun G2 g2=>h.2 G2 (g.trans g2)⟩
noncomputable def qKY (G H:Hp):Sl->Option V->Prop
 | .u,_=>True
 | .d x,o=>∃ v,o=some v/\Den G x v
 | .o p,o=>∃ a vs,o=some (.ref a)/\H a=some vs/\qGF G p a vs
 | .f K xs,o=>∃ a vs,o=some (.ref a)/\SqL K G a vs/\qR G xs vs
noncomputable def qKh (ρ:List Sl) (σ:St) (a:Addr):Prop:=∃(i:Nat) (xs:Pl),ρ[i]? = some (Sl.o xs)/\σ[i]? = some (some (V.ref a))
structure SI (G F:Hp) (ρ:List Sl) (σ:St) (H:Hp):Prop where
 ok:∀(i:Nat) (s:Sl),ρ[i]? = some s->∃ o,σ[i]? = some o/\qKY G H s o
 g:qL G H
 f:qL F H
 gf:∀ a o,F a=some o->G a=none
 nd:∀(i j:Nat) (a:Addr) (xs ys:Pl),ρ[i]? = some (Sl.o xs)->ρ[j]? = some (Sl.o ys)->σ[i]? = some (some (V.ref a))->σ[j]? = some (some (V.ref a))->i=j
 out:∀ a,qKh ρ σ a->G a=none/\F a=none
 ft:∀ a xs,F a≠some (.tup xs)
noncomputable def jL (G F:Hp) (ρ:List Sl) (σ:St) (H:Hp):Rs->V->Prop
 | .d x,v=>Den G x v
 | .o xs,v=>∃ a vs,v=.ref a/\H a=some vs/\qGF G xs a vs/\G a=none/\F a=none/\¬ qKh ρ σ a
 | .b i,v=>σ[i]? = some (some v)
 | .raw w,v=>v=w
noncomputable def hold (r:Rs) (v:V) (H F:Hp):Hp:=match r,v with
 | .o _,.ref a=>fun b=>if b=a then H a else F b
 | _,_=>F
noncomputable def jS (G F:Hp) (ρ:List Sl) (σ:St) (H:Hp):List Rs->List V->Prop
 | [],vs=>vs=[]
 | r::rs,vs=>∃ v vt,vs=v::vt/\jL G F ρ σ H r v/\jS G (hold r v H F) ρ σ H rs vt
section
variable {G F H:Hp} {ρ:List Sl} {σ:St}
theorem qKY.up {G' H':Hp} {s:Sl} {o:Option V} (h:qKY G H s o) (g:qL G G') (e:∀ xs a vs,s=.o xs->o=some (.ref a)->H a=some vs->H' a=some vs):qKY G' H' s o:=by
 cases s with
 | u=>trivial
 | d x=>obtain ⟨v,h1,h2⟩:=h; exact ⟨v,h1,Den.mono g _ _ h2⟩
 | o xs=>obtain ⟨a,vs,h1,h2,h3⟩:=h; exact ⟨a,vs,h1,e xs a vs rfl h1 h2,h3.mono g⟩
 | f K xs=>
  obtain ⟨a,vs,h1,h2,h3⟩:=h
  exact ⟨a,vs,h1,g.seq h2,qR.mono g _ _ h3⟩
theorem Jk (r:Rs) (v:V) (h:jL G F ρ σ H r v):qL F (hold r v H F):=by
 cases r with
 | o xs=>
  obtain ⟨a,vs,rfl,h1,h2,h3,h4,h5⟩:=h
  intro b o e
  show (if b=a then H a else F b)=some o
  rw [if_neg]
  ·exact e
  ·intro z; subst z; rw [h4] at e; cases e
 | _=>exact qL.refl _
theorem SI.held (I:SI G F ρ σ H) {r:Rs} {v:V} (h:jL G F ρ σ H r v):SI G (hold r v H F) ρ σ H:=by
 cases r with
 | o xs=>
  obtain ⟨a,vs,rfl,h1,h2,h3,h4,h5⟩:=h
  refine ⟨I.ok,I.g,fun b o e=>?_,fun b o e=>?_,I.nd,fun b hb=>?_,fun b xs e=>?_⟩
  ·by_cases z:b=a
   ·subst z
    have e':(if b=b then H b else F b)=some o:=e
    rw [if_pos rfl] at e'
    exact e'
   ·have e':(if b=a then H a else F b)=some o:=e
    rw [if_neg z] at e'
    exact I.f _ _ e'
  ·by_cases z:b=a
   ·subst z; exact h3
   ·have e':(if b=a then H a else F b)=some o:=e
    rw [if_neg z] at e'
    exact I.gf _ _ e'
  ·have nb:b≠a:=fun z=>h5 (z ▸ hb)
   refine ⟨(I.out b hb).1,?_⟩
   show (if b=a then H a else F b)=none
   rw [if_neg nb]
   exact (I.out b hb).2
  ·have e':(if b=a then H a else F b)=some (.tup xs):=e
   by_cases z:b=a
   ·rw [if_pos z,h1] at e'
    exact h2.ntup xs (zH e')
   ·rw [if_neg z] at e'
    exact I.ft b xs e'
 | _=>exact I
theorem SI.freed {G' H':Hp} {ρ':List Sl} {r:Rs} {v:V} (h:jL G F ρ σ H r v) (g:qL G G') (I':SI G' (hold r v H F) ρ' σ H'):SI G' F ρ' σ H'/\jL G' F ρ' σ H' r v:=by
 cases r with
 | o xs=>
  obtain ⟨a,vs,rfl,h1,h2,h3,h4,h5⟩:=h
  have fa:hold (.o xs) (.ref a) H F a=some vs:=by
   show (if a=a then H a else F a)=_
   rw [if_pos rfl]; exact h1
  have fs:qL F (hold (.o xs) (.ref a) H F):=Jk (ρ:=ρ) (σ:=σ) (G:=G) (.o xs) (.ref a) ⟨a,vs,rfl,h1,h2,h3,h4,h5⟩
  refine ⟨⟨I'.ok,I'.g,fun b o e=>I'.f _ _ (fs _ _ e),fun b o e=>I'.gf _ _ (fs _ _ e),I'.nd,fun b hb=>⟨(I'.out b hb).1,fs.free (I'.out b hb).2⟩,fun b xs e=>I'.ft b xs (fs _ _ e)⟩,a,vs,rfl,I'.f _ _ fa,h2.mono g,I'.gf _ _ fa,h4,fun q=>?_⟩
  rw [(I'.out a q).2] at fa
  cases fa
 | d x=>exact ⟨I',Den.mono g _ _ h⟩
 | b i=>exact ⟨I',h⟩
 | raw w=>exact ⟨I',h⟩
theorem jL.weak {F':Hp} (e:qL F' F) {r:Rs} {v:V} (h:jL G F ρ σ H r v):jL G F' ρ σ H r v:=by
 cases r with
 | o xs=>
  obtain ⟨a,vs,rfl,h1,h2,h3,h4,h5⟩:=h
  exact ⟨a,vs,rfl,h1,h2,h3,e.free h4,h5⟩
 | d x=>exact h
 | b i=>exact h
 | raw w=>exact h
end
noncomputable def Fin (G F:Hp) (σ:St) (Φ:Rs->List Sl->Prop) (Q:VK):Prop:=∀ G' H' v r ρ',Φ r ρ'->qL G G'->SI G' F ρ' σ H'->jL G' F ρ' σ H' r v->Q v H'
noncomputable def wpV (te:TE) (ρ:List Sl) (Φ:Rs->List Sl->Prop):Prop:=∀ G F σ H,SI G F ρ σ H->∀ Q:VK,Fin G F σ Φ Q->te σ H Q
noncomputable def wpT (tt:TT) (ρ:List Sl) (Φ:Bool->List Sl->Prop):Prop:=∀ G F σ H,SI G F ρ σ H->∀ Q:Bool->Hp->Prop,(∀ G' H' b ρ',Φ b ρ'->qL G G'->SI G' F ρ' σ H'->Q b H')->tt σ H Q
noncomputable def wpA (ta:TA) (ρ:List Sl) (Φ:List Rs->List Sl->Prop):Prop:=∀ G F σ H,SI G F ρ σ H->∀ Q:List V->Hp->Prop,(∀ G' H' vs rs ρ',Φ rs ρ'->qL G G'->SI G' F ρ' σ H'->jS G' F ρ' σ H' rs vs->Q vs H')->ta σ H Q
noncomputable def OpV (r2:R2) (x y:Rs) (ρ:List Sl) (Φ:Rs->List Sl->Prop):Prop:=∀ G F σ H vx vy,SI G F ρ σ H->jL G F ρ σ H x vx->jL G (hold x vx H F) ρ σ H y vy->∀ Q:VK,Fin G F σ Φ Q->r2 vx vy H Q
noncomputable def QR (r:List V->Hp->VK->Prop) (rs:List Rs) (ρ:List Sl) (Φ:Rs->List Sl->Prop):Prop:=∀ G F σ H vs,SI G F ρ σ H->jS G F ρ σ H rs vs->∀ Q:VK,Fin G F σ Φ Q->r vs H Q
theorem Fin.at {G F:Hp} {σ:St} {Φ Ψ:Rs->List Sl->Prop} {Q:VK} (h:Fin G F σ Φ Q) {G':Hp} (g:qL G G') (e:∀ r ρ,Ψ r ρ->Φ r ρ):Fin G' F σ Ψ Q:=fun G2 H2 v r ρ2 p g2 I ok=>h G2 H2 v r ρ2 (e _ _ p) (g.trans g2) I ok
section
variable {ρ:List Sl} {Φ:Rs->List Sl->Prop}
theorem wpV.mono {te:TE} {Ψ:Rs->List Sl->Prop} (h:wpV te ρ Φ) (e:∀ r ρ',Φ r ρ'->Ψ r ρ'):wpV te ρ Ψ:=fun G F σ H I Q q=>h G F σ H I Q (q.at (qL.refl _) e)
theorem qOI {r2:R2} {ta tb:TE} (h:wpV ta ρ fun x ρ1=>wpV tb ρ1 fun y ρ2=>OpV r2 x y ρ2 Φ):wpV (tOp r2 ta tb) ρ Φ:=by
 intro G F σ H I Q q
 refine h G F σ H I _ fun G1 H1 vx x ρ1 h1 g1 I1 ok1=>?_
 refine h1 G1 (hold x vx H1 F) σ H1 (I1.held ok1) _ fun G2 H2 vy y ρ2 h2 g2 I2 ok2=>?_
 obtain ⟨I3,ok3⟩:=SI.freed ok1 g2 I2
 have eh:hold x vx H2 F=hold x vx H1 F:=by
  cases x with
  | o xs=>
   obtain ⟨a,vs,rfl,z1,z2,z3,z4,z5⟩:=ok1
   obtain ⟨a',vs',z,y1,y2,y3,y4,y5⟩:=ok3
   cases z
   funext b
   show (if b=a then H2 a else F b)=(if b=a then H1 a else F b)
   by_cases e:b=a
   ·rw [if_pos e,if_pos e,z1]
    have:hold (.o xs) (.ref a) H1 F a=some vs:=by
     show (if a=a then H1 a else F a)=_
     rw [if_pos rfl]; exact z1
    exact I2.f _ _ this
   ·rw [if_neg e,if_neg e]
  | _=>rfl
 exact h2 G2 F σ H2 vx vy I3 ok3 (by rw [eh]; exact ok2) Q (q.at (g1.trans g2) fun _ _ p=>p)
theorem qNv {r:V->Hp->VK->Prop} {ta:TE} (h:wpV ta ρ fun x ρ1=>QR (fun vs H Q=>∃ v,vs=[v]/\r v H Q) [x] ρ1 Φ):wpV (tUn r ta) ρ Φ:=by
 intro G F σ H I Q q
 refine h G F σ H I _ fun G1 H1 vx x ρ1 h1 g1 I1 ok1=>?_
 obtain ⟨v,e,z⟩:=h1 G1 F σ H1 [vx] I1 ⟨vx,[],rfl,ok1,rfl⟩ Q (q.at g1 fun _ _ p=>p)
 cases e
 exact z
theorem qMh {Φ:List Rs->List Sl->Prop} (h:Φ [] ρ):wpA qMw ρ Φ:=fun G F σ H I Q q=>q G H [] [] ρ h (qL.refl _) I rfl
theorem jS.cons {F:Hp} {σ:St} {H1 G1 G2 H2:Hp} {ρ1 ρ2:List Sl} {x:Rs} {vx:V} {rs:List Rs} {vs:List V} (ok1:jL G1 F ρ1 σ H1 x vx) (g2:qL G1 G2) (I2:SI G2 (hold x vx H1 F) ρ2 σ H2) (oks:jS G2 (hold x vx H1 F) ρ2 σ H2 rs vs) :
  SI G2 F ρ2 σ H2/\jS G2 F ρ2 σ H2 (x::rs) (vx::vs):=by
 obtain ⟨I3,ok3⟩:=SI.freed ok1 g2 I2
 have eh:hold x vx H2 F=hold x vx H1 F:=by
  cases x with
  | o xs=>
   obtain ⟨a,vs,rfl,z1,z2,z3,z4,z5⟩:=ok1
   funext b
   show (if b=a then H2 a else F b)=(if b=a then H1 a else F b)
   by_cases e:b=a
   ·rw [if_pos e,if_pos e,z1]
    have:hold (.o xs) (.ref a) H1 F a=some vs:=by
     show (if a=a then H1 a else F a)=_
     rw [if_pos rfl]; exact z1
    exact I2.f _ _ this
   ·rw [if_neg e,if_neg e]
  | _=>rfl
 exact ⟨I3,vx,vs,rfl,ok3,by rw [eh]; exact oks⟩
theorem qLK {Φ:List Rs->List Sl->Prop} {te:TE} {ta:TA} (h:wpV te ρ fun x ρ1=>wpA ta ρ1 fun rs ρ2=>Φ (x::rs) ρ2):wpA (qJZ te ta) ρ Φ:=by
 intro G F σ H I Q q
 refine h G F σ H I _ fun G1 H1 vx x ρ1 h1 g1 I1 ok1=>?_
 refine h1 G1 (hold x vx H1 F) σ H1 (I1.held ok1) _ fun G2 H2 vs rs ρ2 h2 g2 I2 oks=>?_
 obtain ⟨I3,ok3⟩:=jS.cons ok1 g2 I2 oks
 exact q G2 H2 (vx::vs) (x::rs) ρ2 h2 (g1.trans g2) I3 ok3
theorem qN7 {r:List V->Hp->VK->Prop} {t:TA} (h:wpA t ρ fun rs ρ1=>QR r rs ρ1 Φ):wpV (tCB r t) ρ Φ:=by
 intro G F σ H I Q q
 refine h G F σ H I _ fun G1 H1 vs rs ρ1 h1 g1 I1 oks=>?_
 exact h1 G1 F σ H1 vs I1 oks Q (q.at g1 fun _ _ p=>p)
theorem qI3 {i:Nat} {x:D} (hi:ρ[i]? = some (.d x)) (h:Φ (.d x) ρ):wpV (qGD i) ρ Φ:=fun G F σ H I Q q=>by
 obtain ⟨o,e,v,rfl,hv⟩:=I.ok i _ hi
 exact ⟨v,e,q G H v _ ρ h (qL.refl _) I hv⟩
theorem qI1 {i:Nat} {xs:List D} (hi:ρ[i]? = some (.l xs)) (h:Φ (.b i) ρ):wpV (qGD i) ρ Φ:=fun G F σ H I Q q=>by
 obtain ⟨o,e,a,vs,rfl,hv⟩:=I.ok i _ hi
 exact ⟨_,e,q G H (.ref a) _ ρ h (qL.refl _) I e⟩
theorem qIe {i:Nat} {K:wD} {xs:List D} (hi:ρ[i]? = some (.f K xs)) (h:Φ (.b i) ρ):wpV (qGD i) ρ Φ:=fun G F σ H I Q q=>by
 obtain ⟨o,e,a,vs,rfl,hv⟩:=I.ok i _ hi
 exact ⟨_,e,q G H (.ref a) _ ρ h (qL.refl _) I e⟩
theorem qMM {i:Int} (h:Φ (.d (.int i)) ρ):wpV (tC (.int i)) ρ Φ:=fun G F σ H I Q q=>q G H _ _ ρ h (qL.refl _) I (show Den G (.int i) (.int i) from rfl)
theorem qOH {b:Bool} (h:Φ (.d (.bl b)) ρ):wpV (tC (.bl b)) ρ Φ:=fun G F σ H I Q q=>q G H _ _ ρ h (qL.refl _) I (show Den G (.bl b) (.bl b) from rfl)
theorem qMu {x:Str} (h:Φ (.d (.str x)) ρ):wpV (tC (.str x)) ρ Φ:=fun G F σ H I Q q=>q G H _ _ ρ h (qL.refl _) I (show Den G (.str x) (.str x) from rfl)
theorem qML {w:V} (h:Φ (.raw w) ρ):wpV (tC w) ρ Φ:=fun G F σ H I Q q=>q G H _ _ ρ h (qL.refl _) I (show w=w from rfl)
end
noncomputable def rd (ρ:List Sl):Rs->Option D
 | .d x=>some x
 | .o (.li xs)=>some (.lst xs)
 | .b i=>match ρ[i]? with
  | some (.o (.li xs))=>some (.lst xs)
  | some (.d x)=>some x
  | _=>none
 | _=>none
noncomputable def rdE (ρ:List Sl):Rs->Option D
 | .d x=>some x
 | .o (.li xs)=>some (.lst xs)
 | .b i=>match ρ[i]? with
  | some (.o (.li xs))=>some (.lst xs)
  | some (.d x)=>some x
  | _=>none
 | _=>none
section
variable {G F H:Hp} {ρ:List Sl} {σ:St} {r:Rs} {v:V} {K:wD}
theorem JE (I:SI G F ρ σ H) (h:jL G F ρ σ H r v) {x:D} (e:rdE ρ r=some x):Den H x v/\((∀ ys,x≠.lst ys)->Den G x v)/\∀ ys,x=.lst ys->∃ a vs,v=.ref a/\H a=some (.lst vs)/\qR G ys vs:=by
 cases r with
 | d y=>
  have e':y=x:=zH e
  subst e'
  refine ⟨Den.mono I.g _ _ h,fun _=>h,fun ys z=>?_⟩
  subst z
  obtain ⟨a,vs,h1,h2,h3⟩:=h
  exact ⟨a,vs,h1,I.g _ _ h2,h3⟩
 | o p=>
  cases p with
  | di _=>cases e
  | dt _=>cases e
  | ex _=>cases e
  | li xs=>
   have e':D.lst xs=x:=zH e
   subst e'
   obtain ⟨a,_,rfl,h1,⟨vs,rfl,h2⟩,h3,h4,h5⟩:=h
   refine ⟨⟨a,vs,rfl,h1,qR.mono I.g _ _ h2⟩,fun z=>absurd rfl (z xs),fun ys z=>?_⟩
   cases z
   exact ⟨a,vs,rfl,h1,h2⟩
 | b i=>
  have h':σ[i]? = some (some v):=h
  unfold rdE at e
  cases hi:ρ[i]? with
  | none=>simp only [hi] at e; cases e
  | some s=>
   obtain ⟨o,e1,e2⟩:=I.ok i s hi
   rw [h'] at e1
   cases e1
   cases s with
   | u=>simp only [hi] at e; cases e
   | f _ xs=>simp only [hi] at e; cases e
   | d y=>
    simp only [hi] at e
    have e':y=x:=zH e
    subst e'
    obtain ⟨w,z,h⟩:=e2
    cases z
    refine ⟨Den.mono I.g _ _ h,fun _=>h,fun ys z=>?_⟩
    subst z
    obtain ⟨a,vs,h1,h2,h3⟩:=h
    exact ⟨a,vs,h1,I.g _ _ h2,h3⟩
   | o p=>
    cases p with
    | di _=>simp only [hi] at e; cases e
    | dt _=>simp only [hi] at e; cases e
    | ex _=>simp only [hi] at e; cases e
    | li xs=>
     simp only [hi] at e
     have e':D.lst xs=x:=zH e
     subst e'
     obtain ⟨a,_,z,h1,vs,rfl,h2⟩:=e2
     cases z
     refine ⟨⟨a,vs,rfl,h1,qR.mono I.g _ _ h2⟩,fun z=>absurd rfl (z xs),fun ys z=>?_⟩
     cases z
     exact ⟨a,vs,rfl,h1,h2⟩
 | raw w=>cases e
theorem qBq {x:D} (e:rd ρ r=some x):rdE ρ r=some x:=by
 cases r <;> exact e
theorem jT (I:SI G F ρ σ H) (h:jL G F ρ σ H r v) {xs:List D} (e:rd ρ r=some (.lst xs)):∃ a vs,v=.ref a/\SqL K H a vs/\qR G xs vs:=by
 obtain ⟨a,vs,h1,h2,h3⟩:=(JE I h (qBq e)).2.2 xs rfl
 exact ⟨a,vs,h1,SqL.of h2,h3⟩
theorem qBh (I:SI G F ρ σ H) (h:jL G F ρ σ H r v) {x:D} (e:rd ρ r=some x) (n:∀ ys,x≠.lst ys):Den G x v:=(JE I h (qBq e)).2.1 n
theorem QP (I:SI G F ρ σ H) (h:jL G F ρ σ H r v) {xs:List D} (e:rd ρ r=some (.tup xs)):∃ a vs,v=.ref a/\G a=some (.tup vs)/\qR G xs vs:=qBh I h e (fun ys z=>by cases z)
theorem qQ (I:SI G F ρ σ H) (h:jL G F ρ σ H r v) {i:Int} (e:rd ρ r=some (.int i)):v=.int i:=qBh I h e (fun ys z=>by cases z)
theorem Y8 (I:SI G F ρ σ H) (h:jL G F ρ σ H r v) {i:Bool} (e:rd ρ r=some (.bl i)):v=.bl i:=qBh I h e (fun ys z=>by cases z)
theorem qHC (I:SI G F ρ σ H) (h:jL G F ρ σ H r v) (e:rd ρ r=some .non):v=.non:=qBh I h e (fun ys z=>by cases z)
theorem SI.new {p:Addr} {o:HO} (I:SI G F ρ σ H) (hp:H p=none):SI G F ρ σ (upd H p o):=
 ⟨fun i s e=>let ⟨o',e1,e2⟩:=I.ok i s e; ⟨o',e1,e2.up (qL.refl _) fun xs a vs _ _ z=>qL.new hp _ _ z⟩,I.g.trans (qL.new hp),I.f.trans (qL.new hp),I.gf,I.nd,I.out,I.ft⟩
theorem SI.newG {p:Addr} {o:HO} (I:SI G F ρ σ H) (hp:H p=none):SI (upd G p o) F ρ σ (upd H p o)/\qL G (upd G p o):=by
 have gp:G p=none:=I.g.free hp
 have fp:F p=none:=I.f.free hp
 refine ⟨⟨fun i s e=>let ⟨o',e1,e2⟩:=I.ok i s e; ⟨o',e1,e2.up (qL.new gp) fun xs a vs _ _ z=>qL.new hp _ _ z⟩,fun b u e=>?_,I.f.trans (qL.new hp),fun b u e=>?_,I.nd,fun b hb=>⟨?_,(I.out b hb).2⟩,I.ft⟩,qL.new gp⟩
 ·by_cases z:b=p
  ·subst z; rw [qH] at e ⊢; exact e
  ·rw [qI z] at e ⊢; exact I.g _ _ e
 ·have z:b≠p:=fun z=>by subst z; rw [fp] at e; cases e
  rw [qI z]; exact I.gf _ _ e
 ·obtain ⟨i,xs,h1,h2⟩:=hb
  obtain ⟨o',e1,a,vs,z,h3,_⟩:=I.ok i _ h1
  rw [h2] at e1
  cases e1
  cases z
  rw [qI (qr h3 hp)]
  exact (I.out b ⟨i,xs,h1,h2⟩).1
theorem qFC {Φ:Rs->List Sl->Prop} {Q:VK} (q:Fin G F σ Φ Q) (I:SI G F ρ σ H) {x:D} (hv:Den G x v) (h:Φ (.d x) ρ):Q v H:=q G H v (.d x) ρ h (qL.refl _) I hv
theorem QI {Φ:Rs->List Sl->Prop} {Q:VK} (q:Fin G F σ Φ Q) (I:SI G F ρ σ H) {i:Int} (h:Φ (.d (.int i)) ρ):Q (.int i) H:=qFC q I (x:=.int i) rfl h
theorem qV {Φ:Rs->List Sl->Prop} {Q:VK} (q:Fin G F σ Φ Q) (I:SI G F ρ σ H) {i:Bool} (h:Φ (.d (.bl i)) ρ):Q (.bl i) H:=qFC q I (x:=.bl i) rfl h
theorem qJh {Φ:Rs->List Sl->Prop} {Q:VK} (q:Fin G F σ Φ Q) (I:SI G F ρ σ H) {i:Str} (h:Φ (.d (.str i)) ρ):Q (.str i) H:=qFC q I (x:=.str i) rfl h
theorem qFk {Φ:Rs->List Sl->Prop} {Q:VK} (q:Fin G F σ Φ Q) (I:SI G F ρ σ H) {xs:List D} {vs:List V} (hv:qR G xs vs) (h:Φ (.d (.tup xs)) ρ) {p:Addr} (hp:H p=none):Q (.ref p) (upd H p (.tup vs)):=by
 obtain ⟨I2,g⟩:=I.newG (o:=.tup vs) hp
 exact q _ _ _ _ ρ h g I2 ⟨p,vs,rfl,qH,qR.mono g _ _ hv⟩
theorem jk {Φ:Rs->List Sl->Prop} {Q:VK} (q:Fin G F σ Φ Q) (I:SI G F ρ σ H) {xs:List D} {vs:List V} (hv:qR G xs vs) (h:Φ (.l xs) ρ) {p:Addr} (hp:H p=none):Q (.ref p) (upd H p (.lst vs)):=by
 refine q G _ _ _ ρ h (qL.refl _) (I.new hp) ⟨p,_,rfl,qH,⟨vs,rfl,hv⟩,I.g.free hp,I.f.free hp,?_⟩
 rintro ⟨i,ys,h1,h2⟩
 obtain ⟨o',e1,a,ws,z,h3,_⟩:=I.ok i _ h1
 rw [h2] at e1
 cases e1
 cases z
 rw [hp] at h3
 cases h3
theorem SI.putO {i:Nat} {xs ys:Pl} {a:Addr} {vs:HO} (I:SI G F ρ σ H) (hi:ρ[i]? = some (.o xs)) (ha:σ[i]? = some (some (.ref a))) (hv:qGF G ys a vs):SI G F (ρ.set i (.o ys)) σ (upd H a vs):=by
 have oa:=I.out a ⟨i,xs,hi,ha⟩
 have il:i<ρ.length:=(wM.mp hi).1
 refine ⟨fun j s e=>?_,fun b u e=>?_,fun b u e=>?_,I.gf,fun j k b us ws h1 h2 h3 h4=>?_,fun b hb=>?_,I.ft⟩
 ·rw [zC] at e
  by_cases z:i=j
  ·subst z
   rw [if_pos rfl,if_pos il] at e
   cases e
   exact ⟨_,ha,a,vs,rfl,qH,hv⟩
  ·rw [if_neg z] at e
   obtain ⟨o',e1,e2⟩:=I.ok j s e
   refine ⟨o',e1,e2.up (qL.refl _) fun us b ws h1 h2 h3=>?_⟩
   subst h1 h2
   rw [qI]
   ·exact h3
   ·intro q; subst q
    exact z (I.nd i j b xs us hi e ha e1)
 ·rw [qI]
  ·exact I.g _ _ e
  ·intro q; subst q; rw [oa.1] at e; cases e
 ·rw [qI]
  ·exact I.f _ _ e
  ·intro q; subst q; rw [oa.2] at e; cases e
 ·have w:∀(n:Nat) (zs:Pl),(ρ.set i (.o ys))[n]? = some (.o zs)->∃ zs',ρ[n]? = some (.o zs'):=fun n zs h=>by
   rw [zC] at h
   by_cases z:i=n
   ·subst z; exact ⟨xs,hi⟩
   ·rw [if_neg z] at h; exact ⟨zs,h⟩
  obtain ⟨u1,w1⟩:=w j us h1
  obtain ⟨u2,w2⟩:=w k ws h2
  exact I.nd j k b u1 u2 w1 w2 h3 h4
 ·obtain ⟨n,zs,h1,h2⟩:=hb
  rw [zC] at h1
  by_cases z:i=n
  ·subst z; exact I.out b ⟨i,xs,hi,h2⟩
  ·rw [if_neg z] at h1; exact I.out b ⟨n,zs,h1,h2⟩
theorem SI.put {i:Nat} {xs ys:List D} {a:Addr} {vs:List V} (I:SI G F ρ σ H) (hi:ρ[i]? = some (.l xs)) (ha:σ[i]? = some (some (.ref a))) (hv:qR G ys vs):SI G F (ρ.set i (.l ys)) σ (upd H a (.lst vs)):=I.putO hi ha ⟨vs,rfl,hv⟩
theorem SI.freeze {i:Nat} {xs:List D} (I:SI G F ρ σ H) (hi:ρ[i]? = some (.l xs)):∃ G',qL G G'/\SI G' F (ρ.set i (.d (.lst xs))) σ H:=by
 obtain ⟨o,ha,a,_,rfl,h1,vs,rfl,h2⟩:=I.ok i _ hi
 have oa:=I.out a ⟨i,.li xs,hi,ha⟩
 have il:i<ρ.length:=(wM.mp hi).1
 have sg:qL G (upd G a (.lst vs)):=qL.new oa.1
 refine ⟨upd G a (.lst vs),sg,fun j s e=>?_,fun b u e=>?_,I.f,fun b u e=>?_,fun j k b us ws e1 e2 h3 h4=>?_,fun b hb=>?_,I.ft⟩
 ·rw [zC] at e
  by_cases z:i=j
  ·subst z
   rw [if_pos rfl,if_pos il] at e
   cases e
   exact ⟨_,ha,_,rfl,a,vs,rfl,qH,qR.mono sg _ _ h2⟩
  ·rw [if_neg z] at e
   obtain ⟨o',e1,e2⟩:=I.ok j s e
   exact ⟨o',e1,e2.up sg fun _ _ _ _ _ z=>z⟩
 ·by_cases z:b=a
  ·subst z; rw [qH] at e; cases e; exact h1
  ·rw [qI z] at e; exact I.g _ _ e
 ·have z:b≠a:=fun z=>by subst z; rw [oa.2] at e; cases e
  rw [qI z]; exact I.gf _ _ e
 ·have w:∀(n:Nat) (zs:Pl),(ρ.set i (.d (.lst xs)))[n]? = some (.o zs)->ρ[n]? = some (.o zs):=fun n zs h=>by
   rw [zC] at h
   by_cases z:i=n
   ·subst z; rw [if_pos rfl,if_pos il] at h; cases h
   ·rw [if_neg z] at h; exact h
  exact I.nd j k b us ws (w j us e1) (w k ws e2) h3 h4
 ·obtain ⟨n,zs,e1,e2⟩:=hb
  have z:i≠n:=fun z=>by subst z; rw [zC,if_pos rfl,if_pos il] at e1; cases e1
  rw [zC,if_neg z] at e1
  have nb:b≠a:=fun q=>by subst q; exact z (I.nd i n b (.li xs) zs hi e1 ha e2)
  rw [qI nb]
  exact I.out b ⟨n,zs,e1,e2⟩
theorem SI.lay {xs:List D} {v:V} (I:SI G F ρ σ H) (h:jL G F ρ σ H (.l xs) v):∃ G',qL G G'/\SI G' F ρ σ H/\Den G' (.lst xs) v:=by
 obtain ⟨a,_,rfl,h1,⟨vs,rfl,h2⟩,h3,h4,h5⟩:=h
 have sg:qL G (upd G a (.lst vs)):=qL.new h3
 refine ⟨upd G a (.lst vs),sg,⟨fun j s e=>let ⟨o',e1,e2⟩:=I.ok j s e; ⟨o',e1,e2.up sg fun _ _ _ _ _ z=>z⟩,fun b u e=>?_,I.f,fun b u e=>?_,I.nd,fun b hb=>?_,I.ft⟩,a,vs,rfl,qH,qR.mono sg _ _ h2⟩
 ·by_cases z:b=a
  ·subst z; rw [qH] at e; cases e; exact h1
  ·rw [qI z] at e; exact I.g _ _ e
 ·have z:b≠a:=fun z=>by subst z; rw [h4] at e; cases e
  rw [qI z]; exact I.gf _ _ e
 ·have nb:b≠a:=fun q=>by subst q; exact h5 hb
  rw [qI nb]
  exact I.out b hb
noncomputable def Rs.sl:Rs->Sl
 | .d x=>.d x
 | .o p=>.o p
 | _=>.u
theorem SI.asg {i:Nat} {v:V} (I:SI G F ρ σ H) (h:jL G F ρ σ H r v):SI G F (ρ.set i r.sl) (σ.set i (some v)) H:=by
 have base:∀ j,j≠i->(σ.set i (some v))[j]? = σ[j]?:=fun j hj=>by rw [zC,if_neg hj.symm]
 have own:∀(n:Nat) (zs:Pl) (b:Addr),(ρ.set i r.sl)[n]? = some (.o zs)->(σ.set i (some v))[n]? = some (some (.ref b))->(n=i/\v=.ref b/\r=.o zs)\/(n≠i/\ρ[n]? = some (.o zs)/\σ[n]? = some (some (.ref b))):=fun n zs b h1 h2=>by
  by_cases z:i=n
  ·subst z
   rw [zC,if_pos rfl] at h1 h2
   by_cases q:i<ρ.length
   ·by_cases q2:i<σ.length
    ·rw [if_pos q] at h1
     rw [if_pos q2] at h2
     cases r with
     | o xs=>cases h1; cases h2; exact .inl ⟨rfl,rfl,rfl⟩
     | d x=>cases h1
     | b x=>cases h1
     | raw x=>cases h1
    ·rw [if_neg q2] at h2; cases h2
   ·rw [if_neg q] at h1; cases h1
  ·rw [zC,if_neg z] at h1
   rw [zC,if_neg z] at h2
   exact .inr ⟨fun e=>z e.symm,h1,h2⟩
 refine ⟨fun j s e=>?_,I.g,I.f,I.gf,fun j k b us ws h1 h2 h3 h4=>?_,fun b hb=>?_,I.ft⟩
 ·rw [zC] at e
  by_cases z:i=j
  ·subst z
   rw [if_pos rfl] at e
   by_cases q:i<ρ.length
   ·rw [if_pos q] at e
    cases e
    obtain ⟨o,ho,_⟩:=I.ok i ρ[i] (wA q)
    have q2:i<σ.length:=(wM.mp ho).1
    refine ⟨some v,by rw [zC,if_pos rfl,if_pos q2],?_⟩
    cases r with
    | d x=>exact ⟨v,rfl,h⟩
    | o xs=>
     obtain ⟨a,vs,rfl,h1,h2,_⟩:=h
     exact ⟨a,vs,rfl,h1,h2⟩
    | b x=>trivial
    | raw x=>trivial
   ·rw [if_neg q] at e; cases e
  ·rw [if_neg z] at e
   obtain ⟨o',e1,e2⟩:=I.ok j s e
   exact ⟨o',by rw [base j (fun q=>z q.symm)]; exact e1,e2⟩
 ·rcases own j us b h1 h3 with ⟨rfl,e1,e2⟩ | ⟨n1,e1,e2⟩
  ·rcases own k ws b h2 h4 with ⟨rfl,_,_⟩ | ⟨n2,e3,e4⟩
   ·rfl
   ·subst e2
    obtain ⟨a,vs,z,_,_,_,_,h5⟩:=h
    rw [e1] at z
    cases z
    exact absurd ⟨k,ws,e3,e4⟩ h5
  ·rcases own k ws b h2 h4 with ⟨rfl,e3,e4⟩ | ⟨n2,e3,e4⟩
   ·subst e4
    obtain ⟨a,vs,z,_,_,_,_,h5⟩:=h
    rw [e3] at z
    cases z
    exact absurd ⟨j,us,e1,e2⟩ h5
   ·exact I.nd j k b us ws e1 e3 e2 e4
 ·obtain ⟨n,zs,e1,e2⟩:=hb
  rcases own n zs b e1 e2 with ⟨rfl,e3,e4⟩ | ⟨_,e3,e4⟩
  ·subst e4
   obtain ⟨a,vs,z,_,_,h3,h4,_⟩:=h
   rw [e3] at z
   cases z
   exact ⟨h3,h4⟩
  ·exact I.out b ⟨n,zs,e3,e4⟩
end
section
variable {ρ:List Sl} {Φ:Rs->List Sl->Prop} {x y:Rs} {K:wD} {r2 r3:R2}
theorem OpV.l (h:OpV r2 x y ρ Φ):OpV (fun a b H Q=>r2 a b H Q\/r3 a b H Q) x y ρ Φ:=fun G F σ H vx vy I h1 h2 Q q=>.inl (h G F σ H vx vy I h1 h2 Q q)
theorem OpV.r (h:OpV r3 x y ρ Φ):OpV (fun a b H Q=>r2 a b H Q\/r3 a b H Q) x y ρ Φ:=fun G F σ H vx vy I h1 h2 Q q=>.inr (h G F σ H vx vy I h1 h2 Q q)
theorem ok2 {G F H:Hp} {σ:St} {vx vy:V} (h1:jL G F ρ σ H x vx) (h2:jL G (hold x vx H F) ρ σ H y vy):jL G F ρ σ H y vy:=h2.weak (Jk x vx h1)
theorem qNH {k:Int->Int->Int} {i j:Int} (hx:rd ρ x=some (.int i)) (hy:rd ρ y=some (.int j)) (h:Φ (.d (.int (k i j))) ρ):OpV (rI0 fun i j=>.int (k i j)) x y ρ Φ:=fun G F σ H vx vy I h1 h2 Q q=>
 ⟨i,j,qQ I h1 hx,qQ I (ok2 h1 h2) hy,QI q I h⟩
theorem qNE {k:Int->Int->Bool} {i j:Int} (hx:rd ρ x=some (.int i)) (hy:rd ρ y=some (.int j)) (h:Φ (.d (.bl (k i j))) ρ):OpV (rI0 fun i j=>.bl (k i j)) x y ρ Φ:=fun G F σ H vx vy I h1 h2 Q q=>
 ⟨i,j,qQ I h1 hx,qQ I (ok2 h1 h2) hy,qV q I h⟩
theorem YY {C:Int->Int->Prop} {k:Int->Int->Int} {i j:Int} (hx:rd ρ x=some (.int i)) (hy:rd ρ y=some (.int j)) (hc:C i j) (h:Φ (.d (.int (k i j))) ρ):OpV (rI C fun i j=>.int (k i j)) x y ρ Φ:=fun G F σ H vx vy I h1 h2 Q q=>
 ⟨i,j,qQ I h1 hx,qQ I (ok2 h1 h2) hy,hc,QI q I h⟩
theorem u_i {k:Int->Int} {i:Int} (hx:rd ρ x=some (.int i)) (h:Φ (.d (.int (k i))) ρ):QR (fun vs H Q=>∃ v,vs=[v]/\rU (fun i=>.int (k i)) v H Q) [x] ρ Φ:=fun G F σ H vs I h1 Q q=>by
 obtain ⟨v,vt,rfl,ok,e⟩:=h1
 have e':vt=[]:=e
 subst e'
 exact ⟨v,rfl,i,qQ I ok hx,QI q I h⟩
theorem qC4 {xs ys:List D} (hx:rd ρ x=some (.lst xs)) (hy:rd ρ y=some (.lst ys)) (hz:xs.length+ys.length<=sizeLine) (h:Φ (.l (xs++ys)) ρ):OpV (qJg K) x y ρ Φ:=fun G F σ H vx vy I h1 h2 Q q=>by
 obtain ⟨a,vs,rfl,s1,d1⟩:=jT (K:=K) I h1 hx
 obtain ⟨b,ws,rfl,s2,d2⟩:=jT (K:=K) I (ok2 h1 h2) hy
 exact ⟨a,b,vs,ws,rfl,rfl,s1,s2,by rw [d1.length,d2.length]; exact hz,fun p hp=>jk q I (d1.append d2) h hp⟩
theorem qKN {xs:List D} {k:Int} (hx:rdE ρ x=some (.lst xs)) (hy:rd ρ y=some (.int k)) (h1' : -(2 ^ 63)<=k) (h2':k<2 ^ 63) (hz:xs.length*k.toNat<=sizeLine) (h:Φ (.l (wO k.toNat xs).flatten) ρ):OpV qMY x y ρ Φ:=fun G F σ H vx vy I h1 h2 Q q=>by
 obtain ⟨a,vs,rfl,s1,d1⟩:=(JE I h1 hx).2.2 _ rfl
 refine ⟨a,k,vs,rfl,qQ I (ok2 h1 h2) hy,s1,h1',h2',by rw [d1.length]; exact hz,fun p hp=>jk q I ?_ h hp⟩
 generalize k.toNat=n
 induction n with
 | zero=>rfl
 | succ n ih=>rw [vV,vV,uU,uU]; exact d1.append ih
theorem qHx {H:Hp} {xs:List D} {vs:List V} (h:qR H xs vs) {i:Int} {d:D} (e:atI xs i=some d):∃ v,atI vs i=some v/\Den H d v:=by
 unfold atI at e ⊢
 rw [h.length]
 cases z:ixN xs.length i with
 | none=>rw [z] at e; cases e
 | some j=>
  rw [z] at e
  have e':xs[j]? = some d:=e
  obtain ⟨v,e1,e2⟩:=h.get' e'
  exact ⟨v,e1,e2⟩
theorem qCS {xs:List D} {i:Int} {d:D} (hx:rd ρ x=some (.lst xs)) (hy:rd ρ y=some (.int i)) (hi:atI xs i=some d) (h:Φ (.d d) ρ):OpV (rIx K) x y ρ Φ:=fun G F σ H vx vy I h1 h2 Q q=>by
 obtain ⟨a,vs,rfl,s1,d1⟩:=jT (K:=K) I h1 hx
 obtain ⟨v,e1,e2⟩:=qHx d1 hi
 exact .inl ⟨a,vs,i,v,rfl,qQ I (ok2 h1 h2) hy,s1,e1,qFC q I e2 h⟩
theorem qK9 {xs:List D} {i:Int} {d:D} (hx:rd ρ x=some (.tup xs)) (hy:rd ρ y=some (.int i)) (hi:atI xs i=some d) (h:Φ (.d d) ρ):OpV (rIx K) x y ρ Φ:=fun G F σ H vx vy I h1 h2 Q q=>by
 obtain ⟨a,vs,rfl,s1,d1⟩:=QP I h1 hx
 obtain ⟨v,e1,e2⟩:=qHx d1 hi
 exact .inr (.inl ⟨a,vs,i,v,rfl,qQ I (ok2 h1 h2) hy,SqT.of (I.g _ _ s1),e1,qFC q I e2 h⟩)
theorem qND {b:Bool} {d:D} {l:List D} (hx:rdE ρ x=some d) (hy:rdE ρ y=some (.lst l)) (hd:qK l<=50) (h:Φ (.d (.bl (if b then !dIn d l else dIn d l))) ρ) (hd2:jN d<=50:=by first | exact fH rfl | assumption):OpV (qJ2 b) x y ρ Φ:=fun G F σ H vx vy I h1 h2 Q q=>
 ⟨d,l,(JE I h1 hx).1,.inr (JE I (ok2 h1 h2) hy).1,hd,hd2,qV q I h⟩
theorem qIf {b:Bool} {l m:List D} (hx:rdE ρ x=some (.lst l)) (hy:rdE ρ y=some (.lst m)) (hd:qK l<=50) (h:Φ (.d (.bl (if b then !Qr l m else Qr l m))) ρ) (hd2:qK m<=50:=by first | exact fH rfl | exact Jx _ | assumption):OpV (qIH b) x y ρ Φ:=fun G F σ H vx vy I h1 h2 Q q=>
 ⟨l,m,.inr ⟨(JE I h1 hx).1,(JE I (ok2 h1 h2) hy).1⟩,hd,hd2,qV q I h⟩
noncomputable def dV:D->Option V
 | .non=>some .non | .bl b=>some (.bl b) | .int i=>some (.int i) | .str s=>some (.str s) | _=>none
theorem J5 {G F H:Hp} {σ:St} {v w:V} {d:D} (I:SI G F ρ σ H) (h:jL G F ρ σ H x v) (e:rd ρ x=some d) (hw:dV d=some w):v=w:=by
 have n:∀ ys,d≠.lst ys:=fun ys z=>by subst z; cases hw
 have g:=qBh I h e n
 cases d with
 | non=>cases hw; exact g
 | bl b=>cases hw; exact g
 | int i=>cases hw; exact g
 | str s=>cases hw; exact g
 | tup l=>cases hw
 | lst l=>cases hw
 | dic=>cases hw
theorem qMj {d e:D} {v w:V} (hx:rd ρ x=some d) (hy:rd ρ y=some e) (hv:dV d=some v) (hw:dV e=some w) (hs:qL4 v w=true) (h:Φ (.d (.bl (decide (v=w)))) ρ):OpV rEq x y ρ Φ:=fun G F σ H vx vy I h1 h2 Q q=>by
 cases J5 I h1 hx hv
 cases J5 I (ok2 h1 h2) hy hw
 exact ⟨hs,qV q I h⟩
theorem qK5 {d e:D} {v w:V} (hx:rd ρ x=some d) (hy:rd ρ y=some e) (hv:dV d=some v) (hw:dV e=some w) (hs:qL4 v w=true) (h:Φ (.d (.bl (!decide (v=w)))) ρ):OpV rNe x y ρ Φ:=fun G F σ H vx vy I h1 h2 Q q=>by
 cases J5 I h1 hx hv
 cases J5 I (ok2 h1 h2) hy hw
 exact ⟨hs,qV q I h⟩
theorem qM8 {i j:Int} (hx:rd ρ x=some (.int i)) (hy:rd ρ y=some (.int j)) (h:Φ (.d (.bl (decide (i=j)))) ρ):OpV rEq x y ρ Φ:=by
 refine qMj hx hy rfl rfl rfl ?_
 have e:decide (V.int i=V.int j)=decide (i=j):=decide_eq_decide.mpr ⟨fun z=>by cases z; rfl,fun z=>by rw [z]⟩
 rw [e]; exact h
theorem qMb {i j:Int} (hx:rd ρ x=some (.int i)) (hy:rd ρ y=some (.int j)) (h:Φ (.d (.bl (!decide (i=j)))) ρ):OpV rNe x y ρ Φ:=by
 refine qK5 hx hy rfl rfl rfl ?_
 have e:decide (V.int i=V.int j)=decide (i=j):=decide_eq_decide.mpr ⟨fun z=>by cases z; rfl,fun z=>by rw [z]⟩
 rw [e]; exact h
end
section
variable {ρ:List Sl} {Φ:Rs->List Sl->Prop} {x y:Rs} {K:wD}
theorem jy {G F H:Hp} {σ:St} {vs:List V} (h:jS G F ρ σ H [x] vs):∃ v,vs=[v]/\jL G F ρ σ H x v:=by
 obtain ⟨v,vt,rfl,ok,e⟩:=h
 have e':vt=[]:=e
 subst e'
 exact ⟨v,rfl,ok⟩
theorem JR {G F H:Hp} {σ:St} {vs:List V} (h:jS G F ρ σ H [x,y] vs):∃ v w,vs=[v,w]/\jL G F ρ σ H x v/\jL G F ρ σ H y w:=by
 obtain ⟨v,vt,rfl,ok,h2⟩:=h
 obtain ⟨w,rfl,ok'⟩:=jy h2
 exact ⟨v,w,rfl,ok,ok2 ok ok'⟩
theorem qLT {xs:List D} (hx:rd ρ x=some (.lst xs)) (h:Φ (.d (.int xs.length)) ρ):QR (fun xs H Q=>∃ p ys,xs=[.ref p]/\(SqL K H p ys\/SqT K H p ys)/\Q (.int ys.length) H) [x] ρ Φ:=fun G F σ H vs I h1 Q q=>by
 obtain ⟨v,rfl,ok⟩:=jy h1
 obtain ⟨a,ws,rfl,s1,d1⟩:=jT (K:=K) I ok hx
 refine ⟨a,ws,rfl,.inl s1,?_⟩
 rw [d1.length]
 exact QI q I h
theorem qKp {xs:List D} (hx:rd ρ x=some (.tup xs)) (h:Φ (.d (.int xs.length)) ρ):QR (fun xs H Q=>∃ p ys,xs=[.ref p]/\(SqL K H p ys\/SqT K H p ys)/\Q (.int ys.length) H) [x] ρ Φ:=fun G F σ H vs I h1 Q q=>by
 obtain ⟨v,rfl,ok⟩:=jy h1
 obtain ⟨a,ws,rfl,s1,d1⟩:=QP I ok hx
 refine ⟨a,ws,rfl,.inr (SqT.of (I.g _ _ s1)),?_⟩
 rw [d1.length]
 exact QI q I h
theorem qHI {xs:List D} (hx:rd ρ x=some (.lst xs)) (h:Φ (.d (.tup xs)) ρ):QR (fun xs H Q=>∃ p ys,xs=[.ref p]/\((SqL K H p ys/\∀ l,H l=none->Q (.ref l) (upd H l (.tup ys)))\/(SqT K H p ys/\Q (.ref p) H))) [x] ρ Φ:=fun G F σ H vs I h1 Q q=>by
 obtain ⟨v,rfl,ok⟩:=jy h1
 obtain ⟨a,ws,rfl,s1,d1⟩:=jT (K:=K) I ok hx
 exact ⟨a,ws,rfl,.inl ⟨s1,fun l hl=>qFk q I d1 h hl⟩⟩
theorem qJd {xs:List D} (hx:rd ρ x=some (.lst xs)) (h:Φ (.l xs) ρ):QR (fun xs H Q=>∃ p ys,xs=[.ref p]/\(SqL K H p ys\/SqT K H p ys)/\∀ l,H l=none->Q (.ref l) (upd H l (.lst ys))) [x] ρ Φ:=fun G F σ H vs I h1 Q q=>by
 obtain ⟨v,rfl,ok⟩:=jy h1
 obtain ⟨a,ws,rfl,s1,d1⟩:=jT (K:=K) I ok hx
 exact ⟨a,ws,rfl,.inl s1,fun l hl=>jk q I d1 h hl⟩
theorem qOC {k:Int->Int->Int} {i j:Int} (hx:rd ρ x=some (.int i)) (hy:rd ρ y=some (.int j)) (h:Φ (.d (.int (k i j))) ρ):QR (fun xs H Q=>∃ i j,xs=[.int i,.int j]/\Q (.int (k i j)) H) [x,y] ρ Φ:=fun G F σ H vs I h1 Q q=>by
 obtain ⟨v,w,rfl,o1,o2⟩:=JR h1
 cases qQ I o1 hx
 cases qQ I o2 hy
 exact ⟨i,j,rfl,QI q I h⟩
theorem qH0 {H:Hp}:∀{bs:List Bool} {vs:List V},qR H (bs.map D.bl) vs->vs=bs.map V.bl
 | [],vs,h=>h
 | b::bs,vs,h=>by
  obtain ⟨v,r,rfl,h1,h2⟩:=h
  have h1':v=.bl b:=h1
  subst h1'
  rw [qH0 h2,zF]
theorem qMH {bs:List Bool} (hx:rdE ρ x=some (.lst (bs.map D.bl))) (h:Φ (.d (.bl (bs.all id))) ρ):QR (fun xs H Q=>∃(p:Addr) (bs:List Bool),xs=[.ref p]/\H p=some (.lst (bs.map V.bl))/\Q (.bl (bs.all id)) H) [x] ρ Φ:=fun G F σ H vs I h1 Q q=>by
 obtain ⟨v,rfl,ok⟩:=jy h1
 obtain ⟨a,ws,rfl,s1,d1⟩:=(JE I ok hx).2.2 _ rfl
 rw [qH0 d1] at s1
 exact ⟨a,bs,rfl,s1,qV q I h⟩
noncomputable def tyD:D->String
 | .non=>"NoneType" | .bl _=>"bool" | .int _=>"int" | .str _=>"str" | .tup _=>"tuple" | .lst _=>"list" | .dic=>"dict"
theorem qOJ {H:Hp} {d:D} {v:V} (h:Den H d v):qBt K H v (.type (tyD d)):=by
 cases d with
 | non=>cases (show v=_ from h); exact .non
 | bl b=>cases (show v=_ from h); exact .bl b
 | int b=>cases (show v=_ from h); exact .int b
 | str b=>cases (show v=_ from h); exact .str b
 | tup l=>obtain ⟨a,xs,rfl,h1,_⟩:=h; exact .tup h1
 | lst l=>obtain ⟨a,xs,rfl,h1,_⟩:=h; exact .lst h1
 | dic=>obtain ⟨a,xs,rfl,h1⟩:=h; exact .dK h1
theorem qGp {d:D} {T:String} {b:Bool} (hx:rdE ρ x=some d) (hb:vQ K (.type (tyD d)) (.type T)=some b) (h:Φ (.d (.bl b)) ρ):QR (fun xs H Q=>∃ x t T b,xs=[x,.ty T]/\qBt K H x t/\vQ K t (.type T)=some b/\Q (.bl b) H) [x,.raw (.ty T)] ρ Φ:=fun G F σ H vs I h1 Q q=>by
 obtain ⟨v,w,rfl,o1,o2⟩:=JR h1
 cases (show w=V.ty T from o2)
 exact ⟨v,_,T,b,rfl,qOJ (JE I o1 hx).1,hb,qV q I h⟩
end
noncomputable def Rs.it:Rs->Option D
 | .d x=>some x
 | .o (.li xs)=>some (.lst xs)
 | _=>none
noncomputable def its:List Rs->Option (List D)
 | []=>some []
 | r::rs=>match r.it,its rs with | some d,some ds=>some (d::ds) | _,_=>none
theorem qGJ {r:Rs} {rs:List Rs} {ds:List D} (h:its (r::rs)=some ds):∃ d dt,r.it=some d/\its rs=some dt/\ds=d::dt:=by
 unfold its at h
 cases e1:r.it with
 | none=>rw [e1] at h; cases h
 | some d=>
  cases e2:its rs with
  | none=>rw [e1,e2] at h; cases h
  | some dt=>rw [e1,e2] at h; cases h; exact ⟨d,dt,rfl,rfl,rfl⟩
theorem qGE {G F H:Hp} {ρ:List Sl} {σ:St} {r:Rs} {v:V} {d:D} (I:SI G F ρ σ H) (h:jL G F ρ σ H r v) (e:r.it=some d):∃ G',qL G G'/\SI G' F ρ σ H/\Den G' d v:=by
 cases r with
 | d x=>cases e; exact ⟨G,qL.refl _,I,h⟩
 | o p=>cases p with
  | li xs=>cases e; exact I.lay h
  | di _=>cases e
  | dt _=>cases e
  | ex _=>cases e
 | b i=>cases e
 | raw w=>cases e
theorem qMi:∀{rs:List Rs} {ds:List D} {G F H:Hp} {ρ:List Sl} {σ:St} {vs:List V},SI G F ρ σ H->jS G F ρ σ H rs vs->its rs=some ds->∃ G',qL G G'/\SI G' F ρ σ H/\qR G' ds vs
 | [],ds,G,F,H,ρ,σ,vs,I,h,e=>by
  cases e
  exact ⟨G,qL.refl _,I,h⟩
 | r::rs,ds,G,F,H,ρ,σ,vs,I,h,e=>by
  obtain ⟨v,vt,rfl,ok,oks⟩:=h
  obtain ⟨d,dt,e1,e2,rfl⟩:=qGJ e
  obtain ⟨G1,g1,I1,d1⟩:=qMi (I.held ok) oks e2
  obtain ⟨I2,ok2⟩:=SI.freed ok g1 I1
  obtain ⟨G2,g2,I3,d2⟩:=qGE I2 ok2 e1
  exact ⟨G2,g1.trans g2,I3,v,vt,rfl,d2,qR.mono g2 _ _ d1⟩
section
variable {ρ:List Sl} {Φ:Rs->List Sl->Prop} {t:TA}
theorem qMJ (h:wpA t ρ fun rs ρ1=>∃ ds,its rs=some ds/\ds.length<=sizeLine/\Φ (.d (.tup ds)) ρ1):wpV (qNK t) ρ Φ:=by
 intro G F σ H I Q q
 refine h G F σ H I _ fun G1 H1 vs rs ρ1 ⟨ds,e,hl,h1⟩ g1 I1 oks=>?_
 obtain ⟨G2,g2,I2,dn⟩:=qMi I1 oks e
 exact ⟨by rw [dn.length]; exact hl,fun p hp=>qFk (q.at (g1.trans g2) fun _ _ z=>z) I2 dn h1 hp⟩
theorem qMS (h:wpA t ρ fun rs ρ1=>∃ ds,its rs=some ds/\ds.length<=sizeLine/\Φ (.l ds) ρ1):wpV (qNC t) ρ Φ:=by
 intro G F σ H I Q q
 refine h G F σ H I _ fun G1 H1 vs rs ρ1 ⟨ds,e,hl,h1⟩ g1 I1 oks=>?_
 obtain ⟨G2,g2,I2,dn⟩:=qMi I1 oks e
 exact ⟨by rw [dn.length]; exact hl,fun p hp=>jk (q.at (g1.trans g2) fun _ _ z=>z) I2 dn h1 hp⟩
end
noncomputable def qLz:D->Option Bool
 | .non=>some false | .bl b=>some b | .int i=>some (i != 0) | .tup l=>some !l.isEmpty | .lst l=>some !l.isEmpty | .str _=>none | .dic=>none
theorem qNU {G F H:Hp} {ρ:List Sl} {σ:St} {r:Rs} {v:V} {d:D} {k:Bool} {K:wD} (I:SI G F ρ σ H) (h:jL G F ρ σ H r v) (e:rd ρ r=some d) (t:qLz d=some k):qLP K v H k:=by
 cases d with
 | non=>cases qHC I h e; cases t; exact rfl
 | bl b=>cases Y8 I h e; cases t; exact rfl
 | int i=>cases qQ I h e; cases t; exact rfl
 | str s=>cases t
 | dic=>cases t
 | tup l=>
  cases t
  obtain ⟨a,ws,rfl,s1,d1⟩:=QP I h e
  refine .inr (.inl ⟨ws,SqT.of (I.g _ _ s1),?_⟩)
  have:=d1.length
  cases ws <;> cases l <;> first | rfl | cases this
 | lst l=>
  cases t
  obtain ⟨a,ws,rfl,s1,d1⟩:=jT (K:=K) I h e
  refine .inl ⟨ws,s1,?_⟩
  have:=d1.length
  cases ws <;> cases l <;> first | rfl | cases this
section
variable {ρ:List Sl} {Φ:Rs->List Sl->Prop} {Ψ:Bool->List Sl->Prop} {ta tb:TE} {t u:TT} {K:wD}
theorem qLm (h:wpV ta ρ fun r ρ1=>∃ b,rd ρ1 r=some (.bl b)/\Ψ b ρ1):wpT (qKf ta) ρ Ψ:=by
 intro G F σ H I Q q
 refine h G F σ H I _ fun G1 H1 v r ρ1 ⟨b,e,h1⟩ g1 I1 ok1=>?_
 exact ⟨b,Y8 I1 ok1 e,q G1 H1 b ρ1 h1 g1 I1⟩
theorem t_B (h:wpV ta ρ fun r ρ1=>∃ b,rd ρ1 r=some (.bl b)/\Ψ b ρ1):wpT (tB ta) ρ Ψ:=by
 intro G F σ H I Q q
 refine h G F σ H I _ fun G1 H1 v r ρ1 ⟨b,e,h1⟩ g1 I1 ok1=>?_
 exact ⟨b,Y8 I1 ok1 e,q G1 H1 b ρ1 h1 g1 I1⟩
theorem qMd (h:wpV ta ρ fun r ρ1=>∃ d b,rd ρ1 r=some d/\qLz d=some b/\Ψ b ρ1):wpT (qNM K ta) ρ Ψ:=by
 intro G F σ H I Q q
 refine h G F σ H I _ fun G1 H1 v r ρ1 ⟨d,b,e,e2,h1⟩ g1 I1 ok1=>?_
 exact ⟨b,qNU I1 ok1 e e2,q G1 H1 b ρ1 h1 g1 I1⟩
theorem Qy (h:Ψ true ρ):wpT qLI ρ Ψ:=fun G F σ H I Q q=>q G H true ρ h (qL.refl _) I
theorem qCc (h:wpT t ρ fun b ρ1=>if b=true then wpT u ρ1 Ψ else Ψ false ρ1):wpT (qME t u) ρ Ψ:=by
 intro G F σ H I Q q
 refine h G F σ H I _ fun G1 H1 b ρ1 h1 g1 I1=>?_
 cases b with
 | true=>exact (by simpa using h1:wpT u ρ1 Ψ) G1 F σ H1 I1 Q fun G2 H2 b ρ2 h2 g2 I2=>q G2 H2 b ρ2 h2 (g1.trans g2) I2
 | false=>exact q G1 H1 false ρ1 (by simpa using h1) g1 I1
theorem qL2 (h:wpT t ρ fun b ρ1=>if b=true then Ψ true ρ1 else wpT u ρ1 Ψ):wpT (tOr t u) ρ Ψ:=by
 intro G F σ H I Q q
 refine h G F σ H I _ fun G1 H1 b ρ1 h1 g1 I1=>?_
 cases b with
 | true=>exact q G1 H1 true ρ1 (by simpa using h1) g1 I1
 | false=>exact (by simpa using h1:wpT u ρ1 Ψ) G1 F σ H1 I1 Q fun G2 H2 b ρ2 h2 g2 I2=>q G2 H2 b ρ2 h2 (g1.trans g2) I2
theorem qED (h:wpT t ρ fun b ρ1=>Ψ (!b) ρ1):wpT (qNa t) ρ Ψ:=by
 intro G F σ H I Q q
 exact h G F σ H I _ fun G1 H1 b ρ1 h1 g1 I1=>q G1 H1 (!b) ρ1 h1 g1 I1
theorem wpT.mono {Ψ':Bool->List Sl->Prop} (h:wpT t ρ Ψ) (e:∀ b ρ',Ψ b ρ'->Ψ' b ρ'):wpT t ρ Ψ':=fun G F σ H I Q q=>h G F σ H I Q fun G1 H1 b ρ1 h1 g1 I1=>q G1 H1 b ρ1 (e _ _ h1) g1 I1
theorem qKM {b c:Bool} (h1:wpT t ρ fun x ρ1=>x=b/\ρ1=ρ) (h2:b=true->wpT u ρ fun x ρ1=>x=c/\ρ1=ρ) (h:Ψ (b && c) ρ):wpT (qME t u) ρ Ψ:=by
 refine qCc (h1.mono ?_)
 rintro x ρ1 ⟨rfl,rfl⟩
 cases x with
 | true=>rw [if_pos rfl]; exact (h2 rfl).mono fun x ρ1 ⟨e1,e2⟩=>by subst e1 e2; exact h
 | false=>exact h
theorem v_and (h:wpV ta ρ fun r ρ1=>∃ b,rd ρ1 r=some (.bl b)/\if b=true then wpV tb ρ1 Φ else Φ (.d (.bl false)) ρ1):wpV (qIK ta tb) ρ Φ:=by
 intro G F σ H I Q q
 refine h G F σ H I _ fun G1 H1 v r ρ1 ⟨b,e,h1⟩ g1 I1 ok1=>?_
 refine ⟨b,Y8 I1 ok1 e,?_⟩
 cases b with
 | true=>exact (by simpa using h1:wpV tb ρ1 Φ) G1 F σ H1 I1 Q (q.at g1 fun _ _ z=>z)
 | false=>exact q G1 H1 _ (.d (.bl false)) ρ1 (by simpa using h1) g1 I1 rfl
theorem qLq {b c:Bool} (h1:wpV ta ρ fun x ρ1=>x=.d (.bl b)/\ρ1=ρ) (h2:b=true->wpV tb ρ fun x ρ1=>x=.d (.bl c)/\ρ1=ρ) (h:Φ (.d (.bl (b && c))) ρ):wpV (qIK ta tb) ρ Φ:=by
 refine v_and (h1.mono ?_)
 rintro x ρ1 ⟨rfl,rfl⟩
 refine ⟨b,rfl,?_⟩
 cases b with
 | true=>rw [if_pos rfl]; exact (h2 rfl).mono fun x ρ1 ⟨e1,e2⟩=>by subst e1 e2; exact h
 | false=>exact h
theorem v_not (h:wpV ta ρ fun r ρ1=>∃ d b,rd ρ1 r=some d/\qLz d=some b/\Φ (.d (.bl (!b))) ρ1):wpV (qJy ta K) ρ Φ:=by
 intro G F σ H I Q q
 refine h G F σ H I _ fun G1 H1 v r ρ1 ⟨d,b,e,e2,h1⟩ g1 I1 ok1=>?_
 exact ⟨b,qNU I1 ok1 e e2,q G1 H1 _ _ ρ1 h1 g1 I1 (show Den G1 (.bl (!b)) (.bl (!b)) from rfl)⟩
theorem qN2 (h:wpT t ρ fun b ρ1=>if b=true then wpV ta ρ1 Φ else wpV tb ρ1 Φ):wpV (tIf t ta tb) ρ Φ:=by
 intro G F σ H I Q q
 refine h G F σ H I _ fun G1 H1 b ρ1 h1 g1 I1=>?_
 cases b with
 | true=>exact (by simpa using h1:wpV ta ρ1 Φ) G1 F σ H1 I1 Q (q.at g1 fun _ _ z=>z)
 | false=>exact (by simpa using h1:wpV tb ρ1 Φ) G1 F σ H1 I1 Q (q.at g1 fun _ _ z=>z)
end
structure VE where
 nx:List Sl->Prop
 rt:Rs->List Sl->Prop
 bk:List Sl->Prop:=fun _=>False
 ct:List Sl->Prop:=fun _=>False
noncomputable def Kp (B:List Nat) (σ σ':St):Prop:=∀ i∈B,σ'[i]? = σ[i]?
theorem Kp.refl (B:List Nat) (σ:St):Kp B σ σ:=fun _ _=>rfl
theorem Kp.trans {B:List Nat} {σ σ1 σ2:St} (a:Kp B σ σ1) (b:Kp B σ1 σ2):Kp B σ σ2:=fun i hi=>(b i hi).trans (a i hi)
noncomputable def NX (B:List Nat) (G F:Hp) (σ:St) (Ψ:List Sl->Prop) (N:St->Hp->Prop):Prop:=∀ G' σ' H' ρ',Ψ ρ'->qL G G'->Kp B σ σ'->SI G' F ρ' σ' H'->N σ' H'
noncomputable def RT (B:List Nat) (G F:Hp) (σ:St) (Ψ:Rs->List Sl->Prop) (N:VK):Prop:=∀ G' σ' H' ρ' r v,Ψ r ρ'->qL G G'->Kp B σ σ'->SI G' F ρ' σ' H'->jL G' F ρ' σ' H' r v->N v H'
theorem NX.at {B:List Nat} {G F:Hp} {σ:St} {Ψ:List Sl->Prop} {N:St->Hp->Prop} (h:NX B G F σ Ψ N) {G':Hp} {σ':St} (g:qL G G') (k:Kp B σ σ'):NX B G' F σ' Ψ N:=fun G2 σ2 H2 ρ2 p g2 k2 I=>h G2 σ2 H2 ρ2 p (g.trans g2) (k.trans k2) I
theorem RT.at {B:List Nat} {G F:Hp} {σ:St} {Ψ:Rs->List Sl->Prop} {N:VK} (h:RT B G F σ Ψ N) {G':Hp} {σ':St} (g:qL G G') (k:Kp B σ σ'):RT B G' F σ' Ψ N:=fun G2 σ2 H2 ρ2 r v p g2 k2 I ok=>h G2 σ2 H2 ρ2 r v p (g.trans g2) (k.trans k2) I ok
noncomputable def wpS (B:List Nat) (ts:TS) (ρ:List Sl) (Ψ:VE):Prop:=∀ G F σ H,SI G F ρ σ H->∀ D:Ends,NX B G F σ Ψ.nx D.nx->RT B G F σ Ψ.rt D.rt->NX B G F σ Ψ.bk D.bk->NX B G F σ Ψ.ct D.ct->ts D σ H
noncomputable def wpG (B:List Nat) (g:TG) (r:Rs) (ρ:List Sl) (Φ:List Sl->Prop):Prop:=∀ G F σ H v,SI G F ρ σ H->jL G F ρ σ H r v->∀ N:St->Hp->Prop,NX B G F σ Φ N->g v σ H N
noncomputable def qLu (B:List Nat) (g:TGs) (ds:List D) (ρ:List Sl) (Φ:List Sl->Prop):Prop:=∀ G F σ H vs,SI G F ρ σ H->qR G ds vs->∀ N:St->Hp->Prop,NX B G F σ Φ N->g vs σ H N
section
variable {B:List Nat} {ρ:List Sl} {Ψ:VE} {t u:TS} {te:TE} {c:TT}
theorem Ya (h:wpS B t ρ { Ψ with nx:=fun ρ1=>wpS B u ρ1 Ψ }):wpS B (Qg t u) ρ Ψ:=by
 intro G F σ H I D n r b ct
 refine h G F σ H I _ ?_ r b ct
 intro G1 σ1 H1 ρ1 h1 g1 k1 I1
 exact h1 G1 F σ1 H1 I1 D (n.at g1 k1) (r.at g1 k1) (b.at g1 k1) (ct.at g1 k1)
theorem jC (h:Ψ.nx ρ):wpS B qLn ρ Ψ:=fun G F σ H I D n r b ct=>n G σ H ρ h (qL.refl _) (Kp.refl _ _) I
theorem qKu (h:wpV te ρ fun _ ρ1=>Ψ.nx ρ1):wpS B (qK1 te) ρ Ψ:=fun G F σ H I D n r b ct=>
 h G F σ H I _ fun G1 H1 v x ρ1 h1 g1 I1 _=>n G1 σ H1 ρ1 h1 g1 (Kp.refl _ _) I1
theorem qMV (h:wpV te ρ fun r ρ1=>Ψ.rt r ρ1):wpS B (qL8 te) ρ Ψ:=fun G F σ H I D n r b ct=>
 h G F σ H I _ fun G1 H1 v x ρ1 h1 g1 I1 ok=>r G1 σ H1 ρ1 x v h1 g1 (Kp.refl _ _) I1 ok
theorem SI.forget {G F H:Hp} {ρ:List Sl} {σ:St} (I:SI G F ρ σ H) (i:Nat):SI G F (ρ.set i .u) σ H:=by
 have w:∀(n:Nat) (s:Sl),(ρ.set i .u)[n]? = some s->s=.u\/ρ[n]? = some s:=fun n s h=>by
  rw [zC] at h
  by_cases z:i=n
  ·rw [if_pos z] at h
   by_cases q:i<ρ.length
   ·rw [if_pos q] at h; cases h; exact .inl rfl
   ·rw [if_neg q] at h; cases h
  ·rw [if_neg z] at h; exact .inr h
 have w2:∀(n:Nat) (xs:Pl),(ρ.set i .u)[n]? = some (.o xs)->ρ[n]? = some (.o xs):=fun n xs h=>(w n _ h).resolve_left (fun z=>by cases z)
 refine ⟨fun j s e=>?_,I.g,I.f,I.gf,fun j k a xs ys h1 h2=>I.nd j k a xs ys (w2 _ _ h1) (w2 _ _ h2),fun a ⟨j,xs,h1,h2⟩=>I.out a ⟨j,xs,w2 _ _ h1,h2⟩,I.ft⟩
 by_cases z:i=j
 ·subst z
  have q:i<ρ.length:=by
   have:=(wM.mp e).1
   simpa using this
  obtain ⟨o,e1,_⟩:=I.ok i ρ[i] (wA q)
  rw [zC,if_pos rfl,if_pos q] at e
  cases e
  exact ⟨o,e1,trivial⟩
 ·rw [zC,if_neg z] at e
  exact I.ok j s e
theorem jL.move {G F H:Hp} {ρ:List Sl} {σ:St} {i:Nat} {xs:Pl} {v:V} (I:SI G F ρ σ H) (hi:ρ[i]? = some (.o xs)) (h:σ[i]? = some (some v)):jL G F (ρ.set i .u) σ H (.o xs) v:=by
 obtain ⟨o,e,a,vs,z,h1,h2⟩:=I.ok i _ hi
 rw [h] at e
 cases e
 cases z
 have oa:=I.out a ⟨i,xs,hi,h⟩
 refine ⟨a,vs,rfl,h1,h2,oa.1,oa.2,?_⟩
 rintro ⟨j,ys,e1,e2⟩
 rw [zC] at e1
 by_cases q:i=j
 ·rw [if_pos q] at e1
  by_cases q2:i<ρ.length
  ·rw [if_pos q2] at e1; cases e1
  ·rw [if_neg q2] at e1; cases e1
 ·rw [if_neg q] at e1
  exact q (I.nd i j a xs ys hi e1 h e2)
theorem qCN {i:Nat} {xs:List D} (hi:ρ[i]? = some (.l xs)) (h:Ψ.rt (.l xs) (ρ.set i .u)):wpS B (qL8 (qGD i)) ρ Ψ:=fun G F σ H I D n r b ct=>by
 obtain ⟨o,e,a,vs,z,h1,h2⟩:=I.ok i _ hi
 subst z
 exact ⟨_,e,r G σ H _ _ _ h (qL.refl _) (Kp.refl _ _) (I.forget i) (jL.move I hi e)⟩
theorem qCq (h:wpT c ρ fun b ρ1=>if b=true then wpS B t ρ1 Ψ else wpS B u ρ1 Ψ):wpS B (qMK c t u) ρ Ψ:=by
 intro G F σ H I D n r b ct
 refine h G F σ H I _ fun G1 H1 x ρ1 h1 g1 I1=>?_
 cases x with
 | true=>exact (by simpa using h1:wpS B t ρ1 Ψ) G1 F σ H1 I1 D (n.at g1 (Kp.refl _ _)) (r.at g1 (Kp.refl _ _)) (b.at g1 (Kp.refl _ _)) (ct.at g1 (Kp.refl _ _))
 | false=>exact (by simpa using h1:wpS B u ρ1 Ψ) G1 F σ H1 I1 D (n.at g1 (Kp.refl _ _)) (r.at g1 (Kp.refl _ _)) (b.at g1 (Kp.refl _ _)) (ct.at g1 (Kp.refl _ _))
theorem qCU {g:TG} (h:wpV te ρ fun r ρ1=>wpG B g r ρ1 Ψ.nx):wpS B (qJl te g) ρ Ψ:=by
 intro G F σ H I D n r b ct
 refine h G F σ H I _ fun G1 H1 v x ρ1 h1 g1 I1 ok=>?_
 exact h1 G1 F σ H1 v I1 ok _ (n.at g1 (Kp.refl _ _))
theorem qU {i:Nat} {r:Rs} {Φ:List Sl->Prop} (hi:B.contains i=false) (h:Φ (ρ.set i r.sl)):wpG B (qCM i) r ρ Φ:=by
 intro G F σ H v I ok N n
 refine n G _ H _ h (qL.refl _) (fun j hj=>?_) (I.asg (i:=i) ok)
 rw [zC,if_neg]
 intro z; subst z
 rw [hG,decide_eq_false_iff_not] at hi
 exact hi hj
theorem qHr {Φ:List Sl->Prop} (h:Φ ρ):qLu B qNS [] ρ Φ:=fun G F σ H vs I d N n=>⟨d,n G σ H ρ h (qL.refl _) (Kp.refl _ _) I⟩
theorem J3 {g:TG} {gs:TGs} {x:D} {ds:List D} {Φ:List Sl->Prop} (h:wpG B g (.d x) ρ fun ρ1=>qLu B gs ds ρ1 Φ):qLu B (qKj g gs) (x::ds) ρ Φ:=by
 intro G F σ H vs I d N n
 obtain ⟨v,r,rfl,d1,d2⟩:=d
 refine ⟨v,r,rfl,h G F σ H v I d1 _ ?_⟩
 intro G1 σ1 H1 ρ1 h1 g1 k1 I1
 exact h1 G1 F σ1 H1 r I1 (qR.mono g1 _ _ d2) N (n.at g1 k1)
theorem qHF {K:wD} {k:Nat} {gs:TGs} {r:Rs} {ds:List D} {Φ:List Sl->Prop} (e:rd ρ r=some (.tup ds)) (hk:ds.length=k) (h:qLu B gs ds ρ Φ):wpG B (qMN K k gs) r ρ Φ:=by
 intro G F σ H v I ok N n
 obtain ⟨a,vs,rfl,h1,h2⟩:=QP I ok e
 exact ⟨a,vs,rfl,SqT.of (I.g _ _ h1),by rw [h2.length]; exact hk,h G F σ H vs I h2 N n⟩
theorem qAV {H:Hp}:∀{xs:List D} {vs:List V} {d:D} {v:V} (j:Nat),qR H xs vs->Den H d v->qR H (xs.set j d) (vs.set j v)
 | [],vs,d,v,j,h,g=>by cases (show vs=[] from h); exact rfl
 | x::xs,vs,d,v,0,h,g=>by
  obtain ⟨w,r,rfl,h1,h2⟩:=h
  exact ⟨v,r,rfl,g,h2⟩
 | x::xs,vs,d,v,j+1,h,g=>by
  obtain ⟨w,r,rfl,h1,h2⟩:=h
  exact ⟨w,r.set j v,rfl,h1,qAV j h2 g⟩
theorem qJj {to ti:TE} (h:wpV te ρ fun r ρ1=>∃ d,r.it=some d/\wpV to ρ1 fun o ρ2=>∃ i,o=.b i/\wpV ti ρ2 fun ix ρ3=>∃ k j xs,rd ρ3 ix=some (.int k)/\ρ3[i]? = some (.l xs)/\ixN xs.length k=some j/\Ψ.nx (ρ3.set i (.l (xs.set j d)))):wpS B (qJl te (qMX to ti qJs)) ρ Ψ:=by
 intro G F σ H I D n rt b ct
 refine h G F σ H I _ fun G1 H1 v r ρ1 ⟨d,ed,h1⟩ g1 I1 ok1=>?_
 obtain ⟨G1',g1',I1',dn⟩:=qGE I1 ok1 ed
 refine h1 G1' F σ H1 I1' _ fun G2 H2 w o ρ2 ⟨i,eo,h2⟩ g2 I2 ok2=>?_
 subst eo
 refine h2 G2 F σ H2 I2 _ fun G3 H3 z ix ρ3 ⟨k,j,xs,e1,e2,e3,h3⟩ g3 I3 ok3=>?_
 obtain ⟨o',e4,a,_,e5,h4,vs,rfl,h5⟩:=I3.ok i _ e2
 have ok2':σ[i]? = some (some w):=ok2
 rw [ok2'] at e4
 cases e4
 cases e5
 refine ⟨a,vs,k,j,rfl,qQ I3 ok3 e1,h4,by rw [h5.length]; exact e3,?_⟩
 exact n G3 σ _ _ h3 (((g1.trans g1').trans g2).trans g3) (Kp.refl _ _) (I3.put e2 ok2 (qAV j h5 (Den.mono (g2.trans g3) _ _ dn)))
theorem qLt {i:Nat} {k:Int->Int->Int} {n:Int} (hB:B.contains i=false) (hi:ρ[i]? = some (.d (.int n))) (h:wpV te ρ fun r ρ1=>∃ m,rd ρ1 r=some (.int m)/\Ψ.nx (ρ1.set i (.d (.int (k n m))))):wpS B (qNW i te (rI0 fun i j=>.int (k i j))) ρ Ψ:=by
 intro G F σ H I D nx r b ct
 obtain ⟨o,e,v,rfl,dv⟩:=I.ok i _ hi
 refine ⟨v,e,h G F σ H I _ fun G1 H1 w x ρ1 ⟨m,e1,h1⟩ g1 I1 ok=>⟨n,m,dv,qQ I1 ok e1,?_⟩⟩
 refine nx G1 _ H1 _ h1 g1 (fun j hj=>?_) (I1.asg (i:=i) (r:=.d (.int (k n m))) (show Den G1 (.int (k n m)) _ from rfl))
 rw [zC,if_neg]
 intro z; subst z
 rw [hG,decide_eq_false_iff_not] at hB
 exact hB hj
theorem YM (Jv:Nat->List Sl->Prop) (m0:Nat) (h0:Jv m0 ρ) {tb:TS}
  (h:∀ m ρ,Jv m ρ->wpT c ρ fun b ρ1=>if b=true then wpS B tb ρ1 { nx:=fun ρ'=>∃ m',m'<m/\Jv m' ρ',ct:=fun ρ'=>∃ m',m'<m/\Jv m' ρ',bk:=Ψ.nx,rt:=Ψ.rt } else Ψ.nx ρ1):wpS B (qCo c tb) ρ Ψ:=by
 intro G F σ H I D n r b ct
 refine ⟨fun m σ' H'=>∃ G' ρ',Jv m ρ'/\qL G G'/\Kp B σ σ'/\SI G' F ρ' σ' H',⟨m0,G,ρ,h0,qL.refl _,Kp.refl _ _,I⟩,?_⟩
 rintro m σ1 H1 ⟨G1,ρ1,hI,g1,k1,I1⟩
 refine h m ρ1 hI G1 F σ1 H1 I1 _ fun G2 H2 x ρ2 h2 g2 I2=>?_
 cases x with
 | true=>
  refine ⟨fun σ' H'=>∃ m',m'<m/\∃ G' ρ',Jv m' ρ'/\qL G G'/\Kp B σ σ'/\SI G' F ρ' σ' H',fun σ' H' z=>z,?_⟩
  rw [if_pos rfl] at h2
  refine h2 G2 F σ1 H2 I2 _ ?_ (r.at (g1.trans g2) k1) ?_ ?_
  ·exact fun G3 σ3 H3 ρ3 ⟨m',l,p⟩ g3 k3 I3=>⟨m',l,G3,ρ3,p,(g1.trans g2).trans g3,k1.trans k3,I3⟩
  ·exact n.at (g1.trans g2) k1
  ·exact fun G3 σ3 H3 ρ3 ⟨m',l,p⟩ g3 k3 I3=>⟨m',l,G3,ρ3,p,(g1.trans g2).trans g3,k1.trans k3,I3⟩
 | false=>exact n.at (g1.trans g2) k1 G2 σ1 H2 ρ2 (by simpa using h2) (qL.refl _) (Kp.refl _ _) I2
noncomputable def sq:D->Option (List D)
 | .tup l=>some l
 | .lst l=>some l
 | _=>none
theorem qJ1 {K:wD} {g:TG} {tb:TS} {s:Nat} {xs:List D} (hs:ρ[s]? = some (.l xs)) (Jv:Nat->List Sl->Prop) (i0:Jv 0 ρ) (hI:∀ k ρ,Jv k ρ->ρ[s]? = some (.l xs))
  (st:∀ k x ρ,xs[k]? = some x->Jv k ρ->wpG (s::B) g (.d x) ρ fun ρ2=>wpS (s::B) tb ρ2 { nx:=Jv (k+1),ct:=Jv (k+1),bk:=Ψ.nx,rt:=Ψ.rt }) (en:∀ ρ,Jv xs.length ρ->Ψ.nx ρ):wpS B (qHz (qJG K (qGD s)) g tb) ρ Ψ:=by
 intro G F σ H I D n r b ct
 obtain ⟨o,e,a,_,rfl,h1,ws,rfl,h2⟩:=I.ok s _ hs
 have kw:∀{σ σ':St},Kp (s::B) σ σ'->Kp B σ σ':=fun h i hi=>h i (wI _ hi)
 have n':NX (s::B) G F σ Ψ.nx D.nx:=fun G2 σ2 H2 ρ2 p g2 k2 I2=>n G2 σ2 H2 ρ2 p g2 (kw k2) I2
 have r':RT (s::B) G F σ Ψ.rt D.rt:=fun G2 σ2 H2 ρ2 x v p g2 k2 I2 ok=>r G2 σ2 H2 ρ2 x v p g2 (kw k2) I2 ok
 have same:∀(k:Nat) (σ2:St) (H2:Hp),(∃ G' ρ',Jv k ρ'/\qL G G'/\Kp (s::B) σ σ2/\SI G' F ρ' σ2 H2)->∃ G' ρ' ws',Jv k ρ'/\qL G G'/\Kp (s::B) σ σ2/\SI G' F ρ' σ2 H2/\H2 a=some (.lst ws')/\qR G' xs ws':=by
  rintro k σ2 H2 ⟨G2,ρ2,p,g2,k2,I2⟩
  obtain ⟨o2,e2,a2,_,z,h3,ws2,rfl,h4⟩:=I2.ok s _ (hI k ρ2 p)
  rw [k2 s wL,e] at e2
  cases e2
  cases z
  exact ⟨G2,ρ2,ws2,p,g2,k2,I2,h3,h4⟩
 refine ⟨.ref a,e,a,rfl,.inl ⟨⟨ws,SqL.of h1⟩,?_⟩⟩
 refine ⟨fun i m σ' H'=>m=xs.length - i/\i<=xs.length/\∃ G' ρ',Jv i ρ'/\qL G G'/\Kp (s::B) σ σ'/\SI G' F ρ' σ' H',⟨xs.length,by simp,zV _,G,ρ,i0,qL.refl _,Kp.refl _ _,I⟩,?_⟩
 rintro i m σ2 H2 ⟨rfl,hi,p⟩
 obtain ⟨G2,ρ2,ws2,p2,g2,k2,I2,h3,h4⟩:=same i σ2 H2 p
 have hl:=h4.length
 by_cases hlt:i<xs.length
 ·have hlt2:i<ws2.length:=by omega
  refine .inr ⟨⟨ws2,ws2[i],SqL.of h3,by simp [hlt2]⟩,fun σ' H'=>∃ G' ρ',Jv (i+1) ρ'/\qL G G'/\Kp (s::B) σ σ'/\SI G' F ρ' σ' H',fun σ' H' p'=>⟨xs.length - (i+1),by omega,rfl,hlt,p'⟩,fun x H' y=>?_⟩
  obtain ⟨e',y⟩:=y
  subst e'
  obtain ⟨d,ed,dd⟩:=h4.get (y ws2 (SqL.of h3))
  refine st i d ρ2 ed p2 G2 F σ2 _ x I2 dd _ ?_
  intro G3 σ3 H3 ρ3 h5 g3 k3 I3
  refine h5 G3 F σ3 H3 I3 _ ?_ (r'.at (g2.trans g3) (k2.trans k3)) ?_ ?_
  ·exact fun G4 σ4 H4 ρ4 p4 g4 k4 I4=>⟨G4,ρ4,p4,(g2.trans g3).trans g4,(k2.trans k3).trans k4,I4⟩
  ·exact n'.at (g2.trans g3) (k2.trans k3)
  ·exact fun G4 σ4 H4 ρ4 p4 g4 k4 I4=>⟨G4,ρ4,p4,(g2.trans g3).trans g4,(k2.trans k3).trans k4,I4⟩
 ·have ei:i=xs.length:=by omega
  subst ei
  exact .inl ⟨⟨ws2,SqL.of h3,by omega⟩,n' G2 σ2 H2 ρ2 (en ρ2 p2) g2 k2 I2⟩
end
section
variable {ρ:List Sl} {Φ:Rs->List Sl->Prop} {K:wD} {t:TA} {i:Nat} {xs:List D}
theorem qN9 {T:String} {r:V->List V->Hp->VK->Prop} {to:TE} (h:wpV to ρ fun o ρ1=>(T = "list"/\∃ xs,rd ρ1 o=some (.lst xs))/\wpA t ρ1 fun rs ρ2=>QR (fun vs H Q=>∃ v vt,vs=v::vt/\r v vt H Q) (o::rs) ρ2 Φ):wpV (tBM K T r to t) ρ Φ:=by
 intro G F σ H I Q q
 refine h G F σ H I _ fun G1 H1 v o ρ1 ⟨⟨eT,xs,hx⟩,h1⟩ g1 I1 ok1=>?_
 obtain ⟨a,ws,rfl,s1,d1⟩:=jT (K:=K) I1 ok1 hx
 refine ⟨.inl ⟨eT,ws,s1⟩,?_⟩
 refine h1 G1 (hold o (.ref a) H1 F) σ H1 (I1.held ok1) _ fun G2 H2 vs rs ρ2 h2 g2 I2 oks=>?_
 obtain ⟨I3,ok3⟩:=jS.cons ok1 g2 I2 oks
 obtain ⟨v,vt,e,z⟩:=h2 G2 F σ H2 (.ref a::vs) I3 ok3 Q (q.at (g1.trans g2) fun _ _ p=>p)
 cases e
 exact z
theorem qIV {G F H:Hp} {σ:St} {v:V} (I:SI G F ρ σ H) (hi:ρ[i]? = some (.l xs)) (ok:jL G F ρ σ H (.b i) v):∃ a vs,v=.ref a/\σ[i]? = some (some (.ref a))/\H a=some (.lst vs)/\qR G xs vs:=by
 obtain ⟨o,e,a,_,z,h1,vs,rfl,h2⟩:=I.ok i _ hi
 have ok':σ[i]? = some (some v):=ok
 rw [ok'] at e
 cases e
 cases z
 exact ⟨a,vs,rfl,ok',h1,h2⟩
theorem JY {r:Rs} {d:D} (hi:ρ[i]? = some (.l xs)) (hr:r.it=some d) (hz:xs.length<sizeLine) (h:Φ (.d .non) (ρ.set i (.l (xs++[d])))):QR (fun vs H Q=>∃ v vt,vs=v::vt/\qET v vt H Q) [.b i,r] ρ Φ:=by
 intro G F σ H vs I oks Q q
 obtain ⟨v,w,rfl,o1,o2⟩:=JR oks
 obtain ⟨G1,g1,I1,dn⟩:=qGE I o2 hr
 obtain ⟨a,us,rfl,e1,h1,h2⟩:=qIV I1 hi o1
 refine ⟨_,_,rfl,a,us,w,rfl,rfl,h1,by rw [h2.length]; exact hz,?_⟩
 exact q G1 _ .non (.d .non) _ h g1 (I1.put hi e1 (h2.snoc dn)) rfl
theorem qAf {r:Rs} {ys:List D} (hi:ρ[i]? = some (.l xs)) (hr:rdE ρ r=some (.lst ys)) (hz:xs.length+ys.length<=sizeLine) (h:Φ (.d .non) (ρ.set i (.l (xs++ys)))):QR (fun vs H Q=>∃ v vt,vs=v::vt/\qEV v vt H Q) [.b i,r] ρ Φ:=by
 intro G F σ H vs I oks Q q
 obtain ⟨v,w,rfl,o1,o2⟩:=JR oks
 obtain ⟨a,us,rfl,e1,h1,h2⟩:=qIV I hi o1
 obtain ⟨b,ws,rfl,h3,h4⟩:=(JE I o2 hr).2.2 _ rfl
 refine ⟨_,_,rfl,a,b,us,ws,rfl,rfl,h1,h3,by rw [h2.length,h4.length]; exact hz,?_⟩
 exact q G _ .non (.d .non) _ h (qL.refl _) (I.put hi e1 (h2.append h4)) rfl
theorem Yz {H:Hp}:∀{xs:List D} {vs:List V} (j:Nat),qR H xs vs->qR H (xs.eraseIdx j) (vs.eraseIdx j)
 | [],vs,j,h=>by cases (show vs=[] from h); exact rfl
 | x::xs,vs,0,h=>by
  obtain ⟨w,r,rfl,h1,h2⟩:=h
  exact h2
 | x::xs,vs,j+1,h=>by
  obtain ⟨w,r,rfl,h1,h2⟩:=h
  exact ⟨w,r.eraseIdx j,rfl,h1,Yz j h2⟩
theorem qIu {r:Rs} {k:Nat} {d:D} (hi:ρ[i]? = some (.l xs)) (hr:rd ρ r=some (.int k)) (hk:xs[k]? = some d) (hz:xs.length<2 ^ 62) (h:Φ (.d d) (ρ.set i (.l (xs.eraseIdx k)))):QR (fun vs H Q=>∃ v vt,vs=v::vt/\qH8 v vt H Q) [.b i,r] ρ Φ:=by
 intro G F σ H vs I oks Q q
 obtain ⟨v,w,rfl,o1,o2⟩:=JR oks
 obtain ⟨a,us,rfl,e1,h1,h2⟩:=qIV I hi o1
 cases qQ I o2 hr
 obtain ⟨x,hx,dx⟩:=h2.get' hk
 have hkl:k<xs.length:=(wM.mp hk).1
 have hl:=h2.length
 refine ⟨_,_,rfl,a,us,k,k,x,rfl,rfl,h1,by omega,by omega,?_,hx,?_⟩
 ·have z:=(qCT (n:=us.length) (i:=(k:Int)) (j:=k) (by unfold ixN; rw [if_pos (by omega),if_pos (by omega)]; simp)).1
  exact z
 ·exact q G _ x (.d d) _ h (qL.refl _) (I.put hi e1 (Yz k h2)) dx
end
end L4
namespace L2
open PySem PySem.Spec PyProof.Rows
end L2
namespace L4
open PySem L2
variable {ρ:List Sl} {Φ:Rs->List Sl->Prop} {K:wD}
noncomputable def qGM (ρ:List Sl):Rs->Sl
 | .d x=>.d x
 | .o xs=>.o xs
 | .b i=>(ρ[i]?).getD .u
 | .raw _=>.u
noncomputable def isB:List Rs->List Nat
 | []=>[]
 | .b i::rs=>i::isB rs
 | _::rs=>isB rs
theorem Qc {i:Nat}:∀{rs:List Rs},i∈isB rs↔Rs.b i∈rs
 | []=>by simp [isB]
 | .b j::rs=>by
  have ih:=Qc (i:=i) (rs:=rs)
  simp only [isB,wX,ih,Rs.b.injEq]
 | .d x::rs=>by
  have ih:=Qc (i:=i) (rs:=rs)
  simp only [isB,wX,ih]
  exact ⟨.inr,fun h=>h.resolve_left (fun z=>by cases z)⟩
 | .o x::rs=>by
  have ih:=Qc (i:=i) (rs:=rs)
  simp only [isB,wX,ih]
  exact ⟨.inr,fun h=>h.resolve_left (fun z=>by cases z)⟩
 | .raw x::rs=>by
  have ih:=Qc (i:=i) (rs:=rs)
  simp only [isB,wX,ih]
  exact ⟨.inr,fun h=>h.resolve_left (fun z=>by cases z)⟩
theorem qEA {i:Nat}:∀{rs:List Rs} {j k:Nat},(isB rs).Nodup->rs[j]? = some (.b i)->rs[k]? = some (.b i)->j=k
 | [],j,k,n,h1,h2=>by simp at h1
 | r::rs,j,k,n,h1,h2=>by
  have nt:(isB rs).Nodup:=by
   cases r with
   | b i=>exact (zX.mp n).2
   | d x=>exact n
   | o x=>exact n
   | raw x=>exact n
  cases j with
  | zero=>
   cases k with
   | zero=>rfl
   | succ k=>
    simp at h1 h2
    subst h1
    exact absurd (Qc.mpr (yD h2)) (zX.mp n).1
  | succ j=>
   cases k with
   | zero=>
    simp at h1 h2
    subst h2
    exact absurd (Qc.mpr (yD h1)) (zX.mp n).1
   | succ k=>exact congrArg (· + 1) (qEA nt (by simpa using h1:rs[j]? = some (.b i)) (by simpa using h2:rs[k]? = some (.b i)))
noncomputable def kept (ρ:List Sl) (σ:St) (rs:List Rs) (a:Addr):Prop:=∃(i:Nat) (xs:Pl),ρ[i]? = some (Sl.o xs)/\σ[i]? = some (some (V.ref a))/\Rs.b i∉rs
open Classical in
noncomputable def foc (H F:Hp) (ρ:List Sl) (σ:St) (rs:List Rs):Hp:=fun a=>if kept ρ σ rs a then H a else F a
noncomputable def wb (ρ:List Sl):List Rs->List Sl->List Sl
 | [],_=>ρ
 | .b i::rs,as=>match ρ[i]? with
  | some (.o _)=>wb (ρ.set i (as.headD .u)) rs as.tail
  | _=>wb ρ rs as.tail
 | _::rs,as=>wb ρ rs as.tail
theorem qDT {i:Nat} {s:Sl}:∀{rs:List Rs} {ρ as:List Sl},(wb ρ rs as)[i]? = some s->(∃ j:Nat,rs[j]? = some (Rs.b i)/\(as[j]? = some s\/s=.u))\/(ρ[i]? = some s/\((∃ xs,s=.o xs)->Rs.b i∉rs))
 | [],ρ,as,h=>.inr ⟨h,fun _=>zU⟩
 | r::rs,ρ,as,h=>by
  have tl:∀ j:Nat,as.tail[j]? = as[j+1]?:=fun j=>by cases as <;> simp
  have go:∀ ρ':List Sl,(wb ρ' rs as.tail)[i]? = some s->(∃ j:Nat,(r::rs)[j]? = some (Rs.b i)/\(as[j]? = some s\/s=.u))\/(ρ'[i]? = some s/\((∃ xs,s=.o xs)->Rs.b i∉rs)):=fun ρ' h=>by
   rcases qDT h with ⟨j,h1,h2⟩ | h1
   ·exact .inl ⟨j+1,by simpa using h1,by rw [<- tl]; exact h2⟩
   ·exact .inr h1
  cases r with
  | b k=>
   unfold wb at h
   cases e:ρ[k]? with
   | none=>
    simp only [e] at h
    rcases go ρ h with q | ⟨q1,q2⟩
    ·exact .inl q
    ·refine .inr ⟨q1,fun z m=>?_⟩
     rcases wX.mp m with m | m
     ·cases m; rw [e] at q1; cases q1
     ·exact q2 z m
   | some s'=>
    cases s' with
    | o ys=>
     simp only [e] at h
     rcases go _ h with q | ⟨q1,q2⟩
     ·exact .inl q
     ·by_cases z:k=i
      ·subst z
       rw [zC,if_pos rfl,if_pos (wM.mp e).1] at q1
       cases as with
       | nil=>exact .inl ⟨0,rfl,.inr (zH q1).symm⟩
       | cons s0 as'=>exact .inl ⟨0,rfl,.inl q1⟩
      ·rw [zC,if_neg z] at q1
       refine .inr ⟨q1,fun z' m=>?_⟩
       rcases wX.mp m with m | m
       ·cases m; exact z rfl
       ·exact q2 z' m
    | _=>
     simp only [e] at h
     rcases go ρ h with q | ⟨q1,q2⟩
     ·exact .inl q
     ·refine .inr ⟨q1,fun z m=>?_⟩
      rcases wX.mp m with m | m
      ·cases m
       obtain ⟨xs,z⟩:=z
       rw [z,e] at q1
       cases q1
      ·exact q2 z m
  | d x=>
   rcases go ρ h with q | ⟨q1,q2⟩
   ·exact .inl q
   ·exact .inr ⟨q1,fun z m=>q2 z ((wX.mp m).resolve_left fun z=>by cases z)⟩
  | o x=>
   rcases go ρ h with q | ⟨q1,q2⟩
   ·exact .inl q
   ·exact .inr ⟨q1,fun z m=>q2 z ((wX.mp m).resolve_left fun z=>by cases z)⟩
  | raw x=>
   rcases go ρ h with q | ⟨q1,q2⟩
   ·exact .inl q
   ·exact .inr ⟨q1,fun z m=>q2 z ((wX.mp m).resolve_left fun z=>by cases z)⟩
section
variable {G F H:Hp} {ρ:List Sl} {σ:St}
theorem jS.get:∀{rs:List Rs} {F:Hp} {vs:List V} {j:Nat} {v:V},jS G F ρ σ H rs vs->vs[j]? = some v->∃ r,rs[j]? = some r/\jL G F ρ σ H r v
 | [],F,vs,j,v,h,e=>by cases (show vs=[] from h); simp at e
 | r::rs,F,vs,j,v,h,e=>by
  obtain ⟨w,vt,rfl,ok,oks⟩:=h
  cases j with
  | zero=>simp at e; subst e; exact ⟨r,rfl,ok⟩
  | succ j=>
   obtain ⟨r',h1,h2⟩:=jS.get oks (by simpa using e:vt[j]? = some v)
   exact ⟨r',by simpa using h1,h2.weak (Jk r w ok)⟩
theorem jS.len:∀{rs:List Rs} {F:Hp} {vs:List V},jS G F ρ σ H rs vs->vs.length=rs.length
 | [],F,vs,h=>by cases (show vs=[] from h); rfl
 | r::rs,F,vs,h=>by
  obtain ⟨w,vt,rfl,ok,oks⟩:=h
  rw [wW,wW,oks.len]
theorem jS.apart:∀{rs:List Rs} {F:Hp} {vs:List V} {j k:Nat} {a:Addr} {xs ys:Pl},jS G F ρ σ H rs vs->rs[j]? = some (.o xs)->rs[k]? = some (.o ys)->vs[j]? = some (.ref a)->vs[k]? = some (.ref a)->j=k
 | [],F,vs,j,k,a,xs,ys,h,h1,_,_,_=>by simp at h1
 | r::rs,F,vs,j,k,a,xs,ys,h,h1,h2,h3,h4=>by
  obtain ⟨w,vt,rfl,ok,oks⟩:=h
  have no:∀(n:Nat) (zs us:Pl),r=.o us->w=.ref a->rs[n]? = some (.o zs)->vt[n]? = some (.ref a)->False:=fun n zs us e1 e2 e3 e4=>by
   subst e1 e2
   obtain ⟨r',q1,q2⟩:=jS.get oks e4
   rw [e3] at q1
   cases q1
   obtain ⟨b,ws,z,_,_,_,z5,_⟩:=q2
   cases z
   obtain ⟨b,ws',z,y1,_⟩:=ok
   cases z
   have:hold (.o us) (.ref a) H F a=some ws':=by
    show (if a=a then H a else F a)=_
    rw [if_pos rfl]; exact y1
   rw [this] at z5
   cases z5
  cases j with
  | zero=>
   cases k with
   | zero=>rfl
   | succ k=>simp at h1 h2 h3 h4; exact (no k ys xs h1 h3 h2 h4).elim
  | succ j=>
   cases k with
   | zero=>simp at h1 h2 h3 h4; exact (no j xs ys h2 h4 h1 h3).elim
   | succ k=>exact congrArg (· + 1) (jS.apart oks (by simpa using h1:rs[j]? = some (.o xs)) (by simpa using h2:rs[k]? = some (.o ys)) (by simpa using h3:vt[j]? = some (.ref a)) (by simpa using h4))
theorem Qq {rs:List Rs} {a:Addr} (h:kept ρ σ rs a):foc H F ρ σ rs a=H a:=by unfold foc; rw [if_pos h]
theorem Jo {rs:List Rs} {a:Addr} (h:¬ kept ρ σ rs a):foc H F ρ σ rs a=F a:=by unfold foc; rw [if_neg h]
theorem Q0 {rs:List Rs} (I:SI G F ρ σ H):qL F (foc H F ρ σ rs):=fun b o e=>by
 rw [Jo]
 ·exact e
 ·rintro ⟨i,xs,h1,h2,_⟩
  rw [(I.out b ⟨i,xs,h1,h2⟩).2] at e
  cases e
theorem SI.focus {rs:List Rs} {vs:List V} (I:SI G F ρ σ H) (oks:jS G F ρ σ H rs vs) (nb:(isB rs).Nodup):SI G (foc H F ρ σ rs) (rs.map (qGM ρ)) (vs.map some) H:=by
 have get:∀(j:Nat) (s:Sl),(rs.map (qGM ρ))[j]? = some s->∃ r v,rs[j]? = some r/\s=qGM ρ r/\vs[j]? = some v/\jL G F ρ σ H r v:=fun j s e=>by
  rw [wQ] at e
  cases z:rs[j]? with
  | none=>rw [z] at e; cases e
  | some r=>
   rw [z] at e
   have hj:j<vs.length:=by rw [oks.len]; exact (wM.mp z).1
   obtain ⟨r',q1,q2⟩:=oks.get (wA hj)
   rw [z] at q1
   cases q1
   exact ⟨r,vs[j],rfl,(zH e).symm,wA hj,q2⟩
 have own:∀(j:Nat) (xs:Pl) (a:Addr),(rs.map (qGM ρ))[j]? = some (.o xs)->(vs.map some)[j]? = some (some (.ref a))->G a=none/\F a=none/\((∃ ys,rs[j]? = some (.o ys)/\vs[j]? = some (.ref a)/\¬ qKh ρ σ a)\/∃ i,rs[j]? = some (.b i)/\ρ[i]? = some (.o xs)/\σ[i]? = some (some (.ref a))):=fun j xs a h1 h2=>by
  obtain ⟨r,v,e1,e2,e3,ok⟩:=get j _ h1
  rw [wQ,e3] at h2
  cases h2
  cases r with
  | d x=>cases e2
  | raw x=>cases e2
  | o ys=>
   obtain ⟨b,ws,z,z1,z2,z3,z4,z5⟩:=ok
   cases z
   exact ⟨z3,z4,.inl ⟨ys,e1,e3,z5⟩⟩
  | b i=>
   have e2':Sl.o xs=(ρ[i]?).getD .u:=e2
   cases z:ρ[i]? with
   | none=>rw [z] at e2'; cases e2'
   | some s=>
    rw [z] at e2'
    cases (show Sl.o xs=s from e2')
    have o:=I.out a ⟨i,xs,z,ok⟩
    exact ⟨o.1,o.2,.inr ⟨i,e1,z,ok⟩⟩
 refine ⟨fun j s e=>?_,I.g,fun b o e=>?_,fun b o e=>?_,fun j k a xs ys h1 h2 h3 h4=>?_,fun a ha=>?_,fun b ws e=>?ft⟩
 case ft=>
  by_cases z:kept ρ σ rs b
  ·rw [Qq z] at e
   obtain ⟨i,xs,h1,h2,_⟩:=z
   obtain ⟨o,q1,a,us,q2,q3,q4⟩:=I.ok i _ h1
   rw [h2] at q1
   cases q1
   cases q2
   rw [q3] at e
   exact q4.ntup ws (zH e)
  ·rw [Jo z] at e
   exact I.ft b ws e
 ·obtain ⟨r,v,e1,e2,e3,ok⟩:=get j s e
  refine ⟨some v,by rw [wQ,e3]; rfl,?_⟩
  subst e2
  cases r with
  | d x=>exact ⟨v,rfl,ok⟩
  | raw x=>trivial
  | o ys=>
   obtain ⟨b,ws,z,z1,z2,z3,z4,z5⟩:=ok
   subst z
   exact ⟨b,ws,rfl,z1,z2⟩
  | b i=>
   have ok':σ[i]? = some (some v):=ok
   show qKY G H ((ρ[i]?).getD .u) (some v)
   cases z:ρ[i]? with
   | none=>trivial
   | some s=>
    obtain ⟨o,q1,q2⟩:=I.ok i s z
    rw [ok'] at q1
    cases q1
    exact q2
 ·by_cases z:kept ρ σ rs b
  ·rw [Qq z] at e; exact e
  ·rw [Jo z] at e; exact I.f _ _ e
 ·by_cases z:kept ρ σ rs b
  ·obtain ⟨i,xs,h1,h2,_⟩:=z
   exact (I.out b ⟨i,xs,h1,h2⟩).1
  ·rw [Jo z] at e; exact I.gf _ _ e
 ·obtain ⟨_,_,o1⟩:=own j xs a h1 h3
  obtain ⟨_,_,o2⟩:=own k ys a h2 h4
  rcases o1 with ⟨us,q1,q2,q3⟩ | ⟨i,q1,q2,q3⟩
  ·rcases o2 with ⟨ws,p1,p2,p3⟩ | ⟨i',p1,p2,p3⟩
   ·exact oks.apart q1 p1 q2 p2
   ·exact absurd ⟨i',ys,p2,p3⟩ q3
  ·rcases o2 with ⟨ws,p1,p2,p3⟩ | ⟨i',p1,p2,p3⟩
   ·exact absurd ⟨i,xs,q2,q3⟩ p3
   ·have e:=I.nd i i' a xs ys q2 p2 q3 p3
    subst e
    exact qEA nb q1 p1
 ·obtain ⟨j,xs,h1,h2⟩:=ha
  obtain ⟨g,f,o⟩:=own j xs a h1 h2
  refine ⟨g,?_⟩
  rw [Jo]
  ·exact f
  ·rintro ⟨i,us,e1,e2,e3⟩
   rcases o with ⟨ys,q1,q2,q3⟩ | ⟨i',q1,q2,q3⟩
   ·exact q3 ⟨i,us,e1,e2⟩
   ·have e:=I.nd i i' a us xs e1 q2 e2 q3
    subst e
    exact e3 (yD q1)
theorem SI.unfocus {rs:List Rs} {vs:List V} {G' H':Hp} {as:List Sl} (I:SI G F ρ σ H) (oks:jS G F ρ σ H rs vs) (g:qL G G') (I':SI G' (foc H F ρ σ rs) as (vs.map some) H'):SI G' F (wb ρ rs as) σ H':=by
 have hf:=Q0 (rs:=rs) I
 have at':∀{i j:Nat},rs[j]? = some (.b i)->∃ v,vs[j]? = some v/\σ[i]? = some (some v):=fun {i j} e=>by
  have hj:j<vs.length:=by rw [oks.len]; exact (wM.mp e).1
  obtain ⟨r',q1,q2⟩:=oks.get (wA hj)
  rw [e] at q1
  cases q1
  exact ⟨_,wA hj,q2⟩
 have own:∀(i:Nat) (xs:Pl) (a:Addr),(wb ρ rs as)[i]? = some (.o xs)->σ[i]? = some (some (.ref a))->(∃ j:Nat,rs[j]? = some (Rs.b i)/\as[j]? = some (Sl.o xs)/\(vs.map some)[j]? = some (some (V.ref a)))\/(ρ[i]? = some (.o xs)/\kept ρ σ rs a):=fun i xs a h1 h2=>by
  rcases qDT h1 with ⟨j,e1,e2⟩ | ⟨e1,e2⟩
  ·obtain ⟨v,q1,q2⟩:=at' e1
   rw [h2] at q2
   cases q2
   refine .inl ⟨j,e1,e2.resolve_right (fun z=>nomatch z),by rw [wQ,q1]; rfl⟩
  ·exact .inr ⟨e1,i,xs,e1,h2,e2 ⟨xs,rfl⟩⟩
 have keptH:∀ a,kept ρ σ rs a->∃ ws,H a=some ws/\foc H F ρ σ rs a=some ws:=fun a k=>by
  obtain ⟨i,xs,e1,e2,e3⟩:=k
  obtain ⟨o,q1,b,ws,z,q2,q3⟩:=I.ok i _ e1
  rw [e2] at q1
  cases q1
  cases z
  exact ⟨ws,q2,by rw [Qq ⟨i,xs,e1,e2,e3⟩]; exact q2⟩
 refine ⟨fun i s e=>?_,I'.g,fun b o e=>I'.f _ _ (hf _ _ e),fun b o e=>I'.gf _ _ (hf _ _ e),fun i k a xs ys h1 h2 h3 h4=>?_,fun a ha=>?_,fun b xs e=>I'.ft b xs (hf _ _ e)⟩
 ·rcases qDT e with ⟨j,e1,e2⟩ | ⟨e1,e2⟩
  ·obtain ⟨v,q1,q2⟩:=at' e1
   refine ⟨_,q2,?_⟩
   rcases e2 with e2 | rfl
   ·obtain ⟨o,p1,p2⟩:=I'.ok j s e2
    rw [wQ,q1] at p1
    cases p1
    exact p2
   ·trivial
  ·obtain ⟨o,p1,p2⟩:=I.ok i s e1
   refine ⟨o,p1,p2.up g fun xs a ws z1 z2 z3=>?_⟩
   subst z1 z2
   obtain ⟨ws',k1,k2⟩:=keptH a ⟨i,xs,e1,p1,e2 ⟨xs,rfl⟩⟩
   rw [z3] at k1
   cases k1
   exact I'.f _ _ k2
 ·rcases own i xs a h1 h3 with ⟨j1,p1,p2,p3⟩ | ⟨p1,p2⟩
  ·rcases own k ys a h2 h4 with ⟨j2,q1,q2,q3⟩ | ⟨q1,q2⟩
   ·have e:=I'.nd j1 j2 a xs ys p2 q2 p3 q3
    subst e
    rw [p1] at q1
    cases q1
    rfl
   ·obtain ⟨ws,k1,k2⟩:=keptH a q2
    rw [(I'.out a ⟨j1,xs,p2,p3⟩).2] at k2
    cases k2
  ·rcases own k ys a h2 h4 with ⟨j2,q1,q2,q3⟩ | ⟨q1,q2⟩
   ·obtain ⟨ws,k1,k2⟩:=keptH a p2
    rw [(I'.out a ⟨j2,ys,q2,q3⟩).2] at k2
    cases k2
   ·exact I.nd i k a xs ys p1 q1 h3 h4
 ·obtain ⟨i,xs,h1,h2⟩:=ha
  rcases own i xs a h1 h2 with ⟨j1,p1,p2,p3⟩ | ⟨p1,p2⟩
  ·have o:=I'.out a ⟨j1,xs,p2,p3⟩
   exact ⟨o.1,hf.free o.2⟩
  ·obtain ⟨ws,k1,k2⟩:=keptH a p2
   exact ⟨I'.gf _ _ k2,(I.out a ⟨i,xs,p1,h2⟩).2⟩
theorem jL.unfocus {rs:List Rs} {vs:List V} {G' H':Hp} {as:List Sl} {r:Rs} {v:V} {d:D} (I:SI G F ρ σ H) (oks:jS G F ρ σ H rs vs) (hr:r.it=some d) (ok:jL G' (foc H F ρ σ rs) as (vs.map some) H' r v):jL G' F (wb ρ rs as) σ H' r v:=by
 have hf:=Q0 (rs:=rs) I
 cases r with
 | d x=>exact ok
 | b i=>cases hr
 | raw w=>cases hr
 | o xs=>
  obtain ⟨a,ws,rfl,h1,h2,h3,h4,h5⟩:=ok
  refine ⟨a,ws,rfl,h1,h2,h3,hf.free h4,?_⟩
  rintro ⟨i,ys,e1,e2⟩
  rcases qDT e1 with ⟨j,q1,q2⟩ | ⟨q1,q2⟩
  ·have hj:j<vs.length:=by rw [oks.len]; exact (wM.mp q1).1
   obtain ⟨r',p1,p2⟩:=oks.get (wA hj)
   rw [q1] at p1
   cases p1
   have p2':σ[i]? = some (some vs[j]):=p2
   rw [e2] at p2'
   refine h5 ⟨j,ys,q2.resolve_right (fun z=>nomatch z),?_⟩
   rw [wQ,wA hj,<- zH p2']
   rfl
  ·obtain ⟨o,p1,b,ws',z,p2,p3⟩:=I.ok i _ q1
   rw [e2] at p1
   cases p1
   cases z
   rw [Qq ⟨i,ys,q1,e2,q2 ⟨ys,rfl⟩⟩,p2] at h4
   cases h4
end
noncomputable abbrev PV:=List Sl->(Rs->List Sl->Prop)->Prop
noncomputable def spV (P:PV):Sp:=fun vs H Q _=>∃ as Φ G F,P as Φ/\as.length=vs.length/\SI G F as (vs.map some) H/\Fin G F (vs.map some) Φ Q
theorem Yi {P:PV} {E:XK} {t:TA} {ρ:List Sl} {Φ:Rs->List Sl->Prop} (h:wpA t ρ fun rs ρ1=>(isB rs).Nodup/\P (rs.map (qGM ρ1)) fun r as=>(∃ d,r.it=some d)/\Φ r (wb ρ1 rs as)):wpV (qGn (spV P) [] E t) ρ Φ:=by
 intro G F σ H I Q q
 refine h G F σ H I _ fun G1 H1 vs rs ρ1 ⟨nb,h1⟩ g1 I1 oks=>?_
 show spV P (vs++[]) H1 Q E
 rw [zI]
 refine ⟨_,_,G1,_,h1,by rw [wB,oks.len],I1.focus oks nb,?_⟩
 intro G2 H2 v r as ⟨⟨d,ed⟩,h2⟩ g2 I2 ok
 exact q G2 H2 v r _ h2 (g1.trans g2) (I1.unfocus oks g2 I2) (jL.unfocus I1 oks ed ok)
noncomputable def sel (c:Nat) (B:List Nat) (n:Nat) (ρ:List Sl):List Sl:=(zA n).map fun j=>if B.contains (c+j) then (ρ[c+j]?).getD .u else .u
theorem qCL {c:Nat} {B:List Nat} {n:Nat} {ρ:List Sl} {j:Nat} {s:Sl} (h:(sel c B n ρ)[j]? = some s):j<n/\(s=.u\/(c+j∈B/\ρ[c+j]? = some s)):=by
 unfold sel at h
 rw [wQ] at h
 by_cases z:j<n
 ·rw [WT z] at h
  refine ⟨z,?_⟩
  have h':(if B.contains (c+j)=true then (ρ[c+j]?).getD .u else .u)=s:=zH h
  by_cases q:B.contains (c+j)=true
  ·rw [if_pos q] at h'
   rw [hG,decide_eq_true_iff] at q
   cases e:ρ[c+j]? with
   | none=>rw [e] at h'; exact .inl h'.symm
   | some s'=>
    rw [e] at h'
    have h2:s'=s:=h'
    subst h2
    exact .inr ⟨q,rfl⟩
  ·rw [if_neg q] at h'; exact .inl h'.symm
 ·rw [vI (zK (uJ vB) (by omega))] at h
  cases h
theorem SI.sel {G F H:Hp} {ρ:List Sl} {σ σ0:St} {c n:Nat} {B:List Nat} {vs:List V} (I:SI G F ρ σ H) (k:Kp B σ0 σ) (h0:∀ j v,vs[j]? = some v->σ0[c+j]? = some (some v)) (hn:n<=vs.length):SI G F (sel c B n ρ) (vs.map some) H:=by
 have own:∀(j:Nat) (xs:Pl) (a:Addr),(L4.sel c B n ρ)[j]? = some (.o xs)->(vs.map some)[j]? = some (some (.ref a))->ρ[c+j]? = some (.o xs)/\σ[c+j]? = some (some (.ref a)):=fun j xs a h1 h2=>by
  obtain ⟨z,q⟩:=qCL h1
  obtain ⟨m,q⟩:=q.resolve_left fun z=>by cases z
  refine ⟨q,?_⟩
  rw [k _ m]
  rw [wQ] at h2
  cases e:vs[j]? with
  | none=>rw [e] at h2; cases h2
  | some v=>rw [e] at h2; cases h2; exact h0 j _ e
 refine ⟨fun j s e=>?_,I.g,I.f,I.gf,fun i j a xs ys h1 h2 h3 h4=>?_,fun a ⟨j,xs,h1,h2⟩=>?_,I.ft⟩
 ·obtain ⟨z,q⟩:=qCL e
  have hj:j<vs.length:=by omega
  refine ⟨some vs[j],by rw [wQ,wA hj]; rfl,?_⟩
  rcases q with rfl | ⟨m,q⟩
  ·trivial
  ·obtain ⟨o,e1,e2⟩:=I.ok _ s q
   rw [k _ m,h0 j _ (wA hj)] at e1
   cases e1
   exact e2
 ·obtain ⟨p1,p2⟩:=own i xs a h1 h3
  obtain ⟨q1,q2⟩:=own j ys a h2 h4
  have:=I.nd _ _ a xs ys p1 q1 p2 q2
  omega
 ·obtain ⟨p1,p2⟩:=own j xs a h1 h2
  exact I.out a ⟨_,xs,p1,p2⟩
theorem jL.sel {G F H:Hp} {ρ:List Sl} {σ σ0:St} {c n:Nat} {B:List Nat} {vs:List V} {r:Rs} {v:V} {d:D} (hr:r.it=some d) (ok:jL G F ρ σ H r v) (k:Kp B σ0 σ) (h0:∀ j v,vs[j]? = some v->σ0[c+j]? = some (some v)):jL G F (sel c B n ρ) (vs.map some) H r v:=by
 cases r with
 | d x=>exact ok
 | b i=>cases hr
 | raw w=>cases hr
 | o xs=>
  obtain ⟨a,ws,rfl,h1,h2,h3,h4,h5⟩:=ok
  refine ⟨a,ws,rfl,h1,h2,h3,h4,?_⟩
  rintro ⟨j,ys,e1,e2⟩
  obtain ⟨z,q⟩:=qCL e1
  obtain ⟨m,q⟩:=q.resolve_left fun z=>by cases z
  refine h5 ⟨_,ys,q,?_⟩
  rw [k _ m]
  rw [wQ] at e2
  cases e:vs[j]? with
  | none=>rw [e] at e2; cases e2
  | some v=>rw [e] at e2; cases e2; exact h0 j _ e
theorem SI.ext {G F H:Hp} {as:List Sl} {vs:List V} (I:SI G F as (vs.map some) H) (c k:Nat) (hl:as.length=vs.length):SI G F (wO c .u++(as++wO k .u)) (wO c none++(vs.map some++wO k none)) H:=by
 have get:∀(i:Nat) (s:Sl),(wO c Sl.u++(as++wO k Sl.u))[i]? = some s->(s=.u/\i<c+as.length+k)\/(c<=i/\i - c<as.length/\as[i - c]? = some s):=fun i s e=>by
  by_cases z:i<c
  ·rw [yL (by rw [zG]; exact z),vN,if_pos z] at e
   exact .inl ⟨(zH e).symm,by omega⟩
  ·rw [zO (by rw [zG]; omega),zG] at e
   by_cases q:i - c<as.length
   ·rw [yL q] at e
    exact .inr ⟨by omega,q,e⟩
   ·rw [zO (by omega),vN] at e
    by_cases y:i - c - as.length<k
    ·rw [if_pos y] at e; exact .inl ⟨(zH e).symm,by omega⟩
    ·rw [if_neg y] at e; cases e
 have st:∀ i,c<=i->i - c<as.length->(wO c none++(vs.map some++wO k none))[i]? = (vs.map some)[i - c]?:=fun i h1 h2=>by
  rw [zO (by rw [zG]; exact h1),zG,yL (by rw [wB]; omega)]
 have own:∀(i:Nat) (xs:Pl),(wO c Sl.u++(as++wO k Sl.u))[i]? = some (.o xs)->c<=i/\i - c<as.length/\as[i - c]? = some (.o xs):=fun i xs e=>(get i _ e).resolve_left fun z=>by cases z.1
 refine ⟨fun i s e=>?_,I.g,I.f,I.gf,fun i j a xs ys h1 h2 h3 h4=>?_,fun a ⟨i,xs,h1,h2⟩=>?_,I.ft⟩
 ·rcases get i s e with ⟨rfl,z⟩ | ⟨z1,z2,z3⟩
  ·have hl2:(wO c none++(vs.map some++wO k none)).length=c+vs.length+k:=by
    rw [wV,wV,zG,zG,wB]; omega
   have hi:i<(wO c none++(vs.map some++wO k none)).length:=by rw [hl2,<- hl]; exact z
   exact ⟨_,wA hi,trivial⟩
  ·obtain ⟨o,e1,e2⟩:=I.ok _ s z3
   exact ⟨o,by rw [st i z1 z2]; exact e1,e2⟩
 ·obtain ⟨p1,p2,p3⟩:=own i xs h1
  obtain ⟨q1,q2,q3⟩:=own j ys h2
  rw [st i p1 p2] at h3
  rw [st j q1 q2] at h4
  have:=I.nd _ _ a xs ys p3 q3 h3 h4
  omega
 ·obtain ⟨p1,p2,p3⟩:=own i xs h1
  rw [st i p1 p2] at h2
  exact I.out a ⟨_,xs,p3,h2⟩
theorem Qf {P:Program} {w:World} {K:wD} {mg:Str->Option Value} {base:Heap} {x qual:Str} {st:Stmt} {f:Addr} {fd:FuncData} {N ps:List Str} {k:Nat} {pv:PV} (F:Fun K x qual st f fd) (S:qb N ps (qJ st)) (B:List Nat)
  (len:∀ as Φ,pv as Φ->as.length=ps.length)
  (hbody:∀(cdv:Value) (A:Around) (outer:List Env) (s:Shared) (H:Hp) (E:XK),Yd k (A.deeper (WU qual (qJ st) s.heap.objs.size f cdv))->
   ∃ t,PSs (qD8 CX0 P w K mg base N qual (qJ st) f cdv A outer s H E).nox (jd st) t/\
    ∀ as Φ,pv as Φ->wpS B t (as++wO (N.length - ps.length) .u) { nx:=fun ρ=>Φ (.d .non) (sel 0 B ps.length ρ),rt:=fun r ρ=>(∃ d,r.it=some d)/\Φ r (sel 0 B ps.length ρ) }) :
  j7 P w K mg base CX0 (k+1) f fd ps (spV pv):=by
 have len':∀ vs H Q E,spV pv vs H Q E->vs.length=ps.length:=fun vs H Q E h=>by
  obtain ⟨as,Φ,G,F,p,l,_⟩:=h
  rw [<- l]; exact len as Φ p
 refine F.ok S len' fun cdv A outer s H vs Q E hr h=>?_
 obtain ⟨t,ht,hw⟩:=hbody cdv A outer s H E hr
 refine ⟨t,ht,?_⟩
 have hl:=len' vs H Q E h
 obtain ⟨as,Φ,G,F',p,l,I,q⟩:=h
 have I0:=I.ext 0 (N.length - ps.length) l
 rw [yT,yT,uB,uB] at I0
 have es:L2.start N vs=vs.map some++wO (N.length - ps.length) none:=by unfold L2.start; rw [hl]
 have h0:∀ j v,vs[j]? = some v->(vs.map some++wO (N.length - ps.length) none)[0+j]? = some (some v):=fun j v e=>by
  rw [kL,yL (by rw [wB]; exact (wM.mp e).1),wQ,e]
  rfl
 rw [es]
 refine hw as Φ p G F' _ H I0 _ ?_ ?_ ?_ ?_
 ·intro G1 σ1 H1 ρ1 h1 g1 k1 I1
  exact q G1 H1 .non (.d .non) _ h1 g1 (I1.sel k1 h0 (uJ hl.symm)) rfl
 ·intro G1 σ1 H1 ρ1 r v ⟨⟨d,ed⟩,h1⟩ g1 k1 I1 ok
  exact q G1 H1 v r _ h1 g1 (I1.sel k1 h0 (uJ hl.symm)) (jL.sel ed ok k1 h0)
 ·intro G1 σ1 H1 ρ1 h1
  exact h1.elim
 ·intro G1 σ1 H1 ρ1 h1
  exact h1.elim
noncomputable abbrev PX:=List Sl->Value->Prop
noncomputable def spX (P:PX):Sp:=fun vs H _ E=>∃ as cls G F,P as cls/\as.length=vs.length/\SI G F as (vs.map some) H/\∀ H',qL G H'->qL F H'->E cls none H'
noncomputable def wpX (ts:TS) (E:XK) (ρ:List Sl) (cls:Value):Prop:=∀ G F σ H,SI G F ρ σ H->∀ D:Ends,(∀ H',qL G H'->qL F H'->E cls none H')->ts D σ H
theorem qLf {P:Program} {w:World} {K:wD} {mg:Str->Option Value} {base:Heap} {x qual:Str} {st:Stmt} {f:Addr} {fd:FuncData} {N ps:List Str} {k:Nat} {px:PX} (F:Fun K x qual st f fd) (S:qb N ps (qJ st))
  (len:∀ as cls,px as cls->as.length=ps.length)
  (hbody:∀(cdv:Value) (A:Around) (outer:List Env) (s:Shared) (H:Hp) (E:XK),Yd k (A.deeper (WU qual (qJ st) s.heap.objs.size f cdv))->
   ∃ t,PSs (qD8 (CXA P w) P w K mg base N qual (qJ st) f cdv A outer s H E) (jd st) t/\∀ as cls,px as cls->wpX t E (as++wO (N.length - ps.length) .u) cls) :
  j7 P w K mg base (CXA P w) (k+1) f fd ps (spX px):=by
 obtain ⟨oc,od,kV,doc,pm,an,cdv,ct,osl,rfl,lk,hcd⟩:=F.ex
 have len':∀ vs H Q E,spX px vs H Q E->vs.length=ps.length:=fun vs H Q E h=>by
  obtain ⟨as,cls,G,F,p,l,_⟩:=h
  rw [<- l]
  exact len as cls p
 refine qKa lk hcd S len' fun A outer s H vs Q E hr h=>?_
 obtain ⟨t,ht,hw⟩:=hbody cdv A outer s H E hr
 refine ⟨t,ht,?_⟩
 have hl:=len' vs H Q E h
 obtain ⟨as,cls,G,F',p,l,I,q⟩:=h
 have I0:=I.ext 0 (N.length - ps.length) l
 rw [yT,yT,uB,uB] at I0
 have es:L2.start N vs=vs.map some++wO (N.length - ps.length) none:=by unfold L2.start; rw [hl]
 rw [es]
 exact hw as cls p G F' _ H I0 _ q
noncomputable def Src (J:It) (G F:Hp) (xs:List D):Prop:=∀(i:Nat) (G' H':Hp),qL G G'->qL G' H'->qL F H'->
 (i<xs.length->J.go i H'/\∀ x H2,J.yld i H' x H2->∃ d,xs[i]? = some d/\((H2=H'/\Den G' d x)\/∃ p o,H' p=none/\H2=upd H' p o/\Den (upd G' p o) d x))/\(i=xs.length->J.stop i H')
noncomputable def wpI (wi:TI) (ρ:List Sl) (Φ:List D->List Sl->Prop):Prop:=∀ G F σ H,SI G F ρ σ H->∀ R:It->Hp->Prop,(∀ G' H' J xs ρ',Φ xs ρ'->qL G G'->SI G' F ρ' σ H'->Src J G' F xs->R J H')->wi σ H R
section
variable {ρ:List Sl} {Φ:List D->List Sl->Prop} {K:wD}
noncomputable def qH6 (lo:Int) (n:Nat):List D:=(zA n).map fun k:Nat=>D.int (lo+k)
theorem qx (lo:Int) (n:Nat):(qH6 lo n).length=n:=by unfold qH6; rw [wB,vB]
theorem QM {lo:Int} {n k:Nat} (h:k<n):(qH6 lo n)[k]? = some (.int (lo+k)):=by unfold qH6; rw [wQ,WT h]; rfl
theorem src_range (lo:Int) (n:Nat) (G F:Hp):Src (Itr lo n) G F (qH6 lo n):=by
 intro i G' H' _ _ _
 rw [qx]
 refine ⟨fun hi=>⟨hi,fun x H2 y=>?_⟩,fun hi=>uJ hi.symm⟩
 obtain ⟨e,y⟩:=y
 subst e y
 exact ⟨_,QM hi,.inl ⟨rfl,rfl⟩⟩
theorem qLw {ta:TA} (h:wpA ta ρ fun rs ρ1=>∃ j:Int,(∃ r,rs=[r]/\rd ρ1 r=some (.int j))/\-(2 ^ 62)<=j/\j<2 ^ 62/\Φ (qH6 0 j.toNat) ρ1):wpI (qLM ta) ρ Φ:=by
 intro G F σ H I R q
 refine h G F σ H I _ fun G1 H1 vs rs ρ1 ⟨j,⟨x,er,ex⟩,l1,l2,h1⟩ g1 I1 oks=>?_
 subst er
 obtain ⟨v,rfl,ok⟩:=jy oks
 cases qQ I1 ok ex
 exact ⟨j,rfl,l1,l2,q G1 H1 _ _ ρ1 h1 g1 I1 (src_range _ _ _ _)⟩
theorem qMv {ta:TA} (h:wpA ta ρ fun rs ρ1=>∃ i j:Int,(∃ r r',rs=[r,r']/\rd ρ1 r=some (.int i)/\rd ρ1 r'=some (.int j))/\(-(2 ^ 62)<=i/\i<2 ^ 62/\-(2 ^ 62)<=j/\j<2 ^ 62)/\Φ (qH6 i (j - i).toNat) ρ1):wpI (qLL ta) ρ Φ:=by
 intro G F σ H I R q
 refine h G F σ H I _ fun G1 H1 vs rs ρ1 ⟨i,j,⟨x,x',er,ex,ex'⟩,l1,h1⟩ g1 I1 oks=>?_
 subst er
 obtain ⟨v,v',rfl,ok,ok'⟩:=JR oks
 cases qQ I1 ok ex
 cases qQ I1 ok' ex'
 exact ⟨i,j,rfl,l1,q G1 H1 _ _ ρ1 h1 g1 I1 (src_range _ _ _ _)⟩
theorem qFy {a:Addr} {ws:List V} {xs:List D} {G F:Hp} (h1:G a=some (.tup ws)) (h2:qR G xs ws):Src (Itt K a) G F xs:=by
 intro i G' H' g gh _
 have st:SqT K H' a ws:=SqT.of (gh _ _ (g _ _ h1))
 have hl:=h2.length
 refine ⟨fun hi=>?_,fun hi=>⟨ws,st,by omega⟩⟩
 have hi2:i<ws.length:=by omega
 refine ⟨⟨ws,ws[i],st,wA hi2⟩,fun x H2 y=>?_⟩
 obtain ⟨e,y⟩:=y
 subst e
 obtain ⟨d,e1,e2⟩:=h2.get (y ws st)
 exact ⟨d,e1,.inl ⟨rfl,Den.mono g _ _ e2⟩⟩
theorem qCE {a:Addr} {ws:List V} {xs:List D} {G F:Hp} (h1:∀ G' H',qL G G'->qL G' H'->qL F H'->SqL K H' a ws) (h2:qR G xs ws):Src (Itl K a) G F xs:=by
 intro i G' H' g gh gf
 have st:SqL K H' a ws:=h1 G' H' g gh gf
 have hl:=h2.length
 refine ⟨fun hi=>?_,fun hi=>⟨ws,st,by omega⟩⟩
 have hi2:i<ws.length:=by omega
 refine ⟨⟨ws,ws[i],st,wA hi2⟩,fun x H2 y=>?_⟩
 obtain ⟨e,y⟩:=y
 subst e
 obtain ⟨d,e1,e2⟩:=h2.get (y ws st)
 exact ⟨d,e1,.inl ⟨rfl,Den.mono g _ _ e2⟩⟩
theorem JS {tl:TE} (h:wpV tl ρ fun r ρ1=>∃ d xs,r.it=some d/\sq d=some xs/\Φ xs ρ1):wpI (qJG K tl) ρ Φ:=by
 intro G F σ H I R q
 refine h G F σ H I _ fun G0 H1 v x ρ1 ⟨d,xs,e1,e2,h1⟩ g0 I0 ok=>?_
 obtain ⟨G1,g1',I1,dn⟩:=qGE I0 ok e1
 have g1:=g0.trans g1'
 cases d with
 | tup l=>
  cases e2
  obtain ⟨a,ws,rfl,k1,k2⟩:=dn
  exact ⟨a,rfl,.inr ⟨⟨ws,SqT.of (I1.g _ _ k1)⟩,q G1 H1 _ _ ρ1 h1 g1 I1 (qFy k1 k2)⟩⟩
 | lst l=>
  cases e2
  obtain ⟨a,ws,rfl,k1,k2⟩:=dn
  exact ⟨a,rfl,.inl ⟨⟨ws,SqL.of (I1.g _ _ k1)⟩,q G1 H1 _ _ ρ1 h1 g1 I1 (qCE (fun G' H' g gh _=>SqL.of (gh _ _ (g _ _ k1))) k2)⟩⟩
 | non=>cases e2
 | bl _=>cases e2
 | int _=>cases e2
 | str _=>cases e2
 | dic=>cases e2
end
theorem YE {B:List Nat} {ρ:List Sl} {Ψ:VE} {wi:TI} {g:TG} {tb:TS} (h:wpI wi ρ fun xs ρ1=>∃ Jv:Nat->List Sl->Prop,Jv 0 ρ1/\
  (∀ k x ρ,xs[k]? = some x->Jv k ρ->wpG B g (.d x) ρ fun ρ2=>wpS B tb ρ2 { nx:=Jv (k+1),ct:=Jv (k+1),bk:=Ψ.nx,rt:=Ψ.rt })/\∀ ρ,Jv xs.length ρ->Ψ.nx ρ):wpS B (qHz wi g tb) ρ Ψ:=by
 intro G F σ H I D n r b ct
 refine h G F σ H I _ fun G1 H1 J xs ρ1 ⟨Jv,i0,st,en⟩ g1 I1 S=>?_
 refine ⟨fun i m σ' H'=>m=xs.length - i/\i<=xs.length/\∃ G' ρ',Jv i ρ'/\qL G1 G'/\Kp B σ σ'/\SI G' F ρ' σ' H',⟨xs.length,by simp,zV _,G1,ρ1,i0,qL.refl _,Kp.refl _ _,I1⟩,?_⟩
 rintro i m σ2 H2 ⟨rfl,hi,G2,ρ2,p2,g2,k2,I2⟩
 obtain ⟨s1,s2⟩:=S i G2 H2 g2 I2.g I2.f
 by_cases hlt:i<xs.length
 ·obtain ⟨go,yl⟩:=s1 hlt
  refine .inr ⟨go,fun σ' H'=>∃ G' ρ',Jv (i+1) ρ'/\qL G1 G'/\Kp B σ σ'/\SI G' F ρ' σ' H',fun σ' H' p'=>⟨xs.length - (i+1),by omega,rfl,hlt,p'⟩,fun x H' y=>?_⟩
  obtain ⟨d,ed,yy⟩:=yl x H' y
  have fin:∀ G3,qL G2 G3->SI G3 F ρ2 σ2 H'->Den G3 d x->g x σ2 H' fun σ3 H3=>tb { D with nx:=fun σ' H'=>∃ G' ρ',Jv (i+1) ρ'/\qL G1 G'/\Kp B σ σ'/\SI G' F ρ' σ' H',ct:=fun σ' H'=>∃ G' ρ',Jv (i+1) ρ'/\qL G1 G'/\Kp B σ σ'/\SI G' F ρ' σ' H',bk:=D.nx } σ3 H3:=fun G3 g3 I3 dn=>by
   refine st i d ρ2 ed p2 G3 F σ2 _ x I3 dn _ ?_
   intro G4 σ4 H4 ρ4 h4 g4 k4 I4
   have gg:=(g2.trans g3).trans g4
   refine h4 G4 F σ4 H4 I4 _ ?_ (r.at (g1.trans gg) (k2.trans k4)) ?_ ?_
   ·exact fun G5 σ5 H5 ρ5 p5 g5 k5 I5=>⟨G5,ρ5,p5,gg.trans g5,(k2.trans k4).trans k5,I5⟩
   ·exact n.at (g1.trans gg) (k2.trans k4)
   ·exact fun G5 σ5 H5 ρ5 p5 g5 k5 I5=>⟨G5,ρ5,p5,gg.trans g5,(k2.trans k4).trans k5,I5⟩
  rcases yy with ⟨e,dn⟩ | ⟨p,o,hp,e,dn⟩
  ·subst e
   exact fin G2 (qL.refl _) I2 dn
  ·subst e
   obtain ⟨I3,g3⟩:=I2.newG (o:=o) hp
   exact fin _ g3 I3 dn
 ·have e:i=xs.length:=by omega
  subst e
  exact .inl ⟨s2 rfl,n G2 σ2 H2 ρ2 (en ρ2 p2) (g1.trans g2) k2 I2⟩
noncomputable def JM (fr:List (Str×Nat)):List Rs:=fr.map fun p=>Rs.b p.2
noncomputable def known (ρ:List Sl) (fr:List (Str×Nat)):Prop:=∀ p∈fr,∃ s,ρ[p.2]? = some s/\s≠.u
theorem qB4 {G F H:Hp} {ρ:List Sl} {σ:St} (I:SI G F ρ σ H):∀{fr:List (Str×Nat)},known ρ fr->∃ vs:List V,jS G F ρ σ H (JM fr) vs/\(fr.map fun p=>(σ[p.2]?).join)=vs.map some
 | [],_=>⟨[],rfl,rfl⟩
 | p::fr,h=>by
  obtain ⟨vs,h1,h2⟩:=qB4 I (fr:=fr) fun q hq=>h q (wI _ hq)
  obtain ⟨s,e,ne⟩:=h p wL
  obtain ⟨o,e1,e2⟩:=I.ok _ s e
  have:∃ v,o=some v:=by
   cases s with
   | u=>exact absurd rfl ne
   | d x=>obtain ⟨v,z,_⟩:=e2; exact ⟨v,z⟩
   | o x=>obtain ⟨a,_,z,_⟩:=e2; exact ⟨_,z⟩
   | f _ x=>obtain ⟨a,_,z,_⟩:=e2; exact ⟨_,z⟩
  obtain ⟨v,rfl⟩:=this
  refine ⟨v::vs,⟨v,vs,rfl,e1,h1⟩,?_⟩
  rw [zF,zF,h2,e1]
  rfl
noncomputable def inner (own:List Str) (fr:List (Str×Nat)) (ρ:List Sl):List Sl:=wO own.length .u++fr.map fun p=>(ρ[p.2]?).getD .u
noncomputable def bnd (own:List Str) (fr:List (Str×Nat)):List Nat:=(zA fr.length).map (own.length + ·)
noncomputable def outer (own:List Str) (fr:List (Str×Nat)) (ρ ρc:List Sl):List Sl:=wb ρ (JM fr) (ρc.drop own.length)
theorem qCy {c n:Nat} {ρ:List Sl} (h:ρ.length=c+n):sel c ((zA n).map (c + ·)) n ρ=ρ.drop c:=by
 apply kY
 intro j
 unfold sel
 rw [wQ,VA]
 by_cases z:j<n
 ·rw [WT z]
  have m:((zA n).map (c + ·)).contains (c+j)=true:=by
   rw [hG,decide_eq_true_iff]
   exact zD.mpr ⟨j,zN.mpr z,rfl⟩
  show some (if ((zA n).map (c + ·)).contains (c+j)=true then (ρ[c+j]?).getD .u else .u)=_
  rw [if_pos m]
  have:c+j<ρ.length:=by omega
  rw [wA this]
  rfl
 ·rw [vI (zK (uJ vB) (by omega)),vI (by omega)]
  rfl
theorem qA3 {own:List Str} {fr:List (Str×Nat)} {J:It} {g:TG} {tt:TT} {te:TE} {ρ:List Sl} {Φ:Rs->List Sl->Prop} {G F H:Hp} {σ:St} {Q:VK} {xs:List D} (I:SI G F ρ σ H) (kn:known ρ fr) (nd:(isB (JM fr)).Nodup)
  (S:Src J G (foc H F ρ σ (JM fr)) xs) (Jv:Nat->List D->List Sl->Prop) (j0:Jv 0 [] (inner own fr ρ)) (jl:∀ k ys ρc,Jv k ys ρc->ys.length<sizeLine/\ρc.length=own.length+fr.length)
  (st:∀ k x ys ρc,xs[k]? = some x->Jv k ys ρc->wpG (bnd own fr) g (.d x) ρc fun ρ2=>wpT tt ρ2 fun b ρ3=>if b=true then wpV te ρ3 fun r ρ4=>∃ d,r.it=some d/\Jv (k+1) (ys++[d]) ρ4 else Jv (k+1) ys ρ3)
  (en:∀ ys ρc,Jv xs.length ys ρc->Φ (.l ys) (outer own fr ρ ρc)) (q:Fin G F σ Φ Q) (A:Addr) (hA:H A=none):qAc J g tt te (qk own fr σ) H A fun H2=>Q (.ref A) H2:=by
 obtain ⟨vs,oks,ev⟩:=qB4 I kn
 have I1:=I.focus oks nd
 have lv:vs.length=fr.length:=by rw [oks.len]; unfold JM; rw [wB]
 have as_eq:(JM fr).map (qGM ρ)=fr.map fun p=>(ρ[p.2]?).getD .u:=by unfold JM; rw [yB]; rfl
 rw [as_eq] at I1
 have I2:=I1.ext own.length 0 (by rw [wB,lv])
 have e1:(wO own.length Sl.u++((fr.map fun p=>(ρ[p.2]?).getD .u)++wO 0 Sl.u))=inner own fr ρ:=by unfold inner; rw [yT,zI]
 have e2:(wO own.length none++(vs.map some++wO 0 none))=qk own fr σ:=by
  unfold qk
  rw [yT,zI,ev]
  congr 1
  rw [List.map_const']
 rw [e1,e2] at I2
 generalize hF2:foc H F ρ σ (JM fr)=F2 at S I1 I2
 have FA:F2 A=none:=I1.f.free hA
 have h0:∀(j:Nat) (v:V),vs[j]? = some v->(qk own fr σ)[own.length+j]? = some (some v):=fun j v e=>by
  rw [<- e2,zO (by rw [zG]; omega),zG,xY,yT,zI,wQ,e]
  rfl
 have fr1:∀ ys,qL F2 (upd F2 A (.lst ys)):=fun ys=>qL.new FA
 refine ⟨fun i m ys σ' H'=>m=xs.length - i/\i<=xs.length/\∃ G' ds ρc,Jv i ds ρc/\qL G G'/\Kp (bnd own fr) (qk own fr σ) σ'/\SI G' (upd F2 A (.lst ys)) ρc σ' H'/\qR G' ds ys,⟨xs.length,by simp,zV _,G,[],_,j0,qL.refl _,Kp.refl _ _,?_,rfl⟩,?_⟩
 ·have I3:=I2.new (o:=.lst []) hA
  refine ⟨I3.ok,I3.g,fun b o e=>?_,fun b o e=>?_,I3.nd,fun b hb=>⟨(I3.out b hb).1,?_⟩,fun b us e=>?ft⟩
  case ft=>
   by_cases z:b=A
   ·rw [z,qH] at e
    cases e
   ·rw [qI z] at e
    exact I3.ft b us e
  ·by_cases z:b=A
   ·subst z; rw [qH] at e ⊢; exact e
   ·rw [qI z] at e; exact I3.f _ _ e
  ·by_cases z:b=A
   ·subst z; exact I2.g.free hA
   ·rw [qI z] at e; exact I3.gf _ _ e
  ·have nb:b≠A:=fun z=>by
    subst z
    obtain ⟨i,zs,q1,q2⟩:=hb
    obtain ⟨o,p1,a,ws,z,p2,p3⟩:=I2.ok i _ q1
    rw [q2] at p1
    cases p1
    cases z
    rw [hA] at p2
    cases p2
   rw [qI nb]
   exact (I3.out b hb).2
 ·rintro i m ys σ2 H2 ⟨rfl,hi,G2,ds,ρ2,p2,g2,k2,I4,dn⟩
  have hHA:H2 A=some (.lst ys):=I4.f _ _ qH
  have lds:=dn.length
  obtain ⟨jl1,jl2⟩:=jl i ds ρ2 p2
  refine ⟨hHA,?_⟩
  obtain ⟨s1,s2⟩:=S i G2 H2 g2 I4.g ((fr1 ys).trans I4.f)
  by_cases hlt:i<xs.length
  ·obtain ⟨go,yl⟩:=s1 hlt
   refine .inr ⟨go,by rw [lds]; exact jl1,fun ys' σ' H'=>∃ G' ds ρc,Jv (i+1) ds ρc/\qL G G'/\Kp (bnd own fr) (qk own fr σ) σ'/\SI G' (upd F2 A (.lst ys')) ρc σ' H'/\qR G' ds ys',fun ys' σ' H' p'=>⟨xs.length - (i+1),by omega,rfl,hlt,p'⟩,fun x H' y=>?_⟩
   obtain ⟨d,ed,yy⟩:=yl x H' y
   have fin:∀ G3,qL G2 G3->SI G3 (upd F2 A (.lst ys)) ρ2 σ2 H'->Den G3 d x->g x σ2 H' fun σ4 H4=>tt σ4 H4 fun b H5=>if b=true then te σ4 H5 fun y H6=>H6 A=some (.lst ys)/\∃ G' ds ρc,Jv (i+1) ds ρc/\qL G G'/\Kp (bnd own fr) (qk own fr σ) σ4/\SI G' (upd F2 A (.lst (ys++[y]))) ρc σ4 (upd H6 A (.lst (ys++[y])))/\qR G' ds (ys++[y])
     else ∃ G' ds ρc,Jv (i+1) ds ρc/\qL G G'/\Kp (bnd own fr) (qk own fr σ) σ4/\SI G' (upd F2 A (.lst ys)) ρc σ4 H5/\qR G' ds ys:=fun G3 g3 I3 dx=>by
    refine st i d ds ρ2 ed p2 G3 (upd F2 A (.lst ys)) σ2 H' x I3 dx _ ?_
    intro G4 σ4 H4 ρ4 h4 g4 k4 I5
    refine h4 G4 _ σ4 H4 I5 _ fun G5 H5 b ρ5 h5 g5 I6=>?_
    have gg:=((g2.trans g3).trans g4).trans g5
    cases b with
    | false=>
     rw [if_neg wR] at h5 ⊢
     exact ⟨G5,ds,ρ5,h5,gg,k2.trans k4,I6,qR.mono ((g3.trans g4).trans g5) _ _ dn⟩
    | true=>
     rw [if_pos rfl] at h5 ⊢
     refine h5 G5 _ σ4 H5 I6 _ fun G6 H6 y r ρ6 ⟨d',ed',h6⟩ g6 I7 ok=>?_
     obtain ⟨G7,g7,I8,dy⟩:=qGE I7 ok ed'
     have hA6:H6 A=some (.lst ys):=I8.f _ _ qH
     refine ⟨hA6,G7,ds++[d'],ρ6,h6,(gg.trans g6).trans g7,k2.trans k4,?_,qR.snoc (qR.mono (((g3.trans g4).trans g5).trans (g6.trans g7)) _ _ dn) dy⟩
     have gA:G7 A=none:=I8.gf _ _ qH
     have oA:∀ b,qKh ρ6 σ4 b->b≠A:=fun b hb z=>by
      subst z
      have:=(I8.out b hb).2
      rw [qH] at this
      cases this
     refine ⟨fun j s e=>?_,fun b o e=>?_,fun b o e=>?_,fun b o e=>?_,I8.nd,fun b hb=>?_,fun b us e=>?ft⟩
     case ft=>
      by_cases z:b=A
      ·rw [z,qH] at e
       cases e
      ·rw [qI z] at e
       exact I8.ft b us (by rw [qI z]; exact e)
     ·obtain ⟨o,q1,q2⟩:=I8.ok j s e
      refine ⟨o,q1,q2.up (qL.refl _) fun us a ws z1 z2 z3=>?_⟩
      subst z1 z2
      rw [qI (oA a ⟨j,us,e,q1⟩)]
      exact z3
     ·rw [qI]
      ·exact I8.g _ _ e
      ·intro z; subst z; rw [gA] at e; cases e
     ·by_cases z:b=A
      ·subst z; rw [qH] at e ⊢; exact e
      ·rw [qI z] at e ⊢
       exact I8.f _ _ (by rw [qI z]; exact e)
     ·by_cases z:b=A
      ·subst z; exact gA
      ·rw [qI z] at e
       exact I8.gf _ _ (by rw [qI z]; exact e)
     ·refine ⟨(I8.out b hb).1,?_⟩
      have:=(I8.out b hb).2
      rw [qI (oA b hb)] at this ⊢
      exact this
   rcases yy with ⟨e,dx⟩ | ⟨p,o,hp,e,dx⟩
   ·subst e
    exact fin G2 (qL.refl _) I4 dx
   ·subst e
    obtain ⟨I3,g3⟩:=I4.newG (o:=o) hp
    exact fin _ g3 I3 dx
  ·have e:i=xs.length:=by omega
   subst e
   refine .inl ⟨s2 rfl,?_⟩
   have gA:G2 A=none:=I4.gf _ _ qH
   have I5:SI G2 F2 ρ2 σ2 H2:=⟨I4.ok,I4.g,(fr1 ys).trans I4.f,fun b o e=>I4.gf _ _ (fr1 ys _ _ e),I4.nd,fun b hb=>⟨(I4.out b hb).1,(fr1 ys).free (I4.out b hb).2⟩,fun b us e=>I4.ft b us (fr1 ys _ _ e)⟩
   have ok5:jL G2 F2 ρ2 σ2 H2 (.l ds) (.ref A):=⟨A,_,rfl,hHA,⟨ys,rfl,dn⟩,gA,FA,fun hb=>by
    have:=(I4.out A hb).2
    rw [qH] at this
    cases this⟩
   have I6:=I5.sel (n:=fr.length) k2 h0 (uJ lv.symm)
   have ok6:=jL.sel (n:=fr.length) (d:=.lst ds) rfl ok5 k2 h0
   have es:sel own.length (bnd own fr) fr.length ρ2=ρ2.drop own.length:=qCy jl2
   rw [es,<- hF2] at I6 ok6
   have I7:=I.unfocus oks g2 I6
   have ok7:=jL.unfocus (d:=.lst ds) I oks rfl ok6
   exact q G2 H2 _ _ _ (en ds ρ2 p2) g2 I7 ok7
theorem qKU {own:List Str} {fr:List (Str×Nat)} {wi:TI} {g:TG} {tt:TT} {te:TE} {ρ:List Sl} {Φ:Rs->List Sl->Prop} (h:wpI wi ρ fun xs ρ1=>known ρ1 fr/\(isB (JM fr)).Nodup/\∃ Jv:Nat->List D->List Sl->Prop,Jv 0 [] (inner own fr ρ1)/\
  (∀ k ys ρc,Jv k ys ρc->ys.length<sizeLine/\ρc.length=own.length+fr.length)/\
  (∀ k x ys ρc,xs[k]? = some x->Jv k ys ρc->wpG (bnd own fr) g (.d x) ρc fun ρ2=>wpT tt ρ2 fun b ρ3=>if b=true then wpV te ρ3 fun r ρ4=>∃ d,r.it=some d/\Jv (k+1) (ys++[d]) ρ4 else Jv (k+1) ys ρ3)/\
  ∀ ys ρc,Jv xs.length ys ρc->Φ (.l ys) (outer own fr ρ1 ρc)):wpV (qFv own fr wi g tt te) ρ Φ:=by
 intro G F σ H I Q q
 refine h G F σ H I _ fun G1 H1 J xs ρ1 ⟨kn,nd,Jv,j0,jl,st,en⟩ g1 I1 S A hA=>?_
 refine qA3 I1 kn nd (fun i G' H' a b c=>S i G' H' a b ((Q0 I1).trans c)) Jv j0 jl st en (q.at g1 fun _ _ z=>z) A hA
theorem qG6 {own:List Str} {fr:List (Str×Nat)} {g:TG} {tt:TT} {te:TE} {ρ:List Sl} {Φ:Rs->List Sl->Prop} {K:wD} {s:Nat} {xs:List D} (hs:ρ[s]? = some (.l xs)) (hn:Rs.b s∉JM fr) (kn:known ρ fr) (nd:(isB (JM fr)).Nodup) (Jv:Nat->List D->List Sl->Prop) (j0:Jv 0 [] (inner own fr ρ))
  (jl:∀ k ys ρc,Jv k ys ρc->ys.length<sizeLine/\ρc.length=own.length+fr.length)
  (st:∀ k x ys ρc,xs[k]? = some x->Jv k ys ρc->wpG (bnd own fr) g (.d x) ρc fun ρ2=>wpT tt ρ2 fun b ρ3=>if b=true then wpV te ρ3 fun r ρ4=>∃ d,r.it=some d/\Jv (k+1) (ys++[d]) ρ4 else Jv (k+1) ys ρ3)
  (en:∀ ys ρc,Jv xs.length ys ρc->Φ (.l ys) (outer own fr ρ ρc)):wpV (qFv own fr (qJG K (qGD s)) g tt te) ρ Φ:=by
 intro G F σ H I Q q
 obtain ⟨o,e,a,_,rfl,k1,ws,rfl,k2⟩:=I.ok s _ hs
 have ka:kept ρ σ (JM fr) a:=⟨s,.li xs,hs,e,hn⟩
 refine ⟨_,e,a,rfl,.inl ⟨⟨ws,SqL.of k1⟩,fun A hA=>?_⟩⟩
 refine qA3 I kn nd (qCE (fun G' H' _ _ c=>SqL.of (c a _ (by rw [Qq ka]; exact k1))) k2) Jv j0 jl st en q A hA
noncomputable def qM9 (wi:TI) (ρ:List Sl) (Φ:List D->List Sl->Prop):Prop:=∀ G F σ H,SI G F ρ σ H->∀ R:It->Hp->Prop,(∀ G' H' J xs ρ',Φ xs ρ'->qL G G'->SI G' F ρ' σ H'->Src J G' (fun _=>none) xs->R J H')->wi σ H R
theorem qHf {ρ:List Sl} {Φ:List D->List Sl->Prop} {K:wD} {tl:TE} (h:wpV tl ρ fun r ρ1=>∃ d xs,r.it=some d/\sq d=some xs/\Φ xs ρ1):qM9 (qJG K tl) ρ Φ:=by
 intro G F σ H I R q
 refine h G F σ H I _ fun G0 H1 v x ρ1 ⟨d,xs,e1,e2,h1⟩ g0 I0 ok=>?_
 obtain ⟨G1,g1',I1,dn⟩:=qGE I0 ok e1
 have go:=fun J S=>q G1 H1 J xs ρ1 h1 (g0.trans g1') I1 S
 cases d with
 | tup l=>
  obtain ⟨a,ws,rfl,k1,k2⟩:=dn
  obtain rfl:l=xs:=zH e2
  exact ⟨a,rfl,.inr ⟨⟨ws,SqT.of (I1.g _ _ k1)⟩,go _ (qFy k1 k2)⟩⟩
 | lst l=>
  obtain ⟨a,ws,rfl,k1,k2⟩:=dn
  obtain rfl:l=xs:=zH e2
  exact ⟨a,rfl,.inl ⟨⟨ws,SqL.of (I1.g _ _ k1)⟩,go _ (qCE (fun G' H' g gh _=>SqL.of (gh _ _ (g _ _ k1))) k2)⟩⟩
 | non=>cases e2
 | bl _=>cases e2
 | int _=>cases e2
 | str _=>cases e2
 | dic=>cases e2
section
variable {G F H:Hp} {ρ:List Sl} {σ:St} {A:Addr}
theorem SI.begun (I:SI G F ρ σ H) (hA:H A=none):SI G (upd F A (.lst [])) ρ σ (upd H A (.lst [])):=by
 have I3:=I.new (o:=.lst []) hA
 refine ⟨I3.ok,I3.g,fun b o e=>?_,fun b o e=>?_,I3.nd,fun b hb=>⟨(I3.out b hb).1,?_⟩,fun b us e=>?_⟩
 ·by_cases z:b=A
  ·subst z; rw [qH] at e ⊢; exact e
  ·rw [qI z] at e; exact I3.f _ _ e
 ·by_cases z:b=A
  ·subst z; exact I.g.free hA
  ·rw [qI z] at e; exact I3.gf _ _ e
 ·have nb:b≠A:=fun z=>by
   subst z
   obtain ⟨i,zs,q1,q2⟩:=hb
   obtain ⟨o,p1,a,ws,z,p2,p3⟩:=I.ok i _ q1
   rw [q2] at p1
   cases p1
   cases z
   rw [hA] at p2
   cases p2
  rw [qI nb]
  exact (I3.out b hb).2
 ·by_cases z:b=A
  ·rw [z,qH] at e; cases e
  ·rw [qI z] at e; exact I3.ft b us e
theorem SI.longer {ys:List V} {y:V} (I:SI G (upd F A (.lst ys)) ρ σ H):SI G (upd F A (.lst (ys++[y]))) ρ σ (upd H A (.lst (ys++[y]))):=by
 have gA:G A=none:=I.gf _ _ qH
 have oA:∀ b,qKh ρ σ b->b≠A:=fun b hb z=>by
  subst z
  have:=(I.out b hb).2
  rw [qH] at this
  cases this
 have far:∀{b:Addr} {o:HO},b≠A->upd F A (.lst (ys++[y])) b=some o->upd F A (.lst ys) b=some o:=fun z e=>by rw [qI z] at e ⊢; exact e
 refine ⟨fun j s e=>?_,fun b o e=>?_,fun b o e=>?_,fun b o e=>?_,I.nd,fun b hb=>⟨(I.out b hb).1,?_⟩,fun b us e=>?_⟩
 ·obtain ⟨o,q1,q2⟩:=I.ok j s e
  refine ⟨o,q1,q2.up (qL.refl _) fun us a ws z1 z2 z3=>?_⟩
  subst z1 z2
  rw [qI (oA a ⟨j,us,e,q1⟩)]
  exact z3
 ·rw [qI fun z=>by subst z; rw [gA] at e; cases e]
  exact I.g _ _ e
 ·by_cases z:b=A
  ·subst z; rw [qH] at e ⊢; exact e
  ·rw [qI z]; exact I.f _ _ (far z e)
 ·by_cases z:b=A
  ·subst z; exact gA
  ·exact I.gf _ _ (far z e)
 ·have:=(I.out b hb).2
  rw [qI (oA b hb)] at this ⊢
  exact this
 ·by_cases z:b=A
  ·rw [z,qH] at e; cases e
  ·exact I.ft b us (far z e)
end
theorem qKr {own:List Str} {fr:List (Str×Nat)} {wi:TI} {g:TG} {tt:TT} {wi1:TI} {g1:TG} {tt1:TT} {te:TE} {ρ:List Sl} {Φ:Rs->List Sl->Prop} (h:wpI wi ρ fun xs ρ1=>known ρ1 fr/\(isB (JM fr)).Nodup/\∃ Jv:Nat->List D->List Sl->Prop,Jv 0 [] (inner own fr ρ1)/\
  (∀ k ys ρc,Jv k ys ρc->ρc.length=own.length+fr.length)/\
  (∀ k x ys ρc,xs[k]? = some x->Jv k ys ρc->wpG (bnd own fr) g (.d x) ρc fun ρ2=>wpT tt ρ2 fun b ρ3=>if b=true then qM9 wi1 ρ3 fun us ρ4=>∃ Lv:Nat->List D->List Sl->Prop,Lv 0 ys ρ4/\(∀ j ys ρc,Lv j ys ρc->ys.length<sizeLine)/\
    (∀ j u ys ρc,us[j]? = some u->Lv j ys ρc->wpG (bnd own fr) g1 (.d u) ρc fun ρ5=>wpT tt1 ρ5 fun b ρ6=>if b=true then wpV te ρ6 fun r ρ7=>∃ d,r.it=some d/\Lv (j+1) (ys++[d]) ρ7 else Lv (j+1) ys ρ6)/\
    ∀ ys ρc,Lv us.length ys ρc->Jv (k+1) ys ρc
   else Jv (k+1) ys ρ3)/\
  ∀ ys ρc,Jv xs.length ys ρc->Φ (.l ys) (outer own fr ρ1 ρc)):wpV (qMt own fr wi g tt wi1 g1 tt1 te) ρ Φ:=by
 intro G F σ H I Q q
 refine h G F σ H I _ fun G1 H1 J xs ρ1 ⟨kn,nd,Jv,j0,jl,st,en⟩ gg1 I1 S A hA=>?_
 obtain ⟨vs,oks,ev⟩:=qB4 I1 kn
 have If:=I1.focus oks nd
 have lv:vs.length=fr.length:=by rw [oks.len]; unfold JM; rw [wB]
 have as_eq:(JM fr).map (qGM ρ1)=fr.map fun p=>(ρ1[p.2]?).getD .u:=by unfold JM; rw [yB]; rfl
 rw [as_eq] at If
 have I2:=If.ext own.length 0 (by rw [wB,lv])
 have e1:(wO own.length Sl.u++((fr.map fun p=>(ρ1[p.2]?).getD .u)++wO 0 Sl.u))=inner own fr ρ1:=by unfold inner; rw [yT,zI]
 have e2:(wO own.length none++(vs.map some++wO 0 none))=qk own fr σ:=by
  unfold qk
  rw [yT,zI,ev]
  congr 1
  rw [List.map_const']
 rw [e1,e2] at I2
 have S2:Src J G1 (foc H1 F ρ1 σ (JM fr)) xs:=fun i G' H' a b c=>S i G' H' a b ((Q0 I1).trans c)
 generalize hF2:foc H1 F ρ1 σ (JM fr)=F2 at S2 If I2
 have FA:F2 A=none:=If.f.free hA
 have h0:∀(j:Nat) (v:V),vs[j]? = some v->(qk own fr σ)[own.length+j]? = some (some v):=fun j v e=>by
  rw [<- e2,zO (by rw [zG]; omega),zG,xY,yT,zI,wQ,e]
  rfl
 have fr1:∀ ys,qL F2 (upd F2 A (.lst ys)):=fun ys=>qL.new FA
 refine ⟨fun i m ys σ' H'=>m=xs.length - i/\i<=xs.length/\∃ G' ds ρc,Jv i ds ρc/\qL G1 G'/\Kp (bnd own fr) (qk own fr σ) σ'/\SI G' (upd F2 A (.lst ys)) ρc σ' H'/\qR G' ds ys,⟨xs.length,by simp,zV _,G1,[],_,j0,qL.refl _,Kp.refl _ _,I2.begun hA,rfl⟩,?_⟩
 rintro i m ys σ2 H2 ⟨rfl,hi,G2,ds,ρ2,p2,g2,k2,I4,dn⟩
 have hHA:H2 A=some (.lst ys):=I4.f _ _ qH
 refine ⟨hHA,?_⟩
 obtain ⟨s1,s2⟩:=S2 i G2 H2 g2 I4.g ((fr1 ys).trans I4.f)
 by_cases hlt:i<xs.length
 ·obtain ⟨go,yl⟩:=s1 hlt
  refine .inr ⟨go,fun ys' σ' H'=>∃ G' ds ρc,Jv (i+1) ds ρc/\qL G1 G'/\Kp (bnd own fr) (qk own fr σ) σ'/\SI G' (upd F2 A (.lst ys')) ρc σ' H'/\qR G' ds ys',fun ys' σ' H' p'=>⟨xs.length - (i+1),by omega,rfl,hlt,p'⟩,fun x H' y=>?_⟩
  obtain ⟨d,ed,yy⟩:=yl x H' y
  have fin:∀ G3,qL G2 G3->SI G3 (upd F2 A (.lst ys)) ρ2 σ2 H'->Den G3 d x->g x σ2 H' fun σ4 H4=>tt σ4 H4 fun b H5=>if b=true then qEm wi1 g1 tt1 te A ys σ4 H5 (fun ys' σ' H'=>∃ G' ds ρc,Jv (i+1) ds ρc/\qL G1 G'/\Kp (bnd own fr) (qk own fr σ) σ'/\SI G' (upd F2 A (.lst ys')) ρc σ' H'/\qR G' ds ys')
    else ∃ G' ds ρc,Jv (i+1) ds ρc/\qL G1 G'/\Kp (bnd own fr) (qk own fr σ) σ4/\SI G' (upd F2 A (.lst ys)) ρc σ4 H5/\qR G' ds ys:=fun G3 g3 I3 dx=>by
   refine st i d ds ρ2 ed p2 G3 (upd F2 A (.lst ys)) σ2 H' x I3 dx _ ?_
   intro G4 σ4 H4 ρ4 h4 g4 k4 I5
   refine h4 G4 _ σ4 H4 I5 _ fun G5 H5 b ρ5 h5 g5 I6=>?_
   have gg:=((g2.trans g3).trans g4).trans g5
   have dn5:=qR.mono ((g3.trans g4).trans g5) _ _ dn
   cases b with
   | false=>
    rw [if_neg wR] at h5 ⊢
    exact ⟨G5,ds,ρ5,h5,gg,k2.trans k4,I6,dn5⟩
   | true=>
    rw [if_pos rfl] at h5 ⊢
    refine h5 G5 _ σ4 H5 I6 _ fun G6 H6 J1 us ρ6 ⟨Lv,l0,ll,ls,le⟩ g6 I7 T=>?_
    refine ⟨fun j m zs σ' H'=>m=us.length - j/\j<=us.length/\∃ G' es ρc,Lv j es ρc/\qL G6 G'/\Kp (bnd own fr) (qk own fr σ) σ'/\SI G' (upd F2 A (.lst zs)) ρc σ' H'/\qR G' es zs,⟨us.length,by simp,zV _,G6,ds,ρ6,l0,qL.refl _,k2.trans k4,I7,qR.mono g6 _ _ dn5⟩,?_⟩
    rintro j m zs σ7 H7 ⟨rfl,hj,G7,es,ρ7,p7,g7,k7,I8,dn7⟩
    refine ⟨I8.f _ _ qH,?_⟩
    obtain ⟨t1,t2⟩:=T j G7 H7 g7 I8.g fun _ _ e=>by cases e
    by_cases hlj:j<us.length
    ·obtain ⟨go',yl'⟩:=t1 hlj
     refine .inr ⟨go',by rw [dn7.length]; exact ll j es ρ7 p7,fun zs' σ' H'=>∃ G' es ρc,Lv (j+1) es ρc/\qL G6 G'/\Kp (bnd own fr) (qk own fr σ) σ'/\SI G' (upd F2 A (.lst zs')) ρc σ' H'/\qR G' es zs',fun zs' σ' H' p'=>⟨us.length - (j+1),by omega,rfl,hlj,p'⟩,fun x H' y=>?_⟩
     obtain ⟨d',ed',yy'⟩:=yl' x H' y
     have fin':∀ G8,qL G7 G8->SI G8 (upd F2 A (.lst zs)) ρ7 σ7 H'->Den G8 d' x->g1 x σ7 H' fun σ8 H8=>tt1 σ8 H8 fun b H9=>if b=true then te σ8 H9 fun y H10=>H10 A=some (.lst zs)/\∃ G' es ρc,Lv (j+1) es ρc/\qL G6 G'/\Kp (bnd own fr) (qk own fr σ) σ8/\SI G' (upd F2 A (.lst (zs++[y]))) ρc σ8 (upd H10 A (.lst (zs++[y])))/\qR G' es (zs++[y])
       else ∃ G' es ρc,Lv (j+1) es ρc/\qL G6 G'/\Kp (bnd own fr) (qk own fr σ) σ8/\SI G' (upd F2 A (.lst zs)) ρc σ8 H9/\qR G' es zs:=fun G8 g8 I9 dx=>by
      refine ls j d' es ρ7 ed' p7 G8 _ σ7 H' x I9 dx _ ?_
      intro G9 σ9 H9 ρ9 h9 g9 k9 I10
      refine h9 G9 _ σ9 H9 I10 _ fun G10 H10 b ρ10 h10 g10 I11=>?_
      have g':=(g8.trans g9).trans g10
      cases b with
      | false=>
       rw [if_neg wR] at h10 ⊢
       exact ⟨G10,es,ρ10,h10,g7.trans g',k7.trans k9,I11,qR.mono g' _ _ dn7⟩
      | true=>
       rw [if_pos rfl] at h10 ⊢
       refine h10 G10 _ σ9 H10 I11 _ fun G11 H11 y r ρ11 ⟨d2,ed2,h11⟩ g11 I12 ok=>?_
       obtain ⟨G12,g12,I13,dy⟩:=qGE I12 ok ed2
       have g3':=g'.trans (g11.trans g12)
       exact ⟨I13.f _ _ qH,G12,es++[d2],ρ11,h11,g7.trans g3',k7.trans k9,I13.longer,qR.snoc (qR.mono g3' _ _ dn7) dy⟩
     rcases yy' with ⟨e,dx⟩ | ⟨p,o,hp,e,dx⟩
     ·subst e
      exact fin' G7 (qL.refl _) I8 dx
     ·subst e
      obtain ⟨I9,g9⟩:=I8.newG (o:=o) hp
      exact fin' _ g9 I9 dx
    ·have e:j=us.length:=by omega
     subst e
     exact .inl ⟨t2 rfl,G7,es,ρ7,le es ρ7 p7,(gg.trans g6).trans g7,k7,I8,dn7⟩
  rcases yy with ⟨e,dx⟩ | ⟨p,o,hp,e,dx⟩
  ·subst e
   exact fin G2 (qL.refl _) I4 dx
  ·subst e
   obtain ⟨I3,g3⟩:=I4.newG (o:=o) hp
   exact fin _ g3 I3 dx
 ·have e:i=xs.length:=by omega
  subst e
  refine .inl ⟨s2 rfl,?_⟩
  have gA:G2 A=none:=I4.gf _ _ qH
  have I5:SI G2 F2 ρ2 σ2 H2:=⟨I4.ok,I4.g,(fr1 ys).trans I4.f,fun b o e=>I4.gf _ _ (fr1 ys _ _ e),I4.nd,fun b hb=>⟨(I4.out b hb).1,(fr1 ys).free (I4.out b hb).2⟩,fun b us e=>I4.ft b us (fr1 ys _ _ e)⟩
  have ok5:jL G2 F2 ρ2 σ2 H2 (.l ds) (.ref A):=⟨A,_,rfl,hHA,⟨ys,rfl,dn⟩,gA,FA,fun hb=>by
   have:=(I4.out A hb).2
   rw [qH] at this
   cases this⟩
  have I6:=I5.sel (n:=fr.length) k2 h0 (uJ lv.symm)
  have ok6:=jL.sel (n:=fr.length) (d:=.lst ds) rfl ok5 k2 h0
  have es:sel own.length (bnd own fr) fr.length ρ2=ρ2.drop own.length:=qCy (jl _ _ _ p2)
  rw [es,<- hF2] at I6 ok6
  have I7:=I1.unfocus oks g2 I6
  have ok7:=jL.unfocus (d:=.lst ds) I1 oks rfl ok6
  exact (q.at gg1 fun _ _ z=>z) G2 H2 _ _ _ (en ds ρ2 p2) g2 I7 ok7
section
variable {ρ:List Sl} {Φ:Rs->List Sl->Prop} {K:wD} {t:TA} {i:Nat} {xs:List D} {rL rT:V->List V->Hp->VK->Prop} {to:TE}
theorem qAv {H:Hp}:∀{xs:List D} {vs:List V} (n:Nat),qR H xs vs->qR H (xs.take n) (vs.take n)
 | xs,vs,0,h=>by rw [uO,uO]; exact rfl
 | [],vs,n+1,h=>by cases (show vs=[] from h); exact rfl
 | x::xs,vs,n+1,h=>by
  obtain ⟨w,r,rfl,h1,h2⟩:=h
  exact ⟨w,r.take n,rfl,h1,qAv n h2⟩
theorem qBZ {H:Hp}:∀{xs:List D} {vs:List V} (n:Nat),qR H xs vs->qR H (xs.drop n) (vs.drop n)
 | xs,vs,0,h=>h
 | [],vs,n+1,h=>by cases (show vs=[] from h); exact rfl
 | x::xs,vs,n+1,h=>by
  obtain ⟨w,r,rfl,h1,h2⟩:=h
  exact qBZ n h2
theorem qJI {ta:TA} (h:wpA ta ρ fun rs ρ1=>∃ j:Int,(∃ r,rs=[r]/\rd ρ1 r=some (.int j))/\j<=1000/\-(2 ^ 62)<=j/\Φ (.l ((zA j.toNat).map fun k:Nat=>D.int k)) ρ1):wpV (tCB qCr (qJZ (tCB qFm ta) qMw)) ρ Φ:=by
 intro G F σ H I Q q
 refine h G F σ H I _ fun G1 H1 vs rs ρ1 ⟨j,⟨x,er,ex⟩,l1,l2,h1⟩ g1 I1 oks=>?_
 subst er
 obtain ⟨v,rfl,ok⟩:=jy oks
 cases qQ I1 ok ex
 refine ⟨j,rfl,fun p hp=>⟨p,j,rfl,qH,l1,l2,fun l hl=>?_⟩⟩
 have I2:=I1.new (o:=.rng 0 j) hp
 refine jk (q.at g1 fun _ _ z=>z) I2 ?_ h1 hl
 have e1:((zA j.toNat).map fun k:Nat=>D.int k)=((zA j.toNat).map fun k:Nat=>(k:Int)).map D.int:=by rw [yB]; rfl
 have e2:((zA j.toNat).map fun k:Nat=>V.int k)=((zA j.toNat).map fun k:Nat=>(k:Int)).map V.int:=by rw [yB]; rfl
 rw [e1,e2]
 exact qR.ints _ _
noncomputable def wpO (to:TO) (ρ:List Sl) (Φ:Option Int->List Sl->Prop):Prop:=∀ G F σ H,SI G F ρ σ H->∀ Q:Option Int->Hp->Prop,(∀ G' H' o ρ',Φ o ρ'->qL G G'->SI G' F ρ' σ H'->Q o H')->to σ H Q
theorem qLQ {Φ:Option Int->List Sl->Prop} (h:Φ none ρ):wpO qEy ρ Φ:=fun G F σ H I Q q=>q G H none ρ h (qL.refl _) I
theorem qKv {Φ:Option Int->List Sl->Prop} {te:TE} (h:wpV te ρ fun r ρ1=>∃ i,rd ρ1 r=some (.int i)/\Φ (some i) ρ1):wpO (qKV te) ρ Φ:=fun G F σ H I Q q=>
 h G F σ H I _ fun G1 H1 v r ρ1 ⟨i,e,h1⟩ g1 I1 ok=>⟨i,qQ I1 ok e,q G1 H1 (some i) ρ1 h1 g1 I1⟩
noncomputable def cutD (xs:List D) (lo hi:Option Int):List D:=(xs.drop (HT.sIx xs.length 0 lo)).take (HT.sIx xs.length xs.length hi - HT.sIx xs.length 0 lo)
theorem qC0 {H:Hp} {xs:List D} {vs:List V} {lo hi:Option Int} (h:qR H xs vs):qR H (cutD xs lo hi) (qG4 vs lo hi):=by
 unfold cutD qG4
 rw [h.length]
 exact qAv _ (qBZ _ h)
noncomputable def SlV (r:V->Option Int->Option Int->Hp->VK->Prop) (x:Rs) (lo hi:Option Int) (ρ:List Sl) (Φ:Rs->List Sl->Prop):Prop:=∀ G F σ H v,SI G F ρ σ H->jL G F ρ σ H x v->∀ Q:VK,Fin G F σ Φ Q->r v lo hi H Q
theorem qNs {r:V->Option Int->Option Int->Hp->VK->Prop} {te:TE} {tl th:TO} (h:wpV te ρ fun x ρ1=>wpO tl ρ1 fun lo ρ2=>wpO th ρ2 fun hi ρ3=>SlV r x lo hi ρ3 Φ):wpV (tSl r te tl th) ρ Φ:=by
 intro G F σ H I Q q
 refine h G F σ H I _ fun G1 H1 v x ρ1 h1 g1 I1 ok1=>?_
 refine h1 G1 (hold x v H1 F) σ H1 (I1.held ok1) _ fun G2 H2 lo ρ2 h2 g2 I2=>?_
 refine h2 G2 _ σ H2 I2 _ fun G3 H3 hi ρ3 h3 g3 I3=>?_
 obtain ⟨I4,ok4⟩:=SI.freed ok1 (g2.trans g3) I3
 exact h3 G3 F σ H3 v I4 ok4 Q (q.at ((g1.trans g2).trans g3) fun _ _ z=>z)
theorem qNu {x:Rs} {lo hi:Option Int} (hx:rd ρ x=some (.lst xs)) (h:Φ (.l (cutD xs lo hi)) ρ):SlV (qLv K) x lo hi ρ Φ:=fun G F σ H v I ok Q q=>by
 obtain ⟨a,ws,rfl,s1,d1⟩:=jT (K:=K) I ok hx
 exact ⟨a,ws,rfl,s1,fun p hp=>jk q I (qC0 d1) h hp⟩
end
noncomputable def qD3 (fr:List (Str×Nat)) (ρ:List Sl):List Sl:=fr.map fun p=>(ρ[p.2]?).getD .u
theorem set_same {ρ:List Sl} {i:Nat} {s:Sl} (h:ρ[i]? = some s):ρ.set i s=ρ:=by
 apply kY
 intro j
 rw [zC]
 by_cases z:i=j
 ·subst z
  rw [if_pos rfl,if_pos (wM.mp h).1,h]
 ·rw [if_neg z]
theorem Y9:∀(fr:List (Str×Nat)) (ρ:List Sl),wb ρ (JM fr) (qD3 fr ρ)=ρ
 | [],ρ=>rfl
 | p::fr,ρ=>by
  show (match ρ[p.2]? with | some (.o _)=>wb (ρ.set p.2 ((qD3 (p::fr) ρ).headD .u)) (JM fr) (qD3 (p::fr) ρ).tail | _=>wb ρ (JM fr) (qD3 (p::fr) ρ).tail)=ρ
  have e:(qD3 (p::fr) ρ).tail=qD3 fr ρ:=rfl
  rw [e]
  cases h:ρ[p.2]? with
  | none=>exact Y9 fr ρ
  | some s=>
   cases s with
   | o xs=>
    have e2:(qD3 (p::fr) ρ).headD .u=.o xs:=by
     show (ρ[p.2]?).getD .u=_
     rw [h]; rfl
    rw [e2,set_same h]
    exact Y9 fr ρ
   | _=>exact Y9 fr ρ
theorem Y0 {own:List Str} {fr:List (Str×Nat)} {ρ os:List Sl} (h:os.length=own.length):outer own fr ρ (os++qD3 fr ρ)=ρ:=by
 unfold outer
 rw [<- h,List.drop_left]
 exact Y9 fr ρ
section
variable {α:Type} {own:List Str} {fr:List (Str×Nat)} {g:TG} {tt:TT} {te:TE} {ρ:List Sl} {Φ:Rs->List Sl->Prop}
noncomputable def qJL (own:List Str) (fr:List (Str×Nat)) (g:TG) (tt:TT) (te:TE) (ρ:List Sl) (x:D) (b:Bool) (d:D):Prop:=∀ os:List Sl,os.length=own.length->wpG (bnd own fr) g (.d x) (os++qD3 fr ρ) fun ρ2=>
 (∃ os',os'.length=own.length/\ρ2=os'++qD3 fr ρ)/\wpT tt ρ2 (fun c ρ3=>c=b/\ρ3=ρ2)/\(b=true->wpV te ρ2 fun r ρ4=>r.it=some d/\ρ4=ρ2)
theorem wpG.mono {B:List Nat} {g:TG} {r:Rs} {ρ:List Sl} {Φ Ψ:List Sl->Prop} (h:wpG B g r ρ Φ) (e:∀ ρ',Φ ρ'->Ψ ρ'):wpG B g r ρ Ψ:=fun G F σ H v I ok N n=>h G F σ H v I ok N fun G1 σ1 H1 ρ1 p g1 k1 I1=>n G1 σ1 H1 ρ1 (e _ p) g1 k1 I1
noncomputable def qD0 (own:List Str) (fr:List (Str×Nat)) (ρ:List Sl) (l:List α) (p:α->Bool) (f:α->D):Nat->List D->List Sl->Prop:=fun k ys ρc=>ys=(((l.take k).filter p).map f)/\∃ os,os.length=own.length/\ρc=os++qD3 fr ρ
theorem qBp {enc:α->D} {l:List α} {p:α->Bool} {f:α->D} (st:∀ a∈l,qJL own fr g tt te ρ (enc a) (p a) (f a)):∀ k x ys ρc,(l.map enc)[k]? = some x->qD0 own fr ρ l p f k ys ρc->wpG (bnd own fr) g (.d x) ρc fun ρ2=>wpT tt ρ2 fun b ρ3=>if b=true then wpV te ρ3 fun r ρ4=>∃ d,r.it=some d/\qD0 own fr ρ l p f (k+1) (ys++[d]) ρ4 else qD0 own fr ρ l p f (k+1) ys ρ3:=by
 rintro k x ys ρc hx ⟨rfl,os,ho,rfl⟩
 rw [wQ] at hx
 cases ha:l[k]? with
 | none=>rw [ha] at hx; cases hx
 | some a=>
  rw [ha] at hx
  have hx':enc a=x:=zH hx
  subst hx'
  refine (st a (yD ha) os ho).mono ?_
  rintro ρ2 ⟨⟨os',ho',rfl⟩,h1,h2⟩
  refine h1.mono ?_
  rintro c ρ3 ⟨rfl,rfl⟩
  have et:(l.take (k+1)).filter p=(l.take k).filter p++if p a=true then [a] else []:=by
   rw [kA,ha,List.filter_append]
   congr 1
   cases hpa:p a <;> simp [hpa]
  cases hp:p a with
  | true=>
   rw [if_pos rfl]
   refine (h2 hp).mono ?_
   rintro r ρ4 ⟨e1,rfl⟩
   refine ⟨_,e1,?_,os',ho',rfl⟩
   rw [et,if_pos hp,yJ]
   rfl
  | false=>
   rw [if_neg wR]; refine ⟨?_,os',ho',rfl⟩
   rw [et,hp,if_neg wR,zI]
theorem qDO {l:List α} {p:α->Bool} {f:α->D} (hl:l.length<sizeLine):∀ k ys ρc,qD0 own fr ρ l p f k ys ρc->ys.length<sizeLine/\ρc.length=own.length+fr.length:=by
 rintro k ys ρc ⟨rfl,os,ho,rfl⟩
 constructor
 ·rw [wB]
  refine zQ (vK _ _) ?_
  rw [zP]
  omega
 ·rw [wV,ho]
  unfold qD3
  rw [wB]
theorem Yj {wi:TI} (enc:α->D) (l:List α) (p:α->Bool) (f:α->D) (h:wpI wi ρ fun xs ρ1=>xs=l.map enc/\l.length<sizeLine/\known ρ1 fr/\(isB (JM fr)).Nodup/\(∀ a∈l,qJL own fr g tt te ρ1 (enc a) (p a) (f a))/\Φ (.l ((l.filter p).map f)) ρ1):wpV (qFv own fr wi g tt te) ρ Φ:=by
 refine qKU fun G F σ H I R q=>h G F σ H I R fun G1 H1 J xs ρ1 ⟨e,hl,kn,nd,st,fin⟩ g1 I1 S=>q G1 H1 J xs ρ1 ?_ g1 I1 S
 subst e
 refine ⟨kn,nd,qD0 own fr ρ1 l p f,⟨rfl,_,zG,rfl⟩,qDO hl,qBp st,?_⟩
 rintro ys ρc ⟨rfl,os,ho,rfl⟩
 rw [Y0 ho,wB,yO]
 exact fin
theorem qCG {K:wD} {s:Nat} (enc:α->D) (l:List α) (p:α->Bool) (f:α->D) (hs:ρ[s]? = some (.l (l.map enc))) (hn:(isB (JM fr)).contains s=false) (hl:l.length<sizeLine) (kn:known ρ fr) (nd:(isB (JM fr)).Nodup) (st:∀ a∈l,qJL own fr g tt te ρ (enc a) (p a) (f a)) (fin:Φ (.l ((l.filter p).map f)) ρ):wpV (qFv own fr (qJG K (qGD s)) g tt te) ρ Φ:=by
 have hn':Rs.b s∉JM fr:=fun z=>by
  rw [hG,decide_eq_false_iff_not] at hn
  exact hn (Qc.mpr z)
 refine qG6 hs hn' kn nd (qD0 own fr ρ l p f) ⟨rfl,_,zG,rfl⟩ (qDO hl) (qBp st) ?_
 rintro ys ρc ⟨rfl,os,ho,rfl⟩
 rw [Y0 ho,wB,yO]
 exact fin
theorem jo {l:List α}:l.filter (fun _=>true)=l:=List.filter_eq_self.mpr fun _ _=>rfl
theorem qKP {os:List Sl} (h:os.length=1):∃ a,os=[a]:=List.length_eq_one_iff.mp h
theorem qN3 {k:Nat}:∀{os:List Sl},os.length=k+1->∃ a r,os=a::r/\r.length=k
 | a::r,h=>⟨a,r,rfl,VQ h⟩
theorem qKF {os:List Sl} (h:os.length=2):∃ a b,os=[a,b]:=(qN3 h).elim fun a e=>e.elim fun _ g=>(qKP g.2).elim fun b z=>⟨a,b,g.1.trans (congrArg _ z)⟩
end
theorem qM5 {B:List Nat} {ρ:List Sl} {r:Rs} {to ti:TE} {Φ:List Sl->Prop} (h:∃ d,r.it=some d/\wpV to ρ fun o ρ2=>∃ i,o=.b i/\wpV ti ρ2 fun ix ρ3=>∃ k j xs,rd ρ3 ix=some (.int k)/\ρ3[i]? = some (.l xs)/\ixN xs.length k=some j/\Φ (ρ3.set i (.l (xs.set j d)))):wpG B (qMX to ti qJs) r ρ Φ:=by
 intro G F σ H v I ok N n
 obtain ⟨d,ed,h1⟩:=h
 obtain ⟨G1',g1',I1',dn⟩:=qGE I ok ed
 refine h1 G1' F σ H I1' _ fun G2 H2 w o ρ2 ⟨i,eo,h2⟩ g2 I2 ok2=>?_
 subst eo
 refine h2 G2 F σ H2 I2 _ fun G3 H3 z ix ρ3 ⟨k,j,xs,e1,e2,e3,h3⟩ g3 I3 ok3=>?_
 obtain ⟨o',e4,a,_,e5,h4,vs,rfl,h5⟩:=I3.ok i _ e2
 have ok2':σ[i]? = some (some w):=ok2
 rw [ok2'] at e4
 cases e4
 cases e5
 refine ⟨a,vs,k,j,rfl,qQ I3 ok3 e1,h4,by rw [h5.length]; exact e3,?_⟩
 exact n G3 σ _ _ h3 ((g1'.trans g2).trans g3) (Kp.refl _ _) (I3.put e2 ok2 (qAV j h5 (Den.mono (g2.trans g3) _ _ dn)))
noncomputable def qKI (ρ:List Sl) (fr:List (Str×Nat)):Bool:=fr.all fun p=>match ρ[p.2]? with | some .u=>false | some _=>true | none=>false
theorem jE {ρ:List Sl} {fr:List (Str×Nat)} (h:qKI ρ fr=true):known ρ fr:=fun p hp=>by
 have q:=(VZ.mp h) p hp
 cases e:ρ[p.2]? with
 | none=>rw [e] at q; cases q
 | some s=>
  rw [e] at q
  cases s with
  | u=>cases q
  | d x=>exact ⟨_,rfl,by intro z; cases z⟩
  | o x=>exact ⟨_,rfl,by intro z; cases z⟩
  | f _ x=>exact ⟨_,rfl,by intro z; cases z⟩
theorem szl {n:Nat} (h:n<=1000):n<=sizeLine:=xU (qP h)
theorem qAa {α:Type} {f:α->D} {k:Nat} (h:∀ a,jN (f a)<=k):∀ l:List α,qK (l.map f)<=k
 | []=>zV _
 | a::l=>by
  show max (jN (f a)) (qK (l.map f))<=k
  have:=h a
  have:=qAa h l
  omega
theorem qIl {α:Type} [DecidableEq α] {f:α->D} (h:∀ a b,dEq (f a) (f b)=decide (a=b)) (a:α) (l:List α):dIn (f a) (l.map f)=decide (a∈l):=by
 unfold dIn
 rw [vZ,UB,decide_eq_true_iff]
 constructor
 ·rintro ⟨e,he,q⟩
  obtain ⟨b,hb,rfl⟩:=zD.mp he
  rw [h,decide_eq_true_iff] at q
  exact q ▸ hb
 ·intro m
  exact ⟨f a,zD.mpr ⟨a,m,rfl⟩,qCt _⟩
theorem qJJ (a b:Int):dEq (.int a) (.int b)=decide (a=b):=by simp [dEq,Bool.beq_eq_decide_eq]
theorem qF9 (q:Int) (fs:List Int):dIn (.int q) (fs.map D.int)=decide (q∈fs):=qIl qJJ q fs
theorem Jx (ns:List Int):qK (ns.map D.int)<=50:=zK (qAa (f:=D.int) (k:=0) (fun a=>wF _) ns) (by decide)
section
variable {ρ:List Sl} {Φ:Rs->List Sl->Prop} {x y:Rs} {K:wD}
theorem qMW {q:Int} {fs:List Int} (hx:rdE ρ x=some (.int q)) (hy:rdE ρ y=some (.lst (fs.map D.int))) (h:Φ (.d (.bl (decide (q∈fs)))) ρ):OpV (qJ2 false) x y ρ Φ:=by
 refine qND hx hy (Jx _) ?_
 rw [if_neg wR,qF9]
 exact h
theorem qLc {q:Int} {fs:List Int} (hx:rdE ρ x=some (.int q)) (hy:rdE ρ y=some (.lst (fs.map D.int))) (h:Φ (.d (.bl (!decide (q∈fs)))) ρ):OpV (qJ2 true) x y ρ Φ:=by
 refine qND hx hy (Jx _) ?_
 rw [if_pos rfl,qF9]
 exact h
theorem qCu (l:List D):Qr l []=l.isEmpty:=by cases l <;> simp [Qr]
theorem qJ8 {l:List D} (hx:rdE ρ x=some (.lst l)) (hy:rdE ρ y=some (.lst [])) (hd:qK l<=50) (h:Φ (.d (.bl l.isEmpty)) ρ):OpV (fun x y H Q=>rEq x y H Q\/qIH false x y H Q) x y ρ Φ:=by
 refine OpV.r (qIf hx hy hd ?_)
 rw [if_neg wR,qCu]
 exact h
theorem qJS {l:List D} (hx:rdE ρ x=some (.lst l)) (hy:rdE ρ y=some (.lst [])) (hd:qK l<=50) (h:Φ (.d (.bl !l.isEmpty)) ρ):OpV (fun x y H Q=>rNe x y H Q\/qIH true x y H Q) x y ρ Φ:=by
 refine OpV.r (qIf hx hy hd ?_)
 rw [if_pos rfl,qCu]
 exact h
end
section
variable {ρ:List Sl} {Φ:Rs->List Sl->Prop} {ta tb tc td:TE} {r r' r'':R2}
noncomputable abbrev IsD (d:D) (ρ:List Sl):Rs->List Sl->Prop:=fun x ρ1=>x=.d d/\ρ1=ρ
end
theorem qw {B:List Nat} {t u:TS} {ρ:List Sl} {Ψ:VE} (M:List Sl->Prop) (h1:wpS B t ρ { Ψ with nx:=M }) (h2:∀ ρ1,M ρ1->wpS B u ρ1 Ψ):wpS B (Qg t u) ρ Ψ:=by
 refine Ya ?_
 intro G F σ H I D n r b ct
 refine h1 G F σ H I D ?_ r b ct
 intro G1 σ1 H1 ρ1 m g1 k1 I1
 exact n G1 σ1 H1 ρ1 (h2 ρ1 m) g1 k1 I1
noncomputable def qF8 (K:wD):Sp:=fun vs H Q _=>∃(a:Addr) (ns:List Int),vs=[.ref a]/\SqL K H a (ns.map V.int)/\ns.length<=63/\∀ H',Q (.bl true) H'
theorem qKE {P:Program} {w:World} {K:wD} {mg:Str->Option Value} {base:Heap} {qual:Str} {x:Str} {st:Stmt} {f:Addr} {fd:FuncData} {N:List Str} {k:Nat} (F:Fun K x qual st f fd) (S:qb N ["script"] (qJ st))
  (hbody:∀(cdv:Value) (A:Around) (outer:List Env) (s:Shared) (H:Hp) (E:XK),Yd k (A.deeper (WU qual (qJ st) s.heap.objs.size f cdv))->
   ∃ t,PSs (qD8 CX0 P w K mg base N qual (qJ st) f cdv A outer s H E).nox (jd st) t/\
    ∀ ns:List Int,ns.length<=63->wpS [0] t (.f K (ns.map D.int)::wO (N.length - 1) .u) { nx:=fun _=>False,rt:=fun r _=>r=.d (.bl true) }) :
  j7 P w K mg base CX0 (k+1) f fd ["script"] (qF8 K):=by
 refine F.ok S (fun vs H Q E h=>?_) fun cdv A outer s H vs Q E hr h=>?_
 ·obtain ⟨a,ns,rfl,_⟩:=h
  rfl
 ·obtain ⟨t,ht,hw⟩:=hbody cdv A outer s H E hr
  refine ⟨t,ht,?_⟩
  obtain ⟨a,ns,rfl,hS,hl,fin⟩:=h
  have I:SI H (fun _=>none) [.f K (ns.map D.int)] ([V.ref a].map some) H:=by
   refine ⟨fun i s e=>?_,qL.refl _,fun b o e=>(nomatch e),fun b o e=>(nomatch e),fun i j b xs ys h1=>?_,fun b ⟨i,xs,h1,_⟩=>?_,fun b xs e=>(nomatch e)⟩
   ·cases i with
    | zero=>
     cases e
     exact ⟨_,rfl,a,_,rfl,hS,qR.ints _ _⟩
    | succ i=>simp at e
   ·cases i with
    | zero=>cases h1
    | succ i=>simp at h1
   ·cases i with
    | zero=>cases h1
    | succ i=>simp at h1
  have I0:=I.ext 0 (N.length - 1) rfl
  rw [yT,yT,uB,uB] at I0
  refine hw ns hl H (fun _=>none) _ H I0 _ ?_ ?_ ?_ ?_
  ·intro G1 σ1 H1 ρ1 h1
   exact h1.elim
  ·intro G1 σ1 H1 ρ1 r v h1 g1 k1 I1 ok
   have h1':r=.d (.bl true):=h1
   subst h1'
   have e:v=.bl true:=ok
   rw [e]
   exact fin H1
  ·intro G1 σ1 H1 ρ1 h1
   exact h1.elim
  ·intro G1 σ1 H1 ρ1 h1
   exact h1.elim
theorem qI0 {G:Hp} {ks:List Int} {v:V} (h:Den G (QT ks) v):∃ a,v=.ref a/\G a=some (.tup (ks.map V.int)):=by
 obtain ⟨a,vs,rfl,h1,h2⟩:=h
 exact ⟨a,rfl,h2.ints_eq ▸ h1⟩
theorem qC9 {G:Hp}:∀{L:List (List Int)} {ws:List V},qR G (L.map QT) ws->∃ rs:List TRw,rs.map (·.2)=L/\ws=rs.map (fun r=>V.ref r.1)/\∀ r∈rs,G r.1=some (.tup (r.2.map V.int))
 | [],ws,h=>by
  cases (show ws=[] from h)
  exact ⟨[],rfl,rfl,fun r hr=>absurd hr zU⟩
 | ks::L,ws,h=>by
  obtain ⟨v,vs,rfl,h1,h2⟩:=h
  obtain ⟨a,rfl,ha⟩:=qI0 h1
  obtain ⟨rs,e1,e2,e3⟩:=qC9 h2
  refine ⟨(a,ks)::rs,by rw [<- e1]; rfl,by rw [e2]; rfl,fun r hr=>?_⟩
  rcases wX.mp hr with z | z
  ·rw [z]; exact ha
  ·exact e3 r z
theorem qFG {ta:TA} {ρ:List Sl} {Φ:Rs->List Sl->Prop} (h:wpA ta ρ fun rs ρ1=>∃ L:List (List Int),(∃ r,rs=[r]/\rdE ρ1 r=some (.lst (L.map QT)))/\L.length<306/\∀ L':List (List Int),L'.Nodup->(∀ k,k∈L'↔k∈L)->Φ (.d (.int L'.length)) ρ1):wpV (qC8 ta) ρ Φ:=by
 intro G F σ H I Q q
 refine h G F σ H I _ fun G1 H1 vs rs ρ1 ⟨L,⟨r,er,hx⟩,few,k⟩ g1 I1 oks=>?_
 subst er
 obtain ⟨v,rfl,ok⟩:=jy oks
 obtain ⟨a,ws,rfl,s1,d1⟩:=(JE I1 ok hx).2.2 _ rfl
 obtain ⟨rs,e1,e2,e3⟩:=qC9 d1
 subst e1 e2
 refine ⟨a,rs,rfl,s1,fun r hr=>I1.g _ _ (e3 r hr),by rw [wB] at few; exact few,fun R hs=>?_⟩
 have kk:=k (R.map (·.2)) hs.1 hs.2.1
 rw [wB] at kk
 exact QI (q.at g1 fun _ _ z=>z) I1 kk
noncomputable def isT:Option HO->Bool
 | some (.tup _)=>true
 | _=>false
noncomputable def tups (G:Hp):Hp:=fun a=>if isT (G a)=true then G a else none
noncomputable def both (G G':Hp):Hp:=fun a=>if G' a=none then G a else G' a
noncomputable def anew (G G3:Hp) (a:Addr) (vs:List V):Hp:=fun b=>if b=a then some (.lst vs) else if isT (G3 b)=true then G3 b else if G b=none then none else G3 b
end L4
namespace L2
open PySem PySem.Spec PyProof.Rows
end L2
namespace L4
open PySem L2
end L4
namespace L2
open PySem PySem.Spec PyProof.Rows
end L2
namespace L4
open PySem L2
section
variable {ρ:List Sl} {Φ:Rs->List Sl->Prop} {K:wD} {x y:Rs} {B:List Nat} {Ψ:VE}
theorem qAC {t:TS} {i:Nat} {xs:List D} (hi:ρ[i]? = some (.l xs)) (h:wpS B t (ρ.set i (.d (.lst xs))) Ψ):wpS B t ρ Ψ:=by
 intro G F σ H I D n r b ct
 obtain ⟨G',g,I'⟩:=I.freeze hi
 exact h G' F σ H I' D (n.at g (Kp.refl _ _)) (r.at g (Kp.refl _ _)) (b.at g (Kp.refl _ _)) (ct.at g (Kp.refl _ _))
end
section
variable {ρ:List Sl} {Φ:Rs->List Sl->Prop} {x y:Rs} {K:wD}
theorem SlV.l {r r':V->Option Int->Option Int->Hp->VK->Prop} {lo hi:Option Int} (h:SlV r x lo hi ρ Φ):SlV (fun a l u H Q=>r a l u H Q\/r' a l u H Q) x lo hi ρ Φ:=fun G F σ H v I ok Q q=>.inl (h G F σ H v I ok Q q)
end
section
variable {ρ:List Sl} {Φ:Rs->List Sl->Prop}
theorem qJp {ta:TE} {t:Str} (h:wpV ta ρ fun r ρ1=>∃ i:Nat,rd ρ1 r=some (.int i)/\i<1000/\(uH (toString ((i:Nat):Int))).length<=3/\t.length<=1000/\∀ z,Φ (.d (.str z)) ρ1):wpV (qID ta t) ρ Φ:=by
 intro G F σ H I Q q
 refine h G F σ H I _ fun G1 H1 v r ρ1 ⟨i,e,i1,i2,t1,h1⟩ g1 I1 ok1=>?_
 exact ⟨i,J5 I1 ok1 e rfl,i1,i2,t1,fun z=>qJh (q.at g1 fun _ _ z=>z) I1 (h1 z)⟩
end
theorem qEJ {P:Program} {w:World} {K:wD} {mg:Str->Option Value} {base:Heap} {CX:CXT} {k:Nat} {f:Addr} {fd:FuncData} {ps:List Str} {p p':PV} (a:j7 P w K mg base CX k f fd ps (spV p)) (b:j7 P w K mg base CX k f fd ps (spV p')):j7 P w K mg base CX k f fd ps (spV fun as Φ=>p as Φ\/p' as Φ):=by
 have part:∀ vs H Q E,spV (fun as Φ=>p as Φ\/p' as Φ) vs H Q E->spV p vs H Q E\/spV p' vs H Q E:=fun vs H Q E h=>by
  obtain ⟨as,Φ,G,F,h1,h2⟩:=h
  rcases h1 with h1 | h1
  ·exact .inl ⟨as,Φ,G,F,h1,h2⟩
  ·exact .inr ⟨as,Φ,G,F,h1,h2⟩
 refine ⟨fun vs H Q E h=>(part vs H Q E h).elim (a.len vs H Q E) (b.len vs H Q E),fun A outer s H args us vs Q E hr he hb hv h=>?_⟩
 rcases part vs H Q E h with h | h
 ·exact a.run A outer s H args us vs Q E hr he hb hv h
 ·exact b.run A outer s H args us vs Q E hr he hb hv h
section
variable {B:List Nat} {K:wD} {n i j:Nat} {Ch:Addr} {tb:XK->TS} {ts:Value->Addr->TS} {ρ:List Sl} {Ψ:VE} {cls:Value}
theorem qIs (h:∀ E,wpS B (tb E) ρ Ψ):wpS B (qJH K n i Ch tb ts) ρ Ψ:=fun G F σ H I D nx r b ct=>h _ G F σ H I D nx r b ct
noncomputable def TellsN (ts:Value->Addr->TS) (i j:Nat) (cls:Value) (v:V):Prop:=∀(a:Addr) (D:Ends) (σ:St) (H:Hp),H a=none->i<σ.length->(∀ H',qL H H'->D.nx ((σ.set i (some (.ref a))).set j (some v)) H')->ts cls a D (σ.set i (some (.ref a))) H
theorem qJ7 {v:V} {d:D} (hi:i<n) (hj:j<n) (ij:i≠j) (h:∀ E,wpX (tb E) E ρ cls) (em:WM K cls (.ref Ch)=some true) (tl:TellsN ts i j cls v) (dn:∀ G,Den G d v) (h2:Ψ.nx ((wO n Sl.u).set j (.d d))):wpS [] (qJH K n i Ch tb ts) ρ Ψ:=by
 intro G F σ H I D nx r b ct
 refine h _ G F σ H I D fun H1 a f=>⟨em,fun σ' e he hl=>tl e _ σ' H1 he (by rw [hl]; exact hi) fun H2 k2=>?_⟩
 have no:∀(k:Nat) (p:Pl),((wO n Sl.u).set j (.d d))[k]? = some (.o p)->False:=fun k p e=>by
  by_cases z:j=k
  ·subst z
   rw [uF (by rw [zG]; exact hj)] at e
   cases e
  ·rw [uT z,vN] at e
   split at e <;> cases e
 refine nx G _ H2 _ h2 (qL.refl _) (fun k hk=>absurd hk zU) ⟨fun k s e=>?_,a.trans k2,f.trans k2,I.gf,fun k l b p q e1 _ _ _=>(no k p e1).elim,fun b ⟨k,p,e1,_⟩=>(no k p e1).elim,I.ft⟩
 by_cases z:j=k
 ·subst z
  rw [uF (by rw [zG]; exact hj)] at e
  cases e
  rw [uT ij,uF (by rw [vC,hl]; exact hj)]
  exact ⟨_,rfl,v,rfl,dn G⟩
 ·rw [uT z,vN] at e
  split at e
  ·cases e
   rename_i kn
   have:k<(((σ'.set i (some (V.ref e))).set j (some v)).set i none).length:=by
    rw [vC,vC,vC,hl]
    exact kn
   exact ⟨_,wA this,trivial⟩
  ·cases e
end
section
variable {ρ:List Sl} {Φ:Rs->List Sl->Prop} {x y:Rs} {K:wD}
theorem qES {nss:List (List Int)} (hx:rdE ρ x=some (.tup (nss.map QT))\/rdE ρ x=some (.lst (nss.map QT))) (hn:2<=nss.length->∀ ns∈nss,ns≠[]) (h64:nss.length<=sizeLine) (h:∀ nss':List (List Int),nss'.Perm nss->nss'.Pairwise (fun a b=>HT.lexLt b a=false)->Φ (.l (nss'.map QT)) ρ):QR qIA [x] ρ Φ:=fun G F σ H vs I h1 Q q=>by
 obtain ⟨v,rfl,ok⟩:=jy h1
 have fin:∀{xs:List V},qR G (nss.map QT) xs->∀(is:List Nat) (l:Addr),is.Perm (zA nss.length)->(is.map fun i=>nss.getD i []).Pairwise (fun a b=>HT.lexLt b a=false)->H l=none->Q (.ref l) (upd H l (.lst (is.map fun i=>xs.getD i V.non))):=fun {xs} hd is l pm pw hl=>by
  have lx:xs.length=nss.length:=by rw [hd.length,wB]
  refine jk q I (YB hd is fun i hi=>?_) (h _ ?_ pw) hl
  ·have:=zN.mp (pm.mem_iff.mp hi)
   omega
  ·have:=pm.map (fun i=>nss.getD i [])
   rw [QU] at this
   exact this
 rcases hx with hx | hx
 ·obtain ⟨a,ws,rfl,s1,d1⟩:=(JE I ok hx).2.1 (fun _ z=>by cases z)
  exact ⟨a,ws,nss,rfl,.inl (I.g _ _ s1),qR.mono I.g _ _ d1,hn,h64,fin d1⟩
 ·obtain ⟨a,ws,rfl,s1,d1⟩:=(JE I ok hx).2.2 _ rfl
  exact ⟨a,ws,nss,rfl,.inr s1,qR.mono I.g _ _ d1,hn,h64,fin d1⟩
end
end L4
namespace L2
open PySem PySem.Spec PyProof.Rows PySem.W
end L2
namespace L4
open PySem L2
open PyProof.Rows (step_dedup step_length firstMet)
theorem hu1 {a:Nat} (h:a+64<cLine):a+1<cLine:=by omega
section
variable {κ:Type} [DecidableEq κ]
noncomputable def Q6 (ks:List (κ×D)) (k:κ):Option D:=(ks.find? fun p=>decide (p.1=k)).map (·.2)
noncomputable def putD (ks:List (κ×D)) (k:κ) (d:D):List (κ×D):=if (ks.any fun p=>decide (p.1=k))=true then ks.map (fun p=>if p.1=k then (p.1,d) else p) else ks++[(k,d)]
theorem Qi {G:Hp}:∀{ks:List (κ×D)} {vs:List (κ×V)},QQ G ks vs->vs.length=ks.length
 | [],vs,h=>by cases (show vs=[] from h); rfl
 | p::ks,vs,h=>by
  obtain ⟨v,r,rfl,_,h2⟩:=h
  rw [wW,wW,Qi h2]
theorem qA0 {G:Hp} {k:κ}:∀{ks:List (κ×D)} {vs:List (κ×V)},QQ G ks vs->(vs.any fun p=>decide (p.1=k))=(ks.any fun p=>decide (p.1=k))
 | [],vs,h=>by cases (show vs=[] from h); rfl
 | p::ks,vs,h=>by
  obtain ⟨v,r,rfl,_,h2⟩:=h
  rw [kR,kR,qA0 h2]
theorem Qu {G:Hp} {k:κ}:∀{ks:List (κ×D)} {vs:List (κ×V)},QQ G ks vs->(Q6 ks k=none/\qBx vs k=none)\/∃ d v,Q6 ks k=some d/\qBx vs k=some v/\Den G d v
 | [],vs,h=>by cases (show vs=[] from h); exact .inl ⟨rfl,rfl⟩
 | p::ks,vs,h=>by
  obtain ⟨v,r,rfl,h1,h2⟩:=h
  by_cases e:p.1=k
  ·refine .inr ⟨p.2,v,?_,Jc e,h1⟩
   simp [Q6,xN,e]
  ·have e1:Q6 (p::ks) k=Q6 ks k:=by simp [Q6,xN,e]
   rw [e1,Ja (p:=(p.1,v)) e]
   exact Qu h2
theorem YS {G:Hp} {k:κ} {d:D} {v:V} (hv:Den G d v):∀{ks:List (κ×D)} {vs:List (κ×V)},QQ G ks vs->QQ G (ks.map fun p=>if p.1=k then (p.1,d) else p) (vs.map fun p=>if p.1=k then (p.1,v) else p)
 | [],vs,h=>by cases (show vs=[] from h); rfl
 | p::ks,vs,h=>by
  obtain ⟨w,r,rfl,h1,h2⟩:=h
  rw [zF,zF]
  by_cases e:p.1=k
  ·rw [if_pos e,if_pos e]
   exact ⟨v,_,rfl,hv,YS hv h2⟩
  ·rw [if_neg e,if_neg e]
   exact ⟨w,_,rfl,h1,YS hv h2⟩
theorem Yp {G:Hp} {k:κ} {d:D} {v:V} (hv:Den G d v):∀{ks:List (κ×D)} {vs:List (κ×V)},QQ G ks vs->QQ G (ks++[(k,d)]) (vs++[(k,v)])
 | [],vs,h=>by cases (show vs=[] from h); exact ⟨v,[],rfl,hv,rfl⟩
 | p::ks,vs,h=>by
  obtain ⟨w,r,rfl,h1,h2⟩:=h
  exact ⟨w,_,rfl,h1,Yp hv h2⟩
theorem qA6 {G:Hp} {k:κ} {d:D} {v:V} {ks:List (κ×D)} {vs:List (κ×V)} (h:QQ G ks vs) (hv:Den G d v):QQ G (putD ks k d) (putK vs k v):=by
 unfold putD putK
 rw [qA0 h]
 by_cases e:(ks.any fun p=>decide (p.1=k))=true
 ·rw [if_pos e,if_pos e]
  exact YS hv h
 ·rw [if_neg e,if_neg e]
  exact Yp hv h
theorem jP (p:κ×D) (ks:List (κ×D)) (j:κ):Q6 (p::ks) j=if p.1=j then some p.2 else Q6 ks j:=by
 by_cases e:p.1=j
 ·rw [if_pos e]
  simp [Q6,xN,e]
 ·rw [if_neg e]
  simp [Q6,xN,e]
theorem qAQ (k:κ):∀ ks:List (κ×D),(ks.any fun p=>decide (p.1=k))=(Q6 ks k).isSome
 | []=>rfl
 | p::ks=>by
  rw [kR,jP,qAQ k ks]
  by_cases e:p.1=k
  ·rw [decide_eq_true e,if_pos e]
   rfl
  ·rw [decide_eq_false e,if_neg e]
   rfl
theorem qDE (k j:κ) (d:D):∀ ks:List (κ×D),Q6 (ks.map fun p=>if p.1=k then (p.1,d) else p) j=if j=k then (Q6 ks j).map (fun _=>d) else Q6 ks j
 | []=>by
  show none=_
  split <;> rfl
 | p::ks=>by
  rw [zF,jP,jP,qDE k j d ks]
  by_cases e:p.1=k
  ·rw [if_pos e]
   by_cases e2:j=k
   ·have e3:p.1=j:=e.trans e2.symm
    rw [if_pos e3,if_pos e2,if_pos e3]
    rfl
   ·have e3:¬ p.1=j:=fun z=>e2 (z.symm.trans e)
    rw [if_neg e3,if_neg e2,if_neg e3,if_neg e2]
  ·rw [if_neg e]
   by_cases e2:p.1=j
   ·have e3:¬ j=k:=fun z=>e (e2.trans z)
    rw [if_pos e2,if_neg e3,if_pos e2]
   ·rw [if_neg e2,if_neg e2]
theorem qBU (k j:κ) (d:D):∀ ks:List (κ×D),Q6 ks k=none->Q6 (ks++[(k,d)]) j=if j=k then some d else Q6 ks j
 | [],_=>by
  rw [uB,jP]
  by_cases e:k=j
  ·rw [if_pos e,if_pos e.symm]
  ·rw [if_neg e,if_neg (fun z=>e z.symm)]
 | p::ks,h=>by
  rw [jP] at h
  have e:¬ p.1=k:=fun z=>by rw [if_pos z] at h; cases h
  rw [if_neg e] at h
  rw [List.cons_append,jP,jP,qBU k j d ks h]
  by_cases e2:p.1=j
  ·have e3:¬ j=k:=fun z=>e (e2.trans z)
   rw [if_pos e2,if_neg e3,if_pos e2]
  ·rw [if_neg e2,if_neg e2]
theorem qGI (ks:List (κ×D)) (k j:κ) (d:D):Q6 (putD ks k d) j=if j=k then some d else Q6 ks j:=by
 unfold putD
 by_cases e:(ks.any fun p=>decide (p.1=k))=true
 ·rw [if_pos e,qDE]
  by_cases e2:j=k
  ·rw [if_pos e2,if_pos e2,e2]
   rw [qAQ] at e
   cases h:Q6 ks k with
   | none=>rw [h] at e; cases e
   | some _=>rfl
  ·rw [if_neg e2,if_neg e2]
 ·rw [if_neg e]
  rw [qAQ] at e
  exact qBU k j d ks (by cases h:Q6 ks k with | none=>rfl | some _=>rw [h] at e; exact absurd rfl e)
theorem qGv (ks:List (κ×D)) (k:κ) (d:D):(putD ks k d).length<=ks.length+1:=by
 unfold putD
 split
 ·rw [wB]; omega
 ·rw [wV]; exact wF _
end
section
variable {ρ:List Sl} {Φ:Rs->List Sl->Prop} {x y:Rs} {K:wD} {G F H:Hp} {σ:St} {B:List Nat} {Ψ:VE}
theorem qIQ {i:Nat} {p:Pl} (hi:ρ[i]? = some (.o p)) (h:Φ (.b i) ρ):wpV (qGD i) ρ Φ:=fun G F σ H I Q q=>by
 obtain ⟨o,e,a,vs,rfl,hv⟩:=I.ok i _ hi
 exact ⟨_,e,q G H (.ref a) _ ρ h (qL.refl _) I e⟩
theorem qK4 {Q:VK} (q:Fin G F σ Φ Q) (I:SI G F ρ σ H) {pl:Pl} {o:HO} {p:Addr} (hv:qGF G pl p o) (h:Φ (.o pl) ρ) (hp:H p=none):Q (.ref p) (upd H p o):=by
 refine q G _ _ _ ρ h (qL.refl _) (I.new hp) ⟨p,_,rfl,qH,hv,I.g.free hp,I.f.free hp,?_⟩
 rintro ⟨i,ys,h1,h2⟩
 obtain ⟨o',e1,a,ws,z,h3,_⟩:=I.ok i _ h1
 rw [h2] at e1
 cases e1
 cases z
 rw [hp] at h3
 cases h3
theorem qLa (h:Φ (.o (.dt [])) ρ):wpV qHq ρ Φ:=fun G F σ H I Q q p hp=>qK4 (pl:=.dt []) q I ⟨[],rfl,rfl⟩ h hp
theorem qA8 {p:Pl} {i:Nat} {v:V} (I:SI G F ρ σ H) (hi:ρ[i]? = some (.o p)) (ok:jL G F ρ σ H (.b i) v):∃ a o,v=.ref a/\σ[i]? = some (some (.ref a))/\H a=some o/\qGF G p a o:=by
 obtain ⟨o,e,a,vs,z,h1,h2⟩:=I.ok i _ hi
 have ok':σ[i]? = some (some v):=ok
 rw [ok'] at e
 cases e
 cases z
 exact ⟨a,vs,rfl,ok',h1,h2⟩
theorem qLj {td ty:TE} (h:wpV td ρ fun o ρ1=>∃ i,o=.b i/\wpV ty ρ1 fun y ρ2=>∃ ks k d,ρ2[i]? = some (.o (.di ks))/\rd ρ2 y=some (.int k)/\Q6 ks (.inl k)=some d/\Φ (.d d) ρ2):wpV (qKb td ty) ρ Φ:=by
 intro G F σ H I Q q
 refine h G F σ H I _ fun G1 H1 w o ρ1 ⟨i,eo,h1⟩ g1 I1 ok1=>?_
 subst eo
 refine h1 G1 F σ H1 I1 _ fun G2 H2 z y ρ2 ⟨ks,k,d,e1,e2,e3,h2⟩ g2 I2 ok2=>?_
 obtain ⟨a,_,rfl,_,ha,vs,rfl,dn⟩:=qA8 I2 e1 ok1
 rcases Qu (k:=uS k) dn with ⟨z1,_⟩ | ⟨d',v,z1,z2,z3⟩
 ·rw [z1] at e3; cases e3
 ·rw [z1] at e3
  cases e3
  refine ⟨a,v,rfl,.inl ⟨vs,.inl k,.inl ha,qQ I2 ok2 e2,z2.symm⟩,?_⟩
  exact q G2 H2 v (.d d) ρ2 h2 (g1.trans g2) I2 z3
theorem qL7 {td ty:TE} (h:wpV ty ρ fun y ρ1=>∃ k,y=.d (.int k)/\wpV td ρ1 fun o ρ2=>∃ i ks,o=.b i/\ρ2[i]? = some (.o (.di ks))/\Φ (.d (.bl (Q6 ks (.inl k)).isSome)) ρ2):wpV (qNF ty td) ρ Φ:=by
 intro G F σ H I Q q
 refine h G F σ H I _ fun G1 H1 w y ρ1 ⟨k,ey,h1⟩ g1 I1 ok1=>?_
 subst ey
 have ew:w=.int k:=ok1
 refine h1 G1 F σ H1 I1 _ fun G2 H2 z o ρ2 ⟨i,ks,eo,e1,h2⟩ g2 I2 ok2=>?_
 subst eo
 obtain ⟨a,_,rfl,_,ha,vs,rfl,dn⟩:=qA8 I2 e1 ok2
 refine ⟨a,qBx vs (.inl k),rfl,.inl ⟨vs,.inl k,.inl ha,ew,rfl⟩,?_⟩
 have es:(qBx vs (uS k:Key)).isSome=(Q6 ks (.inl k)).isSome:=by
  rcases Qu (k:=(uS k:Key)) dn with ⟨z1,z2⟩ | ⟨d',v,z1,z2,_⟩ <;> rw [z1,z2] <;> rfl
 rw [es]
 exact q G2 H2 _ (.d (.bl _)) ρ2 h2 (g1.trans g2) I2 rfl
theorem qLb {td ty tv:TE} (h:wpV tv ρ fun r ρ1=>∃ d,r.it=some d/\wpV td ρ1 fun o ρ2=>∃ i,o=.b i/\wpV ty ρ2 fun y ρ3=>∃ k ks,rd ρ3 y=some (.int k)/\ρ3[i]? = some (.o (.di ks))/\ks.length<sizeLine/\Ψ.nx (ρ3.set i (.o (.di (putD ks (.inl k) d))))):wpS B (qIm td ty tv) ρ Ψ:=by
 intro G F σ H I D n rt b ct
 refine h G F σ H I _ fun G1 H1 v r ρ1 ⟨d,ed,h1⟩ g1 I1 ok1=>?_
 obtain ⟨G1',g1',I1',dn⟩:=qGE I1 ok1 ed
 refine h1 G1' F σ H1 I1' _ fun G2 H2 w o ρ2 ⟨i,eo,h2⟩ g2 I2 ok2=>?_
 subst eo
 refine h2 G2 F σ H2 I2 _ fun G3 H3 z y ρ3 ⟨k,ks,e1,e2,e3,h3⟩ g3 I3 ok3=>?_
 obtain ⟨a,_,rfl,e5,ha,vs,rfl,dk⟩:=qA8 I3 e2 ok2
 refine ⟨a,_,rfl,.inl ⟨vs,.inl k,ha,qQ I3 ok3 e1,by rw [Qi dk]; exact e3,rfl⟩,?_⟩
 exact n G3 σ _ _ h3 (((g1.trans g1').trans g2).trans g3) (Kp.refl _ _) (I3.putO e2 e5 ⟨_,rfl,qA6 dk (Den.mono (g2.trans g3) _ _ dn)⟩)
theorem qNh {i:Nat} {xs:List D} {lo hi:Option Int} (hx:ρ[i]? = some (.f K xs)) (h:Φ (.l (cutD xs lo hi)) ρ):SlV (qLv K) (.b i) lo hi ρ Φ:=fun G F σ H v I ok Q q=>by
 obtain ⟨o,e,a,ws,z,k1,k2⟩:=I.ok i _ hx
 have ok':σ[i]? = some (some v):=ok
 rw [ok'] at e
 cases e
 cases z
 exact ⟨a,ws,rfl,I.g.seq k1,fun p hp=>jk q I (qC0 k2) h hp⟩
end
section
variable {ρ:List Sl} {Φ:Rs->List Sl->Prop} {x y:Rs} {K:wD} {B:List Nat} {Ψ:VE}
noncomputable abbrev qJT (ns:List Int):List Key:=ns.map uS
theorem qLY (ns:List Int):(qJT ns).map kV=ns.map V.int:=by
 unfold qJT
 rw [yB]
 rfl
theorem qEL {td ty tv:TE} (h:wpV tv ρ fun r ρ1=>∃ d,r.it=some d/\wpV td ρ1 fun o ρ2=>∃ i,o=.b i/\wpV ty ρ2 fun y ρ3=>∃ ns ks,rd ρ3 y=some (.tup (ns.map D.int))/\ρ3[i]? = some (.o (.dt ks))/\ks.length<sizeLine/\Ψ.nx (ρ3.set i (.o (.dt (putD ks (qJT ns) d))))):wpS B (qIm td ty tv) ρ Ψ:=by
 intro G F σ H I D n rt b ct
 refine h G F σ H I _ fun G1 H1 v r ρ1 ⟨d,ed,h1⟩ g1 I1 ok1=>?_
 obtain ⟨G1',g1',I1',dn⟩:=qGE I1 ok1 ed
 refine h1 G1' F σ H1 I1' _ fun G2 H2 w o ρ2 ⟨i,eo,h2⟩ g2 I2 ok2=>?_
 subst eo
 refine h2 G2 F σ H2 I2 _ fun G3 H3 z y ρ3 ⟨ns,ks,e1,e2,e3,h3⟩ g3 I3 ok3=>?_
 obtain ⟨a,_,rfl,e5,ha,vs,rfl,dk⟩:=qA8 I3 e2 ok2
 obtain ⟨kb,us,rfl,k1,k2⟩:=QP I3 ok3 e1
 have k3:=k2.ints_eq
 subst k3
 refine ⟨a,_,rfl,.inr ⟨vs,qJT ns,kb,ha,rfl,by rw [qLY]; exact I3.g _ _ k1,by rw [Qi dk]; exact e3,rfl⟩,?_⟩
 exact n G3 σ _ _ h3 (((g1.trans g1').trans g2).trans g3) (Kp.refl _ _) (I3.putO e2 e5 ⟨_,rfl,qA6 dk (Den.mono (g2.trans g3) _ _ dn)⟩)
theorem c_lenT' {i:Nat} {ks:List (List Key×D)} (hi:ρ[i]? = some (.o (.dt ks))) (h:Φ (.d (.int ks.length)) ρ):QR qKQ [.b i] ρ Φ:=fun G F σ H vs I h1 Q q=>by
 obtain ⟨v,rfl,ok⟩:=jy h1
 obtain ⟨a,_,rfl,e5,ha,ws,rfl,dk⟩:=qA8 I hi ok
 refine ⟨a,ws,rfl,ha,?_⟩
 rw [Qi dk]
 exact QI q I h
theorem SI.tuples {G F H:Hp} {σ:St} (I:SI G F ρ σ H) (S:Addr->Prop) (hS:∀ b,S b->∃ xs,H b=some (.tup xs)):∃ G',qL G G'/\SI G' F ρ σ H/\∀ b,S b->G' b=H b:=by
 classical
 let G':Hp:=fun b=>if S b then H b else G b
 have on:∀ b,S b->G' b=H b:=fun b hb=>if_pos hb
 have off:∀ b,¬ S b->G' b=G b:=fun b hb=>if_neg hb
 have sg:qL G G':=fun b o e=>by
  by_cases hb:S b
  ·rw [on b hb]
   exact I.g _ _ e
  ·rw [off b hb]
   exact e
 have no:∀ b,(∀ xs,H b≠some (.tup xs))->¬ S b:=fun b hb z=>let ⟨xs,e⟩:=hS b z; hb xs e
 refine ⟨G',sg,⟨fun i s e=>let ⟨o',e1,e2⟩:=I.ok i s e; ⟨o',e1,e2.up sg fun _ _ _ _ _ z=>z⟩,fun b o e=>?_,I.f,fun b o e=>?_,I.nd,fun b hb=>?_,I.ft⟩,on⟩
 ·by_cases hb:S b
  ·rw [on b hb] at e
   exact e
  ·rw [off b hb] at e
   exact I.g _ _ e
 ·rw [off b (no b fun xs z=>?_)]
  ·exact I.gf _ _ e
  ·have:=I.f _ _ e
   rw [z] at this
   cases this
   exact I.ft b xs e
 ·obtain ⟨i,p,h1,h2⟩:=id hb
  obtain ⟨o,q1,a,vs,q2,q3,q4⟩:=I.ok i _ h1
  rw [h2] at q1
  cases q1
  cases q2
  rw [off b (no b fun xs z=>?_)]
  ·exact I.out b hb
  ·rw [q3] at z
   exact q4.ntup xs (zH z)
theorem qDq {td:TE} (h:wpV td ρ fun o ρ1=>∃ i ks nss,o=.b i/\ρ1[i]? = some (.o (.dt ks))/\ks.map (·.1)=nss.map qJT/\(∀ ns∈nss,ns≠[])/\nss.length<64/\∀ nss':List (List Int),nss'.Perm nss->Φ (.l (nss'.map QT)) ρ1):wpV (qA7 td) ρ Φ:=by
 intro G F σ H I Q q
 refine h G F σ H I _ fun G1 H1 v r ρ1 ⟨i,ks,nss,er,e1,e2,e3,e4,h1⟩ g1 I1 ok1=>?_
 subst er
 obtain ⟨a,_,rfl,e5,ha,vs,rfl,dk⟩:=qA8 I1 e1 ok1
 have ek:vs.map (·.1)=ks.map (·.1):=by
  clear h1 e2 e1 ha
  induction ks generalizing vs with
  | nil=>cases (show vs=[] from dk); rfl
  | cons k ks ih=>
   obtain ⟨v,r,rfl,_,d2⟩:=dk
   rw [zF,zF,ih r d2]
 refine ⟨a,vs,nss,rfl,ha,ek.trans e2,e3,e4,fun bs is l lb at_ pm hl=>?_⟩
 obtain ⟨G2,g2,I2,on⟩:=I1.tuples (fun b=>b∈bs) fun b hb=>by
  obtain ⟨j,hj⟩:=List.mem_iff_getElem?.mp hb
  exact ⟨_,at_ j b hj⟩
 have dn:qR G2 (nss.map QT) (bs.map V.ref):=by
  have key:∀(nss:List (List Int)) (cs:List Addr),cs.length=nss.length->(∀ j b,cs[j]? = some b->b∈bs/\H1 b=some (.tup ((nss.getD j []).map V.int)))->qR G2 (nss.map QT) (cs.map V.ref):=by
   intro nss
   induction nss with
   | nil=>
    intro cs hc _
    cases cs with
    | nil=>rfl
    | cons c cs=>cases hc
   | cons ns nss ih=>
    intro cs hc ha
    cases cs with
    | nil=>cases hc
    | cons c cs=>
     obtain ⟨m,e⟩:=ha 0 c rfl
     refine ⟨_,_,rfl,⟨c,ns.map V.int,rfl,by rw [on c m]; exact e,qR.ints _ _⟩,ih cs (by simpa using hc) fun j b hj=>ha (j+1) b hj⟩
  exact key nss bs lb fun j b hj=>⟨yD hj,at_ j b hj⟩
 have lx:(bs.map V.ref).length=nss.length:=by rw [wB]; exact lb
 refine jk (q.at (g1.trans g2) fun _ _ z=>z) I2 (YB dn is fun i hi=>?_) (h1 _ ?_) hl
 ·have:=zN.mp (pm.mem_iff.mp hi)
  omega
 ·have:=pm.map (fun i=>nss.getD i [])
  rw [QU] at this
  exact this
end
noncomputable def qDt:Nat->List D->List D
 | _,[]=>[]
 | k,x::xs=>.tup [.int k,x]::qDt (k+1) xs
theorem Q3:∀(k:Nat) (xs:List D),(qDt k xs).length=xs.length
 | _,[]=>rfl
 | k,_::xs=>congrArg (· + 1) (Q3 (k+1) xs)
theorem Ju:∀{k:Nat} {xs:List D} {i:Nat} {x:D},xs[i]? = some x->(qDt k xs)[i]? = some (.tup [.int ((k+i:Nat):Int),x])
 | k,[],i,x,h=>by simp at h
 | k,y::xs,0,x,h=>by cases h; rfl
 | k,y::xs,i+1,x,h=>by
  have h':xs[i]? = some x:=h
  show (qDt (k+1) xs)[i]? = _
  rw [Ju h',show k+1+i=k+(i+1) by omega]
theorem qIZ {l:Addr} {us:List V} {xs:List D} {G F:Hp} (h1:G l=some (.tup us)) (h2:qR G xs us):Src (Ite l) G F (qDt 0 xs):=by
 intro i G' H' g gh _
 have e1:H' l=some (.tup us):=gh _ _ (g _ _ h1)
 have a1:=h2.length
 rw [Q3]
 refine ⟨fun hi=>?_,fun hi=>⟨us,e1,by omega⟩⟩
 have i1:i<us.length:=by omega
 refine ⟨⟨us,us[i],e1,wA i1⟩,fun x H2 y=>?_⟩
 obtain ⟨T,rfl,hT,hall⟩:=y
 have hH:=hall us _ e1 (wA i1)
 obtain ⟨d1,p1,p2⟩:=h2.get (wA i1)
 have gT:G' T=none:=gh.free hT
 refine ⟨_,Ju p1,.inr ⟨T,_,hT,hH,T,_,rfl,qH,?_⟩⟩
 rw [kL]
 exact ⟨_,_,rfl,rfl,_,_,rfl,Den.mono (g.trans (qL.new gT)) _ _ p2,rfl⟩
theorem qMx {ρ:List Sl} {Φ:List D->List Sl->Prop} {ta:TA} (h:wpA ta ρ fun rs ρ1=>∃ xs,(∃ r,rs=[r]/\rd ρ1 r=some (.tup xs))/\Φ (qDt 0 xs) ρ1):wpI (qNJ ta) ρ Φ:=by
 intro G F σ H I R q
 refine h G F σ H I _ fun G1 H1 vs rs ρ1 ⟨xs,⟨x,er,ex⟩,h1⟩ g1 I1 oks=>?_
 subst er
 obtain ⟨v,rfl,ok⟩:=jy oks
 obtain ⟨a,us,rfl,s1,d1⟩:=QP I1 ok ex
 exact ⟨a,rfl,⟨us,I1.g _ _ s1⟩,q G1 H1 _ _ ρ1 h1 g1 I1 (qIZ s1 d1)⟩
section
variable {ρ:List Sl} {Φ:Rs->List Sl->Prop}
theorem qJD {td ty tx:TE} (h:wpV td ρ fun o ρ1=>∃ i js,o=.b i/\ρ1[i]? = some (.o (.di js))/\wpV ty ρ1 fun y ρ2=>∃ k,y=.d (.int k)/\wpV tx ρ2 fun z ρ3=>∃ ks e,z=.d e/\ρ3[i]? = some (.o (.di ks))/\Φ (.d ((Q6 ks (.inl k)).getD e)) ρ3):wpV (qHy td ty tx) ρ Φ:=by
 intro G F σ H I Q q
 refine h G F σ H I _ fun G1 H1 w o ρ1 ⟨i,js,eo,e0,h1⟩ g1 I1 ok1=>?_
 subst eo
 obtain ⟨a,_,rfl,es,ha,vs,rfl,_⟩:=qA8 I1 e0 ok1
 refine ⟨a,rfl,.inl ⟨vs,.inl ha⟩,?_⟩
 refine h1 G1 F σ H1 I1 _ fun G2 H2 z y ρ2 ⟨k,ey,h2⟩ g2 I2 ok2=>?_
 subst ey
 have ez:z=.int k:=ok2
 refine h2 G2 F σ H2 I2 _ fun G3 H3 u x ρ3 ⟨ks,e,ex,e1,h3⟩ g3 I3 ok3=>?_
 subst ex
 obtain ⟨a',_,ea,_,ha',vs',rfl,dn⟩:=qA8 I3 e1 (show jL G3 F ρ3 σ H3 (.b i) (.ref a) from es)
 cases ea
 refine ⟨qBx vs' (.inl k),.inl ⟨vs',.inl k,.inl ha',ez,rfl⟩,?_⟩
 rcases Qu (k:=(uS k:Key)) dn with ⟨z1,z2⟩ | ⟨d',v,z1,z2,z3⟩
 ·rw [z1] at h3
  rw [z2]
  exact q G3 H3 u (.d e) ρ3 h3 ((g1.trans g2).trans g3) I3 ok3
 ·rw [z1] at h3
  rw [z2]
  exact q G3 H3 v (.d d') ρ3 h3 ((g1.trans g2).trans g3) I3 z3
end
theorem qIp {a b:Int} {ρ:List Sl} {Φ:Rs->List Sl->Prop} (h:Φ (.o (.di [(.inl a,.int b)])) ρ):wpV (qKs [(tC (.int a),tC (.int b))]) ρ Φ:=by
 intro G F σ H I Q q p hp
 refine ⟨qH,[(.inl a,.int b)],rfl,by show 1<=15; decide,?_⟩
 have e:upd (upd H p (.dK [])) p (.dK (Y7 [] [(.inl a,.int b)]))=upd H p (.dK [(.inl a,.int b)]):=by
  funext c
  by_cases z:c=p
  ·subst z
   rw [qH,qH]
   rfl
  ·rw [qI z,qI z,qI z]
 rw [e]
 exact qK4 (pl:=.di [(.inl a,.int b)]) q I ⟨_,rfl,_,_,rfl,rfl,rfl⟩ h hp
section
variable {G F H:Hp} {ρ:List Sl} {σ:St}
theorem SI.freezeD {i:Nat} {ks:List (Key×D)} (I:SI G F ρ σ H) (hi:ρ[i]? = some (.o (.di ks))):∃ G',qL G G'/\SI G' F (ρ.set i (.d .dic)) σ H:=by
 obtain ⟨o,ha,a,_,rfl,h1,vs,rfl,h2⟩:=I.ok i _ hi
 have oa:=I.out a ⟨i,.di ks,hi,ha⟩
 have il:i<ρ.length:=(wM.mp hi).1
 have sg:qL G (upd G a (.dK vs)):=qL.new oa.1
 refine ⟨upd G a (.dK vs),sg,fun j s e=>?_,fun b u e=>?_,I.f,fun b u e=>?_,fun j k b us ws e1 e2 h3 h4=>?_,fun b hb=>?_,I.ft⟩
 ·rw [zC] at e
  by_cases z:i=j
  ·subst z
   rw [if_pos rfl,if_pos il] at e
   cases e
   exact ⟨_,ha,_,rfl,a,vs,rfl,qH⟩
  ·rw [if_neg z] at e
   obtain ⟨o',e1,e2⟩:=I.ok j s e
   exact ⟨o',e1,e2.up sg fun _ _ _ _ _ z=>z⟩
 ·by_cases z:b=a
  ·subst z; rw [qH] at e; cases e; exact h1
  ·rw [qI z] at e; exact I.g _ _ e
 ·have z:b≠a:=fun z=>by subst z; rw [oa.2] at e; cases e
  rw [qI z]; exact I.gf _ _ e
 ·have w:∀(n:Nat) (zs:Pl),(ρ.set i (.d .dic))[n]? = some (.o zs)->ρ[n]? = some (.o zs):=fun n zs h=>by
   rw [zC] at h
   by_cases z:i=n
   ·subst z; rw [if_pos rfl,if_pos il] at h; cases h
   ·rw [if_neg z] at h; exact h
  exact I.nd j k b us ws (w j us e1) (w k ws e2) h3 h4
 ·obtain ⟨n,zs,e1,e2⟩:=hb
  have z:i≠n:=fun z=>by subst z; rw [zC,if_pos rfl,if_pos il] at e1; cases e1
  rw [zC,if_neg z] at e1
  have nb:b≠a:=fun q=>by subst q; exact z (I.nd i n b (.di ks) zs hi e1 ha e2)
  rw [qI nb]
  exact I.out b ⟨n,zs,e1,e2⟩
end
section
variable {B:List Nat} {ρ:List Sl} {Ψ:VE}
theorem qFW {t:TS} {i:Nat} {ks:List (Key×D)} (hi:ρ[i]? = some (.o (.di ks))) (h:wpS B t (ρ.set i (.d .dic)) Ψ):wpS B t ρ Ψ:=by
 intro G F σ H I D n r b ct
 obtain ⟨G',g,I'⟩:=I.freezeD hi
 exact h G' F σ H I' D (n.at g (Kp.refl _ _)) (r.at g (Kp.refl _ _)) (b.at g (Kp.refl _ _)) (ct.at g (Kp.refl _ _))
end
noncomputable def jQ (t u:TS):TS:=Qg t u
section
variable {B:List Nat} {ρ:List Sl} {Ψ:VE}
theorem qKd {t u:TS} (h:wpS B t ρ { Ψ with nx:=fun ρ1=>wpS B u ρ1 Ψ }):wpS B (jQ t u) ρ Ψ:=Ya h
theorem qMc {t:TS} (h:let Φ:=Ψ; wpS B t ρ Φ):wpS B t ρ Ψ:=h
theorem nm2 {t1 t2:TS} (h:let Φ:=Ψ; let y2:=t2; let y1:=jQ t1 y2; wpS B y1 ρ Φ):wpS B (Qg t1 t2) ρ Ψ:=h
theorem nm3 {t1 t2 t3:TS} (h:let Φ:=Ψ; let y3:=t3; let y2:=jQ t2 y3; let y1:=jQ t1 y2; wpS B y1 ρ Φ):wpS B (Qg t1 (Qg t2 t3)) ρ Ψ:=h
theorem nm4 {t1 t2 t3 t4:TS} (h:let Φ:=Ψ; let y4:=t4; let y3:=jQ t3 y4; let y2:=jQ t2 y3; let y1:=jQ t1 y2; wpS B y1 ρ Φ):wpS B (Qg t1 (Qg t2 (Qg t3 t4))) ρ Ψ:=h
theorem nm5 {t1 t2 t3 t4 t5:TS} (h:let Φ:=Ψ; let y5:=t5; let y4:=jQ t4 y5; let y3:=jQ t3 y4; let y2:=jQ t2 y3; let y1:=jQ t1 y2; wpS B y1 ρ Φ):wpS B (Qg t1 (Qg t2 (Qg t3 (Qg t4 t5)))) ρ Ψ:=h
theorem qNy {t1 t2 t3 t4 t5 t6 t7 t8 t9 t10:TS} (h:let Φ:=Ψ; let y10:=t10; let y9:=jQ t9 y10; let y8:=jQ t8 y9; let y7:=jQ t7 y8; let y6:=jQ t6 y7; let y5:=jQ t5 y6; let y4:=jQ t4 y5; let y3:=jQ t3 y4; let y2:=jQ t2 y3; let y1:=jQ t1 y2; wpS B y1 ρ Φ):wpS B (Qg t1 (Qg t2 (Qg t3 (Qg t4 (Qg t5 (Qg t6 (Qg t7 (Qg t8 (Qg t9 t10))))))))) ρ Ψ:=h
theorem nf1 {t1:TS} {wi:TI} {g:TG} (h:let Φ:=Ψ; let y1:=t1; wpS B (qHz wi g y1) ρ Φ):wpS B (qHz wi g t1) ρ Ψ:=h
theorem nf6 {t1 t2 t3 t4 t5 t6:TS} {wi:TI} {g:TG} (h:let Φ:=Ψ; let y6:=t6; let y5:=jQ t5 y6; let y4:=jQ t4 y5; let y3:=jQ t3 y4; let y2:=jQ t2 y3; let y1:=jQ t1 y2; wpS B (qHz wi g y1) ρ Φ):wpS B (qHz wi g (Qg t1 (Qg t2 (Qg t3 (Qg t4 (Qg t5 t6)))))) ρ Ψ:=h
theorem nw1 {t1:TS} {c:TT} (h:let Φ:=Ψ; let y1:=t1; wpS B (qCo c y1) ρ Φ):wpS B (qCo c t1) ρ Ψ:=h
noncomputable def Le:List Sl->List Sl->Prop
 | [],[]=>True
 | _::ρ,.u::τ=>Le ρ τ
 | s::ρ,.d x::τ=>s=.d x/\Le ρ τ
 | s::ρ,.o x::τ=>s=.o x/\Le ρ τ
 | s::ρ,.f K x::τ=>s=.f K x/\Le ρ τ
 | _,_=>False
theorem Le.at_:∀{ρ τ:List Sl},Le ρ τ->∀(i:Nat) (s:Sl),τ[i]? = some s->(s=.u/\∃ t,ρ[i]? = some t)\/ρ[i]? = some s
 | [],[],_,i,s,e=>by cases e
 | _::ρ,.u::τ,h,0,s,e=>.inl ⟨(zH e).symm,_,rfl⟩
 | _::ρ,.u::τ,h,i+1,s,e=>Le.at_ (ρ:=ρ) (τ:=τ) h i s e
 | _::ρ,.d x::τ,h,0,s,e=>.inr ((congrArg some h.1).trans e)
 | _::ρ,.d x::τ,h,i+1,s,e=>Le.at_ (ρ:=ρ) (τ:=τ) h.2 i s e
 | _::ρ,.o x::τ,h,0,s,e=>.inr ((congrArg some h.1).trans e)
 | _::ρ,.o x::τ,h,i+1,s,e=>Le.at_ (ρ:=ρ) (τ:=τ) h.2 i s e
 | _::ρ,.f K x::τ,h,0,s,e=>.inr ((congrArg some h.1).trans e)
 | _::ρ,.f K x::τ,h,i+1,s,e=>Le.at_ (ρ:=ρ) (τ:=τ) h.2 i s e
theorem SI.le {G F H:Hp} {σ:St} {τ:List Sl} (l:Le ρ τ) (I:SI G F ρ σ H):SI G F τ σ H:=by
 have own:∀{i:Nat} {p:Pl},τ[i]? = some (.o p)->ρ[i]? = some (.o p):=fun e=>(l.at_ _ _ e).resolve_left fun z=>by cases z.1
 refine ⟨fun i s e=>?_,I.g,I.f,I.gf,fun i j a xs ys h1 h2=>I.nd i j a xs ys (own h1) (own h2),fun a ⟨i,xs,h1,h2⟩=>I.out a ⟨i,xs,own h1,h2⟩,I.ft⟩
 rcases l.at_ i s e with ⟨rfl,t,z⟩ | z
 ·obtain ⟨o,h1,_⟩:=I.ok i t z
  exact ⟨o,h1,trivial⟩
 ·exact I.ok i s z
theorem qNA {t:TS} {τ:List Sl} (l:Le ρ τ) (h:wpS B t τ Ψ):wpS B t ρ Ψ:=fun G F σ H I=>h G F σ H (I.le l)
theorem qI2 {g:TG} {d:D} {τ:List Sl} {Φ:List Sl->Prop} (l:Le ρ τ) (h:wpG B g (.d d) τ Φ):wpG B g (.d d) ρ Φ:=fun G F σ H v I ok=>h G F σ H v (I.le l) ok
end
noncomputable def wpR (E:XK) (cls:Value) (ts:TS) (ρ:List Sl) (J:List Sl->Prop):Prop:=∀ G F σ H,SI G F ρ σ H->∀ D:Ends,(∀ H',qL G H'->qL F H'->E cls none H')->NX [] G F σ J D.nx->ts D σ H
section
variable {E:XK} {cls:Value} {ρ:List Sl} {J:List Sl->Prop} {t u:TS}
theorem qDH {σ σ':St}:Kp [] σ σ':=fun _ h=>absurd h zU
theorem qM4 (h:wpS [] t ρ { nx:=J,rt:=fun _ _=>False }):wpR E cls t ρ J:=fun G F σ H I D k n=>h G F σ H I D n (fun _ _ _ _ _ _ z=>z.elim) (fun _ _ _ _ z=>z.elim) (fun _ _ _ _ z=>z.elim)
theorem qNp (h:wpR E cls t ρ fun _=>False):wpX t E ρ cls:=fun G F σ H I D k=>h G F σ H I D k (fun _ _ _ _ z=>z.elim)
theorem qM1 (h:wpR E cls t ρ fun ρ1=>wpR E cls u ρ1 J):wpR E cls (Qg t u) ρ J:=fun G F σ H I D k n=>by
 refine h G F σ H I _ k fun G1 σ1 H1 ρ1 h1 g1 k1 I1=>?_
 exact h1 G1 F σ1 H1 I1 D (fun H' a f=>k H' (g1.trans a) f) (n.at g1 k1)
theorem qI7 (M:List Sl->Prop) (h:wpR E cls t ρ M) (h2:∀ ρ1,M ρ1->wpR E cls u ρ1 J):wpR E cls (Qg t u) ρ J:=qM1 fun G F σ H I D k n=>h G F σ H I D k fun G1 σ1 H1 ρ1 m g1 k1 I1=>n G1 σ1 H1 ρ1 (h2 ρ1 m) g1 k1 I1
theorem qN6 {c:TT} (h:wpT c ρ fun b ρ1=>if b=true then wpR E cls t ρ1 J else wpR E cls u ρ1 J):wpR E cls (qMK c t u) ρ J:=fun G F σ H I D k n=>by
 refine h G F σ H I _ fun G1 H1 b ρ1 h1 g1 I1=>?_
 cases b with
 | true=>exact h1 G1 F σ H1 I1 D (fun H' a f=>k H' (g1.trans a) f) (n.at g1 qDH)
 | false=>exact h1 G1 F σ H1 I1 D (fun H' a f=>k H' (g1.trans a) f) (n.at g1 qDH)
theorem qIb {ta:TA} (h:wpA ta ρ fun rs _=>rs.length<=1000):wpR E cls (qIB ta (E cls none)) ρ J:=fun G F σ H I D k n=>by
 refine h G F σ H I _ fun G1 H1 vs rs ρ1 h1 g1 I1 oks=>⟨zK (uJ oks.len) h1,k H1 (g1.trans I1.g) I1.f⟩
theorem qG1 {i:Nat} {xs:List D} (hi:ρ[i]? = some (.l xs)) (h:wpR E cls t (ρ.set i (.d (.lst xs))) J):wpR E cls t ρ J:=fun G F σ H I D k n=>by
 obtain ⟨G',g,I'⟩:=I.freeze hi
 exact h G' F σ H I' D (fun H' a f=>k H' (g.trans a) f) (n.at g qDH)
theorem qM6 {wi:TI} {g:TG} (h:wpI wi ρ fun xs ρ1=>∃ Jv:Nat->List Sl->Prop,Jv 0 ρ1/\(∀ k x ρ,xs[k]? = some x->Jv k ρ->wpG [] g (.d x) ρ fun ρ2=>wpR E cls t ρ2 (Jv (k+1)))/\∀ ρ,Jv xs.length ρ->J ρ):wpR E cls (qHz wi g t) ρ J:=by
 intro G F σ H I D kx n
 refine h G F σ H I _ fun G1 H1 It xs ρ1 ⟨Jv,i0,st,en⟩ g1 I1 S=>?_
 refine ⟨fun i m σ' H'=>m=xs.length - i/\i<=xs.length/\∃ G' ρ',Jv i ρ'/\qL G1 G'/\SI G' F ρ' σ' H',⟨xs.length,by simp,zV _,G1,ρ1,i0,qL.refl _,I1⟩,?_⟩
 rintro i m σ2 H2 ⟨rfl,hi,G2,ρ2,p2,g2,I2⟩
 obtain ⟨s1,s2⟩:=S i G2 H2 g2 I2.g I2.f
 by_cases hlt:i<xs.length
 ·obtain ⟨go,yl⟩:=s1 hlt
  refine .inr ⟨go,fun σ' H'=>∃ G' ρ',Jv (i+1) ρ'/\qL G1 G'/\SI G' F ρ' σ' H',fun σ' H' p'=>⟨xs.length - (i+1),by omega,rfl,hlt,p'⟩,fun x H' y=>?_⟩
  obtain ⟨d,ed,yy⟩:=yl x H' y
  obtain ⟨G3,g3,I3,dn⟩:∃ G3,qL G2 G3/\SI G3 F ρ2 σ2 H'/\Den G3 d x:=by
   rcases yy with ⟨e,dn⟩ | ⟨p,o,hp,e,dn⟩
   ·subst e
    exact ⟨G2,qL.refl _,I2,dn⟩
   ·subst e
    obtain ⟨I3,g3⟩:=I2.newG (o:=o) hp
    exact ⟨_,g3,I3,dn⟩
  refine st i d ρ2 ed p2 G3 F σ2 _ x I3 dn _ ?_
  intro G4 σ4 H4 ρ4 h4 g4 k4 I4
  have gg:=(g2.trans g3).trans g4
  exact h4 G4 F σ4 H4 I4 _ (fun H5 a f=>kx H5 ((g1.trans gg).trans a) f) fun G5 σ5 H5 ρ5 p5 g5 k5 I5=>⟨G5,ρ5,p5,gg.trans g5,I5⟩
 ·have e:i=xs.length:=by omega
  subst e
  exact .inl ⟨s2 rfl,n G2 σ2 H2 ρ2 (en ρ2 p2) (g1.trans g2) qDH I2⟩
end
end L4
namespace L2
open PySem
noncomputable def Has (P:Program) (w:World) (K:wD) (mg:Str->Option Value) (base:Heap) (x:Str) (st:Stmt) (ps:List Str) (k:Nat) (sp:Sp):Prop:=∃ f fd,qGS K mg x st ps f fd/\j7 P w K mg base CX0 k f fd ps sp
section
variable {X:Cx} {x:Str} {pos:Pos}
theorem jU {st:Stmt} {ps:List Str} {j k:Nat} {sp:Sp} {e:Expr} {es:List Expr} {t:TA} {p:Pos} (h:Has X.prog X.w X.K X.mg X.base x st ps k sp) (hr:Yd j X.A) (ha:PA X (e::es) t) (hk:k<=j:=by decide) (hg:Gl X x:=by rfl) (hdb:(x == ("__debug__" : Str))=false:=by decide) (he:starEach (e::es) X.env=(false,eval e X.env)::starEach es X.env:=by rfl) (hpl:(backTo pos (starEach es X.env)).any (·.1)=false:=by rfl):PE X (.Call (.Name x p) (e::es) [] pos) (qGn sp [] E0 t):=
 let ⟨_,_,D,F⟩:=h
 qGB F (hr.mono hk) hg D.mg D.fn.kp D.bd .nil qL9 ha hdb he hpl
theorem QK {K:wD} {a b:Expr} {ta tb:TE} (ha:PE X a ta) (hb:PE X b tb) (hK:X.K=K:=by rfl) (hs:qFl b:=by exact fun _ _=>rfl):PE X (.Subscript a b pos) (tOp (rIx K) ta tb):=qMA (ixK hK) ha hb hs
theorem jq (i:Nat) {P:List Str} {sc:Scope} {e:Expr} {te:TE} {pos':Pos} (S:qb X.N P sc) (he:PE X e te) (hi:X.N[i]? = some x:=by rfl) (hx:Loc X.env.scope x:=by first | exact .inl rfl | exact .inr rfl) (hs:swapsWith e (some (.Name x pos')) pos.line X.env=pure false:=by rfl) (hf:X.fn x=true\/X.env.scope.names.lookup x=some .local:=by first | exact .inl rfl | exact .inr rfl | assumption):PS X (.Assign [.Name x pos'] e pos) (qJl te (qCM i)):=qHm S.nd hi hx he hs hf
theorem qAp (i:Nat) {P:List Str} {sc:Scope} (S:qb X.N P sc) (hi:X.N[i]? = some x:=by rfl) (hx:Loc X.env.scope x:=by first | exact .inl rfl | exact .inr rfl) (hf:X.fn x=true\/X.env.scope.names.lookup x=some .local:=by first | exact .inl rfl | exact .inr rfl | assumption):PG X (.Name x pos) (qCM i):=qEF S.nd hi hx hf
theorem qAD (i:Nat) {N:List Str} {scope:Scope} {cl:List (Str×Addr)} {C:Addr} {s0:Shared} {H0:Hp} {fp:List Addr} (hi:N[i]? = some x:=by rfl) (hN:N.Nodup:=by decide +kernel) (hx:Loc (qY X N scope cl C s0 H0 fp).env.scope x:=by first | exact .inl rfl | exact .inr rfl) (hf:(qY X N scope cl C s0 H0 fp).fn x=true\/(qY X N scope cl C s0 H0 fp).env.scope.names.lookup x=some .local:=by first | exact .inl rfl | exact .inr rfl | assumption):PG (qY X N scope cl C s0 H0 fp) (.Name x pos) (qCM i):=qEF (X:=qY X N scope cl C s0 H0 fp) hN hi hx hf
end
end L2
namespace L4
theorem ite_no {a b:Prop} (h:b):if false=true then a else b:=h
end L4
namespace PySem.W.Fast
def tw7271474562813914112:=0
def tw13000369298806414656:=0
def tw4098384276664189248:=0
def tw5240424174397537792:=0
def tw1967599063707068064:=0
def tw2541628444526814209:=0
def tw15838775528773000609:=0
def tw2345208668404121185:=0
def tw16241226379543548641:=0
def tw9597841971063164705:=0
def tw15936882756884827969:=0
def tw15742187548840162338:=0
def tw13845426538295641314:=0
def tw4045679152024314178:=0
def tw2214806121317753474:=0
def tw9050170582755855298:=0
def tw3151581603200969795:=0
def tw13347275197410729155:=0
def tw15862015797455372547:=0
def tw4659592105173776675:=0
def tw12340365533420097123:=0
def tw4105336271926198051:=0
def tw17511934122012331811:=0
def tw15179975011054705571:=0
def tw15069547707262759204:=0
def tw3435974008565390212:=0
def tw10731364996797057029:=0
def tw1772375414916201605:=0
def tw10867504333578035461:=0
def tw2711145759242962245:=0
def tw7278469012547698021:=0
def tw17423973539000930917:=0
def tw17157270780129437702:=0
def tw4301412531060734054:=0
def tw6652945339390972262:=0
def tw16663047407072734630:=0
def tw5481013411393236614:=0
def tw16943167466498228870:=0
def tw11844434496474508998:=0
def tw14536196670181457734:=0
def tw3268075633776193350:=0
def tw6747854145184679975:=0
def tw4505301744764114983:=0
def tw12586492799239122055:=0
def tw7372399655986222279:=0
def tw2517142039877294471:=0
def tw16317074438616532551:=0
def tw14244137009651476103:=0
def tw5753574607499584391:=0
def tw909825945446281672:=0
def tw4186928405658078825:=0
def tw1707083992059175625:=0
def tw351700525184262570:=0
def tw15785746285018348042:=0
def tw8544585034068446858:=0
def tw13852130433130897451:=0
def tw10077828731346525643:=0
def tw648893936072686123:=0
def tw13593835998056071883:=0
def tw5942654656921876524:=0
def tw17920536808510568780:=0
def tw18312552969313581484:=0
def tw9119070848207475404:=0
def tw17474494740327749388:=0
def tw9415990513612315404:=0
def tw11022682683564412973:=0
def tw5044038529539128429:=0
def tw4108377040617186093:=0
def tw15032208967046784877:=0
def tw8269218421658699790:=0
def tw16719317355691013166:=0
def tw1153572795798617422:=0
def tw5364117677137123758:=0
def tw3275753062369262478:=0
def tw6671464880531209295:=0
def tw16251351610410853999:=0
def tw15107066317599916879:=0
def tw5001485974632669167:=0
def tw18331272518983295024:=0
def tw17611073517471570032:=0
def tw8253270981479131376:=0
def tw4377048905149331952:=0
def tw7214755355377887792:=0
def tw15095366769482009200:=0
def tw17867619567146907280:=0
def tw17160861470934073008:=0
def tw11711692757032384240:=0
def tw10706946027407321008:=0
def tw18387723645684989936:=0
def tw17051847055258362161:=0
def tw2521823801832250001:=0
def tw3742069803307004721:=0
def tw6629514638297687953:=0
def tw1206150386355731345:=0
def tw18427369751143594897:=0
def tw9755920262935382066:=0
def tw5470462481982520626:=0
def tw10657693622123504018:=0
def tw5887033381908265394:=0
def tw13334549563084353010:=0
def tw10799910122249349906:=0
def tw14026125123207514962:=0
def tw16935245155576024627:=0
def tw13044577304211834483:=0
def tw18242211748454746739:=0
def tw643185686819794803:=0
def tw14855748330259108723:=0
def tw10276628204786945011:=0
def tw169676029184242709:=0
def tw330512086024945077:=0
def tw12018743160807583221:=0
def tw4721982272940516949:=0
def tw16110732766031111989:=0
def tw17088180548548211062:=0
def tw13586913412279520758:=0
def tw18169797988718505654:=0
def tw9358313650004866838:=0
def tw7990556834536945462:=0
def tw5130111252694098774:=0
def tw16771824352361935766:=0
def tw7056905407145470902:=0
def tw3973808522987773942:=0
def tw11830533648925876214:=0
def tw13425513414748113015:=0
def tw715187248609398967:=0
def tw13236575007391267159:=0
def tw9134051363108974359:=0
def tw822716027544278903:=0
def tw1078213562907660183:=0
def tw12632962289730031575:=0
def tw9932672030659646776:=0
def tw15206145690545570520:=0
def tw10062592652606564089:=0
def tw16922959145007562585:=0
def tw12890559174902304633:=0
def tw15684688479049623642:=0
def tw6521851730526191834:=0
def tw18195915658101601626:=0
def tw12506860139810966138:=0
def tw16971382794046862266:=0
def tw7144726831180723291:=0
def tw1971131629322074235:=0
def tw1746057575638740123:=0
def tw6657101314833619451:=0
def tw8478922434659913275:=0
def tw14981292287681004091:=0
def tw11262317492460728923:=0
def tw7467174329283329755:=0
def tw13493853995467559643:=0
def tw16773827071258519451:=0
def tw14117663623932399611:=0
def tw4568925588760975676:=0
def tw3932168016415454844:=0
def tw2941727765431642876:=0
def tw16347131201470209852:=0
def tw12404068744311909853:=0
def tw13829572748249594397:=0
def tw14655688691237434045:=0
def tw581057188393272221:=0
def tw8112807552318823454:=0
def tw7515508005633003902:=0
def tw439777212253535806:=0
def tw2748208297331110526:=0
def tw10935642035439910654:=0
def tw5284587044072091486:=0
def tw17433583723548169150:=0
def tw1996564666871885887:=0
def tw16281234639570321599:=0
def tw3335050898978236671:=0
def tw11326884806877856063:=0
def tw8141106566547146143:=0
def tw7851944666574772671:=0
def tw1773600947815688927:=0
def tw14083540248176503583:=0
end PySem.W.Fast
def PySem.W.Fast.tw13200196404389617214:PySem.Program:=PySem.Challenge.pw_rillturn_k20_all_falls
theorem PySem.W.Fast.te13200196404389617214:PySem.Challenge.pw_rillturn_k20_all_falls=PySem.W.Fast.tw13200196404389617214:=rfl
namespace K20
open PySem L2 L4
local macro_rules | `(tactic| walk_at "nm")=>`(tactic| first
 | ((with_reducible refine qNy ?_); intro _ _ _ _ _ _ _ _ _ _ _)
 | ((with_reducible refine nm5 ?_); intro _ _ _ _ _ _)
 | ((with_reducible refine nm4 ?_); intro _ _ _ _ _)
 | ((with_reducible refine nm3 ?_); intro _ _ _ _)
 | ((with_reducible refine nm2 ?_); intro _ _ _))
local macro_rules | `(tactic| walk_at "nf")=>`(tactic| first
 | ((with_reducible refine nf6 ?_); intro _ _ _ _ _ _ _)
 | ((with_reducible refine nf1 ?_); intro _ _))
local macro_rules | `(tactic| walk_at "nw")=>`(tactic| first
 | ((with_reducible refine nw1 ?_); intro _ _))
local macro_rules | `(tactic| walk_at "ps")=>`(tactic| try ((with_reducible refine qMc ?_); intro _))
local macro_rules | `(tactic| walk_at "rf")=>`(tactic| first | rfl | decide)
local macro_rules | `(tactic| walk_at "op")=>`(tactic| first
 | ((with_reducible refine' qNH ?h1 ?h2 ?_); (case h1=>rfl); (case h2=>rfl))
 | ((with_reducible refine' OpV.l (qNH ?h1 ?h2 ?_)); (case h1=>rfl); (case h2=>rfl))
 | ((with_reducible refine' qNE ?h1 ?h2 ?_); (case h1=>rfl); (case h2=>rfl))
 | ((with_reducible refine' OpV.l (qNE ?h1 ?h2 ?_)); (case h1=>rfl); (case h2=>rfl))
 | ((with_reducible refine' OpV.l (qM8 ?h1 ?h2 ?_)); (case h1=>rfl); (case h2=>rfl))
 | ((with_reducible refine' OpV.l (qMb ?h1 ?h2 ?_)); (case h1=>rfl); (case h2=>rfl))
 | ((with_reducible refine' qMW ?h1 ?h2 ?_); (case h1=>rfl); (case h2=>rfl))
 | ((with_reducible refine' qLc ?h1 ?h2 ?_); (case h1=>rfl); (case h2=>rfl))
 | ((with_reducible refine' qJ8 ?h1 ?h2 ?h3 ?_); (case h1=>rfl); (case h2=>rfl); (case h3=>first | exact Jx _ | assumption))
 | ((with_reducible refine' qJS ?h1 ?h2 ?h3 ?_); (case h1=>rfl); (case h2=>rfl); (case h3=>first | exact Jx _ | assumption))
 | ((with_reducible refine' OpV.r (OpV.l (qC4 ?h1 ?h2 ?h3 ?_))); (case h1=>rfl); (case h2=>rfl); (case h3=>exact szl (fH rfl)))
 | ((with_reducible refine' qK9 ?h1 ?h2 ?h3 ?_); (case h1=>rfl); (case h2=>rfl); (case h3=>rfl))
 | ((with_reducible refine' qCS ?h1 ?h2 ?h3 ?_); (case h1=>rfl); (case h2=>rfl); (case h3=>rfl))
 | ((with_reducible refine' qCS ?h1 ?h2 ?h3 ?_); (case h1=>rfl); (case h2=>rfl); (case h3=>assumption))
 | ((with_reducible refine' qK9 ?h1 ?h2 ?h3 ?_); (case h1=>rfl); (case h2=>rfl); (case h3=>assumption)))
local macro_rules | `(tactic| walk_at "ca")=>`(tactic| first
 | ((with_reducible refine' u_i ?h1 ?_); (case h1=>rfl))
 | ((with_reducible refine' qOC ?h1 ?h2 ?_); (case h1=>rfl); (case h2=>rfl))
 | ((with_reducible refine' qLT ?h1 ?_); (case h1=>rfl))
 | ((with_reducible refine' qKp ?h1 ?_); (case h1=>rfl))
 | ((with_reducible refine' qHI ?h1 ?_); (case h1=>rfl))
 | ((with_reducible refine' qJd ?h1 ?_); (case h1=>rfl))
 | ((with_reducible refine' qGp ?h1 ?h2 ?_); (case h1=>rfl); (case h2=>rfl)))
local macro_rules | `(tactic| walk_at "v1")=>`(tactic| first
 | with_reducible refine qOI ?_
 | with_reducible refine qMM ?_
 | ((with_reducible refine' qI3 ?h ?_); (case h=>rfl))
 | ((with_reducible refine' qI1 ?h ?_); (case h=>rfl))
 | ((with_reducible refine' qIe ?h ?_); (case h=>rfl))
 | ((with_reducible refine' qIQ ?h ?_); (case h=>rfl))
 | with_reducible refine qJI ?_
 | with_reducible refine qN7 ?_
 | with_reducible refine qN9 ?_
 | (refine ⟨⟨rfl,_,(rfl:rd _ _=some (D.lst _))⟩,?_⟩)
 | with_reducible refine qLK ?_
 | with_reducible refine qMh ?_
 | with_reducible refine qMJ ?_
 | with_reducible refine qMS ?_
 | with_reducible refine qOH ?_
 | with_reducible refine qMu ?_
 | with_reducible refine qML ?_
 | with_reducible refine qNs ?_
 | with_reducible refine qLQ ?_
 | with_reducible refine qKv ?_
 | with_reducible refine qNv ?_
 | with_reducible refine v_not ?_
 | with_reducible refine qLm ?_
 | with_reducible refine t_B ?_
 | with_reducible refine qMd ?_
 | with_reducible refine Qy ?_
 | with_reducible refine qED ?_
 | with_reducible refine qKd ?_
 | walk_at "nm"
 | with_reducible refine Ya ?_
 | with_reducible refine qCU ?_
 | ((with_reducible refine' qU ?h ?_); (case h=>rfl))
 | ((with_reducible refine' qHF ?h1 ?h2 ?_); (case h1=>rfl); (case h2=>rfl))
 | with_reducible refine J3 ?_
 | with_reducible refine qM5 ?_
 | (refine ⟨_,(rfl:Rs.it _=some _),?_⟩)
 | (refine ⟨_,(rfl:_=Rs.b _),?_⟩)
 | with_reducible refine qHr ?_
 | with_reducible refine qMV ?_
 | with_reducible refine qKu ?_
 | with_reducible refine qCq ?_
 | with_reducible refine jC ?_
 | walk_at "op"
 | walk_at "ca"
 | (refine ⟨_,(rfl:rd _ _=some _),?_⟩)
 | (refine ⟨_,_,(rfl:rd _ _=some _),(rfl:qLz _=some _),?_⟩)
 | (refine ⟨_,(rfl:its _=some _),szl (fH rfl),?_⟩))
local macro_rules | `(tactic| walk_at "v")=>`(tactic| (repeat (walk_at "v1")))
local macro_rules | `(tactic| walk_at "st")=>`(tactic| try dsimp only [wW,uC,Nat.reduceAdd,Nat.reduceSub,wO,List.cons_append,uB,List.set,qD3,List.map,Rs.sl,wb,L4.outer,JM,List.drop,inner,List.getElem?_cons_zero,SM,List.headD,List.tail,qGM,Option.getD])
local macro_rules | `(tactic| walk_at "call")=>`(tactic| ((with_reducible refine Yi ?_); walk_at "v"; (refine ⟨of_decide_eq_true rfl,?_⟩); walk_at "st"))
local macro_rules | `(tactic| walk_at "J")=>`(tactic| first
 | ((with_reducible refine' qLq ?h1 ?h2 ?_); (case h1=>(walk_at "vJ"; exact ⟨rfl,rfl⟩)); (case h2=>(intro _; walk_at "vJ"; exact ⟨rfl,rfl⟩)))
 | ((with_reducible refine' qKM ?h1 ?h2 ?_); (case h1=>(walk_at "vJ"; exact ⟨rfl,rfl⟩)); (case h2=>(intro _; walk_at "vJ"; exact ⟨rfl,rfl⟩))))
local macro_rules | `(tactic| walk_at "vJ")=>`(tactic| (repeat (first | walk_at "v1" | walk_at "J")))
local macro_rules | `(tactic| walk_at "sc")=>`(tactic| exact ⟨rfl,rfl,rfl,by decide +kernel,rfl,by decide +kernel,by decide +kernel⟩)
local macro_rules | `(tactic| walk_at "cs")=>`(tactic| exact ⟨rfl,by decide +kernel,by decide +kernel,by repeat' (first | exact trivial | refine ⟨⟨rfl,rfl,by first | exact Or.inl rfl | exact Or.inr rfl⟩,?_⟩),by decide +kernel⟩)
local macro_rules | `(tactic| walk_at "vc")=>`(tactic| (walk_at "v"; walk_at "call"))
local macro_rules | `(tactic| walk_at "sv")=>`(tactic| (walk_at "st"; walk_at "v"))
def top (i:Nat):Stmt:=PySem.Challenge.pw_rillturn_k20_all_falls.main.body.getD i (.Pass ⟨0,0,0,0⟩)
structure Txt (mg:Str->Option Value):Prop where
 n_min:mg "min" = none
 n_max:mg "max" = none
 n_tuple:mg "tuple" = none
 n_range:mg "range" = none
 n_len:mg "len" = none
 n_zip:mg "zip" = none
 n_list:mg "list" = none
 n_sorted:mg "sorted" = none
 n_all:mg "all" = none
 n_isinstance:mg "isinstance" = none
 n_bool:mg "bool" = none
 n_int:mg "int" = none
 n_set:mg "set" = none
 n_enumerate:mg "enumerate" = none
 n_ValueError:mg "ValueError" = none
 g_MOST_FALLS:∃ t,mg "MOST_FALLS" = some (.int 300 t)
abbrev Tie:=Int×Int
def jX (t:Tie):D:=.tup [.int t.1,.int t.2]
def qAL (n:Nat) (ts:List Tie):D:=.tup [.int n,.tup (ts.map jX)]
abbrev qN (ns:List Int):List D:=ns.map D.int
theorem ofd {p:Prop} {i:Decidable p} (h:@decide p i=true):p:=@of_decide_eq_true p i h
theorem sz2 {a:Nat} (h:a<=1000):a<=sizeLine:=zK h (by rw [xW]; decide)
def mk (a b:Int):Tie:=(if b<a then b else a,if b > a then b else a)
def jx (q:Int×Int×Int):List D:=[.int q.1,.int q.2.1,.int q.2.2]
def qKi:PV:=fun as Φ=>∃ c:Int,as=[.d (.int c)]/\∀ q,Φ (.l (jx q)) as
def qGL:PV:=fun as Φ=>∃(q:Int×Int×Int) (b:Int),as=[.l (jx q),.d (.int b)]/\0<b/\b<1073741824/\∀ r q',0<=r->r<b->Φ (.d (.int r)) [.l (jx q'),.d (.int b)]
section
variable {P:Program} {w:World} {K:wD} {mg:Str->Option Value} {base:Heap} {f:Addr} {fd:FuncData}
theorem jb:qb ["pool","base","digit","mixed","stir"] ["pool","base"] (qJ (top 13)):=by walk_at "sc"
theorem qBo (F:Fun K "_law_next" "_law_next" (top 13) f fd) (T:Txt mg):j7 P w K mg base CX0 1 f fd ["pool","base"] (spV qGL):=by
 refine Qf F jb [0,1] (fun as Φ h=>?_) (fun cdv A outer s H E hr=>?_)
 ·obtain ⟨q,b,rfl,_⟩:=h
  rfl
 ·have hu:=hr.units
  refine ⟨_,(qC (QX (qX qDX (QK (pv 0) qF) qF (qp _))
   (qC (jq 2 jb (qd J8 (QK (pv 0) qF) (pv 1)))
    (qC (Yy (qd qCB (QK (pv 0) qF) (pv 1)) (qAx (pv 0) qF set_list))
    (qG (qu (pv 2)))))
   jA)
   (qC (Yy (qd (qD9 (K:=K) rfl) (QK (pv 0) qF) qF) (qAx (pv 0) qF set_list))
   (qC (jq 3 jb (qd J8 (qd (qD9 (K:=K) rfl) (QK (pv 0) qF) (qd opM qF (QK (pv 0) qF))) qF))
   (qC (jq 4 jb (qd J8 (qd opM (qd (qD9 (K:=K) rfl) (pv 3) qF) (qd (qD9 (K:=K) rfl) (pv 3) qF)) qF))
   (qG (qu (qd J8 (qd qCB (qd J8 (qd opM (pv 4) (pv 4)) qF) qF) (pv 1)))))))),?_⟩
  rintro as Φ ⟨⟨p0,p1,p2⟩,b,rfl,b0,b1,k⟩
  walk_at "sv"
  refine qBu (fun hc=>?_) (fun hc=>?_)
  ·walk_at "v"
   refine YY rfl rfl b0 ?_
   walk_at "v"
   refine YY rfl rfl ⟨b0,b1⟩ ?_
   walk_at "v"
   refine ⟨_,_,_,rfl,rfl,rfl,?_⟩
   walk_at "sv"
   exact ⟨⟨_,rfl⟩,k _ (_,_,_) (fP _ (by omega)) (gO _ b0)⟩
  ·refine jC ?_
   walk_at "v"
   refine ⟨_,_,_,rfl,rfl,rfl,?_⟩
   walk_at "st"
   generalize hp2:p2+1=p3
   walk_at "v"
   refine OpV.l (YY rfl rfl (.inl ⟨by decide,by decide⟩) ?_)
   walk_at "v"
   refine YY rfl rfl (by show (0:Int)<_; decide) ?_
   walk_at "v"
   have e0:(((p0,p1,p2):Int×Int×Int).snd.fst+6053*p3) % 1000000007=(p1+6053*p3) % 1000000007:=rfl
   rw [e0]
   generalize hm:(p1+6053*p3) % 1000000007=m
   have m0:0<=m:=by rw [<- hm]; exact fP _ (by decide)
   have m1:m<1000000007:=by rw [<- hm]; exact gO _ (by decide)
   refine OpV.l (YY rfl rfl (.inl ⟨by omega,by omega⟩) ?_)
   walk_at "v"
   refine YY rfl rfl (by show (0:Int)<_; decide) ?_
   walk_at "v"
   generalize hs:(m+29)*(m+91193) % 998244353=st
   have s0:0<=st:=by rw [<- hs]; exact fP _ (by decide)
   have s1:st<998244353:=by rw [<- hs]; exact gO _ (by decide)
   refine OpV.l (YY rfl rfl (.inl ⟨by omega,by omega⟩) ?_)
   walk_at "v"
   refine YY rfl rfl (by show (0:Int)<_; decide) ?_
   walk_at "v"
   refine YY rfl rfl ⟨by decide,by decide⟩ ?_
   walk_at "v"
   refine YY rfl rfl b0 ?_
   exact ⟨⟨_,rfl⟩,k _ (p0,p1,p3) (fP _ (by omega)) (gO _ b0)⟩
def places (n:Nat):List Int:=(zA n).map fun k:Nat=>(k:Int)
theorem places_len (n:Nat):(places n).length=n:=by unfold places; rw [wB,vB]
theorem qq {n:Nat} {p:Int}:p∈places n↔0<=p/\p<(n:Int):=by
 unfold places
 rw [zD]
 constructor
 ·rintro ⟨k,hk,rfl⟩
  have:=zN.mp hk
  omega
 ·rintro ⟨h0,h1⟩
  exact ⟨p.toNat,zN.mpr (by omega),by omega⟩
def Jq (n:Nat) (o:List Int):Prop:=o.Perm (places n)
theorem Jq.len {n:Nat} {o:List Int} (h:Jq n o):o.length=n:=by rw [h.length_eq,places_len]
theorem Jq.mem {n:Nat} {o:List Int} (h:Jq n o) {p:Int}:p∈o↔0<=p/\p<(n:Int):=by rw [h.mem_iff,qq]
theorem qBn (n:Nat):(places n).Nodup:=by
 unfold places
 rw [yZ,vL]
 exact List.Pairwise.imp (fun {a b} h z=>h (by omega)) (yZ.mp (hX (n:=n)))
theorem Jq.nd {n:Nat} {o:List Int} (h:Jq n o):o.Nodup:=h.nodup_iff.mpr (qBn n)
def okp (n:Nat) (t:Tie):Prop:=0<=t.1/\t.1<t.2/\t.2<(n:Int)
structure qN4 (n:Nat) (ts:List Tie):Prop where
 pos:1<=n
 few:n<=9
 len:ts.length<=20
 ok:∀ t∈ts,okp n t
def qH9 (t:Tie):List Int:=[t.1,t.2]
def qFJ (r:List Int):Tie:=(r.getD 0 0,r.getD 1 0)
theorem qEM {nss:List (List Int)} {us:List Tie} (h:nss.Perm (us.map qH9)):∃ ts:List Tie,nss=ts.map qH9/\ts.Perm us:=by
 refine ⟨nss.map qFJ,?_,?_⟩
 ·rw [yB]
  have:∀ r∈nss,qH9 (qFJ r)=r:=fun r hr=>by
   obtain ⟨t,_,rfl⟩:=zD.mp (h.mem_iff.mp hr)
   rfl
  symm
  have e:nss.map (qH9∘qFJ)=nss.map id:=gG this
  rw [e,List.map_id]
 ·have:=h.map qFJ
  rw [yB] at this
  have e:us.map (qFJ∘qH9)=us:=List.map_id'' (fun _=>rfl) us
  rw [e] at this
  exact this
theorem qFu (us:List Tie):(us.map qH9).map QT=us.map jX:=by
 rw [yB]
 rfl
theorem qK8 {n:Nat} {a b:Int} (ha:0<=a/\a<(n:Int)) (hb:0<=b/\b<(n:Int)) (ne:a≠b):okp n (mk a b):=by
 unfold okp mk
 refine ⟨?_,?_,?_⟩
 ·show 0<=(if b<a then b else a)
  split <;> omega
 ·show (if b<a then b else a)<(if b > a then b else a)
  split <;> split <;> omega
 ·show (if b > a then b else a)<(n:Int)
  split <;> omega
theorem qDF {n:Nat} {o:List Int} (O:Jq n o) {a:Int} (h0:0<=a) (h1:a<(n:Int)):∃ p,atI (qN o) a=some (.int p)/\o[a.toNat]? = some p/\0<=p/\p<(n:Int):=by
 have hl:=O.len
 have hk:a.toNat<o.length:=by omega
 refine ⟨o[a.toNat],?_,wA hk,?_⟩
 ·have e:a=((a.toNat:Nat):Int):=by omega
  conv=>lhs; rw [e]
  exact Qd (by rw [wQ,wA hk]; rfl)
 ·exact O.mem.mp (yI hk)
theorem qBG {α β:Type} (f:α->β):∀(l:List α) (j:Nat),(l.map f).eraseIdx j=(l.eraseIdx j).map f
 | [],_=>rfl
 | _::_,0=>rfl
 | x::l,j+1=>by
  show f x::(l.map f).eraseIdx j=f x::(l.eraseIdx j).map f
  rw [qBG f l j]
theorem Yq {α:Type}:∀(l:List α) {j:Nat} (h:j<l.length),(l[j]::l.eraseIdx j).Perm l
 | x::l,0,_=>TM _
 | x::l,j+1,h=>by
  have h':j<l.length:=by simpa using h
  show (l[j]::x::l.eraseIdx j).Perm (x::l)
  exact (List.Perm.swap _ _ _).trans ((Yq l h').cons x)
structure qLy (n:Nat) (ts:List Tie):Prop extends qN4 n ts where
 nd:ts.Nodup
theorem at_getD {ns:List Int} {a:Int} (h0:0<=a) (h1:a<(ns.length:Int)):atI (qN ns) a=some (.int (ns.getD a.toNat 0)):=by
 have hk:a.toNat<ns.length:=by omega
 have e:a=((a.toNat:Nat):Int):=by omega
 conv=>lhs; rw [e]
 exact Qd (by rw [wQ,wA hk,wH,wA hk]; rfl)
def qKH:PV:=fun as Φ=>∃(q:Int×Int×Int) (n:Nat),as=[.l (jx q),.d (.int n)]/\n<=40/\∀ o q',Jq n o->Φ (.l (qN o)) [.l (jx q'),.d (.int n)]
def pPair:PV:=fun as Φ=>∃ a b:Int,as=[.d (.int a),.d (.int b)]/\Φ (.d (jX (mk a b))) as
theorem qBi:qb ["cell"] ["cell"] (qJ (top 12)):=by walk_at "sc"
theorem qAz (F:Fun K "_law_pool" "_law_pool" (top 12) f fd) (T:Txt mg):j7 P w K mg base CX0 1 f fd ["cell"] (spV qKi):=by
 refine Qf F qBi [0] (fun as Φ h=>?_) (fun cdv A outer s H E hr=>?_)
 ·obtain ⟨c,rfl,_⟩:=h
  rfl
 ·have hu:=hr.units
  refine ⟨_,(qG (qu (jB (qB (qW (qBa rfl) (by rfl) T.n_max PyProof.Rows.boot_max (qB qF (qB (qd YX (pv 0) (qd qHt qF qF)) qE))) (qB (qd J8 (pv 0) (qd qHt qF qF)) (qB qF qE)))))),?_⟩
  rintro as Φ ⟨c,rfl,k⟩
  walk_at "sv"
  refine YY rfl rfl ⟨by decide,by decide,by decide⟩ ?_
  walk_at "v"
  refine YY rfl rfl ⟨by decide,by decide,by decide⟩ ?_
  refine YY rfl rfl (by show (0:Int)<_; decide) ?_
  walk_at "v"
  exact ⟨⟨_,rfl⟩,k (_,_,_)⟩
theorem qBm:qb ["a","b"] ["a","b"] (qJ (top 16)):=by walk_at "sc"
theorem qBV (F:Fun K "_law_pair" "_law_pair" (top 16) f fd) (T:Txt mg):j7 P w K mg base CX0 1 f fd ["a","b"] (spV pPair):=by
 refine Qf F qBm [0,1] (fun as Φ h=>?_) (fun cdv A outer s H E hr=>?_)
 ·obtain ⟨a,b,rfl,_⟩:=h
  rfl
 ·have hu:=hr.units
  refine ⟨_,(qG (qu (QF (qB (qW (qE6 rfl) (by rfl) T.n_min PyProof.Rows.boot_min (qB (pv 0) (qB (pv 1) qE))) (qB (qW (qBa rfl) (by rfl) T.n_max PyProof.Rows.boot_max (qB (pv 0) (qB (pv 1) qE))) qE))))),?_⟩
  rintro as Φ ⟨a,b,rfl,k⟩
  walk_at "sv"
  exact ⟨⟨_,rfl⟩,k⟩
theorem jR:qb ["pool","many","left","found"] ["pool","many"] (qJ (top 15)):=by walk_at "sc"
theorem JU (F:Fun K "_law_shuffled" "_law_shuffled" (top 15) f fd) (T:Txt mg) (XAJ:Has P w K mg base "_law_next" (top 13) ["pool","base"] 1 (spV qGL)):j7 P w K mg base CX0 2 f fd ["pool","many"] (spV qKH):=by
 refine Qf F jR [0,1] (fun as Φ h=>?_) (fun cdv A outer s H E hr=>?_)
 ·obtain ⟨q,b,rfl,_⟩:=h
  rfl
 ·have hu:=hr.units
  refine ⟨_,(qC (jq 2 jR (jO (JN rfl) (by rfl) T.n_list fF (qB (jO YG (by rfl) T.n_range SN (qB (pv 1) qE)) qE)))
   (qC (jq 3 jR (jB qE))
   (qC (Jb yQ (qX (qIJ hu) (pv 2) (jB qE) (qp _))
   (qG (Jw (Ym (K:=K) rfl uA ZN ZO j8 (pv 3) (qB (Ym (K:=K) rfl uA PySem.F.slot_list_pop PySem.F.type_list_pop qHG (pv 2) (qB (jU XAJ hr (qB (pv 0) (qB (qW (qHs (K:=K) rfl) (by rfl) T.n_len xK (qB (pv 2) qE)) qE))) qE)) qE)))))
   (qG (qu (pv 3)))))),?_⟩
  rintro as Φ ⟨q,n,rfl,hn,k⟩
  walk_at "sv"
  refine ⟨n,⟨_,rfl,rfl⟩,by omega,by omega,?_⟩
  rw [zM]
  have e0:((zA n).map fun k:Nat=>D.int (k:Int))=qN (places n):=by
   unfold qN places
   rw [yB]
   rfl
  rw [e0]
  refine qU rfl ?_
  walk_at "sv"
  walk_at "st"
  walk_at "nw"
  refine YM (fun m ρ=>∃(q:Int×Int×Int) (lf os:List Int),ρ=[.l (jx q),.d (.int n),.l (qN lf),.l (qN os)]/\lf.length=m/\(os++lf).Perm (places n)) n ⟨q,places n,[],rfl,places_len n,TM _⟩ ?_
  rintro m ρ ⟨q,lf,os,rfl,hl,pm⟩
  have pl:=pm.length_eq
  rw [places_len,wV] at pl
  walk_at "v"
  refine qBu (fun hc=>?_) (fun hc=>?_)
  ·have hne:lf≠[]:=fun z=>by
    subst z
    cases hc
   have hpos:0<lf.length:=List.length_pos_iff.mpr hne
   walk_at "v"
   refine Yi ?_
   walk_at "v"
   refine ⟨of_decide_eq_true rfl,?_⟩
   walk_at "st"
   refine ⟨q,_,rfl,by rw [wB]; omega,by rw [wB]; omega,fun r q' r0 r1=>⟨⟨_,rfl⟩,?_⟩⟩
   rw [wB] at r1
   obtain ⟨j,rfl⟩:∃ j:Nat,r=(j:Int):=⟨r.toNat,by omega⟩
   have hj:j<lf.length:=by omega
   walk_at "sv"
   refine qIu (k:=j) (d:=.int lf[j]) rfl rfl (by rw [wQ,wA hj]; rfl) (by rw [wB]; omega) ?_
   walk_at "sv"
   refine JY rfl rfl (qP (by rw [wB]; omega)) ?_
   walk_at "st"
   have ee:(qN lf).eraseIdx j=qN (lf.eraseIdx j):=by
    unfold qN
    rw [qBG]
   have ef:qN os++[D.int lf[j]]=qN (os++[lf[j]]):=by
    unfold qN
    rw [yJ]
    rfl
   rw [ee,ef]
   refine ⟨m - 1,by omega,q',lf.eraseIdx j,os++[lf[j]],rfl,by rw [List.length_eraseIdx,if_pos hj]; exact congrArg (· - 1) hl,?_⟩
   refine List.Perm.trans ?_ pm
   rw [yF]
   exact List.Perm.append_left os (Yq lf hj)
  ·have he:lf=[]:=by
    cases lf with
    | nil=>rfl
    | cons a l=>exact absurd rfl hc
   subst he
   rw [zI] at pm
   refine qCN (i:=3) rfl ?_
   walk_at "st"
   exact ⟨⟨_,rfl⟩,k os q pm⟩
def YZ (E:List Tie) (u x:Int):Prop:=(u,x)∈E\/(x,u)∈E
inductive j6 (R:Int->Int->Prop) (a:Int):Int->Prop
 | refl:j6 R a a
 | snoc {b c:Int}:j6 R a b->R b c->j6 R a c
theorem j6.trans {R:Int->Int->Prop} {a b c:Int} (h:j6 R a b) (g:j6 R b c):j6 R a c:=by
 induction g with
 | refl=>exact h
 | snoc _ e ih=>exact .snoc ih e
theorem j6.symm {R:Int->Int->Prop} (sy:∀ x y,R x y->R y x) {a b:Int} (h:j6 R a b):j6 R b a:=by
 induction h with
 | refl=>exact .refl
 | snoc _ e ih=>exact j6.trans (.snoc .refl (sy _ _ e)) ih
theorem qFn {E:List Tie} (x y:Int) (h:YZ E x y):YZ E y x:=Or.symm h
def put {α:Type} (f:Int->α) (b:Int) (v:α):Int->α:=fun p=>if p=b then v else f p
def qGC (t:Tie):List Key:=qJT [t.1,t.2]
structure TK (n:Nat) (ks:List (List Key×D)) (us:List Tie):Prop where
 keys:ks.map (·.1)=us.map qGC
 nd:us.Nodup
 ok:∀ t∈us,okp n t
theorem qHD {s t:Tie} (h:qGC s=qGC t):s=t:=by
 have h1:([uS s.1,uS s.2]:List Key)=[uS t.1,uS t.2]:=h
 injection h1 with a b
 injection b with b _
 injection a with a
 injection b with b
 exact Prod.ext a b
theorem TK.len {n:Nat} {ks:List (List Key×D)} {us:List Tie} (T:TK n ks us):ks.length=us.length:=by
 have:=congrArg fL T.keys
 rwa [wB,wB] at this
theorem TK.put {n:Nat} {ks:List (List Key×D)} {us:List Tie} (T:TK n ks us) {t:Tie} (h:okp n t) (d:D):∃ us',TK n (putD ks (qGC t) d) us'/\us'.length<=us.length+1/\(∀ s∈us,s∈us')/\t∈us':=by
 unfold putD
 by_cases c:(ks.any fun p=>decide (p.1=qGC t))=true
 ·rw [if_pos c]
  have hin:t∈us:=by
   obtain ⟨p,hp,e⟩:=UB.mp c
   have hk:qGC t∈us.map qGC:=by
    rw [<- T.keys,<- of_decide_eq_true e]
    exact zD.mpr ⟨p,hp,rfl⟩
   obtain ⟨s,hs,es⟩:=zD.mp hk
   rw [<- qHD es]
   exact hs
  refine ⟨us,⟨?_,T.nd,T.ok⟩,Nat.le_succ _,fun _ z=>z,hin⟩
  rw [<- T.keys,yB]
  apply gG
  intro p _
  show (if p.1=qGC t then (p.1,d) else p).1=p.1
  split <;> rfl
 ·rw [if_neg c]
  refine ⟨us++[t],⟨by rw [yJ,yJ,T.keys]; rfl,?_,fun s hs=>?_⟩,by rw [wV]; exact wF _,fun s z=>zT _ z,zE _ (wY.mpr rfl)⟩
  ·refine ZI.mpr ⟨T.nd,zX.mpr ⟨zU,vD⟩,fun s hs y hy z=>c ?_⟩
   rw [wY.mp hy] at z
   have hk:qGC t∈ks.map (·.1):=by
    rw [T.keys,<- z]
    exact zD.mpr ⟨s,hs,rfl⟩
   obtain ⟨p,hp,e⟩:=zD.mp hk
   exact UB.mpr ⟨p,hp,decide_eq_true e⟩
  ·rcases zR.mp hs with z | z
   ·exact T.ok s z
   ·rw [wY.mp z]
    exact h
theorem Qw {us us':List Tie} (h:∀ t∈us,t∈us') {a b:Int} (c:j6 (YZ us) a b):j6 (YZ us') a b:=by
 induction c with
 | refl=>exact .refl
 | snoc _ e ih=>exact .snoc ih (e.imp (h _) (h _))
structure TKW (wh:Bool) (o:List Int) (n:Nat) (ks:List (List Key×D)) (us:List Tie):Prop extends TK n ks us where
 lk:wh=true->∀ p∈o,j6 (YZ us) (o.getD 0 0) p
theorem TKW.put {wh:Bool} {o:List Int} {n:Nat} {ks:List (List Key×D)} {us:List Tie} (T:TKW wh o n ks us) {t:Tie} (h:okp n t) (d:D):∃ us',TKW wh o n (putD ks (qGC t) d) us'/\us'.length<=us.length+1:=by
 obtain ⟨us',a,b,c,_⟩:=T.toTK.put h d
 exact ⟨us',⟨a,fun z p hp=>Qw c (T.lk z p hp)⟩,b⟩
theorem qIc {us:List Tie} {p q:Int} (h:mk p q∈us):YZ us q p:=by
 unfold mk at h
 by_cases c:p<q
 ·rw [if_pos c,if_neg (by omega)] at h
  exact .inr h
 ·rw [if_neg c] at h
  by_cases e:p > q
  ·rw [if_pos e] at h
   exact .inl h
  ·rw [if_neg e] at h
   have:p=q:=by omega
   subst this
   exact .inl h
theorem qGO {n:Nat} {o:List Int} {ts:List Tie} (O:Jq n o) (h:∀ p∈o,j6 (YZ ts) (o.getD 0 0) p):∀ a∈places n,j6 (YZ ts) 0 a:=fun a ha=>by
 have h0:(0:Int)∈o:=O.mem.mpr (by have:=qq.mp ha; omega)
 exact ((h 0 h0).symm qFn).trans (h a (O.mem.mpr (qq.mp ha)))
theorem qHb {n:Nat} {o:List Int} (O:Jq n o) (h:0<n):∃ p,atI (qN o) (-1)=some (.int p)/\o[n - 1]? = some p/\0<=p/\p<(n:Int):=by
 have hl:=O.len
 have ne:o≠[]:=fun z=>by rw [z] at hl; simp at hl; omega
 have e:o=o.dropLast++[o.getLast ne]:=(List.dropLast_concat_getLast ne).symm
 have hk:n - 1<o.length:=by omega
 refine ⟨o.getLast ne,?_,?_,O.mem.mp (List.getLast_mem ne)⟩
 ·conv=>lhs; rw [e]
  unfold qN
  rw [yJ]
  exact qHR _ _
 ·rw [wA hk,List.getLast_eq_getElem]
  congr 1
  congr 1
  omega
theorem ord_ne' {n:Nat} {o:List Int} (O:Jq n o) {i j:Nat} {p r:Int} (ne:i≠j) (ha:o[i]? = some p) (hb:o[j]? = some r):p≠r:=by
 intro z
 subst z
 obtain ⟨ka,ea⟩:=wM.mp ha
 obtain ⟨kb,eb⟩:=wM.mp hb
 exact ne ((VR O.nd).mp (ea.trans eb.symm))
def qLh:PV:=fun as Φ=>∃(q:Int×Int×Int) (most room:Nat) (wh:Bool),as=[.l (jx q),.d (.int most),.d (.int room),.d (.bl wh)]/\1<=most/\most<=9/\(wh=true->8<=room)/\room<=20/\∀ n ts q',qLy n ts->n<=most->ts.length<=room->(wh=true->∀ a∈places n,j6 (YZ ts) 0 a)->Φ (.d (qAL n ts)) [.l (jx q'),.d (.int most),.d (.int room),.d (.bl wh)]
theorem qKW {L i:Nat} (h:2*L<=i*(i - 1)):2*(L+i)<=(i+1)*(i+1 - 1):=by
 cases i with
 | zero=>exact h
 | succ k=>
  have h':2*L<=(k+1)*k:=h
  have e:(k+1+1)*(k+1)=(k+1)*k+(k+1)+(k+1):=by rw [Nat.mul_comm,Nat.mul_succ,Nat.mul_succ]
  show 2*(L+(k+1))<=(k+1+1)*(k+1)
  rw [e]
  omega
theorem qCk {L i:Nat} (h:2*L<=i*(i - 1)) (g:i<=9):L<=36:=by
 have:i*(i - 1)<=9*8:=Nat.mul_le_mul g (by omega)
 omega
theorem qf:qb ["pool","most","room","whole","many","share","ties","order","k","pairs","b"] ["pool","most","room","whole"] (qJ (top 17)):=by walk_at "sc"
theorem qCb (F:Fun K "_law_web" "_law_web" (top 17) f fd) (T:Txt mg) (XAJ:Has P w K mg base "_law_next" (top 13) ["pool","base"] 1 (spV qGL))
  (XAB:Has P w K mg base "_law_shuffled" (top 15) ["pool","many"] 2 (spV qKH))
  (XAK:Has P w K mg base "_law_pair" (top 16) ["a","b"] 1 (spV pPair)):j7 P w K mg base CX0 3 f fd ["pool","most","room","whole"] (spV qLh):=by
 refine Qf F qf [0,1,2,3] (fun as Φ h=>?_) (fun cdv A outer s H E hr=>?_)
 ·obtain ⟨q,m,r,wh,rfl,_⟩:=h
  rfl
 ·have hu:=hr.units
  refine ⟨_,(qC (jq 4 qf (qd (qD9 (K:=K) rfl) qF (jU XAJ hr (qB (pv 0) (qB (pv 1) qE)))))
   (qC (jq 5 qf (QK (jB (qB qF (qB qF (qB qF (qB qF (qB qF (qB qF qE))))))) (jU XAJ hr (qB (pv 0) (qB qF qE)))))
   (qC (qHm (i:=6) qf.nd rfl (Or.inl rfl) qGo)
   (qC (jq 7 qf (jU XAB hr (qB (pv 0) (qB (pv 4) qE))))
   (qC (QX (jG (K:=K) rfl (pv 3) (fun _=>rfl))
   (qG (jh yQ rfl (Jr (by rfl) T.n_range (qB qF (qB (pv 4) qE))) (qAp 8 qf)
    (qG (qAH (hu1 hu) (pv 6) (jU XAK hr (qB (QK (pv 7) (pv 8)) (qB (QK (pv 7) (jU XAJ hr (qB (pv 0) (qB (pv 8) qE)))) qE))) YF (by rfl)))))
   jA)
   (qC (QX (PW.pt (JO (qX qDX (pv 4) qF (qp _)) (JO (qX qLA (qd (qD9 (K:=K) rfl) (qW qBQ (by rfl) T.n_len xK (qB (pv 6) qE)) (pv 4)) (pv 2) (qp _)) (JF (qX (qK2 hu) (jU XAJ hr (qB (pv 0) (qB qF qE))) qF (qp _))))))
   (qG (jh yQ rfl (Qn (by rfl) T.n_range (qB (pv 4) qE)) (qAp 8 qf)
    (qG (qAH (hu1 hu) (pv 6) (jU XAK hr (qB (QK (pv 7) (pv 8)) (qB (QK (pv 7) (qd YX (pv 8) qF)) qE))) YF (by rfl)))))
   jA)
   (qC (jq 9 qf (jB qE))
   (qC (jh yQ rfl (Qn (by rfl) T.n_range (qB (pv 4) qE)) (qAp 10 qf)
   (qG (Jw (Ym (K:=K) rfl uA SD SE qBC (pv 9) (qB (jf rfl (own:=["a"]) (fr:=[("b",10)]) (by walk_at "cs") (Qn (by rfl) T.n_range (qB (pv 10) qE)) (fun cl C s0 H0 fp=>⟨(qAD 0),QV,(QF (qB (pv 0) (qB (pv 1) qE)))⟩)) qE)))))
   (qC (jh yQ rfl (qm (K:=K) rfl (jU XAB hr (qB (pv 0) (qB (qW (qHs (K:=K) rfl) (by rfl) T.n_len xK (qB (pv 9) qE)) qE)))) (qAp 8 qf)
   (qG (QX (PW.pt (JO (qX qFo (jU XAJ hr (qB (pv 0) (qB qF qE))) (pv 5) (qp _)) (JF (qX qFo (qW qBQ (by rfl) T.n_len xK (qB (pv 6) qE)) (pv 2) (qp _)))))
    (qG (qAH (hu1 hu) (pv 6) (QK (pv 9) (pv 8)) YF (by rfl)))
    jA)))
   (qG (qu (QF (qB (pv 4) (qB (jO (qFF (K:=K) rfl) (by rfl) T.n_tuple gS (qB (qAX rfl hu (by rfl) T.n_sorted (pv 6) ⟨rfl,rfl,rfl,rfl⟩) qE)) qE)))))))))))))),?_⟩
  rintro as Φ ⟨q,most,room,wh,rfl,m1,m9,r8,r20,k⟩
  walk_at "st"
  walk_at "vc"
  refine ⟨q,_,rfl,by omega,by omega,fun r q1 h0 h1=>⟨⟨_,rfl⟩,?_⟩⟩
  walk_at "sv"
  obtain ⟨n,hn⟩:∃ n:Nat,1+r=(n:Int):=⟨(1+r).toNat,by omega⟩
  rw [hn]
  have n1:1<=n:=by omega
  have n9:n<=most:=by omega
  clear hn h0 h1
  walk_at "st"
  walk_at "vc"
  refine ⟨q1,_,rfl,by decide,by decide,fun r2 q2 h0 h1=>⟨⟨_,rfl⟩,?_⟩⟩
  walk_at "sv"
  obtain ⟨sh,hsh⟩:∃ sh:Int,atI [D.int 0,D.int 1,D.int 2,D.int 3,D.int 4,D.int 6] r2=some (.int sh):=⟨_,at_getD (ns:=[0,1,2,3,4,6]) h0 h1⟩
  refine qCS rfl rfl hsh ?_
  clear hsh h0 h1
  refine qU rfl ?_
  walk_at "st"
  refine Ya (qCU (qLa ?_))
  refine qU rfl ?_
  walk_at "st"
  walk_at "vc"
  refine ⟨q2,n,rfl,by omega,fun o q3 O=>⟨⟨_,rfl⟩,?_⟩⟩
  have ol:=O.len
  walk_at "st"
  refine qU rfl ?_
  walk_at "st"
  refine qw (fun ρ=>∃(q:Int×Int×Int) (ks:List (List Key×D)) (us:List Tie) (s8:Sl),ρ=[.l (jx q),.d (.int most),.d (.int room),.d (.bl wh),.d (.int n),.d (.int sh),.o (.dt ks),.l (qN o),s8,.u,.u]/\TKW wh o n ks us/\us.length<=room) ?_ ?_
  ·walk_at "v"
   refine qBu (fun hw=>?_) (fun hw=>?_)
   rotate_left
   ·exact jC ⟨q3,[],[],_,rfl,⟨⟨rfl,vD,fun t ht=>by cases ht⟩,fun z=>absurd z hw⟩,zV _⟩
   walk_at "nf"
   refine YE (qMv ?_)
   walk_at "v"
   refine ⟨1,n,⟨_,_,rfl,rfl,rfl⟩,⟨by decide,by decide,by omega,by omega⟩,fun i ρ=>∃(q:Int×Int×Int) (ks:List (List Key×D)) (us:List Tie) (s8:Sl),ρ=[.l (jx q),.d (.int most),.d (.int room),.d (.bl wh),.d (.int n),.d (.int sh),.o (.dt ks),.l (qN o),s8,.u,.u]/\TK n ks us/\us.length<=i/\(∀(j:Nat) (p:Int),j<i+1->o[j]? = some p->j6 (YZ us) (o.getD 0 0) p),⟨q3,[],[],_,rfl,⟨rfl,vD,fun t ht=>by cases ht⟩,wF _,fun j p hj e=>?_⟩,?_,?_⟩
   ·have z:j=0:=by omega
    subst z
    have e0:o.getD 0 0=p:=congrArg (fun u:Option Int=>u.getD 0) e
    exact e0 ▸ .refl
   rotate_left
   ·rintro ρ ⟨q,ks,us,s8,rfl,tk,ul,lk⟩
    rw [qx] at ul lk
    have:=r8 hw
    refine ⟨q,ks,us,_,rfl,⟨tk,fun _ p hp=>?_⟩,by omega⟩
    obtain ⟨j,hj,e⟩:=xM hp
    exact lk j p (by omega) (by rw [wA hj,e])
   rintro i x ρ hx ⟨q,ks,us,s8,rfl,tk,ul,lk⟩
   have hin:i<(n - 1:Int).toNat:=by
    have:=(wM.mp hx).1
    rwa [qx] at this
   rw [QM hin] at hx
   cases hx
   have tl:=tk.len
   obtain ⟨p,hp1,hp2,hp3⟩:=qDF O (a:=1+(i:Int)) (by omega) (by omega)
   refine qU rfl ?_
   walk_at "st"
   walk_at "ps"
   refine qEL ?_
   walk_at "v"
   refine Yi ?_
   walk_at "vc"
   refine ⟨q,_,rfl,by omega,by omega,fun r q' h0 h1=>⟨⟨_,rfl⟩,?_⟩⟩
   obtain ⟨p',hp1',hp2',hp3'⟩:=qDF O (a:=r) h0 (by omega)
   walk_at "sv"
   refine ⟨of_decide_eq_true rfl,?_⟩
   walk_at "st"
   refine ⟨p,p',rfl,⟨⟨_,rfl⟩,?_⟩⟩
   walk_at "st"
   have ok:=qK8 hp3 hp3' (ord_ne' O (by omega) hp2 hp2')
   refine ⟨[(mk p p').1,(mk p p').2],ks,rfl,rfl,zQ (show ks.length<=999 by omega) (by rw [xW]; decide),?_⟩
   walk_at "st"
   obtain ⟨us',tk',ul',sub,tin⟩:=tk.put ok (.bl true)
   refine ⟨q',_,us',_,rfl,tk',by omega,fun j u hj e=>?_⟩
   by_cases z:j<i+1
   ·exact Qw sub (lk j u z e)
   ·have ej:j=(1+(i:Int)).toNat:=by omega
    rw [ej,hp2] at e
    cases e
    exact .snoc (Qw sub (lk _ p' (by omega) hp2')) (qIc tin)
  rintro ρ ⟨q4,ks,us,s8,rfl,tk,ul⟩
  have tl:=tk.len
  refine qw (fun ρ=>∃(q:Int×Int×Int) (ks:List (List Key×D)) (us:List Tie) (s8:Sl),ρ=[.l (jx q),.d (.int most),.d (.int room),.d (.bl wh),.d (.int n),.d (.int sh),.o (.dt ks),.l (qN o),s8,.u,.u]/\TKW wh o n ks us/\us.length<=room) ?_ ?_
  ·have hold:∀ q:Int×Int×Int,∃(q':Int×Int×Int) (ks':List (List Key×D)) (us':List Tie) (s8':Sl),[Sl.l (jx q),.d (.int most),.d (.int room),.d (.bl wh),.d (.int n),.d (.int sh),.o (.dt ks),.l (qN o),s8,.u,.u]=[Sl.l (jx q'),.d (.int most),.d (.int room),.d (.bl wh),.d (.int n),.d (.int sh),.o (.dt ks'),.l (qN o),s8',.u,.u]/\TKW wh o n ks' us'/\us'.length<=room:=fun q=>⟨q,ks,us,s8,rfl,tk,by omega⟩
   refine qCq (qCc ?_)
   walk_at "v"
   refine qBu (fun h2=>?_) (fun h2=>?_)
   rotate_left
   ·rw [if_neg wR]
    exact jC (hold q4)
   have h2':=ofd h2
   refine qCc ?_
   walk_at "v"
   refine c_lenT' rfl ?_
   walk_at "v"
   refine qBu (fun h3=>?_) (fun h3=>?_)
   rotate_left
   ·rw [if_neg wR]
    exact jC (hold q4)
   have h3':=ofd h3
   walk_at "vc"
   refine ⟨q4,_,rfl,by decide,by decide,fun r q5 h0 h1=>⟨⟨_,rfl⟩,?_⟩⟩
   walk_at "sv"
   refine qBu (fun h4=>?_) (fun h4=>?_)
   rotate_left
   ·exact jC (hold q5)
   walk_at "nf"
   refine YE (qLw ?_)
   walk_at "v"
   refine ⟨n,⟨_,rfl,rfl⟩,by omega,by omega,fun i ρ=>∃(ks:List (List Key×D)) (us:List Tie) (s8:Sl),ρ=[.l (jx q5),.d (.int most),.d (.int room),.d (.bl wh),.d (.int n),.d (.int sh),.o (.dt ks),.l (qN o),s8,.u,.u]/\TKW wh o n ks us/\us.length+n<=room+i,⟨ks,us,_,rfl,tk,by omega⟩,?_,?_⟩
   rotate_left
   ·rintro ρ ⟨ks,us,s8,rfl,tk,ul⟩
    rw [qx,zM] at ul
    exact ⟨q5,ks,us,_,rfl,tk,by omega⟩
   rintro i x ρ hx ⟨ks,us,s8,rfl,tk,ul⟩
   have hin:i<n:=by
    have:=(wM.mp hx).1
    rw [qx] at this
    omega
   rw [QM (by omega),Int.zero_add] at hx
   cases hx
   have tl:=tk.len
   obtain ⟨p,hp1,hp2,hp3⟩:=qDF O (a:=(i:Int)) (by omega) (by omega)
   obtain ⟨p',j,hp1',hp2',hp3',hij⟩:∃(p':Int) (j:Nat),atI (qN o) ((i:Int) - 1)=some (.int p')/\o[j]? = some p'/\(0<=p'/\p'<(n:Int))/\i≠j:=by
    by_cases z:i=0
    ·subst z
     obtain ⟨p',a1,a2,a3⟩:=qHb O (by omega)
     exact ⟨p',n - 1,a1,a2,a3,by omega⟩
    ·obtain ⟨p',a1,a2,a3⟩:=qDF O (a:=(i:Int) - 1) (by omega) (by omega)
     exact ⟨p',_,a1,a2,a3,by omega⟩
   refine qU rfl ?_
   walk_at "st"
   walk_at "ps"
   refine qEL ?_
   walk_at "vc"
   refine ⟨p,p',rfl,⟨⟨_,rfl⟩,?_⟩⟩
   walk_at "st"
   have ok:=qK8 hp3 hp3' (ord_ne' O (by omega) hp2 hp2')
   refine ⟨[(mk p p').1,(mk p p').2],ks,rfl,rfl,zQ (show ks.length<=999 by omega) (by rw [xW]; decide),?_⟩
   walk_at "st"
   obtain ⟨us',tk',ul'⟩:=tk.put ok (.bl true)
   exact ⟨_,us',_,rfl,tk',by omega⟩
  clear tk ul tl
  rintro ρ ⟨q6,ks,us,s8,rfl,tk,ul⟩
  walk_at "v"
  walk_at "st"
  walk_at "nf"
  refine YE (qLw ?_)
  walk_at "v"
  refine ⟨n,⟨_,rfl,rfl⟩,by omega,by omega,fun i ρ=>∃(ps:List Tie) (s10:Sl),ρ=[.l (jx q6),.d (.int most),.d (.int room),.d (.bl wh),.d (.int n),.d (.int sh),.o (.dt ks),.l (qN o),s8,.l (ps.map jX),s10]/\(∀ t∈ps,okp n t)/\2*ps.length<=i*(i - 1),⟨[],_,rfl,fun t ht=>(by cases ht),zV _⟩,?_,?_⟩
  ·rintro i x ρ hx ⟨ps,s10,rfl,pok,pl2⟩
   have hin:i<n:=by
    have:=(wM.mp hx).1
    rw [qx] at this
    omega
   rw [QM (by omega),Int.zero_add] at hx
   cases hx
   refine qU rfl ?_
   walk_at "st"
   walk_at "ps"
   walk_at "v"
   refine Yj (fun a:Int=>D.int a) (places i) (fun _=>true) (fun a=>jX (a,(i:Int))) (qLw ?_)
   walk_at "v"
   refine ⟨_,⟨_,rfl,rfl⟩,by omega,by omega,?_,qP (by rw [places_len]; omega),jE rfl,of_decide_eq_true rfl,?_,?_⟩
   ·rw [zM]
    unfold qH6 places
    rw [yB]
    exact gG fun i _=>by rw [Int.zero_add]; rfl
   ·rintro a _ os hos
    obtain ⟨z0,rfl⟩:=qKP hos
    walk_at "v"
    refine ⟨⟨[_],rfl,rfl⟩,Qy ⟨rfl,rfl⟩,fun _=>?_⟩
    walk_at "v"
    exact ⟨rfl,rfl⟩
   rw [jo]
   have e1:(places i).map (fun a=>jX (a,(i:Int)))=((places i).map fun a=>(a,(i:Int))).map jX:=by
    rw [yB]
    rfl
   rw [e1]
   walk_at "v"
   refine qAf (xs:=ps.map jX) (ys:=((places i).map fun a=>(a,(i:Int))).map jX) rfl rfl (sz2 (by rw [wB,wB,wB,places_len]; have:=qCk pl2 (show i<=9 by omega); omega)) ?_
   walk_at "st"
   rw [<- yJ]
   refine ⟨ps++(places i).map fun a=>(a,(i:Int)),_,rfl,fun t ht=>?_,?_⟩
   ·rcases zR.mp ht with z | z
    ·exact pok t z
    ·obtain ⟨a,ha,rfl⟩:=zD.mp z
     have:=qq.mp ha
     exact ⟨this.1,this.2,by show (i:Int)<n; omega⟩
   ·rw [wV,wB,places_len]
    exact qKW pl2
  rintro ρ ⟨ps,s10,rfl,pok,pl2⟩
  rw [qx,zM] at pl2
  have pl:=qCk pl2 (show n<=9 by omega)
  refine Ya ?_
  walk_at "nf"
  refine YE (JS ?_)
  walk_at "v"
  refine Yi ?_
  walk_at "v"
  refine ⟨of_decide_eq_true rfl,?_⟩
  walk_at "st"
  refine ⟨q6,(ps.map jX).length,rfl,by rw [wB]; omega,fun o2 q7 O2=>⟨⟨_,rfl⟩,?_⟩⟩
  walk_at "st"
  rw [wB] at O2
  refine ⟨_,_,rfl,rfl,fun i ρ=>∃(q:Int×Int×Int) (ks:List (List Key×D)) (us:List Tie) (s8:Sl),ρ=[.l (jx q),.d (.int most),.d (.int room),.d (.bl wh),.d (.int n),.d (.int sh),.o (.dt ks),.l (qN o),s8,.l (ps.map jX),s10]/\TKW wh o n ks us/\us.length<=room,⟨q7,ks,us,_,rfl,tk,ul⟩,?_,?_⟩
  ·clear tk ul
   rintro i x ρ hx ⟨q8,ks,us,s8',rfl,tk,ul⟩
   have tl:=tk.len
   obtain ⟨v,hv,rfl⟩:=zD.mp (yD hx)
   have hv':=O2.mem.mp hv
   have hk:v.toNat<ps.length:=by omega
   have hat:atI (ps.map jX) v=some (jX ps[v.toNat]):=by
    have e:v=((v.toNat:Nat):Int):=by omega
    conv=>lhs; rw [e]
    exact Qd (by rw [wQ,wA hk]; rfl)
   have tok:=pok _ (yI hk)
   generalize ps[v.toNat]=t at hat tok
   obtain ⟨ta,tb⟩:=t
   clear hx
   refine qU rfl ?_
   walk_at "st"
   walk_at "ps"
   refine qCq (qCc ?_)
   walk_at "vc"
   refine ⟨q8,_,rfl,by decide,by decide,fun r q9 h0 h1=>⟨⟨_,rfl⟩,?_⟩⟩
   walk_at "sv"
   refine qBu (fun h2=>?_) (fun h2=>?_)
   rotate_left
   ·rw [if_neg wR]
    exact jC ⟨q9,ks,us,_,rfl,tk,ul⟩
   walk_at "v"
   refine c_lenT' rfl ?_
   walk_at "v"
   refine qBu (fun h3=>?_) (fun h3=>?_)
   rotate_left
   ·exact jC ⟨q9,ks,us,_,rfl,tk,ul⟩
   have h3':=ofd h3
   refine qEL ?_
   walk_at "v"
   refine ⟨[ta,tb],ks,rfl,rfl,zQ (show ks.length<=999 by omega) (by rw [xW]; decide),?_⟩
   walk_at "st"
   obtain ⟨us',tk',ul'⟩:=tk.put tok (.bl true)
   exact ⟨q9,_,us',_,rfl,tk',by omega⟩
  clear tk ul
  rintro ρ ⟨q8,ks,us,s8',rfl,tk,ul⟩
  have ek:ks.map (·.1)=(us.map qH9).map qJT:=by
   rw [tk.keys,yB]
   rfl
  walk_at "v"
  refine qDq ?_
  walk_at "v"
  refine ⟨_,ks,us.map qH9,rfl,rfl,ek,fun ns hns=>?_,by rw [wB]; omega,fun nss' pm=>?_⟩
  ·obtain ⟨t,_,rfl⟩:=zD.mp hns
   exact List.cons_ne_nil _ _
  obtain ⟨ts,rfl,pts⟩:=qEM pm
  rw [qFu]
  walk_at "v"
  have tlen:=pts.length_eq
  exact ⟨⟨_,rfl⟩,k n ts q8 { pos:=n1,few:=by omega,len:=by omega,ok:=fun t ht=>tk.ok t (pts.mem_iff.mp ht),nd:=pts.nodup_iff.mpr tk.nd } n9 (by omega) fun z=>qGO O fun p hp=>Qw (fun t ht=>pts.mem_iff.mpr ht) (tk.lk z p hp)⟩
def allR (k:Nat):Nat->List (List Nat)
 | 0=>[[]]
 | n+1=>(zA k).flatMap fun v=>(allR k n).map fun c=>v::c
theorem qS {k:Nat}:∀{n:Nat} {c:List Nat},c∈allR k n↔c.length=n/\∀ v∈c,v<k
 | 0,c=>by
  unfold allR
  rw [wY]
  constructor
  ·rintro rfl
   exact ⟨rfl,fun v h=>absurd h zU⟩
  ·rintro ⟨h,_⟩
   exact gQ.mp h
 | n+1,c=>by
  unfold allR
  rw [List.mem_flatMap]
  constructor
  ·rintro ⟨v,hv,h⟩
   obtain ⟨d,hd,rfl⟩:=zD.mp h
   obtain ⟨h1,h2⟩:=qS.mp hd
   refine ⟨by rw [wW,h1],fun u hu=>?_⟩
   cases hu with
   | head=>exact zN.mp hv
   | tail _ hu=>exact h2 u hu
  ·rintro ⟨h1,h2⟩
   cases c with
   | nil=>cases h1
   | cons v d=>exact ⟨v,zN.mpr (h2 v wL),zD.mpr ⟨d,qS.mpr ⟨VQ h1,fun u hu=>h2 u (wI _ hu)⟩,rfl⟩⟩
theorem qAF (k:Nat):∀ n,(allR k n).Nodup
 | 0=>zX.mpr ⟨zU,vD⟩
 | n+1=>by
  unfold allR
  have ih:=qAF k n
  have key:∀ l:List Nat,l.Nodup->(l.flatMap fun v=>(allR k n).map fun c=>v::c).Nodup:=by
   intro l
   induction l with
   | nil=>exact fun _=>vD
   | cons v l ihl=>
    intro h
    obtain ⟨h1,h2⟩:=zX.mp h
    rw [kB,ZI]
    refine ⟨?_,ihl h2,fun x hx y hy z=>?_⟩
    ·rw [yZ,vL]
     exact (yZ.mp ih).imp fun {a b} h z=>h (uL z).2
    ·subst z
     obtain ⟨c,_,rfl⟩:=zD.mp hx
     obtain ⟨u,hu,hy⟩:=List.mem_flatMap.mp hy
     obtain ⟨d,_,e⟩:=zD.mp hy
     exact h1 ((uL e).1 ▸ hu)
  exact key _ hX
theorem nD {α:Type} {l:List α} {i:Nat} {d:α} (h:i<l.length):l.getD i d=l[i]:=by
 unfold List.getD
 rw [wA h]
 rfl
theorem qJe {c:List Nat} {k i:Nat} (h:∀ v∈c,v<k) (hi:i<c.length):c.getD i 0<k:=by
 rw [nD hi]
 exact h _ (yI hi)
theorem qGU {c d:List Nat} (h:c.length=d.length) (e:∀ i,i<c.length->c.getD i 0=d.getD i 0):c=d:=by
 refine kY fun i=>?_
 by_cases hi:i<c.length
 ·have:=e i hi
  rw [wH,wH,wA hi,wA (h ▸ hi)] at this
  rw [wA hi,wA (h ▸ hi)]
  exact congrArg some this
 ·rw [vI (by omega),vI (by omega)]
theorem JG {α β:Type} {f g:α->List β}:∀{l:List α},(∀ a∈l,f a=g a)->l.flatMap f=l.flatMap g
 | [],_=>rfl
 | a::l,h=>by rw [kB,kB,h a wL,JG fun b hb=>h b (wI _ hb)]
theorem qCp (k:Nat) (m:Nat):∀ n,allR k (n+m)=(allR k n).flatMap fun c=>(allR k m).map fun d=>c++d
 | 0=>by
  rw [kL]
  show allR k m=[[]].flatMap _
  simp
 | n+1=>by
  rw [show n+1+m=n+m+1 by omega]
  show ((zA k).flatMap fun v=>(allR k (n+m)).map fun c=>v::c)=((zA k).flatMap fun v=>(allR k n).map fun c=>v::c).flatMap _
  rw [qCp k m n,List.flatMap_assoc]
  refine JG fun v _=>?_
  rw [List.map_flatMap,List.flatMap_map]
  refine JG fun c _=>?_
  rw [yB]
  rfl
def qB6 (ts:List Tie) (c:List Nat) (t:Tie):Nat:=c.getD (ts.idxOf t) 0
def Arr (ts:List Tie) (c:List Nat) (x y:Int):Prop:=((x,y)∈ts/\qB6 ts c (x,y)=1)\/((y,x)∈ts/\qB6 ts c (y,x)=0)
def Td (ts:List Tie) (x y:Int):Prop:=(x,y)∈ts\/(y,x)∈ts
theorem qMF:∀(l:List Tie) (j:Nat) (h:j<l.length),l.Nodup->l.idxOf l[j]=j
 | [],j,h,_=>absurd h (vT j)
 | a::l,0,_,_=>List.idxOf_cons_self
 | a::l,j+1,h,nd=>by
  obtain ⟨h1,h2⟩:=zX.mp nd
  have hj:j<l.length:=Nat.lt_of_succ_lt_succ h
  rw [List.getElem_cons_succ,List.idxOf_cons,show (a == l[j])=false from beq_eq_false_iff_ne.mpr fun z=>h1 (z ▸ yI hj),qMF l j hj h2]
  rfl
theorem qDG {ts:List Tie} {c:List Nat} (hc:c∈allR 2 ts.length) (t:Tie):qB6 ts c t=0\/qB6 ts c t=1:=by
 obtain ⟨h1,h2⟩:=qS.mp hc
 unfold qB6
 by_cases h:ts.idxOf t<c.length
 ·have:=qJe h2 h
  omega
 ·rw [wH,vI (by omega)]
  exact .inl rfl
theorem qCj {ts:List Tie} {c:List Nat} {x y:Int} (h:Arr ts c x y):Td ts x y:=by
 rcases h with ⟨h,_⟩ | ⟨h,_⟩
 ·exact .inl h
 ·exact .inr h
theorem qFQ {n:Nat} {ts:List Tie} (W:∀ t∈ts,okp n t) (x y:Int) (h:(x,y)∈ts):(y,x)∉ts:=fun z=>by
 obtain ⟨w1,w2,w3⟩:=W _ h
 obtain ⟨v1,v2,v3⟩:=W _ z
 simp only at w2 v2
 omega
inductive Rch (A:Int->Int->Prop) (x:Int):Int->Prop where
 | refl:Rch A x x
 | snoc {y z:Int}:Rch A x y->A y z->Rch A x z
def UpA (A:Int->Int->Prop):Prop:=∃ h:Int->Nat,∀ x y,A x y->h x<h y
theorem qId {A:Int->Int->Prop} {g:Int->Nat} (h:∀ x y,A x y->g x<g y) {x y:Int} (r:Rch A x y):x=y\/g x<g y:=by
 induction r with
 | refl=>exact .inl rfl
 | snoc _ e ih=>
  have:=h _ _ e
  rcases ih with z | z
  ·exact .inr (z ▸ this)
  ·exact .inr (VH z this)
theorem qEo (h:Int->Nat):∀ l:List Int,∃ N,∀ x∈l,h x<N
 | []=>⟨0,fun x hx=>absurd hx zU⟩
 | a::l=>by
  obtain ⟨N,hN⟩:=qEo h l
  refine ⟨N+h a+1,fun x hx=>?_⟩
  rcases wX.mp hx with z | z
  ·rw [z]; omega
  ·have:=hN x z
   omega
abbrev InP (n:Nat) (A:Int->Int->Prop):Prop:=∀ x y,A x y->x∈places n/\y∈places n
abbrev qNq (a b:Int) (A:Int->Int->Prop):Int->Int->Prop:=fun x y=>(x=a/\y=b)\/A x y
theorem qKz {n:Nat} {A:Int->Int->Prop} {a b:Int} (I:InP n A) (ha:a∈places n) (U:UpA A) (no:¬ Rch A b a):UpA (qNq a b A):=by
 classical
 obtain ⟨h,hh⟩:=U
 obtain ⟨N,hN⟩:=qEo h (places n)
 refine ⟨fun x=>if Rch A b x then h x+N else h x,fun x y e=>?_⟩
 show (if Rch A b x then h x+N else h x)<(if Rch A b y then h y+N else h y)
 rcases e with ⟨e1,e2⟩ | e
 ·rw [e1,e2,if_neg no,if_pos .refl]
  have:=hN a ha
  omega
 ·have lt:=hh x y e
  by_cases z:Rch A b x
  ·rw [if_pos z,if_pos (z.snoc e)]
   omega
  ·rw [if_neg z]
   split <;> omega
theorem qJo (W:∀ t∈ts,okp n t) {x y:Int} (h:Td ts x y):x∈places n/\y∈places n:=by
 rcases h with h | h <;> (obtain ⟨w1,w2,w3⟩:=W _ h; simp only at w1 w2 w3; exact ⟨qq.mpr (by omega),qq.mpr (by omega)⟩)
def arr (t:Tie) (b:Int):Tie:=if b=1 then t else (t.2,t.1)
def qo:List Tie->List Int->List Tie
 | t::ts,b::bs=>arr t b::qo ts bs
 | _,_=>[]
theorem qDK:∀(ts:List Tie) (bs:List Int),qo ts bs=(ts.zip bs).map fun p=>arr p.1 p.2
 | [],_=>rfl
 | _::_,[]=>rfl
 | t::ts,b::bs=>by
  show arr t b::qo ts bs=_
  rw [qDK ts bs]
  rfl
def qKC (bs:List Int):Prop:=∀ b∈bs,b=0\/b=1
theorem Yw:∀{ts:List Tie} {bs:List Int},bs.length=ts.length->(zA ts.length).map (fun i:Nat=>arr (ts.getD i (0,0)) (bs.getD i 0))=qo ts bs
 | [],bs,_=>rfl
 | t::ts,[],h=>by cases h
 | t::ts,b::bs,h=>by
  have h':bs.length=ts.length:=by simpa using h
  rw [wW,List.range_succ_eq_map,zF,yB]
  show arr t b::_=arr t b::qo ts bs
  rw [<- Yw h']
  rfl
theorem Jz {ts:List Tie} {bs:List Int}:(qo ts bs).length<=ts.length:=by
 rw [qDK,wB,List.length_zip]
 omega
theorem qHh {r:Int->Int}:∀{l:List Int},l≠[]->∃ p∈l,∀ q∈l,r p<=r q
 | [],h=>absurd rfl h
 | [x],_=>⟨x,wL,fun q hq=>by rw [wY.mp hq]; exact Int.le_refl _⟩
 | x::y::l,_=>by
  obtain ⟨p,hp,hm⟩:=qHh (r:=r) (l:=y::l) (fun z=>by cases z)
  by_cases h:r x<=r p
  ·refine ⟨x,wL,fun q hq=>?_⟩
   rcases wX.mp hq with z | z
   ·rw [z]; exact Int.le_refl _
   ·have:=hm q z
    omega
  ·refine ⟨p,wI _ hp,fun q hq=>?_⟩
   rcases wX.mp hq with z | z
   ·rw [z]; omega
   ·exact hm q z
def qLW (ar:List Tie):Prop:=∃ r:Int->Nat,∀ x∈ar,r x.1<r x.2
def zi (c:List Nat):List Int:=c.map fun v:Nat=>(v:Int)
def qLR (c:List Nat):D:=QT (zi c)
theorem Yt (c:List Nat):(zi c).length=c.length:=by unfold zi; rw [wB]
theorem qIw (c:List Nat) (i:Nat):(zi c).getD i 0=((c.getD i 0:Nat):Int):=by
 unfold zi
 rw [wH,wQ,wH]
 cases c[i]? <;> rfl
theorem qJQ {m:Nat} {c:List Nat} (hc:c∈allR 2 m):qKC (zi c):=fun b hb=>by
 obtain ⟨v,hv,rfl⟩:=zD.mp hb
 have:=(qS.mp hc).2 v hv
 omega
theorem qE2 (c:List Nat) (v:Nat):zi (c++[v])=zi c++[(v:Int)]:=by
 unfold zi
 rw [yJ]
 rfl
theorem qAl {ts:List Tie} {c:List Nat} (nd:ts.Nodup) (hc:c∈allR 2 ts.length) (x y:Int):(x,y)∈qo ts (zi c)↔Arr ts c x y:=by
 have lc:=(qS.mp hc).1
 have key:∀ i (h:i<ts.length),qB6 ts c ts[i]=c.getD i 0:=fun i h=>by
  unfold qB6
  rw [qMF ts i h nd]
 rw [<- Yw (by rw [Yt,lc]),zD]
 constructor
 ·rintro ⟨i,hi,e⟩
  have hi:=zN.mp hi
  rw [qIw,nD hi,<- key i hi] at e
  have m:=yI hi
  rcases qDG hc ts[i] with z | z
  ·rw [z] at e
   have e2:(ts[i].2,ts[i].1)=(x,y):=e
   obtain ⟨e3,e4⟩:=Prod.mk.inj e2
   refine .inr ⟨?_,?_⟩
   ·rw [<- e3,<- e4]; exact m
   ·rw [<- e3,<- e4]; exact z
  ·rw [z] at e
   have e2:ts[i]=(x,y):=e
   exact .inl ⟨e2 ▸ m,e2 ▸ z⟩
 ·rintro (⟨h,z⟩ | ⟨h,z⟩)
  ·obtain ⟨i,hi,e⟩:=xM h
   refine ⟨i,zN.mpr hi,?_⟩
   rw [qIw,nD hi,<- key i hi,e,z]
   rfl
  ·obtain ⟨i,hi,e⟩:=xM h
   refine ⟨i,zN.mpr hi,?_⟩
   rw [qIw,nD hi,<- key i hi,e,z]
   rfl
theorem Js {ts:List Tie} {c:List Nat} (nd:ts.Nodup) (hc:c∈allR 2 ts.length):qLW (qo ts (zi c))↔UpA (Arr ts c):=
 ⟨fun ⟨r,h⟩=>⟨r,fun x y z=>h (x,y) ((qAl nd hc x y).mpr z)⟩,fun ⟨r,h⟩=>⟨r,fun x hx=>h x.1 x.2 ((qAl nd hc x.1 x.2).mp hx)⟩⟩
noncomputable def upB (ts:List Tie) (c:List Nat):Bool:=@decide (UpA (Arr ts c)) (zY _)
theorem QC {ts:List Tie} {c:List Nat}:upB ts c=true↔UpA (Arr ts c):=by
 unfold upB
 exact @decide_eq_true_iff _ (zY _)
noncomputable def qi (ts:List Tie):List (List Nat):=(allR 2 ts.length).filter (upB ts)
theorem qMD (k:Nat):∀ n,(allR k n).Pairwise fun c d=>HT.lexLt (zi c) (zi d)=true
 | 0=>SK _ _
 | n+1=>by
  show ((zA k).flatMap fun v=>(allR k n).map fun c=>v::c).Pairwise _
  rw [List.pairwise_flatMap]
  refine ⟨fun v _=>?_,List.pairwise_lt_range.imp fun {u v} uv c hc d hd=>?_⟩
  ·rw [vL]
   refine (qMD k n).imp fun {c d} h=>?_
   show HT.lexLt ((v:Int)::zi c) ((v:Int)::zi d)=true
   rw [HT.lexLt_cons,if_pos rfl]
   exact h
  ·obtain ⟨c',_,rfl⟩:=zD.mp hc
   obtain ⟨d',_,rfl⟩:=zD.mp hd
   show HT.lexLt ((u:Int)::zi c') ((v:Int)::zi d')=true
   rw [HT.lexLt_cons,if_neg (by omega)]
   exact (decide_eq_true (by omega))
theorem qHc {a b:List Int} (h:HT.lexLt a b=true):HT.lexLt b a=false:=by
 cases z:HT.lexLt b a with
 | false=>rfl
 | true=>
  have:=LSo.lex_trans a b a h z
  rw [LSo.YT] at this
  cases this
theorem qBb {ts:List Tie} {nss:List (List Int)} (p:nss.Perm ((qi ts).map zi)) (o:nss.Pairwise fun a b=>HT.lexLt b a=false):nss=(qi ts).map zi:=by
 refine List.Perm.eq_of_pairwise (le:=fun a b=>HT.lexLt b a=false) (fun a b _ _ h1 h2=>LSo.qAn a b h2 h1) o ?_ p
 rw [vL]
 exact ((qMD 2 ts.length).filter _).imp fun {a b} h=>qHc h
noncomputable def qBW (ts:List Tie) (A:Int->Int->Prop):List Nat:=ts.map fun t=>@ite Nat (A t.1 t.2) (zY _) 1 0
theorem qAe (ts:List Tie) (A:Int->Int->Prop):qBW ts A∈allR 2 ts.length:=qS.mpr ⟨by unfold qBW; rw [wB],fun v hv=>by
 obtain ⟨t,_,rfl⟩:=zD.mp hv
 split <;> decide⟩
theorem qKG {ts:List Tie} {A:Int->Int->Prop} {t:Tie} (h:t∈ts):(qB6 ts (qBW ts A) t=1↔A t.1 t.2)/\(qB6 ts (qBW ts A) t=0↔¬ A t.1 t.2):=by
 have hl:=List.idxOf_lt_length_of_mem h
 have e:qB6 ts (qBW ts A) t = @ite Nat (A t.1 t.2) (zY _) 1 0:=by
  unfold qB6 qBW
  rw [nD (by rw [wB]; exact hl),List.getElem_map,List.getElem_idxOf]
 rw [e]
 by_cases z:A t.1 t.2
 ·rw [if_pos z]
  exact ⟨⟨fun _=>z,fun _=>rfl⟩,⟨fun q=>(by cases q),fun q=>absurd z q⟩⟩
 ·rw [if_neg z]
  exact ⟨⟨fun q=>(by cases q),fun q=>absurd q z⟩,⟨fun _=>z,fun _=>rfl⟩⟩
def Yn (ts:List Tie) (S:Int->Prop) (c:List Nat) (x y:Int):Prop:=Arr ts c x y/\S x/\S y
structure OkS (ts:List Tie) (S:Int->Prop) (c:List Nat):Prop where
 out:∀ t∈ts,¬ (S t.1/\S t.2)->qB6 ts c t=0
 up:UpA (Yn ts S c)
structure qD2 (ts:List Tie) (S:Int->Prop) (A:Int->Int->Prop):Prop where
 td:∀ x y,A x y->Td ts x y/\S x/\S y
 one:∀ x y,(x,y)∈ts->S x->S y->(A x y↔¬ A y x)
section
variable {n:Nat} {ts:List Tie} {S T:Int->Prop} {A:Int->Int->Prop} {c d:List Nat}
theorem QO (W:∀ t∈ts,okp n t) (F:qD2 ts S A) (x y:Int):Yn ts S (qBW ts A) x y↔A x y:=by
 constructor
 ·rintro ⟨⟨h,e⟩ | ⟨h,e⟩,sx,sy⟩
  ·exact (qKG h).1.mp e
  ·exact yM fun z=>((qKG h).2.mp e) ((F.one y x h sy sx).mpr z)
 ·intro a
  obtain ⟨t,sx,sy⟩:=F.td x y a
  refine ⟨?_,sx,sy⟩
  rcases t with h | h
  ·exact .inl ⟨h,(qKG h).1.mpr a⟩
  ·exact .inr ⟨h,(qKG h).2.mpr fun z=>((F.one y x h sy sx).mp z) a⟩
theorem qB2 (W:∀ t∈ts,okp n t) (F:qD2 ts S A) (U:UpA A):OkS ts S (qBW ts A):=by
 refine ⟨fun t ht no=>(qKG ht).2.mpr fun z=>no (F.td _ _ z).2,?_⟩
 obtain ⟨h,k⟩:=U
 exact ⟨h,fun x y a=>k x y ((QO W F x y).mp a)⟩
theorem Qs (W:∀ t∈ts,okp n t) (hc:c∈allR 2 ts.length):qD2 ts S (Yn ts S c):=by
 refine ⟨fun x y a=>⟨qCj a.1,a.2⟩,fun x y h sx sy=>?_⟩
 have nb:=qFQ W x y h
 constructor
 ·rintro ⟨a,_⟩ ⟨b,_⟩
  rcases a with ⟨_,e⟩ | ⟨h',_⟩
  ·rcases b with ⟨h',_⟩ | ⟨_,e'⟩
   ·exact nb h'
   ·rw [e] at e'; cases e'
  ·exact nb h'
 ·intro z
  refine ⟨?_,sx,sy⟩
  rcases qDG hc (x,y) with e | e
  ·exact absurd (show Yn ts S c y x from ⟨.inr ⟨h,e⟩,sy,sx⟩) z
  ·exact .inl ⟨h,e⟩
theorem qAM (W:∀ t∈ts,okp n t) (nd:ts.Nodup) (hc:c∈allR 2 ts.length) (hd:d∈allR 2 ts.length) (oc:OkS ts S c) (od:OkS ts S d) (h:∀ x y,Yn ts S c x y↔Yn ts S d x y):c=d:=by
 obtain ⟨lc,_⟩:=qS.mp hc
 obtain ⟨ld,_⟩:=qS.mp hd
 refine qGU (lc.trans ld.symm) fun i hi=>?_
 have hi':i<ts.length:=by omega
 have key:∀ c,qB6 ts c ts[i]=c.getD i 0:=fun c=>by
  unfold qB6
  rw [qMF ts i hi' nd]
 rw [<- key c,<- key d]
 have tin:=yI hi'
 by_cases s:S ts[i].1/\S ts[i].2
 ·have e:∀ c,c∈allR 2 ts.length->(qB6 ts c ts[i]=1↔Yn ts S c ts[i].1 ts[i].2):=fun c hc=>by
   constructor
   ·exact fun z=>⟨.inl ⟨tin,z⟩,s⟩
   ·rintro ⟨⟨_,z⟩ | ⟨z,_⟩,_⟩
    ·exact z
    ·exact absurd z (qFQ W _ _ tin)
  rcases qDG hc ts[i] with a | a <;> rcases qDG hd ts[i] with b | b <;> rw [a,b]
  ·have:=(e c hc).mpr ((h _ _).mpr ((e d hd).mp b))
   rw [a] at this
   cases this
  ·have:=(e d hd).mpr ((h _ _).mp ((e c hc).mp a))
   rw [b] at this
   cases this
 ·rw [oc.out _ tin s,od.out _ tin s]
end
theorem qIC {α β:Type} {l1:List α} {l2:List β} (nd:l1.Nodup) (f:α->β) (hf:∀ x∈l1,f x∈l2) (inj:∀ x∈l1,∀ y∈l1,f x=f y->x=y):l1.length<=l2.length:=by
 have nd2:(l1.map f).Nodup:=by
  rw [yZ,vL]
  exact SF (R:=fun a b=>a≠b) (fun {x y} hx hy ne z=>ne (inj x hx y hy z)) (yZ.mp nd)
 have:=vU nd2 (l₂:=l2) fun x hx=>List.forall_mem_map.mpr hf x hx
 rwa [wB] at this
noncomputable def okB (ts:List Tie) (S:Int->Prop) (c:List Nat):Bool:=@decide (OkS ts S c) (zY _)
theorem qFV {ts:List Tie} {S:Int->Prop} {c:List Nat}:okB ts S c=true↔OkS ts S c:=@decide_eq_true_iff _ (zY _)
def qGa (ts:List Tie) (S T:Int->Prop) (c:List Nat):Prop:=∀ x y,Yn ts S c x y->¬ T y
noncomputable def Qj (ts:List Tie) (S T:Int->Prop) (c:List Nat):Bool:=@decide (qGa ts S T c) (zY _)
theorem jW {ts:List Tie} {S T:Int->Prop} {c:List Nat}:Qj ts S T c=true↔qGa ts S T c:=@decide_eq_true_iff _ (zY _)
noncomputable def fS (ts:List Tie) (S:Int->Prop):List (List Nat):=(allR 2 ts.length).filter (okB ts S)
theorem j9 {ts:List Tie} {S:Int->Prop} {c:List Nat}:c∈fS ts S↔c∈allR 2 ts.length/\OkS ts S c:=by
 unfold fS
 rw [zL,qFV]
section
variable {n:Nat} {ts:List Tie} {S T:Int->Prop}
theorem qDl (W:∀ t∈ts,okp n t) (nd:ts.Nodup) (sub:∀ x,T x->S x) (ind:∀ t∈ts,¬ (T t.1/\T t.2)):((fS ts S).filter (Qj ts S T)).length=(fS ts fun x=>S x/\¬ T x).length:=by
 have indT:∀ x y,Td ts x y->T x->¬ T y:=fun x y h tx ty=>h.elim (fun h=>ind _ h ⟨tx,ty⟩) fun h=>ind _ h ⟨ty,tx⟩
 let R:Int->Prop:=fun x=>S x/\¬ T x
 let dn:List Nat->Int->Int->Prop:=fun c x y=>Yn ts S c x y/\¬ T x/\¬ T y
 let up:List Nat->Int->Int->Prop:=fun c x y=>Yn ts R c x y\/(Td ts x y/\S x/\S y/\T x)
 have fd:∀ c∈allR 2 ts.length,qD2 ts R (dn c):=fun c hc=>by
  have F:=Qs (S:=S) W hc
  refine ⟨fun x y a=>⟨(F.td x y a.1).1,⟨(F.td x y a.1).2.1,a.2.1⟩,⟨(F.td x y a.1).2.2,a.2.2⟩⟩,fun x y h rx ry=>?_⟩
  have:=F.one x y h rx.1 ry.1
  constructor
  ·exact fun a b=>this.mp a.1 b.1
  ·exact fun z=>⟨this.mpr fun b=>z ⟨b,ry.2,rx.2⟩,rx.2,ry.2⟩
 have fu:∀ c∈allR 2 ts.length,qD2 ts S (up c):=fun c hc=>by
  have F:=Qs (S:=R) W hc
  refine ⟨fun x y a=>a.elim (fun a=>⟨(F.td x y a).1,(F.td x y a).2.1.1,(F.td x y a).2.2.1⟩) fun a=>⟨a.1,a.2.1,a.2.2.1⟩,fun x y h sx sy=>?_⟩
  have td:Td ts x y:=.inl h
  have td':Td ts y x:=.inr h
  by_cases tx:T x
  ·refine ⟨fun _ b=>?_,fun _=>.inr ⟨td,sx,sy,tx⟩⟩
   rcases b with b | b
   ·exact b.2.2.2 tx
   ·exact indT _ _ td' b.2.2.2 tx
  ·by_cases ty:T y
   ·refine ⟨fun a=>?_,fun z=>absurd (show up c y x from .inr ⟨td',sy,sx,ty⟩) z⟩
    rcases a with a | a
    ·exact absurd ty a.2.2.2
    ·exact absurd a.2.2.2 tx
   ·have:=F.one x y h ⟨sx,tx⟩ ⟨sy,ty⟩
    constructor
    ·rintro (a | a) (b | b)
     ·exact this.mp a b
     ·exact ty b.2.2.2
     ·exact tx a.2.2.2
     ·exact tx a.2.2.2
    ·exact fun z=>.inl (this.mpr fun b=>z (.inl b))
 have okd:∀ c∈fS ts S,qBW ts (dn c)∈fS ts R:=fun c hc=>by
  obtain ⟨h1,h2⟩:=j9.mp hc
  refine j9.mpr ⟨qAe _ _,qB2 W (fd c h1) ?_⟩
  obtain ⟨h,k⟩:=h2.up
  exact ⟨h,fun x y a=>k x y a.1⟩
 have oku:∀ c∈fS ts R,qBW ts (up c)∈(fS ts S).filter (Qj ts S T):=fun c hc=>by
  obtain ⟨h1,h2⟩:=j9.mp hc
  refine zL.mpr ⟨j9.mpr ⟨qAe _ _,qB2 W (fu c h1) ?_⟩,jW.mpr fun x y a ty=>?_⟩
  ·obtain ⟨h,k⟩:=h2.up
   have dec:∀ v,Decidable (T v):=fun v=>zY _
   refine ⟨fun v=>if T v then 0 else h v+1,fun x y a=>?_⟩
   show (if T x then 0 else h x+1)<(if T y then 0 else h y+1)
   rcases a with a | a
   ·rw [if_neg a.2.1.2,if_neg a.2.2.2]
    exact VW (k x y a)
   ·rw [if_pos a.2.2.2,if_neg (indT x y a.1 a.2.2.2)]
    exact fB _
  ·rcases (QO W (fu c h1) x y).mp a with b | b
   ·exact b.2.2.2 ty
   ·exact indT x y b.1 b.2.2.2 ty
 refine UP (qIC ((qAF 2 ts.length).filter _ |>.filter _) (fun c=>qBW ts (dn c)) (fun c hc=>okd c (zL.mp hc).1) fun c hc d hd e=>?_) (qIC ((qAF 2 ts.length).filter _) (fun c=>qBW ts (up c)) oku fun c hc d hd e=>?_)
 ·obtain ⟨c1,c2⟩:=zL.mp hc
  obtain ⟨d1,d2⟩:=zL.mp hd
  obtain ⟨c3,c4⟩:=j9.mp c1
  obtain ⟨d3,d4⟩:=j9.mp d1
  have fc:=jW.mp c2
  have fe:=jW.mp d2
  have same:∀ x y,dn c x y↔dn d x y:=fun x y=>by
   rw [<- QO W (fd c c3),<- QO W (fd d d3),show qBW ts (dn c)=qBW ts (dn d) from e]
  have one:∀{c d:List Nat},c∈allR 2 ts.length->d∈allR 2 ts.length->qGa ts S T c->qGa ts S T d->(∀ x y,dn c x y↔dn d x y)->∀ x y,Yn ts S c x y->Yn ts S d x y:=fun {c d} hc hd gc gd sm x y a=>by
   by_cases tx:T x
   ·have F:=Qs (S:=S) W hd
    obtain ⟨t,sx,sy⟩:=(Qs (S:=S) W hc).td x y a
    have nb:¬ Yn ts S d y x:=fun b=>gd y x b tx
    rcases t with h | h
    ·exact (F.one x y h sx sy).mpr nb
    ·exact yM fun z=>nb ((F.one y x h sy sx).mpr z)
   ·exact ((sm x y).mp ⟨a,tx,gc x y a⟩).1
  exact qAM W nd c3 d3 c4 d4 fun x y=>⟨one c3 d3 fc fe same x y,one d3 c3 fe fc (fun x y=>(same x y).symm) x y⟩
 ·obtain ⟨c3,c4⟩:=j9.mp hc
  obtain ⟨d3,d4⟩:=j9.mp hd
  have same:∀ x y,up c x y↔up d x y:=fun x y=>by
   rw [<- QO W (fu c c3),<- QO W (fu d d3),show qBW ts (up c)=qBW ts (up d) from e]
  have one:∀{c d:List Nat},(∀ x y,up c x y↔up d x y)->∀ x y,Yn ts R c x y->Yn ts R d x y:=fun {c d} sm x y a=>by
   rcases (sm x y).mp (.inl a) with b | b
   ·exact b
   ·exact absurd b.2.2.2 a.2.1.2
  exact qAM W nd c3 d3 c4 d4 fun x y=>⟨one same x y,one (fun x y=>(same x y).symm) x y⟩
theorem qEK (W:∀ t∈ts,okp n t) (sub:∀ x,T x->S x) {t:Tie} (ht:t∈ts) (tt:T t.1/\T t.2):((fS ts S).filter (Qj ts S T))=[]:=by
 refine List.filter_eq_nil_iff.mpr fun c hc z=>?_
 obtain ⟨h1,_⟩:=j9.mp hc
 have fr:=jW.mp z
 by_cases a:Yn ts S c t.1 t.2
 ·exact fr _ _ a tt.2
 ·have F:=Qs (S:=S) W h1
  have:Yn ts S c t.2 t.1:=yM fun b=>a ((F.one t.1 t.2 ht (sub _ tt.1) (sub _ tt.2)).mpr b)
  exact fr _ _ this tt.1
end
theorem qDD {f:Nat->Nat->Nat} {g:Bool->Bool->Bool} (tb:∀ a b i,(f a b).testBit i=g (a.testBit i) (b.testBit i)) (low:∀ x y:Nat,x<2->y<2->f x y<2) (a b x y:Nat) (hx:x<2) (hy:y<2):f (2*a+x) (2*b+y)=2*f a b+f x y:=by
 have l:=low x y hx hy
 refine hJ fun i=>?_
 cases i with
 | zero=>
  rw [tb,vA,vA,vA]
  have h:=tb x y 0
  rw [vA,vA,vA] at h
  rw [show (2*f a b+f x y) % 2=f x y % 2 by omega,h,show (2*a+x) % 2=x % 2 by omega,show (2*b+y) % 2=y % 2 by omega]
 | succ i=>
  rw [tb,xE,xE,xE,show (2*a+x) / 2=a by omega,show (2*b+y) / 2=b by omega,show (2*f a b+f x y) / 2=f a b by omega,tb]
theorem qB9 (a b x y:Nat) (hx:x<2) (hy:y<2):(2*a+x) &&& (2*b+y)=2*(a &&& b)+(x &&& y):=qDD (f:=fun a b=>a &&& b) (fun a b i=>kP a b i) (fun x y hx hy=>by
 have:x=0\/x=1:=by omega
 have:y=0\/y=1:=by omega
 rcases ‹x=0\/x=1› with rfl | rfl <;> rcases ‹y=0\/y=1› with rfl | rfl <;> decide) a b x y hx hy
theorem qJ0 (a b x y:Nat) (hx:x<2) (hy:y<2):(2*a+x) ^^^ (2*b+y)=2*(a ^^^ b)+(x ^^^ y):=qDD (f:=fun a b=>a ^^^ b) (fun a b i=>kQ a b i) (fun x y hx hy=>by
 have:x=0\/x=1:=by omega
 have:y=0\/y=1:=by omega
 rcases ‹x=0\/x=1› with rfl | rfl <;> rcases ‹y=0\/y=1› with rfl | rfl <;> decide) a b x y hx hy
theorem half (a:Nat):∃ b x,a=2*b+x/\x<2:=⟨a / 2,a % 2,by omega,by omega⟩
theorem qB8 {a b x y:Nat} (hx:x<2) (hy:y<2) (h:(2*a+x) &&& (2*b+y)=2*a+x):a &&& b=a/\x<=y:=by
 rw [qB9 _ _ _ _ hx hy] at h
 have:x=0\/x=1:=by omega
 have:y=0\/y=1:=by omega
 have l:x &&& y<2:=by
  rcases ‹x=0\/x=1› with rfl | rfl <;> rcases ‹y=0\/y=1› with rfl | rfl <;> decide
 refine ⟨by omega,?_⟩
 rcases ‹x=0\/x=1› with rfl | rfl <;> rcases ‹y=0\/y=1› with rfl | rfl <;> first | omega | (have t:(1 &&& 0:Nat)=0:=rfl; rw [t] at h; omega)
theorem qCa:∀(m S T:Nat),S<=m->T &&& S=T->S - T=S ^^^ T:=fun m=>by
 induction m with
 | zero=>
  intro S T h e
  have:S=0:=by omega
  subst this
  rw [Nat.and_zero] at e
  subst e
  rfl
 | succ m ih=>
  intro S T h e
  obtain ⟨s,a,rfl,ha⟩:=half S
  obtain ⟨t,b,rfl,hb⟩:=half T
  obtain ⟨e1,e2⟩:=qB8 hb ha e
  rw [qJ0 _ _ _ _ ha hb]
  by_cases z:s=0
  ·subst z
   rw [Nat.and_zero] at e1
   subst e1
   have:a=0\/a=1:=by omega
   have:b=0\/b=1:=by omega
   rcases ‹a=0\/a=1› with rfl | rfl <;> rcases ‹b=0\/b=1› with rfl | rfl <;> first | rfl | exact absurd e2 (by decide)
  ·rw [<- ih s t (by omega) e1]
   have le:t<=s:=by
    rw [<- e1]
    exact kE
   have:a ^^^ b=a - b:=by
    have:a=0\/a=1:=by omega
    have:b=0\/b=1:=by omega
    rcases ‹a=0\/a=1› with rfl | rfl <;> rcases ‹b=0\/b=1› with rfl | rfl <;> first | rfl | exact absurd e2 (by decide)
   omega
theorem qEr:∀(m S p q:Nat),S<=m->p &&& S=p->q &&& S=q->q<p->q<=(p - 1) &&& S:=fun m=>by
 induction m with
 | zero=>
  intro S p q h e1 e2 lt
  have:S=0:=by omega
  subst this
  rw [Nat.and_zero] at e1 e2
  omega
 | succ m ih=>
  intro S p q h e1 e2 lt
  obtain ⟨s,a,rfl,ha⟩:=half S
  obtain ⟨p',b,rfl,hb⟩:=half p
  obtain ⟨r,d,rfl,hd⟩:=half q
  obtain ⟨k1,k2⟩:=qB8 hb ha e1
  obtain ⟨l1,l2⟩:=qB8 hd ha e2
  by_cases z:b=0
  ·subst z
   have p1:1<=p':=by omega
   have s1:1<=s:=zK p1 (by rw [<- k1]; exact kE)
   have i:=ih s p' r (by omega) k1 l1 (by omega)
   rw [show 2*p'+0 - 1=2*(p' - 1)+1 by omega,qB9 _ _ _ _ (by decide) ha]
   have:(1 &&& a:Nat)=a:=by
    rcases (by omega:a=0\/a=1) with rfl | rfl <;> decide
   omega
  ·have b1:b=1:=by omega
   subst b1
   rw [show 2*p'+1 - 1=2*p'+0 by omega,qB9 _ _ _ _ (by decide) ha,k1]
   omega
def inM (S:Nat) (x:Int):Prop:=0<=x/\S.testBit x.toNat=true
theorem qCd {S T:Nat} (h:T &&& S=T) (x:Int):inM T x->inM S x:=fun ⟨h0,h1⟩=>by
 rw [<- h,kP,yY] at h1
 exact ⟨h0,h1.2⟩
theorem qG9 {S T:Nat} (h:T &&& S=T) (x:Int):inM (S - T) x↔inM S x/\¬ inM T x:=by
 unfold inM
 rw [qCa S S T (wF S) h,kQ]
 have:=qCd h x
 unfold inM at this
 cases hs:S.testBit x.toNat <;> cases ht:T.testBit x.toNat <;> rw [hs,ht] at this <;> simp at this ⊢ <;> omega
def sgN:Nat->Nat->Int
 | 0,_=>1
 | n+1,T=>(if T.testBit n=true then -1 else 1)*sgN n T
theorem qCg {v:Nat}:∀{n T:Nat},v<n->sgN n (T ^^^ 2 ^ v) = - sgN n T
 | 0,_,h=>absurd h (vT v)
 | n+1,T,h=>by
  have same:∀{k:Nat},k<=v->sgN k (T ^^^ 2 ^ v)=sgN k T:=fun {k}=>by
   induction k with
   | zero=>exact fun _=>rfl
   | succ k ih=>
    intro hk
    unfold sgN
    rw [ih (by omega),kQ,xO (by omega),WO]
  unfold sgN
  rw [kQ]
  by_cases e:v=n
  ·subst e
   rw [same (wF v),ZP]
   cases T.testBit v
   ·rw [if_pos (by rfl),if_neg (by decide)]
    omega
   ·rw [if_neg (by decide),if_pos (by rfl)]
    omega
  ·rw [xO e,WO,qCg (n:=n) (by omega)]
   exact Int.mul_neg _ _
theorem YO {α:Type} {f:α->Int} {l m:List α} (p:l.Perm m):(l.map f).sum=(m.map f).sum:=by
 induction p with
 | nil=>rfl
 | cons x _ ih=>rw [zF,zF,vY,vY,ih]
 | swap x y l=>simp only [zF,vY]; omega
 | trans _ _ h1 h2=>exact h1.trans h2
theorem qGf {L:List Nat} (nd:L.Nodup) (φ:Nat->Nat) (inn:∀ T∈L,φ T∈L) (inv:∀ T∈L,φ (φ T)=T) (s:Nat->Int) (hs:∀ T∈L,s (φ T) = - s T):(L.map s).sum=0:=by
 have nd2:(L.map φ).Nodup:=by
  rw [yZ,vL]
  exact SF (R:=fun a b=>a≠b) (fun {x y} hx hy ne z=>ne (by rw [<- inv x hx,<- inv y hy,z])) (yZ.mp nd)
 have pm:(L.map φ).Perm L:=(xJ nd2 nd).mpr fun T=>by
  rw [zD]
  constructor
  ·rintro ⟨U,hU,rfl⟩
   exact inn U hU
  ·exact fun h=>⟨φ T,inn T h,inv T h⟩
 have e1:((L.map φ).map s).sum=(L.map s).sum:=YO pm
 have e2:∀ K:List Nat,(∀ T∈K,s (φ T) = - s T)->((K.map φ).map s).sum = - (K.map s).sum:=fun K=>by
  induction K with
  | nil=>exact fun _=>rfl
  | cons a K ih=>
   intro h
   rw [zF,zF,zF,vY,vY,ih fun T hT=>h T (wI _ hT),h a wL]
   omega
 rw [e2 L hs] at e1
 omega
theorem qDS {α:Type} (Ts:List Nat) (p:Nat->α->Bool) (s:Nat->Int):∀ C:List α,(Ts.map fun T=>s T*((C.filter (p T)).length:Int)).sum=(C.map fun c=>((Ts.filter fun T=>p T c).map s).sum).sum
 | []=>by
  have:∀ K:List Nat,(K.map fun T=>s T*((([]:List α).filter (p T)).length:Int)).sum=0:=fun K=>by
   induction K with
   | nil=>rfl
   | cons a K ih=>
    rw [zF,vY,ih]
    show s a*0+0=0
    omega
  exact this Ts
 | c::C=>by
  have ih:=qDS Ts p s C
  rw [zF (l:=C),vY (l:=C.map _),<- ih]
  have key:∀ K:List Nat,(K.map fun T=>s T*(((c::C).filter (p T)).length:Int)).sum=((K.filter fun T=>p T c).map s).sum+(K.map fun T=>s T*((C.filter (p T)).length:Int)).sum:=fun K=>by
   induction K with
   | nil=>rfl
   | cons a K ih=>
    rw [zF,vY,ih,zF (l:=K),vY (l:=K.map _),xR (xs:=K),xR (xs:=C)]
    by_cases z:p a c=true
    ·rw [if_pos z,if_pos z,wW,zF,vY]
     have:s a*(((C.filter (p a)).length+1:Nat):Int)=s a*((C.filter (p a)).length:Int)+s a:=by
      rw [UR,Int.mul_add]
      show _+s a*1=_
      rw [Int.mul_one]
     rw [this]
     omega
    ·rw [if_neg z,if_neg z]
     omega
  exact key Ts
def subs (S:Nat):List Nat:=(zA (S+1)).filter fun T=>decide (T &&& S=T)
theorem QN {S T:Nat}:T∈subs S↔T &&& S=T:=by
 unfold subs
 rw [zL,zN,decide_eq_true_iff]
 exact ⟨fun h=>h.2,fun h=>⟨xZ (by rw [<- h]; exact kE),h⟩⟩
theorem YW (S:Nat):(subs S).Nodup:=hX.filter _
theorem qFT {n S i:Nat} (h:S<2 ^ n) (b:S.testBit i=true):i<n:=yM fun z=>by
 rw [Nat.testBit_lt_two_pow (zS h (Nat.pow_le_pow_right (by decide) (vG z)))] at b
 cases b
theorem qHM {S:Nat} (h:S≠0):∃ i,S.testBit i=true:=yM fun z=>h (hJ fun i=>by
 rw [uM]
 cases e:S.testBit i
 ·rfl
 ·exact absurd ⟨i,e⟩ z)
theorem qGw {n:Nat} {ts:List Tie} {S:Nat} {c:List Nat} (hS:S<2 ^ n) (h0:S≠0) (ok:OkS ts (inM S) c):∃ v:Nat,S.testBit v=true/\∀ x,¬ Yn ts (inM S) c x v:=by
 obtain ⟨h,k⟩:=ok.up
 obtain ⟨i,hi⟩:=qHM h0
 have key:∀ m v:Nat,S.testBit v=true->h v<=m->∃ v:Nat,S.testBit v=true/\∀ x,¬ Yn ts (inM S) c x v:=fun m=>by
  induction m with
  | zero=>
   intro v hv hm
   exact ⟨v,hv,fun x a=>by have:=k x v a; omega⟩
  | succ m ih=>
   intro v hv hm
   by_cases z:∃ x,Yn ts (inM S) c x v
   ·obtain ⟨x,a⟩:=z
    have l:=k x v a
    obtain ⟨_,⟨x0,xb⟩,_⟩:=a
    exact ih x.toNat xb (by rw [gH x0]; omega)
   ·exact ⟨v,hv,fun x a=>z ⟨x,a⟩⟩
 exact key _ i hi (wF _)
theorem qIa {T v:Nat} {y:Int} (h:y≠v):inM (T ^^^ 2 ^ v) y↔inM T y:=by
 unfold inM
 rw [kQ]
 by_cases y0:0<=y
 ·rw [xO (by omega),WO]
 ·exact ⟨fun z=>absurd z.1 y0,fun z=>absurd z.1 y0⟩
theorem qJx {n:Nat} {ts:List Tie} {S:Nat} (hS:S<2 ^ n) (h0:S≠0):((subs S).map fun T=>sgN n T*(((fS ts (inM S)).filter (Qj ts (inM S) (inM T))).length:Int)).sum=0:=by
 rw [qDS (subs S) (fun T=>Qj ts (inM S) (inM T)) (sgN n) (fS ts (inM S))]
 have each:∀ c∈fS ts (inM S),(((subs S).filter fun T=>Qj ts (inM S) (inM T) c).map (sgN n)).sum=0:=fun c hc=>by
  obtain ⟨v,hv,no⟩:=qGw hS h0 (j9.mp hc).2
  have vn:=qFT hS hv
  refine qGf ((YW S).filter _) (fun T=>T ^^^ 2 ^ v) (fun T hT=>?_) (fun T _=>?_) (sgN n) fun T _=>qCg vn
  ·obtain ⟨h1,h2⟩:=zL.mp hT
   have fr:=jW.mp h2
   refine zL.mpr ⟨QN.mpr ?_,jW.mpr fun x y a ty=>?_⟩
   ·refine hJ fun i=>?_
    have e:=congrArg (fun z=>Nat.testBit z i) (QN.mp h1)
    simp only [kP] at e
    rw [kP,kQ]
    by_cases z:v=i
    ·subst z
     rw [hv,SC]
    ·rw [xO z,WO]
     exact e
   ·by_cases z:y=v
    ·rw [z] at a
     exact no x a
    ·exact fr x y a ((qIa z).mp ty)
  ·show (T ^^^ 2 ^ v) ^^^ 2 ^ v=T
   rw [Nat.xor_assoc,Nat.xor_self,Nat.xor_zero]
 have all:∀ C:List (List Nat),(∀ c∈C,(((subs S).filter fun T=>Qj ts (inM S) (inM T) c).map (sgN n)).sum=0)->(C.map fun c=>(((subs S).filter fun T=>Qj ts (inM S) (inM T) c).map (sgN n)).sum).sum=0:=fun C=>by
  induction C with
  | nil=>exact fun _=>rfl
  | cons c C ih=>
   intro h
   rw [zF (l:=C),vY (l:=C.map _),h c wL,ih fun d hd=>h d (wI _ hd)]
   rfl
 exact all _ each
def Ind (ts:List Tie) (T:Nat):Prop:=∀ t∈ts,¬ (inM T t.1/\inM T t.2)
noncomputable def apN (n:Nat) (ts:List Tie) (T:Nat):Int:=@ite Int (Ind ts T) (zY _) (sgN n T) 0
noncomputable def FN (ts:List Tie) (S:Nat):Int:=((fS ts (inM S)).length:Int)
theorem qHP {ts:List Tie} {S R:Int->Prop} (h:∀ x,S x↔R x):fS ts S=fS ts R:=by
 rw [funext fun x=>propext (h x)]
theorem qEe {n:Nat} {ts:List Tie} {S:Nat} (W:∀ t∈ts,okp n t) (nd:ts.Nodup) (hS:S<2 ^ n) (h0:S≠0):((subs S).map fun T=>apN n ts T*FN ts (S - T)).sum=0:=by
 rw [<- qJx (ts:=ts) hS h0]
 congr 1
 refine gG fun T hT=>?_
 have sub:=QN.mp hT
 by_cases z:Ind ts T
 ·have e1:apN n ts T=sgN n T:=if_pos z
  rw [e1,qDl W nd (qCd sub) z]
  unfold FN
  rw [qHP fun x=>qG9 sub x]
 ·have e1:apN n ts T=0:=if_neg z
  obtain ⟨t,ht⟩:=Classical.not_forall.mp z
  obtain ⟨ht,tt⟩:=Classical.not_imp.mp ht
  rw [e1,qEK W (qCd sub) ht (Classical.not_not.mp tt),Int.zero_mul]
  exact (Int.mul_zero _).symm
noncomputable def above (n:Nat) (ts:List Tie) (S p:Nat):Int:=(((subs S).filter fun T=>decide (p<T)).map fun T=>apN n ts T*FN ts (S - T)).sum
theorem qEb (n:Nat) (ts:List Tie) (S:Nat):above n ts S S=0:=by
 unfold above
 rw [List.filter_eq_nil_iff.mpr fun T hT=>?_]
 ·rfl
 ·have:=QN.mp hT
  have:T<=S:=by rw [<- this]; exact kE
  rw [decide_eq_true_iff]
  omega
theorem qDw {n:Nat} {ts:List Tie} {S p:Nat} (hp:p &&& S=p) (p0:0<p):above n ts S ((p - 1) &&& S)=above n ts S p+apN n ts p*FN ts (S - p):=by
 have le:(p - 1) &&& S<p:=zQ Nat.and_le_left (by omega)
 have pm:((subs S).filter fun T=>decide ((p - 1) &&& S<T)).Perm (p::(subs S).filter fun T=>decide (p<T)):=by
  refine (xJ ((YW S).filter _) (zX.mpr ⟨fun z=>?_,(YW S).filter _⟩)).mpr fun T=>?_
  ·have:=(zL.mp z).2
   rw [decide_eq_true_iff] at this
   omega
  ·rw [wX,zL,zL,QN,decide_eq_true_iff,decide_eq_true_iff]
   constructor
   ·rintro ⟨h1,h2⟩
    by_cases z:T=p
    ·exact .inl z
    ·refine .inr ⟨h1,Nat.lt_of_not_le fun y=>?_⟩
     have:=qEr S S p T (wF S) hp h1 (by omega)
     omega
   ·rintro (rfl | ⟨h1,h2⟩)
    ·exact ⟨hp,le⟩
    ·exact ⟨h1,by omega⟩
 unfold above
 rw [YO pm,zF,vY]
 omega
theorem qB7:∀ n,sgN n 0=1
 | 0=>rfl
 | n+1=>by
  unfold sgN
  rw [uM,if_neg (by decide),qB7 n]
  rfl
theorem qFY {n:Nat} {ts:List Tie} {S:Nat} (W:∀ t∈ts,okp n t) (nd:ts.Nodup) (hS:S<2 ^ n) (h0:S≠0):FN ts S = - above n ts S 0:=by
 have h:=qEe W nd hS h0
 have pm:(subs S).Perm (0::(subs S).filter fun T=>decide (0<T)):=by
  refine (xJ (YW S) (zX.mpr ⟨fun z=>?_,(YW S).filter _⟩)).mpr fun T=>?_
  ·have:=(zL.mp z).2
   rw [decide_eq_true_iff] at this
   omega
  ·rw [wX,zL,QN,decide_eq_true_iff]
   constructor
   ·intro e
    by_cases z:T=0
    ·exact .inl z
    ·exact .inr ⟨e,by omega⟩
   ·rintro (rfl | e)
    ·exact Nat.zero_and _
    ·exact e.1
 rw [YO pm,zF,vY] at h
 have a0:apN n ts 0=1:=(if_pos fun t _ z=>by
  have:=z.1.2
  rw [uM] at this
  cases this).trans (qB7 n)
 rw [a0,Nat.sub_zero,Int.one_mul] at h
 unfold above
 omega
theorem qJR {n:Nat} {ts:List Tie} (W:∀ t∈ts,okp n t) (nd:ts.Nodup):FN ts 0=1:=by
 have no:∀ x,¬ inM 0 x:=fun x z=>by
  have:=z.2
  rw [uM] at this
  cases this
 have e:(fS ts (inM 0)).Perm [qBW ts fun _ _=>False]:=by
  refine (xJ ((qAF 2 _).filter _) (zX.mpr ⟨zU,vD⟩)).mpr fun c=>?_
  rw [wY,show (allR 2 ts.length).filter (okB ts (inM 0))=fS ts (inM 0) from rfl,j9]
  have F:qD2 ts (inM 0) fun _ _=>False:=⟨fun _ _ z=>z.elim,fun x y _ sx _=>absurd sx (no x)⟩
  have ok:=qB2 W F ⟨fun _=>0,fun _ _ z=>z.elim⟩
  constructor
  ·rintro ⟨h1,h2⟩
   exact qAM W nd h1 (qAe _ _) h2 ok fun x y=>⟨fun a=>absurd a.2.1 (no x),fun a=>absurd a.2.1 (no x)⟩
  ·rintro rfl
   exact ⟨qAe _ _,ok⟩
 unfold FN
 rw [e.length_eq]
 rfl
theorem qK3 {n:Nat} {ts:List Tie} (W:∀ t∈ts,okp n t):FN ts (2 ^ n - 1)=((qi ts).length:Int):=by
 have all:∀ x,0<=x/\x<(n:Int)->inM (2 ^ n - 1) x:=fun x h=>⟨h.1,by
  rw [Nat.testBit_two_pow_sub_one,decide_eq_true_iff]
  omega⟩
 unfold FN fS qi
 congr 2
 refine List.filter_congr fun c _=>?_
 rw [vZ,qFV,QC]
 constructor
 ·rintro ⟨_,h,k⟩
  refine ⟨h,fun x y a=>k x y ⟨a,?_,?_⟩⟩
  ·obtain ⟨p,_⟩:=qJo W (qCj a)
   exact all x (qq.mp p)
  ·obtain ⟨_,p⟩:=qJo W (qCj a)
   exact all y (qq.mp p)
 ·rintro ⟨h,k⟩
  refine ⟨fun t ht z=>absurd ⟨all _ ?_,all _ ?_⟩ z,h,fun x y a=>k x y a.1⟩
  ·obtain ⟨a,b,c⟩:=W t ht
   exact ⟨a,by omega⟩
  ·obtain ⟨a,b,c⟩:=W t ht
   exact ⟨by omega,c⟩
theorem qFd:∀(b x:Nat),x.testBit b=false->∀ i,(x+2 ^ b).testBit i=(x.testBit i || decide (i=b))
 | 0,x,h,i=>by
  rw [vA] at h
  have h:=of_decide_eq_false h
  cases i with
  | zero=>
   rw [vA,vA,decide_eq_true (show (x+2 ^ 0) % 2=1 by omega)]
   simp
  | succ i=>
   rw [xE,xE,show (x+2 ^ 0) / 2=x / 2 by omega]
   simp
 | b+1,x,h,i=>by
  rw [xE] at h
  have e:x+2 ^ (b+1)=2*(x / 2+2 ^ b)+x % 2:=by
   rw [VO]
   omega
  rw [e]
  cases i with
  | zero=>
   rw [vA,vA,show (2*(x / 2+2 ^ b)+x % 2) % 2=x % 2 by omega]
   simp
  | succ i=>
   rw [xE,xE,show (2*(x / 2+2 ^ b)+x % 2) / 2=x / 2+2 ^ b by omega,qFd b (x / 2) h i]
   simp
structure qL6 (S l:Nat):Prop where
 on:S.testBit l=true
 no:∀ i,i<l->S.testBit i=false
theorem qAW {S l:Nat} (h:S.testBit l=true):(2 ^ l) &&& S=2 ^ l:=hJ fun i=>by
 rw [kP]
 by_cases z:l=i
 ·subst z
  rw [ZP,h]
  rfl
 ·rw [xO z]
  rfl
theorem qC1 {S l:Nat} (h:S.testBit l=true) (i:Nat):(S - 2 ^ l).testBit i=(S.testBit i && !decide (i=l)):=by
 rw [qCa S S _ (wF S) (qAW h),kQ]
 by_cases z:i=l
 ·subst z
  rw [h,ZP]
  simp
 ·rw [xO (kX z)]
  simp [z]
theorem qEZ {S l:Nat} (h:S.testBit l=true):S - 2 ^ l<S:=by
 have h1:0<2 ^ l:=Nat.pow_pos (by decide)
 have h2:2 ^ l<=S:=by
  rw [<- qAW h]
  exact kE
 omega
theorem qIy {n S l:Nat} (h:S.testBit l=true) (hl:l<n):sgN n S = - sgN n (S - 2 ^ l):=by
 rw [qCa S S _ (wF S) (qAW h),qCg hl]
 omega
def qBP (ts:List Tie) (a m:Nat):Prop:=∀ b:Nat,m.testBit b=true↔Td ts (a:Int) (b:Int)
theorem qDM {n:Nat} {ts:List Tie} {S l m:Nat} (W:∀ t∈ts,okp n t) (h:S.testBit l=true) (N:qBP ts l m):Ind ts S↔Ind ts (S - 2 ^ l)/\m &&& (S - 2 ^ l)=0:=by
 have inr:∀ x:Int,inM (S - 2 ^ l) x↔inM S x/\x≠(l:Int):=fun x=>by
  unfold inM
  rw [qC1 h,yY,kZ,decide_eq_false_iff_not]
  constructor
  ·rintro ⟨x0,b,e⟩
   exact ⟨⟨x0,b⟩,fun z=>e (by rw [z]; rfl)⟩
  ·rintro ⟨⟨x0,b⟩,e⟩
   exact ⟨x0,b,fun z=>e (by rw [<- z,gH x0])⟩
 have lin:inM S (l:Int):=⟨uQ l,by rw [zM]; exact h⟩
 constructor
 ·intro I
  refine ⟨fun t ht z=>I t ht ⟨((inr _).mp z.1).1,((inr _).mp z.2).1⟩,hJ fun i=>?_⟩
  rw [uM,kP]
  refine ZG.mpr fun z=>?_
  obtain ⟨z1,z2⟩:=Bool.and_eq_true_iff.mp z
  rw [qC1 h] at z2
  have z2:=(Bool.and_eq_true_iff.mp z2).1
  have iin:inM S (i:Int):=⟨uQ i,by rw [zM]; exact z2⟩
  rcases (N i).mp z1 with t | t
  ·exact I _ t ⟨lin,iin⟩
  ·exact I _ t ⟨iin,lin⟩
 ·rintro ⟨I,e⟩ t ht ⟨s1,s2⟩
  obtain ⟨w1,w2,w3⟩:=W t ht
  have apart:∀ x:Int,inM S x->x≠(l:Int)->Td ts (l:Int) x->False:=fun x xs xl td=>by
   obtain ⟨x0,xb⟩:=(inr x).mpr ⟨xs,xl⟩
   have e1:=congrArg (fun z=>Nat.testBit z x.toNat) e
   simp only [kP,uM,xb,SC] at e1
   have e2:=(N x.toNat).mpr (by rw [gH x0]; exact td)
   rw [e1] at e2
   cases e2
  by_cases a1:t.1=(l:Int)
  ·exact apart t.2 s2 (by omega) (by rw [<- a1]; exact .inl ht)
  ·by_cases a2:t.2=(l:Int)
   ·exact apart t.1 s1 a1 (by rw [<- a2]; exact .inr ht)
   ·exact I t ht ⟨(inr _).mpr ⟨s1,a1⟩,(inr _).mpr ⟨s2,a2⟩⟩
theorem qJa {n:Nat} {ts:List Tie} {S l m:Nat} (W:∀ t∈ts,okp n t) (h:S.testBit l=true) (hl:l<n) (N:qBP ts l m) (z:m &&& (S - 2 ^ l)=0):apN n ts S = - apN n ts (S - 2 ^ l):=by
 have i:=qDM W h N
 by_cases y:Ind ts (S - 2 ^ l)
 ·rw [show apN n ts S=sgN n S from if_pos (i.mpr ⟨y,z⟩),show apN n ts (S - 2 ^ l)=sgN n (S - 2 ^ l) from if_pos y]
  exact qIy h hl
 ·rw [show apN n ts S=0 from if_neg fun q=>y (i.mp q).1,show apN n ts (S - 2 ^ l)=0 from if_neg y]
  rfl
theorem qEv {n:Nat} {us:List Tie} {a b m:Nat} (N:qBP us a m) (no:¬ Td us (a:Int) (b:Int)) (t:Tie) (ht:t=((a:Int),(b:Int))\/t=((b:Int),(a:Int))) (ab:a≠b):qBP (us++[t]) a (m+2 ^ b):=fun i=>by
 have mb:m.testBit b=false:=ZG.mpr fun z=>no ((N b).mp z)
 rw [qFd b m mb,Bool.or_eq_true,decide_eq_true_iff,N i]
 unfold Td
 rw [zR,zR,wY,wY]
 constructor
 ·rintro ((h | h) | rfl)
  ·exact .inl (.inl h)
  ·exact .inr (.inl h)
  ·exact ht.elim (fun h=>.inl (.inr h.symm)) fun h=>.inr (.inr h.symm)
 ·rintro ((h | h) | (h | h))
  ·exact .inl (.inl h)
  ·rcases ht with z | z <;> rw [z] at h <;> obtain ⟨h1,h2⟩:=Prod.mk.inj h
   ·exact .inr (by omega)
   ·exact absurd (show a=b by omega) ab
  ·exact .inl (.inr h)
  ·rcases ht with z | z <;> rw [z] at h <;> obtain ⟨h1,h2⟩:=Prod.mk.inj h
   ·exact absurd (show a=b by omega) ab
   ·exact .inr (by omega)
theorem qG8 {us:List Tie} {a m:Nat} (N:qBP us a m) {t:Tie} (h1:t.1≠(a:Int)) (h2:t.2≠(a:Int)):qBP (us++[t]) a m:=fun i=>by
 rw [N i]
 unfold Td
 rw [zR,zR,wY,wY]
 constructor
 ·exact fun h=>h.imp .inl .inl
 ·rintro ((h | h) | (h | h))
  ·exact .inl h
  ·rw [<- h] at h1
   exact absurd rfl h1
  ·exact .inr h
  ·rw [<- h] at h2
   exact absurd rfl h2
theorem qGd (a:Nat):qBP [] a 0:=fun i=>by
 rw [uM]
 constructor
 ·exact fun z=>by cases z
 ·rintro (h | h) <;> cases h
inductive Path (ar:List Tie) (a:Int):Int->Prop
 | refl:Path ar a a
 | snoc {b c:Int}:Path ar a b->(b,c)∈ar->Path ar a c
noncomputable def JT (ar:List Tie) (a b:Int):Bool:=@decide (Path ar a b) (zY _)
theorem jj {ar:List Tie} {a b:Int}:JT ar a b=true↔Path ar a b:=by
 unfold JT
 exact @decide_eq_true_iff _ (zY _)
def qJX:PV:=fun as Φ=>∃(ar:List Tie) (a b:Int),as=[.d (.lst (ar.map jX)),.d (.int a),.d (.int b)]/\ar.length<=20/\ar.Nodup/\Φ (.d (.bl (JT ar a b))) as
def qJi:PV:=fun as Φ=>∃(ar:List Tie) (a b:Int),as=[.l (ar.map jX),.d (.int a),.d (.int b)]/\ar.length<=20/\ar.Nodup/\Φ (.d (.bl (JT ar a b))) as
def qHk:PV:=fun as Φ=>qJX as Φ\/qJi as Φ
theorem qBT {ar:List Tie} {u:Int} (nd:ar.Nodup) (p:Tie->Bool) (h:∀ x,p x=true->x.1=u):((ar.filter p).map fun x=>x.2).Nodup:=by
 have:∀{l:List Tie},l.Nodup->(∀ x∈l,x.1=u)->(l.map fun x=>x.2).Nodup:=by
  intro l
  induction l with
  | nil=>intro _ _; exact vD
  | cons x l ih=>
   intro nd hu
   rw [zX] at nd
   show (x.2::l.map fun y=>y.2).Nodup
   rw [zX]
   refine ⟨fun hm=>?_,ih nd.2 fun y hy=>hu y (wI _ hy)⟩
   obtain ⟨y,hy,e⟩:=zD.mp hm
   have:y=x:=Prod.ext (by rw [hu y (wI _ hy),hu x wL]) e
   exact nd.1 (this ▸ hy)
 exact this (xS (List.filter_sublist) nd) fun x hx=>h x (zL.mp hx).2
theorem Qe:∀{ts:List Tie} {bs:List Int},bs.length=ts.length->(qo ts bs).length=ts.length
 | [],bs,_=>by cases bs <;> rfl
 | t::ts,[],h=>by cases h
 | t::ts,b::bs,h=>by
  have h':bs.length=ts.length:=by simpa using h
  show (qo ts bs).length+1=ts.length+1
  rw [Qe h']
theorem qK0 {t:Tie} {b:Int} (h:t.1<t.2):mk (arr t b).1 (arr t b).2=t:=by
 unfold arr mk
 by_cases e:b=1
 ·rw [if_pos e,if_neg (by omega),if_pos (by omega)]
 ·rw [if_neg e]
  show (if t.1<t.2 then t.1 else t.2,if t.1 > t.2 then t.1 else t.2)=t
  rw [if_pos h,if_neg (by omega)]
theorem qFc:∀{ts:List Tie} {bs:List Int},bs.length=ts.length->(∀ t∈ts,t.1<t.2)->(qo ts bs).map (fun x=>mk x.1 x.2)=ts
 | [],bs,_,_=>by cases bs <;> rfl
 | t::ts,[],h,_=>by cases h
 | t::ts,b::bs,h,hk=>by
  have h':bs.length=ts.length:=by simpa using h
  show mk (arr t b).1 (arr t b).2::(qo ts bs).map (fun x=>mk x.1 x.2)=t::ts
  rw [qFc h' fun u hu=>hk u (wI _ hu),qK0 (hk t wL)]
theorem JL {f:Tie->Tie}:∀{l:List Tie},(l.map f).Nodup->l.Nodup
 | [],_=>vD
 | x::l,h=>by
  rw [zF,zX] at h
  rw [zX]
  exact ⟨fun hx=>h.1 (zD.mpr ⟨x,hx,rfl⟩),JL h.2⟩
theorem jm:qb ["led","one","other","found","at"] ["led","one","other"] (qJ (top 6)):=by walk_at "sc"
theorem qCP (F:Fun K "leads_on" "leads_on" (top 6) f fd) (T:Txt mg):j7 P w K mg base CX0 1 f fd ["led","one","other"] (spV qHk):=by
 refine Qf F jm [0,1,2] (fun as Φ h=>?_) (fun cdv A outer s H E hr=>?_)
 ·rcases h with ⟨ar,a,b,rfl,_⟩ | ⟨ar,a,b,rfl,_⟩ <;> rfl
 ·have hu:=hr.units
  refine ⟨_,(qC (jq 3 jm (jB (qB (pv 1) qE)))
   (qC (jq 4 jm qF)
   (qC (Jb yQ (qX qFo (pv 4) (qW (qHs (K:=K) rfl) (by rfl) T.n_len xK (qB (pv 3) qE)) (qp _))
   (qC (Jw (Ym (K:=K) rfl uA SD SE qBC (pv 3) (qB (jf rfl (own:=["a","b"]) (fr:=[("found",3),("at",4)]) (by walk_at "cs") (qm (K:=K) rfl (pv 0)) (fun cl C s0 H0 fp=>⟨(jw (K:=K) (n:=2) rfl rfl (qc (qAD 0) (qc (qAD 1) ju))),qDL (PW.pt (JO (qX (qK2 hu) (pv 0) (QK (pv 2) (pv 3)) (qp _)) (JF (qX (qJ3 hu) (pv 1) (pv 2) (by with_unfolding_all rfl))))),(pv 1)⟩)) qE)))
    (qG (qKt (i:=4) jm.nd rfl (Or.inr rfl) qF qI9))))
   (qG (qu (qFq (qMm hu) (pv 2) (pv 3) (by with_unfolding_all rfl))))))),?_⟩
  rintro as Φ (⟨ar,a,b,rfl,hal,nd,k⟩ | ⟨ar,a,b,rfl,hal,nd,k⟩)
  ·walk_at "st"
   walk_at "v"
   walk_at "st"
   refine YM (fun m ρ=>∃(fo:List Int) (i:Nat),ρ=[.d (.lst (ar.map jX)),.d (.int a),.d (.int b),.l (qN fo),.d (.int i)]/\i<=fo.length/\fo.Nodup/\(∀ p∈fo,p∈a::ar.map fun x=>x.2)/\a∈fo/\(∀ p∈fo,Path ar a p)/\(∀ x∈ar,x.1∈fo.take i->x.2∈fo)/\i+m=22) 22 ⟨[a],0,rfl,zV _,zX.mpr ⟨zU,vD⟩,fun p hp=>by rw [wY.mp hp]; exact wL,wL,fun p hp=>by rw [wY.mp hp]; exact Path.refl,fun x _ h=>(by rw [uO] at h; cases h),rfl⟩ ?_
   rintro m ρ ⟨fo,i,rfl,hi,fnd,hsub,ha,hso,hcl,hm⟩
   have hfl:fo.length<=21:=by
    have hss:fo ⊆ a::ar.map fun x=>x.2:=fun p hp=>hsub p hp
    have:=vU fnd hss
    rw [wW,wB] at this
    omega
   walk_at "v"
   rw [wB]
   by_cases hc:i<fo.length
   ·rw [decide_eq_true (by omega),if_pos rfl]
    have hat:atI (qN fo) (i:Int)=some (.int fo[i]):=Qd (by rw [wQ,wA hc]; rfl)
    have ht:fo.take (i+1)=fo.take i++[fo[i]]:=yW hc
    have hu1:=hso fo[i] (yI hc)
    have htk:∀ x:Tie,x.1∈fo.take (i+1)->x.1∈fo.take i\/x.1=fo[i]:=fun x hx=>by
     rw [ht] at hx
     rcases zR.mp hx with z | z
     ·exact .inl z
     ·exact .inr (wY.mp z)
    generalize fo[i]=u at hat hu1 htk
    clear ht
    walk_at "v"
    refine Yj jX ar (fun x=>decide (x.1=u) && !decide (x.2∈fo)) (fun x=>D.int x.2) (JS ?_)
    walk_at "v"
    refine ⟨_,_,rfl,rfl,rfl,qP (by omega),jE rfl,of_decide_eq_true rfl,?_,?_⟩
    ·rintro ⟨x1,x2⟩ _ os hos
     obtain ⟨z0,z1,rfl⟩:=qKF hos
     walk_at "v"
     refine ⟨⟨[_,_],rfl,rfl⟩,?_,fun _=>?_⟩
     ·walk_at "vJ"
      exact ⟨rfl,rfl⟩
     ·walk_at "v"
      exact ⟨rfl,rfl⟩
    have e1:(ar.filter fun x=>decide (x.1=u) && !decide (x.2∈fo)).map (fun x:Tie=>D.int x.2)=qN ((ar.filter fun x=>decide (x.1=u) && !decide (x.2∈fo)).map fun x=>x.2):=by
     unfold qN
     rw [yB]
     rfl
    rw [e1]
    have hmem:∀ p,p∈((ar.filter fun x=>decide (x.1=u) && !decide (x.2∈fo)).map fun x=>x.2)↔(u,p)∈ar/\p∉fo:=fun p=>by
     rw [zD]
     constructor
     ·rintro ⟨⟨x1,x2⟩,hx,rfl⟩
      obtain ⟨h1,h2⟩:=zL.mp hx
      rw [yY] at h2
      have h3:=ofd h2.1
      have h4:=h2.2
      rw [kZ,decide_eq_false_iff_not] at h4
      simp only at h3
      subst h3
      exact ⟨h1,h4⟩
     ·rintro ⟨h1,h2⟩
      exact ⟨(u,p),zL.mpr ⟨h1,by rw [decide_eq_true rfl,decide_eq_false h2]; rfl⟩,rfl⟩
    have bnd:((ar.filter fun x=>decide (x.1=u) && !decide (x.2∈fo)).map fun x=>x.2).Nodup:=qBT (u:=u) nd _ fun x hx=>by
     rw [yY] at hx
     exact ofd hx.1
    have bl:((ar.filter fun x=>decide (x.1=u) && !decide (x.2∈fo)).map fun x=>x.2).length<=20:=by
     rw [wB]
     exact zK (vK _ _) hal
    generalize ((ar.filter fun x=>decide (x.1=u) && !decide (x.2∈fo)).map fun x=>x.2)=nw at hmem bnd bl
    clear e1
    walk_at "v"
    refine qAf rfl rfl (sz2 (by rw [wB,wB]; omega)) ?_
    walk_at "st"
    have e2:qN fo++qN nw=qN (fo++nw):=by
     unfold qN
     rw [yJ]
    rw [e2]
    refine qLt (k:=fun i j=>i+j) rfl rfl ?_
    walk_at "v"
    walk_at "st"
    refine ⟨m - 1,by omega,fo++nw,i+1,rfl,by rw [wV]; omega,ZI.mpr ⟨fnd,bnd,fun p hp r hr z=>((hmem r).mp hr).2 (z ▸ hp)⟩,fun p hp=>?_,zT _ ha,fun p hp=>?_,fun x hx h1=>?_,by omega⟩
    ·obtain z | z:=zR.mp hp
     ·exact hsub p z
     ·exact wI _ (zD.mpr ⟨(u,p),((hmem p).mp z).1,rfl⟩)
    ·obtain z | z:=zR.mp hp
     ·exact hso p z
     ·exact Path.snoc hu1 ((hmem p).mp z).1
    ·rw [UD (by omega)] at h1
     rcases htk x h1 with z | z
     ·exact zT _ (hcl x hx z)
     ·by_cases y:x.2∈fo
      ·exact zT _ y
      ·exact zE _ ((hmem x.2).mpr ⟨by rw [<- z]; exact hx,y⟩)
   ·rw [decide_eq_false (by omega),if_neg wR]
    have hi2:i=fo.length:=by omega
    rw [hi2,yO] at hcl
    have hiff:∀ c,c∈fo↔Path ar a c:=by
     intro c
     refine ⟨hso c,fun h=>?_⟩
     induction h with
     | refl=>exact ha
     | snoc h1 h2 ih=>exact hcl _ h2 ih
    walk_at "v"
    have e:decide (b∈fo)=JT ar a b:=by
     rw [vZ,decide_eq_true_iff,jj]
     exact hiff b
    rw [e]
    exact ⟨⟨_,rfl⟩,k⟩
  ·walk_at "st"
   walk_at "v"
   walk_at "st"
   refine YM (fun m ρ=>∃(fo:List Int) (i:Nat),ρ=[.l (ar.map jX),.d (.int a),.d (.int b),.l (qN fo),.d (.int i)]/\i<=fo.length/\fo.Nodup/\(∀ p∈fo,p∈a::ar.map fun x=>x.2)/\a∈fo/\(∀ p∈fo,Path ar a p)/\(∀ x∈ar,x.1∈fo.take i->x.2∈fo)/\i+m=22) 22 ⟨[a],0,rfl,zV _,zX.mpr ⟨zU,vD⟩,fun p hp=>by rw [wY.mp hp]; exact wL,wL,fun p hp=>by rw [wY.mp hp]; exact Path.refl,fun x _ h=>(by rw [uO] at h; cases h),rfl⟩ ?_
   rintro m ρ ⟨fo,i,rfl,hi,fnd,hsub,ha,hso,hcl,hm⟩
   have hfl:fo.length<=21:=by
    have hss:fo ⊆ a::ar.map fun x=>x.2:=fun p hp=>hsub p hp
    have:=vU fnd hss
    rw [wW,wB] at this
    omega
   walk_at "v"
   rw [wB]
   by_cases hc:i<fo.length
   ·rw [decide_eq_true (by omega),if_pos rfl]
    have hat:atI (qN fo) (i:Int)=some (.int fo[i]):=Qd (by rw [wQ,wA hc]; rfl)
    have ht:fo.take (i+1)=fo.take i++[fo[i]]:=yW hc
    have hu1:=hso fo[i] (yI hc)
    have htk:∀ x:Tie,x.1∈fo.take (i+1)->x.1∈fo.take i\/x.1=fo[i]:=fun x hx=>by
     rw [ht] at hx
     rcases zR.mp hx with z | z
     ·exact .inl z
     ·exact .inr (wY.mp z)
    generalize fo[i]=u at hat hu1 htk
    clear ht
    walk_at "v"
    refine qCG jX ar (fun x=>decide (x.1=u) && !decide (x.2∈fo)) (fun x=>D.int x.2) rfl rfl (qP (by omega)) (jE rfl) (of_decide_eq_true rfl) ?_ ?_
    ·rintro ⟨x1,x2⟩ _ os hos
     obtain ⟨z0,z1,rfl⟩:=qKF hos
     walk_at "v"
     refine ⟨⟨[_,_],rfl,rfl⟩,?_,fun _=>?_⟩
     ·walk_at "vJ"
      exact ⟨rfl,rfl⟩
     ·walk_at "v"
      exact ⟨rfl,rfl⟩
    have e1:(ar.filter fun x=>decide (x.1=u) && !decide (x.2∈fo)).map (fun x:Tie=>D.int x.2)=qN ((ar.filter fun x=>decide (x.1=u) && !decide (x.2∈fo)).map fun x=>x.2):=by
     unfold qN
     rw [yB]
     rfl
    rw [e1]
    have hmem:∀ p,p∈((ar.filter fun x=>decide (x.1=u) && !decide (x.2∈fo)).map fun x=>x.2)↔(u,p)∈ar/\p∉fo:=fun p=>by
     rw [zD]
     constructor
     ·rintro ⟨⟨x1,x2⟩,hx,rfl⟩
      obtain ⟨h1,h2⟩:=zL.mp hx
      rw [yY] at h2
      have h3:=ofd h2.1
      have h4:=h2.2
      rw [kZ,decide_eq_false_iff_not] at h4
      simp only at h3
      subst h3
      exact ⟨h1,h4⟩
     ·rintro ⟨h1,h2⟩
      exact ⟨(u,p),zL.mpr ⟨h1,by rw [decide_eq_true rfl,decide_eq_false h2]; rfl⟩,rfl⟩
    have bnd:((ar.filter fun x=>decide (x.1=u) && !decide (x.2∈fo)).map fun x=>x.2).Nodup:=qBT (u:=u) nd _ fun x hx=>by
     rw [yY] at hx
     exact ofd hx.1
    have bl:((ar.filter fun x=>decide (x.1=u) && !decide (x.2∈fo)).map fun x=>x.2).length<=20:=by
     rw [wB]
     exact zK (vK _ _) hal
    generalize ((ar.filter fun x=>decide (x.1=u) && !decide (x.2∈fo)).map fun x=>x.2)=nw at hmem bnd bl
    clear e1
    walk_at "v"
    refine qAf rfl rfl (sz2 (by rw [wB,wB]; omega)) ?_
    walk_at "st"
    have e2:qN fo++qN nw=qN (fo++nw):=by
     unfold qN
     rw [yJ]
    rw [e2]
    refine qLt (k:=fun i j=>i+j) rfl rfl ?_
    walk_at "v"
    walk_at "st"
    refine ⟨m - 1,by omega,fo++nw,i+1,rfl,by rw [wV]; omega,ZI.mpr ⟨fnd,bnd,fun p hp r hr z=>((hmem r).mp hr).2 (z ▸ hp)⟩,fun p hp=>?_,zT _ ha,fun p hp=>?_,fun x hx h1=>?_,by omega⟩
    ·obtain z | z:=zR.mp hp
     ·exact hsub p z
     ·exact wI _ (zD.mpr ⟨(u,p),((hmem p).mp z).1,rfl⟩)
    ·obtain z | z:=zR.mp hp
     ·exact hso p z
     ·exact Path.snoc hu1 ((hmem p).mp z).1
    ·rw [UD (by omega)] at h1
     rcases htk x h1 with z | z
     ·exact zT _ (hcl x hx z)
     ·by_cases y:x.2∈fo
      ·exact zT _ y
      ·exact zE _ ((hmem x.2).mpr ⟨by rw [<- z]; exact hx,y⟩)
   ·rw [decide_eq_false (by omega),if_neg wR]
    have hi2:i=fo.length:=by omega
    rw [hi2,yO] at hcl
    have hiff:∀ c,c∈fo↔Path ar a c:=by
     intro c
     refine ⟨hso c,fun h=>?_⟩
     induction h with
     | refl=>exact ha
     | snoc h1 h2 ih=>exact hcl _ h2 ih
    walk_at "v"
    have e:decide (b∈fo)=JT ar a b:=by
     rw [vZ,decide_eq_true_iff,jj]
     exact hiff b
    rw [e]
    exact ⟨⟨_,rfl⟩,k⟩
theorem Jp {t:Tie} {v:Int}:∀{us:List Tie} {bs:List Int},bs.length=us.length->qo (us++[t]) (bs++[v])=qo us bs++[arr t v]
 | [],[],_=>rfl
 | [],_::_,h=>by cases h
 | _::_,[],h=>by cases h
 | u::us,b::bs,h=>by
  have h':bs.length=us.length:=by simpa using h
  show arr u b::qo (us++[t]) (bs++[v])=arr u b::(qo us bs++[arr t v])
  rw [Jp h']
theorem qEh {ts:List Tie} {bs:List Int} (h:bs.length=ts.length) (lt:∀ t∈ts,t.1<t.2) (nd:ts.Nodup):(qo ts bs).Nodup:=by
 apply JL (f:=fun x=>mk x.1 x.2)
 rw [qFc h lt]
 exact nd
theorem Je {ar:List Tie} {a b:Int}:Path ar a b↔Rch (fun x y=>(x,y)∈ar) a b:=by
 constructor
 ·intro h
  induction h with
  | refl=>exact .refl
  | snoc _ e ih=>exact .snoc ih e
 ·intro h
  induction h with
  | refl=>exact .refl
  | snoc _ e ih=>exact .snoc ih e
theorem qHK {n:Nat} {ar:List Tie} {e:Tie} (inn:∀ x∈ar,x.1∈places n/\x.2∈places n) (he:e.1∈places n) (ne:e.1≠e.2) (A:qLW ar):qLW (ar++[e])↔¬ Path ar e.2 e.1:=by
 constructor
 ·rintro ⟨r,h⟩ p
  have h1:∀ x y,(x,y)∈ar->r x<r y:=fun x y z=>h (x,y) (zT _ z)
  have h2:=h e (zE _ wL)
  rcases qId h1 (Je.mp p) with z | z
  ·exact ne z.symm
  ·omega
 ·intro no
  obtain ⟨r,h⟩:=A
  obtain ⟨g,hg⟩:=qKz (n:=n) (A:=fun x y=>(x,y)∈ar) (a:=e.1) (b:=e.2) (fun x y z=>inn (x,y) z) he ⟨r,fun x y z=>h (x,y) z⟩ fun z=>no (Je.mpr z)
  refine ⟨g,fun x hx=>?_⟩
  rcases zR.mp hx with z | z
  ·exact hg x.1 x.2 (.inr z)
  ·rw [wY.mp z]
   exact hg e.1 e.2 (.inl ⟨rfl,rfl⟩)
noncomputable def exts (ar:List Tie) (t:Tie):List (List Tie):=([(t.2,t.1),t].filter fun e=>!JT ar e.2 e.1).map fun e=>ar++[e]
noncomputable def AF (ts:List Tie) (j:Nat):List (List Nat):=qi (ts.take j)
def arT (ts:List Tie) (j:Nat) (c:List Nat):List Tie:=qo (ts.take j) (zi c)
theorem qA1 {ts:List Tie} {j:Nat} {c:List Nat} (h:c∈AF ts j):c∈allR 2 (ts.take j).length/\UpA (Arr (ts.take j) c):=by
 obtain ⟨h1,h2⟩:=zL.mp h
 exact ⟨h1,QC.mp h2⟩
theorem qBz {n:Nat} {ts:List Tie} {j:Nat} {c:List Nat} (W:∀ t∈ts,okp n t) (nd:ts.Nodup) (hj:j<ts.length) (hc:c∈AF ts j):exts (arT ts j c) ts[j]=(([c++[0],c++[1]].filter (upB (ts.take (j+1))))).map (arT ts (j+1)):=by
 obtain ⟨h1,h2⟩:=qA1 hc
 have tk:ts.take (j+1)=ts.take j++[ts[j]]:=yW hj
 have lc:(zi c).length=(ts.take j).length:=by rw [Yt,(qS.mp h1).1]
 have ndj:(ts.take j).Nodup:=xS (xG j ts) nd
 have nd1:(ts.take (j+1)).Nodup:=xS (xG _ ts) nd
 obtain ⟨w1,w2,w3⟩:=W _ (yI hj)
 have Wj:∀ t∈ts.take j,okp n t:=fun t ht=>W t (uW ht)
 have inn:∀ x∈arT ts j c,x.1∈places n/\x.2∈places n:=fun x hx=>qJo Wj (qCj ((qAl ndj h1 x.1 x.2).mp hx))
 have A:qLW (arT ts j c):=(Js ndj h1).mpr h2
 have ext:∀ v:Nat,arT ts (j+1) (c++[v])=arT ts j c++[arr ts[j] v]:=fun v=>by
  unfold arT
  rw [tk,qE2,Jp lc]
 have key:∀(v:Nat),v<2->∀ e,arr ts[j] (v:Int)=e->e.1∈places n->e.1≠e.2->(!JT (arT ts j c) e.2 e.1)=upB (ts.take (j+1)) (c++[v]):=fun v hv e he e1 e2=>by
  have hcv:c++[v]∈allR 2 (ts.take (j+1)).length:=by
   rw [tk,wV]
   refine qS.mpr ⟨by rw [wV,(qS.mp h1).1]; rfl,fun u hu=>?_⟩
   rcases zR.mp hu with z | z
   ·exact (qS.mp h1).2 u z
   ·rw [wY.mp z]; exact hv
  rw [vZ,QC,<- Js nd1 hcv,kZ,<- UA,jj]
  have:=qHK inn e1 e2 A
  rw [<- he,<- ext v] at this
  rw [<- he]
  exact this.symm
 have pa:ts[j].1∈places n:=qq.mpr (by omega)
 have pb:ts[j].2∈places n:=qq.mpr (by omega)
 have k0:=key 0 (by decide) (ts[j].2,ts[j].1) rfl pb (by show ts[j].2≠ts[j].1; omega)
 have k1:=key 1 (by decide) ts[j] rfl pa (by omega)
 unfold exts
 simp only [xR,List.filter_nil]
 simp only at k0
 rw [k0,k1]
 have e0:arT ts (j+1) (c++[0])=arT ts j c++[(ts[j].2,ts[j].1)]:=ext 0
 have e1:arT ts (j+1) (c++[1])=arT ts j c++[ts[j]]:=ext 1
 cases upB (ts.take (j+1)) (c++[0]) <;> cases upB (ts.take (j+1)) (c++[1]) <;> simp [e0,e1]
theorem qJU {n:Nat} {ts:List Tie} {j:Nat} (W:∀ t∈ts,okp n t) (nd:ts.Nodup) (hj:j<ts.length):AF ts (j+1)=(AF ts j).flatMap fun c=>[c++[0],c++[1]].filter (upB (ts.take (j+1))):=by
 have tk:ts.take (j+1)=ts.take j++[ts[j]]:=yW hj
 have ndj:(ts.take j).Nodup:=xS (xG j ts) nd
 have nd1:(ts.take (j+1)).Nodup:=xS (xG _ ts) nd
 unfold AF qi
 have e:(ts.take (j+1)).length=(ts.take j).length+1:=by rw [tk,wV]; rfl
 rw [e,qCp,List.filter_flatMap]
 have e2:∀ c:List Nat,((allR 2 1).map fun d=>c++d)=[c++[0],c++[1]]:=fun c=>rfl
 have key:∀ l:List (List Nat),(∀ c∈l,c∈allR 2 (ts.take j).length)->(l.flatMap fun c=>((allR 2 1).map fun d=>c++d).filter (upB (ts.take (j+1))))=(l.filter (upB (ts.take j))).flatMap fun c=>[c++[0],c++[1]].filter (upB (ts.take (j+1))):=by
  intro l hl
  induction l with
  | nil=>rfl
  | cons c l ih=>
   have ih:=ih fun x hx=>hl x (wI _ hx)
   rw [kB,ih,xR,e2]
   by_cases u:upB (ts.take j) c=true
   ·rw [if_pos u,kB]
   ·rw [if_neg u]
    have no:∀ v,v<2->¬ upB (ts.take (j+1)) (c++[v])=true:=fun v hv z=>u (by
     have h1:=hl c wL
     have hcv:c++[v]∈allR 2 (ts.take (j+1)).length:=by
      rw [e]
      refine qS.mpr ⟨by rw [wV,(qS.mp h1).1]; rfl,fun x hx=>?_⟩
      rcases zR.mp hx with y | y
      ·exact (qS.mp h1).2 x y
      ·rw [wY.mp y]; exact hv
     have lc:(zi c).length=(ts.take j).length:=by rw [Yt,(qS.mp h1).1]
     obtain ⟨r,hr⟩:=(Js nd1 hcv).mpr (QC.mp z)
     rw [tk,qE2,Jp lc] at hr
     exact QC.mpr ((Js ndj h1).mp ⟨r,fun x hx=>hr x (zT _ hx)⟩))
    have : [c++[0],c++[1]].filter (upB (ts.take (j+1)))=[]:=by
     rw [xR,if_neg (no 0 (by decide)),xR,if_neg (no 1 (by decide))]
     rfl
    rw [this]
    rfl
 exact key _ fun c h=>h
theorem qCW (ts:List Tie):AF ts 0=[[]]:=by
 unfold AF qi
 rw [uO]
 show [[]].filter (upB [])=[[]]
 rw [xR,if_pos (QC.mpr ⟨fun _=>0,fun x y z=>by rcases z with z | z <;> exact absurd z.1 zU⟩)]
 rfl
theorem qC2:∀{ts:List Tie} {c:List Nat},(∀ t∈ts,t.1<t.2)->c∈allR 2 ts.length->(qo ts (zi c)).map (fun e=>(if e.1<e.2 then 1 else 0:Int))=zi c
 | [],c,_,h=>by
  rw [gQ.mp (qS.mp h).1]
  rfl
 | t::ts,c,lt,h=>by
  obtain ⟨h1,h2⟩:=qS.mp h
  match c,h1,h2 with
  | v::c,h1,h2=>
   have ih:=qC2 (ts:=ts) (c:=c) (fun u hu=>lt u (wI _ hu)) (qS.mpr ⟨VQ h1,fun u hu=>h2 u (wI _ hu)⟩)
   have hv:=h2 v wL
   have ht:=lt t wL
   show (if (arr t (v:Int)).1<(arr t (v:Int)).2 then 1 else 0:Int)::(qo ts (zi c)).map _=(v:Int)::zi c
   rw [ih]
   congr 1
   unfold arr
   by_cases e:v=1
   ·rw [e,if_pos (show ((1:Nat):Int)=1 from rfl),if_pos ht]
    rfl
   ·rw [if_neg (show ¬ ((v:Nat):Int)=1 by omega)]
    show (if t.2<t.1 then 1 else 0:Int)=_
    rw [if_neg (show ¬ t.2<t.1 by omega)]
    omega
theorem qCH {f:List Nat->List (List Nat)} {m:Nat}:∀{l:List (List Nat)},(∀ a,(f a).length<=m)->(l.flatMap f).length<=l.length*m
 | [],_=>zV _
 | a::l,h=>by
  have h1:=h a
  have h2:=qCH (l:=l) h
  rw [kB,wV,wW,Nat.succ_mul]
  omega
def qAR:PV:=fun as Φ=>∃(ar:List Tie) (t:Tie),as=[.d (.lst (ar.map jX)),.d (jX t)]/\ar.length<=19/\ar.Nodup/\Φ (.l ((exts ar t).map fun l=>D.lst (l.map jX))) as
def Qz:PV:=fun as Φ=>∃(n:Nat) (ts:List Tie),as=[.d (qAL n ts)]/\ts.length<=20/\(∀ t∈ts,okp n t)/\ts.Nodup/\(∀ j,j<=ts.length->(AF ts j).length<=300)/\Φ (.l ((qi ts).map qLR)) as
theorem jt:qb ["led","tie","a","b"] ["led","tie"] (qJ (top 9)):=by walk_at "sc"
theorem qAY (F:Fun K "pointed_on" "pointed_on" (top 9) f fd) (T:Txt mg) (XAO:Has P w K mg base "leads_on" (top 6) ["led","one","other"] 1 (spV qHk)):j7 P w K mg base CX0 2 f fd ["led","tie"] (spV qAR):=by
 refine Qf F jt [0,1] (fun as Φ h=>?_) (fun cdv A outer s H E hr=>?_)
 ·obtain ⟨ar,t,rfl,_⟩:=h
  rfl
 ·have hu:=hr.units
  refine ⟨_,(qC (Yy (pv 1) (jw (K:=K) (n:=2) rfl rfl (qc (qAp 2 jt) (qc (qAp 3 jt) ju))))
   (qG (qu (jf rfl (own:=["x","y"]) (fr:=[("led",0)]) (by walk_at "cs") (qm (K:=K) rfl (jB (qB (QF (qB (pv 3) (qB (pv 2) qE))) (qB (QF (qB (pv 2) (qB (pv 3) qE))) qE)))) (fun cl C s0 H0 fp=>⟨(jw (K:=K) (n:=2) rfl rfl (qc (qAD 0) (qc (qAD 1) ju))),qDL (Ye (jG (K:=K) rfl (jU XAO hr (qB (pv 2) (qB (pv 1) (qB (pv 0) qE)))) (fun _=>rfl))),(qd (qD9 (K:=K) rfl) (pv 2) (jB (qB (QF (qB (pv 0) (qB (pv 1) qE))) qE)))⟩))))),?_⟩
  rintro as Φ ⟨ar,⟨a,b⟩,rfl,hal,nd,k⟩
  walk_at "st"
  rw [show jX (a,b)=D.tup [.int a,.int b] from rfl]
  walk_at "v"
  refine Yj jX [(b,a),(a,b)] (fun e=>!JT ar e.2 e.1) (fun e=>D.lst ((ar++[e]).map jX)) (JS ?_)
  walk_at "v"
  refine ⟨_,_,rfl,rfl,rfl,qP (show 2<=1000 by decide),jE rfl,of_decide_eq_true rfl,?_,?_⟩
  ·rintro ⟨x,y⟩ _ os hos
   obtain ⟨z0,z1,rfl⟩:=qKF hos
   rw [show jX (x,y)=D.tup [.int x,.int y] from rfl]
   walk_at "v"
   refine ⟨⟨[_,_],rfl,rfl⟩,?_,fun _=>?_⟩
   ·walk_at "v"
    walk_at "call"
    refine .inl ⟨ar,y,x,rfl,by omega,nd,⟨⟨_,rfl⟩,?_⟩⟩
    walk_at "sv"
    exact ⟨rfl,rfl⟩
   ·walk_at "v"
    refine OpV.r (OpV.l (qC4 (xs:=ar.map jX) rfl rfl (szl (by rw [wB]; show _+1<=1000; omega)) ?_))
    refine ⟨?_,rfl⟩
    show some (D.lst (ar.map jX++[jX (x,y)]))=some (D.lst ((ar++[(x,y)]).map jX))
    rw [yJ]
    rfl
  have e:([(b,a),(a,b)].filter fun e=>!JT ar e.2 e.1).map (fun e=>D.lst ((ar++[e]).map jX))=(exts ar (a,b)).map fun l=>D.lst (l.map jX):=by
   unfold exts
   rw [yB]
   rfl
  rw [e]
  exact ⟨⟨_,rfl⟩,k⟩
theorem qj:qb ["web","found","tie"] ["web"] (qJ (top 10)):=by walk_at "sc"
theorem qBF (F:Fun K "all_falls" "all_falls" (top 10) f fd) (T:Txt mg) (XAG:Has P w K mg base "pointed_on" (top 9) ["led","tie"] 2 (spV qAR)):j7 P w K mg base CX0 3 f fd ["web"] (spV Qz):=by
 refine Qf F qj [0] (fun as Φ h=>?_) (fun cdv A outer s H E hr=>?_)
 ·obtain ⟨n,ts,rfl,_⟩:=h
  rfl
 ·have hu:=hr.units
  refine ⟨_,(qC (jq 1 qj (jB (qB (jB qE) qE)))
   (qC (jh yQ rfl (qm (K:=K) rfl (QK (pv 0) qF)) (qAp 2 qj)
   (qC (qBk (i:=1) rfl qj.nd rfl rfl (own:=["led","more"]) (fr:=[("tie",2)]) (by walk_at "cs") (qm (K:=K) rfl (pv 1)) (fun cl C s0 H0 fp=>⟨(qAD 0),QV,(qm (K:=K) rfl (jU XAG hr (qB (pv 0) (qB (pv 2) qE)))),(qAD 1),QV,(pv 1)⟩))
    (qG (QX (qX qDX (qW (qHs (K:=K) rfl) (by rfl) T.n_len xK (qB (pv 1) qE)) (qAj (by rfl) T.g_MOST_FALLS) (qp _))
    (qG qGm)
    jA))))
   (qG (qu (jf rfl (own:=["led"]) (fr:=[]) (by walk_at "cs") (qm (K:=K) rfl (pv 1)) (fun cl C s0 H0 fp=>⟨(qAD 0),QV,(jO (qFF (K:=K) rfl) (by rfl) T.n_tuple gS (qB (jf rfl (own:=["a","b"]) (fr:=[]) (by walk_at "cs") (qm (K:=K) rfl (pv 0)) (fun cl C s0 H0 fp=>⟨(jw (K:=K) (n:=2) rfl rfl (qc (qAD 0) (qc (qAD 1) ju))),QV,(qCz (qX qFo (pv 0) (pv 1) (qp _)) qF qF)⟩)) qE))⟩)))))),?_⟩
  rintro as Φ ⟨n,ts,rfl,tl,W,nd,few,k⟩
  let S0:Sl:=.d (qAL n ts)
  let lD:Nat->List Nat->D:=fun j c=>.lst ((arT ts j c).map jX)
  walk_at "st"
  refine qw (fun ρ=>ρ=[S0,.l ((AF ts 0).map (lD 0)),.u]) ?_ ?_
  ·walk_at "v"
   show _=[S0,.l ((AF ts 0).map (lD 0)),.u]
   rw [qCW]
   rfl
  rintro ρ rfl
  refine qw (fun ρ=>Le ρ [S0,.l ((AF ts ts.length).map (lD ts.length)),.u]) ?_ ?_
  rotate_left
  ·intro ρ hle
   refine qNA hle ?_
   refine qAC (i:=1) rfl ?_
   walk_at "sv"
   have fw:=few ts.length (wF _)
   refine Yj (lD ts.length) (AF ts ts.length) (fun _=>true) qLR (JS ?_)
   walk_at "v"
   refine ⟨_,_,rfl,rfl,rfl,qP (by omega),jE rfl,of_decide_eq_true rfl,?_,?_⟩
   ·intro c hc os hos
    obtain ⟨z0,rfl⟩:=qKP hos
    walk_at "v"
    refine ⟨⟨[_],rfl,rfl⟩,Qy ⟨rfl,rfl⟩,fun _=>?_⟩
    walk_at "v"
    have cl:(arT ts ts.length c).length<=20:=zK Jz (zK (List.length_take_le _ _) tl)
    refine Yj jX (arT ts ts.length c) (fun _=>true) (fun e=>D.int (if e.1<e.2 then 1 else 0)) (JS ?_)
    walk_at "v"
    refine ⟨_,_,rfl,rfl,rfl,qP (by omega),jE rfl,of_decide_eq_true rfl,?_,?_⟩
    ·rintro ⟨a,b⟩ _ os hos
     obtain ⟨z1,z2,rfl⟩:=qKF hos
     rw [show jX (a,b)=D.tup [.int a,.int b] from rfl]
     walk_at "v"
     refine ⟨⟨[_,_],rfl,rfl⟩,Qy ⟨rfl,rfl⟩,fun _=>?_⟩
     refine qN2 ?_
     walk_at "v"
     refine qBu (fun hh=>?_) (fun hh=>?_)
     ·walk_at "v"
      refine ⟨?_,rfl⟩
      show some (D.int 1)=some (D.int (if a<b then 1 else 0))
      rw [if_pos (ofd hh)]
     ·walk_at "v"
      refine ⟨?_,rfl⟩
      show some (D.int 0)=some (D.int (if a<b then 1 else 0))
      rw [if_neg (fun z=>hh (decide_eq_true z))]
    rw [jo]
    have e:(arT ts ts.length c).map (fun e:Tie=>D.int (if e.1<e.2 then 1 else 0))=qN (zi c):=by
     have h1:=(qA1 hc).1
     unfold arT
     rw [yO] at h1 ⊢
     have q:(qo ts (zi c)).map (fun e:Tie=>D.int (if e.1<e.2 then 1 else 0))=((qo ts (zi c)).map fun e:Tie=>(if e.1<e.2 then 1 else 0:Int)).map D.int:=by
      rw [yB]
      rfl
     rw [q,qC2 (fun t ht=>(W t ht).2.1) h1]
    rw [e]
    walk_at "v"
    exact ⟨rfl,rfl⟩
   rw [jo]
   unfold AF
   rw [yO]
   exact ⟨⟨_,rfl⟩,k⟩
  refine YE (JS ?_)
  walk_at "v"
  refine ⟨_,_,rfl,rfl,fun j ρ=>Le ρ [S0,.l ((AF ts j).map (lD j)),.u],⟨rfl,rfl,trivial⟩,?_,?_⟩
  rotate_left
  ·intro ρ hle
   rw [wB] at hle
   exact hle
  intro j x ρ hx hle
  rw [wQ] at hx
  have hj:j<ts.length:=by
   cases e:ts[j]? with
   | none=>rw [e] at hx; cases hx
   | some t=>exact (wM.mp e).1
  rw [wA hj] at hx
  cases hx
  have fw:=few j (xU hj)
  have fw1:=few (j+1) hj
  refine qI2 hle ?_
  refine qU rfl ?_
  walk_at "st"
  refine qAC (i:=1) rfl ?_
  walk_at "st"
  let S2:Sl:=.d (jX ts[j])
  let S1:Sl:=.d (.lst ((AF ts j).map (lD j)))
  let ext:List Nat->List (List Nat):=fun c=>[c++[0],c++[1]].filter (upB (ts.take (j+1)))
  refine qw (fun ρ=>ρ=[S0,.l ((AF ts (j+1)).map (lD (j+1))),S2]) ?_ ?_
  ·refine qCU (qKr (JS ?_))
   walk_at "v"
   refine ⟨_,_,rfl,rfl,jE rfl,of_decide_eq_true rfl,fun k ys ρc=>∃ s0 s1:Sl,ρc=[s0,s1,S2]/\ys=(((AF ts j).take k).flatMap ext).map (lD (j+1))/\k<=(AF ts j).length,⟨_,_,rfl,rfl,zV _⟩,?_,?_,?_⟩
   ·rintro k ys ρc ⟨s0,s1,rfl,_⟩
    rfl
   ·rintro k x ys ρc hx ⟨s0,s1,rfl,rfl,hk⟩
    rw [wQ] at hx
    obtain ⟨c,hc,rfl⟩:=xH.mp hx
    have hcm:=yD hc
    have hk2:=(wM.mp hc).1
    obtain ⟨ca,cu⟩:=qA1 hcm
    have bt:((AF ts j).take (k+1)).flatMap ext=((AF ts j).take k).flatMap ext++ext c:=by
     rw [kA,hc,List.flatMap_append]
     show _++(ext c++[])=_
     rw [zI]
    have bl:(((AF ts j).take k).flatMap ext).length<=600:=by
     have h1:=qCH (f:=ext) (l:=(AF ts j).take k) fun c=>by
      show ([c++[0],c++[1]].filter _).length<=2
      exact vK _ _
     rw [zP] at h1
     omega
    refine qU rfl ?_
    walk_at "st"
    refine Qy ?_
    refine (if_pos rfl).mpr ?_
    refine qHf ?_
    walk_at "vc"
    refine ⟨arT ts j c,ts[j],rfl,?_,?_,⟨⟨_,rfl⟩,?_⟩⟩
    ·have h1:=Jz (ts:=ts.take j) (bs:=zi c)
     rw [zP] at h1
     show (qo _ _).length<=19
     omega
    ·exact qEh (by rw [Yt,(qS.mp ca).1]) (fun t ht=>(W t (uW ht)).2.1) (xS (xG j ts) nd)
    walk_at "st"
    rw [qBz W nd hj hcm,yB]
    have el:(ext c).length<=2:=vK _ _
    refine ⟨_,_,rfl,rfl,fun i ys ρc=>∃ s1:Sl,ρc=[.d (lD j c),s1,S2]/\ys=(((AF ts j).take k).flatMap ext).map (lD (j+1))++((ext c).take i).map (lD (j+1)),⟨_,rfl,by rw [uO,fR,zI]⟩,?_,?_,?_⟩
    ·rintro i ys ρc ⟨s1,rfl,rfl⟩
     refine qP ?_
     rw [wV,wB,wB,zP]
     omega
    ·rintro i u ys ρc hu ⟨s1,rfl,rfl⟩
     obtain ⟨d,hd,rfl⟩:∃ d,(ext c)[i]? = some d/\u=lD (j+1) d:=by
      have hu':((ext c).map (lD (j+1)))[i]? = some u:=hu
      rw [wQ] at hu'
      obtain ⟨d,h1,h2⟩:=xH.mp hu'
      exact ⟨d,h1,h2.symm⟩
     refine qU rfl ?_
     walk_at "st"
     refine Qy ?_
     refine (if_pos rfl).mpr ?_
     walk_at "v"
     refine ⟨_,rfl,?_⟩
     rw [kA,hd,yJ,yF]
     rfl
    ·rintro ys ρc ⟨s1,rfl,rfl⟩
     refine ⟨_,_,rfl,?_,hk2⟩
     rw [bt,yJ,wB,yO]
   ·rintro ys ρc ⟨s0,s1,rfl,rfl,_⟩
    rw [wB,yO,<- qJU W nd hj]
    walk_at "st"
    refine qU rfl ?_
    rfl
  rintro ρ rfl
  refine qCq ?_
  walk_at "v"
  rw [wB,decide_eq_false (by omega)]
  refine ite_no ?_
  exact jC ⟨rfl,rfl,trivial⟩
theorem qFi:∀(k s:Nat),s % 2=1->qL6 (s*2 ^ k) k
 | 0,s,h=>⟨by rw [vA,decide_eq_true_iff]; omega,fun i hi=>absurd hi (vT i)⟩
 | k+1,s,h=>by
  have ih:=qFi k s h
  have e:s*2 ^ (k+1)=2*(s*2 ^ k):=by rw [VO,<- Nat.mul_assoc,Nat.mul_comm]
  rw [e]
  refine ⟨?_,fun i hi=>?_⟩
  ·rw [xE,show 2*(s*2 ^ k) / 2=s*2 ^ k by omega]
   exact ih.on
  ·cases i with
   | zero=>
    rw [vA]
    exact decide_eq_false (by omega)
   | succ i=>
    rw [xE,show 2*(s*2 ^ k) / 2=s*2 ^ k by omega]
    exact ih.no i (by omega)
def qEB:PV:=fun as Φ=>∃ S:Nat,as=[.d (.int S)]/\0<S/\∀ l:Nat,qL6 S l->Φ (.d (.int l)) [.u]
def qEz:PV:=fun as Φ=>∃(n:Nat) (ts:List Tie),as=[.d (qAL n ts)]/\qLy n ts/\∀ L:List Int,L.length=2 ^ n->L.getD (2 ^ n - 1) 0=((qi ts).length:Int)->Φ (.d (.tup [.dic,.lst (qN L)])) as
def jV (nb:List Nat):List D:=nb.map fun m:Nat=>D.int (m:Int)
theorem qCC {nb:List Nat} {a:Int} (h0:0<=a) (h1:a<(nb.length:Int)):atI (jV nb) a=some (.int (nb.getD a.toNat 0:Nat)):=by
 have hk:a.toNat<nb.length:=by omega
 have e:a=((a.toNat:Nat):Int):=by omega
 conv=>lhs; rw [e]
 exact Qd (by unfold jV; rw [wQ,wA hk,wH,wA hk]; rfl)
theorem qC6 (nb:List Nat) (a m:Nat):(jV nb).set a (.int (m:Int))=jV (nb.set a m):=by
 unfold jV
 rw [List.map_set]
theorem qAT {b:Int} (h:0<=b):(1:Int)*2 ^ b.toNat=((2 ^ b.toNat:Nat):Int):=by
 rw [Int.one_mul,Int.natCast_pow]
 rfl
theorem qAG {nb:List Nat} {a m i:Nat} (ha:a<nb.length):(nb.set a m).getD i 0=if a=i then m else nb.getD i 0:=by
 rw [wH,wH,zC]
 by_cases z:a=i
 ·subst z
  rw [if_pos rfl,if_pos rfl,if_pos ha]
  rfl
 ·rw [if_neg z,if_neg z]
theorem qDR (n m:Nat):(wO n [D.int (m:Int)]).flatten=jV (wO n m):=by
 induction n with
 | zero=>rfl
 | succ n ih=>
  rw [vV,uU,ih]
  rfl
theorem qHN (n m a:Nat):(wO n m).getD a 0=if a<n then m else 0:=by
 rw [wH,vN]
 split <;> rfl
theorem qJF {len:Nat} {a:Int} (h0:0<=a) (h1:a<(len:Int)):ixN len a=some a.toNat:=by
 unfold ixN
 rw [if_pos h0,if_pos h1]
theorem qF3 (a b:Nat):UU (a:Int) (b:Int)=((a &&& b:Nat):Int):=by
 unfold UU
 rw [decide_eq_true (uQ a),decide_eq_true (uQ b)]
 show (((((a:Int).toNat) &&& ((b:Int).toNat):Nat)):Int)=_
 rw [zM,zM]
theorem qHj:∀ n T,sgN n T=1\/sgN n T = -1
 | 0,_=>.inl rfl
 | n+1,T=>by
  unfold sgN
  rcases qHj n T with e | e <;> rw [e] <;> split <;> omega
theorem qGP (n:Nat) (ts:List Tie) (T:Nat) : -1<=apN n ts T/\apN n ts T<=1:=by
 by_cases z:Ind ts T
 ·rw [show apN n ts T=sgN n T from if_pos z]
  have:=qHj n T
  omega
 ·rw [show apN n ts T=0 from if_neg z]
  omega
theorem qEU {L:List Int} {a:Int} (h0:0<=a) (h1:a<(L.length:Int)):atI (qN L) a=some (.int (L.getD a.toNat 0)):=by
 have hk:a.toNat<L.length:=by omega
 have e:a=((a.toNat:Nat):Int):=by omega
 conv=>lhs; rw [e]
 exact Qd (by rw [wQ,wA hk,wH,wA hk]; rfl)
theorem ints_set (L:List Int) (a:Nat) (m:Int):(qN L).set a (.int m)=qN (L.set a m):=by
 unfold qN
 rw [List.map_set]
theorem qI4 (xs:List D) (lo hi:Option Int):(cutD xs lo hi).length<=xs.length:=by
 unfold cutD
 rw [zP,xQ]
 omega
theorem qIL {N:Nat} (h:1<=N) : [D.int 1]++cutD (jV (wO N 0)) (some 1) none=qN (1::wO (N - 1) 0):=by
 have e:cutD (jV (wO N 0)) (some 1) none=(jV (wO N 0)).drop 1:=by
  have l:(jV (wO N 0)).length=N:=by
   unfold jV
   rw [wB,zG]
  unfold cutD
  rw [l]
  have a:HT.sIx N 0 (some 1)=1:=by
   simp [HT.sIx]
   omega
  have b:HT.sIx N N none=N:=by simp [HT.sIx]
  rw [a,b]
  exact ZZ (by rw [xQ,l]; omega)
 rw [e]
 obtain ⟨M,rfl⟩:∃ M,N=M+1:=⟨N - 1,by omega⟩
 rw [vV,Nat.add_sub_cancel]
 unfold jV qN
 rw [zF,List.drop_one,List.tail_cons,List.map_replicate,zF,List.map_replicate]
 rfl
structure Aps (n:Nat) (ts:List Tie) (i:Nat) (ks:List (Key×D)):Prop where
 val:∀ T:Nat,Q6 ks (.inl (T:Int)) = @ite (Option D) (T<i/\Ind ts T) (zY _) (some (.int (apN n ts T))) none
 len:ks.length<=i
theorem qJ6 (n:Nat) (ts:List Tie):Aps n ts 1 [(.inl 0,.int 1)]:=by
 have i0:Ind ts 0:=fun t _ z=>by
  have:=z.1.2
  rw [uM] at this
  cases this
 refine ⟨fun T=>?_,wF _⟩
 rw [jP]
 by_cases z:T=0
 ·subst z
  refine (if_pos rfl).trans ?_
  rw [if_pos ⟨Nat.one_pos,i0⟩,show apN n ts 0=sgN n 0 from if_pos i0,qB7]
 ·rw [if_neg (fun y=>z (by have:=Sum.inl.inj y; omega)),if_neg fun y=>z (by omega)]
  rfl
theorem qDN {n:Nat} {ts:List Tie} {i:Nat} {ks:List (Key×D)} (A:Aps n ts i ks) (no:¬ Ind ts i):Aps n ts (i+1) ks:=by
 refine ⟨fun T=>?_,Nat.le_succ_of_le A.len⟩
 rw [A.val T]
 by_cases z:T<i/\Ind ts T
 ·rw [if_pos z,if_pos ⟨by omega,z.2⟩]
 ·rw [if_neg z,if_neg fun y=>z ⟨by
   have:T≠i:=fun e=>no (e ▸ y.2)
   omega,y.2⟩]
theorem qJY {n:Nat} {ts:List Tie} {i:Nat} {ks:List (Key×D)} (A:Aps n ts i ks) (yes:Ind ts i):Aps n ts (i+1) (putD ks (.inl (i:Int)) (.int (apN n ts i))):=by
 refine ⟨fun T=>?_,zK (qGv _ _ _) (ZR A.len)⟩
 rw [qGI,A.val T]
 by_cases e:T=i
 ·subst e
  rw [if_pos rfl,if_pos ⟨ZT T,yes⟩]
 ·rw [if_neg (fun y=>e (by have:=Sum.inl.inj y; omega))]
  by_cases z:T<i/\Ind ts T
  ·rw [if_pos z,if_pos ⟨by omega,z.2⟩]
  ·rw [if_neg z,if_neg fun y=>z ⟨by omega,y.2⟩]
theorem qIY {n:Nat} {ts:List Tie} {i T:Nat} {ks:List (Key×D)} (A:Aps n ts i ks) (h:T<i):(Q6 ks (.inl (T:Int))).getD (.int 0)=.int (apN n ts T):=by
 rw [A.val T]
 by_cases z:Ind ts T
 ·rw [if_pos ⟨h,z⟩]
  rfl
 ·rw [if_neg fun y=>z y.2,show apN n ts T=0 from if_neg z]
  rfl
structure qH1 (n:Nat) (ts:List Tie) (S:Nat) (L:List Int):Prop where
 len:L.length=2 ^ n
 low:∀ T,T<S->T<2 ^ n->L.getD T 0=FN ts T
 high:∀ T,S<T->L.getD T 0=0
theorem qM0 {L:List Int} {a i:Nat} {m:Int} (ha:a<L.length):(L.set a m).getD i 0=if a=i then m else L.getD i 0:=by
 rw [wH,wH,zC]
 by_cases z:a=i
 ·subst z
  rw [if_pos rfl,if_pos rfl,if_pos ha]
  rfl
 ·rw [if_neg z,if_neg z]
theorem qHT {n:Nat} {ts:List Tie} {S:Nat} {L:List Int} {m:Int} (C:qH1 n ts S L) (hS:S<2 ^ n):qH1 n ts S (L.set S m)/\(L.set S m).getD S 0=m:=by
 have l:S<L.length:=by rw [C.len]; exact hS
 refine ⟨⟨by rw [vC]; exact C.len,fun T h1 h2=>?_,fun T h=>?_⟩,by rw [qM0 l,if_pos rfl]⟩
 ·rw [qM0 l,if_neg (by omega)]
  exact C.low T h1 h2
 ·rw [qM0 l,if_neg (by omega)]
  exact C.high T h
theorem qFr {n:Nat} {ts:List Tie} {S:Nat} {L:List Int} (C:qH1 n ts S L) (e:S<2 ^ n->L.getD S 0=FN ts S):qH1 n ts (S+1) L:=⟨C.len,fun T h1 h2=>by
 by_cases z:T=S
 ·subst z
  exact e h2
 ·exact C.low T (by omega) h2,fun T h=>C.high T (by omega)⟩
structure qLO (n:Nat) (us:List Tie) (nb:List Nat):Prop where
 len:nb.length=n
 at_:∀ a,a<n->qBP us a (nb.getD a 0)
theorem qGc {n:Nat} {us:List Tie} {nb:List Nat} {t:Tie} (W:∀ u∈us++[t],okp n u) (no:t∉us) (N:qLO n us nb):qLO n (us++[t]) ((nb.set t.1.toNat (nb.getD t.1.toNat 0+2 ^ t.2.toNat)).set t.2.toNat ((nb.set t.1.toNat (nb.getD t.1.toNat 0+2 ^ t.2.toNat)).getD t.2.toNat 0+2 ^ t.1.toNat)):=by
 obtain ⟨w1,w2,w3⟩:=W t (zE _ wL)
 have nt:¬ Td us t.1 t.2:=fun z=>z.elim no fun z=>by
  have:=(W _ (zT _ z)).2.1
  simp only at this
  omega
 have c1:((t.1.toNat:Nat):Int)=t.1:=gH w1
 have c2:((t.2.toNat:Nat):Int)=t.2:=gH (by omega)
 have l1:t.1.toNat<nb.length:=by rw [N.len]; omega
 have l2:t.2.toNat<nb.length:=by rw [N.len]; omega
 have ne:t.1.toNat≠t.2.toNat:=by omega
 have et:t=(((t.1.toNat:Nat):Int),((t.2.toNat:Nat):Int)):=Prod.ext c1.symm c2.symm
 refine ⟨by rw [vC,vC,N.len],fun a ha=>?_⟩
 rw [qAG (by rw [vC]; exact l2),qAG l1,qAG l1]
 by_cases z2:t.2.toNat=a
 ·rw [if_pos z2,if_neg ne,<- z2]
  exact qEv (n:=n) (N.at_ _ (by rw [z2]; exact ha)) (fun y=>nt (by rw [<- c1,<- c2]; exact y.symm)) t (.inr et) (kX ne)
 ·rw [if_neg z2]
  by_cases z1:t.1.toNat=a
  ·rw [if_pos z1,<- z1]
   exact qEv (n:=n) (N.at_ _ (by rw [z1]; exact ha)) (fun y=>nt (by rw [<- c1,<- c2]; exact y)) t (.inl et) ne
  ·rw [if_neg z1]
   exact qG8 (N.at_ a ha) (by omega) (by omega)
theorem jM:qb ["some","at"] ["some"] (qJ (top 21)):=by walk_at "sc"
theorem Yb (F:Fun K "_law_lowest" "_law_lowest" (top 21) f fd) (T:Txt mg):j7 P w K mg base CX0 1 f fd ["some"] (spV qEB):=by
 refine Qf F jM [] (fun as Φ h=>?_) (fun cdv A outer s H E hr=>?_)
 ·obtain ⟨S,rfl,_⟩:=h
  rfl
 ·have hu:=hr.units
  refine ⟨_,(qC (jq 1 jM qF)
   (qC (Jb yQ (qX (qK2 hu) (qd J8 (pv 0) qF) qF (qp _))
   (qC (jq 0 jM (qd qCB (pv 0) qF))
    (qG (jq 1 jM (qd (qD9 (K:=K) rfl) (pv 1) qF)))))
   (qG (qu (pv 1))))),?_⟩
  rintro as Φ ⟨S,rfl,S0,k⟩
  walk_at "st"
  refine qw (fun ρ=>ρ=[.d (.int S),.d (.int 0)]) (by walk_at "v"; rfl) ?_
  rintro ρ rfl
  refine qw (fun ρ=>∃ s l:Nat,ρ=[.d (.int s),.d (.int l)]/\S=s*2 ^ l/\s % 2=1) ?_ ?_
  ·refine YM (fun m ρ=>∃ l:Nat,ρ=[.d (.int m),.d (.int l)]/\S=m*2 ^ l/\0<m) S ⟨0,rfl,by rw [Nat.pow_zero,Nat.mul_one],S0⟩ ?_
   rintro m ρ ⟨l,rfl,e,m0⟩
   walk_at "v"
   refine YY rfl rfl (show (0:Int)<2 by decide) ?_
   walk_at "v"
   refine qBu (fun z=>?_) (fun z=>?_)
   ·have z:=ofd z
    walk_at "v"
    refine YY rfl rfl (show qNb _ _ from ⟨by decide,by decide⟩) ?_
    walk_at "v"
    refine ⟨m / 2,by omega,l+1,?_,?_,by omega⟩
    ·rw [show ((m / 2:Nat):Int)=(m:Int) / 2 by omega,show ((l+1:Nat):Int)=(l:Int)+1 by omega]
     rfl
    ·rw [VO,show m / 2*(2 ^ l*2)=m / 2*2*2 ^ l by ac_rfl,show m / 2*2=m by omega]
     exact e
   ·refine ⟨m,l,rfl,e,?_⟩
    have:¬ ((m:Int) % 2=0):=fun y=>z (decide_eq_true y)
    omega
  rintro ρ ⟨s,l,rfl,e,od⟩
  walk_at "v"
  exact ⟨⟨_,rfl⟩,k l (e ▸ qFi l s od)⟩
theorem qM:qb ["web","near_bits","a","b","apart","signs","some","low","rest","found","part"] ["web"] (qJ (top 20)):=by walk_at "sc"
theorem Yc (F:Fun K "_law_counts" "_law_counts" (top 20) f fd) (T:Txt mg) (XAE:Has P w K mg base "_law_lowest" (top 21) ["some"] 1 (spV qEB)):j7 P w K mg base CX0 2 f fd ["web"] (spV qEz):=by
 refine Qf F qM [0] (fun as Φ h=>?_) (fun cdv A outer s H E hr=>?_)
 ·obtain ⟨n,ts,rfl,_⟩:=h
  rfl
 ·have hu:=hr.units
  refine ⟨_,(qC (jq 1 qM (qd opM (jB (qB qF qE)) (QK (pv 0) qF)))
   (qC (jh yQ rfl (qm (K:=K) rfl (QK (pv 0) qF)) (jw (K:=K) (n:=2) rfl rfl (qc (qAp 2 qM) (qc (qAp 3 qM) ju)))
   (qC (Yy (qd (qD9 (K:=K) rfl) (QK (pv 1) (pv 2)) (qd Yf qF (pv 3))) (qAx (pv 1) (pv 2) set_list))
    (qG (Yy (qd (qD9 (K:=K) rfl) (QK (pv 1) (pv 3)) (qd Yf qF (pv 2))) (qAx (pv 1) (pv 3) set_list)))))
   (qC (jq 4 qM (qJw (qGH qF qF qIT) (by rfl) (by rfl) (by intro z; cases z) (by decide)))
   (qC (jq 5 qM (qd opM (jB (qB qF qE)) (qd Yf qF (QK (pv 0) qF))))
   (qC (jh yQ rfl (Jr (by rfl) T.n_range (qB qF (qB (qd Yf qF (QK (pv 0) qF)) qE))) (qAp 6 qM)
   (qC (jq 7 qM (jU XAE hr (qB (pv 6) qE)))
    (qC (jq 8 qM (qd YX (pv 6) (qd Yf qF (pv 7))))
    (qG (QX (PW.pt (JO (qKO (qLd (hu1 hu) (pv 8) (pv 4)) (by with_unfolding_all rfl)) (JF (qX (qK2 hu) (qd qHp (QK (pv 1) (pv 7)) (pv 8)) qF (qp _)))))
    (qG (qAH (hu1 hu) (pv 4) (pv 6) (qd YX qF (qJ5 (hu1 hu) (pv 4) (pv 8) (fun _ _=>rfl))) (by rfl)))
    jA)))))
   (qC (jq 9 qM (qd (qD9 (K:=K) rfl) (jB (qB qF qE)) (qCm (qNG (K:=K) rfl) (pv 5) (qEd qF) qF0)))
   (qC (jh yQ rfl (Jr (by rfl) T.n_range (qB qF (qB (qd Yf qF (QK (pv 0) qF)) qE))) (qAp 6 qM)
   (qC (jq 10 qM (pv 6))
    (qG (Jb yQ (qX qDX (pv 10) qF (qp _))
    (qC (Yy (qd YX (QK (pv 9) (pv 6)) (qd opM (qG5 (hu1 hu) (pv 4) (pv 10) qF ⟨rfl,rfl,rfl,rfl⟩) (QK (pv 9) (qd YX (pv 6) (pv 10))))) (qAx (pv 9) (pv 6) set_list))
     (qG (jq 10 qM (qd qHp (qd YX (pv 10) qF) (pv 6)))))))))
   (qG (qu (QF (qB (pv 4) (qB (pv 9) qE)))))))))))),?_⟩
  rintro as Φ ⟨n,ts,rfl,W,k⟩
  have n1:=W.pos
  have n9:=W.few
  let S0:Sl:=.d (qAL n ts)
  walk_at "st"
  refine qw (fun ρ=>∃ nb,ρ=[S0,.l (jV nb),.u,.u,.u,.u,.u,.u,.u,.u,.u]/\qLO n [] nb) ?_ ?_
  ·walk_at "v"
   refine OpV.r (qKN (k:=(n:Int)) rfl rfl (by omega) (by omega) (szl (by show 1*_<=1000; omega)) ?_)
   rw [zM,show [D.int 0]=[D.int ((0:Nat):Int)] from rfl,qDR]
   walk_at "v"
   refine ⟨_,rfl,zG,fun a ha=>?_⟩
   rw [qHN,if_pos ha]
   exact qGd a
  rintro ρ ⟨nb,rfl,N0⟩
  refine qw (fun ρ=>∃ nb s2 s3,ρ=[S0,.l (jV nb),s2,s3,.u,.u,.u,.u,.u,.u,.u]/\qLO n ts nb) ?_ ?_
  ·refine YE (JS ?_)
   walk_at "v"
   refine ⟨_,_,rfl,rfl,fun i ρ=>∃ nb s2 s3,ρ=[S0,.l (jV nb),s2,s3,.u,.u,.u,.u,.u,.u,.u]/\qLO n (ts.take i) nb,⟨nb,_,_,rfl,N0⟩,?_,?_⟩
   ·clear N0 nb
    rintro i x ρ hx ⟨nb,s2,s3,rfl,N⟩
    have hi:i<ts.length:=by
     have:=(wM.mp hx).1
     rwa [wB] at this
    rw [wQ,wA hi] at hx
    obtain rfl:jX ts[i]=x:=zH hx
    clear hx
    have ht:ts.take (i+1)=ts.take i++[ts[i]]:=yW hi
    have no:ts[i]∉ts.take i:=fun z=>by
     obtain ⟨j,hj,e⟩:=xM z
     rw [zP] at hj
     rw [fA] at e
     have:=(VR W.nd).mp e
     omega
    have Nt:=qGc (t:=ts[i]) (n:=n) (fun u hu=>W.ok u (by rw [<- ht] at hu; exact uW hu)) no N
    rw [<- ht] at Nt
    obtain ⟨w1,w2,w3⟩:=W.ok _ (yI hi)
    generalize ts[i]=t at no Nt w1 w2 w3
    obtain ⟨a,b⟩:=t
    simp only at w1 w2 w3 Nt
    have len:=N.len
    have at1:=qCC (nb:=nb) (a:=a) w1 (by omega)
    have at2:=qCC (nb:=nb.set a.toNat (nb.getD a.toNat 0+2 ^ b.toNat)) (a:=b) (by omega) (by rw [vC]; omega)
    refine qHF rfl rfl (J3 (qU rfl (J3 (qU rfl (qHr ?_)))))
    walk_at "st"
    refine qw (fun ρ=>ρ=[S0,.l (jV (nb.set a.toNat (nb.getD a.toNat 0+2 ^ b.toNat))),.d (.int a),.d (.int b),.u,.u,.u,.u,.u,.u,.u]) ?_ ?_
    ·refine qJj ?_
     walk_at "v"
     refine YY rfl rfl (show qH7 _ _ from ⟨by omega,by omega,by decide⟩) ?_
     rw [qAT (by omega)]
     walk_at "v"
     refine ⟨_,_,_,rfl,rfl,qJF w1 (by unfold jV; rw [wB]; omega),?_⟩
     rw [<- UR,qC6]
     rfl
    rintro ρ rfl
    refine qJj ?_
    walk_at "v"
    refine YY rfl rfl (show qH7 _ _ from ⟨by omega,by omega,by decide⟩) ?_
    rw [qAT w1]
    walk_at "v"
    refine ⟨_,_,_,rfl,rfl,qJF (by omega) (by unfold jV; rw [wB,vC]; omega),?_⟩
    rw [<- UR,qC6]
    exact ⟨_,_,_,rfl,Nt⟩
   ·rintro ρ ⟨nb,s2,s3,rfl,N⟩
    rw [wB,yO] at N
    exact ⟨nb,_,_,rfl,N⟩
  rintro ρ ⟨nb,s2,s3,rfl,N⟩
  clear N0
  have nl:=N.len
  have big:2 ^ n<=512:=zK (Nat.pow_le_pow_right (by decide) n9) (by decide)
  have pos:0<2 ^ n:=Nat.pow_pos (by decide)
  have shn:(1:Int)*2 ^ ((n:Nat):Int).toNat=((2 ^ n:Nat):Int):=by
   rw [qAT (uQ n),zM]
  let S1:Sl:=.l (jV nb)
  refine qw (fun ρ=>ρ=[S0,S1,s2,s3,.o (.di [(.inl 0,.int 1)]),.u,.u,.u,.u,.u,.u]) ?_ ?_
  ·refine qCU (qIp ?_)
   refine qU rfl ?_
   rfl
  rintro ρ rfl
  refine qw (fun ρ=>ρ=[S0,S1,s2,s3,.o (.di [(.inl 0,.int 1)]),.l (jV (wO (2 ^ n) 0)),.u,.u,.u,.u,.u]) ?_ ?_
  ·walk_at "v"
   refine YY rfl rfl (show qH7 _ _ from ⟨by omega,by omega,by decide⟩) ?_
   rw [shn]
   walk_at "v"
   refine OpV.r (qKN (k:=((2 ^ n:Nat):Int)) rfl rfl (by omega) (by omega) (szl (by rw [zM]; show 1*_<=1000; omega)) ?_)
   rw [zM,show [D.int 0]=[D.int ((0:Nat):Int)] from rfl,qDR]
   refine qU rfl ?_
   rfl
  rintro ρ rfl
  let S5:Sl:=.l (jV (wO (2 ^ n) 0))
  refine qw (fun ρ=>∃ ks s6 s7 s8,ρ=[S0,S1,s2,s3,.o (.di ks),S5,s6,s7,s8,.u,.u]/\Aps n ts (2 ^ n) ks) ?_ ?_
  ·refine YE (qMv ?_)
   walk_at "v"
   refine YY rfl rfl (show qH7 _ _ from ⟨by omega,by omega,by decide⟩) ?_
   rw [shn]
   walk_at "v"
   refine ⟨1,((2 ^ n:Nat):Int),⟨_,_,rfl,rfl,rfl⟩,⟨by decide,by decide,by omega,by omega⟩,fun i ρ=>∃ ks s6 s7 s8,ρ=[S0,S1,s2,s3,.o (.di ks),S5,s6,s7,s8,.u,.u]/\Aps n ts (i+1) ks,⟨_,_,_,_,rfl,qJ6 n ts⟩,?_,?_⟩
   ·rintro i x ρ hx ⟨ks,s6,s7,s8,rfl,A⟩
    have hin:i+1<2 ^ n:=by
     have:=(wM.mp hx).1
     rw [qx] at this
     omega
    rw [QM (by omega),show (1:Int)+(i:Int)=((i+1:Nat):Int) by omega] at hx
    cases hx
    have S0':0<i+1:=fB i
    generalize i+1=S at hin A S0'
    refine qU rfl ?_
    walk_at "st"
    let S6:Sl:=.d (.int (S:Int))
    refine qw (fun ρ=>∃ l:Nat,ρ=[S0,S1,s2,s3,.o (.di ks),S5,S6,.d (.int l),s8,.u,.u]/\qL6 S l) ?_ ?_
    ·walk_at "v"
     walk_at "call"
     refine ⟨S,rfl,S0',fun l lo=>⟨⟨_,rfl⟩,?_⟩⟩
     walk_at "st"
     refine qU rfl ?_
     exact ⟨l,rfl,lo⟩
    rintro ρ ⟨l,rfl,lo⟩
    have ln:=qFT hin lo.on
    have rl:=qEZ lo.on
    have le2:2 ^ l<=S:=by
     rw [<- qAW lo.on]
     exact kE
    refine qw (fun ρ=>ρ=[S0,S1,s2,s3,.o (.di ks),S5,S6,.d (.int l),.d (.int (S - 2 ^ l:Nat)),.u,.u]) ?_ ?_
    ·walk_at "v"
     refine YY rfl rfl (show qH7 _ _ from ⟨by omega,by omega,by decide⟩) ?_
     rw [qAT (uQ l),zM]
     walk_at "v"
     rw [show (S:Int) - ((2 ^ l:Nat):Int)=((S - 2 ^ l:Nat):Int) by omega]
     rfl
    rintro ρ rfl
    have nbl:=N.at_ l ln
    have iff:=qDM W.ok lo.on nbl
    have at1:=qCC (nb:=nb) (a:=(l:Int)) (uQ l) (by omega)
    rw [zM] at at1
    refine qCq (qCc ?_)
    walk_at "v"
    refine qL7 ?_
    walk_at "v"
    refine ⟨((S - 2 ^ l:Nat):Int),rfl,?_⟩
    walk_at "v"
    refine ⟨4,ks,rfl,rfl,?_⟩
    walk_at "v"
    by_cases ir:Ind ts (S - 2 ^ l)
    ·have vr:Q6 ks (.inl ((S - 2 ^ l:Nat):Int))=some (.int (apN n ts (S - 2 ^ l))):=(A.val _).trans (if_pos ⟨rl,ir⟩)
     rw [vr]
     refine (if_pos rfl).mpr ?_
     walk_at "v"
     rw [qF3]
     refine qBu (fun z=>?_) (fun z=>?_)
     ·have z:=ofd z
      have z2:nb.getD l 0 &&& (S - 2 ^ l)=0:=by omega
      have aS:=qJa W.ok lo.on ln nbl z2
      refine qLb ?_
      walk_at "v"
      refine qLj ?_
      walk_at "v"
      refine ⟨ks,((S - 2 ^ l:Nat):Int),_,rfl,rfl,vr,?_⟩
      walk_at "v"
      refine ⟨(S:Int),ks,rfl,rfl,qP (by have:=A.len; omega),?_⟩
      rw [show (0:Int) - apN n ts (S - 2 ^ l)=apN n ts S by rw [aS]; omega]
      exact ⟨_,_,_,_,rfl,qJY A (iff.mpr ⟨ir,z2⟩)⟩
     ·refine jC ⟨ks,_,_,_,rfl,qDN A fun y=>z (decide_eq_true ?_)⟩
      rw [(iff.mp y).2]
      rfl
    ·have vr:Q6 ks (.inl ((S - 2 ^ l:Nat):Int))=none:=(A.val _).trans (if_neg fun y=>ir y.2)
     rw [vr]
     refine (if_neg wR).mpr ?_
     refine (if_neg wR).mpr ?_
     exact jC ⟨ks,_,_,_,rfl,qDN A fun y=>ir (iff.mp y).1⟩
   ·rintro ρ ⟨ks,s6,s7,s8,rfl,A⟩
    rw [qx,show (((2 ^ n:Nat):Int) - 1).toNat+1=2 ^ n by omega] at A
    exact ⟨_,_,_,_,rfl,A⟩
  rintro ρ ⟨ks,s6,s7,s8,rfl,A⟩
  refine qw (fun ρ=>∃ L:List Int,ρ=[S0,S1,s2,s3,.o (.di ks),S5,s6,s7,s8,.l (qN L),.u]/\qH1 n ts 1 L/\L.getD 1 0=0) ?_ ?_
  ·walk_at "v"
   refine SlV.l (qNu rfl ?_)
   refine OpV.r (OpV.l (qC4 rfl rfl (szl (by
    have:=qI4 (jV (wO (2 ^ n) 0)) (some 1) none
    have e:(jV (wO (2 ^ n) 0)).length=2 ^ n:=by
     unfold jV
     rw [wB,zG]
    show 1+_<=1000
    omega)) ?_))
   rw [qIL pos]
   refine qU rfl ?_
   have g:∀ T,(1::wO (2 ^ n - 1) (0:Int)).getD T 0=if T=0 then 1 else 0:=fun T=>by
    cases T with
    | zero=>rfl
    | succ T=>
     rw [List.getD_cons_succ,wH,vN,if_neg (Nat.succ_ne_zero T)]
     split <;> rfl
   refine ⟨_,rfl,⟨by rw [wW,zG]; omega,fun T h _=>?_,fun T h=>?_⟩,?_⟩
   ·rw [g,if_pos (by omega),show T=0 by omega,qJR W.ok W.nd]
   ·rw [g,if_neg (by omega)]
   ·rw [g,if_neg (by decide)]
  rintro ρ ⟨L,rfl,C,z1⟩
  refine qw (fun ρ=>∃(L:List Int) (s6 s10:Sl),ρ=[S0,S1,s2,s3,.o (.di ks),S5,s6,s7,s8,.l (qN L),s10]/\qH1 n ts (2 ^ n) L) ?_ ?_
  ·refine YE (qMv ?_)
   walk_at "v"
   refine YY rfl rfl (show qH7 _ _ from ⟨by omega,by omega,by decide⟩) ?_
   rw [shn]
   walk_at "v"
   refine ⟨1,((2 ^ n:Nat):Int),⟨_,_,rfl,rfl,rfl⟩,⟨by decide,by decide,by omega,by omega⟩,fun i ρ=>∃(L:List Int) (s6 s10:Sl),ρ=[S0,S1,s2,s3,.o (.di ks),S5,s6,s7,s8,.l (qN L),s10]/\qH1 n ts (i+1) L/\L.getD (i+1) 0=0,⟨L,_,_,rfl,C,z1⟩,?_,?_⟩
   ·clear C z1 L
    rintro i x ρ hx ⟨L,s6,s10,rfl,C,z1⟩
    have hin:i+1<2 ^ n:=by
     have:=(wM.mp hx).1
     rw [qx] at this
     omega
    rw [QM (by omega),show (1:Int)+(i:Int)=((i+1:Nat):Int) by omega] at hx
    cases hx
    have S0':i+1≠0:=Nat.succ_ne_zero i
    generalize i+1=S at hin C S0' z1
    refine qU rfl ?_
    walk_at "st"
    let S6:Sl:=.d (.int (S:Int))
    refine qw (fun ρ=>ρ=[S0,S1,s2,s3,.o (.di ks),S5,S6,s7,s8,.l (qN L),S6]) (by walk_at "v"; rfl) ?_
    rintro ρ rfl
    refine YM (fun m ρ=>∃ L:List Int,ρ=[S0,S1,s2,s3,.o (.di ks),S5,S6,s7,s8,.l (qN L),.d (.int m)]/\m &&& S=m/\qH1 n ts S L/\L.getD S 0 = - above n ts S m) S ⟨L,rfl,Nat.and_self S,C,?_⟩ ?_
    ·rw [qEb,z1]
     rfl
    rintro m ρ ⟨L,rfl,ms,C,e⟩
    walk_at "v"
    refine qBu (fun z=>?_) (fun z=>?_)
    ·have m0:=ofd z
     have mS:m<=S:=by
      rw [<- ms]
      exact kE
     have m1:1<=m:=by omega
     have lr:S - m<S:=by omega
     have lS:S<L.length:=by rw [C.len]; exact hin
     have atS:=qEU (L:=L) (a:=(S:Int)) (by omega) (by omega)
     have atR:=qEU (L:=L) (a:=(S:Int) - (m:Int)) (by omega) (by omega)
     rw [show ((S:Int) - (m:Int)).toNat=S - m by omega,C.low _ lr (by omega)] at atR
     rw [zM,e] at atS
     have ap:=qGP n ts m
     refine Ya (qJj ?_)
     walk_at "v"
     refine qJD ?_
     walk_at "v"
     refine ⟨4,ks,rfl,rfl,?_⟩
     walk_at "v"
     refine ⟨(m:Int),rfl,?_⟩
     walk_at "v"
     refine ⟨ks,.int 0,rfl,rfl,?_⟩
     rw [qIY A (by omega)]
     walk_at "v"
     refine OpV.l (YY rfl rfl (.inl ⟨by omega,by omega⟩) ?_)
     walk_at "v"
     refine ⟨_,_,_,rfl,rfl,qJF (by omega) (by unfold qN; rw [wB]; omega),?_⟩
     rw [zM,ints_set]
     obtain ⟨C',e'⟩:=qHT (m:=- above n ts S m - apN n ts m*FN ts (S - m)) C hin
     walk_at "v"
     refine ⟨(m - 1) &&& S,zQ Nat.and_le_left (by omega),L.set S (- above n ts S m - apN n ts m*FN ts (S - m)),?_,by rw [Nat.and_assoc,Nat.and_self],C',?_⟩
     ·rw [show (m:Int) - 1=((m - 1:Nat):Int) by omega,qF3]
      rfl
     ·rw [e',qDw ms (by omega)]
      omega
    ·have m0:m=0:=by
      have:¬ ((m:Int) > 0):=fun y=>z (decide_eq_true y)
      omega
     subst m0
     refine ⟨L,_,_,rfl,qFr C fun _=>?_,C.high _ (ZT S)⟩
     rw [e]
     exact (qFY W.ok W.nd hin S0').symm
   ·rintro ρ ⟨L,s6,s10,rfl,C,_⟩
    rw [qx,show (((2 ^ n:Nat):Int) - 1).toNat+1=2 ^ n by omega] at C
    exact ⟨_,_,_,rfl,C⟩
  rintro ρ ⟨L2,s6',s10,rfl,C2⟩
  refine qAC (i:=9) rfl ?_
  walk_at "st"
  refine qFW (i:=4) rfl ?_
  walk_at "sv"
  exact ⟨⟨_,rfl⟩,k L2 C2.len ((C2.low _ (by omega) (by omega)).trans (qK3 W.ok))⟩
theorem qI5 {n:Nat} {ts:List Tie} {j:Nat} {c:List Nat} (W:∀ t∈ts,okp n t) (nd:ts.Nodup) (hj:j<ts.length) (hc:c∈AF ts j):1<=([c++[0],c++[1]].filter (upB (ts.take (j+1)))).length:=by
 have e:=qBz W nd hj hc
 obtain ⟨h1,h2⟩:=qA1 hc
 have ndj:(ts.take j).Nodup:=xS (xG j ts) nd
 have e2:=congrArg fL e
 rw [wB] at e2
 rw [<- e2]
 obtain ⟨r,hr⟩:=(Js ndj h1).mpr h2
 have ne:=(W _ (yI hj)).2.1
 have h3:∀ x y,(x,y)∈arT ts j c->r x<r y:=fun x y z=>hr (x,y) z
 unfold exts
 rw [wB]
 cases p:JT (arT ts j c) ts[j].1 ts[j].2 with
 | false=>
  refine List.length_pos_of_mem (a:=(ts[j].2,ts[j].1)) (zL.mpr ⟨wL,?_⟩)
  show (!JT _ ts[j].1 ts[j].2)=true
  rw [p]
  rfl
 | true=>
  refine List.length_pos_of_mem (a:=ts[j]) (zL.mpr ⟨wI _ wL,?_⟩)
  rw [kZ,<- UA,jj]
  intro q
  rcases qId h3 (Je.mp q) with z | z
  ·omega
  ·rcases qId h3 (Je.mp (jj.mp p)) with y | y <;> omega
theorem qEj {f:List Nat->List (List Nat)}:∀{l:List (List Nat)},(∀ a∈l,1<=(f a).length)->l.length<=(l.flatMap f).length
 | [],_=>zV _
 | a::l,h=>by
  have h1:=h a wL
  have h2:=qEj (l:=l) fun b hb=>h b (wI _ hb)
  rw [kB,wV,wW]
  omega
theorem qMe {n:Nat} {ts:List Tie} {j:Nat} (W:∀ t∈ts,okp n t) (nd:ts.Nodup) (hj:j<ts.length):(AF ts j).length<=(AF ts (j+1)).length:=by
 rw [qJU W nd hj]
 exact qEj fun c hc=>qI5 W nd hj hc
theorem qHl {n:Nat} {ts:List Tie} (W:∀ t∈ts,okp n t) (nd:ts.Nodup) (h:(qi ts).length<=300):∀ j,j<=ts.length->(AF ts j).length<=300:=by
 have key:∀ d j,j+d=ts.length->(AF ts j).length<=300:=fun d=>by
  induction d with
  | zero=>
   intro j hj
   have:j=ts.length:=hj
   subst this
   unfold AF
   rw [yO]
   exact h
  | succ d ih=>
   intro j hj
   exact zK (qMe W nd (by omega)) (ih (j+1) (by omega))
 exact fun j hj=>key (ts.length - j) j (by omega)
def qHa (CT:Addr):PX:=fun as cls=>∃(n:Nat) (ts:List Tie),as=[.d (qAL n ts)]/\ts.length<=20/\(∀ t∈ts,okp n t)/\ts.Nodup/\300<(qi ts).length/\cls=.ref CT
theorem qAU {f CT:Addr} {fd:FuncData} (F:Fun K "all_falls" "all_falls" (top 10) f fd) (T:Txt mg) (XAG:Has P w K mg base "pointed_on" (top 9) ["led","tie"] 2 (spV qAR)) (xT:qMr K CT) (mT:mg "TooMany" = some (.ref CT)):j7 P w K mg base (CXA P w) 3 f fd ["web"] (spX (qHa CT)):=by
 refine qLf F qj (fun as cls h=>?_) (fun cdv A outer s H E hr=>?_)
 ·obtain ⟨n,ts,rfl,_⟩:=h
  rfl
 ·have hu:=hr.units
  refine ⟨_,(qC (jq 1 qj (jB (qB (jB qE) qE)))
   (qC (jh PassesOwn.leaving rfl (qm (K:=K) rfl (QK (pv 0) qF)) (qAp 2 qj)
   (qC (qBk (i:=1) rfl qj.nd rfl rfl (own:=["led","more"]) (fr:=[("tie",2)]) (by walk_at "cs") (qm (K:=K) rfl (pv 1)) (fun cl C s0 H0 fp=>⟨(qAD 0),QV,(qm (K:=K) rfl (jU XAG hr (qB (pv 0) (qB (pv 2) qE)))),(qAD 1),QV,(pv 1)⟩))
    (qG (QX (qX qDX (qW (qHs (K:=K) rfl) (by rfl) T.n_len xK (qB (pv 1) qE)) (qAj (by rfl) T.g_MOST_FALLS) (qp _))
    (qG (qG7 (φ:=E (.ref CT) none) xT mT (by rfl) rfl rfl (qB (qGQ (by decide) (qAj (by rfl) T.g_MOST_FALLS)) qE) (fun pins σ H s e xs I x q=>fly I x (.inl rfl) q)))
    jA))))
   (qG (qu (jf rfl (own:=["led"]) (fr:=[]) (by walk_at "cs") (qm (K:=K) rfl (pv 1)) (fun cl C s0 H0 fp=>⟨(qAD 0),QV,(jO (qFF (K:=K) rfl) (by rfl) T.n_tuple gS (qB (jf rfl (own:=["a","b"]) (fr:=[]) (by walk_at "cs") (qm (K:=K) rfl (pv 0)) (fun cl C s0 H0 fp=>⟨(jw (K:=K) (n:=2) rfl rfl (qc (qAD 0) (qc (qAD 1) ju))),QV,(qCz (qX qFo (pv 0) (pv 1) (qp _)) qF qF)⟩)) qE))⟩)))))),?_⟩
  rintro as cls ⟨n,ts,rfl,tl,W,nd,many,rfl⟩
  let S0:Sl:=.d (qAL n ts)
  let lD:Nat->List Nat->D:=fun j c=>.lst ((arT ts j c).map jX)
  walk_at "st"
  refine qNp ?_
  refine qI7 (fun ρ=>ρ=[S0,.l ((AF ts 0).map (lD 0)),.u]) (qM4 ?_) ?_
  ·walk_at "v"
   show _=[S0,.l ((AF ts 0).map (lD 0)),.u]
   rw [qCW]
   rfl
  rintro ρ rfl
  refine qI7 (fun _=>False) ?_ fun _ z=>z.elim
  refine qM6 (JS ?_)
  walk_at "v"
  refine ⟨_,_,rfl,rfl,fun j ρ=>(AF ts j).length<=300/\Le ρ [S0,.l ((AF ts j).map (lD j)),.u],⟨by rw [qCW]; decide,rfl,rfl,trivial⟩,?_,?_⟩
  rotate_left
  ·rintro ρ ⟨hle,_⟩
   rw [wB] at hle
   unfold AF at hle
   rw [yO] at hle
   omega
  rintro j x ρ hx ⟨fw,hle⟩
  rw [wQ] at hx
  have hj:j<ts.length:=by
   cases e:ts[j]? with
   | none=>rw [e] at hx; cases hx
   | some t=>exact (wM.mp e).1
  rw [wA hj] at hx
  cases hx
  refine qI2 hle ?_
  refine qU rfl ?_
  walk_at "st"
  refine qG1 (i:=1) rfl ?_
  walk_at "st"
  let S2:Sl:=.d (jX ts[j])
  let S1:Sl:=.d (.lst ((AF ts j).map (lD j)))
  refine qI7 (fun ρ=>ρ=[S0,.l ((AF ts (j+1)).map (lD (j+1))),S2]) (qM4 ?_) ?_
  ·let ext:List Nat->List (List Nat):=fun c=>[c++[0],c++[1]].filter (upB (ts.take (j+1)))
   refine qCU (qKr (JS ?_))
   walk_at "v"
   refine ⟨_,_,rfl,rfl,jE rfl,of_decide_eq_true rfl,fun k ys ρc=>∃ s0 s1:Sl,ρc=[s0,s1,S2]/\ys=(((AF ts j).take k).flatMap ext).map (lD (j+1))/\k<=(AF ts j).length,⟨_,_,rfl,rfl,zV _⟩,?_,?_,?_⟩
   ·rintro k ys ρc ⟨s0,s1,rfl,_⟩
    rfl
   ·rintro k x ys ρc hx ⟨s0,s1,rfl,rfl,hk⟩
    rw [wQ] at hx
    obtain ⟨c,hc,rfl⟩:=xH.mp hx
    have hcm:=yD hc
    have hk2:=(wM.mp hc).1
    obtain ⟨ca,cu⟩:=qA1 hcm
    have bt:((AF ts j).take (k+1)).flatMap ext=((AF ts j).take k).flatMap ext++ext c:=by
     rw [kA,hc,List.flatMap_append]
     show _++(ext c++[])=_
     rw [zI]
    have bl:(((AF ts j).take k).flatMap ext).length<=600:=by
     have h1:=qCH (f:=ext) (l:=(AF ts j).take k) fun c=>by
      show ([c++[0],c++[1]].filter _).length<=2
      exact vK _ _
     rw [zP] at h1
     omega
    refine qU rfl ?_
    walk_at "st"
    refine Qy ?_
    refine (if_pos rfl).mpr ?_
    refine qHf ?_
    walk_at "vc"
    refine ⟨arT ts j c,ts[j],rfl,?_,?_,⟨⟨_,rfl⟩,?_⟩⟩
    ·have h1:=Jz (ts:=ts.take j) (bs:=zi c)
     rw [zP] at h1
     show (qo _ _).length<=19
     omega
    ·exact qEh (by rw [Yt,(qS.mp ca).1]) (fun t ht=>(W t (uW ht)).2.1) (xS (xG j ts) nd)
    walk_at "st"
    rw [qBz W nd hj hcm,yB]
    have el:(ext c).length<=2:=vK _ _
    refine ⟨_,_,rfl,rfl,fun i ys ρc=>∃ s1:Sl,ρc=[.d (lD j c),s1,S2]/\ys=(((AF ts j).take k).flatMap ext).map (lD (j+1))++((ext c).take i).map (lD (j+1)),⟨_,rfl,by rw [uO,fR,zI]⟩,?_,?_,?_⟩
    ·rintro i ys ρc ⟨s1,rfl,rfl⟩
     refine qP ?_
     rw [wV,wB,wB,zP]
     omega
    ·rintro i u ys ρc hu ⟨s1,rfl,rfl⟩
     obtain ⟨d,hd,rfl⟩:∃ d,(ext c)[i]? = some d/\u=lD (j+1) d:=by
      have hu':((ext c).map (lD (j+1)))[i]? = some u:=hu
      rw [wQ] at hu'
      obtain ⟨d,h1,h2⟩:=xH.mp hu'
      exact ⟨d,h1,h2.symm⟩
     refine qU rfl ?_
     walk_at "st"
     refine Qy ?_
     refine (if_pos rfl).mpr ?_
     walk_at "v"
     refine ⟨_,rfl,?_⟩
     rw [kA,hd,yJ,yF]
     rfl
    ·rintro ys ρc ⟨s1,rfl,rfl⟩
     refine ⟨_,_,rfl,?_,hk2⟩
     rw [bt,yJ,wB,yO]
   ·rintro ys ρc ⟨s0,s1,rfl,rfl,_⟩
    rw [wB,yO,<- qJU W nd hj]
    walk_at "st"
    refine qU rfl ?_
    rfl
  rintro ρ rfl
  refine qN6 ?_
  walk_at "v"
  rw [wB]
  refine qBu (fun _=>?_) (fun z=>?_)
  ·refine qIb ?_
   walk_at "v"
   refine qJp ?_
   walk_at "v"
   refine ⟨by decide,by decide,by decide,fun z=>?_⟩
   walk_at "v"
   exact of_decide_eq_true rfl
  ·refine qM4 (jC ⟨?_,rfl,rfl,trivial⟩)
   have:¬ (300:Int)<((AF ts (j+1)).length:Int):=fun y=>z (decide_eq_true y)
   omega
theorem qE5:∀{ts:List Tie} {bs:List Int},bs.length=ts.length->∀ i,i<ts.length->(qo ts bs)[i]? = some (arr (ts.getD i (0,0)) (bs.getD i 0))
 | [],bs,_,i,h=>absurd h (vT _)
 | t::ts,[],h,_,_=>by cases h
 | t::ts,b::bs,h,0,_=>rfl
 | t::ts,b::bs,h,i+1,hi=>by
  have h':bs.length=ts.length:=by simpa using h
  have hi':i<ts.length:=by simpa using hi
  show (qo ts bs)[i]? = _
  rw [qE5 h' i hi']
  rfl
theorem qJE {bs:List Int} (B:qKC bs) {j:Nat} (hj:j<bs.length):bs.getD j 0=0\/bs.getD j 0=1:=by
 rw [wH,wA hj]
 exact B _ (yI hj)
def qIP (ts:List Tie) (bs:List Int):Prop:=∃ r:Int->Int,∀ x∈qo ts bs,r x.1<r x.2
def qEx:PV:=fun as Φ=>∃(n:Nat) (ts:List Tie) (bs:List Int),as=[.d (qAL n ts),.d (.tup (qN bs))]/\ts.length<=20/\qKC bs/\bs.length=ts.length/\Φ (.l ((qo ts bs).map jX)) as
theorem jF:qb ["web","pointing","found","k","a","b"] ["web","pointing"] (qJ (top 18)):=by walk_at "sc"
theorem qAO (F:Fun K "_law_flows" "_law_flows" (top 18) f fd) (T:Txt mg):j7 P w K mg base CX0 1 f fd ["web","pointing"] (spV qEx):=by
 refine Qf F jF [0,1] (fun as Φ h=>?_) (fun cdv A outer s H E hr=>?_)
 ·obtain ⟨n,ts,bs,rfl,_⟩:=h
  rfl
 ·have hu:=hr.units
  refine ⟨_,(qC (jq 2 jF (jB qE))
   (qC (jh yQ rfl (qLU (by rfl) T.n_enumerate (qB (QK (pv 0) qF) qE)) (jw (K:=K) (n:=2) rfl rfl (qc (qAp 3 jF) (qc (jw (K:=K) (n:=2) rfl rfl (qc (qAp 4 jF) (qc (qAp 5 jF) ju))) ju)))
   (qG (Jw (Ym (K:=K) rfl uA ZN ZO j8 (pv 2) (qB (QK (jB (qB (QF (qB (pv 5) (qB (pv 4) qE))) (qB (QF (qB (pv 4) (qB (pv 5) qE))) qE))) (QK (pv 1) (pv 3))) qE)))))
   (qG (qu (pv 2))))),?_⟩
  rintro as Φ ⟨n,ts,bs,rfl,hts,B,hbl,k⟩
  walk_at "sv"
  walk_at "st"
  walk_at "nf"
  refine YE (qMx ?_)
  walk_at "v"
  refine ⟨_,⟨_,rfl,rfl⟩,fun i ρ=>∃(s3 s4 s5:Sl),ρ=[.d (qAL n ts),.d (.tup (qN bs)),.l (((qo ts bs).take i).map jX),s3,s4,s5],⟨_,_,_,rfl⟩,?_,?_⟩
  rotate_left
  ·rintro ρ ⟨s3,s4,s5,rfl⟩
   rw [Q3,wB,<- Qe hbl,yO]
   refine qCN (i:=2) rfl ?_
   walk_at "st"
   exact ⟨⟨_,rfl⟩,k⟩
  rintro i x ρ hx ⟨s3,s4,s5,rfl⟩
  have hi:i<ts.length:=by
   have:=(wM.mp hx).1
   rwa [Q3,wB] at this
  have hg:(ts.map jX)[i]? = some (jX (ts.getD i (0,0))):=by
   rw [wQ,wA hi,wH,wA hi]
   rfl
  rw [Ju hg,kL] at hx
  cases hx
  have hat:atI (qN bs) (i:Int)=some (.int (bs.getD i 0)):=by
   have:=at_getD (ns:=bs) (a:=(i:Int)) (by omega) (by omega)
   rwa [zM] at this
  have hb:=qJE B (j:=i) (by omega)
  have et:(qo ts bs).take (i+1)=(qo ts bs).take i++[arr (ts.getD i (0,0)) (bs.getD i 0)]:=by rw [kA,qE5 hbl i hi]; rfl
  have hl:(((qo ts bs).take i).map jX).length<=20:=by
   rw [wB,zP]
   omega
  generalize hfo:((qo ts bs).take i).map jX=fo at hl
  clear hg
  generalize ts.getD i (0,0)=t at et
  generalize bs.getD i 0=v at et hat hb
  obtain ⟨a,b⟩:=t
  refine qHF rfl rfl ?_
  refine J3 (qU rfl ?_)
  walk_at "st"
  refine J3 (qHF rfl rfl ?_)
  walk_at "v"
  walk_at "sv"
  rcases hb with hb | hb
  ·have hb':v=0:=hb
   subst hb'
   refine qCS rfl rfl rfl ?_
   walk_at "v"
   refine JY (xs:=fo) rfl rfl (qP (by omega)) ?_
   walk_at "st"
   refine ⟨.d (.int i),.d (.int a),.d (.int b),?_⟩
   rw [et,yJ,hfo]
   rfl
  ·have hb':v=1:=hb
   subst hb'
   refine qCS rfl rfl rfl ?_
   walk_at "v"
   refine JY (xs:=fo) rfl rfl (qP (by omega)) ?_
   walk_at "st"
   refine ⟨.d (.int i),.d (.int a),.d (.int b),?_⟩
   rw [et,yJ,hfo]
   rfl
def stay (ar:List Tie) (lf:List Int):List Int:=lf.filter fun p=>decide (p∈(ar.filter fun x=>decide (x.1∈lf)).map fun x=>x.2)
theorem qEG {ar:List Tie} {r:Int->Int} (hr:∀ x∈ar,r x.1<r x.2) {lf:List Int} (h:lf≠[]):(stay ar lf).length<lf.length:=by
 obtain ⟨p,hp,hmin⟩:=qHh (r:=r) h
 unfold stay
 refine Nat.lt_of_le_of_ne (vK _ _) fun z=>?_
 have:=ofd (List.length_filter_eq_length_iff.mp z p hp)
 obtain ⟨x,hx,e⟩:=zD.mp this
 obtain ⟨h1,h2⟩:=zL.mp hx
 have a1:=hr x h1
 have a2:=hmin x.1 (ofd h2)
 rw [e] at a1
 omega
theorem qGZ {ar:List Tie} {r:Int->Int} (hr:∀ x∈ar,r x.1<r x.2) {lf:List Int}:(stay ar lf).length<=lf.length - 1:=by
 by_cases h:lf=[]
 ·subst h
  exact wF _
 ·have:=qEG hr h
  omega
def YD (ar:List Tie):Nat->List Int->List Int
 | 0,l=>l
 | k+1,l=>YD ar k (stay ar l)
def qIj (n:Nat) (ar:List Tie):Bool:=(YD ar n (places n)).isEmpty
theorem qBX {ar:List Tie} {r:Int->Int} (hr:∀ x∈ar,r x.1<r x.2):∀(k:Nat) (l:List Int),l.length<=k->YD ar k l=[]
 | 0,l,h=>gQ.mp (by show l.length=0; omega)
 | k+1,l,h=>qBX hr k _ (zK (qGZ hr) (by omega))
theorem qFs {n:Nat} {ts:List Tie} {bs:List Int} (F:qIP ts bs):qIj n (qo ts bs)=true:=by
 obtain ⟨r,hr⟩:=F
 unfold qIj
 rw [qBX hr n (places n) (by rw [places_len]; exact wF _)]
 rfl
def qHw:PV:=fun as Φ=>∃(n:Nat) (ts:List Tie) (bs:List Int),as=[.d (qAL n ts),.d (.tup (qN bs))]/\qLy n ts/\bs.length=ts.length/\qKC bs/\Φ (.d (.bl (qIj n (qo ts bs)))) as
theorem qg:qb ["web","pointing","flows","left","turn","ends"] ["web","pointing"] (qJ (top 19)):=by walk_at "sc"
theorem J2 (F:Fun K "_law_is_fall" "_law_is_fall" (top 19) f fd) (T:Txt mg) (XAF:Has P w K mg base "_law_flows" (top 18) ["web","pointing"] 1 (spV qEx)):j7 P w K mg base CX0 2 f fd ["web","pointing"] (spV qHw):=by
 refine Qf F qg [0,1] (fun as Φ h=>?_) (fun cdv A outer s H E hr=>?_)
 ·obtain ⟨n,ts,bs,rfl,_⟩:=h
  rfl
 ·have hu:=hr.units
  refine ⟨_,(qC (jq 2 qg (jU XAF hr (qB (pv 0) (qB (pv 1) qE))))
   (qC (jq 3 qg (jO (JN rfl) (by rfl) T.n_list fF (qB (jO YG (by rfl) T.n_range SN (qB (QK (pv 0) qF) qE)) qE)))
   (qC (jh yQ rfl (Qn (by rfl) T.n_range (qB (QK (pv 0) qF) qE)) (qAp 4 qg)
   (qC (jq 5 qg (jf rfl (own:=["begin","end"]) (fr:=[("left",3)]) (by walk_at "cs") (qm (K:=K) rfl (pv 2)) (fun cl C s0 H0 fp=>⟨(jw (K:=K) (n:=2) rfl rfl (qc (qAD 0) (qc (qAD 1) ju))),qDL (qX (qMm hu) (pv 0) (pv 2) (by with_unfolding_all rfl)),(pv 1)⟩)))
    (qG (jq 3 qg (jf rfl (own:=["place"]) (fr:=[("ends",5)]) (by walk_at "cs") (qm (K:=K) rfl (pv 3)) (fun cl C s0 H0 fp=>⟨(qAD 0),qDL (qX (qMm hu) (pv 0) (pv 1) (by with_unfolding_all rfl)),(pv 0)⟩))))))
   (qG (qu (qFq (qK2 hu) (pv 3) (jB qE) (qp _))))))),?_⟩
  rintro as Φ ⟨n,ts,bs,rfl,W,hbl,B,k⟩
  have k':Φ (.d (.bl (YD (qo ts bs) n (places n)).isEmpty)) [.d (qAL n ts),.d (.tup (qN bs))]:=k
  clear k
  have W1:=W.few
  have W2:=W.len
  have al:=Qe hbl
  walk_at "st"
  walk_at "vc"
  refine ⟨n,ts,bs,rfl,W2,B,hbl,⟨⟨_,rfl⟩,?_⟩⟩
  walk_at "st"
  generalize qo ts bs=ar at al k'
  refine qU rfl ?_
  walk_at "sv"
  refine ⟨n,⟨_,rfl,rfl⟩,by omega,by omega,?_⟩
  rw [zM]
  have e0:((zA n).map fun k:Nat=>D.int (k:Int))=qN (places n):=by
   unfold qN places
   rw [yB]
   rfl
  rw [e0]
  refine qU rfl ?_
  walk_at "st"
  refine Ya (YE (qLw ?_))
  walk_at "v"
  refine ⟨n,⟨_,rfl,rfl⟩,by omega,by omega,fun i ρ=>∃(lf:List Int) (s4 s5:Sl),ρ=[.d (qAL n ts),.d (.tup (qN bs)),.l (ar.map jX),.l (qN lf),s4,s5]/\lf.length<=n/\YD ar (n - i) lf=YD ar n (places n),⟨places n,_,_,rfl,by rw [places_len]; exact wF _,rfl⟩,?_,?_⟩
  rotate_left
  ·rintro ρ ⟨lf,s4,s5,rfl,hl,go⟩
   rw [qx,zM,VN] at go
   rw [<- go] at k'
   walk_at "v"
   have e9:(qN lf).isEmpty=(YD ar 0 lf).isEmpty:=by
    show (qN lf).isEmpty=lf.isEmpty
    cases lf <;> rfl
   rw [e9]
   exact ⟨⟨_,rfl⟩,k'⟩
  rintro i x ρ hx ⟨lf,s4,s5,rfl,hl,go⟩
  have hin:i<n:=by
   have:=(wM.mp hx).1
   rw [qx] at this
   omega
  have go2:YD ar (n - (i+1)) (stay ar lf)=YD ar n (places n):=by
   rw [<- go,show n - i=(n - (i+1))+1 by omega]
   rfl
  clear hx
  refine qU rfl ?_
  walk_at "st"
  refine Ya (qCU ?_)
  refine qCG jX ar (fun x=>decide (x.1∈lf)) (fun x=>D.int x.2) rfl rfl (qP (by omega)) (jE rfl) (of_decide_eq_true rfl) ?_ ?_
  ·rintro ⟨x1,x2⟩ _ os hos
   obtain ⟨z0,z1,rfl⟩:=qKF hos
   walk_at "v"
   refine ⟨⟨[_,_],rfl,rfl⟩,?_,fun _=>?_⟩
   ·walk_at "v"
    exact ⟨rfl,rfl⟩
   ·walk_at "v"
    exact ⟨rfl,rfl⟩
  have e1:(ar.filter fun x=>decide (x.1∈lf)).map (fun x:Tie=>D.int x.2)=qN ((ar.filter fun x=>decide (x.1∈lf)).map fun x=>x.2):=by
   unfold qN
   rw [yB]
   rfl
  rw [e1]
  have go3:YD ar (n - (i+1)) (lf.filter fun p=>decide (p∈(ar.filter fun x=>decide (x.1∈lf)).map fun x=>x.2))=YD ar n (places n):=go2
  generalize ((ar.filter fun x=>decide (x.1∈lf)).map fun x=>x.2)=en at go3
  clear e1 go2
  refine qU rfl ?_
  walk_at "st"
  refine qCU ?_
  refine qCG (fun p:Int=>D.int p) lf (fun p=>decide (p∈en)) (fun p=>D.int p) rfl rfl (qP (by omega)) (jE rfl) (of_decide_eq_true rfl) ?_ ?_
  ·rintro p _ os hos
   obtain ⟨z0,rfl⟩:=qKP hos
   walk_at "v"
   refine ⟨⟨[_],rfl,rfl⟩,?_,fun _=>?_⟩
   ·walk_at "v"
    exact ⟨rfl,rfl⟩
   ·walk_at "v"
    exact ⟨rfl,rfl⟩
  refine qU rfl ?_
  walk_at "st"
  exact ⟨lf.filter fun p=>decide (p∈en),_,_,rfl,zK (vK _ _) hl,go3⟩
def qII:PV:=fun as Φ=>∃ ns:List Int,as=[.d (.tup (qN ns))]/\ns.length<=100/\Φ (.d (.bl true)) as
theorem qBe:qb ["some"] ["some"] (qJ (top 14)):=by walk_at "sc"
theorem qBO (F:Fun K "_law_ints" "_law_ints" (top 14) f fd) (T:Txt mg):j7 P w K mg base CX0 1 f fd ["some"] (spV qII):=by
 refine Qf F qBe [0] (fun as Φ h=>?_) (fun cdv A outer s H E hr=>?_)
 ·obtain ⟨ns,rfl,_⟩:=h
  rfl
 ·have hu:=hr.units
  refine ⟨_,(qG (qu (qW (qEC rfl) (by rfl) T.n_all PyProof.Rows.boot_all (qB (jf rfl (own:=["number"]) (fr:=[]) (by walk_at "cs") (qm (K:=K) rfl (pv 0)) (fun cl C s0 H0 fp=>⟨(qAD 0),QV,(qLi (qW (qAA (K:=K) rfl) (by rfl) T.n_isinstance vF (qB (pv 0) (qB (J9 (v:=.ty "int") (by rfl) T.n_int PyProof.Rows.boot_int rfl) qE))) (qLs (qGz (K:=K) rfl (qW (qAA (K:=K) rfl) (by rfl) T.n_isinstance vF (qB (pv 0) (qB (J9 (v:=.ty "bool") (by rfl) T.n_bool PyProof.Rows.boot_bool rfl) qE))))))⟩)) qE)))),?_⟩
  rintro as Φ ⟨ns,rfl,hn,k⟩
  walk_at "sv"
  refine Yj (fun p:Int=>D.int p) ns (fun _=>true) (fun _=>D.bl true) (JS ?_)
  walk_at "v"
  refine ⟨_,_,rfl,rfl,rfl,qP (by omega),jE rfl,of_decide_eq_true rfl,?_,?_⟩
  ·rintro p _ os hos
   obtain ⟨z0,rfl⟩:=qKP hos
   walk_at "v"
   refine ⟨⟨[_],rfl,rfl⟩,Qy ⟨rfl,rfl⟩,fun _=>?_⟩
   walk_at "vJ"
   exact ⟨rfl,rfl⟩
  rw [jo]
  have eb:ns.map (fun _=>D.bl true)=(ns.map fun _=>true).map D.bl:=by
   rw [yB]
   rfl
  rw [eb]
  walk_at "v"
  refine qMH rfl ?_
  have ea:(ns.map fun _=>true).all id=true:=by
   rw [List.all_map,VZ]
   intro p _
   rfl
  rw [ea]
  exact ⟨⟨_,rfl⟩,k⟩
structure Exs (K:wD) (mg:Str->Option Value) (CT CR CA CN:Addr):Prop where
 xT:qMr K CT
 iT:qM7 K CT
 mT:mg "TooMany" = some (.ref CT)
 mR:mg "RillError" = some (.ref CR)
 mA:mg "Apart" = some (.ref CA)
 mN:mg "NoTie" = some (.ref CN)
 eR:WM K (.ref CT) (.ref CR)=some true
 kT:vQ K (.ref CT) (.ref CT)=some true
 kV:vQ K (.ref CT) (.type "ValueError")=some true
 kN:TL K (.ref CT) [.ref CA,.ref CN]=some false
theorem qMO {E:XK} {ρ:List Sl} {cls:Value} {P:PX} {ta:TA} {g:TG} (h:wpA ta ρ fun rs ρ1=>(isB rs).Nodup/\P (rs.map (qGM ρ1)) cls):wpX (qJl (qGn (spX P) [] E ta) g) E ρ cls:=fun G F σ H I D k=>by
 refine h G F σ H I _ fun G1 H1 vs rs ρ1 ⟨nb,h1⟩ g1 I1 oks=>?_
 show spX P (vs++[]) H1 _ E
 rw [zI]
 exact ⟨_,cls,G1,_,h1,by rw [wB,oks.len],I1.focus oks nb,fun H' a f=>k H' (g1.trans a) ((Q0 (rs:=rs) I1).trans f)⟩
def qNZ (n:Nat) (ts:List Tie):Prop:=ts.length<=20/\(∀ t∈ts,okp n t)/\ts.Nodup
def qEi:PV:=fun as Φ=>∃(n:Nat) (ts:List Tie),as=[.d (qAL n ts)]/\qNZ n ts/\(qi ts).length<=300/\Φ (.l ((qi ts).map qLR)) as
def qEP:PV:=fun as Φ=>∃(n:Nat) (ts:List Tie),as=[.d (qAL n ts)]/\qNZ n ts/\300<(qi ts).length/\Φ (.d (.str "many")) [.u]
theorem qO:qb ["web","found","e"] ["web"] (qJ (top 22)):=⟨rfl,rfl,rfl,by decide +kernel,rfl,by decide +kernel,by decide +kernel⟩
theorem Qb {f CR:Addr} {fd:FuncData} (F:Fun K "_law_told_falls" "_law_told_falls" (top 22) f fd) (T:Txt mg) (XAM:Has P w K mg base "all_falls" (top 10) ["web"] 3 (spV Qz)) (mR:mg "RillError" = some (.ref CR)):j7 P w K mg base CX0 4 f fd ["web"] (spV qEi):=by
 refine Qf F qO [0] (fun as Φ h=>?_) (fun cdv A outer s H E hr=>?_)
 ·obtain ⟨n,ts,rfl,_⟩:=h
  rfl
 ·have hu:=hr.units
  refine ⟨_,qC (jq 1 qO qCn) (qC (qE7 (i:=2) rfl rfl qO.nd rfl rfl (by rfl) mR (fun pn E' E2 hx=>qG (jq 1 qO (jU XAM hr (qB (pv 0) qE)))) (fun cls a oe pn hp hc=>qEY)) (qG (qu (pv 1)))),?_⟩
  rintro as Φ ⟨n,ts,rfl,W,few,k⟩
  walk_at "st"
  refine qw (fun ρ=>ρ=[.d (qAL n ts),.d (.str "none"),.u]) ?_ ?_
  ·walk_at "v"
   rfl
  rintro ρ rfl
  refine qw (fun ρ=>ρ=[.d (qAL n ts),.l ((qi ts).map qLR),.u]) (qIs fun E=>?_) ?_
  ·walk_at "v"
   walk_at "call"
   refine ⟨n,ts,rfl,W.1,W.2.1,W.2.2,qHl W.2.1 W.2.2 few,⟨⟨_,rfl⟩,?_⟩⟩
   walk_at "sv"
   rfl
  rintro ρ rfl
  refine qCN (i:=1) rfl ?_
  walk_at "st"
  exact ⟨⟨_,rfl⟩,k⟩
theorem Qa {f f1 CT CR CA CN:Addr} {fd d1:FuncData} (F:Fun K "_law_told_falls" "_law_told_falls" (top 22) f fd) (T:Txt mg) (XAH:qGS K mg "all_falls" (top 10) ["web"] f1 d1) (GX_all_falls:j7 P w K mg base (CXA P w) 3 f1 d1 ["web"] (spX (qHa CT))) (x:Exs K mg CT CR CA CN):j7 P w K mg base CX0 4 f fd ["web"] (spV qEP):=by
 refine Qf F qO [] (fun as Φ h=>?_) (fun cdv A outer s H E hr=>?_)
 ·obtain ⟨n,ts,rfl,_⟩:=h
  rfl
 ·have hu:=hr.units
  refine ⟨_,qC (jq 1 qO qCn) (qC (qE7 (i:=2) rfl rfl qO.nd rfl rfl (by rfl) x.mR (fun pn E' E2 hx=>qG (jq 1 qO (qGB GX_all_falls (hr.mono (by decide)) (by rfl) XAH.mg XAH.fn.kp XAH.bd .nil hx (qB (pv 0) qE))))
   (fun cls a oe pn hp hc=>qG (QX (PW.pt (JO (jG (K:=K) rfl (qW (qAb (K:=K) rfl hp hc) (by rfl) T.n_isinstance vF (qB (pv 2) (qB (qAd (by rfl) x.mT) qE))) (fun _=>rfl))
     (JO (jG (K:=K) rfl (qW (qAb (K:=K) rfl hp hc) (by rfl) T.n_isinstance vF (qB (pv 2) (qB (J9 (v:=.ty "ValueError") (by rfl) T.n_ValueError (show bootBuiltins "ValueError" = some (.type "ValueError") by kernel_rfl) rfl) qE))) (fun _=>rfl))
      (JF (Ye (jG (K:=K) rfl (qW (qAb (K:=K) rfl hp hc) (by rfl) T.n_isinstance vF (qB (pv 2) (qB (QF (qB (qAd (by rfl) x.mA) (qB (qAd (by rfl) x.mN) qE))) qE))) (fun _=>rfl)))))))
    (qG (jq 1 qO qCn)) jA)))
   (qG (qu (pv 1)))),?_⟩
  rintro as Φ ⟨n,ts,rfl,⟨W1,W2,W3⟩,many,k⟩
  walk_at "st"
  refine qw (fun ρ=>ρ=[.d (qAL n ts),.d (.str "none"),.u]) ?_ ?_
  ·walk_at "v"
   rfl
  rintro ρ rfl
  refine Ya (qJ7 (cls:=.ref CT) (v:=.str "many") (d:=.str "many") (show 2<3 by decide) (show 1<3 by decide) (by decide) (fun E=>qMO ?_) x.eR ?_ (fun G=>rfl) ?_)
  ·walk_at "v"
   refine ⟨of_decide_eq_true rfl,?_⟩
   walk_at "st"
   exact ⟨n,ts,rfl,W1,W2,W3,many,rfl⟩
  ·intro a D σ H ha hl kd
   have e2:(σ.set 2 (some (V.ref a)))[2]? = some (some (.ref a)):=by rw [uF hl]
   refine ⟨.ref a,e2,CT,rfl,x.iT,.inl ⟨.ref CT,_,true,rfl,rfl,x.kT,true,rfl,?_⟩⟩
   refine (if_pos rfl).mpr ?_
   refine ⟨.ref a,e2,CT,rfl,x.iT,.inl ⟨.ty "ValueError",_,true,rfl,rfl,x.kV,true,rfl,?_⟩⟩
   refine (if_pos rfl).mpr ?_
   refine ⟨.ref a,e2,of_decide_eq_true rfl,fun t ht=>⟨CT,rfl,x.iT,.inr ⟨t,_,_,false,rfl,qH,rfl,x.kN,false,rfl,?_⟩⟩⟩
   refine (if_pos rfl).mpr ?_
   exact kd _ fun b o q=>by
    rw [qI (qr q ht)]
    exact q
  ·walk_at "st"
   walk_at "v"
   exact ⟨⟨_,rfl⟩,k⟩
theorem Q4 {f CT CR CA CN:Addr} {fd:FuncData} (F:Fun K "_law_told_falls" "_law_told_falls" (top 22) f fd) (T:Txt mg) (XAM:Has P w K mg base "all_falls" (top 10) ["web"] 3 (spV Qz)) (hx:∃(f1:Addr) (d1:FuncData),qGS K mg "all_falls" (top 10) ["web"] f1 d1/\j7 P w K mg base (CXA P w) 3 f1 d1 ["web"] (spX (qHa CT))) (x:Exs K mg CT CR CA CN):j7 P w K mg base CX0 4 f fd ["web"] (spV (fun as Φ=>qEi as Φ\/qEP as Φ)):=by
 obtain ⟨g1,e1,D,G⟩:=hx
 exact qEJ (Qb F T XAM x.mR) (Qa F T D G x)
theorem qHZ (ns:List Int) (lo hi:Option Int):∃ ms:List Int,cutD (ns.map D.int) lo hi=ms.map D.int/\ms.length<=ns.length:=by
 unfold cutD
 refine ⟨_,(by rw [<- List.map_drop,<- List.map_take]),?_⟩
 rw [zP,xQ]
 omega
noncomputable def FL (ts:List Tie):List (List Int):=(qi ts).map zi
theorem qE8 (ts:List Tie):(qi ts).map qLR=(FL ts).map QT:=by
 unfold FL
 rw [yB]
 rfl
theorem qKe (r:Int->Int):∀ ar:List Tie,∃ B:Nat,∀ x∈ar,-(B:Int)<=r x.1
 | []=>⟨0,fun _ h=>absurd h zU⟩
 | x::ar=>by
  obtain ⟨B,h⟩:=qKe r ar
  refine ⟨B+(r x.1).natAbs,fun y hy=>?_⟩
  rcases wX.mp hy with e | e
  ·rw [e]; omega
  ·have:=h y e; omega
theorem qA9 {ts:List Tie} {bs:List Int}:qIP ts bs↔qLW (qo ts bs):=by
 constructor
 ·rintro ⟨r,hr⟩
  obtain ⟨B,hB⟩:=qKe r (qo ts bs)
  refine ⟨fun p=>(r p+B).toNat,fun x hx=>?_⟩
  have h1:=hr x hx
  have h2:=hB x hx
  show (r x.1+B).toNat<(r x.2+B).toNat
  omega
 ·rintro ⟨r,hr⟩
  exact ⟨fun p=>(r p:Int),fun x hx=>Int.ofNat_lt.mpr (hr x hx)⟩
theorem qCh:∀{bs:List Int},qKC bs->zi (bs.map Int.toNat)=bs
 | [],_=>rfl
 | b::bs,B=>by
  show ((b.toNat:Int))::zi (bs.map Int.toNat)=b::bs
  rw [qCh fun x hx=>B x (wI _ hx)]
  have:((b.toNat:Nat):Int)=b:=by
   rcases B b wL with e | e <;> rw [e] <;> rfl
  rw [this]
theorem qHn {ts:List Tie} (nd:ts.Nodup) (bs:List Int):bs∈FL ts↔bs.length=ts.length/\qKC bs/\qIP ts bs:=by
 unfold FL qi
 constructor
 ·intro h
  obtain ⟨c,hc,rfl⟩:=zD.mp h
  obtain ⟨h1,h2⟩:=zL.mp hc
  exact ⟨by rw [Yt]; exact (qS.mp h1).1,qJQ h1,qA9.mpr ((Js nd h1).mpr (QC.mp h2))⟩
 ·rintro ⟨h1,h2,h3⟩
  have hc:bs.map Int.toNat∈allR 2 ts.length:=qS.mpr ⟨by rw [wB]; exact h1,fun v hv=>by
   obtain ⟨b,hb,rfl⟩:=zD.mp hv
   rcases h2 b hb with e | e <;> rw [e] <;> decide⟩
  refine zD.mpr ⟨_,zL.mpr ⟨hc,QC.mpr ((Js nd hc).mp ?_)⟩,qCh h2⟩
  rw [qCh h2]
  exact qA9.mp h3
theorem qKx (ts:List Tie):(FL ts).Nodup:=by
 unfold FL qi
 refine List.Pairwise.map _ (fun a b (h:HT.lexLt (zi a) (zi b)=true) e=>?_) ((qMD 2 ts.length).filter _)
 rw [e,LSo.YT] at h
 cases h
theorem qFb {ts:List Tie} {nss:List (List Int)} (p:nss.Perm (FL ts)) (o:nss.Pairwise fun a b=>HT.lexLt b a=false):nss=FL ts:=qBb p o
theorem qJN {ts:List Tie} {L:List (List Int)} (nd:L.Nodup) (h:∀ bs∈L,bs.length=ts.length) (two:2<=L.length):∀ ns∈L,ns≠[]:=fun ns hns e=>by
 subst e
 have z:=h [] hns
 have all:L ⊆ [[]]:=fun x hx=>wY.mpr (UE (by rw [h x hx,<- z]; rfl))
 have:=vU nd all
 exact absurd (zK two this) (by decide)
theorem qDU (L:List (List Int)):qK (L.map QT)<=50:=zK (qAa (f:=QT) (k:=1) (fun a=>ZR (qAa (f:=D.int) (k:=0) (fun _=>wF _) a)) L) (by decide)
section
variable {ρ:List Sl} {Φ:Rs->List Sl->Prop} {x y:Rs}
theorem qAt {xs:List D} (hx:rdE ρ x=some (.lst xs)) (hy:rdE ρ y=some (.lst xs)) (hd:qK xs<=50) (h:Φ (.d (.bl false)) ρ):OpV (fun x y H Q=>rNe x y H Q\/qIH true x y H Q) x y ρ Φ:=by
 refine OpV.r (qIf hx hy hd ?_)
 rw [if_pos rfl,QD]
 exact h
end
theorem qIW {xs:List Int} (h:1<=xs.length):atI (qN xs) (-1)=some (.int (xs.getD (xs.length - 1) 0)):=by
 have e:(qN xs).length=xs.length:=wB ..
 unfold atI ixN
 rw [if_neg (by decide),if_pos (by rw [e]; omega)]
 show (qN xs)[_]? = _
 rw [e,show ((-1:Int)+(xs.length:Int)).toNat=xs.length - 1 by omega]
 unfold qN
 rw [wQ,wA (by omega),wH,wA (by omega)]
 rfl
theorem JP:qb ["script","cell","pool","web","due","found","fall","kept"] ["script"] (qJ (top 23)):=by walk_at "sc"
theorem qLH (F:Fun K "law" "law" (top 23) f fd) (T:Txt mg)
  (XAL:Has P w K mg base "_law_pool" (top 12) ["cell"] 1 (spV qKi))
  (XAN:Has P w K mg base "_law_web" (top 17) ["pool","most","room","whole"] 3 (spV qLh))
  (XAJ:Has P w K mg base "_law_next" (top 13) ["pool","base"] 1 (spV qGL))
  (XAD:Has P w K mg base "_law_counts" (top 20) ["web"] 2 (spV qEz))
  (XAA:Has P w K mg base "_law_told_falls" (top 22) ["web"] 4 (spV (fun as Φ=>qEi as Φ\/qEP as Φ)))
  (XAI:Has P w K mg base "_law_ints" (top 14) ["some"] 1 (spV qII))
  (XAC:Has P w K mg base "_law_is_fall" (top 19) ["web","pointing"] 2 (spV qHw))
  (XAM:Has P w K mg base "all_falls" (top 10) ["web"] 3 (spV Qz)):j7 P w K mg base CX0 6 f fd ["script"] (qF8 K):=by
 refine qKE F JP (fun cdv A outer s H E hr=>?_)
 have hu:=hr.units
 refine ⟨_,(qC (jh yQ rfl (qm (K:=K) rfl (qd (qD9 (K:=K) rfl) (jB (qB qF qE)) (qCm (qNG (K:=K) rfl) (pv 0) qF0 (qEd qF)))) (qAp 1 JP)
   (qC (jq 2 JP (jU XAL hr (qB (pv 1) qE)))
    (qC (jq 3 JP (jU XAN hr (qB (pv 2) (qB qF (qB (QK (jB (qB qF (qB qF (qB qF (qB qF qE))))) (jU XAJ hr (qB (pv 2) (qB qF qE)))) (qB YF qE))))))
    (qC (jq 4 JP (QK (QK (jU XAD hr (qB (pv 3) qE)) qF) (qM2 qKS qF)))
    (qC (jq 5 JP (jU XAA hr (qB (pv 3) qE)))
    (qC (QX (PW.pt (JO (qX qDX (pv 4) qF (qp _)) (JF (qX (qIJ hu) (pv 5) qCn (qp _)))))
    (qG (qu YF))
    jA)
    (qG (QX (qX qLA (pv 4) qF (qp _))
    (qC (QX (PW.pt (qHW (Ye (jG (K:=K) rfl (qW (qAA (K:=K) rfl) (by rfl) T.n_isinstance vF (qB (pv 5) (qB (J9 (v:=.ty "list") (by rfl) T.n_list fF rfl) qE))) (fun _=>rfl))) (qHW (qX (qIJ hu) (qW (qHs (K:=K) rfl) (by rfl) T.n_len xK (qB (pv 5) qE)) (pv 4) (qp _)) (qIG (qX (qIJ hu) (qDd rfl hu (by rfl) T.n_len (by rfl) T.n_set (qB (pv 5) qE)) (pv 4) (qp _))))))
     (qG (qu YF))
     jA)
     (qC (QX (qX (qIJ hu) (pv 5) (qW (qBA hu) (by rfl) T.n_sorted PyProof.Rows.boot_sorted (qB (pv 5) qE)) (qp _))
     (qG (qu YF))
     jA)
     (qC (jh yQ rfl (qm (K:=K) rfl (pv 5)) (qAp 6 JP)
     (qC (QX (PW.pt (qHW (Ye (jG (K:=K) rfl (qW (qAA (K:=K) rfl) (by rfl) T.n_isinstance vF (qB (pv 6) (qB (J9 (v:=.ty "tuple") (by rfl) T.n_tuple gS rfl) qE))) (fun _=>rfl))) (qHW (Ye (jG (K:=K) rfl (jU XAI hr (qB (pv 6) qE)) (fun _=>rfl))) (qIG (qX (qIJ hu) (qW (qHs (K:=K) rfl) (by rfl) T.n_len xK (qB (pv 6) qE)) (qW (qHs (K:=K) rfl) (by rfl) T.n_len xK (qB (QK (pv 3) qF) qE)) (qp _))))))
      (qG (qu YF))
      jA)
      (qG (QX (Ye (jG (K:=K) rfl (jU XAC hr (qB (pv 3) (qB (pv 6) qE))) (fun _=>rfl)))
      (qG (qu YF))
      jA))))
     (qC (jq 7 JP (jO (qMs (K:=K) rfl) (by rfl) T.n_list fF (qB (pv 5) qE)))
     (qC (Jw (Ym (K:=K) rfl uA ZN ZO j8 (pv 5) (qB (QF qE) qE)))
     (qG (QX (qX (qIJ hu) (jU XAM hr (qB (pv 3) qE)) (pv 7) (qp _))
     (qG (qu YF))
     jA)))))))
    jA))))))))
   (qG (qu YF))),?_⟩
 intro ns hns
 walk_at "st"
 refine Ya ?_
 walk_at "nf"
 refine YE (JS ?_)
 walk_at "v"
 refine SlV.l (qNh rfl ?_)
 obtain ⟨ms,em,ml⟩:=qHZ ns none (some 3)
 rw [em]
 refine OpV.r (OpV.l (qC4 rfl rfl (szl (by rw [wB]; show 1+_<=1000; omega)) ?_))
 refine ⟨_,_,rfl,rfl,fun i ρ=>Le ρ [.u,.u,.u,.u,.u,.u,.u,.u],trivial,?_,?_⟩
 rotate_left
 ·intro ρ hle
  refine qNA hle ?_
  walk_at "v"
  rfl
 intro i x ρ hx hle
 obtain ⟨cl,rfl⟩:∃ c:Int,x=.int c:=by
  have e : [D.int 0]++ms.map D.int=(0::ms).map D.int:=rfl
  rw [e] at hx
  obtain ⟨c,_,ec⟩:=zD.mp (yD hx)
  exact ⟨c,ec.symm⟩
 refine qI2 hle ?_
 clear hx em hle
 refine qU rfl ?_
 walk_at "st"
 refine qw (fun ρ=>∃ q,ρ=[.u,.d (.int cl),.l (jx q),.u,.u,.u,.u,.u]) ?_ ?_
 ·walk_at "v"
  walk_at "call"
  refine ⟨cl,rfl,fun q=>⟨⟨_,rfl⟩,?_⟩⟩
  walk_at "st"
  refine qU rfl ?_
  exact ⟨q,rfl⟩
 rintro ρ ⟨q,rfl⟩
 refine qw (fun ρ=>∃(q:Int×Int×Int) (n:Nat) (ts:List Tie),ρ=[.u,.d (.int cl),.l (jx q),.d (qAL n ts),.u,.u,.u,.u]/\qLy n ts) ?_ ?_
 ·walk_at "v"
  refine Yi ?_
  walk_at "v"
  refine Yi ?_
  walk_at "v"
  refine ⟨of_decide_eq_true rfl,?_⟩
  walk_at "st"
  refine ⟨q,4,rfl,by decide,by decide,fun v q' v0 v1=>⟨⟨_,rfl⟩,?_⟩⟩
  walk_at "st"
  obtain ⟨room,r20,hat⟩:∃ room:Nat,room<=20/\atI [D.int 8,.int 10,.int 12,.int 20] v=some (.int room):=by
   obtain e | e | e | e:v=0\/v=1\/v=2\/v=3:=by omega
   ·exact ⟨8,by decide,by rw [e]; rfl⟩
   ·exact ⟨10,by decide,by rw [e]; rfl⟩
   ·exact ⟨12,by decide,by rw [e]; rfl⟩
   ·exact ⟨20,by decide,by rw [e]; rfl⟩
  refine qCS rfl rfl hat ?_
  walk_at "v"
  refine ⟨of_decide_eq_true rfl,?_⟩
  walk_at "st"
  refine ⟨q',9,room,false,rfl,by decide,by decide,fun z=>(by cases z),r20,fun n ts q1 W n9 t20 wh=>⟨⟨_,rfl⟩,?_⟩⟩
  walk_at "st"
  refine qU rfl ?_
  exact ⟨q1,n,ts,rfl,W⟩
 rintro ρ ⟨q1,n,ts,rfl,W⟩
 have n1:=W.pos
 have W20:=W.len
 let S1:Sl:=.d (.int cl)
 let S2:Sl:=.l (jx q1)
 let S3:Sl:=.d (qAL n ts)
 let due:Int:=((qi ts).length:Int)
 refine qw (fun ρ=>ρ=[.u,S1,S2,S3,.d (.int due),.u,.u,.u]) ?_ ?_
 ·walk_at "v"
  walk_at "call"
  refine ⟨n,ts,rfl,W,fun L hl hd=>⟨⟨_,rfl⟩,?_⟩⟩
  walk_at "sv"
  have p2:1<=L.length:=by rw [hl]; exact Nat.one_le_two_pow
  have e:=qIW p2
  rw [hl,hd] at e
  refine qCS rfl rfl e ?_
  refine qU rfl ?_
  rfl
 rintro ρ rfl
 by_cases few:(qi ts).length<=300
 rotate_left
 ·refine qw (fun ρ=>ρ=[.u,S1,S2,S3,.d (.int due),.d (.str "many"),.u,.u]) ?_ ?_
  ·walk_at "v"
   walk_at "call"
   refine .inr ⟨n,ts,rfl,⟨W20,W.ok,W.nd⟩,by omega,⟨⟨_,rfl⟩,?_⟩⟩
   walk_at "st"
   refine qU rfl ?_
   rfl
  rintro ρ rfl
  refine qw (fun ρ=>ρ=[.u,S1,S2,S3,.d (.int due),.d (.str "many"),.u,.u]) ?_ ?_
  ·refine qCq (qCc ?_)
   walk_at "v"
   rw [decide_eq_true (show (300:Int)<due by show (300:Int)<((qi ts).length:Int); omega),if_pos rfl]
   walk_at "v"
   refine OpV.l (qK5 (v:=.str "many") (w:=.str "many") rfl rfl rfl rfl rfl ?_)
   walk_at "v"
   refine ite_no ?_
   exact jC rfl
  rintro ρ rfl
  refine qCq ?_
  walk_at "v"
  rw [decide_eq_false (show ¬ due<=300 by show ¬ ((qi ts).length:Int)<=300; omega)]
  refine ite_no ?_
  exact jC (by trivial)
 refine qw (fun ρ=>ρ=[.u,S1,S2,S3,.d (.int due),.l ((FL ts).map QT),.u,.u]) ?_ ?_
 ·walk_at "v"
  walk_at "call"
  refine .inl ⟨n,ts,rfl,⟨W20,W.ok,W.nd⟩,few,⟨⟨_,rfl⟩,?_⟩⟩
  walk_at "st"
  refine qU rfl ?_
  rw [qE8]
  rfl
 rintro ρ rfl
 let S4:Sl:=.d (.int due)
 have fll:(FL ts).length<=300:=by
  unfold FL
  rw [wB]
  exact few
 have lens:∀ x∈FL ts,x.length=ts.length:=fun x hx=>((qHn W.nd x).mp hx).1
 refine qw (fun ρ=>ρ=[.u,S1,S2,S3,S4,.l ((FL ts).map QT),.u,.u]) ?_ ?_
 ·refine qCq (qCc ?_)
  walk_at "v"
  rw [decide_eq_false (show ¬ (300:Int)<due by show ¬ (300:Int)<((qi ts).length:Int); omega)]
  refine ite_no ?_
  refine ite_no ?_
  exact jC rfl
 rintro ρ rfl
 refine qCq ?_
 walk_at "v"
 rw [decide_eq_true (show due<=300 by show ((qi ts).length:Int)<=300; omega)]
 refine (if_pos rfl).mpr ?_
 refine qw (fun ρ=>ρ=[.u,S1,S2,S3,S4,.l ((FL ts).map QT),.u,.u]) ?_ ?_
 ·refine qCq (qL2 (qED ?_))
  walk_at "v"
  refine ite_no ?_
  refine qL2 ?_
  walk_at "v"
  rw [wB]
  refine qBu (fun z=>absurd z (by simp [due,FL])) fun _=>?_
  walk_at "v"
  refine qFG ?_
  walk_at "v"
  refine ⟨FL ts,⟨_,rfl,rfl⟩,by omega,fun L' nd' mem'=>?_⟩
  have e:L'.length=(qi ts).length:=by
   rw [((xJ nd' (qKx ts)).mpr mem').length_eq]
   exact wB ..
  walk_at "v"
  rw [e]
  refine qBu (fun z=>absurd z (by simp [due])) fun _=>?_
  exact jC rfl
 rintro ρ rfl
 refine qw (fun ρ=>ρ=[.u,S1,S2,S3,S4,.l ((FL ts).map QT),.u,.u]) ?_ ?_
 ·refine qCq ?_
  walk_at "v"
  refine qES (nss:=FL ts) (.inr rfl) (fun two=>qJN (qKx ts) (fun x hx=>lens x hx) two) (xU (qP (by omega))) fun nss p o=>?_
  rw [qFb p o]
  walk_at "v"
  refine qAt rfl rfl (qDU _) ?_
  walk_at "v"
  refine ite_no ?_
  exact jC rfl
 rintro ρ rfl
 refine qw (fun ρ=>∃ s6,ρ=[.u,S1,S2,S3,S4,.l ((FL ts).map QT),s6,.u]) ?_ ?_
 ·refine qJ1 (s:=5) rfl (fun k ρ=>∃ s6,ρ=[.u,S1,S2,S3,S4,.l ((FL ts).map QT),s6,.u]) ⟨_,rfl⟩ ?_ ?_ ?_
  ·rintro k ρ ⟨s6,rfl⟩
   rfl
  ·rintro k x ρ hx ⟨s6,rfl⟩
   obtain ⟨g,hg,rfl⟩:∃ g∈FL ts,x=D.tup (qN g):=by
    obtain ⟨g,hg,e⟩:=zD.mp (yD hx)
    exact ⟨g,hg,e.symm⟩
   clear hx
   obtain ⟨gl,gB,gF⟩:=(qHn W.nd g).mp hg
   refine qU rfl ?_
   walk_at "st"
   refine qw (fun ρ=>ρ=[.u,S1,S2,S3,S4,.l ((FL ts).map QT),.d (.tup (qN g)),.u]) ?_ ?_
   ·refine qCq (qL2 (qED ?_))
    walk_at "v"
    refine ite_no ?_
    refine qL2 (qED ?_)
    walk_at "vc"
    refine ⟨g,rfl,by omega,⟨⟨_,rfl⟩,?_⟩⟩
    walk_at "sv"
    refine ite_no ?_
    walk_at "v"
    rw [wB,wB,gl]
    refine qBu (fun z=>absurd z (by simp)) fun _=>?_
    exact jC rfl
   rintro ρ rfl
   refine qCq (qED ?_)
   walk_at "vc"
   refine ⟨n,ts,g,rfl,W,gl,gB,⟨⟨_,rfl⟩,?_⟩⟩
   walk_at "st"
   rw [qFs gF]
   walk_at "v"
   refine ite_no ?_
   exact jC ⟨_,rfl⟩
  ·rintro ρ ⟨s6,rfl⟩
   exact ⟨s6,rfl⟩
 rintro ρ ⟨s6,rfl⟩
 refine qw (fun ρ=>ρ=[.u,S1,S2,S3,S4,.l ((FL ts).map QT),s6,.l ((FL ts).map QT)]) ?_ ?_
 ·walk_at "v"
  rfl
 rintro ρ rfl
 refine qw (fun ρ=>ρ=[.u,S1,S2,S3,S4,.l ((FL ts).map QT++[.tup []]),s6,.l ((FL ts).map QT)]) ?_ ?_
 ·walk_at "v"
  refine JY (xs:=(FL ts).map QT) (d:=.tup []) rfl rfl (qP (by rw [wB]; omega)) ?_
  rfl
 rintro ρ rfl
 refine qCq ?_
 walk_at "vc"
 refine ⟨n,ts,rfl,W20,W.ok,W.nd,qHl W.ok W.nd few,⟨⟨_,rfl⟩,?_⟩⟩
 walk_at "st"
 rw [qE8]
 walk_at "v"
 refine qAt rfl rfl (qDU _) ?_
 walk_at "v"
 refine ite_no ?_
 exact jC (by trivial)
end
theorem us0 {P:List Value->Prop} (h:P []):∀ us:List Value,us.length=0->P us:=fun _ e=>(UE e) ▸ h
theorem usS {k:Nat} {P:List Value->Prop} (h:∀(a:Value) (us:List Value),us.length=k->P (a::us)):∀ us:List Value,us.length=k+1->P us:=fun us e=>by
 cases us with
 | nil=>cases e
 | cons a us=>exact h a us (VQ e)
theorem us1 {P:List Value->Prop} (h:∀ a0,P [a0]):∀ us:List Value,us.length=1->P us:=usS (k:=0) (P:=fun us=>P (us)) fun a0=>us0 (P:=fun us=>P (a0::us)) (h a0)
theorem us2 {P:List Value->Prop} (h:∀ a0 a1,P [a0,a1]):∀ us:List Value,us.length=2->P us:=usS (k:=1) (P:=fun us=>P (us)) fun a0=>usS (k:=0) (P:=fun us=>P (a0::us)) fun a1=>us0 (P:=fun us=>P (a0::a1::us)) (h a0 a1)
theorem us3 {P:List Value->Prop} (h:∀ a0 a1 a2,P [a0,a1,a2]):∀ us:List Value,us.length=3->P us:=usS (k:=2) (P:=fun us=>P (us)) fun a0=>usS (k:=1) (P:=fun us=>P (a0::us)) fun a1=>usS (k:=0) (P:=fun us=>P (a0::a1::us)) fun a2=>us0 (P:=fun us=>P (a0::a1::a2::us)) (h a0 a1 a2)
theorem us4 {P:List Value->Prop} (h:∀ a0 a1 a2 a3,P [a0,a1,a2,a3]):∀ us:List Value,us.length=4->P us:=usS (k:=3) (P:=fun us=>P (us)) fun a0=>usS (k:=2) (P:=fun us=>P (a0::us)) fun a1=>usS (k:=1) (P:=fun us=>P (a0::a1::us)) fun a2=>usS (k:=0) (P:=fun us=>P (a0::a1::a2::us)) fun a3=>us0 (P:=fun us=>P (a0::a1::a2::a3::us)) (h a0 a1 a2 a3)
def At (K:wD) (x:Str) (st:Stmt) (f:Addr) (fd:FuncData):Prop:=uV K mainGlobals x=some (some (.ref f))/\Fun K x x st f fd
def Zs (K:wD):List Str->Prop
 | []=>True
 | x::r=>uV K mainGlobals x=some none/\Zs K r
structure Car (P:Program) (w:World) (K:wD) (mg:Str->Option Value) (base h:Heap):Prop where
 X:K.In h
 G:h.Ns mainGlobals mg
theorem At.h {P:Program} {w:World} {K:wD} {h base:Heap} {mg:Str->Option Value} {x:Str} {st:Stmt} {f:Addr} {fd:FuncData} {k:Nat} {sp:Sp} {ps:List Str} (a:At K x st f fd) (Z:Car P w K mg base h) (F:j7 P w K mg base CX0 k f fd ps sp) (b:∀(kV doc pm:Value) (an:Option Addr) (cdv ct:Value) (us:List Value),us.length=ps.length->bindArgs (hV x x (JB st) (jd st) (qJ st) .none kV doc pm an cdv ct) ⟨us,[]⟩=pure (ps.zip us)):Has P w K mg base x st ps k sp:=⟨f,fd,⟨a.2,a.2.binds b,kU Z.X Z.G a.1⟩,F⟩
local macro_rules | `(tactic| walk_at "d")=>`(tactic| first | exact fun _ _ _ _ _ _=>us1 fun _=>rfl | exact fun _ _ _ _ _ _=>us2 fun _ _=>rfl | exact fun _ _ _ _ _ _=>us3 fun _ _ _=>rfl | exact fun _ _ _ _ _ _=>us4 fun _ _ _ _=>rfl)
theorem all_mk {l:WC} {w:World} {K:wD} {h:Heap} {mg:Str->Option Value} {fa f0 f1 f2 f3 f4 f5 f6 f7 f8 f9 f10 f11 f12 f13 f14:Addr} {e0 e1 e2 e3 e4 e5 e6 e7 e8 e9 e10 e11 e12 e13 e14:FuncData} (X:K.In h) (G:h.Ns mainGlobals mg) (hfa:mg "law" = some (.ref fa))
  {CT CR CA CN NA:Addr} {nmA qA:Str} {bsA bmA sbA:List Value} {hdA abA:Bool} {snA:List Str} {clA:Option Bool} {ddA:Option Addr} {kA0 kA1 kA2 kA3 kA5:Option Value} {cdA:ClassData}
  (x0:At K "leads_on" (top 6) f0 e0)
  (x1:At K "pointed_on" (top 9) f1 e1)
  (x2:At K "all_falls" (top 10) f2 e2)
  (x3:At K "_law_pool" (top 12) f3 e3)
  (x4:At K "_law_next" (top 13) f4 e4)
  (x5:At K "_law_ints" (top 14) f5 e5)
  (x6:At K "_law_shuffled" (top 15) f6 e6)
  (x7:At K "_law_pair" (top 16) f7 e7)
  (x8:At K "_law_web" (top 17) f8 e8)
  (x9:At K "_law_flows" (top 18) f9 e9)
  (x10:At K "_law_is_fall" (top 19) f10 e10)
  (x11:At K "_law_counts" (top 20) f11 e11)
  (x12:At K "_law_lowest" (top 21) f12 e12)
  (x13:At K "_law_told_falls" (top 22) f13 e13)
  (x14:At K "law" (top 23) f14 e14)
  (z:Zs K ["min","max","tuple","range","len","zip","list","sorted","all","isinstance","bool","int","set","enumerate","ValueError"])
  {tk_MOST_FALLS:Tok} (v_MOST_FALLS:uV K mainGlobals "MOST_FALLS" = some (some (.int 300 tk_MOST_FALLS)))
  (n_CT:uV K mainGlobals "TooMany" = some (some (.ref CT)))
  (n_CR:uV K mainGlobals "RillError" = some (some (.ref CR)))
  (n_CA:uV K mainGlobals "Apart" = some (some (.ref CA)))
  (n_CN:uV K mainGlobals "NoTie" = some (some (.ref CN)))
  (xl:K.lookup CT=some (excClassObj nmA qA CT NA bsA bmA hdA snA sbA abA clA ddA kA0 kA1 kA2 kA3 kA5 "ValueError.__new__"))
  (xn:PySem.W.nsOkIn K NA=true)
  (xi:uV K NA "__init__" = some none)
  (xt:PySem.W.tailIn K bmV bmA=true)
  (yc:WV K CT=some cdA)
  (yg:xX K (.ref CT) "__getattribute__" = some (some (.builtin "BaseException.__getattribute__")))
  (yn:xX K (.ref CT) "__getattr__" = some none)
  (yf:xX K (.ref CT) "__class__" = some (some (.builtin "object.__class__")))
  (ys:VF K (.builtin "object.__class__") "__get__" = some (some (.builtin "getset_descriptor.__get__")))
  (yt:UG K (.builtin "object.__class__")=some true)
  (ym:kC K CT (.type "object")=some true)
  (yb:kC K CT (.type "BaseException")=some true)
  (eR:WM K (.ref CT) (.ref CR)=some true)
  (kT:vQ K (.ref CT) (.ref CT)=some true)
  (kV:vQ K (.ref CT) (.type "ValueError")=some true)
  (kN:TL K (.ref CT) [.ref CA,.ref CN]=some false) :
  ∃ fd:FuncData,(∀(s:Shared) (v:Value),BindsTo s fd ⟨[v],[]⟩ [("script",v)])/\∀ base:Heap,K.In base->base.Ns mainGlobals mg->j7 l.prog w K mg base CX0 6 fa fd ["script"] (qF8 K):=by
 have e:=hfa.symm.trans (kU X G x14.1)
 cases e
 have m:∀{x:Str},uV K mainGlobals x=some none->mg x=none:=fun z=>PySem.W.mg_none_of X G z
 obtain ⟨z0,z1,z2,z3,z4,z5,z6,z7,z8,z9,z10,z11,z12,z13,z14,_⟩:=z
 have T:Txt mg:=⟨m z0,m z1,m z2,m z3,m z4,m z5,m z6,m z7,m z8,m z9,m z10,m z11,m z12,m z13,m z14,⟨_,kU X G v_MOST_FALLS⟩⟩
 have x:Exs K mg CT CR CA CN:=⟨⟨_,_,_,_,_,_,_,_,_,_,_,_,_,_,_,_,xl,xn,xi,xt⟩,⟨⟨_,yc⟩,yg,yn,yf,ys,yt,ym,yb⟩,kU X G n_CT,kU X G n_CR,kU X G n_CA,kU X G n_CN,eR,kT,kV,kN⟩
 refine ⟨e14,fun s v=>?b,fun base _ _=>?_⟩
 case b=>
  obtain ⟨_,_,_,_,_,_,_,_,_,rfl,_,_⟩:=x14.2.ex
  exact .of_eq rfl
 have Z:Car l.prog w K mg base h:=⟨X,G⟩
 have XAL:=x3.h Z (qAz x3.2 T) (by walk_at "d")
 have XAJ:=x4.h Z (qBo x4.2 T) (by walk_at "d")
 have XAB:=x6.h Z (JU x6.2 T XAJ) (by walk_at "d")
 have XAK:=x7.h Z (qBV x7.2 T) (by walk_at "d")
 have XAN:=x8.h Z (qCb x8.2 T XAJ XAB XAK) (by walk_at "d")
 have XAE:=x12.h Z (Yb x12.2 T) (by walk_at "d")
 have XAD:=x11.h Z (Yc x11.2 T XAE) (by walk_at "d")
 have XAO:=x0.h Z (qCP x0.2 T) (by walk_at "d")
 have XAG:=x1.h Z (qAY x1.2 T XAO) (by walk_at "d")
 have XAM:=x2.h Z (qBF x2.2 T XAG) (by walk_at "d")
 have hx:∃(f1:Addr) (d1:FuncData),qGS K mg "all_falls" (top 10) ["web"] f1 d1/\j7 l.prog w K mg base (CXA l.prog w) 3 f1 d1 ["web"] (spX (qHa CT)):=⟨_,_,⟨x2.2,x2.2.binds (by walk_at "d"),kU X G x2.1⟩ ,qAU x2.2 T XAG x.xT x.mT⟩
 have XAA:=x13.h Z (Q4 x13.2 T XAM hx x) (by walk_at "d")
 have XAI:=x5.h Z (qBO x5.2 T) (by walk_at "d")
 have XAF:=x9.h Z (qAO x9.2 T) (by walk_at "d")
 have XAC:=x10.h Z (J2 x10.2 T XAF) (by walk_at "d")
 exact qLH x14.2 T XAL XAN XAJ XAD XAA XAI XAC XAM
theorem walk {l:WC} {q:Program} {loose:List Str} {XP:(Str->Option Value)->Heap->Prop} {YP:World->Heap->Prop} {d:DefRec} {K:Params->wD} (hn:l.most=some 63) (hdf:d.params.defaults=[])
  (hY:∀(w:World) (h:Heap),YP w h->(K w.params).In h)
  (F:∀(w:World) (mg:Str->Option Value) (fa:Addr) (h:Heap),(K w.params).In h->h.Ns mainGlobals mg->mg d.name=some (.ref fa)->
   ∃ fd:FuncData,(∀(s:Shared) (u:Value),BindsTo s fd ⟨[u],[]⟩ [("script",u)])/\∀ base:Heap,(K w.params).In base->base.Ns mainGlobals mg->j7 l.prog w (K w.params) mg base CX0 6 fa fd ["script"] (qF8 (K w.params))) :
  PySem.W.WalkO q loose XP YP l.row.toRowW d [] (fun f vs=>PySem.call f vs):=
 L2.qJC (n:=63) (k:=6) (x:="script") (CX:=fun _=>CX0) (sp:=fun w=>qF8 (K w.params)) hn (by decide) hdf ⟨rfl,by decide,by decide⟩ hY F (fun _ _ a ns hl _ hS=>⟨a,ns,rfl,hS,hl,fun _=>rfl⟩) fun _ _ _ _ _ z=>z
def pwo:Program:={ main:={ body:=[top 0,top 1,top 2,top 3,top 4,top 5,top 6,top 7,top 8,top 9,top 10,top 11,top 12,top 13,top 14,top 15,top 16,top 17,top 18,top 19,top 20,top 21,top 22,top 23],scope:=PySem.Challenge.pw_rillturn_k20_all_falls.main.scope,futureAnnotations:=false,file:="/claim/cut.py",more:=[] },modules:=[],parses:=[],absent:=[],harvested:=[],given:={ argv:=[],stdin:=[],environ:=(some [([76,67,95,65,76,76],[67,46,85,84,70,45,56])]) } }
def rwo:WC:={ PySem.Challenge.rw_rillturn_k20_all_falls with prog:=pwo }
def jZ (P:Params) (n:Str) (t:Nat) (v:Value):DictEntry:=⟨PyData.keyHash P n,.str n t,v⟩
def QJ (s:Stmt):Str:=match s with
 | .FunctionDef n _ _ _ _ _ _ _ _ _=>n
 | _=>""
def QZ (n:Str) (t:Nat) (l a b:Int) (c:Nat) (x y:Value) (z:Nat) (u:Int) (u':Nat):Obj:={ cls:=.type "code",data:=.fields #[.str n t,.str n (t+1),.str "/claim/cut.py" (t+2),.int l 0,.int a 0,.int 0 0,.int 0 0,.int b 0,.ref c,.bool true,.int 181 0,.ref (c+1),.none,x,y,.ref z,.int u 0,.int l 0,.str "/claim/cut.py" u'] }
def qB5 (i:Nat) (m:Str) (mt c:Nat):Obj:={ cls:=.type "function",data:=.func (hV (QJ (top i)) (QJ (top i)) (JB (top i)) (jd (top i)) (qJ (top i)) .none .none .none (.str m mt) none (.ref c) .none) }
def kE0 (P:Params):List DictEntry:=[jZ P "__name__" 165 (.str "law_rillturn_k20_all_falls" 279),jZ P "__doc__" 166 .none,jZ P "__package__" 167 .none,jZ P "__loader__" 168 (.builtin "__main__.__loader__#opaque"),jZ P "__spec__" 169 .none,jZ P "__annotations__" 170 (.ref 6),jZ P "__builtins__" 171 (.ref 4),jZ P "__file__" 173 (.str "/claim/cut.py" 172)]
def kE1 (P:Params):List DictEntry:=[jZ P "__cached__" 174 .none,jZ P "RillError" 206 (.ref 24),jZ P "TooMany" 222 (.ref 37),jZ P "NoTie" 238 (.ref 49),jZ P "Apart" 254 (.ref 61),jZ P "leads_on" 262 (.ref 68),jZ P "MOST_FALLS" 266 (.int 300 265),jZ P "pointed_on" 272 (.ref 73)]
def kE2 (P:Params):List DictEntry:=[jZ P "all_falls" 278 (.ref 78),jZ P "_law_pool" 287 (.ref 85),jZ P "_law_next" 298 (.ref 92),jZ P "_law_ints" 304 (.ref 97),jZ P "_law_shuffled" 314 (.ref 104),jZ P "_law_pair" 322 (.ref 111),jZ P "_law_web" 328 (.ref 116),jZ P "_law_flows" 340 (.ref 123)]
def kE3 (P:Params):List DictEntry:=[jZ P "_law_is_fall" 346 (.ref 128),jZ P "_law_counts" 363 (.ref 135),jZ P "_law_lowest" 371 (.ref 142),jZ P "_law_told_falls" 380 (.ref 149),jZ P "law" 394 (.ref 156)]
def qN0 (P:Params):List DictEntry:=kE0 P++kE1 P++kE2 P++kE3 P
def qMU (P:Params):Obj:={ cls:=.type "dict",data:=.dict ⟨qN0 P⟩ 29 }
def qN5 (P:Params):Obj:={ cls:=.type "tuple",data:=.seq #[.type "ValueError"] }
def qNd (P:Params):Obj:={ cls:=.type "tuple",data:=.seq #[] }
def qNx (P:Params):Obj:={ cls:=.type "dict",data:=.dict #[jZ P "__module__" 196 (.str "rillturn.errors" 187),jZ P "__firstlineno__" 200 (.int 2 199),jZ P "__static_attributes__" 201 (.ref 22),jZ P "__weakref__" 203 (.ref 25),jZ P "__doc__" 204 (.none)] 3 }
def qNo (P:Params):Obj:={ cls:=.type "type",data:=.cls { name:="RillError",bases:=[.type "ValueError"],mro:=[.ref 24,.type "ValueError",.type "Exception",.type "BaseException",.type "object"],ns:=23,qualname:="RillError",subclasses:=[.ref 37,.ref 49,.ref 61] },slots:=#[some (.ref 15),none,some (.str "RillError" 189),some (.str "RillError" 197),some (.builtin "ValueError.__new__"),some (.bool true)] }
def qOE (P:Params):Obj:={ cls:=.type "getset_descriptor",data:=.fields #[.str "__weakref__" 202,.ref 24,.builtin "ExceptionGroup.__weakref__",.none] }
def qNm (P:Params):Obj:={ cls:=.type "tuple",data:=.seq #[.ref 24] }
def qNc (P:Params):Obj:={ cls:=.type "tuple",data:=.seq #[] }
def qNf (P:Params):Obj:={ cls:=.type "dict",data:=.dict #[jZ P "__module__" 214 (.str "rillturn.errors" 187),jZ P "__firstlineno__" 218 (.int 4 217),jZ P "__static_attributes__" 219 (.ref 35),jZ P "__doc__" 220 (.none)] 2 }
def qOF (P:Params):Obj:={ cls:=.type "type",data:=.cls { name:="TooMany",bases:=[.ref 24],mro:=[.ref 37,.ref 24,.type "ValueError",.type "Exception",.type "BaseException",.type "object"],ns:=36,qualname:="TooMany" },slots:=#[some (.ref 28),none,some (.str "TooMany" 207),some (.str "TooMany" 215),some (.builtin "ValueError.__new__"),some (.bool true)] }
def qNe (P:Params):Obj:={ cls:=.type "tuple",data:=.seq #[.ref 24] }
def qNl (P:Params):Obj:={ cls:=.type "tuple",data:=.seq #[] }
def qOK (P:Params):Obj:={ cls:=.type "dict",data:=.dict #[jZ P "__module__" 230 (.str "rillturn.errors" 187),jZ P "__firstlineno__" 234 (.int 6 233),jZ P "__static_attributes__" 235 (.ref 47),jZ P "__doc__" 236 (.none)] 2 }
def qOM (P:Params):Obj:={ cls:=.type "type",data:=.cls { name:="NoTie",bases:=[.ref 24],mro:=[.ref 49,.ref 24,.type "ValueError",.type "Exception",.type "BaseException",.type "object"],ns:=48,qualname:="NoTie" },slots:=#[some (.ref 40),none,some (.str "NoTie" 223),some (.str "NoTie" 231),some (.builtin "ValueError.__new__"),some (.bool true)] }
def qOG (P:Params):Obj:={ cls:=.type "tuple",data:=.seq #[.ref 24] }
def qN1 (P:Params):Obj:={ cls:=.type "tuple",data:=.seq #[] }
def qNz (P:Params):Obj:={ cls:=.type "dict",data:=.dict #[jZ P "__module__" 246 (.str "rillturn.errors" 187),jZ P "__firstlineno__" 250 (.int 8 249),jZ P "__static_attributes__" 251 (.ref 59),jZ P "__doc__" 252 (.none)] 2 }
def qN8 (P:Params):Obj:={ cls:=.type "type",data:=.cls { name:="Apart",bases:=[.ref 24],mro:=[.ref 61,.ref 24,.type "ValueError",.type "Exception",.type "BaseException",.type "object"],ns:=60,qualname:="Apart" },slots:=#[some (.ref 52),none,some (.str "Apart" 239),some (.str "Apart" 247),some (.builtin "ValueError.__new__"),some (.bool true)] }
def qNw (P:Params):Obj:={ cls:=.type "tuple",data:=.seq #[] }
def KF:Params->wD:=fun P=>(nat_lit 3,qMU P)::(nat_lit 15,qN5 P)::(nat_lit 22,qNd P)::(nat_lit 23,qNx P)::(nat_lit 24,qNo P)::(nat_lit 25,qOE P)::(nat_lit 28,qNm P)::(nat_lit 35,qNc P)::(nat_lit 36,qNf P)::(nat_lit 37,qOF P)::(nat_lit 40,qNe P)::(nat_lit 47,qNl P)::(nat_lit 48,qOK P)::(nat_lit 49,qOM P)::(nat_lit 52,qOG P)::(nat_lit 59,qN1 P)::(nat_lit 60,qNz P)::(nat_lit 61,qN8 P)::(nat_lit 64,qNw P)::(nat_lit 67,QZ (QJ (top 6)) 257 11 3 3 64 .none .none 66 260 261)::(nat_lit 68,qB5 6 "rillturn.pointings" 255 67)::(nat_lit 72,QZ (QJ (top 9)) 267 20 2 3 69 .none .none 71 270 271)::(nat_lit 73,qB5 9 "rillturn.turning" 263 72)::(nat_lit 77,QZ (QJ (top 10)) 273 23 1 3 74 .none .none 76 276 277)::(nat_lit 78,qB5 10 "rillturn.turning" 263 77)::(nat_lit 84,QZ (QJ (top 12)) 281 31 1 3 79 (.ref 81) (.ref 82) 83 285 286)::(nat_lit 85,qB5 12 "law_rillturn_k20_all_falls" 279 84)::(nat_lit 91,QZ (QJ (top 13)) 288 33 2 3 86 (.ref 88) (.ref 89) 90 296 297)::(nat_lit 92,qB5 13 "law_rillturn_k20_all_falls" 279 91)::(nat_lit 96,QZ (QJ (top 14)) 299 42 1 3 93 .none .none 95 302 303)::(nat_lit 97,qB5 14 "law_rillturn_k20_all_falls" 279 96)::(nat_lit 103,QZ (QJ (top 15)) 305 44 2 3 98 (.ref 100) (.ref 101) 102 312 313)::(nat_lit 104,qB5 15 "law_rillturn_k20_all_falls" 279 103)::(nat_lit 110,QZ (QJ (top 16)) 315 50 2 3 105 (.ref 107) (.ref 108) 109 320 321)::(nat_lit 111,qB5 16 "law_rillturn_k20_all_falls" 279 110)::(nat_lit 115,QZ (QJ (top 17)) 323 52 4 3 112 .none .none 114 326 327)::(nat_lit 116,qB5 17 "law_rillturn_k20_all_falls" 279 115)::(nat_lit 122,QZ (QJ (top 18)) 329 70 2 3 117 (.ref 119) (.ref 120) 121 338 339)::(nat_lit 123,qB5 18 "law_rillturn_k20_all_falls" 279 122)::(nat_lit 127,QZ (QJ (top 19)) 341 75 2 3 124 .none .none 126 344 345)::(nat_lit 128,qB5 19 "law_rillturn_k20_all_falls" 279 127)::(nat_lit 134,QZ (QJ (top 20)) 347 82 1 3 129 (.ref 131) (.ref 132) 133 361 362)::(nat_lit 135,qB5 20 "law_rillturn_k20_all_falls" 279 134)::(nat_lit 141,QZ (QJ (top 21)) 364 101 1 3 136 (.ref 138) (.ref 139) 140 369 370)::(nat_lit 142,qB5 21 "law_rillturn_k20_all_falls" 279 141)::(nat_lit 148,QZ (QJ (top 22)) 372 107 1 3 143 (.ref 145) (.ref 146) 147 378 379)::(nat_lit 149,qB5 22 "law_rillturn_k20_all_falls" 279 148)::(nat_lit 155,QZ (QJ (top 23)) 381 115 1 3 150 (.ref 152) (.ref 153) 154 392 393)::(nat_lit 156,qB5 23 "law_rillturn_k20_all_falls" 279 155)::[]
def kAt:List Addr:=[3,15,22,23,24,25,28,35,36,37,40,47,48,49,52,59,60,61,64,67,68,72,73,77,78,84,85,91,92,96,97,103,104,110,111,115,116,122,123,127,128,134,135,141,142,148,149,155,156]
end K20
open PySem PySem.W PyProof.Rows
set_option maxRecDepth 100000 in
set_option maxHeartbeats 0 in
theorem K20.oh:K20.rwo.Holds:=by
 w_on; refine PySem.W.holds_law (by decide +kernel) fun said=>?_; o_head (PySem.W.kHook K20.KF K20.kAt (fun _=>by kernel_rfl)); (case hw=>w_witness2)
 k_fill
 refine K20.walk (l:=K20.rwo) rfl rfl (fun w h Y=>PySem.W.kIn_of Y) ?F
 case F=>
  intro w mg fa h KX G hmg
  refine' K20.all_mk KX G hmg ?x0 ?x1 ?x2 ?x3 ?x4 ?x5 ?x6 ?x7 ?x8 ?x9 ?x10 ?x11 ?x12 ?x13 ?x14 ?z ?v_MOST_FALLS ?n_CT ?n_CR ?n_CA ?n_CN ?xl ?xn ?xi ?xt ?yc ?yg ?yn ?yf ?ys ?yt ?ym ?yb ?eR ?kT ?kV ?kN
  case x0 | x1 | x2 | x3 | x4 | x5 | x6 | x7 | x8 | x9 | x10 | x11 | x12 | x13 | x14=>exact ⟨by k_is,L2.qLk (by k_is) (by k_is) (by k_is)⟩
  case z=>repeat' (first | exact trivial | refine ⟨by k_is,?_⟩)
  case v_MOST_FALLS=>k_is
  (case n_CT=>k_is)
  (case n_CR=>k_is)
  (case n_CA=>k_is)
  (case n_CN=>k_is)
  (case xl=>k_is)
  (case xn=>kernel_rfl)
  (case xi=>k_is)
  (case xt=>kernel_rfl)
  (case yc=>k_is)
  (case yg=>k_is)
  (case yn=>k_is)
  (case yf=>k_is)
  (case ys=>k_is)
  (case yt=>k_is)
  (case ym=>k_is)
  (case yb=>k_is)
  (case eR=>kts_exm)
  (case kT=>kit_is)
  (case kV=>kit_is)
  (case kN=>kit_is)
theorem PySem.Challenge.cw_rillturn_k20_all_falls_holds : PySem.Challenge.rw_rillturn_k20_all_falls.Holds :=
 K20.oh
