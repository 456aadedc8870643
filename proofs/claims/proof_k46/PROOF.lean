import PyProof.Rows.All
import Wide.All
import OpenK.AllK
import Wide.FinOn
import Lean
import PyProof.EqAt
import PyProof.EqKinds
import PyProof.TupleCall
import PyProof.NeKinds
import PyProof.ForAny
import PyProof.ZipIter
import PyProof.Draws
import PyProof.ListRange
import PyProof.TupleOfGen
import KE.KRevIter
import KE.KMinKey
import PyProof.ConsumeWalk
import OpenK.KOwn
import KE.KTryMore
import KE.KIsAll
import PyProof.ExcArgs
import PyProof.TupleOfSeq
import PyProof.Rows.SetFrom
import PyProof.WalksMore
import PyProof.ListNew
import KE.IntBitsLaws
import PyProof.EnumMake
import KE.KDictOf
import PyProof.AttrMissHeap
import PyProof.Rows.EnumRows
import KE.KDictSum
import PyProof.SumAny
import PyProof.DictValues
import PyProof.SetScanFacts
import PyProof.TupleKey
import PyProof.SetKind
import PySem.Challenge.RW_rillturn_k46_falls_counted
open List renaming getElem?_eq_getElem->wA,length_map->wC,mem_cons_self->wD,getD_eq_getElem?_getD->wF,mem_cons_of_mem->wJ,size_toArray->wL,replicate->wN,length_append->wO,getElem?_map->wQ,getElem?_eq_some_iff->wR,range->wV,mem_cons->wW,nodup_iff_pairwise_ne->wY,length_cons->wZ,mem_map->zF,mem_singleton->zG,mem_append_right->zH,mem_filter->zJ,append_nil->zK,length_replicate->zN,mem_range->zO,not_mem_nil->zP,mem_append->zR,length_range->zT,getElem?_append_right->zU,getElem?_eq_none->zV,map_map->zW,nodup_cons->zX,pairwise_map->yB,getElem?_set->yF,append_assoc->yG,map_append->yI,getElem?_append_left->yL,length_take->yQ,length_filter_le->yU,replicate_zero->yW,getElem_mem->yY,filter_cons->yZ,lookup_cons->vD,take_succ_eq_append_getElem->vF,nodup_nil->vI,mem_append_left->vL,mem_of_getElem?->vM,replicate_succ->vW,flatMap_cons->vX,take_append_drop->vY,map_cons->xH,Perm->xO,pairwise_cons->xS,nodup_range->xT,take_length->xU,take_sublist->xY,nil_append->uA,forIn_cons->uB,length_nil->uD,filter_eq_self->uF,take_of_length_le->uH,flatten_cons->uM,ext_getElem?->uN,mem_of_mem_take->uO,nodup_append->uT,getElem_of_mem->uW,map_congr_left->uX,getElem?_replicate->uZ,take_zero->kP,contains_eq_mem->kQ,length_drop->kS,drop_eq_getElem_cons->kY,pairwise_iff_getElem->kZ,filterMap_cons->hE,reverse_append->hG,length_reverse->hU,find?_cons->gB,length_eq_zero_iff->gG,all_eq_true->gS,mem_of_mem_drop->gV,mem_iff_getElem->gW,forIn_nil->fG,lookup_append->fH,filter_append->fL,extract_eq_drop_take->fO,getElem_take->fS,take_add_one->fT,pairwise_singleton->ZI,mem_flatMap->ZJ,range_succ_eq_map->ZO,drop_of_length_le->ZS,getElem?_toArray->ZY,length->WC,getElem_toArray->WE,reverse_reverse->WH,mem_map_of_mem->WK,getElem?_range->WL,mem_filterMap->WQ,getElem?_drop->WX,toArray->VN,getElem_drop->VP,getElem_inj->VV,zipIdx_cons->UA,perm_middle->UC,getElem_map->UE,eq_nil_of_length_eq_zero->UG,of_mem_zip->UI,foldl_cons->UK,map_const'->UN,idxOf_lt_length_of_mem->UQ,drop_drop->TK,drop_zero->TL,perm_ext_iff_of_nodup->TN,getElem?_take_of_lt->TX,any_cons->TZ,mem_of_mem_eraseIdx->SH,getElem?_cons_succ->SK
open PySem renaming wpAny_bind->wB,wpAny_pure->wI,wpAny_ite_split->vA,Spec->vC,boot_len->vN,wpAny_holding->vP,mem_of_lookup->vQ,wpAny_call_entry->vV,wpAny_newObj_type->xJ,wpAny_mono->xQ,wpAny_standAt->xV,wpAny_callSpecial?_slot->xZ,wpAny_seqItems->uI,wpAny_comprehension_free->uV,wpAny_passesOwn->kF,sizeLine_eq->kM,wpAny_typeOf->gZ,wpAny_Call_Name_kw->fE,wpAny_rule->fI,wpAny_field->fP,wpAny_onRaise->fX,wpAny_askSetting->ZG,codeAny_mono->ZM,wpAny_execs_nil->ZW,wpAny_of_eq->WD,wpAny_updateSeq_pair->WG,wpAny_attempt->WM,call_meets->WV,wpAny_pyIter_tuple->WW,wpAny_truthy_bool->VD,wpAny_assign_Name->VF,concat_meets->VG,codeAny_loop->VJ,noFill_tuple_add->VX,wpAny_isInstance->UB,wpAny_noted->UF,wpAny_loadPart'->UJ,wpAny_specialOf->UL,typeIs_int->TB,wpAny_newTuple->TJ,isSubtype_type->TQ,seq_tuple_add->TY,wpAny_newList->SD
open PySem.Heap renaming get?_push_of_some->wG,get?_push_size->zL,lt_size->zQ,SameBut->uL,get?_update_self->kH,size_push->kN
open Nat renaming le_refl->wH,le_trans->zM,lt_of_lt_of_le->zZ,zero_le->yN,le_add_right->yS,lt_of_le_of_lt->yV,le_of_ble_eq_true->vB,ne_of_lt->vE,le_of_not_lt->vH,lt_irrefl->vO,le_of_lt->vR,le_of_lt_succ->vS,le_of_eq->xB,add_sub_cancel_left->xF,pow_le_pow_right->xX,le_antisymm->uC,not_lt_zero->uE,lt_succ_of_le->uP,zero_add->kT,pow_succ->gJ,ne_of_gt->gY,add_zero->fA,lt_or_eq_of_le->fK,add_assoc->fW,min_self->ZP,sub_self->ZT,div_div_eq_div_mul->ZU,succ_pos->ZV,not_lt->WY,mod_lt->WZ,add_comm->VH,lt_trans->VI,succ_le_succ->VY,not_lt_of_gt->VZ
open PySem.W renaming Frag->wK,kia_one->xA,kitOne->uY,fnOf->kR,OpenLaw->ZX,mg_of->WO,methodObj->VC,nsIn->VU,instObj->UH,lookIn->UV,keepIn->UW,codeIn->UX
open Array renaming length_toList->wM,getElem?_eq_getElem->zI,getElem?_toList->yC,toList_append->yE,getD_eq_getD_getElem?->yO,mem_toList_iff->yX,perm_iff_toList_perm->uJ,getElem?_eq_some_iff->uK,getElem_toList->uR,forIn_toList->kB,toList_push->kK,toList_reverse->kO,getElem?_eq_none->gM,mem_iff_getElem->gN,toList_extract->gU,size_setIfInBounds->fY,toList_map->ZH,getD->ZR,getElem_mem->VO,toList_inj->UD,toList_setIfInBounds->TM,getElem?_replicate->SE
open Bool renaming false_ne_true->wU,and_eq_true->yR,eq_iff_iff->vU,not_eq_true'->xK,false_eq_true->xR,not_eq_true->gR,eq_false_iff->VL,and_false->TC,and_true->SC
open PySem.SetTable renaming bits->wX,below->vG,runEnd->xD,turns->xM,leap->xW,put->uS,grown->kA,sizeAbove->kD,advance->kU,insertAt->gL,toList_insertAt->fZ,layClean->VQ
open Option.some renaming inj->zS
open Classical renaming byContradiction->zY,propDecidable->yT
open Int renaming toNat_natCast->yD,emod_lt_of_pos->kC,zero_add->kW,emod_nonneg->gC,mul_one->WB,one_mul->WI,mul_neg->WJ,mul_assoc->WN,natCast_nonneg->WS,add_zero->VR,mul_comm->VS,zero_mul->VT,natCast_pow->UO,fdiv_eq_ediv_of_nonneg->UT
open PySem.Value renaming ref->yJ,none->xE,int->ZE
open PySem.Builtin.SmallTypes renaming nextOf->yM
open List.Nodup renaming length_le_of_subset->vK
open PyProof.Rows renaming slot_tuple_getitem->vT,boot_tuple->xG,callWith_type1->uG,boot_max->kI,boot_int->kJ,boot_min->gO,boot_sorted->ZC,boot_abs->WA,callWith_builtin1->VW,boot_range->SL
open List.cons renaming inj->vZ
open ForInStep renaming yield->xC,done->TF
open PySem.NameKind renaming free->xI,cell->kG
open PySem.Heap.SameBut renaming update->xN
open PySem.PassesOwn renaming never->xP
open PySem.SetTable.probe renaming go->uQ
open Prod.mk renaming inj->uU
open List.Sublist renaming nodup->kE
open False renaming elim->kL
open PySem.Builtin.Slice renaming slicePlaces->kX,sliceAdjust->fM,sliceApplied->UY
open Prod renaming ext->hV,fst->TR
open PySem.Builtin.Tuple renaming tupleExact->hW,tupleHashOf->fN,tupleItemsOf->UZ
open PySem.Builtin.List renaming listTooLong->hX,listLengthHint->UP
open List.Pairwise renaming imp_of_mem->hZ
open PySem.SeqAt.EqAt renaming of_refs->gE,same->gX,int_int->WT
open PySem.Builtin.Range renaming rangeSize->gF
open PySem.F renaming plainAttrs_list->gH,args_tuple_add_2->fV,entry_tuple_add->ZF,slot_tuple_add->ZN,slot_tuple_iterator_next->TH
open PySem.Str renaming ofString->gI
open PySem.SetTable.layClean renaming free->gK
open PySem.SeqAt renaming EqAt->gP
open PySem.Obj renaming mapSeq->gQ
open Nat.succ renaming inj->fC
open List.Perm renaming refl->fJ,append_left->ZZ
open Option renaming isSome_map->fQ,map_eq_some_iff->ZQ,isSome_iff_exists->TV
open PySem.Paired renaming length->fU
open Ne renaming symm->ZK
open True renaming intro->ZL
open Sum renaming inl->VA,inr->VB
open PySem.SeqAt.RcAt renaming tuples->VM
open Array.Perm renaming refl->UM
open PySem.Calls renaming Name_function_global->US,call_function_entry->TU
open PySem.Builtin renaming bitAnd->UU
open PySem.Builtin.Frozenset renaming addrOf->SF
open PySem.Data renaming cell->SJ
set_option Elab.async false
set_option linter.all false
set_option maxRecDepth 100000
noncomputable section
namespace L2
open PySem PySem.Spec PyProof.Rows
noncomputable abbrev Key:=Sum Int Str
noncomputable def qKe:Key->Value->Bool
 | .inl k,v=>Value.isInt k v
 | .inr x,v=>Value.isStrOf x v
noncomputable def qNx (w:World):Key->Int
 | .inl k=>hashInt k
 | .inr x=>hashStr w x
theorem qo:∀{k:Key} {v:Value},qKe k v=true->(∃ i t,k=VA i/\v=ZE i t)\/(∃ x t,k=VB x/\v=Value.str x t)
 | .inl i,v,h=>by
  obtain ⟨t,e⟩:=Value.isInt_shape (k:=i) (v:=v) h
  exact .inl ⟨i,t,rfl,e⟩
 | .inr x,v,h=>by
  obtain ⟨t,e⟩:=Value.isStrOf_shape (x:=x) (v:=v) h
  exact .inr ⟨x,t,rfl,e⟩
theorem qLo (a b:Int):decide ((VA a:Key)=VA b)=(a == b):=by
 by_cases e:a=b
 ·subst e; simp
 ·have h:¬ (VA a:Key)=VA b:=fun q=>e (Sum.inl.inj q)
  rw [decide_eq_false h]
  exact (beq_eq_false_iff_ne.mpr e).symm
theorem qKu (a b:Str):decide ((VB a:Key)=VB b)=decide (a=b):=by
 by_cases e:a=b
 ·subst e; simp
 ·have h:¬ (VB a:Key)=VB b:=fun q=>e (Sum.inr.inj q)
  rw [decide_eq_false h,decide_eq_false e]
theorem qLA (a:Int) (b:Str):decide ((VA a:Key)=VB b)=false:=decide_eq_false (fun q=>nomatch q)
theorem qLY (a:Str) (b:Int):decide ((VB a:Key)=VA b)=false:=decide_eq_false (fun q=>nomatch q)
noncomputable def qCR (prog:Program) (w:World):PySem.KeyKind prog w Key where
 is:=qKe
 hash:=qNx w
 inj:=fun v a b ha hb=>by
  rcases qo ha with ⟨i,t,rfl,rfl⟩ | ⟨x,t,rfl,rfl⟩
  ·rcases qo hb with ⟨j,u,rfl,e⟩ | ⟨y,u,rfl,e⟩
   ·injection e with e1 _; rw [e1]
   ·exact nomatch e
  ·rcases qo hb with ⟨j,u,rfl,e⟩ | ⟨y,u,rfl,e⟩
   ·exact nomatch e
   ·injection e with e1 _; rw [e1]
 byValue:=fun k v h=>by
  rcases qo h with ⟨i,t,rfl,rfl⟩ | ⟨x,t,rfl,rfl⟩ <;> rfl
 pyHash:=fun hv h=>by
  rcases qo hv with ⟨i,t,rfl,rfl⟩ | ⟨x,t,rfl,rfl⟩
  ·exact wpAny_pyHash_int h
  ·exact wpAny_pyHash_str h
 eqBool:=fun hu hv h=>by
  rcases qo hu with ⟨i,t,rfl,rfl⟩ | ⟨x,t,rfl,rfl⟩
  ·rcases qo hv with ⟨j,u,rfl,rfl⟩ | ⟨y,u,rfl,rfl⟩
   ·rw [qLo] at h; exact wpAny_eqBool_int h
   ·rw [qLA] at h; exact SeqAt.EqAt.int_str i t y u _ _ _ _ h
  ·rcases qo hv with ⟨j,u,rfl,rfl⟩ | ⟨y,u,rfl,rfl⟩
   ·rw [qLY] at h; exact SeqAt.EqAt.str_int x t j u _ _ _ _ h
   ·rw [qKu] at h; exact wpAny_eqBool_str h
 «strs»:=fun k x t v h=>by
  rcases qo h with ⟨i,u,rfl,e⟩ | ⟨y,u,rfl,e⟩
  ·exact nomatch e
  ·injection e with e1 _
   subst e1
   cases v <;> rfl
inductive V where
 | non | bl (b:Bool) | int (i:Int) | str (x:Str) | byt (b:Array UInt8) | flt (b:UInt64) | ref (a:Addr) | ty (n:String)
 deriving DecidableEq
noncomputable def RelV:V->Value->Prop
 | .non,u=>u=xE
 | .bl b,u=>u=Value.bool b
 | .int i,u=>∃ t,u=ZE i t
 | .str x,u=>∃ t,u=Value.str x t
 | .byt b,u=>∃ t,u=Value.bytes b t
 | .flt b,u=>∃ t,u=Value.float b t
 | .ref a,u=>u=yJ a
 | .ty n,u=>u=Value.type n
noncomputable abbrev ql:List V->List Value->Prop:=Paired RelV
theorem ql.length {xs:List V} {us:List Value} (r:ql xs us):xs.length=us.length:=fU r
theorem ql.get:∀{xs:List V} {us:List Value} {i:Nat} {x:V},ql xs us->xs[i]? = some x->∃ u,us[i]? = some u/\RelV x u
 | _,_,_,_,.nil,e=>by simp at e
 | _,_,0,_,.cons r _,e=>by simp at e; subst e; exact ⟨_,rfl,r⟩
 | _,_,i+1,x,.cons _ t,e=>by
  obtain ⟨u,h1,h2⟩:=ql.get (i:=i) (x:=x) t (by simpa using e)
  exact ⟨u,by simpa using h1,h2⟩
theorem ql.set {x:V} {u:Value} (r:RelV x u):∀{xs:List V} {us:List Value} (i:Nat),ql xs us->ql (xs.set i x) (us.set i u)
 | _,_,_,.nil=>.nil
 | _,_,0,.cons _ t=>.cons r t
 | _,_,i+1,.cons q t=>.cons q (ql.set r i t)
theorem ql.append:∀{xs ys:List V} {us ws:List Value},ql xs us->ql ys ws->ql (xs++ys) (us++ws)
 | _,_,_,_,.nil,s=>s
 | _,_,_,_,.cons r t,s=>.cons r (ql.append t s)
theorem ql.take:∀{xs:List V} {us:List Value} (n:Nat),ql xs us->ql (xs.take n) (us.take n)
 | _,_,0,_=>.nil
 | _,_,_+1,.nil=>.nil
 | _,_,n+1,.cons r t=>.cons r (ql.take n t)
theorem ql.drop:∀{xs:List V} {us:List Value} (n:Nat),ql xs us->ql (xs.drop n) (us.drop n)
 | _,_,0,r=>r
 | _,_,_+1,.nil=>.nil
 | _,_,n+1,.cons _ t=>ql.drop n t
noncomputable def qMk:Option V->Option Value->Prop
 | some v,some u=>RelV v u
 | none,none=>True
 | _,_=>False
noncomputable def KV {κ:Type}:List (κ×V)->List (κ×Value)->Prop:=Paired fun (p:κ×V) (q:κ×Value)=>p.1=q.1/\RelV p.2 q.2
noncomputable def kV:Key->V
 | .inl i=>.int i
 | .inr x=>.str x
noncomputable def NoD (h:Heap) (a:Addr):Prop:=∀ o,h.get? a=some o->o.dict=none
theorem NoD.new {h:Heap} {o:Obj} (hd:o.dict=none) (hf:o.isFreed=false:=by rfl):NoD (h.push o) h.objs.size:=fun u e=>by
 rw [zL _ hf] at e
 cases e
 exact hd
inductive HO where
 /-- a list -/
 | lst (xs:List V)
 /-- a tuple (never changes) -/
 | tup (xs:List V)
 /-- a dict whose keys are ints and texts; one whose keys are tuples of ints and texts (the empty one is both) -/
 | dK (kvs:List (Key×V)) | dT (kvs:List (List Key×V))
 /-- a set of ints: its members, its size -/
 | set (S:Int->Bool) (n:Nat)
 /-- an instance of the class at C, its dict at dx, its attributes -/
 | ins (C dx:Addr) (fs:List (Str×V))
 /-- the dict of the instance at x -/
 | own (x:Addr)
 /-- the dict of an exception -/
 | xd (fs:List (Str×V))
 /-- a bound method, f of x -/
 | met (f x:Addr)
 /-- a range object lo, lo + 1, .. below hi -/
 | rng (lo hi:Int)
 /-- a thing that is known to the object (the script; a dict while a loop walks it): read, never written while it is so -/
 | frz (o:Obj) (u:HO)
 /-- a code object's table -/
 | tbl (ps:Array Value)
 /-- any other thing, by what is true of its one object (a def of one's own: SetO a S n := HO.ext fun h => ..) -/
 | ext (φ:Heap->Prop)
noncomputable abbrev Hp:=Addr->Option HO
noncomputable def upd (H:Hp) (a:Addr) (o:HO):Hp:=fun b=>if b=a then some o else H b
theorem qH {H:Hp} {a:Addr} {o:HO}:upd H a o a=some o:=by unfold upd; rw [if_pos rfl]
theorem qJ {H:Hp} {a b:Addr} {o:HO} (h:b≠a):upd H a o b=H b:=by unfold upd; rw [if_neg h]
theorem jK {H:Hp} {a b:Addr} {o:HO} (h:H a=some o) (h':H b=none):a≠b:=by
 intro e; subst e; rw [h] at h'; cases h'
section
variable (P:Program) (w:World)
noncomputable def jh (H:Hp) (h:Heap) (a:Addr):HO->Prop
 | .lst xs=>xs.length<=sizeLine/\∃(its:List Value) (n:Nat),ql xs its/\h.get? a=some { cls:=.type "list",data:=.seq its.toArray n }
 | .tup xs=>xs.length<=sizeLine/\∃ its:List Value,ql xs its/\IsTup h a its.toArray/\NoD h a
 | .dK kvs=>kvs.length<=sizeLine/\(a == sysModules)=false/\∃ vs,KV kvs vs/\h.DictOf (qCR P w) a vs
 | .dT kvs=>kvs.length<=sizeLine/\(a == sysModules)=false/\∃ xs:List (List Key×Addr×Value),
   Paired (fun (p:List Key×V) (q:List Key×Addr×Value)=>p.1=q.1/\H q.2.1=some (.tup (p.1.map kV))/\RelV p.2 q.2.2) kvs xs/\
   ∃ o es ep,h.get? a=some o/\o.ExactDict/\o.data=.dict es ep/\es.toList=xs.map (entryOfKey (tupleKind (qCR P w)))/\(xs.map (·.1)).Nodup
 | .set S n=>h.SetOf (intKind P w) a S n
 | .ins C dx fs=>H dx=some (.own a)/\fs.length<=1000/\dx≠a/\h.get? a=some (UH C dx)/\
   ∃ mA,h.Ns1 dx mA/\(∀ f,qMk (fs.lookup f) (mA f))/\PySem.Within mA (fs.map (·.1))
 | .own _=>∃ o,h.get? a=some o
 | .xd fs=>∃ mA,h.Ns1 a mA/\∀ f,qMk (fs.lookup f) (mA f)
 | .rng lo hi=>∃ t u v,h.get? a=some { cls:=.type "range",data:=.fields #[.int lo t,.int hi u,.int 1 v] }
 | .frz o u=>h.get? a=some o/\jh H h a u
 | .tbl ps=>h.get? a=some { cls:=.none,data:=.fields ps }
 | .met f x=>h.get? a=some (VC (.ref f) (.ref x))
 | .ext φ=>φ h/\(∃ o,h.get? a=some o)/\∀ h1 h2:Heap,φ h1->(∀ o,h1.get? a=some o->h2.get? a=some o)->φ h2
noncomputable def HOk (H:Hp) (h:Heap):Prop:=∀ a o,H a=some o->jh P w H h a o
end
section
variable {P:Program} {w:World} {H H':Hp} {h h':Heap} {a:Addr} {o:HO}
theorem jh.lt (x:jh P w H h a o):a<h.objs.size:=by
 cases o with
 | lst xs=>obtain ⟨_,_,_,_,e⟩:=x; exact zQ e
 | tup xs=>obtain ⟨_,_,_,p,_⟩:=x; exact p.lt
 | dK kvs=>obtain ⟨_,_,_,_,o,_,_,e,_⟩:=x; exact zQ e
 | dT kvs=>obtain ⟨_,_,_,_,o,_,_,e,_⟩:=x; exact zQ e
 | set S n=>obtain ⟨o,_,_,_,e,_⟩:=x; exact zQ e
 | ins C dx fs=>obtain ⟨_,_,_,e,_⟩:=x; exact zQ e
 | own y=>obtain ⟨_,e⟩:=x; exact zQ e
 | xd fs=>obtain ⟨_,⟨_,_,_,e,_⟩,_⟩:=x; exact zQ e
 | rng lo hi=>obtain ⟨_,_,_,e⟩:=x; exact zQ e
 | frz ob u=>obtain ⟨e,_⟩:=x; exact zQ e
 | tbl ps=>exact zQ (show h.get? a=some _ from x)
 | met f y=>exact zQ (show h.get? a=some _ from x)
 | ext φ=>obtain ⟨_,⟨_,e⟩,_⟩:=x; exact zQ e
theorem Paired.mapP {α β:Type} {F G:α->β->Prop}:∀{l₁:List α} {l₂:List β},Paired F l₁ l₂->(∀ a b,F a b->G a b)->Paired G l₁ l₂
 | _,_,.nil,_=>.nil
 | _,_,.cons r t,f=>.cons (f _ _ r) (Paired.mapP t f)
theorem jh.stay (x:jh P w H h a o) (k:∀ b u,(b=a\/H b=some (.own a))->h.get? b=some u->h'.get? b=some u)
  (ho:∀ b,H b=some (.own a)->H' b=some (.own a)) (ht:∀ b xs,H b=some (.tup xs)->H' b=some (.tup xs)):jh P w H' h' a o:=by
 induction o with
 | lst xs=>obtain ⟨z,its,n,r,e⟩:=x; exact ⟨z,its,n,r,k _ _ (.inl rfl) e⟩
 | tup xs=>obtain ⟨z,its,r,⟨ob,e,c⟩,nd⟩:=x; exact ⟨z,its,r,⟨ob,k _ _ (.inl rfl) e,c⟩,fun o' e'=>by rw [k _ _ (.inl rfl) e] at e'; cases e'; exact nd _ e⟩
 | dK kvs=>obtain ⟨z,y,vs,r,ob,es,ep,e,c⟩:=x; exact ⟨z,y,vs,r,ob,es,ep,k _ _ (.inl rfl) e,c⟩
 | dT kvs=>
  obtain ⟨z,y,xs,r,ob,es,ep,e,c⟩:=x
  exact ⟨z,y,xs,Paired.mapP r fun p q z=>⟨z.1,ht _ _ z.2.1,z.2.2⟩,ob,es,ep,k _ _ (.inl rfl) e,c⟩
 | set S n=>obtain ⟨ob,es,ep,t,e,c⟩:=x; exact ⟨ob,es,ep,t,k _ _ (.inl rfl) e,c⟩
 | ins C dx fs=>
  obtain ⟨d,z,ne,e,mA,⟨od,es,ep,e2,c⟩,r⟩:=x
  exact ⟨ho _ d,z,ne,k _ _ (.inl rfl) e,mA,⟨od,es,ep,k _ _ (.inr d) e2,c⟩,r⟩
 | own y=>obtain ⟨ob,e⟩:=x; exact ⟨ob,k _ _ (.inl rfl) e⟩
 | xd fs=>obtain ⟨mA,⟨od,es,ep,e,c⟩,r⟩:=x; exact ⟨mA,⟨od,es,ep,k _ _ (.inl rfl) e,c⟩,r⟩
 | rng lo hi=>obtain ⟨t,u,v,e⟩:=x; exact ⟨t,u,v,k _ _ (.inl rfl) e⟩
 | frz ob u ih=>obtain ⟨e,q⟩:=x; exact ⟨k _ _ (.inl rfl) e,ih q⟩
 | tbl ps=>
  have e:h.get? a=some { cls:=.none,data:=.fields ps }:=x
  show h'.get? a=some { cls:=.none,data:=.fields ps }
  exact k a _ (.inl rfl) e
 | met f y=>
  have e:h.get? a=some (VC (.ref f) (.ref y)):=x
  show h'.get? a=some (VC (.ref f) (.ref y))
  exact k a _ (.inl rfl) e
 | ext φ=>obtain ⟨p,⟨o,e⟩,st⟩:=x; exact ⟨st _ _ p fun o q=>k _ _ (.inl rfl) q,⟨o,k _ _ (.inl rfl) e⟩,st⟩
theorem HOk.lt (x:HOk P w H h) (e:H a=some o):a<h.objs.size:=(x a o e).lt
theorem HOk.fresh (x:HOk P w H h) (e:h.objs.size<=a):H a=none:=by
 cases q:H a with
 | none=>rfl
 | some u=>exact absurd (zZ (x.lt q) e) (vO _)
theorem HOk.kept (x:HOk P w H h) (k:∀ b u,h.get? b=some u->h'.get? b=some u):HOk P w H h':=fun a o e=>
 (x a o e).stay (fun b u _ q=>k b u q) (fun _ q=>q) fun _ _ q=>q
theorem HOk.laid (x:HOk P w H h) (k:∀ b u,h.get? b=some u->h'.get? b=some u) (hp:h.objs.size<=a) (new:jh P w (upd H a o) h' a o):HOk P w (upd H a o) h':=fun b u e=>by
 have hn:=x.fresh hp
 by_cases hb:b=a
 ·subst hb; rw [qH] at e; cases e; exact new
 ·rw [qJ hb] at e
  exact (x b u e).stay (fun c v _ q=>k c v q) (fun c q=>by rw [qJ (jK q hn)]; exact q) fun c xs q=>by rw [qJ (jK q hn)]; exact q
end
noncomputable def Rd (H:Hp) (a:Addr) (u:HO):Prop:=H a=some u\/∃ o,H a=some (.frz o u)
theorem Rd.ok {P:Program} {w:World} {H:Hp} {h:Heap} {a:Addr} {u:HO} (r:Rd H a u) (x:HOk P w H h):jh P w H h a u:=by
 rcases r with r | ⟨o,r⟩
 ·exact x a u r
 ·obtain ⟨_,q⟩:=x a _ r
  exact q
noncomputable def Mut:Option HO->Prop
 | some (.lst _)=>True
 | some (.dK _)=>True
 | some (.dT _)=>True
 | some (.set _ _)=>True
 | some (.ins _ _ _)=>True
 | some (.ext _)=>True
 | _=>False
section
variable {P:Program} {w:World} {H:Hp} {h h':Heap} {x e:Addr} {o':HO}
theorem HOk.write (ok:HOk P w H h) (mu:Mut (H x)) (he:e=x\/H e=some (.own x)) (k:∀ b u,b≠e->h.get? b=some u->h'.get? b=some u) (heo:∃ u,h'.get? e=some u)
  (new:jh P w (upd H x o') h' x o'):HOk P w (upd H x o') h':=fun b u q=>by
 have nown:∀ c y,H c=some (.own y)->c≠x:=fun c y r z=>by subst z; rw [r] at mu; exact mu
 have ntup:∀ c xs,H c=some (.tup xs)->c≠x:=fun c xs r z=>by subst z; rw [r] at mu; exact mu
 by_cases hb:b=x
 ·subst hb; rw [qH] at q; cases q; exact new
 ·rw [qJ hb] at q
  by_cases hbe:b=e
  ·have q':H b=some (.own x):=by
    rcases he with z | z
    ·exact absurd (hbe.trans z) hb
    ·rw [hbe]; exact z
   rw [q] at q'; cases q'
   obtain ⟨v,hv⟩:=heo
   exact ⟨v,by rw [hbe]; exact hv⟩
  ·refine (ok b u q).stay (fun c v hc r=>k c v ?_ r) (fun c r=>by rw [qJ (nown c b r)]; exact r) fun c xs r=>by rw [qJ (ntup c xs r)]; exact r
   rcases hc with rfl | hc
   ·exact hbe
   ·rintro rfl
    rcases he with z | z
    ·exact nown c b hc z
    ·rw [hc] at z; cases z; exact hb rfl
end
structure Un (fs ex:List Addr) (H H':Hp) (h h':Heap):Prop where
 keep:∀ b o,h.get? b=some o->H b=none->b∉fs->b∉ex->h'.get? b=some o
 slot:∀ b o,h.get? b=some o->H b=none->b∈fs->b∉ex->∃ sl,h'.get? b=some { o with slots:=sl }
 free:∀ b o,h.get? b=some o->H b=none->b∉ex->H' b=none
 there:∀ b o,h.get? b=some o->b∉ex->∃ o',h'.get? b=some o'
 tups:∀ b xs,H b=some (.tup xs)->H' b=some (.tup xs)
 frzs:∀ b o u,H b=some (.frz o u)->H' b=some (.frz o u)
 tbls:∀ b ps,H b=some (.tbl ps)->∃ more,H' b=some (.tbl (ps++more))
section
variable {fs fs' ex ex':List Addr} {H H1 H2:Hp} {h h1 h2 h':Heap} {a x e:Addr} {o:HO}
theorem Un.any (u:Un fs ex H H1 h h1) {b:Addr} {ob:Obj} (q:h.get? b=some ob) (n:H b=none) (hx:b∉ex):∃ sl,h1.get? b=some { ob with slots:=sl }:=by
 by_cases hb:b∈fs
 ·exact u.slot b ob q n hb hx
 ·exact ⟨ob.slots,u.keep b ob q n hb hx⟩
theorem Un.kept (k:∀ b u,h.get? b=some u->h'.get? b=some u):Un fs ex H H h h':=
 ⟨fun b ob q _ _ _=>k b ob q,fun b ob q _ _ _=>⟨ob.slots,k b ob q⟩,fun _ _ _ n _=>n,fun b ob q _=>⟨ob,k b ob q⟩,fun _ _ q=>q,fun _ _ _ q=>q,fun _ ps q=>⟨#[],by rw [q]; simp⟩⟩
theorem Un.refl:Un fs ex H H h h:=Un.kept fun _ _ q=>q
theorem Un.laid (k:∀ b u,h.get? b=some u->h'.get? b=some u) (hp:h.objs.size<=a) (hn:H a=none):Un fs ex H (upd H a o) h h' where
 keep:=fun b u q _ _ _=>k b u q
 slot:=fun b u q _ _ _=>⟨u.slots,k b u q⟩
 free:=fun b u q n _=>by rw [qJ (vE (zZ (zQ q) hp))]; exact n
 there:=fun b u q _=>⟨u,k b u q⟩
 tups:=fun b xs q=>by rw [qJ (jK q hn)]; exact q
 frzs:=fun b u xs q=>by rw [qJ (jK q hn)]; exact q
 tbls:=fun b ps q=>⟨#[],by rw [qJ (jK q hn),q]; simp⟩
theorem Un.write (mu:Mut (H x)) (he:e=x\/H e=some (.own x)) (k:∀ b u,b≠e->h.get? b=some u->h'.get? b=some u) (heo:∃ u,h'.get? e=some u):Un fs ex H (upd H x o) h h':=by
 have hx:∀ b,H b=none->b≠x:=fun b n z=>by subst z; rw [n] at mu; exact mu
 have hb:∀ b,H b=none->b≠e:=fun b n z=>by
  subst z
  rcases he with r | r
  ·exact hx b n r
  ·rw [n] at r; cases r
 have hm:∀ b u,H b=some u->¬ Mut (some u)->b≠x:=fun b u q nm z=>by subst z; rw [q] at mu; exact nm mu
 refine ⟨fun b u q n _ _=>k b u (hb b n) q,fun b u q n _ _=>⟨u.slots,k b u (hb b n) q⟩,fun b u q n _=>by rw [qJ (hx b n)]; exact n,fun b u q _=>?_,
  fun b xs q=>by rw [qJ (hm b _ q fun z=>z)]; exact q,fun b u xs q=>by rw [qJ (hm b _ q fun z=>z)]; exact q,fun b ps q=>⟨#[],by rw [qJ (hm b _ q fun z=>z),q]; simp⟩⟩
 by_cases hbe:b=e
 ·subst hbe; exact heo
 ·exact ⟨u,k b u hbe q⟩
end
noncomputable def trk (h:Heap) (H:Hp):List Addr:=(wV h.objs.size).filter fun a=>(H a).isSome
noncomputable def qHO (h:Heap) (H:Hp):Heap:=PySem.W.hideAll h (trk h H)
theorem qFf (h:Heap) (H:Hp):(qHO h H).objs.size=h.objs.size:=PySem.W.hideAll_size _ _
theorem qH8 {h:Heap} {H:Hp} {b:Addr} {o:Obj} (e:h.get? b=some o) (n:H b=none):(qHO h H).get? b=some o:=
 PySem.W.hideAll_get _ e fun hm=>by
  have q:(H b).isSome=true:=(zJ.mp hm).2
  rw [n] at q; simp at q
theorem qIo {h:Heap} {H:Hp} {b:Addr} {o:Obj} (e:(qHO h H).get? b=some o):h.get? b=some o/\H b=none:=by
 have e':h.get? b=some o:=PySem.W.of_hideAll (trk h H) e
 refine ⟨e',?_⟩
 cases q:H b with
 | none=>rfl
 | some x=>
  have hm:b∈trk h H:=zJ.mpr ⟨zO.mpr (zQ e'),by simp [q]⟩
  have z:(qHO h H).get? b=none:=PySem.W.hideAll_none (trk h H) hm
  rw [z] at e; cases e
noncomputable def qIp (g h:Heap) (L:Addr):List (Addr×Obj):=(wV h.objs.size).filterMap fun a=>if a=L\/(g.get? a).isSome=true then none else (h.get? a).map fun o=>(a,o)
noncomputable def rest (g h:Heap) (L d:Addr):List (Addr×Obj):=(qIp g h L).filter fun p=>decide (p.1≠d)
structure Mod (K:wK) (mg:Str->Option Value) (base:Heap):Prop where
 kin:K.In base
 glob:base.Ns mainGlobals mg
 blt:∃ mb,base.Ns builtinsNs mb/\∀ x:Str,x≠"__name__"->mb x=bootBuiltins x
 nolimit:base.NoLimit
structure Cx where
 prog:Program
 w:World
 K:wK
 mg:Str->Option Value
 base:Heap
 A:Around
 N:List Str
 s₀:Shared
 H₀:Hp
 env:Env
 outer:List Env
 stack:List Env
 ex:List Addr
 fn:Str->Bool
 calm:Bool
 pn:List (Addr×Obj)
 xe:Value->Shared->Prop
noncomputable def frs (l:List Env):List Addr:=l.filterMap (·.frame)
noncomputable abbrev Cx.fs (X:Cx):List Addr:=frs X.outer
noncomputable def Vis (sc:Scope) (x:Str):Prop:=sc.names.lookup x=some .local\/sc.names.lookup x=some .cell\/sc.names.lookup x=some .free
noncomputable def Loc (sc:Scope) (x:Str):Prop:=sc.names.lookup x=some .local\/sc.names.lookup x=some .cell
noncomputable def Look (env:Env) (h:Heap) (m:Str->Option Value) (x:Str) (u:Value):Prop:=
 (env.kindOf x=some .local/\m x=some u)\/((env.kindOf x=some .cell\/env.kindOf x=some .free)/\∃ c,env.cells.lookup x=some c/\h.IsCell c (some u))
structure Cx.Ok (X:Cx):Prop where
 mod:Mod X.K X.mg X.base
 kind:X.env.scope.kind=.function
 glob:X.env.globals=mainGlobals
 blt:X.env.builtins=builtinsNs
 above:X.s₀.heap.objs.size<=X.env.locals
 inj:∀ x y c,X.env.cells.lookup x=some c->X.env.cells.lookup y=some c->x=y
 has:∀ x,(X.env.kindOf x=some .cell\/X.env.kindOf x=some .free)->∃ c,X.env.cells.lookup x=some c
 cab:∀ x c,X.fn x=true->X.env.cells.lookup x=some c->X.s₀.heap.objs.size<=c
 hd:X.calm=true->X.A.handled=none
 frames:X.A.frames=some X.stack
 stk:X.stack=X.outer\/(X.stack=X.env::X.outer/\X.env.frame=some X.env.locals)
 exf:∀ b∈X.ex,b≠X.env.locals/\∀ x c,X.env.cells.lookup x=some c->c≠b
 bs:∀ b o,X.base.get? b=some o->X.s₀.heap.get? b=some o/\X.H₀ b=none
 bsz:X.base.objs.size<=X.s₀.heap.objs.size
 noex:∀ b o,X.base.get? b=some o->b∉X.ex
 exfs:∀ b∈X.ex,b∉X.fs
 funs:X.s₀.heap.FunFrames X.base X.outer
 frf:∀ b∈X.fs,X.H₀ b=none
structure Inv (X:Cx) (pins:List (Addr×Obj)) (σ:List (Option V)) (H:Hp) (s:Shared):Prop where
 ok:X.Ok
 os:s.os=X.s₀.os
 bare:AllBare s.gens
 base:Un X.fs X.ex X.H₀ H X.s₀.heap s.heap
 loc:∃ m,s.heap.Ns X.env.locals m/\∀(i:Nat) (x:Str) (v:V),X.N[i]? = some x->σ[i]? = some (some v)->Vis X.env.scope x->∃ u,RelV v u/\Look X.env s.heap m x u
 cell:∀ x c,X.env.cells.lookup x=some c->∃ v,s.heap.IsCell c v
 free:H X.env.locals=none
 freeC:∀ x c,X.env.cells.lookup x=some c->H c=none
 pin:∀ p∈X.pn++pins,s.heap.get? p.1=some p.2/\H p.1=none/\p.1≠X.env.locals/\p.1∉X.fs/\∀ v,p.2.data≠.cell v
 hok:HOk X.prog X.w H s.heap
 len:σ.length=X.N.length
section
variable {X:Cx} {pins:List (Addr×Obj)} {σ:List (Option V)} {H H':Hp} {s:Shared} {h':Heap}
theorem Cx.Ok.nofr (ok:X.Ok) {b:Addr} {o:Obj} (e:X.base.get? b=some o):b∉X.fs:=fun hb=>by
 have:=(ok.funs.mem hb).1
 rw [e] at this; cases this
theorem Inv.bs (I:Inv X pins σ H s):∀ b o,X.base.get? b=some o->s.heap.get? b=some o/\H b=none:=fun b o e=>
 ⟨I.base.keep b o (I.ok.bs b o e).1 (I.ok.bs b o e).2 (I.ok.nofr e) (I.ok.noex b o e),I.base.free b o (I.ok.bs b o e).1 (I.ok.bs b o e).2 (I.ok.noex b o e)⟩
theorem Inv.bk (I:Inv X pins σ H s):∀ b o,X.base.get? b=some o->s.heap.get? b=some o:=fun b o e=>(I.bs b o e).1
theorem Inv.mod (I:Inv X pins σ H s):Mod X.K X.mg X.base:=I.ok.mod
theorem Inv.kIn (I:Inv X pins σ H s):X.K.In s.heap:=I.ok.mod.kin.keeps I.bk
theorem Inv.lt (I:Inv X pins σ H s):X.env.locals<s.heap.objs.size:=let ⟨_,hn,_⟩:=I.loc; hn.lt
theorem Inv.sz (I:Inv X pins σ H s):X.s₀.heap.objs.size<=s.heap.objs.size:=zM I.ok.above (vR I.lt)
theorem Inv.nofs (I:Inv X pins σ H s) {a:Addr} (h:s.heap.objs.size<=a):a∉X.fs:=fun hb=>by
 obtain ⟨_,o,ho,_⟩:=I.ok.funs.mem hb
 exact absurd (zZ (zQ ho) (zM I.sz h)) (vO _)
theorem Inv.cne (I:Inv X pins σ H s):∀ x c,X.env.cells.lookup x=some c->c≠X.env.locals:=fun x c e z=>by
 obtain ⟨v,o,ho,hd⟩:=I.cell x c e
 obtain ⟨m,⟨o',es,ep,ho',hd',_⟩,_⟩:=I.loc
 rw [z,ho'] at ho; cases ho; rw [hd'] at hd; cases hd
theorem Inv.funs (I:Inv X pins σ H s):s.heap.FunFrames X.base X.outer:=by
 have all:∀(l:List Env),(∀ b∈frs l,b∈X.fs)->X.s₀.heap.FunFrames X.base l->s.heap.FunFrames X.base l:=by
  intro l
  induction l with
  | nil=>intro _ _; trivial
  | cons env r ih=>
   intro hs hl
   obtain ⟨hk,⟨L,o,hf,hn,ho,hd⟩,hr⟩:=hl
   have hL:L∈X.fs:=hs L (by unfold frs; rw [hE,hf]; exact wD)
   obtain ⟨sl,e⟩:=I.base.slot L o ho (I.ok.frf L hL) hL fun z=>I.ok.exfs L z hL
   exact ⟨hk,⟨L,_,hf,hn,e,hd⟩,ih (fun b hb=>hs b (by unfold frs; rw [hE,hf]; exact wJ _ hb)) hr⟩
 exact all X.outer (fun _ hb=>hb) I.ok.funs
theorem Inv.stack (I:Inv X pins σ H s):s.heap.FunFrames X.base X.stack:=by
 rcases I.ok.stk with e | ⟨e,hf⟩
 ·rw [e]; exact I.funs
 ·rw [e]
  obtain ⟨m,hn,_⟩:=I.loc
  refine .cons (by rw [I.ok.kind]; decide) hf hn ?_ I.funs
  exact Heap.get?_none_of_le (zM I.ok.bsz I.ok.above)
theorem Inv.stkSub (I:Inv X pins σ H s):∀ b∈frs X.stack,b∈X.env.locals::X.fs:=fun b hb=>by
 rcases I.ok.stk with e | ⟨e,hf⟩
 ·rw [e] at hb; exact wJ _ hb
 ·rw [e] at hb
  unfold frs at hb
  rw [hE,hf] at hb
  exact hb
theorem Inv.stkFree (I:Inv X pins σ H s):∀ b∈frs X.stack,H b=none:=fun b hb=>by
 rcases wW.mp (I.stkSub b hb) with e | hb
 ·rw [e]; exact I.free
 ·obtain ⟨_,o,ho,_⟩:=I.ok.funs.mem hb
  exact I.base.free b o ho (I.ok.frf b hb) fun z=>I.ok.exfs b z hb
theorem Inv.step {g':Array GenState} {t':Nat} {d':Drawn} {ch:List Addr} (I:Inv X pins σ H s)
  (hch:∀ b∈ch,(b∈X.ex\/X.s₀.heap.objs.size<=b)/\b≠X.env.locals/\(∀ x c,X.env.cells.lookup x=some c->c≠b)/\∀ p∈X.pn++pins,p.1≠b)
  (keep:∀ b o,b≠X.env.locals->b∉X.fs->b∉ch->s.heap.get? b=some o->H b=none->h'.get? b=some o)
  (slot:∀ b o,b≠X.env.locals->b∈X.fs->b∉ch->s.heap.get? b=some o->H b=none->∃ sl,h'.get? b=some { o with slots:=sl }) (free:∀ b o,b∉ch->s.heap.get? b=some o->H b=none->H' b=none)
  (there:∀ b o,b∉ch->s.heap.get? b=some o->∃ o',h'.get? b=some o')
  (tups:∀ b xs,H b=some (.tup xs)->H' b=some (.tup xs)) (frzs:∀ b o u,H b=some (.frz o u)->H' b=some (.frz o u)) (tbls:∀ b ps,H b=some (.tbl ps)->∃ more,H' b=some (.tbl (ps++more)))
  (ns:∀ m,s.heap.Ns X.env.locals m->h'.Ns X.env.locals m) (hok:HOk X.prog X.w H' h') (hg:AllBare g') :
  Inv X pins σ H' { s with heap:=h',gens:=g',drawn:=d',toks:=t' }:=by
 have neL:∀ b o,X.s₀.heap.get? b=some o->b≠X.env.locals:=fun b o e=>vE (zZ (zQ e) I.ok.above)
 have neC:∀ b o,X.s₀.heap.get? b=some o->b∉X.ex->b∉ch:=fun b o e hx hb=>by
  rcases (hch b hb).1 with z | z
  ·exact hx z
  ·exact absurd (zZ (zQ e) z) (vO _)
 have cellK:∀ x c,X.env.cells.lookup x=some c->∀ v,s.heap.IsCell c v->h'.IsCell c v:=fun x c e v ⟨o,ho,hd⟩=>by
  have nch:c∉ch:=fun z=>(hch c z).2.2.1 x c e rfl
  by_cases hc:c∈X.fs
  ·obtain ⟨sl,q⟩:=slot c o (I.cne x c e) hc nch ho (I.freeC x c e)
   exact ⟨_,q,hd⟩
  ·exact ⟨o,keep c o (I.cne x c e) hc nch ho (I.freeC x c e),hd⟩
 refine ⟨I.ok,I.os,hg,⟨fun b o e n hb hx=>?_,fun b o e n hb hx=>?_,fun b o e n hx=>?_,fun b o e hx=>?_,fun b xs e=>tups b xs (I.base.tups b xs e),fun b o xs e=>frzs b o xs (I.base.frzs b o xs e),fun b ps e=>?_⟩,?_,fun x c e=>?_,?_,fun x c e=>?_,fun p hp=>?_,hok,I.len⟩
 ·exact keep b o (neL b o e) hb (neC b o e hx) (I.base.keep b o e n hb hx) (I.base.free b o e n hx)
 ·obtain ⟨sl,e1⟩:=I.base.slot b o e n hb hx
  obtain ⟨sl',e2⟩:=slot b _ (neL b o e) hb (neC b o e hx) e1 (I.base.free b o e n hx)
  exact ⟨sl',e2⟩
 ·obtain ⟨o',e1⟩:=I.base.there b o e hx
  exact free b o' (neC b o e hx) e1 (I.base.free b o e n hx)
 ·obtain ⟨o',e1⟩:=I.base.there b o e hx
  exact there b o' (neC b o e hx) e1
 ·obtain ⟨m1,e1⟩:=I.base.tbls b ps e
  obtain ⟨m2,e2⟩:=tbls b _ e1
  exact ⟨m1++m2,by rw [e2,Array.append_assoc]⟩
 ·obtain ⟨m,hn,hl⟩:=I.loc
  refine ⟨m,ns m hn,fun i x v e1 e2 e3=>?_⟩
  obtain ⟨u,r,l⟩:=hl i x v e1 e2 e3
  refine ⟨u,r,?_⟩
  rcases l with l | ⟨k,c,e,z⟩
  ·exact .inl l
  ·exact .inr ⟨k,c,e,cellK x c e _ z⟩
 ·obtain ⟨v,z⟩:=I.cell x c e
  exact ⟨v,cellK x c e v z⟩
 ·obtain ⟨m,⟨o,_,_,ho,_⟩,_⟩:=I.loc
  exact free _ o (fun z=>(hch _ z).2.1 rfl) ho I.free
 ·obtain ⟨v,o,ho,hd⟩:=I.cell x c e
  exact free c o (fun z=>(hch c z).2.2.1 x c e rfl) ho (I.freeC x c e)
 ·obtain ⟨e,n,ne,nf,d⟩:=I.pin p hp
  have nch:p.1∉ch:=fun z=>(hch p.1 z).2.2.2 p hp rfl
  exact ⟨keep p.1 p.2 ne nf nch e n,free p.1 p.2 nch e n,ne,nf,d⟩
theorem Inv.un {t':Nat} (I:Inv X pins σ H s) (u:Un X.fs [] H H' s.heap h') (hok:HOk X.prog X.w H' h'):Inv X pins σ H' { s with heap:=h',toks:=t' }:=by
 obtain ⟨m,⟨o,es,ep,ho,r⟩,_⟩:=id I.loc
 obtain ⟨sl,hL⟩:=u.any ho I.free (by simp)
 exact I.step (g':=s.gens) (d':=s.drawn) (ch:=[]) (fun _ z=>nomatch z) (fun b o _ hb _ e n=>u.keep b o e n hb (by simp)) (fun b o _ hb _ e n=>u.slot b o e n hb (by simp)) (fun b o _ e n=>u.free b o e n (by simp)) (fun b o _ e=>u.there b o e (by simp)) u.tups u.frzs u.tbls (fun m' hm=>by
  obtain ⟨o',es',ep',ho',r'⟩:=hm
  rw [ho] at ho'; cases ho'
  exact ⟨_,es',ep',hL,r'⟩) hok I.bare
theorem Inv.call {g':Array GenState} {t':Nat} {d':Drawn} {ch:List Addr} (I:Inv X pins σ H s) (u:Un (frs X.stack) ch H H' s.heap h') (hok:HOk X.prog X.w H' h') (hg:AllBare g')
  (hch:∀ b∈ch,(b∈X.ex\/X.s₀.heap.objs.size<=b)/\b≠X.env.locals/\(∀ x c,X.env.cells.lookup x=some c->c≠b)/\∀ p∈X.pn++pins,p.1≠b) :
  Inv X pins σ H' { s with heap:=h',gens:=g',drawn:=d',toks:=t' }:=by
 obtain ⟨m,⟨o,es,ep,ho,r⟩,_⟩:=id I.loc
 obtain ⟨sl,hL⟩:=u.any ho I.free fun z=>(hch _ z).2.1 rfl
 exact I.step (ch:=ch) hch (fun b o hL hb hc e n=>u.keep b o e n (fun z=>(wW.mp (I.stkSub b z)).elim hL hb) hc) (fun b o _ _ hc e n=>u.any e n hc) (fun b o hc e n=>u.free b o e n hc) (fun b o hc e=>u.there b o e hc) u.tups u.frzs u.tbls (fun m' hm=>by
  obtain ⟨o',es',ep',ho',r'⟩:=hm
  rw [ho] at ho'; cases ho'
  exact ⟨_,es',ep',hL,r'⟩) hok hg
theorem Inv.turned {t':Nat} {it:Addr} (I:Inv X pins σ H s) (k:∀ b o,b≠it->s.heap.get? b=some o->h'.get? b=some o) (hn:H it=none) (hL:it≠X.env.locals)
  (h1:it∈X.ex\/X.s₀.heap.objs.size<=it) (h2:∀ x c,X.env.cells.lookup x=some c->c≠it) (h3:∀ p∈X.pn++pins,p.1≠it):Inv X pins σ H { s with heap:=h',toks:=t' }:=by
 have nit:∀ b u,H b=some u->b≠it:=fun b u e z=>by rw [z,hn] at e; cases e
 refine I.step (g':=s.gens) (d':=s.drawn) (ch:=[it]) (fun b hb=>?_) (fun b o _ _ hc e _=>k b o (fun z=>hc (by simp [z])) e) (fun b o _ _ hc e _=>⟨o.slots,k b o (fun z=>hc (by simp [z])) e⟩) (fun _ _ _ _ n=>n)
  (fun b o hc e=>⟨o,k b o (fun z=>hc (by simp [z])) e⟩) (fun _ _ e=>e) (fun _ _ _ e=>e) (fun b ps e=>⟨#[],by rw [e]; simp⟩) (fun m hm=>?_) (fun b u e=>?_) I.bare
 ·have e:b=it:=by simpa using hb
  subst e
  exact ⟨h1,hL,h2,h3⟩
 ·obtain ⟨o,es,ep,ho,r⟩:=hm
  exact ⟨o,es,ep,k _ o (ZK hL) ho,r⟩
 ·refine (I.hok b u e).stay (fun c v hc q=>k c v ?_ q) (fun _ q=>q) fun _ _ q=>q
  rcases hc with z | z
  ·rw [z]; exact nit b u e
  ·exact nit c _ z
theorem Inv.tok (I:Inv X pins σ H s) (t:Nat):Inv X pins σ H { s with toks:=t }:=I.un (h':=s.heap) (t':=t) Un.refl I.hok
theorem Inv.kept {t':Nat} (I:Inv X pins σ H s) (k:∀ b u,s.heap.get? b=some u->h'.get? b=some u):Inv X pins σ H { s with heap:=h',toks:=t' }:=I.un (Un.kept k) (I.hok.kept k)
theorem Inv.laid {a:Addr} {o:HO} {t':Nat} (I:Inv X pins σ H s) (k:∀ b u,s.heap.get? b=some u->h'.get? b=some u) (hp:s.heap.objs.size<=a) (new:jh X.prog X.w (upd H a o) h' a o) :
  Inv X pins σ (upd H a o) { s with heap:=h',toks:=t' }:=I.un (Un.laid k hp (I.hok.fresh hp)) (I.hok.laid k hp new)
theorem Inv.write {x e:Addr} {o:HO} {t':Nat} (I:Inv X pins σ H s) (mu:Mut (H x)) (he:e=x\/H e=some (.own x)) (k:∀ b u,b≠e->s.heap.get? b=some u->h'.get? b=some u) (heo:∃ u,h'.get? e=some u)
  (new:jh X.prog X.w (upd H x o) h' x o):Inv X pins σ (upd H x o) { s with heap:=h',toks:=t' }:=I.un (Un.write mu he k heo) (I.hok.write mu he k heo new)
theorem Inv.pins_of {pins':List (Addr×Obj)} (I:Inv X pins σ H s) (h:∀ p∈pins',s.heap.get? p.1=some p.2/\H p.1=none/\p.1≠X.env.locals/\p.1∉X.fs/\∀ v,p.2.data≠.cell v):Inv X pins' σ H s:=
 ⟨I.ok,I.os,I.bare,I.base,I.loc,I.cell,I.free,I.freeC,fun p hp=>(zR.mp hp).elim (fun z=>I.pin p (vL _ z)) (h p),I.hok,I.len⟩
theorem qCx {N:List Str} (hN:N.Nodup) {i j:Nat} {x:Str} (a:N[i]? = some x) (b:N[j]? = some x):i=j:=by
 obtain ⟨h1,e1⟩:=wR.mp a
 obtain ⟨h2,e2⟩:=wR.mp b
 exact (VV hN).mp (e1.trans e2.symm)
theorem Yb {M:Model} {A:Around} {E:Value->Shared->Prop} {i:Nat} {x:Str} {v:V} {u:Value} {Q:Unit->Shared->Prop} (I:Inv X pins σ H s) (hN:X.N.Nodup) (hi:X.N[i]? = some x) (hx:Loc X.env.scope x) (r:RelV v u)
  (h:∀ s',Inv X pins (σ.set i (some v)) H s'->(∃ a,uL a s.heap s'.heap/\(a=X.env.locals\/X.env.cells.lookup x=some a))->Q () s') (hf:X.fn x=true\/X.env.scope.names.lookup x=some .local:=by first | exact .inl rfl | exact .inr rfl | assumption):wpAny M A (storeName X.env x u) Q E s:=by
 obtain ⟨m,hn,hl⟩:=id I.loc
 have hcls:(X.env.scope.kind == .class || (X.env.scope.kind == .module && X.env.locals != X.env.globals))=false:=by rw [I.ok.kind]; rfl
 have hiσ:i<σ.length:=by rw [I.len]; exact (wR.mp hi).1
 have cne:=I.cne
 have tracked:∀{a:Addr} {h':Heap},(∃ o,s.heap.get? a=some o/\H a=none)->uL a s.heap h'->HOk X.prog X.w H h':=fun {a h'} ha hs b ob e=>by
  obtain ⟨_,_,hfree⟩:=ha
  refine (I.hok b ob e).stay (fun c w' hc q=>(hs.2 c ?_).trans q) (fun _ q=>q) fun _ _ q=>q
  rintro rfl
  rcases hc with rfl | hc
  ·rw [hfree] at e; cases e
  ·rw [hfree] at hc; cases hc
 rcases hx with hk | hk
 ·refine wpAny_storeName_local hk hn (fun h' hn' hs=>?_) hcls
  obtain ⟨oL,_,_,hoL,_⟩:=id hn
  refine h _ ⟨I.ok,I.os,I.bare,⟨fun b o e n hb hx=>?_,fun b o e n hb hx=>?_,I.base.free,fun b o e hx=>?_,I.base.tups,I.base.frzs,I.base.tbls⟩,⟨_,hn',fun j y v' e1 e2 e3=>?_⟩,fun y c e=>?_,I.free,I.freeC,fun p hp=>?_,tracked ⟨oL,hoL,I.free⟩ hs,by simpa using I.len⟩ ⟨_,hs,.inl rfl⟩
  ·exact (hs.2 b (vE (zZ (zQ e) I.ok.above))).trans (I.base.keep b o e n hb hx)
  ·obtain ⟨sl,e1⟩:=I.base.slot b o e n hb hx
   exact ⟨sl,(hs.2 b (vE (zZ (zQ e) I.ok.above))).trans e1⟩
  ·obtain ⟨o',e1⟩:=I.base.there b o e hx
   exact ⟨o',(hs.2 b (vE (zZ (zQ e) I.ok.above))).trans e1⟩
  ·by_cases hj:j=i
   ·subst hj
    rw [hi] at e1; cases e1
    rw [List.getElem?_set_self hiσ] at e2
    cases e2
    exact ⟨u,r,.inl ⟨hk,by simp⟩⟩
   ·rw [List.getElem?_set_ne (ZK hj)] at e2
    obtain ⟨u',r',q⟩:=hl j y v' e1 e2 e3
    refine ⟨u',r',?_⟩
    rcases q with ⟨k,e⟩ | ⟨k,c,e,z⟩
    ·refine .inl ⟨k,?_⟩
     have:y≠x:=fun e=>hj (qCx hN e1 (e ▸ hi))
     simp [this,e]
    ·exact .inr ⟨k,c,e,z.sameBut hs (cne y c e)⟩
  ·obtain ⟨w',z⟩:=I.cell y c e
   exact ⟨w',z.sameBut hs (cne y c e)⟩
  ·obtain ⟨e,n,ne,nf,d⟩:=I.pin p hp
   exact ⟨(hs.2 p.1 ne).trans e,n,ne,nf,d⟩
 ·have hfn:X.fn x=true:=by
   rcases hf with z | z
   ·exact z
   ·rw [z] at hk; cases hk
  obtain ⟨c,hc⟩:=I.ok.has x (.inl hk)
  obtain ⟨w',z⟩:=I.cell x c hc
  refine wpAny_storeName_cell I.ok.kind hk hc z (fun h' hc' hs=>?_)
  obtain ⟨oc,hoc,hocd⟩:=id z
  refine h { s with heap:=h' } ⟨I.ok,I.os,I.bare,⟨fun b o e n hb hx=>?_,fun b o e n hb hx=>?_,I.base.free,fun b o e hx=>?_,I.base.tups,I.base.frzs,I.base.tbls⟩,⟨m,hn.sameBut hs (ZK (cne x c hc)),fun j y v' e1 e2 e3=>?_⟩,fun y c' e=>?_,I.free,I.freeC,fun p hp=>?_,tracked ⟨oc,hoc,I.freeC x c hc⟩ hs,by simpa using I.len⟩ ⟨c,hs,.inr hc⟩
  ·exact (hs.2 b (vE (zZ (zQ e) (I.ok.cab x c hfn hc)))).trans (I.base.keep b o e n hb hx)
  ·obtain ⟨sl,e1⟩:=I.base.slot b o e n hb hx
   exact ⟨sl,(hs.2 b (vE (zZ (zQ e) (I.ok.cab x c hfn hc)))).trans e1⟩
  ·obtain ⟨o',e1⟩:=I.base.there b o e hx
   exact ⟨o',(hs.2 b (vE (zZ (zQ e) (I.ok.cab x c hfn hc)))).trans e1⟩
  ·by_cases hj:j=i
   ·subst hj
    rw [hi] at e1; cases e1
    rw [List.getElem?_set_self hiσ] at e2
    cases e2
    exact ⟨u,r,.inr ⟨.inl hk,c,hc,hc'⟩⟩
   ·rw [List.getElem?_set_ne (ZK hj)] at e2
    obtain ⟨u',r',q⟩:=hl j y v' e1 e2 e3
    refine ⟨u',r',?_⟩
    rcases q with q | ⟨k,c',e,z'⟩
    ·exact .inl q
    ·refine .inr ⟨k,c',e,z'.sameBut hs ?_⟩
     rintro rfl
     exact hj (qCx hN e1 (I.ok.inj _ _ _ e hc ▸ hi))
  ·by_cases hcc:c'=c
   ·subst hcc; exact ⟨_,hc'⟩
   ·obtain ⟨w2,z2⟩:=I.cell y c' e
    exact ⟨w2,z2.sameBut hs hcc⟩
  ·obtain ⟨e,n,ne,nf,d⟩:=I.pin p hp
   refine ⟨(hs.2 p.1 ?_).trans e,n,ne,nf,d⟩
   intro q
   rw [q,hoc] at e
   have q':oc=p.2:=zS e
   exact d w' (by rw [<- q']; exact hocd)
theorem qA0 {M:Model} {A:Around} {E:Value->Shared->Prop} {i:Nat} {x:Str} {v:V} {u:Value} {Q:Unit->Shared->Prop} (I:Inv X pins σ H s) (hN:X.N.Nodup) (hi:X.N[i]? = some x) (hx:Loc X.env.scope x) (r:RelV v u)
  (h:∀ s',Inv X pins (σ.set i (some v)) H s'->Q () s') (hf:X.fn x=true\/X.env.scope.names.lookup x=some .local:=by first | exact .inl rfl | exact .inr rfl | assumption):wpAny M A (storeName X.env x u) Q E s:=
 Yb I hN hi hx r (fun s' I' _=>h s' I') hf
theorem Inv.call' {s':Shared} {ch:List Addr} (I:Inv X pins σ H s) (ho:s'.os=s.os) (u:Un (frs X.stack) ch H H' s.heap s'.heap) (hok:HOk X.prog X.w H' s'.heap) (hg:AllBare s'.gens)
  (hch:∀ b∈ch,(b∈X.ex\/X.s₀.heap.objs.size<=b)/\b≠X.env.locals/\(∀ x c,X.env.cells.lookup x=some c->c≠b)/\∀ p∈X.pn++pins,p.1≠b):Inv X pins σ H' s':=by
 obtain ⟨h',g',d',t',o'⟩:=s'
 have e:o'=s.os:=ho
 subst e
 exact I.call (g':=g') (t':=t') (d':=d') u hok hg hch
end
noncomputable abbrev XK:=Value->Option Addr->Hp->Prop
noncomputable abbrev St:=List (Option V)
noncomputable abbrev VK:=V->Hp->Prop
noncomputable abbrev TE:=St->Hp->VK->Prop
noncomputable abbrev TT:=St->Hp->(Bool->Hp->Prop)->Prop
noncomputable abbrev TA:=St->Hp->(List V->Hp->Prop)->Prop
structure Ends where
 nx:St->Hp->Prop
 rt:VK
 bk:St->Hp->Prop:=fun _ _=>False
 ct:St->Hp->Prop:=fun _ _=>False
noncomputable abbrev TS:=Ends->St->Hp->Prop
noncomputable def EP (X:Cx) (pins:List (Addr×Obj)) (σ:St) (Q:VK) (u:Value) (s':Shared):Prop:=∃ v H',Inv X pins σ H' s'/\RelV v u/\Q v H'
noncomputable def TP (X:Cx) (pins:List (Addr×Obj)) (σ:St) (Q:Bool->Hp->Prop) (b:Bool) (s':Shared):Prop:=∃ H',Inv X pins σ H' s'/\Q b H'
noncomputable def AP (X:Cx) (pins:List (Addr×Obj)) (σ:St) (Q:List V->Hp->Prop) (us:List Value) (s':Shared):Prop:=∃ vs H',Inv X pins σ H' s'/\ql vs us/\Q vs H'
noncomputable def SP (X:Cx) (pins:List (Addr×Obj)) (D:Ends) (f:Flow) (s':Shared):Prop:=
 match f with
 | .next=>∃ σ' H',Inv X pins σ' H' s'/\D.nx σ' H'
 | .brk=>∃ σ' H',Inv X pins σ' H' s'/\D.bk σ' H'
 | .cont=>∃ σ' H',Inv X pins σ' H' s'/\D.ct σ' H'
 | .ret u=>∃ v σ' H',Inv X pins σ' H' s'/\RelV v u/\D.rt v H'
noncomputable def PE (X:Cx) (e:Expr) (t:TE):Prop:=
 ∀(pins:List (Addr×Obj)) (s:Shared) (σ:St) (H:Hp) (Q:VK),Inv X pins σ H s->t σ H Q->wpAny (model X.prog X.w) X.A (eval e X.env) (EP X pins σ Q) X.xe s
noncomputable def PT (X:Cx) (e:Expr) (t:TT):Prop:=
 ∀(pins:List (Addr×Obj)) (s:Shared) (σ:St) (H:Hp) (Q:Bool->Hp->Prop),Inv X pins σ H s->t σ H Q->wpAny (model X.prog X.w) X.A (isTrue e X.env (eval e X.env)) (TP X pins σ Q) X.xe s
noncomputable def PW (X:Cx) (e:Expr) (t:TT):Prop:=
 ∀(whole:Sem Value) (pins:List (Addr×Obj)) (s:Shared) (σ:St) (H:Hp) (Q:Bool->Hp->Prop),Inv X pins σ H s->t σ H Q->wpAny (model X.prog X.w) X.A (isTrue e X.env whole) (TP X pins σ Q) X.xe s
theorem PW.pt {X:Cx} {e:Expr} {t:TT} (h:PW X e t):PT X e t:=h _
noncomputable def PA (X:Cx) (es:List Expr) (t:TA):Prop:=
 ∀(pos:Pos) (pins:List (Addr×Obj)) (s:Shared) (σ:St) (H:Hp) (Q:List V->Hp->Prop),Inv X pins σ H s->t σ H Q->wpAny (model X.prog X.w) X.A (spliced (backTo pos (starEach es X.env))) (AP X pins σ Q) X.xe s
noncomputable def PS (X:Cx) (st:Stmt) (t:TS):Prop:=
 ∀(pins:List (Addr×Obj)) (s:Shared) (σ:St) (H:Hp) (D:Ends),Inv X pins σ H s->t D σ H->wpAny (model X.prog X.w) X.A (exec st X.env) (SP X pins D) X.xe s
noncomputable def PSs (X:Cx) (st:List Stmt) (t:TS):Prop:=
 ∀(pins:List (Addr×Obj)) (s:Shared) (σ:St) (H:Hp) (D:Ends),Inv X pins σ H s->t D σ H->wpAny (model X.prog X.w) X.A (execs st X.env) (SP X pins D) X.xe s
theorem thn {α:Type} {t:Sem α} {Q Q':α->Shared->Prop} {M:Model} {A:Around} {E:Value->Shared->Prop} {s:Shared} (h:wpAny M A t Q E s) (hQ:∀ a s,Q a s->Q' a s):wpAny M A t Q' E s:=xQ h hQ fun _ _ x=>x
section
variable {X:Cx}
theorem bin {a b:Expr} {ta tb:TE} (ha:PE X a ta) (hb:PE X b tb) {pins:List (Addr×Obj)} {s:Shared} {σ:St} {H:Hp} {R:V->V->Hp->Prop} (I:Inv X pins σ H s) (h:ta σ H fun x H1=>tb σ H1 fun y H2=>R x y H2)
  {α:Type} {Q:α->Shared->Prop} {f:Value->Value->Sem α}
  (hf:∀ v u s2 x y H2,Inv X pins σ H2 s2->RelV x v->RelV y u->R x y H2->wpAny (model X.prog X.w) X.A (f v u) Q X.xe s2) :
  wpAny (model X.prog X.w) X.A (eval a X.env) (fun v s₁=>wpAny (model X.prog X.w) X.A (eval b X.env) (fun u s₂=>wpAny (model X.prog X.w) X.A (f v u) Q X.xe s₂) X.xe s₁) X.xe s:=by
 refine thn (ha pins s σ H _ I h) fun v s1 ⟨x,H1,I1,r1,q1⟩=>?_
 refine thn (hb pins s1 σ H1 _ I1 q1) fun u s2 ⟨y,H2,I2,r2,q2⟩=>?_
 exact hf v u s2 x y H2 I2 r1 r2 q2
noncomputable def qIX (i:Nat):TE:=fun σ H Q=>∃ v,σ[i]? = some (some v)/\Q v H
noncomputable def tC (v:V):TE:=fun _ H Q=>Q v H
theorem qLf {i:Nat} {x:Str} {pos:Pos} (hN:X.N[i]? = some x) (hv:Vis X.env.scope x) (hd:(x == ("__debug__" : Str))=false:=by decide) (hcd:(x == ("__classdict__" : Str))=false:=by decide):PE X (.Name x pos) (qIX i):=by
 intro pins s σ H Q I h
 obtain ⟨v,e,h⟩:=h
 obtain ⟨m,hn,hl⟩:=I.loc
 obtain ⟨u,r,l⟩:=hl i x v hN e hv
 have fin:EP X pins σ Q u s:=⟨v,H,I,r,h⟩
 rcases l with ⟨hk,hm⟩ | ⟨hk,c,hc,hcell⟩
 ·exact wpAny_Name (wpAny_loadName_local I.ok.kind hk hn hm fin) hd
 ·rcases hk with hk | hk
  ·exact wpAny_Name (wpAny_loadName_cell I.ok.kind hk hc hcell fin) hd
  ·exact wpAny_Name (wpAny_loadName_free I.ok.kind hk hc hcell fin hcd) hd
theorem qE {i j pos}:PE X (.Constant (.int i) j pos) (tC (.int i)):=fun _ _ _ H _ I h=>wpAny_Constant_int ⟨.int i,H,I.tok _,⟨_,rfl⟩,h⟩
theorem qD5 {b j pos}:PE X (.Constant (.bool b) j pos) (tC (.bl b)):=fun _ _ _ H _ I h=>Constant_bool ⟨.bl b,H,I,rfl,h⟩
theorem qIP {j pos}:PE X (.Constant .none j pos) (tC .non):=fun _ _ _ H _ I h=>Constant_none ⟨.non,H,I,rfl,h⟩
noncomputable def Gl (X:Cx) (x:Str):Prop:=X.env.kindOf x=some .globalImplicit
theorem qGX {E:Value->Shared->Prop} {pins:List (Addr×Obj)} {s:Shared} {σ:St} {H:Hp} {x:Str} {u:Value} {pos:Pos} {Q:Value->Shared->Prop} (I:Inv X pins σ H s) (hg:Gl X x) (hm:X.mg x=some u) (h:Q u s)
  (hd:(x == ("__debug__" : Str))=false:=by decide):wpAny (model X.prog X.w) X.A (eval (.Name x pos) X.env) Q E s:=
 US I.ok.kind hg (Calls.loadGlobal_global (by rw [I.ok.glob]; exact I.mod.glob.keeps I.bk) hm h) hd
theorem Jh {E:Value->Shared->Prop} {pins:List (Addr×Obj)} {s:Shared} {σ:St} {H:Hp} {x:Str} {u:Value} {pos:Pos} {Q:Value->Shared->Prop} (I:Inv X pins σ H s) (hg:Gl X x) (hm:X.mg x=none) (hv:bootBuiltins x=some u) (h:Q u s)
  (hn:x≠"__name__":=by decide) (hd:(x == ("__debug__" : Str))=false:=by decide):wpAny (model X.prog X.w) X.A (eval (.Name x pos) X.env) Q E s:=by
 obtain ⟨mb,h1,h2⟩:=I.mod.blt
 exact US I.ok.kind hg (Calls.loadGlobal_builtin (by rw [I.ok.glob]; exact I.mod.glob.keeps I.bk) hm (by rw [I.ok.blt]; exact h1.keeps I.bk) ((h2 x hn).trans hv) h) hd
theorem qJW {x:Str} {v:V} {u:Value} {pos:Pos} (hg:Gl X x) (hm:X.mg x=some u) (r:RelV v u) (hd:(x == ("__debug__" : Str))=false:=by decide):PE X (.Name x pos) (tC v):=
 fun _ _ _ H _ I h=>qGX I hg hm ⟨v,H,I,r,h⟩ hd
theorem qKH {x:Str} {v:V} {u:Value} {pos:Pos} (hg:Gl X x) (hm:X.mg x=none) (hv:bootBuiltins x=some u) (r:RelV v u) (hn:x≠"__name__":=by decide) (hd:(x == ("__debug__" : Str))=false:=by decide):PE X (.Name x pos) (tC v):=
 fun _ _ _ H _ I h=>Jh I hg hm hv ⟨v,H,I,r,h⟩ hn hd
variable {a b:Expr} {ta tb:TE} {pos:Pos}
noncomputable def PC (X:Cx) (op:CmpOp) (a b:Expr) (t:TE):Prop:=
 ∀(pins:List (Addr×Obj)) (s:Shared) (σ:St) (H:Hp) (Q:VK),Inv X pins σ H s->t σ H Q->
  wpAny (model X.prog X.w) X.A (eval a X.env) (fun v s₁=>wpAny (model X.prog X.w) X.A (eval b X.env) (fun u s₂=>wpAny (model X.prog X.w) X.A (compareOp op v u) (EP X pins σ Q) X.xe s₂) X.xe s₁) X.xe s
noncomputable def tB (t:TE):TT:=fun σ H Q=>t σ H fun x H1=>∃ c,x=.bl c/\Q c H1
theorem qKg {op:CmpOp} {t:TE} (h:PC X op a b t) (h1:behindInMarks op b=false:=by first | exact nobehind _ (by decide) (by decide) | rfl):PT X (.Compare a [op] [b] pos) (tB t):=by
 intro pins s σ H Q I hw
 refine wpAny_isTrue_Compare1 (thn (h pins s σ H _ I hw) fun v s1 h1=>thn h1 fun u s2 h2=>thn h2 fun c s3 ⟨x,H1,I1,r1,q1⟩=>?_) h1
 obtain ⟨d,rfl,q⟩:=q1
 cases r1
 exact VD ⟨H1,I1,q⟩
variable {tA tB':TT} {rest:List Expr}
noncomputable def qMj (t u:TT):TT:=fun σ H Q=>t σ H fun c H1=>if c=true then u σ H1 Q else Q false H1
noncomputable def tOr (t u:TT):TT:=fun σ H Q=>t σ H fun c H1=>if c=true then Q true H1 else u σ H1 Q
noncomputable def qNJ (t:TT):TT:=fun σ H Q=>t σ H fun c H1=>Q (!c) H1
theorem qA6 (ha:PT X a tA):PW X (.BoolOp .And [a] pos) tA:=by
 intro wh pins s σ H Q I h
 refine isTrue_and (thn (ha pins s σ H Q I h) fun c s1 e=>?_)
 cases c with
 | true=>exact isTrue_and_nil e
 | false=>exact e
theorem qIV (ha:PT X a tA):PW X (.BoolOp .Or [a] pos) tA:=by
 intro wh pins s σ H Q I h
 refine isTrue_or (thn (ha pins s σ H Q I h) fun c s1 e=>?_)
 cases c with
 | false=>exact isTrue_or_nil e
 | true=>exact e
theorem qDN (ha:PT X a tA) (hb:PW X (.BoolOp .And (b::rest) pos) tB'):PW X (.BoolOp .And (a::b::rest) pos) (qMj tA tB'):=by
 intro wh pins s σ H Q I h
 refine isTrue_and (thn (ha pins s σ H _ I h) fun c s1 ⟨H1,I1,q1⟩=>?_)
 cases c with
 | true=>exact hb wh pins s1 σ H1 Q I1 q1
 | false=>exact ⟨H1,I1,q1⟩
theorem qJ0 (ha:PT X a tA) (hb:PW X (.BoolOp .Or (b::rest) pos) tB'):PW X (.BoolOp .Or (a::b::rest) pos) (tOr tA tB'):=by
 intro wh pins s σ H Q I h
 refine isTrue_or (thn (ha pins s σ H _ I h) fun c s1 ⟨H1,I1,q1⟩=>?_)
 cases c with
 | true=>exact ⟨H1,I1,q1⟩
 | false=>exact hb wh pins s1 σ H1 Q I1 q1
theorem qII (ha:PT X a tA):PT X (.UnaryOp .Not a pos) (qNJ tA):=by
 intro pins s σ H Q I h
 exact isTrue_not (ha pins s σ H (fun c H1=>Q (!c) H1) I h)
noncomputable def tIf (t:TT) (ta tb:TE):TE:=fun σ H Q=>t σ H fun c H1=>if c=true then ta σ H1 Q else tb σ H1 Q
theorem qDQ {c:Expr} (hc:PT X c tA) (ha:PE X a ta) (hb:PE X b tb):PE X (.IfExp c a b pos) (tIf tA ta tb):=by
 intro pins s σ H Q I h
 refine wpAny_IfExp (thn (hc pins s σ H _ I h) fun d s1 ⟨H1,I1,q1⟩=>?_)
 cases d with
 | true=>exact ha pins s1 σ H1 Q I1 q1
 | false=>exact hb pins s1 σ H1 Q I1 q1
end
noncomputable def SqL (K:wK) (H:Hp) (a:Addr) (xs:List V):Prop:=
 Rd H a (.lst xs)\/
  ∃(o:Obj) (its:Array Value) (n:Nat),K.lookup a=some o/\o.cls=.type "list"/\o.dict=none/\o.data=.seq its n/\its.size<=sizeLine/\ql xs its.toList
noncomputable def SqT (K:wK) (H:Hp) (a:Addr) (xs:List V):Prop:=
 Rd H a (.tup xs)\/
  ∃(o:Obj) (its:Array Value) (n:Nat),K.lookup a=some o/\o.cls=.type "tuple"/\o.data=.seq its n/\its.size<=sizeLine/\ql xs its.toList
noncomputable def qN4:Value->Option V
 | .none=>some .non
 | .bool b=>some (.bl b)
 | .int i _=>some (.int i)
 | .str x _=>some (.str x)
 | .bytes b _=>some (.byt b)
 | .float b _=>some (.flt b)
 | .ref a=>some (.ref a)
 | .type n=>some (.ty n)
 | _=>none
theorem RelV.abs {x:V} {u:Value} (r:RelV x u):qN4 u=some x:=by
 cases x with
 | non=>cases r; rfl
 | bl _=>cases r; rfl
 | int _=>obtain ⟨t,rfl⟩:=r; rfl
 | str _=>obtain ⟨t,rfl⟩:=r; rfl
 | byt _=>obtain ⟨t,rfl⟩:=r; rfl
 | flt _=>obtain ⟨t,rfl⟩:=r; rfl
 | ref _=>cases r; rfl
 | ty _=>cases r; rfl
theorem RelV.inj {x y:V} {u:Value} (r:RelV x u) (q:RelV y u):x=y:=zS (r.abs.symm.trans q.abs)
theorem ql.inj:∀{xs ys:List V} {us:List Value},ql xs us->ql ys us->xs=ys
 | _,_,_,.nil,.nil=>rfl
 | _,_,_,.cons r t,.cons r' t'=>by rw [r.inj r',ql.inj t t']
section
variable {X:Cx} {pins:List (Addr×Obj)} {σ:St} {H:Hp} {s:Shared} {a:Addr} {xs ys:List V}
theorem SqL.of {K:wK} (h:H a=some (.lst xs)):SqL K H a xs:=.inl (.inl h)
theorem SqT.of {K:wK} (h:H a=some (.tup xs)):SqT K H a xs:=.inl (.inl h)
theorem Inv.list (I:Inv X pins σ H s) (h:SqL X.K H a xs):∃ its:List Value,ql xs its/\PlainL s.heap a its.toArray/\xs.length<=sizeLine:=by
 rcases h with h | ⟨o,its,n,hk,hc,hd,hs,hz,r⟩
 ·obtain ⟨z,its,n,r,e⟩:=h.ok I.hok
  exact ⟨its,r,⟨_,n,e,rfl,rfl,rfl⟩,z⟩
 ·refine ⟨its.toList,r,⟨o,n,I.kIn a o hk,hc,hd,by simpa using hs⟩,?_⟩
  have e:=r.length
  simp only [wM] at e
  omega
theorem Inv.tuple (I:Inv X pins σ H s) (h:SqT X.K H a xs):∃ its:List Value,ql xs its/\IsTup s.heap a its.toArray/\xs.length<=sizeLine:=by
 rcases h with h | ⟨o,its,n,hk,hc,hs,hz,r⟩
 ·obtain ⟨z,its,r,p⟩:=h.ok I.hok
  exact ⟨its,r,p.1,z⟩
 ·refine ⟨its.toList,r,⟨o,I.kIn a o hk,hc,n,by simpa using hs⟩,?_⟩
  have e:=r.length
  simp only [wM] at e
  omega
theorem Inv.list_inj (I:Inv X pins σ H s) (h:SqL X.K H a xs) (h':SqL X.K H a ys):xs=ys:=by
 obtain ⟨its,r,⟨o,n,e,_,_,d⟩,_⟩:=I.list h
 obtain ⟨its',r',⟨o',n',e',_,_,d'⟩,_⟩:=I.list h'
 rw [e] at e'; cases e'
 rw [d] at d'
 injection d' with d1 _
 have:its=its':=by simpa using congrArg Array.toList d1
 subst this
 exact r.inj r'
theorem Inv.tuple_inj (I:Inv X pins σ H s) (h:SqT X.K H a xs) (h':SqT X.K H a ys):xs=ys:=by
 obtain ⟨its,r,⟨o,e,_,n,d⟩,_⟩:=I.tuple h
 obtain ⟨its',r',⟨o',e',_,n',d'⟩,_⟩:=I.tuple h'
 rw [e] at e'; cases e'
 rw [d] at d'
 injection d' with d1 _
 have:its=its':=by simpa using congrArg Array.toList d1
 subst this
 exact r.inj r'
end
noncomputable abbrev Cx.wish (X:Cx) (E:Value->Shared->Prop):Cx:={ X with xe:=E }
noncomputable abbrev Cx.nox (X:Cx):Cx:=X.wish fun _ _=>False
theorem Cx.Ok.wish {X:Cx} (ok:X.Ok) (E:Value->Shared->Prop):(X.wish E).Ok:=
 ⟨ok.mod,ok.kind,ok.glob,ok.blt,ok.above,ok.inj,ok.has,ok.cab,ok.hd,ok.frames,ok.stk,ok.exf,ok.bs,ok.bsz,ok.noex,ok.exfs,ok.funs,ok.frf⟩
theorem Cx.Ok.unwish {X:Cx} {E:Value->Shared->Prop} (ok:(X.wish E).Ok):X.Ok:=
 ⟨ok.mod,ok.kind,ok.glob,ok.blt,ok.above,ok.inj,ok.has,ok.cab,ok.hd,ok.frames,ok.stk,ok.exf,ok.bs,ok.bsz,ok.noex,ok.exfs,ok.funs,ok.frf⟩
section
variable {X:Cx} {pins:List (Addr×Obj)} {σ:St} {H:Hp} {s:Shared} {E:Value->Shared->Prop}
theorem Inv.wish (I:Inv X pins σ H s) (E:Value->Shared->Prop):Inv (X.wish E) pins σ H s:=⟨I.ok.wish E,I.os,I.bare,I.base,I.loc,I.cell,I.free,I.freeC,I.pin,I.hok,I.len⟩
theorem Inv.unwish (I:Inv (X.wish E) pins σ H s):Inv X pins σ H s:=⟨I.ok.unwish,I.os,I.bare,I.base,I.loc,I.cell,I.free,I.freeC,I.pin,I.hok,I.len⟩
theorem SP.unwish {D:Ends} {f:Flow} {s':Shared} (h:SP (X.wish E) pins D f s'):SP X pins D f s':=by
 cases f with
 | next=>obtain ⟨σ',H',I,q⟩:=h; exact ⟨σ',H',I.unwish,q⟩
 | brk=>obtain ⟨σ',H',I,q⟩:=h; exact ⟨σ',H',I.unwish,q⟩
 | cont=>obtain ⟨σ',H',I,q⟩:=h; exact ⟨σ',H',I.unwish,q⟩
 | ret u=>obtain ⟨v,σ',H',I,r,q⟩:=h; exact ⟨v,σ',H',I.unwish,r,q⟩
theorem PSs.nox {st:List Stmt} {t:TS} (h:PSs X.nox st t):PSs X st t:=fun pins s σ H D I hw=>
 xQ (h pins s σ H D (I.wish _) hw) (fun _ _ q=>q.unwish) fun _ _ z=>kL z
end
section
variable {X:Cx} {st:Stmt} {rest:List Stmt} {t u:TS} {e:Expr} {te:TE} {pos:Pos}
noncomputable def qLi:TS:=fun D σ H=>D.nx σ H
noncomputable def Qi (t u:TS):TS:=fun D σ H=>t { D with nx:=u D } σ H
theorem jA:PSs X [] qLi:=fun _ _ σ H _ I h=>ZW ⟨σ,H,I,h⟩
theorem qC (h1:PS X st t) (h2:PSs X rest u):PSs X (st::rest) (Qi t u):=by
 intro pins s σ H D I h
 refine wpAny_execs_cons (thn (h1 pins s σ H { D with nx:=u D } I h) fun f s1 q=>?_)
 cases f with
 | next=>
  obtain ⟨σ',H',I',q⟩:=q
  exact h2 pins s1 σ' H' D I' q
 | ret v=>exact q
 | brk=>exact q
 | cont=>exact q
theorem qF (h1:PS X st t):PSs X [st] t:=by
 intro pins s σ H D I h
 refine wpAny_execs_cons (thn (h1 pins s σ H D I h) fun f s1 q=>?_)
 cases f with
 | next=>exact ZW q
 | ret v=>exact q
 | brk=>exact q
 | cont=>exact q
theorem Inv.quiet {pins:List (Addr×Obj)} {σ:St} {H:Hp} {s:Shared} (I:Inv X pins σ H s):interactive X.env=false:=by simp [interactive,I.ok.kind]
noncomputable def qKy (te:TE):TS:=fun D σ H=>te σ H fun _ H1=>D.nx σ H1
theorem qB8 (he:PE X e te) (hs:swapsWith e none pos.line X.env=pure false:=by rfl):PS X (.Expr e pos) (qKy te):=by
 intro pins s σ H D I h
 exact wpAny_Expr_any (thn (he pins s σ H _ I h) fun v s1 ⟨x,H1,I1,r1,q1⟩=>⟨σ,H1,I1,q1⟩) I.quiet hs
noncomputable def qNQ (te:TE):TS:=fun D σ H=>te σ H D.rt
theorem qj (he:PE X e te):PS X (.Return (some e) pos) (qNQ te):=by
 intro pins s σ H D I h
 exact wpAny_Return_some (thn (he pins s σ H _ I h) fun v s1 ⟨x,H1,I1,r1,q1⟩=>⟨x,σ,H1,I1,r1,q1⟩)
noncomputable def qNV (c:TT) (t u:TS):TS:=fun D σ H=>c σ H fun b H1=>if b=true then t D σ H1 else u D σ H1
theorem Qr {c:Expr} {a b:List Stmt} {tc:TT} (hc:PT X c tc) (ha:PSs X a t) (hb:PSs X b u):PS X (.If c a b pos) (qNV tc t u):=by
 intro pins s σ H D I h
 refine wpAny_If (thn (hc pins s σ H _ I h) fun d s1 ⟨H1,I1,q1⟩=>?_)
 cases d with
 | true=>exact ha pins s1 σ H1 D I1 q1
 | false=>exact hb pins s1 σ H1 D I1 q1
noncomputable def qLe:TS:=fun _ _ _=>False
theorem qDT:PS X st qLe:=fun _ _ _ _ _ _ h=>h.elim
end
noncomputable abbrev TG:=V->St->Hp->(St->Hp->Prop)->Prop
noncomputable abbrev TGs:=List V->St->Hp->(St->Hp->Prop)->Prop
noncomputable def PG (X:Cx) (target:Expr) (t:TG):Prop:=
 ∀(pins:List (Addr×Obj)) (s:Shared) (σ:St) (H:Hp) (v:V) (u:Value) (Q:St->Hp->Prop),Inv X pins σ H s->RelV v u->t v σ H Q->
  wpAny (model X.prog X.w) X.A (assign target X.env u) (fun _ s'=>∃ σ' H',Inv X pins σ' H' s'/\Q σ' H') X.xe s
noncomputable def PGs (X:Cx) (ts:List Expr) (t:TGs):Prop:=
 ∀(pins:List (Addr×Obj)) (s:Shared) (σ:St) (H:Hp) (vs:List V) (us:List Value) (Q:St->Hp->Prop),Inv X pins σ H s->ql vs us->t vs σ H Q->
  wpAny (model X.prog X.w) X.A (assignInOrder ((assignEach ts X.env).map (·.2)) us) (fun _ s'=>∃ σ' H',Inv X pins σ' H' s'/\Q σ' H') X.xe s
noncomputable abbrev qMP:=V->V->V->Hp->(Hp->Prop)->Prop
noncomputable def qNH (X:Cx) (t:qMP):Prop:=
 ∀(pins:List (Addr×Obj)) (s:Shared) (σ:St) (H:Hp) (o i v:V) (ov iv u:Value) (Q:Hp->Prop),Inv X pins σ H s->RelV o ov->RelV i iv->RelV v u->t o i v H Q->
  wpAny (model X.prog X.w) X.A (setItem ov iv u) (fun _ s'=>∃ H',Inv X pins σ H' s'/\Q H') X.xe s
noncomputable abbrev TIp:=V->V->Hp->VK->Prop
noncomputable def PIp (X:Cx) (op:Operator) (t:TIp):Prop:=
 ∀(pins:List (Addr×Obj)) (s:Shared) (σ:St) (H:Hp) (x y:V) (v u:Value) (Q:VK),Inv X pins σ H s->RelV x v->RelV y u->t x y H Q->
  wpAny (model X.prog X.w) X.A (inplaceOp op v u) (EP X pins σ Q) X.xe s
section
variable {X:Cx} {pos:Pos}
noncomputable def qB2 (i:Nat):TG:=fun v σ H Q=>Q (σ.set i (some v)) H
theorem qE1 {i:Nat} {x:Str} (hN:X.N.Nodup) (hi:X.N[i]? = some x) (hx:Loc X.env.scope x) (hf:X.fn x=true\/X.env.scope.names.lookup x=some .local:=by first | exact .inl rfl | exact .inr rfl | assumption):PG X (.Name x pos) (qB2 i):=by
 intro pins s σ H v u Q I r h
 exact VF (qA0 I hN hi hx r (fun s' I'=>⟨_,H,I',h⟩) hf)
noncomputable def qNl:TGs:=fun vs σ H Q=>vs=[]/\Q σ H
noncomputable def qLZ (t:TG) (u:TGs):TGs:=fun vs σ H Q=>∃ v r,vs=v::r/\t v σ H fun σ' H'=>u r σ' H' Q
theorem jD:PGs X [] qNl:=by
 intro pins s σ H vs us Q I r h
 obtain ⟨e,h⟩:=h
 subst e
 cases r
 exact assignInOrder_nil ⟨σ,H,I,h⟩
theorem qO {e:Expr} {es:List Expr} {t:TG} {u:TGs} (h1:PG X e t) (h2:PGs X es u)
  (hs:(assignEach (e::es) X.env).map (·.2)=assign e X.env::(assignEach es X.env).map (·.2):=by rfl):PGs X (e::es) (qLZ t u):=by
 intro pins s σ H vs us Q I r h
 obtain ⟨v,vr,e1,h⟩:=h
 subst e1
 cases r with
 | cons r rr=>
  rw [hs]
  refine assignInOrder_cons (thn (h1 pins s σ H _ _ _ I r h) fun _ s1 ⟨σ1,H1,I1,q1⟩=>?_)
  exact h2 pins s1 σ1 H1 _ _ Q I1 rr q1
noncomputable def qMx (K:wK) (n:Nat) (t:TGs):TG:=fun v σ H Q=>∃ a xs,v=.ref a/\SqT K H a xs/\xs.length=n/\t xs σ H Q
theorem qK5 {es:List Expr} {k:Nat} {t:TGs} {n:Nat} (hc:X.calm=true) (h:PGs X es t)
  (hn:(assignEach es X.env).length=n:=by rfl) (hst:(assignEach es X.env).findIdx? (·.1)=none:=by rfl):PG X (.Tuple es k pos) (qMx X.K n t):=by
 intro pins s σ H v u Q I r hw
 obtain ⟨a,xs,e1,hq,hl,hw⟩:=hw
 subst e1
 cases r
 obtain ⟨its,rv,ht,hz⟩:=I.tuple hq
 refine assign_Tuple_tuple (I.ok.hd hc) ht (by simp [hn,<- hl,rv.length]) hst fun h' hx=>?_
 have I1:Inv X pins σ H { s with heap:=h' }:=I.kept (t':=s.toks) fun b o e=>hx b o (vE (zQ e)) e
 exact h pins _ σ H xs _ Q I1 (by simpa using rv) hw
noncomputable def qNc (to ti:TE) (t:qMP):TG:=fun v σ H Q=>to σ H fun o H1=>ti σ H1 fun i H2=>t o i v H2 fun H3=>Q σ H3
theorem qIc {o i:Expr} {to ti:TE} {t:qMP} (ho:PE X o to) (hi:PE X i ti) (hs:qNH X t)
  (ha:∀ v,assign (.Subscript o i pos) X.env v=(do
   let ov <- holding [v] (eval o X.env)
   let iv <- holding [v,ov] (eval i X.env)
   standAt pos
   holding [v,ov,iv] (setItem ov iv v)
   release [v,ov,iv] []):=by intro _; rfl):PG X (.Subscript o i pos) (qNc to ti t):=by
 intro pins s σ H v u Q I r h
 rw [ha]
 refine wB (vP (thn (ho pins s σ H _ I h) fun ov s1 ⟨x,H1,I1,r1,q1⟩=>?_))
 refine wB (vP (thn (hi pins s1 σ H1 _ I1 q1) fun iv s2 ⟨y,H2,I2,r2,q2⟩=>?_))
 refine wB (xV (wB (vP (thn (hs pins s2 σ H2 x y v ov iv u _ I2 r1 r2 r q2) fun _ s3 ⟨H3,I3,q3⟩=>?_))))
 exact wpAny_release ⟨σ,H3,I3,q3⟩
noncomputable def qKJ (te:TE) (g:TG):TS:=fun D σ H=>te σ H fun x H1=>g x σ H1 D.nx
theorem YF {tg e:Expr} {te:TE} {g:TG} (he:PE X e te) (hg:PG X tg g) (hs:swapsWithSole [tg] e pos.line X.env=pure false:=by rfl) (hw:swappedStores [tg] e X.env=pure none:=by rfl)
  (h1:(assignEach [tg] X.env).map (·.2)=[assign tg X.env]:=by rfl):PS X (.Assign [tg] e pos) (qKJ te g):=by
 intro pins s σ H D I h
 refine wpAny_Assign_stores (thn (he pins s σ H _ I h) fun v s1 ⟨x,H1,I1,r1,q1⟩=>?_) hs hw
 rw [h1]
 exact thn (hg pins s1 σ H1 x v _ I1 r1 q1) fun _ s2 q=>q
theorem qLL {i:Nat} {x:Str} {e:Expr} {te:TE} {pos':Pos} (hN:X.N.Nodup) (hi:X.N[i]? = some x) (hx:Loc X.env.scope x) (he:PE X e te) (hs:swapsWith e (some (.Name x pos')) pos.line X.env=pure false:=by rfl) (hf:X.fn x=true\/X.env.scope.names.lookup x=some .local:=by first | exact .inl rfl | exact .inr rfl | assumption) :
  PS X (.Assign [.Name x pos'] e pos) (qKJ te (qB2 i)):=by
 intro pins s σ H D I h
 refine wpAny_Assign_Name (thn (he pins s σ H _ I h) fun v s1 ⟨y,H1,I1,r1,q1⟩=>?_) hs
 exact qA0 I1 hN hi hx r1 (fun s2 I2=>⟨_,H1,I2,q1⟩) hf
noncomputable def qNg (i:Nat) (te:TE) (ti:TIp):TS:=fun D σ H=>∃ x,σ[i]? = some (some x)/\te σ H fun y H1=>ti x y H1 fun z H2=>D.nx (σ.set i (some z)) H2
theorem qKt {i:Nat} {x:Str} {e:Expr} {te:TE} {op:Operator} {ti:TIp} {pos':Pos} (hN:X.N.Nodup) (hi:X.N[i]? = some x) (hx:Loc X.env.scope x) (he:PE X e te) (ho:PIp X op ti) (hf:X.fn x=true\/X.env.scope.names.lookup x=some .local:=by first | exact .inl rfl | exact .inr rfl | assumption) :
  PS X (.AugAssign (.Name x pos') op e pos) (qNg i te ti):=by
 intro pins s σ H D I h
 obtain ⟨v,e1,h⟩:=h
 obtain ⟨m,hn,hl⟩:=I.loc
 have vis:Vis X.env.scope x:=by rcases hx with k | k; exact .inl k; exact .inr (.inl k)
 obtain ⟨u,r,l⟩:=hl i x v hi e1 vis
 refine wpAny_AugAssign_Name ?_
 have go:wpAny (model X.prog X.w) X.A (eval e X.env) (fun w s₂=>wpAny (model X.prog X.w) X.A (inplaceOp op u w) (fun r s₃=>wpAny (model X.prog X.w) X.A (storeName X.env x r) (fun _=>SP X pins D .next) X.xe s₃) X.xe s₂) X.xe s:=by
  refine thn (he pins s σ H _ I h) fun w s1 ⟨y,H1,I1,r1,q1⟩=>?_
  refine thn (ho pins s1 σ H1 v y u w _ I1 r r1 q1) fun z s2 ⟨zv,H2,I2,r2,q2⟩=>?_
  exact qA0 I2 hN hi hx r2 (fun s3 I3=>⟨_,H2,I3,q2⟩) hf
 rcases l with ⟨hk,hm⟩ | ⟨hk,c,hc,hcell⟩
 ·exact wpAny_loadName_local I.ok.kind hk hn hm go
 ·rcases hk with hk | hk
  ·exact wpAny_loadName_cell I.ok.kind hk hc hcell go
  ·rcases hx with k | k
   ·have:X.env.scope.names.lookup x=some .free:=hk
    rw [k] at this; cases this
   ·have:X.env.scope.names.lookup x=some .free:=hk
    rw [k] at this; cases this
end
section
variable {X:Cx} {pos:Pos}
noncomputable def qIL (c:TT) (tb:TS):TS:=fun D σ H=>∃ W:Nat->St->Hp->Prop,(∃ m,W m σ H)/\∀ m σ H,W m σ H->
 c σ H fun b H1=>if b=true then ∃ N:St->Hp->Prop,(∀ σ' H',N σ' H'->∃ m',m'<m/\W m' σ' H')/\tb { D with nx:=N,ct:=N,bk:=D.nx } σ H1 else D.nx σ H1
theorem qAi {c:Expr} {body:List Stmt} {tc:TT} {tb:TS} (hp:PassesOwn (model X.prog X.w) X.A X.env X.xe) (hc:PT X c tc) (hb:PSs X body tb):PS X (.While c body [] pos) (qIL tc tb):=by
 intro pins s σ H D I h
 obtain ⟨W,⟨m0,w0⟩,turn⟩:=h
 refine wpAny_While (codeAny_whileLoop (fun n s'=>∃ σ' H',Inv X pins σ' H' s'/\W n σ' H') ?_ m0 ⟨σ,H,I,w0⟩)
 rintro n s1 ⟨σ1,H1,I1,w1⟩
 refine kF hp (thn (hc pins s1 σ1 H1 _ I1 (turn n σ1 H1 w1)) fun b s2 ⟨H2,I2,q2⟩=>?_)
 cases b with
 | true=>
  obtain ⟨N,hN,q2⟩:=q2
  rw [if_pos rfl]
  refine kF hp (thn (hb pins s2 σ1 H2 _ I2 q2) fun f s3 q3=>?_)
  cases f with
  | next=>
   obtain ⟨σ3,H3,I3,n3⟩:=q3
   obtain ⟨m',hm,w3⟩:=hN σ3 H3 n3
   exact ⟨m',hm,σ3,H3,I3,w3⟩
  | cont=>
   obtain ⟨σ3,H3,I3,n3⟩:=q3
   obtain ⟨m',hm,w3⟩:=hN σ3 H3 n3
   exact ⟨m',hm,σ3,H3,I3,w3⟩
  | brk=>exact q3
  | ret v=>exact q3
 | false=>
  rw [if_neg wU]
  exact ZW ⟨σ1,H2,I2,q2⟩
end
structure It where
 go:Nat->Hp->Prop
 yld:Nat->Hp->V->Hp->Prop
 stop:Nat->Hp->Prop
noncomputable def Yz (X:Cx) (pins:List (Addr×Obj)) (H:Hp) (b:Addr):Prop:=
 H b=none/\b≠X.env.locals/\b∉X.fs/\(b∈X.ex\/X.s₀.heap.objs.size<=b)/\(∀ x c,X.env.cells.lookup x=some c->c≠b)/\∀ p∈X.pn++pins,p.1≠b
theorem Inv.fpOk {X:Cx} {pins:List (Addr×Obj)} {σ:St} {H H':Hp} {s:Shared} {b:Addr} (I:Inv X pins σ H s) (hb:s.heap.objs.size<=b) (hn:H' b=none):Yz X pins H' b:=by
 refine ⟨hn,gY (zZ I.lt hb),I.nofs hb,.inr (zM I.sz hb),fun x c e z=>?_,fun p hp z=>?_⟩
 ·obtain ⟨v,q⟩:=I.cell x c e
  exact absurd (zZ q.lt (by rw [z]; exact hb)) (vO _)
 ·exact absurd (zZ (zQ (I.pin p hp).1) (by rw [z]; exact hb)) (vO _)
structure Turn (P:Program) (w:World) (K:wK) (tg:Expr) (J:It) (fp:List Addr) (it:Addr) (tn:Nat->Heap->Prop):Prop where
 mem:it∈fp
 obj:∀ i h,tn i h->∀ b∈fp,∃ o,h.get? b=some o/\∀ v,o.data≠.cell v
 keep:∀ i h h',tn i h->(∀ b∈fp,∀ o,h.get? b=some o->h'.get? b=some o)->tn i h'
 item:∀(X:Cx),X.prog=P->X.w=w->X.K=K->X.calm=true->∀(i:Nat) (pins:List (Addr×Obj)) (s:Shared) (σ:St) (H:Hp) (E:Value->Shared->Prop),Inv X pins σ H s->(∀ b∈fp,Yz X pins H b)->tn i s.heap->J.go i H->
  wpAny (model P w) X.A (pyNext (.ref it)) (fun r s1=>∃ u,r=some u/\
   wpAny (model P w) X.A (letOwnedTupleGo tg (.ref it) u) (fun _ s2=>∃ x H',Inv X pins σ H' s2/\RelV x u/\J.yld i H x H'/\tn (i+1) s2.heap/\∀ b∈fp,H' b=none) E s1) E s
 done:∀(X:Cx),X.prog=P->X.w=w->X.K=K->X.calm=true->∀(i:Nat) (pins:List (Addr×Obj)) (s:Shared) (σ:St) (H:Hp) (E:Value->Shared->Prop),Inv X pins σ H s->(∀ b∈fp,Yz X pins H b)->tn i s.heap->J.stop i H->
  wpAny (model P w) X.A (pyNext (.ref it)) (fun r s1=>r=none/\Inv X pins σ H s1) E s
 self:∀(A:Around) (i:Nat) (s:Shared) (Q:Value->Shared->Prop) (E:Value->Shared->Prop),tn i s.heap->Q (.ref it) s->wpAny (model P w) A (pyIter (.ref it)) Q E s
noncomputable abbrev TI:=St->Hp->(It->Hp->Prop)->Prop
noncomputable def PIE (X:Cx) (pins:List (Addr×Obj)) (σ:St) (tg:Expr) (R:It->Hp->Prop) (itv:Value) (s2:Shared):Prop:=
 ∃(it:Addr) (fp:List Addr) (tn:Nat->Heap->Prop) (J:It) (H':Hp),itv=.ref it/\Inv X pins σ H' s2/\Turn X.prog X.w X.K tg J fp it tn/\tn 0 s2.heap/\(∀ b∈fp,Yz X pins H' b)/\R J H'
noncomputable def PI (X:Cx) (tg iter:Expr) (wi:TI):Prop:=
 ∀(pins:List (Addr×Obj)) (s:Shared) (σ:St) (H:Hp) (R:It->Hp->Prop),Inv X pins σ H s->wi σ H R->
  wpAny (model X.prog X.w) X.A (eval iter X.env) (fun v s1=>wpAny (model X.prog X.w) X.A (pyIter v) (PIE X pins σ tg R) X.xe s1) X.xe s
theorem qHE {M:Model} {A:Around} {E:Value->Shared->Prop} {s:Shared} {tg:Expr} {it:Addr} {u:Value} {o:Obj} {n:String} {vs:Array Value} {Q:Unit->Shared->Prop} (ho:s.heap.get? it=some o) (hc:o.cls=.type n) (hd:o.data=.fields vs)
  (hn : ["enumerate","zip","dict_itemiterator","dict_reverseitemiterator","odict_iterator","itertools.zip_longest","itertools.pairwise"].contains n=false) (hQ:Q () s):wpAny M A (letOwnedTupleGo tg (.ref it) u) Q E s:=by
 unfold letOwnedTupleGo
 cases tg <;> first
  | exact wI hQ
  | (cases u <;> first
    | exact wI hQ
    | (refine wB (wpAny_load ho ?_)
       rw [hc,hd]
       show wpAny M A (if (["enumerate","zip","dict_itemiterator","dict_reverseitemiterator","odict_iterator","itertools.zip_longest","itertools.pairwise"].contains n && vs[0]? == some (rawInt _))=true then _ else _) Q E s
       rw [if_neg (by intro h; rw [hn,Bool.false_and] at h; cases h)]
       exact wI hQ))
noncomputable def Itl (K:wK) (a:Addr):It:=
 ⟨fun i H=>∃ xs x,SqL K H a xs/\xs[i]? = some x,fun i H x H'=>H'=H/\∀ xs,SqL K H a xs->xs[i]? = some x,fun i H=>∃ xs,SqL K H a xs/\xs.length<=i⟩
noncomputable def Itt (K:wK) (a:Addr):It:=
 ⟨fun i H=>∃ xs x,SqT K H a xs/\xs[i]? = some x,fun i H x H'=>H'=H/\∀ xs,SqT K H a xs->xs[i]? = some x,fun i H=>∃ xs,SqT K H a xs/\xs.length<=i⟩
noncomputable def Itr (lo:Int) (n:Nat):It:=⟨fun i _=>i<n,fun i H x H'=>H'=H/\x=.int (lo+i),fun i _=>n<=i⟩
theorem qE0 {P:Program} {w:World} {K:wK} {tg:Expr} (a it:Addr):Turn P w K tg (Itl K a) [it] it (fun i h=>h.IsListIter it a i) where
 mem:=by simp
 obj:=fun i h st b hb=>by
  have e:b=it:=by simpa using hb
  subst e
  obtain ⟨o,e,c,d⟩:=st
  exact ⟨o,e,fun v z=>by rw [d] at z; cases z⟩
 keep:=fun i h h' st k=>st.at fun o e=>k it (by simp) o e
 item:=by
  intro X hP hw hK hc i pins s σ H E I hf st hg
  subst hP hw hK
  obtain ⟨xs,x,hq,hx⟩:=hg
  obtain ⟨its,rv,p,hz⟩:=I.list hq
  obtain ⟨u,hu,ru⟩:=rv.get hx
  obtain ⟨f0,f1,f2,f3,f4,f5⟩:=hf it (by simp)
  refine wpAny_pyNext_list_item st p.isList (x:=u) (by simpa using hu) fun h' st' sb=>?_
  have I1:Inv X pins σ H { s with heap:=h' }:=I.turned (t':=s.toks) (fun b o hb e=>(sb.2 b hb).trans e) f0 f1 f3 f4 f5
  obtain ⟨o,e,c,d⟩:=id st'
  exact ⟨u,rfl,qHE (s:={ s with heap:=h' }) e c d (by decide) ⟨x,H,I1,ru,⟨rfl,fun ys hy=>by rw [I.list_inj hy hq]; exact hx⟩,st',fun b hb=>(hf b hb).1⟩⟩
 done:=by
  intro X hP hw hK hc i pins s σ H E I hf st hg
  subst hP hw hK
  obtain ⟨xs,hq,hx⟩:=hg
  obtain ⟨its,rv,p,hz⟩:=I.list hq
  obtain ⟨f0,f1,f2,f3,f4,f5⟩:=hf it (by simp)
  have hl:=rv.length
  exact wpAny_pyNext_list_end (I.ok.hd hc) st p.isList (by simp; omega) fun h' eb=>⟨rfl,I.turned (t':=s.toks) (fun b o hb e=>eb b o hb e) f0 f1 f3 f4 f5⟩
 self:=fun _ _ _ _ _ st h=>wpAny_pyIter_listiter st h
theorem qEB {P:Program} {w:World} {K:wK} {tg:Expr} (a it:Addr):Turn P w K tg (Itt K a) [it] it (fun i h=>h.IsTupleIter it a i) where
 mem:=by simp
 obj:=fun i h st b hb=>by
  have e:b=it:=by simpa using hb
  subst e
  obtain ⟨o,e,c,d⟩:=st
  exact ⟨o,e,fun v z=>by rw [d] at z; cases z⟩
 keep:=fun i h h' st k=>st.at fun o e=>k it (by simp) o e
 item:=by
  intro X hP hw hK hc i pins s σ H E I hf st hg
  subst hP hw hK
  obtain ⟨xs,x,hq,hx⟩:=hg
  obtain ⟨its,rv,p,hz⟩:=I.tuple hq
  obtain ⟨u,hu,ru⟩:=rv.get hx
  obtain ⟨f0,f1,f2,f3,f4,f5⟩:=hf it (by simp)
  refine wpAny_pyNext_tuple_item st (show s.heap.IsTuple a its.toArray from p) (x:=u) (by simpa using hu) fun h' st' sb=>?_
  have I1:Inv X pins σ H { s with heap:=h' }:=I.turned (t':=s.toks) (fun b o hb e=>(sb.2 b hb).trans e) f0 f1 f3 f4 f5
  obtain ⟨o,e,c,d⟩:=id st'
  exact ⟨u,rfl,qHE (s:={ s with heap:=h' }) e c d (by decide) ⟨x,H,I1,ru,⟨rfl,fun ys hy=>by rw [I.tuple_inj hy hq]; exact hx⟩,st',fun b hb=>(hf b hb).1⟩⟩
 done:=by
  intro X hP hw hK hc i pins s σ H E I hf st hg
  subst hP hw hK
  obtain ⟨xs,hq,hx⟩:=hg
  obtain ⟨its,rv,p,hz⟩:=I.tuple hq
  obtain ⟨f0,f1,f2,f3,f4,f5⟩:=hf it (by simp)
  have hl:=rv.length
  exact wpAny_pyNext_tuple_end (I.ok.hd hc) st (show s.heap.IsTuple a its.toArray from p) (by simp; omega) fun h' eb=>⟨rfl,I.turned (t':=s.toks) (fun b o hb e=>eb b o hb e) f0 f1 f3 f4 f5⟩
 self:=fun _ _ _ _ _ st h=>wpAny_pyIter_tupleiter st h
theorem qEA {P:Program} {w:World} {K:wK} {tg:Expr} (it:Addr) (lo:Int) (n:Nat):Turn P w K tg (Itr lo n) [it] it (fun i h=>IsRangeIter h it (lo+(i:Nat)*1) ((n:Int) - (i:Nat)) 1) where
 mem:=by simp
 obj:=fun i h st b hb=>by
  have e:b=it:=by simpa using hb
  subst e
  exact ⟨_,st,fun v z=>by
   have z':Data.fields _=SJ v:=z
   cases z'⟩
 keep:=fun i h h' st k=>k it (by simp) _ st
 item:=by
  intro X hP hw hK hc i pins s σ H E I hf st hg
  subst hP hw hK
  obtain ⟨f0,f1,f2,f3,f4,f5⟩:=hf it (by simp)
  have W:=Walks.range (prog:=X.prog) (w:=X.w) (I.ok.hd hc) it lo 1 n
  refine W.item i s _ _ hg st fun v h' tk hv st' kk=>?_
  obtain ⟨t,rfl⟩:=hv
  have I1:Inv X pins σ H { s with heap:=h',toks:=tk }:=I.turned (fun b o hb e=>kk b o (by simpa using hb) e) f0 f1 f3 f4 f5
  refine ⟨_,rfl,qHE (s:={ s with heap:=h',toks:=tk }) (n:="range_iterator") st' rfl rfl (by decide) ⟨.int (lo+i),H,I1,⟨t,?_⟩,⟨rfl,rfl⟩,st',fun b hb=>(hf b hb).1⟩⟩
  rw [WB]
 done:=by
  intro X hP hw hK hc i pins s σ H E I hf st hg
  subst hP hw hK
  obtain ⟨f0,f1,f2,f3,f4,f5⟩:=hf it (by simp)
  exact wpAny_pyNext_range_end (I.ok.hd hc) st (by have:n<=i:=hg; omega) fun h' eb=>⟨rfl,I.turned (t':=s.toks) (fun b o hb e=>eb b o hb e) f0 f1 f3 f4 f5⟩
 self:=fun _ _ _ _ _ st h=>wpAny_pyIter_rangeiter st h
section
variable {X:Cx} {tg:Expr}
theorem qDw {pins:List (Addr×Obj)} {σ:St} {H:Hp} {s:Shared} {R:It->Hp->Prop} {E:Value->Shared->Prop} {lo hi:Int} {t u v:Tok} {tk:Nat} (I:Inv X pins σ H s) (h1 : -(2 ^ 62)<=lo) (h2:lo<2 ^ 62) (h3 : -(2 ^ 62)<=hi) (h4:hi<2 ^ 62)
  (q:R (Itr lo (hi - lo).toNat) H):wpAny (model X.prog X.w) X.A (pyIter (.ref s.heap.objs.size)) (PIE X pins σ tg R) E { s with heap:=s.heap.push { cls:=.type "range",data:=.fields #[.int lo t,.int hi u,.int 1 v] },toks:=tk }:=by
 refine wpAny_pyIter_range (IsRange.new ..) (small_one h1 h2 h3 h4) ?_
 have I1:Inv X pins σ H { s with heap:=s.heap.push { cls:=.type "range",data:=.fields #[.int lo t,.int hi u,.int 1 v] },toks:=tk }:=I.kept fun b o e=>wG _ e
 refine ⟨(s.heap.push { cls:=.type "range",data:=.fields #[.int lo t,.int hi u,.int 1 v] }).objs.size,[(s.heap.push { cls:=.type "range",data:=.fields #[.int lo t,.int hi u,.int 1 v] }).objs.size],_,_,H,rfl,
  I1.kept (t':=tk) fun b o e=>wG _ e,qEA _ lo (hi - lo).toNat,?_,fun b hb=>?_,q⟩
 ·have e1:lo+((0:Nat):Int)*1=lo:=by simp
  have e2:(((hi - lo).toNat:Nat):Int) - ((0:Nat):Int)=gF lo hi 1:=by rw [rangeSize_one]; split <;> omega
  show IsRangeIter _ _ (lo+((0:Nat):Int)*1) ((((hi - lo).toNat:Nat):Int) - ((0:Nat):Int)) 1
  rw [e1,e2]
  exact zL _ rfl
 ·have e:b=(s.heap.push { cls:=.type "range",data:=.fields #[.int lo t,.int hi u,.int 1 v] }).objs.size:=by simpa using hb
  subst e
  exact I1.fpOk (wH _) (I1.hok.fresh (wH _))
noncomputable def qKc (ta:TA):TI:=fun σ H R=>ta σ H fun vs H1=>∃ j:Int,vs=[.int j]/\-(2 ^ 62)<=j/\j<2 ^ 62/\R (Itr 0 j.toNat) H1
noncomputable def qLK (ta:TA):TI:=fun σ H R=>ta σ H fun vs H1=>∃ i j:Int,vs=[.int i,.int j]/\(-(2 ^ 62)<=i/\i<2 ^ 62/\-(2 ^ 62)<=j/\j<2 ^ 62)/\R (Itr i (j - i).toNat) H1
theorem jI {a:Expr} {ta:TA} {p pos:Pos} (hg:Gl X "range") (hm:X.mg "range" = none) (ha:PA X [a] ta) (hs:starEach [a] X.env=[(false,eval a X.env)]:=by rfl):PI X tg (.Call (.Name "range" p) [a] [] pos) (qKc ta):=by
 intro pins s σ H R I h
 refine Call_ (Jh I hg hm boot_range (uG (thn (ha pos pins s σ H _ I h) fun us s1 ⟨vs,H1,I1,r1,q1⟩=>?_) hs rfl))
 obtain ⟨j,e,q1,q2,q⟩:=q1
 subst e
 cases r1 with
 | cons r rr=>
  cases rr
  obtain ⟨t,rfl⟩:=r
  exact call_range_1 (qDw I1 (by omega) (by omega) q1 q2 (by simpa using q))
theorem qEh {a b:Expr} {ta:TA} {p pos:Pos} (hg:Gl X "range") (hm:X.mg "range" = none) (ha:PA X [a,b] ta) (hs:starEach [a,b] X.env=[(false,eval a X.env),(false,eval b X.env)]:=by rfl) (hs2:starEach [b] X.env=[(false,eval b X.env)]:=by rfl) :
  PI X tg (.Call (.Name "range" p) [a,b] [] pos) (qLK ta):=by
 intro pins s σ H R I h
 refine Call_ (Jh I hg hm boot_range (uG (thn (ha pos pins s σ H _ I h) fun us s1 ⟨vs,H1,I1,r1,q1⟩=>?_) (by rw [hs,hs2]) (by rw [hs2]; rfl)))
 obtain ⟨i,j,e,⟨q1,q2,q3,q4⟩,q⟩:=q1
 subst e
 cases r1 with
 | cons r rr=>
  cases rr with
  | cons r' rr=>
   cases rr
   obtain ⟨t,rfl⟩:=r
   obtain ⟨t',rfl⟩:=r'
   exact call_range_2 (qDw I1 q1 q2 q3 q4 q)
noncomputable def qL5 (wi:TI) (g:TG) (tb:TS):TS:=fun D σ H=>wi σ H fun J H1=>∃ W:Nat->Nat->St->Hp->Prop,(∃ m,W 0 m σ H1)/\∀ i m σ H,W i m σ H->
 (J.stop i H/\D.nx σ H)\/(J.go i H/\∃ N:St->Hp->Prop,(∀ σ' H',N σ' H'->∃ m',m'<m/\W (i+1) m' σ' H')/\∀ x H',J.yld i H x H'->g x σ H' fun σ2 H2=>tb { D with nx:=N,ct:=N,bk:=D.nx } σ2 H2)
noncomputable def QD (fp:List Addr) (h:Heap):List (Addr×Obj):=fp.filterMap fun b=>(h.get? b).map fun o=>(b,o)
theorem qq {fp:List Addr} {h:Heap} {b:Addr} {o:Obj} (hb:b∈fp) (e:h.get? b=some o):(b,o)∈QD fp h:=WQ.mpr ⟨b,hb,by rw [e]; rfl⟩
theorem qBm {fp:List Addr} {h:Heap} {p:Addr×Obj} (hp:p∈QD fp h):p.1∈fp/\h.get? p.1=some p.2:=by
 obtain ⟨b,hb,e⟩:=WQ.mp hp
 cases q:h.get? b with
 | none=>rw [q] at e; cases e
 | some o=>
  rw [q] at e
  have e':(b,o)=p:=zS e
  subst e'
  exact ⟨hb,q⟩
theorem Inv.pinned {pins:List (Addr×Obj)} {σ:St} {H:Hp} {s:Shared} {fp:List Addr} (I:Inv X pins σ H s) (hf:∀ b∈fp,Yz X pins H b) (ho:∀ b∈fp,∃ o,s.heap.get? b=some o/\∀ v,o.data≠.cell v):Inv X (pins++QD fp s.heap) σ H s:=
 I.pins_of fun p hp=>(zR.mp hp).elim (fun z=>I.pin p (zH _ z)) fun z=>by
  obtain ⟨hb,e⟩:=qBm z
  obtain ⟨f0,f1,f2,_⟩:=hf p.1 hb
  obtain ⟨o,e',d⟩:=ho p.1 hb
  rw [e] at e'; cases e'
  exact ⟨e,f0,f1,f2,d⟩
theorem Inv.unpinned {pins pl:List (Addr×Obj)} {σ:St} {H:Hp} {s:Shared} (I:Inv X (pins++pl) σ H s):Inv X pins σ H s:=I.pins_of fun p hp=>I.pin p (zH _ (vL _ hp))
theorem Ye {iter:Expr} {body:List Stmt} {wi:TI} {g:TG} {tb:TS} {pos:Pos} (hp:PassesOwn (model X.prog X.w) X.A X.env X.xe) (hc:X.calm=true) (hi:PI X tg iter wi) (hg:PG X tg g) (hb:PSs X body tb)
  (hs:∀ x,foldedSetIterable iter X.env x=pure x:=by intro _; rfl):PS X (.For tg iter body [] pos) (qL5 wi g tb):=by
 intro pins s σ H D I h
 refine wpAny_For (thn (hi pins s σ H _ I h) fun v s1 h1=>thn h1 fun itv s2 h2=>?_) hs
 obtain ⟨it,fp,tn,J,H2,e,I2,T,st2,f2,W,⟨m0,w0⟩,turn⟩:=h2
 subst e
 have stat:∀{H':Hp},(∀ b∈fp,H' b=none)->∀ b∈fp,Yz X pins H' b:=fun hn b hb=>⟨hn b hb,(f2 b hb).2⟩
 refine codeAny_forLoop_any (fun n s'=>∃ i σ' H',Inv X pins σ' H' s'/\tn i s'.heap/\(∀ b∈fp,H' b=none)/\W i n σ' H') ?_ m0 ⟨0,σ,H2,I2,st2,fun b hb=>(f2 b hb).1,w0⟩
 rintro n s3 ⟨i,σ3,H3,I3,st3,fr3,w3⟩
 rcases turn i n σ3 H3 w3 with ⟨stop,qn⟩ | ⟨go,N,hN,step⟩
 ·refine kF hp (thn (T.done X rfl rfl rfl hc i pins s3 σ3 H3 X.xe I3 (stat fr3) st3 stop) fun r s4 ⟨hr,I4⟩=>?_)
  subst hr
  exact ZW ⟨σ3,H3,I4,qn⟩
 ·refine kF hp (thn (T.item X rfl rfl rfl hc i pins s3 σ3 H3 X.xe I3 (stat fr3) st3 go) fun r s4 ⟨u,hr,h4⟩=>?_)
  subst hr
  refine kF hp (thn h4 fun _ s5 ⟨x,H5,I5,r5,y5,st5,fr5⟩=>?_)
  have I5':=I5.pinned (stat fr5) (T.obj _ _ st5)
  refine kF hp (thn (hg _ s5 σ3 H5 x u _ I5' r5 (step x H5 y5)) fun _ s6 ⟨σ6,H6,I6,q6⟩=>?_)
  refine kF hp (thn (hb _ s6 σ6 H6 _ I6 q6) fun f s7 q7=>?_)
  have again:∀{σ7:St} {H7:Hp},Inv X (pins++QD fp s5.heap) σ7 H7 s7->N σ7 H7->∃ m,m<n/\∃ i σ' H',Inv X pins σ' H' s7/\tn i s7.heap/\(∀ b∈fp,H' b=none)/\W i m σ' H':=fun {σ7 H7} I7 n7=>by
   obtain ⟨m',hm,w7⟩:=hN σ7 H7 n7
   refine ⟨m',hm,i+1,σ7,H7,I7.unpinned,T.keep _ _ _ st5 fun b hb o e=>(I7.pin (b,o) (zH _ (zH _ (qq hb e)))).1,fun b hb=>?_,w7⟩
   obtain ⟨o,e,d⟩:=T.obj _ _ st5 b hb
   exact (I7.pin (b,o) (zH _ (zH _ (qq hb e)))).2.1
  cases f with
  | next=>obtain ⟨σ7,H7,I7,n7⟩:=q7; exact again I7 n7
  | cont=>obtain ⟨σ7,H7,I7,n7⟩:=q7; exact again I7 n7
  | brk=>obtain ⟨σ7,H7,I7,q7⟩:=q7; exact ⟨σ7,H7,I7.unpinned,q7⟩
  | ret v=>obtain ⟨x7,σ7,H7,I7,r7,q7⟩:=q7; exact ⟨x7,σ7,H7,I7.unpinned,r7,q7⟩
end
noncomputable abbrev R2:=V->V->Hp->VK->Prop
noncomputable def OpR (X:Cx) (f:Value->Value->Sem Value) (r:R2):Prop:=
 ∀(pins:List (Addr×Obj)) (s:Shared) (σ:St) (H:Hp) (x y:V) (v u:Value) (Q:VK),Inv X pins σ H s->RelV x v->RelV y u->r x y H Q->
  wpAny (model X.prog X.w) X.A (f v u) (EP X pins σ Q) X.xe s
noncomputable def UnR (X:Cx) (f:Value->Sem Value) (r:V->Hp->VK->Prop):Prop:=
 ∀(pins:List (Addr×Obj)) (s:Shared) (σ:St) (H:Hp) (x:V) (v:Value) (Q:VK),Inv X pins σ H s->RelV x v->r x H Q->
  wpAny (model X.prog X.w) X.A (f v) (EP X pins σ Q) X.xe s
noncomputable def Qw (X:Cx) (f:Value) (r:List V->Hp->VK->Prop):Prop:=
 ∀(pins:List (Addr×Obj)) (s:Shared) (σ:St) (H:Hp) (xs:List V) (us:List Value) (Q:VK),Inv X pins σ H s->ql xs us->r xs H Q->
  wpAny (model X.prog X.w) X.A (call f us) (EP X pins σ Q) X.xe s
noncomputable def qN3 (X:Cx) (r:V->Hp->(Bool->Hp->Prop)->Prop):Prop:=
 ∀(pins:List (Addr×Obj)) (s:Shared) (σ:St) (H:Hp) (x:V) (v:Value) (Q:Bool->Hp->Prop),Inv X pins σ H s->RelV x v->r x H Q->
  wpAny (model X.prog X.w) X.A (truthy v) (TP X pins σ Q) X.xe s
noncomputable def tOp (r:R2) (ta tb:TE):TE:=fun σ H Q=>ta σ H fun x H1=>tb σ H1 fun y H2=>r x y H2 Q
noncomputable def tUn (r:V->Hp->VK->Prop) (ta:TE):TE:=fun σ H Q=>ta σ H fun x H1=>r x H1 Q
noncomputable def rI (C:Int->Int->Prop) (g:Int->Int->V):R2:=fun x y H Q=>∃ i j,x=.int i/\y=.int j/\C i j/\Q (g i j) H
noncomputable def rI0 (g:Int->Int->V):R2:=fun x y H Q=>∃ i j,x=.int i/\y=.int j/\Q (g i j) H
noncomputable def rU (g:Int->V):V->Hp->VK->Prop:=fun x H Q=>∃ i,x=.int i/\Q (g i) H
section
variable {X:Cx} {a b c:Expr} {ta tb tc:TE} {pos:Pos}
theorem qMZ (ha:PE X a ta) (hb:PE X b tb) {pins:List (Addr×Obj)} {s:Shared} {σ:St} {H:Hp} {R:V->V->Hp->Prop} (I:Inv X pins σ H s)
  (h:ta σ H fun x H1=>tb σ H1 fun y H2=>R x y H2) {Q:Value->Shared->Prop} {f:Value->Value->Sem Value}
  (hf:∀ v u s2 x y H2,Inv X pins σ H2 s2->RelV x v->RelV y u->R x y H2->wpAny (model X.prog X.w) X.A (f v u) Q X.xe s2) :
  wpAny (model X.prog X.w) X.A (eval a X.env) (fun v s₁=>wpAny (model X.prog X.w) X.A (eval b X.env) (fun u s₂=>wpAny (model X.prog X.w) X.A (f v u) Q X.xe s₂) X.xe s₁) X.xe s:=by
 refine thn (ha pins s σ H _ I h) fun v s1 ⟨x,H1,I1,r1,q1⟩=>?_
 refine thn (hb pins s1 σ H1 _ I1 q1) fun u s2 ⟨y,H2,I2,r2,q2⟩=>?_
 exact hf v u s2 x y H2 I2 r1 r2 q2
theorem qa {op:Operator} {r:R2} (ho:OpR X (binaryOp op) r) (ha:PE X a ta) (hb:PE X b tb):PE X (.BinOp a op b pos) (tOp r ta tb):=by
 intro pins s σ H Q I h
 exact wpAny_BinOp (qMZ ha hb I h fun v u s2 x y H2 I2 rx ry q=>ho pins s2 σ H2 x y v u Q I2 rx ry q)
theorem qJx {op:UnaryOp} {r:V->Hp->VK->Prop} (ho:UnR X (unaryOp op) r) (ha:PE X a ta):PE X (.UnaryOp op a pos) (tUn r ta):=by
 intro pins s σ H Q I h
 exact UnaryOp_ (thn (ha pins s σ H _ I h) fun v s1 ⟨x,H1,I1,r1,q1⟩=>ho pins s1 σ H1 x v Q I1 r1 q1)
theorem opI {f:Value->Value->Sem Value} {C:Int->Int->Prop} {g:Int->Int->Int}
  (rule:∀(i j:Int) (t u:Tok) (s:Shared) (Q:Value->Shared->Prop) (E:Value->Shared->Prop),C i j->Q (.int (g i j) s.toks) { s with toks:=s.toks+1 }->wpAny (model X.prog X.w) X.A (f (.int i t) (.int j u)) Q E s) :
  OpR X f (rI C fun i j=>.int (g i j)):=by
 intro pins s σ H x y v u Q I rx ry h
 obtain ⟨i,j,rfl,rfl,hc,q⟩:=h
 obtain ⟨t,rfl⟩:=rx
 obtain ⟨t',rfl⟩:=ry
 exact rule i j t t' s _ _ hc ⟨.int (g i j),H,I.tok _,⟨_,rfl⟩,q⟩
theorem qL7 {f:Value->Value->Sem Value} {g:Int->Int->Int}
  (rule:∀(i j:Int) (t u:Tok) (s:Shared) (Q:Value->Shared->Prop) (E:Value->Shared->Prop),Q (.int (g i j) s.toks) { s with toks:=s.toks+1 }->wpAny (model X.prog X.w) X.A (f (.int i t) (.int j u)) Q E s) :
  OpR X f (rI0 fun i j=>.int (g i j)):=by
 intro pins s σ H x y v u Q I rx ry h
 obtain ⟨i,j,rfl,rfl,q⟩:=h
 obtain ⟨t,rfl⟩:=rx
 obtain ⟨t',rfl⟩:=ry
 exact rule i j t t' s _ _ ⟨.int (g i j),H,I.tok _,⟨_,rfl⟩,q⟩
theorem qNh {f:Value->Value->Sem Value} {g:Int->Int->Bool}
  (rule:∀(i j:Int) (t u:Tok) (s:Shared) (Q:Value->Shared->Prop) (E:Value->Shared->Prop),Q (.bool (g i j)) s->wpAny (model X.prog X.w) X.A (f (.int i t) (.int j u)) Q E s) :
  OpR X f (rI0 fun i j=>.bl (g i j)):=by
 intro pins s σ H x y v u Q I rx ry h
 obtain ⟨i,j,rfl,rfl,q⟩:=h
 obtain ⟨t,rfl⟩:=rx
 obtain ⟨t',rfl⟩:=ry
 exact rule i j t t' s _ _ ⟨.bl (g i j),H,I,rfl,q⟩
noncomputable def qNu (i j:Int):Prop:=0<j/\j<1073741824
noncomputable def qNT (i j:Int):Prop:=0<=j/\j<=1000000/\i.natAbs<2 ^ 64
noncomputable def qL8 (i j:Int):Prop:=(-(2 ^ 64)<i/\i<2 ^ 64)\/(-(2 ^ 64)<j/\j<2 ^ 64)
theorem qL8.ok {i j:Int} (h:qL8 i j):IntMulOk i j:=by
 rcases h with ⟨h1,h2⟩ | ⟨h1,h2⟩
 ·exact .of_left (intBits_le_64 h1 h2)
 ·exact .of_right (intBits_le_64 h1 h2)
theorem qD0 (k:Nat):(0:Int)<=2 ^ k:=by
 rw [two_pow_cast]
 exact WS _
theorem qKk:OpR X (binaryOp .Add) (rI0 fun i j=>.int (i+j)):=qL7 fun _ _ _ _ _ _ _ q=>add_int q
theorem YV:OpR X (binaryOp .Sub) (rI0 fun i j=>.int (i - j)):=qL7 fun _ _ _ _ _ _ _ q=>sub_int q
theorem qKb:OpR X (binaryOp .Mult) (rI qL8 fun i j=>.int (i*j)):=opI fun _ _ _ _ _ _ _ hc q=>mul_int q hc.ok
theorem qGQ:OpR X (binaryOp .FloorDiv) (rI qNu fun i j=>.int (i / j)):=opI fun i j _ _ _ _ _ hc q=>by
 have h1:(0:Int)<j:=hc.1
 have h2:j<1073741824:=hc.2
 exact floordiv_int (by omega) (by rw [UT i (by omega)]; exact q) (.inl (PyProof.noPylong_small (by omega)))
theorem QM:OpR X (binaryOp .Mod) (rI (fun _ j=>0<j) fun i j=>.int (i % j)):=opI fun i j _ _ _ _ _ hc q=>by
 have h1:(0:Int)<j:=hc
 exact mod_int' (by omega) (by rw [Int.fmod_eq_emod_of_nonneg i (by omega)]; exact q)
theorem qIF:OpR X (binaryOp .Pow) (rI qNT fun i j=>.int (i ^ j.toNat)):=opI fun _ _ _ _ _ _ _ hc q=>pow_int_small hc.1 hc.2.1 hc.2.2 q
theorem qKa:OpR X (binaryOp .LShift) (rI qNT fun i j=>.int (i*2 ^ j.toNat)):=opI fun _ _ _ _ _ _ _ hc q=>lshift_int_small hc.1 hc.2.1 hc.2.2 q
theorem qLG:OpR X (binaryOp .RShift) (rI (fun _ j=>0<=j) fun i j=>.int (i / 2 ^ j.toNat)):=opI fun i j _ _ _ _ _ hc q=>
 rshift_int hc (by rw [UT i (qD0 _)]; exact q)
theorem qLl:OpR X (binaryOp .BitAnd) (rI0 fun i j=>.int (UU i j)):=qL7 fun _ _ _ _ _ _ _ q=>and_int q
theorem qJK:OpR X (inplaceOp .Add) (rI0 fun i j=>.int (i+j)):=qL7 fun _ _ _ _ _ _ _ q=>iadd_int q
theorem unI {f:Value->Sem Value} {g:Int->Int}
  (rule:∀(i:Int) (t:Tok) (s:Shared) (Q:Value->Shared->Prop) (E:Value->Shared->Prop),Q (.int (g i) s.toks) { s with toks:=s.toks+1 }->wpAny (model X.prog X.w) X.A (f (.int i t)) Q E s) :
  UnR X f (rU fun i=>.int (g i)):=by
 intro pins s σ H x v Q I rx h
 obtain ⟨i,rfl,q⟩:=h
 obtain ⟨t,rfl⟩:=rx
 exact rule i t s _ _ ⟨.int (g i),H,I.tok _,⟨_,rfl⟩,q⟩
theorem qEz:UnR X (unaryOp .USub) (rU fun i=>.int (-i)):=unI fun _ _ _ _ _ q=>neg_int q
end
noncomputable def qL3:V->V->Bool
 | .non,.non=>true | .non,.int _=>true | .int _,.non=>true | .non,.bl _=>true | .bl _,.non=>true | .non,.str _=>true | .str _,.non=>true
 | .int _,.int _=>true | .bl _,.bl _=>true | .str _,.str _=>true | .byt _,.byt _=>true
 | .int _,.str _=>true | .str _,.int _=>true | .bl _,.str _=>true | .str _,.bl _=>true
 | _,_=>false
noncomputable def rEq:R2:=fun x y H Q=>qL3 x y=true/\Q (.bl (decide (x=y))) H
noncomputable def rNe:R2:=fun x y H Q=>qL3 x y=true/\Q (.bl (!decide (x=y))) H
theorem qFt {i j:Int}:decide (V.int i=V.int j)=(i == j):=by
 rw [vU]
 simp
theorem qIb {i j:Bool}:decide (V.bl i=V.bl j)=(i == j):=by
 rw [vU]
 simp
theorem qFk {i j:Str}:decide (V.str i=V.str j)=(i == j):=by
 rw [vU]
 simp
theorem qEo {i j:Array UInt8}:decide (V.byt i=V.byt j)=(i.toList == j.toList):=by
 rw [vU]
 cases i
 cases j
 simp
section
variable {X:Cx} {a b c:Expr} {ta tb tc:TE} {pos:Pos}
theorem qU {pins:List (Addr×Obj)} {σ:St} {H:Hp} {s:Shared} {Q:VK} {k k':Bool} (I:Inv X pins σ H s) (q:Q (.bl k) H) (e:k=k'):EP X pins σ Q (.bool k') s:=by
 subst e
 exact ⟨.bl k,H,I,rfl,q⟩
theorem qNE:OpR X (compareOp .Eq) rEq:=by
 intro pins s σ H x y v u Q I rx ry h
 obtain ⟨hs,q⟩:=h
 cases x with
 | non=>
  cases rx
  cases y with
  | non=>cases ry; exact PySem.EqNone.eq_none_none (qU I q (by simp))
  | bl j=>cases ry; exact PySem.EqNone.eq_none_bool (qU I q (by simp))
  | int j=>obtain ⟨t',rfl⟩:=ry; exact PySem.EqNone.eq_none_int (qU I q (by simp))
  | str j=>obtain ⟨t',rfl⟩:=ry; exact PySem.EqNone.eq_none_str (qU I q (by simp))
  | _=>exact absurd (show false=true from hs) wU
 | bl i=>
  cases rx
  cases y with
  | non=>cases ry; exact PySem.EqNone.eq_bool_none (qU I q (by simp))
  | bl j=>cases ry; exact eq_bool (qU I q qIb)
  | str j=>obtain ⟨t',rfl⟩:=ry; exact PySem.EqMixed.eq_bool_str (qU I q (by simp))
  | _=>exact absurd (show false=true from hs) wU
 | int i=>
  obtain ⟨t,rfl⟩:=rx
  cases y with
  | non=>cases ry; exact PySem.EqNone.eq_int_none (qU I q (by simp))
  | int j=>obtain ⟨t',rfl⟩:=ry; exact eq_int (qU I q qFt)
  | str j=>obtain ⟨t',rfl⟩:=ry; exact PySem.EqMixed.eq_int_str (qU I q (by simp))
  | _=>exact absurd (show false=true from hs) wU
 | str i=>
  obtain ⟨t,rfl⟩:=rx
  cases y with
  | non=>cases ry; exact PySem.EqNone.eq_str_none (qU I q (by simp))
  | bl j=>cases ry; exact PySem.EqMixed.eq_str_bool (qU I q (by simp))
  | int j=>obtain ⟨t',rfl⟩:=ry; exact PySem.EqMixed.eq_str_int (qU I q (by simp))
  | str j=>obtain ⟨t',rfl⟩:=ry; exact eq_str (qU I q qFk)
  | _=>exact absurd (show false=true from hs) wU
 | byt i=>
  obtain ⟨t,rfl⟩:=rx
  cases y with
  | byt j=>obtain ⟨t',rfl⟩:=ry; exact PySem.W.eq_bytes (qU I q qEo)
  | _=>exact absurd (show false=true from hs) wU
 | _=>cases y <;> exact absurd (show false=true from hs) wU
theorem qMs:OpR X (compareOp .NotEq) rNe:=by
 intro pins s σ H x y v u Q I rx ry h
 obtain ⟨hs,q⟩:=h
 cases x with
 | non=>
  cases rx
  cases y with
  | non=>cases ry; exact PySem.EqNone.ne_none_none (qU I q (by simp))
  | bl j=>cases ry; exact PySem.EqNone.ne_none_bool (qU I q (by simp))
  | int j=>obtain ⟨t',rfl⟩:=ry; exact PySem.EqNone.ne_none_int (qU I q (by simp))
  | str j=>obtain ⟨t',rfl⟩:=ry; exact PySem.EqNone.ne_none_str (qU I q (by simp))
  | _=>exact absurd (show false=true from hs) wU
 | bl i=>
  cases rx
  cases y with
  | non=>cases ry; exact PySem.EqNone.ne_bool_none (qU I q (by simp))
  | bl j=>cases ry; exact ne_bool (qU I q (congrArg not qIb))
  | str j=>obtain ⟨t',rfl⟩:=ry; exact PySem.EqMixed.ne_bool_str (qU I q (by simp))
  | _=>exact absurd (show false=true from hs) wU
 | int i=>
  obtain ⟨t,rfl⟩:=rx
  cases y with
  | non=>cases ry; exact PySem.EqNone.ne_int_none (qU I q (by simp))
  | int j=>obtain ⟨t',rfl⟩:=ry; exact ne_int (qU I q (congrArg not qFt))
  | str j=>obtain ⟨t',rfl⟩:=ry; exact PySem.EqMixed.ne_int_str (qU I q (by simp))
  | _=>exact absurd (show false=true from hs) wU
 | str i=>
  obtain ⟨t,rfl⟩:=rx
  cases y with
  | non=>cases ry; exact PySem.EqNone.ne_str_none (qU I q (by simp))
  | bl j=>cases ry; exact PySem.EqMixed.ne_str_bool (qU I q (by simp))
  | int j=>obtain ⟨t',rfl⟩:=ry; exact PySem.EqMixed.ne_str_int (qU I q (by simp))
  | str j=>obtain ⟨t',rfl⟩:=ry; exact ne_str (qU I q (congrArg not qFk))
  | _=>exact absurd (show false=true from hs) wU
 | byt i=>
  obtain ⟨t,rfl⟩:=rx
  cases y with
  | byt j=>obtain ⟨t',rfl⟩:=ry; exact PySem.W.ne_bytes (qU I q (congrArg not qEo))
  | _=>exact absurd (show false=true from hs) wU
 | _=>cases y <;> exact absurd (show false=true from hs) wU
theorem qHz:OpR X (compareOp .Lt) (rI0 fun i j=>.bl (decide (i<j))):=qNh fun _ _ _ _ _ _ _ q=>lt_int q
theorem qEI:OpR X (compareOp .Gt) (rI0 fun i j=>.bl (decide (j<i))):=qNh fun _ _ _ _ _ _ _ q=>gt_int q
theorem qJL:OpR X (compareOp .IsNot) (fun x y H Q=>y=.non/\Q (.bl (!decide (x=.non))) H):=by
 intro pins s σ H x y v u Q I rx ry h
 obtain ⟨rfl,q⟩:=h
 cases ry
 refine isnot_none_gen (qU I q ?_)
 cases x <;> first
  | (cases rx; rfl)
  | (obtain ⟨t,rfl⟩:=rx; rfl)
theorem OpR.or {f:Value->Value->Sem Value} {r r':R2} (h:OpR X f r) (h':OpR X f r'):OpR X f (fun x y H Q=>r x y H Q\/r' x y H Q):=by
 intro pins s σ H x y v u Q I rx ry q
 rcases q with q | q
 ·exact h pins s σ H x y v u Q I rx ry q
 ·exact h' pins s σ H x y v u Q I rx ry q
theorem qg (b:Expr) {op:CmpOp} (h:op≠.In:=by decide) (h2:op≠.NotIn:=by decide):behindInMarks op b=false:=by
 have e1:(op == CmpOp.In)=false:=by cases op <;> first | rfl | exact absurd rfl h
 have e2:(op == CmpOp.NotIn)=false:=by cases op <;> first | rfl | exact absurd rfl h2
 cases b <;> simp [behindInMarks,e1,e2]
theorem Qu {op:CmpOp} {r:R2} (ho:OpR X (compareOp op) r) (ha:PE X a ta) (hb:PE X b tb) (hm:behindInMarks op b=false):PE X (.Compare a [op] [b] pos) (tOp r ta tb):=by
 intro pins s σ H Q I h
 exact wpAny_Compare1 (qMZ ha hb I h fun v u s2 x y H2 I2 rx ry q=>ho pins s2 σ H2 x y v u Q I2 rx ry q) hm
noncomputable def qKp (t:TE):TT:=fun σ H Q=>t σ H fun x H'=>∃ k,x=.bl k/\Q k H'
theorem qS {op:CmpOp} {r:R2} (ho:OpR X (compareOp op) r) (ha:PE X a ta) (hb:PE X b tb) (hm:behindInMarks op b=false):PT X (.Compare a [op] [b] pos) (qKp (tOp r ta tb)):=by
 intro pins s σ H Q I h
 refine wpAny_isTrue_Compare1 (thn (ha pins s σ H _ I h) fun v s1 ⟨x,H1,I1,r1,q1⟩=>thn (hb pins s1 σ H1 _ I1 q1) fun u s2 ⟨y,H2,I2,r2,q2⟩=>
  thn (ho pins s2 σ H2 x y v u _ I2 r1 r2 q2) fun c s3 ⟨z,H3,I3,r3,k,e,q3⟩=>?_) hm
 subst e
 cases r3
 exact VD ⟨H3,I3,q3⟩
noncomputable def qL9 (K:wK) (x:V) (H:Hp) (k:Bool):Prop:=
 match x with
 | .non=>k=false
 | .bl b=>k=b
 | .int i=>k=(i != 0)
 | .str y=>y.length<=sizeLine/\k=((y.length:Int) != 0)
 | .byt y=>y.size<=sizeLine/\k=((y.size:Int) != 0)
 | .ref p=>(∃ xs,SqL K H p xs/\k = !xs.isEmpty)\/(∃ xs,SqT K H p xs/\k = !xs.isEmpty)\/∃ kvs,H p=some (.dK kvs)/\k = !kvs.isEmpty
 | _=>False
theorem qEZ {κ:Type} {kvs:List (κ×V)} {vs:List (κ×Value)} (r:KV kvs vs):(!vs.isEmpty) = !kvs.isEmpty:=by
 cases r <;> rfl
theorem Y7 {xs:List V} {its:List Value} (r:ql xs its):(!its.toArray.isEmpty) = !xs.isEmpty:=by
 cases r <;> simp
theorem qAT:(sizeLine:Nat)<2 ^ 63:=by rw [kM]; decide
theorem qLa:qN3 X (fun x H Q=>∃ k,qL9 X.K x H k/\Q k H):=by
 intro pins s σ H x v Q I rx h
 obtain ⟨k,e,q⟩:=h
 have hl:=qAT
 have hs:sizeLine=16777216:=kM
 cases x with
 | non=>
  cases rx
  have e':k=false:=e
  subst e'
  exact truthy_none ⟨H,I,q⟩
 | bl b=>
  cases rx
  have e':k=b:=e
  subst e'
  exact VD ⟨H,I,q⟩
 | int i=>
  obtain ⟨t,rfl⟩:=rx
  have e':k=(i != 0):=e
  subst e'
  exact PySem.P.truthy_int ⟨H,I,q⟩
 | str y=>
  obtain ⟨t,rfl⟩:=rx
  obtain ⟨hy,e'⟩:y.length<=sizeLine/\k=((y.length:Int) != 0):=e
  subst e'
  exact PySem.P.truthy_str (by omega) ⟨H,I.tok _,q⟩
 | byt y=>
  obtain ⟨t,rfl⟩:=rx
  obtain ⟨hy,e'⟩:y.size<=sizeLine/\k=((y.size:Int) != 0):=e
  subst e'
  exact PySem.W.truthy_bytes (by omega) ⟨H,I.tok _,q⟩
 | ref p=>
  cases rx
  have e':(∃ xs,SqL X.K H p xs/\k = !xs.isEmpty)\/(∃ xs,SqT X.K H p xs/\k = !xs.isEmpty)\/∃ kvs,H p=some (.dK kvs)/\k = !kvs.isEmpty:=e
  rcases e' with ⟨xs,hx,e'⟩ | ⟨xs,hx,e'⟩ | ⟨kvs,hx,e'⟩
  ·subst e'
   obtain ⟨its,r,pl,hz⟩:=I.list hx
   have hlen:=r.length
   exact wpAny_truthy_list pl.isList (by simp only [wL]; omega) ⟨H,I.tok _,by rw [Y7 r]; exact q⟩
  ·subst e'
   obtain ⟨its,r,pl,hz⟩:=I.tuple hx
   have hlen:=r.length
   exact truthy_tuple pl (by simp only [wL]; omega) ⟨H,I.tok _,by rw [Y7 r]; exact q⟩
  ·subst e'
   obtain ⟨hz,hS,vs,r,m⟩:kvs.length<=sizeLine/\(p == sysModules)=false/\∃ vs,KV kvs vs/\s.heap.DictOf (qCR X.prog X.w) p vs:=I.hok p _ hx
   have hlen:kvs.length=vs.length:=fU r
   exact wpAny_truthy_dict hS m (by omega) ⟨H,I.tok _,by rw [qEZ r]; exact q⟩
 | _=>exact (show False from e).elim
theorem qHd (ha:PE X a ta) (he:∀ whole,isTrue a X.env whole=(do let v <- whole; standAt a.pos; holding [v] (truthy v))) :
  PT X a (fun σ H Q=>ta σ H fun x H'=>∃ k,qL9 X.K x H' k/\Q k H'):=by
 intro pins s σ H Q I h
 exact isTrue_plain (thn (ha pins s σ H _ I h) fun v s1 ⟨x,H1,I1,r1,q1⟩=>qLa pins s1 σ H1 x v Q I1 r1 q1) (he _)
theorem vals1 {x:V} {us:List Value} (r:ql [x] us):∃ u,us=[u]/\RelV x u:=by
 cases r with
 | cons r1 r2=>cases r2; exact ⟨_,rfl,r1⟩
theorem vals2 {x y:V} {us:List Value} (r:ql [x,y] us):∃ u w',us=[u,w']/\RelV x u/\RelV y w':=by
 cases r with
 | cons r1 r2=>
  cases r2 with
  | cons r3 r4=>cases r4; exact ⟨_,_,rfl,r1,r3⟩
theorem qBB:Qw X (.builtin "abs") (fun xs H Q=>∃ i,xs=[.int i]/\Q (.int (if i<0 then -i else i)) H):=by
 intro pins s σ H xs us Q I r h
 obtain ⟨i,rfl,q⟩:=h
 obtain ⟨u,rfl,t,rfl⟩:=vals1 r
 exact call_abs_int fun u tk=>⟨.int (if i<0 then -i else i),H,I.tok _,⟨_,rfl⟩,q⟩
theorem QV (hc:X.calm=true):Qw X (.builtin "max") (fun xs H Q=>∃ i j,xs=[.int i,.int j]/\Q (.int (if j > i then j else i)) H):=by
 intro pins s σ H xs us Q I r h
 obtain ⟨i,j,rfl,q⟩:=h
 obtain ⟨u,w',rfl,⟨t,rfl⟩,⟨t',rfl⟩⟩:=vals2 r
 refine max_two_ints (I.ok.hd hc) fun h' tk k=>⟨_,H,I.kept k,?_,q⟩
 by_cases hj:j > i
 ·rw [if_pos hj,if_pos hj]; exact ⟨_,rfl⟩
 ·rw [if_neg hj,if_neg hj]; exact ⟨_,rfl⟩
theorem Qy (hc:X.calm=true):Qw X (.builtin "min") (fun xs H Q=>∃ i j,xs=[.int i,.int j]/\Q (.int (if j<i then j else i)) H):=by
 intro pins s σ H xs us Q I r h
 obtain ⟨i,j,rfl,q⟩:=h
 obtain ⟨u,w',rfl,⟨t,rfl⟩,⟨t',rfl⟩⟩:=vals2 r
 refine min_two_ints (I.ok.hd hc) fun h' tk k=>⟨_,H,I.kept k,?_,q⟩
 by_cases hj:j<i
 ·rw [if_pos hj,if_pos hj]; exact ⟨_,rfl⟩
 ·rw [if_neg hj,if_neg hj]; exact ⟨_,rfl⟩
theorem QN:Qw X (.type "int") (fun xs H Q=>(∃ i,xs=[.int i]/\Q (.int i) H)\/∃ k,xs=[.bl k]/\Q (.int (if k then 1 else 0)) H):=by
 intro pins s σ H xs us Q I r h
 rcases h with ⟨i,rfl,q⟩ | ⟨k,rfl,q⟩
 ·obtain ⟨u,rfl,t,rfl⟩:=vals1 r
  exact call_int_int ⟨.int i,H,I,⟨_,rfl⟩,q⟩
 ·obtain ⟨u,rfl,r1⟩:=vals1 r
  cases r1
  exact call_int_bool ⟨.int (if k then 1 else 0),H,I.tok _,⟨_,rfl⟩,q⟩
end
structure qND (h:Heap) (x dx C:Addr) (mA:Str->Option Value):Prop where
 obj:h.get? x=some (UH C dx)
 ns:h.Ns1 dx mA
 ne:dx≠x
theorem qE6 {h:Heap} {dx:Addr} {mA:Str->Option Value} (n:h.Ns1 dx mA):∃ od,h.get? dx=some od/\∀ name,UV name od=some (mA name):=by
 obtain ⟨o,es,ep,ho,hd,hk,_,hm⟩:=n
 refine ⟨o,ho,fun name=>?_⟩
 have e:=hm name
 unfold nsFind findBy at e
 rw [<- Array.find?_toList] at e
 unfold UV
 rw [hd]
 dsimp only
 split
 ·rename_i y q
  rw [q] at e
  exact congrArg some e
 ·rename_i q
  rw [q] at e
  have a:es.toList.any (·.refKey)=false:=by
   rw [List.any_eq_false]
   intro y hy
   obtain ⟨z,t,hkey⟩:=hk y (yX.mp hy)
   simp [DictEntry.refKey,hkey]
  have a':¬ es.toList.any (·.refKey)=true:=by rw [a]; exact wU
  rw [if_neg a']
  exact congrArg some e
theorem qND.look {h:Heap} {x dx C:Addr} {mA:Str->Option Value} (I:qND h x dx C mA):∃ od,PySem.W.InstAt h x (UH C dx) C (some od)/\∀ name,UV name od=some (mA name):=
 let ⟨od,ho,hl⟩:=qE6 I.ns
 ⟨od,⟨I.obj,rfl,rfl,ho⟩,hl⟩
section
variable {P:Program} {w:World} {H H':Hp} {h h':Heap} {a C dx:Addr} {fs fs':List (Str×V)}
theorem qJl (hok:HOk P w H h) (e:H a=some (.ins C dx fs)):∃ mA,qND h a dx C mA/\(∀ f,qMk (fs.lookup f) (mA f))/\PySem.Within mA (fs.map (·.1))/\fs.length<=1000/\H dx=some (.own a):=by
 obtain ⟨d,z,ne,ob,mA,n,r,q⟩:=(show jh P w H h a (.ins C dx fs) from hok a _ e)
 exact ⟨mA,⟨ob,n,ne⟩,r,q,z,d⟩
end
structure Cls (K:wK) (C:Addr):Prop where
 pg:PySem.W.plainGet K C Str.empty=true
 hd:PySem.W.hasDictIn K C=true
 po:PySem.W.plainOver K C=true
 sa:PySem.W.findIn K (.ref C) "__setattr__" = some (some (.builtin "object.__setattr__"))
theorem Cls.get {K:wK} {C:Addr} (c:Cls K C) (f:Str):PySem.W.plainGet K C f=true:=c.pg
section
variable {X:Cx} {pins:List (Addr×Obj)} {σ:St} {H:Hp} {s:Shared} {A:Around} {E:Value->Shared->Prop} {Q:Value->Shared->Prop} {c:Value} {b:Bool}
inductive qB5 (K:wK) (H:Hp):V->Value->Prop where
 | non:qB5 K H .non (.type "NoneType")
 | bl (x:Bool):qB5 K H (.bl x) (.type "bool")
 | int (i:Int):qB5 K H (.int i) (.type "int")
 | str (x:Str):qB5 K H (.str x) (.type "str")
 | flt (x:UInt64):qB5 K H (.flt x) (.type "float")
 | lst {a:Addr} {xs:List V} (e:H a=some (.lst xs)):qB5 K H (.ref a) (.type "list")
 | frz {a:Addr} {o:Obj} {xs:List V} (e:H a=some (.frz o (.lst xs))):qB5 K H (.ref a) (.type "list")
 | tup {a:Addr} {xs:List V} (e:H a=some (.tup xs)):qB5 K H (.ref a) (.type "tuple")
 | dK {a:Addr} {kvs:List (Key×V)} (e:H a=some (.dK kvs)):qB5 K H (.ref a) (.type "dict")
 | dT {a:Addr} {kvs:List (List Key×V)} (e:H a=some (.dT kvs)):qB5 K H (.ref a) (.type "dict")
 | ins {a C dx:Addr} {fs:List (Str×V)} (e:H a=some (.ins C dx fs)) (cl:Cls K C) (ha:PySem.W.findIn K (.ref C) "__class__" = some (some (.builtin "object.__class__")))
   (hn:PySem.W.specialIn K (.builtin "object.__class__") "__get__" = some (some (.builtin "getset_descriptor.__get__"))) (htk:PySem.W.takesIn K (.builtin "object.__class__")=some true)
   (hm:PySem.W.mroIn K C (.type "object")=some true):qB5 K H (.ref a) (.ref C)
theorem qFl {x:V} {u t:Value} (I:Inv X pins σ H s) (rx:RelV x u) (ty:qB5 X.K H x t) (e:uY X.K t c=some b) (h:∀ tk,Q (.bool b) { s with toks:=tk }) :
  wpAny (model X.prog X.w) A (call (.builtin "isinstance") [u,c]) Q E s:=by
 cases ty with
 | non=>cases (show u=xE from rx); exact xA PySem.W.kitx_none I.kIn ZL e (fun z=>nomatch z) h
 | bl y=>cases (show u=Value.bool y from rx); exact xA PySem.W.kitx_bool I.kIn ZL e (fun z=>nomatch z) h
 | int i=>obtain ⟨t,q⟩:=(show ∃ t,u=ZE i t from rx); cases q; exact xA PySem.W.kitx_int I.kIn ZL e (fun z=>nomatch z) h
 | str y=>obtain ⟨t,q⟩:=(show ∃ t,u=Value.str y t from rx); cases q; exact xA PySem.W.kitx_str I.kIn ZL e (fun z=>nomatch z) h
 | flt y=>obtain ⟨t,q⟩:=(show ∃ t,u=Value.float y t from rx); cases q; exact xA PySem.W.kitx_float I.kIn ZL e (fun z=>nomatch z) h
 | @lst a xs ea=>
  cases (show u=yJ a from rx)
  obtain ⟨_,_,n,_,h1⟩:=(show jh X.prog X.w H s.heap a (.lst xs) from I.hok a _ ea)
  exact xA PySem.W.kitx_list I.kIn ⟨_,h1,rfl⟩ e (fun z=>nomatch z) h
 | @frz a ob xs ea=>
  cases (show u=yJ a from rx)
  obtain ⟨_,_,_,n,_,h1⟩:=(show jh X.prog X.w H s.heap a (.frz ob (.lst xs)) from I.hok a _ ea)
  exact xA PySem.W.kitx_list I.kIn ⟨_,h1,rfl⟩ e (fun z=>nomatch z) h
 | @tup a xs ea=>
  cases (show u=yJ a from rx)
  obtain ⟨_,_,_,p⟩:=(show jh X.prog X.w H s.heap a (.tup xs) from I.hok a _ ea)
  obtain ⟨⟨o,h1,h2,_⟩,_⟩:=p
  exact xA PySem.W.kitx_tuple I.kIn ⟨o,h1,h2⟩ e (fun z=>nomatch z) h
 | @dK a kvs ea=>
  cases (show u=yJ a from rx)
  obtain ⟨_,_,vs,_,p⟩:=(show jh X.prog X.w H s.heap a (.dK kvs) from I.hok a _ ea)
  obtain ⟨o,es,ep,h1,h2,_⟩:=p
  exact xA PySem.W.kitx_dict I.kIn ⟨o,h1,h2.1⟩ e (fun z=>nomatch z) h
 | @dT a kvs ea=>
  cases (show u=yJ a from rx)
  obtain ⟨_,_,xs,_,o,es,ep,h1,h2,_⟩:=(show jh X.prog X.w H s.heap a (.dT kvs) from I.hok a _ ea)
  exact xA PySem.W.kitx_dict I.kIn ⟨o,h1,h2.1⟩ e (fun z=>nomatch z) h
 | @ins a C dx fs ea cl ha hn htk hm=>
  cases (show u=yJ a from rx)
  obtain ⟨mA,O,_⟩:=qJl I.hok ea
  obtain ⟨od,J,_⟩:=O.look
  exact xA (PySem.W.kitx_own (cl.get _) cl.hd ha hn htk hm) I.kIn J e (fun z=>nomatch z) h
end
structure Y3 (k:Nat) (A:Around):Prop where
 hd:A.handled=none
 dp:A.depth+3*k+5<recursionLimit
 un:A.units+16*k+200<cLine
theorem Y3.mono {j k:Nat} {A:Around} (r:Y3 k A) (h:j<=k):Y3 j A:=⟨r.hd,by have:=r.dp; omega,by have:=r.un; omega⟩
theorem Y3.deeper {k:Nat} {A:Around} (r:Y3 (k+1) A) (env:Env):Y3 k (A.deeper env):=
 ⟨r.hd,by have:=r.dp; show A.depth+1+3*k+5<_; omega,by have:=r.un; show A.units+3+16*k+200<_; omega⟩
theorem Y3.depth {k:Nat} {A:Around} (r:Y3 k A):A.depth<recursionLimit:=by have:=r.dp; omega
theorem Y3.units {k:Nat} {A:Around} (r:Y3 k A):A.units+64<cLine:=by have:=r.un; omega
noncomputable def qMJ:TA:=fun _ H Q=>Q [] H
noncomputable def qJN (ta:TE) (tr:TA):TA:=fun σ H Q=>ta σ H fun x H1=>tr σ H1 fun xs H2=>Q (x::xs) H2
section
variable {X:Cx} {e:Expr} {es:List Expr} {te:TE} {t:TA} {pos:Pos}
theorem qB:PA X [] qMJ:=fun _ _ _ _ H Q I h=>Calls.spliced_nil ⟨[],H,I,.nil,h⟩
theorem qA (ha:PE X e te) (hr:PA X es t) (hs:starEach (e::es) X.env=(false,eval e X.env)::starEach es X.env:=by rfl):PA X (e::es) (qJN te t):=by
 intro pos pins s σ H Q I h
 rw [hs]
 show wpAny _ _ (spliced ((false,eval e X.env)::backTo pos (starEach es X.env))) _ _ s
 refine Calls.spliced_cons (thn (ha pins s σ H _ I h) fun u s1 ⟨x,H1,I1,r1,q1⟩=>?_)
 exact thn (hr pos pins s1 σ H1 _ I1 q1) fun us s2 ⟨xs,H2,I2,r2,q2⟩=>⟨x::xs,H2,I2,.cons r1 r2,q2⟩
noncomputable def qNZ (t:TA):TE:=fun σ H Q=>t σ H fun xs H1=>xs.length<=sizeLine/\∀ p,H1 p=none->Q (.ref p) (upd H1 p (.tup xs))
noncomputable def qNM (t:TA):TE:=fun σ H Q=>t σ H fun xs H1=>xs.length<=sizeLine/\∀ p,H1 p=none->Q (.ref p) (upd H1 p (.lst xs))
theorem jS {x1} (h:PA X es t):PE X (.Tuple es x1 pos) (qNZ t):=by
 intro pins s σ H Q I hq
 refine wpAny_Tuple_spliced (thn (h pos pins s σ H _ I hq) fun us s1 ⟨xs,H1,I1,r,z,q⟩=>⟨by rw [<- r.length]; exact z,?_⟩)
 have hf:H1 s1.heap.objs.size=none:=I1.hok.fresh (wH _)
 refine ⟨.ref s1.heap.objs.size,upd H1 s1.heap.objs.size (.tup xs),I1.laid (t':=s1.toks) (fun b u e=>wG _ e) (wH _) ?_,rfl,q _ hf⟩
 exact ⟨z,us,r,⟨_,zL _ rfl,rfl,_,rfl⟩,NoD.new rfl⟩
theorem qy (h:PA X es t):PE X (.List es pos) (qNM t):=by
 intro pins s σ H Q I hq
 refine wpAny_List_spliced (thn (h pos pins s σ H _ I hq) fun us s1 ⟨xs,H1,I1,r,z,q⟩=>⟨by rw [<- r.length]; exact z,?_⟩)
 have hf:H1 s1.heap.objs.size=none:=I1.hok.fresh (wH _)
 refine ⟨.ref s1.heap.objs.size,upd H1 s1.heap.objs.size (.lst xs),I1.laid (t':=s1.toks) (fun b u e=>wG _ e) (wH _) ?_,rfl,q _ hf⟩
 exact ⟨z,us,0,r,zL _ rfl⟩
end
noncomputable abbrev Sp:=List V->Hp->VK->XK->Prop
noncomputable abbrev CXT:=List Env->Hp->Shared->XK->Value->Shared->Prop
structure qMC (P:Program) (w:World) (K:wK) (mg:Str->Option Value) (base:Heap) (A:Around) (outer:List Env) (s:Shared) (H:Hp):Prop where
 frames:A.frames=some outer
 mod:Mod K mg base
 bs:∀ b o,base.get? b=some o->s.heap.get? b=some o/\H b=none
 bsz:base.objs.size<=s.heap.objs.size
 funs:s.heap.FunFrames base outer
 frf:∀ b∈frs outer,H b=none
 hok:HOk P w H s.heap
 bare:AllBare s.gens
noncomputable def CE (outer:List Env) (P:Program) (w:World) (H:Hp) (s:Shared) (Q:VK) (u:Value) (s':Shared):Prop:=
 ∃ v H',s'.os=s.os/\AllBare s'.gens/\Un (frs outer) [] H H' s.heap s'.heap/\HOk P w H' s'.heap/\RelV v u/\Q v H'
noncomputable def CR (CX:CXT) (outer:List Env) (P:Program) (w:World) (H:Hp) (s:Shared) (Q:VK) (E:XK) (r:Result) (s':Shared):Prop:=
 match r with
 | .ok (.ret u)=>CE outer P w H s Q u s'
 | .ok _=>False
 | .error e=>CX outer H s E e s'
structure Qg (P:Program) (w:World) (K:wK) (mg:Str->Option Value) (base:Heap) (CX:CXT) (k:Nat) (f:Addr) (fd:FuncData) (ps:List Str) (sp:Sp):Prop where
 len:∀ vs H Q E,sp vs H Q E->vs.length=ps.length
 run:∀(A:Around) (outer:List Env) (s:Shared) (H:Hp) (args:Args) (us:List Value) (vs:List V) (Q:VK) (E:XK),Y3 k A->qMC P w K mg base A outer s H->BindsTo s fd args (ps.zip us)->ql vs us->sp vs H Q E->
  codeAny (model P w) A (.call (.ref f) args) (CR CX outer P w H s Q E) s
section
variable {X:Cx} {pins:List (Addr×Obj)} {σ:St} {H:Hp} {s s':Shared}
theorem Inv.env0 (I:Inv X pins σ H s):qMC X.prog X.w X.K X.mg X.base X.A X.stack s H:=
 ⟨I.ok.frames,I.ok.mod,I.bs,zM I.ok.bsz I.sz,I.stack,I.stkFree,I.hok,I.bare⟩
theorem Inv.after {Q:VK} {u:Value} (I:Inv X pins σ H s) (h:CE X.stack X.prog X.w H s Q u s'):EP X pins σ Q u s':=by
 obtain ⟨v,H',os,bare,un,hok,r,q⟩:=h
 obtain ⟨hh,g,d,t,os'⟩:=s'
 obtain rfl:os'=s.os:=os
 exact ⟨v,H',I.call (h':=hh) (g':=g) (d':=d) (t':=t) (ch:=[]) un hok bare (fun b z=>absurd z (by simp)),r,q⟩
end
noncomputable def qG9 (sp:Sp) (dvs:List V) (E:XK) (t:TA):TE:=fun σ H Q=>t σ H fun vs H1=>sp (vs++dvs) H1 Q E
noncomputable def Binds (K:wK) (fd:FuncData) (ps:List Str) (ds:List Value):Prop:=
 ∀(s:Shared) (us:List Value),K.In s.heap->(us++ds).length=ps.length->BindsTo s fd ⟨us,[]⟩ (ps.zip (us++ds))
theorem Binds.all {K:wK} {fd:FuncData} {ps:List Str} (h:∀ us:List Value,us.length=ps.length->bindArgs fd ⟨us,[]⟩=pure (ps.zip us)):Binds K fd ps []:=fun s us _ hl=>by
 rw [zK] at hl ⊢
 exact .of_eq (h us hl)
noncomputable def qF1 (CX:CXT) (X:Cx) (E:XK):Prop:=∀(pins:List (Addr×Obj)) (σ:St) (H:Hp) (s:Shared) (e:Value) (s':Shared),Inv X pins σ H s->CX X.stack H s E e s'->X.xe e s'
section
variable {X:Cx} {CX:CXT} {k:Nat} {f C:Addr} {fd:FuncData} {ps:List Str} {sp:Sp} {dvs:List V} {ds:List Value} {E:XK} {x m:Str} {p pos apos:Pos} {e o:Expr} {es:List Expr} {ta:TE} {t:TA}
theorem qKi {pins:List (Addr×Obj)} {σ:St} {H:Hp} {s:Shared} {Q:VK} {us:List Value} {vs:List V} (F:Qg X.prog X.w X.K X.mg X.base CX k f fd ps sp) (hr:Y3 k X.A) (hb:Binds X.K fd ps ds) (hd:ql dvs ds) (hx:qF1 CX X E)
  (I:Inv X pins σ H s) (r:ql vs us) (h:sp (vs++dvs) H Q E):wpAny (model X.prog X.w) X.A (call (.ref f) us) (EP X pins σ Q) X.xe s:=by
 have r2:ql (vs++dvs) (us++ds):=r.append hd
 have hl:(us++ds).length=ps.length:=by rw [<- r2.length]; exact F.len _ _ _ _ h
 refine wpAny_call (ZM (F.run X.A X.stack s H ⟨us,[]⟩ (us++ds) (vs++dvs) Q E hr I.env0 (hb s us I.kIn hl) r2 h) fun r s' hq=>?_)
 cases r with
 | error e=>exact hx pins σ H s e s' I hq
 | ok fl=>
  cases fl with
  | ret u=>exact I.after hq
  | next=>exact kL hq
  | brk=>exact kL hq
  | cont=>exact kL hq
theorem qIq (F:Qg X.prog X.w X.K X.mg X.base CX k f fd ps sp) (hr:Y3 k X.A) (hg:Gl X x) (hm:X.mg x=some (.ref f)) (hk:UW X.K (.ref f)=true) (hb:Binds X.K fd ps ds) (hd:ql dvs ds) (hx:qF1 CX X E)
  (ha:PA X (e::es) t) (hdb:(x == ("__debug__" : Str))=false:=by decide) (he:starEach (e::es) X.env=(false,eval e X.env)::starEach es X.env:=by rfl) (hpl:(backTo pos (starEach es X.env)).any (·.1)=false:=by rfl) :
  PE X (.Call (.Name x p) (e::es) [] pos) (qG9 sp dvs E t):=by
 intro pins s σ H Q I h
 refine fE (qGX I hg hm ?_ hdb)
 refine PySem.W.callWith_K (h₀:=X.base) I.ok.mod.kin hk (thn (ha pos pins s σ H _ I h) fun us s1 ⟨vs,H1,I1,r,q⟩=>⟨I1.kIn,?_⟩) he hpl
 exact qKi F hr hb hd hx I1 r q
end
structure qW (N P:List Str) (sc:Scope):Prop where
 kind:sc.kind=.function
 co:sc.isCoroutine=false
 gen:sc.isGenerator=false
 nd:N.Nodup
 pre:N.take P.length=P
 par:∀ x∈P,sc.names.lookup x=some .local\/sc.names.lookup x=some .cell
 nofree:∀ y∈sc.names,y.2≠.free
theorem qB1 {kindOf:Str->Option NameKind} {x:Str}:∀{binds:List (Str×Value)} {m:Str->Option Value},(∀ v,(x,v)∉binds)->bindL kindOf binds m x=m x
 | [],_,_=>rfl
 | (n,v)::r,m,h=>by
  unfold bindL
  rw [qB1 fun w hw=>h w (wJ _ hw)]
  split
  ·have:x≠n:=by rintro rfl; exact h v wD
   simp [this]
  ·rfl
theorem qBc {kindOf:Str->Option NameKind} {x:Str}:∀{binds:List (Str×Value)} {m:Str->Option Value},(∀ v,(x,v)∉binds)->bindC kindOf binds m x=m x
 | [],_,_=>rfl
 | (n,v)::r,m,h=>by
  unfold bindC
  rw [qBc fun w hw=>h w (wJ _ hw)]
  split
  ·rfl
  ·have:x≠n:=by rintro rfl; exact h v wD
   simp [this]
theorem qBZ {kindOf:Str->Option NameKind} {x:Str} {v:Value}:∀{P:List Str} {vs:List Value} {i:Nat} {m:Str->Option Value},P.Nodup->P[i]? = some x->vs[i]? = some v->kindOf x=some .local->
  bindL kindOf (P.zip vs) m x=some v
 | [],_,_,_,_,h,_,_=>by simp at h
 | _::_,[],_,_,_,_,h,_=>by simp at h
 | p::P,w::vs,0,m,nd,h1,h2,hk=>by
  simp at h1 h2; subst h1; subst h2
  show bindL kindOf ((p,w)::P.zip vs) m p=_
  unfold bindL
  rw [qB1 fun v hv=>(zX.mp nd).1 (UI hv).1,if_pos hk]
  simp
 | p::P,w::vs,i+1,m,nd,h1,h2,hk=>by
  show bindL kindOf ((p,w)::P.zip vs) m x=_
  unfold bindL
  exact qBZ (i:=i) (zX.mp nd).2 (by simpa using h1) (by simpa using h2) hk
theorem qBo {kindOf:Str->Option NameKind} {x:Str} {v:Value}:∀{P:List Str} {vs:List Value} {i:Nat} {m:Str->Option Value},P.Nodup->P[i]? = some x->vs[i]? = some v->kindOf x≠some .local->
  bindC kindOf (P.zip vs) m x=some v
 | [],_,_,_,_,h,_,_=>by simp at h
 | _::_,[],_,_,_,_,h,_=>by simp at h
 | p::P,w::vs,0,m,nd,h1,h2,hk=>by
  simp at h1 h2; subst h1; subst h2
  show bindC kindOf ((p,w)::P.zip vs) m p=_
  unfold bindC
  rw [qBc fun v hv=>(zX.mp nd).1 (UI hv).1,if_neg hk]
  simp
 | p::P,w::vs,i+1,m,nd,h1,h2,hk=>by
  show bindC kindOf ((p,w)::P.zip vs) m x=_
  unfold bindC
  exact qBo (i:=i) (zX.mp nd).2 (by simpa using h1) (by simpa using h2) hk
noncomputable def start (N:List Str) (vs:List V):St:=vs.map some++wN (N.length - vs.length) none
noncomputable def qIO (CX:CXT) (P:Program) (w:World) (K:wK) (mg:Str->Option Value) (base:Heap) (N:List Str) (qual:Str) (scope:Scope) (f:Addr) (cd:Value) (A:Around) (outer:List Env) (s:Shared) (H:Hp) (E:XK):Cx where
 prog:=P
 w:=w
 K:=K
 mg:=mg
 base:=base
 A:=A.deeper (envOfC qual scope s.heap.objs.size f cd)
 N:=N
 s₀:=s
 H₀:=H
 env:=envOfC qual scope s.heap.objs.size f cd
 outer:=outer
 stack:=envOfC qual scope s.heap.objs.size f cd::outer
 ex:=[]
 calm:=true
 fn:=fun _=>true
 pn:=[]
 xe:=fun e s'=>wpAny (model P w) (A.deeper (envOfC qual scope s.heap.objs.size f cd)) (leaving (envOfC qual scope s.heap.objs.size f cd) e) (fun _ s''=>CX outer H s E e s'') (fun e' s''=>CX outer H s E e' s'') s'
theorem J2 {sc:Scope} {n:Nat} {x:Str} (h:sc.names.lookup x=some .cell):∃ c,(cellsFrom n sc.names []).lookup x=some c:=by
 have q:=PySem.W.cellsFrom_some sc.names n [] (.inl h)
 exact TV.mp q
theorem qFz {CX:CXT} {P:Program} {w:World} {K:wK} {mg:Str->Option Value} {base:Heap} {N ps:List Str} {qual:Str} {scope:Scope} {f:Addr} {cd:Value} {A:Around} {outer:List Env} {s s1:Shared} {H:Hp} {E:XK} {us:List Value} {vs:List V}
  (S:qW N ps scope) (hd:A.handled=none) (e0:qMC P w K mg base A outer s H) (hl:vs.length=ps.length) (r:ql vs us)
  (x:InCallC s s.heap.objs.size (bindL (envOfC qual scope s.heap.objs.size f cd).kindOf (ps.zip us) fun _=>none) (cellsFrom (s.heap.objs.size+1) scope.names []) (bindC (envOfC qual scope s.heap.objs.size f cd).kindOf (ps.zip us) fun _=>none) s1) :
  Inv (qIO CX P w K mg base N qual scope f cd A outer s H E) [] (start N vs) H s1:=by
 have hpl:ps.length<=N.length:=by have:=congrArg WC S.pre; rw [yQ] at this; omega
 obtain ⟨h1,tk,rfl,hk⟩:=x.done
 have noA:∀ b:Addr,b∉(qIO CX P w K mg base N qual scope f cd A outer s H E).ex:=fun b z=>absurd (show b∈([]:List Addr) from z) (by simp)
 refine ⟨⟨e0.mod,S.kind,rfl,rfl,wH _,fun y z c h1 h2=>?_,fun y hy=>?_,fun y c _ h=>?_,fun _=>hd,Around.frames_deeper e0.frames,.inr ⟨rfl,rfl⟩,fun b z=>absurd z (noA b),e0.bs,e0.bsz,fun b _ _=>noA b,fun b z=>absurd z (noA b),e0.funs,e0.frf⟩,
  rfl,e0.bare,Un.kept hk,⟨_,x.toInCall.ns,fun i y v h1 h2 h3=>?_⟩,fun y c h=>⟨_,x.cell y c h⟩,e0.hok.fresh (wH _),fun y c h=>?_,fun p hp=>absurd (show p∈([]:List (Addr×Obj)) from hp) (by simp),e0.hok.kept hk,?_⟩
 ·exact name_of_addr x.apart (vQ h1) (vQ h2)
 ·have hy:scope.names.lookup y=some .cell\/scope.names.lookup y=some .free:=hy
  rcases hy with hy | hy
  ·exact J2 hy
  ·exact absurd rfl (S.nofree _ (vQ hy))
 ·exact vR (x.above y c (vQ h))
 ·have hi:i<vs.length:=by
   unfold start at h2
   by_cases hi:i<vs.length
   ·exact hi
   ·rw [zU (by simpa using hi)] at h2
    rw [uZ] at h2
    split at h2 <;> cases h2
  have ha:vs[i]? = some v:=by
   unfold start at h2
   rw [yL (by simpa using hi),wQ] at h2
   cases e:vs[i]? with
   | none=>rw [e] at h2; cases h2
   | some a=>rw [e] at h2; cases h2; rfl
  obtain ⟨u,hu,rv⟩:=r.get ha
  have hp:ps[i]? = some y:=by
   rw [<- S.pre,TX (by omega)]; exact h1
  have ndP:ps.Nodup:=by rw [<- S.pre]; exact S.nd.sublist (xY _ _)
  refine ⟨u,rv,?_⟩
  rcases S.par y (vM hp) with k | k
  ·exact .inl ⟨k,qBZ ndP hp hu k⟩
  ·obtain ⟨c,e⟩:=J2 (n:=s.heap.objs.size+1) k
   refine .inr ⟨.inl k,c,e,?_⟩
   have q:=x.cell y c e
   rw [qBo ndP hp hu (by show scope.names.lookup y≠_; rw [k]; decide)] at q
   exact q
 ·exact e0.hok.fresh (vR (x.above y c (vQ h)))
 ·unfold start
  show _=N.length
  rw [wO,wC,zN]
  omega
theorem qMO {CX:CXT} {P:Program} {w:World} {K:wK} {mg:Str->Option Value} {base:Heap} {k:Nat} {f:Addr} {name qual:Str} {params:Arguments} {body:List Stmt} {scope:Scope} {dV kV doc pm cdv ct oc:Value} {an od:Option Addr}
  {osl:Array (Option Value)} {N ps:List Str} {sp:Sp} (lk:K.lookup f=some ⟨oc,od,.func (kR name qual params body scope dV kV doc pm an cdv ct),osl⟩) (hcd:UX K cdv qual=true) (S:qW N ps scope)
  (len:∀ vs H Q E,sp vs H Q E->vs.length=ps.length)
  (hbody:∀(A:Around) (outer:List Env) (s:Shared) (H:Hp) (vs:List V) (Q:VK) (E:XK),Y3 k (A.deeper (envOfC qual scope s.heap.objs.size f cdv))->sp vs H Q E->
   ∃ t,PSs (qIO CX P w K mg base N qual scope f cdv A outer s H E) body t/\t { nx:=fun _ H'=>Q .non H',rt:=Q } (start N vs) H) :
  Qg P w K mg base CX (k+1) f (kR name qual params body scope dV kV doc pm an cdv ct) ps sp:=by
 refine ⟨len,fun A outer s H args us vs Q E hr e0 hb r hsp=>?_⟩
 have hl:=len _ _ _ _ hsp
 have KX:K.In s.heap:=e0.mod.kin.keeps fun b o e=>(e0.bs b o e).1
 have lim:s.heap.NoLimit:=e0.mod.nolimit.keeps fun b o e=>(e0.bs b o e).1
 have hkind:∀ y∈ps.zip us,scope.names.lookup y.1=some .local\/(scope.names.lookup y.1=some .cell/\((cellsFrom (s.heap.objs.size+1) scope.names []).lookup y.1).isSome=true):=fun ⟨n,v⟩ hy=>by
  rcases S.par n (UI hy).1 with q | q
  ·exact .inl q
  ·exact .inr ⟨q,PySem.W.cellsFrom_some _ _ _ (.inl q)⟩
 refine codeAny_call_function hr.depth (KX _ _ lk) rfl S.co S.gen rfl (PySem.W.codeRec_of KX hcd) (hb _ _ _ _ ?_)
 refine wpAny_newFunctionEnv_cells S.kind hkind fun env he s1 x=>?_
 subst he
 refine ⟨lim.keeps x.toInCall.keep,codeAny_func ?_⟩
 obtain ⟨t,ht,hq⟩:=hbody A outer s H vs Q E (hr.deeper _) hsp
 have I:Inv (qIO CX P w K mg base N qual scope f cdv A outer s H E) [] (start N vs) H s1:=qFz S hr.hd e0 hl r x
 refine xQ (ht [] s1 (start N vs) H _ I hq) (fun fl s' hs=>?_) fun e s' hs=>hs
 have fin:∀{σ':St} {H':Hp} {v:V} {u:Value},Inv (qIO CX P w K mg base N qual scope f cdv A outer s H E) [] σ' H' s'->RelV v u->Q v H'->CE outer P w H s Q u s':=
  fun {σ' H' v u} J rv q=>⟨v,H',J.os,J.bare,J.base,J.hok,rv,q⟩
 cases fl with
 | ret u=>
  obtain ⟨v,σ',H',J,rv,q⟩:=hs
  exact fin J rv q
 | next=>
  obtain ⟨σ',H',J,q⟩:=hs
  exact fin (v:=V.non) (u:=xE) J rfl q
 | brk=>
  obtain ⟨_,_,_,q⟩:=hs
  exact kL q
 | cont=>
  obtain ⟨_,_,_,q⟩:=hs
  exact kL q
section
variable {X:Cx} {x:Str} {p pos:Pos} {e:Expr} {es:List Expr} {t:TA} {id T:String} {r:List V->Hp->VK->Prop}
noncomputable def tCB (r:List V->Hp->VK->Prop) (t:TA):TE:=fun σ H Q=>t σ H fun vs H1=>r vs H1 Q
theorem qK (hc:Qw X (.builtin id) r) (hg:Gl X x) (hm:X.mg x=none) (hv:bootBuiltins x=some (.builtin id)) (ha:PA X (e::es) t) (hn:x≠"__name__":=by decide) (hdb:(x == ("__debug__" : Str))=false:=by decide)
  (he:starEach (e::es) X.env=(false,eval e X.env)::starEach es X.env:=by rfl) (hpl:(backTo pos (starEach es X.env)).any (·.1)=false:=by rfl):PE X (.Call (.Name x p) (e::es) [] pos) (tCB r t):=by
 intro pins s σ H Q I h
 refine fE (Jh I hg hm hv ?_ hn hdb)
 exact VW (thn (ha pos pins s σ H _ I h) fun us s1 ⟨vs,H1,I1,r1,q1⟩=>hc pins s1 σ H1 vs us Q I1 r1 q1) he hpl
theorem qe (hc:Qw X (.type T) r) (hg:Gl X x) (hm:X.mg x=none) (hv:bootBuiltins x=some (.type T)) (ha:PA X (e::es) t) (hn:x≠"__name__":=by decide) (hdb:(x == ("__debug__" : Str))=false:=by decide)
  (he:starEach (e::es) X.env=(false,eval e X.env)::starEach es X.env:=by rfl) (hpl:(backTo pos (starEach es X.env)).any (·.1)=false:=by rfl):PE X (.Call (.Name x p) (e::es) [] pos) (tCB r t):=by
 intro pins s σ H Q I h
 refine fE (Jh I hg hm hv ?_ hn hdb)
 exact uG (thn (ha pos pins s σ H _ I h) fun us s1 ⟨vs,H1,I1,r1,q1⟩=>hc pins s1 σ H1 vs us Q I1 r1 q1) he hpl
end
end L2
namespace HT
open PySem PyProof.Rows
noncomputable def lexLt:List Int->List Int->Bool
 | [],[]=>false
 | [],_::_=>true
 | _::_,[]=>false
 | x::xs,y::ys=>if x=y then lexLt xs ys else decide (x<y)
theorem lexLt_cons (x y:Int) (xs ys:List Int):lexLt (x::xs) (y::ys)=if x=y then lexLt xs ys else decide (x<y):=rfl
theorem lexLt_nil_nil:lexLt [] []=false:=rfl
theorem lexLt_nil_cons (y:Int) (ys:List Int):lexLt [] (y::ys)=true:=rfl
theorem lexLt_cons_nil (x:Int) (xs:List Int):lexLt (x::xs) []=false:=rfl
theorem eqAt_int (A:Around) (s:Shared) (a:Int) (t:Tok) (c:Int) (u:Tok):∃ e,gP A s (.int a t) (.int c u) e/\(e=true↔a=c):=
 ⟨(a == c),WT a t c u,by simp⟩
theorem rcLt_int (A:Around) (s:Shared) (a:Int) (t:Tok) (c:Int) (u:Tok) (prog:Program) (w:World) (E:Value->Shared->Prop) (Q:Value->Shared->Prop) (h:Q (.bool (decide (a<c))) s) :
  wpAny (model prog w) A (richCompare .Lt (.int a t) (.int c u)) Q E s:=
 (PyProof.Rows.lt_int h:wpAny (model prog w) A (compareOp .Lt (.int a t) (.int c u)) Q E s)
section
open PySem.SeqAt
open PySem.AutoSeq1 (wpAny_loadPart')
open PySem.MeetsSeq PySem.MeetsSeq2 PySem.MeetsSeq3
end
section
variable {prog:Program} {w:World} {A:Around} {E:Value->Shared->Prop} {s:Shared}
theorem cat_tup {t b:Addr} {vs ws:List Value} {Q:Value->Shared->Prop} (ht:IsTup s.heap t vs.toArray) (hb:IsTup s.heap b ws.toArray) (hv:vs≠[])
  (h1:ws=[]->Q (.ref t) s) (h2:ws≠[]->Q (.ref s.heap.objs.size) { s with heap:=s.heap.push { cls:=.type "tuple",data:=.seq (vs++ws).toArray } })
  (hsz:vs.length+ws.length<=sizeLine):wpAny (model prog w) A (binaryOp .Add (.ref t) (.ref b)) Q E s:=by
 obtain ⟨⟨cls,dd,data,sl⟩,ho,hc,n,hd⟩:=id ht
 obtain ⟨⟨cls2,dd2,data2,sl2⟩,ho2,hc2,n2,hd2⟩:=id hb
 simp only at hc hd hc2 hd2
 subst hc hd hc2 hd2
 have e:vs.toArray++ws.toArray=(vs++ws).toArray:=by simp
 by_cases hw:ws=[]
 ·exact VG ⟨_,ho,rfl⟩ ⟨_,ho2,rfl⟩ VX TY ZN ZF (fV _ _)
   (tuple_addW1 t b vs.toArray ws.toArray n n2 dd dd2 sl sl2 (by simpa using hv) (by simp [hw])) ⟨ho,ho2,h1 hw⟩
 ·refine VG ⟨_,ho,rfl⟩ ⟨_,ho2,rfl⟩ VX TY ZN ZF (fV _ _)
   (tuple_addW2 t b vs.toArray ws.toArray n n2 dd dd2 sl sl2 (by simpa using hv) (by simpa using hw) (by rw [wL,wL]; exact hsz)) ⟨ho,ho2,?_⟩
  rw [e]
  exact h2 hw
noncomputable def sIx (n d:Nat):Option Int->Nat
 | none=>d
 | some v=>if v<0 then (v+(n:Int)).toNat else min v.toNat n
theorem sIx_none (n d:Nat):sIx n d none=d:=rfl
theorem sIx_nat (n d k:Nat):sIx n d (some (k:Int))=min k n:=by
 show (if (k:Int)<0 then ((k:Int)+(n:Int)).toNat else min (k:Int).toNat n)=min k n
 rw [if_neg (by omega),yD]
theorem qLQ (n d:Nat) (hd:d<=n) (o:Option Int):sIx n d o<=n:=by
 cases o with
 | none=>exact hd
 | some v=>
  show (if v<0 then (v+(n:Int)).toNat else min v.toNat n)<=n
  by_cases hv:v<0
  ·rw [if_pos hv]; omega
  ·rw [if_neg hv]; exact Nat.min_le_right _ _
theorem qF4 (v:Int) (n d:Nat):(if v<0 then max (v+(n:Int)) 0 else min v (n:Int))=((sIx n d (some v):Nat):Int):=by
 show (if v<0 then max (v+(n:Int)) 0 else min v (n:Int))=(((if v<0 then (v+(n:Int)).toNat else min v.toNat n):Nat):Int)
 by_cases hv:v<0
 ·simp only [if_pos hv]; omega
 ·simp only [if_neg hv]; omega
theorem qEU (lo hi:Option Int) (n:Nat):fM lo hi 1 (n:Int)=(((sIx n 0 lo:Nat):Int),((sIx n n hi:Nat):Int)):=by
 have h1:¬ ((1:Int)<0):=by omega
 unfold fM
 simp only [h1,if_false]
 refine hV ?_ ?_
 ·cases lo with
  | none=>rfl
  | some v=>exact qF4 v n 0
 ·cases hi with
  | none=>rfl
  | some v=>exact qF4 v n n
theorem qER (i j:Nat):kX (i:Int) (j:Int) 1=j - i:=by
 unfold kX
 have h1:(1:Int) > 0:=by omega
 simp only [h1,if_true,Int.ediv_one]
 split <;> omega
theorem qAN {v:Value} {o:Option Int} {Q:Option Int->Shared->Prop} (p:IsPart v o) (h:Q o s):wpAny (model prog w) A (Builtin.Slice.slicePartIndex v) Q E s:=by
 cases p with
 | none=>exact slicePart_none h
 | int i t=>exact slicePart_int h
theorem QF {sl:Addr} {vl vu:Value} {lo hi:Option Int} {n:Nat} {Q:Int×Int×Nat->Shared->Prop} (hs:s.heap.IsSliceOf sl vl vu .none) (pl:IsPart vl lo) (pu:IsPart vu hi)
  (h:Q (((sIx n 0 lo:Nat):Int),1,sIx n n hi - sIx n 0 lo) s):wpAny (model prog w) A (UY (.ref sl) (pure (n:Int))) Q E s:=by
 obtain ⟨os,hos,hcs,hds⟩:=id hs
 unfold UY Builtin.Slice.sliceFields
 refine wB (wB (fP hos hds (x:=vl) rfl (wB (fP hos hds (x:=vu) rfl (wB (fP hos hds (x:=.none) rfl (wI ?_)))))))
 refine wB (slicePart_none ?_)
 show wpAny _ _ (if ((1:Int) == 0)=true then _ else _) _ _ s
 rw [if_neg (by decide)]
 refine wB (qAN pl (wB (qAN pu (wB (wI ?_)))))
 show wpAny _ _ (match fM lo hi 1 (n:Int) with | (lo,hi)=>pure (lo,(1:Int),kX lo hi 1)) _ _ s
 rw [qEU lo hi n]
 show wpAny _ _ (pure (((sIx n 0 lo:Nat):Int),(1:Int),kX ((sIx n 0 lo:Nat):Int) ((sIx n n hi:Nat):Int) 1)) _ _ s
 rw [qER]
 exact wI h
theorem qG7 (xs:Array Value) (i k:Nat):((wV k).filterMap fun (m:Nat)=>xs[((i:Int)+(m:Int)*1).toNat]?).toArray=((xs.toList.drop i).take k).toArray:=by
 have e:(fun (m:Nat)=>xs[((i:Int)+(m:Int)*1).toNat]?)=fun m=>xs[i+m]?:=by
  funext m
  have:((i:Int)+(m:Int)*1).toNat=i+m:=by omega
  rw [this]
 rw [e]
 have:=pick_run xs i k
 rw [List.filterMap_map] at this
 have e2:((fun x=>xs[x]?)∘fun x=>i+x)=fun m=>xs[i+m]?:=rfl
 rw [e2] at this
 rw [this]
theorem getItem_tuple_cut {t sl:Addr} {items:Array Value} {vl vu:Value} {lo hi:Option Int} {Q:Value->Shared->Prop} (ht:IsTup s.heap t items) (hs:s.heap.IsSliceOf sl vl vu .none) (pl:IsPart vl lo) (pu:IsPart vu hi)
  (hw:¬ (sIx items.size 0 lo=0/\sIx items.size items.size hi=items.size))
  (h:Q (.ref s.heap.objs.size) { s with heap:=s.heap.push { cls:=.type "tuple",data:=.seq ((items.toList.drop (sIx items.size 0 lo)).take (sIx items.size items.size hi - sIx items.size 0 lo)).toArray } })
  (hsz:items.size<=sizeLine):wpAny (model prog w) A (getItem (.ref t) (.ref sl)) Q E s:=by
 have htake:sizeOk (.seq ((items.toList.drop (sIx items.size 0 lo)).take (sIx items.size items.size hi - sIx items.size 0 lo)).toArray):=by
  show ((items.toList.drop (sIx items.size 0 lo)).take (sIx items.size items.size hi - sIx items.size 0 lo)).toArray.size<=sizeLine
  rw [wL,yQ,kS,wM]
  omega
 have hj:sIx items.size items.size hi<=items.size:=qLQ _ _ (wH _) hi
 obtain ⟨os,hos,hcs,hds⟩:=id hs
 have hTs:s.TypeIs (.ref sl) "slice":=⟨os,hos,hcs⟩
 unfold getItem
 try with_reducible refine vP ?_
 first | refine wB (wI ?_) | skip
 refine wB (wpAny_sequenceKey ht.typeIs (by decide) ?_)
 refine wB (xZ (name:=gI "__getitem__") ht.typeIs vT
  (vV vT ht.typeIs entry_tuple_getitem ?_ (args_tuple_getitem _ _)))
 show wpAny _ _ (UZ (.ref t) >>= _) _ _ s
 refine wB (tupleItemsOf_ ht ?_)
 refine wB (gZ hTs ?_)
 rw [if_pos (by decide)]
 refine wB (QF hs pl pu ?_)
 have hno:¬ ((((sIx items.size 0 lo:Nat):Int) == 0 && (1:Int) == 1 && (sIx items.size items.size hi - sIx items.size 0 lo) == items.size)=true):=by
  intro q
  rw [yR,yR] at q
  have q1:((sIx items.size 0 lo:Nat):Int)=0:=eq_of_beq q.1.1
  have q2:sIx items.size items.size hi - sIx items.size 0 lo=items.size:=eq_of_beq q.2
  exact hw ⟨by omega,by omega⟩
 show wpAny _ _ (if (((sIx items.size 0 lo:Nat):Int) == 0 && (1:Int) == 1 && (sIx items.size items.size hi - sIx items.size 0 lo) == items.size)=true then _ else _) _ _ s
 rw [if_neg hno,qG7]
 first
  | exact wB (m:=hW _) (xJ (wI ⟨_,rfl,wI h⟩) htake)
  | exact wB (m:=hW _) (xJ (wB (wI (wI ⟨_,rfl,wI h⟩))) htake)
  | exact wB (wB (m:=hW _) (xJ (wI (wI ⟨_,rfl,wI h⟩)) htake))
  | exact wB (wB (m:=hW _) (xJ (wI ⟨_,rfl,wI h⟩) htake))
end
end HT
namespace L2
open PySem PySem.Spec PyProof.Rows
noncomputable abbrev TO:=St->Hp->(Option Int->Hp->Prop)->Prop
noncomputable def PO (X:Cx) (e:Option Expr) (t:TO):Prop:=
 ∀(pins:List (Addr×Obj)) (s:Shared) (σ:St) (H:Hp) (Q:Option Int->Hp->Prop),Inv X pins σ H s->t σ H Q->
  wpAny (model X.prog X.w) X.A (evalPart e X.env) (fun u s'=>∃ o H',Inv X pins σ H' s'/\IsPart u o/\Q o H') X.xe s
noncomputable def qGb:TO:=fun _ H Q=>Q none H
noncomputable def qL0 (t:TE):TO:=fun σ H Q=>t σ H fun x H1=>∃ i,x=.int i/\Q (some i) H1
theorem intsAre_of {ns:List Int}:∀{us:List Value},ql (ns.map V.int) us->IntsAre us ns:=by
 induction ns with
 | nil=>intro us r; rw [List.map_nil] at r; cases r; exact .nil
 | cons n ns ih=>
  intro us r
  rw [xH] at r
  cases r with
  | cons r1 r2=>
   obtain ⟨t,e⟩:=r1
   subst e
   exact .cons n t (ih r2)
section
variable {X:Cx} {e:Expr} {te:TE} {lo hi:Option Expr} {tl th:TO} {pos p2:Pos}
theorem qCM:PO X none qGb:=by
 intro pins s σ H Q I h
 rw [evalPart_none]
 exact wI ⟨none,H,I,.none,h⟩
theorem qCe (h:PE X e te):PO X (some e) (qL0 te):=by
 intro pins s σ H Q I hw
 rw [evalPart_some]
 refine thn (h pins s σ H _ I hw) fun u s1 ⟨x,H1,I1,r1,q1⟩=>?_
 obtain ⟨i,rfl,q⟩:=q1
 obtain ⟨t,rfl⟩:=r1
 exact ⟨some i,H1,I1,.int i t,q⟩
noncomputable def SlR (X:Cx) (r:V->Option Int->Option Int->Hp->VK->Prop):Prop:=
 ∀(pins:List (Addr×Obj)) (s:Shared) (σ:St) (H:Hp) (x:V) (v vl vu:Value) (lo hi:Option Int) (sl:Addr) (Q:VK),Inv X pins σ H s->RelV x v->s.heap.IsSliceOf sl vl vu .none->IsPart vl lo->IsPart vu hi->r x lo hi H Q->
  ∃ T id,typeLookup (.type T) "__getitem__" = pure (some (.builtin id))/\s.TypeIs v T/\wpAny (model X.prog X.w) X.A (getItem v (.ref sl)) (EP X pins σ Q) X.xe s
theorem SlR.or {r r':V->Option Int->Option Int->Hp->VK->Prop} (h:SlR X r) (h':SlR X r'):SlR X (fun x lo hi H Q=>r x lo hi H Q\/r' x lo hi H Q):=by
 intro pins s σ H x v vl vu lo hi sl Q I rx hs pl pu q
 rcases q with q | q
 ·exact h pins s σ H x v vl vu lo hi sl Q I rx hs pl pu q
 ·exact h' pins s σ H x v vl vu lo hi sl Q I rx hs pl pu q
noncomputable def tSl (r:V->Option Int->Option Int->Hp->VK->Prop) (te:TE) (tl th:TO):TE:=fun σ H Q=>te σ H fun x H1=>tl σ H1 fun l H2=>th σ H2 fun u H3=>r x l u H3 Q
theorem qAs {r:V->Option Int->Option Int->Hp->VK->Prop} (hr:SlR X r) (he:PE X e te) (hl:PO X lo tl) (hu:PO X hi th):PE X (.Subscript e (.Slice lo hi none p2) pos) (tSl r te tl th):=by
 intro pins s σ H Q I h
 refine Subscript_ (thn (he pins s σ H _ I h) fun v s1 ⟨x,H1,I1,r1,q1⟩=>?_)
 refine wpAny_Slice (thn (hl pins s1 σ H1 _ I1 q1) fun vl s2 ⟨l,H2,I2,pl,q2⟩=>thn (hu pins s2 σ H2 _ I2 q2) fun vu s3 ⟨u,H3,I3,pu,q3⟩=>?_)
 rw [evalPart_none]
 refine wI ?_
 have I4:Inv X pins σ H3 { s3 with heap:=s3.heap.push { cls:=.type "slice",data:=.fields #[vl,vu,.none] } }:=I3.kept (t':=s3.toks) fun b ob q=>wG _ q
 obtain ⟨T,id,hT,ht,hg⟩:=hr pins { s3 with heap:=s3.heap.push { cls:=.type "slice",data:=.fields #[vl,vu,.none] } } σ H3 x v vl vu l u s3.heap.objs.size Q I4 r1 (Heap.IsSliceOf.new ..) pl pu q3
 show wpAny (model X.prog X.w) X.A (subscriptTail e (.Slice lo hi none p2) v (.ref s3.heap.objs.size)) (EP X pins σ Q) X.xe { s3 with heap:=s3.heap.push { cls:=.type "slice",data:=.fields #[vl,vu,.none] } }
 exact tail_any (ops:=[.ref s3.heap.objs.size,v]) ht hT hg (by with_unfolding_all rfl)
noncomputable def qHk (xs:List V) (lo hi:Option Int):List V:=(xs.drop (HT.sIx xs.length 0 lo)).take (HT.sIx xs.length xs.length hi - HT.sIx xs.length 0 lo)
theorem Ya (xs:List V) (lo hi:Option Int):(qHk xs lo hi).length<=xs.length:=by
 unfold qHk
 rw [yQ,kS]
 omega
noncomputable def qN1 (K:wK):V->Option Int->Option Int->Hp->VK->Prop:=fun x lo hi H Q=>∃ a xs,x=.ref a/\SqT K H a xs/\
 ¬ (HT.sIx xs.length 0 lo=0/\HT.sIx xs.length xs.length hi=xs.length)/\∀ p,H p=none->Q (.ref p) (upd H p (.tup (qHk xs lo hi)))
theorem qKl:SlR X (qN1 X.K):=by
 intro pins s σ H x v vl vu lo hi sl Q I rx hs pl pu h
 obtain ⟨a,xs,rfl,hx,hw,q⟩:=h
 cases rx
 obtain ⟨its,r,ht,hz⟩:=I.tuple hx
 have hlen:its.toArray.size=xs.length:=by rw [wL]; exact r.length.symm
 refine ⟨"tuple",_,vT.lookup,ht.typeIs,?_⟩
 refine HT.getItem_tuple_cut ht hs pl pu (by rw [hlen]; exact hw) ?_ (by rw [hlen]; exact hz)
 rw [hlen]
 refine ⟨.ref s.heap.objs.size,_,I.laid (t':=s.toks) (o:=.tup (qHk xs lo hi)) (fun b ob q=>wG _ q) (wH _) ?_,rfl,q _ (I.hok.fresh (wH _))⟩
 exact ⟨zM (Ya xs lo hi) hz,_,(r.drop (HT.sIx xs.length 0 lo)).take (HT.sIx xs.length xs.length hi - HT.sIx xs.length 0 lo),IsTup.new _ _,NoD.new rfl⟩
noncomputable def qMW (K:wK):R2:=fun x y H Q=>∃ a b xs ys,x=.ref a/\y=.ref b/\SqT K H a xs/\SqT K H b ys/\xs≠[]/\xs.length+ys.length<=sizeLine/\
 (ys=[]->Q (.ref a) H)/\(ys≠[]->∀ p,H p=none->Q (.ref p) (upd H p (.tup (xs++ys))))
theorem ql.nil_iff {xs:List V} {us:List Value} (r:ql xs us):us=[]↔xs=[]:=by
 cases r with
 | nil=>simp
 | cons _ _=>simp
theorem qJ3:OpR X (binaryOp .Add) (qMW X.K):=by
 intro pins s σ H x y v u Q I rx ry h
 obtain ⟨a,b,xs,ys,rfl,rfl,ha,hb,hx,hz,q1,q2⟩:=h
 cases rx
 cases ry
 obtain ⟨its,r1,p1,_⟩:=I.tuple ha
 obtain ⟨its2,r2,p2,_⟩:=I.tuple hb
 refine HT.cat_tup p1 p2 (fun z=>hx (r1.nil_iff.mp z)) (fun z=>⟨.ref a,H,I,rfl,q1 (r2.nil_iff.mp z)⟩) (fun z=>?_) (by rw [<- r1.length,<- r2.length]; exact hz)
 refine ⟨.ref s.heap.objs.size,_,I.laid (t':=s.toks) (o:=.tup (xs++ys)) (fun b ob q=>wG _ q) (wH _) ?_,rfl,q2 (fun w=>z (r2.nil_iff.mpr w)) _ (I.hok.fresh (wH _))⟩
 exact ⟨by rw [wO]; exact hz,_,r1.append r2,IsTup.new _ _,NoD.new rfl⟩
end
noncomputable def ixN (n:Nat) (i:Int):Option Nat:=if 0<=i then (if i<n then some i.toNat else none) else if -(n:Int)<=i then some (i+n).toNat else none
noncomputable def atI {α:Type} (xs:List α) (i:Int):Option α:=(ixN xs.length i).bind fun j=>xs[j]?
theorem qCm {n:Nat} {i:Int} {j:Nat} (h:ixN n i=some j):seqIndex? i n=some j/\j<n/\-(n:Int)<=i/\i<n:=by
 unfold ixN at h
 by_cases h0:0<=i
 ·rw [if_pos h0] at h
  by_cases h1:i<n
  ·rw [if_pos h1] at h
   have e:i.toNat=j:=zS h
   exact ⟨by rw [seqIndex_of h0 h1,e],by omega,by omega,h1⟩
  ·rw [if_neg h1] at h; cases h
 ·rw [if_neg h0] at h
  by_cases h1 : -(n:Int)<=i
  ·rw [if_pos h1] at h
   have e:(i+n).toNat=j:=zS h
   exact ⟨by rw [seqIndex_neg (by omega) h1,e],by omega,h1,by omega⟩
  ·rw [if_neg h1] at h; cases h
theorem qCJ {α:Type} {xs:List α} {i:Int} {v:α} (h:atI xs i=some v):∃ j,seqIndex? i xs.length=some j/\xs[j]? = some v/\j<xs.length/\-(xs.length:Int)<=i/\i<xs.length:=by
 unfold atI at h
 cases e:ixN xs.length i with
 | none=>rw [e] at h; cases h
 | some j=>
  rw [e] at h
  obtain ⟨h1,h2,h3,h4⟩:=qCm e
  exact ⟨j,h1,h,h2,h3,h4⟩
theorem QX {α:Type} {xs:List α} {j:Nat} {v:α} (h:xs[j]? = some v):atI xs (j:Int)=some v:=by
 have hj:j<xs.length:=(wR.mp h).1
 have e:ixN xs.length (j:Int)=some j:=by
  unfold ixN
  rw [if_pos (by omega),if_pos (by omega)]; simp
 unfold atI; rw [e]; exact h
noncomputable def qFh (b:Expr):Prop:=∀ o i,subscripted b false o i=operate [o,i] (getItem o i)
noncomputable def IxR (X:Cx) (r:R2):Prop:=
 ∀(value slice:Expr) (pins:List (Addr×Obj)) (s:Shared) (σ:St) (H:Hp) (x y:V) (v u:Value) (Q:VK),Inv X pins σ H s->RelV x v->RelV y u->r x y H Q->
  subscripted slice false v u=operate [v,u] (getItem v u)->wpAny (model X.prog X.w) X.A (subscriptTail value slice v u) (EP X pins σ Q) X.xe s
noncomputable def MtR (X:Cx) (id:String) (r:V->List V->Hp->VK->Prop):Prop:=
 ∀(pins:List (Addr×Obj)) (s:Shared) (σ:St) (H:Hp) (x:V) (xs:List V) (v:Value) (us:List Value) (Q:VK),Inv X pins σ H s->RelV x v->ql xs us->r x xs H Q->
  wpAny (model X.prog X.w) X.A (call (.builtin id) (v::us)) (EP X pins σ Q) X.xe s
section
variable {X:Cx} {a b:Expr} {ta tb:TE} {pos:Pos}
theorem IxR.or {r r':R2} (h:IxR X r) (h':IxR X r'):IxR X (fun x y H Q=>r x y H Q\/r' x y H Q):=by
 intro value slice pins s σ H x y v u Q I rx ry q hs
 rcases q with q | q
 ·exact h value slice pins s σ H x y v u Q I rx ry q hs
 ·exact h' value slice pins s σ H x y v u Q I rx ry q hs
theorem qMK {r:R2} (hr:IxR X r) (ha:PE X a ta) (hb:PE X b tb) (hs:qFh b):PE X (.Subscript a b pos) (tOp r ta tb):=by
 intro pins s σ H Q I h
 exact Subscript_ (qMZ ha hb I h fun v u s2 x y H2 I2 rx ry q=>hr a b pins s2 σ H2 x y v u Q I2 rx ry q (hs _ _))
noncomputable def qNX (K:wK):R2:=fun x y H Q=>∃ p xs i v,x=.ref p/\y=.int i/\SqL K H p xs/\atI xs i=some v/\Q v H
noncomputable def qNW (K:wK):R2:=fun x y H Q=>∃ p xs i v,x=.ref p/\y=.int i/\SqT K H p xs/\atI xs i=some v/\Q v H
noncomputable def qNi:R2:=fun x y H Q=>∃ z i c,x=.str z/\y=.int i/\z.length<=sizeLine/\atI z.cps.toList i=some c/\Q (.str ⟨#[c]⟩) H
theorem qIy:IxR X (qNX X.K):=by
 intro value slice pins s σ H x y v u Q I rx ry h hs
 obtain ⟨p,xs,i,z,rfl,rfl,hq,he,q⟩:=h
 cases rx
 obtain ⟨t,rfl⟩:=ry
 obtain ⟨its,r,pl,hz⟩:=I.list hq
 obtain ⟨j,h1,h2,h3,h4,h5⟩:=qCJ he
 obtain ⟨w,ew,rw'⟩:=r.get h2
 have hl:=r.length
 have hn:=qAT
 have fin:EP X pins σ Q w s:=⟨z,H,I,rw',q⟩
 by_cases h0:0<=i
 ·have hj:i.toNat=j:=by
   rw [seqIndex_of h0 h5] at h1
   exact zS h1
  exact item_listR pl.isList h0 (by omega) (by rw [hj]; simpa using ew) fin hs
 ·have hj:(i+(its.toArray.size:Int)).toNat=j:=by
   rw [seqIndex_neg (by omega) h4] at h1
   rw [wL,<- hl]
   exact zS h1
  exact subscriptTail_builtinR (x:=w) pl.isList.typeIs slot_list_getitem.lookup
   (wpAny_getItem_list_neg (Q:=fun r s'=>r=w/\EP X pins σ Q r s') pl.isList (by omega) (by rw [wL] <;> omega) (by omega) (by rw [hj]; simpa using ew) ⟨rfl,fin⟩) hs
theorem qLd:IxR X (qNW X.K):=by
 intro value slice pins s σ H x y v u Q I rx ry h hs
 obtain ⟨p,xs,i,z,rfl,rfl,hq,he,q⟩:=h
 cases rx
 obtain ⟨t,rfl⟩:=ry
 obtain ⟨its,r,pl,hz⟩:=I.tuple hq
 obtain ⟨j,h1,h2,h3,h4,h5⟩:=qCJ he
 obtain ⟨w,ew,rw'⟩:=r.get h2
 have hl:=r.length
 have hn:=qAT
 have fin:EP X pins σ Q w s:=⟨z,H,I,rw',q⟩
 exact subscriptTail_builtinR (x:=w) pl.typeIs slot_tuple_getitem.lookup
  (getItem_tuple (j:=j) (Q:=fun r s'=>r=w/\EP X pins σ Q r s') pl (by omega) (by omega) (by rw [wL,<- hl]; exact h1) (by simpa using ew) ⟨rfl,fin⟩) hs
theorem qLO:IxR X qNi:=by
 intro value slice pins s σ H x y v u Q I rx ry h hs
 obtain ⟨z,i,c,rfl,rfl,hz,he,q⟩:=h
 obtain ⟨t,rfl⟩:=rx
 obtain ⟨t',rfl⟩:=ry
 obtain ⟨j,h1,h2,h3,h4,h5⟩:=qCJ he
 have hl:z.cps.toList.length=z.length:=by simp [Str.length]
 rw [hl] at h1 h4 h5
 have hn:=qAT
 exact tail_any (typeIs_str s z t) slot_str_getitem.lookup (getItem_str (c:=c) (by
  have e1:decide (i < -(2 ^ 63:Int))=false:=decide_eq_false (by omega)
  have e2:decide (i≥2 ^ 63)=false:=decide_eq_false (by omega)
  rw [e1,e2,Bool.or_false]) (by rw [h1]; simpa using h2) ⟨.str ⟨#[c]⟩,H,I.tok _,⟨_,rfl⟩,q⟩) hs
noncomputable def rIx (K:wK):R2:=fun x y H Q=>qNX K x y H Q\/qNW K x y H Q\/qNi x y H Q
theorem qKY:IxR X (rIx X.K):=qIy.or (qLd.or qLO)
theorem qEK (its:List Value) (n j:Nat) (u:Value):gQ (·.setIfInBounds j u) { cls:=.type "list",data:=.seq its.toArray n } = { cls:=.type "list",data:=.seq (its.set j u).toArray n }:=by
 simp [gQ]
theorem Inv.lst {pins:List (Addr×Obj)} {σ:St} {H:Hp} {s:Shared} {p:Addr} {xs:List V} (I:Inv X pins σ H s) (h:H p=some (.lst xs)) :
  ∃(its:List Value) (n:Nat),ql xs its/\s.heap.get? p=some { cls:=.type "list",data:=.seq its.toArray n }/\xs.length<=sizeLine:=by
 obtain ⟨z,its,n,r,e⟩:=I.hok p _ h
 exact ⟨its,n,r,e,z⟩
theorem Inv.lstUpd {pins:List (Addr×Obj)} {σ:St} {H:Hp} {s:Shared} {p:Addr} {xs ys:List V} {its its':List Value} {n n':Nat} {f:Obj->Obj} (I:Inv X pins σ H s) (h:H p=some (.lst xs))
  (ho:s.heap.get? p=some { cls:=.type "list",data:=.seq its.toArray n }) (hf:f { cls:=.type "list",data:=.seq its.toArray n } = { cls:=.type "list",data:=.seq its'.toArray n' }) (r:ql ys its') (hz:ys.length<=sizeLine) (t:Nat) :
  Inv X pins σ (upd H p (.lst ys)) { s with heap:=s.heap.update p f,toks:=t }:=by
 have e:(s.heap.update p f).get? p=some { cls:=.type "list",data:=.seq its'.toArray n' }:=by
  rw [kH f ho (by rw [hf] <;> rfl),hf]
 refine I.write (x:=p) (e:=p) (by rw [h]; trivial) (.inl rfl) (fun b u hb q=>(Heap.get?_update_other _ _ (ZK hb)).trans q) ⟨_,e⟩ ?_
 exact ⟨hz,its',n',r,e⟩
noncomputable def qK3:V->V->V->Hp->(Hp->Prop)->Prop:=fun o i v H Q=>∃ p xs k j,o=.ref p/\i=.int k/\H p=some (.lst xs)/\ixN xs.length k=some j/\Q (upd H p (.lst (xs.set j v)))
theorem set_list:qNH X qK3:=by
 intro pins s σ H o i v ov iv u Q I ro ri rv h
 obtain ⟨p,xs,k,j,rfl,rfl,hp,hj,q⟩:=h
 cases ro
 obtain ⟨t,rfl⟩:=ri
 obtain ⟨its,n,r,ho,hz⟩:=I.lst hp
 obtain ⟨h1,h2,h3,h4⟩:=qCm hj
 have hl:=r.length
 have hn:=qAT
 have I':Inv X pins σ (upd H p (.lst (xs.set j v))) { s with heap:=s.heap.update p (gQ (·.setIfInBounds j u)) }:=
  I.lstUpd hp ho (qEK its n j u) (r.set rv j) (by rw [List.length_set]; exact hz) s.toks
 by_cases h0:0<=k
 ·have hk:k.toNat=j:=by
   rw [seqIndex_of h0 h4] at h1
   exact zS h1
  exact PySem.W.ki_setAt ho h0 (by omega) (by rw [wL,<- hl]; exact h4) (by rw [hk]; exact ⟨_,I',q⟩)
 ·have hk:(k+(its.toArray.size:Int)).toNat=j:=by
   rw [seqIndex_neg (by omega) h3] at h1
   rw [wL,<- hl]
   exact zS h1
  exact PySem.W.ki_setBack ho (by omega) (by rw [wL,<- hl]; exact h3) (by omega) (by rw [hk]; exact ⟨_,I',q⟩)
theorem qBP (lo hi:Option Int) (n:Nat):(sliceBounds lo hi none n).1=((HT.sIx n 0 lo:Nat):Int)/\(sliceBounds lo hi none n).2.1=((HT.sIx n n hi:Nat):Int)/\(sliceBounds lo hi none n).2.2=1:=by
 refine ⟨?_,?_,rfl⟩
 ·cases lo with
  | none=>simp [sliceBounds,HT.sIx]
  | some i=>
   simp only [sliceBounds,HT.sIx,Option.getD_none,show (1:Int) > 0 by decide,if_true]
   by_cases h:i<0
   ·simp only [h,if_true] <;> omega
   ·simp only [h,if_false] <;> omega
 ·cases hi with
  | none=>simp [sliceBounds,HT.sIx]
  | some i=>
   simp only [sliceBounds,HT.sIx,Option.getD_none,show (1:Int) > 0 by decide,if_true]
   by_cases h:i<0
   ·simp only [h,if_true] <;> omega
   ·simp only [h,if_false] <;> omega
theorem qAg (its:List Value) (lo hi:Option Int):slicePick its.toArray lo hi none=((its.drop (HT.sIx its.length 0 lo)).take (HT.sIx its.length its.length hi - HT.sIx its.length 0 lo)).toArray:=by
 obtain ⟨h1,h2,h3⟩:=qBP lo hi its.toArray.size
 unfold slicePick
 rw [h1,h2,h3]
 simp only [sliceRange_one,pick_run,wL] <;> rfl
noncomputable def qM3 (K:wK):V->Option Int->Option Int->Hp->VK->Prop:=fun x lo hi H Q=>∃ a xs,x=.ref a/\SqL K H a xs/\∀ p,H p=none->Q (.ref p) (upd H p (.lst (qHk xs lo hi)))
theorem qIr:SlR X (qM3 X.K):=by
 intro pins s σ H x v vl vu lo hi sl Q I rx hs pl pu h
 obtain ⟨a,xs,rfl,hx,q⟩:=h
 cases rx
 obtain ⟨its,r,ht,hz⟩:=I.list hx
 have hlen:=r.length
 refine ⟨"list",_,slot_list_getitem.lookup,ht.isList.typeIs,?_⟩
 refine wpAny_getItem_list_slice ht.isList hs pl pu .none (by simp) ?_ (by rw [wL] <;> omega)
 rw [qAg,<- hlen]
 refine ⟨.ref s.heap.objs.size,_,I.laid (t':=s.toks) (o:=.lst (qHk xs lo hi)) (fun b ob q=>wG _ q) (wH _) ?_,rfl,q _ (I.hok.fresh (wH _))⟩
 exact ⟨zM (Ya xs lo hi) hz,_,0,(r.drop (HT.sIx xs.length 0 lo)).take (HT.sIx xs.length xs.length hi - HT.sIx xs.length 0 lo),zL _ rfl⟩
theorem qB4:Qw X (.builtin "len") (fun xs H Q=>∃ p ys,xs=[.ref p]/\(SqL X.K H p ys\/SqT X.K H p ys)/\Q (.int ys.length) H):=by
 intro pins s σ H xs us Q I r h
 obtain ⟨p,ys,rfl,hq,q⟩:=h
 obtain ⟨u,rfl,rx⟩:=vals1 r
 cases rx
 have hn:=qAT
 rcases hq with hq | hq
 ·obtain ⟨its,r',pl,hz⟩:=I.list hq
  have hlen:=r'.length
  exact Calls.call_len_list pl.isList (by simp only [wL] <;> omega) ⟨.int ys.length,H,I.tok _,⟨s.toks+1,by rw [wL,hlen]⟩,q⟩
 ·obtain ⟨its,r',pl,hz⟩:=I.tuple hq
  have hlen:=r'.length
  exact len_tuple pl (by simp only [wL] <;> omega) ⟨.int ys.length,H,I.tok _,⟨s.toks+1,by rw [wL,hlen]⟩,q⟩
theorem qAm:Qw X (.type "tuple") (fun xs H Q=>∃ p ys,xs=[.ref p]/\((SqL X.K H p ys/\∀ l,H l=none->Q (.ref l) (upd H l (.tup ys)))\/(SqT X.K H p ys/\Q (.ref p) H))):=by
 intro pins s σ H xs us Q I r h
 obtain ⟨p,ys,rfl,h⟩:=h
 obtain ⟨u,rfl,rx⟩:=vals1 r
 cases rx
 rcases h with ⟨hq,q⟩ | ⟨hq,q⟩
 ·obtain ⟨its,r',pl,hz⟩:=I.list hq
  have hlen:=r'.length
  refine call_tuple_list pl.isList (fun h' kp=>?_) (by simp only [wL] <;> omega)
  have I1:Inv X pins σ H { s with heap:=h' }:=I.kept (t':=s.toks) kp
  have I2:Inv X pins σ (upd H h'.objs.size (.tup ys)) { s with heap:=h'.push { cls:=.type "tuple",data:=.seq its.toArray } }:=
   I1.laid (t':=s.toks) (fun b o e=>wG _ e) (wH _) (show jh X.prog X.w _ _ _ (.tup ys) from ⟨hz,its,r',IsTup.new _ _,NoD.new rfl⟩)
  exact ⟨.ref h'.objs.size,_,I2,rfl,q _ (I1.hok.fresh (wH _))⟩
 ·obtain ⟨its,r',pl,hz⟩:=I.tuple hq
  exact call_tuple_same pl ⟨.ref p,H,I,rfl,q⟩
noncomputable def tyV (K:wK) (T:String) (x:V) (H:Hp):Prop:=match x with
 | .str _=>T = "str"
 | .int _=>T = "int"
 | .ref p=>(T = "list"/\∃ xs,SqL K H p xs)\/(T = "tuple"/\∃ o,K.lookup p=some o/\o.cls=.type "tuple"/\o.dict=none)\/
   (T = "dict"/\((∃ kvs,H p=some (.dK kvs))\/∃ kvs,H p=some (.dT kvs)))\/(T = "set"/\∃ S n,H p=some (.set S n))
 | _=>False
theorem qLr {pins:List (Addr×Obj)} {σ:St} {H:Hp} {s:Shared} {T:String} {x:V} {v:Value} (I:Inv X pins σ H s) (r:RelV x v) (ty:tyV X.K T x H) :
  s.TypeIs v T/\∀ a,v=.ref a->∃ ob,s.heap.get? a=some ob/\ob.dict=none:=by
 cases x with
 | str z=>
  obtain ⟨t,rfl⟩:=r
  cases (show T = "str" from ty)
  exact ⟨typeIs_str s z t,fun _ e=>nomatch e⟩
 | int i=>
  obtain ⟨t,rfl⟩:=r
  cases (show T = "int" from ty)
  exact ⟨TB s i t,fun _ e=>nomatch e⟩
 | ref p=>
  cases r
  rcases ty with ⟨rfl,xs,hq⟩ | ⟨rfl,o,hk,hc,hd⟩ | ⟨rfl,hk⟩ | ⟨rfl,S,n,hk⟩
  ·obtain ⟨its,_,pl,_⟩:=I.list hq
   refine ⟨pl.isList.typeIs,fun a e=>?_⟩
   cases e
   obtain ⟨o,n,e,c,hd,_⟩:=pl
   exact ⟨o,e,hd⟩
  ·refine ⟨⟨o,I.kIn p o hk,hc⟩,fun a e=>?_⟩
   cases e
   exact ⟨o,I.kIn _ o hk,hd⟩
  ·have z:∃ o,s.heap.get? p=some o/\o.ExactDict:=by
    rcases hk with ⟨kvs,hk⟩ | ⟨kvs,hk⟩
    ·obtain ⟨_,_,_,_,o,_,_,e,ex,_⟩:=I.hok p _ hk
     exact ⟨o,e,ex⟩
    ·obtain ⟨_,_,_,_,o,_,_,e,ex,_⟩:=I.hok p _ hk
     exact ⟨o,e,ex⟩
   obtain ⟨o,e,ex⟩:=z
   refine ⟨⟨o,e,ex.1⟩,fun a e2=>?_⟩
   cases e2
   exact ⟨o,e,ex.2.1⟩
  ·obtain ⟨o,_,_,_,e,ex,_⟩:=I.hok p _ hk
   refine ⟨⟨o,e,ex.1⟩,fun a e2=>?_⟩
   cases e2
   exact ⟨o,e,ex.2.1⟩
 | _=>exact kL ty
noncomputable def tBM (K:wK) (T:String) (r:V->List V->Hp->VK->Prop) (to:TE) (t:TA):TE:=fun σ H Q=>to σ H fun x H1=>tyV K T x H1/\t σ H1 fun xs H2=>r x xs H2 Q
variable {o e:Expr} {es:List Expr} {to:TE} {t:TA} {name:Str} {apos cpos:Pos} {T id:String} {r:V->List V->Hp->VK->Prop}
theorem qNB (pa:PlainAttrs T) (slot:Slot T name id) (hty:typeOf (.builtin id)=pure (.type "method_descriptor")) (hm:MtR X id r) (ho:PE X o to) (ha:PA X (e::es) t)
  (hbase:attributeBase o name X.env (eval o X.env)=eval o X.env:=by rfl)
  (hfew:((backTo cpos (starEach (e::es) X.env)).all (fun x=>!x.1) && (backToKw cpos (keywordEach [] X.env)).all (fun x=>x.1.isSome)
   && decide ((e::es).length+([]:List Keyword).length+(if ([]:List Keyword).isEmpty then 0 else 1)<30))=true:=by rfl)
  (hline:(apos.endLine == cpos.line)=true:=by rfl) (hs:starEach (e::es) X.env=(false,eval e X.env)::starEach es X.env:=by rfl) (hplain:(backTo cpos (starEach es X.env)).any (·.1)=false:=by rfl) :
  PE X (.Call (.Attribute o name apos) (e::es) [] cpos) (tBM X.K T r to t):=by
 intro pins s σ H Q I h
 refine wpAny_Call_method_late hbase hfew hline rfl (thn (ho pins s σ H _ I h) fun v s1 ⟨x,H1,I1,r1,ty,q1⟩=>?_)
 obtain ⟨h1,h2⟩:=qLr I1 r1 ty
 refine ⟨T,id,pa,slot,hty,h1,h2,?_⟩
 have hA:=ha cpos pins s1 σ H1 _ I1 q1
 rw [hs] at hA ⊢
 refine Calls.callWith_builtin (by show (false || (backTo cpos (starEach es X.env)).any (·.1))=false; rw [hplain] <;> rfl) (Calls.evalArgs_plain ?_)
 exact thn hA fun us s2 ⟨vs,H2,I2,r2,q2⟩=>hm pins s2 σ H2 x vs v us Q I2 r1 r2 q2
end
noncomputable def MtM (X:Cx) (id:String) (r:V->List V->Hp->VK->Prop):Prop:=
 ∀(pins:List (Addr×Obj)) (s:Shared) (σ:St) (H:Hp) (x:V) (xs:List V) (v:Value) (us:List Value) (Q:VK),Inv X pins σ H s->RelV x v->ql xs us->r x xs H Q->
  wpAny (model X.prog X.w) X.A (call (.builtin id) (v::us)) (EP X pins σ Q) X.xe s
theorem ql.one:∀{x:V} {us:List Value},ql [x] us->∃ u,us=[u]/\RelV x u
 | _,_,.cons r .nil=>⟨_,rfl,r⟩
theorem ql.eraseIdx:∀{xs:List V} {us:List Value} (i:Nat),ql xs us->ql (xs.eraseIdx i) (us.eraseIdx i)
 | _,_,_,.nil=>.nil
 | _,_,0,.cons _ t=>t
 | _,_,i+1,.cons r t=>.cons r (ql.eraseIdx i t)
theorem ql.rep {xs:List V} {us:List Value} (h:ql xs us):∀ k:Nat,ql (wN k xs).flatten (wN k us).flatten
 | 0=>.nil
 | k+1=>by
  rw [vW,vW,uM,uM]
  exact ql.append h (ql.rep h k)
theorem qBw {α:Type}:∀(l:List α) (i:Nat),(l.eraseIdx i).length<=l.length
 | [],_=>wH _
 | _::_,0=>Nat.le_succ _
 | _::r,i+1=>VY (qBw r i)
theorem foldl_rep (its:List Value):∀(k:Nat) (acc:List Value),
  List.foldl (fun x1 x2=>x1++x2) acc.toArray (wN k its.toArray)=(acc++(wN k its).flatten).toArray
 | 0,acc=>by simp
 | k+1,acc=>by
  have e:acc.toArray++its.toArray=(acc++its).toArray:=by simp
  have e2:(acc++its)++(wN k its).flatten=acc++(wN (k+1) its).flatten:=by
   rw [vW,uM,yG]
  rw [<- e2,<- foldl_rep its k (acc++its),<- e,vW,UK]
section
variable {X:Cx} {pins:List (Addr×Obj)} {σ:St} {H:Hp} {s:Shared} {l b:Addr} {xs ys zs:List V}
theorem Inv.lset {its its':List Value} {n:Nat} {f:Array Value->Array Value} {t':Nat} (I:Inv X pins σ H s) (hH:H l=some (.lst xs))
  (e:s.heap.get? l=some { cls:=.type "list",data:=.seq its.toArray n }) (hf:f its.toArray=its'.toArray) (hv:ql ys its') (hz:ys.length<=sizeLine) :
  Inv X pins σ (upd H l (.lst ys)) { s with heap:=s.heap.update l (gQ f),toks:=t' }:=by
 have q:=PySem.IsL.update e f
 rw [hf] at q
 refine I.write (x:=l) (e:=l) (by rw [hH]; exact trivial) (.inl rfl) (fun b' u hb hu=>(Heap.get?_update_other s.heap (gQ f) (ZK hb)).trans hu) ⟨_,q⟩ ?_
 exact ⟨hz,its',_,hv,q⟩
theorem Inv.lnew {its:List Value} {t':Nat} (I:Inv X pins σ H s) (hv:ql ys its) (hz:ys.length<=sizeLine) :
  Inv X pins σ (upd H s.heap.objs.size (.lst ys)) { s with heap:=s.heap.push { cls:=.type "list",data:=.seq its.toArray },toks:=t' }:=
 I.laid (fun _ _ q=>wG _ q) (wH _) ⟨hz,its,0,hv,zL _ rfl⟩
theorem Inv.fresh (I:Inv X pins σ H s):H s.heap.objs.size=none:=I.hok.fresh (wH _)
theorem Inv.lstM (I:Inv X pins σ H s) (hH:H l=some (.lst xs)):xs.length<=sizeLine/\∃(its:List Value) (n:Nat),ql xs its/\xs.length=its.length/\s.heap.get? l=some { cls:=.type "list",data:=.seq its.toArray n }:=by
 obtain ⟨z,its,n,r,e⟩:=I.hok l _ hH
 exact ⟨z,its,n,r,r.length,e⟩
theorem qCu {n:Nat} (h:n<=sizeLine):hX n=false:=by
 unfold hX
 exact decide_eq_false (by omega)
end
section
variable {X:Cx}
noncomputable def qFw:V->List V->Hp->VK->Prop:=fun x vs H Q=>∃ l xs y,x=.ref l/\vs=[y]/\H l=some (.lst xs)/\xs.length<sizeLine/\Q .non (upd H l (.lst (xs++[y])))
theorem Yj:MtM X "list.append" qFw:=by
 intro pins s σ H x vs v us Q I rx rv h
 obtain ⟨l,xs,y,rfl,rfl,hH,hz,q⟩:=h
 cases rx
 obtain ⟨u,rfl,ru⟩:=rv.one
 obtain ⟨z,its,n,r,hl,e⟩:=I.lstM hH
 refine WV F.slot_list_append ⟨_,e,rfl⟩ F.entry_list_append (F.args_list_append_2 _ _) (PySem.list_append l its.toArray n u (by rw [wL]; omega)) ⟨e,?_⟩
 refine ⟨.non,_,I.lset (its':=its++[u]) hH e (by simp) (r.append (.cons ru .nil)) ?_,rfl,q⟩
 rw [wO,List.length_singleton]
 omega
noncomputable def qFI:V->List V->Hp->VK->Prop:=fun x vs H Q=>∃ l b xs zs,x=.ref l/\vs=[.ref b]/\H l=some (.lst xs)/\H b=some (.lst zs)/\xs.length+zs.length<=sizeLine/\Q .non (upd H l (.lst (xs++zs)))
theorem qE9:MtM X "list.extend" qFI:=by
 intro pins s σ H x vs v us Q I rx rv h
 obtain ⟨l,b,xs,zs,rfl,rfl,hH,hB,hz,q⟩:=h
 cases rx
 obtain ⟨u,rfl,ru⟩:=rv.one
 cases ru
 obtain ⟨z,its,n,r,hl,e⟩:=I.lstM hH
 obtain ⟨z2,its2,n2,r2,hl2,e2⟩:=I.lstM hB
 have hsz:its.toArray.size+its2.toArray.size<=sizeLine:=by rw [wL,wL]; omega
 have hlong:¬ (!its.toArray.isEmpty && hX (its.toArray.size+its2.toArray.size))=true:=by
  rw [qCu hsz,TC]
  exact wU
 refine WV F.slot_list_extend ⟨_,e,rfl⟩ F.entry_list_extend (F.args_list_extend_2 _ _)
  (AutoSeq1.list_extend_list_list_0 l its.toArray n b its2.toArray n2 hlong (by rw [wL]; omega) (by omega)) ⟨e,e2,?_⟩
 refine ⟨.non,_,I.lset (its':=its++its2) hH e (by simp) (r.append r2) ?_,rfl,q⟩
 rw [wO]
 omega
noncomputable def qIg:V->List V->Hp->VK->Prop:=fun x vs H Q=>∃ l xs i k y,x=.ref l/\vs=[.int i]/\H l=some (.lst xs)/\-(2 ^ 63)<=i/\i<2 ^ 63/\seqIndex? i xs.length=some k/\xs[k]? = some y/\Q y (upd H l (.lst (xs.eraseIdx k)))
theorem qDS:MtM X "list.pop" qIg:=by
 intro pins s σ H x vs v us Q I rx rv h
 obtain ⟨l,xs,i,k,y,rfl,rfl,hH,h1,h2,hk,hy,q⟩:=h
 cases rx
 obtain ⟨u,rfl,ru⟩:=rv.one
 obtain ⟨t,rfl⟩:=ru
 obtain ⟨z,its,n,r,hl,e⟩:=I.lstM hH
 obtain ⟨w,hw,rw'⟩:=r.get hy
 refine WV F.slot_list_pop ⟨_,e,rfl⟩ F.entry_list_pop (F.args_list_pop_2 _ _)
  (MeetsSeq.list_pop_at l its.toArray n i t k w (fitsIndex_both h1 h2) (by rw [wL,<- hl]; exact hk) (by rw [<- yC]; exact hw) (by rw [wL]; omega)) ⟨e,?_⟩
 refine ⟨y,_,I.lset (its':=its.eraseIdx k) hH e ?_ (r.eraseIdx k) ?_,rw',q⟩
 ·show its.toArray.eraseIdxIfInBounds k=(its.eraseIdx k).toArray
  rw [List.eraseIdxIfInBounds_toArray]
 ·have:=qBw xs k
  omega
noncomputable def qM1:R2:=fun x y H Q=>∃ l k xs,x=.ref l/\y=.int k/\H l=some (.lst xs)/\-(2 ^ 63)<=k/\k<2 ^ 63/\xs.length*k.toNat<=sizeLine/\
 ∀ p,H p=none->Q (.ref p) (upd H p (.lst (wN k.toNat xs).flatten))
theorem len_rep {α:Type} (xs:List α) (k:Nat):(wN k xs).flatten.length=k*xs.length:=by
 induction k with
 | zero=>simp
 | succ k ih=>rw [vW,uM,wO,ih,Nat.succ_mul,VH]
theorem qK1:OpR X (binaryOp .Mult) qM1:=by
 intro pins s σ H x y v u Q I rx ry h
 obtain ⟨l,k,xs,rfl,rfl,hH,h1,h2,hz,q⟩:=h
 cases rx
 obtain ⟨t,rfl⟩:=ry
 obtain ⟨z,its,n,r,hl,e⟩:=I.lstM hH
 have hlen:its.toArray.size*k.toNat<=sizeLine:=by rw [wL,<- hl]; exact hz
 have hcap:¬ its.toArray.size*k.toNat > (2 ^ 63 - 1) / 8:=by
  have:(sizeLine:Nat)<=(2 ^ 63 - 1) / 8:=by decide
  omega
 have hfit:¬ (!Builtin.List.listFitsIndex k)=true:=by
  rw [fitsIndex_both h1 h2]
  exact wU
 have hlong:¬ hX (its.toArray.size*k.toNat)=true:=by
  rw [qCu hlen]
  exact wU
 have hnew:List.foldl (fun x1 x2=>x1++x2) #[] (wN (if its.toArray.isEmpty=true then 0 else k.toNat) its.toArray)=(wN k.toNat its).flatten.toArray:=by
  have f0:∀ m:Nat,List.foldl (fun x1 x2=>x1++x2) #[] (wN m its.toArray)=(wN m its).flatten.toArray:=fun m=>by
   have:=foldl_rep its m []
   rw [uA] at this
   exact this
  rw [f0]
  cases its with
  | nil=>simp
  | cons a r'=>rw [if_neg (by simp)]
 refine wpAny_binaryOp_repeat_ref (T:="list") (U:="int") (by decide) ⟨_,e,rfl⟩ (fun s'=>TB s' k t) noFill_list_mul F.fills_int_mul F.slot_int_rmul repeat_list F.slot_int_index.lookup
  (WV F.slot_int_rmul (TB s k t) F.entry_int_rmul (F.args_int_rmul_2 _ _) (int___rmul___int_list k t l its.toArray n)
   ⟨e,rfl,⟨_,e,rfl⟩,WV F.slot_list_mul ⟨_,e,rfl⟩ F.entry_list_mul (F.args_list_mul_2 _ _) (AutoListH.list___mul___list_int_3 l its.toArray n k t hfit hcap hlong) ⟨e,?_⟩⟩)
 rw [hnew]
 exact ⟨.ref _,_,I.lnew (t':=s.toks) (r.rep k.toNat) (by rw [len_rep,Nat.mul_comm]; exact hz),rfl,q _ I.fresh⟩
end
end L2
namespace Att
open PySem PySem.W PySem.Calls PyProof.Rows
theorem Yg {P:Params} {h:Heap}:∀(ns:List Int) (vs:List Value),WellAll P h vs (ns.map WData.int)->IntsAre vs ns:=by
 intro ns
 induction ns with
 | nil=>
  intro vs w
  rw [List.map_nil] at w
  cases w
  exact .nil
 | cons n ns ih=>
  intro vs w
  rw [xH] at w
  cases w with
  | cons a b=>
   cases a
   exact .cons _ _ (ih _ b)
theorem qEs {l:OpenLaw} {n:Nat} (hn:l.most=some n) {P:Params} {h:Heap} {args:List WData} {vals:List Value}
  (hpre:l.row.toRowW.claim.pre args=true) (hwl:WellAll P h vals args) :
  ∃ a vs ns,vals=[yJ a]/\args=[WData.list (ns.map WData.int)]/\h.get? a=some { cls:=.type "list",data:=.seq vs.toArray }/\IntsAre vs ns/\ns.length<=n:=by
 have hsh:WShape.hasAll [] args [.list .int]=true:=(pre_splitW hpre).1
 have hc:l.pre.holds [] { args:=args } = true:=(pre_splitW hpre).2
 obtain ⟨d,r,rfl,h1,h2⟩:=hasAllW_cons hsh
 obtain rfl:=hasAllW_nil h2
 obtain ⟨xs,rfl,h3⟩:=hasW_list h1
 obtain ⟨ns,rfl⟩:=items_int h3
 have hlen:ns.length<=n:=by
  unfold OpenLaw.pre at hc
  have h4:(WTm.not (.lt (.lit (.int (n:Int))) (.len (.arg 0)))).holds [] { args:=[.list (ns.map .int)] } = true:=by
   have h4:=(holds_andW hc).1
   rw [hn] at h4
   exact h4
  have h5:=condW_of h4 (w_not (w_lt w_lit (w_len_list (w_arg rfl))))
  rw [wC] at h5
  refine vH fun q=>?_
  have q':(n:Int)<((ns.length:Nat):Int):=by omega
  first
   | (rw [decide_eq_true q'] at h5; exact absurd h5 (by decide))
   | (simp at h5; omega)
 cases hwl with
 | cons w1 w2=>
  cases w2
  cases w1 with
  | list ho hall=>exact ⟨_,_,ns,rfl,rfl,ho,Yg ns _ hall,hlen⟩
theorem qGN (l:OpenLaw) (args:List WData):l.row.toRowW.claim.post args (.bool true) args=true:=
 postW_of (r:=l.row.toRowW) (X:=(true == true))
  (show WShape.has [] (.bool true) .bool=true by first | rfl | decide | simp [WShape.has,WShape.arms,WShape.armsAll])
  (show (WTm.eq .res (.lit (.bool true))).value [] { args:=args,res:=some (.bool true),after:=args } = some (.bool (true == true)) from w_eq_bool (w_res rfl) w_lit) rfl
theorem attach_call {l:OpenLaw} {n:Nat} {q:Program} {loose:List Str} {XP:(Str->Option Value)->Heap->Prop} {YP:World->Heap->Prop} {d:DefRec}
  (hn:l.most=some n) (hdf:d.params.defaults=[])
  (call:∀(w:World) (s₀ s₁:Shared) (mg mb:Str->Option Value) (fa:Addr) (o:Obj) (pm cd doc:Value) (a:Addr) (vs:List Value) (ns:List Int),
   Ground q loose [] XP w s₀ mg mb s₁.heap->YP w s₁.heap->
   s₁.heap.get? fa=some o->o.data=.func (docDef d.name d.params d.body d.scope pm cd doc)->s₁.heap.CodeRec cd d.name->mg d.name=some (.ref fa)->
   s₁.heap.get? a=some { cls:=.type "list",data:=.seq vs.toArray }->IntsAre vs ns->ns.length<=n->s₁.gens = #[]->
   codeAny (model l.prog w) callerA (.call (.ref fa) ⟨[.ref a],[]⟩) (fun r s'=>r=.ok (.ret (.bool true))/\OldK s₁.heap s'.heap/\s'.os=s₁.os/\AllBare s'.gens) s₁) :
  WalkO q loose XP YP l.row.toRowW d [] (fun f vs=>PySem.call f vs):=by
 intro w s₀ s₁ mg mb G Y fa o pm cd doc dV kV ho hd hcd hD hmg hg args vals as hpre hlay hrd hwl hlo
 obtain rfl:dV=.none:=Dflts.none hD hdf
 obtain rfl:kV=.none:=Dflts.noKw hD
 obtain ⟨a,vs,ns,rfl,rfl,hobj,hints,hlen⟩:=qEs hn hpre hwl
 refine enter_call (ZM (call w s₀ s₁ mg mb fa o pm cd doc a vs ns G Y ho (fd_plain hd) hcd hmg hobj hints hlen hg) fun r s' hq=>?_)
 obtain ⟨rfl,h2,h3,h4⟩:=hq
 exact ⟨.inl ⟨.bool true,.bool true,[],rfl,fun _=>rfl,.bool true,qGN l _,fun _=>⟨List.Pairwise.nil,fun _ hm=>(nomatch hm)⟩⟩,h2,h3,h4⟩
section
variable {prog:Program} {w:World} {A:Around} {E:Value->Shared->Prop} {s:Shared} {K:Frag}
noncomputable def ledger (h:Heap) (L d:Addr):List (Addr×Obj):=(wV h.objs.size).filterMap fun a=>if a=L\/a=d then none else (h.get? a).map fun o=>(a,o)
end
end Att
namespace L2
open PySem PySem.Spec PyProof.Rows
theorem qBT:∀{vs:List Value} {ns:List Int},IntsAre vs ns->ql (ns.map V.int) vs
 | _,_,.nil=>.nil
 | _,_,.cons n t h=>.cons ⟨t,rfl⟩ (qBT h)
noncomputable def qMw (H:Hp):Prop:=∀ b,H b=none\/∃ o xs,H b=some (.frz o (.lst xs))
theorem qH3 {P:Program} {w:World} {K:wK} {mg mb:Str->Option Value} {CX:CXT} {k:Nat} {fa a:Addr} {fd:FuncData} {x:Str} {sp:Sp} {s₁:Shared} {vs:List Value} {ns:List Int}
  (KX:K.In s₁.heap) (hns:s₁.heap.Ns mainGlobals mg) (hb:s₁.heap.Ns builtinsNs mb) (hbb:∀ x:Str,x≠"__name__"->mb x=bootBuiltins x) (hlim:s₁.heap.NoLimit) (hg:s₁.gens = #[])
  (ha:s₁.heap.get? a=some { cls:=.type "list",data:=.seq vs.toArray }) (hi:IntsAre vs ns) (hl:ns.length<=sizeLine) (hr:Y3 k callerA)
  (F:∀ base:Heap,K.In base->base.Ns mainGlobals mg->Qg P w K mg base CX k fa fd [x] sp) (hbind:∀(s:Shared) (u:Value),BindsTo s fd ⟨[u],[]⟩ [(x,u)])
  (hsp:∀ H:Hp,qMw H->SqL K H a (ns.map V.int)->sp [.ref a] H (fun v _=>v=.bl true) fun _ _ _=>False)
  (hCX:∀ H e s',CX [] H s₁ (fun _ _ _=>False) e s'->False) :
  codeAny (model P w) callerA (.call (.ref fa) ⟨[.ref a],[]⟩) (fun r s'=>r=.ok (.ret (.bool true))/\OldK s₁.heap s'.heap/\s'.os=s₁.os/\AllBare s'.gens) s₁:=by
 have rv:=qBT hi
 have lenV:=hi.length
 have core:∀ H:Hp,qMw H->SqL K H a (ns.map V.int)->HOk P w H s₁.heap->(∀ b,H b≠none->b=a)->(H a≠none->K.lookup a=none)->
   codeAny (model P w) callerA (.call (.ref fa) ⟨[.ref a],[]⟩) (fun r s'=>r=.ok (.ret (.bool true))/\OldK s₁.heap s'.heap/\s'.os=s₁.os/\AllBare s'.gens) s₁:=by
  intro H hO hS hok hA hK
  have base_of:∀{b:Addr} {o:Obj},s₁.heap.get? b=some o->H b=none->(qHO s₁.heap H).get? b=some o:=fun e n=>qH8 e n
  have noA:∀{b:Addr} {o:Obj} {es:Array DictEntry} {ep:Nat},s₁.heap.get? b=some o->o.data=.dict es ep->H b=none:=fun {b o es ep} e d=>by
   cases q:H b with
   | none=>rfl
   | some u=>
    have e':b=a:=hA b (by rw [q]; simp)
    subst e'
    rw [ha] at e; cases e
    have d':Data.seq vs.toArray _=Data.dict es ep:=d
    cases d'
  have nsK:∀{b:Addr} {m:Str->Option Value},s₁.heap.Ns b m->(qHO s₁.heap H).Ns b m:=fun {b m} ⟨o,es,ep,e,d,r⟩=>⟨o,es,ep,base_of e (noA e d),d,r⟩
  have hKb:K.In (qHO s₁.heap H):=fun b o e=>base_of (KX b o e) (by
   cases q:H b with
   | none=>rfl
   | some u=>
    have e':b=a:=hA b (by rw [q]; simp)
    subst e'
    rw [hK (by rw [q]; simp)] at e; cases e)
  have hM:Mod K mg (qHO s₁.heap H):=⟨hKb,nsK hns,⟨mb,nsK hb,hbb⟩,let ⟨mc,h1,h2⟩:=hlim; ⟨mc,nsK h1,h2⟩⟩
  have e0:qMC P w K mg (qHO s₁.heap H) callerA [] s₁ H:=⟨rfl,hM,fun b o e=>qIo e,xB (qFf _ _),trivial,fun b hb=>absurd (show b∈([]:List Addr) from hb) (by simp),hok,.of_eq hg⟩
  refine ZM ((F _ hKb (nsK hns)).run callerA [] s₁ H ⟨[.ref a],[]⟩ [.ref a] [.ref a] _ _ hr e0 (hbind s₁ (.ref a)) (.cons rfl .nil) (hsp H hO hS)) fun r s' h=>?_
  cases r with
  | error e=>exact (hCX H e s' h).elim
  | ok fl=>
   cases fl with
   | next=>exact kL h
   | brk=>exact kL h
   | cont=>exact kL h
   | ret u=>
    obtain ⟨v,H',os,bare,un,hok',r',q⟩:=h
    have q':v=.bl true:=q
    subst q'
    obtain rfl:u=Value.bool true:=r'
    refine ⟨rfl,OldK.of_keep fun b o e=>?_,os,bare⟩
    cases q:H b with
    | none=>exact un.keep b o e q (by intro z; exact absurd (show b∈([]:List Addr) from z) (by simp)) (by simp)
    | some u=>
     rcases hO b with z | ⟨ob,xs,z⟩
     ·rw [q] at z; cases z
     ·have z2:=un.frzs b ob _ z
      obtain ⟨e1,_⟩:=hok b _ z
      obtain ⟨e2,_⟩:=hok' b _ z2
      rw [e] at e1; cases e1
      exact e2
 cases hk:K.lookup a with
 | some o=>
  have e:=KX a o hk
  rw [ha] at e
  cases e
  refine core (fun _=>none) (fun _=>.inl rfl) (.inr ⟨_,vs.toArray,_,hk,rfl,rfl,rfl,by rw [wL,lenV]; exact hl,by simpa using rv⟩) (fun b u z=>by have z':(none:Option HO)=some u:=z; cases z') (fun b z=>absurd rfl z) fun z=>absurd rfl z
 | none=>
  refine core (fun b=>if b=a then some (.frz { cls:=.type "list",data:=.seq vs.toArray } (.lst (ns.map V.int))) else none) (fun b=>?_) (.inl (.inr ⟨{ cls:=.type "list",data:=.seq vs.toArray },if_pos rfl⟩)) (fun b u z=>?_) (fun b z=>?_) fun _=>hk
  ·by_cases hb:b=a
   ·exact .inr ⟨_,_,if_pos hb⟩
   ·exact .inl (if_neg hb)
  ·by_cases hb:b=a
   ·have z':=(if_pos hb).symm.trans z
    cases z'
    subst hb
    exact ⟨ha,by rw [wC]; exact hl,vs,_,rv,ha⟩
   ·have z':=(if_neg hb).symm.trans z
    cases z'
  ·by_cases hb:b=a
   ·exact hb
   ·exact absurd (if_neg hb) z
theorem qJ2 {l:ZX} {n k:Nat} {q:Program} {loose:List Str} {XP:(Str->Option Value)->Heap->Prop} {YP:World->Heap->Prop} {d:DefRec} {K:Params->wK} {CX:World->CXT} {sp:World->Sp} {x:Str}
  (hn:l.most=some n) (hn2:n<=sizeLine) (hdf:d.params.defaults=[]) (hr:Y3 k callerA)
  (hY:∀(w:World) (h:Heap),YP w h->(K w.params).In h)
  (F:∀(w:World) (mg:Str->Option Value) (fa:Addr) (h:Heap),(K w.params).In h->h.Ns mainGlobals mg->mg d.name=some (.ref fa)->
   ∃ fd:FuncData,(∀(s:Shared) (u:Value),BindsTo s fd ⟨[u],[]⟩ [(x,u)])/\
    ∀ base:Heap,(K w.params).In base->base.Ns mainGlobals mg->Qg l.prog w (K w.params) mg base (CX w) k fa fd [x] (sp w))
  (hsp:∀(w:World) (H:Hp) (a:Addr) (ns:List Int),ns.length<=n->qMw H->SqL (K w.params) H a (ns.map V.int)->sp w [.ref a] H (fun v _=>v=.bl true) fun _ _ _=>False)
  (hCX:∀(w:World) (H:Hp) (s:Shared) (e:Value) (s':Shared),CX w [] H s (fun _ _ _=>False) e s'->False) :
  PySem.W.WalkO q loose XP YP l.row.toRowW d [] (fun f vs=>PySem.call f vs):=by
 refine Att.attach_call hn hdf fun w s₀ s₁ mg mb fa o pm cd doc a vs ns G Y ho hd hcd hmg hobj hints hlen hg=>?_
 have KX:=hY w _ Y
 obtain ⟨fd,hb,hF⟩:=F w mg fa _ KX G.T.g hmg
 exact qH3 KX G.T.g G.T.b G.T.builtins G.T.nolimit hg hobj hints (zM hlen hn2) hr hF hb (fun H hO hS=>hsp w H a ns hlen hO hS) fun H e s'=>hCX w H s₁ e s'
noncomputable def JT (s:Stmt):Arguments:=match s with
 | .FunctionDef _ a _ _ _ _ _ _ _ _=>a
 | _=>{ posonlyargs:=[],args:=[],vararg:=none,kwonlyargs:=[],kw_defaults:=[],kwarg:=none,defaults:=[] }
noncomputable def j5 (s:Stmt):List Stmt:=match s with
 | .FunctionDef _ _ b _ _ _ _ _ _ _=>b
 | _=>[]
noncomputable def qG (s:Stmt):Scope:=match s with
 | .FunctionDef _ _ _ _ _ _ sc _ _ _=>sc
 | _=>{ kind:=.function,names:=[],isGenerator:=false,isCoroutine:=false }
noncomputable abbrev CX0:CXT:=fun _ _ _ _ _ _=>False
noncomputable abbrev E0:XK:=fun _ _ _=>False
theorem qMX {X:Cx}:qF1 CX0 X E0:=fun _ _ _ _ _ _ _ h=>h.elim
structure Fun (K:wK) (x qual:Str) (st:Stmt) (f:Addr) (fd:FuncData):Prop where
 ex:∃(oc:Value) (od:Option Addr) (kV doc pm:Value) (an:Option Addr) (cdv ct:Value) (osl:Array (Option Value)),
  fd=kR x qual (JT st) (j5 st) (qG st) .none kV doc pm an cdv ct/\K.lookup f=some ⟨oc,od,.func fd,osl⟩/\UX K cdv qual=true
 kp:UW K (.ref f)=true
section
variable {P:Program} {w:World} {K:wK} {mg:Str->Option Value} {base:Heap}
theorem Fun.ok {x qual:Str} {st:Stmt} {f:Addr} {fd:FuncData} {N ps:List Str} {k:Nat} {sp:Sp} (F:Fun K x qual st f fd) (S:qW N ps (qG st)) (len:∀ vs H Q E,sp vs H Q E->vs.length=ps.length)
  (hbody:∀(cdv:Value) (A:Around) (outer:List Env) (s:Shared) (H:Hp) (vs:List V) (Q:VK) (E:XK),Y3 k (A.deeper (envOfC qual (qG st) s.heap.objs.size f cdv))->sp vs H Q E->
   ∃ t,PSs (qIO CX0 P w K mg base N qual (qG st) f cdv A outer s H E).nox (j5 st) t/\t { nx:=fun _ H'=>Q .non H',rt:=Q } (start N vs) H):Qg P w K mg base CX0 (k+1) f fd ps sp:=by
 obtain ⟨oc,od,kV,doc,pm,an,cdv,ct,osl,rfl,lk,hcd⟩:=F.ex
 refine qMO lk hcd S len fun A outer s H vs Q E hr hsp=>?_
 obtain ⟨t,h,q⟩:=hbody cdv A outer s H vs Q E hr hsp
 exact ⟨t,h.nox,q⟩
theorem Fun.binds {x qual:Str} {st:Stmt} {f:Addr} {fd:FuncData} {ps:List Str} (F:Fun K x qual st f fd)
  (h:∀(kV doc pm:Value) (an:Option Addr) (cdv ct:Value) (us:List Value),us.length=ps.length->bindArgs (kR x qual (JT st) (j5 st) (qG st) .none kV doc pm an cdv ct) ⟨us,[]⟩=pure (ps.zip us)):Binds K fd ps []:=by
 obtain ⟨oc,od,kV,doc,pm,an,cdv,ct,osl,rfl,lk,hcd⟩:=F.ex
 exact .all (h kV doc pm an cdv ct)
theorem qLj {x qual:Str} {st:Stmt} {f:Addr} {oc:Value} {od an:Option Addr} {osl:Array (Option Value)} {kV doc pm cdv ct:Value} (l:K.lookup f=some ⟨oc,od,.func (kR x qual (JT st) (j5 st) (qG st) .none kV doc pm an cdv ct),osl⟩)
  (c:UX K cdv qual=true) (k:UW K (.ref f)=true):Fun K x qual st f (kR x qual (JT st) (j5 st) (qG st) .none kV doc pm an cdv ct):=⟨⟨oc,od,kV,doc,pm,an,cdv,ct,osl,rfl,l,c⟩,k⟩
end
theorem qN {n:Nat} (h:n<=1000):n<sizeLine:=yV h (by decide)
section
variable {X:Cx}
theorem pv (i:Nat) {x:Str} {pos:Pos} (hN:X.N[i]? = some x:=by rfl) (hv:Vis X.env.scope x:=by first | exact Or.inl rfl | exact Or.inr (Or.inl rfl) | exact Or.inr (Or.inr rfl)) (hd:(x == ("__debug__" : Str))=false:=by decide)
  (hcd:(x == ("__classdict__" : Str))=false:=by decide):PE X (.Name x pos) (qIX i):=qLf hN hv hd hcd
end
theorem qBE {c A B:Prop} [Decidable c] (h1:c->A) (h2:¬ c->B):if c then A else B:=by
 by_cases h:c
 ·rw [if_pos h]
  exact h1 h
 ·rw [if_neg h]
  exact h2 h
noncomputable def qP (H H':Hp):Prop:=∀ b o,H b=some o->H' b=some o
theorem qP.refl (H:Hp):qP H H:=fun _ _ h=>h
theorem qP.trans {H H1 H2:Hp} (a:qP H H1) (b:qP H1 H2):qP H H2:=fun c o h=>b c o (a c o h)
theorem qP.free {H H':Hp} (e:qP H H') {l:Addr} (h:H' l=Option.none):H l=Option.none:=by
 cases q:H l with
 | none=>rfl
 | some o=>
  rw [e l o q] at h
  cases h
theorem qP.seq {K:wK} {H H':Hp} {a:Addr} {xs:List V} (e:qP H H') (h:SqL K H a xs):SqL K H' a xs:=by
 rcases h with (h | ⟨o,h⟩) | h
 ·exact .inl (.inl (e _ _ h))
 ·exact .inl (.inr ⟨o,e _ _ h⟩)
 ·exact .inr h
end L2
set_option maxHeartbeats 16000000
namespace L2
open PySem PySem.Spec PyProof.Rows
section
variable {X:Cx} {pins:List (Addr×Obj)} {σ:St} {H:Hp} {s:Shared} {a:Addr} {y v:V} {u r:Value} {o:Option V} {A:Around} {E:Value->Shared->Prop}
theorem Inv.big (I:Inv X pins σ H s):sysModules<s.heap.objs.size:=by
 have h:mainGlobals<s.heap.objs.size:=(I.mod.glob.keeps I.bk).lt
 exact VI (by decide) h
theorem qJz {h':Heap} {t':Nat} {ob:HO} (I:Inv X pins σ H s) (mu:Mut (H a)) (hs:uL a s.heap h') (he:∃ q,h'.get? a=some q) (new:jh X.prog X.w (upd H a ob) h' a ob) :
  Inv X pins σ (upd H a ob) { s with heap:=h',toks:=t' }:=
 I.write (x:=a) (e:=a) mu (.inl rfl) (fun b q hb z=>(hs.2 b hb).trans z) he new
end
noncomputable def qNK (i:Expr):Prop:=∀ ov iv,subscripted i false ov iv=operate [ov,iv] (getItem ov iv)
theorem qI2 {prog:Program} {w:World} {A:Around} {E:Value->Shared->Prop} {s:Shared} {env:Env} {value slice:Expr} {pos:Pos} {T id:String} {Q:Value->Shared->Prop}
  (hl:typeLookup (.type T) "__getitem__" = pure (some (.builtin id))) (hs:qNK slice)
  (h:wpAny (model prog w) A (eval value env) (fun o s₁=>wpAny (model prog w) A (eval slice env) (fun i s₂=>s₂.TypeIs o T/\wpAny (model prog w) A (getItem o i) Q E s₂) E s₁) E s) :
  wpAny (model prog w) A (eval (.Subscript value slice pos) env) Q E s:=by
 refine Subscript_ (xQ h (fun o s₁ h₁=>xQ h₁ (fun i s₂ h₂=>?_) fun _ _ x=>x) fun _ _ x=>x)
 obtain ⟨hT,h₂⟩:=h₂
 unfold subscriptTail
 refine wB ?_
 rw [getitemInPython_of_ne hT.not_modules]
 refine wB (UL hT hl ?_)
 have fin:wpAny (model prog w) A (subscripted slice false o i) (fun r s₃=>wpAny (model prog w) A (letTemporaryGo value o r >>= fun _=>pure r) Q E s₃) E s₂:=by
  rw [hs o i]
  exact wpAny_operating (xQ h₂ (fun r s₃ h₃=>wB (wpAny_letTemporaryGo (wI h₃))) fun _ _ x=>x)
 first
  | exact wI (wB fin)
  | exact wB (wI (wB fin))
  | exact wB fin
section
variable {w:World} {prog:Program} {A:Around} {s:Shared} {R:Result->Shared->Prop}
theorem qBI {elt target iter:Expr} {ifs:List Expr} {scope:Scope} {pos:Pos} {it acc:Value} {env:Env} (J:Nat->Shared->Prop)
  (turn:∀ n s,J n s->wpAny (model prog w) A (pyNext it) (fun r s1=>match r with
   | none=>R (.ok .next) s1
   | some v=>wpAny (model prog w) A (letOwnedTupleGo target it v) (fun _ s1'=>wpAny (model prog w) A (assign target env v) (fun _ s2=>
     wpAny (model prog w) A (forIn ifs true fun c r=>if r=true then do let ok <- isTrue c env (eval c env); pure (xC ok) else pure (xC r)) (fun ok s3=>
      if ok=true then wpAny (model prog w) A (eval elt env) (fun x s4=>
       wpAny (model prog w) A (call (.builtin "list.append") [acc,x]) (fun _ s5=>∃ m,m<n/\J m s5) (fun _ _=>False) s4) (fun _ _=>False) s3
      else ∃ m,m<n/\J m s3) (fun _ _=>False) s2) (fun _ _=>False) s1') (fun _ _=>False) s1) (fun _ _=>False) s)
  (n:Nat) (h:J n s):codeAny (model prog w) A (.compLoop (.ListComp elt [⟨target,iter,ifs,0⟩] scope pos) 0 it acc env) R s:=by
 refine VJ rfl J (fun n s hI=>?_) n h
 refine UF (env:=env) (m:=compTurn (.ListComp elt [⟨target,iter,ifs,0⟩] scope pos) 0 it acc env) ?_
 rw [compTurn_list]
 refine wB (xV (wB (xQ (turn n s hI) (fun r s1 h1=>?_) fun _ _ h'=>h'.elim)))
 cases r with
 | none=>exact wI h1
 | some v=>
  refine wB (xQ h1 (fun _ s1' h1'=>?_) fun _ _ h'=>h'.elim)
  refine wB (xQ h1' (fun _ s2 h2=>wB (xQ h2 (fun ok s3 h3=>?_) fun _ _ h'=>h'.elim)) fun _ _ h'=>h'.elim)
  cases ok with
  | false=>exact wI ⟨rfl,h3⟩
  | true=>
   exact wB (wB (xQ h3 (fun x s4 h4=>wB (xQ h4 (fun _ s5 h5=>wI (wI ⟨rfl,h5⟩)) fun _ _ h'=>h'.elim)) fun _ _ h'=>h'.elim))
end
theorem Jf {env:Env}:∀(names:List (Str×NameKind)) (cs:List (Str×Addr)),(∀ x∈names,x.2=.free->∃ c,env.cells.lookup x.1=some c)->(∀ x c,cs.lookup x=some c->env.cells.lookup x=some c)->
  ∃ cl,(forIn names cs fun (x:Str×NameKind) (cs:List (Str×Addr))=>(if (x.2 == xI)=true then do let a <- cellOf env x.1; pure (xC ((x.1,a)::cs)) else pure (xC cs):Sem (ForInStep (List (Str×Addr)))))=pure cl/\
   (∀ x c,cl.lookup x=some c->env.cells.lookup x=some c)/\(∀ x,(cs.lookup x).isSome=true->(cl.lookup x).isSome=true)/\∀ x∈names,x.2=.free->(cl.lookup x.1).isSome=true
 | [],cs,_,h=>⟨cs,rfl,h,fun _ z=>z,fun x z=>by cases z⟩
 | (n,k)::r,cs,hf,h=>by
  by_cases hk:k=.free
  ·subst hk
   obtain ⟨c,hc⟩:=hf (n,.free) wD rfl
   have hc':env.cells.lookup n=some c:=hc
   obtain ⟨cl,e,h1,h2,h3⟩:=Jf (env:=env) r ((n,c)::cs) (fun x hx=>hf x (wJ _ hx)) (fun x d hd=>by
    rw [vD] at hd
    by_cases hx:x=n
    ·subst hx
     simp at hd
     subst hd
     exact hc
    ·have:(x == n)=false:=by simpa using hx
     rw [this] at hd
     exact h x d hd)
   refine ⟨cl,?_,h1,fun x hx=>h2 x ?_,fun x hx hk=>?_⟩
   ·rw [uB]
    simp only [beq_self_eq_true,if_true,cellOf,hc',pure_bind]
    exact e
   ·rw [vD]
    by_cases hx':x=n
    ·subst hx'; simp
    ·have:(x == n)=false:=by simpa using hx'
     rw [this]; exact hx
   ·rcases wW.mp hx with z | z
    ·subst z
     refine h2 _ ?_
     rw [vD]
     simp
    ·exact h3 x z hk
  ·obtain ⟨cl,e,h1,h2,h3⟩:=Jf (env:=env) r cs (fun x hx=>hf x (wJ _ hx)) h
   refine ⟨cl,?_,h1,h2,fun x hx hk'=>?_⟩
   ·rw [uB]
    have:(k == xI)=false:=by simpa using hk
    simp only [this,xR,if_false,pure_bind]
    exact e
   ·rcases wW.mp hx with z | z
    ·subst z; exact absurd hk' hk
    ·exact h3 x z hk'
theorem jv {env:Env} {scope:Scope} (hf:∀ x∈scope.names,x.2=.free->∃ c,env.cells.lookup x.1=some c) :
  ∃ cl,closureFor scope env=pure cl/\(∀ x c,cl.lookup x=some c->env.cells.lookup x=some c)/\∀ x∈scope.names,x.2=.free->(cl.lookup x.1).isSome=true:=by
 obtain ⟨cl,e,h1,_,h3⟩:=Jf (env:=env) scope.names [] hf (fun x c z=>by cases z)
 refine ⟨cl,?_,h1,h3⟩
 unfold closureFor
 simp only [bind_pure]
 exact e
noncomputable def qCi (scope:Scope) (x:Str):Bool:=match scope.names.lookup x with
 | some .cell=>true
 | _=>false
theorem qEW {scope:Scope} {x:Str} (h:qCi scope x=true):scope.names.lookup x=some .cell:=by
 unfold qCi at h
 split at h
 ·assumption
 ·cases h
noncomputable def qR (n:Nat) (scope:Scope):List (Str×Addr):=cellsFrom (n+1) scope.names []
theorem QJ:∀(names:List (Str×NameKind)) (n:Nat) (cl:List (Str×Addr)),cellsFrom n names cl=cellsFrom n names []++cl
 | [],_,_=>rfl
 | (x,k)::r,n,cl=>by
  unfold cellsFrom
  split
  ·rw [QJ r (n+1) ((x,n)::cl),QJ r (n+1) [(x,n)],yG]
   rfl
  ·exact QJ r n cl
theorem Yo:∀(names:List (Str×NameKind)) (n:Nat) {x:Str} {c:Addr},(x,c)∈cellsFrom n names []->(x,kG)∈names
 | [],_,_,_,h=>absurd h zP
 | (y,k)::r,n,x,c,h=>by
  unfold cellsFrom at h
  split at h
  ·rename_i hk
   rw [QJ] at h
   rcases zR.mp h with z | z
   ·exact wJ _ (Yo r _ z)
   ·cases zG.mp z
    rw [beq_iff_eq.mp hk]
    exact wD
  ·exact wJ _ (Yo r _ h)
structure qAw (s:Shared) (scope:Scope) (h':Heap):Prop where
 ns:h'.Ns s.heap.objs.size fun _=>none
 keep:∀ b o,s.heap.get? b=some o->h'.get? b=some o
 cell:∀ x c,(qR s.heap.objs.size scope).lookup x=some c->h'.IsCell c none/\s.heap.objs.size<c
 one:∀ x y c,(qR s.heap.objs.size scope).lookup x=some c->(qR s.heap.objs.size scope).lookup y=some c->x=y
theorem YM {M:Model} {A:Around} {E:Value->Shared->Prop} {s:Shared} {scope:Scope} {gl:Addr} {cl:List (Str×Addr)} {q:Str} {env:Env} {Q:Env->Shared->Prop}
  (h:∀ h',qAw s scope h'->Q (newEnv scope s.heap.objs.size gl (qR s.heap.objs.size scope++cl) q none .none (some env) builtinsNs) { s with heap:=h',toks:=s.toks }) :
  wpAny M A (newFunctionEnv scope gl cl [] q none .none (some env)) Q E s:=by
 unfold newFunctionEnv
 refine wB (wpAny_alloc (wB (wpAny_layCells _ (fun x k cs=>?_) _ _ _ _ (wB ?_))))
 ·by_cases z:(k == kG)=true
  ·rw [if_pos z]
   simp only [z,if_true,pure_bind,bind_assoc]
  ·rw [if_neg z]
   simp only [VL.mpr z,xR,if_false,pure_bind]
 ·have sz:=kN s.heap { cls:=.type "dict",data:=.dict #[] }
  have ok:=cellsFrom_ok scope.names (s.heap.push { cls:=.type "dict",data:=.dict #[] }) (s.heap.objs.size+1) [] ⟨fun x c z=>absurd z zP,.nil⟩ (xB sz.symm)
  rw [sz] at ok
  have b:qAw s scope (pushCells (s.heap.push { cls:=.type "dict",data:=.dict #[] }) scope.names):=by
   refine ⟨(Heap.Ns.new s.heap (.type "dict")).keeps (pushCells_keeps _ _),fun b o e=>pushCells_keeps _ _ b o (wG _ e),fun x c e=>?_,fun x y c e1 e2=>name_of_addr ok.apart (vQ e1) (vQ e2)⟩
   obtain ⟨z1,z2⟩:=ok.empty x c (vQ e)
   exact ⟨z1,z2⟩
  have this:=h _ b
  unfold qR at this
  rw [<- QJ,<- sz] at this
  rw [fG]
  exact wI (wI this)
noncomputable def qQ (X:Cx) (NY:List Str) (scope:Scope) (cl:List (Str×Addr)) (C:Addr) (s0:Shared) (H0:Hp) (ex:List Addr):Cx:=
 { X with N:=NY,s₀:=s0,H₀:=H0,env:=compEnvC scope cl C X.env,outer:=X.stack,ex:=ex,fn:=qCi scope,pn:=[],xe:=fun _ _=>False }
noncomputable def YX (X:Cx) (scope:Scope):List (Str×Nat)->Prop
 | []=>True
 | p::r=>(X.N[p.2]? = some p.1/\scope.names.lookup p.1=some .free/\(X.env.kindOf p.1=some .cell\/X.env.kindOf p.1=some .free))/\YX X scope r
theorem YX.all {X:Cx} {scope:Scope}:∀{fr:List (Str×Nat)},YX X scope fr->∀ p∈fr,X.N[p.2]? = some p.1/\scope.names.lookup p.1=some .free/\(X.env.kindOf p.1=some .cell\/X.env.kindOf p.1=some .free)
 | [],_,p,hp=>by cases hp
 | q::r,h,p,hp=>by
  rcases wW.mp hp with z | z
  ·subst z; exact h.1
  ·exact YX.all h.2 p z
noncomputable def qd (own:List Str) (fr:List (Str×Nat)) (σ:St):St:=own.map (fun _=>none)++fr.map fun p=>(σ[p.2]?).join
theorem QT {env:Env}:∀{names:List (Str×NameKind)} {x:Str} {k:NameKind},(names.map fun (n,k)=>if (k == xI && env.scope.kind == .function && env.kindOf n == some .cell) then (n,kG) else (n,k)).lookup x=some k->
  k=.cell\/k=.free->names.lookup x=some .free\/names.lookup x=some .cell
 | [],_,_,h,_=>by simp at h
 | (n,k0)::r,x,k,h,hk=>by
  have ih:=@QT env r x k
  have h':List.lookup x ((if (k0 == xI && env.scope.kind == .function && env.kindOf n == some .cell)=true then (n,kG) else (n,k0))::(r.map fun (n,k)=>if (k == xI && env.scope.kind == .function && env.kindOf n == some .cell) then (n,kG) else (n,k)))=some k:=h
  clear h
  cases hx:x == n with
  | true=>
   simp only [vD,hx]
   by_cases hc:(k0 == xI && env.scope.kind == .function && env.kindOf n == some .cell)=true
   ·simp only [yR,beq_iff_eq] at hc
    exact .inl (by rw [hc.1.1])
   ·rw [if_neg hc] at h'
    simp only [vD,hx] at h'
    cases h'
    rcases hk with rfl | rfl
    ·exact .inr rfl
    ·exact .inl rfl
  | false=>
   simp only [vD,hx]
   by_cases hc:(k0 == xI && env.scope.kind == .function && env.kindOf n == some .cell)=true
   ·rw [if_pos hc] at h'; simp only [vD,hx] at h'; exact ih h' hk
   ·rw [if_neg hc] at h'; simp only [vD,hx] at h'; exact ih h' hk
theorem Q9 {env:Env}:∀{names:List (Str×NameKind)} {x:Str},(names.map fun (n,k)=>if (k == xI && env.scope.kind == .function && env.kindOf n == some .cell) then (n,kG) else (n,k)).lookup x=some .local->
  names.lookup x=some .local
 | [],_,h=>by simp at h
 | (n,k0)::r,x,h=>by
  have ih:=@Q9 env r x
  have h':List.lookup x ((if (k0 == xI && env.scope.kind == .function && env.kindOf n == some .cell)=true then (n,kG) else (n,k0))::(r.map fun (n,k)=>if (k == xI && env.scope.kind == .function && env.kindOf n == some .cell) then (n,kG) else (n,k)))=some .local:=h
  clear h
  cases hx:x == n with
  | true=>
   simp only [vD,hx]
   by_cases hc:(k0 == xI && env.scope.kind == .function && env.kindOf n == some .cell)=true
   ·rw [if_pos hc] at h'; simp [vD,hx] at h'
   ·rw [if_neg hc] at h'; simpa [vD,hx] using h'
  | false=>
   simp only [vD,hx]
   by_cases hc:(k0 == xI && env.scope.kind == .function && env.kindOf n == some .cell)=true
   ·rw [if_pos hc] at h'; simp only [vD,hx] at h'; exact ih h'
   ·rw [if_neg hc] at h'; simp only [vD,hx] at h'; exact ih h'
structure qk (X:Cx) (own:List Str) (fr:List (Str×Nat)) (scope:Scope):Prop where
 kind:scope.kind=.function
 cells:∀ y∈scope.names,y.2=.cell->scope.names.lookup y.1=some .cell
 names:∀ x∈scope.names,x.2=.local->scope.names.lookup x.1=some .local
 frees:YX X scope fr
 allf:∀ x∈scope.names,x.2=.free->∃ p∈fr,p.1=x.1
section
variable {X:Cx} {pins:List (Addr×Obj)} {σ:St} {H:Hp} {s:Shared}
theorem qk.has {own:List Str} {fr:List (Str×Nat)} {scope:Scope} (S:qk X own fr scope) (ok:X.Ok):∀ x∈scope.names,x.2=.free->∃ c,X.env.cells.lookup x.1=some c:=fun x hx hk=>by
 obtain ⟨p,hp,e⟩:=S.allf x hx hk
 obtain ⟨_,_,h⟩:=S.frees.all p hp
 rw [<- e]
 exact ok.has p.1 h
theorem Q7 {n:Nat} {scope:Scope} {cl:List (Str×Addr)} {x:Str} {c:Addr} (h:(qR n scope++cl).lookup x=some c):(qR n scope).lookup x=some c\/cl.lookup x=some c:=by
 rw [fH] at h
 cases e:(qR n scope).lookup x with
 | none=>rw [e] at h; exact .inr h
 | some d=>rw [e] at h; exact .inl h
theorem qk.outer {own:List Str} {fr:List (Str×Nat)} {scope:Scope} (S:qk X own fr scope) {n:Nat} {cl:List (Str×Addr)} {x:Str} (h:scope.names.lookup x=some .free):(qR n scope++cl).lookup x=cl.lookup x:=by
 rw [fH]
 cases e:(qR n scope).lookup x with
 | none=>rfl
 | some d=>
  have:=S.cells _ (Yo _ _ (vQ e)) rfl
  rw [h] at this
  cases this
theorem J7 {scope:Scope} {cl:List (Str×Addr)} {h':Heap} (B:qAw s scope h') {b:Addr} {o:Obj} (hb:s.heap.get? b=some o) {x:Str} {c:Addr} (h:(qR s.heap.objs.size scope++cl).lookup x=some c) (g:cl.lookup x=some c->c≠b):c≠b:=by
 rcases Q7 h with z | z
 ·exact fun e=>absurd (zQ hb) (VZ (e ▸ (B.cell x c z).2))
 ·exact g z
theorem qAl {own:List Str} {fr:List (Str×Nat)} {scope:Scope} {cl:List (Str×Addr)} {fp:List Addr} {h':Heap} {tk:Nat} (S:qk X own fr scope) (I:Inv X pins σ H s)
  (hcl:∀ x c,cl.lookup x=some c->X.env.cells.lookup x=some c) (hcs:∀ x∈scope.names,x.2=.free->(cl.lookup x.1).isSome=true)
  (hf:∀ b∈fp,Yz X pins H b) (hfo:∀ b∈fp,∃ o,s.heap.get? b=some o)
  (B:qAw s scope h') :
  Inv (qQ X (own++fr.map (·.1)) scope (qR s.heap.objs.size scope++cl) s.heap.objs.size s H fp) [] (qd own fr σ) H { s with heap:=h',toks:=tk }:=by
 have keep:=B.keep
 have old:∀ x c,cl.lookup x=some c->c<s.heap.objs.size:=fun x c e=>by
  obtain ⟨v,z⟩:=I.cell x c (hcl x c e)
  exact z.lt
 have freeOf:∀ x,scope.names.lookup x=some .free->∃ c,cl.lookup x=some c:=fun x hx=>by
  have hm:=vQ hx
  exact TV.mp (hcs _ hm rfl)
 refine ⟨⟨I.ok.mod,?_,I.ok.glob,I.ok.blt,wH _,?_,?_,?_,I.ok.hd,I.ok.frames,.inl rfl,?_,I.bs,zM I.ok.bsz I.sz,?_,?_,I.stack,I.stkFree⟩,rfl,I.bare,Un.kept keep,⟨_,B.ns,?_⟩,?_,I.hok.fresh (wH _),?_,?_,I.hok.kept keep,?_⟩
 ·exact S.kind
 ·intro x y c h1 h2
  rcases Q7 h1 with z1 | z1 <;> rcases Q7 h2 with z2 | z2
  ·exact B.one x y c z1 z2
  ·exact absurd (old y c z2) (VZ (B.cell x c z1).2)
  ·exact absurd (old x c z1) (VZ (B.cell y c z2).2)
  ·exact I.ok.inj x y c (hcl x c z1) (hcl y c z2)
 ·intro x hx
  have hx':(relabel scope X.env).names.lookup x=some .cell\/(relabel scope X.env).names.lookup x=some .free:=hx
  have:scope.names.lookup x=some .free\/scope.names.lookup x=some .cell:=by
   rcases hx' with z | z
   ·exact QT z (.inl rfl)
   ·exact QT z (.inr rfl)
  rcases this with z | z
  ·obtain ⟨c,hc⟩:=freeOf x z
   exact ⟨c,(S.outer z).trans hc⟩
  ·obtain ⟨c,hc⟩:=J2 (n:=s.heap.objs.size+1) z
   refine ⟨c,?_⟩
   show (qR s.heap.objs.size scope++cl).lookup x=some c
   rw [fH,show (qR s.heap.objs.size scope).lookup x=some c from hc]
   rfl
 ·intro x c hx z
  obtain ⟨d,hd⟩:=J2 (n:=s.heap.objs.size+1) (qEW hx)
  have e:(qR s.heap.objs.size scope++cl).lookup x=some d:=by
   rw [fH,show (qR s.heap.objs.size scope).lookup x=some d from hd]
   rfl
  have z':(qR s.heap.objs.size scope++cl).lookup x=some c:=z
  rw [e] at z'
  cases z'
  exact vR (B.cell x c hd).2
 ·intro b hb
  obtain ⟨o,ho⟩:=hfo b hb
  exact ⟨vE (zQ ho),fun x c e=>J7 B ho e fun z=>(hf b hb).2.2.2.2.1 x c (hcl x c z)⟩
 ·intro b o e hb
  obtain ⟨_,_,_,z,_⟩:=hf b hb
  rcases z with z | z
  ·exact I.ok.noex b o e z
  ·exact absurd (zZ (zQ (I.ok.bs b o e).1) z) (vO _)
 ·intro b hb hs
  obtain ⟨_,f1,f2,_⟩:=hf b hb
  rcases wW.mp (I.stkSub b hs) with e | e
  ·exact f1 e
  ·exact f2 e
 ·intro i x v h1 h2 h3
  have h1':(own++fr.map (·.1))[i]? = some x:=h1
  have h2':(own.map (fun _=>(none:Option V))++fr.map fun p=>(σ[p.2]?).join)[i]? = some (some v):=h2
  by_cases hi:i<own.length
  ·rw [yL (by simpa using hi),wQ] at h2'
   rw [wA hi] at h2'
   cases h2'
  ·rw [zU (by omega),wQ] at h1'
   rw [zU (by simp; omega),wQ,wC] at h2'
   cases e:fr[i - own.length]? with
   | none=>rw [e] at h1'; cases h1'
   | some p=>
    rw [e] at h1' h2'
    have e1:p.1=x:=by simpa using h1'
    have e2:(σ[p.2]?).join=some v:=by simpa using h2'
    have e3:σ[p.2]? = some (some v):=by
     cases q:σ[p.2]? with
     | none=>rw [q] at e2; cases e2
     | some y=>rw [q] at e2; cases y with
      | none=>cases e2
      | some y=>simpa using e2
    obtain ⟨g1,g2,g3⟩:=S.frees.all p (vM e)
    subst e1
    obtain ⟨m,hn,hl⟩:=I.loc
    have vis:Vis X.env.scope p.1:=by
     rcases g3 with z | z
     ·exact .inr (.inl z)
     ·exact .inr (.inr z)
    obtain ⟨u,r,l⟩:=hl p.2 p.1 v g1 e3 vis
    refine ⟨u,r,.inr ⟨?_,?_⟩⟩
    ·have h3':Vis (relabel scope X.env) p.1:=h3
     rcases h3' with z | z | z
     ·have:=Q9 z
      rw [g2] at this
      cases this
     ·exact .inl z
     ·exact .inr z
    ·rcases l with ⟨k,_⟩ | ⟨k,c,hc,hcell⟩
     ·rcases g3 with z | z
      ·rw [z] at k; cases k
      ·rw [z] at k; cases k
     ·obtain ⟨c',hc'⟩:=freeOf p.1 g2
      have:=hcl _ _ hc'
      rw [hc] at this
      cases this
      obtain ⟨o,ho,hd⟩:=hcell
      exact ⟨c,(S.outer g2).trans hc',o,keep c o ho,hd⟩
 ·intro x c e
  rcases Q7 e with z | z
  ·exact ⟨none,(B.cell x c z).1⟩
  ·obtain ⟨v,o,ho,hd⟩:=I.cell x c (hcl x c z)
   exact ⟨v,o,keep c o ho,hd⟩
 ·intro x c e
  rcases Q7 e with z | z
  ·exact I.hok.fresh (vR (B.cell x c z).2)
  ·exact I.freeC x c (hcl x c z)
 ·intro p hp
  exact absurd (show p∈([]:List (Addr×Obj)) from hp) (by simp)
 ·show (own.map (fun _=>(none:Option V))++fr.map fun p=>(σ[p.2]?).join).length=(own++fr.map (·.1)).length
  simp
end
noncomputable def PF (X:Cx) (ifs:List Expr) (t:TT):Prop:=
 ∀(pins:List (Addr×Obj)) (s:Shared) (σ:St) (H:Hp) (Q:Bool->Hp->Prop),Inv X pins σ H s->t σ H Q->
  wpAny (model X.prog X.w) X.A (forIn ifs true fun c r=>if r=true then do let ok <- isTrue c X.env (eval c X.env); pure (xC ok) else pure (xC r)) (TP X pins σ Q) X.xe s
noncomputable def qKq:TT:=fun _ H Q=>Q true H
theorem QC {X:Cx}:PF X [] qKq:=fun _ _ _ H _ I h=>wpAny_tests_nil ⟨H,I,h⟩
theorem Qp {X:Cx} {c:Expr} {t:TT} (h:PT X c t):PF X [c] t:=fun pins s σ H Q I q=>wpAny_tests_one (h pins s σ H Q I q)
noncomputable def qA4 (J:It) (g:TG) (tt:TT) (te:TE) (σ0:St) (H1:Hp) (D:Addr) (Q:Hp->Prop):Prop:=
 ∃ W:Nat->Nat->List V->St->Hp->Prop,(∃ m,W 0 m [] σ0 (upd H1 D (.lst [])))/\∀ i m ys σ H,W i m ys σ H->H D=some (.lst ys)/\
  ((J.stop i H/\Q H)\/(J.go i H/\ys.length<sizeLine/\∃ N:List V->St->Hp->Prop,(∀ ys' σ' H',N ys' σ' H'->∃ m',m'<m/\W (i+1) m' ys' σ' H')/\
   ∀ x H',J.yld i H x H'->g x σ H' fun σ2 H2=>tt σ2 H2 fun b H3=>if b=true then te σ2 H3 fun y H4=>H4 D=some (.lst ys)/\N (ys++[y]) σ2 (upd H4 D (.lst (ys++[y]))) else N ys σ2 H3))
noncomputable def qDy (own:List Str) (fr:List (Str×Nat)) (wi:TI) (g:TG) (tt:TT) (te:TE):TE:=fun σ H Q=>wi σ H fun J H1=>∀ D,H1 D=none->qA4 J g tt te (qd own fr σ) H1 D fun H2=>Q (.ref D) H2
section
variable {X:Cx} {pins:List (Addr×Obj)} {σ:St} {H:Hp} {s:Shared}
theorem qDa {own:List Str} {fr:List (Str×Nat)} {scope:Scope} {cl:List (Str×Addr)} {elt tg iter:Expr} {ifs:List Expr} {pos:Pos} {g:TG} {tt:TT} {te:TE} {Q:Addr->Hp->Prop} {RR:Value->Addr->Result->Shared->Prop} {E:Value->Shared->Prop}
  {it:Addr} {fp:List Addr} {tn:Nat->Heap->Prop} {J:It}
  (hc:X.calm=true) (S:qk X own fr scope) (I:Inv X pins σ H s) (hcl:∀ x c,cl.lookup x=some c->X.env.cells.lookup x=some c) (hcs:∀ x∈scope.names,x.2=.free->(cl.lookup x.1).isSome=true)
  (T:Turn X.prog X.w X.K tg J fp it tn) (st:tn 0 s.heap) (hf:∀ b∈fp,Yz X pins H b)
  (hB:∀(cl:List (Str×Addr)) (C:Addr) (s0:Shared) (H0:Hp),PG (qQ X (own++fr.map (·.1)) scope cl C s0 H0 fp) tg g/\PF (qQ X (own++fr.map (·.1)) scope cl C s0 H0 fp) ifs tt/\PE (qQ X (own++fr.map (·.1)) scope cl C s0 H0 fp) elt te)
  (body:∀ D,H D=none->qA4 J g tt te (qd own fr σ) H D (Q D))
  (hR:∀ D C s' H',Inv X pins σ H' s'->Q D H'->C≠X.env.locals->(∃ m,s'.heap.Ns C m)->Yz X pins H' C->(∃ o,s'.heap.get? C=some o)->RR (.ref D) C (.ok .next) s') :
  wpAny (model X.prog X.w) X.A (newList []) (fun acc s3=>wpAny (model X.prog X.w) X.A (newFunctionEnv scope X.env.globals cl [] X.env.qual none .none (some X.env)) (fun cenv s4=>
   codeAny (model X.prog X.w) X.A (.compStart (.ListComp elt [⟨tg,iter,ifs,0⟩] scope pos) 0 (.ref it) acc { cenv with scope:=relabel scope X.env }) (RR acc cenv.locals) s4) E s3) E s:=by
 refine xJ ?_
 have nD:H s.heap.objs.size=none:=I.hok.fresh (wH _)
 have I3:Inv X pins σ (upd H s.heap.objs.size (.lst [])) { s with heap:=s.heap.push { cls:=.type "list",data:=.seq ([]:List Value).toArray },toks:=s.toks }:=I.lnew (t':=s.toks) .nil (yN _)
 generalize hs3:({ s with heap:=s.heap.push { cls:=.type "list",data:=.seq ([]:List Value).toArray },toks:=s.toks }:Shared)=s3 at I3
 generalize hD:s.heap.objs.size=D at I3 nD
 have st3:tn 0 s3.heap:=by
  subst hs3
  exact T.keep _ _ _ st fun b _ o e=>wG _ e
 have fD:∀ b∈fp,b≠D:=fun b hb z=>by
  obtain ⟨o,ho,_⟩:=T.obj _ _ st b hb
  exact absurd (zQ ho) (by rw [hD,z]; exact vO _)
 have hf3:∀ b∈fp,Yz X pins (upd H D (.lst [])) b:=fun b hb=>⟨by rw [qJ (fD b hb)]; exact (hf b hb).1,(hf b hb).2⟩
 obtain ⟨W,⟨m0,w0⟩,turn⟩:=body D nD
 refine YM fun h4 B4=>?_
 have keep4:=B4.keep
 have far:∀ b∈fp,∀ x c,(qR s3.heap.objs.size scope++cl).lookup x=some c->c≠b:=fun b hb x c e=>by
  obtain ⟨o,ho,_⟩:=T.obj _ _ st3 b hb
  exact J7 B4 ho e fun z=>(hf b hb).2.2.2.2.1 x c (hcl x c z)
 generalize hs4:({ s3 with heap:=h4,toks:=s3.toks }:Shared)=s4
 have I4:Inv (qQ X (own++fr.map (·.1)) scope (qR s3.heap.objs.size scope++cl) s3.heap.objs.size s3 (upd H D (.lst [])) fp) [] (qd own fr σ) (upd H D (.lst [])) s4:=by
  subst hs4
  exact qAl S I3 hcl hcs hf3 (fun b hb=>let ⟨o,e,_⟩:=T.obj _ _ st3 b hb; ⟨o,e⟩) B4
 have st4:tn 0 s4.heap:=by
  subst hs4
  exact T.keep _ _ _ st3 fun b _ o e=>keep4 b o e
 have Cne:s3.heap.objs.size≠X.env.locals:=gY I3.lt
 generalize hcl2:qR s3.heap.objs.size scope++cl=cl2 at I4 far
 generalize hC:s3.heap.objs.size=C at I4 Cne
 obtain ⟨pG,pF,pE⟩:=hB cl2 C s3 (upd H D (.lst []))
 generalize hY:qQ X (own++fr.map (·.1)) scope cl2 C s3 (upd H D (.lst [])) fp=Y at I4 pG pF pE
 have yP:Y.prog=X.prog:=by rw [<- hY]; rfl
 have yw:Y.w=X.w:=by rw [<- hY]; rfl
 have yK:Y.K=X.K:=by rw [<- hY]; rfl
 have yA:Y.A=X.A:=by rw [<- hY]; rfl
 have yc:Y.calm=true:=by rw [<- hY]; exact hc
 have yx:Y.xe=fun _ _=>False:=by rw [<- hY]; rfl
 have yfs:Y.fs=frs X.stack:=by rw [<- hY]; rfl
 have yex:Y.ex=fp:=by rw [<- hY]; rfl
 have yH:Y.H₀=upd H D (.lst []):=by rw [<- hY]; rfl
 have ys:Y.s₀=s3:=by rw [<- hY]; rfl
 have yl:Y.env.locals=C:=by rw [<- hY]; rfl
 have ypn:Y.pn=[]:=by rw [<- hY]; rfl
 have ycl:Y.env.cells=cl2:=by rw [<- hY]; rfl
 have yenv:Y.env=compEnvC scope cl2 C X.env:=by rw [<- hY]; rfl
 have e5:{ (newEnv scope C X.env.globals cl2 X.env.qual none .none (some X.env) builtinsNs:Env) with scope:=relabel scope X.env } = Y.env:=by rw [yenv]; rfl
 have hCe:(newEnv scope C X.env.globals cl2 X.env.qual none .none (some X.env) builtinsNs:Env).locals=C:=rfl
 have fpY:∀{H':Hp},(∀ b∈fp,H' b=none)->∀ b∈fp,Yz Y [] H' b:=fun hn b hb=>by
  obtain ⟨o,ho,_⟩:=T.obj _ _ st3 b hb
  have hlt:=zQ ho
  refine ⟨hn b hb,?_,?_,.inl (by rw [yex]; exact hb),fun x c e=>?_,fun p hp=>?_⟩
  ·rw [yl,<- hC]; exact vE hlt
  ·rw [yfs]
   intro z
   obtain ⟨_,f1,f2,_⟩:=hf b hb
   rcases wW.mp (I.stkSub b z) with e | e
   ·exact f1 e
   ·exact f2 e
  ·rw [ycl] at e
   exact far b hb x c e
  ·rw [ypn] at hp
   cases hp
 have main:codeAny (model X.prog X.w) X.A (.compLoop (.ListComp elt [⟨tg,iter,ifs,0⟩] scope pos) 0 (.ref it) (.ref D) Y.env) (RR (.ref D) C) s4:=by
  refine qBI (fun n s'=>∃ i ys σ' H',Inv Y [] σ' H' s'/\tn i s'.heap/\(∀ b∈fp,H' b=none)/\W i n ys σ' H') ?_ m0 ⟨0,[],_,_,I4,st4,fun b hb=>(hf3 b hb).1,w0⟩
  rintro n s5 ⟨i,ys5,σ5,H5,I5,st5,fr5,w5⟩
  obtain ⟨hD5,hw⟩:=turn i n ys5 σ5 H5 w5
  rcases hw with ⟨stop,q⟩ | ⟨go,hz,N,hN,step⟩
  ·have:=T.done Y yP yw yK yc i [] s5 σ5 H5 (fun _ _=>False) I5 (fpY fr5) st5 stop
   rw [yA] at this
   refine thn this fun r s6 ⟨hr,I6⟩=>?_
   subst hr
   have I7:Inv X pins σ H5 s6:=by
    refine I3.call' (ch:=fp) (H':=H5) ?_ ?_ ?_ I6.bare fun b hb=>?_
    ·rw [<- ys]; exact I6.os
    ·have:=I6.base
     rw [yfs,yex,yH,ys] at this
     exact this
    ·have:=I6.hok
     rw [yP,yw] at this
     exact this
    ·obtain ⟨_,f1,_,f3,f4,f5⟩:=hf b hb
     exact ⟨f3,f1,f4,f5⟩
   obtain ⟨mC,hnC,_⟩:=I6.loc
   rw [yl] at hnC
   refine hR D C s6 H5 I7 q Cne ⟨mC,hnC⟩ ?_ ?_
   ·refine I3.fpOk (by rw [hC]; exact wH _) ?_
    have:=I6.free
    rw [yl] at this
    exact this
   ·obtain ⟨o,_,_,ho,_⟩:=hnC
    exact ⟨o,ho⟩
  ·have h5:=T.item Y yP yw yK yc i [] s5 σ5 H5 (fun _ _=>False) I5 (fpY fr5) st5 go
   rw [yA] at h5
   refine thn h5 fun r s6 ⟨u,hr,h6⟩=>?_
   subst hr
   refine thn h6 fun _ s7 ⟨x,H7,I7,r7,y7,st7,fr7⟩=>?_
   have I7':=I7.pinned (fpY fr7) (T.obj _ _ st7)
   have h8:=pG _ s7 σ5 H7 x u _ I7' r7 (step x H7 y7)
   rw [yP,yw,yA,yx] at h8
   refine thn h8 fun _ s8 ⟨σ8,H8,I8,q8⟩=>?_
   have h9:=pF _ s8 σ8 H8 _ I8 q8
   rw [yP,yw,yA,yx] at h9
   refine thn h9 fun b s9 ⟨H9,I9,q9⟩=>?_
   have again:∀{ys':List V} {σ':St} {H':Hp} {s':Shared},Inv Y ([]++QD fp s7.heap) σ' H' s'->N ys' σ' H'->∃ m,m<n/\∃ i ys σ' H',Inv Y [] σ' H' s'/\tn i s'.heap/\(∀ b∈fp,H' b=none)/\W i m ys σ' H':=fun {ys' σ' H' s'} I' n'=>by
    obtain ⟨m',hm,w'⟩:=hN ys' σ' H' n'
    refine ⟨m',hm,i+1,ys',σ',H',I'.unpinned,T.keep _ _ _ st7 fun b hb o e=>(I'.pin (b,o) (zH _ (zH _ (qq hb e)))).1,fun b hb=>?_,w'⟩
    obtain ⟨o,e,d⟩:=T.obj _ _ st7 b hb
    exact (I'.pin (b,o) (zH _ (zH _ (qq hb e)))).2.1
   cases b with
   | false=>
    simp only [xR,if_false] at q9 ⊢
    exact again I9 q9
   | true=>
    simp only [if_true] at q9 ⊢
    have h10:=pE _ s9 σ8 H9 _ I9 q9
    rw [yP,yw,yA,yx] at h10
    refine thn h10 fun y s10 ⟨z,H10,I10,r10,hD10,n10⟩=>?_
    have h11:=Yj (X:=Y) _ s10 σ8 H10 (.ref D) [z] (.ref D) [y] (fun _ H'=>N (ys5++[z]) σ8 H') I10 rfl (.cons r10 .nil) ⟨D,ys5,z,rfl,rfl,hD10,hz,n10⟩
    rw [yP,yw,yA,yx] at h11
    refine thn h11 fun _ s11 ⟨_,H11,I11,_,n11⟩=>?_
    exact again I11 n11
 have start:codeAny (model X.prog X.w) X.A (.compStart (.ListComp elt [⟨tg,iter,ifs,0⟩] scope pos) 0 (.ref it) (.ref D) Y.env) (RR (.ref D) C) s4:=
  codeAny_compStart_list main (T.self X.A 0 s4 _ _ st4 main)
 have goal:codeAny (model X.prog X.w) X.A (.compStart (.ListComp elt [⟨tg,iter,ifs,0⟩] scope pos) 0 (.ref it) (.ref D) { (newEnv scope C X.env.globals cl2 X.env.qual none .none (some X.env) builtinsNs:Env) with scope:=relabel scope X.env }) (RR (.ref D) (newEnv scope C X.env.globals cl2 X.env.qual none .none (some X.env) builtinsNs:Env).locals) s4:=by
  rw [e5,hCe]; exact start
 subst hC hD
 exact goal
end
section
variable {X:Cx}
theorem qw {own:List Str} {fr:List (Str×Nat)} {scope:Scope} {elt tg iter:Expr} {ifs:List Expr} {pos:Pos} {wi:TI} {g:TG} {tt:TT} {te:TE} (hc:X.calm=true) (S:qk X own fr scope) (hi:PI X tg iter wi)
  (hB:∀(cl:List (Str×Addr)) (C:Addr) (s0:Shared) (H0:Hp) (fp:List Addr),PG (qQ X (own++fr.map (·.1)) scope cl C s0 H0 fp) tg g/\PF (qQ X (own++fr.map (·.1)) scope cl C s0 H0 fp) ifs tt/\PE (qQ X (own++fr.map (·.1)) scope cl C s0 H0 fp) elt te)
  (hs:∀ x,foldedSetIterable iter X.env x=pure x:=by intro _; rfl):PE X (.ListComp elt [⟨tg,iter,ifs,0⟩] scope pos) (qDy own fr wi g tt te):=by
 intro pins s σ H Q I h
 obtain ⟨cl,e1,e2,e3⟩:=jv (S.has I.ok)
 rw [eval_ListComp]
 refine uV (use:=none) rfl hs e1 S.kind S.names (thn (hi pins s σ H _ I h) fun v s1 h1=>thn h1 fun itv s2 h2=>?_)
 obtain ⟨it,fp,tn,J,H2,e,I2,T,st2,f2,body⟩:=h2
 subst e
 refine qDa (Q:=fun D H'=>Q (.ref D) H') (RR:=fun acc C=>compPost (model X.prog X.w) X.A X.xe none (EP X pins σ Q) acc C) hc S I2 e2 e3 T st2 f2 (fun cl' C s0 H0=>hB cl' C s0 H0 fp) body ?_
 intro D C s' H' I' q hne ⟨m,hn⟩ ⟨f0,f1,f2',f3,f4,f5⟩ _
 exact ⟨m,hn,fun h'' hs''=>⟨.ref D,H',I'.turned (it:=C) (t':=s'.toks) (fun b o hb e=>hs''.extBut b o hb e) f0 f1 f3 f4 f5,rfl,q⟩⟩
theorem JW {i:Nat} {x:Str} {pos' spos:Pos} {own:List Str} {fr:List (Str×Nat)} {scope:Scope} {elt tg iter:Expr} {ifs:List Expr} {pos:Pos} {wi:TI} {g:TG} {tt:TT} {te:TE} (hc:X.calm=true)
  (hN:X.N.Nodup) (hi':X.N[i]? = some x) (hx:X.env.scope.names.lookup x=some .local) (S:qk X own fr scope) (hi:PI X tg iter wi)
  (hB:∀(cl:List (Str×Addr)) (C:Addr) (s0:Shared) (H0:Hp) (fp:List Addr),PG (qQ X (own++fr.map (·.1)) scope cl C s0 H0 fp) tg g/\PF (qQ X (own++fr.map (·.1)) scope cl C s0 H0 fp) ifs tt/\PE (qQ X (own++fr.map (·.1)) scope cl C s0 H0 fp) elt te)
  (hs:∀ x,foldedSetIterable iter X.env x=pure x:=by intro _; rfl)
  (hsw:swapsWith (.ListComp elt [⟨tg,iter,ifs,0⟩] scope pos) (some (.Name x pos')) spos.line X.env=pure true:=by rfl):PS X (.Assign [.Name x pos'] (.ListComp elt [⟨tg,iter,ifs,0⟩] scope pos) spos) (qKJ (qDy own fr wi g tt te) (qB2 i)):=by
 intro pins s σ H D0 I h
 obtain ⟨cl,e1,e2,e3⟩:=jv (S.has I.ok)
 have un:=exec_Assign_Name_used _ _ _ _ hsw
 rw [un]
 apply wB
 apply xV
 apply wB
 show wpAny _ X.A (do let _ <- comprehension (.ListComp elt [⟨tg,iter,ifs,0⟩] scope pos) scope X.env _ (newList []) false (eval iter X.env) (some (assign (.Name x pos') X.env))) _ _ s
 refine wB (thn (uV (use:=some (assign (.Name x pos') X.env)) (Q:=fun _ s'=>SP X pins D0 .next s') rfl hs e1 S.kind S.names
  (thn (hi pins s σ H _ I h) fun v s1 h1=>thn h1 fun itv s2 h2=>?_)) fun _ s' hq=>wI (wI hq))
 obtain ⟨it,fp,tn,J,H2,e,I2,T,st2,f2,body⟩:=h2
 subst e
 refine qDa (Q:=fun D H'=>D0.nx (σ.set i (some (.ref D))) H') (RR:=fun acc C=>compPost (model X.prog X.w) X.A X.xe (some (assign (.Name x pos') X.env)) (fun _ s'=>SP X pins D0 .next s') acc C) hc S I2 e2 e3 T st2 f2 (fun cl' C s0 H0=>hB cl' C s0 H0 fp) body ?_
 intro D C s' H' I' q hne ⟨m,hn⟩ ⟨f0,f1,f2',f3,f4,f5⟩ _
 show wpAny _ X.A (assign (.Name x pos') X.env (.ref D)) _ _ s'
 refine VF (Yb I' hN hi' (.inl hx) (v:=.ref D) rfl (fun s'' I'' hk=>?_) (.inr hx))
 have hC2:∃ m,s''.heap.Ns C m:=by
  obtain ⟨a,hsb,ha⟩:=hk
  obtain ⟨o,es,ep,ho,r⟩:=hn
  refine ⟨m,o,es,ep,hsb.extBut C o ?_ ho,r⟩
  rcases ha with z | z
  ·rw [z]; exact hne
  ·exact fun e=>f4 x a z e.symm
 obtain ⟨m2,hn2⟩:=hC2
 exact ⟨m2,hn2,fun h'' hs''=>⟨_,H',I''.turned (it:=C) (t':=s''.toks) (fun b o hb e=>hs''.extBut b o hb e) f0 f1 f3 f4 f5,q⟩⟩
end
noncomputable abbrev jC (elt tg iter:Expr) (ifs:List Expr) (tg1 iter1:Expr) (ifs1:List Expr) (scope:Scope) (pos:Pos):Expr:=.ListComp elt [⟨tg,iter,ifs,0⟩,⟨tg1,iter1,ifs1,0⟩] scope pos
noncomputable abbrev qCD (ifs:List Expr) (env:Env):Sem Bool:=forIn ifs true fun c r=>if r=true then do let ok <- isTrue c env (eval c env); pure (xC ok) else pure (xC r)
noncomputable abbrev noR:Value->Shared->Prop:=fun _ _=>False
theorem th0 {α:Type} {t:Sem α} {Q Q':α->Shared->Prop} {M:Model} {A:Around} {E:Value->Shared->Prop} {s:Shared} (h:wpAny M A t Q noR s) (hQ:∀ a s,Q a s->Q' a s):wpAny M A t Q' E s:=xQ h hQ fun _ _ x=>x.elim
section
variable {w:World} {prog:Program} {A:Around} {s:Shared} {R:Result->Shared->Prop} {elt tg iter tg1 iter1:Expr} {ifs ifs1:List Expr} {scope:Scope} {pos:Pos} {it acc:Value} {env:Env}
theorem qLR (J:Nat->Shared->Prop)
  (turn:∀ n s,J n s->wpAny (model prog w) A (pyNext it) (fun r s1=>match r with
   | none=>R (.ok .next) s1
   | some v=>wpAny (model prog w) A (letOwnedTupleGo tg1 it v) (fun _ s2=>wpAny (model prog w) A (assign tg1 env v) (fun _ s3=>wpAny (model prog w) A (qCD ifs1 env) (fun ok s4=>
     if ok=true then wpAny (model prog w) A (eval elt env) (fun x s5=>wpAny (model prog w) A (call (.builtin "list.append") [acc,x]) (fun _ s6=>∃ m,m<n/\J m s6) noR s5) noR s4
     else ∃ m,m<n/\J m s4) noR s3) noR s2) noR s1) noR s)
  (n:Nat) (h:J n s):codeAny (model prog w) A (.compLoop (jC elt tg iter ifs tg1 iter1 ifs1 scope pos) 1 it acc env) R s:=by
 refine VJ rfl J (fun n s hI=>?_) n h
 refine UF (env:=env) (m:=compTurn (jC elt tg iter ifs tg1 iter1 ifs1 scope pos) 1 it acc env) ?_
 refine wB (xV (wB (th0 (turn n s hI) fun r s1 h1=>?_)))
 cases r with
 | none=>exact wI h1
 | some v=>
  refine wB (th0 h1 fun _ s2 h2=>wB (th0 h2 fun _ s3 h3=>wB (th0 h3 fun ok s4 h4=>?_)))
  cases ok with
  | false=>exact wI ⟨rfl,h4⟩
  | true=>exact wB (wB (th0 h4 fun x s5 h5=>wB (th0 h5 fun _ s6 h6=>wI (wI ⟨rfl,h6⟩))))
theorem qFa (h0:codeAny (model prog w) A (.compLoop (jC elt tg iter ifs tg1 iter1 ifs1 scope pos) 1 it acc env) R s)
  (h:wpAny (model prog w) A (pyIter it) (fun i s'=>codeAny (model prog w) A (.compLoop (jC elt tg iter ifs tg1 iter1 ifs1 scope pos) 1 i acc env) R s') noR s) :
  codeAny (model prog w) A (.compStart (jC elt tg iter ifs tg1 iter1 ifs1 scope pos) 1 it acc env) R s:=by
 refine codeAny_of_tree (wpAny_notedAt (env:=env) (m:=compStart (jC elt tg iter ifs tg1 iter1 ifs1 scope pos) 1 it acc env) ?_)
 refine wB ?_
 refine ZG ?_
 refine wpAny_ite ?_
 split
 ·exact wI ⟨rfl,h0⟩
 ·exact wB (fI (wB (xV (wB (th0 h fun _ _ z=>wI ⟨rfl,z⟩)))))
theorem qJw (J:Nat->Shared->Prop) (hs:∀ x,foldedSetIterable iter1 env x=pure x)
  (turn:∀ n s,J n s->wpAny (model prog w) A (pyNext it) (fun r s1=>match r with
   | none=>R (.ok .next) s1
   | some v=>wpAny (model prog w) A (letOwnedTupleGo tg it v) (fun _ s2=>wpAny (model prog w) A (assign tg env v) (fun _ s3=>wpAny (model prog w) A (qCD ifs env) (fun ok s4=>
     if ok=true then wpAny (model prog w) A (eval iter1 env) (fun x s5=>wpAny (model prog w) A (pyIter x) (fun i s6=>
      codeAny (model prog w) A (.compStart (jC elt tg iter ifs tg1 iter1 ifs1 scope pos) 1 i acc env) (fun r s7=>(∃ f,r=.ok f)/\∃ m,m<n/\J m s7) s6) noR s5) noR s4
     else ∃ m,m<n/\J m s4) noR s3) noR s2) noR s1) noR s)
  (n:Nat) (h:J n s):codeAny (model prog w) A (.compLoop (jC elt tg iter ifs tg1 iter1 ifs1 scope pos) 0 it acc env) R s:=by
 refine VJ rfl J (fun n s hI=>?_) n h
 refine UF (env:=env) (m:=compTurn (jC elt tg iter ifs tg1 iter1 ifs1 scope pos) 0 it acc env) ?_
 refine wB (xV (wB (th0 (turn n s hI) fun r s1 h1=>?_)))
 cases r with
 | none=>exact wI h1
 | some v=>
  refine wB (th0 h1 fun _ s2 h2=>wB (th0 h2 fun _ s3 h3=>wB (th0 h3 fun ok s4 h4=>?_)))
  cases ok with
  | false=>exact wI ⟨rfl,h4⟩
  | true=>
   refine wB (th0 h4 fun x s5 h5=>wB (xV ?_))
   refine wB (m:=foldedSetIterable iter1 env x) (WD (hs x) ?_)
   refine wB (vP (m:=pyIter x) (th0 h5 fun i s6 h6=>wB (wpAny_runOwn (h:=none) ?_)))
   refine ZM h6 fun r s7 h7=>?_
   obtain ⟨⟨f,e⟩,h7⟩:=h7
   subst e
   exact wI ⟨rfl,h7⟩
end
noncomputable def qGC (wi:TI) (g:TG) (tt:TT) (te:TE) (D:Addr) (ys:List V) (σ:St) (H:Hp) (N:List V->St->Hp->Prop):Prop:=
 wi σ H fun J H1=>∃ W:Nat->Nat->List V->St->Hp->Prop,(∃ m,W 0 m ys σ H1)/\∀ i m ys σ H,W i m ys σ H->H D=some (.lst ys)/\
  ((J.stop i H/\N ys σ H)\/(J.go i H/\ys.length<sizeLine/\∃ M:List V->St->Hp->Prop,(∀ ys' σ' H',M ys' σ' H'->∃ m',m'<m/\W (i+1) m' ys' σ' H')/\
   ∀ x H',J.yld i H x H'->g x σ H' fun σ2 H2=>tt σ2 H2 fun b H3=>if b=true then te σ2 H3 fun y H4=>H4 D=some (.lst ys)/\M (ys++[y]) σ2 (upd H4 D (.lst (ys++[y]))) else M ys σ2 H3))
noncomputable def qFv (J:It) (g:TG) (tt:TT) (wi1:TI) (g1:TG) (tt1:TT) (te:TE) (σ0:St) (H1:Hp) (D:Addr) (Q:Hp->Prop):Prop:=
 ∃ W:Nat->Nat->List V->St->Hp->Prop,(∃ m,W 0 m [] σ0 (upd H1 D (.lst [])))/\∀ i m ys σ H,W i m ys σ H->H D=some (.lst ys)/\
  ((J.stop i H/\Q H)\/(J.go i H/\∃ N:List V->St->Hp->Prop,(∀ ys' σ' H',N ys' σ' H'->∃ m',m'<m/\W (i+1) m' ys' σ' H')/\
   ∀ x H',J.yld i H x H'->g x σ H' fun σ2 H2=>tt σ2 H2 fun b H3=>if b=true then qGC wi1 g1 tt1 te D ys σ2 H3 N else N ys σ2 H3))
noncomputable def qMI (own:List Str) (fr:List (Str×Nat)) (wi:TI) (g:TG) (tt:TT) (wi1:TI) (g1:TG) (tt1:TT) (te:TE):TE:=fun σ H Q=>wi σ H fun J H1=>∀ D,H1 D=none->qFv J g tt wi1 g1 tt1 te (qd own fr σ) H1 D fun H2=>Q (.ref D) H2
section
variable {X:Cx} {pins:List (Addr×Obj)} {σ:St} {H:Hp} {s:Shared}
theorem qLW {elt tg iter tg1 iter1:Expr} {ifs ifs1:List Expr} {scope:Scope} {pos:Pos} {wi:TI} {g:TG} {tt:TT} {te:TE} {D:Addr} {ys:List V} {N:List V->St->Hp->Prop}
  (hc:X.calm=true) (hx:X.xe=noR) (hi:PI X tg1 iter1 wi) (pG:PG X tg1 g) (pF:PF X ifs1 tt) (pE:PE X elt te) (I:Inv X pins σ H s) (h:qGC wi g tt te D ys σ H N) :
  wpAny (model X.prog X.w) X.A (eval iter1 X.env) (fun v s1=>wpAny (model X.prog X.w) X.A (pyIter v) (fun i s2=>codeAny (model X.prog X.w) X.A (.compStart (jC elt tg iter ifs tg1 iter1 ifs1 scope pos) 1 i (.ref D) X.env)
   (fun r s3=>(∃ f,r=.ok f)/\∃ ys' σ' H',Inv X pins σ' H' s3/\N ys' σ' H') s2) noR s1) noR s:=by
 have h0:=hi pins s σ H _ I h
 rw [hx] at h0
 refine thn h0 fun v s1 h1=>thn h1 fun itv s2 h2=>?_
 obtain ⟨it,fp,tn,J,H2,e,I2,T,st2,f2,W,⟨m0,w0⟩,turn⟩:=h2
 subst e
 have stat:∀{H':Hp},(∀ b∈fp,H' b=none)->∀ b∈fp,Yz X pins H' b:=fun hn b hb=>⟨hn b hb,(f2 b hb).2⟩
 have main:codeAny (model X.prog X.w) X.A (.compLoop (jC elt tg iter ifs tg1 iter1 ifs1 scope pos) 1 (.ref it) (.ref D) X.env) (fun r s3=>(∃ f,r=.ok f)/\∃ ys' σ' H',Inv X pins σ' H' s3/\N ys' σ' H') s2:=by
  refine qLR (fun n s'=>∃ i ys σ' H',Inv X pins σ' H' s'/\tn i s'.heap/\(∀ b∈fp,H' b=none)/\W i n ys σ' H') ?_ m0 ⟨0,ys,σ,H2,I2,st2,fun b hb=>(f2 b hb).1,w0⟩
  rintro n s3 ⟨i,ys3,σ3,H3,I3,st3,fr3,w3⟩
  obtain ⟨hD,hw⟩:=turn i n ys3 σ3 H3 w3
  rcases hw with ⟨stop,q⟩ | ⟨go,hz,M,hM,step⟩
  ·refine thn (T.done X rfl rfl rfl hc i pins s3 σ3 H3 noR I3 (stat fr3) st3 stop) fun r s4 ⟨hr,I4⟩=>?_
   subst hr
   exact ⟨⟨_,rfl⟩,ys3,σ3,H3,I4,q⟩
  ·refine thn (T.item X rfl rfl rfl hc i pins s3 σ3 H3 noR I3 (stat fr3) st3 go) fun r s4 ⟨u,hr,h4⟩=>?_
   subst hr
   refine thn h4 fun _ s5 ⟨x,H5,I5,r5,y5,st5,fr5⟩=>?_
   have I5':=I5.pinned (stat fr5) (T.obj _ _ st5)
   have h6:=pG _ s5 σ3 H5 x u _ I5' r5 (step x H5 y5)
   rw [hx] at h6
   refine thn h6 fun _ s6 ⟨σ6,H6,I6,q6⟩=>?_
   have h7:=pF _ s6 σ6 H6 _ I6 q6
   rw [hx] at h7
   refine thn h7 fun b s7 ⟨H7,I7,q7⟩=>?_
   have again:∀{ys':List V} {σ':St} {H':Hp} {s':Shared},Inv X (pins++QD fp s5.heap) σ' H' s'->M ys' σ' H'->∃ m,m<n/\∃ i ys σ' H',Inv X pins σ' H' s'/\tn i s'.heap/\(∀ b∈fp,H' b=none)/\W i m ys σ' H':=fun {ys' σ' H' s'} I' n'=>by
    obtain ⟨m',hm,w'⟩:=hM ys' σ' H' n'
    have pin:=fun b hb o e=>I'.pin (b,o) (zH _ (zH _ (qq (fp:=fp) (h:=s5.heap) hb e)))
    refine ⟨m',hm,i+1,ys',σ',H',I'.unpinned,T.keep _ _ _ st5 fun b hb o e=>(pin b hb o e).1,fun b hb=>?_,w'⟩
    obtain ⟨o,e,_⟩:=T.obj _ _ st5 b hb
    exact (pin b hb o e).2.1
   cases b with
   | false=>
    rw [if_neg wU] at q7 ⊢
    exact again I7 q7
   | true=>
    rw [if_pos rfl] at q7 ⊢
    have h8:=pE _ s7 σ6 H7 _ I7 q7
    rw [hx] at h8
    refine thn h8 fun y s8 ⟨z,H8,I8,r8,hD8,n8⟩=>?_
    have h9:=Yj (X:=X) _ s8 σ6 H8 (.ref D) [z] (.ref D) [y] (fun _ H'=>M (ys3++[z]) σ6 H') I8 rfl (.cons r8 .nil) ⟨D,ys3,z,rfl,rfl,hD8,hz,n8⟩
    rw [hx] at h9
    exact thn h9 fun _ s9 ⟨_,H9,I9,_,n9⟩=>again I9 n9
 exact qFa main (T.self X.A 0 s2 _ _ st2 main)
end
section
variable {X:Cx} {pins:List (Addr×Obj)} {σ:St} {H:Hp} {s:Shared}
theorem qGG {own:List Str} {fr:List (Str×Nat)} {scope:Scope} {cl:List (Str×Addr)} {elt tg iter tg1 iter1:Expr} {ifs ifs1:List Expr} {pos:Pos} {g:TG} {tt:TT} {wi1:TI} {g1:TG} {tt1:TT} {te:TE} {Q:Addr->Hp->Prop} {RR:Value->Addr->Result->Shared->Prop} {E:Value->Shared->Prop}
  {it:Addr} {fp:List Addr} {tn:Nat->Heap->Prop} {J:It}
  (hc:X.calm=true) (S:qk X own fr scope) (I:Inv X pins σ H s) (hcl:∀ x c,cl.lookup x=some c->X.env.cells.lookup x=some c) (hcs:∀ x∈scope.names,x.2=.free->(cl.lookup x.1).isSome=true)
  (T:Turn X.prog X.w X.K tg J fp it tn) (st:tn 0 s.heap) (hf:∀ b∈fp,Yz X pins H b)
  (hB:∀(cl:List (Str×Addr)) (C:Addr) (s0:Shared) (H0:Hp),PG (qQ X (own++fr.map (·.1)) scope cl C s0 H0 fp) tg g/\PF (qQ X (own++fr.map (·.1)) scope cl C s0 H0 fp) ifs tt/\PI (qQ X (own++fr.map (·.1)) scope cl C s0 H0 fp) tg1 iter1 wi1/\PG (qQ X (own++fr.map (·.1)) scope cl C s0 H0 fp) tg1 g1/\PF (qQ X (own++fr.map (·.1)) scope cl C s0 H0 fp) ifs1 tt1/\PE (qQ X (own++fr.map (·.1)) scope cl C s0 H0 fp) elt te)
  (hs1:∀(env:Env) (x:Value),foldedSetIterable iter1 env x=pure x)
  (body:∀ D,H D=none->qFv J g tt wi1 g1 tt1 te (qd own fr σ) H D (Q D))
  (hR:∀ D C s' H',Inv X pins σ H' s'->Q D H'->C≠X.env.locals->(∃ m,s'.heap.Ns C m)->Yz X pins H' C->(∃ o,s'.heap.get? C=some o)->RR (.ref D) C (.ok .next) s') :
  wpAny (model X.prog X.w) X.A (newList []) (fun acc s3=>wpAny (model X.prog X.w) X.A (newFunctionEnv scope X.env.globals cl [] X.env.qual none .none (some X.env)) (fun cenv s4=>
   codeAny (model X.prog X.w) X.A (.compStart (jC elt tg iter ifs tg1 iter1 ifs1 scope pos) 0 (.ref it) acc { cenv with scope:=relabel scope X.env }) (RR acc cenv.locals) s4) E s3) E s:=by
 refine xJ ?_
 have nD:H s.heap.objs.size=none:=I.hok.fresh (wH _)
 have I3:Inv X pins σ (upd H s.heap.objs.size (.lst [])) { s with heap:=s.heap.push { cls:=.type "list",data:=.seq ([]:List Value).toArray },toks:=s.toks }:=I.lnew (t':=s.toks) .nil (yN _)
 generalize hs3:({ s with heap:=s.heap.push { cls:=.type "list",data:=.seq ([]:List Value).toArray },toks:=s.toks }:Shared)=s3 at I3
 generalize hD:s.heap.objs.size=D at I3 nD
 have st3:tn 0 s3.heap:=by
  subst hs3
  exact T.keep _ _ _ st fun b _ o e=>wG _ e
 have fD:∀ b∈fp,b≠D:=fun b hb z=>by
  obtain ⟨o,ho,_⟩:=T.obj _ _ st b hb
  exact absurd (zQ ho) (by rw [hD,z]; exact vO _)
 have hf3:∀ b∈fp,Yz X pins (upd H D (.lst [])) b:=fun b hb=>⟨by rw [qJ (fD b hb)]; exact (hf b hb).1,(hf b hb).2⟩
 obtain ⟨W,⟨m0,w0⟩,turn⟩:=body D nD
 refine YM fun h4 B4=>?_
 have keep4:=B4.keep
 have far:∀ b∈fp,∀ x c,(qR s3.heap.objs.size scope++cl).lookup x=some c->c≠b:=fun b hb x c e=>by
  obtain ⟨o,ho,_⟩:=T.obj _ _ st3 b hb
  exact J7 B4 ho e fun z=>(hf b hb).2.2.2.2.1 x c (hcl x c z)
 generalize hs4:({ s3 with heap:=h4,toks:=s3.toks }:Shared)=s4
 have I4:Inv (qQ X (own++fr.map (·.1)) scope (qR s3.heap.objs.size scope++cl) s3.heap.objs.size s3 (upd H D (.lst [])) fp) [] (qd own fr σ) (upd H D (.lst [])) s4:=by
  subst hs4
  exact qAl S I3 hcl hcs hf3 (fun b hb=>let ⟨o,e,_⟩:=T.obj _ _ st3 b hb; ⟨o,e⟩) B4
 have st4:tn 0 s4.heap:=by
  subst hs4
  exact T.keep _ _ _ st3 fun b _ o e=>keep4 b o e
 have Cne:s3.heap.objs.size≠X.env.locals:=gY I3.lt
 generalize hcl2:qR s3.heap.objs.size scope++cl=cl2 at I4 far
 generalize hC:s3.heap.objs.size=C at I4 Cne
 obtain ⟨pG,pF,pI1,pG1,pF1,pE⟩:=hB cl2 C s3 (upd H D (.lst []))
 generalize hY:qQ X (own++fr.map (·.1)) scope cl2 C s3 (upd H D (.lst [])) fp=Y at I4 pG pF pI1 pG1 pF1 pE
 have yP:Y.prog=X.prog:=by rw [<- hY]; rfl
 have yw:Y.w=X.w:=by rw [<- hY]; rfl
 have yK:Y.K=X.K:=by rw [<- hY]; rfl
 have yA:Y.A=X.A:=by rw [<- hY]; rfl
 have yc:Y.calm=true:=by rw [<- hY]; exact hc
 have yx:Y.xe=fun _ _=>False:=by rw [<- hY]; rfl
 have yfs:Y.fs=frs X.stack:=by rw [<- hY]; rfl
 have yex:Y.ex=fp:=by rw [<- hY]; rfl
 have yH:Y.H₀=upd H D (.lst []):=by rw [<- hY]; rfl
 have ys:Y.s₀=s3:=by rw [<- hY]; rfl
 have yl:Y.env.locals=C:=by rw [<- hY]; rfl
 have ypn:Y.pn=[]:=by rw [<- hY]; rfl
 have ycl:Y.env.cells=cl2:=by rw [<- hY]; rfl
 have yenv:Y.env=compEnvC scope cl2 C X.env:=by rw [<- hY]; rfl
 have e5:{ (newEnv scope C X.env.globals cl2 X.env.qual none .none (some X.env) builtinsNs:Env) with scope:=relabel scope X.env } = Y.env:=by rw [yenv]; rfl
 have hCe:(newEnv scope C X.env.globals cl2 X.env.qual none .none (some X.env) builtinsNs:Env).locals=C:=rfl
 have fpY:∀{H':Hp},(∀ b∈fp,H' b=none)->∀ b∈fp,Yz Y [] H' b:=fun hn b hb=>by
  obtain ⟨o,ho,_⟩:=T.obj _ _ st3 b hb
  have hlt:=zQ ho
  refine ⟨hn b hb,?_,?_,.inl (by rw [yex]; exact hb),fun x c e=>?_,fun p hp=>?_⟩
  ·rw [yl,<- hC]; exact vE hlt
  ·rw [yfs]
   intro z
   obtain ⟨_,f1,f2,_⟩:=hf b hb
   rcases wW.mp (I.stkSub b z) with e | e
   ·exact f1 e
   ·exact f2 e
  ·rw [ycl] at e
   exact far b hb x c e
  ·rw [ypn] at hp
   cases hp
 have main:codeAny (model X.prog X.w) X.A (.compLoop (jC elt tg iter ifs tg1 iter1 ifs1 scope pos) 0 (.ref it) (.ref D) Y.env) (RR (.ref D) C) s4:=by
  refine qJw (fun n s'=>∃ i ys σ' H',Inv Y [] σ' H' s'/\tn i s'.heap/\(∀ b∈fp,H' b=none)/\W i n ys σ' H') (hs1 _) ?_ m0 ⟨0,[],_,_,I4,st4,fun b hb=>(hf3 b hb).1,w0⟩
  rintro n s5 ⟨i,ys5,σ5,H5,I5,st5,fr5,w5⟩
  obtain ⟨hD5,hw⟩:=turn i n ys5 σ5 H5 w5
  rcases hw with ⟨stop,q⟩ | ⟨go,N,hN,step⟩
  ·have:=T.done Y yP yw yK yc i [] s5 σ5 H5 (fun _ _=>False) I5 (fpY fr5) st5 stop
   rw [yA] at this
   refine thn this fun r s6 ⟨hr,I6⟩=>?_
   subst hr
   have I7:Inv X pins σ H5 s6:=by
    refine I3.call' (ch:=fp) (H':=H5) ?_ ?_ ?_ I6.bare fun b hb=>?_
    ·rw [<- ys]; exact I6.os
    ·have:=I6.base
     rw [yfs,yex,yH,ys] at this
     exact this
    ·have:=I6.hok
     rw [yP,yw] at this
     exact this
    ·obtain ⟨_,f1,_,f3,f4,f5⟩:=hf b hb
     exact ⟨f3,f1,f4,f5⟩
   obtain ⟨mC,hnC,_⟩:=I6.loc
   rw [yl] at hnC
   refine hR D C s6 H5 I7 q Cne ⟨mC,hnC⟩ ?_ ?_
   ·refine I3.fpOk (by rw [hC]; exact wH _) ?_
    have:=I6.free
    rw [yl] at this
    exact this
   ·obtain ⟨o,_,_,ho,_⟩:=hnC
    exact ⟨o,ho⟩
  ·have h5:=T.item Y yP yw yK yc i [] s5 σ5 H5 (fun _ _=>False) I5 (fpY fr5) st5 go
   rw [yA] at h5
   refine thn h5 fun r s6 ⟨u,hr,h6⟩=>?_
   subst hr
   refine thn h6 fun _ s7 ⟨x,H7,I7,r7,y7,st7,fr7⟩=>?_
   have I7':=I7.pinned (fpY fr7) (T.obj _ _ st7)
   have h8:=pG _ s7 σ5 H7 x u _ I7' r7 (step x H7 y7)
   rw [yP,yw,yA,yx] at h8
   refine thn h8 fun _ s8 ⟨σ8,H8,I8,q8⟩=>?_
   have h9:=pF _ s8 σ8 H8 _ I8 q8
   rw [yP,yw,yA,yx] at h9
   refine thn h9 fun b s9 ⟨H9,I9,q9⟩=>?_
   have again:∀{ys':List V} {σ':St} {H':Hp} {s':Shared},Inv Y ([]++QD fp s7.heap) σ' H' s'->N ys' σ' H'->∃ m,m<n/\∃ i ys σ' H',Inv Y [] σ' H' s'/\tn i s'.heap/\(∀ b∈fp,H' b=none)/\W i m ys σ' H':=fun {ys' σ' H' s'} I' n'=>by
    obtain ⟨m',hm,w'⟩:=hN ys' σ' H' n'
    refine ⟨m',hm,i+1,ys',σ',H',I'.unpinned,T.keep _ _ _ st7 fun b hb o e=>(I'.pin (b,o) (zH _ (zH _ (qq hb e)))).1,fun b hb=>?_,w'⟩
    obtain ⟨o,e,d⟩:=T.obj _ _ st7 b hb
    exact (I'.pin (b,o) (zH _ (zH _ (qq hb e)))).2.1
   cases b with
   | false=>
    simp only [xR,if_false] at q9 ⊢
    exact again I9 q9
   | true=>
    simp only [if_true] at q9 ⊢
    have h10:=qLW (elt:=elt) (tg:=tg) (iter:=iter) (ifs:=ifs) (scope:=scope) (pos:=pos) yc yx pI1 pG1 pF1 pE I9 q9
    rw [yP,yw,yA] at h10
    exact thn h10 fun v s10 h11=>thn h11 fun i s11 h12=>ZM h12 fun r s12 ⟨hr,ys',σ',H',I',n'⟩=>⟨hr,again I' n'⟩
 have start:codeAny (model X.prog X.w) X.A (.compStart (jC elt tg iter ifs tg1 iter1 ifs1 scope pos) 0 (.ref it) (.ref D) Y.env) (RR (.ref D) C) s4:=
  codeAny_compStart_list main (T.self X.A 0 s4 _ _ st4 main)
 have goal:codeAny (model X.prog X.w) X.A (.compStart (jC elt tg iter ifs tg1 iter1 ifs1 scope pos) 0 (.ref it) (.ref D) { (newEnv scope C X.env.globals cl2 X.env.qual none .none (some X.env) builtinsNs:Env) with scope:=relabel scope X.env }) (RR (.ref D) (newEnv scope C X.env.globals cl2 X.env.qual none .none (some X.env) builtinsNs:Env).locals) s4:=by
  rw [e5,hCe]; exact start
 subst hC hD
 exact goal
end
section
variable {X:Cx}
theorem qNe {own:List Str} {fr:List (Str×Nat)} {scope:Scope} {elt tg iter tg1 iter1:Expr} {ifs ifs1:List Expr} {pos:Pos} {wi:TI} {g:TG} {tt:TT} {wi1:TI} {g1:TG} {tt1:TT} {te:TE} (hc:X.calm=true) (S:qk X own fr scope) (hi:PI X tg iter wi)
  (hB:∀(cl:List (Str×Addr)) (C:Addr) (s0:Shared) (H0:Hp) (fp:List Addr),PG (qQ X (own++fr.map (·.1)) scope cl C s0 H0 fp) tg g/\PF (qQ X (own++fr.map (·.1)) scope cl C s0 H0 fp) ifs tt/\PI (qQ X (own++fr.map (·.1)) scope cl C s0 H0 fp) tg1 iter1 wi1/\PG (qQ X (own++fr.map (·.1)) scope cl C s0 H0 fp) tg1 g1/\PF (qQ X (own++fr.map (·.1)) scope cl C s0 H0 fp) ifs1 tt1/\PE (qQ X (own++fr.map (·.1)) scope cl C s0 H0 fp) elt te)
  (hs1:∀(env:Env) (x:Value),foldedSetIterable iter1 env x=pure x:=by intro _ _; rfl)
  (hs:∀ x,foldedSetIterable iter X.env x=pure x:=by intro _; rfl):PE X (jC elt tg iter ifs tg1 iter1 ifs1 scope pos) (qMI own fr wi g tt wi1 g1 tt1 te):=by
 intro pins s σ H Q I h
 obtain ⟨cl,e1,e2,e3⟩:=jv (S.has I.ok)
 rw [eval_ListComp]
 refine uV (use:=none) rfl hs e1 S.kind S.names (thn (hi pins s σ H _ I h) fun v s1 h1=>thn h1 fun itv s2 h2=>?_)
 obtain ⟨it,fp,tn,J,H2,e,I2,T,st2,f2,body⟩:=h2
 subst e
 refine qGG (Q:=fun D H'=>Q (.ref D) H') (RR:=fun acc C=>compPost (model X.prog X.w) X.A X.xe none (EP X pins σ Q) acc C) hc S I2 e2 e3 T st2 f2 (fun cl' C s0 H0=>hB cl' C s0 H0 fp) hs1 body ?_
 intro D C s' H' I' q hne ⟨m,hn⟩ ⟨f0,f1,f2',f3,f4,f5⟩ _
 exact ⟨m,hn,fun h'' hs''=>⟨.ref D,H',I'.turned (it:=C) (t':=s'.toks) (fun b o hb e=>hs''.extBut b o hb e) f0 f1 f3 f4 f5,rfl,q⟩⟩
theorem qEk {i:Nat} {x:Str} {pos' spos:Pos} {own:List Str} {fr:List (Str×Nat)} {scope:Scope} {elt tg iter tg1 iter1:Expr} {ifs ifs1:List Expr} {pos:Pos} {wi:TI} {g:TG} {tt:TT} {wi1:TI} {g1:TG} {tt1:TT} {te:TE} (hc:X.calm=true)
  (hN:X.N.Nodup) (hi':X.N[i]? = some x) (hx:X.env.scope.names.lookup x=some .local) (S:qk X own fr scope) (hi:PI X tg iter wi)
  (hB:∀(cl:List (Str×Addr)) (C:Addr) (s0:Shared) (H0:Hp) (fp:List Addr),PG (qQ X (own++fr.map (·.1)) scope cl C s0 H0 fp) tg g/\PF (qQ X (own++fr.map (·.1)) scope cl C s0 H0 fp) ifs tt/\PI (qQ X (own++fr.map (·.1)) scope cl C s0 H0 fp) tg1 iter1 wi1/\PG (qQ X (own++fr.map (·.1)) scope cl C s0 H0 fp) tg1 g1/\PF (qQ X (own++fr.map (·.1)) scope cl C s0 H0 fp) ifs1 tt1/\PE (qQ X (own++fr.map (·.1)) scope cl C s0 H0 fp) elt te)
  (hs1:∀(env:Env) (x:Value),foldedSetIterable iter1 env x=pure x:=by intro _ _; rfl)
  (hs:∀ x,foldedSetIterable iter X.env x=pure x:=by intro _; rfl)
  (hsw:swapsWith (jC elt tg iter ifs tg1 iter1 ifs1 scope pos) (some (.Name x pos')) spos.line X.env=pure true:=by rfl):PS X (.Assign [.Name x pos'] (jC elt tg iter ifs tg1 iter1 ifs1 scope pos) spos) (qKJ (qMI own fr wi g tt wi1 g1 tt1 te) (qB2 i)):=by
 intro pins s σ H D0 I h
 obtain ⟨cl,e1,e2,e3⟩:=jv (S.has I.ok)
 have un:=exec_Assign_Name_used _ _ _ _ hsw
 rw [un]
 apply wB
 apply xV
 apply wB
 show wpAny _ X.A (do let _ <- comprehension (jC elt tg iter ifs tg1 iter1 ifs1 scope pos) scope X.env _ (newList []) false (eval iter X.env) (some (assign (.Name x pos') X.env))) _ _ s
 refine wB (thn (uV (use:=some (assign (.Name x pos') X.env)) (Q:=fun _ s'=>SP X pins D0 .next s') rfl hs e1 S.kind S.names
  (thn (hi pins s σ H _ I h) fun v s1 h1=>thn h1 fun itv s2 h2=>?_)) fun _ s' hq=>wI (wI hq))
 obtain ⟨it,fp,tn,J,H2,e,I2,T,st2,f2,body⟩:=h2
 subst e
 refine qGG (Q:=fun D H'=>D0.nx (σ.set i (some (.ref D))) H') (RR:=fun acc C=>compPost (model X.prog X.w) X.A X.xe (some (assign (.Name x pos') X.env)) (fun _ s'=>SP X pins D0 .next s') acc C) hc S I2 e2 e3 T st2 f2 (fun cl' C s0 H0=>hB cl' C s0 H0 fp) hs1 body ?_
 intro D C s' H' I' q hne ⟨m,hn⟩ ⟨f0,f1,f2',f3,f4,f5⟩ _
 show wpAny _ X.A (assign (.Name x pos') X.env (.ref D)) _ _ s'
 refine VF (Yb I' hN hi' (.inl hx) (v:=.ref D) rfl (fun s'' I'' hk=>?_) (.inr hx))
 have hC2:∃ m,s''.heap.Ns C m:=by
  obtain ⟨a,hsb,ha⟩:=hk
  obtain ⟨o,es,ep,ho,r⟩:=hn
  refine ⟨m,o,es,ep,hsb.extBut C o ?_ ho,r⟩
  rcases ha with z | z
  ·rw [z]; exact hne
  ·exact fun e=>f4 x a z e.symm
 obtain ⟨m2,hn2⟩:=hC2
 exact ⟨m2,hn2,fun h'' hs''=>⟨_,H',I''.turned (it:=C) (t':=s''.toks) (fun b o hb e=>hs''.extBut b o hb e) f0 f1 f3 f4 f5,q⟩⟩
end
inductive D where
 | non | bl (b:Bool) | int (i:Int) | str (x:Str) | tup (l:List D) | lst (l:List D) | dic
mutual
noncomputable def Den (H:Hp):D->V->Prop
 | .non,v=>v=.non
 | .bl b,v=>v=.bl b
 | .int i,v=>v=.int i
 | .str x,v=>v=.str x
 | .tup l,v=>∃ a xs,v=.ref a/\H a=some (.tup xs)/\qV H l xs
 | .lst l,v=>∃ a xs,v=.ref a/\H a=some (.lst xs)/\qV H l xs
 | .dic,v=>∃ a kvs,v=.ref a/\H a=some (.dK kvs)
noncomputable def qV (H:Hp):List D->List V->Prop
 | [],xs=>xs=[]
 | d::l,xs=>∃ x r,xs=x::r/\Den H d x/\qV H l r
end
mutual
noncomputable def dEq:D->D->Bool
 | .non,.non=>true
 | .bl a,.bl b=>a == b
 | .bl a,.int b=>(if a then 1 else 0) == b
 | .int a,.bl b=>a == (if b then 1 else 0)
 | .int a,.int b=>a == b
 | .str a,.str b=>a == b
 | .tup l,.tup m=>Qk l m
 | .lst l,.lst m=>Qk l m
 | .dic,.dic=>true
 | _,_=>false
noncomputable def Qk:List D->List D->Bool
 | [],[]=>true
 | d::l,e::m=>dEq d e && Qk l m
 | _,_=>false
end
mutual
noncomputable def jH:D->Nat
 | .tup l=>qI l+1
 | .lst l=>qI l+1
 | .dic=>cLine
 | _=>0
noncomputable def qI:List D->Nat
 | []=>0
 | d::l=>max (jH d) (qI l)
end
mutual
theorem Den.mono {H H':Hp} (e:qP H H'):∀(d:D) (v:V),Den H d v->Den H' d v
 | .non,v,h=>h
 | .bl _,v,h=>h
 | .int _,v,h=>h
 | .str _,v,h=>h
 | .tup l,v,h=>by
  obtain ⟨a,xs,r,h1,h2⟩:=h
  exact ⟨a,xs,r,e _ _ h1,qV.mono e l xs h2⟩
 | .lst l,v,h=>by
  obtain ⟨a,xs,r,h1,h2⟩:=h
  exact ⟨a,xs,r,e _ _ h1,qV.mono e l xs h2⟩
 | .dic,v,h=>by
  obtain ⟨a,xs,r,h1⟩:=h
  exact ⟨a,xs,r,e _ _ h1⟩
theorem qV.mono {H H':Hp} (e:qP H H'):∀(l:List D) (xs:List V),qV H l xs->qV H' l xs
 | [],xs,h=>h
 | d::l,xs,h=>by
  obtain ⟨x,r,h0,h1,h2⟩:=h
  exact ⟨x,r,h0,Den.mono e d x h1,qV.mono e l r h2⟩
end
theorem qV.length {H:Hp}:∀{l:List D} {xs:List V},qV H l xs->xs.length=l.length
 | [],xs,h=>by
  have h':xs=[]:=h
  subst h'; rfl
 | d::l,xs,h=>by
  obtain ⟨x,r,h0,h1,h2⟩:=h
  subst h0
  rw [wZ,wZ,qV.length h2]
theorem qV.get {H:Hp}:∀{l:List D} {xs:List V} {i:Nat} {x:V},qV H l xs->xs[i]? = some x->∃ d,l[i]? = some d/\Den H d x
 | [],xs,i,x,h,e=>by
  have h':xs=[]:=h
  subst h'; simp at e
 | d::l,xs,i,x,h,e=>by
  obtain ⟨y,r,h0,h1,h2⟩:=h
  subst h0
  cases i with
  | zero=>simp at e; subst e; exact ⟨d,rfl,h1⟩
  | succ i=>
   obtain ⟨d',g1,g2⟩:=qV.get h2 (by simpa using e:r[i]? = some x)
   exact ⟨d',by simpa using g1,g2⟩
theorem qV.get' {H:Hp} {l:List D} {xs:List V} {i:Nat} {d:D} (h:qV H l xs) (e:l[i]? = some d):∃ x,xs[i]? = some x/\Den H d x:=by
 have hi:i<xs.length:=by rw [h.length]; exact (wR.mp e).1
 obtain ⟨d',g1,g2⟩:=h.get (wA hi)
 rw [e] at g1
 cases g1
 exact ⟨_,wA hi,g2⟩
theorem qV.append {H:Hp}:∀{l m:List D} {xs ys:List V},qV H l xs->qV H m ys->qV H (l++m) (xs++ys)
 | [],m,xs,ys,h,g=>by
  have h':xs=[]:=h
  subst h'; exact g
 | d::l,m,xs,ys,h,g=>by
  obtain ⟨y,r,h0,h1,h2⟩:=h
  subst h0
  exact ⟨y,r++ys,rfl,h1,qV.append h2 g⟩
theorem qV.snoc {H:Hp} {l:List D} {xs:List V} {d:D} {x:V} (h:qV H l xs) (g:Den H d x):qV H (l++[d]) (xs++[x]):=h.append ⟨x,[],rfl,g,rfl⟩
theorem qV.ints (H:Hp):∀(ns:List Int),qV H (ns.map D.int) (ns.map V.int)
 | []=>rfl
 | n::ns=>⟨.int n,_,rfl,rfl,qV.ints H ns⟩
theorem qV.ints_eq {H:Hp}:∀{ns:List Int} {xs:List V},qV H (ns.map D.int) xs->xs=ns.map V.int
 | [],xs,h=>h
 | n::ns,xs,h=>by
  obtain ⟨y,r,h0,h1,h2⟩:=h
  subst h0
  have h1':y=.int n:=h1
  subst h1'
  rw [qV.ints_eq h2,xH]
theorem qAn:∀{l:List D} {j:Nat} {d:D},l[j]? = some d->jH d<=qI l
 | [],_,_,h=>by simp at h
 | c::l,0,d,h=>by
  simp at h
  subst h
  exact Nat.le_max_left _ _
 | c::l,j+1,d,h=>zM (qAn (l:=l) (j:=j) (by simpa using h)) (Nat.le_max_right _ _)
noncomputable def qHJ (l m:List D) (j:Nat):Bool:=match l[j]?,m[j]? with | some d,some e=>dEq d e | _,_=>false
theorem qCk {l m:List D} {j:Nat} {d e:D} (h1:l[j]? = some d) (h2:m[j]? = some e):qHJ l m j=dEq d e:=by
 unfold qHJ
 rw [h1,h2]
theorem jL:∀(l m:List D),l.length=m.length->(wV l.length).all (qHJ l m)=Qk l m
 | [],[],_=>by simp [Qk]
 | [],_::_,h=>by simp at h
 | _::_,[],h=>by simp at h
 | d::l,e::m,h=>by
  have ih:=jL l m (by simpa using h)
  rw [wZ,ZO,List.all_cons,List.all_map]
  unfold Qk
  rw [<- ih]
  rfl
theorem jy:∀(l m:List D),l.length≠m.length->Qk l m=false
 | [],[],h=>absurd rfl h
 | [],_::_,_=>by simp [Qk]
 | _::_,[],_=>by simp [Qk]
 | d::l,e::m,h=>by
  unfold Qk
  rw [jy l m (by simpa using h),TC]
mutual
theorem qDF:∀ d:D,dEq d d=true
 | .non=>rfl
 | .bl b=>by simp [dEq]
 | .int i=>by simp [dEq]
 | .str x=>by simp [dEq]
 | .tup l=>by simp only [dEq]; exact QR l
 | .lst l=>by simp only [dEq]; exact QR l
 | .dic=>by simp [dEq]
theorem QR:∀ l:List D,Qk l l=true
 | []=>by simp [Qk]
 | d::l=>by simp only [Qk]; rw [qDF d,QR l]; rfl
end
mutual
noncomputable def nb:D->Bool
 | .bl _=>false
 | .tup l=>nbs l
 | .lst l=>nbs l
 | _=>true
noncomputable def nbs:List D->Bool
 | []=>true
 | d::l=>nb d && nbs l
end
mutual
theorem qKT:∀(d e:D),nb d=true->nb e=true->dEq d e=true->d=e
 | .non,e,h1,h2,h=>by cases e <;> simp [dEq,nb] at * 
 | .bl b,e,h1,h2,h=>by simp [nb] at h1
 | .int i,e,h1,h2,h=>by cases e <;> simp [dEq,nb] at * ; exact h
 | .str x,e,h1,h2,h=>by cases e <;> simp [dEq,nb] at * ; exact h
 | .tup l,e,h1,h2,h=>by
  cases e <;> simp only [dEq,nb,xR] at *
  rw [qCA l _ h1 h2 h]
 | .lst l,e,h1,h2,h=>by
  cases e <;> simp only [dEq,nb,xR] at *
  rw [qCA l _ h1 h2 h]
 | .dic,e,h1,h2,h=>by cases e <;> simp [dEq,nb] at *
theorem qCA:∀(l m:List D),nbs l=true->nbs m=true->Qk l m=true->l=m
 | [],[],_,_,_=>rfl
 | [],_::_,_,_,h=>by simp [Qk] at h
 | _::_,[],_,_,h=>by simp [Qk] at h
 | d::l,e::m,h1,h2,h=>by
  simp only [nbs,Qk,yR] at h1 h2 h
  rw [qKT d e h1.1 h2.1 h.1,qCA l m h1.2 h2.2 h.2]
end
mutual
theorem Den.inj {H:Hp}:∀(d e:D) (x:V),Den H d x->Den H e x->d=e
 | .non,e,x,h,g=>by
  cases (show x=.non from h)
  cases e with
  | non=>rfl
  | bl b=>exact nomatch (show V.non=.bl b from g)
  | int b=>exact nomatch (show V.non=.int b from g)
  | str b=>exact nomatch (show V.non=.str b from g)
  | tup m=>obtain ⟨_,_,z,_⟩:=g; cases z
  | lst m=>obtain ⟨_,_,z,_⟩:=g; cases z
  | dic=>obtain ⟨_,_,z,_⟩:=g; cases z
 | .bl c,e,x,h,g=>by
  cases (show x=.bl c from h)
  cases e with
  | non=>exact nomatch (show V.bl c=.non from g)
  | bl b=>cases (show V.bl c=.bl b from g); rfl
  | int b=>exact nomatch (show V.bl c=.int b from g)
  | str b=>exact nomatch (show V.bl c=.str b from g)
  | tup m=>obtain ⟨_,_,z,_⟩:=g; cases z
  | lst m=>obtain ⟨_,_,z,_⟩:=g; cases z
  | dic=>obtain ⟨_,_,z,_⟩:=g; cases z
 | .int c,e,x,h,g=>by
  cases (show x=.int c from h)
  cases e with
  | non=>exact nomatch (show V.int c=.non from g)
  | bl b=>exact nomatch (show V.int c=.bl b from g)
  | int b=>cases (show V.int c=.int b from g); rfl
  | str b=>exact nomatch (show V.int c=.str b from g)
  | tup m=>obtain ⟨_,_,z,_⟩:=g; cases z
  | lst m=>obtain ⟨_,_,z,_⟩:=g; cases z
  | dic=>obtain ⟨_,_,z,_⟩:=g; cases z
 | .str c,e,x,h,g=>by
  cases (show x=.str c from h)
  cases e with
  | non=>exact nomatch (show V.str c=.non from g)
  | bl b=>exact nomatch (show V.str c=.bl b from g)
  | int b=>exact nomatch (show V.str c=.int b from g)
  | str b=>cases (show V.str c=.str b from g); rfl
  | tup m=>obtain ⟨_,_,z,_⟩:=g; cases z
  | lst m=>obtain ⟨_,_,z,_⟩:=g; cases z
  | dic=>obtain ⟨_,_,z,_⟩:=g; cases z
 | .tup l,e,x,h,g=>by
  obtain ⟨a,xs,rfl,h1,h2⟩:=h
  cases e with
  | non=>exact nomatch (show V.ref a=.non from g)
  | bl b=>exact nomatch (show V.ref a=.bl b from g)
  | int b=>exact nomatch (show V.ref a=.int b from g)
  | str b=>exact nomatch (show V.ref a=.str b from g)
  | tup m=>
   obtain ⟨b,ys,z,g1,g2⟩:=g
   cases z
   rw [h1] at g1
   cases g1
   rw [qV.inj l m xs h2 g2]
  | lst m=>
   obtain ⟨b,ys,z,g1,g2⟩:=g
   cases z
   rw [h1] at g1
   cases g1
  | dic=>
   obtain ⟨b,ys,z,g1⟩:=g
   cases z
   rw [h1] at g1
   cases g1
 | .lst l,e,x,h,g=>by
  obtain ⟨a,xs,rfl,h1,h2⟩:=h
  cases e with
  | non=>exact nomatch (show V.ref a=.non from g)
  | bl b=>exact nomatch (show V.ref a=.bl b from g)
  | int b=>exact nomatch (show V.ref a=.int b from g)
  | str b=>exact nomatch (show V.ref a=.str b from g)
  | tup m=>
   obtain ⟨b,ys,z,g1,g2⟩:=g
   cases z
   rw [h1] at g1
   cases g1
  | lst m=>
   obtain ⟨b,ys,z,g1,g2⟩:=g
   cases z
   rw [h1] at g1
   cases g1
   rw [qV.inj l m xs h2 g2]
  | dic=>
   obtain ⟨b,ys,z,g1⟩:=g
   cases z
   rw [h1] at g1
   cases g1
 | .dic,e,x,h,g=>by
  obtain ⟨a,xs,rfl,h1⟩:=h
  cases e with
  | non=>exact nomatch (show V.ref a=.non from g)
  | bl b=>exact nomatch (show V.ref a=.bl b from g)
  | int b=>exact nomatch (show V.ref a=.int b from g)
  | str b=>exact nomatch (show V.ref a=.str b from g)
  | tup m=>
   obtain ⟨b,ys,z,g1,_⟩:=g
   cases z
   rw [h1] at g1
   cases g1
  | lst m=>
   obtain ⟨b,ys,z,g1,_⟩:=g
   cases z
   rw [h1] at g1
   cases g1
  | dic=>rfl
theorem qV.inj {H:Hp}:∀(l m:List D) (xs:List V),qV H l xs->qV H m xs->l=m
 | [],m,xs,h,g=>by
  cases (show xs=[] from h)
  cases m with
  | nil=>rfl
  | cons e m=>obtain ⟨_,_,z,_⟩:=g; cases z
 | d::l,m,xs,h,g=>by
  obtain ⟨x,r,rfl,h1,h2⟩:=h
  cases m with
  | nil=>exact nomatch (show x::r=[] from g)
  | cons e m=>
   obtain ⟨y,r',z,g1,g2⟩:=g
   cases z
   rw [Den.inj d e x h1 g1,qV.inj l m r h2 g2]
end
theorem qV.same_eq {H:Hp} {l m:List D} {xs:List V} (h:qV H l xs) (g:qV H m xs):Qk l m=true:=by
 rw [qV.inj l m xs h g]
 exact QR m
section
variable {X:Cx} {pins:List (Addr×Obj)} {σ:St} {H:Hp} {s:Shared}
mutual
theorem qLM (I:Inv X pins σ H s):∀(d e:D) (A:Around) (x y:V) (u v:Value),Den H d x->Den H e y->RelV x u->RelV y v->A.units+jH d<cLine->A.units+jH e<cLine->gP A s u v (dEq d e)
 | .non,e,A,x,y,u,v,h1,h2,r1,r2,hu,he=>by
  have h1':x=.non:=h1
  subst h1'
  cases r1
  cases e with
  | non=>cases (show y=.non from h2); cases r2; simp only [dEq]; exact gX _
  | bl b=>cases (show y=.bl b from h2); cases r2; simp only [dEq]; exact SeqAt.EqAt.none_bool b
  | int b=>cases (show y=.int b from h2); obtain ⟨t,rfl⟩:=r2; simp only [dEq]; exact SeqAt.EqAt.none_int b t
  | str b=>cases (show y=.str b from h2); obtain ⟨t,rfl⟩:=r2; simp only [dEq]; exact SeqAt.EqAt.none_str b t
  | tup m=>
   obtain ⟨a,xs,rfl,g1,_⟩:=h2
   cases r2
   obtain ⟨its,_,p,_⟩:=I.tuple (SqT.of (K:=X.K) g1)
   simp only [dEq]
   exact SeqAt.EqAt.none_tuple p (yV (yS _ _) hu)
  | lst m=>
   obtain ⟨a,xs,rfl,g1,_⟩:=h2
   cases r2
   obtain ⟨its,_,p,_⟩:=I.list (SqL.of (K:=X.K) g1)
   simp only [dEq]
   exact SeqAt.EqAt.none_list p.isList (yV (yS _ _) hu)
  | dic=>exact absurd (show A.units+cLine<cLine from he) (by omega)
 | .bl c,e,A,x,y,u,v,h1,h2,r1,r2,hu,he=>by
  have h1':x=.bl c:=h1
  subst h1'
  cases r1
  cases e with
  | non=>cases (show y=.non from h2); cases r2; simp only [dEq]; exact SeqAt.EqAt.bool_none c
  | bl b=>cases (show y=.bl b from h2); cases r2; simp only [dEq]; exact SeqAt.EqAt.bool_bool c b
  | int b=>cases (show y=.int b from h2); obtain ⟨t,rfl⟩:=r2; simp only [dEq]; exact SeqAt.EqAt.bool_int c b t
  | str b=>cases (show y=.str b from h2); obtain ⟨t,rfl⟩:=r2; simp only [dEq]; exact SeqAt.EqAt.bool_str c b t
  | tup m=>
   obtain ⟨a,xs,rfl,g1,_⟩:=h2
   cases r2
   obtain ⟨its,_,p,_⟩:=I.tuple (SqT.of (K:=X.K) g1)
   simp only [dEq]
   exact SeqAt.EqAt.bool_tuple c p (yV (yS _ _) hu)
  | lst m=>
   obtain ⟨a,xs,rfl,g1,_⟩:=h2
   cases r2
   obtain ⟨its,_,p,_⟩:=I.list (SqL.of (K:=X.K) g1)
   simp only [dEq]
   exact SeqAt.EqAt.bool_list c p.isList (yV (yS _ _) hu)
  | dic=>exact absurd (show A.units+cLine<cLine from he) (by omega)
 | .int c,e,A,x,y,u,v,h1,h2,r1,r2,hu,he=>by
  have h1':x=.int c:=h1
  subst h1'
  obtain ⟨t',rfl⟩:=r1
  cases e with
  | non=>cases (show y=.non from h2); cases r2; simp only [dEq]; exact SeqAt.EqAt.int_none c t'
  | bl b=>cases (show y=.bl b from h2); cases r2; simp only [dEq]; exact SeqAt.EqAt.int_bool c t' b
  | int b=>cases (show y=.int b from h2); obtain ⟨t,rfl⟩:=r2; simp only [dEq]; exact WT c t' b t
  | str b=>cases (show y=.str b from h2); obtain ⟨t,rfl⟩:=r2; simp only [dEq]; exact SeqAt.EqAt.int_str c t' b t
  | tup m=>
   obtain ⟨a,xs,rfl,g1,_⟩:=h2
   cases r2
   obtain ⟨its,_,p,_⟩:=I.tuple (SqT.of (K:=X.K) g1)
   simp only [dEq]
   exact SeqAt.EqAt.int_tuple c t' p (yV (yS _ _) hu)
  | lst m=>
   obtain ⟨a,xs,rfl,g1,_⟩:=h2
   cases r2
   obtain ⟨its,_,p,_⟩:=I.list (SqL.of (K:=X.K) g1)
   simp only [dEq]
   exact SeqAt.EqAt.int_list c t' p.isList (yV (yS _ _) hu)
  | dic=>exact absurd (show A.units+cLine<cLine from he) (by omega)
 | .str c,e,A,x,y,u,v,h1,h2,r1,r2,hu,he=>by
  have h1':x=.str c:=h1
  subst h1'
  obtain ⟨t',rfl⟩:=r1
  cases e with
  | non=>cases (show y=.non from h2); cases r2; simp only [dEq]; exact SeqAt.EqAt.str_none c t'
  | bl b=>cases (show y=.bl b from h2); cases r2; simp only [dEq]; exact SeqAt.EqAt.str_bool c t' b
  | int b=>cases (show y=.int b from h2); obtain ⟨t,rfl⟩:=r2; simp only [dEq]; exact SeqAt.EqAt.str_int c t' b t
  | str b=>cases (show y=.str b from h2); obtain ⟨t,rfl⟩:=r2; simp only [dEq]; exact SeqAt.EqAt.str_str c t' b t
  | tup m=>
   obtain ⟨a,xs,rfl,g1,_⟩:=h2
   cases r2
   obtain ⟨its,_,p,_⟩:=I.tuple (SqT.of (K:=X.K) g1)
   simp only [dEq]
   exact SeqAt.EqAt.str_tuple c t' p (yV (yS _ _) hu)
  | lst m=>
   obtain ⟨a,xs,rfl,g1,_⟩:=h2
   cases r2
   obtain ⟨its,_,p,_⟩:=I.list (SqL.of (K:=X.K) g1)
   simp only [dEq]
   exact SeqAt.EqAt.str_list c t' p.isList (yV (yS _ _) hu)
  | dic=>exact absurd (show A.units+cLine<cLine from he) (by omega)
 | .tup l,e,A,x,y,u,v,h1,h2,r1,r2,hu,he=>by
  obtain ⟨a,xs,rfl,g1,g2⟩:=h1
  cases r1
  obtain ⟨its,rv,p,hz⟩:=I.tuple (SqT.of (K:=X.K) g1)
  have hu0:A.units<cLine:=yV (yS _ _) hu
  cases e with
  | non=>cases (show y=.non from h2); cases r2; simp only [dEq]; exact SeqAt.EqAt.tuple_none p hu0
  | bl b=>cases (show y=.bl b from h2); cases r2; simp only [dEq]; exact SeqAt.EqAt.tuple_bool b p hu0
  | int b=>cases (show y=.int b from h2); obtain ⟨t,rfl⟩:=r2; simp only [dEq]; exact SeqAt.EqAt.tuple_int b t p hu0
  | str b=>cases (show y=.str b from h2); obtain ⟨t,rfl⟩:=r2; simp only [dEq]; exact SeqAt.EqAt.tuple_str b t p hu0
  | tup m=>
   obtain ⟨b,ys,rfl,k1,k2⟩:=h2
   cases r2
   obtain ⟨its2,rv2,p2,_⟩:=I.tuple (SqT.of (K:=X.K) k1)
   simp only [dEq]
   have key:=YO I l A.in1 (by have:A.units+(qI l+1)<cLine:=hu; show A.units+1+qI l<cLine; omega)
   by_cases hab:a=b
   ·subst hab
    rw [g1] at k1
    cases k1
    have e1:gP A s (.ref a) (.ref a) true:=gX _
    by_cases hd:Qk l m=true
    ·rw [hd]; exact e1
    ·exact absurd (qV.same_eq g2 k2) hd
   ·have l1:=rv.length
    have l2:=rv2.length
    have n1:=g2.length
    have n2:=k2.length
    have h0:=VM (A:=A) (e:=qHJ l m) p p2 hu0 (fun j hj1 hj2=>by
     simp only [WE]
     have a1:j<its.length:=by simpa using hj1
     have a2:j<its2.length:=by simpa using hj2
     obtain ⟨d,q1,q2⟩:=g2.get (wA (by omega:j<xs.length))
     obtain ⟨e,q3,q4⟩:=k2.get (wA (by omega:j<ys.length))
     obtain ⟨w1,z1,z2⟩:=rv.get (wA (by omega:j<xs.length))
     obtain ⟨w2,z3,z4⟩:=rv2.get (wA (by omega:j<ys.length))
     rw [wA a1] at z1
     rw [wA a2] at z3
     cases z1
     cases z3
     rw [qCk q1 q3]
     exact key j d q1 e _ _ _ _ q2 q4 z2 z4 (by have h3:=qAn q3; have h4:A.units+(qI m+1)<cLine:=he; show A.units+1+jH e<cLine; omega))
    have h1:=gE hab h0
    have e2:((wV (min its.toArray.size its2.toArray.size)).all (qHJ l m) && its.toArray.size == its2.toArray.size)=Qk l m:=by
     rw [wL,wL,<- l1,<- l2,n1,n2]
     by_cases hl:l.length=m.length
     ·rw [<- hl,ZP,jL l m hl]; simp
     ·rw [jy l m hl]; simp [hl]
    rw [e2] at h1
    exact h1
  | lst m=>
   obtain ⟨b,ys,rfl,k1,k2⟩:=h2
   cases r2
   obtain ⟨its2,rv2,p2,_⟩:=I.list (SqL.of (K:=X.K) k1)
   simp only [dEq]
   exact SeqAt.EqAt.tuple_list p p2.isList hu0
  | dic=>exact absurd (show A.units+cLine<cLine from he) (by omega)
 | .lst l,e,A,x,y,u,v,h1,h2,r1,r2,hu,he=>by
  obtain ⟨a,xs,rfl,g1,g2⟩:=h1
  cases r1
  obtain ⟨its,rv,p,hz⟩:=I.list (SqL.of (K:=X.K) g1)
  have hu0:A.units<cLine:=yV (yS _ _) hu
  cases e with
  | non=>cases (show y=.non from h2); cases r2; simp only [dEq]; exact SeqAt.EqAt.list_none p.isList hu0
  | bl b=>cases (show y=.bl b from h2); cases r2; simp only [dEq]; exact SeqAt.EqAt.list_bool b p.isList hu0
  | int b=>cases (show y=.int b from h2); obtain ⟨t,rfl⟩:=r2; simp only [dEq]; exact SeqAt.EqAt.list_int b t p.isList hu0
  | str b=>cases (show y=.str b from h2); obtain ⟨t,rfl⟩:=r2; simp only [dEq]; exact SeqAt.EqAt.list_str b t p.isList hu0
  | tup m=>
   obtain ⟨b,ys,rfl,k1,k2⟩:=h2
   cases r2
   obtain ⟨its2,rv2,p2,_⟩:=I.tuple (SqT.of (K:=X.K) k1)
   simp only [dEq]
   exact SeqAt.EqAt.list_tuple p.isList p2 hu0
  | lst m=>
   obtain ⟨b,ys,rfl,k1,k2⟩:=h2
   cases r2
   obtain ⟨its2,rv2,p2,_⟩:=I.list (SqL.of (K:=X.K) k1)
   simp only [dEq]
   have key:=YO I l A.in1 (by have:A.units+(qI l+1)<cLine:=hu; show A.units+1+qI l<cLine; omega)
   by_cases hab:a=b
   ·subst hab
    rw [g1] at k1
    cases k1
    have e1:gP A s (.ref a) (.ref a) true:=gX _
    by_cases hd:Qk l m=true
    ·rw [hd]; exact e1
    ·exact absurd (qV.same_eq g2 k2) hd
   ·have l1:=rv.length
    have l2:=rv2.length
    have n1:=g2.length
    have n2:=k2.length
    by_cases hl:l.length=m.length
    ·have hsz:its.toArray.size=its2.toArray.size:=by rw [wL,wL]; omega
     have h0:=SeqAt.RcAt.lists (A:=A) (e:=qHJ l m) p.isList p2.isList hsz hu0 (fun j hj1 hj2=>by
      simp only [WE]
      have a1:j<its.length:=by simpa using hj1
      have a2:j<its2.length:=by simpa using hj2
      obtain ⟨d,q1,q2⟩:=g2.get (wA (by omega:j<xs.length))
      obtain ⟨e,q3,q4⟩:=k2.get (wA (by omega:j<ys.length))
      obtain ⟨w1,z1,z2⟩:=rv.get (wA (by omega:j<xs.length))
      obtain ⟨w2,z3,z4⟩:=rv2.get (wA (by omega:j<ys.length))
      rw [wA a1] at z1
      rw [wA a2] at z3
      cases z1
      cases z3
      rw [qCk q1 q3]
      exact key j d q1 e _ _ _ _ q2 q4 z2 z4 (by have h3:=qAn q3; have h4:A.units+(qI m+1)<cLine:=he; show A.units+1+jH e<cLine; omega))
     have h1:=gE hab h0
     rw [wL,<- l1,n1,jL l m hl] at h1
     exact h1
    ·rw [jy l m hl]
     have hsz:(its.toArray.size != its2.toArray.size)=true:=by rw [wL,wL,<- l1,<- l2,n1,n2]; simpa using hl
     exact gE hab (SeqAt.RcAt.lists_lengths p.isList p2.isList hsz hu0)
  | dic=>exact absurd (show A.units+cLine<cLine from he) (by omega)
 | .dic,e,A,x,y,u,v,h1,h2,r1,r2,hu,he=>absurd (show A.units+cLine<cLine from hu) (by omega)
theorem YO (I:Inv X pins σ H s):∀(l:List D) (A:Around),A.units+qI l<cLine->∀(j:Nat) (d:D),l[j]? = some d->∀(e:D) (x y:V) (u v:Value),Den H d x->Den H e y->RelV x u->RelV y v->A.units+jH e<cLine->gP A s u v (dEq d e)
 | [],A,hu,j,d,h,e,x,y,u,v,_,_,_,_,_=>by simp at h
 | d0::l,A,hu,j,d,h,e,x,y,u,v,h1,h2,r1,r2,he=>by
  have hu':A.units+max (jH d0) (qI l)<cLine:=hu
  cases j with
  | zero=>
   simp at h
   subst h
   exact qLM I d0 e A x y u v h1 h2 r1 r2 (by omega) he
  | succ j=>exact YO I l A (by omega) j d (by simpa using h) e x y u v h1 h2 r1 r2 he
end
end
noncomputable def qN6 (H:Hp) (l:List D) (v:V):Prop:=Den H (.tup l) v\/Den H (.lst l) v
noncomputable def dIn (d:D) (l:List D):Bool:=l.any fun e=>dEq e d
section
variable {X:Cx}
theorem anyB {α β:Type} {f:α->Bool} {g:β->Bool}:∀{l:List α} {m:List β},l.length=m.length->(∀(j:Nat) (a:α) (b:β),l[j]? = some a->m[j]? = some b->f a=g b)->l.any f=m.any g
 | [],[],_,_=>rfl
 | [],_::_,h,_=>absurd h (by simp)
 | _::_,[],h,_=>absurd h (by simp)
 | a::l,b::m,h,k=>by
  rw [TZ,TZ,k 0 a b rfl rfl,anyB (by simpa using h) fun j a b h1 h2=>k (j+1) a b (by simpa using h1) (by simpa using h2)]
theorem qHu {pins:List (Addr×Obj)} {σ:St} {H:Hp} {s:Shared} {A:Around} {l:List D} {xs:List V} {its:List Value} {d:D} {x:V} {u:Value} (I:Inv X pins σ H s) (h:qV H l xs) (rv:ql xs its) (hd:Den H d x) (r:RelV x u) (hu:A.units+qI l<cLine) (hu2:A.units+jH d<cLine) :
  ∃ e:Value->Bool,(∀ w,w∈its->gP A s w u (e w))/\its.any e=dIn d l:=by
 have key:∀(j:Nat) (w:Value),its[j]? = some w->∃ c,l[j]? = some c/\∃ y,xs[j]? = some y/\Den H c y/\RelV y w:=fun j w hw=>by
  have hj:j<xs.length:=by rw [rv.length]; exact (wR.mp hw).1
  obtain ⟨c,g1,g2⟩:=h.get (wA hj)
  obtain ⟨w',g3,g4⟩:=rv.get (wA hj)
  rw [hw] at g3
  cases g3
  exact ⟨c,g1,_,wA hj,g2,g4⟩
 have uniq:∀(w:Value) (c c':D) (y y':V),Den H c y->RelV y w->Den H c' y'->RelV y' w->c=c':=fun w c c' y y' h1 r1 h2 r2=>by
  have e:=r1.inj r2
  subst e
  exact Den.inj c c' y h1 h2
 classical
 refine ⟨fun w=>if hw:∃(c:D) (y:V),Den H c y/\RelV y w then dEq hw.choose d else false,fun w hw=>?_,?_⟩
 ·obtain ⟨j,hj,e⟩:=uW hw
  obtain ⟨c,g1,y,g2,g3,g4⟩:=key j w (by rw [wA hj,e])
  have hex:∃(c:D) (y:V),Den H c y/\RelV y w:=⟨c,y,g3,g4⟩
  simp only [hex,dif_pos]
  obtain ⟨y',q1,q2⟩:=hex.choose_spec
  have:hex.choose=c:=uniq w _ _ _ _ q1 q2 g3 g4
  rw [this]
  exact YO I l A hu j c g1 d _ _ _ _ g3 hd g4 r hu2
 ·refine anyB (by rw [<- rv.length,h.length]) fun j w c h1 h2=>?_
  obtain ⟨c',g1,y,g2,g3,g4⟩:=key j w h1
  rw [h2] at g1
  cases g1
  have hex:∃(c:D) (y:V),Den H c y/\RelV y w:=⟨c,y,g3,g4⟩
  simp only [hex,dif_pos]
  obtain ⟨y',q1,q2⟩:=hex.choose_spec
  have:hex.choose=c:=uniq w _ _ _ _ q1 q2 g3 g4
  rw [this]
noncomputable def qH7 (neg:Bool):R2:=fun x y H Q=>∃ d l,Den H d x/\qN6 H l y/\qI l<=50/\jH d<=50/\Q (.bl (if neg then !dIn d l else dIn d l)) H
theorem qL1 (hu:X.A.units+64<cLine):OpR X (compareOp .In) (qH7 false):=by
 intro pins s σ H x y v u Q I rx ry h
 obtain ⟨d,l,hd,hl,hz,hz2,q⟩:=h
 have hu1:X.A.in1.units+qI l<cLine:=by show X.A.units+1+qI l<cLine; omega
 have hu2:X.A.in1.units+jH d<cLine:=by show X.A.units+1+jH d<cLine; omega
 rcases hl with ⟨a,xs,rfl,h1,h2⟩ | ⟨a,xs,rfl,h1,h2⟩
 ·cases ry
  obtain ⟨its,rv,p,_⟩:=I.tuple (SqT.of (K:=X.K) h1)
  obtain ⟨e,e1,e2⟩:=qHu (A:=X.A.in1) I h2 rv hd rx hu1 hu2
  refine SeqAt.in_tupleAt e p (fun w hw=>e1 w (by simpa using hw)) ⟨.bl _,H,I,rfl,?_⟩
  rw [show its.toArray.any e=its.any e by simp,e2]
  exact q
 ·cases ry
  obtain ⟨its,rv,p,_⟩:=I.list (SqL.of (K:=X.K) h1)
  obtain ⟨e,e1,e2⟩:=qHu (A:=X.A.in1) I h2 rv hd rx hu1 hu2
  refine SeqAt.in_listAt e p.isList (fun w hw=>e1 w (by simpa using hw)) ⟨.bl _,H,I,rfl,?_⟩
  rw [show its.toArray.any e=its.any e by simp,e2]
  exact q
theorem qEl (hu:X.A.units+64<cLine):OpR X (compareOp .NotIn) (qH7 true):=by
 intro pins s σ H x y v u Q I rx ry h
 obtain ⟨d,l,hd,hl,hz,hz2,q⟩:=h
 have hu1:X.A.in1.units+qI l<cLine:=by show X.A.units+1+qI l<cLine; omega
 have hu2:X.A.in1.units+jH d<cLine:=by show X.A.units+1+jH d<cLine; omega
 rcases hl with ⟨a,xs,rfl,h1,h2⟩ | ⟨a,xs,rfl,h1,h2⟩
 ·cases ry
  obtain ⟨its,rv,p,_⟩:=I.tuple (SqT.of (K:=X.K) h1)
  obtain ⟨e,e1,e2⟩:=qHu (A:=X.A.in1) I h2 rv hd rx hu1 hu2
  refine SeqAt.notIn_tupleAt e p (fun w hw=>e1 w (by simpa using hw)) ⟨.bl _,H,I,rfl,?_⟩
  rw [show its.toArray.any e=its.any e by simp,e2]
  exact q
 ·cases ry
  obtain ⟨its,rv,p,_⟩:=I.list (SqL.of (K:=X.K) h1)
  obtain ⟨e,e1,e2⟩:=qHu (A:=X.A.in1) I h2 rv hd rx hu1 hu2
  refine SeqAt.notIn_listAt e p.isList (fun w hw=>e1 w (by simpa using hw)) ⟨.bl _,H,I,rfl,?_⟩
  rw [show its.toArray.any e=its.any e by simp,e2]
  exact q
theorem qDL {pins:List (Addr×Obj)} {σ:St} {H:Hp} {s:Shared} {A:Around} {l m:List D} {xs ys:List V} {its its2:List Value} (I:Inv X pins σ H s) (h:qV H l xs) (rv:ql xs its) (g:qV H m ys) (rw2:ql ys its2) (hu:A.units+qI l<cLine) (hum:A.units+qI m<cLine)
  (j:Nat) (h1:j<its.toArray.size) (h2:j<its2.toArray.size):gP A s its.toArray[j] its2.toArray[j] (qHJ l m j):=by
 simp only [WE]
 have a1:j<its.length:=by simpa using h1
 have a2:j<its2.length:=by simpa using h2
 have l1:=rv.length
 have l2:=rw2.length
 obtain ⟨d,q1,q2⟩:=h.get (wA (by omega:j<xs.length))
 obtain ⟨e,q3,q4⟩:=g.get (wA (by omega:j<ys.length))
 obtain ⟨w1,z1,z2⟩:=rv.get (wA (by omega:j<xs.length))
 obtain ⟨w2,z3,z4⟩:=rw2.get (wA (by omega:j<ys.length))
 rw [wA a1] at z1
 rw [wA a2] at z3
 cases z1
 cases z3
 rw [qCk q1 q3]
 exact YO I l A hu j d q1 e _ _ _ _ q2 q4 z2 z4 (yV (Nat.add_le_add_left (qAn q3) _) hum)
noncomputable def qIK (neg:Bool):R2:=fun x y H Q=>∃ l m,((Den H (.tup l) x/\Den H (.tup m) y)\/(Den H (.lst l) x/\Den H (.lst m) y))/\qI l<=50/\qI m<=50/\Q (.bl (if neg then !Qk l m else Qk l m)) H
theorem qLy (hu:X.A.units+64<cLine):OpR X (compareOp .Eq) (qIK false):=by
 intro pins s σ H x y v u Q I rx ry h
 obtain ⟨l,m,hl,hz,hz3,q⟩:=h
 have hu0:X.A.units<cLine:=by omega
 have hu3:X.A.in1.units+qI m<cLine:=by show X.A.units+1+qI m<cLine; omega
 have hu1:X.A.in1.units+qI l<cLine:=by show X.A.units+1+qI l<cLine; omega
 rcases hl with ⟨⟨a,xs,rfl,h1,h2⟩,⟨b,ys,rfl,k1,k2⟩⟩ | ⟨⟨a,xs,rfl,h1,h2⟩,⟨b,ys,rfl,k1,k2⟩⟩
 ·cases rx
  cases ry
  obtain ⟨its,rv,p,_⟩:=I.tuple (SqT.of (K:=X.K) h1)
  obtain ⟨its2,rv2,p2,_⟩:=I.tuple (SqT.of (K:=X.K) k1)
  have l1:=rv.length
  have l2:=rv2.length
  have n1:=h2.length
  have n2:=k2.length
  refine SeqAt.eq_tupleAt p p2 hu0 (qDL I h2 rv k2 rv2 hu1 hu3) ⟨.bl _,H,I,rfl,?_⟩
  have e2:((wV (min its.toArray.size its2.toArray.size)).all (qHJ l m) && its.toArray.size == its2.toArray.size)=Qk l m:=by
   rw [wL,wL,<- l1,<- l2,n1,n2]
   by_cases hl:l.length=m.length
   ·rw [<- hl,ZP,jL l m hl]; simp
   ·rw [jy l m hl]; simp [hl]
  rw [e2]
  exact q
 ·cases rx
  cases ry
  obtain ⟨its,rv,p,_⟩:=I.list (SqL.of (K:=X.K) h1)
  obtain ⟨its2,rv2,p2,_⟩:=I.list (SqL.of (K:=X.K) k1)
  have l1:=rv.length
  have l2:=rv2.length
  have n1:=h2.length
  have n2:=k2.length
  by_cases hl:l.length=m.length
  ·have hsz:its.toArray.size=its2.toArray.size:=by rw [wL,wL]; omega
   refine SeqAt.eq_listAt p.isList p2.isList hsz hu0 (qDL I h2 rv k2 rv2 hu1 hu3) ⟨.bl _,H,I,rfl,?_⟩
   rw [wL,<- l1,n1,jL l m hl]
   exact q
  ·have hsz:(its.toArray.size != its2.toArray.size)=true:=by rw [wL,wL,<- l1,<- l2,n1,n2]; simpa using hl
   refine SeqAt.eq_list_lengthsAt p.isList p2.isList hsz hu0 ⟨.bl _,H,I,rfl,?_⟩
   rw [jy l m hl] at q
   exact q
theorem qLS (hu:X.A.units+64<cLine):OpR X (compareOp .NotEq) (qIK true):=by
 intro pins s σ H x y v u Q I rx ry h
 obtain ⟨l,m,hl,hz,hz3,q⟩:=h
 have hu0:X.A.units<cLine:=by omega
 have hu3:X.A.in1.units+qI m<cLine:=by show X.A.units+1+qI m<cLine; omega
 have hu1:X.A.in1.units+qI l<cLine:=by show X.A.units+1+qI l<cLine; omega
 rcases hl with ⟨⟨a,xs,rfl,h1,h2⟩,⟨b,ys,rfl,k1,k2⟩⟩ | ⟨⟨a,xs,rfl,h1,h2⟩,⟨b,ys,rfl,k1,k2⟩⟩
 ·cases rx
  cases ry
  obtain ⟨its,rv,p,_⟩:=I.tuple (SqT.of (K:=X.K) h1)
  obtain ⟨its2,rv2,p2,_⟩:=I.tuple (SqT.of (K:=X.K) k1)
  have l1:=rv.length
  have l2:=rv2.length
  have n1:=h2.length
  have n2:=k2.length
  refine SeqAt.RcNeAt.tuples p p2 hu0 (qDL I h2 rv k2 rv2 hu1 hu3) X.prog X.w X.xe _ ⟨.bl _,H,I,rfl,?_⟩
  have e2:((wV (min its.toArray.size its2.toArray.size)).all (qHJ l m) && its.toArray.size == its2.toArray.size)=Qk l m:=by
   rw [wL,wL,<- l1,<- l2,n1,n2]
   by_cases hl:l.length=m.length
   ·rw [<- hl,ZP,jL l m hl]; simp
   ·rw [jy l m hl]; simp [hl]
  rw [e2]
  exact q
 ·cases rx
  cases ry
  obtain ⟨its,rv,p,_⟩:=I.list (SqL.of (K:=X.K) h1)
  obtain ⟨its2,rv2,p2,_⟩:=I.list (SqL.of (K:=X.K) k1)
  have l1:=rv.length
  have l2:=rv2.length
  have n1:=h2.length
  have n2:=k2.length
  by_cases hl:l.length=m.length
  ·have hsz:its.toArray.size=its2.toArray.size:=by rw [wL,wL]; omega
   refine SeqAt.RcNeAt.lists p.isList p2.isList hsz hu0 (qDL I h2 rv k2 rv2 hu1 hu3) X.prog X.w X.xe _ ⟨.bl _,H,I,rfl,?_⟩
   rw [wL,<- l1,n1,jL l m hl]
   exact q
  ·have hsz:(its.toArray.size != its2.toArray.size)=true:=by rw [wL,wL,<- l1,<- l2,n1,n2]; simpa using hl
   refine SeqAt.RcNeAt.lists_lengths p.isList p2.isList hsz hu0 X.prog X.w X.xe _ ⟨.bl _,H,I,rfl,?_⟩
   rw [jy l m hl] at q
   exact q
noncomputable def qKF (K:wK):R2:=fun x y H Q=>∃ l b xs zs,x=.ref l/\y=.ref b/\SqL K H l xs/\SqL K H b zs/\xs.length+zs.length<=sizeLine/\∀ p,H p=none->Q (.ref p) (upd H p (.lst (xs++zs)))
theorem qKC:OpR X (binaryOp .Add) (qKF X.K):=by
 intro pins s σ H x y v u Q I rx ry h
 obtain ⟨l,b,xs,zs,rfl,rfl,hH,hB,hz,q⟩:=h
 cases rx
 cases ry
 obtain ⟨its,r,pl,_⟩:=I.list hH
 obtain ⟨its2,r2,pl2,_⟩:=I.list hB
 have n1:=r.length
 have n2:=r2.length
 obtain ⟨⟨cls,dd,data,sl⟩,ho,hc,n,hd⟩:=pl.isList
 obtain ⟨⟨cls2,dd2,data2,sl2⟩,ho2,hc2,n2',hd2⟩:=pl2.isList
 simp only at hc hd hc2 hd2
 subst hc hd hc2 hd2
 have e:its.toArray++its2.toArray=(its++its2).toArray:=by simp
 refine VG ⟨_,ho,rfl⟩ ⟨_,ho2,rfl⟩ noFill_list_add seq_list_add PySem.F.slot_list_add PySem.F.entry_list_add (PySem.F.args_list_add_2 _ _) (list_addW l b its.toArray its2.toArray n n2' dd dd2 sl sl2 (by simp only [wL]; omega)) ⟨ho,ho2,?_⟩
 rw [e]
 exact ⟨.ref _,_,I.lnew (t':=s.toks) (r.append r2) (by rw [wO]; omega),rfl,q _ I.fresh⟩
theorem qCh:Qw X (.builtin "isinstance") (fun xs H Q=>∃ x t T b,xs=[x,.ty T]/\qB5 X.K H x t/\uY X.K t (.type T)=some b/\Q (.bl b) H):=by
 intro pins s σ H xs us Q I r h
 obtain ⟨x,t,T,b,rfl,ty,e,q⟩:=h
 obtain ⟨u,w',rfl,rx,ry⟩:=vals2 r
 cases ry
 exact qFl I rx ty e fun tk=>⟨.bl b,H,I.tok _,rfl,q⟩
end
example (K:wK):uY K (.type "list") (.type "list")=some true:=rfl
example (K:wK):uY K (.type "int") (.type "bool")=some false:=by rfl
example (K:wK):uY K (.type "bool") (.type "int")=some true:=by rfl
end L2
namespace L2
open PySem PySem.Spec PyProof.Rows PySem.W
section
variable {prog:Program} {w:World} {A:Around} {E:Value->Shared->Prop}
noncomputable def qFu (prog:Program) (w:World) (A:Around) (E:Value->Shared->Prop) (h:Heap) (v:Value) (kd:Int×Nat):Prop:=∀(s':Shared) (R:Int->Shared->Prop),s'.heap=h->R kd.1 { s' with toks:=s'.toks+kd.2 }->wpAny (model prog w) A (pyHash v) R E s'
noncomputable def qCU (prog:Program) (w:World) (A:Around) (E:Value->Shared->Prop) (s:Shared) (n:Nat) (v:Value):Prop:=∀ R:Bool->Shared->Prop,R true s->wpAny (model prog w) A (eqIsQuiet n v) R E s
theorem qKD {h:Heap} {vs:List Value} {ks:List (Int×Nat)} (p:Paired (qFu prog w A E h) vs ks):∀{hs:Array Int} {s:Shared} {Q:Array Int->Shared->Prop},s.heap=h->
  Q (hs++(ks.map (·.1)).toArray) { s with toks:=s.toks+(ks.map (·.2)).sum }->
  wpAny (model prog w) A (forIn vs hs fun x hs=>do
   let k <- pyHash x
   pure (xC (hs.push k))) Q E s:=by
 induction p with
 | nil=>
  intro hs s Q eh q
  refine wI ?_
  simpa using q
 | cons r t ih=>
  intro hs s Q eh q
  rw [uB]
  refine wB (wB (r s _ eh (wI ?_)))
  refine ih (s:={ s with toks:=s.toks+_ }) eh ?_
  simpa [fW] using q
theorem qID {s:Shared} {a:Addr} {items:Array Value} {ks:List (Int×Nat)} {Q:Int->Shared->Prop} (hu:A.units<cLine) (hp:s.heap.IsTuple a items) (hh:Paired (qFu prog w A.in1 E s.heap) items.toList ks)
  (q:Q (reduceHash (fN (ks.map (·.1)))) { s with toks:=s.toks+((ks.map (·.2)).sum+1) }):wpAny (model prog w) A (pyHash (.ref a)) Q E s:=by
 obtain ⟨o,h1,h2,n,h3⟩:=hp
 refine W.pyHash_slot ⟨o,h1,h2⟩ PySem.F.slot_tuple_hash PySem.F.entry_tuple_hash (PySem.F.args_tuple_hash_1 _) rfl (.inr hu) ?_
 delta Builtin.«tuple.__hash__»
 refine wB (wI ?_)
 refine wB (wpAny_tupleItemsOf h1 h3 ?_)
 refine wB ?_
 rw [<- kB]
 refine qKD hh rfl ?_
 repeat' first | assumption | wp_step
 exact ⟨_,_,rfl,by simpa [fW] using q⟩
theorem qJI {n:Nat} {s:Shared} {vs:List Value}:∀{Q:Option Bool×Unit->Shared->Prop},(∀ v∈vs,qCU prog w A E s n v)->Q (none,()) s->
  wpAny (model prog w) A (forIn vs ((none,()):Option Bool×Unit) fun y _=>do
   let b <- eqIsQuiet n y
   if (!b)=true then pure (TF (some false,())) else pure (xC (none,()))) Q E s:=by
 induction vs with
 | nil=>exact fun _ q=>wI q
 | cons v vs ih=>
  intro Q h q
  rw [uB]
  refine wB (wB (h v wD _ (wI ?_)))
  exact ih (fun u hu=>h u (wJ _ hu)) q
theorem qIQ {s:Shared} {a:Addr} {items:Array Value} {n:Nat} {Q:Bool->Shared->Prop} (hp:s.heap.IsTuple a items) (h:∀ v∈items.toList,qCU prog w A E s n v) (q:Q true s):wpAny (model prog w) A (eqIsQuiet (n+1) (.ref a)) Q E s:=by
 obtain ⟨o,h1,h2,m,h3⟩:=hp
 have ty:s.TypeIs (.ref a) "tuple":=⟨o,h1,h2⟩
 have l1:typeLookup (.type "tuple") (gI "__eq__")=pure (some (.builtin "tuple.__eq__")):=PySem.F.slot_tuple_eq.lookup
 have l2:=isSubtype_tuple_tuple
 rw [eqIsQuiet.eq_2]
 repeat' first | assumption | wp_step
 rw [h3]
 refine wI ?_
 refine wB ?_
 rw [<- kB]
 exact qJI h (wI q)
end
structure IK (K:Type) [DecidableEq K] where
 is:Heap->K->Value->Prop
 hash:K->Int
 draws:K->Nat
 dep:Nat
 inj:∀{h:Heap} {v:Value} {x y:K},is h x v->is h y v->x=y
 keeps:∀{h h':Heap} {k:K} {v:Value} {d:Addr} {o:Obj} {es:Array DictEntry} {ep:Nat},is h k v->h.get? d=some o->o.data=.dict es ep->uL d h h'->is h' k v
 pyHash:∀{prog:Program} {w:World} {A:Around} {E:Value->Shared->Prop} {h:Heap} {k:K} {v:Value},A.units+dep<cLine->is h k v->qFu prog w A E h v (hash k,draws k)
 eqAt:∀{A:Around} {s:Shared} {x y:K} {u v:Value},A.units+dep<cLine->is s.heap x u->is s.heap y v->gP A s u v (decide (x=y))
 quiet:∀{prog:Program} {w:World} {A:Around} {E:Value->Shared->Prop} {s:Shared} {k:K} {v:Value} {n:Nat},dep<=n->is s.heap k v->qCU prog w A E s n v
noncomputable def ikI:IK Int where
 is _ k v:=∃ t,v=.int k t
 hash:=hashInt
 draws _:=1
 dep:=0
 inj:=fun ⟨_,e⟩ ⟨_,e'⟩=>by rw [e] at e'; cases e'; rfl
 keeps h _ _ _:=h
 pyHash:=fun _ ⟨_,e⟩ s' R _ q=>by subst e; exact wpAny_pyHash_int q
 eqAt:=fun _ ⟨t,e⟩ ⟨t',e'⟩=>by subst e e'; exact WT _ _ _ _
 quiet:=fun _ ⟨t,e⟩ R q=>by
  subst e
  rw [eqIsQuiet.eq_3 _ _ (fun a z=>by cases z)]
  exact wI q
theorem qAH {h h':Heap} {a d:Addr} {items:Array Value} {o:Obj} {es:Array DictEntry} {ep:Nat} (p:h.IsTuple a items) (hd:h.get? d=some o) (ho:o.data=.dict es ep) (hs:uL d h h'):h'.IsTuple a items:=by
 obtain ⟨o',h1,h2,n,h3⟩:=p
 have ne:a≠d:=fun z=>by
  subst z
  rw [hd] at h1
  cases h1
  rw [ho] at h3
  cases h3
 exact ⟨o',(hs.2 a ne).trans h1,h2,n,h3⟩
theorem Js {h:Heap} {a:Addr} {i j:Array Value} (p:h.IsTuple a i) (q:h.IsTuple a j):i=j:=by
 obtain ⟨o,h1,h2,n,h3⟩:=p
 obtain ⟨o',k1,k2,m,k3⟩:=q
 rw [h1] at k1
 cases k1
 rw [h3] at k3
 cases k3
 rfl
noncomputable def ikP {K L:Type} [DecidableEq K] [DecidableEq L] (I:IK K) (J:IK L):IK (K×L) where
 is h k v:=∃ a u w,v=.ref a/\h.IsTuple a #[u,w]/\I.is h k.1 u/\J.is h k.2 w
 hash k:=reduceHash (fN [I.hash k.1,J.hash k.2])
 draws k:=I.draws k.1+J.draws k.2+1
 dep:=max I.dep J.dep+1
 inj:=fun ⟨a,u,w,e,h1,h2,h3⟩ ⟨a',u',w',e',k1,k2,k3⟩=>by
  rw [e] at e'
  cases e'
  have z:=Js h1 k1
  cases z
  exact hV (I.inj h2 k2) (J.inj h3 k3)
 keeps:=fun ⟨a,u,w,e,h1,h2,h3⟩ hd ho hs=>⟨a,u,w,e,qAH h1 hd ho hs,I.keeps h2 hd ho hs,J.keeps h3 hd ho hs⟩
 pyHash:=fun {prog w A E h k v} hu ⟨a,u,w',e,h1,h2,h3⟩ s' R es q=>by
  subst e es
  refine qID (by omega) h1 (ks:=[(I.hash k.1,I.draws k.1),(J.hash k.2,J.draws k.2)]) (.cons (I.pyHash (by show A.units+1+_<_; omega) h2) (.cons (J.pyHash (by show A.units+1+_<_; omega) h3) .nil)) ?_
  simpa [fW] using q
 eqAt:=fun {A s x y u v} hu ⟨a,u1,u2,e,h1,h2,h3⟩ ⟨b,v1,v2,e',k1,k2,k3⟩=>by
  subst e e'
  by_cases z:a=b
  ·subst z
   have z:=Js h1 k1
   cases z
   rw [show x=y from hV (I.inj h2 k2) (J.inj h3 k3),decide_eq_true rfl]
   exact gX _
  ·have e1:=I.eqAt (A:=A.in1) (by show A.units+1+_<_; omega) h2 k2
   have e2:=J.eqAt (A:=A.in1) (by show A.units+1+_<_; omega) h3 k3
   have r:=gE z (VM (A:=A) (e:=fun j=>if j=0 then decide (x.1=y.1) else decide (x.2=y.2)) h1 k1 (by omega) fun j j1 j2=>by
    match j,j1,j2 with
    | 0,_,_=>exact e1
    | 1,_,_=>exact e2
    | j+2,j1,_=>exact absurd j1 (by show ¬ j+2<2; omega))
   have er:((wV (min (#[u1,u2]:Array Value).size (#[v1,v2]:Array Value).size)).all (fun j=>if j=0 then decide (x.1=y.1) else decide (x.2=y.2)) && (#[u1,u2]:Array Value).size == (#[v1,v2]:Array Value).size)=decide (x=y):=by
    show ((wV 2).all _ && true)=_
    rw [SC]
    simp [wV,List.range.loop,Prod.ext_iff]
   rw [er] at r
   exact r
 quiet:=fun {prog w A E s k v n} hn ⟨a,u,w',e,h1,h2,h3⟩ R q=>by
  subst e
  obtain ⟨m,rfl⟩:∃ m,n=m+1:=⟨n - 1,by omega⟩
  refine qIQ h1 (fun v hv=>?_) q
  have hv':v=u\/v=w':=by simpa using hv
  rcases hv' with rfl | rfl
  ·exact I.quiet (by omega) h2
  ·exact J.quiet (by omega) h3
theorem qK7 {K:Type} [DecidableEq K]:∀(x y:List K),((wV (min x.length y.length)).all (fun j=>decide (x[j]? = y[j]?)) && x.length == y.length)=decide (x=y):=fun x y=>by
 by_cases e:x=y
 ·subst e
  simp
 ·rw [decide_eq_false e]
  by_cases l:x.length=y.length
  ·rw [<- l,ZP,Bool.and_eq_false_iff]
   refine .inl ?_
   rw [<- gR,gS]
   intro h
   refine e (uN fun j=>?_)
   by_cases hj:j<x.length
   ·exact of_decide_eq_true (h j (zO.mpr hj))
   ·rw [zV (by omega),zV (by omega)]
  ·simp [l]
theorem qFP {α β:Type} {F:α->β->Prop} {l:List α} {m:List β} (p:Paired F l m):∀(j:Nat) (b:β),m[j]? = some b->∃ a,l[j]? = some a/\F a b:=by
 induction p with
 | nil=>intro j b e; simp at e
 | cons r t ih=>
  intro j b e
  cases j with
  | zero=>cases e; exact ⟨_,rfl,r⟩
  | succ j=>exact ih j b e
theorem qId {α β:Type} {F:α->β->Prop} (f:∀ a a' b,F a b->F a' b->a=a') {l:List α} {m:List β} (p:Paired F l m):∀{l':List α},Paired F l' m->l=l':=by
 induction p with
 | nil=>intro l' q; cases q; rfl
 | cons r t ih=>intro l' q; cases q with | cons r' t'=>rw [f _ _ _ r r',ih t']
theorem qK9 {α β γ:Type} {F:α->β->Prop} {G:β->γ->Prop} (g:α->γ) (f:∀ a b,F a b->G b (g a)) {l:List α} {m:List β} (p:Paired F l m):Paired G m (l.map g):=by
 induction p with
 | nil=>exact .nil
 | cons r t ih=>exact .cons (f _ _ r) ih
noncomputable def ikT {K:Type} [DecidableEq K] (I:IK K):IK (List K) where
 is h ks v:=∃ a items,v=.ref a/\h.IsTuple a items/\Paired (I.is h) ks items.toList
 hash ks:=reduceHash (fN (ks.map I.hash))
 draws ks:=(ks.map I.draws).sum+1
 dep:=I.dep+1
 inj:=fun ⟨a,i,e,h1,h2⟩ ⟨a',i',e',k1,k2⟩=>by
  rw [e] at e'
  cases e'
  cases Js h1 k1
  exact qId (F:=I.is _) (fun _ _ _ y z=>I.inj y z) h2 k2
 keeps:=fun ⟨a,i,e,h1,h2⟩ hd ho hs=>⟨a,i,e,qAH h1 hd ho hs,Paired.mapP h2 fun _ _ z=>I.keeps z hd ho hs⟩
 pyHash:=fun {prog w A E h k v} hu ⟨a,i,e,h1,h2⟩ s' R es q=>by
  subst e es
  refine qID (by omega) h1 (ks:=k.map fun x=>(I.hash x,I.draws x)) (qK9 _ (fun x u hx=>I.pyHash (by show A.units+1+_<_; omega) hx) h2) ?_
  simpa [Function.comp_def] using q
 eqAt:=fun {A s x y u v} hu ⟨a,i,e,h1,h2⟩ ⟨b,j,e',k1,k2⟩=>by
  subst e e'
  by_cases z:a=b
  ·subst z
   cases Js h1 k1
   rw [qId (F:=I.is _) (fun _ _ _ y z=>I.inj y z) h2 k2,decide_eq_true rfl]
   exact gX _
  ·have r:=gE z (VM (A:=A) (e:=fun n=>decide (x[n]? = y[n]?)) h1 k1 (by omega) fun n n1 n2=>by
    obtain ⟨p,p1,p2⟩:=qFP h2 n _ (by rw [yC,zI n1])
    obtain ⟨q,q1,q2⟩:=qFP k2 n _ (by rw [yC,zI n2])
    have:=I.eqAt (A:=A.in1) (by show A.units+1+_<_; omega) p2 q2
    have ed:decide (x[n]? = y[n]?)=decide (p=q):=by rw [p1,q1]; simp
    rw [ed]
    exact this)
   have l1:x.length=i.size:=fU h2
   have l2:y.length=j.size:=fU k2
   rw [<- l1,<- l2,qK7] at r
   exact r
 quiet:=fun {prog w A E s k v n} hn ⟨a,i,e,h1,h2⟩ R q=>by
  subst e
  obtain ⟨m,rfl⟩:∃ m,n=m+1:=⟨n - 1,by omega⟩
  refine qIQ h1 (fun v hv=>?_) q
  obtain ⟨j,hj⟩:=List.mem_iff_getElem?.mp hv
  obtain ⟨p,_,p2⟩:=qFP h2 j v hj
  exact I.quiet (by omega) p2
noncomputable def ikH {K:Type} [DecidableEq K] (I:IK K) (hd:I.dep<=8) (prog:Program) (w:World):HeapKind prog w K where
 is h k a:=I.is h k (.ref a)
 hash:=I.hash
 draws:=I.draws
 room A:=A.units+I.dep<cLine
 inj:=I.inj
 keeps:=I.keeps
 pyHash:=fun {A E s k a Q} hu h q=>I.pyHash hu h s Q rfl q
 eqBool:=fun {A E s x y a b Q} hu h1 h2 q=>I.eqAt hu h1 h2 prog w E Q q
 quiet:=fun {A E s k a Q} h q=>I.quiet hd h Q q
noncomputable abbrev Q0:=Int×List (Int×Int)
noncomputable def ikW:IK Q0:=ikP ikI (ikT (ikP ikI ikI))
noncomputable def Yq (prog:Program) (w:World):HeapKind prog w Q0:=ikH ikW (by decide) prog w
noncomputable def qCj (k:Q0):D:=.tup [.int k.1,.tup (k.2.map fun p=>.tup [.int p.1,.int p.2])]
noncomputable abbrev Y2:=Q0×Addr×Addr
noncomputable def qNj (a:Addr) (xs:List Y2) (h:Heap):Prop:=∃ o es ep,h.get? a=some o/\o.ExactDict/\o.data=.dict es ep/\es.toList=xs.map (fun x=>⟨ikW.hash x.1,.ref x.2.1,.ref x.2.2⟩)/\(xs.map (·.1)).Nodup/\xs.length<=sizeLine/\(a == sysModules)=false
noncomputable abbrev hoW (a:Addr) (xs:List Y2):HO:=.ext (qNj a xs)
noncomputable def atW (xs:List Y2) (k:Q0):Option Addr:=(xs.find? fun x=>decide (x.1=k)).map (·.2.2)
noncomputable def qHm (xs:List Y2) (k:Q0) (b c:Addr):List Y2:=if (atW xs k).isSome=true then xs.map (fun x=>if x.1=k then (x.1,x.2.1,c) else x) else xs++[(k,b,c)]
noncomputable def JD (H:Hp) (xs:List Y2):Prop:=∀ x∈xs,Den H (qCj x.1) (.ref x.2.1)
noncomputable def qGl (x:Y2):Q0×Addr×Value:=(x.1,x.2.1,.ref x.2.2)
theorem qFy {P:Program} {w:World} {H:Hp} {h:Heap} {a:Addr} {xs:List Y2} (x:qNj a xs h):jh P w H h a (hoW a xs):=by
 refine ⟨x,let ⟨o,_,_,e,_⟩:=x; ⟨o,e⟩,fun h1 h2 ⟨o,es,ep,e,r⟩ k=>⟨o,es,ep,k o e,r⟩⟩
section
variable {X:Cx} {pins:List (Addr×Obj)} {σ:St} {H:Hp} {s:Shared} {a b c:Addr} {xs:List Y2} {k:Q0} {A:Around} {E:Value->Shared->Prop}
theorem qGa {h:Heap} {n:Int} {x:V} {u:Value} (d:Den H (.int n) x) (r:RelV x u):ikI.is h n u:=by
 cases (show x=.int n from d)
 obtain ⟨t,e⟩:=r
 exact ⟨t,e⟩
theorem qJF (I:Inv X pins σ H s) {p:Int×Int} {x:V} {u:Value} (d:Den H (.tup [.int p.1,.int p.2]) x) (r:RelV x u):(ikP ikI ikI).is s.heap p u:=by
 obtain ⟨b,ys,rfl,h1,y1,r1,rfl,d1,y2,r2,rfl,d2,e3⟩:=d
 cases (show r2=[] from e3)
 cases r
 obtain ⟨its,rv,q,_⟩:=I.tuple (SqT.of (K:=X.K) h1)
 cases rv with | cons v1 rv=>cases rv with | cons v2 rv=>cases rv with | nil=>exact ⟨b,_,_,rfl,q,qGa d1 v1,qGa d2 v2⟩
theorem qDG (I:Inv X pins σ H s):∀{ps:List (Int×Int)} {ys:List V} {us:List Value},qV H (ps.map fun p=>.tup [.int p.1,.int p.2]) ys->ql ys us->Paired ((ikP ikI ikI).is s.heap) ps us
 | [],ys,us,d,r=>by
  cases (show ys=[] from d)
  cases r
  exact .nil
 | p::ps,ys,us,d,r=>by
  obtain ⟨y,t,rfl,d1,d2⟩:=d
  cases r with | cons v1 rv=>exact .cons (qJF I d1 v1) (qDG I d2 rv)
theorem qDo (I:Inv X pins σ H s) (d:Den H (qCj k) (.ref b)):ikW.is s.heap k (.ref b):=by
 obtain ⟨_,ys,e,h1,y1,r1,rfl,d1,y2,r2,rfl,d2,e3⟩:=d
 cases e
 cases (show r2=[] from e3)
 obtain ⟨its,rv,q,_⟩:=I.tuple (SqT.of (K:=X.K) h1)
 cases rv with | cons v1 rv=>cases rv with | cons v2 rv=>cases rv with | nil=>
  obtain ⟨tb,zs,rfl,k1,k2⟩:=d2
  cases v2
  obtain ⟨its2,rv2,q2,_⟩:=I.tuple (SqT.of (K:=X.K) k1)
  exact ⟨b,_,_,rfl,q,qGa d1 v1,tb,_,rfl,q2,by simpa using qDG I k2 rv2⟩
theorem qC1 (I:Inv X pins σ H s) (e:H a=some (hoW a xs)) (hk:JD H xs):Heap.DictOfH (Yq X.prog X.w) s.heap a (xs.map qGl)/\xs.length<=sizeLine/\(a == sysModules)=false:=by
 obtain ⟨⟨o,es,ep,h1,h2,h3,h4,h5,h6,h7⟩,_⟩:=(show jh X.prog X.w H s.heap a (hoW a xs) from I.hok a _ e)
 refine ⟨⟨o,es,ep,h1,h2,h3,?_,fun x hx=>?_,?_⟩,h6,h7⟩
 ·rw [h4,zW]
  rfl
 ·obtain ⟨y,hy,e⟩:=zF.mp hx
  rw [<- e]
  exact qDo I (hk y hy)
 ·rw [zW]
  exact h5
theorem qAh:∀ xs:List Y2,(atKey (xs.map qGl) k).map (·.2)=(atW xs k).map yJ
 | []=>rfl
 | x::xs=>by
  have ih:=qAh xs
  unfold atKey atW at ih ⊢
  rw [xH,gB,gB]
  by_cases e:x.1=k
  ·simp [qGl,e]
  ·simpa [qGl,e] using ih
theorem qF5 (hu:X.A.units+8<cLine):(Yq X.prog X.w).room X.A.in1:=by
 show X.A.units+1+ikW.dep<cLine
 have:ikW.dep=3:=by decide
 omega
theorem w_get {v:Addr} {Q:Value->Shared->Prop} (hu:X.A.units+8<cLine) (I:Inv X pins σ H s) (e:H a=some (hoW a xs)) (hk:JD H xs) (hb:Den H (qCj k) (.ref b)) (hv:atW xs k=some v) (h:∀ s',Inv X pins σ H s'->Q (.ref v) s'):wpAny (model X.prog X.w) X.A (getItem (.ref a) (.ref b)) Q E s:=by
 obtain ⟨dd,_,_⟩:=qC1 I e hk
 have z:=qAh (k:=k) xs
 rw [hv] at z
 obtain ⟨p,hp,hp2⟩:=ZQ.mp z
 refine wpAny_getItem_heap (qF5 hu) (show (Yq X.prog X.w).is s.heap k b from qDo I hb) dd hp ?_
 rw [hp2]
 exact h _ (I.tok _)
theorem qIs {Q:Value->Shared->Prop} (hu:X.A.units+8<cLine) (I:Inv X pins σ H s) (e:H a=some (hoW a xs)) (hk:JD H xs) (hb:Den H (qCj k) (.ref b)) (h:∀ s',Inv X pins σ H s'->Q (.bool (!(atW xs k).isSome)) s'):wpAny (model X.prog X.w) X.A (compareOp .NotIn (.ref b) (.ref a)) Q E s:=by
 obtain ⟨dd,_,hd⟩:=qC1 I e hk
 refine wpAny_notIn_heap (qF5 hu) (show (Yq X.prog X.w).is s.heap k b from qDo I hb) hd dd ?_
 have z:=congrArg Option.isSome (qAh (k:=k) xs)
 rw [fQ,fQ] at z
 rw [z]
 exact h _ (I.tok _)
theorem qJo (x:Y2):putAt k (.ref c) (qGl x)=qGl (if x.1=k then (x.1,x.2.1,c) else x):=by
 unfold putAt
 by_cases e:x.1=k
 ·rw [if_pos e,if_pos (show (qGl x).1=k from e)]; rfl
 ·rw [if_neg e,if_neg (show ¬ (qGl x).1=k from e)]
theorem qHA (xs:List Y2):storedH (xs.map qGl) k b (.ref c)=(qHm xs k b c).map qGl:=by
 have z:=congrArg Option.isSome (qAh (k:=k) xs)
 rw [fQ,fQ] at z
 unfold storedH qHm
 rw [z]
 by_cases e:(atW xs k).isSome=true
 ·rw [if_pos e,if_pos e,zW,zW]
  exact uX fun x _=>qJo x
 ·rw [if_neg e,if_neg e,yI]
  rfl
theorem qMM {Q:Unit->Shared->Prop} (hu:X.A.units+8<cLine) (I:Inv X pins σ H s) (e:H a=some (hoW a xs)) (hk:JD H xs) (hb:Den H (qCj k) (.ref b)) (hl:xs.length<sizeLine) (h:∀ s',Inv X pins σ (upd H a (hoW a (qHm xs k b c))) s'->Q () s'):wpAny (model X.prog X.w) X.A (setItem (.ref a) (.ref b) (.ref c)) Q E s:=by
 obtain ⟨dd,hz,hd⟩:=qC1 I e hk
 refine wpAny_setItem_heap (hsz:=by rw [wC]; exact hz) (qF5 hu) (show (Yq X.prog X.w).is s.heap k b from qDo I hb) dd fun h' dd' hs=>h _ ?_
 rw [qHA] at dd'
 obtain ⟨q,es,ep,hq,h2,h3,h4,_,h5⟩:=dd'
 refine qJz I (by rw [e]; exact ZL) hs ⟨q,hq⟩ (qFy ⟨q,es,ep,hq,h2,h3,?_,?_,?_,hd⟩)
 ·rw [h4,zW]
  rfl
 ·rw [zW] at h5
  exact h5
 ·unfold qHm
  split
  ·rw [wC]; omega
  ·rw [wO]; exact hl
end
noncomputable def qKj:TE:=fun _ H Q=>∀ p,H p=none->Q (.ref p) (upd H p (hoW p []))
noncomputable def qLV (td ty:TE):TE:=fun σ H Q=>td σ H fun x H1=>ty σ H1 fun y H2=>∃ a xs k b v,x=.ref a/\H2 a=some (hoW a xs)/\JD H2 xs/\y=.ref b/\Den H2 (qCj k) (.ref b)/\atW xs k=some v/\Q (.ref v) H2
noncomputable def qGc (ty td:TE):TE:=fun σ H Q=>ty σ H fun y H1=>td σ H1 fun x H2=>∃ a xs k b,x=.ref a/\H2 a=some (hoW a xs)/\JD H2 xs/\y=.ref b/\Den H2 (qCj k) (.ref b)/\Q (.bl (!(atW xs k).isSome)) H2
noncomputable def qLk (td ty tv:TE):TS:=fun D σ H=>tv σ H fun v H1=>td σ H1 fun x H2=>ty σ H2 fun y H3=>∃ a xs k b c,x=.ref a/\H3 a=some (hoW a xs)/\JD H3 xs/\y=.ref b/\Den H3 (qCj k) (.ref b)/\v=.ref c/\xs.length<sizeLine/\D.nx σ (upd H3 a (hoW a (qHm xs k b c)))
section
variable {X:Cx} {o i e value:Expr} {pos pos' tpos:Pos} {td ty tv:TE}
theorem qJT:PE X (.Dict [] [] pos) qKj:=fun pins s σ H Q I h=>
 wpAny_Dict_empty ⟨.ref s.heap.objs.size,_,I.laid (a:=s.heap.objs.size) (o:=hoW s.heap.objs.size []) (t':=s.toks) (fun _ _ q=>wG _ q) (wH _) (qFy ⟨_,#[],0,zL _ rfl,⟨rfl,rfl,rfl⟩,rfl,rfl,vI,yN _,beq_eq_false_iff_ne.mpr (ZK (vE I.big))⟩),rfl,h _ (I.hok.fresh (wH _))⟩
theorem qJE (hu:X.A.units+64<cLine) (ho:PE X o td) (hi:PE X i ty) (hs:qNK i):PE X (.Subscript o i pos) (qLV td ty):=by
 intro pins s σ H Q I h
 refine qI2 PySem.F.slot_dict_getitem.lookup hs (thn (ho pins s σ H _ I h) fun u s1 ⟨x,H1,I1,rx,q1⟩=>thn (hi pins s1 σ H1 _ I1 q1) fun iv s2 ⟨y,H2,I2,ry,a,xs,k,b,v,ex,ea,hk,ey,hb,hv,q2⟩=>?_)
 subst ex ey
 obtain rfl:u=yJ a:=rx
 obtain rfl:iv=yJ b:=ry
 obtain ⟨⟨ob,es,ep,h1,h2,_⟩,_⟩:=qC1 I2 ea hk
 exact ⟨⟨ob,h1,h2.1⟩,w_get (by omega) I2 ea hk hb hv fun s3 I3=>⟨.ref v,H2,I3,rfl,q2⟩⟩
theorem qEd (hu:X.A.units+64<cLine) (hi:PE X i ty) (ho:PE X o td):PC X .NotIn i o (qGc ty td):=by
 intro pins s σ H Q I h
 refine thn (hi pins s σ H _ I h) fun iv s1 ⟨y,H1,I1,ry,q1⟩=>thn (ho pins s1 σ H1 _ I1 q1) fun u s2 ⟨x,H2,I2,rx,a,xs,k,b,ex,ea,hk,ey,hb,q2⟩=>?_
 subst ex ey
 obtain rfl:u=yJ a:=rx
 obtain rfl:iv=yJ b:=ry
 exact qIs (by omega) I2 ea hk hb fun s3 I3=>⟨.bl (!(atW xs k).isSome),H2,I3,rfl,q2⟩
theorem qJC (hu:X.A.units+64<cLine) (ho:PE X o td) (hi:PE X i ty) (hv:PE X value tv) (hs:swapsWith value (some (.Subscript o i pos')) pos.line X.env=pure false) :
  PS X (.Assign [.Subscript o i pos'] value pos) (qLk td ty tv):=by
 intro pins s σ H D I h
 refine wpAny_Assign_Subscript (thn (hv pins s σ H _ I h) fun r s1 ⟨v,H1,I1,rv,q1⟩=>thn (ho pins s1 σ H1 _ I1 q1) fun u s2 ⟨x,H2,I2,rx,q2⟩=>thn (hi pins s2 σ H2 _ I2 q2) fun iv s3 ⟨y,H3,I3,ry,a,xs,k,b,c,ex,ea,hk,ey,hb,ev,hl,q3⟩=>?_) hs
 subst ex ey ev
 obtain rfl:u=yJ a:=rx
 obtain rfl:iv=yJ b:=ry
 obtain rfl:r=yJ c:=rv
 exact qMM (by omega) I3 ea hk hb hl fun s4 I4=>⟨σ,_,I4,q3⟩
end
end L2
namespace L2
open PySem PySem.Spec PyProof.Rows
section
variable {X:Cx} {a:Expr} {ta:TE} {pos:Pos} {tg:Expr}
theorem opM:OpR X (binaryOp .Mult) (fun x y H Q=>(rI qL8 fun i j=>.int (i*j)) x y H Q\/qM1 x y H Q):=qKb.or qK1
theorem qGi (hu:X.A.units+64<cLine):OpR X (compareOp .Eq) (fun x y H Q=>rEq x y H Q\/qIK false x y H Q):=qNE.or (qLy hu)
theorem qEt (hu:X.A.units+64<cLine):OpR X (compareOp .NotEq) (fun x y H Q=>rNe x y H Q\/qIK true x y H Q):=qMs.or (qLS hu)
theorem qNG (hu:X.A.units+64<cLine):OpR X (compareOp .In) (qH7 false):=qL1 hu
theorem YT (hu:X.A.units+64<cLine):OpR X (compareOp .NotIn) (qH7 true):=qEl hu
noncomputable def qKL (K:wK) (tl:TE):TI:=fun σ H R=>tl σ H fun x H1=>∃ a,x=.ref a/\(((∃ xs,SqL K H1 a xs)/\R (Itl K a) H1)\/((∃ xs,SqT K H1 a xs)/\R (Itt K a) H1))
theorem qKv {l:Expr} {tl:TE} (hl:PE X l tl):PI X tg l (qKL X.K tl):=by
 intro pins s σ H R I h
 refine thn (hl pins s σ H _ I h) fun v s1 ⟨x,H1,I1,r1,q1⟩=>?_
 obtain ⟨a,e,q⟩:=q1
 subst e
 cases r1
 rcases q with ⟨⟨xs,hq⟩,q⟩ | ⟨⟨xs,hq⟩,q⟩
 ·obtain ⟨its,rv,p,hz⟩:=I1.list hq
  refine wpAny_pyIter_list p.isList ?_
  refine ⟨s1.heap.objs.size,[s1.heap.objs.size],_,_,H1,rfl,I1.kept (t':=s1.toks) fun b o e=>wG _ e,qE0 a _,⟨_,zL _ rfl,rfl,rfl⟩,fun b hb=>?_,q⟩
  have e:b=s1.heap.objs.size:=by simpa using hb
  subst e
  exact I1.fpOk (wH _) (I1.hok.fresh (wH _))
 ·obtain ⟨its,rv,p,hz⟩:=I1.tuple hq
  refine WW (show s1.heap.IsTuple a its.toArray from p) ?_
  refine ⟨s1.heap.objs.size,[s1.heap.objs.size],_,_,H1,rfl,I1.kept (t':=s1.toks) fun b o e=>wG _ e,qEB a _,⟨_,zL _ rfl,rfl,rfl⟩,fun b hb=>?_,q⟩
  have e:b=s1.heap.objs.size:=by simpa using hb
  subst e
  exact I1.fpOk (wH _) (I1.hok.fresh (wH _))
end
theorem qP.new {H:Hp} {p:Addr} {o:HO} (h:H p=none):qP H (upd H p o):=fun b u e=>by rw [qJ (jK e h)]; exact e
noncomputable def qKU (H H':Hp):Prop:=∀ a xs,H a=some (.tup xs)->H' a=some (.tup xs)
mutual
noncomputable def qG2:D->Bool
 | .lst _=>false
 | .dic=>false
 | .tup l=>qDm l
 | _=>true
noncomputable def qDm:List D->Bool
 | []=>true
 | d::l=>qG2 d && qDm l
end
mutual
theorem Den.monoT {H H':Hp} (e:qKU H H'):∀(d:D) (v:V),qG2 d=true->Den H d v->Den H' d v
 | .non,v,_,h=>h
 | .bl _,v,_,h=>h
 | .int _,v,_,h=>h
 | .str _,v,_,h=>h
 | .tup l,v,t,h=>by
  obtain ⟨a,xs,r,h1,h2⟩:=h
  exact ⟨a,xs,r,e _ _ h1,qV.monoT e l xs t h2⟩
 | .lst l,v,t,h=>by simp [qG2] at t
 | .dic,v,t,h=>by simp [qG2] at t
theorem qV.monoT {H H':Hp} (e:qKU H H'):∀(l:List D) (xs:List V),qDm l=true->qV H l xs->qV H' l xs
 | [],xs,_,h=>h
 | d::l,xs,t,h=>by
  obtain ⟨x,r,h0,h1,h2⟩:=h
  simp only [qDm,yR] at t
  exact ⟨x,r,h0,Den.monoT e d x t.1 h1,qV.monoT e l r t.2 h2⟩
end
section
variable {X:Cx} {K:wK} {a b o e:Expr} {es:List Expr} {ta tb to:TE} {t:TA} {pos:Pos} {tg:Expr}
theorem ixK (h:X.K=K):IxR X (rIx K):=by subst h; exact qKY
theorem qt {l:Expr} {tl:TE} (h:X.K=K) (hl:PE X l tl):PI X tg l (qKL K tl):=by subst h; exact qKv hl
noncomputable def qNY (K:wK) (ta:TE):TT:=fun σ H Q=>ta σ H fun x H'=>∃ k,qL9 K x H' k/\Q k H'
theorem Q2 (h:X.K=K) (ha:PE X a ta) (he:∀ whole,isTrue a X.env whole=(do let v <- whole; standAt a.pos; holding [v] (truthy v))):PT X a (qNY K ta):=by subst h; exact qHd ha he
theorem qCz (h:X.K=K):Qw X (.builtin "len") (fun xs H Q=>∃ p ys,xs=[.ref p]/\(SqL K H p ys\/SqT K H p ys)/\Q (.int ys.length) H):=by subst h; exact qB4
theorem YK (h:X.K=K):Qw X (.type "tuple") (fun xs H Q=>∃ p ys,xs=[.ref p]/\((SqL K H p ys/\∀ l,H l=none->Q (.ref l) (upd H l (.tup ys)))\/(SqT K H p ys/\Q (.ref p) H))):=by subst h; exact qAm
theorem qJv (h:X.K=K):Qw X (.builtin "isinstance") (fun xs H Q=>∃ x t T b,xs=[x,.ty T]/\qB5 K H x t/\uY K t (.type T)=some b/\Q (.bl b) H):=by subst h; exact qCh
theorem qDE {name:Str} {apos cpos:Pos} {T id:String} {r:V->List V->Hp->VK->Prop} (h:X.K=K) (pa:PlainAttrs T) (slot:Slot T name id) (hty:typeOf (.builtin id)=pure (.type "method_descriptor")) (hm:MtR X id r) (ho:PE X o to) (ha:PA X (e::es) t)
  (hbase:attributeBase o name X.env (eval o X.env)=eval o X.env:=by rfl)
  (hfew:((backTo cpos (starEach (e::es) X.env)).all (fun x=>!x.1) && (backToKw cpos (keywordEach [] X.env)).all (fun x=>x.1.isSome)
   && decide ((e::es).length+([]:List Keyword).length+(if ([]:List Keyword).isEmpty then 0 else 1)<30))=true:=by rfl)
  (hline:(apos.endLine == cpos.line)=true:=by rfl) (hs:starEach (e::es) X.env=(false,eval e X.env)::starEach es X.env:=by rfl) (hplain:(backTo cpos (starEach es X.env)).any (·.1)=false:=by rfl) :
  PE X (.Call (.Attribute o name apos) (e::es) [] cpos) (tBM K T r to t):=by subst h; exact qNB pa slot hty hm ho ha hbase hfew hline hs hplain
theorem jG {es:List Expr} {k:Nat} {t:TGs} {n:Nat} (h:X.K=K) (hc:X.calm=true) (hg:PGs X es t)
  (hn:(assignEach es X.env).length=n:=by rfl) (hst:(assignEach es X.env).findIdx? (·.1)=none:=by rfl):PG X (.Tuple es k pos) (qMx K n t):=by subst h; exact qK5 hc hg hn hst
end
structure qLX (K:wK) (mg:Str->Option Value) (x:Str) (st:Stmt) (ps:List Str) (f:Addr) (fd:FuncData):Prop where
 fn:Fun K x x st f fd
 bd:Binds K fd ps []
 mg:mg x=some (.ref f)
end L2
namespace L2
open PySem
noncomputable abbrev Fo (h:Heap) (c:String) (a:Addr) (fs:Array Value):Prop:=h.get? a=some ⟨.type c,none,.fields fs,#[]⟩
noncomputable def qAC (a:Addr) (h h':Heap):Prop:=∀ c o,c≠a->h.get? c=some o->h'.get? c=some o
theorem qAC.refl (a:Addr) (h:Heap):qAC a h h:=fun _ _ _ y=>y
theorem qAC.then {a:Addr} {h h' h'':Heap} (x:qAC a h h') (y:qAC a h' h''):qAC a h h'':=fun c o n z=>y c o n (x c o n z)
theorem qAC.new {a:Addr} {h h':Heap} (x:qAC a h h') (o:Obj):qAC a h (h'.push o):=fun c u n z=>wG o (x c u n z)
theorem qAC.of {a:Addr} {h h':Heap} (x:uL a h h'):qAC a h h':=x.extBut
section
variable {prog:Program} {w:World} {A:Around} {E:Value->Shared->Prop} {s:Shared} {a:Addr} {c:String} {fs:Array Value} {β:Type} {Q:β->Shared->Prop}
theorem ask {k:Nat} {x:Value} {g:Value->Sem β} (o:Fo s.heap c a fs) (hx:fs[k]? = some x) (K:wpAny (model prog w) A (g x) Q E s):wpAny (model prog w) A (field (.ref a) k >>= g) Q E s:=wB (fP o rfl hx K)
theorem qMR {k:Nat} {v:Value} {Q:Unit->Shared->Prop} (o:Fo s.heap c a fs) (hk:k<fs.size) (K:∀ h',Fo h' c a (fs.setIfInBounds k v)->qAC a s.heap h'->h'.objs.size=s.heap.objs.size->Q () { s with heap:=h' }):wpAny (model prog w) A (setField (.ref a) k v) Q E s:=
 wpAny_setField_rec o hk fun h' o' same=>K h' o' (.of same) same.1
theorem put {k:Nat} {v:Value} {g:Unit->Sem β} (o:Fo s.heap c a fs) (hk:k<fs.size) (K:∀ h',Fo h' c a (fs.setIfInBounds k v)->qAC a s.heap h'->h'.objs.size=s.heap.objs.size->wpAny (model prog w) A (g ()) Q E { s with heap:=h' }):wpAny (model prog w) A (setField (.ref a) k v >>= g) Q E s:=
 wB (qMR o hk K)
theorem alive {b:Addr} {g:Option Obj->Sem β} (K:wpAny (model prog w) A (g (s.heap.get? b)) Q E s):wpAny (model prog w) A (loadIfAlive b >>= g) Q E s:=by
 refine wB ?_
 intro Γ p _
 exact (Sem.wp_loadIfAlive ..).symm ▸ K
end
end L2
namespace L2
open PySem PySem.Spec PyProof.Rows
section
variable {w:World} {prog:Program} {A:Around} {s:Shared} {E:Value->Shared->Prop}
theorem qMV {α:Type} {Q:α->Shared->Prop} (calm:A.handled=none) (K:∀ h' e,(∀ b o,s.heap.get? b=some o->h'.get? b=some o)->(∃ o,h'.get? e=some o/\o.cls=.type "StopIteration")->E (.ref e) { s with heap:=h' }):wpAny (model prog w) A (Builtin.SmallTypes.stopIteration:Sem α) Q E s:=by
 refine wB (m:=newExc _ _) (wB (xJ (wB (m:=firstArgMember _ _) (WD (a:=xE) (by simp only [firstArgMember]; rfl) (xJ (wpAny_raiseNew_none calm (K _ _ (fun b o y=>?_) ⟨_,zL _ rfl,rfl⟩)) (by size_fits)))) (by size_fits)))
 exact wG _ (wG _ y)
theorem nextT {nx tu:Addr} {i:Nat} {its:Array Value} {Q:Value->Shared->Prop} (hi:s.heap.IsTupleIter nx tu i) (ht:s.heap.IsTuple tu its) (yes:∀ y h',its[i]? = some y->h'.IsTupleIter nx tu (i+1)->uL nx s.heap h'->Q y { s with heap:=h' })
  (no:its[i]? = none->A.handled=none/\∀ h' e,Heap.ExtBut nx s.heap h'->(∃ o,h'.get? e=some o/\o.cls=.type "StopIteration")->E (.ref e) { s with heap:=h' }):wpAny (model prog w) A (yM (.ref nx)) Q E s:=by
 obtain ⟨ob,eb,cb,db⟩:=id hi
 obtain ⟨ot,et,_,nt,dt⟩:=ht
 refine wB (xZ (name:=gI "__next__") hi.typeIs TH (vV TH hi.typeIs F.entry_tuple_iterator_next ?_ (F.args_tuple_iterator_next_1 _)))
 refine wB (WD (a:=(.ref nx,[])) rfl (wB (fP eb db (x:=.ref tu) rfl (vA (fun z=>absurd z wU) fun _=>wB (fP eb db (x:=.int i 0) rfl (wB (uI et dt ?_)))))))
 simp only [yD]
 cases e:its[i]? with
 | some y=>
  refine wB (wpAny_setField eb db (by simp) (wI ⟨y,rfl,wI (yes y _ e ⟨_,kH _ eb (Obj.isFreed_of_fields (Obj.data_mapFields db _)),(Obj.cls_mapFields ..).trans cb,?_⟩ (xN ..))⟩))
  rw [Obj.data_mapFields db]
  simp [rawInt]
 | none=>
  obtain ⟨calm,over⟩:=no e
  exact wB (fI (wB (wpAny_setField eb db (by simp) (qMV calm fun h' x old new=>over h' x (fun b o n y=>old b o ((xN ..).extBut b o n y)) new))))
end
theorem qLp {prog:Program} {w:World} {A:Around} (hh:A.handled=none) (nx tu:Addr) (hne:tu≠nx) (its:Array Value) :
  Draws prog w A nx [nx,tu] its.size (fun i v=>its[i]? = some v) (fun i h=>h.IsTupleIter nx tu i/\h.IsTuple tu its) where
 live:=fun _ _ st=>by obtain ⟨o,ho,_⟩:=st.1; exact ⟨o,ho⟩
 frame:=fun _ _ _ st hk=>⟨st.1.at fun o e=>hk nx (by simp) o e,by obtain ⟨o,e,r⟩:=st.2; exact ⟨o,hk tu (by simp) o e,r⟩⟩
 item:=fun i s Q E hi st k=>nextT st.1 st.2 (no:=fun z=>absurd z (by simp [hi])) (yes:=fun y h' ey g1 g2=>k y h' s.toks ey ⟨g1,by obtain ⟨o,e,r⟩:=st.2; exact ⟨o,g2.extBut tu o hne e,r⟩⟩ g2)
 done:=fun s Q E st k=>nextT st.1 st.2 (yes:=fun y _ ey=>absurd ey (by simp)) (no:=fun _=>⟨hh,k⟩)
structure ZA (z TI TO i1 i2:Addr) (f1 f2:List Addr):Prop where
 tz:TI≠z
 oz:TO≠z
 az:i1≠z
 bz:i2≠z
 tO:TI≠TO
 ta:TI≠i1
 tb:TI≠i2
 oa:TO≠i1
 ob:TO≠i2
 ab:i1≠i2
 zf1:z∉f1
 zf2:z∉f2
 of1:TO∉f1
 of2:TO∉f2
 af2:i1∉f2
 bf1:i2∉f1
end L2
namespace L2
open PySem PyProof.Rows
noncomputable def Kept (l:List Addr) (h h':Heap):Prop:=∀ b o,b∉l->h.get? b=some o->h'.get? b=some o
theorem Kept.then {l m:List Addr} {h h' h'':Heap} (x:Kept l h h') (y:Kept m h' h''):Kept (l++m) h h'':=fun b o n z=>y b o (fun q=>n (zH _ q)) (x b o (fun q=>n (vL _ q)) z)
theorem Kept.one {a:Addr} {h h':Heap} (x:uL a h h'):Kept [a] h h':=fun b o n z=>x.extBut b o (fun q=>n (q ▸ zG.mpr rfl)) z
theorem Kept.past {a:Addr} {h h':Heap} (x:qAC a h h'):Kept [a] h h':=fun b o n z=>x b o (fun q=>n (q ▸ zG.mpr rfl)) z
theorem Kept.new (h:Heap) (o:Obj):Kept [] h (h.push o):=fun _ _ _ z=>wG o z
theorem Kept.sub {l m:List Addr} {h h':Heap} (x:Kept l h h') (s:∀ a∈l,a∈m):Kept m h h':=fun b o n z=>x b o (fun q=>n (s b q)) z
noncomputable def qJb (u0 u1:Value):Prop:=(u0=.none\/∃ a:Nat,u0=rawInt a)/\∃ b,u1=.bool b
noncomputable abbrev Zf (h:Heap) (z TI TO:Addr) (u0 u1:Value):Prop:=Fo h "zip" z #[u0,u1,.bool false,.ref TI,.ref TO]
section
variable {prog:Program} {w:World} {A:Around} {E:Value->Shared->Prop} {s:Shared} {z TI TO i1 i2:Addr} {f1 f2:List Addr} {n1 n2:Nat} {P1 P2:Nat->Value->Prop} {S1 S2:Nat->Heap->Prop}
theorem held? {u0 u1:Value} {Q:Bool->Shared->Prop} (own:qJb u0 u1) (o:Zf s.heap z TI TO u0 u1) (yes:Q true s) (no:u0≠.none->∀ h' g0,qJb g0 (.bool true)->Zf h' z TI TO g0 (.bool true)->qAC z s.heap h'->h'.objs.size=s.heap.objs.size->Q false { s with heap:=h' }):wpAny (model prog w) A (Builtin.SmallTypes.ownedTupleIsFree (.ref z)) Q E s:=by
 refine ask (k:=0) o rfl ?_
 obtain ⟨rfl | ⟨b,rfl⟩,c,rfl⟩:=own
 ·exact wI yes
 refine alive (b:=b) ?_
 cases s.heap.get? b with
 | none=>exact wI yes
 | some _=>
  cases c with
  | true=>
   refine ask (k:=1) (x:=.bool true) o rfl (vA (fun q=>absurd q (by decide)) fun _=>wI ?_)
   exact no (fun q=>by cases q) s.heap (rawInt b) ⟨.inr ⟨b,rfl⟩,true,rfl⟩ o (qAC.refl _ _) rfl
  | false=>
   refine ask (k:=1) (x:=.bool false) o rfl (vA (fun _=>?_) fun q=>absurd (by decide) q)
   exact put o (show 1<5 by decide) fun h' o' k' z'=>wI (no (fun q=>by cases q) h' (rawInt b) ⟨.inr ⟨b,rfl⟩,true,rfl⟩ o' k' z')
theorem qHH {i:Nat} {c d u0 u1:Value} {Q:Value->Shared->Prop} (X1:Draws prog w A i1 f1 n1 P1 S1) (X2:Draws prog w A i2 f2 n2 P2 S2) (Z:ZA z TI TO i1 i2 f1 f2) (l1:i<n1) (l2:i<n2)
  (o:Zf s.heap z TI TO u0 u1) (own:qJb u0 u1) (hI:IsPair s.heap TI (.ref i1) (.ref i2)) (hO:IsPair s.heap TO c d) (g1:S1 i s.heap) (g2:S2 i s.heap)
  (K:∀ h' t x y v0 v1,P1 i x->P2 i y->qJb v0 v1->Zf h' z TI TO v0 v1->(u0=.none->v0=rawInt s.heap.objs.size/\v1=.bool false/\IsPair h' TO x y)->(∃ c d,IsPair h' TO c d)->S1 (i+1) h'->S2 (i+1) h'->IsPair h' s.heap.objs.size x y->h'.objs.size=s.heap.objs.size+1->Kept [z,TO,i1,i2] s.heap h'->Q (.ref s.heap.objs.size) { s with heap:=h',toks:=t }) :
  wpAny (model prog w) A (Builtin.«zip.__next__» ⟨[yJ z],[]⟩) (fun r s'=>∃ v,r=.done (.ret v)/\Q v s') E s:=by
 have away:∀{l f:List Addr},(∀ a∈l,a∉f)->∀{h h':Heap},Kept l h h'->∀ b∈f,∀ u,h.get? b=some u->h'.get? b=some u:=fun apart _ _ k b hb u y=>k b u (fun q=>apart b q hb) y
 refine wB (WD (a:=(.ref z,[])) rfl (ask (k:=2) o rfl (ask (k:=3) o rfl (wB (uI hI rfl (vA (fun q=>absurd q (by simp)) fun _=>wB (held? own o ?_ fun nn h0 v0 own' o0 k0 z0=>?_)))))))
 ·refine vA (fun _=>wB (fI (ask (k:=4) o rfl (put (k:=0) o (show 0<5 by decide) fun ha oa ka za=>wB ?_)))) fun q=>absurd rfl q
  simp only [UA,uB,List.zipIdx_nil,fG]
  have a1:S1 i ha:=X1.frame _ _ _ g1 (away (by simp [Z.zf1]) (.past ka))
  have a2:S2 i ha:=X2.frame _ _ _ g2 (away (by simp [Z.zf2]) (.past ka))
  refine wB (wB (fX (wB (m:=yM (.ref i1)) (X1.item i { s with heap:=ha } _ _ l1 a1 fun x hb t px b1 sb=>wI ?_))))
  have kb:Kept [i1] ha hb:=.one sb
  have Ob:IsPair hb TO c d:=((Kept.past ka).then kb) TO _ (by simp [Z.oz,Z.oa]) hO
  refine wB (uI Ob rfl (wB (WG Ob fun hc Oc sc=>wB (wpAny_letGo (wI ?_)))))
  have kc:Kept ([i1]++[TO]) ha hc:=kb.then (.one sc)
  have c2:S2 i hc:=X2.frame _ _ _ a2 (away (by simp [Z.af2,Z.of2]) kc)
  refine wB (wB (fX (wB (m:=yM (.ref i2)) (X2.item i { s with heap:=hc,toks:=t } _ _ l2 c2 fun y hd t2 py d2 sd=>wI ?_))))
  have Od:IsPair hd TO x d:=sd.extBut TO _ Z.ob Oc
  refine wB (uI Od rfl (wB (WG Od fun he Oe se=>wB (wpAny_letGo (wI (wI ?_))))))
  have ke:Kept ([i1]++[TO]++[i2]++[TO]) ha he:=(kc.then (.one sd)).then (.one se)
  have e1:S1 (i+1) he:=X1.frame _ _ _ b1 (away (l:=[TO]++[i2]++[TO]) (by simp [Z.of1,Z.bf1]) (((Kept.one sc).then (.one sd)).then (.one se)))
  have e2:S2 (i+1) he:=X2.frame _ _ _ d2 (away (by simp [Z.of2]) (.one se))
  have ze:he.objs.size=s.heap.objs.size:=se.1.trans (sd.1.trans (sc.1.trans (sb.1.trans za)))
  have oe:Zf he z TI TO .ellipsis u1:=ke z _ (by simp [Z.oz.symm,Z.az.symm,Z.bz.symm]) oa
  have zl:z<he.objs.size:=zQ oe
  refine wB (uI Oe rfl (wB (TJ (wB (put (s:={ s with heap:=he.push { cls:=.type "tuple",data:=.seq #[x,y] },toks:=t2 }) (k:=0) (wG _ oe) (show 0<5 by decide) fun hg og kg zg=>qMR (k:=1) og (show 1<5 by decide) fun hk ok kk zk=>wI ⟨_,rfl,?_⟩)) (by show 2<=sizeLine; decide))))
  have up:Kept [z] he hk:=fun b u n q=>kk b u (fun e=>n (e ▸ zG.mpr rfl)) (kg b u (fun e=>n (e ▸ zG.mpr rfl)) (wG _ q))
  have T:IsPair hk he.objs.size x y:=kk _ _ (gY zl) (kg _ _ (gY zl) (zL he rfl))
  have sz:hk.objs.size=he.objs.size+1:=zk.trans (zg.trans (kN ..))
  have Ok:IsPair hk TO x y:=up TO _ (by simp [Z.oz]) Oe
  show Q (.ref he.objs.size) _
  rw [ze] at T sz ⊢
  refine K hk t2 x y _ _ px py ⟨.inr ⟨he.objs.size,rfl⟩,false,rfl⟩ ok (fun _=>⟨by rw [ze],rfl,Ok⟩) ⟨_,_,Ok⟩ (X1.frame _ _ _ e1 (away (by simp [Z.zf1]) up)) (X2.frame _ _ _ e2 (away (by simp [Z.zf2]) up)) T sz ((((Kept.past ka).then ke).then up).sub ?_)
  simp only [zR,zG]
  rintro a h
  simp only [wW,zP,or_false]
  rcases h with (rfl | (((rfl | rfl) | rfl) | rfl)) | rfl <;> simp
 ·refine vA (fun q=>absurd q (by decide)) fun _=>wB ?_
  rw [<- kB]; simp only [uB,fG]
  have a1:S1 i h0:=X1.frame _ _ _ g1 (away (by simp [Z.zf1]) (.past k0))
  have a2:S2 i h0:=X2.frame _ _ _ g2 (away (by simp [Z.zf2]) (.past k0))
  refine wB (wB (vP (wB (m:=yM (.ref i1)) (X1.item i { s with heap:=h0 } _ _ l1 a1 fun x hb t px b1 sb=>wI (wI ?_)))))
  have b2:S2 i hb:=X2.frame _ _ _ a2 (away (by simp [Z.af2]) (.one sb))
  refine wB (wB (vP (wB (m:=yM (.ref i2)) (X2.item i { s with heap:=hb,toks:=t } _ _ l2 b2 fun y hd t2 py d2 sd=>wI (wI (wI ?_))))))
  refine wB (TJ (wI ⟨_,rfl,?_⟩) (by show 2<=sizeLine; decide))
  have kd:Kept ([z]++[i1]++[i2]) s.heap hd:=((Kept.past k0).then (.one sb)).then (.one sd)
  have zd:hd.objs.size=s.heap.objs.size:=sd.1.trans (sb.1.trans z0)
  have od:Zf hd z TI TO v0 (.bool true):=((Kept.one sb).then (.one sd)) z _ (by simp [Z.az.symm,Z.bz.symm]) o0
  have d1:S1 (i+1) hd:=X1.frame _ _ _ b1 (away (by simp [Z.bf1]) (.one sd))
  have Od:IsPair hd TO c d:=kd TO _ (by simp [Z.oz,Z.oa,Z.ob]) hO
  have new:Kept [] hd (hd.push { cls:=.type "tuple",data:=.seq #[x,y] }):=.new _ _
  have T:IsPair (hd.push { cls:=.type "tuple",data:=.seq #[x,y] }) hd.objs.size x y:=zL hd rfl
  show Q (.ref hd.objs.size) _
  rw [zd] at T ⊢
  refine K _ t2 x y _ _ px py own' (new z _ (by simp) od) (fun q=>absurd q nn) ⟨_,_,new TO _ (by simp) Od⟩ (X1.frame _ _ _ d1 (away (by simp) new)) (X2.frame _ _ _ d2 (away (by simp) new)) T (by rw [kN,zd]) ((kd.then new).sub ?_)
  simp only [zR,zG]
  rintro a h
  simp only [wW,zP,or_false] at h ⊢
  rcases h with (rfl | rfl) | rfl <;> simp
theorem qG6 {i:Nat} {c d u0 u1:Value} {Q:Fin->Shared->Prop} (X1:Draws prog w A i1 f1 n1 P1 S1) (X2:Draws prog w A i2 f2 n2 P2 S2) (Z:ZA z TI TO i1 i2 f1 f2) (l:i=n1\/(i<n1/\i=n2))
  (o:Zf s.heap z TI TO u0 u1) (own:qJb u0 u1) (hI:IsPair s.heap TI (.ref i1) (.ref i2)) (hO:IsPair s.heap TO c d) (g1:S1 i s.heap) (g2:S2 i s.heap)
  (K:∀ h' t e,Kept [z,TO,i1,i2] s.heap h'->(∃ o,h'.get? e=some o/\o.cls=.type "StopIteration")->E (.ref e) { s with heap:=h',toks:=t }):wpAny (model prog w) A (Builtin.«zip.__next__» ⟨[yJ z],[]⟩) Q E s:=by
 have away:∀{l f:List Addr},(∀ a∈l,a∉f)->∀{h h':Heap},Kept l h h'->∀ b∈f,∀ u,h.get? b=some u->h'.get? b=some u:=fun apart _ _ k b hb u y=>k b u (fun q=>apart b q hb) y
 have ext:∀{a:Addr} {h h':Heap},Heap.ExtBut a h h'->Kept [a] h h':=fun x=>.past x
 refine wB (WD (a:=(.ref z,[])) rfl (ask (k:=2) o rfl (ask (k:=3) o rfl (wB (uI hI rfl (vA (fun q=>absurd q (by simp)) fun _=>wB (held? own o ?_ fun nn h0 v0 own' o0 k0 z0=>?_)))))))
 ·refine vA (fun _=>wB (fI (ask (k:=4) o rfl (put (k:=0) o (show 0<5 by decide) fun ha oa ka za=>wB ?_)))) fun q=>absurd rfl q
  simp only [UA,uB,List.zipIdx_nil,fG]
  have a1:S1 i ha:=X1.frame _ _ _ g1 (away (by simp [Z.zf1]) (.past ka))
  have a2:S2 i ha:=X2.frame _ _ _ g2 (away (by simp [Z.zf2]) (.past ka))
  have shut:∀{hx:Heap} {t:Nat} {e:Addr} {m:List Addr},Kept m ha hx->z∉m->(∀ a∈m,a∈[z,TO,i1,i2])->(∃ o,hx.get? e=some o/\o.cls=.type "StopIteration")->wpAny (model prog w) A (setField (.ref z) 0 .none) (fun _ s''=>E (.ref e) s'') E { s with heap:=hx,toks:=t }:=fun {hx t e m} km nz sub ⟨u,hu,cu⟩=>by
   have ox:Zf hx z TI TO .ellipsis u1:=km z _ nz oa
   have ez:e≠z:=fun q=>by rw [q,ox] at hu; cases hu; simp at cu
   refine qMR ox (show 0<5 by decide) fun hy _ ky _=>K hy t e ((((Kept.past ka).then km).then (.past ky)).sub ?_) ⟨u,ky e u ez hu,cu⟩
   intro a h
   obtain h | h:=zR.mp h
   ·obtain h | h:=zR.mp h
    ·simp [zG.mp h]
    ·exact sub a h
   ·simp [zG.mp h]
  rcases l with rfl | ⟨l,rfl⟩
  ·exact wB (wB (fX (wB (m:=yM (.ref i1)) (X1.done { s with heap:=ha } _ _ a1 fun hb e sb stop=>shut (ext sb) (by simp [Z.az.symm]) (by simp) stop))))
  ·refine wB (wB (fX (wB (m:=yM (.ref i1)) (X1.item i { s with heap:=ha } _ _ l a1 fun x hb t px b1 sb=>wI ?_))))
   have Ob:IsPair hb TO c d:=((Kept.past ka).then (.one sb)) TO _ (by simp [Z.oz,Z.oa]) hO
   refine wB (uI Ob rfl (wB (WG Ob fun hc Oc sc=>wB (wpAny_letGo (wI ?_)))))
   have kc:Kept ([i1]++[TO]) ha hc:=(Kept.one sb).then (.one sc)
   have c2:S2 i hc:=X2.frame _ _ _ a2 (away (by simp [Z.af2,Z.of2]) kc)
   exact wB (wB (fX (wB (m:=yM (.ref i2)) (X2.done { s with heap:=hc,toks:=t } _ _ c2 fun hd e sd stop=>shut (kc.then (ext sd)) (by simp [Z.oz.symm,Z.az.symm,Z.bz.symm]) (by simp) stop))))
 ·refine vA (fun q=>absurd q (by decide)) fun _=>wB ?_
  rw [<- kB]; simp only [uB,fG]
  have a1:S1 i h0:=X1.frame _ _ _ g1 (away (by simp [Z.zf1]) (.past k0))
  have a2:S2 i h0:=X2.frame _ _ _ g2 (away (by simp [Z.zf2]) (.past k0))
  rcases l with rfl | ⟨l,rfl⟩
  ·exact wB (wB (vP (wB (m:=yM (.ref i1)) (X1.done { s with heap:=h0 } _ _ a1 fun hb e sb stop=>K hb s.toks e (((Kept.past k0).then (ext sb)).sub (by simp)) stop))))
  ·refine wB (wB (vP (wB (m:=yM (.ref i1)) (X1.item i { s with heap:=h0 } _ _ l a1 fun x hb t px b1 sb=>wI (wI ?_)))))
   have b2:S2 i hb:=X2.frame _ _ _ a2 (away (by simp [Z.af2]) (.one sb))
   exact wB (wB (vP (wB (m:=yM (.ref i2)) (X2.done { s with heap:=hb,toks:=t } _ _ b2 fun hd e sd stop=>K hd t e ((((Kept.past k0).then (.one sb)).then (ext sd)).sub (by simp)) stop))))
end
end L2
namespace L2
open PySem PySem.Spec PyProof.Rows
section
variable {prog:Program} {w:World} {A:Around} {E:Value->Shared->Prop} {s:Shared} {z TI TO i1 i2:Addr} {f1 f2:List Addr} {n1 n2:Nat} {P1 P2:Nat->Value->Prop} {S1 S2:Nat->Heap->Prop}
theorem Kept.four {h h':Heap} (k:Kept [z,TO,i1,i2] h h'):∀ b o,b≠z->b≠TO->b≠i1->b≠i2->h.get? b=some o->h'.get? b=some o:=fun b o c1 c2 c3 c4 y=>k b o (by simp [c1,c2,c3,c4]) y
theorem qC3 {i:Nat} {c d u0 u1:Value} {Q:Option Value->Shared->Prop} (X1:Draws prog w A.in1 i1 f1 n1 P1 S1) (X2:Draws prog w A.in1 i2 f2 n2 P2 S2) (Z:ZA z TI TO i1 i2 f1 f2) (o:Zf s.heap z TI TO u0 u1) (own:qJb u0 u1) (hI:IsPair s.heap TI (.ref i1) (.ref i2)) (hO:IsPair s.heap TO c d) (g1:S1 i s.heap) (g2:S2 i s.heap)
  (more:i<n1->i<n2->∀ h' t x y v0 v1,P1 i x->P2 i y->qJb v0 v1->Zf h' z TI TO v0 v1->(u0=.none->v0=rawInt s.heap.objs.size/\v1=.bool false/\IsPair h' TO x y)->(∃ c d,IsPair h' TO c d)->S1 (i+1) h'->S2 (i+1) h'->IsPair h' s.heap.objs.size x y->h'.objs.size=s.heap.objs.size+1->Kept [z,TO,i1,i2] s.heap h'->Q (some (.ref s.heap.objs.size)) { s with heap:=h',toks:=t })
  (over:¬ (i<n1/\i<n2)->∀ h' t,Kept [z,TO,i1,i2] s.heap h'->Q none { s with heap:=h',toks:=t }) (le:i<=n1/\(i<n1->i<=n2)):wpAny (model prog w) A (pyNext (yJ z)) Q E s:=by
 have ty:s.TypeIs (.ref z) "zip":=⟨_,o,rfl⟩
 refine wB (WM (xZ (name:=gI "__next__") ty F.slot_zip_next (vV F.slot_zip_next ty F.entry_zip_next ?_ (F.args_zip_next_1 _))))
 by_cases both:i<n1/\i<n2
 ·exact qHH X1 X2 Z both.1 both.2 o own hI hO g1 g2 fun h' t x y v0 v1 a1 a2 a3 a4 a5 a6 a7 a8 a9 b1 b2=>wI (more both.1 both.2 h' t x y v0 v1 a1 a2 a3 a4 a5 a6 a7 a8 a9 b1 b2)
 ·exact qG6 X1 X2 Z ((Nat.lt_or_ge i n1).elim (fun q=>.inr ⟨q,uC (le.2 q) (vH fun y=>both ⟨q,y⟩)⟩) fun q=>.inl (uC le.1 q)) o own hI hO g1 g2 fun h' t e kk ⟨u,hu,cu⟩=>wB (UB (T:="StopIteration") (b:=true) ⟨u,hu,cu⟩ isSubtype_stop (wI (over both h' t kk)))
theorem qCL {i:Nat} {c d:Value} {Q:Option Value->Shared->Prop} (X1:Draws prog w A.in1 i1 f1 n1 P1 S1) (X2:Draws prog w A.in1 i2 f2 n2 P2 S2) (Z:ZA z TI TO i1 i2 f1 f2) (l1:i<n1) (l2:i<n2)
  (hz:IsZip s.heap z TI TO .none) (hI:IsPair s.heap TI (.ref i1) (.ref i2)) (hO:IsPair s.heap TO c d) (g1:S1 i s.heap) (g2:S2 i s.heap)
  (k:∀ h' tk x y,P1 i x->P2 i y->IsZip h' z TI TO (rawInt s.heap.objs.size)->IsPair h' TO x y->S1 (i+1) h'->S2 (i+1) h'->IsPair h' s.heap.objs.size x y->h'.objs.size=s.heap.objs.size+1->
   (∀ b o,b≠z->b≠TO->b≠i1->b≠i2->s.heap.get? b=some o->h'.get? b=some o)->Q (some (.ref s.heap.objs.size)) { s with heap:=h',toks:=tk }):wpAny (model prog w) A (pyNext (yJ z)) Q E s:=by
 refine qC3 X1 X2 Z hz ⟨.inl rfl,false,rfl⟩ hI hO g1 g2 (fun _ _ h' t x y v0 v1 a1 a2 _ a4 a5 _ a7 a8 a9 b1 b2=>?_) (fun q=>absurd ⟨l1,l2⟩ q) ⟨vR l1,fun _=>vR l2⟩
 obtain ⟨rfl,rfl,o⟩:=a5 rfl
 exact k h' t x y a1 a2 a4 o a7 a8 a9 b1 b2.four
theorem qEL {i:Nat} {c d:Value} {Q:Option Value->Shared->Prop} (X1:Draws prog w A.in1 i1 f1 n1 P1 S1) (X2:Draws prog w A.in1 i2 f2 n2 P2 S2) (Z:ZA z TI TO i1 i2 f1 f2) (l:i=n1\/(i<n1/\i=n2))
  (hz:IsZip s.heap z TI TO .none) (hI:IsPair s.heap TI (.ref i1) (.ref i2)) (hO:IsPair s.heap TO c d) (g1:S1 i s.heap) (g2:S2 i s.heap)
  (k:∀ h' tk,(∀ b o,b≠z->b≠TO->b≠i1->b≠i2->s.heap.get? b=some o->h'.get? b=some o)->Q none { s with heap:=h',toks:=tk }):wpAny (model prog w) A (pyNext (.ref z)) Q E s:=
 qC3 X1 X2 Z hz ⟨.inl rfl,false,rfl⟩ hI hO g1 g2 (fun q1 q2=>l.elim (fun z=>absurd q1 (z ▸ vO _)) fun z=>absurd q2 (z.2 ▸ vO _)) (fun _ h' t kk=>k h' t kk.four) (l.elim (fun z=>⟨xB z,fun q=>absurd q (z ▸ vO _)⟩) fun z=>⟨vR z.1,fun _=>xB z.2⟩)
end
structure ZD (z TI TO i1 i2:Addr):Prop where
 tz:TI≠z
 oz:TO≠z
 az:i1≠z
 bz:i2≠z
 tO:TI≠TO
 ta:TI≠i1
 tb:TI≠i2
 oa:TO≠i1
 ob:TO≠i2
 ab:i1≠i2
noncomputable def ZSt (z TI TO i1 i2 l1 l2:Addr) (i:Nat) (h:Heap):Prop:=IsZip h z TI TO .none/\IsPair h TI (.ref i1) (.ref i2)/\(∃ a b,IsPair h TO a b)/\h.IsTupleIter i1 l1 i/\h.IsTupleIter i2 l2 i
theorem ZD.za {z TI TO i1 i2 l1 l2:Addr} (D:ZD z TI TO i1 i2) {H:Hp} (hf:∀ b∈[z,TI,TO,i1,i2],H b=none) {o1 o2:HO} (h1:H l1=some o1) (h2:H l2=some o2):ZA z TI TO i1 i2 [i1,l1] [i2,l2]:=by
 have n1:∀ b∈[z,TI,TO,i1,i2],b≠l1:=fun b hb q=>by subst q; rw [hf b hb] at h1; cases h1
 have n2:∀ b∈[z,TI,TO,i1,i2],b≠l2:=fun b hb q=>by subst q; rw [hf b hb] at h2; cases h2
 refine ⟨D.tz,D.oz,D.az,D.bz,D.tO,D.ta,D.tb,D.oa,D.ob,D.ab,?_,?_,?_,?_,?_,?_⟩ <;> simp only [wW,zP,or_false,not_or]
 ·exact ⟨D.az.symm,n1 z (by simp)⟩
 ·exact ⟨D.bz.symm,n2 z (by simp)⟩
 ·exact ⟨D.oa,n1 TO (by simp)⟩
 ·exact ⟨D.ob,n2 TO (by simp)⟩
 ·exact ⟨D.ab,n2 i1 (by simp)⟩
 ·exact ⟨D.ab.symm,n1 i2 (by simp)⟩
noncomputable abbrev zA (h:Heap) (l1:Addr):Heap:=h.push { cls:=.type "tuple_iterator",data:=.fields #[.ref l1,.int 0 0] }
noncomputable abbrev zB (h:Heap) (l1 l2:Addr):Heap:=(zA h l1).push { cls:=.type "tuple_iterator",data:=.fields #[.ref l2,.int 0 0] }
noncomputable abbrev zC (h:Heap) (l1 l2:Addr):Heap:=(zB h l1 l2).push { cls:=.type "tuple",data:=.seq #[.ref h.objs.size,.ref (zA h l1).objs.size] }
noncomputable abbrev zD (h:Heap) (l1 l2:Addr):Heap:=(zC h l1 l2).push { cls:=.type "tuple",data:=.seq #[.none,.none] }
noncomputable abbrev zE (h:Heap) (l1 l2:Addr):Heap:=(zD h l1 l2).push { cls:=.type "zip",data:=.fields #[.none,.bool false,.bool false,.ref (zB h l1 l2).objs.size,.ref (zC h l1 l2).objs.size] }
theorem qIw (l1 l2:Addr) (xs ys:Array Value) :
  Meets (Builtin.«zip.__new__» ⟨[.type "zip",.ref l1,.ref l2],[]⟩) (fun _ R s=>s.heap.IsTuple l1 xs/\s.heap.IsTuple l2 ys/\R (.ok (.ret (.ref (zD s.heap l1 l2).objs.size))) { s with heap:=zE s.heap l1 l2 }):=
 .of_wp fun prog w A R s hall=>by
  obtain ⟨hp,g,d,tk,os⟩:=s; obtain ⟨t1,t2,h⟩:=hall
  have hsub:=sub_zip
  have hL1:Heap.IsTuple (Shared.heap ⟨hp,g,d,tk,os⟩) l1 xs:=t1
  have hL2:Heap.IsTuple (Shared.heap ⟨hp.push { cls:=.type "tuple_iterator",data:=.fields #[.ref l1,.int 0 0] },g,d,tk,os⟩) l2 ys:=by
   obtain ⟨o,e,r⟩:=t2; exact ⟨o,wG _ e,r⟩
  wp_walk using WW hL1,WW hL2
  exact ⟨_,rfl,h⟩
section
variable {w:World} {prog:Program} {A:Around} {s:Shared} {E:Value->Shared->Prop}
theorem qFO {l1 l2:Addr} {xs ys:Array Value} {Q:Value->Shared->Prop} (t1:s.heap.IsTuple l1 xs) (t2:s.heap.IsTuple l2 ys)
  (k:∀ h' z TI TO i1 i2,ZD z TI TO i1 i2->ZSt z TI TO i1 i2 l1 l2 0 h'->(∀ b∈[z,TI,TO,i1,i2],s.heap.objs.size<=b)->(∀ c o,s.heap.get? c=some o->h'.get? c=some o)->Q (.ref z) { s with heap:=h' }) :
  wpAny (model prog w) A (call (Value.type "zip") [.ref l1,.ref l2]) Q E s:=by
 refine callType_new F.called_zip (by decide) (F.typeCall_zip_2 _ _) (F.newCall_zip_2 _ _) (fun obj=>F.args_object_init_3 obj _ _) F.entry_zip_new (qIw l1 l2 xs ys) ⟨t1,t2,?_⟩
 generalize hn:s.heap.objs.size=n
 have e1:(zA s.heap l1).objs.size=n+1:=by rw [kN,hn]
 have e2:(zB s.heap l1 l2).objs.size=n+2:=by rw [kN,e1]
 have e3:(zC s.heap l1 l2).objs.size=n+3:=by rw [kN,e2]
 have e4:(zD s.heap l1 l2).objs.size=n+4:=by rw [kN,e3]
 have g5:(zE s.heap l1 l2).get? (zD s.heap l1 l2).objs.size=some _:=zL _ rfl
 have g4:(zE s.heap l1 l2).get? (zC s.heap l1 l2).objs.size=some _:=wG _ (zL _ rfl)
 have g3:(zE s.heap l1 l2).get? (zB s.heap l1 l2).objs.size=some _:=wG _ (wG _ (zL _ rfl))
 have g2:(zE s.heap l1 l2).get? (zA s.heap l1).objs.size=some _:=wG _ (wG _ (wG _ (zL _ rfl)))
 have g1:(zE s.heap l1 l2).get? s.heap.objs.size=some _:=wG _ (wG _ (wG _ (wG _ (zL _ rfl))))
 refine ⟨⟨_,g5,rfl⟩,k _ _ (zB s.heap l1 l2).objs.size (zC s.heap l1 l2).objs.size s.heap.objs.size (zA s.heap l1).objs.size ?_ ⟨g5,g3,⟨_,_,g4⟩,⟨_,g1,rfl,rfl⟩,⟨_,g2,rfl,rfl⟩⟩ ?_ fun c o q=>wG _ (wG _ (wG _ (wG _ (wG _ q))))⟩
 ·rw [e1,e2,e3,e4,hn]
  have ne:∀ a b:Nat,a≠b->n+a≠n+b:=fun a b h q=>h (Nat.add_left_cancel q)
  exact ⟨ne 2 4 (by decide),ne 3 4 (by decide),ne 0 4 (by decide),ne 1 4 (by decide),ne 2 3 (by decide),ne 2 0 (by decide),ne 2 1 (by decide),ne 3 0 (by decide),ne 3 1 (by decide),ne 0 1 (by decide)⟩
 ·rw [e1,e2,e3,e4,hn]
  intro b hb
  simp only [zP,wW,or_false] at hb
  rcases hb with q | q | q | q | q <;> rw [q] <;> first | exact yS _ _ | exact wH _
end
end L2
namespace L2
open PySem PySem.Spec PyProof.Rows PySem.SeqAt
open PySem.AutoSeq1 (wpAny_loadPart')
section
variable {X:Cx}
theorem qK6 {its:List Value} {ds:List D} {e:Value->Bool} {d:D}:∀{its:List Value} {ds:List D},its.length=ds.length->(∀(j:Nat) (w:Value) (c:D),its[j]? = some w->ds[j]? = some c->e w=dEq c d)->its.countP e=ds.countP fun c=>dEq c d
 | [],[],_,_=>rfl
 | [],_::_,h,_=>absurd h (by simp)
 | _::_,[],h,_=>absurd h (by simp)
 | w::its,c::ds,h,k=>by
  rw [List.countP_cons,List.countP_cons,k 0 w c rfl rfl,qK6 (its:=its) (ds:=ds) (by simpa using h) fun j a b h1 h2=>k (j+1) a b (by simpa using h1) (by simpa using h2)]
theorem Y9 (j:Int):gF 0 j 1=j.toNat:=by
 delta gF
 by_cases h:0<j
 ·rw [if_pos (by decide),if_pos h]; omega
 ·rw [if_pos (by decide),if_neg h]; omega
theorem qGE {n:Nat} {acc:Array Value} (h:ItemsOf (fun i v=>∃ t,v=.int (0+i*1) t) acc n):ql ((wV n).map fun k:Nat=>V.int k) acc.toList:=by
 obtain ⟨h1,h2⟩:=h
 have key:∀(m:Nat) (l:List Value) (c:Nat),l.length=m->(∀ j v,l[j]? = some v->∃ t,v=ZE ((c+j:Nat):Int) t)->ql ((List.range' c m).map fun k:Nat=>V.int k) l:=by
  intro m
  induction m with
  | zero=>intro l c hl _; cases gG.mp hl; exact .nil
  | succ m ih=>
   intro l c hl hv
   cases l with
   | nil=>simp at hl
   | cons v l=>
    rw [List.range'_succ,xH]
    obtain ⟨t,e⟩:=hv 0 v rfl
    refine .cons ⟨t,by rw [e]; rfl⟩ (ih l (c+1) (by simpa using hl) fun j w hw=>?_)
    obtain ⟨t,e⟩:=hv (j+1) w (by simpa using hw)
    exact ⟨t,by rw [e]; congr 2; omega⟩
 rw [List.range_eq_range']
 refine key n acc.toList 0 (by simpa using h1) fun j v hj=>?_
 obtain ⟨t,e⟩:=h2 j v (by simpa using hj)
 exact ⟨t,by rw [e]; congr 1; omega⟩
noncomputable def qGd:List V->Hp->VK->Prop:=fun xs H Q=>∃ j:Int,xs=[.int j]/\∀ p,H p=none->Q (.ref p) (upd H p (.rng 0 j))
theorem Yx:Qw X (.type "range") qGd:=by
 intro pins s σ H xs us Q I r h
 obtain ⟨j,rfl,q⟩:=h
 obtain ⟨u,rfl,ru⟩:=vals1 r
 obtain ⟨t,rfl⟩:=ru
 refine call_range_1 ?_
 refine ⟨.ref s.heap.objs.size,_,I.laid (t':=s.toks+1+1) (o:=.rng 0 j) (fun b ob q=>wG _ q) (wH _) ?_,rfl,q _ (I.hok.fresh (wH _))⟩
 exact ⟨_,_,_,zL _ rfl⟩
noncomputable def qDe:List V->Hp->VK->Prop:=fun xs H Q=>∃(p:Addr) (j:Int),xs=[.ref p]/\H p=some (.rng 0 j)/\j<=1000/\-(2 ^ 62)<=j/\∀ l,H l=none->Q (.ref l) (upd H l (.lst ((wV j.toNat).map fun k:Nat=>V.int k)))
theorem Jg (hc:X.calm=true):Qw X (.type "list") qDe:=by
 intro pins s σ H xs us Q I r h
 obtain ⟨p,j,rfl,hp,h1,h2,q⟩:=h
 obtain ⟨u,rfl,ru⟩:=vals1 r
 cases ru
 obtain ⟨t,u',v,e⟩:=I.hok p _ hp
 have hh:X.A.handled=none:=I.ok.hd hc
 refine call_list_range (n:=j.toNat) hh e ?_ (Y9 j) (by omega) fun h' tk acc' c' hk hS hacc=>?_
 ·have hb:gF 0 j 1=j.toNat:=Y9 j
  unfold Builtin.Range.small
  rw [hb]
  simp only [Builtin.Range.rangeFitsLong,yR,Bool.or_eq_true,decide_eq_true_eq,beq_iff_eq,show ((1:Int) > 0) by decide,if_true]
  omega
 ·refine ⟨.ref s.heap.objs.size,_,I.laid (t':=tk) (o:=.lst ((wV j.toNat).map fun k:Nat=>V.int k)) hk (wH _) ?_,rfl,q _ (I.hok.fresh (wH _))⟩
  have hv:=qGE hacc
  refine ⟨?_,acc'.toList,c',hv,?_⟩
  ·rw [wC,zT]
   exact zM (by omega:j.toNat<=1000) (vR (qN (wH _)))
  ·rw [hS]
end
end L2
namespace L2
open PySem PySem.Spec PyProof.Rows
noncomputable def sIt:Bool->Heap->Addr->Addr->Nat->Prop
 | true,h,nx,l,i=>h.IsListIter nx l i
 | false,h,nx,l,i=>h.IsTupleIter nx l i
noncomputable def sSq:Bool->Heap->Addr->Array Value->Prop
 | true,h,l,its=>h.IsList l its
 | false,h,l,its=>h.IsTuple l its
noncomputable def hO:Bool->List V->HO
 | true,xs=>.lst xs
 | false,xs=>.tup xs
theorem qIR {b:Bool} {xs ys:List V} (h:hO b xs=hO b ys):xs=ys:=by
 cases b <;> (cases h; rfl)
theorem sIt.at {b:Bool} {h h':Heap} {nx l:Addr} {i:Nat} (x:sIt b h nx l i) (e:∀ o,h.get? nx=some o->h'.get? nx=some o):sIt b h' nx l i:=by
 cases b <;> (obtain ⟨o,ho,r⟩:=x; exact ⟨o,e _ ho,r⟩)
theorem sIt.obj {b:Bool} {h:Heap} {nx l:Addr} {i:Nat} (x:sIt b h nx l i):∃ o,h.get? nx=some o/\∀ v,o.data≠.cell v:=by
 cases b <;> (obtain ⟨o,ho,hc,hd⟩:=x; exact ⟨o,ho,fun v q=>by rw [hd] at q; cases q⟩)
theorem qDH (b:Bool) {prog:Program} {w:World} {A:Around} (hh:A.handled=none) (nx l:Addr) (hne:l≠nx) (its:Array Value) :
  Draws prog w A nx [nx,l] its.size (fun i v=>its[i]? = some v) (fun i h=>sIt b h nx l i/\sSq b h l its):=by
 cases b with
 | true=>exact Draws.list hh nx l hne its
 | false=>exact qLp hh nx l hne its
theorem Inv.sq {X:Cx} {pins:List (Addr×Obj)} {σ:St} {H:Hp} {s:Shared} (I:Inv X pins σ H s) {b:Bool} {l:Addr} {xs:List V} (h:H l=some (hO b xs)):∃ its:List Value,ql xs its/\sSq b s.heap l its.toArray:=by
 cases b with
 | true=>obtain ⟨its,r,pl,_⟩:=I.list (SqL.of (K:=X.K) h); exact ⟨its,r,pl.isList⟩
 | false=>obtain ⟨its,r,pl,_⟩:=I.tuple (SqT.of (K:=X.K) h); exact ⟨its,r,pl⟩
noncomputable def Itn (b:Bool) (l1 l2:Addr):It:=
 ⟨fun i H=>∃ xs ys x y,H l1=some (hO b xs)/\H l2=some (hO b ys)/\xs[i]? = some x/\ys[i]? = some y,
  fun i H v H'=>∃ T,v=.ref T/\H T=none/\∀ xs ys x y,H l1=some (hO b xs)->H l2=some (hO b ys)->xs[i]? = some x->ys[i]? = some y->H'=upd H T (.tup [x,y]),
  fun i H=>∃ xs ys,H l1=some (hO b xs)/\H l2=some (hO b ys)/\(xs.length=i\/(i<xs.length/\ys.length=i))⟩
section
variable {X:Cx}
noncomputable def qK8 (ta:TA):TI:=fun σ H R=>ta σ H fun vs H1=>∃ b l1 l2,vs=[.ref l1,.ref l2]/\(∃ xs,H1 l1=some (hO b xs))/\(∃ ys,H1 l2=some (hO b ys))/\R (Itn b l1 l2) H1
end
noncomputable def ZSb (z TI TO i1 i2:Addr) (d:Bool) (l1 l2:Addr) (i:Nat) (h:Heap):Prop:=IsZip h z TI TO .none/\IsPair h TI (.ref i1) (.ref i2)/\(∃ a c,IsPair h TO a c)/\sIt d h i1 l1 i/\sIt d h i2 l2 i
theorem ZSb.obj {z TI TO i1 i2 l1 l2:Addr} {d:Bool} {i:Nat} {h:Heap} (st:ZSb z TI TO i1 i2 d l1 l2 i h):∀ b∈[z,TI,TO,i1,i2],∃ o,h.get? b=some o/\∀ v,o.data≠.cell v:=by
 obtain ⟨g1,g2,⟨a,c,g3⟩,g4,g5⟩:=st
 intro b hb
 simp only [zP,wW,or_false] at hb
 rcases hb with rfl | rfl | rfl | rfl | rfl
 ·exact ⟨_,g1,fun v q=>by cases (show Data.fields _=SJ v from q)⟩
 ·exact ⟨_,g2,fun v q=>by cases (show Data.seq _ _=SJ v from q)⟩
 ·exact ⟨_,g3,fun v q=>by cases (show Data.seq _ _=SJ v from q)⟩
 ·exact g4.obj
 ·exact g5.obj
theorem qFe {P:Program} {w:World} {K:wK} {es:List Expr} {kx:Nat} {tp:Pos} {z TI TO i1 i2:Addr} (d:Bool) (l1 l2:Addr) (D:ZD z TI TO i1 i2) :
  Turn P w K (.Tuple es kx tp) (Itn d l1 l2) [z,TI,TO,i1,i2] z (ZSb z TI TO i1 i2 d l1 l2) where
 mem:=by simp
 obj:=fun i h st=>st.obj
 keep:=fun i h h' st kk=>by
  obtain ⟨g1,g2,⟨a,c,g3⟩,g4,g5⟩:=st
  exact ⟨kk z (by simp) _ g1,kk TI (by simp) _ g2,⟨a,c,kk TO (by simp) _ g3⟩,g4.at fun o e=>kk i1 (by simp) o e,g5.at fun o e=>kk i2 (by simp) o e⟩
 item:=by
  intro X hP hw hK hc i pins s σ H E I hf st hg
  subst hP hw hK
  obtain ⟨xs,ys,x,y,h1,h2,hx,hy⟩:=hg
  obtain ⟨it1,rv1,p1⟩:=I.sq h1
  obtain ⟨it2,rv2,p2⟩:=I.sq h2
  obtain ⟨u1,hu1,ru1⟩:=rv1.get hx
  obtain ⟨u2,hu2,ru2⟩:=rv2.get hy
  have hn:∀ b∈[z,TI,TO,i1,i2],H b=none:=fun b hb=>(hf b hb).1
  have Z:=D.za hn h1 h2
  have nl1:l1≠i1:=fun q=>by subst q; rw [hn l1 (by simp)] at h1; cases h1
  have nl2:l2≠i2:=fun q=>by subst q; rw [hn l2 (by simp)] at h2; cases h2
  have a1:i<it1.toArray.size:=by simpa using (wR.mp hu1).1
  have a2:i<it2.toArray.size:=by simpa using (wR.mp hu2).1
  obtain ⟨g1,g2,⟨a,c,g3⟩,g4,g5⟩:=id st
  have hh:X.A.in1.handled=none:=I.ok.hd hc
  refine qCL (qDH d hh i1 l1 nl1 it1.toArray) (qDH d hh i2 l2 nl2 it2.toArray) Z a1 a2 g1 g2 g3 ⟨g4,p1⟩ ⟨g5,p2⟩ fun h' tk x' y' q1 q2 q3 q4 q5 q6 q7 q8 q9=>?_
  have ex':x'=u1:=by
   have q1':it1.toArray[i]? = some x':=q1
   rw [ZY,hu1] at q1'
   exact (zS q1').symm
  have ey':y'=u2:=by
   have q2':it2.toArray[i]? = some y':=q2
   rw [ZY,hu2] at q2'
   exact (zS q2').symm
  subst ex' ey'
  have hfr:H s.heap.objs.size=none:=I.hok.fresh (wH _)
  have nch:∀ b o,s.heap.get? b=some o->b≠s.heap.objs.size:=fun b o e=>vE (zQ e)
  have kk:∀ b o,b∉[z,TO,i1,i2]->s.heap.get? b=some o->h'.get? b=some o:=fun b o hb e=>q9 b o (fun q=>hb (by simp [q])) (fun q=>hb (by simp [q])) (fun q=>hb (by simp [q])) (fun q=>hb (by simp [q])) e
  have ntr:∀ b u,H b=some u->b∉[z,TO,i1,i2]:=fun b u e hb=>by
   have:H b=none:=hn b (by simp only [wW,zP,or_false] at hb ⊢; rcases hb with q | q | q | q <;> simp [q])
   rw [this] at e
   cases e
  have I1:Inv X pins σ (upd H s.heap.objs.size (.tup [x,y])) { s with heap:=h',toks:=tk }:=by
   refine I.step (g':=s.gens) (d':=s.drawn) (ch:=[z,TO,i1,i2]) (fun b hb=>?_) (fun b o _ _ hb e _=>kk b o hb e) (fun b o _ _ hb e _=>⟨o.slots,kk b o hb e⟩) (fun b o _ e n=>by rw [qJ (nch b o e)]; exact n)
    (fun b o hb e=>⟨o,kk b o hb e⟩) (fun b xs e=>qP.new hfr _ _ e) (fun b o u e=>qP.new hfr _ _ e) (fun b ps e=>⟨#[],by rw [qP.new hfr _ _ e]; simp⟩) (fun m hm=>?_) (fun b u e=>?_) I.bare
   ·have hb':b∈[z,TI,TO,i1,i2]:=by simp only [wW,zP,or_false] at hb ⊢; rcases hb with q | q | q | q <;> simp [q]
    obtain ⟨_,f1,_,f3,f4,f5⟩:=hf b hb'
    exact ⟨f3,f1,f4,f5⟩
   ·obtain ⟨o,es',ep,ho,r⟩:=hm
    refine ⟨o,es',ep,kk _ o (fun hb=>?_) ho,r⟩
    have hb':X.env.locals∈[z,TI,TO,i1,i2]:=by simp only [wW,zP,or_false] at hb ⊢; rcases hb with q | q | q | q <;> simp [q]
    exact (hf _ hb').2.1 rfl
   ·by_cases hb:b=s.heap.objs.size
    ·subst hb
     rw [qH] at e
     cases e
     exact ⟨by show 2<=sizeLine; decide,[x',y'],.cons ru1 (.cons ru2 .nil),⟨_,q7,rfl,_,rfl⟩,fun o' e'=>by rw [q7] at e'; cases e'; rfl⟩
    ·rw [qJ hb] at e
     refine (I.hok b u e).stay (fun c' v hc' q=>kk c' v ?_ q) (fun c' q=>qP.new hfr _ _ q) fun c' xs' q=>qP.new hfr _ _ q
     rcases hc' with q0 | q0
     ·rw [q0]; exact ntr b u e
     ·exact ntr c' _ q0
  refine ⟨.ref s.heap.objs.size,rfl,wpAny_letOwnedTupleGo_zip (s:={ s with heap:=h',toks:=tk }) q3 fun h'' z'' s''=>?_⟩
  have zs:z≠s.heap.objs.size:=nch z _ g1
  obtain ⟨_,f1,_,f3,f4,f5⟩:=hf z (by simp)
  refine ⟨.ref s.heap.objs.size,upd H s.heap.objs.size (.tup [x,y]),I1.turned (it:=z) (t':=tk) (fun b o hb e=>s''.extBut b o hb e) (by rw [qJ zs]; exact hn z (by simp)) f1 f3 f4 f5,rfl,
   ⟨_,rfl,hfr,fun xs' ys' x'' y'' e1 e2 e3 e4=>?_⟩,⟨z'',s''.extBut _ _ D.tz (q9 _ _ D.tz D.tO D.ta D.tb g2),⟨_,_,s''.extBut _ _ D.oz q4⟩,q5.1.at fun o e=>s''.extBut _ o D.az e,q6.1.at fun o e=>s''.extBut _ o D.bz e⟩,fun b hb=>?_⟩
  ·rw [h1] at e1
   rw [h2] at e2
   have e1':=qIR (zS e1)
   have e2':=qIR (zS e2)
   subst e1' e2'
   rw [hx] at e3
   rw [hy] at e4
   cases e3
   cases e4
   rfl
  ·obtain ⟨o,e,_⟩:=st.obj b hb
   rw [qJ (nch b o e)]
   exact hn b hb
 done:=by
  intro X hP hw hK hc i pins s σ H E I hf st hg
  subst hP hw hK
  obtain ⟨xs,ys,h1,h2,hl⟩:=hg
  obtain ⟨it1,rv1,p1⟩:=I.sq h1
  obtain ⟨it2,rv2,p2⟩:=I.sq h2
  have hn:∀ b∈[z,TI,TO,i1,i2],H b=none:=fun b hb=>(hf b hb).1
  have Z:=D.za hn h1 h2
  have nl1:l1≠i1:=fun q=>by subst q; rw [hn l1 (by simp)] at h1; cases h1
  have nl2:l2≠i2:=fun q=>by subst q; rw [hn l2 (by simp)] at h2; cases h2
  obtain ⟨g1,g2,⟨a,c,g3⟩,g4,g5⟩:=id st
  have hh:X.A.in1.handled=none:=I.ok.hd hc
  have n1:=rv1.length
  have n2:=rv2.length
  have ll:i=it1.toArray.size\/(i<it1.toArray.size/\i=it2.toArray.size):=by
   simp only [wL]
   omega
  refine qEL (qDH d hh i1 l1 nl1 it1.toArray) (qDH d hh i2 l2 nl2 it2.toArray) Z ll g1 g2 g3 ⟨g4,p1⟩ ⟨g5,p2⟩ fun h' tk q9=>⟨rfl,?_⟩
  have kk:∀ b o,b∉[z,TO,i1,i2]->s.heap.get? b=some o->h'.get? b=some o:=fun b o hb e=>q9 b o (fun q=>hb (by simp [q])) (fun q=>hb (by simp [q])) (fun q=>hb (by simp [q])) (fun q=>hb (by simp [q])) e
  have ntr:∀ b u,H b=some u->b∉[z,TO,i1,i2]:=fun b u e hb=>by
   have:H b=none:=hn b (by simp only [wW,zP,or_false] at hb ⊢; rcases hb with q | q | q | q <;> simp [q])
   rw [this] at e
   cases e
  refine I.step (g':=s.gens) (d':=s.drawn) (t':=tk) (ch:=[z,TO,i1,i2]) (fun b hb=>?_) (fun b o _ _ hb e _=>kk b o hb e) (fun b o _ _ hb e _=>⟨o.slots,kk b o hb e⟩) (fun b o _ e n=>n)
   (fun b o hb e=>⟨o,kk b o hb e⟩) (fun b xs e=>e) (fun b o u e=>e) (fun b ps e=>⟨#[],by rw [e]; simp⟩) (fun m hm=>?_) (fun b u e=>?_) I.bare
  ·have hb':b∈[z,TI,TO,i1,i2]:=by simp only [wW,zP,or_false] at hb ⊢; rcases hb with q | q | q | q <;> simp [q]
   obtain ⟨_,f1,_,f3,f4,f5⟩:=hf b hb'
   exact ⟨f3,f1,f4,f5⟩
  ·obtain ⟨o,es',ep,ho,r⟩:=hm
   refine ⟨o,es',ep,kk _ o (fun hb=>?_) ho,r⟩
   have hb':X.env.locals∈[z,TI,TO,i1,i2]:=by simp only [wW,zP,or_false] at hb ⊢; rcases hb with q | q | q | q <;> simp [q]
   exact (hf _ hb').2.1 rfl
  ·refine (I.hok b u e).stay (fun c' v hc' q=>kk c' v ?_ q) (fun c' q=>q) fun c' xs' q=>q
   rcases hc' with q0 | q0
   ·rw [q0]; exact ntr b u e
   ·exact ntr c' _ q0
 self:=fun _ _ _ _ _ st h=>wpAny_pyIter_zip st.1 h
section
variable {X:Cx}
theorem qI4 {es:List Expr} {kx:Nat} {tp:Pos} {a b:Expr} {ta:TA} {p pos:Pos} (hg:Gl X "zip") (hm:X.mg "zip" = none) (ha:PA X [a,b] ta) (hs:starEach [a,b] X.env=[(false,eval a X.env),(false,eval b X.env)]:=by rfl) (hs2:starEach [b] X.env=[(false,eval b X.env)]:=by rfl) :
  PI X (.Tuple es kx tp) (.Call (.Name "zip" p) [a,b] [] pos) (qK8 ta):=by
 intro pins s σ H R I h
 refine Call_ (Jh I hg hm boot_zip (uG (thn (ha pos pins s σ H _ I h) fun us s1 ⟨vs,H1,I1,r1,q1⟩=>?_) (by rw [hs,hs2]) (by rw [hs2]; rfl)))
 obtain ⟨b',l1,l2,e,⟨xs,h1⟩,⟨ys,h2⟩,q⟩:=q1
 subst e
 obtain ⟨u,u',rfl,r2,r3⟩:=vals2 r1
 cases r2
 cases r3
 have fin:∀ h' z TI TO i1 i2,ZD z TI TO i1 i2->IsZip h' z TI TO .none->IsPair h' TI (.ref i1) (.ref i2)->(∃ c d,IsPair h' TO c d)->sIt b' h' i1 l1 0->sIt b' h' i2 l2 0->(∀ a∈[z,TI,TO,i1,i2],s1.heap.objs.size<=a)->(∀ c o,s1.heap.get? c=some o->h'.get? c=some o)->
   wpAny (model X.prog X.w) X.A (pyIter (.ref z)) (PIE X pins σ (.Tuple es kx tp) R) X.xe { s1 with heap:=h' }:=fun h' z TI TO i1 i2 D g1 g2 g3 g4 g5 new kk=>
  wpAny_pyIter_zip g1 ⟨z,[z,TI,TO,i1,i2],_,Itn b' l1 l2,H1,rfl,I1.kept (t':=s1.toks) kk,qFe b' l1 l2 D,⟨g1,g2,g3,g4,g5⟩,fun a hb=>I1.fpOk (new a hb) (I1.hok.fresh (new a hb)),q⟩
 cases b' with
 | false=>
  obtain ⟨it1,_,p1,_⟩:=I1.tuple (SqT.of (K:=X.K) h1)
  obtain ⟨it2,_,p2,_⟩:=I1.tuple (SqT.of (K:=X.K) h2)
  exact qFO p1 p2 fun h' z TI TO i1 i2 D st new kk=>fin h' z TI TO i1 i2 D st.1 st.2.1 st.2.2.1 st.2.2.2.1 st.2.2.2.2 new kk
 | true=>
  obtain ⟨it1,_,p1,_⟩:=I1.list (SqL.of (K:=X.K) h1)
  obtain ⟨it2,_,p2,_⟩:=I1.list (SqL.of (K:=X.K) h2)
  refine call_zip_2 p1.isList p2.isList fun h' g1 g2 g3 g4 g5 _ kk=>fin h' _ _ _ _ _ ?_ g1 g2 ⟨_,_,g3⟩ g4 g5 ?_ kk
  ·generalize s1.heap.objs.size=n
   have ne:∀ a b:Nat,a≠b->n+a≠n+b:=fun a b h q=>h (Nat.add_left_cancel q)
   exact ⟨ne 2 4 (by decide),ne 3 4 (by decide),ne 0 4 (by decide),ne 1 4 (by decide),ne 2 3 (by decide),ne 2 0 (by decide),ne 2 1 (by decide),ne 3 0 (by decide),ne 3 1 (by decide),ne 0 1 (by decide)⟩
  ·intro a ha
   simp only [wW,zP,or_false] at ha
   rcases ha with q | q | q | q | q <;> rw [q] <;> first | exact yS _ _ | exact wH _
end
theorem Y5 {α:Type} (l:List α) (d:α):(wV l.length).map (fun i=>l.getD i d)=l:=by
 apply uN
 intro i
 rw [wQ]
 by_cases h:i<l.length
 ·rw [wA h]
  simp [h]
 ·rw [zV (by simpa using h)]
  simp [h]
noncomputable abbrev Cx.inner (X:Cx) (pn:List (Addr×Obj)) (E:Value->Shared->Prop):Cx:={ X with pn:=pn,xe:=E }
end L2
namespace L2
open PySem
end L2
namespace L2
open PySem PySem.Spec PyProof.Rows
end L2
namespace LSo
open PySem PySem.W PyProof.Rows
theorem qA3:∀ a:List Int,HT.lexLt a a=false
 | []=>rfl
 | x::a=>by rw [HT.lexLt_cons,if_pos rfl]; exact qA3 a
theorem lex_trans:∀ a b c:List Int,HT.lexLt a b=true->HT.lexLt b c=true->HT.lexLt a c=true
 | [],b,[],h1,h2=>by cases b <;> cases h2
 | [],_,_::_,_,_=>rfl
 | _::_,[],_,h1,_=>by cases h1
 | _::_,_::_,[],_,h2=>by cases h2
 | x::a,y::b,z::c,h1,h2=>by
  rw [HT.lexLt_cons] at h1 h2 ⊢
  by_cases e1:x=y
  ·rw [if_pos e1] at h1
   by_cases e2:y=z
   ·rw [if_pos e2] at h2
    rw [if_pos (e1.trans e2)]
    exact lex_trans a b c h1 h2
   ·rw [if_neg e2] at h2
    rw [if_neg (fun z'=>e2 (e1.symm.trans z'))]
    have:=of_decide_eq_true h2
    refine decide_eq_true ?_
    omega
  ·rw [if_neg e1] at h1
   have h1':=of_decide_eq_true h1
   by_cases e2:y=z
   ·rw [if_neg (by omega)]
    refine decide_eq_true ?_
    omega
   ·rw [if_neg e2] at h2
    have:=of_decide_eq_true h2
    rw [if_neg (by omega)]
    refine decide_eq_true ?_
    omega
theorem qAe:∀ a b:List Int,HT.lexLt a b=false->HT.lexLt b a=false->a=b
 | [],[],_,_=>rfl
 | [],_::_,hq,_=>by cases hq
 | _::_,[],_,hq=>by cases hq
 | x::a,y::b,h1,h2=>by
  rw [HT.lexLt_cons] at h1 h2
  by_cases e:x=y
  ·rw [if_pos e] at h1
   rw [if_pos e.symm] at h2
   rw [e,qAe a b h1 h2]
  ·rw [if_neg e] at h1
   rw [if_neg (fun z=>e z.symm)] at h2
   have a1:=of_decide_eq_false h1
   have a2:=of_decide_eq_false h2
   omega
theorem qE8 (a b c:List Int) (h:HT.lexLt a c=true):HT.lexLt a b=true\/HT.lexLt b c=true:=by
 cases h1:HT.lexLt a b with
 | true=>exact .inl rfl
 | false=>
  right
  cases h2:HT.lexLt b a with
  | true=>exact lex_trans _ _ _ h2 h
  | false=>rw [<- qAe a b h1 h2]; exact h
noncomputable def qNy:KeyOrd:=⟨List Int,HT.lexLt,qA3,lex_trans,qE8,qAe⟩
section
variable {O:KeyOrd} {key:Nat->O.α} {N:Nat} {cmp:Nat->Nat->(Bool->Shared->Prop)->Shared->Prop} {s:Shared}
noncomputable def qNo (key:Nat->O.α) (N:Nat) (cmp:Nat->Nat->(Bool->Shared->Prop)->Shared->Prop) (s:Shared):Prop:=∀ i j C,i<N->j<N->C (O.blt (key i) (key j)) s->cmp i j C s
structure Pm (N:Nat) (p:Array Nat):Prop where
 pm:p.Perm (VN (wV N))
theorem Pm.size {p:Array Nat} (h:Pm N p):p.size=N:=by rw [h.pm.size_eq]; simp
end
section
variable {prog:Program} {w:World} {A:Around} {E:Value->Shared->Prop} {s:Shared} {O:KeyOrd} {key:Nat->O.α}
noncomputable def jc (h:Heap) (a:Addr) (vs:List Value):Heap:=((h.update a (gQ fun _=>(#[]:Array Value))).push (seqObj "tuple" vs.toArray 0)).push (seqObj "list" #[] 0)
noncomputable def Jm (vs:List Value) (p:Array Nat):Array Value:=(p.toList.map fun i=>vs.getD i xE).toArray
theorem qFr (vs:List Value):Jm vs (VN (wV vs.length))=vs.toArray:=by
 unfold Jm
 congr 1
 apply uN
 intro i
 rw [wQ]
 by_cases h:i<vs.length
 ·rw [wA h]
  simp [h]
 ·rw [zV (by simpa using h)]
  simp [h]
theorem qG3 {a b:List Value} {ns ms:List Int} {fin:Bool} {Q:Bool->Shared->Prop} (hu:A.units<cLine):∀{a b:List Value} {ns ms:List Int} (i:Nat),IntsAre a ns->IntsAre b ms->(∀ ns' ms',ns'.length+ms.length=ms'.length+ns.length->(ns'=[]\/ms'=[])->HT.lexLt ns' ms'=fin)->Q (HT.lexLt ns ms) s->KatLex prog w A true fin Q (a.zip b) i s:=by
 intro a b ns ms i ha hb hf hq
 induction ha generalizing b ms i with
 | nil=>
  rw [List.zip_nil_left]
  refine kat_nil ?_
  rw [<- hf [] ms (by simp) (.inl rfl)]
  exact hq
 | @cons x t a ns ha ih=>
  cases hb with
  | nil=>
   rw [List.zip_nil_right]
   refine kat_nil ?_
   rw [<- hf (x::ns) [] (by simp) (.inr rfl)]
   exact hq
  | cons y u hb=>
   rw [List.zip_cons_cons]
   refine kat_cons ?_
   obtain ⟨e,he,hiff⟩:=HT.eqAt_int A s x t y u
   refine he prog w _ _ ?_
   rw [HT.lexLt_cons] at hq
   cases e with
   | true=>
    rw [if_pos (hiff.mp rfl)] at hq
    refine kat_yes (ih (i+1) hb (fun ns' ms' hl ho=>hf ns' ms' (by simp only [wZ]; omega) ho) hq)
   | false=>
    rw [if_neg (fun q=>absurd (hiff.mpr q) wU)] at hq
    refine kat_no ?_
    by_cases hi:i=0
    ·subst hi
     exact oneLt_int hq
    ·have e:(true && i == 0)=false:=by simp [hi]
     rw [e]
     exact kat_one _ _ (HT.rcLt_int A s x t y u prog w _ _ hq)
theorem qJm {a b:List Int}:∀ ns' ms':List Int,ns'.length+b.length=ms'.length+a.length->(ns'=[]\/ms'=[])->HT.lexLt ns' ms'=decide (a.length<b.length)
 | [],[],h,_=>by
  rw [HT.lexLt_nil_nil]
  simp only [uD] at h
  exact (decide_eq_false (by omega)).symm
 | [],_::_,h,_=>by
  rw [HT.lexLt_nil_cons]
  simp only [uD,wZ] at h
  exact (decide_eq_true (by omega)).symm
 | _::_,[],h,_=>by
  rw [HT.lexLt_cons_nil]
  simp only [uD,wZ] at h
  exact (decide_eq_false (by omega)).symm
 | _::_,_::_,_,h=>by rcases h with h | h <;> cases h
noncomputable def Rows (h:Heap):List Value->List (List Int)->Prop
 | [],[]=>True
 | v::vs,ns::nss=>(∃ b its,v=.ref b/\IsTup h b its/\IntsAre its.toList ns/\ns≠[])/\Rows h vs nss
 | _,_=>False
theorem Rows.len:∀{h:Heap} {vs:List Value} {nss:List (List Int)},Rows h vs nss->vs.length=nss.length
 | _,[],[],_=>rfl
 | _,[],_::_,r=>r.elim
 | _,_::_,[],r=>r.elim
 | _,_::vs,_::nss,r=>by rw [wZ,wZ,Rows.len r.2]
theorem Rows.kept {h h':Heap} (k:∀ b o,h.get? b=some o->h'.get? b=some o):∀{vs:List Value} {nss:List (List Int)},Rows h vs nss->Rows h' vs nss
 | [],[],_=>trivial
 | [],_::_,r=>r.elim
 | _::_,[],r=>r.elim
 | _::vs,_::nss,⟨⟨b,its,e,p,q⟩,r⟩=>⟨⟨b,its,e,p.keeps k,q⟩,Rows.kept k r⟩
theorem Rows.at:∀{h:Heap} {vs:List Value} {nss:List (List Int)} {i:Nat},Rows h vs nss->i<vs.length->∃ b its,vs.getD i xE=.ref b/\IsTup h b its/\IntsAre its.toList (nss.getD i [])/\nss.getD i []≠[]
 | _,[],[],i,_,hi=>by cases hi
 | _,[],_::_,_,r,_=>r.elim
 | _,_::_,[],_,r,_=>r.elim
 | _,_::vs,_::nss,0,r,_=>r.1
 | _,_::vs,_::nss,i+1,r,hi=>Rows.at (i:=i) r.2 (by simpa using hi)
theorem Rows.firsts:∀{h:Heap} {vs:List Value} {nss:List (List Int)},Rows h vs nss->∃ fs,KatTups h vs fs/\fs.length=vs.length/\∀ v∈fs,∃ n t,v=ZE n t
 | _,[],[],_=>⟨[],KatTups.nil,rfl,fun _ h=>by cases h⟩
 | _,[],_::_,r=>r.elim
 | _,_::_,[],r=>r.elim
 | _,_::vs,ns::nss,⟨⟨b,its,e,⟨o,ho,hc,n,hd⟩,q,hne⟩,r⟩=>by
  obtain ⟨fs,f1,f2,f3⟩:=Rows.firsts r
  cases hi:its.toList with
  | nil=>
   rw [hi] at q
   cases q
   exact absurd rfl hne
  | cons v rest=>
   rw [hi] at q
   cases q with
   | cons x t q=>
    have h0:its[0]? = some (ZE x t):=by
     rw [<- yC,hi]
     rfl
    subst e
    refine ⟨ZE x t::fs,KatTups.cons ho hc hd h0 f1,by rw [wZ,wZ,f2],fun v hv=>?_⟩
    rcases wW.mp hv with z | z
    ·exact ⟨x,t,z⟩
    ·exact f3 v z
theorem qE3 {vs:List Value} {nss:List (List Int)} (hu:A.units<cLine) (r:Rows s.heap vs nss):qNo (O:=qNy) (fun i=>nss.getD i []) vs.length (kas_cmp prog w A (tuples' true) (pairsOf vs)) s:=by
 intro i j C hi hj hc
 obtain ⟨b1,its1,e1,⟨o1,g1,c1,n1,d1⟩,q1,_⟩:=r.at hi
 obtain ⟨b2,its2,e2,⟨o2,g2,c2,n2,d2⟩,q2,_⟩:=r.at hj
 unfold kas_cmp
 rw [kas_item_eq,kas_item_eq,e1,e2]
 refine kat_lt g1 d1 g2 d2 ?_
 have z1:its1.size=(nss.getD i []).length:=by rw [<- q1.length]; simp
 have z2:its2.size=(nss.getD j []).length:=by rw [<- q2.length]; simp
 refine qG3 (a:=[]) (b:=[]) (ns:=[]) (ms:=[]) hu 0 q1 q2 (fun ns' ms' hl ho=>?_) hc
 rw [z1,z2]
 exact qJm ns' ms' hl ho
theorem qCl {h:Heap} {a:Addr} {vs:List Value} {b:Addr} {o:Obj} (hb:b≠a) (e:h.get? b=some o):(jc h a vs).get? b=some o:=by
 unfold jc
 refine wG _ (wG _ ?_)
 rw [Heap.get?_update_ne _ _ _ _ hb]
 exact e
theorem qAQ {h:Heap} {a:Addr} {vs:List Value} {out:Array Value} {b:Addr} {o:Obj} (hb:b≠a) (e:h.get? b=some o):(sortedHeap h a vs out).get? b=some o:=
 (Heap.get?_update_ne _ _ _ _ hb).trans (qCl (vs:=vs) hb e)
theorem qAV {h:Heap} {a:Addr} {vs:List Value} {out:Array Value} {n:Nat} (ho:h.get? a=some (seqObj "list" vs.toArray n)):∃ m,(sortedHeap h a vs out).get? a=some (seqObj "list" out m):=
 ⟨_,get?_update_seq (wG _ (wG _ (get?_update_seq ho _))) _⟩
end
end LSo
namespace L2
open PySem PySem.Spec PyProof.Rows
noncomputable abbrev qBF (ns:List Int):D:=.tup (ns.map D.int)
section
variable {X:Cx} {pins:List (Addr×Obj)} {σ:St} {H:Hp} {s:Shared}
theorem qJf (I:Inv X pins σ H s):∀{nss:List (List Int)} {xs:List V} {its:List Value},qV H (nss.map qBF) xs->ql xs its->(∀ ns∈nss,ns≠[])->LSo.Rows s.heap its nss:=by
 intro nss
 induction nss with
 | nil=>
  intro xs its h r _
  cases (show xs=[] from h)
  cases r
  trivial
 | cons ns nss ih=>
  intro xs its h r hn
  obtain ⟨x,xr,rfl,h1,h2⟩:=h
  cases r with
  | cons r1 r2=>
   refine ⟨?_,ih h2 r2 fun m hm=>hn m (wJ _ hm)⟩
   obtain ⟨a,ys,rfl,e1,e2⟩:=h1
   cases r1
   obtain ⟨js,q1,q2,_⟩:=I.tuple (SqT.of (K:=X.K) e1)
   have e3:=e2.ints_eq
   subst e3
   exact ⟨a,_,rfl,q2,intsAre_of q1,hn ns (wD ..)⟩
theorem YA {xs:List V} {its:List Value} (r:ql xs its):∀(is:List Nat),(∀ i∈is,i<xs.length)->ql (is.map fun i=>xs.getD i V.non) (is.map fun i=>its.getD i xE)
 | [],_=>.nil
 | i::is,h=>by
  have hi:=h i (wD ..)
  obtain ⟨u,g1,g2⟩:=r.get (wA hi)
  refine .cons ?_ (YA r is fun j hj=>h j (wJ _ hj))
  show RelV (xs.getD i V.non) (its.getD i xE)
  rw [wF,wF,wA hi,g1]
  exact g2
theorem qBn {nss:List (List Int)} {xs:List V} (h:qV H (nss.map qBF) xs):∀(is:List Nat),(∀ i∈is,i<xs.length)->qV H ((is.map fun i=>nss.getD i []).map qBF) (is.map fun i=>xs.getD i V.non)
 | [],_=>rfl
 | i::is,g=>by
  have hi:=g i (wD ..)
  obtain ⟨d,g1,g2⟩:=h.get (wA hi)
  refine ⟨_,_,rfl,?_,qBn h is fun j hj=>g j (wJ _ hj)⟩
  rw [wQ] at g1
  show Den H (qBF (nss.getD i [])) (xs.getD i V.non)
  rw [wF,wF,wA hi]
  cases e:nss[i]? with
  | none=>rw [e] at g1; cases g1
  | some ns=>
   rw [e] at g1
   cases g1
   exact g2
end
end L2
namespace LSo
open PySem PySem.W PyProof.Rows
noncomputable def qI3:Bool->Keyed->Array Keyed->Nat->Nat->Nat->StateT SortSt Sem (Option Nat):=sortPriv% PySem.Builtin.gallop
section
variable {prog:Program} {w:World} {A:Around} {E:Value->Shared->Prop} {s:Shared} {κ:SortKind} {S:Keyed->Prop} {key:Keyed->Nat}
noncomputable def Kn (prog:Program) (w:World) (A:Around) (s:Shared) (κ:SortKind) (S:Keyed->Prop) (key:Keyed->Nat):Prop:=
 ∀ x y,S x->S y->∀(Q:Bool->Shared->Prop) (E:Value->Shared->Prop),Q (decide (key x<key y)) s->wpAny (model prog w) A (keyLt' κ x.1 y.1) Q E s
theorem qKx {x y:Keyed} {Q:Option Bool->SortSt->Prop} {st:SortSt} (C:Kn prog w A s κ S key) (hk:kindOf st=κ) (hx:S x) (hy:S y) (h:Q (some (decide (key x<key y))) st):wpS (model prog w) A E s (lt' x y) Q st:=by
 rw [lt'_eq]
 refine wpS_bind (wpS_get (wpS_bind (wpS_lift (WM ?_))))
 rw [hk]
 exact C x y hx hy _ _ ⟨rfl,wpS_pure h⟩
theorem qr {a:Array Keyed} {i:Nat} {x:Keyed} {Q:Keyed->SortSt->Prop} {st:SortSt} (h:a[i]? = some x) (q:Q x st):wpS (model prog w) A E s (elem' a i) Q st:=by
 rw [elem'_eq,h]
 exact wpS_pure q
noncomputable def qJd (prog:Program) (w:World) (A:Around) (E:Value->Shared->Prop) (s:Shared) (st:SortSt) (l:Bool) (k:Keyed) (a:Array Keyed) (b n kk:Nat):Prop:=
 ∀ i,i<n->∀ Q:Option Bool->SortSt->Prop,Q (some (decide (i<kk))) st->wpS (model prog w) A E s (elem' a (b+i) >>= fun x=>if l=true then lt' x k else lt' k x >>= fun r=>pure (Option.map (fun y=>!y) r)) Q st
theorem ju {l:Bool} {k:Keyed} {a:Array Keyed} {b n h kk:Nat} {Q:Option Nat->SortSt->Prop} {st:SortSt} (hn:h<n) (kn:kk<=n) (hb:qJd prog w A E s st l k a b n kk) (q:Q (some kk) st):wpS (model prog w) A E s (qI3 l k a b n h) Q st:=by
 refine wpS_bind (hb h hn _ ?_)
 by_cases z:h<kk
 ·rw [decide_eq_true z]
  dsimp only
  rw [if_pos rfl]
  refine wpS_bind (wpS_mono (wpS_forRange (I:=fun i c st'=>st'=st/\c.1=none/\h+c.2.1<kk/\c.2.1<c.2.2/\i+1<=c.2.2) (Q:=fun c st'=>st'=st/\c.1=none/\h+c.2.1<kk/\c.2.1<c.2.2/\(n - h<=c.2.2\/kk<=h+c.2.2)) ?_ ?_ ?_) ?_)
  ·rintro i ⟨c1,c2,c3⟩ st' _ hi ⟨rfl,rfl,i1,i2,i3⟩
   dsimp only at i1 i2 i3 ⊢
   by_cases y:c3≥n - h
   ·rw [if_pos y]
    exact wpS_pure ⟨rfl,rfl,i1,i2,.inl y⟩
   ·rw [if_neg y]
    refine wpS_bind (hb (h+c3) (by omega) _ ?_)
    by_cases x:h+c3<kk
    ·rw [decide_eq_true x]
     exact wpS_pure ⟨rfl,rfl,x,by dsimp only; omega,by dsimp only; omega⟩
    ·rw [decide_eq_false x]
     exact wpS_pure ⟨rfl,rfl,i1,i2,.inr (by dsimp only; omega)⟩
  ·rintro ⟨c1,c2,c3⟩ st' ⟨rfl,rfl,i1,i2,i3⟩
   dsimp only at i1 i2 i3 ⊢
   exact ⟨rfl,rfl,i1,i2,.inl (by omega)⟩
  ·exact ⟨rfl,rfl,z,by decide,by decide⟩
  ·rintro ⟨c1,c2,c3⟩ st' ⟨rfl,rfl,i1,i2,i3⟩
   dsimp only at i1 i2 i3 ⊢
   refine wpS_bind (wpS_mono (wpS_forRange (I:=fun i c st2=>st2=st'/\c.1=none/\c.2.1<=kk/\kk<=c.2.2/\c.2.2<=n/\c.2.2+i<=c.2.1+n) (Q:=fun c st2=>st2=st'/\c.1=none/\c.2.2=kk) ?_ ?_ ?_) ?_)
   ·rintro i ⟨c1,lo,hi⟩ st2 _ hi' ⟨rfl,rfl,j1,j2,j3,j4⟩
    dsimp only at j1 j2 j3 j4 ⊢
    by_cases y:lo≥hi
    ·rw [if_pos y]
     exact wpS_pure ⟨rfl,rfl,by dsimp only; omega⟩
    ·rw [if_neg y]
     refine wpS_bind (hb (lo+(hi - lo) / 2) (by omega) _ ?_)
     by_cases x:lo+(hi - lo) / 2<kk
     ·rw [decide_eq_true x]
      exact wpS_pure ⟨rfl,rfl,x,j2,j3,by dsimp only; omega⟩
     ·rw [decide_eq_false x]
      exact wpS_pure ⟨rfl,rfl,j1,by dsimp only; omega,by dsimp only; omega,by dsimp only; omega⟩
   ·rintro ⟨c1,lo,hi⟩ st2 ⟨rfl,rfl,j1,j2,j3,j4⟩
    dsimp only at j1 j2 j3 j4 ⊢
    exact ⟨rfl,rfl,by omega⟩
   ·refine ⟨rfl,rfl,?_,?_,?_,?_⟩ <;> dsimp only <;> omega
   ·rintro ⟨c1,lo,hi⟩ st2 ⟨rfl,rfl,rfl⟩
    exact wpS_pure q
 ·rw [decide_eq_false z]
  dsimp only
  rw [if_neg wU]
  refine wpS_bind (wpS_mono (wpS_forRange (I:=fun i c st'=>st'=st/\c.1=none/\kk+c.2.1<=h/\c.2.1<c.2.2/\i+1<=c.2.2) (Q:=fun c st'=>st'=st/\c.1=none/\kk+c.2.1<=h/\c.2.1<c.2.2/\(h+1<=c.2.2\/(c.2.2<=h/\h<kk+c.2.2))) ?_ ?_ ?_) ?_)
  ·rintro i ⟨c1,c2,c3⟩ st' _ hi ⟨rfl,rfl,i1,i2,i3⟩
   dsimp only at i1 i2 i3 ⊢
   by_cases y:c3≥h+1
   ·rw [if_pos y]
    exact wpS_pure ⟨rfl,rfl,i1,i2,.inl y⟩
   ·rw [if_neg y]
    refine wpS_bind (hb (h - c3) (by omega) _ ?_)
    by_cases x:h - c3<kk
    ·rw [decide_eq_true x]
     exact wpS_pure ⟨rfl,rfl,i1,i2,.inr (by dsimp only; omega)⟩
    ·rw [decide_eq_false x]
     exact wpS_pure ⟨rfl,rfl,by dsimp only; omega,by dsimp only; omega,by dsimp only; omega⟩
  ·rintro ⟨c1,c2,c3⟩ st' ⟨rfl,rfl,i1,i2,i3⟩
   dsimp only at i1 i2 i3 ⊢
   exact ⟨rfl,rfl,i1,i2,.inl (by omega)⟩
  ·exact ⟨rfl,rfl,by dsimp only; omega,by decide,by decide⟩
  ·rintro ⟨c1,c2,c3⟩ st' ⟨rfl,rfl,i1,i2,i3⟩
   dsimp only at i1 i2 i3 ⊢
   refine wpS_bind (wpS_mono (wpS_forRange (I:=fun i c st2=>st2=st'/\c.1=none/\c.2.1<=kk/\kk<=c.2.2/\c.2.2<=n/\c.2.2+i<=c.2.1+n) (Q:=fun c st2=>st2=st'/\c.1=none/\c.2.2=kk) ?_ ?_ ?_) ?_)
   ·rintro i ⟨c1,lo,hi⟩ st2 _ hi' ⟨rfl,rfl,j1,j2,j3,j4⟩
    dsimp only at j1 j2 j3 j4 ⊢
    by_cases y:lo≥hi
    ·rw [if_pos y]
     exact wpS_pure ⟨rfl,rfl,by dsimp only; omega⟩
    ·rw [if_neg y]
     refine wpS_bind (hb (lo+(hi - lo) / 2) (by omega) _ ?_)
     by_cases x:lo+(hi - lo) / 2<kk
     ·rw [decide_eq_true x]
      exact wpS_pure ⟨rfl,rfl,x,j2,j3,by dsimp only; omega⟩
     ·rw [decide_eq_false x]
      exact wpS_pure ⟨rfl,rfl,j1,by dsimp only; omega,by dsimp only; omega,by dsimp only; omega⟩
   ·rintro ⟨c1,lo,hi⟩ st2 ⟨rfl,rfl,j1,j2,j3,j4⟩
    dsimp only at j1 j2 j3 j4 ⊢
    exact ⟨rfl,rfl,by omega⟩
   ·refine ⟨rfl,rfl,?_,?_,?_,?_⟩ <;> dsimp only <;> omega
   ·rintro ⟨c1,lo,hi⟩ st2 ⟨rfl,rfl,rfl⟩
    exact wpS_pure q
end
section
variable {α:Type} (key:α->Nat)
noncomputable def mrg:List α->List α->List α
 | [],bs=>bs
 | x::as,[]=>x::as
 | x::as,y::bs=>if key y<key x then y::mrg (x::as) bs else x::mrg as (y::bs)
 termination_by as bs=>as.length+bs.length
noncomputable abbrev Ord (l:List α):Prop:=l.Pairwise fun x y=>key x<=key y
theorem jt (as:List α):mrg key as []=as:=by
 cases as <;> unfold mrg <;> rfl
theorem jo (bs:List α):mrg key [] bs=bs:=by unfold mrg; rfl
theorem qHQ {x y:α} {as bs:List α} (h:key y<key x):mrg key (x::as) (y::bs)=y::mrg key (x::as) bs:=by
 rw [mrg,if_pos h]
theorem qKN {x y:α} {as bs:List α} (h:¬ key y<key x):mrg key (x::as) (y::bs)=x::mrg key as (y::bs):=by
 rw [mrg,if_neg h]
theorem qAc {x:α}:∀{bs:List α},(∀ y∈bs,key y<key x)->mrg key [x] bs=bs++[x]
 | [],_=>jt key _
 | y::bs,h=>by rw [qHQ key (h y wD),qAc fun z hz=>h z (wJ _ hz)]; rfl
theorem qE7 {y:α} {bs:List α}:∀{l as:List α},(∀ x∈l,¬ key y<key x)->mrg key (l++as) (y::bs)=l++mrg key as (y::bs)
 | [],_,_=>rfl
 | x::l,as,h=>by
  show mrg key (x::(l++as)) (y::bs)=x::(l++_)
  rw [qKN key (h x wD),qE7 fun z hz=>h z (wJ _ hz)]
theorem qIN {x:α} {as:List α}:∀{l bs:List α},(∀ y∈l,key y<key x)->mrg key (x::as) (l++bs)=l++mrg key (x::as) bs
 | [],_,_=>rfl
 | y::l,bs,h=>by
  show mrg key (x::as) (y::(l++bs))=y::(l++_)
  rw [qHQ key (h y wD),qIN fun z hz=>h z (wJ _ hz)]
theorem qCp:∀ as bs:List α,(mrg key as bs).length=as.length+bs.length
 | [],bs=>by rw [jo]; simp
 | x::as,[]=>by rw [jt]; simp
 | x::as,y::bs=>by
  rw [mrg]
  split
  ·rw [wZ,qCp (x::as) bs]
   simp only [wZ]
   omega
  ·rw [wZ,qCp as (y::bs)]
   simp only [wZ]
   omega
 termination_by as bs=>as.length+bs.length
theorem JC:∀ as bs:List α,(mrg key as bs).Perm (as++bs)
 | [],bs=>by rw [jo]; exact fJ _
 | x::as,[]=>by rw [jt,zK]
 | x::as,y::bs=>by
  rw [mrg]
  split
  ·exact ((JC (x::as) bs).cons y).trans (UC (l₁:=x::as)).symm
  ·exact (JC as (y::bs)).cons x
 termination_by as bs=>as.length+bs.length
theorem qCn:∀{as bs:List α},Ord key as->Ord key bs->Ord key (mrg key as bs)
 | [],bs,_,h=>by rw [jo]; exact h
 | x::as,[],h,_=>by rw [jt]; exact h
 | x::as,y::bs,h,g=>by
  have hh:=xS.mp h
  have gg:=xS.mp g
  rw [mrg]
  split
  ·refine xS.mpr ⟨fun z hz=>?_,qCn h gg.2⟩
   rcases zR.mp ((JC key _ _).mem_iff.mp hz) with q | q
   ·rcases wW.mp q with e | e
    ·rw [e]; omega
    ·have:=hh.1 z e
     omega
   ·exact gg.1 z q
  ·refine xS.mpr ⟨fun z hz=>?_,qCn hh.2 g⟩
   rcases zR.mp ((JC key _ _).mem_iff.mp hz) with q | q
   ·exact hh.1 z q
   ·rcases wW.mp q with e | e
    ·rw [e]; omega
    ·have:=gg.1 z e
     omega
 termination_by as bs=>as.length+bs.length
theorem Jz {x:α}:∀{as bs:List α},(∀ y∈bs,key y<key x)->mrg key (as++[x]) bs=mrg key as bs++[x]
 | [],bs,h=>by rw [jo]; exact qAc key h
 | z::as,[],h=>by rw [jt,jt]
 | z::as,y::bs,h=>by
  show mrg key (z::(as++[x])) (y::bs)=_
  rw [mrg,mrg]
  split
  ·show y::mrg key ((z::as)++[x]) bs=_
   rw [Jz fun q hq=>h q (wJ _ hq)]
   rfl
  ·rw [Jz h]
   rfl
 termination_by as bs=>as.length+bs.length
theorem J5 {y:α}:∀{as bs:List α},(∀ x∈as,¬ key y<key x)->mrg key as (bs++[y])=mrg key as bs++[y]
 | [],bs,h=>by rw [jo,jo]
 | x::as,[],h=>by
  rw [jt]
  have:=qE7 key (y:=y) (bs:=[]) (l:=x::as) (as:=[]) h
  rw [zK,jo] at this
  exact this
 | x::as,z::bs,h=>by
  show mrg key (x::as) (z::(bs++[y]))=_
  rw [mrg,mrg]
  split
  ·rw [J5 h]
   rfl
  ·show x::mrg key as ((z::bs)++[y])=_
   rw [J5 fun q hq=>h q (wJ _ hq)]
   rfl
 termination_by as bs=>as.length+bs.length
theorem qFq {as bs:List α}:∀{l:List α},(∀ x∈l,∀ y∈bs,key y<key x)->mrg key (as++l) bs=mrg key as bs++l:=by
 intro l
 induction l generalizing as with
 | nil=>intro _; rw [zK,zK]
 | cons x l ih=>
  intro h
  have e:as++x::l=(as++[x])++l:=by simp
  rw [e,ih fun z hz=>h z (wJ _ hz),Jz key (h x wD)]
  simp
theorem qGZ {as bs:List α}:∀{l:List α},(∀ y∈l,∀ x∈as,¬ key y<key x)->mrg key as (bs++l)=mrg key as bs++l:=by
 intro l
 induction l generalizing bs with
 | nil=>intro _; rw [zK,zK]
 | cons y l ih=>
  intro h
  have e:bs++y::l=(bs++[y])++l:=by simp
  rw [e,ih fun z hz=>h z (wJ _ hz),J5 key (h y wD)]
  simp
end
theorem qMg {P:Nat->Prop}:∀ n:Nat,(∀ i j,i<=j->j<n->P j->P i)->∃ kk,kk<=n/\∀ i,i<n->(P i↔i<kk)
 | 0,_=>⟨0,wH _,fun i h=>absurd h (uE i)⟩
 | n+1,h=>by
  obtain ⟨kk,h1,h2⟩:=qMg n fun i j a b=>h i j a (by omega)
  by_cases z:P n
  ·exact ⟨n+1,wH _,fun i hi=>⟨fun _=>hi,fun _=>h i n (by omega) (by omega) z⟩⟩
  ·refine ⟨kk,by omega,fun i hi=>?_⟩
   by_cases e:i=n
   ·subst e
    exact ⟨fun q=>absurd q z,fun q=>by omega⟩
   ·exact h2 i (by omega)
section
variable {prog:Program} {w:World} {A:Around} {E:Value->Shared->Prop} {s:Shared} {κ:SortKind} {S:Keyed->Prop} {key:Keyed->Nat}
noncomputable abbrev dK:Keyed:=(xE,xE)
noncomputable def gt (a:Array Keyed) (i:Nat):Keyed:=a.getD i dK
theorem qf {a:Array Keyed} {i:Nat} (h:i<a.size):a[i]? = some (gt a i):=by simp [gt,ZR,h]
theorem jm {a:Array Keyed} {i:Nat} (h:i<a.size):gt a i∈a:=by
 have e:gt a i=a[i]:=by simp [gt,ZR,h]
 rw [e]
 exact VO h
theorem Qv {a:Array Keyed} {i:Nat} (h:i<a.size):a.toList.drop i=gt a i::a.toList.drop (i+1):=by
 have e:gt a i=a.toList[i]'(by simpa using h):=by simp [gt,ZR,h]
 rw [e]
 exact kY (by simpa using h)
noncomputable abbrev qFo (key:Keyed->Nat) (a:Array Keyed):Prop:=∀ i j,i<=j->j<a.size->key (gt a i)<=key (gt a j)
theorem qGS {st:SortSt} {k:Keyed} {a:Array Keyed} {b n:Nat} (C:Kn prog w A s κ S key) (hk:kindOf st=κ) (Sk:S k) (Sa:∀ x∈a,S x) (hn:b+n<=a.size) (o:∀ i j,b<=i->i<=j->j<b+n->key (gt a i)<=key (gt a j)) :
  ∃ kk,kk<=n/\qJd prog w A E s st false k a b n kk/\∀ i,i<n->(¬ key k<key (gt a (b+i))↔i<kk):=by
 obtain ⟨kk,h1,h2⟩:=qMg (P:=fun i=>¬ key k<key (gt a (b+i))) n fun i j ij hj h=>by
  have:=o (b+i) (b+j) (by omega) (by omega) (by omega)
  omega
 refine ⟨kk,h1,fun i hi Q q=>?_,h2⟩
 refine wpS_bind (qr (qf (by omega)) ?_)
 rw [if_neg wU]
 refine wpS_bind (qKx C hk Sk (Sa _ (jm (by omega))) (wpS_pure ?_))
 have e:(Option.map (fun y=>!y) (some (decide (key k<key (gt a (b+i))))))=some (decide (i<kk)):=by
  show some (!decide (key k<key (gt a (b+i))))=_
  congr 1
  rw [vU,xK,decide_eq_false_iff_not,decide_eq_true_iff]
  exact h2 i hi
 rw [e]
 exact q
theorem qFG {st:SortSt} {k:Keyed} {a:Array Keyed} {b n:Nat} (C:Kn prog w A s κ S key) (hk:kindOf st=κ) (Sk:S k) (Sa:∀ x∈a,S x) (hn:b+n<=a.size) (o:∀ i j,b<=i->i<=j->j<b+n->key (gt a i)<=key (gt a j)) :
  ∃ kk,kk<=n/\qJd prog w A E s st true k a b n kk/\∀ i,i<n->(key (gt a (b+i))<key k↔i<kk):=by
 obtain ⟨kk,h1,h2⟩:=qMg (P:=fun i=>key (gt a (b+i))<key k) n fun i j ij hj h=>by
  have:=o (b+i) (b+j) (by omega) (by omega) (by omega)
  omega
 refine ⟨kk,h1,fun i hi Q q=>?_,h2⟩
 refine wpS_bind (qr (qf (by omega)) ?_)
 rw [if_pos rfl]
 refine qKx C hk (Sa _ (jm (by omega))) Sk ?_
 have e:decide (key (gt a (b+i))<key k)=decide (i<kk):=by
  rw [vU,decide_eq_true_iff,decide_eq_true_iff]
  exact h2 i hi
 rw [e]
 exact q
end
noncomputable def qH5:Array Keyed->Array Keyed->StateT SortSt Sem (Array Keyed):=sortPriv% PySem.Builtin.mergeLo
noncomputable def SG (st0 st:SortSt):Prop:=∃ g,st=SortSt.mk' (kindOf st0) (arrOf st0) (pendingOf st0) g (failedOf st0)
theorem SG.set {st0 st:SortSt} (h:SG st0 st) (g:Nat):SG st0 (SortSt.mk' (kindOf st) (arrOf st) (pendingOf st) g (failedOf st)):=by
 obtain ⟨g',rfl⟩:=h
 exact ⟨g,rfl⟩
theorem SG.kind {st0 st:SortSt} (h:SG st0 st):kindOf st=kindOf st0:=by
 obtain ⟨g',rfl⟩:=h
 rfl
theorem Jd (a:Array Keyed) (i:Nat):(a.extract i).toList=a.toList.drop i:=by
 rw [gU,List.extract_eq_drop_take',uH (by simp)]
theorem qEg (a:Array Keyed) (i k:Nat):(a.extract i (i+k)).toList=(a.toList.drop i).take k:=by
 rw [gU,fO,xF]
section
variable {key:Keyed->Nat} {a b out:Array Keyed} {ia ib k:Nat}
noncomputable def Wl (key:Keyed->Nat) (a b out:Array Keyed) (ia ib:Nat):List Keyed:=out.toList++mrg key (a.toList.drop ia) (b.toList.drop ib)
theorem qMl (h1:ia<a.size) (h2:ib<b.size) (h:key (gt b ib)<key (gt a ia)):Wl key a b (out.push (gt b ib)) ia (ib+1)=Wl key a b out ia ib:=by
 unfold Wl
 rw [Qv h1,Qv h2,qHQ key h,kK,yG]
 rfl
theorem qNF (h1:ia<a.size) (h2:ib<b.size) (h:¬ key (gt b ib)<key (gt a ia)):Wl key a b (out.push (gt a ia)) (ia+1) ib=Wl key a b out ia ib:=by
 unfold Wl
 rw [Qv h1,Qv h2,qKN key h,kK,yG]
 rfl
theorem qFT {a:Array Keyed} {i k:Nat} {P:Keyed->Prop} (hk:i+k<=a.size) (h:∀ j,j<k->P (gt a (i+j))):∀ x∈(a.toList.drop i).take k,P x:=fun x hx=>by
 obtain ⟨j,hj,e⟩:=uW hx
 rw [yQ,kS,wM] at hj
 have:=h j (by omega)
 have e2:gt a (i+j)=x:=by
  rw [<- e,fS,VP]
  simp [gt,ZR,show i+j<a.size by omega]
 rwa [e2] at this
theorem qMq (h1:ia+k<=a.size) (h2:ib<b.size) (h:∀ i,i<k->¬ key (gt b ib)<key (gt a (ia+i))):Wl key a b (out++a.extract ia (ia+k)) (ia+k) ib=Wl key a b out ia ib:=by
 unfold Wl
 have e:a.toList.drop ia=(a.toList.drop ia).take k++a.toList.drop (ia+k):=by
  rw [<- TK]
  exact (vY k _).symm
 rw [yE,qEg,yG]
 conv=>rhs; rw [e]
 rw [Qv h2,qE7 key (qFT h1 h)]
theorem qM7 (h1:ia<a.size) (h2:ib+k<=b.size) (h:∀ i,i<k->key (gt b (ib+i))<key (gt a ia)):Wl key a b (out++b.extract ib (ib+k)) ia (ib+k)=Wl key a b out ia ib:=by
 unfold Wl
 have e:b.toList.drop ib=(b.toList.drop ib).take k++b.toList.drop (ib+k):=by
  rw [<- TK]
  exact (vY k _).symm
 rw [yE,qEg,yG]
 conv=>rhs; rw [e]
 rw [Qv h1,qIN key (qFT h2 h)]
theorem J9 (h:ib=b.size):(out++a.extract ia++b.extract ib).toList=Wl key a b out ia ib:=by
 unfold Wl
 rw [yE,yE,Jd,Jd,h,ZS (show b.toList.length<=b.size by simp),jt,zK]
theorem qHp (h:ia=a.size):(out++a.extract ia++b.extract ib).toList=Wl key a b out ia ib:=by
 unfold Wl
 rw [yE,yE,Jd,Jd,h,ZS (show a.toList.length<=a.size by simp),jo,zK]
theorem qAu (h:ia+1=a.size) (hb:∀ j,j<b.size->key (gt b j)<key (gt a ia)):(out++b.extract ib++a.extract ia).toList=Wl key a b out ia ib:=by
 unfold Wl
 rw [yE,yE,Jd,Jd,Qv (show ia<a.size by omega),ZS (show a.toList.length<=ia+1 by simp; omega),qAc key,yG]
 intro y hy
 obtain ⟨j,hj,e⟩:=uW (gV hy)
 have:=hb j (by simpa using hj)
 have e2:gt b j=y:=by rw [<- e]; simp [gt,ZR,show j<b.size by simpa using hj]
 rwa [e2] at this
end
section
variable {prog:Program} {w:World} {A:Around} {E:Value->Shared->Prop} {s:Shared} {κ:SortKind} {S:Keyed->Prop} {key:Keyed->Nat}
theorem qAU {tag:String} {Q:Unit->SortSt->Prop} {st:SortSt} (q:Q () st):wpS (model prog w) A E s (liftM (rule tag):StateT SortSt Sem Unit) Q st:=wpS_lift (fI ⟨rfl,q⟩)
noncomputable def qNA:Nat->StateT SortSt Sem Unit:=sortPriv% PySem.Builtin.setMinGallop
theorem qDM {g:Nat} {Q:Unit->SortSt->Prop} {st:SortSt} (q:Q () (SortSt.mk' (kindOf st) (arrOf st) (pendingOf st) g (failedOf st))):wpS (model prog w) A E s (qNA g) Q st:=wpS_modify q
theorem qD3 {a b:Array Keyed} {st0 st:SortSt} {Q:Array Keyed->SortSt->Prop} (C:Kn prog w A s κ S key) (hk:kindOf st0=κ) (Sa:∀ x∈a,S x) (Sb:∀ x∈b,S x) (oa:qFo key a) (ob:qFo key b) (na:1<=a.size) (nb:1<=b.size)
  (first:key (gt b 0)<key (gt a 0)) (last:∀ j,j<b.size->key (gt b j)<key (gt a (a.size - 1))) (g:SG st0 st) (q:∀ r st',SG st0 st'->r.toList=mrg key a.toList b.toList->Q r st'):wpS (model prog w) A E s (qH5 a b) Q st:=by
 have q':∀ r st',SG st0 st'->r.toList=Wl key a b #[] 0 0->Q r st':=fun r st' g' e=>q r st' g' (by rw [e]; rfl)
 have lst:∀{ia:Nat},ia+1=a.size->∀ j,j<b.size->key (gt b j)<key (gt a ia):=fun {ia} e j hj=>by
  have:=last j hj
  rwa [show a.size - 1=ia by omega] at this
 refine wpS_bind (qAU ?_)
 refine wpS_bind (qr (qf (show 0<b.size by omega)) ?_)
 have w0:Wl key a b #[gt b 0] 0 1=Wl key a b #[] 0 0:=qMl (out:=#[]) (show 0<a.size by omega) (show 0<b.size by omega) first
 dsimp only
 by_cases z1:1=b.size
 ·rw [if_pos (by rw [<- z1]; rfl)]
  exact wpS_pure (q' _ _ g ((J9 z1).trans w0))
 rw [if_neg (by simpa using z1)]
 by_cases z2:0+1=a.size
 ·rw [if_pos (by rw [<- z2]; rfl)]
  exact wpS_pure (q' _ _ g ((qAu z2 (lst z2)).trans w0))
 rw [if_neg (by simpa using z2)]
 refine wpS_bind (wpS_get ?_)
 refine wpS_bind (wpS_mono (wpS_forRange (I:=fun i c st'=>SG st0 st'/\c.1=none/\c.2.2.1+1<a.size/\c.2.2.2.1<b.size/\Wl key a b c.2.1 c.2.2.1 c.2.2.2.1=Wl key a b #[] 0 0/\i+1<=c.2.2.1+c.2.2.2.1) (Q:=fun c st'=>SG st0 st'/\∃ r,c.1=some r/\r.toList=Wl key a b #[] 0 0) ?_ ?_ ?_) ?_)
 ·rintro i ⟨c1,out,ia,ib,mg⟩ st1 _ hi ⟨g1,rfl,i1,i2,i3,i4⟩
  dsimp only at i1 i2 i3 i4 ⊢
  refine wpS_bind (wpS_mono (wpS_forRange (I:=fun j c st'=>SG st0 st'/\c.1=none/\c.2.2.1+1<a.size/\c.2.2.2.1<b.size/\Wl key a b c.2.1 c.2.2.1 c.2.2.2.1=Wl key a b #[] 0 0/\ia+ib+j<=c.2.2.1+c.2.2.2.1) (Q:=fun c st'=>SG st0 st'/\((∃ r,c.1=some r/\r.toList=Wl key a b #[] 0 0)\/(c.1=none/\c.2.2.1+1<a.size/\c.2.2.2.1<b.size/\Wl key a b c.2.1 c.2.2.1 c.2.2.2.1=Wl key a b #[] 0 0/\ia+ib+1<=c.2.2.1+c.2.2.2.1))) ?_ ?_ ?_) ?_)
  ·rintro j ⟨c1,o1,x,y,ac,bc⟩ st2 _ hj ⟨g2,rfl,j1,j2,j3,j4⟩
   dsimp only at j1 j2 j3 j4 ⊢
   refine wpS_bind (qr (qf j2) (wpS_bind (qr (qf (show x<a.size by omega)) (wpS_bind (qKx C (g2.kind.trans hk) (Sb _ (jm j2)) (Sa _ (jm (show x<a.size by omega))) ?_)))))
   by_cases lt:key (gt b y)<key (gt a x)
   ·rw [decide_eq_true lt]
    refine wpS_bind (qr (qf j2) ?_)
    have e:=(qMl (out:=o1) (show x<a.size by omega) j2 lt).trans j3
    by_cases z:y+1=b.size
    ·rw [if_pos (by simpa using z)]
     exact wpS_pure ⟨g2,.inl ⟨_,rfl,(J9 z).trans e⟩⟩
    rw [if_neg (by simpa using z)]
    split
    ·exact wpS_pure ⟨g2,.inr ⟨rfl,j1,by dsimp only; omega,e,by dsimp only; omega⟩⟩
    ·exact wpS_pure ⟨g2,rfl,j1,by dsimp only; omega,e,by dsimp only; omega⟩
   ·rw [decide_eq_false lt]
    refine wpS_bind (qr (qf (show x<a.size by omega)) ?_)
    have e:=(qNF (out:=o1) (show x<a.size by omega) j2 lt).trans j3
    by_cases z:x+1+1=a.size
    ·rw [if_pos (by simpa using z)]
     exact wpS_pure ⟨g2,.inl ⟨_,rfl,(qAu z (lst z)).trans e⟩⟩
    rw [if_neg (by simpa using z)]
    split
    ·exact wpS_pure ⟨g2,.inr ⟨rfl,by dsimp only; omega,j2,e,by dsimp only; omega⟩⟩
    ·exact wpS_pure ⟨g2,rfl,by dsimp only; omega,j2,e,by dsimp only; omega⟩
  ·rintro ⟨c1,o1,x,y,ac,bc⟩ st2 ⟨g2,rfl,j1,j2,j3,j4⟩
   dsimp only at j1 j2 j3 j4 ⊢
   exact ⟨g2,.inr ⟨rfl,j1,j2,j3,by omega⟩⟩
  ·exact ⟨g1,rfl,i1,i2,i3,wH _⟩
  rintro ⟨c1,o1,x,y,ac,bc⟩ st2 ⟨g2,⟨r,rfl,e⟩ | ⟨rfl,j1,j2,j3,j4⟩⟩
  ·exact wpS_pure ⟨g2,r,rfl,e⟩
  dsimp only at j1 j2 j3 j4 ⊢
  refine wpS_bind (qAU ?_)
  refine wpS_bind (wpS_mono (wpS_forRange (I:=fun _ c st'=>SG st0 st'/\c.1=none/\c.2.2.1+1<a.size/\c.2.2.2.1<b.size/\Wl key a b c.2.1 c.2.2.1 c.2.2.2.1=Wl key a b #[] 0 0/\ia+ib+1<=c.2.2.1+c.2.2.2.1) (Q:=fun c st'=>SG st0 st'/\((∃ r,c.1=some r/\r.toList=Wl key a b #[] 0 0)\/(c.1=none/\c.2.2.1+1<a.size/\c.2.2.2.1<b.size/\Wl key a b c.2.1 c.2.2.1 c.2.2.2.1=Wl key a b #[] 0 0/\ia+ib+1<=c.2.2.1+c.2.2.2.1))) ?_ ?_ ?_) ?_)
  ·rintro j ⟨c1,o,x,y,mg3,ac3,bc3⟩ st3 _ hj ⟨g3,rfl,k1,k2,k3,k4⟩
   dsimp only at k1 k2 k3 k4 ⊢
   clear j1 j2 j3 j4 i1 i2 i3 i4
   by_cases mz:mg3 > 1
   case' pos=>
    rw [if_pos mz]
    generalize mg3 - 1=mg4
   case' neg=>
    rw [if_neg mz]
   all_goals
    refine wpS_bind (qDM ?_)
    refine wpS_bind (qr (qf k2) ?_)
    have hk4:∀ g,kindOf (SortSt.mk' (kindOf st3) (arrOf st3) (pendingOf st3) g (failedOf st3))=κ:=fun g=>g3.kind.trans hk
    obtain ⟨kk,n1,n2,n3⟩:=qGS (E:=E) (b:=x) (n:=a.size - x) C (hk4 _) (Sb _ (jm k2)) Sa (by omega) (fun i j _ h1 h2=>oa i j h1 (by omega))
    refine wpS_bind (ju (by omega) n1 n2 ?_)
    dsimp only
    have less:x+kk<a.size->key (gt b y)<key (gt a (x+kk)):=fun q=>zY fun z=>by
     have:=(n3 kk (by omega)).mp z
     omega
    have w1:=(qMq (out:=o) (show x+kk<=a.size by omega) k2 (fun i hi=>(n3 i (by omega)).mpr hi)).trans k3
    by_cases kz:kk > 0
    case' pos=>
     rw [if_pos kz]
     by_cases z:x+kk+1=a.size
     case pos=>
      rw [if_pos (by simpa using z)]
      exact wpS_pure ⟨g3.set _,.inl ⟨_,rfl,(qAu z (lst z)).trans w1⟩⟩
     case' neg=>
     rw [if_neg (by simpa using z)]
     by_cases z':x+kk=a.size
     case pos=>
      rw [if_pos (by simpa using z')]
      exact wpS_pure ⟨g3.set _,.inl ⟨_,rfl,(qHp z').trans w1⟩⟩
     case' neg=>
     rw [if_neg (by simpa using z')]
     have xa:x+kk+1<a.size:=by omega
     have xm:x<=x+kk:=by omega
     have ls:=less (by omega)
     clear less n3 n2 z z'
     generalize o++a.extract x (x+kk)=o2 at w1
     generalize x+kk=x2 at w1 xa ls xm
    case' neg=>
     rw [if_neg kz]
     have w1:=k3
     have xa:=k1
     have ls:=less (by omega)
     rw [show x+kk=x by omega] at ls
     obtain ⟨o2,x2,ho,hx⟩:∃ o2 x2,o2=o/\x2=x:=⟨o,x,rfl,rfl⟩
     rw [<- ho,<- hx] at w1 ⊢
     rw [<- hx] at xa ls
     have xm:x<=x2:=by omega
     clear less n3 n2
    all_goals
     refine wpS_bind (qr (qf k2) ?_)
     have w2:=(qMl (out:=o2) (show x2<a.size by omega) k2 ls).trans w1
     by_cases z:y+1=b.size
     case pos=>
      rw [if_pos (by simpa using z)]
      exact wpS_pure ⟨g3.set _,.inl ⟨_,rfl,(J9 z).trans w2⟩⟩
     case' neg=>
     rw [if_neg (by simpa using z)]
     have y1:y+1<b.size:=by omega
     have xs:x2<a.size:=by omega
     refine wpS_bind (qr (qf xs) ?_)
     obtain ⟨kb,m1,m2,m3⟩:=qFG (E:=E) (b:=y+1) (n:=b.size - (y+1)) C (hk4 _) (Sa _ (jm xs)) Sb (by omega) (fun i j _ h1 h2=>ob i j h1 (by omega))
     refine wpS_bind (ju (by omega) m1 m2 ?_)
     dsimp only
     have notl:y+1+kb<b.size->¬ key (gt b (y+1+kb))<key (gt a x2):=fun q z=>by
      have:=(m3 kb (by omega)).mp z
      omega
     have w3:=(qM7 (out:=o2.push (gt b y)) xs (show y+1+kb<=b.size by omega) (fun i hi=>(m3 i (by omega)).mpr hi)).trans w2
     generalize o2.push (gt b y)=o3 at w2 w3 ⊢
     by_cases kz2:kb > 0
     case' pos=>
      rw [if_pos kz2]
      by_cases z2:y+1+kb=b.size
      case pos=>
       rw [if_pos (by simpa using z2)]
       exact wpS_pure ⟨g3.set _,.inl ⟨_,rfl,(J9 z2).trans w3⟩⟩
      case' neg=>
      rw [if_neg (by simpa using z2)]
      have yb:y+1+kb<b.size:=by omega
      have nl:=notl yb
      have ym:y+1<=y+1+kb:=by omega
      clear notl m3 m2 z2
      generalize o3++b.extract (y+1) (y+1+kb)=o4 at w3 ⊢
      generalize y+1+kb=y4 at w3 yb nl ym ⊢
     case' neg=>
      rw [if_neg kz2]
      have nl:=notl (by omega)
      rw [show y+1+kb=y+1 by omega] at nl
      clear w3 notl m3 m2
      have w3:=w2
      obtain ⟨o4,y4,ho4,hy4⟩:∃ o4 y4,o4=o3/\y4=y+1:=⟨o3,y+1,rfl,rfl⟩
      rw [<- ho4,<- hy4] at w3 ⊢
      rw [<- hy4] at nl
      have yb:y4<b.size:=by omega
      have ym:y+1<=y4:=by omega
     all_goals
      refine wpS_bind (qr (qf xs) ?_)
      have w4:=(qNF (out:=o4) xs yb nl).trans w3
      by_cases z3:x2+1+1=a.size
      ·rw [if_pos (by simpa using z3)]
       exact wpS_pure ⟨g3.set _,.inl ⟨_,rfl,(qAu z3 (lst z3)).trans w4⟩⟩
      rw [if_neg (by simpa using z3)]
      by_cases z4:(decide (kk<7) && decide (kb<7))=true
      ·rw [if_pos z4]
       exact wpS_pure ⟨g3.set _,.inr ⟨rfl,by dsimp only; omega,yb,w4,by dsimp only; omega⟩⟩
      ·rw [if_neg z4]
       exact wpS_pure ⟨g3.set _,rfl,by dsimp only; omega,yb,w4,by dsimp only; omega⟩
  ·rintro ⟨c1,o,x,y,mg3,ac3,bc3⟩ st3 ⟨g3,rfl,k1,k2,k3,k4⟩
   exact ⟨g3,.inr ⟨rfl,k1,k2,k3,k4⟩⟩
  ·exact ⟨g2,rfl,j1,j2,j3,j4⟩
  rintro ⟨c1,o,x,y,mg3,ac3,bc3⟩ st3 ⟨g3,⟨r,rfl,e⟩ | ⟨rfl,k1,k2,k3,k4⟩⟩
  ·exact wpS_pure ⟨g3,r,rfl,e⟩
  dsimp only at k1 k2 k3 k4 ⊢
  refine wpS_bind (qDM ?_)
  exact wpS_pure ⟨g3.set _,rfl,k1,k2,k3,by dsimp only; omega⟩
 ·rintro ⟨c1,out,ia,ib,mg⟩ st1 ⟨g1,rfl,i1,i2,i3,i4⟩
  dsimp only at i1 i2 i3 i4
  omega
 ·exact ⟨g,rfl,by dsimp only; omega,by dsimp only; omega,w0,by dsimp only; omega⟩
 ·rintro ⟨c1,out,ia,ib,mg⟩ st1 ⟨g1,r,rfl,e⟩
  exact wpS_pure (q' r st1 g1 e)
end
noncomputable def qHZ:Array Keyed->Array Keyed->StateT SortSt Sem (Array Keyed):=sortPriv% PySem.Builtin.mergeHi
theorem qAI (a:Array Keyed) (n:Nat):(a.extract 0 n).toList=a.toList.take n:=by
 rw [gU,fO,TL,Nat.sub_zero]
theorem YI (a:Array Keyed) (i j:Nat):(a.extract i j).toList=(a.toList.drop i).take (j - i):=by
 rw [gU,fO]
theorem Jc {a:Array Keyed} {j:Nat} (h:j<a.toList.length):a.toList[j]=gt a j:=by
 have h':j<a.size:=by simpa using h
 simp [gt,ZR,h']
theorem qBW {a:Array Keyed} {n:Nat} {x:Keyed} (h:x∈a.toList.take n):∃ j,j<n/\j<a.size/\gt a j=x:=by
 have ⟨j,hj,e⟩:=gW.mp h
 rw [yQ] at hj
 rw [fS,Jc] at e
 exact ⟨j,by omega,by have:=wM (xs:=a); omega,e⟩
theorem qC4 {a:Array Keyed} {i m:Nat} {x:Keyed} (h:x∈(a.toList.drop i).take m):∃ j,i<=j/\j<i+m/\j<a.size/\gt a j=x:=by
 have ⟨j,hj,e⟩:=gW.mp h
 rw [yQ,kS,wM] at hj
 rw [fS,VP,Jc] at e
 exact ⟨i+j,by omega,by omega,by omega,e⟩
theorem qCa {a:Array Keyed} {n:Nat} (h1:1<=n) (h2:n<=a.size):a.toList.take n=a.toList.take (n - 1)++[gt a (n - 1)]:=by
 have hl:n - 1<a.toList.length:=by rw [wM]; omega
 have:=vF hl
 rw [Jc hl,show n - 1+1=n by omega] at this
 exact this
theorem qGA {a:Array Keyed} {k n:Nat} (h:k<=n):a.toList.take n=a.toList.take k++(a.toList.drop k).take (n - k):=by
 have:=List.take_add (l:=a.toList) (i:=k) (j:=n - k)
 rwa [show k+(n - k)=n by omega] at this
section
variable {key:Keyed->Nat} {a b out:Array Keyed} {na nb k:Nat}
noncomputable def Wh (key:Keyed->Nat) (a b out:Array Keyed) (na nb:Nat):List Keyed:=mrg key (a.toList.take na) (b.toList.take nb)++out.toList.reverse
theorem qMS (h1:1<=na) (h2:na<=a.size) (ob:qFo key b) (hb:nb<=b.size) (h:1<=nb->key (gt b (nb - 1))<key (gt a (na - 1))):Wh key a b (out.push (gt a (na - 1))) (na - 1) nb=Wh key a b out na nb:=by
 unfold Wh
 rw [qCa h1 h2,Jz key,kK,hG,yG]
 ·rfl
 ·intro y hy
  obtain ⟨j,j1,j2,rfl⟩:=qBW hy
  have:=ob j (nb - 1) (by omega) (by omega)
  have:=h (by omega)
  omega
theorem qNk (h1:1<=nb) (h2:nb<=b.size) (oa:qFo key a) (ha:na<=a.size) (h:1<=na->¬ key (gt b (nb - 1))<key (gt a (na - 1))):Wh key a b (out.push (gt b (nb - 1))) na (nb - 1)=Wh key a b out na nb:=by
 unfold Wh
 rw [qCa h1 h2,J5 key,kK,hG,yG]
 ·rfl
 ·intro y hy
  obtain ⟨j,j1,j2,rfl⟩:=qBW hy
  have:=oa j (na - 1) (by omega) (by omega)
  have:=h (by omega)
  omega
theorem qMr (h1:k<=na) (h2:na<=a.size) (ob:qFo key b) (hb:1<=nb) (hb2:nb<=b.size) (h:∀ i,k<=i->i<na->key (gt b (nb - 1))<key (gt a i)):Wh key a b (out++(a.extract k na).reverse) k nb=Wh key a b out na nb:=by
 unfold Wh
 rw [qGA h1,qFq key,yE,kO,YI,hG,WH,yG]
 intro x hx y hy
 obtain ⟨j,j1,j2,_,rfl⟩:=qBW hy |> fun ⟨j,j1,j2,e⟩=>(⟨j,j1,j2,j2,e⟩:∃ j,j<nb/\j<b.size/\j<b.size/\gt b j=y)
 obtain ⟨i,i1,i2,i3,rfl⟩:=qC4 hx
 have:=ob j (nb - 1) (by omega) (by omega)
 have:=h i i1 (by omega)
 omega
theorem qMc (h1:k<=nb) (h2:nb<=b.size) (oa:qFo key a) (ha:1<=na) (ha2:na<=a.size) (h:∀ i,k<=i->i<nb->¬ key (gt b i)<key (gt a (na - 1))):Wh key a b (out++(b.extract k nb).reverse) na k=Wh key a b out na nb:=by
 unfold Wh
 rw [qGA h1,qGZ key,yE,kO,YI,hG,WH,yG]
 intro x hx y hy
 obtain ⟨j,j1,j2,rfl⟩:=qBW hy
 obtain ⟨i,i1,i2,i3,rfl⟩:=qC4 hx
 have:=oa j (na - 1) (by omega) (by omega)
 have:=h i i1 (by omega)
 omega
theorem Jw (h:na=0):(a.extract 0 na++b.extract 0 nb++out.reverse).toList=Wh key a b out na nb:=by
 unfold Wh
 rw [yE,yE,qAI,qAI,kO,h,kP,jo]
 rfl
theorem qHq (h:nb=0):(a.extract 0 na++b.extract 0 nb++out.reverse).toList=Wh key a b out na nb:=by
 unfold Wh
 rw [yE,yE,qAI,qAI,kO,h,kP,jt,zK]
theorem Ju (h:nb=1) (hb:1<=b.size) (f:∀ i,i<a.size->key (gt b 0)<key (gt a i)):(b.extract 0 nb++a.extract 0 na++out.reverse).toList=Wh key a b out na nb:=by
 unfold Wh
 subst h
 have e:b.toList.take 1=[gt b 0]:=by
  have:=qCa (a:=b) (n:=1) (wH _) hb
  simpa using this
 rw [yE,yE,qAI,qAI,kO,e]
 have hm:∀ x∈a.toList.take na,key (gt b 0)<key x:=fun x hx=>by
  obtain ⟨j,_,j2,rfl⟩:=qBW hx
  exact f j j2
 generalize a.toList.take na=as at hm
 cases as with
 | nil=>rw [jo]; rfl
 | cons x as=>rw [qHQ key (hm x wD),jt]; rfl
end
section
variable {prog:Program} {w:World} {A:Around} {E:Value->Shared->Prop} {s:Shared} {κ:SortKind} {S:Keyed->Prop} {key:Keyed->Nat}
theorem qEY {a b:Array Keyed} {st0 st:SortSt} {Q:Array Keyed->SortSt->Prop} (C:Kn prog w A s κ S key) (hk:kindOf st0=κ) (Sa:∀ x∈a,S x) (Sb:∀ x∈b,S x) (oa:qFo key a) (ob:qFo key b) (na1:1<=a.size) (nb1:1<=b.size)
  (first:key (gt b 0)<key (gt a 0)) (last:∀ j,j<b.size->key (gt b j)<key (gt a (a.size - 1))) (g:SG st0 st) (q:∀ r st',SG st0 st'->r.toList=mrg key a.toList b.toList->Q r st'):wpS (model prog w) A E s (qHZ a b) Q st:=by
 have whole:∀ c:Array Keyed,c.toList.take c.size=c.toList:=fun c=>uH (by simp)
 have q':∀ r st',SG st0 st'->r.toList=Wh key a b #[] a.size b.size->Q r st':=fun r st' g' e=>q r st' g' (by
  rw [e]
  unfold Wh
  rw [whole,whole]
  exact zK _)
 have fst:∀ i,i<a.size->key (gt b 0)<key (gt a i):=fun i hi=>zZ first (oa 0 i (yN _) hi)
 refine wpS_bind (qAU ?_)
 refine wpS_bind (qr (qf (show a.size - 1<a.size by omega)) ?_)
 have w0:Wh key a b #[gt a (a.size - 1)] (a.size - 1) b.size=Wh key a b #[] a.size b.size:=qMS (out:=#[]) na1 (wH _) ob (wH _) fun _=>last _ (by omega)
 by_cases z1:a.size - 1=0
 ·rw [if_pos (by rw [z1]; rfl)]
  exact wpS_pure (q' _ _ g ((Jw z1).trans w0))
 rw [if_neg (by simpa using z1)]
 by_cases z2:b.size=1
 ·rw [if_pos (by rw [z2]; rfl)]
  exact wpS_pure (q' _ _ g ((Ju z2 nb1 fst).trans w0))
 rw [if_neg (by simpa using z2)]
 refine wpS_bind (wpS_get ?_)
 refine wpS_bind (wpS_mono (wpS_forRange (I:=fun i c st'=>SG st0 st'/\c.1=none/\(1<=c.2.1/\c.2.1<a.size/\2<=c.2.2.1/\c.2.2.1<=b.size)/\Wh key a b c.2.2.2.1 c.2.1 c.2.2.1=Wh key a b #[] a.size b.size/\c.2.1+c.2.2.1+i+1<=a.size+b.size) (Q:=fun c st'=>SG st0 st'/\∃ r,c.1=some r/\r.toList=Wh key a b #[] a.size b.size) ?_ ?_ ?_) ?_)
 ·rintro i ⟨c1,na,nb,out,mg⟩ st1 _ hi ⟨g1,rfl,i1,i3,i4⟩
  dsimp only at i1 i3 i4 ⊢
  refine wpS_bind (wpS_mono (wpS_forRange (I:=fun j c st'=>SG st0 st'/\c.1=none/\(1<=c.2.1/\c.2.1<a.size/\2<=c.2.2.1/\c.2.2.1<=b.size)/\Wh key a b c.2.2.2.1 c.2.1 c.2.2.1=Wh key a b #[] a.size b.size/\c.2.1+c.2.2.1+j<=na+nb) (Q:=fun c st'=>SG st0 st'/\((∃ r,c.1=some r/\r.toList=Wh key a b #[] a.size b.size)\/(c.1=none/\(1<=c.2.1/\c.2.1<a.size/\2<=c.2.2.1/\c.2.2.1<=b.size)/\Wh key a b c.2.2.2.1 c.2.1 c.2.2.1=Wh key a b #[] a.size b.size/\c.2.1+c.2.2.1+1<=na+nb))) ?_ ?_ ?_) ?_)
  ·rintro j ⟨c1,x,y,o1,ac,bc⟩ st2 _ hj ⟨g2,rfl,j1,j3,j4⟩
   dsimp only at j1 j3 j4 ⊢
   have hx:x - 1<a.size:=by omega
   have hy:y - 1<b.size:=by omega
   refine wpS_bind (qr (qf hy) (wpS_bind (qr (qf hx) (wpS_bind (qKx C (g2.kind.trans hk) (Sb _ (jm hy)) (Sa _ (jm hx)) ?_)))))
   by_cases lt:key (gt b (y - 1))<key (gt a (x - 1))
   ·rw [decide_eq_true lt]
    refine wpS_bind (qr (qf hx) ?_)
    have e:=(qMS (out:=o1) j1.1 (by omega) ob j1.2.2.2 fun _=>lt).trans j3
    by_cases z:x - 1=0
    ·rw [if_pos (by rw [z]; rfl)]
     exact wpS_pure ⟨g2,.inl ⟨_,rfl,(Jw z).trans e⟩⟩
    rw [if_neg (by simpa using z)]
    by_cases zz:ac+1≥mg
    ·rw [if_pos zz]
     exact wpS_pure ⟨g2,.inr ⟨rfl,by dsimp only; omega,e,by dsimp only; omega⟩⟩
    ·rw [if_neg zz]
     exact wpS_pure ⟨g2,rfl,by dsimp only; omega,e,by dsimp only; omega⟩
   ·rw [decide_eq_false lt]
    refine wpS_bind (qr (qf hy) ?_)
    have e:=(qNk (out:=o1) (show 1<=y by omega) j1.2.2.2 oa (show x<=a.size by omega) fun _=>lt).trans j3
    by_cases z:y - 1=1
    ·rw [if_pos (by rw [z]; rfl)]
     exact wpS_pure ⟨g2,.inl ⟨_,rfl,(Ju z nb1 fst).trans e⟩⟩
    rw [if_neg (by simpa using z)]
    by_cases zz:bc+1≥mg
    ·rw [if_pos zz]
     exact wpS_pure ⟨g2,.inr ⟨rfl,by dsimp only; omega,e,by dsimp only; omega⟩⟩
    ·rw [if_neg zz]
     exact wpS_pure ⟨g2,rfl,by dsimp only; omega,e,by dsimp only; omega⟩
  ·rintro ⟨c1,x,y,o1,ac,bc⟩ st2 ⟨g2,rfl,j1,j3,j4⟩
   dsimp only at j1 j3 j4 ⊢
   exact ⟨g2,.inr ⟨rfl,j1,j3,by omega⟩⟩
  ·exact ⟨g1,rfl,i1,i3,wH _⟩
  rintro ⟨c1,x0,y0,o0,ac,bc⟩ st2 ⟨g2,⟨r,rfl,e⟩ | ⟨rfl,j1,j3,j4⟩⟩
  ·exact wpS_pure ⟨g2,r,rfl,e⟩
  dsimp only at j1 j3 j4 ⊢
  refine wpS_bind (qAU ?_)
  refine wpS_bind (wpS_mono (wpS_forRange (I:=fun _ c st'=>SG st0 st'/\c.1=none/\(1<=c.2.1/\c.2.1<a.size/\2<=c.2.2.1/\c.2.2.1<=b.size)/\Wh key a b c.2.2.2.1 c.2.1 c.2.2.1=Wh key a b #[] a.size b.size/\c.2.1+c.2.2.1+1<=na+nb) (Q:=fun c st'=>SG st0 st'/\((∃ r,c.1=some r/\r.toList=Wh key a b #[] a.size b.size)\/(c.1=none/\(1<=c.2.1/\c.2.1<a.size/\2<=c.2.2.1/\c.2.2.1<=b.size)/\Wh key a b c.2.2.2.1 c.2.1 c.2.2.1=Wh key a b #[] a.size b.size/\c.2.1+c.2.2.1+1<=na+nb))) ?_ ?_ ?_) ?_)
  ·rintro j ⟨c1,x,y,o,mg3,ac3,bc3⟩ st3 _ hj ⟨g3,rfl,k1,k3,k4⟩
   dsimp only at k1 k3 k4 ⊢
   clear j1 j3 j4 i1 i3 i4
   have hk4:∀ g,kindOf (SortSt.mk' (kindOf st3) (arrOf st3) (pendingOf st3) g (failedOf st3))=κ:=fun g=>g3.kind.trans hk
   by_cases mz:mg3 > 1
   case' pos=>
    rw [if_pos mz]
    generalize mg3 - 1=mg4
   case' neg=>
    rw [if_neg mz]
   all_goals
    have hy:y - 1<b.size:=by omega
    refine wpS_bind (qDM ?_)
    refine wpS_bind (qr (qf hy) ?_)
    obtain ⟨kk,n1,n2,n3⟩:=qGS (E:=E) (b:=0) (n:=x) C (hk4 _) (Sb _ (jm hy)) Sa (by omega) (fun i j _ h1 h2=>oa i j h1 (by omega))
    refine wpS_bind (ju (by omega) n1 n2 ?_)
    dsimp only
    have w1:=(qMr (out:=o) n1 (show x<=a.size by omega) ob (show 1<=y by omega) k1.2.2.2 (fun i h1 h2=>zY fun z=>by
     have:=(n3 i h2).mp (by rwa [kT])
     omega)).trans k3
    have notl:1<=kk->¬ key (gt b (y - 1))<key (gt a (kk - 1)):=fun q=>by
     have:=(n3 (kk - 1) (by omega)).mpr (by omega)
     rwa [kT] at this
    by_cases kz:x - kk > 0
    case' pos=>
     rw [if_pos kz]
     by_cases z:kk=0
     case pos=>
      rw [if_pos (by simpa using z)]
      exact wpS_pure ⟨g3.set _,.inl ⟨_,rfl,(Jw z).trans w1⟩⟩
     case' neg=>
     rw [if_neg (by simpa using z)]
     have nl:=notl (by omega)
     have xr:1<=kk/\kk<=x:=by omega
     generalize o++(a.extract kk x).reverse=o2 at w1 ⊢
     generalize x - kk=kq
     generalize kk=x2 at w1 nl xr ⊢
    case' neg=>
     rw [if_neg kz]
     have ek:kk=x:=by omega
     rw [ek] at notl
     have nl:=notl (by omega)
     clear w1
     have w1:=k3
     obtain ⟨o2,x2,ho,hx⟩:∃ o2 x2,o2=o/\x2=x:=⟨o,x,rfl,rfl⟩
     generalize x - kk=kq
     rw [<- ho,<- hx] at w1 ⊢
     rw [<- hx] at nl
     have xr:1<=x2/\x2<=x:=by omega
    all_goals
     refine wpS_bind (qr (qf hy) ?_)
     have w2:=(qNk (out:=o2) (show 1<=y by omega) k1.2.2.2 oa (show x2<=a.size by omega) fun _=>nl).trans w1
     by_cases z1:y - 1=1
     case pos=>
      rw [if_pos (by rw [z1]; rfl)]
      exact wpS_pure ⟨g3.set _,.inl ⟨_,rfl,(Ju z1 nb1 fst).trans w2⟩⟩
     case' neg=>
     rw [if_neg (by simpa using z1)]
     have xs:x2 - 1<a.size:=by omega
     refine wpS_bind (qr (qf xs) ?_)
     obtain ⟨kb,m1,m2,m3⟩:=qFG (E:=E) (b:=0) (n:=y - 1) C (hk4 _) (Sa _ (jm xs)) Sb (by omega) (fun i j _ h1 h2=>ob i j h1 (by omega))
     refine wpS_bind (ju (by omega) m1 m2 ?_)
     dsimp only
     generalize o2.push (gt b (y - 1))=o3 at w2 ⊢
     have w3:=(qMc (out:=o3) m1 (show y - 1<=b.size by omega) oa xr.1 (show x2<=a.size by omega) (fun i h1 h2 z=>by
      have:=(m3 i h2).mp (by rwa [kT])
      omega)).trans w2
     have less:1<=kb->key (gt b (kb - 1))<key (gt a (x2 - 1)):=fun q=>by
      have:=(m3 (kb - 1) (by omega)).mpr (by omega)
      rwa [kT] at this
     by_cases kz2:y - 1 - kb > 0
     case' pos=>
      rw [if_pos kz2]
      by_cases z2:kb=1
      case pos=>
       rw [if_pos (by simpa using z2)]
       exact wpS_pure ⟨g3.set _,.inl ⟨_,rfl,(Ju z2 nb1 fst).trans w3⟩⟩
      case' neg=>
      rw [if_neg (by simpa using z2)]
      by_cases z3:kb=0
      case pos=>
       rw [if_pos (by simpa using z3)]
       exact wpS_pure ⟨g3.set _,.inl ⟨_,rfl,(qHq z3).trans w3⟩⟩
      case' neg=>
      rw [if_neg (by simpa using z3)]
      have ls:=less (by omega)
      have yr:2<=kb/\kb<=y - 1:=by omega
      generalize o3++(b.extract kb (y - 1)).reverse=o4 at w3 ⊢
      generalize y - 1 - kb=kr
      generalize kb=y4 at w3 ls yr ⊢
     case' neg=>
      rw [if_neg kz2]
      have ek2:kb=y - 1:=by omega
      rw [ek2] at less
      have ls:=less (by omega)
      clear w3
      have w3:=w2
      obtain ⟨o4,y4,ho4,hy4⟩:∃ o4 y4,o4=o3/\y4=y - 1:=⟨o3,y - 1,rfl,rfl⟩
      generalize y - 1 - kb=kr
      rw [<- ho4,<- hy4] at w3 ⊢
      rw [<- hy4] at ls
      have yr:2<=y4/\y4<=y - 1:=by omega
     all_goals
      refine wpS_bind (qr (qf xs) ?_)
      have w4:=(qMS (out:=o4) xr.1 (show x2<=a.size by omega) ob (show y4<=b.size by omega) fun _=>ls).trans w3
      by_cases z4:x2 - 1=0
      ·rw [if_pos (by rw [z4]; rfl)]
       exact wpS_pure ⟨g3.set _,.inl ⟨_,rfl,(Jw z4).trans w4⟩⟩
      rw [if_neg (by simpa using z4)]
      by_cases z5:(decide (kq<7) && decide (kr<7))=true
      ·rw [if_pos z5]
       exact wpS_pure ⟨g3.set _,.inr ⟨rfl,by dsimp only; omega,w4,by dsimp only; omega⟩⟩
      ·rw [if_neg z5]
       exact wpS_pure ⟨g3.set _,rfl,by dsimp only; omega,w4,by dsimp only; omega⟩
  ·rintro ⟨c1,x,y,o,mg3,ac3,bc3⟩ st3 ⟨g3,rfl,k1,k3,k4⟩
   exact ⟨g3,.inr ⟨rfl,k1,k3,k4⟩⟩
  ·exact ⟨g2,rfl,j1,j3,j4⟩
  rintro ⟨c1,x,y,o,mg3,ac3,bc3⟩ st3 ⟨g3,⟨r,rfl,e⟩ | ⟨rfl,k1,k3,k4⟩⟩
  ·exact wpS_pure ⟨g3,r,rfl,e⟩
  dsimp only at k1 k3 k4 ⊢
  refine wpS_bind (qDM ?_)
  exact wpS_pure ⟨g3.set _,rfl,k1,k3,by dsimp only; omega⟩
 ·rintro ⟨c1,na,nb,out,mg⟩ st1 ⟨g1,rfl,i1,i3,i4⟩
  dsimp only at i1 i3 i4
  omega
 ·exact ⟨g,rfl,by dsimp only; omega,w0,by dsimp only; omega⟩
 ·rintro ⟨c1,na,nb,out,mg⟩ st1 ⟨g1,r,rfl,e⟩
  exact wpS_pure (q' r st1 g1 e)
end
noncomputable def Seg (key:Keyed->Nat) (a:Array Keyed) (lo hi:Nat):Prop:=∀ i j,lo<=i->i<=j->j<hi->key (gt a i)<=key (gt a j)
noncomputable def Down (key:Keyed->Nat) (a:Array Keyed) (lo hi:Nat):Prop:=∀ i j,lo<=i->i<=j->j<hi->key (gt a j)<=key (gt a i)
structure Chg (a a':Array Keyed) (lo hi:Nat):Prop where
 perm:a'.Perm a
 out:∀ k,k<lo\/hi<=k->gt a' k=gt a k
theorem Chg.refl (a:Array Keyed) (lo hi:Nat):Chg a a lo hi:=⟨UM _,fun _ _=>rfl⟩
theorem Chg.trans {a b c:Array Keyed} {lo hi:Nat} (h:Chg a b lo hi) (g:Chg b c lo hi):Chg a c lo hi:=⟨g.perm.trans h.perm,fun k hk=>(g.out k hk).trans (h.out k hk)⟩
theorem Chg.wide {a b:Array Keyed} {lo hi lo' hi':Nat} (h:Chg a b lo hi) (h1:lo'<=lo) (h2:hi<=hi'):Chg a b lo' hi':=⟨h.perm,fun k hk=>h.out k (by omega)⟩
theorem qEV {a b:Array Keyed} {i j:Nat} (h:a[i]? = b[j]?):gt a i=gt b j:=by
 unfold gt
 rw [yO,yO,h]
theorem qBl {a:Array Keyed} {i j:Nat} (hj:j<=a.size) (k:Nat):gt (mirror a i j ((j - i) / 2)) k=if i<=k/\k<j then gt a (i+j - 1 - k) else gt a k:=by
 have e:=(getElem?_mirror_all (i:=i) hj k :)
 split
 ·next h=>rw [if_pos h] at e; exact qEV e
 ·next h=>rw [if_neg h] at e; exact qEV e
theorem qDx {a:Array Keyed} {i j:Nat} (hj:j<=a.size):Chg a (mirror a i j ((j - i) / 2)) i j:=⟨mirror_perm _ _ _ _,fun k hk=>by rw [qBl hj,if_neg (by omega)]⟩
structure Bs (κ:SortKind) (a0:Array Keyed) (p0:Array (Nat×Nat×Nat)) (st:SortSt):Prop where
 kind:kindOf st=κ
 failed:failedOf st=none
 pend:pendingOf st=p0
 perm:(arrOf st).Perm a0
section
variable {prog:Program} {w:World} {A:Around} {E:Value->Shared->Prop} {s:Shared} {κ:SortKind} {S:Keyed->Prop} {key:Keyed->Nat} {a0:Array Keyed} {p0:Array (Nat×Nat×Nat)}
theorem Bs.size {st:SortSt} (B:Bs κ a0 p0 st):(arrOf st).size=a0.size:=B.perm.size_eq
theorem Bs.in {st:SortSt} (B:Bs κ a0 p0 st) (h0:∀ x∈a0,S x):∀ x∈arrOf st,S x:=fun x hx=>h0 x (B.perm.mem_iff.mp hx)
theorem qBg {st:SortSt} {i j:Nat} {Q:Option Bool->SortSt->Prop} (C:Kn prog w A s κ S key) (h0:∀ x∈a0,S x) (B:Bs κ a0 p0 st) (hi:i<a0.size) (hj:j<a0.size) (q:Q (some (decide (key (gt (arrOf st) i)<key (gt (arrOf st) j)))) st):wpS (model prog w) A E s (ltAt' i j) Q st:=by
 have hi':i<(arrOf st).size:=by rw [B.size]; exact hi
 have hj':j<(arrOf st).size:=by rw [B.size]; exact hj
 refine wpS_bind (wpS_get (wpS_bind (qr (qf hi') (wpS_bind (qr (qf hj') ?_)))))
 exact qKx C B.kind (B.in h0 _ (jm hi')) (B.in h0 _ (jm hj')) q
theorem Bs.setA {st:SortSt} (B:Bs κ a0 p0 st) {b:Array Keyed} (p:b.Perm (arrOf st)):Bs κ a0 p0 (setArr st b):=⟨B.kind,B.failed,B.pend,p.trans B.perm⟩
theorem qHl {st:SortSt} {i j:Nat} {Q:Unit->SortSt->Prop} (B:Bs κ a0 p0 st) (hj:j<=a0.size) (q:∀ st',Bs κ a0 p0 st'->Chg (arrOf st) (arrOf st') i j->(∀ k,i<=k->k<j->gt (arrOf st') k=gt (arrOf st) (i+j - 1 - k))->Q () st'):wpS (model prog w) A E s (reverseSlice' i j) Q st:=by
 have hj':j<=(arrOf st).size:=by rw [B.size]; exact hj
 rw [reverseSlice'_eq]
 exact wpS_modify (q _ (B.setA (mirror_perm _ _ _ _)) (qDx hj') fun k h1 h2=>(qBl hj' k).trans (if_pos ⟨h1,h2⟩))
theorem qEf {lo nrem m:Nat} {st:SortSt} {Q:Option (Option Nat)×Nat->SortSt->Prop} (C:Kn prog w A s κ S key) (h0:∀ x∈a0,S x) (B:Bs κ a0 p0 st) (hz:lo+nrem<=a0.size) (h1:1<=m) (hm:m<=nrem) (sg:Seg key (arrOf st) lo (lo+m))
  (q:∀ n,m<=n->n<=nrem->Seg key (arrOf st) lo (lo+n)->(n<nrem->key (gt (arrOf st) (lo+n))<key (gt (arrOf st) (lo+n - 1)))->Q (none,n) st):wpS (model prog w) A E s (forIn [m:nrem] ((none,m):Option (Option Nat)×Nat) fun _ t=>ltAt' (lo+t.2) (lo+t.2 - 1) >>= fun x=>match x with
   | some b=>if b=true then pure (TF (none,t.2)) else pure (xC (none,t.2+1))
   | _=>pure (TF (some none,t.2))) Q st:=by
 refine wpS_mono (wpS_forRange (I:=fun i c st'=>st'=st/\c=(none,i)/\m<=i/\Seg key (arrOf st) lo (lo+i)) (Q:=fun c st'=>st'=st/\∃ n,c=(none,n)/\m<=n/\n<=nrem/\Seg key (arrOf st) lo (lo+n)/\(n<nrem->key (gt (arrOf st) (lo+n))<key (gt (arrOf st) (lo+n - 1)))) ?_ ?_ ?_) ?_
 ·rintro i c st' _ hi ⟨rfl,rfl,hmi,sgi⟩
  refine wpS_bind (qBg C h0 B (by dsimp only; omega) (by dsimp only; omega) ?_)
  dsimp only
  by_cases lt:key (gt (arrOf st') (lo+i))<key (gt (arrOf st') (lo+i - 1))
  ·rw [decide_eq_true lt]
   exact wpS_pure ⟨rfl,i,rfl,hmi,by omega,sgi,fun _=>lt⟩
  ·rw [decide_eq_false lt]
   refine wpS_pure ⟨rfl,rfl,by omega,fun x y hx hxy hy=>?_⟩
   by_cases e:y=lo+i
   ·subst e
    by_cases e2:x=lo+i
    ·rw [e2]; omega
    ·have:=sgi x (lo+i - 1) hx (by omega) (by omega)
     omega
   ·exact sgi x y hx hxy (by omega)
 ·rintro c st' ⟨rfl,rfl,hmi,sgi⟩
  rw [Nat.max_eq_right hm] at hmi sgi ⊢
  exact ⟨rfl,nrem,rfl,hmi,wH _,sgi,fun z=>absurd z (vO _)⟩
 ·exact ⟨rfl,rfl,wH _,sg⟩
 ·rintro c st' ⟨rfl,n,rfl,n1,n2,n3,n4⟩
  exact q n n1 n2 n3 n4
theorem qFs {lo n ok:Nat} {st:SortSt} {Q:Bool->SortSt->Prop} (C:Kn prog w A s κ S key) (h0:∀ x∈a0,S x) (B:Bs κ a0 p0 st) (hz:lo+n<=a0.size) (h1:1<=ok) (hn:ok<=n) (sg:Seg key (arrOf st) lo (lo+ok))
  (q:∀ st',Bs κ a0 p0 st'->Chg (arrOf st) (arrOf st') lo (lo+n)->Seg key (arrOf st') lo (lo+n)->Q true st'):wpS (model prog w) A E s (binarySort' lo n ok) Q st:=by
 refine wpS_bind (wpS_mono (wpS_forRange (I:=fun k c st'=>c=(none,())/\ok<=k/\Bs κ a0 p0 st'/\Chg (arrOf st) (arrOf st') lo (lo+n)/\Seg key (arrOf st') lo (lo+k)) (Q:=fun c st'=>c=(none,())/\Bs κ a0 p0 st'/\Chg (arrOf st) (arrOf st') lo (lo+n)/\Seg key (arrOf st') lo (lo+n)) ?_ ?_ ?_) ?_)
 ·rintro k c st1 _ hk ⟨rfl,hok,B1,g1,s1⟩
  have sz:=B1.size
  refine wpS_bind (wpS_mono (wpS_forRange (I:=fun i c st'=>st'=st1/\c.1=none/\c.2.1<=c.2.2/\c.2.2<=k/\(∀ x,x<c.2.1->¬ key (gt (arrOf st1) (lo+k))<key (gt (arrOf st1) (lo+x)))/\(∀ x,c.2.2<=x->x<k->key (gt (arrOf st1) (lo+k))<key (gt (arrOf st1) (lo+x)))/\c.2.2+i<=c.2.1+k) (Q:=fun c st'=>st'=st1/\c.1=none/\c.2.1<=k/\(∀ x,x<c.2.1->¬ key (gt (arrOf st1) (lo+k))<key (gt (arrOf st1) (lo+x)))/\(∀ x,c.2.1<=x->x<k->key (gt (arrOf st1) (lo+k))<key (gt (arrOf st1) (lo+x)))) ?_ ?_ ?_) ?_)
  ·rintro i ⟨c1,l,r⟩ st2 _ hi ⟨rfl,rfl,i1,i2,i3,i4,i5⟩
   dsimp only at i1 i2 i3 i4 i5 ⊢
   by_cases z:l≥r
   ·rw [if_pos z]
    have e:l=r:=by omega
    subst e
    exact wpS_pure ⟨rfl,rfl,i2,i3,i4⟩
   rw [if_neg z]
   refine wpS_bind (qBg C h0 B1 (by omega) (by omega) ?_)
   by_cases lt:key (gt (arrOf st2) (lo+k))<key (gt (arrOf st2) (lo+(l+r) / 2))
   ·rw [decide_eq_true lt]
    refine wpS_pure ⟨rfl,rfl,by dsimp only; omega,by dsimp only; omega,i3,fun x h1 h2=>?_,by dsimp only; omega⟩
    dsimp only at h1
    by_cases e:r<=x
    ·exact i4 x e h2
    ·have:=s1 (lo+(l+r) / 2) (lo+x) (by omega) (by omega) (by omega)
     omega
   ·rw [decide_eq_false lt]
    refine wpS_pure ⟨rfl,rfl,by dsimp only; omega,i2,fun x h1=>?_,i4,by dsimp only; omega⟩
    dsimp only at h1
    by_cases e:x<l
    ·exact i3 x e
    ·have:=s1 (lo+x) (lo+(l+r) / 2) (by omega) (by omega) (by omega)
     omega
  ·rintro ⟨c1,l,r⟩ st2 ⟨rfl,rfl,i1,i2,i3,i4,i5⟩
   dsimp only at i1 i2 i3 i4 i5 ⊢
   have e:l=r:=by omega
   subst e
   exact ⟨rfl,rfl,i2,i3,i4⟩
  ·exact ⟨rfl,rfl,yN _,wH _,fun x h=>absurd h (uE x),fun x h1 h2=>absurd h2 (by dsimp only at h1; omega),by dsimp only; omega⟩
  rintro ⟨c1,l,r⟩ st2 ⟨rfl,rfl,i2,i3,i4⟩
  dsimp only at i2 i3 i4 ⊢
  refine wpS_bind (wpS_modify (wpS_pure ?_))
  have hs:lo+k<(arrOf st2).size:=by omega
  have gb:∀ x,gt (bubble (arrOf st2) (lo+k) (lo+k - (lo+l))) x=if x=lo+l then gt (arrOf st2) (lo+k) else if lo+l<x/\x<=lo+k then gt (arrOf st2) (x - 1) else gt (arrOf st2) x:=fun x=>by
   have e:=getElem?_bubble hs (lo+k - (lo+l)) (by omega) x
   rw [show lo+k - (lo+k - (lo+l))=lo+l by omega] at e
   split
   ·next h=>rw [if_pos h] at e; exact qEV e
   ·next h=>
    rw [if_neg h] at e
    split
    ·next h2=>rw [if_pos h2] at e; exact qEV e
    ·next h2=>rw [if_neg h2] at e; exact qEV e
  refine ⟨rfl,by omega,B1.setA (bubble_perm _ _ _),g1.trans ⟨bubble_perm _ _ _,fun x hx=>?_⟩,fun x y h1 h2 h3=>?_⟩
  ·show gt (bubble _ _ _) x=_
   rw [gb,if_neg (by omega),if_neg (by omega)]
  ·show key (gt (bubble _ _ _) x)<=key (gt (bubble _ _ _) y)
   rw [gb,gb]
   have a1:∀ z,lo<=z->z<lo+l->key (gt (arrOf st2) z)<=key (gt (arrOf st2) (lo+k)):=fun z z1 z2=>by
    have:=i3 (z - lo) (by omega)
    rw [show lo+(z - lo)=z by omega] at this
    omega
   have a2:∀ z,lo+l<=z->z<lo+k->key (gt (arrOf st2) (lo+k))<=key (gt (arrOf st2) z):=fun z z1 z2=>by
    have:=i4 (z - lo) (by omega) (by omega)
    rw [show lo+(z - lo)=z by omega] at this
    omega
   by_cases x1:x=lo+l
   ·rw [if_pos x1]
    by_cases y1:y=lo+l
    ·rw [if_pos y1]; exact wH _
    ·rw [if_neg y1,if_pos (by omega)]
     exact a2 _ (by omega) (by omega)
   ·rw [if_neg x1]
    by_cases x2:lo+l<x/\x<=lo+k
    ·rw [if_pos x2,if_neg (by omega),if_pos (by omega)]
     exact s1 _ _ (by omega) (by omega) (by omega)
    ·rw [if_neg x2]
     by_cases y1:y=lo+l
     ·rw [if_pos y1]
      exact a1 _ (by omega) (by omega)
     ·rw [if_neg y1]
      by_cases y2:lo+l<y/\y<=lo+k
      ·rw [if_pos y2]
       exact s1 _ _ (by omega) (by omega) (by omega)
      ·rw [if_neg y2]
       exact s1 _ _ (by omega) (by omega) (by omega)
 ·rintro c st' ⟨rfl,h1,h2,h3,h4⟩
  have e:max (max ok 1) n=n:=by omega
  rw [e] at h4
  exact ⟨rfl,h2,h3,h4⟩
 ·have e:max ok 1=ok:=by omega
  rw [e]
  exact ⟨rfl,wH _,B,Chg.refl _ _ _,sg⟩
 ·rintro c st' ⟨rfl,h2,h3,h4⟩
  exact wpS_pure (q st' h2 h3 h4)
end
section
variable {prog:Program} {w:World} {A:Around} {E:Value->Shared->Prop} {s:Shared} {κ:SortKind} {S:Keyed->Prop} {key:Keyed->Nat} {a0:Array Keyed} {p0:Array (Nat×Nat×Nat)}
theorem qA9 {a b:Array Keyed} {i j:Nat} (c:Chg a b i j) (r:∀ k,i<=k->k<j->gt b k=gt a (i+j - 1 - k)) (e:∀ k,i<=k->k<j->key (gt a k)=key (gt a (j - 1))) (k:Nat):key (gt b k)=key (gt a k):=by
 by_cases h:i<=k/\k<j
 ·rw [r k h.1 h.2,e (i+j - 1 - k) (by omega) (by omega),e k h.1 h.2]
 ·rw [c.out k (by omega)]
theorem Yc {a b:Array Keyed} {lo hi:Nat} (e:∀ k,key (gt b k)=key (gt a k)) (d:Down key a lo hi):Down key b lo hi:=fun i j h1 h2 h3=>by
 rw [e,e]
 exact d i j h1 h2 h3
theorem YW {a:Array Keyed} {lo hi:Nat} (d:Down key a lo hi) (h:lo<hi->key (gt a hi)<=key (gt a (hi - 1))):Down key a lo (hi+1):=fun i j h1 h2 h3=>by
 by_cases e:j=hi
 ·subst e
  by_cases e2:i=j
  ·rw [e2]; exact wH _
  ·have:=h (by omega)
   have:=d i (j - 1) h1 (by omega) (by omega)
   omega
 ·exact d i j h1 h2 (by omega)
theorem qJY {lo nrem:Nat} {st:SortSt} {Q:Option Nat->SortSt->Prop} (C:Kn prog w A s κ S key) (h0:∀ x∈a0,S x) (B:Bs κ a0 p0 st) (hz:lo+nrem<=a0.size) (h1:1<=nrem)
  (q:∀ n st',Bs κ a0 p0 st'->Chg (arrOf st) (arrOf st') lo (lo+nrem)->1<=n->n<=nrem->Seg key (arrOf st') lo (lo+n)->Q (some n) st'):wpS (model prog w) A E s (countRun' lo nrem) Q st:=by
 refine wpS_bind (qEf C h0 B hz (wH 1) h1 (fun i j h1 h2 h3=>by rw [show i=j by omega]; exact wH _) fun n n1 n2 sg nx=>?_)
 dsimp only
 by_cases z:n=nrem
 ·rw [if_pos (by simpa using z)]
  exact wpS_pure (q n st B (Chg.refl _ _ _) n1 n2 sg)
 rw [if_neg (by simpa using z)]
 have nx:=nx (by omega)
 by_cases n2':n > 1
 case' pos=>
  rw [if_pos n2']
  refine wpS_bind (qBg C h0 B (by omega) (by omega) ?_)
  by_cases rose:key (gt (arrOf st) lo)<key (gt (arrOf st) (lo+n - 1))
  case pos=>
   rw [decide_eq_true rose]
   exact wpS_pure (q n st B (Chg.refl _ _ _) n1 n2 sg)
  case' neg=>
  rw [decide_eq_false rose]
  dsimp only
  rw [if_neg wU]
  have eq:∀ k,lo<=k->k<lo+n->key (gt (arrOf st) k)=key (gt (arrOf st) (lo+n - 1)):=fun k k1 k2=>by
   have:=sg lo k (wH _) k1 k2
   have:=sg k (lo+n - 1) k1 (by omega) (by omega)
   omega
  refine wpS_bind (qHl B (show lo+n<=a0.size by omega) fun st1 B1 c1 r1=>?_)
  have ke:=qA9 (key:=key) c1 r1 eq
  have d1:Down key (arrOf st1) lo (lo+(n+1)):=YW (hi:=lo+n) (Yc ke fun i j h1 h2 h3=>by rw [eq i h1 (by omega),eq j (by omega) h3]; exact wH _) fun _=>by
   rw [ke,ke]
   omega
  have g1:=c1.wide (wH lo) (show lo+n<=lo+nrem by omega)
 case' neg=>
  rw [if_neg n2']
  obtain ⟨st1,e1⟩:∃ st1,st1=st:=⟨_,rfl⟩
  have d1:Down key (arrOf st) lo (lo+(n+1)):=YW (hi:=lo+n) (fun i j h1 h2 h3=>by rw [show i=j by omega]; exact wH _) fun _=>by omega
  have B1:=B
  have g1:=Chg.refl (arrOf st) lo (lo+nrem)
  have gg:Chg (arrOf st) (arrOf st1) lo (lo+nrem):=by rw [e1]; exact g1
  clear g1
  have g1:=gg
  rw [<- e1] at d1 B1
  have hw:∀{m:StateT SortSt Sem (Option Nat)},wpS (model prog w) A E s m Q st1->wpS (model prog w) A E s m Q st:=fun h=>e1 ▸ h
  refine hw ?_
 all_goals
  refine wpS_bind (qAU ?_)
  refine wpS_bind (wpS_mono (wpS_forRange (I:=fun i c st'=>∃ neq,c=(none,i,neq)/\n+1<=i/\Bs κ a0 p0 st'/\Chg (arrOf st) (arrOf st') lo (lo+nrem)/\Down key (arrOf st') lo (lo+i)/\neq+1<=i/\∀ x,lo+i - (neq+1)<=x->x<lo+i->key (gt (arrOf st') x)=key (gt (arrOf st') (lo+i - 1)))
   (Q:=fun c st'=>∃ i neq,c=(none,i,neq)/\n+1<=i/\i<=nrem/\Bs κ a0 p0 st'/\Chg (arrOf st) (arrOf st') lo (lo+nrem)/\Down key (arrOf st') lo (lo+i)/\neq+1<=i/\∀ x,lo+i - (neq+1)<=x->x<lo+i->key (gt (arrOf st') x)=key (gt (arrOf st') (lo+i - 1))) ?_ ?_ ?_) ?_)
  ·rintro i c st2 _ hi ⟨neq,rfl,i1,B2,g2,d2,i2,i3⟩
   dsimp only
   refine wpS_bind (qBg C h0 B2 (by omega) (by omega) ?_)
   by_cases lt:key (gt (arrOf st2) (lo+i))<key (gt (arrOf st2) (lo+i - 1))
   ·rw [decide_eq_true lt]
    dsimp only
    rw [if_pos rfl]
    by_cases nz:neq > 0
    ·rw [if_pos nz]
     refine wpS_bind (qHl B2 (by omega) fun st3 B3 c3 r3=>wpS_pure ?_)
     have ke:=qA9 (key:=key) c3 r3 (by rw [show lo+i - (neq+1)=lo+i - (neq+1) from rfl]; exact i3)
     refine ⟨0,rfl,by omega,B3,g2.trans (c3.wide (by omega) (by omega)),YW (hi:=lo+i) (Yc ke d2) fun _=>?_,by omega,fun x h1 h2=>?_⟩
     ·rw [ke,ke]; omega
     ·rw [show x=lo+(i+1) - 1 by omega]
    ·rw [if_neg nz]
     refine wpS_pure ⟨0,rfl,by omega,B2,g2,YW (hi:=lo+i) d2 fun _=>by omega,by omega,fun x h1 h2=>?_⟩
     rw [show x=lo+(i+1) - 1 by omega]
   ·rw [decide_eq_false lt]
    dsimp only
    rw [if_neg wU]
    refine wpS_bind (qBg C h0 B2 (by omega) (by omega) ?_)
    by_cases lt2:key (gt (arrOf st2) (lo+i - 1))<key (gt (arrOf st2) (lo+i))
    ·rw [decide_eq_true lt2]
     dsimp only
     rw [if_pos rfl]
     exact wpS_pure ⟨i,neq,rfl,i1,by omega,B2,g2,d2,i2,i3⟩
    ·rw [decide_eq_false lt2]
     dsimp only
     rw [if_neg wU]
     refine wpS_pure ⟨neq+1,rfl,by omega,B2,g2,YW (hi:=lo+i) d2 fun _=>by omega,by omega,fun x h1 h2=>?_⟩
     rw [show lo+(i+1) - 1=lo+i by omega]
     by_cases e:x=lo+i
     ·rw [e]
     ·rw [i3 x (by omega) (by omega)]
      omega
  ·rintro c st2 ⟨neq,rfl,i1,B2,g2,d2,i2,i3⟩
   have e:max (n+1) nrem=nrem:=by omega
   rw [e] at i1 d2 i2 i3 ⊢
   exact ⟨nrem,neq,rfl,i1,wH _,B2,g2,d2,i2,i3⟩
  ·exact ⟨0,rfl,wH _,B1,g1,d1,by omega,fun x h1 h2=>by rw [show x=lo+(n+1) - 1 by omega]⟩
  rintro c st2 ⟨i,neq,rfl,i1,i4,B2,g2,d2,i2,i3⟩
  dsimp only
  by_cases nz:neq > 0
  case' pos=>
   rw [if_pos nz]
   refine wpS_bind (qHl B2 (by omega) fun st3 B3 c3 r3=>?_)
   have ke:=qA9 (key:=key) c3 r3 i3
   have d3:=Yc ke d2
   have g3:=g2.trans (c3.wide (show lo<=lo+i - (neq+1) by omega) (show lo+i<=lo+nrem by omega))
  case' neg=>
   rw [if_neg nz]
   obtain ⟨st3,e3⟩:∃ st3,st3=st2:=⟨_,rfl⟩
   rw [<- e3] at B2 g2 d2 ⊢
   have B3:=B2
   have d3:=d2
   have g3:=g2
  all_goals
   refine wpS_bind (qHl B3 (show lo+i<=a0.size by omega) fun st4 B4 c4 r4=>?_)
   have g4:=g3.trans (c4.wide (wH lo) (show lo+i<=lo+nrem by omega))
   have s4:Seg key (arrOf st4) lo (lo+i):=fun x y h1 h2 h3=>by
    rw [r4 x h1 (by omega),r4 y (by omega) h3]
    exact d3 _ _ (by omega) (by omega) (by omega)
   refine wpS_bind (qEf C h0 B4 hz (by omega) i4 s4 fun m m1 m2 m3 _=>?_)
   exact wpS_pure (q m st4 B4 g4 (by omega) m2 m3)
end
noncomputable def Ql (key:Keyed->Nat) (a:Array Keyed):List (Nat×Nat×Nat)->Nat->Nat->Prop
 | [],s,e=>s=e
 | x::r,s,e=>x.1=s/\1<=x.2.1/\Seg key a s (s+x.2.1)/\Ql key a r (s+x.2.1) e
section
variable {key:Keyed->Nat} {a b:Array Keyed}
theorem QL:∀{l m:List (Nat×Nat×Nat)} {s e:Nat},Ql key a (l++m) s e↔∃ k,Ql key a l s k/\Ql key a m k e
 | [],m,s,e=>⟨fun h=>⟨s,rfl,h⟩,fun ⟨k,h1,h2⟩=>by rw [show s=k from h1]; exact h2⟩
 | x::l,m,s,e=>by
  show (_/\_/\_/\Ql key a (l++m) _ e)↔_
  rw [QL]
  exact ⟨fun ⟨h1,h2,h3,k,h4,h5⟩=>⟨k,⟨h1,h2,h3,h4⟩,h5⟩,fun ⟨k,⟨h1,h2,h3,h4⟩,h5⟩=>⟨h1,h2,h3,k,h4,h5⟩⟩
theorem Q8:∀{l:List (Nat×Nat×Nat)} {s e:Nat},Ql key a l s e->s+l.length<=e
 | [],s,e,h=>xB h
 | x::l,s,e,h=>by
  have:=Q8 h.2.2.2
  have:=h.2.1
  rw [wZ]
  omega
theorem qCs {lo hi:Nat} (h:∀ k,lo<=k->k<hi->gt b k=gt a k) (g:Seg key a lo hi):Seg key b lo hi:=fun i j h1 h2 h3=>by
 rw [h i h1 (by omega),h j (by omega) h3]
 exact g i j h1 h2 h3
theorem Qh:∀{l:List (Nat×Nat×Nat)} {s e:Nat},(∀ k,s<=k->k<e->gt b k=gt a k)->Ql key a l s e->Ql key b l s e
 | [],s,e,_,h=>h
 | x::l,s,e,g,h=>by
  have l1:=Q8 h.2.2.2
  exact ⟨h.1,h.2.1,qCs (fun k k1 k2=>g k k1 (by omega)) h.2.2.1,Qh (fun k k1 k2=>g k (by omega) k2) h.2.2.2⟩
theorem qEE {l1 l2:List (Nat×Nat×Nat)} {sa na p sb nb r lo:Nat} (h:Ql key a (l1++(sa,na,p)::(sb,nb,r)::l2) 0 lo) (o:∀ k,k<sa\/sa+na+nb<=k->gt b k=gt a k) (sg:Seg key b sa (sa+na+nb)):Ql key b (l1++(sa,na+nb,p)::l2) 0 lo:=by
 obtain ⟨k,h1,h2⟩:=QL.mp h
 obtain ⟨e1,q1,q2,e2,q3,q4,q5⟩:=h2
 simp only at e1 q1 q2 e2 q3 q4 q5
 subst e1
 refine QL.mpr ⟨sa,Qh (fun k _ k2=>o k (.inl k2)) h1,rfl,by show 1<=na+nb; omega,?_,?_⟩
 ·show Seg key b sa (sa+(na+nb))
  rw [<- fW]
  exact sg
 ·show Ql key b l2 (sa+(na+nb)) lo
  rw [<- fW]
  exact Qh (fun k k1 _=>o k (.inr k1)) q5
theorem qAJ {i j t:Nat} (h:i+t<j) (hj:j<=a.size):gt (a.extract i j) t=gt a (i+t):=by
 refine qEV ?_
 rw [Array.getElem?_extract,if_pos (by omega)]
theorem Jt {i j:Nat} (hj:j<=a.size):(a.extract i j).size=j - i:=by rw [Array.size_extract]; omega
theorem qAo {i j:Nat} {S:Keyed->Prop} (h:∀ x∈a,S x):∀ x∈a.extract i j,S x:=fun x hx=>by
 rw [<- yX,YI] at hx
 exact h x (yX.mp (gV (uO hx)))
theorem qIT {c:Array Keyed} (o:qFo key c):Ord key c.toList:=by
 refine kZ.mpr fun i j hi hj ij=>?_
 rw [Jc hi,Jc hj]
 exact o i j (by omega) (by simpa using hj)
noncomputable def wrote (s0:Nat) (m:List Keyed) (a:Array Keyed):Array Keyed:=m.zipIdx.foldl (fun a x=>a.setIfInBounds (s0+x.2) x.1) a
theorem qAF (s0:Nat):∀(m:List Keyed) (c:Nat) (a:Array Keyed),s0+c+m.length<=a.size->((m.zipIdx c).foldl (fun a x=>a.setIfInBounds (s0+x.2) x.1) a).toList=a.toList.take (s0+c)++m++a.toList.drop (s0+c+m.length)
 | [],c,a,h=>by
  show a.toList=a.toList.take (s0+c)++[]++a.toList.drop (s0+c+0)
  rw [zK,fA,vY]
 | x::m,c,a,h=>by
  rw [wZ] at h
  rw [UA,UK,qAF s0 m (c+1) _ (by rw [fY]; omega),TM]
  have hl:s0+c<a.toList.length:=by rw [wM]; omega
  rw [wZ,show s0+(c+1)=s0+c+1 by omega,show s0+c+(m.length+1)=s0+c+1+m.length by omega]
  rw [vF (by rw [List.length_set]; exact hl),List.getElem_set_self,List.take_set_of_le (wH _),List.drop_set_of_lt (by omega)]
  simp
theorem qFF {l1 m l2:List Keyed} {c:Array Keyed} (e:c.toList=l1++m++l2):(∀ k,k<l1.length->gt c k=l1.getD k dK)/\(∀ k,k<m.length->gt c (l1.length+k)=m.getD k dK)/\∀ k,gt c (l1.length+m.length+k)=l2.getD k dK:=by
 have g:∀ k,gt c k=(l1++m++l2).getD k dK:=fun k=>by
  rw [<- e]
  unfold gt
  rw [yO,wF,yC]
 refine ⟨fun k hk=>?_,fun k hk=>?_,fun k=>?_⟩
 ·rw [g,wF,yG,yL hk,wF]
 ·rw [g,wF,yL (by rw [wO]; omega),zU (by omega),xF,wF]
 ·rw [g,wF,zU (by rw [wO]; omega),wO,xF,wF]
theorem qEx (a:Array Keyed) (k:Nat):a.toList.getD k dK=gt a k:=by
 unfold gt
 rw [yO,wF,yC]
theorem qHY {s1 sb kb:Nat} {r:List Keyed} (h1:s1<=sb) (h2:sb+kb<=a.size) {sa e:Nat} (ha:sa<=s1) (he:sb+kb<=e) (es:e<=a.size) (A1:Seg key a sa sb) (A2:Seg key a sb e)
  (lo:∀ t,sa<=t->t<s1->key (gt a t)<=key (gt a sb)) (hi:∀ t,sb+kb<=t->t<e->sa<sb->key (gt a (sb - 1))<=key (gt a t)) (hr:r=mrg key (a.extract s1 sb).toList (a.extract sb (sb+kb)).toList):(wrote s1 r a).Perm a/\(∀ k,k<s1\/sb+kb<=k->gt (wrote s1 r a) k=gt a k)/\Seg key (wrote s1 r a) sa e:=by
 have x1:(a.extract s1 sb).size=sb - s1:=Jt (by omega)
 have x2:(a.extract sb (sb+kb)).size=kb:=by rw [Jt h2]; omega
 have rl:r.length=sb - s1+kb:=by rw [hr,qCp,wM,wM,x1,x2]
 have rp:r.Perm ((a.extract s1 sb).toList++(a.extract sb (sb+kb)).toList):=hr ▸ JC key _ _
 have ro:Ord key r:=by
  rw [hr]
  refine qCn key (qIT fun i j ij hj=>?_) (qIT fun i j ij hj=>?_)
  ·rw [x1] at hj
   rw [qAJ (by omega) (by omega),qAJ (by omega) (by omega)]
   exact A1 _ _ (by omega) (by omega) (by omega)
  ·rw [x2] at hj
   rw [qAJ (by omega) h2,qAJ (by omega) h2]
   exact A2 _ _ (by omega) (by omega) (by omega)
 have wl:(wrote s1 r a).toList=a.toList.take s1++r++a.toList.drop (sb+kb):=by
  have:=qAF s1 r 0 a (by omega)
  rw [fA,rl,show s1+(sb - s1+kb)=sb+kb by omega] at this
  exact this
 have tl:(a.toList.take s1).length=s1:=by rw [yQ,wM]; omega
 obtain ⟨g1,g2,g3⟩:=qFF wl
 rw [tl] at g1 g2 g3
 have o1:∀ k,k<s1->gt (wrote s1 r a) k=gt a k:=fun k hk=>by
  rw [g1 k hk,wF,TX hk,<- wF,qEx]
 have o3:∀ k,sb+kb<=k->gt (wrote s1 r a) k=gt a k:=fun k hk=>by
  have:=g3 (k - (sb+kb))
  rw [rl,show s1+(sb - s1+kb)+(k - (sb+kb))=k by omega] at this
  rw [this,wF,WX,show sb+kb+(k - (sb+kb))=k by omega,<- wF,qEx]
 have o2:∀ k,s1<=k->k<sb+kb->∃ h:k - s1<r.length,gt (wrote s1 r a) k=r[k - s1]:=fun k k1 k2=>by
  have hk:k - s1<r.length:=by omega
  have:=g2 (k - s1) hk
  rw [show s1+(k - s1)=k by omega] at this
  exact ⟨hk,by rw [this,wF,wA hk]; rfl⟩
 have src:∀ x∈r,∃ t,s1<=t/\t<sb+kb/\gt a t=x:=fun x hx=>by
  rcases zR.mp (rp.mem_iff.mp hx) with z | z
  ·rw [YI] at z
   obtain ⟨j,j1,j2,_,rfl⟩:=qC4 z
   exact ⟨j,j1,by omega,rfl⟩
  ·rw [YI] at z
   obtain ⟨j,j1,j2,_,rfl⟩:=qC4 z
   exact ⟨j,by omega,by omega,rfl⟩
 refine ⟨?_,fun k hk=>hk.elim (o1 k) (o3 k),fun i j hi' ij hj=>?_⟩
 ·rw [uJ,wl]
  have e1:a.toList=a.toList.take s1++((a.toList.drop s1).take (sb - s1)++(a.toList.drop sb).take kb)++a.toList.drop (sb+kb):=by
   have c1:=(vY (sb+kb) a.toList).symm
   rw [qGA (show s1<=sb+kb by omega)] at c1
   have c2:(a.toList.drop s1).take (sb+kb - s1)=(a.toList.drop s1).take (sb - s1)++(a.toList.drop sb).take kb:=by
    have:=List.take_add (l:=a.toList.drop s1) (i:=sb - s1) (j:=kb)
    rw [TK,show s1+(sb - s1)=sb by omega,show sb - s1+kb=sb+kb - s1 by omega] at this
    exact this
   rw [c2] at c1
   exact c1
  rw [YI,YI,show sb+kb - sb=kb by omega] at rp
  conv=>rhs; rw [e1]
  exact (rp.append_left _).append_right _
 ·by_cases z:i=j
  ·rw [z]; exact wH _
  by_cases i1:i<s1
  ·rw [o1 i i1]
   by_cases j1:j<s1
   ·rw [o1 j j1]
    exact A1 i j hi' ij (by omega)
   ·by_cases j2:j<sb+kb
    ·obtain ⟨h,e⟩:=o2 j (by omega) j2
     rw [e]
     obtain ⟨t,t1,t2,e'⟩:=src _ (yY h)
     rw [<- e']
     by_cases t3:t<sb
     ·exact A1 i t hi' (by omega) t3
     ·have:=lo i hi' i1
      have:=A2 sb t (wH _) (by omega) (by omega)
      omega
    ·rw [o3 j (by omega)]
     have:=lo i hi' i1
     have:=A2 sb j (wH _) (by omega) hj
     omega
  ·by_cases i2:i<sb+kb
   ·obtain ⟨h,e⟩:=o2 i (by omega) i2
    rw [e]
    by_cases j2:j<sb+kb
    ·obtain ⟨h',e'⟩:=o2 j (by omega) j2
     rw [e']
     exact kZ.mp ro _ _ h h' (by omega)
    ·rw [o3 j (by omega)]
     obtain ⟨t,t1,t2,e'⟩:=src _ (yY h)
     rw [<- e']
     by_cases t3:t<sb
     ·have:=hi j (by omega) hj (by omega)
      have:=A1 t (sb - 1) (by omega) (by omega) (by omega)
      omega
     ·exact A2 t j (by omega) (by omega) hj
   ·rw [o3 i (by omega),o3 j (by omega)]
    exact A2 i j (by omega) (by omega) hj
end
theorem qBM {α:Type} (x y z:α) (l2:List α):∀ l1:List α,((l1++x::y::l2).set l1.length z).eraseIdx (l1.length+1)=l1++z::l2
 | []=>rfl
 | a::l1=>congrArg (a :: ·) (qBM x y z l2 l1)
theorem Jj {α:Type} {l:List α} {i:Nat} (h:i+1<l.length):∃ l1 x y l2,l=l1++x::y::l2/\l1.length=i:=by
 refine ⟨l.take i,l[i],l[i+1],l.drop (i+2),?_,by rw [yQ]; omega⟩
 have e1:=kY (show i<l.length by omega)
 have e2:=kY h
 rw [<- e2,<- e1]
 exact (vY i l).symm
structure Rn (κ:SortKind) (key:Keyed->Nat) (a0:Array Keyed) (lo:Nat) (st:SortSt):Prop where
 kind:kindOf st=κ
 failed:failedOf st=none
 perm:(arrOf st).Perm a0
 ch:Ql key (arrOf st) (pendingOf st).toList 0 lo
section
variable {prog:Program} {w:World} {A:Around} {E:Value->Shared->Prop} {s:Shared} {κ:SortKind} {S:Keyed->Prop} {key:Keyed->Nat} {a0:Array Keyed}
theorem qM9 {st st':SortSt} {Q:PUnit->SortSt->Prop} (q:Q ⟨⟩ st'):wpS (model prog w) A E s (set st':StateT SortSt Sem PUnit) Q st:=by
 unfold wpS
 rw [StateT.run_set]
 exact wI ⟨rfl,q⟩
theorem qBh {i lo:Nat} {st:SortSt} {Q:Bool->SortSt->Prop} (C:Kn prog w A s κ S key) (h0:∀ x∈a0,S x) (B:Rn κ key a0 lo st) (hlo:lo<=a0.size) (hi:i+1<(pendingOf st).size)
  (q:∀ st',Rn κ key a0 lo st'->(pendingOf st').size+1=(pendingOf st).size->(∀ k,lo<=k->gt (arrOf st') k=gt (arrOf st) k)->Q true st'):wpS (model prog w) A E s (mergeAt' i) Q st:=by
 obtain ⟨l1,⟨sa,na,p⟩,⟨sb,nb,r⟩,l2,el,ll⟩:=Jj (l:=(pendingOf st).toList) (i:=i) (by rw [wM]; exact hi)
 have ch:=B.ch
 rw [el] at ch
 obtain ⟨k,c1,c2⟩:=QL.mp ch
 obtain ⟨z1,q1,A1,z2,q2,A2,c3⟩:=c2
 simp only at z1 q1 A1 z2 q2 A2 c3
 subst z1
 subst z2
 have cl:=Q8 c3
 have sz:(arrOf st).size=a0.size:=B.perm.size_eq
 have e1:(pendingOf st)[i]? = some (sa,na,p):=by
  rw [<- yC,el,zU (by omega),ll,ZT]
  rfl
 have e2:(pendingOf st)[i+1]? = some (sa+na,nb,r):=by
  rw [<- yC,el,zU (by omega),ll,xF]
  rfl
 have pe:(((pendingOf st).setIfInBounds i (sa,na+nb,p)).eraseIdxIfInBounds (i+1)).toList=l1++(sa,na+nb,p)::l2:=by
  rw [Array.toList_eraseIdxIfInBounds,TM,el,<- ll]
  exact qBM _ _ _ _ _
 generalize hpd:((pendingOf st).setIfInBounds i (sa,na+nb,p)).eraseIdxIfInBounds (i+1)=pd at pe
 have ps:pd.size+1=(pendingOf st).size:=by
  have h1:=congrArg WC pe
  have h2:=congrArg WC el
  simp only [wM,wO,wZ] at h1 h2
  omega
 have Sarr:∀ x∈arrOf st,S x:=fun x hx=>h0 x (B.perm.mem_iff.mp hx)
 have fin:∀ st':SortSt,kindOf st'=κ->failedOf st'=none->pendingOf st'=pd->(arrOf st').Perm (arrOf st)->(∀ k,k<sa\/sa+na+nb<=k->gt (arrOf st') k=gt (arrOf st) k)->Seg key (arrOf st') sa (sa+na+nb)->Q true st':=fun st' f1 f2 f3 f4 f5 f6=>
  q st' ⟨f1,f2,f4.trans B.perm,by rw [f3,pe]; exact qEE ch f5 f6⟩ (by rw [f3]; exact ps) fun k hk=>f5 k (.inr (by omega))
 refine wpS_bind (wpS_get ?_)
 rw [e1,e2]
 dsimp only
 rw [hpd]
 refine wpS_bind (qM9 (st':=SortSt.mk' (kindOf st) (arrOf st) pd (gallopOf st) (failedOf st)) ?_)
 generalize hst:(SortSt.mk' (kindOf st) (arrOf st) pd (gallopOf st) (failedOf st))=st1
 have k1:kindOf st1=κ:=by rw [<- hst]; exact B.kind
 have f1:failedOf st1=none:=by rw [<- hst]; exact B.failed
 have p1:pendingOf st1=pd:=by rw [<- hst]
 have a1:arrOf st1=arrOf st:=by rw [<- hst]
 have hsb:sa+na<(arrOf st).size:=by omega
 refine wpS_bind (qr (qf hsb) ?_)
 obtain ⟨kk,n1,n2,n3⟩:=qGS (st:=st1) (E:=E) (b:=sa) (n:=na) C k1 (Sarr _ (jm hsb)) Sarr (by omega) A1
 refine wpS_bind (ju (by omega) n1 n2 ?_)
 dsimp only
 have low:∀ t,sa<=t->t<sa+kk->key (gt (arrOf st) t)<=key (gt (arrOf st) (sa+na)):=fun t t1 t2=>by
  have:=(n3 (t - sa) (by omega)).mpr (by omega)
  rw [show sa+(t - sa)=t by omega] at this
  omega
 have both:(∀ t,sa<=t->t<sa+na->key (gt (arrOf st) t)<=key (gt (arrOf st) (sa+na)))->Seg key (arrOf st) sa (sa+na+nb):=fun h x y x1 xy y1=>by
  by_cases y2:y<sa+na
  ·exact A1 x y x1 xy y2
  ·by_cases x2:x<sa+na
   ·have:=h x x1 x2
    have:=A2 (sa+na) y (wH _) (by omega) y1
    omega
   ·exact A2 x y (by omega) xy y1
 by_cases z:na - kk=0
 ·rw [if_pos (by simpa using z)]
  refine wpS_pure (fin st1 k1 f1 p1 (by rw [a1]) (fun k _=>by rw [a1]) ?_)
  rw [a1]
  exact both fun t t1 t2=>low t t1 (by omega)
 rw [if_neg (by simpa using z)]
 have hla:sa+kk+(na - kk) - 1<(arrOf st).size:=by omega
 refine wpS_bind (qr (qf hla) ?_)
 rw [show sa+kk+(na - kk) - 1=sa+na - 1 by omega] at hla ⊢
 obtain ⟨kb,m1,m2,m3⟩:=qFG (st:=st1) (E:=E) (b:=sa+na) (n:=nb) C k1 (Sarr _ (jm hla)) Sarr (by omega) A2
 refine wpS_bind (ju (by omega) m1 m2 ?_)
 dsimp only
 by_cases z':kb=0
 ·rw [if_pos (by simpa using z')]
  refine wpS_pure (fin st1 k1 f1 p1 (by rw [a1]) (fun k _=>by rw [a1]) ?_)
  rw [a1]
  refine both fun t t1 t2=>?_
  have h1:¬ key (gt (arrOf st) (sa+na+0))<key (gt (arrOf st) (sa+na - 1)):=fun q=>by
   have:=(m3 0 (by omega)).mp q
   omega
  have:=A1 t (sa+na - 1) t1 (by omega) (by omega)
  rw [fA] at h1
  omega
 rw [if_neg (by simpa using z')]
 have x1:((arrOf st).extract (sa+kk) (sa+na)).size=na - kk:=by rw [Jt (by omega)]; omega
 have x2:((arrOf st).extract (sa+na) (sa+na+kb)).size=kb:=by rw [Jt (by omega)]; omega
 have g1:∀ t,t<na - kk->gt ((arrOf st).extract (sa+kk) (sa+na)) t=gt (arrOf st) (sa+kk+t):=fun t ht=>qAJ (by omega) (by omega)
 have g2:∀ t,t<kb->gt ((arrOf st).extract (sa+na) (sa+na+kb)) t=gt (arrOf st) (sa+na+t):=fun t ht=>qAJ (by omega) (by omega)
 have oa:qFo key ((arrOf st).extract (sa+kk) (sa+na)):=fun i j ij hj=>by
  rw [x1] at hj
  rw [g1 i (by omega),g1 j hj]
  exact A1 _ _ (by omega) (by omega) (by omega)
 have ob:qFo key ((arrOf st).extract (sa+na) (sa+na+kb)):=fun i j ij hj=>by
  rw [x2] at hj
  rw [g2 i (by omega),g2 j hj]
  exact A2 _ _ (by omega) (by omega) (by omega)
 have first:key (gt ((arrOf st).extract (sa+na) (sa+na+kb)) 0)<key (gt ((arrOf st).extract (sa+kk) (sa+na)) 0):=by
  rw [g1 0 (by omega),g2 0 (by omega),fA,fA]
  exact zY fun q=>by
   have:=(n3 kk (by omega)).mp q
   omega
 have last:∀ j,j<((arrOf st).extract (sa+na) (sa+na+kb)).size->key (gt ((arrOf st).extract (sa+na) (sa+na+kb)) j)<key (gt ((arrOf st).extract (sa+kk) (sa+na)) (((arrOf st).extract (sa+kk) (sa+na)).size - 1)):=fun j hj=>by
  rw [x2] at hj
  rw [x1,g1 _ (by omega),g2 j hj,show sa+kk+(na - kk - 1)=sa+na - 1 by omega]
  exact (m3 j (by omega)).mpr hj
 have done:∀(r:Array Keyed) (st':SortSt),SG st1 st'->r.toList=mrg key ((arrOf st).extract (sa+kk) (sa+na)).toList ((arrOf st).extract (sa+na) (sa+na+kb)).toList->
   Q true (SortSt.mk' (kindOf st') (wrote (sa+kk) r.toList (arrOf st')) (pendingOf st') (gallopOf st') (failedOf st')):=fun r st' g er=>by
  obtain ⟨mg,rfl⟩:=g
  have hs:=qHY (key:=key) (a:=arrOf st) (s1:=sa+kk) (sb:=sa+na) (kb:=kb) (r:=r.toList) (sa:=sa) (e:=sa+na+nb) (by omega) (by omega) (by omega) (by omega) (by omega) A1 A2 low (fun t t1 t2 _=>by
   have:¬ key (gt (arrOf st) (sa+na+(t - (sa+na))))<key (gt (arrOf st) (sa+na - 1)):=fun q=>by
    have:=(m3 (t - (sa+na)) (by omega)).mp q
    omega
   rw [show sa+na+(t - (sa+na))=t by omega] at this
   omega) er
  refine fin _ k1 f1 p1 ?_ (fun k hk=>?_) ?_
  ·show (wrote (sa+kk) r.toList (arrOf st1)).Perm _
   rw [a1]
   exact hs.1
  ·show gt (wrote (sa+kk) r.toList (arrOf st1)) k=_
   rw [a1]
   exact hs.2.1 k (by omega)
  ·show Seg key (wrote (sa+kk) r.toList (arrOf st1)) _ _
   rw [a1]
   exact hs.2.2
 have isn:∀ st':SortSt,SG st1 st'->(failedOf st').isNone=true:=fun st' g=>by
  obtain ⟨mg,rfl⟩:=g
  show (failedOf st1).isNone=true
  rw [f1]
  rfl
 have y1:1<=((arrOf st).extract (sa+kk) (sa+na)).size:=by rw [x1]; omega
 have y2:1<=((arrOf st).extract (sa+na) (sa+na+kb)).size:=by rw [x2]; omega
 by_cases sm:na - kk<=kb
 ·rw [if_pos sm]
  refine wpS_bind (qD3 (st0:=st1) C k1 (qAo Sarr) (qAo Sarr) oa ob y1 y2 first last ⟨gallopOf st1,rfl⟩ fun r st' g er=>?_)
  refine wpS_bind (wpS_modify (wpS_bind (wpS_get (wpS_pure ?_))))
  have d:=done r st' g er
  have i:=isn st' g
  show Q ((failedOf st').isNone) _
  rw [i]
  exact d
 ·rw [if_neg sm]
  refine wpS_bind (qEY (st0:=st1) C k1 (qAo Sarr) (qAo Sarr) oa ob y1 y2 first last ⟨gallopOf st1,rfl⟩ fun r st' g er=>?_)
  refine wpS_bind (wpS_modify (wpS_bind (wpS_get (wpS_pure ?_))))
  have d:=done r st' g er
  have i:=isn st' g
  show Q ((failedOf st').isNone) _
  rw [i]
  exact d
end
section
variable {key:Keyed->Nat} {a:Array Keyed}
theorem Y8 {g:Nat×Nat×Nat->Nat×Nat×Nat} (h:∀ x,(g x).1=x.1/\(g x).2.1=x.2.1):∀{l:List (Nat×Nat×Nat)} {i s e:Nat},Ql key a l s e->Ql key a (l.modify i g) s e
 | [],i,s,e,c=>by rw [List.modify_nil]; exact c
 | x::l,0,s,e,c=>by
  rw [List.modify_zero_cons]
  refine ⟨(h x).1.trans c.1,?_,?_,?_⟩
  ·rw [(h x).2]; exact c.2.1
  ·rw [(h x).2]; exact c.2.2.1
  ·rw [(h x).2]; exact c.2.2.2
 | x::l,i+1,s,e,c=>by
  rw [List.modify_succ_cons]
  exact ⟨c.1,c.2.1,c.2.2.1,Y8 h c.2.2.2⟩
end
section
variable {prog:Program} {w:World} {A:Around} {E:Value->Shared->Prop} {s:Shared} {κ:SortKind} {S:Keyed->Prop} {key:Keyed->Nat} {a0:Array Keyed}
theorem qJa {c:Prop} [Decidable c] {n m:Nat} (h:n+1<m):(if c then n - 1 else n)+1<m:=by
 split <;> omega
theorem Rn.push {lo n:Nat} {st:SortSt} (R:Rn κ key a0 lo st) (h1:1<=n) (sg:Seg key (arrOf st) lo (lo+n)):Rn κ key a0 (lo+n) (SortSt.mk' (kindOf st) (arrOf st) ((pendingOf st).push (lo,n,0)) (gallopOf st) (failedOf st)):=
 ⟨R.kind,R.failed,R.perm,by
  show Ql key (arrOf st) ((pendingOf st).push (lo,n,0)).toList 0 (lo+n)
  rw [kK]
  exact QL.mpr ⟨lo,R.ch,rfl,h1,sg,rfl⟩⟩
theorem Rn.pows {lo i:Nat} {st:SortSt} (R:Rn κ key a0 lo st) (g:Nat×Nat×Nat->Nat×Nat×Nat) (h:∀ x,(g x).1=x.1/\(g x).2.1=x.2.1):Rn κ key a0 lo (SortSt.mk' (kindOf st) (arrOf st) ((pendingOf st).modify i g) (gallopOf st) (failedOf st)):=
 ⟨R.kind,R.failed,R.perm,by
  show Ql key (arrOf st) ((pendingOf st).modify i g).toList 0 lo
  rw [Array.toList_modify]
  exact Y8 h R.ch⟩
theorem qHh {st:SortSt} {Q:Unit->SortSt->Prop} (C:Kn prog w A s κ S key) (h0:∀ x∈a0,S x) (k0:kindOf st=κ) (f0:failedOf st=none) (p0:pendingOf st = #[]) (pm:(arrOf st).Perm a0) (h2:2<=a0.size)
  (q:∀ st':SortSt,failedOf st'=none->(arrOf st').Perm a0->Seg key (arrOf st') 0 a0.size->Q () st'):wpS (model prog w) A E s sortRuns' Q st:=by
 have sz:(arrOf st).size=a0.size:=pm.size_eq
 refine wpS_bind (wpS_get ?_)
 dsimp only
 rw [sz]
 generalize (sortPriv% PySem.Builtin.minRun) a0.size a0.size 0=mr
 refine wpS_bind (wpS_mono (wpS_forRange (I:=fun i c st'=>c.1=none/\i<=c.2/\c.2<=a0.size/\Rn κ key a0 c.2 st') (Q:=fun c st'=>c=(none,a0.size)/\Rn κ key a0 a0.size st') ?_ ?_ ?_) ?_)
 ·rintro i ⟨c1,lo⟩ st1 _ hi ⟨rfl,i1,i2,R⟩
  dsimp only at i1 i2 R ⊢
  by_cases z:lo≥a0.size
  ·rw [if_pos z]
   have e:lo=a0.size:=by omega
   subst e
   exact wpS_pure ⟨rfl,R⟩
  rw [if_neg z]
  have B1:Bs κ a0 (pendingOf st1) st1:=⟨R.kind,R.failed,rfl,R.perm⟩
  refine wpS_bind (qJY C h0 B1 (show lo+(a0.size - lo)<=a0.size by omega) (by omega) fun n st2 B2 c2 n1 n2 sg2=>?_)
  dsimp only
  by_cases sm:n<mr
  case' pos=>
   rw [if_pos sm]
   refine wpS_bind (qAU ?_)
   have n4:n<=min (a0.size - lo) mr:=by omega
   have n5:lo+min (a0.size - lo) mr<=a0.size:=by omega
   generalize min (a0.size - lo) mr=fo at n4 n5 ⊢
   refine wpS_bind (qFs C h0 B2 n5 n1 n4 sg2 fun st3 B3 c3 sg3=>?_)
   rw [if_neg (show ¬ (!true)=true by decide)]
   have g3:=c2.trans (c3.wide (wH lo) (show lo+fo<=lo+(a0.size - lo) by omega))
   have m1:1<=fo:=by omega
   clear sg2 n2 sm
  case' neg=>
   rw [if_neg sm]
   obtain ⟨fo,ef⟩:∃ fo,fo=n:=⟨_,rfl⟩
   obtain ⟨st3,e3⟩:∃ st3,st3=st2:=⟨_,rfl⟩
   rw [<- ef,<- e3]
   rw [<- e3] at B2 c2 sg2
   rw [<- ef] at n1 n2 sg2
   have n5:lo+fo<=a0.size:=by omega
   have m1:=n1
   have B3:=B2
   have g3:=c2
   have sg3:=sg2
   clear sg2 sm
  all_goals
   have R3:Rn κ key a0 lo st3:=⟨B3.kind,B3.failed,B3.perm,by rw [B3.pend]; exact Qh (fun k _ k2=>g3.out k (.inl k2)) R.ch⟩
   refine wpS_bind (wpS_get ?_)
   cases hb:(pendingOf st3).back? with
   | none=>
    dsimp only
    refine wpS_bind (wpS_modify (wpS_pure ⟨rfl,by dsimp only; omega,by dsimp only; omega,R3.push m1 sg3⟩))
   | some x=>
    obtain ⟨s1,l1,pw0⟩:=x
    dsimp only
    refine wpS_bind (wpS_mono (wpS_forRange (I:=fun _ c st'=>c=(none,())/\Rn κ key a0 lo st'/\∀ k,lo<=k->gt (arrOf st') k=gt (arrOf st3) k) (Q:=fun c st'=>c=(none,())/\Rn κ key a0 lo st'/\∀ k,lo<=k->gt (arrOf st') k=gt (arrOf st3) k) ?_ ?_ ?_) ?_)
    ·rintro j c st4 _ hj ⟨rfl,R4,g4⟩
     refine wpS_bind (wpS_get ?_)
     by_cases ps:(pendingOf st4).size > 1
     ·rw [if_pos ps,zI (show (pendingOf st4).size - 2<(pendingOf st4).size by omega)]
      generalize (pendingOf st4)[(pendingOf st4).size - 2]=tr
      obtain ⟨t1,t2,older⟩:=tr
      dsimp only
      by_cases ol:older<=(sortPriv% PySem.Builtin.power) a0.size (2*s1+l1) (2*s1+l1+l1+fo) a0.size
      ·rw [if_pos ol]
       exact wpS_pure ⟨rfl,R4,g4⟩
      ·rw [if_neg ol]
       refine wpS_bind (qBh C h0 R4 i2 (show (pendingOf st4).size - 2+1<(pendingOf st4).size by omega) fun st5 R5 _ g5=>?_)
       rw [if_neg (show ¬ (!true)=true by decide)]
       exact wpS_pure ⟨rfl,R5,fun k hk=>(g5 k hk).trans (g4 k hk)⟩
     ·rw [if_neg ps]
      exact wpS_pure ⟨rfl,R4,g4⟩
    ·exact fun c st4 h=>h
    ·exact ⟨rfl,R3,fun k _=>rfl⟩
    rintro c st4 ⟨rfl,R4,g4⟩
    dsimp only
    refine wpS_bind (wpS_modify (wpS_bind (wpS_modify (wpS_pure ?_))))
    have R5:=R4.pows (i:=(pendingOf st4).size - 1) (fun x=>match x with | (a,b,_)=>(a,b,(sortPriv% PySem.Builtin.power) a0.size (2*s1+l1) (2*s1+l1+l1+fo) a0.size)) fun x=>⟨rfl,rfl⟩
    exact ⟨rfl,by dsimp only; omega,by dsimp only; omega,R5.push m1 (qCs (fun k k1 _=>g4 k k1) sg3)⟩
 ·rintro ⟨c1,lo⟩ st1 ⟨rfl,i1,i2,R⟩
  dsimp only at i1 i2 R
  have e:lo=a0.size:=by omega
  subst e
  exact ⟨rfl,R⟩
 ·refine ⟨rfl,wH _,yN _,k0,f0,pm,?_⟩
  rw [p0]
  rfl
 rintro c st1 ⟨rfl,R⟩
 refine wpS_bind (wpS_mono (wpS_forRange (I:=fun i c st'=>c=(none,())/\Rn κ key a0 a0.size st'/\((pendingOf st').size<=1\/(pendingOf st').size+i<=a0.size)) (Q:=fun c st'=>c=(none,())/\Rn κ key a0 a0.size st'/\(pendingOf st').size<=1) ?_ ?_ ?_) ?_)
 ·rintro i c st2 _ hi ⟨rfl,R2,i1⟩
  refine wpS_bind (wpS_get ?_)
  by_cases z:(pendingOf st2).size<=1
  ·rw [if_pos z]
   exact wpS_pure ⟨rfl,R2,z⟩
  rw [if_neg z]
  refine wpS_bind (qBh C h0 R2 (wH _) ?_ fun st3 R3 p3 _=>?_)
  ·exact qJa (show (pendingOf st2).size - 2+1<(pendingOf st2).size by omega)
  ·rw [if_neg (show ¬ (!true)=true by decide)]
   exact wpS_pure ⟨rfl,R3,by omega⟩
 ·rintro c st2 ⟨rfl,R2,i1⟩
  exact ⟨rfl,R2,by omega⟩
 ·have:=Q8 R.ch
  rw [wM] at this
  exact ⟨rfl,R,.inr (by omega)⟩
 rintro c st2 ⟨rfl,R2,i1⟩
 refine wpS_pure (q st2 R2.failed R2.perm ?_)
 have ch:=R2.ch
 have hl:(pendingOf st2).toList.length<=1:=by rw [wM]; exact i1
 generalize (pendingOf st2).toList=l at ch hl
 match l,ch,hl with
 | [],ch,_=>exact absurd (show 0=a0.size from ch) (by omega)
 | [x],ch,_=>
  obtain ⟨e1,e2,e3,e4⟩:=ch
  have e4:0+x.2.1=a0.size:=e4
  rw [e4] at e3
  exact e3
end
theorem Jy {α β:Type} {f:α->β} {l m:List β} (h:l.Perm m):∀ js:List α,m=js.map f->∃ is:List α,is.Perm js/\l=is.map f:=by
 induction h with
 | nil=>
  intro js e
  cases js with
  | nil=>exact ⟨[],.nil,rfl⟩
  | cons _ _=>cases e
 | cons x _ ih=>
  intro js e
  cases js with
  | nil=>cases e
  | cons j js=>
   obtain ⟨e1,e2⟩:=vZ e
   obtain ⟨is,i1,i2⟩:=ih js e2
   exact ⟨j::is,i1.cons j,by rw [i2,e1]; rfl⟩
 | swap x y l=>
  intro js e
  match js,e with
  | [],e=>cases e
  | [_],e=>cases e
  | j::k::js,e=>
   obtain ⟨e1,e2⟩:=vZ e
   obtain ⟨e3,e4⟩:=vZ e2
   exact ⟨k::j::js,.swap j k js,by rw [e1,e3,e4]; rfl⟩
 | trans _ _ h1 h2=>
  intro js e
  obtain ⟨is,i1,i2⟩:=h2 js e
  obtain ⟨ks,k1,k2⟩:=h1 is i2
  exact ⟨ks,k1.trans i1,k2⟩
theorem qCf {α:Type} {p q:α->Bool}:∀{l:List α},(∀ x∈l,p x=true->q x=true)->(l.filter p).length<=(l.filter q).length/\((∃ x∈l,q x=true/\p x=false)->(l.filter p).length<(l.filter q).length)
 | [],_=>⟨wH _,fun ⟨_,h,_⟩=>absurd h zP⟩
 | x::l,h=>by
  obtain ⟨h1,h2⟩:=qCf (l:=l) fun y hy=>h y (wJ _ hy)
  have hx:=h x wD
  rw [yZ,yZ]
  cases hp:p x with
  | true=>
   rw [hx hp]
   refine ⟨VY h1,fun ⟨y,hy,y1,y2⟩=>Nat.succ_lt_succ (h2 ?_)⟩
   rcases wW.mp hy with e | e
   ·rw [e,hp] at y2; cases y2
   ·exact ⟨y,e,y1,y2⟩
  | false=>
   rw [if_neg wU]
   cases hq:q x with
   | true=>exact ⟨Nat.le_succ_of_le h1,fun _=>uP h1⟩
   | false=>
    refine ⟨h1,fun ⟨y,hy,y1,y2⟩=>h2 ?_⟩
    rcases wW.mp hy with e | e
    ·rw [e,hq] at y1; cases y1
    ·exact ⟨y,e,y1,y2⟩
noncomputable def rk (nss:List (List Int)) (ns:List Int):Nat:=(nss.filter fun m=>HT.lexLt m ns).length
theorem qLt {nss:List (List Int)} {a b:List Int} (ha:a∈nss):decide (rk nss a<rk nss b)=HT.lexLt a b:=by
 cases h:HT.lexLt a b with
 | true=>exact decide_eq_true ((qCf fun m _ hm=>lex_trans m a b hm h).2 ⟨a,ha,h,qA3 a⟩)
 | false=>
  refine decide_eq_false (WY.mpr (qCf fun m _ hm=>?_).1)
  rcases qE8 m a b hm with z | z
  ·exact z
  ·rw [h] at z; cases z
theorem YQ:∀{vs:List Value} {ns ms:List Int},IntsAre vs ns->IntsAre vs ms->ns=ms
 | [],_,_,h,g=>by cases h; cases g; rfl
 | _::_,_,_,h,g=>by
  cases h with
  | cons x t h=>
   cases g with
   | cons y u g=>rw [YQ h g]
section
variable {prog:Program} {w:World} {A:Around} {E:Value->Shared->Prop} {s:Shared}
noncomputable def keyOf (vs:List Value) (nss:List (List Int)) (x:Keyed):Nat:=@dite Nat (∃ j,j<vs.length/\vs.getD j xE=x.1) (yT _) (fun h=>rk nss (nss.getD h.choose [])) fun _=>0
theorem J0 {h:Heap} {vs:List Value} {nss:List (List Int)} (r:Rows h vs nss) {i:Nat} (hi:i<vs.length) {x:Keyed} (e:x.1=vs.getD i xE):keyOf vs nss x=rk nss (nss.getD i []):=by
 unfold keyOf
 have ex:∃ j,j<vs.length/\vs.getD j xE=x.1:=⟨i,hi,e.symm⟩
 rw [dif_pos ex]
 obtain ⟨j1,j2⟩:=ex.choose_spec
 generalize ex.choose=j at j1 j2
 obtain ⟨b1,its1,e1,t1,q1,_⟩:=r.at j1
 obtain ⟨b2,its2,e2,t2,q2,_⟩:=r.at hi
 rw [j2,e,e2] at e1
 cases e1
 obtain ⟨o1,g1,c1,n1,d1⟩:=t1
 obtain ⟨o2,g2,c2,n2,d2⟩:=t2
 rw [g1] at g2
 cases g2
 rw [d1] at d2
 cases d2
 rw [YQ q1 q2]
theorem qJn {vs:List Value} {nss:List (List Int)} (hu:A.units<cLine) (r:Rows s.heap vs nss):Kn prog w A s (tuples' true) (fun x=>∃ i,i<vs.length/\x=kas_item (pairsOf vs) i) (keyOf vs nss):=by
 rintro x y ⟨i,hi,rfl⟩ ⟨j,hj,rfl⟩ Q E hq
 have hn:=r.len
 rw [J0 r hi (by rw [kas_item_eq]),J0 r hj (by rw [kas_item_eq]),qLt (by
  rw [wF,wA (by omega)]
  exact yY (by omega))] at hq
 exact xQ (qE3 (prog:=prog) (w:=w) hu r i j Q hi hj hq) (fun _ _ z=>z) fun _ _ z=>z.elim
theorem qEX {R:Array Nat->Prop} {a:Addr} {vs:List Value} {n:Nat} {κ:SortKind} {P:PySem.Fin->Shared->Prop} (ho:s.heap.get? a=some (seqObj "list" vs.toArray n)) (fit:vs.length<=sizeLine)
  (hk:2<=vs.length->∀ Q:SortKind->Shared->Prop,Q κ { s with heap:=jc s.heap a vs }->wpAny (model prog w) A (keyKind' vs.toArray) Q E { s with heap:=jc s.heap a vs })
  (few:vs.length<2->R (VN (wV vs.length)))
  (many:2<=vs.length->∀ Q:Unit->SortSt->Prop,(∀(st':SortSt) (p:Array Nat),failedOf st'=none->Pm vs.length p->R p->arrOf st'=p.map (kas_item (pairsOf vs))->Q () st')->wpS (model prog w) A E { s with heap:=jc s.heap a vs } sortRuns' Q (SortSt.mk' κ (pairsOf vs) #[] 7 none))
  (h:∀ p,Pm vs.length p->R p->P (.done (.ret .none)) { s with heap:=sortedHeap s.heap a vs (Jm vs p) }):wpAny (model prog w) A (Builtin.«list.sort» ⟨[.ref a],[]⟩) P E s:=by
 have fitA:vs.toArray.size<=sizeLine:=by simpa using fit
 obtain ⟨m,o1⟩:∃ m,(s.heap.update a (gQ fun _=>(#[]:Array Value))).get? a=some (seqObj "list" #[] m):=⟨_,get?_update_seq ho _⟩
 have o2:(jc s.heap a vs).get? a=some (seqObj "list" #[] m):=wG _ (wG _ o1)
 have quiet:∀ k:Nat,(k != k)=false:=bne_self_eq_false
 rw [list_sort_plain]
 refine wB (listItems_at ho rfl (wB (listUpdate_at ho rfl (wB (seqEpoch_at o1 rfl (wB (TJ (wB (SD (vP ?_) (yN _))) fit)))) fitA (yN _))))
 show wpAny (model prog w) A _ P E { s with heap:=jc s.heap a vs }
 dsimp only
 rcases Nat.lt_or_ge vs.toArray.size 2 with one | more
 ·have hv:vs.length<2:=by simpa using one
  have snds:Array.map (fun x:Value×Value=>x.2) (vs.toArray.zip vs.toArray)=vs.toArray:=by
   apply UD.mp
   rw [ZH,Array.toList_zip]
   exact List.map_snd_zip (wH _)
  have g:=h _ ⟨UM _⟩ (few hv)
  rw [qFr] at g
  rw [if_pos one,if_pos one]
  refine wB (wI ?_)
  rw [StateT.run_pure]
  refine wB (wI ?_)
  show wpAny (model prog w) A (seqEpoch a >>= _) P E _
  refine wB (seqEpoch_at o2 rfl (wB (listUpdate_at o2 rfl ?_ (yN _) (by show (Array.map (fun x:Value×Value=>x.2) (vs.toArray.zip vs.toArray)).size<=_; rw [snds]; omega))))
  rw [quiet,if_neg wU]
  refine wI ?_
  show P (.done (.ret .none)) { s with heap:=(jc s.heap a vs).update a (gQ fun _=>Array.map (fun x:Value×Value=>x.2) (vs.toArray.zip vs.toArray)) }
  exact snds.symm ▸ g
 ·have hv:2<=vs.length:=by simpa using more
  have less:¬ vs.toArray.size<2:=WY.mpr more
  rw [if_neg less,if_neg less]
  refine wB (hk hv _ ?_)
  have run:=many hv (fun _ st'=>∃ p:Array Nat,Pm vs.length p/\R p/\arrOf st'=p.map (kas_item (pairsOf vs))/\failedOf st'=none) fun st' p f1 f2 f3 f4=>⟨p,f2,f3,f4,f1⟩
  refine wB (xQ run (fun ⟨_,st'⟩ s' ⟨es,p,P1,P2,har,hf⟩=>?_) fun _ _ z=>z)
  cases es
  have hout:(arrOf st').map (·.2)=Jm vs p:=by
   rw [har]
   apply UD.mp
   show ((p.map (kas_item (pairsOf vs))).map (·.2)).toList=p.toList.map fun i=>vs.getD i xE
   simp only [ZH,zW]
   apply uX
   intro i _
   show (kas_item (pairsOf vs) i).2=vs.getD i xE
   rw [kas_item_eq]
  have hsz:(Jm vs p).size=vs.length:=by
   unfold Jm
   rw [wL,wC,wM,P1.size]
  dsimp only
  rw [hout]
  refine wB (seqEpoch_at o2 rfl (wB (listUpdate_at o2 rfl ?_ (yN _) (by show (Jm vs p).size<=_; omega))))
  rw [hf,quiet,if_neg wU]
  exact wI (h p P1 P2)
theorem qAS {a:Addr} {vs:List Value} {nss:List (List Int)} {n:Nat} {P:PySem.Fin->Shared->Prop} (hu2:A.units<cLine) (ho:s.heap.get? a=some (seqObj "list" vs.toArray n)) (r2:2<=vs.length->Rows (jc s.heap a vs) vs nss) (fit:vs.length<=sizeLine)
  (h:∀ p:Array Nat,Pm vs.length p->(p.toList.map fun i=>nss.getD i []).Pairwise (fun a b=>HT.lexLt b a=false)->P (.done (.ret .none)) { s with heap:=sortedHeap s.heap a vs (Jm vs p) }):wpAny (model prog w) A (Builtin.«list.sort» ⟨[.ref a],[]⟩) P E s:=by
 refine qEX (R:=fun p=>(p.toList.map fun i=>nss.getD i []).Pairwise (fun a b=>HT.lexLt b a=false)) (κ:=tuples' true) ho fit (fun hv Q hq=>?_) (fun few=>?_) (fun hv Q hq=>?_) h
 ·obtain ⟨fs,f1,f2,f3⟩:=(r2 hv).firsts
  refine kat_kind (T:=.type "int") f1 (by omega) (fun v hv=>?_) (by decide) hq
  obtain ⟨n,t,rfl⟩:=f3 v hv
  exact fun A Q E s' _ hq=>gZ (TB s' n t) hq
 ·have e:vs.length=0\/vs.length=1:=by omega
  rcases e with e | e
  ·rw [e]
   exact List.Pairwise.nil
  ·rw [e]
   exact ZI _ _
 ·have rr:=r2 hv
  refine qHh (a0:=pairsOf vs) (qJn hu2 rr) (fun x hx=>?_) rfl rfl rfl (UM _) (by rw [pairsOf_size]; exact hv) fun st' f1 f2 f3=>?_
  ·rw [<- yX] at hx
   obtain ⟨i,hi,e⟩:=uW hx
   rw [wM,pairsOf_size] at hi
   refine ⟨i,hi,?_⟩
   rw [Jc] at e
   exact e.symm
  ·have whole:(pairsOf vs).toList=(wV vs.length).map (kas_item (pairsOf vs)):=by
    have e:=(kas_range (pairsOf vs) :)
    have e2:=congrArg Array.toList e
    rw [pairsOf_size] at e2
    rw [<- e2]
    simp
   obtain ⟨is,i1,i2⟩:=Jy (uJ.mp f2) (wV vs.length) whole
   have ar:arrOf st'=is.toArray.map (kas_item (pairsOf vs)):=UD.mp (by rw [ZH]; exact i2)
   refine hq st' is.toArray f1 ⟨uJ.mpr (by simpa using i1)⟩ ?_ ar
   refine yB.mpr (kZ.mpr fun x y hx hy xy=>?_)
   have li:=i1.length_eq
   rw [zT] at li
   have hx':x<is.length:=by simpa using hx
   have hy':y<is.length:=by simpa using hy
   have g:=f3 x y (by omega) (by omega) (by rw [pairsOf_size]; omega)
   have at':∀ z (hz:z<is.length),gt (arrOf st') z=kas_item (pairsOf vs) is[z]:=fun z hz=>by
    rw [ar]
    unfold gt
    rw [yO,Array.getElem?_map]
    simp [hz]
   have inr:∀ z (hz:z<is.length),is[z]<vs.length:=fun z hz=>zO.mp (i1.mem_iff.mp (yY hz))
   rw [at' x hx',at' y hy',J0 rr (inr x hx') (by rw [kas_item_eq]),J0 rr (inr y hy') (by rw [kas_item_eq])] at g
   have nl:=rr.len
   rw [<- qLt (nss:=nss) (by
    rw [wF,wA (by rw [<- nl]; exact inr y hy')]
    exact yY _)]
   exact decide_eq_false (WY.mpr g)
theorem qBQ {l:Addr} {vs:List Value} {nss:List (List Int)} {Q:Value->Shared->Prop} (hu:A.units+8<cLine) (hl:s.heap.IsList l vs.toArray\/IsTup s.heap l vs.toArray) (r:2<=vs.length->Rows s.heap vs nss) (fit:vs.length<=sizeLine)
  (h:∀(p:Array Nat) (h1 h2:Heap) (m:Nat),Pm vs.length p->(p.toList.map fun i=>nss.getD i []).Pairwise (fun a b=>HT.lexLt b a=false)->(∀ b o,s.heap.get? b=some o->h1.get? b=some o)->(∀ b o,h1.get? b=some o->h2.get? b=some o)->h2.get? h1.objs.size=some (seqObj "list" (Jm vs p) m)->Q (.ref h1.objs.size) { s with heap:=h2 }):wpAny (model prog w) A (call (.builtin "sorted") [.ref l]) Q E s:=by
 obtain ⟨T,o,n,hT,ho,hc,hd⟩:∃ T o n,(T = "list"\/T = "tuple")/\s.heap.get? l=some o/\o.cls=.type T/\o.data=.seq vs.toArray n:=by
  rcases hl with ⟨o,y,c,n,d⟩ | ⟨o,y,c,n,d⟩
  ·exact ⟨_,o,n,.inl rfl,y,c,d⟩
  ·exact ⟨_,o,n,.inr rfl,y,c,d⟩
 refine TU kind_sorted plain_sorted entry_sorted (args_sorted1 _) (wB (m:=checkCount "sorted" 1 1 _) (wI (wB (wpAny_collect_seq l hT ho hc hd (fun h1 k1=>wB (SD ?_ fit)) (by simpa using fit)))))
 have oL:(h1.push (seqObj "list" vs.toArray 0)).get? h1.objs.size=some (seqObj "list" vs.toArray 0):=zL h1 rfl
 have apart:∀ b u,h1.get? b=some u->b≠h1.objs.size:=fun b u y=>vE (zQ y)
 have r2:2<=vs.length->Rows (jc (h1.push (seqObj "list" vs.toArray 0)) h1.objs.size vs) vs nss:=fun hv=>(r hv).kept fun b u y=>qCl (apart b u (k1 b u y)) (wG _ (k1 b u y))
 refine wB (vP (vV slot_list_sort (s:={ s with heap:=h1.push (seqObj "list" vs.toArray 0) }) ⟨_,oL,rfl⟩ entry_list_sort (qAS (nss:=nss) (by show A.units+1+1<cLine; omega) oL r2 fit fun p P1 P2=>?_) (args_list_sort _)))
 obtain ⟨m,om⟩:=qAV (out:=Jm vs p) oL
 exact ⟨_,rfl,wI ⟨_,rfl,h p h1 _ m P1 P2 k1 (fun b u y=>qAQ (apart b u y) (wG _ y)) om⟩⟩
end
end LSo
namespace L2
open PySem PySem.Spec PyProof.Rows
noncomputable def qIj:List V->Hp->VK->Prop:=fun vs H Q=>∃(a:Addr) (xs:List V) (nss:List (List Int)),vs=[.ref a]/\(H a=some (.tup xs)\/H a=some (.lst xs))/\qV H (nss.map qBF) xs/\(2<=nss.length->∀ ns∈nss,ns≠[])/\nss.length<=sizeLine/\
 ∀(is:List Nat) (l:Addr),is.Perm (wV nss.length)->(is.map fun i=>nss.getD i []).Pairwise (fun a b=>HT.lexLt b a=false)->H l=none->Q (.ref l) (upd H l (.lst (is.map fun i=>xs.getD i V.non)))
section
variable {X:Cx} {pins:List (Addr×Obj)} {σ:St} {H:Hp} {s:Shared}
theorem QW (hu:X.A.units+64<cLine):Qw X (.builtin "sorted") qIj:=by
 intro pins s σ H xs us Q I r h
 obtain ⟨a,ys,nss,rfl,hx,hd,hn,h64,q⟩:=h
 obtain ⟨u,rfl,rx⟩:=vals1 r
 have main:∀(its:List Value),u=.ref a->ql ys its->(s.heap.IsList a its.toArray\/IsTup s.heap a its.toArray)->wpAny (model X.prog X.w) X.A (call (.builtin "sorted") [u]) (EP X pins σ Q) X.xe s:=by
  intro its eu rv hl
  subst eu
  have ly:ys.length=nss.length:=by rw [hd.length,wC]
  have li:its.length=ys.length:=rv.length.symm
  refine LSo.qBQ (by omega) hl (fun hv=>qJf I hd rv (hn (by omega))) (by omega) fun p h1 h2 e P1 P2 k1 k2 he=>?_
  have I1:Inv X pins σ H { s with heap:=h1 }:=I.kept (t':=s.toks) k1
  have pin:∀ i∈p.toList,i<ys.length:=fun i hi=>by
   have:i∈(VN (wV its.length)):=P1.pm.mem_iff.mp (yX.mp hi)
   have:i<its.length:=by simpa using this
   omega
  have pl:p.toList.Perm (wV its.length):=by
   have:=P1.pm
   rw [uJ] at this
   exact this
  have hl:p.toList.length<=sizeLine:=by
   rw [pl.length_eq,zT]
   omega
  refine ⟨.ref h1.objs.size,upd H h1.objs.size (.lst (p.toList.map fun i=>ys.getD i V.non)),I1.laid (t':=s.toks) k2 (wH _) ?_,rfl,
   q p.toList _ ?_ ?_ (I1.hok.fresh (wH _))⟩
  ·refine ⟨by rw [wC]; exact hl,(p.toList.map fun i=>its.getD i xE),e,YA rv _ pin,?_⟩
   rw [he]
   rfl
  ·rw [li,ly] at pl
   exact pl
  ·exact P2
 rcases hx with h1 | h1
 ·cases rx
  obtain ⟨its,rv,p,_⟩:=I.tuple (SqT.of (K:=X.K) h1)
  exact main its rfl rv (.inr p)
 ·cases rx
  obtain ⟨its,rv,p,_⟩:=I.list (SqL.of (K:=X.K) h1)
  exact main its rfl rv (.inl p.isList)
end
end L2
namespace LSo
open PySem PySem.W PyProof.Rows
end LSo
namespace L2
open PySem PySem.Spec PyProof.Rows
end L2
namespace LTu
open PySem PyProof.Rows HT
section
variable {s:Shared} {prog:Program} {w:World} {A:Around} {E:Value->Shared->Prop}
theorem get_whole {t sl:Addr} {items:Array Value} {vl vu:Value} {lo hi:Option Int} {Q:Value->Shared->Prop} (ht:IsTup s.heap t items) (hs:s.heap.IsSliceOf sl vl vu .none) (pl:IsPart vl lo) (pu:IsPart vu hi)
  (hw:sIx items.size 0 lo=0/\sIx items.size items.size hi=items.size) (h:Q (.ref t) s):wpAny (model prog w) A (getItem (.ref t) (.ref sl)) Q E s:=by
 obtain ⟨os,hos,hcs,hds⟩:=id hs
 have hTs:s.TypeIs (.ref sl) "slice":=⟨os,hos,hcs⟩
 unfold getItem
 try with_reducible refine vP ?_
 first | refine wB (wI ?_) | skip
 refine wB (wpAny_sequenceKey ht.typeIs (by decide) ?_)
 refine wB (xZ (name:=gI "__getitem__") ht.typeIs vT (vV vT ht.typeIs entry_tuple_getitem ?_ (args_tuple_getitem _ _)))
 show wpAny _ _ (UZ (.ref t) >>= _) _ _ s
 refine wB (tupleItemsOf_ ht ?_)
 refine wB (gZ hTs ?_)
 rw [if_pos (by decide)]
 refine wB (QF hs pl pu ?_)
 have hy:(((sIx items.size 0 lo:Nat):Int) == 0 && (1:Int) == 1 && (sIx items.size items.size hi - sIx items.size 0 lo) == items.size)=true:=by
  rw [hw.1,hw.2]
  simp
 show wpAny _ _ (if (((sIx items.size 0 lo:Nat):Int) == 0 && (1:Int) == 1 && (sIx items.size items.size hi - sIx items.size 0 lo) == items.size)=true then _ else _) _ _ s
 rw [if_pos hy]
 unfold Builtin.Tuple.tupleIsExact
 refine wB (wB (gZ ht.typeIs (wI ?_)))
 rw [if_pos (by decide)]
 exact wB (fI (wI ⟨_,rfl,wI h⟩))
end
section
variable {s:Shared} {prog:Program} {w:World} {A:Around} {E:Value->Shared->Prop}
section
open PySem.SeqAt
open PySem.AutoSeq1 (wpAny_loadPart')
open PySem.MeetsSeq PySem.MeetsSeq2 PySem.MeetsSeq3
end
theorem cat_nil {t b:Addr} {ws:List Value} {Q:Value->Shared->Prop} (ht:IsTup s.heap t ([]:List Value).toArray) (hb:IsTup s.heap b ws.toArray) (h:Q (.ref b) s):wpAny (model prog w) A (binaryOp .Add (.ref t) (.ref b)) Q E s:=by
 obtain ⟨⟨cls,dd,data,sl⟩,ho,hc,n,hd⟩:=id ht
 obtain ⟨⟨cls2,dd2,data2,sl2⟩,ho2,hc2,n2,hd2⟩:=id hb
 simp only at hc hd hc2 hd2
 subst hc hd hc2 hd2
 exact VG ⟨_,ho,rfl⟩ ⟨_,ho2,rfl⟩ VX TY ZN ZF (fV _ _) (tuple_addW0 t b _ ws.toArray n n2 dd dd2 sl sl2 (by simp)) ⟨ho,ho2,h⟩
end
end LTu
namespace L2
open PySem PySem.Spec PyProof.Rows
section
variable {X:Cx} {K:wK} {e st:Expr} {te ts:TE} {pos p2:Pos}
theorem qGx {x:Str} {i:Int} {pos:Pos} (hg:Gl X x) (hm:∃ t,X.mg x=some (.int i t)) (hd:(x == ("__debug__" : Str))=false:=by decide):PE X (.Name x pos) (tC (.int i)):=
 hm.elim fun _ h=>qJW (v:=.int i) hg h ⟨_,rfl⟩ hd
noncomputable def qLE (K:wK):R2:=fun x y H Q=>∃ a b xs ys,x=.ref a/\y=.ref b/\SqT K H a xs/\SqT K H b ys/\xs.length+ys.length<=sizeLine/\(xs=[]->Q (.ref b) H)/\(xs≠[]->ys=[]->Q (.ref a) H)/\(xs≠[]->ys≠[]->∀ p,H p=none->Q (.ref p) (upd H p (.tup (xs++ys))))
theorem qJM:OpR X (binaryOp .Add) (qLE X.K):=by
 intro pins s σ H x y v u Q I rx ry h
 obtain ⟨a,b,xs,ys,rfl,rfl,ha,hb,hz,q0,q1,q2⟩:=h
 by_cases hx:xs=[]
 ·subst hx
  cases rx
  cases ry
  obtain ⟨its,r1,p1,_⟩:=I.tuple ha
  obtain ⟨its2,r2,p2,_⟩:=I.tuple hb
  cases r1
  exact LTu.cat_nil p1 p2 ⟨.ref b,H,I,rfl,q0 rfl⟩
 ·exact qJ3 pins s σ H (.ref a) (.ref b) v u Q I rx ry ⟨a,b,xs,ys,rfl,rfl,ha,hb,hx,hz,q1 hx,q2 hx⟩
theorem qAj (h:X.K=K):OpR X (binaryOp .Add) (fun x y H Q=>(rI0 fun i j=>.int (i+j)) x y H Q\/(qKF K x y H Q\/qLE K x y H Q)):=by subst h; exact qKk.or (qKC.or qJM)
noncomputable def qM6 (K:wK):V->Option Int->Option Int->Hp->VK->Prop:=fun x lo hi H Q=>∃ a xs,x=.ref a/\SqT K H a xs/\
 ((HT.sIx xs.length 0 lo=0/\HT.sIx xs.length xs.length hi=xs.length)->Q (.ref a) H)/\(¬ (HT.sIx xs.length 0 lo=0/\HT.sIx xs.length xs.length hi=xs.length)->∀ p,H p=none->Q (.ref p) (upd H p (.tup (qHk xs lo hi))))
theorem qK0:SlR X (qM6 X.K):=by
 intro pins s σ H x v vl vu lo hi sl Q I rx hs pl pu h
 obtain ⟨a,xs,rfl,hx,q1,q2⟩:=h
 by_cases hw:HT.sIx xs.length 0 lo=0/\HT.sIx xs.length xs.length hi=xs.length
 ·cases rx
  obtain ⟨its,r,ht,hz⟩:=I.tuple hx
  have hlen:its.toArray.size=xs.length:=by rw [wL]; exact r.length.symm
  refine ⟨"tuple",_,vT.lookup,ht.typeIs,?_⟩
  exact LTu.get_whole ht hs pl pu (by rw [hlen]; exact hw) ⟨.ref a,H,I,rfl,q1 hw⟩
 ·exact qKl pins s σ H (.ref a) v vl vu lo hi sl Q I rx hs pl pu ⟨a,xs,rfl,hx,hw,q2 hw⟩
theorem qMQ (h:X.K=K):SlR X (fun x lo hi H Q=>qM3 K x lo hi H Q\/qM6 K x lo hi H Q):=by
 subst h
 exact qIr.or qK0
end
end L2
namespace LTu
open PySem PyProof.Rows HT
end LTu
namespace L2
open PySem PyProof.Rows HT
end L2
namespace LTu
open PySem PyProof.Rows HT
end LTu
namespace L2
open PySem PyProof.Rows HT
end L2
namespace L2
open PySem PySem.Spec PyProof.Rows
noncomputable def Itv (K:wK) (a:Addr) (n:Nat):It:=
 ⟨fun i H=>∃ xs x,SqL K H a xs/\xs.length=n/\i<n/\xs[n - 1 - i]? = some x,fun i H x H'=>H'=H/\∀ xs,SqL K H a xs->xs[n - 1 - i]? = some x,fun i _=>n<=i⟩
noncomputable abbrev qM2 (n:Nat) (a it:Addr) (i:Nat) (h:Heap):Prop:=i<=n/\h.IsRevIter it a ((n:Int) - 1 - i)
theorem qGy {P:Program} {w:World} {K:wK} {tg:Expr} (n:Nat) (a it:Addr):Turn P w K tg (Itv K a n) [it] it (qM2 n a it) where
 mem:=wD
 obj:=fun i h st b hb=>by
  rw [zG.mp hb]
  obtain ⟨o,e,_,d⟩:=st.2
  exact ⟨o,e,fun v z=>by rw [d] at z; cases z⟩
 keep:=fun i h h' st k=>⟨st.1,st.2.at fun o e=>k it wD o e⟩
 item:=by
  intro X hP hw hK hc i pins s σ H E I hf st hg
  subst hP hw hK
  obtain ⟨xs,x,hq,hl,hi,hx⟩:=hg
  obtain ⟨its,rv,p,_⟩:=I.list hq
  obtain ⟨u,hu,ru⟩:=rv.get hx
  obtain ⟨f0,f1,_,f3,f4,f5⟩:=hf it wD
  have e0:(n:Int) - 1 - i=((n - 1 - i:Nat):Int):=by omega
  refine wpAny_pyNext_rev_item (i:=n - 1 - i) (e0 ▸ st.2) p.isList (x:=u) (by simpa using hu) fun h' st' sb=>?_
  have e1:((n - 1 - i:Nat):Int) - 1=(n:Int) - 1 - ((i+1:Nat):Int):=by omega
  rw [e1] at st'
  have I1:Inv X pins σ H { s with heap:=h' }:=I.turned (t':=s.toks) (fun b o hb e=>(sb.2 b hb).trans e) f0 f1 f3 f4 f5
  obtain ⟨o,e,c,d⟩:=id st'
  exact ⟨u,rfl,qHE (s:={ s with heap:=h' }) e c d (by decide) ⟨x,H,I1,ru,⟨rfl,fun ys hy=>by rw [I.list_inj hy hq]; exact hx⟩,⟨hi,st'⟩,fun b hb=>(hf b hb).1⟩⟩
 done:=by
  intro X hP hw hK hc i pins s σ H E I hf st hg
  subst hP hw hK
  obtain ⟨f0,f1,_,f3,f4,f5⟩:=hf it wD
  have hg':n<=i:=hg
  have e0:(n:Int) - 1 - i = -1:=by have:=st.1; omega
  exact wpAny_pyNext_rev_end (I.ok.hd hc) (e0 ▸ st.2) fun h' eb=>⟨rfl,I.turned (t':=s.toks) (fun b o hb e=>eb b o hb e) f0 f1 f3 f4 f5⟩
 self:=fun _ _ _ _ _ st h=>wpAny_pyIter_revIter st.2 h
noncomputable def qNm (K:wK) (tl:TA):TI:=fun σ H R=>tl σ H fun vs H1=>∃ a xs,vs=[.ref a]/\SqL K H1 a xs/\R (Itv K a xs.length) H1
theorem qKQ {X:Cx} {tg l:Expr} {tl:TA} {p pos:Pos} {K:wK} (hK:X.K=K) (hg:Gl X "reversed") (hm:X.mg "reversed" = none) (hl:PA X [l] tl) (he:starEach [l] X.env=(false,eval l X.env)::starEach [] X.env:=by rfl) (hpl:(backTo pos (starEach [] X.env)).any (·.1)=false:=by rfl):PI X tg (.Call (.Name "reversed" p) [l] [] pos) (qNm K tl):=by
 subst hK
 intro pins s σ H R I h
 refine Call_ (Jh I hg hm boot_reversed (uG (thn (hl pos pins s σ H _ I h) fun us s1 ⟨vs,H1,I1,r1,q1⟩=>?_) he hpl))
 obtain ⟨a,xs,e,hq,q⟩:=q1
 subst e
 obtain ⟨u,rfl,rx⟩:=vals1 r1
 cases rx
 obtain ⟨its,rv,pl,_⟩:=I1.list hq
 refine call_reversed_list pl.isList ?_
 have st:(s1.heap.push (revObj a ((its.toArray.size:Int) - 1))).IsRevIter s1.heap.objs.size a ((xs.length:Int) - 1 - ((0:Nat):Int)):=by
  have e:(xs.length:Int) - 1 - ((0:Nat):Int)=(its.toArray.size:Int) - 1:=by
   rw [wL,rv.length]
   omega
  rw [e]
  exact ⟨_,zL _ rfl,rfl,rfl⟩
 refine wpAny_pyIter_revIter st ⟨s1.heap.objs.size,[s1.heap.objs.size],_,Itv X.K a xs.length,H1,rfl,I1.kept (t':=s1.toks) fun b o e=>wG _ e,qGy xs.length a _,⟨yN _,st⟩,fun b hb=>?_,q⟩
 rw [zG.mp hb]
 exact I1.fpOk (wH _) (I1.hok.fresh (wH _))
section
variable {w:World} {prog:Program} {s:Shared} {A:Around} {E:Value->Shared->Prop}
noncomputable abbrev qMD (led:Bool):Obj:={ cls:=.type "set",dict:=none,data:=.set #[] 0 (.fresh 0 0 led) }
end
section
variable {X:Cx}
theorem qI8 {its:List Value}:∀{ns:List Int},ql (ns.map V.int) its->IntsAre its ns:=by
 induction its with
 | nil=>intro ns h; cases ns with
  | nil=>exact .nil
  | cons n ns=>cases h
 | cons u us ih=>intro ns h; cases ns with
  | nil=>cases h
  | cons n ns=>
   cases h with
   | cons r t=>
    obtain ⟨tk,rfl⟩:=r
    exact .cons n tk (ih t)
end
end L2
namespace L2
open PySem PyProof.Rows
end L2
namespace L2
open PySem Spec
open PyProof.Rows
end L2
namespace L2
open PySem PySem.Spec PyProof.Rows
end L2
namespace L2
open PySem PySem.Spec PyProof.Rows PySem.W
noncomputable abbrev kit (d:Addr) (i n ep:Nat):Obj:=⟨.type "dict_keyiterator",none,.fields #[.ref d,.int i 0,.int n 0,.int ep 0],#[]⟩
end L2
namespace LSo
open PySem PySem.W PyProof.Rows
end LSo
namespace L2
open PySem PySem.Spec PyProof.Rows PySem.W
noncomputable abbrev atKey (ob:Obj) (n:Nat) (a it:Addr) (i:Nat) (h:Heap):Prop:=∃ es ep,ob.data=.dict es ep/\es.size=n/\h.get? it=some (kit a i n ep)
end L2
namespace L2
open PySem
noncomputable abbrev ST:=SetTable
noncomputable def qKM (xs:Array Nat):Prop:=∀ a b (ha:a<b) (hb:b<xs.size),xs[a]<xs[b]
theorem qKM.le {xs:Array Nat} (R:qKM xs) {a b:Nat} (h:a<=b) (hb:b<xs.size):xs[a]<=xs[b]:=by
 rcases fK h with z | z
 ·exact vR (R a b z hb)
 ·subst z
  exact wH _
theorem qCo {xs:Array Nat} {k:Nat} (h:k<xs.size) (d:Nat):xs.getD k d=xs[k]:=by
 rw [yO,zI h]
 rfl
structure Cut (xs:Array Nat) (j r:Nat):Prop where
 le:r<=xs.size
 lt:∀ k (h:k<r) (hk:k<xs.size),xs[k]<j
 ge:∀ k (h:r<=k) (hk:k<xs.size),j<=xs[k]
theorem qEe {xs:Array Nat} (R:qKM xs) (j:Nat):∀(fuel lo hi:Nat),lo<=hi->hi<=xs.size->hi - lo<=fuel->(∀ k (h:k<lo) (hk:k<xs.size),xs[k]<j)->(∀ k (h:hi<=k) (hk:k<xs.size),j<=xs[k])->Cut xs j (SetTable.below.go xs j fuel lo hi)
 | 0,lo,hi,h1,h2,h3,h4,h5=>by
  have e:lo=hi:=by omega
  subst e
  exact ⟨h2,h4,h5⟩
 | fuel+1,lo,hi,h1,h2,h3,h4,h5=>by
  unfold SetTable.below.go
  by_cases z:lo<hi
  ·rw [if_pos z]
   have m1:(lo+hi) / 2<xs.size:=by omega
   dsimp only
   rw [qCo m1]
   by_cases y:xs[(lo+hi) / 2]<j
   ·rw [if_pos y]
    refine qEe R j fuel _ hi (by omega) h2 (by omega) (fun k hk hs=>?_) h5
    exact yV (R.le (show k<=(lo+hi) / 2 by omega) m1) y
   ·rw [if_neg y]
    refine qEe R j fuel lo _ (by omega) (by omega) (by omega) h4 fun k hk hs=>?_
    exact zM (vH y) (R.le hk hs)
  ·rw [if_neg z]
   have e:lo=hi:=by omega
   subst e
   exact ⟨h2,h4,h5⟩
theorem QO {xs:Array Nat} (R:qKM xs) (j:Nat):Cut xs j (vG xs j):=qEe R j xs.size 0 xs.size (yN _) (wH _) (by omega) (fun k h=>absurd h (uE _)) fun k h hk=>absurd hk (WY.mpr h)
structure Tab (t:ST) (n:Nat):Prop where
 rise:qKM t.place
 size:t.place.size=n
 bare:t.dummies = #[]
 mask:∀ k (h:k<t.place.size),t.place[k]<=t.mask
theorem YS {t:ST} {n:Nat} (T:Tab t n) {j i:Nat} (h:t.place[i]? = some j):t.slot j=.live i:=by
 obtain ⟨hi,e⟩:=uK.mp h
 have c:=QO T.rise j
 have eb:vG t.place j=i:=by
  refine uC (vH fun z=>?_) (vH fun z=>?_)
  ·have:=c.lt i z hi
   omega
  ·have:=c.ge _ (wH _) (VI z hi)
   have:=T.rise _ _ z hi
   omega
 unfold SetTable.slot
 dsimp only
 rw [eb,h]
 simp
theorem qED {t:ST} {n:Nat} (T:Tab t n) {j:Nat} (h:∀ i:Nat,t.place[i]?≠some j):t.slot j=.empty:=by
 unfold SetTable.slot
 dsimp only
 have e1:(t.place[vG t.place j]? == some j)=false:=beq_eq_false_iff_ne.mpr (h _)
 have e2:SetTable.has t.dummies j=false:=by
  rw [T.bare]
  rfl
 rw [e1,e2]
 rfl
theorem qCY {t:ST} {n:Nat} (T:Tab t n) (j:Nat):t.slot j=.empty\/∃ i:Nat,t.slot j=.live i/\t.place[i]? = some j:=by
 by_cases h:∃ i:Nat,t.place[i]? = some j
 ·obtain ⟨i,hi⟩:=h
  exact .inr ⟨i,YS T hi,hi⟩
 ·exact .inl (qED T fun i z=>h ⟨i,z⟩)
noncomputable def qD (t:ST) (h:Int):Nat->SetTable.Probe
 | 0=>t.probeStart h
 | n+1=>t.advance (qD t h n)
noncomputable def qh (mask:Nat) (b:Nat):Nat->Nat×Nat
 | 0=>(b % (mask+1),b)
 | k+1=>xW mask (qh mask b k).1 (qh mask b k).2
theorem Q5 (mask b:Nat):∀ k,(qh mask b k).2=b / 32 ^ k
 | 0=>by
  show b=b / 1
  rw [Nat.div_one]
 | k+1=>by
  show (qh mask b k).2 / 32=_
  rw [Q5 mask b k,ZU,gJ]
theorem qBi (mask b:Nat):∀ k,(qh mask b k).1<=mask
 | 0=>vS (WZ _ (ZV _))
 | _+1=>vS (WZ _ (ZV _))
structure qF3 (t:ST) (h:Int) (k n:Nat):Prop where
 few:n<=10*k
 j:(qD t h n).j=(qh t.mask (wX h) k).1
 i:(qD t h n).i=(qh t.mask (wX h) k).1
 p:(qD t h n).perturb=(qh t.mask (wX h) k).2
 more:(qD t h n).more=xD t.mask (qh t.mask (wX h) k).1 - (qh t.mask (wX h) k).1
theorem qAK (t:ST) (h:Int) {n:Nat}:∀ r,r<=(qD t h n).more->(qD t h (n+r)).j=(qD t h n).j+r/\(qD t h (n+r)).i=(qD t h n).i/\(qD t h (n+r)).perturb=(qD t h n).perturb/\(qD t h (n+r)).more=(qD t h n).more - r
 | 0,_=>⟨rfl,rfl,rfl,rfl⟩
 | r+1,hr=>by
  obtain ⟨h1,h2,h3,h4⟩:=qAK t h r (Nat.le_of_succ_le hr)
  have e:qD t h (n+(r+1)) = { qD t h (n+r) with j:=(qD t h (n+r)).j+1,more:=(qD t h (n+r)).more - 1 }:=by
   show t.advance (qD t h (n+r))=_
   unfold kU
   rw [if_pos (by omega)]
  rw [e]
  dsimp only
  exact ⟨by omega,h2,h3,by omega⟩
theorem qCy (t:ST) (h:Int):∀ k,∃ n,qF3 t h k n
 | 0=>⟨0,wH _,rfl,rfl,rfl,rfl⟩
 | k+1=>by
  obtain ⟨n,b⟩:=qCy t h k
  obtain ⟨h1,h2,h3,h4⟩:=qAK t h (n:=n) (qD t h n).more (wH _)
  have m9:(qD t h n).more<=9:=by
   rw [b.more]
   unfold xD
   split <;> omega
  have e:qD t h (n+(qD t h n).more+1) = { qD t h (n+(qD t h n).more) with j:=(xW t.mask (qh t.mask (wX h) k).1 (qh t.mask (wX h) k).2).1,more:=xD t.mask (xW t.mask (qh t.mask (wX h) k).1 (qh t.mask (wX h) k).2).1 - (xW t.mask (qh t.mask (wX h) k).1 (qh t.mask (wX h) k).2).1,i:=(xW t.mask (qh t.mask (wX h) k).1 (qh t.mask (wX h) k).2).1,perturb:=(xW t.mask (qh t.mask (wX h) k).1 (qh t.mask (wX h) k).2).2 }:=by
   show t.advance (qD t h (n+(qD t h n).more))=_
   unfold kU
   rw [if_neg (by omega),h2,h3,b.i,b.p]
  refine ⟨n+(qD t h n).more+1,?_,?_,?_,?_,?_⟩
  ·have:=b.few
   omega
  ·rw [e]; rfl
  ·rw [e]; rfl
  ·rw [e]; rfl
  ·rw [e]; rfl
noncomputable def qHF (m i:Nat):Nat:=(i*5+1) % m
noncomputable def qA2 (m:Nat):Nat->Nat->Nat
 | 0,i=>i
 | q+1,i=>qHF m (qA2 m q i)
theorem Qz (m a:Nat) (i:Nat):∀ b,qA2 m (a+b) i=qA2 m b (qA2 m a i)
 | 0=>rfl
 | b+1=>congrArg (qHF m) (Qz m a i b)
noncomputable def qJ8 (m:Nat):Nat->Nat->List Nat
 | 0,_=>[]
 | k+1,i=>i::qJ8 m k (qHF m i)
noncomputable def qJJ (m:Nat):Bool:=(wV m).all (fun e=>(qJ8 m m 0).contains e) && qA2 m m 0 == 0
theorem YJ {m:Nat}:∀{k i e:Nat},e∈qJ8 m k i->∃ q,q<k/\qA2 m q i=e
 | 0,i,e,h=>absurd h zP
 | k+1,i,e,h=>by
  rcases wW.mp h with z | z
  ·exact ⟨0,ZV _,z.symm⟩
  ·obtain ⟨q,hq,e1⟩:=YJ z
   refine ⟨q+1,Nat.succ_lt_succ hq,?_⟩
   rw [VH,Qz]
   exact e1
theorem qDC {m:Nat} (h:qJJ m=true) {i e:Nat} (hi:i<m) (he:e<m):∃ q,q<m/\qA2 m q i=e:=by
 unfold qJJ at h
 rw [yR,gS,beq_iff_eq] at h
 obtain ⟨h1,h2⟩:=h
 obtain ⟨a,ha,ea⟩:=YJ (List.contains_iff_mem.mp (h1 i (zO.mpr hi)))
 obtain ⟨b,hb,eb⟩:=YJ (List.contains_iff_mem.mp (h1 e (zO.mpr he)))
 by_cases z:a<=b
 ·refine ⟨b - a,by omega,?_⟩
  rw [<- ea,<- Qz,Nat.add_sub_cancel' z]
  exact eb
 ·refine ⟨m - a+b,by omega,?_⟩
  rw [<- ea,<- Qz,show a+(m - a+b)=m+b by omega,Qz,h2]
  exact eb
noncomputable def Fits (mask:Nat):Prop:=mask=7\/mask=31\/mask=127\/mask=511
theorem qBX {mask:Nat} (h:Fits mask):qJJ (mask+1)=true:=by
 rcases h with rfl | rfl | rfl | rfl <;> decide +kernel
theorem qGr (h:Int):wX h / 32 ^ 13=0:=by
 refine Nat.div_eq_of_lt ?_
 unfold wX
 have h1:=kC h (show (0:Int)<2 ^ 64 by decide)
 have h2:=gC h (show (2 ^ 64:Int)≠0 by decide)
 have e:(32:Nat) ^ 13=36893488147419103232:=by decide
 have e2:(2:Int) ^ 64=18446744073709551616:=by decide
 rw [e]
 rw [e2] at *
 omega
theorem JY (mask:Nat) (h:Int):∀ q,(qh mask (wX h) (13+q)).1=qA2 (mask+1) q (qh mask (wX h) 13).1
 | 0=>rfl
 | q+1=>by
  have e0:(qh mask (wX h) (13+q)).2=0:=by
   rw [Q5,Nat.pow_add,<- ZU,qGr,Nat.zero_div]
  show ((qh mask (wX h) (13+q)).1*5+1+(qh mask (wX h) (13+q)).2 / 32) % (mask+1)=qHF (mask+1) (qA2 (mask+1) q (qh mask (wX h) 13).1)
  rw [e0,Nat.zero_div,fA,JY mask h q]
  rfl
theorem asked {t:ST} (F:Fits t.mask) (h:Int) {e:Nat} (he:e<=t.mask):∃ n,n<10*xM t.mask/\(qD t h n).j=e:=by
 obtain ⟨q,hq,eq⟩:=qDC (qBX F) (uP (qBi t.mask (wX h) 13)) (uP he)
 obtain ⟨n,b⟩:=qCy t h (13+q)
 refine ⟨n,?_,?_⟩
 ·have:=b.few
  unfold xM
  omega
 ·rw [b.j,JY]
  exact eq
theorem qAM (t:ST) (h:Int):∀ n,(qD t h n).dummy=none
 | 0=>rfl
 | n+1=>by
  have ih:=qAM t h n
  show (t.advance (qD t h n)).dummy=none
  unfold kU
  split
  ·exact ih
  ·exact ih
structure qE2 (t:ST) (hs:Nat->Int) (h:Int) (a c:Nat):Prop where
 le:a<=c
 past:∀ q,a<=q->q<c->∃ i,t.slot (qD t h q).j=.live i/\hs i≠h
theorem qIC {t:ST} {n:Nat} (T:Tab t n) (hs:Nat->Int) (h:Int):∀(fuel a b:Nat),a<=b->b<a+fuel->t.slot (qD t h b).j=.empty->
  ∃ c,c<=b/\qE2 t hs h a c/\((t.slot (qD t h c).j=.empty/\uQ t hs h fuel (qD t h a)=some (.empty (qD t h c).j none))\/∃ i,t.slot (qD t h c).j=.live i/\hs i=h/\uQ t hs h fuel (qD t h a)=some (.candidate (qD t h c).j i (qD t h (c+1))))
 | 0,a,b,h1,h2,_=>absurd h2 (by omega)
 | fuel+1,a,b,h1,h2,h3=>by
  have nil:qE2 t hs h a a:=⟨wH _,fun q z y=>absurd y (WY.mpr z)⟩
  rcases qCY T (qD t h a).j with e | ⟨i,e,_⟩
  ·refine ⟨a,h1,nil,.inl ⟨e,?_⟩⟩
   unfold uQ
   rw [e]
   dsimp only
   rw [qAM]
  ·by_cases z:hs i=h
   ·refine ⟨a,h1,nil,.inr ⟨i,e,z,?_⟩⟩
    unfold uQ
    rw [e]
    dsimp only
    rw [if_pos (beq_iff_eq.mpr z)]
    rfl
   ·have ne:a≠b:=fun y=>by
     rw [y,h3] at e
     cases e
    have eg:uQ t hs h (fuel+1) (qD t h a)=uQ t hs h fuel (qD t h (a+1)):=by
     conv=>lhs; unfold uQ
     rw [e]
     dsimp only
     rw [if_neg (fun y=>z (beq_iff_eq.mp y))]
     rfl
    obtain ⟨c,c1,m,r⟩:=qIC T hs h fuel (a+1) b (by omega) (by omega) h3
    rw [<- eg] at r
    refine ⟨c,c1,⟨Nat.le_of_succ_le m.le,fun q q1 q2=>?_⟩,r⟩
    by_cases y:q=a
    ·rw [y]
     exact ⟨i,e,z⟩
    ·exact m.past q (by omega) q2
theorem qAL {m j:Nat} (h:j<=m):j+(xD m j - j)<=m:=by
 unfold xD
 split <;> omega
theorem QK (t:ST) (h:Int):∀ n,(qD t h n).j+(qD t h n).more<=t.mask
 | 0=>qAL (vS (WZ (wX h) (ZV t.mask)))
 | n+1=>by
  have ih:=QK t h n
  show (t.advance (qD t h n)).j+(t.advance (qD t h n)).more<=t.mask
  unfold kU
  by_cases z:(qD t h n).more > 0
  ·rw [if_pos z]
   dsimp only
   omega
  ·rw [if_neg z]
   exact qAL (vS (WZ _ (ZV t.mask)))
theorem JV {t u:ST} (e:t.mask=u.mask) (h:Int):∀ n,qD t h n=qD u h n
 | 0=>by
  show t.probeStart h=u.probeStart h
  unfold SetTable.probeStart
  rw [e]
 | n+1=>by
  show t.advance (qD t h n)=u.advance (qD u h n)
  rw [JV e h n]
  unfold kU
  rw [e]
theorem YH {xs:Array Nat}:qKM xs↔xs.toList.Pairwise (· < ·):=by
 refine Iff.trans ?_ kZ.symm
 constructor
 ·intro R i j hi hj hij
  rw [uR,uR]
  exact R i j hij (by simpa using hj)
 ·intro P a b ha hb
  have:=P a b (by simp; omega) (by simpa using hb) ha
  rwa [uR,uR] at this
structure jq (t:ST) (hs:List Int):Prop where
 tab:Tab t hs.length
 fits:Fits t.mask
 room:hs.length<=t.mask
 meet:∀(i:Nat) (h:Int),hs[i]? = some h->∃ c,t.place[i]? = some (qD t h c).j/\∀ q,q<c->t.slot (qD t h q).j≠.empty
theorem JR {t:ST} {n:Nat} (T:Tab t n) (j:Nat):t.slot j≠.empty↔j∈t.place.toList:=by
 constructor
 ·intro h
  rcases qCY T j with z | ⟨i,_,z⟩
  ·exact absurd z h
  ·exact yX.mpr (Array.mem_of_getElem? z)
 ·intro h z
  obtain ⟨i,hi,e⟩:=gN.mp (yX.mp h)
  have:=YS T (uK.mpr ⟨hi,e⟩)
  rw [this] at z
  cases z
theorem qBp {t:ST} {hs:List Int} (k:jq t hs):∃ e,e<=t.mask/\t.slot e=.empty:=by
 refine zY fun no=>?_
 have all:∀ e∈wV (t.mask+1),e∈t.place.toList:=fun e he=>(JR k.tab e).mp fun z=>no ⟨e,vS (zO.mp he),z⟩
 have:=vK xT all
 rw [zT,wM,k.tab.size] at this
 have:=k.room
 omega
theorem qFg {t:ST} {hs:List Int} (k:jq t hs) (g:Nat->Int) (h:Int) (a:Nat) (ha:∀ b,t.slot (qD t h b).j=.empty->b<10*xM t.mask->a<=b) :
  ∃ c,qE2 t g h a c/\((t.slot (qD t h c).j=.empty/\t.probe g h (qD t h a)=some (.empty (qD t h c).j none))\/∃ i,t.slot (qD t h c).j=.live i/\g i=h/\t.probe g h (qD t h a)=some (.candidate (qD t h c).j i (qD t h (c+1)))):=by
 obtain ⟨e,he,se⟩:=qBp k
 obtain ⟨b,hb,eb⟩:=asked k.fits h he
 have sb:t.slot (qD t h b).j=.empty:=by rw [eb]; exact se
 obtain ⟨c,_,m,r⟩:=qIC k.tab g h (10*xM t.mask) a b (ha b sb hb) (by omega) sb
 exact ⟨c,m,r⟩
noncomputable def qES {α:Type} (xs:List α) (p:Nat) (x:α):List α:=xs.take p++x::xs.drop p
theorem qDv {α:Type} {xs:List α} {p:Nat} (x:α) (hp:p<=xs.length) (i:Nat):(qES xs p x)[i]? = if i<p then xs[i]? else if i=p then some x else xs[i - 1]?:=by
 unfold qES
 have l:(xs.take p).length=p:=by rw [yQ]; omega
 by_cases z:i<p
 ·rw [if_pos z,yL (by omega),List.getElem?_take,if_pos z]
 ·rw [if_neg z,zU (by omega),l]
  by_cases y:i=p
  ·subst y
   rw [if_pos rfl,ZT]
   rfl
  ·rw [if_neg y]
   have e:i - p=(i - 1 - p)+1:=by omega
   rw [e,SK,WX]
   congr 1
   omega
theorem qAp {α:Type} {xs:List α} {p:Nat} (x:α):(qES xs p x).length=xs.length+1:=by
 unfold qES
 rw [wO,yQ,wZ,kS]
 omega
theorem qC0 {α:Type} {xs:List α} {p:Nat} {x y:α}:y∈qES xs p x↔y=x\/y∈xs:=by
 unfold qES
 have e:y∈xs↔y∈xs.take p\/y∈xs.drop p:=by
  rw [<- zR,vY]
 rw [zR,wW,e]
 constructor
 ·rintro (h | h | h)
  ·exact .inr (.inl h)
  ·exact .inl h
  ·exact .inr (.inr h)
 ·rintro (h | h | h)
  ·exact .inr (.inl h)
  ·exact .inl h
  ·exact .inr (.inr h)
theorem has_none (j:Nat):SetTable.has #[] j=false:=rfl
theorem QS {t:ST} {n:Nat} (T:Tab t n) (j:Nat):(t.put j).1.place.toList=qES t.place.toList (vG t.place j) j:=fZ _ _ _
theorem qGz {t:ST} {n:Nat} (T:Tab t n) (j:Nat):(t.put j).1.dummies = #[]:=by
 show (if SetTable.has t.dummies j then _ else t.dummies)=_
 rw [T.bare,has_none]
 rfl
theorem qKA {t:ST} {n:Nat} (T:Tab t n) {j:Nat} (hj:j<=t.mask) (s:t.slot j=.empty):Tab (t.put j).1 (n+1):=by
 have c:=QO T.rise j
 have no:j∉t.place.toList:=fun h=>(JR T j).mpr h s
 have pw:=YH.mp T.rise
 have lo:∀ a∈t.place.toList.take (vG t.place j),a<j:=by
  intro a ha
  obtain ⟨k,hk,e⟩:=gW.mp ha
  rw [yQ] at hk
  rw [fS,uR] at e
  rw [<- e]
  exact c.lt k (by omega) (by rw [<- wM]; omega)
 have hi:∀ a∈t.place.toList.drop (vG t.place j),j<a:=by
  intro a ha
  have ne:a≠j:=fun e=>no (e ▸ gV ha)
  obtain ⟨k,hk,e⟩:=gW.mp ha
  rw [kS] at hk
  rw [VP,uR] at e
  have:=c.ge (vG t.place j+k) (by omega) (by rw [<- wM]; omega)
  rw [e] at this
  omega
 refine ⟨YH.mpr ?_,?_,qGz T j,?_⟩
 ·rw [QS T]
  unfold qES
  rw [List.pairwise_append,xS]
  refine ⟨pw.sublist (xY _ _),⟨hi,pw.sublist (List.drop_sublist _ _)⟩,fun a ha b hb=>?_⟩
  rcases wW.mp hb with z | z
  ·rw [z]
   exact lo a ha
  ·exact VI (lo a ha) (hi b z)
 ·rw [<- wM,QS T,qAp,wM,T.size]
 ·intro k hk
  have:(t.put j).1.place[k]∈(t.put j).1.place.toList:=yX.mpr (VO hk)
  rw [QS T,qC0] at this
  show _<=t.mask
  rcases this with z | z
  ·rw [z]
   exact hj
  ·obtain ⟨q,hq,e⟩:=gN.mp (yX.mp z)
   rw [<- e]
   exact T.mask q hq
theorem qGq {t:ST} {hs:List Int} (k:jq t hs) (room:hs.length+1<=t.mask) {h:Int} {c:Nat} (s:t.slot (qD t h c).j=.empty) (all:∀ q,q<c->t.slot (qD t h q).j≠.empty) :
  jq (t.put (qD t h c).j).1 (qES hs (vG t.place (qD t h c).j) h):=by
 have hj:(qD t h c).j<=t.mask:=zM (yS _ _) (QK t h c)
 have T:=qKA k.tab hj s
 have cu:=QO k.tab.rise (qD t h c).j
 have sz:=k.tab.size
 have same:∀(h':Int) (n:Nat),qD (t.put (qD t h c).j).1 h' n=qD t h' n:=fun h' n=>JV (t:=(t.put (qD t h c).j).1) (u:=t) rfl h' n
 have more:∀ j':Nat,t.slot j'≠.empty->(t.put (qD t h c).j).1.slot j'≠.empty:=by
  intro j' n
  refine (JR T j').mpr ?_
  rw [QS k.tab,qC0]
  exact .inr ((JR k.tab j').mp n)
 refine ⟨by rw [qAp]; exact T,k.fits,by rw [qAp]; exact room,fun i h' hi=>?_⟩
 rw [qDv _ (by have:=cu.le; omega)] at hi
 have hp:(t.put (qD t h c).j).1.place[i]? = if i<vG t.place (qD t h c).j then t.place[i]? else if i=vG t.place (qD t h c).j then some (qD t h c).j else t.place[i - 1]?:=by
  rw [<- yC,QS k.tab,qDv _ (by rw [wM]; exact cu.le),yC,yC]
 rw [hp]
 have old:∀ i:Nat,hs[i]? = some h'->∃ c',t.place[i]? = some (qD (t.put (qD t h c).j).1 h' c').j/\∀ q,q<c'->(t.put (qD t h c).j).1.slot (qD (t.put (qD t h c).j).1 h' q).j≠.empty:=by
  intro i hi
  obtain ⟨c',e,al⟩:=k.meet i h' hi
  refine ⟨c',by rw [same]; exact e,fun q hq=>?_⟩
  rw [same]
  exact more _ (al q hq)
 by_cases z:i<vG t.place (qD t h c).j
 ·rw [if_pos z] at hi ⊢
  exact old i hi
 ·rw [if_neg z] at hi ⊢
  by_cases y:i=vG t.place (qD t h c).j
  ·rw [if_pos y] at hi ⊢
   cases hi
   refine ⟨c,by rw [same],fun q hq=>?_⟩
   rw [same]
   exact more _ (all q hq)
  ·rw [if_neg y] at hi ⊢
   exact old (i - 1) hi
theorem qD8 (finger moves:Nat) (led:Bool):jq (SetTable.fresh finger moves led) []:=by
 refine ⟨⟨fun a b _ hb=>absurd hb (uE _),rfl,rfl,fun k h=>absurd h (uE _)⟩,.inl rfl,yN _,fun i h hi=>?_⟩
 cases hi
theorem qEP {t:ST} {h:Int} {k n:Nat} (b:qF3 t h k n):qF3 t h (k+1) (n+(qD t h n).more+1):=by
 obtain ⟨h1,h2,h3,h4⟩:=qAK t h (n:=n) (qD t h n).more (wH _)
 have m9:(qD t h n).more<=9:=by
  rw [b.more]
  unfold xD
  split <;> omega
 have e:qD t h (n+(qD t h n).more+1) = { qD t h (n+(qD t h n).more) with j:=(xW t.mask (qh t.mask (wX h) k).1 (qh t.mask (wX h) k).2).1,more:=xD t.mask (xW t.mask (qh t.mask (wX h) k).1 (qh t.mask (wX h) k).2).1 - (xW t.mask (qh t.mask (wX h) k).1 (qh t.mask (wX h) k).2).1,i:=(xW t.mask (qh t.mask (wX h) k).1 (qh t.mask (wX h) k).2).1,perturb:=(xW t.mask (qh t.mask (wX h) k).1 (qh t.mask (wX h) k).2).2 }:=by
  show t.advance (qD t h (n+(qD t h n).more))=_
  unfold kU
  rw [if_neg (by omega),h2,h3,b.i,b.p]
 refine ⟨?_,?_,?_,?_,?_⟩
 ·have:=b.few
  omega
 ·rw [e]; rfl
 ·rw [e]; rfl
 ·rw [e]; rfl
 ·rw [e]; rfl
noncomputable abbrev qBv (o:Array (Option Nat)) (j:Nat):Prop:=(o.getD j (some 0)).isNone=true
theorem qHP {t:ST} {h:Int} {k n r:Nat} (b:qF3 t h k n) (hr:r∈wV (xD t.mask (qh t.mask (wX h) k).1+1 - (qh t.mask (wX h) k).1)):r<=(qD t h n).more/\(qD t h (n+r)).j=(qh t.mask (wX h) k).1+r:=by
 have l:=zO.mp hr
 have m:=b.more
 have le:r<=(qD t h n).more:=by omega
 refine ⟨le,?_⟩
 rw [(qAK t h r le).1,b.j]
theorem qDJ {t:ST} (o:Array (Option Nat)) (h:Int):∀(fuel k n:Nat),qF3 t h k n->(∀ q,q<n->¬ qBv o (qD t h q).j)->(∃ k',k<=k'/\k'<k+fuel/\qBv o (qh t.mask (wX h) k').1)->
  ∃ c,gK t.mask o fuel (qh t.mask (wX h) k).1 (qh t.mask (wX h) k).2=some (qD t h c).j/\qBv o (qD t h c).j/\∀ q,q<c->¬ qBv o (qD t h q).j
 | 0,k,n,b,al,⟨k',h1,h2,_⟩=>absurd h2 (by omega)
 | fuel+1,k,n,b,al,⟨k',h1,h2,h3⟩=>by
  unfold gK
  cases f:(wV (xD t.mask (qh t.mask (wX h) k).1+1 - (qh t.mask (wX h) k).1)).find? (fun r=>(o.getD ((qh t.mask (wX h) k).1+r) (some 0)).isNone) with
  | some r=>
   obtain ⟨p,mem,lo⟩:=List.find?_range_eq_some.mp f
   obtain ⟨le,e⟩:=qHP b mem
   refine ⟨n+r,by rw [e],by rw [e]; exact p,fun q hq=>?_⟩
   by_cases z:q<n
   ·exact al q z
   ·have q':q=n+(q - n):=by omega
    rw [q',(qAK t h (q - n) (by omega)).1,b.j]
    have:=lo (q - n) (by omega)
    intro w
    rw [w] at this
    cases this
  | none=>
   have no:=List.find?_eq_none.mp f
   have here:∀ r,r<=(qD t h n).more->¬ qBv o ((qh t.mask (wX h) k).1+r):=fun r hr=>no r (zO.mpr (by
    have m:=b.more
    have:(qh t.mask (wX h) k).1<=xD t.mask (qh t.mask (wX h) k).1:=by
     unfold xD
     split <;> omega
    omega))
   refine qDJ o h fuel (k+1) _ (qEP b) (fun q hq=>?_) ⟨k',?_,by omega,h3⟩
   ·by_cases z:q<n
    ·exact al q z
    ·have q':q=n+(q - n):=by omega
     rw [q',(qAK t h (q - n) (by omega)).1,b.j]
     exact here (q - n) (by omega)
   ·rcases fK h1 with z | z
    ·exact z
    ·subst z
     exact absurd h3 (here 0 (yN _))
theorem qJq {t:ST} (F:Fits t.mask) (o:Array (Option Nat)) (h:Int) {e:Nat} (he:e<=t.mask) (be:qBv o e) :
  ∃ c,gK t.mask o (xM t.mask) (wX h % (t.mask+1)) (wX h)=some (qD t h c).j/\qBv o (qD t h c).j/\∀ q,q<c->¬ qBv o (qD t h q).j:=by
 obtain ⟨q,hq,eq⟩:=qDC (qBX F) (uP (qBi t.mask (wX h) 13)) (uP he)
 refine qDJ o h (xM t.mask) 0 0 ⟨wH _,rfl,rfl,rfl,rfl⟩ (fun q hq=>absurd hq (uE _)) ⟨13+q,yN _,?_,?_⟩
 ·unfold xM
  omega
 ·rw [JY,eq]
  exact be
structure qHV (t:ST) (o:Array (Option Nat)) (hs:List Int):Prop where
 size:o.size=t.mask+1
 low:∀(j k:Nat),o[j]? = some (some k)->k<hs.length
 once:∀(j j' k:Nat),o[j]? = some (some k)->o[j']? = some (some k)->j=j'
 meet:∀(i:Nat) (h:Int),hs[i]? = some h->∃ c,o[(qD t h c).j]? = some (some i)/\∀ q,q<c->¬ qBv o (qD t h q).j
theorem JN {o:Array (Option Nat)} {j:Nat} (hj:j<o.size):qBv o j↔o[j]? = some none:=by
 unfold qBv
 rw [yO,zI hj,Option.getD_some]
 cases o[j] with
 | none=>exact ⟨fun _=>rfl,fun _=>rfl⟩
 | some k=>exact ⟨fun h=>(by cases h),fun h=>(by cases h)⟩
theorem qJA {t:ST} {o:Array (Option Nat)} {hs:List Int} (O:qHV t o hs) {h:Int} {c:Nat} (b:qBv o (qD t h c).j) (al:∀ q,q<c->¬ qBv o (qD t h q).j):qHV t (o.setIfInBounds (qD t h c).j (some hs.length)) (hs++[h]):=by
 have hj:(qD t h c).j<o.size:=by
  rw [O.size]
  exact uP (zM (yS _ _) (QK t h c))
 have at0:=(JN hj).mp b
 have get:∀ j:Nat,(o.setIfInBounds (qD t h c).j (some hs.length))[j]? = if (qD t h c).j=j then some (some hs.length) else o[j]?:=by
  intro j
  refine Eq.trans Array.getElem?_setIfInBounds ?_
  by_cases z:(qD t h c).j=j
  ·rw [if_pos z,if_pos z,if_pos hj]
  ·rw [if_neg z,if_neg z]
 have keep:∀ j:Nat,j<=t.mask->¬ qBv o j->¬ qBv (o.setIfInBounds (qD t h c).j (some hs.length)) j:=by
  intro j hm nb w
  have w':=(JN (by rw [fY,O.size]; omega)).mp w
  rw [get] at w'
  by_cases z:(qD t h c).j=j
  ·rw [if_pos z] at w'
   cases w'
  ·rw [if_neg z] at w'
   exact nb ((JN (by rw [O.size]; omega)).mpr w')
 have lowj:∀(h':Int) (q:Nat),(qD t h' q).j<=t.mask:=fun h' q=>zM (yS _ _) (QK t h' q)
 refine ⟨by rw [fY]; exact O.size,fun j k e=>?_,fun j j' k e e'=>?_,fun i h' hi=>?_⟩
 ·rw [get] at e
  rw [wO]
  by_cases z:(qD t h c).j=j
  ·rw [if_pos z] at e
   cases e
   exact Nat.lt_succ_self _
  ·rw [if_neg z] at e
   exact Nat.lt_succ_of_lt (O.low j k e)
 ·rw [get] at e e'
  by_cases z:(qD t h c).j=j
  ·by_cases z':(qD t h c).j=j'
   ·exact z.symm.trans z'
   ·rw [if_pos z] at e
    rw [if_neg z'] at e'
    cases e
    exact absurd (O.low j' _ e') (vO _)
  ·by_cases z':(qD t h c).j=j'
   ·rw [if_neg z] at e
    rw [if_pos z'] at e'
    cases e'
    exact absurd (O.low j _ e) (vO _)
   ·rw [if_neg z] at e
    rw [if_neg z'] at e'
    exact O.once j j' k e e'
 ·by_cases z:i<hs.length
  ·rw [yL z] at hi
   obtain ⟨c',e,al'⟩:=O.meet i h' hi
   refine ⟨c',?_,fun q hq=>keep _ (lowj h' q) (al' q hq)⟩
   rw [get,if_neg,e]
   intro w
   rw [<- w,at0] at e
   cases e
  ·rw [zU (vH z)] at hi
   have i0:i=hs.length:=by
    refine uC (vH fun y=>?_) (vH z)
    rw [show i - hs.length=(i - hs.length - 1)+1 by omega] at hi
    cases hi
   subst i0
   rw [ZT] at hi
   cases hi
   refine ⟨c,by rw [get,if_pos rfl],fun q hq=>keep _ (lowj h q) (al q hq)⟩
theorem qGt {t:ST} {o:Array (Option Nat)} {hs:List Int} (O:qHV t o hs) (room:hs.length<=t.mask):∃ e,e<=t.mask/\qBv o e:=by
 refine zY fun no=>?_
 have all:∀ e:Nat,e<=t.mask->∃ k,o[e]? = some (some k):=by
  intro e he
  have hl:e<o.size:=by rw [O.size]; omega
  have nb:¬ qBv o e:=fun b=>no ⟨e,he,b⟩
  cases z:o[e] with
  | none=>exact absurd ((JN hl).mpr (by rw [zI hl,z])) nb
  | some k=>exact ⟨k,by rw [zI hl,z]⟩
 have val:∀(e k:Nat),o[e]? = some (some k)->(o.getD e none).getD 0=k:=by
  intro e k h
  rw [yO,h]
  rfl
 have nd:((wV (t.mask+1)).map fun e=>(o.getD e none).getD 0).Nodup:=by
  unfold List.Nodup
  rw [yB]
  refine (xT (n:=t.mask+1)).imp_of_mem fun {a b} ha hb ne w=>ne ?_
  obtain ⟨k,hk⟩:=all a (vS (zO.mp ha))
  obtain ⟨k',hk'⟩:=all b (vS (zO.mp hb))
  rw [val a k hk,val b k' hk'] at w
  subst w
  exact O.once a b k hk hk'
 have sub:∀ k∈(wV (t.mask+1)).map fun e=>(o.getD e none).getD 0,k∈wV hs.length:=by
  intro k hk
  obtain ⟨e,he,ek⟩:=zF.mp hk
  obtain ⟨k',hk'⟩:=all e (vS (zO.mp he))
  rw [val e k' hk'] at ek
  subst ek
  exact zO.mpr (O.low e _ hk')
 have:=vK nd sub
 rw [wC,zT,zT] at this
 omega
noncomputable def qBD (mask:Nat) (acc:Option (Array (Option Nat)×Nat)) (h:Int):Option (Array (Option Nat)×Nat):=
 acc.bind fun x=>(gK mask x.1 (xM mask) (wX h % (mask+1)) (wX h)).bind fun j=>some (x.1.setIfInBounds j (some x.2),x.2+1)
theorem qH1 (mask:Nat) (hs:Array Int):VQ mask hs=(hs.toList.foldl (qBD mask) (some (Array.replicate (mask+1) none,0))).map (·.1):=by
 unfold VQ
 rw [<- Array.foldl_toList]
 rfl
theorem qIl {t:ST} (F:Fits t.mask):∀(rest done:List Int) (o:Array (Option Nat)),qHV t o done->done.length+rest.length<=t.mask->
  ∃ o',rest.foldl (qBD t.mask) (some (o,done.length))=some (o',done.length+rest.length)/\qHV t o' (done++rest)
 | [],done,o,O,_=>⟨o,rfl,by rw [zK]; exact O⟩
 | h::rest,done,o,O,room=>by
  rw [wZ] at room
  obtain ⟨e,he,be⟩:=qGt O (by omega)
  obtain ⟨c,fr,b,al⟩:=qJq F o h he be
  obtain ⟨o',r,O'⟩:=qIl F rest (done++[h]) _ (qJA O b al) (by rw [wO,List.length_singleton]; omega)
  refine ⟨o',?_,by rw [yG] at O'; exact O'⟩
  rw [UK]
  have st:qBD t.mask (some (o,done.length)) h=some (o.setIfInBounds (qD t h c).j (some done.length),(done++[h]).length):=by
   unfold qBD
   rw [Option.bind_some,fr,Option.bind_some,wO]
   rfl
  rw [st,r]
  simp only [wO,wZ,uD]
  congr 2
  omega
theorem qHS (t:ST):qHV t (Array.replicate (t.mask+1) none) []:=by
 refine ⟨Array.size_replicate,fun j k e=>?_,fun j j' k e _=>?_,fun i h hi=>by cases hi⟩
 ·rw [SE] at e
  split at e <;> cases e
 ·rw [SE] at e
  split at e <;> cases e
theorem qJG {t:ST} (F:Fits t.mask) (hs:Array Int) (room:hs.size<=t.mask):∃ o,VQ t.mask hs=some o/\qHV t o hs.toList:=by
 obtain ⟨o,r,O⟩:=qIl F hs.toList [] _ (qHS t) (by rw [uD,kT,wM]; exact room)
 refine ⟨o,?_,O⟩
 rw [qH1]
 rw [uD] at r
 rw [r]
 rfl
noncomputable def qx (mask:Nat) (o:Array (Option Nat)):List (Nat×Nat):=(wV (mask+1)).filterMap fun j=>(o.getD j none).map (j,·)
theorem jx {t:ST} {o:Array (Option Nat)} {hs:List Int} (O:qHV t o hs) {j k:Nat}:(j,k)∈qx t.mask o↔o[j]? = some (some k):=by
 unfold qx
 rw [WQ]
 constructor
 ·rintro ⟨a,ha,e⟩
  have hl:a<o.size:=by rw [O.size]; exact zO.mp ha
  rw [yO,zI hl,Option.getD_some] at e
  cases z:o[a] with
  | none=>rw [z] at e; cases e
  | some b=>
   rw [z] at e
   cases e
   rw [zI hl,z]
 ·intro e
  have hl:j<o.size:=(uK.mp e).1
  refine ⟨j,zO.mpr (by rw [<- O.size]; exact hl),?_⟩
  rw [yO,e]
  rfl
theorem qBU (mask:Nat) (o:Array (Option Nat)):((qx mask o).map (·.1)).Pairwise (· < ·):=by
 rw [yB]
 unfold qx
 rw [List.pairwise_filterMap]
 refine (List.pairwise_lt_range (n:=mask+1)).imp fun {a b} ab x hx y hy=>?_
 cases za:o.getD a none with
 | none=>rw [za] at hx; cases hx
 | some k=>
  cases zb:o.getD b none with
  | none=>rw [zb] at hy; cases hy
  | some k'=>
   rw [za] at hx
   rw [zb] at hy
   cases hx
   cases hy
   exact ab
theorem qGR {t:ST} {o:Array (Option Nat)} {hs:List Int} (O:qHV t o hs):xO ((qx t.mask o).map (·.2)) (wV hs.length):=by
 refine (TN ?_ xT).mpr fun k=>?_
 ·unfold List.Nodup
  rw [yB]
  have r:=qBU t.mask o
  rw [yB] at r
  refine r.imp_of_mem fun {a b} ha hb lt w=>?_
  obtain ⟨a1,a2⟩:=a
  obtain ⟨b1,b2⟩:=b
  have w':a2=b2:=w
  subst w'
  have:=O.once a1 b1 a2 ((jx O).mp ha) ((jx O).mp hb)
  have lt':a1<b1:=lt
  omega
 ·rw [zF,zO]
  constructor
  ·rintro ⟨⟨j,k'⟩,m,e⟩
   cases e
   exact O.low j _ ((jx O).mp m)
  ·intro hk
   obtain ⟨c,e,_⟩:=O.meet k hs[k] (wA hk)
   exact ⟨(_,k),(jx O).mpr e,rfl⟩
theorem qDq {α:Type} (xs:List α):∀(l:List Nat),(∀ k∈l,k<xs.length)->∀ i:Nat,(l.filterMap (xs[·]?))[i]? = (l[i]?).bind (xs[·]?)
 | [],_,i=>rfl
 | k::l,h,i=>by
  have hk:=h k wD
  rw [hE,wA hk]
  cases i with
  | zero=>
   show some _=xs[k]?
   rw [wA hk]
  | succ i=>exact qDq xs l (fun a ha=>h a (wJ _ ha)) i
theorem qFj {t:ST} (F:Fits t.mask) (hs:Array Int) (room:hs.size<=t.mask) (finger moves:Nat) (led plain:Bool) :
  ∃(u:ST) (order:Array Nat),SetTable.laid t.mask finger moves led plain hs=some (u,order)/\xO order.toList (wV hs.size)/\jq u (order.toList.filterMap (hs.toList[·]?))/\u.mask=t.mask/\u.led=led/\u.plain=plain:=by
 obtain ⟨o,lo,O⟩:=qJG F hs room
 have pm:=qGR O
 rw [wM] at pm
 have low:∀ k∈(qx t.mask o).map (·.2),k<hs.toList.length:=fun k hk=>by
  rw [wM]
  exact zO.mp (pm.mem_iff.mp hk)
 have len:(((qx t.mask o).map (·.2)).filterMap (hs.toList[·]?)).length=(qx t.mask o).length:=by
  have:∀(l:List Nat),(∀ k∈l,k<hs.toList.length)->(l.filterMap (hs.toList[·]?)).length=l.length:=by
   intro l
   induction l with
   | nil=>intro _; rfl
   | cons k l ih=>
    intro h
    rw [hE,wA (h k wD)]
    exact congrArg (· + 1) (ih fun a ha=>h a (wJ _ ha))
  rw [this _ low,wC]
 have full:(qx t.mask o).length=hs.size:=by
  have:=pm.length_eq
  rwa [wC,zT] at this
 refine ⟨{ mask:=t.mask,place:=((qx t.mask o).map (·.1)).toArray,dummies:=#[],finger,led,moves,plain },((qx t.mask o).map (·.2)).toArray,?_,pm,?_,rfl,rfl,rfl⟩
 ·unfold SetTable.laid
  rw [lo]
  rfl
 ·have T:Tab { mask:=t.mask,place:=((qx t.mask o).map (·.1)).toArray,dummies:=#[],finger,led,moves,plain } (((qx t.mask o).map (·.2)).filterMap (hs.toList[·]?)).length:=by
   refine ⟨YH.mpr (qBU t.mask o),?_,rfl,fun k hk=>?_⟩
   ·rw [len]
    exact (wL).trans (wC _)
   ·have m:((qx t.mask o).map (·.1)).toArray[k]∈(qx t.mask o).map (·.1):=List.mem_toArray.mp (VO hk)
    obtain ⟨⟨j,k'⟩,mm,e⟩:=zF.mp m
    show ((qx t.mask o).map (·.1)).toArray[k]<=t.mask
    rw [<- e]
    have:=(uK.mp ((jx O).mp mm)).1
    rw [O.size] at this
    exact vS this
  refine ⟨T,F,by show _<=t.mask; rw [len,full]; exact room,fun i h hi=>?_⟩
  rw [qDq _ _ low,wQ] at hi
  cases z:(qx t.mask o)[i]? with
  | none=>rw [z] at hi; cases hi
  | some p=>
   rw [z] at hi
   obtain ⟨j,k⟩:=p
   have hk:hs.toList[k]? = some h:=hi
   have own:=(jx O).mp (vM z)
   obtain ⟨c,e,al⟩:=O.meet k h hk
   have ej:=O.once _ _ _ e own
   have same:∀ q,qD { mask:=t.mask,place:=((qx t.mask o).map (·.1)).toArray,dummies:=#[],finger,led,moves,plain } h q=qD t h q:=fun q=>JV (t:={ mask:=t.mask,place:=((qx t.mask o).map (·.1)).toArray,dummies:=#[],finger,led,moves,plain }) (u:=t) rfl h q
   refine ⟨c,?_,fun q hq=>?_⟩
   ·rw [same,ej]
    show ((qx t.mask o).map (·.1)).toArray[i]? = some j
    rw [ZY,wQ,z]
    rfl
   ·rw [same]
    refine (JR T _).mpr ?_
    show (qD t h q).j∈(qx t.mask o).map (·.1)
    have hl:(qD t h q).j<o.size:=by
     rw [O.size]
     exact uP (zM (yS _ _) (QK t h q))
    cases y:o[(qD t h q).j] with
    | none=>exact absurd ((JN hl).mpr (by rw [zI hl,y])) (al q hq)
    | some k'=>exact zF.mpr ⟨(_,k'),(jx O).mpr (by rw [zI hl,y]),rfl⟩
theorem qD4 {t:ST} {hs:List Int} (k:jq t hs) {h:Int} {c i:Nat} (s:t.slot (qD t h c).j=.empty) (hi:hs[i]? = some h):∃ c',c'<c/\t.slot (qD t h c').j=.live i:=by
 obtain ⟨c',e,al⟩:=k.meet i h hi
 have lv:=YS k.tab e
 refine ⟨c',Nat.lt_of_le_of_ne (vH fun z=>al c z s) fun z=>?_,lv⟩
 rw [<- z,lv] at s
 cases s
structure JZ (t:ST) (hs:List Int):Prop where
 kept:jq t hs
 few:hs.length*5<t.mask*3
theorem JZ.fill {t:ST} {hs:List Int} (k:jq t hs):t.fill=hs.length:=by
 unfold SetTable.fill
 rw [k.tab.size,k.tab.bare]
 rfl
theorem qCg (finger moves:Nat) (led:Bool):JZ (SetTable.fresh finger moves led) []:=⟨qD8 finger moves led,by show 0<7*3; decide⟩
theorem qBq {mask n:Nat} (F:Fits mask) (few:n*5<mask*3) (full:(n+1)*5≥mask*3) (hn:n+1<307) :
  Fits (kD (kA (n+1)) - 1)/\(n+1)*5<(kD (kA (n+1)) - 1)*3/\kD (kA (n+1))<=512:=by
 rcases F with z | z | z | z
 ·subst z
  have e:n=4:=by omega
  subst e
  exact ⟨.inr (.inl (by decide)),by decide,by decide⟩
 ·subst z
  have e:n=18:=by omega
  subst e
  exact ⟨.inr (.inr (.inl (by decide))),by decide,by decide⟩
 ·subst z
  have e:n=76:=by omega
  subst e
  exact ⟨.inr (.inr (.inr (by decide))),by decide,by decide⟩
 ·omega
theorem qCK {t:ST} {hs:List Int} (k:jq t hs) {n:Nat} (hn:hs.length=n+1) (few:n*5<t.mask*3) (full:t.tooFull=true) (lim:n+1<307) (ha:Array Int) (eh:ha.toList=hs) :
  ∃(u:ST) (order:Array Nat),t.relaid ha (kA (n+1))=some (u,order)/\xO order.toList (wV hs.length)/\JZ u (order.toList.filterMap (hs[·]?))/\u.led=t.led/\u.plain=t.plain:=by
 have f:=of_decide_eq_true full
 rw [JZ.fill k,hn] at f
 obtain ⟨F,fw,_⟩:=qBq k.fits few f lim
 have sz:ha.size=n+1:=by rw [<- wM,eh,hn]
 obtain ⟨u,order,e,pm,kp,em,el,ep⟩:=qFj (t:={ t with mask:=kD (kA (n+1)) - 1 }) F ha (by rw [sz]; show n+1<=kD (kA (n+1)) - 1; omega) t.finger (t.movedTo (kD (kA (n+1)) - 1)) t.led t.plain
 rw [eh] at kp
 rw [sz,<- hn] at pm
 refine ⟨u,order,e,pm,⟨kp,?_⟩,el,ep⟩
 have len:(order.toList.filterMap (hs[·]?)).length=n+1:=by
  have:=pm.filterMap (hs[·]?)
  have:=this.length_eq
  rw [this]
  have q:=congrArg WC (PySem.List.filterMap_getElem?_range_length hs)
  rw [<- hn]
  exact q
 rw [len,em]
 exact fw
theorem qEi {t:ST} {hs:List Int} (R:JZ t hs) {h:Int} {c:Nat} (s:t.slot (qD t h c).j=.empty) (all:∀ q,q<c->t.slot (qD t h q).j≠.empty) :
  jq (t.put (qD t h c).j).1 (qES hs (vG t.place (qD t h c).j) h)/\((t.put (qD t h c).j).1.tooFull=false->JZ (t.put (qD t h c).j).1 (qES hs (vG t.place (qD t h c).j) h)):=by
 have lo:7<=t.mask:=by
  rcases R.kept.fits with z | z | z | z <;> omega
 have few:=R.few
 have kp:=qGq R.kept (by omega) s all
 refine ⟨kp,fun nf=>⟨kp,?_⟩⟩
 have:=of_decide_eq_false nf
 rw [JZ.fill kp] at this
 omega
section
variable {w:World} {prog:Program} {A:Around} {E:Value->Shared->Prop} {s:Shared}
theorem ifF {α:Type} {x y:Sem α} {Q:α->Shared->Prop} (h:wpAny (model prog w) A y Q E s):wpAny (model prog w) A (if false=true then x else y) Q E s:=h
theorem told {α β:Type} {m:Sem α} {a:α} {g:α->Sem β} {Q:β->Shared->Prop} (e:m=pure a) (h:wpAny (model prog w) A (g a) Q E s):wpAny (model prog w) A (m >>= g) Q E s:=by
 subst e
 exact wB (wI h)
theorem Q6 {α β:Type} {P:α->Prop} {f:α->β->Sem (ForInStep β)} {b:β} {Q:β->Shared->Prop} (go:∀(x:α) (R:ForInStep β->Shared->Prop),P x->R (.yield b) s->wpAny (model prog w) A (f x b) R E s) (q:Q b s):∀ l:List α,(∀ x∈l,P x)->wpAny (model prog w) A (forIn l b f) Q E s
 | [],_=>wI q
 | x::l,h=>by
  rw [uB]
  exact wB (go x _ (h x wD) (Q6 go q l fun y hy=>h y (wJ _ hy)))
noncomputable def isI (v:Value):Prop:=∃ k t,v=.int k t
theorem all_ints {ks:List Int} {vs:List Value} (h:ItemsAre (intKind prog w) ks vs):∀ v∈vs,isI v:=by
 induction h with
 | nil=>exact fun v z=>nomatch z
 | cons one _ rest=>
  exact fun v z=>(wW.mp z).elim (fun e=>let ⟨t,y⟩:=Value.isInt_shape one; ⟨_,t,e.trans y⟩) (rest v)
theorem qCB (n:Nat) {v:Value} (h:isI v):ofAClassStatement n v=pure false:=by
 obtain ⟨k,t,rfl⟩:=h
 cases n <;> rfl
theorem qB6 (n:Nat) {v:Value} (h:isI v):hashByValue n v=pure true:=by
 obtain ⟨k,t,rfl⟩:=h
 cases n <;> rfl
theorem YN {ks:List Int} {a:Addr} {Q:Bool->Shared->Prop} (hk:IsTupleKey (intKind prog w) s.heap ks a) (h:Q false s):wpAny (model prog w) A (ofAClassStatement 8 (.ref a)) Q E s:=by
 obtain ⟨o,xs,n,at_,cl,dt,its⟩:=hk
 unfold ofAClassStatement
 refine wB (gZ (T:="tuple") ⟨o,at_,cl⟩ (wB (wI ?_)))
 refine ifF (wB (uI at_ dt (wB ?_)))
 rw [<- kB]
 refine Q6 (P:=isI) ?_ ?_ _ (all_ints its)
 ·exact fun x R hx r=>told (qCB _ hx) (ifF (wI r))
 ·exact wI h
noncomputable def qEv (prog:Program) (w:World) (h:Heap) (vs:List Value):Prop:=∀ v∈vs,∃(b:Addr) (ks:List Int),v=yJ b/\IsTupleKey (intKind prog w) h ks b
theorem qG0 {ks:List Int} {a:Addr} {ys:List Value} {Q:Bool->Shared->Prop} (hk:IsTupleKey (intKind prog w) s.heap ks a) (hy:qEv prog w s.heap ys) (h:Q false s):wpAny (model prog w) A (searchCouldBeSeen (.ref a) ys) Q E s:=by
 unfold searchCouldBeSeen
 refine wB ?_
 refine Q6 (P:=fun v=>∃(b:Addr) (ks:List Int),v=yJ b/\IsTupleKey (intKind prog w) s.heap ks b) (fun x R hx r=>?_) ?_ ys hy
 rotate_left
 ·exact wI h
 obtain ⟨b,kb,rfl,hb⟩:=hx
 dsimp only
 split
 ·exact wI r
 ·refine wB (wpAny_eqIsQuiet_tuple hk (ifF (wB (wpAny_eqIsQuiet_tuple hb (ifF ?_)))))
  exact wB (YN hk (ifF (wB (YN hb (ifF (wI r))))))
theorem qDz {ks:List Int} {a:Addr} {Q:Bool->Shared->Prop} (hk:IsTupleKey (intKind prog w) s.heap ks a) (h:Q true s):wpAny (model prog w) A (hashByValue 8 (.ref a)) Q E s:=by
 have ty:=hk.typeIs
 obtain ⟨o,xs,n,at_,cl,dt,its⟩:=hk
 unfold hashByValue
 refine wB (UL ty F.slot_tuple_hash.lookup (wB (uI at_ dt (wB ?_))))
 show wpAny _ _ (forIn xs _ _) _ _ _
 rw [<- kB]
 refine Q6 (P:=isI) ?_ ?_ _ (all_ints its)
 ·exact fun x R hx r=>told (qB6 _ hx) (ifF (wI r))
 ·exact wI h
end
section
variable {prog:Program} {w:World} {A:Around} {E:Value->Shared->Prop} {s:Shared}
theorem JQ {t:ST} {hs:List Int} (k:jq t hs) {n:Nat} (hn:hs.length=n):t.fits n=true:=by
 unfold SetTable.fits
 rw [JZ.fill k,k.tab.size,hn]
 have:=k.room
 rw [hn] at this
 simp [this]
theorem asks {β:Type} {prog:Program} {w:World} {A:Around} {E:Value->Shared->Prop} {s:Shared} {a:Addr} {o:Obj} {es:Array (Int×Value)} {ep:Nat} {t:ST} {g:Array (Int×Value)×Nat×ST->Sem β} {Q:β->Shared->Prop} (ho:s.heap.get? a=some o) (hd:o.data=.set es ep t) (k:jq t (es.toList.map (·.1))) (h:wpAny (model prog w) A (g (es,ep,t)) Q E s):wpAny (model prog w) A (setState a >>= g) Q E s:=
 wB (wpAny_setState_of ho hd (JQ k (by rw [wC,wM])) h)
theorem qHC {t:ST} {hs:List Int} (k:jq t hs):t.gaveWay=false:=by
 unfold SetTable.gaveWay
 rcases k.fits with z | z | z | z <;> rw [z] <;> rfl
theorem Ym {a ax:Addr} {kx:List Int} {h:Int} {o:Obj} {es:Array (Int×Value)} {ep:Nat} {t:ST} {Q:SetFound->Shared->Prop}
  (ho:s.heap.get? a=some o) (hd:o.data=.set es ep t) (k:jq t (es.toList.map (·.1))) (hu:A.units<cLine) (hx:IsTupleKey (intKind prog w) s.heap kx ax)
  (hes:∀(i:Nat) (h':Int) (v:Value),es[i]? = some (h',v)->∃(b:Addr) (kv:List Int),v=.ref b/\IsTupleKey (intKind prog w) s.heap kv b)
  (yes:∀(i:Nat) (h':Int) (b:Addr),es[i]? = some (h',.ref b)->IsTupleKey (intKind prog w) s.heap kx b->Q (.there none) s)
  (no:∀ c,t.slot (qD t h c).j=.empty->(∀ q,q<c->t.slot (qD t h q).j≠.empty)->(∀(i:Nat) (b:Addr),es[i]? = some (h,.ref b)->¬ IsTupleKey (intKind prog w) s.heap kx b)->Q (.free (qD t h c).j false) s) :
  ∀(f c:Nat) (st:Option SetTable.Probe),st.getD (t.probeStart h)=qD t h c->(∀ q,q<c->t.slot (qD t h q).j≠.empty)->
   (∀(q i:Nat) (b:Addr),q<c->t.slot (qD t h q).j=.live i->es[i]? = some (h,.ref b)->¬ IsTupleKey (intKind prog w) s.heap kx b)->10*xM t.mask<f+c->
   wpAny (model prog w) A (setSearchFrom a (.ref ax) h true f st) Q E s
 | 0,c,st,hst,ne,un,fu=>by
  obtain ⟨e,he,se⟩:=qBp k
  obtain ⟨b,hb,eb⟩:=asked k.fits h he
  exact absurd (by rw [eb]; exact se) (ne b (by omega))
 | f+1,c,st,hst,ne,un,fu=>by
  have hf:t.fits es.size=true:=JQ k (by rw [wC,wM])
  obtain ⟨c',m,r⟩:=qFg k (fun i=>(es[i]?.map (·.1)).getD 0) h c (fun b sb _=>vH fun z=>ne b z sb)
  unfold setSearchFrom
  refine asks ho hd k ?_
  dsimp only
  rw [qHC k,hst]
  refine ifF ?_
  have gh:∀(i:Nat) (v:Value),es[i]? = some (h,v)->(Option.map (fun x:Int×Value=>x.fst) es[i]?).getD 0=h:=fun i v e=>by rw [e]; rfl
  have low:∀ q,q<c'->t.slot (qD t h q).j≠.empty:=by
   intro q hq
   by_cases z:q<c
   ·exact ne q z
   ·obtain ⟨i,e,_⟩:=m.past q (vH z) hq
    rw [e]
    exact fun w=>by cases w
  have unl:∀(q i:Nat) (b:Addr),q<c'->t.slot (qD t h q).j=.live i->es[i]? = some (h,.ref b)->¬ IsTupleKey (intKind prog w) s.heap kx b:=by
   intro q i b hq e ei
   by_cases z:q<c
   ·exact un q i b z e ei
   ·obtain ⟨i',e',g⟩:=m.past q (vH z) hq
    rw [e] at e'
    cases e'
    exact absurd (gh i _ ei) g
  rcases r with ⟨e,pe⟩ | ⟨i,sl,gi,pe⟩
  ·split
   ·rename_i met hm
    have em:=hm.symm.trans pe
    cases em
    refine wI (no c' e low fun i b ei=>?_)
    obtain ⟨q,hq,lv⟩:=qD4 k (i:=i) e (by rw [wQ,yC,ei]; rfl)
    exact unl q i b hq lv ei
   ·rename_i hm
    exact (hm _ pe).elim
  ·split
   ·rename_i met hm
    have em:=hm.symm.trans pe
    cases em
    have il:i<es.size:=by
     rcases qCY k.tab (qD t h c').j with z | ⟨i',z,pl⟩
     ·rw [z] at sl
      cases sl
     ·rw [z] at sl
      cases sl
      have:=(uK.mp pl).1
      rw [k.tab.size,wC,wM] at this
      exact this
    obtain ⟨h',v,hi⟩:∃ h' v,es[i]? = some (h',v):=⟨es[i].1,es[i].2,zI il⟩
    have eh:h'=h:=by rw [hi] at gi; exact gi
    subst eh
    obtain ⟨b,kv,rfl,hb⟩:=hes i _ v hi
    have tu:qEv prog w s.heap (List.map (fun x=>x.snd) (Array.filter (fun x=>x.fst == h') es).toList):=by
     intro v hv
     obtain ⟨x,hx',rfl⟩:=zF.mp hv
     have mem:=(Array.mem_filter.mp (yX.mp hx')).1
     obtain ⟨q,hq,eq⟩:=gN.mp mem
     exact hes q x.1 x.2 (by rw [zI hq,eq])
    dsimp only
    by_cases hl:(!t.led)=true
    case' pos=>
     rw [if_pos hl]
     refine wB (qG0 hx tu ?_)
     refine ifF ?_
    case' neg=>
     rw [if_neg hl]
    all_goals
     rw [hi]
     dsimp only
     refine wB (vP (wpAny_eqBool_tuple hu hb hx ?_))
     refine asks ho hd k ?_
     dsimp only
     by_cases kk:kv=kx
     ·subst kk
      simp only [decide_true,SC,if_true]
      exact wI (yes i _ b hi hb)
     ·have sm:t.sameMemory t.moves t.mask=some true:=by
       unfold SetTable.sameMemory
       rw [if_pos (by exact beq_self_eq_true _)]
      rw [decide_eq_false kk,sm]
      simp only [TC,xR,if_false,if_true]
      rw [sl]
      dsimp only
      rw [hi]
      dsimp only
      refine wB (wpAny_isSame_ref_self ?_)
      simp only [if_true]
      refine wB (wI ?_)
      dsimp only
      refine Ym ho hd k hu hx hes yes no f (c'+1) (some _) rfl (fun q hq=>?_) (fun q j b' hq lv ej=>?_) (by have:=m.le; omega)
      ·rcases fK (vS hq) with z | z
       ·exact low q z
       ·rw [z,sl]
        exact fun w=>by cases w
      ·rcases fK (vS hq) with z | z
       ·exact unl q j b' z lv ej
       ·rw [z,sl] at lv
        cases lv
        rw [hi] at ej
        cases ej
        exact fun w=>kk (hb.inj w)
   ·rename_i hm
    exact (hm _ pe).elim
end
section
variable {prog:Program} {w:World} {A:Around} {E:Value->Shared->Prop} {s:Shared}
theorem ins_map (es:Array (Int×Value)) (p:Nat) (x:Int×Value):(gL es p x).toList.map (·.1)=qES (es.toList.map (·.1)) p x.1:=by
 rw [fZ]
 unfold qES
 rw [yI,xH,List.map_take,List.map_drop]
theorem qGf {t:ST} {hs:List Int} (k:jq t hs):10*xM t.mask<100000+0:=by
 unfold xM
 rcases k.fits with z | z | z | z <;> omega
theorem qD9 {a ax:Addr} {kx:List Int} {h:Int} {o:Obj} {es:Array (Int×Value)} {ep:Nat} {t:ST} {Q:SetFound->Shared->Prop}
  (ho:s.heap.get? a=some o) (hd:o.data=.set es ep t) (k:jq t (es.toList.map (·.1))) (hu:A.units<cLine) (hx:IsTupleKey (intKind prog w) s.heap kx ax)
  (hes:∀(i:Nat) (h':Int) (v:Value),es[i]? = some (h',v)->∃(b:Addr) (kv:List Int),v=.ref b/\IsTupleKey (intKind prog w) s.heap kv b)
  (yes:∀(i:Nat) (h':Int) (b:Addr),es[i]? = some (h',.ref b)->IsTupleKey (intKind prog w) s.heap kx b->Q (.there none) s)
  (no:∀ c,t.slot (qD t h c).j=.empty->(∀ q,q<c->t.slot (qD t h q).j≠.empty)->(∀(i:Nat) (b:Addr),es[i]? = some (h,.ref b)->¬ IsTupleKey (intKind prog w) s.heap kx b)->Q (.free (qD t h c).j false) s) :
  wpAny (model prog w) A (setSearch a (.ref ax) h true) Q E s:=
 Ym ho hd k hu hx hes yes no 100000 0 none rfl (fun q hq=>absurd hq (uE _)) (fun q _ _ hq=>absurd hq (uE _)) (qGf k)
theorem qFE {a:Addr} {o:Obj} {es:Array (Int×Value)} {ep n:Nat} {t:ST} {Q:Unit->Shared->Prop}
  (ho:s.heap.get? a=some o) (hd:o.data=.set es ep t) (k:jq t (es.toList.map (·.1))) (hn:es.size=n+1) (few:n*5<t.mask*3) (full:t.tooFull=true) (lim:n+1<307)
  (q:∀(es':Array (Int×Value)) (t':ST),xO es'.toList es.toList->JZ t' (es'.toList.map (·.1))->t'.led=t.led->t'.plain=t.plain->Q () { s with heap:=s.heap.update a (Obj.putSet es' t') }) :
  wpAny (model prog w) A (setRelay a (kA (n+1))) Q E s:=by
 have hl:(es.toList.map (·.1)).length=n+1:=by rw [wC,wM,hn]
 obtain ⟨u,order,e,pm,R,el,epl⟩:=qCK k hl few full lim (es.map (·.1)) (by rw [ZH])
 have f:=of_decide_eq_true full
 rw [JZ.fill k,hl] at f
 have sz:=(qBq k.fits few f lim).2.2
 rw [hl,<- hn,<- wM] at pm
 have p2:xO (order.filterMap (es[·]?)).toList es.toList:=by
  rw [Array.toList_filterMap]
  refine (pm.filterMap (es[·]?)).trans ?_
  rw [wM,filterMap_getElem?_range]
 have m2:(order.filterMap (es[·]?)).toList.map (·.1)=order.toList.filterMap ((es.toList.map (·.1))[·]?):=by
  rw [Array.toList_filterMap,List.map_filterMap]
  congr 1
  funext i
  rw [wQ,yC]
 have s2:(order.filterMap (es[·]?)).size=es.size:=by
  have:=p2.length_eq
  rwa [wM,wM] at this
 unfold setRelay
 refine asks ho hd k ?_
 dsimp only
 rw [if_neg (by rw [kM]; omega),e]
 refine wB (show wpAny (model prog w) A (if ((order.filterMap (es[·]?)).size != es.size)=true then (do unsupported "internal:set-table-lost-an-element"; pure (order.filterMap (es[·]?),u)) else pure (order.filterMap (es[·]?),u)) _ E s from ?_)
 rw [if_neg (by rw [s2]; simp)]
 refine wI (wpAny_storeSet_of ho hd (q _ _ p2 ?_ el epl) ?_)
 ·rw [m2]
  exact R
 ·rw [s2,hn,kM]
  omega
theorem qJr {a ax:Addr} {kx:List Int} {h:Int} {o:Obj} {es:Array (Int×Value)} {ep:Nat} {t:ST} {Q:Bool->Shared->Prop}
  (ho:s.heap.get? a=some o) (hd:o.data=.set es ep t) (R:JZ t (es.toList.map (·.1))) (hu:A.units<cLine) (hx:IsTupleKey (intKind prog w) s.heap kx ax) (lim:es.size+1<307)
  (hes:∀(i:Nat) (h':Int) (v:Value),es[i]? = some (h',v)->∃(b:Addr) (kv:List Int),v=.ref b/\IsTupleKey (intKind prog w) s.heap kv b)
  (yes:∀(i:Nat) (h':Int) (b:Addr),es[i]? = some (h',.ref b)->IsTupleKey (intKind prog w) s.heap kx b->Q false s)
  (no:(∀(i:Nat) (b:Addr),es[i]? = some (h,.ref b)->¬ IsTupleKey (intKind prog w) s.heap kx b)->∀(es':Array (Int×Value)) (t':ST) (ep':Nat) (hp:Heap),xO es'.toList ((h,.ref ax)::es.toList)->JZ t' (es'.toList.map (·.1))->t'.led=t.led->t'.plain=t.plain->hp.get? a=some { o with data:=.set es' ep' t' }->uL a s.heap hp->Q true { s with heap:=hp }) (f:Nat) :
  wpAny (model prog w) A (setAddHashedIn a (.ref ax) h (f+1)) Q E s:=by
 have k:=R.kept
 have hf:t.fits es.size=true:=JQ k (by rw [wC,wM])
 unfold setAddHashedIn
 refine asks ho hd k ?_
 dsimp only
 have bs:byScan (.ref ax) es=false:=rfl
 rw [bs]
 refine ifF ?_
 refine wB (qD9 ho hd k hu hx hes (fun i h' b e1 e2=>wI (yes i h' b e1 e2)) fun c se al un=>?_)
 dsimp only
 refine asks ho hd k ?_
 dsimp only
 have p1:xO (gL es (uS t (qD t h c).j).snd (h,yJ ax)).toList ((h,yJ ax)::es.toList):=by
  rw [fZ]
  refine UC.trans ?_
  rw [vY]
 obtain ⟨kp,rm⟩:=qEi R se al
 have em:=ins_map es (uS t (qD t h c).j).snd (h,yJ ax)
 have kp':jq (uS t (qD t h c).j).fst ((gL es (uS t (qD t h c).j).snd (h,yJ ax)).toList.map (·.1)):=by
  rw [em]
  exact kp
 have sz:(gL es (uS t (qD t h c).j).snd (h,yJ ax)).size=es.size+1:=by
  have:=p1.length_eq
  rwa [wM,wZ,wM] at this
 have few:es.size*5<t.mask*3:=by
  have:=R.few
  rwa [wC,wM] at this
 have get:∀(hp:Heap) (o:Obj) (e1:Array (Int×Value)) (n1:Nat) (t1:ST) (es':Array (Int×Value)) (t':ST),hp.get? a=some o->o.data=.set e1 n1 t1->(hp.update a (Obj.putSet es' t')).get? a=some { o with data:=.set es' (n1+1) t' }:=by
  intro hp o e1 n1 t1 es' t' g d
  have:=kH (Obj.putSet es' t') g (by rw [putSet_of es' t' d]; rfl)
  rw [putSet_of es' t' d] at this
  exact this
 by_cases pl:(uS t (qD t h c).j).fst.plain=true
 case' pos=>
  rw [if_pos pl]
  refine wB (qDz hx ?_)
 case' neg=>
  rw [if_neg pl]
  refine wB (wI ?_)
 all_goals
  simp only [if_true,Bool.not_false,Bool.true_and]
  refine wB (wpAny_storeSet_of ho hd ?_ (by rw [sz,kM]; omega))
  have g1:=get s.heap o es ep t (gL es (uS t (qD t h c).j).snd (h,yJ ax)) (uS t (qD t h c).j).fst ho hd
  by_cases full:(uS t (qD t h c).j).fst.tooFull=true
  ·rw [if_pos full]
   refine wB (qFE g1 rfl kp' sz few full lim fun es'' t'' p R' l1 l2=>wI ?_)
   have g2:=get _ _ _ _ _ es'' t'' g1 rfl
   exact no un es'' t'' _ _ (p.trans p1) R' l1 l2 g2 ((xN ..).trans (xN ..))
  ·rw [if_neg full]
   refine wI (no un _ (uS t (qD t h c).j).fst _ _ p1 ?_ rfl rfl g1 (xN ..))
   rw [em]
   exact rm (by rw [<- gR]; exact full)
end
theorem qAE {α:Type}:∀{l:List α} {i:Nat} {x:α},l[i]? = some x->xO (x::l.eraseIdx i) l
 | [],i,x,h=>by cases h
 | y::l,0,x,h=>by
  cases h
  exact .refl _
 | y::l,i+1,x,h=>by
  have:=qAE (l:=l) (i:=i) (x:=x) h
  exact (List.Perm.swap _ _ _).trans (.cons y this)
theorem qEr {α:Type} (next:Nat->Nat):∀(fuel k:Nat) (left:List α) (out:Array α),left.length=fuel->xO (pickOrder.go next fuel k left out).toList (out.toList++left)
 | 0,k,left,out,h=>by
  cases UG h
  rw [zK]
  exact .refl _
 | fuel+1,k,left,out,h=>by
  have hl:next k % left.length<left.length:=WZ _ (by omega)
  have e:=wA hl
  unfold pickOrder.go
  rw [e]
  dsimp only
  refine (qEr next fuel (k+1) (left.eraseIdx (next k % left.length)) _ (by rw [List.length_eraseIdx_of_lt hl,h]; rfl)).trans ?_
  rw [kK,yG]
  exact ZZ _ (qAE e)
theorem qF2 {α:Type} (next:Nat->Nat) (xs:Array α):xO (pickOrder next xs).toList xs.toList:=qEr next xs.size 0 xs.toList #[] (wM)
end L2
namespace L2
open PySem PySem.Spec PyProof.Rows PySem.W
theorem Ja:Slot "set_iterator" "__next__" "set_iterator.__next__":=by
 refine Slot.of (n:="__next__") (owner:="set_iterator") ?_ ?_ ?_ ?_ (.inl ?_) ?_
 ·rw [typeLookup_type,builtinLookup_eq_fast]
  kernel_rfl
 ·decide +kernel
 ·decide +kernel
 ·decide +kernel
 ·decide +kernel
 ·rw [TQ]
  kernel_rfl
theorem qCr:entryFor table "set_iterator.__next__" = some Builtin.«set_iterator.__next__»:=entryFor_of_tree (by kernel_rfl)
theorem qDR (a:Value):argsOk "set_iterator.__next__" ⟨[a],[]⟩:=by
 unfold argsOk
 kernel_rfl
theorem qFx:Slot "set_iterator" "__iter__" "set_iterator.__iter__":=by
 refine Slot.of (n:="__iter__") (owner:="set_iterator") ?_ ?_ ?_ ?_ (.inl ?_) ?_
 ·rw [typeLookup_type,builtinLookup_eq_fast]
  kernel_rfl
 ·decide +kernel
 ·decide +kernel
 ·decide +kernel
 ·decide +kernel
 ·rw [TQ]
  kernel_rfl
theorem qEq:entryFor table "set.__iter__" = some Builtin.«frozenset.__iter__»:=entryFor_alias (id':="frozenset.__iter__") (by kernel_rfl) rfl (by decide +kernel) (by kernel_rfl)
theorem qHB:entryFor table "set_iterator.__iter__" = some Builtin.«dict_keyiterator.__iter__»:=entryFor_alias (id':="dict_keyiterator.__iter__") (by kernel_rfl) rfl (by decide +kernel) (by kernel_rfl)
theorem qHK (a:Value):argsOk "set_iterator.__iter__" ⟨[a],[]⟩:=by
 unfold argsOk
 kernel_rfl
noncomputable abbrev sit (a:Addr) (n ep first i:Nat):Obj:=⟨.type "set_iterator",none,.fields #[.int first 0,.int i 0,.ref a,.int n 0,.int ep 0],#[]⟩
noncomputable abbrev QB (w:World):Bool:=w.params.followText "set-order"
noncomputable def je (w:World) (t:ST) (i:Nat):Nat:=if QB w=true then 0 else match i with
 | 0=>0
 | k+1=>t.place.getD k 0+1
noncomputable def inOrder (w:World) (a:Addr) (ep:Nat) (es:Array (Int×Value)):Array (Int×Value):=if QB w=true then pickOrder (w.params.setOrder a ep) es else es
theorem qAP (w:World) (a:Addr) (ep:Nat) (es:Array (Int×Value)):xO (inOrder w a ep es).toList es.toList:=by
 unfold inOrder
 split
 ·exact qF2 _ _
 ·exact .refl _
theorem qAG (w:World) (a:Addr) (ep:Nat) (es:Array (Int×Value)):(inOrder w a ep es).size=es.size:=by
 have:=(qAP w a ep es).length_eq
 rwa [wM,wM] at this
structure jU (w:World) (h:Heap) (a:Addr) (es:Array (Int×Value)) (ep:Nat) (t:ST):Prop where
 at_:∃ o,h.get? a=some o/\o.ExactSet/\o.data=.set es ep t
 kept:jq t (es.toList.map (·.1))
 led:QB w=true\/t.led=true
 plain:t.plain=true
theorem jU.ext {w:World} {h h':Heap} {a:Addr} {es:Array (Int×Value)} {ep:Nat} {t:ST} (S:jU w h a es ep t) (k:∀ o,h.get? a=some o->h'.get? a=some o):jU w h' a es ep t:=
 let ⟨⟨o,x,y⟩,c,d,e⟩:=S; ⟨⟨o,k o x,y⟩,c,d,e⟩
theorem jU.low {w:World} {h:Heap} {a:Addr} {es:Array (Int×Value)} {ep:Nat} {t:ST} (S:jU w h a es ep t):a<h.objs.size:=let ⟨_,x,_⟩:=S.at_; zQ x
section
variable {prog:Program} {w:World} {A:Around} {E:Value->Shared->Prop} {s:Shared} {a it:Addr} {es:Array (Int×Value)} {ep:Nat} {t:ST}
theorem jU.ty (S:jU w s.heap a es ep t):s.TypeIs (.ref a) "set":=let ⟨o,x,y,_⟩:=S.at_; ⟨o,x,y.1⟩
theorem jU.state {Q:Array (Int×Value)×Nat×ST->Shared->Prop} (S:jU w s.heap a es ep t) (q:Q (es,ep,t) s):wpAny (model prog w) A (setState a) Q E s:=by
 obtain ⟨o,ho,_,hd⟩:=S.at_
 exact wpAny_setState_of ho hd (JQ S.kept (by rw [wC,wM])) q
theorem jM {Q:Bool->Shared->Prop} (q:Q (QB w) s):wpAny (model prog w) A setsByText Q E s:=by
 unfold setsByText
 exact wB (ZG (wI q))
theorem qBy {d:Bool} (p:t.plain=true) (z:(!t.plain && d)=true):False:=by
 rw [p] at z
 cases z
theorem qGs {Q:Value->Shared->Prop} (S:jU w s.heap a es ep t) (K:Q (.ref s.heap.objs.size) { s with heap:=s.heap.push (sit a es.size ep 0 0) }):wpAny (model prog w) A (pyIter (.ref a)) Q E s:=by
 refine wpAny_pyIter_slot S.ty F.slot_set_iter (vV F.slot_set_iter S.ty qEq ?_ (F.args_set_iter_1 _))
 delta Builtin.«frozenset.__iter__» Builtin.Frozenset.slot0 SF Builtin.Frozenset.sizeOf setDrawn setEpoch setEntries
 repeat' first | assumption | (refine S.state ?_) | (refine jM ?_) | wp_step
 refine vA (fun z=>(qBy S.plain (show (!t.plain && decide (es.size > 1))=true from (Bool.and_eq_true_iff.mp z).2)).elim) fun _=>?_
 repeat' first | assumption | (refine S.state ?_) | (refine jM ?_) | wp_step
 exact ⟨_,rfl,"set_iterator",_,⟨_,zL _ rfl,rfl⟩,Ja.lookup,K⟩
theorem qD1 (k:jq t (es.toList.map (·.1))) (nt:QB w=false) {i:Nat} (hi:i<=es.size):vG t.place (je w t i)=i:=by
 have sz:t.place.size=es.size:=by rw [k.tab.size,wC,wM]
 unfold je
 rw [nt,if_neg (by decide)]
 cases i with
 | zero=>
  have c:=QO k.tab.rise 0
  refine Nat.eq_zero_of_not_pos fun z=>?_
  have:=c.lt 0 z (zZ z c.le)
  omega
 | succ i=>
  have hi':i<t.place.size:=by omega
  dsimp only
  rw [qCo hi' 0]
  have c:=QO k.tab.rise (t.place[i]+1)
  have h1:¬ vG t.place (t.place[i]+1)<=i:=fun z=>by
   have:=c.ge i z hi'
   omega
  refine uC ?_ (by omega)
  refine vH fun z=>?_
  have hs:i+1<t.place.size:=zZ z c.le
  have h2:=c.lt (i+1) z hs
  have h3:=k.tab.rise i (i+1) (by omega) hs
  omega
theorem qFi (S:jU w s.heap a es ep t) {i:Nat} {Q:Option (Value×Nat)->Shared->Prop} (hi:i<=es.size) (q:Q (((inOrder w a ep es)[i]?).map fun e=>(e.2,je w t (i+1))) s):wpAny (model prog w) A (setNext a (je w t i) i ep) Q E s:=by
 have sz:t.place.size=es.size:=by rw [S.kept.tab.size,wC,wM]
 delta setNext
 refine wB (S.state ?_)
 refine wB (jM ?_)
 refine vA (fun z=>?_) fun z=>?_
 ·refine vA (fun y=>absurd rfl (bne_iff_ne.mp y)) fun _=>?_
  have e1:∀ k,je w t k=0:=fun k=>by unfold je; rw [if_pos z]
  have e2:inOrder w a ep es=pickOrder (w.params.setOrder a ep) es:=by unfold inOrder; rw [if_pos z]
  rw [e1,e2] at q
  rw [e1]
  delta setWalk
  refine wB (wB (S.state (wB (jM (vA (fun _=>?_) fun y=>absurd z y)))))
  exact wB (ZG (wI (wI q)))
 ·have nt:QB w=false:=VL.mpr z
  have ld:t.led=true:=S.led.resolve_left z
  refine vA (fun y=>(qBy S.plain (show (!t.plain && decide (es.size > 1))=true from y)).elim) fun _=>?_
  have led:(!t.led && !es.isEmpty)=false:=by rw [ld]; rfl
  refine wB (show wpAny _ _ (if (!t.led && !es.isEmpty)=true then unsupported "set:maker-not-led" else pure ()) _ _ _ from ?_)
  rw [if_neg (by rw [led]; exact wU)]
  refine wI ?_
  have e2:inOrder w a ep es=es:=by unfold inOrder; rw [if_neg z]
  rw [e2] at q
  refine wI ?_
  rw [qD1 S.kept nt hi]
  by_cases l:i<es.size
  ·have l':i<t.place.size:=by omega
   rw [zI l] at q
   rw [zI l,zI l']
   have e3:je w t (i+1)=t.place[i]+1:=by
    unfold je
    rw [if_neg z]
    exact congrArg (· + 1) (qCo l' 0)
   rw [e3] at q
   exact q
  ·rw [gM (by omega)] at q
   rw [gM (by omega)]
   exact q
theorem qEJ {i:Nat} {Q:Option Value->Shared->Prop} (hi:s.heap.get? it=some (sit a es.size ep (je w t i) i)) (S:jU w s.heap a es ep t) (l:i<es.size) (K:∀ h' v,h'.get? it=some (sit a es.size ep (je w t (i+1)) (i+1))->qAC it s.heap h'->(∃ hh,(inOrder w a ep es)[i]? = some (hh,v))->Q (some v) { s with heap:=h' }):wpAny (model prog w) A (pyNext (.ref it)) Q E s:=by
 have ty:s.TypeIs (.ref it) "set_iterator":=⟨_,hi,rfl⟩
 have l':i<(inOrder w a ep es).size:=by rw [qAG]; exact l
 delta pyNext
 refine wB (WM (xZ (name:=gI "__next__") ty Ja (vV Ja ty qCr ?_ (qDR _))))
 delta Builtin.«set_iterator.__next__» setEntries
 repeat' first | assumption | (refine S.state ?_) | (refine jM ?_) | (refine qFi S (vR l) ?_) | wp_step
 rw [zI l']
 repeat' first | assumption | wp_step
 have g1:=kH (Obj.mapFields fun x=>x.setIfInBounds 0 (rawInt (je w t (i+1)))) hi rfl
 exact ⟨_,rfl,wI (K _ _ (kH _ g1 rfl) ((qAC.of (xN ..)).then (.of (xN ..))) ⟨_,zI l'⟩)⟩
theorem qFL {Q:Option Value->Shared->Prop} (hh:A.handled=none) (hi:s.heap.get? it=some (sit a es.size ep (je w t es.size) es.size)) (S:jU w s.heap a es ep t) (K:∀ h' tk,qAC it s.heap h'->Q none { s with heap:=h',toks:=tk }):wpAny (model prog w) A (pyNext (.ref it)) Q E s:=by
 have ty:s.TypeIs (.ref it) "set_iterator":=⟨_,hi,rfl⟩
 delta pyNext
 refine wB (WM (xZ (name:=gI "__next__") ty Ja (vV Ja ty qCr ?_ (qDR _))))
 delta Builtin.«set_iterator.__next__» setEntries
 repeat' first | assumption | (refine S.state ?_) | (refine jM ?_) | (refine qFi S (wH _) ?_) | wp_step
 rw [gM (by rw [qAG]; exact wH _)]
 repeat' first | assumption | wp_step
 exact wpAny_raiseNew_none hh (wB (UB (T:="StopIteration") (b:=true) ⟨_,zL _ rfl,rfl⟩ isSubtype_stop (wI (K _ _ (((qAC.of (xN ..)).new _).new _)))))
noncomputable def qGY (w:World) (a:Addr) (ep:Nat) (es:Array (Int×Value)) (i:Nat) (v:Value):Prop:=∃ hh,(inOrder w a ep es)[i]? = some (hh,v)
theorem qCq (calm:A.handled=none) (apart:a≠it):Walks prog w A it [it,a] [it] es.size (qGY w a ep es) (fun i h=>h.get? it=some (sit a es.size ep (je w t i) i)/\jU w h a es ep t) where
 sub:=fun b hb=>by rw [zG.mp hb]; exact wD
 frame:=fun i h h' st k=>⟨k it wD _ st.1,st.2.ext fun o e=>k a (wJ _ wD) o e⟩
 item:=fun i s Q E hi st hQ=>qEJ st.1 st.2 hi fun h' v y past th=>hQ v h' s.toks th ⟨y,st.2.ext fun o e=>past a o apart e⟩ fun b o hb e=>past b o (fun z=>hb (by rw [z]; exact wD)) e
 done:=fun s Q E st hQ=>qFL calm st.1 st.2 fun h' tk past=>hQ h' tk fun b o hb e=>past b o (fun z=>hb (by rw [z]; exact wD)) e
 self:=fun i s Q E st hQ=>by
  have ty:s.TypeIs (.ref it) "set_iterator":=⟨_,st.1,rfl⟩
  refine wpAny_pyIter_slot ty qFx (vV qFx ty qHB ?_ (qHK _))
  exact wI ⟨_,rfl,"set_iterator",_,ty,Ja.lookup,hQ⟩
theorem qHy {Q:Bool->Shared->Prop} (ty:s.TypeIs (.ref a) "set") (q:Q false s):wpAny (model prog w) A (UP (.ref a)) Q E s:=by
 delta UP
 refine wB (UL ty F.slot_set_len.lookup ?_)
 generalize hid:("set.__len__" : String)=id0
 wp_delta
 have sp:splitId id0=some ("set","__len__"):=by subst hid; decide +kernel
 rw [sp]
 subst hid
 refine wB (UB (T:="set") (b:=true) ty (by rw [TQ]; kernel_rfl) ?_)
 refine vA (fun y=>absurd y (by decide)) fun _=>vA (fun _=>?_) fun y=>absurd (by decide +kernel) y
 exact wB (gZ ty (wI q))
theorem qIt:KdlSrc prog w "set" a a es.size (qGY w a ep es) (fun h=>jU w h a es ep t) where
 type:=fun s x=>x.ty
 there:=fun h x=>⟨x.low,x.low⟩
 keep:=fun h h' x k=>x.ext fun o e=>k a (.inl rfl) o e
 notList:=by decide
 notTuple:=by decide
 hint:=fun A E s Q x q=>qHy x.ty q
 iter:=fun A s calm x=>⟨_,_,fun E Q q=>qGs x q,qCq calm (vE x.low),⟨by
  have z:je w t 0=0:=by unfold je; split <;> rfl
  rw [z]
  exact zL _ rfl,x.ext fun o e=>wG _ e⟩⟩
end
theorem YG {α β:Type} {f:α->β} {l l':List β} (p:xO l l'):∀{m:List α},l'=m.map f->∃ m',xO m' m/\l=m'.map f:=by
 induction p with
 | nil=>exact fun {m} _=>⟨m,.refl _,by assumption⟩
 | cons x _ ih=>
  intro m e
  cases m with
  | nil=>cases e
  | cons y m=>
   obtain ⟨e1,e2⟩:=vZ e
   obtain ⟨m',q,g⟩:=ih e2
   exact ⟨y::m',.cons _ q,by rw [g,e1]; rfl⟩
 | swap x y l=>
  intro m e
  match m,e with
  | [],e=>cases e
  | [_],e=>cases (vZ e).2
  | a::b::m,e=>
   obtain ⟨e1,e2⟩:=vZ e
   obtain ⟨e3,e4⟩:=vZ e2
   exact ⟨b::a::m,.swap _ _ _,by rw [e1,e3,e4]; rfl⟩
 | trans _ _ ih1 ih2=>
  intro m e
  obtain ⟨m',q,g⟩:=ih2 e
  obtain ⟨m'',q',g'⟩:=ih1 g
  exact ⟨m'',q'.trans q,g'⟩
noncomputable abbrev TRw:=Addr×List Int
noncomputable def qJ6 (prog:Program) (w:World) (r:TRw):Int×Value:=(tupleKeyHash (intKind prog w) r.2,yJ r.1)
noncomputable def QA (prog:Program) (w:World) (hp:Heap) (a:Addr) (R:List TRw):Prop:=∃(o:Obj) (es:Array (Int×Value)) (ep:Nat) (t:ST),hp.get? a=some o/\o.ExactSet/\o.data=.set es ep t/\JZ t (es.toList.map (·.1))/\es.toList=R.map (qJ6 prog w)/\(R.map (·.2)).Nodup/\(QB w=true\/t.led=true)/\t.plain=true
section
variable {prog:Program} {w:World} {A:Around} {E:Value->Shared->Prop} {s:Shared} {a:Addr} {R:List TRw}
theorem QA.at {hp hp':Heap} (S:QA prog w hp a R) (k:∀ o,hp.get? a=some o->hp'.get? a=some o):QA prog w hp' a R:=
 let ⟨o,es,ep,t,ho,r⟩:=S; ⟨o,es,ep,t,k o ho,r⟩
theorem QA.obj {hp:Heap} (S:QA prog w hp a R):∃ o,hp.get? a=some o/\∀ v,o.data≠.cell v:=
 let ⟨o,es,ep,t,ho,_,hd,_⟩:=S; ⟨o,ho,fun v z=>by rw [hd] at z; cases z⟩
theorem QA.ty (S:QA prog w s.heap a R):s.TypeIs (.ref a) "set":=let ⟨o,_,_,_,ho,hx,_⟩:=S; ⟨o,ho,hx.1⟩
theorem qJD {Q:Value->Shared->Prop} (q:QA prog w (s.heap.push (qMD (!QB w))) s.heap.objs.size []->Q (.ref s.heap.objs.size) { s with heap:=s.heap.push (qMD (!QB w)) }):wpAny (model prog w) A (newSet (.type "set")) Q E s:=by
 delta newSet
 refine wB (jM ?_)
 refine xJ ?_
 refine q ⟨_,#[],0,_,zL _ rfl,⟨rfl,rfl,rfl⟩,rfl,qCg 0 0 _,rfl,vI,?_,rfl⟩
 cases QB w
 ·exact .inr rfl
 ·exact .inl rfl
theorem qFX {es:Array (Int×Value)} (e:es.toList=R.map (qJ6 prog w)) {i:Nat} {x:Int×Value} (h:es[i]? = some x):∃ r,r∈R/\x=qJ6 prog w r:=by
 have:x∈R.map (qJ6 prog w):=e ▸ yX.mpr (Array.mem_of_getElem? h)
 obtain ⟨r,hr,e⟩:=zF.mp this
 exact ⟨r,hr,e.symm⟩
noncomputable def qKI (R:List TRw) (r:TRw) (R':List TRw):Prop:=(r.2∈R.map (·.2)/\R'=R)\/(r.2∉R.map (·.2)/\xO R' (r::R))
theorem qJg {ax:Addr} {kx:List Int} {Q:Value->Shared->Prop} (S:QA prog w s.heap a R) (hu:A.units+8<cLine) (hx:IsTupleKey (intKind prog w) s.heap kx ax) (all:∀ r∈R,IsTupleKey (intKind prog w) s.heap r.2 r.1) (lim:R.length+1<307)
  (q:∀(hp:Heap) (R':List TRw) (tk:Nat),uL a s.heap hp->QA prog w hp a R'->qKI R (ax,kx) R'->Q .none { s with heap:=hp,toks:=tk }):wpAny (model prog w) A (call (.builtin "set.add") [.ref a,.ref ax]) Q E s:=by
 have ty:=S.ty
 obtain ⟨o,es,ep,t,ho,hex,hd,Rm,er,nd,l1,l2⟩:=S
 have sz:es.size=R.length:=by rw [<- wM,er,wC]
 refine vV F.slot_set_add ty F.entry_set_add ?_ (F.args_set_add_2 _ _)
 delta Builtin.«set.add» Builtin.Frozenset.oneOther SF setAdd setAddHashed
 have hu':A.in1.units<cLine:=by
  show A.units+1<cLine
  omega
 have lim':es.size+1<307:=by omega
 have e1:∀(i:Nat) (h':Int) (v:Value),es[i]? = some (h',v)->∃(b:Addr) (kv:List Int),v=.ref b/\IsTupleKey (intKind prog w) s.heap kv b:=fun i h' v z=>by
  obtain ⟨r,hr,y⟩:=qFX er z
  cases y
  exact ⟨r.1,r.2,rfl,all r hr⟩
 have e2:∀(i:Nat) (h':Int) (b:Addr),es[i]? = some (h',.ref b)->IsTupleKey (intKind prog w) s.heap kx b->kx∈R.map (·.2):=fun i h' b z k=>by
  obtain ⟨r,hr,y⟩:=qFX er z
  cases y
  rw [k.inj (all r hr)]
  exact WK hr
 have e3:(∀(i:Nat) (b:Addr),es[i]? = some (tupleKeyHash (intKind prog w) kx,.ref b)->¬ IsTupleKey (intKind prog w) s.heap kx b)->kx∉R.map (·.2):=fun un m=>by
  obtain ⟨r,hr,y⟩:=zF.mp m
  have m2:qJ6 prog w r∈es.toList:=er ▸ WK hr
  obtain ⟨i,hi,ei⟩:=gN.mp (yX.mp m2)
  refine un i r.1 ?_ (y ▸ all r hr)
  rw [zI hi,ei,<- y]
  rfl
 repeat' first | assumption | (refine wpAny_pyHash_tuple hu' hx ?_) | (refine qJr (s:={ s with toks:=s.toks+(kx.length+1) }) ho hd Rm hu' hx lim' e1 (fun i h' b z k=>?_) (fun un es' t' ep' hp p R' m1 m2 g sb=>?_) 99999) | wp_step
 ·exact ⟨_,rfl,q s.heap R _ (Heap.SameBut.refl ..) ⟨o,es,ep,t,ho,hex,hd,Rm,er,nd,l1,l2⟩ (.inl ⟨e2 i h' b z k,rfl⟩)⟩
 ·have nin:=e3 un
  obtain ⟨R2,p2,g2⟩:=YG (f:=qJ6 prog w) p (m:=(ax,kx)::R) (by rw [er]; rfl)
  refine ⟨_,rfl,q hp R2 _ sb ⟨_,es',ep',t',g,hex,rfl,R',g2,?_,m1 ▸ l1,m2.trans l2⟩ (.inr ⟨nin,p2⟩)⟩
  exact (p2.map (·.2)).nodup_iff.mpr (zX.mpr ⟨nin,nd⟩)
noncomputable abbrev jT (elt tg iter:Expr) (ifs:List Expr) (scope:Scope) (pos:Pos):Expr:=.SetComp elt [⟨tg,iter,ifs,0⟩] scope pos
theorem qHr {elt tg iter:Expr} {ifs:List Expr} {scope:Scope} {pos:Pos} {it acc:Value} {env:Env} {RR:Result->Shared->Prop} (J:Nat->Shared->Prop)
  (turn:∀ n s,J n s->wpAny (model prog w) A (pyNext it) (fun r s1=>match r with
   | none=>RR (.ok .next) s1
   | some v=>wpAny (model prog w) A (letOwnedTupleGo tg it v) (fun _ s2=>wpAny (model prog w) A (assign tg env v) (fun _ s3=>wpAny (model prog w) A (qCD ifs env) (fun ok s4=>
     if ok=true then wpAny (model prog w) A (eval elt env) (fun x s5=>wpAny (model prog w) A (call (.builtin "set.add") [acc,x]) (fun _ s6=>∃ m,m<n/\J m s6) noR s5) noR s4
     else ∃ m,m<n/\J m s4) noR s3) noR s2) noR s1) noR s)
  (n:Nat) (h:J n s):codeAny (model prog w) A (.compLoop (jT elt tg iter ifs scope pos) 0 it acc env) RR s:=by
 refine VJ rfl J (fun n s hI=>?_) n h
 refine UF (env:=env) (m:=compTurn (jT elt tg iter ifs scope pos) 0 it acc env) ?_
 refine wB (xV (wB (th0 (turn n s hI) fun r s1 h1=>?_)))
 cases r with
 | none=>exact wI h1
 | some v=>
  refine wB (th0 h1 fun _ s2 h2=>wB (th0 h2 fun _ s3 h3=>wB (th0 h3 fun ok s4 h4=>?_)))
  cases ok with
  | false=>exact wI ⟨rfl,h4⟩
  | true=>exact wB (wB (th0 h4 fun x s5 h5=>wB (xV (wB (th0 h5 fun _ s6 h6=>wI (wI ⟨rfl,h6⟩))))))
theorem qF7 {elt tg iter:Expr} {ifs:List Expr} {scope:Scope} {pos:Pos} {it acc:Value} {env:Env} {RR:Result->Shared->Prop}
  (h0:codeAny (model prog w) A (.compLoop (jT elt tg iter ifs scope pos) 0 it acc env) RR s)
  (h:wpAny (model prog w) A (pyIter it) (fun i s'=>codeAny (model prog w) A (.compLoop (jT elt tg iter ifs scope pos) 0 i acc env) RR s') noR s) :
  codeAny (model prog w) A (.compStart (jT elt tg iter ifs scope pos) 0 it acc env) RR s:=by
 refine codeAny_of_tree (wpAny_notedAt (env:=env) (m:=compStart (jT elt tg iter ifs scope pos) 0 it acc env) (wB (ZG (wpAny_ite ?_))))
 split
 ·exact wI ⟨rfl,h0⟩
 ·exact wB (fI (wB (xV (wB (th0 h fun _ _ z=>wI ⟨rfl,z⟩)))))
end
noncomputable def qEy (J:It) (g:TG) (tt:TT) (te:TE) (σ0:St) (H1:Hp) (Q:List TRw->Hp->Prop):Prop:=
 ∃ W:Nat->Nat->List TRw->St->Hp->Prop,(∃ m,W 0 m [] σ0 H1)/\∀ i m R σ H,W i m R σ H->(∀ r∈R,H r.1=some (.tup (r.2.map V.int)))/\R.length<60/\
  ((J.stop i H/\Q R H)\/(J.go i H/\∃ N:List TRw->St->Hp->Prop,(∀ R' σ' H',N R' σ' H'->∃ m',m'<m/\W (i+1) m' R' σ' H')/\
   ∀ x H',J.yld i H x H'->g x σ H' fun σ2 H2=>tt σ2 H2 fun b H3=>if b=true then te σ2 H3 fun y H4=>∃(p:Addr) (ks:List Int),y=.ref p/\H4 p=some (.tup (ks.map V.int))/\(∀ r∈R,H4 r.1=some (.tup (r.2.map V.int)))/\∀ R',qKI R (p,ks) R'->N R' σ2 H4 else N R σ2 H3))
section
variable {X:Cx} {pins:List (Addr×Obj)} {σ:St} {H:Hp} {s:Shared}
theorem qGv {its:List Value}:∀{ns:List Int},IntsAre its ns->ItemsAre (intKind X.prog X.w) ns its:=by
 intro ns h
 induction h with
 | nil=>exact .nil
 | cons n t _ ih=>exact .cons (by show Value.isInt n (.int n t)=true; exact decide_eq_true rfl) ih
theorem qFU (I:Inv X pins σ H s) {p:Addr} {ks:List Int} (h:H p=some (.tup (ks.map V.int))):IsTupleKey (intKind X.prog X.w) s.heap ks p:=by
 obtain ⟨its,rv,⟨o,ho,hc,n,hd⟩,_⟩:=I.tuple (SqT.of (K:=X.K) h)
 exact ⟨o,_,n,ho,hc,hd,qGv (X:=X) (qI8 rv)⟩
theorem qJO {own:List Str} {fr:List (Str×Nat)} {scope:Scope} {cl:List (Str×Addr)} {elt tg iter:Expr} {ifs:List Expr} {pos:Pos} {g:TG} {tt:TT} {te:TE} {Q:List TRw->Hp->Prop} {RR:Value->Addr->Result->Shared->Prop} {E:Value->Shared->Prop}
  {it:Addr} {fp:List Addr} {tn:Nat->Heap->Prop} {J:It}
  (hc:X.calm=true) (hu:X.A.units+64<cLine) (S:qk X own fr scope) (I:Inv X pins σ H s) (hcl:∀ x c,cl.lookup x=some c->X.env.cells.lookup x=some c) (hcs:∀ x∈scope.names,x.2=.free->(cl.lookup x.1).isSome=true)
  (T:Turn X.prog X.w X.K tg J fp it tn) (st:tn 0 s.heap) (hf:∀ b∈fp,Yz X pins H b)
  (hB:∀(cl:List (Str×Addr)) (C:Addr) (s0:Shared) (H0:Hp) (fp:List Addr),PG (qQ X (own++fr.map (·.1)) scope cl C s0 H0 fp) tg g/\PF (qQ X (own++fr.map (·.1)) scope cl C s0 H0 fp) ifs tt/\PE (qQ X (own++fr.map (·.1)) scope cl C s0 H0 fp) elt te)
  (body:qEy J g tt te (qd own fr σ) H Q)
  (hR:∀ D C R s' H',Inv X pins σ H' s'->QA X.prog X.w s'.heap D R->(∀ r∈R,H' r.1=some (.tup (r.2.map V.int)))->R.length<60->Q R H'->D≠C->C≠X.env.locals->(∃ m,s'.heap.Ns C m)->Yz X pins H' C->RR (.ref D) C (.ok .next) s') :
  wpAny (model X.prog X.w) X.A (newSet (.type "set")) (fun acc s3=>wpAny (model X.prog X.w) X.A (newFunctionEnv scope X.env.globals cl [] X.env.qual none .none (some X.env)) (fun cenv s4=>
   codeAny (model X.prog X.w) X.A (.compStart (jT elt tg iter ifs scope pos) 0 (.ref it) acc { cenv with scope:=relabel scope X.env }) (RR acc cenv.locals) s4) E s3) E s:=by
 refine qJD fun A3=>?_
 have nD:H s.heap.objs.size=none:=I.hok.fresh (wH _)
 have fpD:Yz X pins H s.heap.objs.size:=I.fpOk (wH _) nD
 have I3:Inv X pins σ H { s with heap:=s.heap.push (qMD (!QB X.w)),toks:=s.toks }:=I.kept (t':=s.toks) fun b u e=>wG _ e
 generalize hs3:({ s with heap:=s.heap.push (qMD (!QB X.w)),toks:=s.toks }:Shared)=s3 at I3
 have A3':QA X.prog X.w s3.heap s.heap.objs.size []:=by subst hs3; exact A3
 generalize hD:s.heap.objs.size=D at nD fpD A3'
 have st3:tn 0 s3.heap:=by
  subst hs3
  exact T.keep _ _ _ st fun b _ o e=>wG _ e
 have fD:∀ b∈fp,b≠D:=fun b hb z=>by
  obtain ⟨o,ho,_⟩:=T.obj _ _ st b hb
  exact absurd (zQ ho) (by rw [hD,z]; exact vO _)
 have hf3:∀ b∈D::fp,Yz X pins H b:=fun b hb=>(wW.mp hb).elim (fun z=>z ▸ fpD) (hf b)
 have ob3:∀ b∈D::fp,∃ o,s3.heap.get? b=some o:=fun b hb=>(wW.mp hb).elim (fun z=>let ⟨o,e,_⟩:=A3'.obj; ⟨o,z ▸ e⟩) fun z=>let ⟨o,e,_⟩:=T.obj _ _ st3 b z; ⟨o,e⟩
 obtain ⟨W,⟨m0,w0⟩,turn⟩:=body
 refine YM fun h4 B4=>?_
 have keep4:=B4.keep
 have far:∀ b∈D::fp,∀ x c,(qR s3.heap.objs.size scope++cl).lookup x=some c->c≠b:=fun b hb x c e=>by
  obtain ⟨o,ho⟩:=ob3 b hb
  exact J7 B4 ho e fun z=>(hf3 b hb).2.2.2.2.1 x c (hcl x c z)
 generalize hs4:({ s3 with heap:=h4,toks:=s3.toks }:Shared)=s4
 have I4:Inv (qQ X (own++fr.map (·.1)) scope (qR s3.heap.objs.size scope++cl) s3.heap.objs.size s3 H (D::fp)) [] (qd own fr σ) H s4:=by
  subst hs4
  exact qAl S I3 hcl hcs hf3 ob3 B4
 have st4:tn 0 s4.heap:=by
  subst hs4
  exact T.keep _ _ _ st3 fun b _ o e=>keep4 b o e
 have A4:QA X.prog X.w s4.heap D []:=by
  subst hs4
  exact A3'.at fun o e=>keep4 D o e
 have Cne:s3.heap.objs.size≠X.env.locals:=gY I3.lt
 have DC:D≠s3.heap.objs.size:=by
  obtain ⟨o,e,_⟩:=A3'.obj
  exact vE (zQ e)
 generalize hcl2:qR s3.heap.objs.size scope++cl=cl2 at I4 far
 generalize hC:s3.heap.objs.size=C at I4 Cne DC
 obtain ⟨pG,pF,pE⟩:=hB cl2 C s3 H (D::fp)
 generalize hY:qQ X (own++fr.map (·.1)) scope cl2 C s3 H (D::fp)=Y at I4 pG pF pE
 have yP:Y.prog=X.prog:=by rw [<- hY]; rfl
 have yw:Y.w=X.w:=by rw [<- hY]; rfl
 have yK:Y.K=X.K:=by rw [<- hY]; rfl
 have yA:Y.A=X.A:=by rw [<- hY]; rfl
 have yc:Y.calm=true:=by rw [<- hY]; exact hc
 have yx:Y.xe=fun _ _=>False:=by rw [<- hY]; rfl
 have yfs:Y.fs=frs X.stack:=by rw [<- hY]; rfl
 have yex:Y.ex=D::fp:=by rw [<- hY]; rfl
 have yH:Y.H₀=H:=by rw [<- hY]; rfl
 have ys:Y.s₀=s3:=by rw [<- hY]; rfl
 have yl:Y.env.locals=C:=by rw [<- hY]; rfl
 have ypn:Y.pn=[]:=by rw [<- hY]; rfl
 have ycl:Y.env.cells=cl2:=by rw [<- hY]; rfl
 have yenv:Y.env=compEnvC scope cl2 C X.env:=by rw [<- hY]; rfl
 have e5:{ (newEnv scope C X.env.globals cl2 X.env.qual none .none (some X.env) builtinsNs:Env) with scope:=relabel scope X.env } = Y.env:=by rw [yenv]; rfl
 have hCe:(newEnv scope C X.env.globals cl2 X.env.qual none .none (some X.env) builtinsNs:Env).locals=C:=rfl
 have fpY:∀{H':Hp} {b:Addr},b∈D::fp->H' b=none->∀ pl:List (Addr×Obj),(∀ p∈pl,p.1≠b)->Yz Y pl H' b:=fun {H' b} hb hn pl hp=>by
  obtain ⟨o,ho⟩:=ob3 b hb
  have hlt:=zQ ho
  refine ⟨hn,?_,?_,.inl (by rw [yex]; exact hb),fun x c e=>?_,fun p hp'=>?_⟩
  ·rw [yl,<- hC]; exact vE hlt
  ·rw [yfs]
   intro z
   obtain ⟨_,f1,f2,_⟩:=hf3 b hb
   rcases wW.mp (I.stkSub b z) with e | e
   ·exact f1 e
   ·exact f2 e
  ·rw [ycl] at e
   exact far b hb x c e
  ·rw [ypn,uA] at hp'
   exact hp p hp'
 have main:codeAny (model X.prog X.w) X.A (.compLoop (jT elt tg iter ifs scope pos) 0 (.ref it) (.ref D) Y.env) (RR (.ref D) C) s4:=by
  refine qHr (fun n s'=>∃ i R σ' H',Inv Y [] σ' H' s'/\tn i s'.heap/\(∀ b∈D::fp,H' b=none)/\QA X.prog X.w s'.heap D R/\W i n R σ' H') ?_ m0 ⟨0,[],_,_,I4,st4,fun b hb=>(hf3 b hb).1,A4,w0⟩
  rintro n s5 ⟨i,R5,σ5,H5,I5,st5,fr5,A5,w5⟩
  obtain ⟨hT5,hl5,hw⟩:=turn i n R5 σ5 H5 w5
  have ID:=I5.pinned (fp:=[D]) (fun b hb=>by rw [zG.mp hb]; exact fpY wD (fr5 D wD) [] fun p hp=>absurd hp zP) fun b hb=>by rw [zG.mp hb]; exact A5.obj
  have pD:∀{h:Heap},∀ p∈[]++QD [D] h,∀ b∈fp,p.1≠b:=fun p hp b hb=>by
   rw [uA] at hp
   rw [zG.mp (qBm hp).1]
   exact (fD b hb).symm
  have same:∀{pl:List (Addr×Obj)} {h:Heap} {σ':St} {H':Hp} {s':Shared},QA X.prog X.w h D R5->Inv Y (([]++QD [D] h)++pl) σ' H' s'->QA X.prog X.w s'.heap D R5/\H' D=none:=fun {pl h σ' H' s'} A I'=>by
   obtain ⟨o,e,_⟩:=A.obj
   have m:(D,o)∈Y.pn++(([]++QD [D] h)++pl):=zH _ (vL _ (zH _ (qq wD e)))
   obtain ⟨p1,p2,_⟩:=I'.pin (D,o) m
   refine ⟨A.at fun o' e'=>?_,p2⟩
   rw [e] at e'
   cases e'
   exact p1
  rcases hw with ⟨stop,q⟩ | ⟨go,N,hN,step⟩
  ·have:=T.done Y yP yw yK yc i _ s5 σ5 H5 (fun _ _=>False) ID (fun b hb=>fpY (wJ _ hb) (fr5 b (wJ _ hb)) _ fun p hp=>pD p hp b hb) st5 stop
   rw [yA] at this
   refine thn this fun r s6 ⟨hr,I6⟩=>?_
   subst hr
   obtain ⟨A6,n6⟩:=same (pl:=[]) A5 (by rw [zK]; exact I6)
   have I7:Inv X pins σ H5 s6:=by
    refine I3.call' (ch:=D::fp) (H':=H5) ?_ ?_ ?_ I6.bare fun b hb=>?_
    ·rw [<- ys]; exact I6.os
    ·have:=I6.base
     rw [yfs,yex,yH,ys] at this
     exact this
    ·have:=I6.hok
     rw [yP,yw] at this
     exact this
    ·obtain ⟨_,f1,_,f3,f4,f5⟩:=hf3 b hb
     exact ⟨f3,f1,f4,f5⟩
   obtain ⟨mC,hnC,_⟩:=I6.loc
   rw [yl] at hnC
   refine hR D C R5 s6 H5 I7 A6 hT5 hl5 q DC Cne ⟨mC,hnC⟩ ?_
   refine I3.fpOk (by rw [hC]; exact wH _) ?_
   have:=I6.free
   rw [yl] at this
   exact this
  ·have h5:=T.item Y yP yw yK yc i _ s5 σ5 H5 (fun _ _=>False) ID (fun b hb=>fpY (wJ _ hb) (fr5 b (wJ _ hb)) _ fun p hp=>pD p hp b hb) st5 go
   rw [yA] at h5
   refine thn h5 fun r s6 ⟨u,hr,h6⟩=>?_
   subst hr
   refine thn h6 fun _ s7 ⟨x,H7,I7,r7,y7,st7,fr7⟩=>?_
   have I7':=I7.pinned (fp:=fp) (fun b hb=>fpY (wJ _ hb) (fr7 b hb) _ fun p hp=>pD p hp b hb) (T.obj _ _ st7)
   have h8:=pG _ s7 σ5 H7 x u _ I7' r7 (step x H7 y7)
   rw [yP,yw,yA,yx] at h8
   refine thn h8 fun _ s8 ⟨σ8,H8,I8,q8⟩=>?_
   have h9:=pF _ s8 σ8 H8 _ I8 q8
   rw [yP,yw,yA,yx] at h9
   refine thn h9 fun b s9 ⟨H9,I9,q9⟩=>?_
   have pinF:∀{σ':St} {H':Hp} {s':Shared},Inv Y (([]++QD [D] s5.heap)++QD fp s7.heap) σ' H' s'->(∀ b∈fp,∀ o,s7.heap.get? b=some o->s'.heap.get? b=some o)/\∀ b∈fp,H' b=none:=fun {σ' H' s'} I'=>by
    refine ⟨fun b hb o e=>(I'.pin (b,o) (zH _ (zH _ (qq hb e)))).1,fun b hb=>?_⟩
    obtain ⟨o,e,d⟩:=T.obj _ _ st7 b hb
    exact (I'.pin (b,o) (zH _ (zH _ (qq hb e)))).2.1
   have again:∀{R':List TRw} {σ':St} {H':Hp} {s':Shared},Inv Y [] σ' H' s'->(∀ b∈fp,∀ o,s7.heap.get? b=some o->s'.heap.get? b=some o)->(∀ b∈fp,H' b=none)->H' D=none->QA X.prog X.w s'.heap D R'->N R' σ' H'->∃ m,m<n/\∃ i R σ' H',Inv Y [] σ' H' s'/\tn i s'.heap/\(∀ b∈D::fp,H' b=none)/\QA X.prog X.w s'.heap D R/\W i m R σ' H':=fun {R' σ' H' s'} I' kp fr dn A' n'=>by
    obtain ⟨m',hm,w'⟩:=hN R' σ' H' n'
    exact ⟨m',hm,i+1,R',σ',H',I',T.keep _ _ _ st7 kp,fun b hb=>(wW.mp hb).elim (fun z=>z ▸ dn) (fr b),A',w'⟩
   cases b with
   | false=>
    simp only [xR,if_false] at q9 ⊢
    obtain ⟨A9,n9⟩:=same A5 I9
    obtain ⟨k9,f9⟩:=pinF I9
    exact again I9.unpinned.unpinned k9 f9 n9 A9 q9
   | true=>
    simp only [if_true] at q9 ⊢
    have h10:=pE _ s9 σ8 H9 _ I9 q9
    rw [yP,yw,yA,yx] at h10
    refine thn h10 fun y s10 ⟨z,H10,I10,r10,p,ks,ez,hp,all,n10⟩=>?_
    subst ez
    obtain rfl:y=yJ p:=r10
    obtain ⟨A10,d10⟩:=same A5 I10
    obtain ⟨k10,f10⟩:=pinF I10
    have key:∀{p:Addr} {ks:List Int},H10 p=some (.tup (ks.map V.int))->IsTupleKey (intKind X.prog X.w) s10.heap ks p:=fun {p ks} e=>by
     have:=qFU I10 e
     rw [yP,yw] at this
     exact this
    refine qJg A10 (by omega) (key hp) (fun r hr=>key (all r hr)) (by omega) fun h11 R11 tk sb A11 mo=>?_
    have I11:Inv Y [] σ8 H10 { s10 with heap:=h11,toks:=tk }:=by
     obtain ⟨g0,g1,g2,g3,g4,g5⟩:=fpY (H':=H10) (b:=D) wD d10 [] fun p hp=>absurd hp zP
     exact I10.unpinned.unpinned.turned (it:=D) (t':=tk) (fun b o hb e=>sb.extBut b o hb e) g0 g1 g3 g4 g5
    exact again I11 (fun b hb o e=>sb.extBut b o (fD b hb) (k10 b hb o e)) f10 d10 A11 (n10 R11 mo)
 have start:codeAny (model X.prog X.w) X.A (.compStart (jT elt tg iter ifs scope pos) 0 (.ref it) (.ref D) Y.env) (RR (.ref D) C) s4:=qF7 main (T.self X.A 0 s4 _ _ st4 main)
 have goal:codeAny (model X.prog X.w) X.A (.compStart (jT elt tg iter ifs scope pos) 0 (.ref it) (.ref D) { (newEnv scope C X.env.globals cl2 X.env.qual none .none (some X.env) builtinsNs:Env) with scope:=relabel scope X.env }) (RR (.ref D) (newEnv scope C X.env.globals cl2 X.env.qual none .none (some X.env) builtinsNs:Env).locals) s4:=by
  rw [e5,hCe]; exact start
 subst hC hD hs3
 exact goal
end
end L2
namespace LSo
open PySem PySem.W PyProof.Rows
section
variable {prog:Program} {w:World} {A:Around} {E:Value->Shared->Prop} {s:Shared}
theorem qGD {T:String} {r d:Addr} {n:Nat} {P:Nat->Value->Prop} {OK:Heap->Prop} {vs:List Value} {nss:List (List Int)} {Q:Value->Shared->Prop} (hu:A.units+8<cLine) (calm:A.handled=none) (K:KdlSrc prog w T r d n P OK) (ok:OK s.heap)
  (all:∀ acc:Array Value,ItemsOf P acc n->acc.toList=vs) (hn:n=vs.length) (rw':Rows s.heap vs nss) (h64:vs.length<64)
  (h:∀(p:Array Nat) (h1 h2:Heap) (m tk:Nat),Pm vs.length p->(p.toList.map fun i=>nss.getD i []).Pairwise (fun a b=>HT.lexLt b a=false)->(∀ b o,s.heap.get? b=some o->h1.get? b=some o)->(∀ b o,h1.get? b=some o->h2.get? b=some o)->h2.get? h1.objs.size=some (seqObj "list" (Jm vs p) m)->Q (.ref h1.objs.size) { s with heap:=h2,toks:=tk }):wpAny (model prog w) A (call (.builtin "sorted") [.ref r]) Q E s:=by
 have fit:vs.length<=sizeLine:=zM (vR h64) (by rw [kM]; decide)
 refine TU kind_sorted plain_sorted entry_sorted (args_sorted1 _) (wB (m:=checkCount "sorted" 1 1 _) (wI (wB (kdu_collect (A:=A.in1) K calm ok (by rw [hn]; exact fit) fun h1 tk acc k1 it=>?_))))
 rw [all acc it]
 refine wB (SD ?_ fit)
 have oL:(h1.push (seqObj "list" vs.toArray 0)).get? h1.objs.size=some (seqObj "list" vs.toArray 0):=zL h1 rfl
 have apart:∀ b u,h1.get? b=some u->b≠h1.objs.size:=fun b u y=>vE (zQ y)
 have r2:Rows (jc (h1.push (seqObj "list" vs.toArray 0)) h1.objs.size vs) vs nss:=rw'.kept fun b u y=>qCl (apart b u (k1 b u y)) (wG _ (k1 b u y))
 refine wB (vP (vV slot_list_sort (s:={ s with heap:=h1.push (seqObj "list" vs.toArray 0),toks:=tk }) ⟨_,oL,rfl⟩ entry_list_sort (qAS (nss:=nss) (by show A.units+1+1<cLine; omega) oL (fun _=>r2) fit fun p P1 P2=>?_) (args_list_sort _)))
 obtain ⟨m,om⟩:=qAV (out:=Jm vs p) oL
 exact ⟨_,rfl,wI ⟨_,rfl,h p h1 _ m tk P1 P2 k1 (fun b u y=>qAQ (apart b u y) (wG _ y)) om⟩⟩
end
end LSo
namespace L2
open PySem PySem.Spec PyProof.Rows PySem.W
noncomputable def qDg (own:List Str) (fr:List (Str×Nat)) (wi:TI) (g:TG) (tt:TT) (te:TE):TE:=fun σ H Q=>wi σ H fun J H1=>qEy J g tt te (qd own fr σ) H1 fun R H2=>(∀ r∈R,r.2≠[])/\∀(R':List TRw) (l:Addr),xO R' R->(R'.map (·.2)).Pairwise (fun a b=>HT.lexLt b a=false)->H2 l=none->Q (.ref l) (upd H2 l (.lst (R'.map fun r=>V.ref r.1)))
section
variable {X:Cx} {pins:List (Addr×Obj)} {σ:St} {H:Hp} {s:Shared}
theorem qDj (I:Inv X pins σ H s):∀{R:List TRw},(∀ r∈R,H r.1=some (.tup (r.2.map V.int)))->(∀ r∈R,r.2≠[])->LSo.Rows s.heap (R.map fun r=>yJ r.1) (R.map (·.2))
 | [],_,_=>trivial
 | r::R,h,n=>by
  obtain ⟨js,q1,q2,_⟩:=I.tuple (SqT.of (K:=X.K) (h r wD))
  exact ⟨⟨r.1,_,rfl,q2,intsAre_of q1,n r wD⟩,qDj I (fun z hz=>h z (wJ _ hz)) fun z hz=>n z (wJ _ hz)⟩
theorem qBJ:∀ R:List TRw,ql (R.map fun r=>V.ref r.1) (R.map fun r=>yJ r.1)
 | []=>.nil
 | _::R=>.cons rfl (qBJ R)
theorem Jy {α β:Type} {f:α->β} {d:α} {e:β}:∀{l:List α} {is:List Nat},(∀ i∈is,i<l.length)->(is.map fun i=>(l.map f).getD i e)=(is.map fun i=>l.getD i d).map f:=fun {l is} h=>by
 rw [zW]
 refine uX fun i hi=>?_
 have:=h i hi
 show (l.map f).getD i e=f (l.getD i d)
 rw [wF,wF,wQ,wA this]
 rfl
theorem qHn {α:Type} {d:α} {l:List α} {is:List Nat} (p:xO is (wV l.length)):xO (is.map fun i=>l.getD i d) l:=by
 refine (p.map _).trans ?_
 have:(wV l.length).map (fun i=>l.getD i d)=l:=by
  apply List.ext_getElem
  ·rw [wC,zT]
  ·intro i h1 h2
   rw [UE,List.getElem_range,wF,wA h2]
   rfl
 rw [this]
theorem qGp {D:Addr} {R:List TRw} {Q:VK} (hu:X.A.units+64<cLine) (hc:X.calm=true) (I:Inv X pins σ H s) (S:QA X.prog X.w s.heap D R) (all:∀ r∈R,H r.1=some (.tup (r.2.map V.int))) (ne:∀ r∈R,r.2≠[]) (few:R.length<60)
  (q:∀(R':List TRw) (l:Addr),xO R' R->(R'.map (·.2)).Pairwise (fun a b=>HT.lexLt b a=false)->H l=none->Q (.ref l) (upd H l (.lst (R'.map fun r=>V.ref r.1)))):wpAny (model X.prog X.w) X.A (call (.builtin "sorted") [.ref D]) (EP X pins σ Q) X.xe s:=by
 obtain ⟨o,es,ep,t,ho,hex,hd,Rm,er,nd,l1,l2⟩:=S
 have Wk:jU X.w s.heap D es ep t:=⟨⟨o,ho,hex,hd⟩,Rm.kept,l1,l2⟩
 obtain ⟨R1,p1,g1⟩:=YG (f:=qJ6 X.prog X.w) (qAP X.w D ep es) (m:=R) er
 have lR:R1.length=R.length:=p1.length_eq
 have sz:es.size=R.length:=by rw [<- wM,er,wC]
 refine LSo.qGD (by omega) (I.ok.hd hc) (qIt (es:=es) (ep:=ep) (t:=t)) Wk (vs:=R1.map fun r=>yJ r.1) (fun acc it=>?_) (by rw [wC,lR]; exact sz) (qDj I (fun r hr=>all r (p1.mem_iff.mp hr)) fun r hr=>ne r (p1.mem_iff.mp hr)) (by rw [wC]; omega) fun p h1 h2 m tk P1 P2 k1 k2 new=>?_
 ·obtain ⟨i1,i2⟩:=it
  apply uN
  intro j
  rw [yC,wQ]
  by_cases hj:j<es.size
  ·have hj':j<R1.length:=by omega
   obtain ⟨hh,y⟩:=i2 j (acc[j]'(by omega)) (zI (by omega))
   rw [zI (by omega),wA hj']
   rw [<- yC,g1,wQ,wA hj'] at y
   have y2:=congrArg (fun z=>z.map (·.2)) y
   exact y2.symm
  ·rw [gM (by omega),zV (by omega)]
   rfl
 have pl:p.toList.Perm (wV R1.length):=by
  have:=P1.pm
  rw [uJ,wC] at this
  exact this
 have pin:∀ i∈p.toList,i<R1.length:=fun i hi=>zO.mp (pl.mem_iff.mp hi)
 have I1:Inv X pins σ H { s with heap:=h1,toks:=tk }:=I.kept (t':=tk) k1
 have pv:(p.toList.map fun i=>(R1.map fun r=>V.ref r.1).getD i V.non)=(p.toList.map fun i=>R1.getD i (0,[])).map fun r=>V.ref r.1:=Jy pin
 have hl:p.toList.length<=sizeLine:=by
  rw [pl.length_eq,zT,kM]
  omega
 refine ⟨.ref h1.objs.size,upd H h1.objs.size (.lst ((p.toList.map fun i=>R1.getD i (0,[])).map fun r=>V.ref r.1)),I1.laid (t':=tk) k2 (wH _) ?_,rfl,q _ _ ((qHn pl).trans p1) ?_ (I1.hok.fresh (wH _))⟩
 ·refine ⟨by rw [wC,wC]; exact hl,(p.toList.map fun i=>(R1.map fun r=>yJ r.1).getD i xE),m,?_,?_⟩
  ·rw [<- pv]
   exact YA (qBJ R1) _ fun i hi=>by rw [wC]; exact pin i hi
  ·rw [new]
   rfl
 ·rw [<- Jy (e:=[]) pin]
  exact P2
theorem qD6 {own:List Str} {fr:List (Str×Nat)} {scope:Scope} {elt tg iter:Expr} {ifs:List Expr} {p cpos pos:Pos} {wi:TI} {g:TG} {tt:TT} {te:TE} (hc:X.calm=true) (hu:X.A.units+64<cLine) (hg:Gl X "sorted") (hm:X.mg "sorted" = none) (S:qk X own fr scope) (hi:PI X tg iter wi)
  (hB:∀(cl:List (Str×Addr)) (C:Addr) (s0:Shared) (H0:Hp) (fp:List Addr),PG (qQ X (own++fr.map (·.1)) scope cl C s0 H0 fp) tg g/\PF (qQ X (own++fr.map (·.1)) scope cl C s0 H0 fp) ifs tt/\PE (qQ X (own++fr.map (·.1)) scope cl C s0 H0 fp) elt te)
  (hs:∀ x,foldedSetIterable iter X.env x=pure x:=by intro _; rfl)
  (he:starEach [jT elt tg iter ifs scope cpos] X.env=(false,eval (jT elt tg iter ifs scope cpos) X.env)::starEach [] X.env:=by rfl) (hpl:(backTo pos (starEach [] X.env)).any (·.1)=false:=by rfl):PE X (.Call (.Name "sorted" p) [jT elt tg iter ifs scope cpos] [] pos) (qDg own fr wi g tt te):=by
 intro pins s σ H Q I h
 obtain ⟨cl,e1,e2,e3⟩:=jv (S.has I.ok)
 refine fE (Jh I hg hm boot_sorted ?_)
 refine VW ?_ he hpl
 refine Calls.spliced_cons ?_
 rw [show eval (jT elt tg iter ifs scope cpos) X.env=comprehension (jT elt tg iter ifs scope cpos) scope X.env (firstIterPos [⟨tg,iter,ifs,0⟩] cpos) (newSet (.type "set")) (firstAsync [⟨tg,iter,ifs,0⟩]) (firstIter [⟨tg,iter,ifs,0⟩] X.env) from rfl]
 refine uV (e:=jT elt tg iter ifs scope cpos) (scope:=scope) (first:=eval iter X.env) (newAcc:=newSet (.type "set")) (use:=none) (g:=⟨tg,iter,ifs,0⟩) (gs:=[]) rfl hs e1 S.kind S.names (thn (hi pins s σ H _ I h) fun v s1 h1=>thn h1 fun itv s2 h2=>?_)
 obtain ⟨it,fp,tn,J,H2,e,I2,T,st2,f2,body⟩:=h2
 subst e
 refine qJO (RR:=fun acc C=>compPost (model X.prog X.w) X.A X.xe none _ acc C) hc hu S I2 e2 e3 T st2 f2 hB body ?_
 intro D C R s' H' I' A' all few q DC hne ⟨m,hn⟩ ⟨f0,f1,f2',f3,f4,f5⟩
 refine ⟨m,hn,fun h'' hs''=>Calls.spliced_nil ?_⟩
 exact qGp hu hc (I'.turned (it:=C) (t':=s'.toks) (fun b o hb e=>hs''.extBut b o hb e) f0 f1 f3 f4 f5) (A'.at fun o e=>hs''.extBut D o DC e) all q.1 few q.2
end
noncomputable abbrev IRw:=Int×Nat
section
variable {prog:Program} {w:World} {A:Around} {E:Value->Shared->Prop} {s:Shared} {a:Addr} {R:List IRw}
noncomputable def Holds (R:List IRw) (ns:List Int):Prop:=(R.map (·.1)).Nodup/\(∀ k,k∈R.map (·.1)↔k∈ns)/\R.length<=ns.length
end
end L2
namespace L4
open PySem L2
inductive Pl where
 | li (xs:List D) | di (ks:List (Key×D)) | dt (ks:List (List Key×D)) | ex (φ:Hp->Addr->HO->Prop)
inductive Sl where
 | u | d (x:D) | o (p:Pl) | f (K:wK) (xs:List D)
inductive Rs where
 | d (x:D) | o (p:Pl) | b (i:Nat) | raw (v:V)
noncomputable abbrev Sl.l (xs:List D):Sl:=.o (.li xs)
noncomputable abbrev Rs.l (xs:List D):Rs:=.o (.li xs)
noncomputable def qCQ {κ:Type} (G:Hp):List (κ×D)->List (κ×V)->Prop
 | [],vs=>vs=[]
 | x::xs,vs=>∃ v r,vs=(x.1,v)::r/\Den G x.2 v/\qCQ G xs r
theorem qCQ.mono {κ:Type} {G G':Hp} (g:qP G G'):∀{xs:List (κ×D)} {vs:List (κ×V)},qCQ G xs vs->qCQ G' xs vs
 | [],_,h=>h
 | _::_,_,⟨v,r,e,h1,h2⟩=>⟨v,r,e,Den.mono g _ _ h1,qCQ.mono g h2⟩
noncomputable def qEc (G:Hp):Pl->Addr->HO->Prop
 | .li xs,_,o=>∃ vs,o=.lst vs/\qV G xs vs
 | .di ks,_,o=>∃ vs,o=.dK vs/\qCQ G ks vs
 | .dt ks,_,o=>∃ vs,o=.dT vs/\qCQ G ks vs
 | .ex φ,a,o=>(∀ xs,o≠.tup xs)/\∀ G',qP G G'->φ G' a o
theorem qEc.ntup {G:Hp} {p:Pl} {a:Addr} {o:HO} (h:qEc G p a o) (xs:List V):o≠.tup xs:=by
 cases p with
 | ex φ=>exact h.1 xs
 | _=>obtain ⟨_,rfl,_⟩:=h; exact fun z=>by cases z
theorem qEc.mono {G G':Hp} (g:qP G G') {p:Pl} {a:Addr} {o:HO} (h:qEc G p a o):qEc G' p a o:=by
 cases p with
 | li xs=>obtain ⟨vs,e,h⟩:=h; exact ⟨vs,e,qV.mono g _ _ h⟩
 | di ks=>obtain ⟨vs,e,h⟩:=h; exact ⟨vs,e,h.mono g⟩
 | dt ks=>obtain ⟨vs,e,h⟩:=h; exact ⟨vs,e,h.mono g⟩
 | ex φ=>exact ⟨h.1,fun G2 g2=>h.2 G2 (g.trans g2)⟩
noncomputable def qLz (G H:Hp):Sl->Option V->Prop
 | .u,_=>True
 | .d x,o=>∃ v,o=some v/\Den G x v
 | .o p,o=>∃ a vs,o=some (.ref a)/\H a=some vs/\qEc G p a vs
 | .f K xs,o=>∃ a vs,o=some (.ref a)/\SqL K G a vs/\qV G xs vs
noncomputable def qKn (ρ:List Sl) (σ:St) (a:Addr):Prop:=∃(i:Nat) (xs:Pl),ρ[i]? = some (Sl.o xs)/\σ[i]? = some (some (V.ref a))
structure SI (G F:Hp) (ρ:List Sl) (σ:St) (H:Hp):Prop where
 ok:∀(i:Nat) (s:Sl),ρ[i]? = some s->∃ o,σ[i]? = some o/\qLz G H s o
 g:qP G H
 f:qP F H
 gf:∀ a o,F a=some o->G a=none
 nd:∀(i j:Nat) (a:Addr) (xs ys:Pl),ρ[i]? = some (Sl.o xs)->ρ[j]? = some (Sl.o ys)->σ[i]? = some (some (V.ref a))->σ[j]? = some (some (V.ref a))->i=j
 out:∀ a,qKn ρ σ a->G a=none/\F a=none
 ft:∀ a xs,F a≠some (.tup xs)
noncomputable def jQ (G F:Hp) (ρ:List Sl) (σ:St) (H:Hp):Rs->V->Prop
 | .d x,v=>Den G x v
 | .o xs,v=>∃ a vs,v=.ref a/\H a=some vs/\qEc G xs a vs/\G a=none/\F a=none/\¬ qKn ρ σ a
 | .b i,v=>σ[i]? = some (some v)
 | .raw w,v=>v=w
noncomputable def hold (r:Rs) (v:V) (H F:Hp):Hp:=match r,v with
 | .o _,.ref a=>fun b=>if b=a then H a else F b
 | _,_=>F
noncomputable def ja (G F:Hp) (ρ:List Sl) (σ:St) (H:Hp):List Rs->List V->Prop
 | [],vs=>vs=[]
 | r::rs,vs=>∃ v vt,vs=v::vt/\jQ G F ρ σ H r v/\ja G (hold r v H F) ρ σ H rs vt
section
variable {G F H:Hp} {ρ:List Sl} {σ:St}
theorem qLz.up {G' H':Hp} {s:Sl} {o:Option V} (h:qLz G H s o) (g:qP G G') (e:∀ xs a vs,s=.o xs->o=some (.ref a)->H a=some vs->H' a=some vs):qLz G' H' s o:=by
 cases s with
 | u=>trivial
 | d x=>obtain ⟨v,h1,h2⟩:=h; exact ⟨v,h1,Den.mono g _ _ h2⟩
 | o xs=>obtain ⟨a,vs,h1,h2,h3⟩:=h; exact ⟨a,vs,h1,e xs a vs rfl h1 h2,h3.mono g⟩
 | f K xs=>
  obtain ⟨a,vs,h1,h2,h3⟩:=h
  exact ⟨a,vs,h1,g.seq h2,qV.mono g _ _ h3⟩
theorem Yp (r:Rs) (v:V) (h:jQ G F ρ σ H r v):qP F (hold r v H F):=by
 cases r with
 | o xs=>
  obtain ⟨a,vs,rfl,h1,h2,h3,h4,h5⟩:=h
  intro b o e
  show (if b=a then H a else F b)=some o
  rw [if_neg]
  ·exact e
  ·intro z; subst z; rw [h4] at e; cases e
 | _=>exact qP.refl _
theorem SI.held (I:SI G F ρ σ H) {r:Rs} {v:V} (h:jQ G F ρ σ H r v):SI G (hold r v H F) ρ σ H:=by
 cases r with
 | o xs=>
  obtain ⟨a,vs,rfl,h1,h2,h3,h4,h5⟩:=h
  refine ⟨I.ok,I.g,fun b o e=>?_,fun b o e=>?_,I.nd,fun b hb=>?_,fun b xs e=>?_⟩
  ·by_cases z:b=a
   ·subst z
    have e':(if b=b then H b else F b)=some o:=e
    rw [if_pos rfl] at e'
    exact e'
   ·have e':(if b=a then H a else F b)=some o:=e
    rw [if_neg z] at e'
    exact I.f _ _ e'
  ·by_cases z:b=a
   ·subst z; exact h3
   ·have e':(if b=a then H a else F b)=some o:=e
    rw [if_neg z] at e'
    exact I.gf _ _ e'
  ·have nb:b≠a:=fun z=>h5 (z ▸ hb)
   refine ⟨(I.out b hb).1,?_⟩
   show (if b=a then H a else F b)=none
   rw [if_neg nb]
   exact (I.out b hb).2
  ·have e':(if b=a then H a else F b)=some (.tup xs):=e
   by_cases z:b=a
   ·rw [if_pos z,h1] at e'
    exact h2.ntup xs (zS e')
   ·rw [if_neg z] at e'
    exact I.ft b xs e'
 | _=>exact I
theorem SI.freed {G' H':Hp} {ρ':List Sl} {r:Rs} {v:V} (h:jQ G F ρ σ H r v) (g:qP G G') (I':SI G' (hold r v H F) ρ' σ H'):SI G' F ρ' σ H'/\jQ G' F ρ' σ H' r v:=by
 cases r with
 | o xs=>
  obtain ⟨a,vs,rfl,h1,h2,h3,h4,h5⟩:=h
  have fa:hold (.o xs) (.ref a) H F a=some vs:=by
   show (if a=a then H a else F a)=_
   rw [if_pos rfl]; exact h1
  have fs:qP F (hold (.o xs) (.ref a) H F):=Yp (ρ:=ρ) (σ:=σ) (G:=G) (.o xs) (.ref a) ⟨a,vs,rfl,h1,h2,h3,h4,h5⟩
  refine ⟨⟨I'.ok,I'.g,fun b o e=>I'.f _ _ (fs _ _ e),fun b o e=>I'.gf _ _ (fs _ _ e),I'.nd,fun b hb=>⟨(I'.out b hb).1,fs.free (I'.out b hb).2⟩,fun b xs e=>I'.ft b xs (fs _ _ e)⟩,a,vs,rfl,I'.f _ _ fa,h2.mono g,I'.gf _ _ fa,h4,fun q=>?_⟩
  rw [(I'.out a q).2] at fa
  cases fa
 | d x=>exact ⟨I',Den.mono g _ _ h⟩
 | b i=>exact ⟨I',h⟩
 | raw w=>exact ⟨I',h⟩
theorem jQ.weak {F':Hp} (e:qP F' F) {r:Rs} {v:V} (h:jQ G F ρ σ H r v):jQ G F' ρ σ H r v:=by
 cases r with
 | o xs=>
  obtain ⟨a,vs,rfl,h1,h2,h3,h4,h5⟩:=h
  exact ⟨a,vs,rfl,h1,h2,h3,e.free h4,h5⟩
 | d x=>exact h
 | b i=>exact h
 | raw w=>exact h
end
noncomputable def Fin (G F:Hp) (σ:St) (Φ:Rs->List Sl->Prop) (Q:VK):Prop:=∀ G' H' v r ρ',Φ r ρ'->qP G G'->SI G' F ρ' σ H'->jQ G' F ρ' σ H' r v->Q v H'
noncomputable def wpV (te:TE) (ρ:List Sl) (Φ:Rs->List Sl->Prop):Prop:=∀ G F σ H,SI G F ρ σ H->∀ Q:VK,Fin G F σ Φ Q->te σ H Q
noncomputable def wpT (tt:TT) (ρ:List Sl) (Φ:Bool->List Sl->Prop):Prop:=∀ G F σ H,SI G F ρ σ H->∀ Q:Bool->Hp->Prop,(∀ G' H' b ρ',Φ b ρ'->qP G G'->SI G' F ρ' σ H'->Q b H')->tt σ H Q
noncomputable def wpA (ta:TA) (ρ:List Sl) (Φ:List Rs->List Sl->Prop):Prop:=∀ G F σ H,SI G F ρ σ H->∀ Q:List V->Hp->Prop,(∀ G' H' vs rs ρ',Φ rs ρ'->qP G G'->SI G' F ρ' σ H'->ja G' F ρ' σ H' rs vs->Q vs H')->ta σ H Q
noncomputable def OpV (r2:R2) (x y:Rs) (ρ:List Sl) (Φ:Rs->List Sl->Prop):Prop:=∀ G F σ H vx vy,SI G F ρ σ H->jQ G F ρ σ H x vx->jQ G (hold x vx H F) ρ σ H y vy->∀ Q:VK,Fin G F σ Φ Q->r2 vx vy H Q
noncomputable def Qn (r:List V->Hp->VK->Prop) (rs:List Rs) (ρ:List Sl) (Φ:Rs->List Sl->Prop):Prop:=∀ G F σ H vs,SI G F ρ σ H->ja G F ρ σ H rs vs->∀ Q:VK,Fin G F σ Φ Q->r vs H Q
theorem Fin.at {G F:Hp} {σ:St} {Φ Ψ:Rs->List Sl->Prop} {Q:VK} (h:Fin G F σ Φ Q) {G':Hp} (g:qP G G') (e:∀ r ρ,Ψ r ρ->Φ r ρ):Fin G' F σ Ψ Q:=fun G2 H2 v r ρ2 p g2 I ok=>h G2 H2 v r ρ2 (e _ _ p) (g.trans g2) I ok
section
variable {ρ:List Sl} {Φ:Rs->List Sl->Prop}
theorem wpV.mono {te:TE} {Ψ:Rs->List Sl->Prop} (h:wpV te ρ Φ) (e:∀ r ρ',Φ r ρ'->Ψ r ρ'):wpV te ρ Ψ:=fun G F σ H I Q q=>h G F σ H I Q (q.at (qP.refl _) e)
theorem qN7 {r2:R2} {ta tb:TE} (h:wpV ta ρ fun x ρ1=>wpV tb ρ1 fun y ρ2=>OpV r2 x y ρ2 Φ):wpV (tOp r2 ta tb) ρ Φ:=by
 intro G F σ H I Q q
 refine h G F σ H I _ fun G1 H1 vx x ρ1 h1 g1 I1 ok1=>?_
 refine h1 G1 (hold x vx H1 F) σ H1 (I1.held ok1) _ fun G2 H2 vy y ρ2 h2 g2 I2 ok2=>?_
 obtain ⟨I3,ok3⟩:=SI.freed ok1 g2 I2
 have eh:hold x vx H2 F=hold x vx H1 F:=by
  cases x with
  | o xs=>
   obtain ⟨a,vs,rfl,z1,z2,z3,z4,z5⟩:=ok1
   obtain ⟨a',vs',z,y1,y2,y3,y4,y5⟩:=ok3
   cases z
   funext b
   show (if b=a then H2 a else F b)=(if b=a then H1 a else F b)
   by_cases e:b=a
   ·rw [if_pos e,if_pos e,z1]
    have:hold (.o xs) (.ref a) H1 F a=some vs:=by
     show (if a=a then H1 a else F a)=_
     rw [if_pos rfl]; exact z1
    exact I2.f _ _ this
   ·rw [if_neg e,if_neg e]
  | _=>rfl
 exact h2 G2 F σ H2 vx vy I3 ok3 (by rw [eh]; exact ok2) Q (q.at (g1.trans g2) fun _ _ p=>p)
theorem qN9 {r:V->Hp->VK->Prop} {ta:TE} (h:wpV ta ρ fun x ρ1=>Qn (fun vs H Q=>∃ v,vs=[v]/\r v H Q) [x] ρ1 Φ):wpV (tUn r ta) ρ Φ:=by
 intro G F σ H I Q q
 refine h G F σ H I _ fun G1 H1 vx x ρ1 h1 g1 I1 ok1=>?_
 obtain ⟨v,e,z⟩:=h1 G1 F σ H1 [vx] I1 ⟨vx,[],rfl,ok1,rfl⟩ Q (q.at g1 fun _ _ p=>p)
 cases e
 exact z
theorem qMY {Φ:List Rs->List Sl->Prop} (h:Φ [] ρ):wpA qMJ ρ Φ:=fun G F σ H I Q q=>q G H [] [] ρ h (qP.refl _) I rfl
theorem ja.cons {F:Hp} {σ:St} {H1 G1 G2 H2:Hp} {ρ1 ρ2:List Sl} {x:Rs} {vx:V} {rs:List Rs} {vs:List V} (ok1:jQ G1 F ρ1 σ H1 x vx) (g2:qP G1 G2) (I2:SI G2 (hold x vx H1 F) ρ2 σ H2) (oks:ja G2 (hold x vx H1 F) ρ2 σ H2 rs vs) :
  SI G2 F ρ2 σ H2/\ja G2 F ρ2 σ H2 (x::rs) (vx::vs):=by
 obtain ⟨I3,ok3⟩:=SI.freed ok1 g2 I2
 have eh:hold x vx H2 F=hold x vx H1 F:=by
  cases x with
  | o xs=>
   obtain ⟨a,vs,rfl,z1,z2,z3,z4,z5⟩:=ok1
   funext b
   show (if b=a then H2 a else F b)=(if b=a then H1 a else F b)
   by_cases e:b=a
   ·rw [if_pos e,if_pos e,z1]
    have:hold (.o xs) (.ref a) H1 F a=some vs:=by
     show (if a=a then H1 a else F a)=_
     rw [if_pos rfl]; exact z1
    exact I2.f _ _ this
   ·rw [if_neg e,if_neg e]
  | _=>rfl
 exact ⟨I3,vx,vs,rfl,ok3,by rw [eh]; exact oks⟩
theorem qKX {Φ:List Rs->List Sl->Prop} {te:TE} {ta:TA} (h:wpV te ρ fun x ρ1=>wpA ta ρ1 fun rs ρ2=>Φ (x::rs) ρ2):wpA (qJN te ta) ρ Φ:=by
 intro G F σ H I Q q
 refine h G F σ H I _ fun G1 H1 vx x ρ1 h1 g1 I1 ok1=>?_
 refine h1 G1 (hold x vx H1 F) σ H1 (I1.held ok1) _ fun G2 H2 vs rs ρ2 h2 g2 I2 oks=>?_
 obtain ⟨I3,ok3⟩:=ja.cons ok1 g2 I2 oks
 exact q G2 H2 (vx::vs) (x::rs) ρ2 h2 (g1.trans g2) I3 ok3
theorem qN8 {r:List V->Hp->VK->Prop} {t:TA} (h:wpA t ρ fun rs ρ1=>Qn r rs ρ1 Φ):wpV (tCB r t) ρ Φ:=by
 intro G F σ H I Q q
 refine h G F σ H I _ fun G1 H1 vs rs ρ1 h1 g1 I1 oks=>?_
 exact h1 G1 F σ H1 vs I1 oks Q (q.at g1 fun _ _ p=>p)
theorem qAr {i:Nat} {x:D} (hi:ρ[i]? = some (.d x)) (h:Φ (.d x) ρ):wpV (qIX i) ρ Φ:=fun G F σ H I Q q=>by
 obtain ⟨o,e,v,rfl,hv⟩:=I.ok i _ hi
 exact ⟨v,e,q G H v _ ρ h (qP.refl _) I hv⟩
theorem qKG {i:Nat} {xs:List D} (hi:ρ[i]? = some (.l xs)) (h:Φ (.b i) ρ):wpV (qIX i) ρ Φ:=fun G F σ H I Q q=>by
 obtain ⟨o,e,a,vs,rfl,hv⟩:=I.ok i _ hi
 exact ⟨_,e,q G H (.ref a) _ ρ h (qP.refl _) I e⟩
theorem qJX {i:Nat} {K:wK} {xs:List D} (hi:ρ[i]? = some (.f K xs)) (h:Φ (.b i) ρ):wpV (qIX i) ρ Φ:=fun G F σ H I Q q=>by
 obtain ⟨o,e,a,vs,rfl,hv⟩:=I.ok i _ hi
 exact ⟨_,e,q G H (.ref a) _ ρ h (qP.refl _) I e⟩
theorem qMn {i:Int} (h:Φ (.d (.int i)) ρ):wpV (tC (.int i)) ρ Φ:=fun G F σ H I Q q=>q G H _ _ ρ h (qP.refl _) I (show Den G (.int i) (.int i) from rfl)
theorem qNn {b:Bool} (h:Φ (.d (.bl b)) ρ):wpV (tC (.bl b)) ρ Φ:=fun G F σ H I Q q=>q G H _ _ ρ h (qP.refl _) I (show Den G (.bl b) (.bl b) from rfl)
theorem qMH (h:Φ (.d .non) ρ):wpV (tC .non) ρ Φ:=fun G F σ H I Q q=>q G H _ _ ρ h (qP.refl _) I (show Den G .non .non from rfl)
theorem qMU {w:V} (h:Φ (.raw w) ρ):wpV (tC w) ρ Φ:=fun G F σ H I Q q=>q G H _ _ ρ h (qP.refl _) I (show w=w from rfl)
end
noncomputable def rd (ρ:List Sl):Rs->Option D
 | .d x=>some x
 | .o (.li xs)=>some (.lst xs)
 | .b i=>match ρ[i]? with
  | some (.o (.li xs))=>some (.lst xs)
  | some (.d x)=>some x
  | _=>none
 | _=>none
noncomputable def rdE (ρ:List Sl):Rs->Option D
 | .d x=>some x
 | .o (.li xs)=>some (.lst xs)
 | .b i=>match ρ[i]? with
  | some (.o (.li xs))=>some (.lst xs)
  | some (.d x)=>some x
  | _=>none
 | _=>none
section
variable {G F H:Hp} {ρ:List Sl} {σ:St} {r:Rs} {v:V} {K:wK}
theorem Qm (I:SI G F ρ σ H) (h:jQ G F ρ σ H r v) {x:D} (e:rdE ρ r=some x):Den H x v/\((∀ ys,x≠.lst ys)->Den G x v)/\∀ ys,x=.lst ys->∃ a vs,v=.ref a/\H a=some (.lst vs)/\qV G ys vs:=by
 cases r with
 | d y=>
  have e':y=x:=zS e
  subst e'
  refine ⟨Den.mono I.g _ _ h,fun _=>h,fun ys z=>?_⟩
  subst z
  obtain ⟨a,vs,h1,h2,h3⟩:=h
  exact ⟨a,vs,h1,I.g _ _ h2,h3⟩
 | o p=>
  cases p with
  | di _=>cases e
  | dt _=>cases e
  | ex _=>cases e
  | li xs=>
   have e':D.lst xs=x:=zS e
   subst e'
   obtain ⟨a,_,rfl,h1,⟨vs,rfl,h2⟩,h3,h4,h5⟩:=h
   refine ⟨⟨a,vs,rfl,h1,qV.mono I.g _ _ h2⟩,fun z=>absurd rfl (z xs),fun ys z=>?_⟩
   cases z
   exact ⟨a,vs,rfl,h1,h2⟩
 | b i=>
  have h':σ[i]? = some (some v):=h
  unfold rdE at e
  cases hi:ρ[i]? with
  | none=>simp only [hi] at e; cases e
  | some s=>
   obtain ⟨o,e1,e2⟩:=I.ok i s hi
   rw [h'] at e1
   cases e1
   cases s with
   | u=>simp only [hi] at e; cases e
   | f _ xs=>simp only [hi] at e; cases e
   | d y=>
    simp only [hi] at e
    have e':y=x:=zS e
    subst e'
    obtain ⟨w,z,h⟩:=e2
    cases z
    refine ⟨Den.mono I.g _ _ h,fun _=>h,fun ys z=>?_⟩
    subst z
    obtain ⟨a,vs,h1,h2,h3⟩:=h
    exact ⟨a,vs,h1,I.g _ _ h2,h3⟩
   | o p=>
    cases p with
    | di _=>simp only [hi] at e; cases e
    | dt _=>simp only [hi] at e; cases e
    | ex _=>simp only [hi] at e; cases e
    | li xs=>
     simp only [hi] at e
     have e':D.lst xs=x:=zS e
     subst e'
     obtain ⟨a,_,z,h1,vs,rfl,h2⟩:=e2
     cases z
     refine ⟨⟨a,vs,rfl,h1,qV.mono I.g _ _ h2⟩,fun z=>absurd rfl (z xs),fun ys z=>?_⟩
     cases z
     exact ⟨a,vs,rfl,h1,h2⟩
 | raw w=>cases e
theorem qBe {x:D} (e:rd ρ r=some x):rdE ρ r=some x:=by
 cases r <;> exact e
theorem ji (I:SI G F ρ σ H) (h:jQ G F ρ σ H r v) {xs:List D} (e:rd ρ r=some (.lst xs)):∃ a vs,v=.ref a/\SqL K H a vs/\qV G xs vs:=by
 obtain ⟨a,vs,h1,h2,h3⟩:=(Qm I h (qBe e)).2.2 xs rfl
 exact ⟨a,vs,h1,SqL.of h2,h3⟩
theorem Jk (I:SI G F ρ σ H) (h:jQ G F ρ σ H r v) {x:D} (e:rd ρ r=some x) (n:∀ ys,x≠.lst ys):Den G x v:=(Qm I h (qBe e)).2.1 n
theorem JO (I:SI G F ρ σ H) (h:jQ G F ρ σ H r v) {xs:List D} (e:rd ρ r=some (.tup xs)):∃ a vs,v=.ref a/\G a=some (.tup vs)/\qV G xs vs:=Jk I h e (fun ys z=>by cases z)
theorem qX (I:SI G F ρ σ H) (h:jQ G F ρ σ H r v) {i:Int} (e:rd ρ r=some (.int i)):v=.int i:=Jk I h e (fun ys z=>by cases z)
theorem qAy (I:SI G F ρ σ H) (h:jQ G F ρ σ H r v) {i:Bool} (e:rd ρ r=some (.bl i)):v=.bl i:=Jk I h e (fun ys z=>by cases z)
theorem qHx (I:SI G F ρ σ H) (h:jQ G F ρ σ H r v) (e:rd ρ r=some .non):v=.non:=Jk I h e (fun ys z=>by cases z)
theorem SI.new {p:Addr} {o:HO} (I:SI G F ρ σ H) (hp:H p=none):SI G F ρ σ (upd H p o):=
 ⟨fun i s e=>let ⟨o',e1,e2⟩:=I.ok i s e; ⟨o',e1,e2.up (qP.refl _) fun xs a vs _ _ z=>qP.new hp _ _ z⟩,I.g.trans (qP.new hp),I.f.trans (qP.new hp),I.gf,I.nd,I.out,I.ft⟩
theorem SI.newG {p:Addr} {o:HO} (I:SI G F ρ σ H) (hp:H p=none):SI (upd G p o) F ρ σ (upd H p o)/\qP G (upd G p o):=by
 have gp:G p=none:=I.g.free hp
 have fp:F p=none:=I.f.free hp
 refine ⟨⟨fun i s e=>let ⟨o',e1,e2⟩:=I.ok i s e; ⟨o',e1,e2.up (qP.new gp) fun xs a vs _ _ z=>qP.new hp _ _ z⟩,fun b u e=>?_,I.f.trans (qP.new hp),fun b u e=>?_,I.nd,fun b hb=>⟨?_,(I.out b hb).2⟩,I.ft⟩,qP.new gp⟩
 ·by_cases z:b=p
  ·subst z; rw [qH] at e ⊢; exact e
  ·rw [qJ z] at e ⊢; exact I.g _ _ e
 ·have z:b≠p:=fun z=>by subst z; rw [fp] at e; cases e
  rw [qJ z]; exact I.gf _ _ e
 ·obtain ⟨i,xs,h1,h2⟩:=hb
  obtain ⟨o',e1,a,vs,z,h3,_⟩:=I.ok i _ h1
  rw [h2] at e1
  cases e1
  cases z
  rw [qJ (jK h3 hp)]
  exact (I.out b ⟨i,xs,h1,h2⟩).1
theorem qEG {Φ:Rs->List Sl->Prop} {Q:VK} (q:Fin G F σ Φ Q) (I:SI G F ρ σ H) {x:D} (hv:Den G x v) (h:Φ (.d x) ρ):Q v H:=q G H v (.d x) ρ h (qP.refl _) I hv
theorem j8 {Φ:Rs->List Sl->Prop} {Q:VK} (q:Fin G F σ Φ Q) (I:SI G F ρ σ H) {i:Int} (h:Φ (.d (.int i)) ρ):Q (.int i) H:=qEG q I (x:=.int i) rfl h
theorem qU {Φ:Rs->List Sl->Prop} {Q:VK} (q:Fin G F σ Φ Q) (I:SI G F ρ σ H) {i:Bool} (h:Φ (.d (.bl i)) ρ):Q (.bl i) H:=qEG q I (x:=.bl i) rfl h
theorem qCO {Φ:Rs->List Sl->Prop} {Q:VK} (q:Fin G F σ Φ Q) (I:SI G F ρ σ H) {xs:List D} {vs:List V} (hv:qV G xs vs) (h:Φ (.d (.tup xs)) ρ) {p:Addr} (hp:H p=none):Q (.ref p) (upd H p (.tup vs)):=by
 obtain ⟨I2,g⟩:=I.newG (o:=.tup vs) hp
 exact q _ _ _ _ ρ h g I2 ⟨p,vs,rfl,qH,qV.mono g _ _ hv⟩
theorem Qs {Φ:Rs->List Sl->Prop} {Q:VK} (q:Fin G F σ Φ Q) (I:SI G F ρ σ H) {xs:List D} {vs:List V} (hv:qV G xs vs) (h:Φ (.l xs) ρ) {p:Addr} (hp:H p=none):Q (.ref p) (upd H p (.lst vs)):=by
 refine q G _ _ _ ρ h (qP.refl _) (I.new hp) ⟨p,_,rfl,qH,⟨vs,rfl,hv⟩,I.g.free hp,I.f.free hp,?_⟩
 rintro ⟨i,ys,h1,h2⟩
 obtain ⟨o',e1,a,ws,z,h3,_⟩:=I.ok i _ h1
 rw [h2] at e1
 cases e1
 cases z
 rw [hp] at h3
 cases h3
theorem SI.putO {i:Nat} {xs ys:Pl} {a:Addr} {vs:HO} (I:SI G F ρ σ H) (hi:ρ[i]? = some (.o xs)) (ha:σ[i]? = some (some (.ref a))) (hv:qEc G ys a vs):SI G F (ρ.set i (.o ys)) σ (upd H a vs):=by
 have oa:=I.out a ⟨i,xs,hi,ha⟩
 have il:i<ρ.length:=(wR.mp hi).1
 refine ⟨fun j s e=>?_,fun b u e=>?_,fun b u e=>?_,I.gf,fun j k b us ws h1 h2 h3 h4=>?_,fun b hb=>?_,I.ft⟩
 ·rw [yF] at e
  by_cases z:i=j
  ·subst z
   rw [if_pos rfl,if_pos il] at e
   cases e
   exact ⟨_,ha,a,vs,rfl,qH,hv⟩
  ·rw [if_neg z] at e
   obtain ⟨o',e1,e2⟩:=I.ok j s e
   refine ⟨o',e1,e2.up (qP.refl _) fun us b ws h1 h2 h3=>?_⟩
   subst h1 h2
   rw [qJ]
   ·exact h3
   ·intro q; subst q
    exact z (I.nd i j b xs us hi e ha e1)
 ·rw [qJ]
  ·exact I.g _ _ e
  ·intro q; subst q; rw [oa.1] at e; cases e
 ·rw [qJ]
  ·exact I.f _ _ e
  ·intro q; subst q; rw [oa.2] at e; cases e
 ·have w:∀(n:Nat) (zs:Pl),(ρ.set i (.o ys))[n]? = some (.o zs)->∃ zs',ρ[n]? = some (.o zs'):=fun n zs h=>by
   rw [yF] at h
   by_cases z:i=n
   ·subst z; exact ⟨xs,hi⟩
   ·rw [if_neg z] at h; exact ⟨zs,h⟩
  obtain ⟨u1,w1⟩:=w j us h1
  obtain ⟨u2,w2⟩:=w k ws h2
  exact I.nd j k b u1 u2 w1 w2 h3 h4
 ·obtain ⟨n,zs,h1,h2⟩:=hb
  rw [yF] at h1
  by_cases z:i=n
  ·subst z; exact I.out b ⟨i,xs,hi,h2⟩
  ·rw [if_neg z] at h1; exact I.out b ⟨n,zs,h1,h2⟩
theorem SI.put {i:Nat} {xs ys:List D} {a:Addr} {vs:List V} (I:SI G F ρ σ H) (hi:ρ[i]? = some (.l xs)) (ha:σ[i]? = some (some (.ref a))) (hv:qV G ys vs):SI G F (ρ.set i (.l ys)) σ (upd H a (.lst vs)):=I.putO hi ha ⟨vs,rfl,hv⟩
theorem SI.freeze {i:Nat} {xs:List D} (I:SI G F ρ σ H) (hi:ρ[i]? = some (.l xs)):∃ G',qP G G'/\SI G' F (ρ.set i (.d (.lst xs))) σ H:=by
 obtain ⟨o,ha,a,_,rfl,h1,vs,rfl,h2⟩:=I.ok i _ hi
 have oa:=I.out a ⟨i,.li xs,hi,ha⟩
 have il:i<ρ.length:=(wR.mp hi).1
 have sg:qP G (upd G a (.lst vs)):=qP.new oa.1
 refine ⟨upd G a (.lst vs),sg,fun j s e=>?_,fun b u e=>?_,I.f,fun b u e=>?_,fun j k b us ws e1 e2 h3 h4=>?_,fun b hb=>?_,I.ft⟩
 ·rw [yF] at e
  by_cases z:i=j
  ·subst z
   rw [if_pos rfl,if_pos il] at e
   cases e
   exact ⟨_,ha,_,rfl,a,vs,rfl,qH,qV.mono sg _ _ h2⟩
  ·rw [if_neg z] at e
   obtain ⟨o',e1,e2⟩:=I.ok j s e
   exact ⟨o',e1,e2.up sg fun _ _ _ _ _ z=>z⟩
 ·by_cases z:b=a
  ·subst z; rw [qH] at e; cases e; exact h1
  ·rw [qJ z] at e; exact I.g _ _ e
 ·have z:b≠a:=fun z=>by subst z; rw [oa.2] at e; cases e
  rw [qJ z]; exact I.gf _ _ e
 ·have w:∀(n:Nat) (zs:Pl),(ρ.set i (.d (.lst xs)))[n]? = some (.o zs)->ρ[n]? = some (.o zs):=fun n zs h=>by
   rw [yF] at h
   by_cases z:i=n
   ·subst z; rw [if_pos rfl,if_pos il] at h; cases h
   ·rw [if_neg z] at h; exact h
  exact I.nd j k b us ws (w j us e1) (w k ws e2) h3 h4
 ·obtain ⟨n,zs,e1,e2⟩:=hb
  have z:i≠n:=fun z=>by subst z; rw [yF,if_pos rfl,if_pos il] at e1; cases e1
  rw [yF,if_neg z] at e1
  have nb:b≠a:=fun q=>by subst q; exact z (I.nd i n b (.li xs) zs hi e1 ha e2)
  rw [qJ nb]
  exact I.out b ⟨n,zs,e1,e2⟩
theorem SI.lay {xs:List D} {v:V} (I:SI G F ρ σ H) (h:jQ G F ρ σ H (.l xs) v):∃ G',qP G G'/\SI G' F ρ σ H/\Den G' (.lst xs) v:=by
 obtain ⟨a,_,rfl,h1,⟨vs,rfl,h2⟩,h3,h4,h5⟩:=h
 have sg:qP G (upd G a (.lst vs)):=qP.new h3
 refine ⟨upd G a (.lst vs),sg,⟨fun j s e=>let ⟨o',e1,e2⟩:=I.ok j s e; ⟨o',e1,e2.up sg fun _ _ _ _ _ z=>z⟩,fun b u e=>?_,I.f,fun b u e=>?_,I.nd,fun b hb=>?_,I.ft⟩,a,vs,rfl,qH,qV.mono sg _ _ h2⟩
 ·by_cases z:b=a
  ·subst z; rw [qH] at e; cases e; exact h1
  ·rw [qJ z] at e; exact I.g _ _ e
 ·have z:b≠a:=fun z=>by subst z; rw [h4] at e; cases e
  rw [qJ z]; exact I.gf _ _ e
 ·have nb:b≠a:=fun q=>by subst q; exact h5 hb
  rw [qJ nb]
  exact I.out b hb
noncomputable def Rs.sl:Rs->Sl
 | .d x=>.d x
 | .o p=>.o p
 | _=>.u
theorem SI.asg {i:Nat} {v:V} (I:SI G F ρ σ H) (h:jQ G F ρ σ H r v):SI G F (ρ.set i r.sl) (σ.set i (some v)) H:=by
 have base:∀ j,j≠i->(σ.set i (some v))[j]? = σ[j]?:=fun j hj=>by rw [yF,if_neg hj.symm]
 have own:∀(n:Nat) (zs:Pl) (b:Addr),(ρ.set i r.sl)[n]? = some (.o zs)->(σ.set i (some v))[n]? = some (some (.ref b))->(n=i/\v=.ref b/\r=.o zs)\/(n≠i/\ρ[n]? = some (.o zs)/\σ[n]? = some (some (.ref b))):=fun n zs b h1 h2=>by
  by_cases z:i=n
  ·subst z
   rw [yF,if_pos rfl] at h1 h2
   by_cases q:i<ρ.length
   ·by_cases q2:i<σ.length
    ·rw [if_pos q] at h1
     rw [if_pos q2] at h2
     cases r with
     | o xs=>cases h1; cases h2; exact .inl ⟨rfl,rfl,rfl⟩
     | d x=>cases h1
     | b x=>cases h1
     | raw x=>cases h1
    ·rw [if_neg q2] at h2; cases h2
   ·rw [if_neg q] at h1; cases h1
  ·rw [yF,if_neg z] at h1
   rw [yF,if_neg z] at h2
   exact .inr ⟨fun e=>z e.symm,h1,h2⟩
 refine ⟨fun j s e=>?_,I.g,I.f,I.gf,fun j k b us ws h1 h2 h3 h4=>?_,fun b hb=>?_,I.ft⟩
 ·rw [yF] at e
  by_cases z:i=j
  ·subst z
   rw [if_pos rfl] at e
   by_cases q:i<ρ.length
   ·rw [if_pos q] at e
    cases e
    obtain ⟨o,ho,_⟩:=I.ok i ρ[i] (wA q)
    have q2:i<σ.length:=(wR.mp ho).1
    refine ⟨some v,by rw [yF,if_pos rfl,if_pos q2],?_⟩
    cases r with
    | d x=>exact ⟨v,rfl,h⟩
    | o xs=>
     obtain ⟨a,vs,rfl,h1,h2,_⟩:=h
     exact ⟨a,vs,rfl,h1,h2⟩
    | b x=>trivial
    | raw x=>trivial
   ·rw [if_neg q] at e; cases e
  ·rw [if_neg z] at e
   obtain ⟨o',e1,e2⟩:=I.ok j s e
   exact ⟨o',by rw [base j (fun q=>z q.symm)]; exact e1,e2⟩
 ·rcases own j us b h1 h3 with ⟨rfl,e1,e2⟩ | ⟨n1,e1,e2⟩
  ·rcases own k ws b h2 h4 with ⟨rfl,_,_⟩ | ⟨n2,e3,e4⟩
   ·rfl
   ·subst e2
    obtain ⟨a,vs,z,_,_,_,_,h5⟩:=h
    rw [e1] at z
    cases z
    exact absurd ⟨k,ws,e3,e4⟩ h5
  ·rcases own k ws b h2 h4 with ⟨rfl,e3,e4⟩ | ⟨n2,e3,e4⟩
   ·subst e4
    obtain ⟨a,vs,z,_,_,_,_,h5⟩:=h
    rw [e3] at z
    cases z
    exact absurd ⟨j,us,e1,e2⟩ h5
   ·exact I.nd j k b us ws e1 e3 e2 e4
 ·obtain ⟨n,zs,e1,e2⟩:=hb
  rcases own n zs b e1 e2 with ⟨rfl,e3,e4⟩ | ⟨_,e3,e4⟩
  ·subst e4
   obtain ⟨a,vs,z,_,_,h3,h4,_⟩:=h
   rw [e3] at z
   cases z
   exact ⟨h3,h4⟩
  ·exact I.out b ⟨n,zs,e3,e4⟩
end
section
variable {ρ:List Sl} {Φ:Rs->List Sl->Prop} {x y:Rs} {K:wK} {r2 r3:R2}
theorem OpV.l (h:OpV r2 x y ρ Φ):OpV (fun a b H Q=>r2 a b H Q\/r3 a b H Q) x y ρ Φ:=fun G F σ H vx vy I h1 h2 Q q=>.inl (h G F σ H vx vy I h1 h2 Q q)
theorem OpV.r (h:OpV r3 x y ρ Φ):OpV (fun a b H Q=>r2 a b H Q\/r3 a b H Q) x y ρ Φ:=fun G F σ H vx vy I h1 h2 Q q=>.inr (h G F σ H vx vy I h1 h2 Q q)
theorem ok2 {G F H:Hp} {σ:St} {vx vy:V} (h1:jQ G F ρ σ H x vx) (h2:jQ G (hold x vx H F) ρ σ H y vy):jQ G F ρ σ H y vy:=h2.weak (Yp x vx h1)
theorem qNR {k:Int->Int->Int} {i j:Int} (hx:rd ρ x=some (.int i)) (hy:rd ρ y=some (.int j)) (h:Φ (.d (.int (k i j))) ρ):OpV (rI0 fun i j=>.int (k i j)) x y ρ Φ:=fun G F σ H vx vy I h1 h2 Q q=>
 ⟨i,j,qX I h1 hx,qX I (ok2 h1 h2) hy,j8 q I h⟩
theorem qNb {k:Int->Int->Bool} {i j:Int} (hx:rd ρ x=some (.int i)) (hy:rd ρ y=some (.int j)) (h:Φ (.d (.bl (k i j))) ρ):OpV (rI0 fun i j=>.bl (k i j)) x y ρ Φ:=fun G F σ H vx vy I h1 h2 Q q=>
 ⟨i,j,qX I h1 hx,qX I (ok2 h1 h2) hy,qU q I h⟩
theorem Jp {C:Int->Int->Prop} {k:Int->Int->Int} {i j:Int} (hx:rd ρ x=some (.int i)) (hy:rd ρ y=some (.int j)) (hc:C i j) (h:Φ (.d (.int (k i j))) ρ):OpV (rI C fun i j=>.int (k i j)) x y ρ Φ:=fun G F σ H vx vy I h1 h2 Q q=>
 ⟨i,j,qX I h1 hx,qX I (ok2 h1 h2) hy,hc,j8 q I h⟩
theorem u_i {k:Int->Int} {i:Int} (hx:rd ρ x=some (.int i)) (h:Φ (.d (.int (k i))) ρ):Qn (fun vs H Q=>∃ v,vs=[v]/\rU (fun i=>.int (k i)) v H Q) [x] ρ Φ:=fun G F σ H vs I h1 Q q=>by
 obtain ⟨v,vt,rfl,ok,e⟩:=h1
 have e':vt=[]:=e
 subst e'
 exact ⟨v,rfl,i,qX I ok hx,j8 q I h⟩
theorem YY {xs ys:List D} (hx:rd ρ x=some (.lst xs)) (hy:rd ρ y=some (.lst ys)) (hz:xs.length+ys.length<=sizeLine) (h:Φ (.l (xs++ys)) ρ):OpV (qKF K) x y ρ Φ:=fun G F σ H vx vy I h1 h2 Q q=>by
 obtain ⟨a,vs,rfl,s1,d1⟩:=ji (K:=K) I h1 hx
 obtain ⟨b,ws,rfl,s2,d2⟩:=ji (K:=K) I (ok2 h1 h2) hy
 exact ⟨a,b,vs,ws,rfl,rfl,s1,s2,by rw [d1.length,d2.length]; exact hz,fun p hp=>Qs q I (d1.append d2) h hp⟩
theorem qMF {xs:List D} {k:Int} (hx:rdE ρ x=some (.lst xs)) (hy:rd ρ y=some (.int k)) (h1' : -(2 ^ 63)<=k) (h2':k<2 ^ 63) (hz:xs.length*k.toNat<=sizeLine) (h:Φ (.l (wN k.toNat xs).flatten) ρ):OpV qM1 x y ρ Φ:=fun G F σ H vx vy I h1 h2 Q q=>by
 obtain ⟨a,vs,rfl,s1,d1⟩:=(Qm I h1 hx).2.2 _ rfl
 refine ⟨a,k,vs,rfl,qX I (ok2 h1 h2) hy,s1,h1',h2',by rw [d1.length]; exact hz,fun p hp=>Qs q I ?_ h hp⟩
 generalize k.toNat=n
 induction n with
 | zero=>rfl
 | succ n ih=>rw [vW,vW,uM,uM]; exact d1.append ih
theorem qFM {H:Hp} {xs:List D} {vs:List V} (h:qV H xs vs) {i:Int} {d:D} (e:atI xs i=some d):∃ v,atI vs i=some v/\Den H d v:=by
 unfold atI at e ⊢
 rw [h.length]
 cases z:ixN xs.length i with
 | none=>rw [z] at e; cases e
 | some j=>
  rw [z] at e
  have e':xs[j]? = some d:=e
  obtain ⟨v,e1,e2⟩:=h.get' e'
  exact ⟨v,e1,e2⟩
theorem qB7 {xs:List D} {i:Int} {d:D} (hx:rd ρ x=some (.lst xs)) (hy:rd ρ y=some (.int i)) (hi:atI xs i=some d) (h:Φ (.d d) ρ):OpV (rIx K) x y ρ Φ:=fun G F σ H vx vy I h1 h2 Q q=>by
 obtain ⟨a,vs,rfl,s1,d1⟩:=ji (K:=K) I h1 hx
 obtain ⟨v,e1,e2⟩:=qFM d1 hi
 exact .inl ⟨a,vs,i,v,rfl,qX I (ok2 h1 h2) hy,s1,e1,qEG q I e2 h⟩
theorem qJH {xs:List D} {i:Int} {d:D} (hx:rd ρ x=some (.tup xs)) (hy:rd ρ y=some (.int i)) (hi:atI xs i=some d) (h:Φ (.d d) ρ):OpV (rIx K) x y ρ Φ:=fun G F σ H vx vy I h1 h2 Q q=>by
 obtain ⟨a,vs,rfl,s1,d1⟩:=JO I h1 hx
 obtain ⟨v,e1,e2⟩:=qFM d1 hi
 exact .inr (.inl ⟨a,vs,i,v,rfl,qX I (ok2 h1 h2) hy,SqT.of (I.g _ _ s1),e1,qEG q I e2 h⟩)
theorem qMN {b:Bool} {d:D} {l:List D} (hx:rdE ρ x=some d) (hy:rdE ρ y=some (.lst l)) (hd:qI l<=50) (h:Φ (.d (.bl (if b then !dIn d l else dIn d l))) ρ) (hd2:jH d<=50:=by first | exact vB rfl | assumption):OpV (qH7 b) x y ρ Φ:=fun G F σ H vx vy I h1 h2 Q q=>
 ⟨d,l,(Qm I h1 hx).1,.inr (Qm I (ok2 h1 h2) hy).1,hd,hd2,qU q I h⟩
theorem qML {b:Bool} {d:D} {l:List D} (hx:rdE ρ x=some d) (hy:rdE ρ y=some (.tup l)) (hd:qI l<=50) (h:Φ (.d (.bl (if b then !dIn d l else dIn d l))) ρ) (hd2:jH d<=50:=by first | exact vB rfl | assumption):OpV (qH7 b) x y ρ Φ:=fun G F σ H vx vy I h1 h2 Q q=>
 ⟨d,l,(Qm I h1 hx).1,.inl (Qm I (ok2 h1 h2) hy).1,hd,hd2,qU q I h⟩
theorem qKO {b:Bool} {l m:List D} (hx:rdE ρ x=some (.lst l)) (hy:rdE ρ y=some (.lst m)) (hd:qI l<=50) (h:Φ (.d (.bl (if b then !Qk l m else Qk l m))) ρ) (hd2:qI m<=50:=by first | exact vB rfl | exact YL _ | assumption):OpV (qIK b) x y ρ Φ:=fun G F σ H vx vy I h1 h2 Q q=>
 ⟨l,m,.inr ⟨(Qm I h1 hx).1,(Qm I (ok2 h1 h2) hy).1⟩,hd,hd2,qU q I h⟩
theorem qKs {b:Bool} {l m:List D} (hx:rdE ρ x=some (.tup l)) (hy:rdE ρ y=some (.tup m)) (hd:qI l<=50) (h:Φ (.d (.bl (if b then !Qk l m else Qk l m))) ρ) (hd2:qI m<=50:=by first | exact vB rfl | exact YL _ | assumption):OpV (qIK b) x y ρ Φ:=fun G F σ H vx vy I h1 h2 Q q=>
 ⟨l,m,.inl ⟨(Qm I h1 hx).1,(Qm I (ok2 h1 h2) hy).1⟩,hd,hd2,qU q I h⟩
noncomputable def dV:D->Option V
 | .non=>some .non | .bl b=>some (.bl b) | .int i=>some (.int i) | .str s=>some (.str s) | _=>none
theorem qAd {G F H:Hp} {σ:St} {v w:V} {d:D} (I:SI G F ρ σ H) (h:jQ G F ρ σ H x v) (e:rd ρ x=some d) (hw:dV d=some w):v=w:=by
 have n:∀ ys,d≠.lst ys:=fun ys z=>by subst z; cases hw
 have g:=Jk I h e n
 cases d with
 | non=>cases hw; exact g
 | bl b=>cases hw; exact g
 | int i=>cases hw; exact g
 | str s=>cases hw; exact g
 | tup l=>cases hw
 | lst l=>cases hw
 | dic=>cases hw
theorem qM0 {d e:D} {v w:V} (hx:rd ρ x=some d) (hy:rd ρ y=some e) (hv:dV d=some v) (hw:dV e=some w) (hs:qL3 v w=true) (h:Φ (.d (.bl (decide (v=w)))) ρ):OpV rEq x y ρ Φ:=fun G F σ H vx vy I h1 h2 Q q=>by
 cases qAd I h1 hx hv
 cases qAd I (ok2 h1 h2) hy hw
 exact ⟨hs,qU q I h⟩
theorem qMd {d e:D} {v w:V} (hx:rd ρ x=some d) (hy:rd ρ y=some e) (hv:dV d=some v) (hw:dV e=some w) (hs:qL3 v w=true) (h:Φ (.d (.bl (!decide (v=w)))) ρ):OpV rNe x y ρ Φ:=fun G F σ H vx vy I h1 h2 Q q=>by
 cases qAd I h1 hx hv
 cases qAd I (ok2 h1 h2) hy hw
 exact ⟨hs,qU q I h⟩
theorem qM8 {i j:Int} (hx:rd ρ x=some (.int i)) (hy:rd ρ y=some (.int j)) (h:Φ (.d (.bl (decide (i=j)))) ρ):OpV rEq x y ρ Φ:=by
 refine qM0 hx hy rfl rfl rfl ?_
 have e:decide (V.int i=V.int j)=decide (i=j):=decide_eq_decide.mpr ⟨fun z=>by cases z; rfl,fun z=>by rw [z]⟩
 rw [e]; exact h
theorem qMt {i j:Int} (hx:rd ρ x=some (.int i)) (hy:rd ρ y=some (.int j)) (h:Φ (.d (.bl (!decide (i=j)))) ρ):OpV rNe x y ρ Φ:=by
 refine qMd hx hy rfl rfl rfl ?_
 have e:decide (V.int i=V.int j)=decide (i=j):=decide_eq_decide.mpr ⟨fun z=>by cases z; rfl,fun z=>by rw [z]⟩
 rw [e]; exact h
end
section
variable {ρ:List Sl} {Φ:Rs->List Sl->Prop} {x y:Rs} {K:wK}
theorem Qq {G F H:Hp} {σ:St} {vs:List V} (h:ja G F ρ σ H [x] vs):∃ v,vs=[v]/\jQ G F ρ σ H x v:=by
 obtain ⟨v,vt,rfl,ok,e⟩:=h
 have e':vt=[]:=e
 subst e'
 exact ⟨v,rfl,ok⟩
theorem Jj {G F H:Hp} {σ:St} {vs:List V} (h:ja G F ρ σ H [x,y] vs):∃ v w,vs=[v,w]/\jQ G F ρ σ H x v/\jQ G F ρ σ H y w:=by
 obtain ⟨v,vt,rfl,ok,h2⟩:=h
 obtain ⟨w,rfl,ok'⟩:=Qq h2
 exact ⟨v,w,rfl,ok,ok2 ok ok'⟩
theorem qLT {xs:List D} (hx:rd ρ x=some (.lst xs)) (h:Φ (.d (.int xs.length)) ρ):Qn (fun xs H Q=>∃ p ys,xs=[.ref p]/\(SqL K H p ys\/SqT K H p ys)/\Q (.int ys.length) H) [x] ρ Φ:=fun G F σ H vs I h1 Q q=>by
 obtain ⟨v,rfl,ok⟩:=Qq h1
 obtain ⟨a,ws,rfl,s1,d1⟩:=ji (K:=K) I ok hx
 refine ⟨a,ws,rfl,.inl s1,?_⟩
 rw [d1.length]
 exact j8 q I h
theorem qLw {xs:List D} (hx:rd ρ x=some (.tup xs)) (h:Φ (.d (.int xs.length)) ρ):Qn (fun xs H Q=>∃ p ys,xs=[.ref p]/\(SqL K H p ys\/SqT K H p ys)/\Q (.int ys.length) H) [x] ρ Φ:=fun G F σ H vs I h1 Q q=>by
 obtain ⟨v,rfl,ok⟩:=Qq h1
 obtain ⟨a,ws,rfl,s1,d1⟩:=JO I ok hx
 refine ⟨a,ws,rfl,.inr (SqT.of (I.g _ _ s1)),?_⟩
 rw [d1.length]
 exact j8 q I h
theorem qG5 {xs:List D} (hx:rd ρ x=some (.lst xs)) (h:Φ (.d (.tup xs)) ρ):Qn (fun xs H Q=>∃ p ys,xs=[.ref p]/\((SqL K H p ys/\∀ l,H l=none->Q (.ref l) (upd H l (.tup ys)))\/(SqT K H p ys/\Q (.ref p) H))) [x] ρ Φ:=fun G F σ H vs I h1 Q q=>by
 obtain ⟨v,rfl,ok⟩:=Qq h1
 obtain ⟨a,ws,rfl,s1,d1⟩:=ji (K:=K) I ok hx
 exact ⟨a,ws,rfl,.inl ⟨s1,fun l hl=>qCO q I d1 h hl⟩⟩
theorem qNv {k:Int->Int->Int} {i j:Int} (hx:rd ρ x=some (.int i)) (hy:rd ρ y=some (.int j)) (h:Φ (.d (.int (k i j))) ρ):Qn (fun xs H Q=>∃ i j,xs=[.int i,.int j]/\Q (.int (k i j)) H) [x,y] ρ Φ:=fun G F σ H vs I h1 Q q=>by
 obtain ⟨v,w,rfl,o1,o2⟩:=Jj h1
 cases qX I o1 hx
 cases qX I o2 hy
 exact ⟨i,j,rfl,j8 q I h⟩
noncomputable def tyD:D->String
 | .non=>"NoneType" | .bl _=>"bool" | .int _=>"int" | .str _=>"str" | .tup _=>"tuple" | .lst _=>"list" | .dic=>"dict"
theorem qNp {H:Hp} {d:D} {v:V} (h:Den H d v):qB5 K H v (.type (tyD d)):=by
 cases d with
 | non=>cases (show v=_ from h); exact .non
 | bl b=>cases (show v=_ from h); exact .bl b
 | int b=>cases (show v=_ from h); exact .int b
 | str b=>cases (show v=_ from h); exact .str b
 | tup l=>obtain ⟨a,xs,rfl,h1,_⟩:=h; exact .tup h1
 | lst l=>obtain ⟨a,xs,rfl,h1,_⟩:=h; exact .lst h1
 | dic=>obtain ⟨a,xs,rfl,h1⟩:=h; exact .dK h1
theorem qHg {d:D} {T:String} {b:Bool} (hx:rdE ρ x=some d) (hb:uY K (.type (tyD d)) (.type T)=some b) (h:Φ (.d (.bl b)) ρ):Qn (fun xs H Q=>∃ x t T b,xs=[x,.ty T]/\qB5 K H x t/\uY K t (.type T)=some b/\Q (.bl b) H) [x,.raw (.ty T)] ρ Φ:=fun G F σ H vs I h1 Q q=>by
 obtain ⟨v,w,rfl,o1,o2⟩:=Jj h1
 cases (show w=V.ty T from o2)
 exact ⟨v,_,T,b,rfl,qNp (Qm I o1 hx).1,hb,qU q I h⟩
theorem qJk {k:Bool} (hx:rd ρ x=some (.bl k)) (h:Φ (.d (.int (if k then 1 else 0))) ρ):Qn (fun xs H Q=>(∃ i,xs=[.int i]/\Q (.int i) H)\/∃ k,xs=[.bl k]/\Q (.int (if k then 1 else 0)) H) [x] ρ Φ:=fun G F σ H vs I h1 Q q=>by
 obtain ⟨v,rfl,ok⟩:=Qq h1
 cases qAy I ok hx
 exact .inr ⟨k,rfl,j8 q I h⟩
end
noncomputable def Rs.it:Rs->Option D
 | .d x=>some x
 | .o (.li xs)=>some (.lst xs)
 | _=>none
noncomputable def its:List Rs->Option (List D)
 | []=>some []
 | r::rs=>match r.it,its rs with | some d,some ds=>some (d::ds) | _,_=>none
theorem qHe {r:Rs} {rs:List Rs} {ds:List D} (h:its (r::rs)=some ds):∃ d dt,r.it=some d/\its rs=some dt/\ds=d::dt:=by
 unfold its at h
 cases e1:r.it with
 | none=>rw [e1] at h; cases h
 | some d=>
  cases e2:its rs with
  | none=>rw [e1,e2] at h; cases h
  | some dt=>rw [e1,e2] at h; cases h; exact ⟨d,dt,rfl,rfl,rfl⟩
theorem qGk {G F H:Hp} {ρ:List Sl} {σ:St} {r:Rs} {v:V} {d:D} (I:SI G F ρ σ H) (h:jQ G F ρ σ H r v) (e:r.it=some d):∃ G',qP G G'/\SI G' F ρ σ H/\Den G' d v:=by
 cases r with
 | d x=>cases e; exact ⟨G,qP.refl _,I,h⟩
 | o p=>cases p with
  | li xs=>cases e; exact I.lay h
  | di _=>cases e
  | dt _=>cases e
  | ex _=>cases e
 | b i=>cases e
 | raw w=>cases e
theorem qLC:∀{rs:List Rs} {ds:List D} {G F H:Hp} {ρ:List Sl} {σ:St} {vs:List V},SI G F ρ σ H->ja G F ρ σ H rs vs->its rs=some ds->∃ G',qP G G'/\SI G' F ρ σ H/\qV G' ds vs
 | [],ds,G,F,H,ρ,σ,vs,I,h,e=>by
  cases e
  exact ⟨G,qP.refl _,I,h⟩
 | r::rs,ds,G,F,H,ρ,σ,vs,I,h,e=>by
  obtain ⟨v,vt,rfl,ok,oks⟩:=h
  obtain ⟨d,dt,e1,e2,rfl⟩:=qHe e
  obtain ⟨G1,g1,I1,d1⟩:=qLC (I.held ok) oks e2
  obtain ⟨I2,ok2⟩:=SI.freed ok g1 I1
  obtain ⟨G2,g2,I3,d2⟩:=qGk I2 ok2 e1
  exact ⟨G2,g1.trans g2,I3,v,vt,rfl,d2,qV.mono g2 _ _ d1⟩
section
variable {ρ:List Sl} {Φ:Rs->List Sl->Prop} {t:TA}
theorem qMo (h:wpA t ρ fun rs ρ1=>∃ ds,its rs=some ds/\ds.length<=sizeLine/\Φ (.d (.tup ds)) ρ1):wpV (qNZ t) ρ Φ:=by
 intro G F σ H I Q q
 refine h G F σ H I _ fun G1 H1 vs rs ρ1 ⟨ds,e,hl,h1⟩ g1 I1 oks=>?_
 obtain ⟨G2,g2,I2,dn⟩:=qLC I1 oks e
 exact ⟨by rw [dn.length]; exact hl,fun p hp=>qCO (q.at (g1.trans g2) fun _ _ z=>z) I2 dn h1 hp⟩
theorem qMT (h:wpA t ρ fun rs ρ1=>∃ ds,its rs=some ds/\ds.length<=sizeLine/\Φ (.l ds) ρ1):wpV (qNM t) ρ Φ:=by
 intro G F σ H I Q q
 refine h G F σ H I _ fun G1 H1 vs rs ρ1 ⟨ds,e,hl,h1⟩ g1 I1 oks=>?_
 obtain ⟨G2,g2,I2,dn⟩:=qLC I1 oks e
 exact ⟨by rw [dn.length]; exact hl,fun p hp=>Qs (q.at (g1.trans g2) fun _ _ z=>z) I2 dn h1 hp⟩
end
noncomputable def qMf:D->Option Bool
 | .non=>some false | .bl b=>some b | .int i=>some (i != 0) | .tup l=>some !l.isEmpty | .lst l=>some !l.isEmpty | .str _=>none | .dic=>none
theorem qNz {G F H:Hp} {ρ:List Sl} {σ:St} {r:Rs} {v:V} {d:D} {k:Bool} {K:wK} (I:SI G F ρ σ H) (h:jQ G F ρ σ H r v) (e:rd ρ r=some d) (t:qMf d=some k):qL9 K v H k:=by
 cases d with
 | non=>cases qHx I h e; cases t; exact rfl
 | bl b=>cases qAy I h e; cases t; exact rfl
 | int i=>cases qX I h e; cases t; exact rfl
 | str s=>cases t
 | dic=>cases t
 | tup l=>
  cases t
  obtain ⟨a,ws,rfl,s1,d1⟩:=JO I h e
  refine .inr (.inl ⟨ws,SqT.of (I.g _ _ s1),?_⟩)
  have:=d1.length
  cases ws <;> cases l <;> first | rfl | cases this
 | lst l=>
  cases t
  obtain ⟨a,ws,rfl,s1,d1⟩:=ji (K:=K) I h e
  refine .inl ⟨ws,s1,?_⟩
  have:=d1.length
  cases ws <;> cases l <;> first | rfl | cases this
section
variable {ρ:List Sl} {Φ:Rs->List Sl->Prop} {Ψ:Bool->List Sl->Prop} {ta tb:TE} {t u:TT} {K:wK}
theorem qIE (h:wpV ta ρ fun r ρ1=>∃ b,rd ρ1 r=some (.bl b)/\Ψ b ρ1):wpT (qKp ta) ρ Ψ:=by
 intro G F σ H I Q q
 refine h G F σ H I _ fun G1 H1 v r ρ1 ⟨b,e,h1⟩ g1 I1 ok1=>?_
 exact ⟨b,qAy I1 ok1 e,q G1 H1 b ρ1 h1 g1 I1⟩
theorem t_B (h:wpV ta ρ fun r ρ1=>∃ b,rd ρ1 r=some (.bl b)/\Ψ b ρ1):wpT (tB ta) ρ Ψ:=by
 intro G F σ H I Q q
 refine h G F σ H I _ fun G1 H1 v r ρ1 ⟨b,e,h1⟩ g1 I1 ok1=>?_
 exact ⟨b,qAy I1 ok1 e,q G1 H1 b ρ1 h1 g1 I1⟩
theorem qMa (h:wpV ta ρ fun r ρ1=>∃ d b,rd ρ1 r=some d/\qMf d=some b/\Ψ b ρ1):wpT (qNY K ta) ρ Ψ:=by
 intro G F σ H I Q q
 refine h G F σ H I _ fun G1 H1 v r ρ1 ⟨d,b,e,e2,h1⟩ g1 I1 ok1=>?_
 exact ⟨b,qNz I1 ok1 e e2,q G1 H1 b ρ1 h1 g1 I1⟩
theorem QG (h:Ψ true ρ):wpT qKq ρ Ψ:=fun G F σ H I Q q=>q G H true ρ h (qP.refl _) I
theorem qLI (h:wpT t ρ fun b ρ1=>if b=true then wpT u ρ1 Ψ else Ψ false ρ1):wpT (qMj t u) ρ Ψ:=by
 intro G F σ H I Q q
 refine h G F σ H I _ fun G1 H1 b ρ1 h1 g1 I1=>?_
 cases b with
 | true=>exact (by simpa using h1:wpT u ρ1 Ψ) G1 F σ H1 I1 Q fun G2 H2 b ρ2 h2 g2 I2=>q G2 H2 b ρ2 h2 (g1.trans g2) I2
 | false=>exact q G1 H1 false ρ1 (by simpa using h1) g1 I1
theorem qMz (h:wpT t ρ fun b ρ1=>if b=true then Ψ true ρ1 else wpT u ρ1 Ψ):wpT (tOr t u) ρ Ψ:=by
 intro G F σ H I Q q
 refine h G F σ H I _ fun G1 H1 b ρ1 h1 g1 I1=>?_
 cases b with
 | true=>exact q G1 H1 true ρ1 (by simpa using h1) g1 I1
 | false=>exact (by simpa using h1:wpT u ρ1 Ψ) G1 F σ H1 I1 Q fun G2 H2 b ρ2 h2 g2 I2=>q G2 H2 b ρ2 h2 (g1.trans g2) I2
theorem qMi (h:wpT t ρ fun b ρ1=>Ψ (!b) ρ1):wpT (qNJ t) ρ Ψ:=by
 intro G F σ H I Q q
 exact h G F σ H I _ fun G1 H1 b ρ1 h1 g1 I1=>q G1 H1 (!b) ρ1 h1 g1 I1
theorem wpT.mono {Ψ':Bool->List Sl->Prop} (h:wpT t ρ Ψ) (e:∀ b ρ',Ψ b ρ'->Ψ' b ρ'):wpT t ρ Ψ':=fun G F σ H I Q q=>h G F σ H I Q fun G1 H1 b ρ1 h1 g1 I1=>q G1 H1 b ρ1 (e _ _ h1) g1 I1
theorem qL2 {b c:Bool} (h1:wpT t ρ fun x ρ1=>x=b/\ρ1=ρ) (h2:b=true->wpT u ρ fun x ρ1=>x=c/\ρ1=ρ) (h:Ψ (b && c) ρ):wpT (qMj t u) ρ Ψ:=by
 refine qLI (h1.mono ?_)
 rintro x ρ1 ⟨rfl,rfl⟩
 cases x with
 | true=>rw [if_pos rfl]; exact (h2 rfl).mono fun x ρ1 ⟨e1,e2⟩=>by subst e1 e2; exact h
 | false=>exact h
theorem qNU (h:wpT t ρ fun b ρ1=>if b=true then wpV ta ρ1 Φ else wpV tb ρ1 Φ):wpV (tIf t ta tb) ρ Φ:=by
 intro G F σ H I Q q
 refine h G F σ H I _ fun G1 H1 b ρ1 h1 g1 I1=>?_
 cases b with
 | true=>exact (by simpa using h1:wpV ta ρ1 Φ) G1 F σ H1 I1 Q (q.at g1 fun _ _ z=>z)
 | false=>exact (by simpa using h1:wpV tb ρ1 Φ) G1 F σ H1 I1 Q (q.at g1 fun _ _ z=>z)
end
structure VE where
 nx:List Sl->Prop
 rt:Rs->List Sl->Prop
 bk:List Sl->Prop:=fun _=>False
 ct:List Sl->Prop:=fun _=>False
noncomputable def Kp (B:List Nat) (σ σ':St):Prop:=∀ i∈B,σ'[i]? = σ[i]?
theorem Kp.refl (B:List Nat) (σ:St):Kp B σ σ:=fun _ _=>rfl
theorem Kp.trans {B:List Nat} {σ σ1 σ2:St} (a:Kp B σ σ1) (b:Kp B σ1 σ2):Kp B σ σ2:=fun i hi=>(b i hi).trans (a i hi)
noncomputable def NX (B:List Nat) (G F:Hp) (σ:St) (Ψ:List Sl->Prop) (N:St->Hp->Prop):Prop:=∀ G' σ' H' ρ',Ψ ρ'->qP G G'->Kp B σ σ'->SI G' F ρ' σ' H'->N σ' H'
noncomputable def RT (B:List Nat) (G F:Hp) (σ:St) (Ψ:Rs->List Sl->Prop) (N:VK):Prop:=∀ G' σ' H' ρ' r v,Ψ r ρ'->qP G G'->Kp B σ σ'->SI G' F ρ' σ' H'->jQ G' F ρ' σ' H' r v->N v H'
theorem NX.at {B:List Nat} {G F:Hp} {σ:St} {Ψ:List Sl->Prop} {N:St->Hp->Prop} (h:NX B G F σ Ψ N) {G':Hp} {σ':St} (g:qP G G') (k:Kp B σ σ'):NX B G' F σ' Ψ N:=fun G2 σ2 H2 ρ2 p g2 k2 I=>h G2 σ2 H2 ρ2 p (g.trans g2) (k.trans k2) I
theorem RT.at {B:List Nat} {G F:Hp} {σ:St} {Ψ:Rs->List Sl->Prop} {N:VK} (h:RT B G F σ Ψ N) {G':Hp} {σ':St} (g:qP G G') (k:Kp B σ σ'):RT B G' F σ' Ψ N:=fun G2 σ2 H2 ρ2 r v p g2 k2 I ok=>h G2 σ2 H2 ρ2 r v p (g.trans g2) (k.trans k2) I ok
noncomputable def wpS (B:List Nat) (ts:TS) (ρ:List Sl) (Ψ:VE):Prop:=∀ G F σ H,SI G F ρ σ H->∀ D:Ends,NX B G F σ Ψ.nx D.nx->RT B G F σ Ψ.rt D.rt->NX B G F σ Ψ.bk D.bk->NX B G F σ Ψ.ct D.ct->ts D σ H
noncomputable def wpG (B:List Nat) (g:TG) (r:Rs) (ρ:List Sl) (Φ:List Sl->Prop):Prop:=∀ G F σ H v,SI G F ρ σ H->jQ G F ρ σ H r v->∀ N:St->Hp->Prop,NX B G F σ Φ N->g v σ H N
noncomputable def qL6 (B:List Nat) (g:TGs) (ds:List D) (ρ:List Sl) (Φ:List Sl->Prop):Prop:=∀ G F σ H vs,SI G F ρ σ H->qV G ds vs->∀ N:St->Hp->Prop,NX B G F σ Φ N->g vs σ H N
section
variable {B:List Nat} {ρ:List Sl} {Ψ:VE} {t u:TS} {te:TE} {c:TT}
theorem qET (h:wpS B t ρ { Ψ with nx:=fun ρ1=>wpS B u ρ1 Ψ }):wpS B (Qi t u) ρ Ψ:=by
 intro G F σ H I D n r b ct
 refine h G F σ H I _ ?_ r b ct
 intro G1 σ1 H1 ρ1 h1 g1 k1 I1
 exact h1 G1 F σ1 H1 I1 D (n.at g1 k1) (r.at g1 k1) (b.at g1 k1) (ct.at g1 k1)
theorem jR (h:Ψ.nx ρ):wpS B qLi ρ Ψ:=fun G F σ H I D n r b ct=>n G σ H ρ h (qP.refl _) (Kp.refl _ _) I
theorem qLc (h:wpV te ρ fun _ ρ1=>Ψ.nx ρ1):wpS B (qKy te) ρ Ψ:=fun G F σ H I D n r b ct=>
 h G F σ H I _ fun G1 H1 v x ρ1 h1 g1 I1 _=>n G1 σ H1 ρ1 h1 g1 (Kp.refl _ _) I1
theorem qHW (h:wpV te ρ fun r ρ1=>Ψ.rt r ρ1):wpS B (qNQ te) ρ Ψ:=fun G F σ H I D n r b ct=>
 h G F σ H I _ fun G1 H1 v x ρ1 h1 g1 I1 ok=>r G1 σ H1 ρ1 x v h1 g1 (Kp.refl _ _) I1 ok
theorem qHt (h:wpT c ρ fun b ρ1=>if b=true then wpS B t ρ1 Ψ else wpS B u ρ1 Ψ):wpS B (qNV c t u) ρ Ψ:=by
 intro G F σ H I D n r b ct
 refine h G F σ H I _ fun G1 H1 x ρ1 h1 g1 I1=>?_
 cases x with
 | true=>exact (by simpa using h1:wpS B t ρ1 Ψ) G1 F σ H1 I1 D (n.at g1 (Kp.refl _ _)) (r.at g1 (Kp.refl _ _)) (b.at g1 (Kp.refl _ _)) (ct.at g1 (Kp.refl _ _))
 | false=>exact (by simpa using h1:wpS B u ρ1 Ψ) G1 F σ H1 I1 D (n.at g1 (Kp.refl _ _)) (r.at g1 (Kp.refl _ _)) (b.at g1 (Kp.refl _ _)) (ct.at g1 (Kp.refl _ _))
theorem qBS {g:TG} (h:wpV te ρ fun r ρ1=>wpG B g r ρ1 Ψ.nx):wpS B (qKJ te g) ρ Ψ:=by
 intro G F σ H I D n r b ct
 refine h G F σ H I _ fun G1 H1 v x ρ1 h1 g1 I1 ok=>?_
 exact h1 G1 F σ H1 v I1 ok _ (n.at g1 (Kp.refl _ _))
theorem qT {i:Nat} {r:Rs} {Φ:List Sl->Prop} (hi:B.contains i=false) (h:Φ (ρ.set i r.sl)):wpG B (qB2 i) r ρ Φ:=by
 intro G F σ H v I ok N n
 refine n G _ H _ h (qP.refl _) (fun j hj=>?_) (I.asg (i:=i) ok)
 rw [yF,if_neg]
 intro z; subst z
 rw [kQ,decide_eq_false_iff_not] at hi
 exact hi hj
theorem qAY {Φ:List Sl->Prop} (h:Φ ρ):qL6 B qNl [] ρ Φ:=fun G F σ H vs I d N n=>⟨d,n G σ H ρ h (qP.refl _) (Kp.refl _ _) I⟩
theorem jd {g:TG} {gs:TGs} {x:D} {ds:List D} {Φ:List Sl->Prop} (h:wpG B g (.d x) ρ fun ρ1=>qL6 B gs ds ρ1 Φ):qL6 B (qLZ g gs) (x::ds) ρ Φ:=by
 intro G F σ H vs I d N n
 obtain ⟨v,r,rfl,d1,d2⟩:=d
 refine ⟨v,r,rfl,h G F σ H v I d1 _ ?_⟩
 intro G1 σ1 H1 ρ1 h1 g1 k1 I1
 exact h1 G1 F σ1 H1 r I1 (qV.mono g1 _ _ d2) N (n.at g1 k1)
theorem qD7 {K:wK} {k:Nat} {gs:TGs} {r:Rs} {ds:List D} {Φ:List Sl->Prop} (e:rd ρ r=some (.tup ds)) (hk:ds.length=k) (h:qL6 B gs ds ρ Φ):wpG B (qMx K k gs) r ρ Φ:=by
 intro G F σ H v I ok N n
 obtain ⟨a,vs,rfl,h1,h2⟩:=JO I ok e
 exact ⟨a,vs,rfl,SqT.of (I.g _ _ h1),by rw [h2.length]; exact hk,h G F σ H vs I h2 N n⟩
theorem qDA {H:Hp}:∀{xs:List D} {vs:List V} {d:D} {v:V} (j:Nat),qV H xs vs->Den H d v->qV H (xs.set j d) (vs.set j v)
 | [],vs,d,v,j,h,g=>by cases (show vs=[] from h); exact rfl
 | x::xs,vs,d,v,0,h,g=>by
  obtain ⟨w,r,rfl,h1,h2⟩:=h
  exact ⟨v,r,rfl,g,h2⟩
 | x::xs,vs,d,v,j+1,h,g=>by
  obtain ⟨w,r,rfl,h1,h2⟩:=h
  exact ⟨w,r.set j v,rfl,h1,qDA j h2 g⟩
theorem qM4 {i:Nat} {k:Int->Int->Int} {n:Int} (hB:B.contains i=false) (hi:ρ[i]? = some (.d (.int n))) (h:wpV te ρ fun r ρ1=>∃ m,rd ρ1 r=some (.int m)/\Ψ.nx (ρ1.set i (.d (.int (k n m))))):wpS B (qNg i te (rI0 fun i j=>.int (k i j))) ρ Ψ:=by
 intro G F σ H I D nx r b ct
 obtain ⟨o,e,v,rfl,dv⟩:=I.ok i _ hi
 refine ⟨v,e,h G F σ H I _ fun G1 H1 w x ρ1 ⟨m,e1,h1⟩ g1 I1 ok=>⟨n,m,dv,qX I1 ok e1,?_⟩⟩
 refine nx G1 _ H1 _ h1 g1 (fun j hj=>?_) (I1.asg (i:=i) (r:=.d (.int (k n m))) (show Den G1 (.int (k n m)) _ from rfl))
 rw [yF,if_neg]
 intro z; subst z
 rw [kQ,decide_eq_false_iff_not] at hB
 exact hB hj
theorem qCG (Jv:Nat->List Sl->Prop) (m0:Nat) (h0:Jv m0 ρ) {tb:TS}
  (h:∀ m ρ,Jv m ρ->wpT c ρ fun b ρ1=>if b=true then wpS B tb ρ1 { nx:=fun ρ'=>∃ m',m'<m/\Jv m' ρ',ct:=fun ρ'=>∃ m',m'<m/\Jv m' ρ',bk:=Ψ.nx,rt:=Ψ.rt } else Ψ.nx ρ1):wpS B (qIL c tb) ρ Ψ:=by
 intro G F σ H I D n r b ct
 refine ⟨fun m σ' H'=>∃ G' ρ',Jv m ρ'/\qP G G'/\Kp B σ σ'/\SI G' F ρ' σ' H',⟨m0,G,ρ,h0,qP.refl _,Kp.refl _ _,I⟩,?_⟩
 rintro m σ1 H1 ⟨G1,ρ1,hI,g1,k1,I1⟩
 refine h m ρ1 hI G1 F σ1 H1 I1 _ fun G2 H2 x ρ2 h2 g2 I2=>?_
 cases x with
 | true=>
  refine ⟨fun σ' H'=>∃ m',m'<m/\∃ G' ρ',Jv m' ρ'/\qP G G'/\Kp B σ σ'/\SI G' F ρ' σ' H',fun σ' H' z=>z,?_⟩
  rw [if_pos rfl] at h2
  refine h2 G2 F σ1 H2 I2 _ ?_ (r.at (g1.trans g2) k1) ?_ ?_
  ·exact fun G3 σ3 H3 ρ3 ⟨m',l,p⟩ g3 k3 I3=>⟨m',l,G3,ρ3,p,(g1.trans g2).trans g3,k1.trans k3,I3⟩
  ·exact n.at (g1.trans g2) k1
  ·exact fun G3 σ3 H3 ρ3 ⟨m',l,p⟩ g3 k3 I3=>⟨m',l,G3,ρ3,p,(g1.trans g2).trans g3,k1.trans k3,I3⟩
 | false=>exact n.at (g1.trans g2) k1 G2 σ1 H2 ρ2 (by simpa using h2) (qP.refl _) (Kp.refl _ _) I2
noncomputable def sq:D->Option (List D)
 | .tup l=>some l
 | .lst l=>some l
 | _=>none
end
section
variable {ρ:List Sl} {Φ:Rs->List Sl->Prop} {K:wK} {t:TA} {i:Nat} {xs:List D}
theorem qNw {T:String} {r:V->List V->Hp->VK->Prop} {to:TE} (h:wpV to ρ fun o ρ1=>(T = "list"/\∃ xs,rd ρ1 o=some (.lst xs))/\wpA t ρ1 fun rs ρ2=>Qn (fun vs H Q=>∃ v vt,vs=v::vt/\r v vt H Q) (o::rs) ρ2 Φ):wpV (tBM K T r to t) ρ Φ:=by
 intro G F σ H I Q q
 refine h G F σ H I _ fun G1 H1 v o ρ1 ⟨⟨eT,xs,hx⟩,h1⟩ g1 I1 ok1=>?_
 obtain ⟨a,ws,rfl,s1,d1⟩:=ji (K:=K) I1 ok1 hx
 refine ⟨.inl ⟨eT,ws,s1⟩,?_⟩
 refine h1 G1 (hold o (.ref a) H1 F) σ H1 (I1.held ok1) _ fun G2 H2 vs rs ρ2 h2 g2 I2 oks=>?_
 obtain ⟨I3,ok3⟩:=ja.cons ok1 g2 I2 oks
 obtain ⟨v,vt,e,z⟩:=h2 G2 F σ H2 (.ref a::vs) I3 ok3 Q (q.at (g1.trans g2) fun _ _ p=>p)
 cases e
 exact z
theorem qJQ {G F H:Hp} {σ:St} {v:V} (I:SI G F ρ σ H) (hi:ρ[i]? = some (.l xs)) (ok:jQ G F ρ σ H (.b i) v):∃ a vs,v=.ref a/\σ[i]? = some (some (.ref a))/\H a=some (.lst vs)/\qV G xs vs:=by
 obtain ⟨o,e,a,_,z,h1,vs,rfl,h2⟩:=I.ok i _ hi
 have ok':σ[i]? = some (some v):=ok
 rw [ok'] at e
 cases e
 cases z
 exact ⟨a,vs,rfl,ok',h1,h2⟩
theorem qHX {r:Rs} {d:D} (hi:ρ[i]? = some (.l xs)) (hr:r.it=some d) (hz:xs.length<sizeLine) (h:Φ (.d .non) (ρ.set i (.l (xs++[d])))):Qn (fun vs H Q=>∃ v vt,vs=v::vt/\qFw v vt H Q) [.b i,r] ρ Φ:=by
 intro G F σ H vs I oks Q q
 obtain ⟨v,w,rfl,o1,o2⟩:=Jj oks
 obtain ⟨G1,g1,I1,dn⟩:=qGk I o2 hr
 obtain ⟨a,us,rfl,e1,h1,h2⟩:=qJQ I1 hi o1
 refine ⟨_,_,rfl,a,us,w,rfl,rfl,h1,by rw [h2.length]; exact hz,?_⟩
 exact q G1 _ .non (.d .non) _ h g1 (I1.put hi e1 (h2.snoc dn)) rfl
theorem qHU {r:Rs} {ys:List D} (hi:ρ[i]? = some (.l xs)) (hr:rdE ρ r=some (.lst ys)) (hz:xs.length+ys.length<=sizeLine) (h:Φ (.d .non) (ρ.set i (.l (xs++ys)))):Qn (fun vs H Q=>∃ v vt,vs=v::vt/\qFI v vt H Q) [.b i,r] ρ Φ:=by
 intro G F σ H vs I oks Q q
 obtain ⟨v,w,rfl,o1,o2⟩:=Jj oks
 obtain ⟨a,us,rfl,e1,h1,h2⟩:=qJQ I hi o1
 obtain ⟨b,ws,rfl,h3,h4⟩:=(Qm I o2 hr).2.2 _ rfl
 refine ⟨_,_,rfl,a,b,us,ws,rfl,rfl,h1,h3,by rw [h2.length,h4.length]; exact hz,?_⟩
 exact q G _ .non (.d .non) _ h (qP.refl _) (I.put hi e1 (h2.append h4)) rfl
theorem qAD {H:Hp}:∀{xs:List D} {vs:List V} (j:Nat),qV H xs vs->qV H (xs.eraseIdx j) (vs.eraseIdx j)
 | [],vs,j,h=>by cases (show vs=[] from h); exact rfl
 | x::xs,vs,0,h=>by
  obtain ⟨w,r,rfl,h1,h2⟩:=h
  exact h2
 | x::xs,vs,j+1,h=>by
  obtain ⟨w,r,rfl,h1,h2⟩:=h
  exact ⟨w,r.eraseIdx j,rfl,h1,qAD j h2⟩
theorem qFJ {r:Rs} {k:Nat} {d:D} (hi:ρ[i]? = some (.l xs)) (hr:rd ρ r=some (.int k)) (hk:xs[k]? = some d) (hz:xs.length<2 ^ 62) (h:Φ (.d d) (ρ.set i (.l (xs.eraseIdx k)))):Qn (fun vs H Q=>∃ v vt,vs=v::vt/\qIg v vt H Q) [.b i,r] ρ Φ:=by
 intro G F σ H vs I oks Q q
 obtain ⟨v,w,rfl,o1,o2⟩:=Jj oks
 obtain ⟨a,us,rfl,e1,h1,h2⟩:=qJQ I hi o1
 cases qX I o2 hr
 obtain ⟨x,hx,dx⟩:=h2.get' hk
 have hkl:k<xs.length:=(wR.mp hk).1
 have hl:=h2.length
 refine ⟨_,_,rfl,a,us,k,k,x,rfl,rfl,h1,by omega,by omega,?_,hx,?_⟩
 ·have z:=(qCm (n:=us.length) (i:=(k:Int)) (j:=k) (by unfold ixN; rw [if_pos (by omega),if_pos (by omega)]; simp)).1
  exact z
 ·exact q G _ x (.d d) _ h (qP.refl _) (I.put hi e1 (qAD k h2)) dx
end
noncomputable def qHo (ρ:List Sl):Rs->Sl
 | .d x=>.d x
 | .o xs=>.o xs
 | .b i=>(ρ[i]?).getD .u
 | .raw _=>.u
noncomputable def isB:List Rs->List Nat
 | []=>[]
 | .b i::rs=>i::isB rs
 | _::rs=>isB rs
theorem Qt {i:Nat}:∀{rs:List Rs},i∈isB rs↔Rs.b i∈rs
 | []=>by simp [isB]
 | .b j::rs=>by
  have ih:=Qt (i:=i) (rs:=rs)
  simp only [isB,wW,ih,Rs.b.injEq]
 | .d x::rs=>by
  have ih:=Qt (i:=i) (rs:=rs)
  simp only [isB,wW,ih]
  exact ⟨.inr,fun h=>h.resolve_left (fun z=>by cases z)⟩
 | .o x::rs=>by
  have ih:=Qt (i:=i) (rs:=rs)
  simp only [isB,wW,ih]
  exact ⟨.inr,fun h=>h.resolve_left (fun z=>by cases z)⟩
 | .raw x::rs=>by
  have ih:=Qt (i:=i) (rs:=rs)
  simp only [isB,wW,ih]
  exact ⟨.inr,fun h=>h.resolve_left (fun z=>by cases z)⟩
theorem qFm {i:Nat}:∀{rs:List Rs} {j k:Nat},(isB rs).Nodup->rs[j]? = some (.b i)->rs[k]? = some (.b i)->j=k
 | [],j,k,n,h1,h2=>by simp at h1
 | r::rs,j,k,n,h1,h2=>by
  have nt:(isB rs).Nodup:=by
   cases r with
   | b i=>exact (zX.mp n).2
   | d x=>exact n
   | o x=>exact n
   | raw x=>exact n
  cases j with
  | zero=>
   cases k with
   | zero=>rfl
   | succ k=>
    simp at h1 h2
    subst h1
    exact absurd (Qt.mpr (vM h2)) (zX.mp n).1
  | succ j=>
   cases k with
   | zero=>
    simp at h1 h2
    subst h2
    exact absurd (Qt.mpr (vM h1)) (zX.mp n).1
   | succ k=>exact congrArg (· + 1) (qFm nt (by simpa using h1:rs[j]? = some (.b i)) (by simpa using h2:rs[k]? = some (.b i)))
noncomputable def kept (ρ:List Sl) (σ:St) (rs:List Rs) (a:Addr):Prop:=∃(i:Nat) (xs:Pl),ρ[i]? = some (Sl.o xs)/\σ[i]? = some (some (V.ref a))/\Rs.b i∉rs
open Classical in
noncomputable def foc (H F:Hp) (ρ:List Sl) (σ:St) (rs:List Rs):Hp:=fun a=>if kept ρ σ rs a then H a else F a
noncomputable def wb (ρ:List Sl):List Rs->List Sl->List Sl
 | [],_=>ρ
 | .b i::rs,as=>match ρ[i]? with
  | some (.o _)=>wb (ρ.set i (as.headD .u)) rs as.tail
  | _=>wb ρ rs as.tail
 | _::rs,as=>wb ρ rs as.tail
theorem qDI {i:Nat} {s:Sl}:∀{rs:List Rs} {ρ as:List Sl},(wb ρ rs as)[i]? = some s->(∃ j:Nat,rs[j]? = some (Rs.b i)/\(as[j]? = some s\/s=.u))\/(ρ[i]? = some s/\((∃ xs,s=.o xs)->Rs.b i∉rs))
 | [],ρ,as,h=>.inr ⟨h,fun _=>zP⟩
 | r::rs,ρ,as,h=>by
  have tl:∀ j:Nat,as.tail[j]? = as[j+1]?:=fun j=>by cases as <;> simp
  have go:∀ ρ':List Sl,(wb ρ' rs as.tail)[i]? = some s->(∃ j:Nat,(r::rs)[j]? = some (Rs.b i)/\(as[j]? = some s\/s=.u))\/(ρ'[i]? = some s/\((∃ xs,s=.o xs)->Rs.b i∉rs)):=fun ρ' h=>by
   rcases qDI h with ⟨j,h1,h2⟩ | h1
   ·exact .inl ⟨j+1,by simpa using h1,by rw [<- tl]; exact h2⟩
   ·exact .inr h1
  cases r with
  | b k=>
   unfold wb at h
   cases e:ρ[k]? with
   | none=>
    simp only [e] at h
    rcases go ρ h with q | ⟨q1,q2⟩
    ·exact .inl q
    ·refine .inr ⟨q1,fun z m=>?_⟩
     rcases wW.mp m with m | m
     ·cases m; rw [e] at q1; cases q1
     ·exact q2 z m
   | some s'=>
    cases s' with
    | o ys=>
     simp only [e] at h
     rcases go _ h with q | ⟨q1,q2⟩
     ·exact .inl q
     ·by_cases z:k=i
      ·subst z
       rw [yF,if_pos rfl,if_pos (wR.mp e).1] at q1
       cases as with
       | nil=>exact .inl ⟨0,rfl,.inr (zS q1).symm⟩
       | cons s0 as'=>exact .inl ⟨0,rfl,.inl q1⟩
      ·rw [yF,if_neg z] at q1
       refine .inr ⟨q1,fun z' m=>?_⟩
       rcases wW.mp m with m | m
       ·cases m; exact z rfl
       ·exact q2 z' m
    | _=>
     simp only [e] at h
     rcases go ρ h with q | ⟨q1,q2⟩
     ·exact .inl q
     ·refine .inr ⟨q1,fun z m=>?_⟩
      rcases wW.mp m with m | m
      ·cases m
       obtain ⟨xs,z⟩:=z
       rw [z,e] at q1
       cases q1
      ·exact q2 z m
  | d x=>
   rcases go ρ h with q | ⟨q1,q2⟩
   ·exact .inl q
   ·exact .inr ⟨q1,fun z m=>q2 z ((wW.mp m).resolve_left fun z=>by cases z)⟩
  | o x=>
   rcases go ρ h with q | ⟨q1,q2⟩
   ·exact .inl q
   ·exact .inr ⟨q1,fun z m=>q2 z ((wW.mp m).resolve_left fun z=>by cases z)⟩
  | raw x=>
   rcases go ρ h with q | ⟨q1,q2⟩
   ·exact .inl q
   ·exact .inr ⟨q1,fun z m=>q2 z ((wW.mp m).resolve_left fun z=>by cases z)⟩
section
variable {G F H:Hp} {ρ:List Sl} {σ:St}
theorem ja.get:∀{rs:List Rs} {F:Hp} {vs:List V} {j:Nat} {v:V},ja G F ρ σ H rs vs->vs[j]? = some v->∃ r,rs[j]? = some r/\jQ G F ρ σ H r v
 | [],F,vs,j,v,h,e=>by cases (show vs=[] from h); simp at e
 | r::rs,F,vs,j,v,h,e=>by
  obtain ⟨w,vt,rfl,ok,oks⟩:=h
  cases j with
  | zero=>simp at e; subst e; exact ⟨r,rfl,ok⟩
  | succ j=>
   obtain ⟨r',h1,h2⟩:=ja.get oks (by simpa using e:vt[j]? = some v)
   exact ⟨r',by simpa using h1,h2.weak (Yp r w ok)⟩
theorem ja.len:∀{rs:List Rs} {F:Hp} {vs:List V},ja G F ρ σ H rs vs->vs.length=rs.length
 | [],F,vs,h=>by cases (show vs=[] from h); rfl
 | r::rs,F,vs,h=>by
  obtain ⟨w,vt,rfl,ok,oks⟩:=h
  rw [wZ,wZ,oks.len]
theorem ja.apart:∀{rs:List Rs} {F:Hp} {vs:List V} {j k:Nat} {a:Addr} {xs ys:Pl},ja G F ρ σ H rs vs->rs[j]? = some (.o xs)->rs[k]? = some (.o ys)->vs[j]? = some (.ref a)->vs[k]? = some (.ref a)->j=k
 | [],F,vs,j,k,a,xs,ys,h,h1,_,_,_=>by simp at h1
 | r::rs,F,vs,j,k,a,xs,ys,h,h1,h2,h3,h4=>by
  obtain ⟨w,vt,rfl,ok,oks⟩:=h
  have no:∀(n:Nat) (zs us:Pl),r=.o us->w=.ref a->rs[n]? = some (.o zs)->vt[n]? = some (.ref a)->False:=fun n zs us e1 e2 e3 e4=>by
   subst e1 e2
   obtain ⟨r',q1,q2⟩:=ja.get oks e4
   rw [e3] at q1
   cases q1
   obtain ⟨b,ws,z,_,_,_,z5,_⟩:=q2
   cases z
   obtain ⟨b,ws',z,y1,_⟩:=ok
   cases z
   have:hold (.o us) (.ref a) H F a=some ws':=by
    show (if a=a then H a else F a)=_
    rw [if_pos rfl]; exact y1
   rw [this] at z5
   cases z5
  cases j with
  | zero=>
   cases k with
   | zero=>rfl
   | succ k=>simp at h1 h2 h3 h4; exact (no k ys xs h1 h3 h2 h4).elim
  | succ j=>
   cases k with
   | zero=>simp at h1 h2 h3 h4; exact (no j xs ys h2 h4 h1 h3).elim
   | succ k=>exact congrArg (· + 1) (ja.apart oks (by simpa using h1:rs[j]? = some (.o xs)) (by simpa using h2:rs[k]? = some (.o ys)) (by simpa using h3:vt[j]? = some (.ref a)) (by simpa using h4))
theorem JM {rs:List Rs} {a:Addr} (h:kept ρ σ rs a):foc H F ρ σ rs a=H a:=by unfold foc; rw [if_pos h]
theorem Yk {rs:List Rs} {a:Addr} (h:¬ kept ρ σ rs a):foc H F ρ σ rs a=F a:=by unfold foc; rw [if_neg h]
theorem JG {rs:List Rs} (I:SI G F ρ σ H):qP F (foc H F ρ σ rs):=fun b o e=>by
 rw [Yk]
 ·exact e
 ·rintro ⟨i,xs,h1,h2,_⟩
  rw [(I.out b ⟨i,xs,h1,h2⟩).2] at e
  cases e
theorem SI.focus {rs:List Rs} {vs:List V} (I:SI G F ρ σ H) (oks:ja G F ρ σ H rs vs) (nb:(isB rs).Nodup):SI G (foc H F ρ σ rs) (rs.map (qHo ρ)) (vs.map some) H:=by
 have get:∀(j:Nat) (s:Sl),(rs.map (qHo ρ))[j]? = some s->∃ r v,rs[j]? = some r/\s=qHo ρ r/\vs[j]? = some v/\jQ G F ρ σ H r v:=fun j s e=>by
  rw [wQ] at e
  cases z:rs[j]? with
  | none=>rw [z] at e; cases e
  | some r=>
   rw [z] at e
   have hj:j<vs.length:=by rw [oks.len]; exact (wR.mp z).1
   obtain ⟨r',q1,q2⟩:=oks.get (wA hj)
   rw [z] at q1
   cases q1
   exact ⟨r,vs[j],rfl,(zS e).symm,wA hj,q2⟩
 have own:∀(j:Nat) (xs:Pl) (a:Addr),(rs.map (qHo ρ))[j]? = some (.o xs)->(vs.map some)[j]? = some (some (.ref a))->G a=none/\F a=none/\((∃ ys,rs[j]? = some (.o ys)/\vs[j]? = some (.ref a)/\¬ qKn ρ σ a)\/∃ i,rs[j]? = some (.b i)/\ρ[i]? = some (.o xs)/\σ[i]? = some (some (.ref a))):=fun j xs a h1 h2=>by
  obtain ⟨r,v,e1,e2,e3,ok⟩:=get j _ h1
  rw [wQ,e3] at h2
  cases h2
  cases r with
  | d x=>cases e2
  | raw x=>cases e2
  | o ys=>
   obtain ⟨b,ws,z,z1,z2,z3,z4,z5⟩:=ok
   cases z
   exact ⟨z3,z4,.inl ⟨ys,e1,e3,z5⟩⟩
  | b i=>
   have e2':Sl.o xs=(ρ[i]?).getD .u:=e2
   cases z:ρ[i]? with
   | none=>rw [z] at e2'; cases e2'
   | some s=>
    rw [z] at e2'
    cases (show Sl.o xs=s from e2')
    have o:=I.out a ⟨i,xs,z,ok⟩
    exact ⟨o.1,o.2,.inr ⟨i,e1,z,ok⟩⟩
 refine ⟨fun j s e=>?_,I.g,fun b o e=>?_,fun b o e=>?_,fun j k a xs ys h1 h2 h3 h4=>?_,fun a ha=>?_,fun b ws e=>?ft⟩
 case ft=>
  by_cases z:kept ρ σ rs b
  ·rw [JM z] at e
   obtain ⟨i,xs,h1,h2,_⟩:=z
   obtain ⟨o,q1,a,us,q2,q3,q4⟩:=I.ok i _ h1
   rw [h2] at q1
   cases q1
   cases q2
   rw [q3] at e
   exact q4.ntup ws (zS e)
  ·rw [Yk z] at e
   exact I.ft b ws e
 ·obtain ⟨r,v,e1,e2,e3,ok⟩:=get j s e
  refine ⟨some v,by rw [wQ,e3]; rfl,?_⟩
  subst e2
  cases r with
  | d x=>exact ⟨v,rfl,ok⟩
  | raw x=>trivial
  | o ys=>
   obtain ⟨b,ws,z,z1,z2,z3,z4,z5⟩:=ok
   subst z
   exact ⟨b,ws,rfl,z1,z2⟩
  | b i=>
   have ok':σ[i]? = some (some v):=ok
   show qLz G H ((ρ[i]?).getD .u) (some v)
   cases z:ρ[i]? with
   | none=>trivial
   | some s=>
    obtain ⟨o,q1,q2⟩:=I.ok i s z
    rw [ok'] at q1
    cases q1
    exact q2
 ·by_cases z:kept ρ σ rs b
  ·rw [JM z] at e; exact e
  ·rw [Yk z] at e; exact I.f _ _ e
 ·by_cases z:kept ρ σ rs b
  ·obtain ⟨i,xs,h1,h2,_⟩:=z
   exact (I.out b ⟨i,xs,h1,h2⟩).1
  ·rw [Yk z] at e; exact I.gf _ _ e
 ·obtain ⟨_,_,o1⟩:=own j xs a h1 h3
  obtain ⟨_,_,o2⟩:=own k ys a h2 h4
  rcases o1 with ⟨us,q1,q2,q3⟩ | ⟨i,q1,q2,q3⟩
  ·rcases o2 with ⟨ws,p1,p2,p3⟩ | ⟨i',p1,p2,p3⟩
   ·exact oks.apart q1 p1 q2 p2
   ·exact absurd ⟨i',ys,p2,p3⟩ q3
  ·rcases o2 with ⟨ws,p1,p2,p3⟩ | ⟨i',p1,p2,p3⟩
   ·exact absurd ⟨i,xs,q2,q3⟩ p3
   ·have e:=I.nd i i' a xs ys q2 p2 q3 p3
    subst e
    exact qFm nb q1 p1
 ·obtain ⟨j,xs,h1,h2⟩:=ha
  obtain ⟨g,f,o⟩:=own j xs a h1 h2
  refine ⟨g,?_⟩
  rw [Yk]
  ·exact f
  ·rintro ⟨i,us,e1,e2,e3⟩
   rcases o with ⟨ys,q1,q2,q3⟩ | ⟨i',q1,q2,q3⟩
   ·exact q3 ⟨i,us,e1,e2⟩
   ·have e:=I.nd i i' a us xs e1 q2 e2 q3
    subst e
    exact e3 (vM q1)
theorem SI.unfocus {rs:List Rs} {vs:List V} {G' H':Hp} {as:List Sl} (I:SI G F ρ σ H) (oks:ja G F ρ σ H rs vs) (g:qP G G') (I':SI G' (foc H F ρ σ rs) as (vs.map some) H'):SI G' F (wb ρ rs as) σ H':=by
 have hf:=JG (rs:=rs) I
 have at':∀{i j:Nat},rs[j]? = some (.b i)->∃ v,vs[j]? = some v/\σ[i]? = some (some v):=fun {i j} e=>by
  have hj:j<vs.length:=by rw [oks.len]; exact (wR.mp e).1
  obtain ⟨r',q1,q2⟩:=oks.get (wA hj)
  rw [e] at q1
  cases q1
  exact ⟨_,wA hj,q2⟩
 have own:∀(i:Nat) (xs:Pl) (a:Addr),(wb ρ rs as)[i]? = some (.o xs)->σ[i]? = some (some (.ref a))->(∃ j:Nat,rs[j]? = some (Rs.b i)/\as[j]? = some (Sl.o xs)/\(vs.map some)[j]? = some (some (V.ref a)))\/(ρ[i]? = some (.o xs)/\kept ρ σ rs a):=fun i xs a h1 h2=>by
  rcases qDI h1 with ⟨j,e1,e2⟩ | ⟨e1,e2⟩
  ·obtain ⟨v,q1,q2⟩:=at' e1
   rw [h2] at q2
   cases q2
   refine .inl ⟨j,e1,e2.resolve_right (fun z=>nomatch z),by rw [wQ,q1]; rfl⟩
  ·exact .inr ⟨e1,i,xs,e1,h2,e2 ⟨xs,rfl⟩⟩
 have keptH:∀ a,kept ρ σ rs a->∃ ws,H a=some ws/\foc H F ρ σ rs a=some ws:=fun a k=>by
  obtain ⟨i,xs,e1,e2,e3⟩:=k
  obtain ⟨o,q1,b,ws,z,q2,q3⟩:=I.ok i _ e1
  rw [e2] at q1
  cases q1
  cases z
  exact ⟨ws,q2,by rw [JM ⟨i,xs,e1,e2,e3⟩]; exact q2⟩
 refine ⟨fun i s e=>?_,I'.g,fun b o e=>I'.f _ _ (hf _ _ e),fun b o e=>I'.gf _ _ (hf _ _ e),fun i k a xs ys h1 h2 h3 h4=>?_,fun a ha=>?_,fun b xs e=>I'.ft b xs (hf _ _ e)⟩
 ·rcases qDI e with ⟨j,e1,e2⟩ | ⟨e1,e2⟩
  ·obtain ⟨v,q1,q2⟩:=at' e1
   refine ⟨_,q2,?_⟩
   rcases e2 with e2 | rfl
   ·obtain ⟨o,p1,p2⟩:=I'.ok j s e2
    rw [wQ,q1] at p1
    cases p1
    exact p2
   ·trivial
  ·obtain ⟨o,p1,p2⟩:=I.ok i s e1
   refine ⟨o,p1,p2.up g fun xs a ws z1 z2 z3=>?_⟩
   subst z1 z2
   obtain ⟨ws',k1,k2⟩:=keptH a ⟨i,xs,e1,p1,e2 ⟨xs,rfl⟩⟩
   rw [z3] at k1
   cases k1
   exact I'.f _ _ k2
 ·rcases own i xs a h1 h3 with ⟨j1,p1,p2,p3⟩ | ⟨p1,p2⟩
  ·rcases own k ys a h2 h4 with ⟨j2,q1,q2,q3⟩ | ⟨q1,q2⟩
   ·have e:=I'.nd j1 j2 a xs ys p2 q2 p3 q3
    subst e
    rw [p1] at q1
    cases q1
    rfl
   ·obtain ⟨ws,k1,k2⟩:=keptH a q2
    rw [(I'.out a ⟨j1,xs,p2,p3⟩).2] at k2
    cases k2
  ·rcases own k ys a h2 h4 with ⟨j2,q1,q2,q3⟩ | ⟨q1,q2⟩
   ·obtain ⟨ws,k1,k2⟩:=keptH a p2
    rw [(I'.out a ⟨j2,ys,q2,q3⟩).2] at k2
    cases k2
   ·exact I.nd i k a xs ys p1 q1 h3 h4
 ·obtain ⟨i,xs,h1,h2⟩:=ha
  rcases own i xs a h1 h2 with ⟨j1,p1,p2,p3⟩ | ⟨p1,p2⟩
  ·have o:=I'.out a ⟨j1,xs,p2,p3⟩
   exact ⟨o.1,hf.free o.2⟩
  ·obtain ⟨ws,k1,k2⟩:=keptH a p2
   exact ⟨I'.gf _ _ k2,(I.out a ⟨i,xs,p1,h2⟩).2⟩
theorem jQ.unfocus {rs:List Rs} {vs:List V} {G' H':Hp} {as:List Sl} {r:Rs} {v:V} {d:D} (I:SI G F ρ σ H) (oks:ja G F ρ σ H rs vs) (hr:r.it=some d) (ok:jQ G' (foc H F ρ σ rs) as (vs.map some) H' r v):jQ G' F (wb ρ rs as) σ H' r v:=by
 have hf:=JG (rs:=rs) I
 cases r with
 | d x=>exact ok
 | b i=>cases hr
 | raw w=>cases hr
 | o xs=>
  obtain ⟨a,ws,rfl,h1,h2,h3,h4,h5⟩:=ok
  refine ⟨a,ws,rfl,h1,h2,h3,hf.free h4,?_⟩
  rintro ⟨i,ys,e1,e2⟩
  rcases qDI e1 with ⟨j,q1,q2⟩ | ⟨q1,q2⟩
  ·have hj:j<vs.length:=by rw [oks.len]; exact (wR.mp q1).1
   obtain ⟨r',p1,p2⟩:=oks.get (wA hj)
   rw [q1] at p1
   cases p1
   have p2':σ[i]? = some (some vs[j]):=p2
   rw [e2] at p2'
   refine h5 ⟨j,ys,q2.resolve_right (fun z=>nomatch z),?_⟩
   rw [wQ,wA hj,<- zS p2']
   rfl
  ·obtain ⟨o,p1,b,ws',z,p2,p3⟩:=I.ok i _ q1
   rw [e2] at p1
   cases p1
   cases z
   rw [JM ⟨i,ys,q1,e2,q2 ⟨ys,rfl⟩⟩,p2] at h4
   cases h4
end
noncomputable abbrev PV:=List Sl->(Rs->List Sl->Prop)->Prop
noncomputable def spV (P:PV):Sp:=fun vs H Q _=>∃ as Φ G F,P as Φ/\as.length=vs.length/\SI G F as (vs.map some) H/\Fin G F (vs.map some) Φ Q
theorem jP {P:PV} {E:XK} {t:TA} {ρ:List Sl} {Φ:Rs->List Sl->Prop} (h:wpA t ρ fun rs ρ1=>(isB rs).Nodup/\P (rs.map (qHo ρ1)) fun r as=>(∃ d,r.it=some d)/\Φ r (wb ρ1 rs as)):wpV (qG9 (spV P) [] E t) ρ Φ:=by
 intro G F σ H I Q q
 refine h G F σ H I _ fun G1 H1 vs rs ρ1 ⟨nb,h1⟩ g1 I1 oks=>?_
 show spV P (vs++[]) H1 Q E
 rw [zK]
 refine ⟨_,_,G1,_,h1,by rw [wC,oks.len],I1.focus oks nb,?_⟩
 intro G2 H2 v r as ⟨⟨d,ed⟩,h2⟩ g2 I2 ok
 exact q G2 H2 v r _ h2 (g1.trans g2) (I1.unfocus oks g2 I2) (jQ.unfocus I1 oks ed ok)
noncomputable def sel (c:Nat) (B:List Nat) (n:Nat) (ρ:List Sl):List Sl:=(wV n).map fun j=>if B.contains (c+j) then (ρ[c+j]?).getD .u else .u
theorem qCI {c:Nat} {B:List Nat} {n:Nat} {ρ:List Sl} {j:Nat} {s:Sl} (h:(sel c B n ρ)[j]? = some s):j<n/\(s=.u\/(c+j∈B/\ρ[c+j]? = some s)):=by
 unfold sel at h
 rw [wQ] at h
 by_cases z:j<n
 ·rw [WL z] at h
  refine ⟨z,?_⟩
  have h':(if B.contains (c+j)=true then (ρ[c+j]?).getD .u else .u)=s:=zS h
  by_cases q:B.contains (c+j)=true
  ·rw [if_pos q] at h'
   rw [kQ,decide_eq_true_iff] at q
   cases e:ρ[c+j]? with
   | none=>rw [e] at h'; exact .inl h'.symm
   | some s'=>
    rw [e] at h'
    have h2:s'=s:=h'
    subst h2
    exact .inr ⟨q,rfl⟩
  ·rw [if_neg q] at h'; exact .inl h'.symm
 ·rw [zV (zM (xB zT) (by omega))] at h
  cases h
theorem SI.sel {G F H:Hp} {ρ:List Sl} {σ σ0:St} {c n:Nat} {B:List Nat} {vs:List V} (I:SI G F ρ σ H) (k:Kp B σ0 σ) (h0:∀ j v,vs[j]? = some v->σ0[c+j]? = some (some v)) (hn:n<=vs.length):SI G F (sel c B n ρ) (vs.map some) H:=by
 have own:∀(j:Nat) (xs:Pl) (a:Addr),(L4.sel c B n ρ)[j]? = some (.o xs)->(vs.map some)[j]? = some (some (.ref a))->ρ[c+j]? = some (.o xs)/\σ[c+j]? = some (some (.ref a)):=fun j xs a h1 h2=>by
  obtain ⟨z,q⟩:=qCI h1
  obtain ⟨m,q⟩:=q.resolve_left fun z=>by cases z
  refine ⟨q,?_⟩
  rw [k _ m]
  rw [wQ] at h2
  cases e:vs[j]? with
  | none=>rw [e] at h2; cases h2
  | some v=>rw [e] at h2; cases h2; exact h0 j _ e
 refine ⟨fun j s e=>?_,I.g,I.f,I.gf,fun i j a xs ys h1 h2 h3 h4=>?_,fun a ⟨j,xs,h1,h2⟩=>?_,I.ft⟩
 ·obtain ⟨z,q⟩:=qCI e
  have hj:j<vs.length:=by omega
  refine ⟨some vs[j],by rw [wQ,wA hj]; rfl,?_⟩
  rcases q with rfl | ⟨m,q⟩
  ·trivial
  ·obtain ⟨o,e1,e2⟩:=I.ok _ s q
   rw [k _ m,h0 j _ (wA hj)] at e1
   cases e1
   exact e2
 ·obtain ⟨p1,p2⟩:=own i xs a h1 h3
  obtain ⟨q1,q2⟩:=own j ys a h2 h4
  have:=I.nd _ _ a xs ys p1 q1 p2 q2
  omega
 ·obtain ⟨p1,p2⟩:=own j xs a h1 h2
  exact I.out a ⟨_,xs,p1,p2⟩
theorem jQ.sel {G F H:Hp} {ρ:List Sl} {σ σ0:St} {c n:Nat} {B:List Nat} {vs:List V} {r:Rs} {v:V} {d:D} (hr:r.it=some d) (ok:jQ G F ρ σ H r v) (k:Kp B σ0 σ) (h0:∀ j v,vs[j]? = some v->σ0[c+j]? = some (some v)):jQ G F (sel c B n ρ) (vs.map some) H r v:=by
 cases r with
 | d x=>exact ok
 | b i=>cases hr
 | raw w=>cases hr
 | o xs=>
  obtain ⟨a,ws,rfl,h1,h2,h3,h4,h5⟩:=ok
  refine ⟨a,ws,rfl,h1,h2,h3,h4,?_⟩
  rintro ⟨j,ys,e1,e2⟩
  obtain ⟨z,q⟩:=qCI e1
  obtain ⟨m,q⟩:=q.resolve_left fun z=>by cases z
  refine h5 ⟨_,ys,q,?_⟩
  rw [k _ m]
  rw [wQ] at e2
  cases e:vs[j]? with
  | none=>rw [e] at e2; cases e2
  | some v=>rw [e] at e2; cases e2; exact h0 j _ e
theorem SI.ext {G F H:Hp} {as:List Sl} {vs:List V} (I:SI G F as (vs.map some) H) (c k:Nat) (hl:as.length=vs.length):SI G F (wN c .u++(as++wN k .u)) (wN c none++(vs.map some++wN k none)) H:=by
 have get:∀(i:Nat) (s:Sl),(wN c Sl.u++(as++wN k Sl.u))[i]? = some s->(s=.u/\i<c+as.length+k)\/(c<=i/\i - c<as.length/\as[i - c]? = some s):=fun i s e=>by
  by_cases z:i<c
  ·rw [yL (by rw [zN]; exact z),uZ,if_pos z] at e
   exact .inl ⟨(zS e).symm,by omega⟩
  ·rw [zU (by rw [zN]; omega),zN] at e
   by_cases q:i - c<as.length
   ·rw [yL q] at e
    exact .inr ⟨by omega,q,e⟩
   ·rw [zU (by omega),uZ] at e
    by_cases y:i - c - as.length<k
    ·rw [if_pos y] at e; exact .inl ⟨(zS e).symm,by omega⟩
    ·rw [if_neg y] at e; cases e
 have st:∀ i,c<=i->i - c<as.length->(wN c none++(vs.map some++wN k none))[i]? = (vs.map some)[i - c]?:=fun i h1 h2=>by
  rw [zU (by rw [zN]; exact h1),zN,yL (by rw [wC]; omega)]
 have own:∀(i:Nat) (xs:Pl),(wN c Sl.u++(as++wN k Sl.u))[i]? = some (.o xs)->c<=i/\i - c<as.length/\as[i - c]? = some (.o xs):=fun i xs e=>(get i _ e).resolve_left fun z=>by cases z.1
 refine ⟨fun i s e=>?_,I.g,I.f,I.gf,fun i j a xs ys h1 h2 h3 h4=>?_,fun a ⟨i,xs,h1,h2⟩=>?_,I.ft⟩
 ·rcases get i s e with ⟨rfl,z⟩ | ⟨z1,z2,z3⟩
  ·have hl2:(wN c none++(vs.map some++wN k none)).length=c+vs.length+k:=by
    rw [wO,wO,zN,zN,wC]; omega
   have hi:i<(wN c none++(vs.map some++wN k none)).length:=by rw [hl2,<- hl]; exact z
   exact ⟨_,wA hi,trivial⟩
  ·obtain ⟨o,e1,e2⟩:=I.ok _ s z3
   exact ⟨o,by rw [st i z1 z2]; exact e1,e2⟩
 ·obtain ⟨p1,p2,p3⟩:=own i xs h1
  obtain ⟨q1,q2,q3⟩:=own j ys h2
  rw [st i p1 p2] at h3
  rw [st j q1 q2] at h4
  have:=I.nd _ _ a xs ys p3 q3 h3 h4
  omega
 ·obtain ⟨p1,p2,p3⟩:=own i xs h1
  rw [st i p1 p2] at h2
  exact I.out a ⟨_,xs,p3,h2⟩
theorem jr {P:Program} {w:World} {K:wK} {mg:Str->Option Value} {base:Heap} {x qual:Str} {st:Stmt} {f:Addr} {fd:FuncData} {N ps:List Str} {k:Nat} {pv:PV} (F:Fun K x qual st f fd) (S:qW N ps (qG st)) (B:List Nat)
  (len:∀ as Φ,pv as Φ->as.length=ps.length)
  (hbody:∀(cdv:Value) (A:Around) (outer:List Env) (s:Shared) (H:Hp) (E:XK),Y3 k (A.deeper (PyProof.Rows.envOfC qual (qG st) s.heap.objs.size f cdv))->
   ∃ t,PSs (qIO CX0 P w K mg base N qual (qG st) f cdv A outer s H E).nox (j5 st) t/\
    ∀ as Φ,pv as Φ->wpS B t (as++wN (N.length - ps.length) .u) { nx:=fun ρ=>Φ (.d .non) (sel 0 B ps.length ρ),rt:=fun r ρ=>(∃ d,r.it=some d)/\Φ r (sel 0 B ps.length ρ) }) :
  Qg P w K mg base CX0 (k+1) f fd ps (spV pv):=by
 have len':∀ vs H Q E,spV pv vs H Q E->vs.length=ps.length:=fun vs H Q E h=>by
  obtain ⟨as,Φ,G,F,p,l,_⟩:=h
  rw [<- l]; exact len as Φ p
 refine F.ok S len' fun cdv A outer s H vs Q E hr h=>?_
 obtain ⟨t,ht,hw⟩:=hbody cdv A outer s H E hr
 refine ⟨t,ht,?_⟩
 have hl:=len' vs H Q E h
 obtain ⟨as,Φ,G,F',p,l,I,q⟩:=h
 have I0:=I.ext 0 (N.length - ps.length) l
 rw [yW,yW,uA,uA] at I0
 have es:L2.start N vs=vs.map some++wN (N.length - ps.length) none:=by unfold L2.start; rw [hl]
 have h0:∀ j v,vs[j]? = some v->(vs.map some++wN (N.length - ps.length) none)[0+j]? = some (some v):=fun j v e=>by
  rw [kT,yL (by rw [wC]; exact (wR.mp e).1),wQ,e]
  rfl
 rw [es]
 refine hw as Φ p G F' _ H I0 _ ?_ ?_ ?_ ?_
 ·intro G1 σ1 H1 ρ1 h1 g1 k1 I1
  exact q G1 H1 .non (.d .non) _ h1 g1 (I1.sel k1 h0 (xB hl.symm)) rfl
 ·intro G1 σ1 H1 ρ1 r v ⟨⟨d,ed⟩,h1⟩ g1 k1 I1 ok
  exact q G1 H1 v r _ h1 g1 (I1.sel k1 h0 (xB hl.symm)) (jQ.sel ed ok k1 h0)
 ·intro G1 σ1 H1 ρ1 h1
  exact h1.elim
 ·intro G1 σ1 H1 ρ1 h1
  exact h1.elim
noncomputable def Src (J:It) (G F:Hp) (xs:List D):Prop:=∀(i:Nat) (G' H':Hp),qP G G'->qP G' H'->qP F H'->
 (i<xs.length->J.go i H'/\∀ x H2,J.yld i H' x H2->∃ d,xs[i]? = some d/\((H2=H'/\Den G' d x)\/∃ p o,H' p=none/\H2=upd H' p o/\Den (upd G' p o) d x))/\(i=xs.length->J.stop i H')
noncomputable def wpI (wi:TI) (ρ:List Sl) (Φ:List D->List Sl->Prop):Prop:=∀ G F σ H,SI G F ρ σ H->∀ R:It->Hp->Prop,(∀ G' H' J xs ρ',Φ xs ρ'->qP G G'->SI G' F ρ' σ H'->Src J G' F xs->R J H')->wi σ H R
section
variable {ρ:List Sl} {Φ:List D->List Sl->Prop} {K:wK}
noncomputable def qIn (lo:Int) (n:Nat):List D:=(wV n).map fun k:Nat=>D.int (lo+k)
theorem jF (lo:Int) (n:Nat):(qIn lo n).length=n:=by unfold qIn; rw [wC,zT]
theorem Qc {lo:Int} {n k:Nat} (h:k<n):(qIn lo n)[k]? = some (.int (lo+k)):=by unfold qIn; rw [wQ,WL h]; rfl
theorem src_range (lo:Int) (n:Nat) (G F:Hp):Src (Itr lo n) G F (qIn lo n):=by
 intro i G' H' _ _ _
 rw [jF]
 refine ⟨fun hi=>⟨hi,fun x H2 y=>?_⟩,fun hi=>xB hi.symm⟩
 obtain ⟨e,y⟩:=y
 subst e y
 exact ⟨_,Qc hi,.inl ⟨rfl,rfl⟩⟩
theorem qHv {ta:TA} (h:wpA ta ρ fun rs ρ1=>∃ j:Int,(∃ r,rs=[r]/\rd ρ1 r=some (.int j))/\-(2 ^ 62)<=j/\j<2 ^ 62/\Φ (qIn 0 j.toNat) ρ1):wpI (qKc ta) ρ Φ:=by
 intro G F σ H I R q
 refine h G F σ H I _ fun G1 H1 vs rs ρ1 ⟨j,⟨x,er,ex⟩,l1,l2,h1⟩ g1 I1 oks=>?_
 subst er
 obtain ⟨v,rfl,ok⟩:=Qq oks
 cases qX I1 ok ex
 exact ⟨j,rfl,l1,l2,q G1 H1 _ _ ρ1 h1 g1 I1 (src_range _ _ _ _)⟩
theorem qNr {ta:TA} (h:wpA ta ρ fun rs ρ1=>∃ i j:Int,(∃ r r',rs=[r,r']/\rd ρ1 r=some (.int i)/\rd ρ1 r'=some (.int j))/\(-(2 ^ 62)<=i/\i<2 ^ 62/\-(2 ^ 62)<=j/\j<2 ^ 62)/\Φ (qIn i (j - i).toNat) ρ1):wpI (qLK ta) ρ Φ:=by
 intro G F σ H I R q
 refine h G F σ H I _ fun G1 H1 vs rs ρ1 ⟨i,j,⟨x,x',er,ex,ex'⟩,l1,h1⟩ g1 I1 oks=>?_
 subst er
 obtain ⟨v,v',rfl,ok,ok'⟩:=Jj oks
 cases qX I1 ok ex
 cases qX I1 ok' ex'
 exact ⟨i,j,rfl,l1,q G1 H1 _ _ ρ1 h1 g1 I1 (src_range _ _ _ _)⟩
theorem qFB {a:Addr} {ws:List V} {xs:List D} {G F:Hp} (h1:G a=some (.tup ws)) (h2:qV G xs ws):Src (Itt K a) G F xs:=by
 intro i G' H' g gh _
 have st:SqT K H' a ws:=SqT.of (gh _ _ (g _ _ h1))
 have hl:=h2.length
 refine ⟨fun hi=>?_,fun hi=>⟨ws,st,by omega⟩⟩
 have hi2:i<ws.length:=by omega
 refine ⟨⟨ws,ws[i],st,wA hi2⟩,fun x H2 y=>?_⟩
 obtain ⟨e,y⟩:=y
 subst e
 obtain ⟨d,e1,e2⟩:=h2.get (y ws st)
 exact ⟨d,e1,.inl ⟨rfl,Den.mono g _ _ e2⟩⟩
theorem qCH {a:Addr} {ws:List V} {xs:List D} {G F:Hp} (h1:∀ G' H',qP G G'->qP G' H'->qP F H'->SqL K H' a ws) (h2:qV G xs ws):Src (Itl K a) G F xs:=by
 intro i G' H' g gh gf
 have st:SqL K H' a ws:=h1 G' H' g gh gf
 have hl:=h2.length
 refine ⟨fun hi=>?_,fun hi=>⟨ws,st,by omega⟩⟩
 have hi2:i<ws.length:=by omega
 refine ⟨⟨ws,ws[i],st,wA hi2⟩,fun x H2 y=>?_⟩
 obtain ⟨e,y⟩:=y
 subst e
 obtain ⟨d,e1,e2⟩:=h2.get (y ws st)
 exact ⟨d,e1,.inl ⟨rfl,Den.mono g _ _ e2⟩⟩
theorem Yt {tl:TE} (h:wpV tl ρ fun r ρ1=>∃ d xs,r.it=some d/\sq d=some xs/\Φ xs ρ1):wpI (qKL K tl) ρ Φ:=by
 intro G F σ H I R q
 refine h G F σ H I _ fun G0 H1 v x ρ1 ⟨d,xs,e1,e2,h1⟩ g0 I0 ok=>?_
 obtain ⟨G1,g1',I1,dn⟩:=qGk I0 ok e1
 have g1:=g0.trans g1'
 cases d with
 | tup l=>
  cases e2
  obtain ⟨a,ws,rfl,k1,k2⟩:=dn
  exact ⟨a,rfl,.inr ⟨⟨ws,SqT.of (I1.g _ _ k1)⟩,q G1 H1 _ _ ρ1 h1 g1 I1 (qFB k1 k2)⟩⟩
 | lst l=>
  cases e2
  obtain ⟨a,ws,rfl,k1,k2⟩:=dn
  exact ⟨a,rfl,.inl ⟨⟨ws,SqL.of (I1.g _ _ k1)⟩,q G1 H1 _ _ ρ1 h1 g1 I1 (qCH (fun G' H' g gh _=>SqL.of (gh _ _ (g _ _ k1))) k2)⟩⟩
 | non=>cases e2
 | bl _=>cases e2
 | int _=>cases e2
 | str _=>cases e2
 | dic=>cases e2
end
theorem qCX {B:List Nat} {ρ:List Sl} {Ψ:VE} {wi:TI} {g:TG} {tb:TS} (h:wpI wi ρ fun xs ρ1=>∃ Jv:Nat->List Sl->Prop,Jv 0 ρ1/\
  (∀ k x ρ,xs[k]? = some x->Jv k ρ->wpG B g (.d x) ρ fun ρ2=>wpS B tb ρ2 { nx:=Jv (k+1),ct:=Jv (k+1),bk:=Ψ.nx,rt:=Ψ.rt })/\∀ ρ,Jv xs.length ρ->Ψ.nx ρ):wpS B (qL5 wi g tb) ρ Ψ:=by
 intro G F σ H I D n r b ct
 refine h G F σ H I _ fun G1 H1 J xs ρ1 ⟨Jv,i0,st,en⟩ g1 I1 S=>?_
 refine ⟨fun i m σ' H'=>m=xs.length - i/\i<=xs.length/\∃ G' ρ',Jv i ρ'/\qP G1 G'/\Kp B σ σ'/\SI G' F ρ' σ' H',⟨xs.length,by simp,yN _,G1,ρ1,i0,qP.refl _,Kp.refl _ _,I1⟩,?_⟩
 rintro i m σ2 H2 ⟨rfl,hi,G2,ρ2,p2,g2,k2,I2⟩
 obtain ⟨s1,s2⟩:=S i G2 H2 g2 I2.g I2.f
 by_cases hlt:i<xs.length
 ·obtain ⟨go,yl⟩:=s1 hlt
  refine .inr ⟨go,fun σ' H'=>∃ G' ρ',Jv (i+1) ρ'/\qP G1 G'/\Kp B σ σ'/\SI G' F ρ' σ' H',fun σ' H' p'=>⟨xs.length - (i+1),by omega,rfl,hlt,p'⟩,fun x H' y=>?_⟩
  obtain ⟨d,ed,yy⟩:=yl x H' y
  have fin:∀ G3,qP G2 G3->SI G3 F ρ2 σ2 H'->Den G3 d x->g x σ2 H' fun σ3 H3=>tb { D with nx:=fun σ' H'=>∃ G' ρ',Jv (i+1) ρ'/\qP G1 G'/\Kp B σ σ'/\SI G' F ρ' σ' H',ct:=fun σ' H'=>∃ G' ρ',Jv (i+1) ρ'/\qP G1 G'/\Kp B σ σ'/\SI G' F ρ' σ' H',bk:=D.nx } σ3 H3:=fun G3 g3 I3 dn=>by
   refine st i d ρ2 ed p2 G3 F σ2 _ x I3 dn _ ?_
   intro G4 σ4 H4 ρ4 h4 g4 k4 I4
   have gg:=(g2.trans g3).trans g4
   refine h4 G4 F σ4 H4 I4 _ ?_ (r.at (g1.trans gg) (k2.trans k4)) ?_ ?_
   ·exact fun G5 σ5 H5 ρ5 p5 g5 k5 I5=>⟨G5,ρ5,p5,gg.trans g5,(k2.trans k4).trans k5,I5⟩
   ·exact n.at (g1.trans gg) (k2.trans k4)
   ·exact fun G5 σ5 H5 ρ5 p5 g5 k5 I5=>⟨G5,ρ5,p5,gg.trans g5,(k2.trans k4).trans k5,I5⟩
  rcases yy with ⟨e,dn⟩ | ⟨p,o,hp,e,dn⟩
  ·subst e
   exact fin G2 (qP.refl _) I2 dn
  ·subst e
   obtain ⟨I3,g3⟩:=I2.newG (o:=o) hp
   exact fin _ g3 I3 dn
 ·have e:i=xs.length:=by omega
  subst e
  exact .inl ⟨s2 rfl,n G2 σ2 H2 ρ2 (en ρ2 p2) (g1.trans g2) k2 I2⟩
noncomputable def Qe (fr:List (Str×Nat)):List Rs:=fr.map fun p=>Rs.b p.2
noncomputable def known (ρ:List Sl) (fr:List (Str×Nat)):Prop:=∀ p∈fr,∃ s,ρ[p.2]? = some s/\s≠.u
theorem qAv {G F H:Hp} {ρ:List Sl} {σ:St} (I:SI G F ρ σ H):∀{fr:List (Str×Nat)},known ρ fr->∃ vs:List V,ja G F ρ σ H (Qe fr) vs/\(fr.map fun p=>(σ[p.2]?).join)=vs.map some
 | [],_=>⟨[],rfl,rfl⟩
 | p::fr,h=>by
  obtain ⟨vs,h1,h2⟩:=qAv I (fr:=fr) fun q hq=>h q (wJ _ hq)
  obtain ⟨s,e,ne⟩:=h p wD
  obtain ⟨o,e1,e2⟩:=I.ok _ s e
  have:∃ v,o=some v:=by
   cases s with
   | u=>exact absurd rfl ne
   | d x=>obtain ⟨v,z,_⟩:=e2; exact ⟨v,z⟩
   | o x=>obtain ⟨a,_,z,_⟩:=e2; exact ⟨_,z⟩
   | f _ x=>obtain ⟨a,_,z,_⟩:=e2; exact ⟨_,z⟩
  obtain ⟨v,rfl⟩:=this
  refine ⟨v::vs,⟨v,vs,rfl,e1,h1⟩,?_⟩
  rw [xH,xH,h2,e1]
  rfl
noncomputable def inner (own:List Str) (fr:List (Str×Nat)) (ρ:List Sl):List Sl:=wN own.length .u++fr.map fun p=>(ρ[p.2]?).getD .u
noncomputable def bnd (own:List Str) (fr:List (Str×Nat)):List Nat:=(wV fr.length).map (own.length + ·)
noncomputable def outer (own:List Str) (fr:List (Str×Nat)) (ρ ρc:List Sl):List Sl:=wb ρ (Qe fr) (ρc.drop own.length)
theorem qA1 {c n:Nat} {ρ:List Sl} (h:ρ.length=c+n):sel c ((wV n).map (c + ·)) n ρ=ρ.drop c:=by
 apply uN
 intro j
 unfold sel
 rw [wQ,WX]
 by_cases z:j<n
 ·rw [WL z]
  have m:((wV n).map (c + ·)).contains (c+j)=true:=by
   rw [kQ,decide_eq_true_iff]
   exact zF.mpr ⟨j,zO.mpr z,rfl⟩
  show some (if ((wV n).map (c + ·)).contains (c+j)=true then (ρ[c+j]?).getD .u else .u)=_
  rw [if_pos m]
  have:c+j<ρ.length:=by omega
  rw [wA this]
  rfl
 ·rw [zV (zM (xB zT) (by omega)),zV (by omega)]
  rfl
theorem qBf {own:List Str} {fr:List (Str×Nat)} {J:It} {g:TG} {tt:TT} {te:TE} {ρ:List Sl} {Φ:Rs->List Sl->Prop} {G F H:Hp} {σ:St} {Q:VK} {xs:List D} (I:SI G F ρ σ H) (kn:known ρ fr) (nd:(isB (Qe fr)).Nodup)
  (S:Src J G (foc H F ρ σ (Qe fr)) xs) (Jv:Nat->List D->List Sl->Prop) (j0:Jv 0 [] (inner own fr ρ)) (jl:∀ k ys ρc,Jv k ys ρc->ys.length<sizeLine/\ρc.length=own.length+fr.length)
  (st:∀ k x ys ρc,xs[k]? = some x->Jv k ys ρc->wpG (bnd own fr) g (.d x) ρc fun ρ2=>wpT tt ρ2 fun b ρ3=>if b=true then wpV te ρ3 fun r ρ4=>∃ d,r.it=some d/\Jv (k+1) (ys++[d]) ρ4 else Jv (k+1) ys ρ3)
  (en:∀ ys ρc,Jv xs.length ys ρc->Φ (.l ys) (outer own fr ρ ρc)) (q:Fin G F σ Φ Q) (A:Addr) (hA:H A=none):qA4 J g tt te (qd own fr σ) H A fun H2=>Q (.ref A) H2:=by
 obtain ⟨vs,oks,ev⟩:=qAv I kn
 have I1:=I.focus oks nd
 have lv:vs.length=fr.length:=by rw [oks.len]; unfold Qe; rw [wC]
 have as_eq:(Qe fr).map (qHo ρ)=fr.map fun p=>(ρ[p.2]?).getD .u:=by unfold Qe; rw [zW]; rfl
 rw [as_eq] at I1
 have I2:=I1.ext own.length 0 (by rw [wC,lv])
 have e1:(wN own.length Sl.u++((fr.map fun p=>(ρ[p.2]?).getD .u)++wN 0 Sl.u))=inner own fr ρ:=by unfold inner; rw [yW,zK]
 have e2:(wN own.length none++(vs.map some++wN 0 none))=qd own fr σ:=by
  unfold qd
  rw [yW,zK,ev]
  congr 1
  rw [UN]
 rw [e1,e2] at I2
 generalize hF2:foc H F ρ σ (Qe fr)=F2 at S I1 I2
 have FA:F2 A=none:=I1.f.free hA
 have h0:∀(j:Nat) (v:V),vs[j]? = some v->(qd own fr σ)[own.length+j]? = some (some v):=fun j v e=>by
  rw [<- e2,zU (by rw [zN]; omega),zN,xF,yW,zK,wQ,e]
  rfl
 have fr1:∀ ys,qP F2 (upd F2 A (.lst ys)):=fun ys=>qP.new FA
 refine ⟨fun i m ys σ' H'=>m=xs.length - i/\i<=xs.length/\∃ G' ds ρc,Jv i ds ρc/\qP G G'/\Kp (bnd own fr) (qd own fr σ) σ'/\SI G' (upd F2 A (.lst ys)) ρc σ' H'/\qV G' ds ys,⟨xs.length,by simp,yN _,G,[],_,j0,qP.refl _,Kp.refl _ _,?_,rfl⟩,?_⟩
 ·have I3:=I2.new (o:=.lst []) hA
  refine ⟨I3.ok,I3.g,fun b o e=>?_,fun b o e=>?_,I3.nd,fun b hb=>⟨(I3.out b hb).1,?_⟩,fun b us e=>?ft⟩
  case ft=>
   by_cases z:b=A
   ·rw [z,qH] at e
    cases e
   ·rw [qJ z] at e
    exact I3.ft b us e
  ·by_cases z:b=A
   ·subst z; rw [qH] at e ⊢; exact e
   ·rw [qJ z] at e; exact I3.f _ _ e
  ·by_cases z:b=A
   ·subst z; exact I2.g.free hA
   ·rw [qJ z] at e; exact I3.gf _ _ e
  ·have nb:b≠A:=fun z=>by
    subst z
    obtain ⟨i,zs,q1,q2⟩:=hb
    obtain ⟨o,p1,a,ws,z,p2,p3⟩:=I2.ok i _ q1
    rw [q2] at p1
    cases p1
    cases z
    rw [hA] at p2
    cases p2
   rw [qJ nb]
   exact (I3.out b hb).2
 ·rintro i m ys σ2 H2 ⟨rfl,hi,G2,ds,ρ2,p2,g2,k2,I4,dn⟩
  have hHA:H2 A=some (.lst ys):=I4.f _ _ qH
  have lds:=dn.length
  obtain ⟨jl1,jl2⟩:=jl i ds ρ2 p2
  refine ⟨hHA,?_⟩
  obtain ⟨s1,s2⟩:=S i G2 H2 g2 I4.g ((fr1 ys).trans I4.f)
  by_cases hlt:i<xs.length
  ·obtain ⟨go,yl⟩:=s1 hlt
   refine .inr ⟨go,by rw [lds]; exact jl1,fun ys' σ' H'=>∃ G' ds ρc,Jv (i+1) ds ρc/\qP G G'/\Kp (bnd own fr) (qd own fr σ) σ'/\SI G' (upd F2 A (.lst ys')) ρc σ' H'/\qV G' ds ys',fun ys' σ' H' p'=>⟨xs.length - (i+1),by omega,rfl,hlt,p'⟩,fun x H' y=>?_⟩
   obtain ⟨d,ed,yy⟩:=yl x H' y
   have fin:∀ G3,qP G2 G3->SI G3 (upd F2 A (.lst ys)) ρ2 σ2 H'->Den G3 d x->g x σ2 H' fun σ4 H4=>tt σ4 H4 fun b H5=>if b=true then te σ4 H5 fun y H6=>H6 A=some (.lst ys)/\∃ G' ds ρc,Jv (i+1) ds ρc/\qP G G'/\Kp (bnd own fr) (qd own fr σ) σ4/\SI G' (upd F2 A (.lst (ys++[y]))) ρc σ4 (upd H6 A (.lst (ys++[y])))/\qV G' ds (ys++[y])
     else ∃ G' ds ρc,Jv (i+1) ds ρc/\qP G G'/\Kp (bnd own fr) (qd own fr σ) σ4/\SI G' (upd F2 A (.lst ys)) ρc σ4 H5/\qV G' ds ys:=fun G3 g3 I3 dx=>by
    refine st i d ds ρ2 ed p2 G3 (upd F2 A (.lst ys)) σ2 H' x I3 dx _ ?_
    intro G4 σ4 H4 ρ4 h4 g4 k4 I5
    refine h4 G4 _ σ4 H4 I5 _ fun G5 H5 b ρ5 h5 g5 I6=>?_
    have gg:=((g2.trans g3).trans g4).trans g5
    cases b with
    | false=>
     rw [if_neg wU] at h5 ⊢
     exact ⟨G5,ds,ρ5,h5,gg,k2.trans k4,I6,qV.mono ((g3.trans g4).trans g5) _ _ dn⟩
    | true=>
     rw [if_pos rfl] at h5 ⊢
     refine h5 G5 _ σ4 H5 I6 _ fun G6 H6 y r ρ6 ⟨d',ed',h6⟩ g6 I7 ok=>?_
     obtain ⟨G7,g7,I8,dy⟩:=qGk I7 ok ed'
     have hA6:H6 A=some (.lst ys):=I8.f _ _ qH
     refine ⟨hA6,G7,ds++[d'],ρ6,h6,(gg.trans g6).trans g7,k2.trans k4,?_,qV.snoc (qV.mono (((g3.trans g4).trans g5).trans (g6.trans g7)) _ _ dn) dy⟩
     have gA:G7 A=none:=I8.gf _ _ qH
     have oA:∀ b,qKn ρ6 σ4 b->b≠A:=fun b hb z=>by
      subst z
      have:=(I8.out b hb).2
      rw [qH] at this
      cases this
     refine ⟨fun j s e=>?_,fun b o e=>?_,fun b o e=>?_,fun b o e=>?_,I8.nd,fun b hb=>?_,fun b us e=>?ft⟩
     case ft=>
      by_cases z:b=A
      ·rw [z,qH] at e
       cases e
      ·rw [qJ z] at e
       exact I8.ft b us (by rw [qJ z]; exact e)
     ·obtain ⟨o,q1,q2⟩:=I8.ok j s e
      refine ⟨o,q1,q2.up (qP.refl _) fun us a ws z1 z2 z3=>?_⟩
      subst z1 z2
      rw [qJ (oA a ⟨j,us,e,q1⟩)]
      exact z3
     ·rw [qJ]
      ·exact I8.g _ _ e
      ·intro z; subst z; rw [gA] at e; cases e
     ·by_cases z:b=A
      ·subst z; rw [qH] at e ⊢; exact e
      ·rw [qJ z] at e ⊢
       exact I8.f _ _ (by rw [qJ z]; exact e)
     ·by_cases z:b=A
      ·subst z; exact gA
      ·rw [qJ z] at e
       exact I8.gf _ _ (by rw [qJ z]; exact e)
     ·refine ⟨(I8.out b hb).1,?_⟩
      have:=(I8.out b hb).2
      rw [qJ (oA b hb)] at this ⊢
      exact this
   rcases yy with ⟨e,dx⟩ | ⟨p,o,hp,e,dx⟩
   ·subst e
    exact fin G2 (qP.refl _) I4 dx
   ·subst e
    obtain ⟨I3,g3⟩:=I4.newG (o:=o) hp
    exact fin _ g3 I3 dx
  ·have e:i=xs.length:=by omega
   subst e
   refine .inl ⟨s2 rfl,?_⟩
   have gA:G2 A=none:=I4.gf _ _ qH
   have I5:SI G2 F2 ρ2 σ2 H2:=⟨I4.ok,I4.g,(fr1 ys).trans I4.f,fun b o e=>I4.gf _ _ (fr1 ys _ _ e),I4.nd,fun b hb=>⟨(I4.out b hb).1,(fr1 ys).free (I4.out b hb).2⟩,fun b us e=>I4.ft b us (fr1 ys _ _ e)⟩
   have ok5:jQ G2 F2 ρ2 σ2 H2 (.l ds) (.ref A):=⟨A,_,rfl,hHA,⟨ys,rfl,dn⟩,gA,FA,fun hb=>by
    have:=(I4.out A hb).2
    rw [qH] at this
    cases this⟩
   have I6:=I5.sel (n:=fr.length) k2 h0 (xB lv.symm)
   have ok6:=jQ.sel (n:=fr.length) (d:=.lst ds) rfl ok5 k2 h0
   have es:sel own.length (bnd own fr) fr.length ρ2=ρ2.drop own.length:=qA1 jl2
   rw [es,<- hF2] at I6 ok6
   have I7:=I.unfocus oks g2 I6
   have ok7:=jQ.unfocus (d:=.lst ds) I oks rfl ok6
   exact q G2 H2 _ _ _ (en ds ρ2 p2) g2 I7 ok7
theorem qFK {own:List Str} {fr:List (Str×Nat)} {wi:TI} {g:TG} {tt:TT} {te:TE} {ρ:List Sl} {Φ:Rs->List Sl->Prop} (h:wpI wi ρ fun xs ρ1=>known ρ1 fr/\(isB (Qe fr)).Nodup/\∃ Jv:Nat->List D->List Sl->Prop,Jv 0 [] (inner own fr ρ1)/\
  (∀ k ys ρc,Jv k ys ρc->ys.length<sizeLine/\ρc.length=own.length+fr.length)/\
  (∀ k x ys ρc,xs[k]? = some x->Jv k ys ρc->wpG (bnd own fr) g (.d x) ρc fun ρ2=>wpT tt ρ2 fun b ρ3=>if b=true then wpV te ρ3 fun r ρ4=>∃ d,r.it=some d/\Jv (k+1) (ys++[d]) ρ4 else Jv (k+1) ys ρ3)/\
  ∀ ys ρc,Jv xs.length ys ρc->Φ (.l ys) (outer own fr ρ1 ρc)):wpV (qDy own fr wi g tt te) ρ Φ:=by
 intro G F σ H I Q q
 refine h G F σ H I _ fun G1 H1 J xs ρ1 ⟨kn,nd,Jv,j0,jl,st,en⟩ g1 I1 S A hA=>?_
 refine qBf I1 kn nd (fun i G' H' a b c=>S i G' H' a b ((JG I1).trans c)) Jv j0 jl st en (q.at g1 fun _ _ z=>z) A hA
theorem qDW {own:List Str} {fr:List (Str×Nat)} {g:TG} {tt:TT} {te:TE} {ρ:List Sl} {Φ:Rs->List Sl->Prop} {K:wK} {s:Nat} {xs:List D} (hs:ρ[s]? = some (.l xs)) (hn:Rs.b s∉Qe fr) (kn:known ρ fr) (nd:(isB (Qe fr)).Nodup) (Jv:Nat->List D->List Sl->Prop) (j0:Jv 0 [] (inner own fr ρ))
  (jl:∀ k ys ρc,Jv k ys ρc->ys.length<sizeLine/\ρc.length=own.length+fr.length)
  (st:∀ k x ys ρc,xs[k]? = some x->Jv k ys ρc->wpG (bnd own fr) g (.d x) ρc fun ρ2=>wpT tt ρ2 fun b ρ3=>if b=true then wpV te ρ3 fun r ρ4=>∃ d,r.it=some d/\Jv (k+1) (ys++[d]) ρ4 else Jv (k+1) ys ρ3)
  (en:∀ ys ρc,Jv xs.length ys ρc->Φ (.l ys) (outer own fr ρ ρc)):wpV (qDy own fr (qKL K (qIX s)) g tt te) ρ Φ:=by
 intro G F σ H I Q q
 obtain ⟨o,e,a,_,rfl,k1,ws,rfl,k2⟩:=I.ok s _ hs
 have ka:kept ρ σ (Qe fr) a:=⟨s,.li xs,hs,e,hn⟩
 refine ⟨_,e,a,rfl,.inl ⟨⟨ws,SqL.of k1⟩,fun A hA=>?_⟩⟩
 refine qBf I kn nd (qCH (fun G' H' _ _ c=>SqL.of (c a _ (by rw [JM ka]; exact k1))) k2) Jv j0 jl st en q A hA
noncomputable def qNf (wi:TI) (ρ:List Sl) (Φ:List D->List Sl->Prop):Prop:=∀ G F σ H,SI G F ρ σ H->∀ R:It->Hp->Prop,(∀ G' H' J xs ρ',Φ xs ρ'->qP G G'->SI G' F ρ' σ H'->Src J G' (fun _=>none) xs->R J H')->wi σ H R
theorem qKw {ρ:List Sl} {Φ:List D->List Sl->Prop} {K:wK} {tl:TE} (h:wpV tl ρ fun r ρ1=>∃ d xs,r.it=some d/\sq d=some xs/\Φ xs ρ1):qNf (qKL K tl) ρ Φ:=by
 intro G F σ H I R q
 refine h G F σ H I _ fun G0 H1 v x ρ1 ⟨d,xs,e1,e2,h1⟩ g0 I0 ok=>?_
 obtain ⟨G1,g1',I1,dn⟩:=qGk I0 ok e1
 have go:=fun J S=>q G1 H1 J xs ρ1 h1 (g0.trans g1') I1 S
 cases d with
 | tup l=>
  obtain ⟨a,ws,rfl,k1,k2⟩:=dn
  obtain rfl:l=xs:=zS e2
  exact ⟨a,rfl,.inr ⟨⟨ws,SqT.of (I1.g _ _ k1)⟩,go _ (qFB k1 k2)⟩⟩
 | lst l=>
  obtain ⟨a,ws,rfl,k1,k2⟩:=dn
  obtain rfl:l=xs:=zS e2
  exact ⟨a,rfl,.inl ⟨⟨ws,SqL.of (I1.g _ _ k1)⟩,go _ (qCH (fun G' H' g gh _=>SqL.of (gh _ _ (g _ _ k1))) k2)⟩⟩
 | non=>cases e2
 | bl _=>cases e2
 | int _=>cases e2
 | str _=>cases e2
 | dic=>cases e2
section
variable {G F H:Hp} {ρ:List Sl} {σ:St} {A:Addr}
theorem SI.begun (I:SI G F ρ σ H) (hA:H A=none):SI G (upd F A (.lst [])) ρ σ (upd H A (.lst [])):=by
 have I3:=I.new (o:=.lst []) hA
 refine ⟨I3.ok,I3.g,fun b o e=>?_,fun b o e=>?_,I3.nd,fun b hb=>⟨(I3.out b hb).1,?_⟩,fun b us e=>?_⟩
 ·by_cases z:b=A
  ·subst z; rw [qH] at e ⊢; exact e
  ·rw [qJ z] at e; exact I3.f _ _ e
 ·by_cases z:b=A
  ·subst z; exact I.g.free hA
  ·rw [qJ z] at e; exact I3.gf _ _ e
 ·have nb:b≠A:=fun z=>by
   subst z
   obtain ⟨i,zs,q1,q2⟩:=hb
   obtain ⟨o,p1,a,ws,z,p2,p3⟩:=I.ok i _ q1
   rw [q2] at p1
   cases p1
   cases z
   rw [hA] at p2
   cases p2
  rw [qJ nb]
  exact (I3.out b hb).2
 ·by_cases z:b=A
  ·rw [z,qH] at e; cases e
  ·rw [qJ z] at e; exact I3.ft b us e
theorem SI.longer {ys:List V} {y:V} (I:SI G (upd F A (.lst ys)) ρ σ H):SI G (upd F A (.lst (ys++[y]))) ρ σ (upd H A (.lst (ys++[y]))):=by
 have gA:G A=none:=I.gf _ _ qH
 have oA:∀ b,qKn ρ σ b->b≠A:=fun b hb z=>by
  subst z
  have:=(I.out b hb).2
  rw [qH] at this
  cases this
 have far:∀{b:Addr} {o:HO},b≠A->upd F A (.lst (ys++[y])) b=some o->upd F A (.lst ys) b=some o:=fun z e=>by rw [qJ z] at e ⊢; exact e
 refine ⟨fun j s e=>?_,fun b o e=>?_,fun b o e=>?_,fun b o e=>?_,I.nd,fun b hb=>⟨(I.out b hb).1,?_⟩,fun b us e=>?_⟩
 ·obtain ⟨o,q1,q2⟩:=I.ok j s e
  refine ⟨o,q1,q2.up (qP.refl _) fun us a ws z1 z2 z3=>?_⟩
  subst z1 z2
  rw [qJ (oA a ⟨j,us,e,q1⟩)]
  exact z3
 ·rw [qJ fun z=>by subst z; rw [gA] at e; cases e]
  exact I.g _ _ e
 ·by_cases z:b=A
  ·subst z; rw [qH] at e ⊢; exact e
  ·rw [qJ z]; exact I.f _ _ (far z e)
 ·by_cases z:b=A
  ·subst z; exact gA
  ·exact I.gf _ _ (far z e)
 ·have:=(I.out b hb).2
  rw [qJ (oA b hb)] at this ⊢
  exact this
 ·by_cases z:b=A
  ·rw [z,qH] at e; cases e
  ·exact I.ft b us (far z e)
end
theorem qMu {own:List Str} {fr:List (Str×Nat)} {wi:TI} {g:TG} {tt:TT} {wi1:TI} {g1:TG} {tt1:TT} {te:TE} {ρ:List Sl} {Φ:Rs->List Sl->Prop} (h:wpI wi ρ fun xs ρ1=>known ρ1 fr/\(isB (Qe fr)).Nodup/\∃ Jv:Nat->List D->List Sl->Prop,Jv 0 [] (inner own fr ρ1)/\
  (∀ k ys ρc,Jv k ys ρc->ρc.length=own.length+fr.length)/\
  (∀ k x ys ρc,xs[k]? = some x->Jv k ys ρc->wpG (bnd own fr) g (.d x) ρc fun ρ2=>wpT tt ρ2 fun b ρ3=>if b=true then qNf wi1 ρ3 fun us ρ4=>∃ Lv:Nat->List D->List Sl->Prop,Lv 0 ys ρ4/\(∀ j ys ρc,Lv j ys ρc->ys.length<sizeLine)/\
    (∀ j u ys ρc,us[j]? = some u->Lv j ys ρc->wpG (bnd own fr) g1 (.d u) ρc fun ρ5=>wpT tt1 ρ5 fun b ρ6=>if b=true then wpV te ρ6 fun r ρ7=>∃ d,r.it=some d/\Lv (j+1) (ys++[d]) ρ7 else Lv (j+1) ys ρ6)/\
    ∀ ys ρc,Lv us.length ys ρc->Jv (k+1) ys ρc
   else Jv (k+1) ys ρ3)/\
  ∀ ys ρc,Jv xs.length ys ρc->Φ (.l ys) (outer own fr ρ1 ρc)):wpV (qMI own fr wi g tt wi1 g1 tt1 te) ρ Φ:=by
 intro G F σ H I Q q
 refine h G F σ H I _ fun G1 H1 J xs ρ1 ⟨kn,nd,Jv,j0,jl,st,en⟩ gg1 I1 S A hA=>?_
 obtain ⟨vs,oks,ev⟩:=qAv I1 kn
 have If:=I1.focus oks nd
 have lv:vs.length=fr.length:=by rw [oks.len]; unfold Qe; rw [wC]
 have as_eq:(Qe fr).map (qHo ρ1)=fr.map fun p=>(ρ1[p.2]?).getD .u:=by unfold Qe; rw [zW]; rfl
 rw [as_eq] at If
 have I2:=If.ext own.length 0 (by rw [wC,lv])
 have e1:(wN own.length Sl.u++((fr.map fun p=>(ρ1[p.2]?).getD .u)++wN 0 Sl.u))=inner own fr ρ1:=by unfold inner; rw [yW,zK]
 have e2:(wN own.length none++(vs.map some++wN 0 none))=qd own fr σ:=by
  unfold qd
  rw [yW,zK,ev]
  congr 1
  rw [UN]
 rw [e1,e2] at I2
 have S2:Src J G1 (foc H1 F ρ1 σ (Qe fr)) xs:=fun i G' H' a b c=>S i G' H' a b ((JG I1).trans c)
 generalize hF2:foc H1 F ρ1 σ (Qe fr)=F2 at S2 If I2
 have FA:F2 A=none:=If.f.free hA
 have h0:∀(j:Nat) (v:V),vs[j]? = some v->(qd own fr σ)[own.length+j]? = some (some v):=fun j v e=>by
  rw [<- e2,zU (by rw [zN]; omega),zN,xF,yW,zK,wQ,e]
  rfl
 have fr1:∀ ys,qP F2 (upd F2 A (.lst ys)):=fun ys=>qP.new FA
 refine ⟨fun i m ys σ' H'=>m=xs.length - i/\i<=xs.length/\∃ G' ds ρc,Jv i ds ρc/\qP G1 G'/\Kp (bnd own fr) (qd own fr σ) σ'/\SI G' (upd F2 A (.lst ys)) ρc σ' H'/\qV G' ds ys,⟨xs.length,by simp,yN _,G1,[],_,j0,qP.refl _,Kp.refl _ _,I2.begun hA,rfl⟩,?_⟩
 rintro i m ys σ2 H2 ⟨rfl,hi,G2,ds,ρ2,p2,g2,k2,I4,dn⟩
 have hHA:H2 A=some (.lst ys):=I4.f _ _ qH
 refine ⟨hHA,?_⟩
 obtain ⟨s1,s2⟩:=S2 i G2 H2 g2 I4.g ((fr1 ys).trans I4.f)
 by_cases hlt:i<xs.length
 ·obtain ⟨go,yl⟩:=s1 hlt
  refine .inr ⟨go,fun ys' σ' H'=>∃ G' ds ρc,Jv (i+1) ds ρc/\qP G1 G'/\Kp (bnd own fr) (qd own fr σ) σ'/\SI G' (upd F2 A (.lst ys')) ρc σ' H'/\qV G' ds ys',fun ys' σ' H' p'=>⟨xs.length - (i+1),by omega,rfl,hlt,p'⟩,fun x H' y=>?_⟩
  obtain ⟨d,ed,yy⟩:=yl x H' y
  have fin:∀ G3,qP G2 G3->SI G3 (upd F2 A (.lst ys)) ρ2 σ2 H'->Den G3 d x->g x σ2 H' fun σ4 H4=>tt σ4 H4 fun b H5=>if b=true then qGC wi1 g1 tt1 te A ys σ4 H5 (fun ys' σ' H'=>∃ G' ds ρc,Jv (i+1) ds ρc/\qP G1 G'/\Kp (bnd own fr) (qd own fr σ) σ'/\SI G' (upd F2 A (.lst ys')) ρc σ' H'/\qV G' ds ys')
    else ∃ G' ds ρc,Jv (i+1) ds ρc/\qP G1 G'/\Kp (bnd own fr) (qd own fr σ) σ4/\SI G' (upd F2 A (.lst ys)) ρc σ4 H5/\qV G' ds ys:=fun G3 g3 I3 dx=>by
   refine st i d ds ρ2 ed p2 G3 (upd F2 A (.lst ys)) σ2 H' x I3 dx _ ?_
   intro G4 σ4 H4 ρ4 h4 g4 k4 I5
   refine h4 G4 _ σ4 H4 I5 _ fun G5 H5 b ρ5 h5 g5 I6=>?_
   have gg:=((g2.trans g3).trans g4).trans g5
   have dn5:=qV.mono ((g3.trans g4).trans g5) _ _ dn
   cases b with
   | false=>
    rw [if_neg wU] at h5 ⊢
    exact ⟨G5,ds,ρ5,h5,gg,k2.trans k4,I6,dn5⟩
   | true=>
    rw [if_pos rfl] at h5 ⊢
    refine h5 G5 _ σ4 H5 I6 _ fun G6 H6 J1 us ρ6 ⟨Lv,l0,ll,ls,le⟩ g6 I7 T=>?_
    refine ⟨fun j m zs σ' H'=>m=us.length - j/\j<=us.length/\∃ G' es ρc,Lv j es ρc/\qP G6 G'/\Kp (bnd own fr) (qd own fr σ) σ'/\SI G' (upd F2 A (.lst zs)) ρc σ' H'/\qV G' es zs,⟨us.length,by simp,yN _,G6,ds,ρ6,l0,qP.refl _,k2.trans k4,I7,qV.mono g6 _ _ dn5⟩,?_⟩
    rintro j m zs σ7 H7 ⟨rfl,hj,G7,es,ρ7,p7,g7,k7,I8,dn7⟩
    refine ⟨I8.f _ _ qH,?_⟩
    obtain ⟨t1,t2⟩:=T j G7 H7 g7 I8.g fun _ _ e=>by cases e
    by_cases hlj:j<us.length
    ·obtain ⟨go',yl'⟩:=t1 hlj
     refine .inr ⟨go',by rw [dn7.length]; exact ll j es ρ7 p7,fun zs' σ' H'=>∃ G' es ρc,Lv (j+1) es ρc/\qP G6 G'/\Kp (bnd own fr) (qd own fr σ) σ'/\SI G' (upd F2 A (.lst zs')) ρc σ' H'/\qV G' es zs',fun zs' σ' H' p'=>⟨us.length - (j+1),by omega,rfl,hlj,p'⟩,fun x H' y=>?_⟩
     obtain ⟨d',ed',yy'⟩:=yl' x H' y
     have fin':∀ G8,qP G7 G8->SI G8 (upd F2 A (.lst zs)) ρ7 σ7 H'->Den G8 d' x->g1 x σ7 H' fun σ8 H8=>tt1 σ8 H8 fun b H9=>if b=true then te σ8 H9 fun y H10=>H10 A=some (.lst zs)/\∃ G' es ρc,Lv (j+1) es ρc/\qP G6 G'/\Kp (bnd own fr) (qd own fr σ) σ8/\SI G' (upd F2 A (.lst (zs++[y]))) ρc σ8 (upd H10 A (.lst (zs++[y])))/\qV G' es (zs++[y])
       else ∃ G' es ρc,Lv (j+1) es ρc/\qP G6 G'/\Kp (bnd own fr) (qd own fr σ) σ8/\SI G' (upd F2 A (.lst zs)) ρc σ8 H9/\qV G' es zs:=fun G8 g8 I9 dx=>by
      refine ls j d' es ρ7 ed' p7 G8 _ σ7 H' x I9 dx _ ?_
      intro G9 σ9 H9 ρ9 h9 g9 k9 I10
      refine h9 G9 _ σ9 H9 I10 _ fun G10 H10 b ρ10 h10 g10 I11=>?_
      have g':=(g8.trans g9).trans g10
      cases b with
      | false=>
       rw [if_neg wU] at h10 ⊢
       exact ⟨G10,es,ρ10,h10,g7.trans g',k7.trans k9,I11,qV.mono g' _ _ dn7⟩
      | true=>
       rw [if_pos rfl] at h10 ⊢
       refine h10 G10 _ σ9 H10 I11 _ fun G11 H11 y r ρ11 ⟨d2,ed2,h11⟩ g11 I12 ok=>?_
       obtain ⟨G12,g12,I13,dy⟩:=qGk I12 ok ed2
       have g3':=g'.trans (g11.trans g12)
       exact ⟨I13.f _ _ qH,G12,es++[d2],ρ11,h11,g7.trans g3',k7.trans k9,I13.longer,qV.snoc (qV.mono g3' _ _ dn7) dy⟩
     rcases yy' with ⟨e,dx⟩ | ⟨p,o,hp,e,dx⟩
     ·subst e
      exact fin' G7 (qP.refl _) I8 dx
     ·subst e
      obtain ⟨I9,g9⟩:=I8.newG (o:=o) hp
      exact fin' _ g9 I9 dx
    ·have e:j=us.length:=by omega
     subst e
     exact .inl ⟨t2 rfl,G7,es,ρ7,le es ρ7 p7,(gg.trans g6).trans g7,k7,I8,dn7⟩
  rcases yy with ⟨e,dx⟩ | ⟨p,o,hp,e,dx⟩
  ·subst e
   exact fin G2 (qP.refl _) I4 dx
  ·subst e
   obtain ⟨I3,g3⟩:=I4.newG (o:=o) hp
   exact fin _ g3 I3 dx
 ·have e:i=xs.length:=by omega
  subst e
  refine .inl ⟨s2 rfl,?_⟩
  have gA:G2 A=none:=I4.gf _ _ qH
  have I5:SI G2 F2 ρ2 σ2 H2:=⟨I4.ok,I4.g,(fr1 ys).trans I4.f,fun b o e=>I4.gf _ _ (fr1 ys _ _ e),I4.nd,fun b hb=>⟨(I4.out b hb).1,(fr1 ys).free (I4.out b hb).2⟩,fun b us e=>I4.ft b us (fr1 ys _ _ e)⟩
  have ok5:jQ G2 F2 ρ2 σ2 H2 (.l ds) (.ref A):=⟨A,_,rfl,hHA,⟨ys,rfl,dn⟩,gA,FA,fun hb=>by
   have:=(I4.out A hb).2
   rw [qH] at this
   cases this⟩
  have I6:=I5.sel (n:=fr.length) k2 h0 (xB lv.symm)
  have ok6:=jQ.sel (n:=fr.length) (d:=.lst ds) rfl ok5 k2 h0
  have es:sel own.length (bnd own fr) fr.length ρ2=ρ2.drop own.length:=qA1 (jl _ _ _ p2)
  rw [es,<- hF2] at I6 ok6
  have I7:=I1.unfocus oks g2 I6
  have ok7:=jQ.unfocus (d:=.lst ds) I1 oks rfl ok6
  exact (q.at gg1 fun _ _ z=>z) G2 H2 _ _ _ (en ds ρ2 p2) g2 I7 ok7
section
variable {ρ:List Sl} {Φ:Rs->List Sl->Prop} {K:wK} {t:TA} {i:Nat} {xs:List D} {rL rT:V->List V->Hp->VK->Prop} {to:TE}
theorem qBR {H:Hp}:∀{xs:List D} {vs:List V} (n:Nat),qV H xs vs->qV H (xs.take n) (vs.take n)
 | xs,vs,0,h=>by rw [kP,kP]; exact rfl
 | [],vs,n+1,h=>by cases (show vs=[] from h); exact rfl
 | x::xs,vs,n+1,h=>by
  obtain ⟨w,r,rfl,h1,h2⟩:=h
  exact ⟨w,r.take n,rfl,h1,qBR n h2⟩
theorem qBa {H:Hp}:∀{xs:List D} {vs:List V} (n:Nat),qV H xs vs->qV H (xs.drop n) (vs.drop n)
 | xs,vs,0,h=>h
 | [],vs,n+1,h=>by cases (show vs=[] from h); exact rfl
 | x::xs,vs,n+1,h=>by
  obtain ⟨w,r,rfl,h1,h2⟩:=h
  exact qBa n h2
theorem qI7 {ta:TA} (h:wpA ta ρ fun rs ρ1=>∃ j:Int,(∃ r,rs=[r]/\rd ρ1 r=some (.int j))/\j<=1000/\-(2 ^ 62)<=j/\Φ (.l ((wV j.toNat).map fun k:Nat=>D.int k)) ρ1):wpV (tCB qDe (qJN (tCB qGd ta) qMJ)) ρ Φ:=by
 intro G F σ H I Q q
 refine h G F σ H I _ fun G1 H1 vs rs ρ1 ⟨j,⟨x,er,ex⟩,l1,l2,h1⟩ g1 I1 oks=>?_
 subst er
 obtain ⟨v,rfl,ok⟩:=Qq oks
 cases qX I1 ok ex
 refine ⟨j,rfl,fun p hp=>⟨p,j,rfl,qH,l1,l2,fun l hl=>?_⟩⟩
 have I2:=I1.new (o:=.rng 0 j) hp
 refine Qs (q.at g1 fun _ _ z=>z) I2 ?_ h1 hl
 have e1:((wV j.toNat).map fun k:Nat=>D.int k)=((wV j.toNat).map fun k:Nat=>(k:Int)).map D.int:=by rw [zW]; rfl
 have e2:((wV j.toNat).map fun k:Nat=>V.int k)=((wV j.toNat).map fun k:Nat=>(k:Int)).map V.int:=by rw [zW]; rfl
 rw [e1,e2]
 exact qV.ints _ _
noncomputable def wpO (to:TO) (ρ:List Sl) (Φ:Option Int->List Sl->Prop):Prop:=∀ G F σ H,SI G F ρ σ H->∀ Q:Option Int->Hp->Prop,(∀ G' H' o ρ',Φ o ρ'->qP G G'->SI G' F ρ' σ H'->Q o H')->to σ H Q
theorem qKz {Φ:Option Int->List Sl->Prop} (h:Φ none ρ):wpO qGb ρ Φ:=fun G F σ H I Q q=>q G H none ρ h (qP.refl _) I
theorem qLg {Φ:Option Int->List Sl->Prop} {te:TE} (h:wpV te ρ fun r ρ1=>∃ i,rd ρ1 r=some (.int i)/\Φ (some i) ρ1):wpO (qL0 te) ρ Φ:=fun G F σ H I Q q=>
 h G F σ H I _ fun G1 H1 v r ρ1 ⟨i,e,h1⟩ g1 I1 ok=>⟨i,qX I1 ok e,q G1 H1 (some i) ρ1 h1 g1 I1⟩
noncomputable def cutD (xs:List D) (lo hi:Option Int):List D:=(xs.drop (HT.sIx xs.length 0 lo)).take (HT.sIx xs.length xs.length hi - HT.sIx xs.length 0 lo)
theorem qDV {H:Hp} {xs:List D} {vs:List V} {lo hi:Option Int} (h:qV H xs vs):qV H (cutD xs lo hi) (qHk vs lo hi):=by
 unfold cutD qHk
 rw [h.length]
 exact qBR _ (qBa _ h)
noncomputable def SlV (r:V->Option Int->Option Int->Hp->VK->Prop) (x:Rs) (lo hi:Option Int) (ρ:List Sl) (Φ:Rs->List Sl->Prop):Prop:=∀ G F σ H v,SI G F ρ σ H->jQ G F ρ σ H x v->∀ Q:VK,Fin G F σ Φ Q->r v lo hi H Q
theorem qOA {r:V->Option Int->Option Int->Hp->VK->Prop} {te:TE} {tl th:TO} (h:wpV te ρ fun x ρ1=>wpO tl ρ1 fun lo ρ2=>wpO th ρ2 fun hi ρ3=>SlV r x lo hi ρ3 Φ):wpV (tSl r te tl th) ρ Φ:=by
 intro G F σ H I Q q
 refine h G F σ H I _ fun G1 H1 v x ρ1 h1 g1 I1 ok1=>?_
 refine h1 G1 (hold x v H1 F) σ H1 (I1.held ok1) _ fun G2 H2 lo ρ2 h2 g2 I2=>?_
 refine h2 G2 _ σ H2 I2 _ fun G3 H3 hi ρ3 h3 g3 I3=>?_
 obtain ⟨I4,ok4⟩:=SI.freed ok1 (g2.trans g3) I3
 exact h3 G3 F σ H3 v I4 ok4 Q (q.at ((g1.trans g2).trans g3) fun _ _ z=>z)
theorem qOB {x:Rs} {lo hi:Option Int} (hx:rd ρ x=some (.lst xs)) (h:Φ (.l (cutD xs lo hi)) ρ):SlV (qM3 K) x lo hi ρ Φ:=fun G F σ H v I ok Q q=>by
 obtain ⟨a,ws,rfl,s1,d1⟩:=ji (K:=K) I ok hx
 exact ⟨a,ws,rfl,s1,fun p hp=>Qs q I (qDV d1) h hp⟩
end
noncomputable def qGm:List D->List D->List D
 | x::xs,y::ys=>.tup [x,y]::qGm xs ys
 | _,_=>[]
theorem qDX:∀(xs ys:List D),(qGm xs ys).length=min xs.length ys.length
 | [],ys=>by simp [qGm]
 | x::xs,[]=>by simp [qGm]
 | x::xs,y::ys=>(congrArg (· + 1) (qDX xs ys)).trans (Nat.add_min_add_right ..).symm
theorem qDZ:∀{xs ys:List D} {i:Nat} {x y:D},xs[i]? = some x->ys[i]? = some y->(qGm xs ys)[i]? = some (.tup [x,y])
 | [],ys,i,x,y,h1,h2=>by simp at h1
 | a::xs,[],i,x,y,h1,h2=>by simp at h2
 | a::xs,b::ys,0,x,y,h1,h2=>by simp at h1 h2; subst h1 h2; rfl
 | a::xs,b::ys,i+1,x,y,h1,h2=>by
  show (qGm xs ys)[i]? = _
  exact qDZ (by simpa using h1) (by simpa using h2)
noncomputable def Y1 (fr:List (Str×Nat)) (ρ:List Sl):List Sl:=fr.map fun p=>(ρ[p.2]?).getD .u
theorem set_same {ρ:List Sl} {i:Nat} {s:Sl} (h:ρ[i]? = some s):ρ.set i s=ρ:=by
 apply uN
 intro j
 rw [yF]
 by_cases z:i=j
 ·subst z
  rw [if_pos rfl,if_pos (wR.mp h).1,h]
 ·rw [if_neg z]
theorem qBA:∀(fr:List (Str×Nat)) (ρ:List Sl),wb ρ (Qe fr) (Y1 fr ρ)=ρ
 | [],ρ=>rfl
 | p::fr,ρ=>by
  show (match ρ[p.2]? with | some (.o _)=>wb (ρ.set p.2 ((Y1 (p::fr) ρ).headD .u)) (Qe fr) (Y1 (p::fr) ρ).tail | _=>wb ρ (Qe fr) (Y1 (p::fr) ρ).tail)=ρ
  have e:(Y1 (p::fr) ρ).tail=Y1 fr ρ:=rfl
  rw [e]
  cases h:ρ[p.2]? with
  | none=>exact qBA fr ρ
  | some s=>
   cases s with
   | o xs=>
    have e2:(Y1 (p::fr) ρ).headD .u=.o xs:=by
     show (ρ[p.2]?).getD .u=_
     rw [h]; rfl
    rw [e2,set_same h]
    exact qBA fr ρ
   | _=>exact qBA fr ρ
theorem JU {own:List Str} {fr:List (Str×Nat)} {ρ os:List Sl} (h:os.length=own.length):outer own fr ρ (os++Y1 fr ρ)=ρ:=by
 unfold outer
 rw [<- h,List.drop_left]
 exact qBA fr ρ
section
variable {α:Type} {own:List Str} {fr:List (Str×Nat)} {g:TG} {tt:TT} {te:TE} {ρ:List Sl} {Φ:Rs->List Sl->Prop}
noncomputable def qG8 (own:List Str) (fr:List (Str×Nat)) (g:TG) (tt:TT) (te:TE) (ρ:List Sl) (x:D) (b:Bool) (d:D):Prop:=∀ os:List Sl,os.length=own.length->wpG (bnd own fr) g (.d x) (os++Y1 fr ρ) fun ρ2=>
 (∃ os',os'.length=own.length/\ρ2=os'++Y1 fr ρ)/\wpT tt ρ2 (fun c ρ3=>c=b/\ρ3=ρ2)/\(b=true->wpV te ρ2 fun r ρ4=>r.it=some d/\ρ4=ρ2)
theorem wpG.mono {B:List Nat} {g:TG} {r:Rs} {ρ:List Sl} {Φ Ψ:List Sl->Prop} (h:wpG B g r ρ Φ) (e:∀ ρ',Φ ρ'->Ψ ρ'):wpG B g r ρ Ψ:=fun G F σ H v I ok N n=>h G F σ H v I ok N fun G1 σ1 H1 ρ1 p g1 k1 I1=>n G1 σ1 H1 ρ1 (e _ p) g1 k1 I1
noncomputable def qEF (own:List Str) (fr:List (Str×Nat)) (ρ:List Sl) (l:List α) (p:α->Bool) (f:α->D):Nat->List D->List Sl->Prop:=fun k ys ρc=>ys=(((l.take k).filter p).map f)/\∃ os,os.length=own.length/\ρc=os++Y1 fr ρ
theorem qBs {enc:α->D} {l:List α} {p:α->Bool} {f:α->D} (st:∀ a∈l,qG8 own fr g tt te ρ (enc a) (p a) (f a)):∀ k x ys ρc,(l.map enc)[k]? = some x->qEF own fr ρ l p f k ys ρc->wpG (bnd own fr) g (.d x) ρc fun ρ2=>wpT tt ρ2 fun b ρ3=>if b=true then wpV te ρ3 fun r ρ4=>∃ d,r.it=some d/\qEF own fr ρ l p f (k+1) (ys++[d]) ρ4 else qEF own fr ρ l p f (k+1) ys ρ3:=by
 rintro k x ys ρc hx ⟨rfl,os,ho,rfl⟩
 rw [wQ] at hx
 cases ha:l[k]? with
 | none=>rw [ha] at hx; cases hx
 | some a=>
  rw [ha] at hx
  have hx':enc a=x:=zS hx
  subst hx'
  refine (st a (vM ha) os ho).mono ?_
  rintro ρ2 ⟨⟨os',ho',rfl⟩,h1,h2⟩
  refine h1.mono ?_
  rintro c ρ3 ⟨rfl,rfl⟩
  have et:(l.take (k+1)).filter p=(l.take k).filter p++if p a=true then [a] else []:=by
   rw [fT,ha,fL]
   congr 1
   cases hpa:p a <;> simp [hpa]
  cases hp:p a with
  | true=>
   rw [if_pos rfl]
   refine (h2 hp).mono ?_
   rintro r ρ4 ⟨e1,rfl⟩
   refine ⟨_,e1,?_,os',ho',rfl⟩
   rw [et,if_pos hp,yI]
   rfl
  | false=>
   rw [if_neg wU]; refine ⟨?_,os',ho',rfl⟩
   rw [et,hp,if_neg wU,zK]
theorem qC2 {l:List α} {p:α->Bool} {f:α->D} (hl:l.length<sizeLine):∀ k ys ρc,qEF own fr ρ l p f k ys ρc->ys.length<sizeLine/\ρc.length=own.length+fr.length:=by
 rintro k ys ρc ⟨rfl,os,ho,rfl⟩
 constructor
 ·rw [wC]
  refine yV (yU _ _) ?_
  rw [yQ]
  omega
 ·rw [wO,ho]
  unfold Y1
  rw [wC]
theorem QE {wi:TI} (enc:α->D) (l:List α) (p:α->Bool) (f:α->D) (h:wpI wi ρ fun xs ρ1=>xs=l.map enc/\l.length<sizeLine/\known ρ1 fr/\(isB (Qe fr)).Nodup/\(∀ a∈l,qG8 own fr g tt te ρ1 (enc a) (p a) (f a))/\Φ (.l ((l.filter p).map f)) ρ1):wpV (qDy own fr wi g tt te) ρ Φ:=by
 refine qFK fun G F σ H I R q=>h G F σ H I R fun G1 H1 J xs ρ1 ⟨e,hl,kn,nd,st,fin⟩ g1 I1 S=>q G1 H1 J xs ρ1 ?_ g1 I1 S
 subst e
 refine ⟨kn,nd,qEF own fr ρ1 l p f,⟨rfl,_,zN,rfl⟩,qC2 hl,qBs st,?_⟩
 rintro ys ρc ⟨rfl,os,ho,rfl⟩
 rw [JU ho,wC,xU]
 exact fin
theorem qAk {K:wK} {s:Nat} (enc:α->D) (l:List α) (p:α->Bool) (f:α->D) (hs:ρ[s]? = some (.l (l.map enc))) (hn:(isB (Qe fr)).contains s=false) (hl:l.length<sizeLine) (kn:known ρ fr) (nd:(isB (Qe fr)).Nodup) (st:∀ a∈l,qG8 own fr g tt te ρ (enc a) (p a) (f a)) (fin:Φ (.l ((l.filter p).map f)) ρ):wpV (qDy own fr (qKL K (qIX s)) g tt te) ρ Φ:=by
 have hn':Rs.b s∉Qe fr:=fun z=>by
  rw [kQ,decide_eq_false_iff_not] at hn
  exact hn (Qt.mpr z)
 refine qDW hs hn' kn nd (qEF own fr ρ l p f) ⟨rfl,_,zN,rfl⟩ (qC2 hl) (qBs st) ?_
 rintro ys ρc ⟨rfl,os,ho,rfl⟩
 rw [JU ho,wC,xU]
 exact fin
theorem qu {l:List α}:l.filter (fun _=>true)=l:=uF.mpr fun _ _=>rfl
theorem qGn {os:List Sl} (h:os.length=1):∃ a,os=[a]:=List.length_eq_one_iff.mp h
theorem qNs {k:Nat}:∀{os:List Sl},os.length=k+1->∃ a r,os=a::r/\r.length=k
 | a::r,h=>⟨a,r,rfl,fC h⟩
theorem qIW {os:List Sl} (h:os.length=2):∃ a b,os=[a,b]:=(qNs h).elim fun a e=>e.elim fun _ g=>(qGn g.2).elim fun b z=>⟨a,b,g.1.trans (congrArg _ z)⟩
end
theorem qC5 (lo:Int) (n:Nat):qIn lo n=(wV n).map fun k:Nat=>D.int (lo+k):=rfl
theorem qMv {B:List Nat} {ρ:List Sl} {r:Rs} {to ti:TE} {Φ:List Sl->Prop} (h:∃ d,r.it=some d/\wpV to ρ fun o ρ2=>∃ i,o=.b i/\wpV ti ρ2 fun ix ρ3=>∃ k j xs,rd ρ3 ix=some (.int k)/\ρ3[i]? = some (.l xs)/\ixN xs.length k=some j/\Φ (ρ3.set i (.l (xs.set j d)))):wpG B (qNc to ti qK3) r ρ Φ:=by
 intro G F σ H v I ok N n
 obtain ⟨d,ed,h1⟩:=h
 obtain ⟨G1',g1',I1',dn⟩:=qGk I ok ed
 refine h1 G1' F σ H I1' _ fun G2 H2 w o ρ2 ⟨i,eo,h2⟩ g2 I2 ok2=>?_
 subst eo
 refine h2 G2 F σ H2 I2 _ fun G3 H3 z ix ρ3 ⟨k,j,xs,e1,e2,e3,h3⟩ g3 I3 ok3=>?_
 obtain ⟨o',e4,a,_,e5,h4,vs,rfl,h5⟩:=I3.ok i _ e2
 have ok2':σ[i]? = some (some w):=ok2
 rw [ok2'] at e4
 cases e4
 cases e5
 refine ⟨a,vs,k,j,rfl,qX I3 ok3 e1,h4,by rw [h5.length]; exact e3,?_⟩
 exact n G3 σ _ _ h3 ((g1'.trans g2).trans g3) (Kp.refl _ _) (I3.put e2 ok2 (qDA j h5 (Den.mono (g2.trans g3) _ _ dn)))
noncomputable def qKr (ρ:List Sl) (fr:List (Str×Nat)):Bool:=fr.all fun p=>match ρ[p.2]? with | some .u=>false | some _=>true | none=>false
theorem qZ {ρ:List Sl} {fr:List (Str×Nat)} (h:qKr ρ fr=true):known ρ fr:=fun p hp=>by
 have q:=(gS.mp h) p hp
 cases e:ρ[p.2]? with
 | none=>rw [e] at q; cases q
 | some s=>
  rw [e] at q
  cases s with
  | u=>cases q
  | d x=>exact ⟨_,rfl,by intro z; cases z⟩
  | o x=>exact ⟨_,rfl,by intro z; cases z⟩
  | f _ x=>exact ⟨_,rfl,by intro z; cases z⟩
theorem szl {n:Nat} (h:n<=1000):n<=sizeLine:=vR (qN h)
theorem Qa {α:Type} {f:α->D} {k:Nat} (h:∀ a,jH (f a)<=k):∀ l:List α,qI (l.map f)<=k
 | []=>yN _
 | a::l=>by
  show max (jH (f a)) (qI (l.map f))<=k
  have:=h a
  have:=Qa h l
  omega
theorem qCS {α:Type} [DecidableEq α] {f:α->D} (h:∀ a b,dEq (f a) (f b)=decide (a=b)) (a:α) (l:List α):dIn (f a) (l.map f)=decide (a∈l):=by
 unfold dIn
 rw [vU,List.any_eq_true,decide_eq_true_iff]
 constructor
 ·rintro ⟨e,he,q⟩
  obtain ⟨b,hb,rfl⟩:=zF.mp he
  rw [h,decide_eq_true_iff] at q
  exact q ▸ hb
 ·intro m
  exact ⟨f a,zF.mpr ⟨a,m,rfl⟩,qDF _⟩
theorem qIz (a b:Int):dEq (.int a) (.int b)=decide (a=b):=by simp [dEq,Bool.beq_eq_decide_eq]
theorem qFb (q:Int) (fs:List Int):dIn (.int q) (fs.map D.int)=decide (q∈fs):=qCS qIz q fs
theorem YL (ns:List Int):qI (ns.map D.int)<=50:=zM (Qa (f:=D.int) (k:=0) (fun a=>wH _) ns) (by decide)
section
variable {ρ:List Sl} {Φ:Rs->List Sl->Prop} {x y:Rs} {K:wK}
theorem qMe {q:Int} {fs:List Int} (hx:rdE ρ x=some (.int q)) (hy:rdE ρ y=some (.lst (fs.map D.int))) (h:Φ (.d (.bl (decide (q∈fs)))) ρ):OpV (qH7 false) x y ρ Φ:=by
 refine qMN hx hy (YL _) ?_
 rw [if_neg wU,qFb]
 exact h
theorem qKV {q:Int} {fs:List Int} (hx:rdE ρ x=some (.int q)) (hy:rdE ρ y=some (.lst (fs.map D.int))) (h:Φ (.d (.bl (!decide (q∈fs)))) ρ):OpV (qH7 true) x y ρ Φ:=by
 refine qMN hx hy (YL _) ?_
 rw [if_pos rfl,qFb]
 exact h
theorem qIA {α:Type} [DecidableEq α] {f:α->D} {q:α} {fs:List α} (hf:∀ a b,dEq (f a) (f b)=decide (a=b)) (hd:∀ a,jH (f a)<=50) (hx:rdE ρ x=some (f q)) (hy:rdE ρ y=some (.lst (fs.map f))\/rdE ρ y=some (.tup (fs.map f))) (h:Φ (.d (.bl (!decide (q∈fs)))) ρ):OpV (qH7 true) x y ρ Φ:=by
 rcases hy with hy | hy
 ·refine qMN hx hy (Qa hd _) (hd2:=hd q) ?_
  rw [if_pos rfl,qCS hf]
  exact h
 ·refine qML hx hy (Qa hd _) (hd2:=hd q) ?_
  rw [if_pos rfl,qCS hf]
  exact h
theorem qHa (l:List D):Qk l []=l.isEmpty:=by cases l <;> simp [Qk]
theorem qJy {l:List D} (hx:rdE ρ x=some (.lst l)) (hy:rdE ρ y=some (.lst [])) (hd:qI l<=50) (h:Φ (.d (.bl !l.isEmpty)) ρ):OpV (fun x y H Q=>rNe x y H Q\/qIK true x y H Q) x y ρ Φ:=by
 refine OpV.r (qKO hx hy hd ?_)
 rw [if_pos rfl,qHa]
 exact h
end
theorem qv {B:List Nat} {t u:TS} {ρ:List Sl} {Ψ:VE} (M:List Sl->Prop) (h1:wpS B t ρ { Ψ with nx:=M }) (h2:∀ ρ1,M ρ1->wpS B u ρ1 Ψ):wpS B (Qi t u) ρ Ψ:=by
 refine qET ?_
 intro G F σ H I D n r b ct
 refine h1 G F σ H I D ?_ r b ct
 intro G1 σ1 H1 ρ1 m g1 k1 I1
 exact n G1 σ1 H1 ρ1 (h2 ρ1 m) g1 k1 I1
noncomputable def qFN (K:wK):Sp:=fun vs H Q _=>∃(a:Addr) (ns:List Int),vs=[.ref a]/\SqL K H a (ns.map V.int)/\ns.length<=63/\∀ H',Q (.bl true) H'
theorem qK4 {P:Program} {w:World} {K:wK} {mg:Str->Option Value} {base:Heap} {qual:Str} {x:Str} {st:Stmt} {f:Addr} {fd:FuncData} {N:List Str} {k:Nat} (F:Fun K x qual st f fd) (S:qW N ["script"] (qG st))
  (hbody:∀(cdv:Value) (A:Around) (outer:List Env) (s:Shared) (H:Hp) (E:XK),Y3 k (A.deeper (PyProof.Rows.envOfC qual (qG st) s.heap.objs.size f cdv))->
   ∃ t,PSs (qIO CX0 P w K mg base N qual (qG st) f cdv A outer s H E).nox (j5 st) t/\
    ∀ ns:List Int,ns.length<=63->wpS [0] t (.f K (ns.map D.int)::wN (N.length - 1) .u) { nx:=fun _=>False,rt:=fun r _=>r=.d (.bl true) }) :
  Qg P w K mg base CX0 (k+1) f fd ["script"] (qFN K):=by
 refine F.ok S (fun vs H Q E h=>?_) fun cdv A outer s H vs Q E hr h=>?_
 ·obtain ⟨a,ns,rfl,_⟩:=h
  rfl
 ·obtain ⟨t,ht,hw⟩:=hbody cdv A outer s H E hr
  refine ⟨t,ht,?_⟩
  obtain ⟨a,ns,rfl,hS,hl,fin⟩:=h
  have I:SI H (fun _=>none) [.f K (ns.map D.int)] ([V.ref a].map some) H:=by
   refine ⟨fun i s e=>?_,qP.refl _,fun b o e=>(nomatch e),fun b o e=>(nomatch e),fun i j b xs ys h1=>?_,fun b ⟨i,xs,h1,_⟩=>?_,fun b xs e=>(nomatch e)⟩
   ·cases i with
    | zero=>
     cases e
     exact ⟨_,rfl,a,_,rfl,hS,qV.ints _ _⟩
    | succ i=>simp at e
   ·cases i with
    | zero=>cases h1
    | succ i=>simp at h1
   ·cases i with
    | zero=>cases h1
    | succ i=>simp at h1
  have I0:=I.ext 0 (N.length - 1) rfl
  rw [yW,yW,uA,uA] at I0
  refine hw ns hl H (fun _=>none) _ H I0 _ ?_ ?_ ?_ ?_
  ·intro G1 σ1 H1 ρ1 h1
   exact h1.elim
  ·intro G1 σ1 H1 ρ1 r v h1 g1 k1 I1 ok
   have h1':r=.d (.bl true):=h1
   subst h1'
   have e:v=.bl true:=ok
   rw [e]
   exact fin H1
  ·intro G1 σ1 H1 ρ1 h1
   exact h1.elim
  ·intro G1 σ1 H1 ρ1 h1
   exact h1.elim
noncomputable def qLm:D->Bool
 | .non=>true
 | _=>false
theorem qJe {H:Hp} {d:D} {v:V} (h:Den H d v):decide (v=.non)=qLm d:=by
 cases d with
 | non=>cases (show v=_ from h); rfl
 | bl b=>cases (show v=_ from h); rfl
 | int b=>cases (show v=_ from h); rfl
 | str b=>cases (show v=_ from h); rfl
 | tup l=>obtain ⟨a,xs,rfl,_⟩:=h; rfl
 | lst l=>obtain ⟨a,xs,rfl,_⟩:=h; rfl
 | dic=>obtain ⟨a,xs,rfl,_⟩:=h; rfl
theorem qLv {ρ:List Sl} {Φ:Rs->List Sl->Prop} {x:Rs} {d:D} (hx:rdE ρ x=some d) (h:Φ (.d (.bl (!qLm d))) ρ):OpV (fun x y H Q=>y=.non/\Q (.bl (!decide (x=.non))) H) x (.d .non) ρ Φ:=fun G F σ H vx vy I h1 h2 Q q=>by
 refine ⟨h2,?_⟩
 rw [qJe (Qm I h1 hx).1]
 exact qU q I h
theorem qKI.row {R R':List TRw} {r:TRw} (m:qKI R r R') (nd:(R.map (·.2)).Nodup):(R'.map (·.2)).Nodup/\(∀ ks,ks∈R'.map (·.2)↔ks∈R.map (·.2)\/ks=r.2)/\R'.length<=R.length+1/\∀ z∈R',z∈R\/z=r:=by
 rcases m with ⟨h,rfl⟩ | ⟨h,p⟩
 ·exact ⟨nd,fun ks=>⟨.inl,fun z=>z.elim id fun e=>e ▸ h⟩,Nat.le_succ _,fun z hz=>.inl hz⟩
 ·refine ⟨(p.map (·.2)).nodup_iff.mpr (zX.mpr ⟨h,nd⟩),fun ks=>?_,xB p.length_eq,fun z hz=>?_⟩
  ·rw [(p.map (·.2)).mem_iff]
   show ks∈r.2::R.map (·.2)↔_
   rw [wW]
   exact Or.comm
  ·exact (wW.mp (p.mem_iff.mp hz)).elim .inr .inl
theorem qI6 {G:Hp} {ks:List Int} {v:V} (h:Den G (qBF ks) v):∃ a,v=.ref a/\G a=some (.tup (ks.map V.int)):=by
 obtain ⟨a,vs,rfl,h1,h2⟩:=h
 exact ⟨a,rfl,h2.ints_eq ▸ h1⟩
theorem qDO {G:Hp}:∀{R:List TRw},(∀ r∈R,G r.1=some (.tup (r.2.map V.int)))->qV G ((R.map (·.2)).map qBF) (R.map fun r=>V.ref r.1)
 | [],_=>rfl
 | r::R,h=>⟨_,_,rfl,⟨r.1,_,rfl,h r wD,qV.ints _ _⟩,qDO fun z hz=>h z (wJ _ hz)⟩
theorem qGT {α:Type} {own:List Str} {fr:List (Str×Nat)} {wi:TI} {g:TG} {tt:TT} {te:TE} {ρ:List Sl} {Φ:Rs->List Sl->Prop} (enc:α->D) (l:List α) (p:α->Bool) (f:α->List Int)
  (h:wpI wi ρ fun xs ρ1=>xs=l.map enc/\l.length<59/\known ρ1 fr/\(isB (Qe fr)).Nodup/\(∀ a∈l,qG8 own fr g tt te ρ1 (enc a) (p a) (qBF (f a)))/\(∀ a,f a≠[])/\∀ L:List (List Int),L.Nodup->(∀ ks,ks∈L↔ks∈(l.filter p).map f)->L.Pairwise (fun a b=>HT.lexLt b a=false)->Φ (.l (L.map qBF)) ρ1):wpV (qDg own fr wi g tt te) ρ Φ:=by
 intro G0 F σ H0 I0 Q q0
 refine h G0 F σ H0 I0 _ fun G H J xs ρ1 ⟨ex,hl,kn,nd,st,ne,fin⟩ g1 I S=>?_
 subst ex
 have q:=q0.at g1 fun _ _ z=>z
 obtain ⟨vs,oks,ev⟩:=qAv I kn
 have I1:=I.focus oks nd
 have lv:vs.length=fr.length:=by rw [oks.len]; unfold Qe; rw [wC]
 have as_eq:(Qe fr).map (qHo ρ1)=fr.map fun p=>(ρ1[p.2]?).getD .u:=by unfold Qe; rw [zW]; rfl
 rw [as_eq] at I1
 have I2:=I1.ext own.length 0 (by rw [wC,lv])
 have e1:(wN own.length Sl.u++((fr.map fun p=>(ρ1[p.2]?).getD .u)++wN 0 Sl.u))=wN own.length Sl.u++Y1 fr ρ1:=by rw [yW,zK]; rfl
 have e2:(wN own.length none++(vs.map some++wN 0 none))=qd own fr σ:=by
  unfold qd
  rw [yW,zK,ev]
  congr 1
  rw [UN]
 rw [e1,e2] at I2
 have S2:Src J G (foc H F ρ1 σ (Qe fr)) (l.map enc):=fun i G' H' a b c=>S i G' H' a b ((JG I).trans c)
 generalize hF2:foc H F ρ1 σ (Qe fr)=F2 at S2 I1 I2
 have h0:∀(j:Nat) (v:V),vs[j]? = some v->(qd own fr σ)[own.length+j]? = some (some v):=fun j v e=>by
  rw [<- e2,zU (by rw [zN]; omega),zN,xF,yW,zK,wQ,e]
  rfl
 let Ok:Nat->List TRw->St->Hp->Prop:=fun i R σ' H'=>R.length<=i/\(R.map (·.2)).Nodup/\(∀ ks,ks∈R.map (·.2)↔ks∈((l.take i).filter p).map f)/\∃ G' os,os.length=own.length/\qP G G'/\Kp (bnd own fr) (qd own fr σ) σ'/\SI G' F2 (os++Y1 fr ρ1) σ' H'/\∀ r∈R,G' r.1=some (.tup (r.2.map V.int))
 refine ⟨fun i m R σ' H'=>m=l.length - i/\i<=l.length/\Ok i R σ' H',⟨l.length,by simp,yN _,yN _,vI,fun ks=>by simp,G,_,zN,qP.refl _,Kp.refl _ _,I2,fun r hr=>absurd hr zP⟩,?_⟩
 rintro i m R σ2 H2 ⟨rfl,hi,lR,ndR,inR,G2,os,ho,g2,k2,I4,rows⟩
 refine ⟨fun r hr=>I4.g _ _ (rows r hr),by omega,?_⟩
 obtain ⟨s1,s2⟩:=S2 i G2 H2 g2 I4.g I4.f
 rw [wC] at s1 s2
 by_cases hlt:i<l.length
 ·obtain ⟨go,yl⟩:=s1 hlt
  refine .inr ⟨go,fun R' σ' H'=>Ok (i+1) R' σ' H',fun R' σ' H' p'=>⟨l.length - (i+1),by omega,rfl,hlt,p'⟩,fun x H' y=>?_⟩
  obtain ⟨d,ed,yy⟩:=yl x H' y
  have ha:l[i]? = some l[i]:=wA hlt
  rw [wQ,ha] at ed
  obtain rfl:enc l[i]=d:=zS ed
  have et:(l.take (i+1)).filter p=(l.take i).filter p++if p l[i]=true then [l[i]] else []:=by
   rw [fT,ha,fL]
   congr 1
   cases hpa:p l[i] <;> simp [hpa]
  have turn:∀ G3,qP G2 G3->SI G3 F2 (os++Y1 fr ρ1) σ2 H'->Den G3 (enc l[i]) x->g x σ2 H' fun σ4 H4=>tt σ4 H4 fun b H5=>if b=true then te σ4 H5 fun y H6=>∃(a:Addr) (ks:List Int),y=.ref a/\H6 a=some (.tup (ks.map V.int))/\(∀ r∈R,H6 r.1=some (.tup (r.2.map V.int)))/\∀ R',qKI R (a,ks) R'->Ok (i+1) R' σ4 H6
    else Ok (i+1) R σ4 H5:=fun G3 g3 I3 dx=>by
   refine st l[i] (yY hlt) os ho G3 F2 σ2 H' x I3 dx _ ?_
   rintro G4 σ4 H4 ρ4 ⟨⟨os',ho',rfl⟩,h1,h2⟩ g4 k4 I5
   refine h1 G4 _ σ4 H4 I5 _ ?_
   rintro G5 H5 b ρ5 ⟨rfl,rfl⟩ g5 I6
   have gg:=((g2.trans g3).trans g4).trans g5
   cases hp:p l[i] with
   | false=>
    rw [if_neg wU]
    refine ⟨by omega,ndR,fun ks=>?_,G5,os',ho',gg,k2.trans k4,I6,fun r hr=>((g3.trans g4).trans g5) _ _ (rows r hr)⟩
    rw [et,hp,if_neg wU,zK]
    exact inR ks
   | true=>
    rw [if_pos rfl]
    refine h2 hp G5 _ σ4 H5 I6 _ ?_
    rintro G6 H6 y r ρ6 ⟨ed',rfl⟩ g6 I7 ok
    obtain ⟨G7,g7,I8,dy⟩:=qGk I7 ok ed'
    obtain ⟨a,rfl,ea⟩:=qI6 dy
    have old:∀ r∈R,G7 r.1=some (.tup (r.2.map V.int)):=fun r hr=>(((g3.trans g4).trans g5).trans (g6.trans g7)) _ _ (rows r hr)
    refine ⟨a,f l[i],rfl,I8.g _ _ ea,fun r hr=>I8.g _ _ (old r hr),fun R' mo=>?_⟩
    obtain ⟨m1,m2,m3,m4⟩:=qKI.row mo ndR
    refine ⟨by omega,m1,fun ks=>?_,G7,os',ho',(gg.trans g6).trans g7,k2.trans k4,I8,fun r hr=>(m4 r hr).elim (old r) fun e=>e ▸ ea⟩
    rw [m2,et,if_pos hp,yI,zR,inR]
    show _\/ks=f l[i]↔_\/ks∈[f l[i]]
    rw [zG]
  rcases yy with ⟨e,dx⟩ | ⟨p',o,hp,e,dx⟩
  ·subst e
   exact turn G2 (qP.refl _) I4 dx
  ·subst e
   obtain ⟨I3,g3⟩:=I4.newG (o:=o) hp
   exact turn _ g3 I3 dx
 ·have e:i=l.length:=by omega
  subst e
  refine .inl ⟨s2 rfl,fun r hr=>?_,fun R' A pm so hA=>?_⟩
  ·have:r.2∈R.map (·.2):=WK hr
   rw [inR] at this
   obtain ⟨a,_,z⟩:=zF.mp this
   rw [<- z]
   exact ne a
  ·have I6:=I4.sel (n:=fr.length) k2 h0 (xB lv.symm)
   have lc:(os++Y1 fr ρ1).length=own.length+fr.length:=by
    rw [wO,ho]
    unfold Y1
    rw [wC]
   have es:sel own.length (bnd own fr) fr.length (os++Y1 fr ρ1)=(os++Y1 fr ρ1).drop own.length:=qA1 lc
   rw [es,<- hF2] at I6
   have I7:=I.unfocus oks g2 I6
   have eo:wb ρ1 (Qe fr) ((os++Y1 fr ρ1).drop own.length)=ρ1:=JU (own:=own) ho
   rw [eo] at I7
   have rows':∀ r∈R',G2 r.1=some (.tup (r.2.map V.int)):=fun r hr=>rows r (pm.mem_iff.mp hr)
   refine Qs (q.at g2 fun _ _ z=>z) I7 (qDO rows') (fin (R'.map (·.2)) ((pm.map (·.2)).nodup_iff.mpr ndR) (fun ks=>?_) so) hA
   rw [(pm.map (·.2)).mem_iff,inR,xU]
noncomputable def isT:Option HO->Bool
 | some (.tup _)=>true
 | _=>false
noncomputable def tups (G:Hp):Hp:=fun a=>if isT (G a)=true then G a else none
noncomputable def both (G G':Hp):Hp:=fun a=>if G' a=none then G a else G' a
noncomputable def anew (G G3:Hp) (a:Addr) (vs:List V):Hp:=fun b=>if b=a then some (.lst vs) else if isT (G3 b)=true then G3 b else if G b=none then none else G3 b
end L4
namespace L2
open PySem PySem.Spec PyProof.Rows
end L2
namespace L4
open PySem L2
end L4
namespace L2
open PySem PySem.Spec PyProof.Rows
end L2
namespace L4
open PySem L2
section
variable {ρ:List Sl} {Φ:Rs->List Sl->Prop} {K:wK} {x y:Rs} {B:List Nat} {Ψ:VE}
theorem Qd {t:TS} {i:Nat} {xs:List D} (hi:ρ[i]? = some (.l xs)) (h:wpS B t (ρ.set i (.d (.lst xs))) Ψ):wpS B t ρ Ψ:=by
 intro G F σ H I D n r b ct
 obtain ⟨G',g,I'⟩:=I.freeze hi
 exact h G' F σ H I' D (n.at g (Kp.refl _ _)) (r.at g (Kp.refl _ _)) (b.at g (Kp.refl _ _)) (ct.at g (Kp.refl _ _))
end
noncomputable def dO:Bool->List D->D
 | true,xs=>.lst xs
 | false,xs=>.tup xs
theorem qIJ {G:Hp} {b:Bool} {xs:List D} {v:V} (h:Den G (dO b xs) v):∃ a ws,v=.ref a/\G a=some (hO b ws)/\qV G xs ws:=by
 cases b with
 | true=>exact h
 | false=>exact h
theorem qHi {b:Bool} {l1 l2:Addr} {us ws:List V} {xs ys:List D} {G F:Hp} (h1:G l1=some (hO b us)) (h2:qV G xs us) (k1:G l2=some (hO b ws)) (k2:qV G ys ws):Src (Itn b l1 l2) G F (qGm xs ys):=by
 intro i G' H' g gh _
 have e1:H' l1=some (hO b us):=gh _ _ (g _ _ h1)
 have e2:H' l2=some (hO b ws):=gh _ _ (g _ _ k1)
 have a1:=h2.length
 have a2:=k2.length
 rw [qDX]
 refine ⟨fun hi=>?_,fun hi=>⟨us,ws,e1,e2,by omega⟩⟩
 have i1:i<us.length:=by omega
 have i2:i<ws.length:=by omega
 refine ⟨⟨us,ws,us[i],ws[i],e1,e2,wA i1,wA i2⟩,fun x H2 y=>?_⟩
 obtain ⟨T,rfl,hT,hall⟩:=y
 have hH:=hall us ws _ _ e1 e2 (wA i1) (wA i2)
 obtain ⟨d1,p1,p2⟩:=h2.get (wA i1)
 obtain ⟨d2,q1,q2⟩:=k2.get (wA i2)
 refine ⟨_,qDZ p1 q1,.inr ⟨T,_,hT,hH,T,_,rfl,qH,?_⟩⟩
 have gT:G' T=none:=gh.free hT
 exact ⟨_,_,rfl,Den.mono (g.trans (qP.new gT)) _ _ p2,_,_,rfl,Den.mono (g.trans (qP.new gT)) _ _ q2,rfl⟩
theorem qLx {ρ:List Sl} {Φ:List D->List Sl->Prop} {ta:TA} (b:Bool) (h:wpA ta ρ fun rs ρ1=>∃ xs ys,its rs=some [dO b xs,dO b ys]/\Φ (qGm xs ys) ρ1):wpI (qK8 ta) ρ Φ:=by
 intro G F σ H I R q
 refine h G F σ H I _ fun G1 H1 vs rs ρ1 ⟨xs,ys,e,h1⟩ g1 I1 oks=>?_
 obtain ⟨G2,g2,I2,dn⟩:=qLC I1 oks e
 obtain ⟨v,r,rfl,d1,v',r',e',d2,e''⟩:=dn
 cases e'
 cases (show r'=[] from e'')
 obtain ⟨a,us,rfl,s1,d1'⟩:=qIJ d1
 obtain ⟨a',ws,rfl,s2,d2'⟩:=qIJ d2
 exact ⟨b,a,a',rfl,⟨us,I2.g _ _ s1⟩,⟨ws,I2.g _ _ s2⟩,q G2 H1 _ _ ρ1 h1 (g1.trans g2) I2 (qHi s1 d1' s2 d2')⟩
section
variable {ρ:List Sl} {Φ:Rs->List Sl->Prop} {x y:Rs} {K:wK}
theorem SlV.l {r r':V->Option Int->Option Int->Hp->VK->Prop} {lo hi:Option Int} (h:SlV r x lo hi ρ Φ):SlV (fun a l u H Q=>r a l u H Q\/r' a l u H Q) x lo hi ρ Φ:=fun G F σ H v I ok Q q=>.inl (h G F σ H v I ok Q q)
theorem SlV.r {r r':V->Option Int->Option Int->Hp->VK->Prop} {lo hi:Option Int} (h:SlV r' x lo hi ρ Φ):SlV (fun a l u H Q=>r a l u H Q\/r' a l u H Q) x lo hi ρ Φ:=fun G F σ H v I ok Q q=>.inr (h G F σ H v I ok Q q)
theorem qNd {xs:List D} {lo hi:Option Int} (hx:rd ρ x=some (.tup xs)) (h:Φ (.d (.tup (cutD xs lo hi))) ρ):SlV (qM6 K) x lo hi ρ Φ:=fun G F σ H v I ok Q q=>by
 have g1:=Jk I ok hx (fun _ z=>by cases z)
 obtain ⟨a,vs,rfl,s1,d1⟩:=JO I ok hx
 refine ⟨a,vs,rfl,SqT.of (I.g _ _ s1),fun hw=>?_,fun _ p hp=>qCO q I (qDV d1) h hp⟩
 rw [d1.length] at hw
 unfold cutD at h
 rw [hw.1,hw.2,TL,Nat.sub_zero,xU] at h
 exact qEG q I g1 h
end
theorem qJ7 {K:wK} {a:Addr} {ws:List V} {xs:List D} {G F:Hp} (h1:G a=some (.lst ws)) (h2:qV G xs ws):Src (Itv K a ws.length) G F xs.reverse:=by
 intro i G' H' g gh gf
 have st:SqL K H' a ws:=SqL.of (gh _ _ (g _ _ h1))
 have hl:=h2.length
 refine ⟨fun hi=>?_,fun hi=>?_⟩
 ·rw [hU] at hi
  have hj:ws.length - 1 - i<ws.length:=by omega
  refine ⟨⟨ws,ws[ws.length - 1 - i],st,rfl,by omega,wA hj⟩,fun x H2 y=>?_⟩
  obtain ⟨e,y⟩:=y
  subst e
  obtain ⟨d,e1,e2⟩:=h2.get (y ws st)
  refine ⟨d,?_,.inl ⟨rfl,Den.mono g _ _ e2⟩⟩
  rw [List.getElem?_reverse (by omega),<- hl]
  exact e1
 ·rw [hU] at hi
  show ws.length<=i
  omega
theorem qME {ρ:List Sl} {Φ:List D->List Sl->Prop} {K:wK} {ta:TA} (h:wpA ta ρ fun rs ρ1=>∃ xs,its rs=some [.lst xs]/\Φ xs.reverse ρ1):wpI (qNm K ta) ρ Φ:=by
 intro G F σ H I R q
 refine h G F σ H I _ fun G1 H1 vs rs ρ1 ⟨xs,e,h1⟩ g1 I1 oks=>?_
 obtain ⟨G2,g2,I2,dn⟩:=qLC I1 oks e
 obtain ⟨v,r,rfl,d1,e'⟩:=dn
 cases (show r=[] from e')
 obtain ⟨a,ws,rfl,k1,k2⟩:=d1
 exact ⟨a,ws,rfl,SqL.of (I2.g _ _ k1),q G2 H1 _ _ ρ1 h1 (g1.trans g2) I2 (qJ7 k1 k2)⟩
section
variable {ρ:List Sl} {Φ:Rs->List Sl->Prop} {x y:Rs} {K:wK}
theorem Yi {nss:List (List Int)} (hx:rdE ρ x=some (.tup (nss.map qBF))\/rdE ρ x=some (.lst (nss.map qBF))) (hn:2<=nss.length->∀ ns∈nss,ns≠[]) (h64:nss.length<=sizeLine) (h:∀ nss':List (List Int),nss'.Perm nss->nss'.Pairwise (fun a b=>HT.lexLt b a=false)->Φ (.l (nss'.map qBF)) ρ):Qn qIj [x] ρ Φ:=fun G F σ H vs I h1 Q q=>by
 obtain ⟨v,rfl,ok⟩:=Qq h1
 have fin:∀{xs:List V},qV G (nss.map qBF) xs->∀(is:List Nat) (l:Addr),is.Perm (wV nss.length)->(is.map fun i=>nss.getD i []).Pairwise (fun a b=>HT.lexLt b a=false)->H l=none->Q (.ref l) (upd H l (.lst (is.map fun i=>xs.getD i V.non))):=fun {xs} hd is l pm pw hl=>by
  have lx:xs.length=nss.length:=by rw [hd.length,wC]
  refine Qs q I (qBn hd is fun i hi=>?_) (h _ ?_ pw) hl
  ·have:=zO.mp (pm.mem_iff.mp hi)
   omega
  ·have:=pm.map (fun i=>nss.getD i [])
   rw [Y5] at this
   exact this
 rcases hx with hx | hx
 ·obtain ⟨a,ws,rfl,s1,d1⟩:=(Qm I ok hx).2.1 (fun _ z=>by cases z)
  exact ⟨a,ws,nss,rfl,.inl (I.g _ _ s1),qV.mono I.g _ _ d1,hn,h64,fin d1⟩
 ·obtain ⟨a,ws,rfl,s1,d1⟩:=(Qm I ok hx).2.2 _ rfl
  exact ⟨a,ws,nss,rfl,.inr s1,qV.mono I.g _ _ d1,hn,h64,fin d1⟩
end
end L4
namespace L2
open PySem PySem.Spec PyProof.Rows PySem.W
end L2
namespace L4
open PySem L2
section
variable {ρ:List Sl} {Φ:Rs->List Sl->Prop} {K:wK} {x:Rs}
theorem qGg {i:Int} (hx:rd ρ x=some (.int i)) (h:Φ (.d (.int (i.natAbs:Nat))) ρ):Qn (fun xs H Q=>∃ i,xs=[.int i]/\Q (.int (if i<0 then -i else i)) H) [x] ρ Φ:=fun G F σ H vs I h1 Q q=>by
 obtain ⟨v,rfl,ok⟩:=Qq h1
 cases qX I ok hx
 refine ⟨i,rfl,?_⟩
 have e:(if i<0 then -i else i)=(i.natAbs:Int):=by split <;> omega
 rw [e]
 exact j8 q I h
end
open PyProof.Rows (step_dedup step_length firstMet)
section
variable {κ:Type} [DecidableEq κ]
noncomputable def J4 (ks:List (κ×D)) (k:κ):Option D:=(ks.find? fun p=>decide (p.1=k)).map (·.2)
noncomputable def putD (ks:List (κ×D)) (k:κ) (d:D):List (κ×D):=if (ks.any fun p=>decide (p.1=k))=true then ks.map (fun p=>if p.1=k then (p.1,d) else p) else ks++[(k,d)]
theorem jE (p:κ×D) (ks:List (κ×D)) (j:κ):J4 (p::ks) j=if p.1=j then some p.2 else J4 ks j:=by
 by_cases e:p.1=j
 ·rw [if_pos e]
  simp [J4,gB,e]
 ·rw [if_neg e]
  simp [J4,gB,e]
theorem Jr (k:κ):∀ ks:List (κ×D),(ks.any fun p=>decide (p.1=k))=(J4 ks k).isSome
 | []=>rfl
 | p::ks=>by
  rw [TZ,jE,Jr k ks]
  by_cases e:p.1=k
  ·rw [decide_eq_true e,if_pos e]
   rfl
  ·rw [decide_eq_false e,if_neg e]
   rfl
theorem qC7 (k j:κ) (d:D):∀ ks:List (κ×D),J4 (ks.map fun p=>if p.1=k then (p.1,d) else p) j=if j=k then (J4 ks j).map (fun _=>d) else J4 ks j
 | []=>by
  show none=_
  split <;> rfl
 | p::ks=>by
  rw [xH,jE,jE,qC7 k j d ks]
  by_cases e:p.1=k
  ·rw [if_pos e]
   by_cases e2:j=k
   ·have e3:p.1=j:=e.trans e2.symm
    rw [if_pos e3,if_pos e2,if_pos e3]
    rfl
   ·have e3:¬ p.1=j:=fun z=>e2 (z.symm.trans e)
    rw [if_neg e3,if_neg e2,if_neg e3,if_neg e2]
  ·rw [if_neg e]
   by_cases e2:p.1=j
   ·have e3:¬ j=k:=fun z=>e (e2.trans z)
    rw [if_pos e2,if_neg e3,if_pos e2]
   ·rw [if_neg e2,if_neg e2]
theorem qBz (k j:κ) (d:D):∀ ks:List (κ×D),J4 ks k=none->J4 (ks++[(k,d)]) j=if j=k then some d else J4 ks j
 | [],_=>by
  rw [uA,jE]
  by_cases e:k=j
  ·rw [if_pos e,if_pos e.symm]
  ·rw [if_neg e,if_neg (fun z=>e z.symm)]
 | p::ks,h=>by
  rw [jE] at h
  have e:¬ p.1=k:=fun z=>by rw [if_pos z] at h; cases h
  rw [if_neg e] at h
  rw [List.cons_append,jE,jE,qBz k j d ks h]
  by_cases e2:p.1=j
  ·have e3:¬ j=k:=fun z=>e (e2.trans z)
   rw [if_pos e2,if_neg e3,if_pos e2]
  ·rw [if_neg e2,if_neg e2]
theorem qDi (ks:List (κ×D)) (k j:κ) (d:D):J4 (putD ks k d) j=if j=k then some d else J4 ks j:=by
 unfold putD
 by_cases e:(ks.any fun p=>decide (p.1=k))=true
 ·rw [if_pos e,qC7]
  by_cases e2:j=k
  ·rw [if_pos e2,if_pos e2,e2]
   rw [Jr] at e
   cases h:J4 ks k with
   | none=>rw [h] at e; cases e
   | some _=>rfl
  ·rw [if_neg e2,if_neg e2]
 ·rw [if_neg e]
  rw [Jr] at e
  exact qBz k j d ks (by cases h:J4 ks k with | none=>rfl | some _=>rw [h] at e; exact absurd rfl e)
theorem qHc (ks:List (κ×D)) (k:κ) (d:D):(putD ks k d).length<=ks.length+1:=by
 unfold putD
 split
 ·rw [wC]; omega
 ·rw [wO]; exact wH _
end
section
variable {ρ:List Sl} {Φ:Rs->List Sl->Prop} {x y:Rs} {K:wK} {G F H:Hp} {σ:St} {B:List Nat} {Ψ:VE}
theorem qIx {i:Nat} {p:Pl} (hi:ρ[i]? = some (.o p)) (h:Φ (.b i) ρ):wpV (qIX i) ρ Φ:=fun G F σ H I Q q=>by
 obtain ⟨o,e,a,vs,rfl,hv⟩:=I.ok i _ hi
 exact ⟨_,e,q G H (.ref a) _ ρ h (qP.refl _) I e⟩
theorem qMh {Q:VK} (q:Fin G F σ Φ Q) (I:SI G F ρ σ H) {pl:Pl} {o:HO} {p:Addr} (hv:qEc G pl p o) (h:Φ (.o pl) ρ) (hp:H p=none):Q (.ref p) (upd H p o):=by
 refine q G _ _ _ ρ h (qP.refl _) (I.new hp) ⟨p,_,rfl,qH,hv,I.g.free hp,I.f.free hp,?_⟩
 rintro ⟨i,ys,h1,h2⟩
 obtain ⟨o',e1,a,ws,z,h3,_⟩:=I.ok i _ h1
 rw [h2] at e1
 cases e1
 cases z
 rw [hp] at h3
 cases h3
theorem qJh {p:Pl} {i:Nat} {v:V} (I:SI G F ρ σ H) (hi:ρ[i]? = some (.o p)) (ok:jQ G F ρ σ H (.b i) v):∃ a o,v=.ref a/\σ[i]? = some (some (.ref a))/\H a=some o/\qEc G p a o:=by
 obtain ⟨o,e,a,vs,z,h1,h2⟩:=I.ok i _ hi
 have ok':σ[i]? = some (some v):=ok
 rw [ok'] at e
 cases e
 cases z
 exact ⟨a,vs,rfl,ok',h1,h2⟩
theorem qIk {i:Nat} {xs:List D} (hi:ρ[i]? = some (.f K xs)) (h:Φ (.d (.int xs.length)) ρ):Qn (fun xs H Q=>∃ p ys,xs=[.ref p]/\(SqL K H p ys\/SqT K H p ys)/\Q (.int ys.length) H) [.b i] ρ Φ:=fun G F σ H vs I h1 Q q=>by
 obtain ⟨v,rfl,ok⟩:=Qq h1
 obtain ⟨o,e,a,ws,z,k1,k2⟩:=I.ok i _ hi
 have ok':σ[i]? = some (some v):=ok
 rw [ok'] at e
 cases e
 cases z
 refine ⟨a,ws,rfl,.inl (I.g.seq k1),?_⟩
 rw [k2.length]
 exact j8 q I h
theorem qMp {i:Nat} {xs:List D} {k:Int} {d:D} (hx:ρ[i]? = some (.f K xs)) (hy:rd ρ y=some (.int k)) (hi:atI xs k=some d) (h:Φ (.d d) ρ):OpV (rIx K) (.b i) y ρ Φ:=fun G F σ H vx vy I h1 h2 Q q=>by
 obtain ⟨o,e,a,ws,z,k1,k2⟩:=I.ok i _ hx
 have ok':σ[i]? = some (some vx):=h1
 rw [ok'] at e
 cases e
 cases z
 obtain ⟨v,e1,e2⟩:=qFM k2 hi
 exact .inl ⟨a,ws,k,v,rfl,qX I (ok2 h1 h2) hy,I.g.seq k1,e1,qEG q I e2 h⟩
end
section
variable {ρ:List Sl} {Φ:Rs->List Sl->Prop}
theorem qMy {te:TE} (h:wpV te ρ fun r ρ1=>∃ d,r.it=some d/\Φ (.d d) ρ1):wpV te ρ Φ:=fun G F σ H I Q q=>
 h G F σ H I Q fun G1 H1 v r ρ1 ⟨d,ed,h1⟩ g1 I1 ok1=>by
  obtain ⟨G2,g2,I2,dn⟩:=qGk I1 ok1 ed
  exact q G2 H1 v (.d d) ρ1 h1 (g1.trans g2) I2 dn
end
noncomputable abbrev YD (G:Hp):List (Q0×D)->List Y2->Prop:=Paired fun p x=>p.1=x.1/\Den G p.2 (.ref x.2.2)
noncomputable def dwP (ks:List (Q0×D)):Pl:=.ex fun G a o=>∃ xs,o=hoW a xs/\JD G xs/\YD G ks xs
theorem qE5 {G:Hp} {k:Q0} {ks:List (Q0×D)} {xs:List Y2} (p:YD G ks xs):(J4 ks k=none/\atW xs k=none)\/∃ d v,J4 ks k=some d/\atW xs k=some v/\Den G d (.ref v):=by
 induction p with
 | nil=>exact Or.inl (And.intro rfl rfl)
 | @cons q x qs ys r t ih=>
  by_cases e:q.1=k
  ·refine .inr ⟨q.2,x.2.2,?_,?_,r.2⟩
   ·rw [jE,if_pos e]
   ·unfold atW
    rw [gB,decide_eq_true (r.1 ▸ e)]
    rfl
  ·have e2:¬ x.1=k:=r.1 ▸ e
   have e1:atW (x::ys) k=atW ys k:=by
    unfold atW
    rw [gB,decide_eq_false e2]
   rw [jE,if_neg e,e1]
   exact ih
theorem qBx {G:Hp} {k:Q0} {ks:List (Q0×D)} {xs:List Y2} (p:YD G ks xs):(atW xs k).isSome=(J4 ks k).isSome:=by
 rcases qE5 (k:=k) p with ⟨a,b⟩ | ⟨d,v,a,b,_⟩ <;> rw [a,b] <;> rfl
theorem qH2 {G:Hp} {k:Q0} {d:D} {c:Addr} (hd:Den G d (.ref c)) {ks:List (Q0×D)} {xs:List Y2} (p:YD G ks xs):YD G (ks.map fun q=>if q.1=k then (q.1,d) else q) (xs.map fun x=>if x.1=k then (x.1,x.2.1,c) else x):=by
 induction p with
 | nil=>exact .nil
 | @cons q x qs ys r t ih=>
  refine .cons ?_ ih
  dsimp only
  by_cases e:q.1=k
  ·rw [if_pos e,if_pos (r.1 ▸ e)]
   exact ⟨r.1,hd⟩
  ·rw [if_neg e,if_neg (r.1 ▸ e)]
   exact r
theorem qHG {G:Hp} {k:Q0} {d:D} {b c:Addr} {ks:List (Q0×D)} {xs:List Y2} (p:YD G ks xs) (hd:Den G d (.ref c)):YD G (putD ks k d) (qHm xs k b c):=by
 unfold putD qHm
 rw [Jr,qBx p]
 by_cases e:(J4 ks k).isSome=true
 ·rw [if_pos e,if_pos e]
  exact qH2 hd p
 ·rw [if_neg e,if_neg e]
  exact Paired.snoc p ⟨rfl,hd⟩
theorem qHM {G:Hp} {k:Q0} {b c:Addr} {xs:List Y2} (h:JD G xs) (hb:Den G (qCj k) (.ref b)):JD G (qHm xs k b c):=fun x hx=>by
 unfold qHm at hx
 by_cases e:(atW xs k).isSome=true
 ·rw [if_pos e] at hx
  obtain ⟨y,hy,ey⟩:=zF.mp hx
  rw [<- ey]
  by_cases e:y.1=k
  ·rw [if_pos e]
   exact h y hy
  ·rw [if_neg e]
   exact h y hy
 ·rw [if_neg e] at hx
  rcases zR.mp hx with z | z
  ·exact h x z
  ·rw [zG.mp z]
   exact hb
theorem Qb {G G':Hp} (g:qP G G') {xs:List Y2} (h:JD G xs):JD G' xs:=fun x hx=>Den.mono g _ _ (h x hx)
theorem qD2 {G G':Hp} (g:qP G G') {ks:List (Q0×D)} {xs:List Y2} (p:YD G ks xs):YD G' ks xs:=Paired.mapP p fun _ _ z=>⟨z.1,Den.mono g _ _ z.2⟩
theorem qLs {G:Hp} {a:Addr} {ks:List (Q0×D)} {xs:List Y2} (h1:JD G xs) (h2:YD G ks xs):qEc G (dwP ks) a (hoW a xs):=⟨fun ys z=>(by cases z),fun G' g=>⟨xs,rfl,Qb g h1,qD2 g h2⟩⟩
theorem qJ9 {G:Hp} {a:Addr} {o:HO} {ks:List (Q0×D)} (h:qEc G (dwP ks) a o):∃ xs,o=hoW a xs/\JD G xs/\YD G ks xs:=h.2 G (qP.refl _)
section
variable {ρ:List Sl} {Φ:Rs->List Sl->Prop} {B:List Nat} {Ψ:VE}
theorem qLJ (h:Φ (.o (dwP [])) ρ):wpV qKj ρ Φ:=fun G F σ H I Q q p hp=>qMh (pl:=dwP []) q I (qLs (fun x hx=>absurd hx zP) .nil) h hp
theorem qKh {td ty:TE} (h:wpV td ρ fun o ρ1=>∃ i,o=.b i/\wpV ty ρ1 fun y ρ2=>∃ ks k d,ρ2[i]? = some (.o (dwP ks))/\rd ρ2 y=some (qCj k)/\J4 ks k=some d/\Φ (.d d) ρ2):wpV (qLV td ty) ρ Φ:=by
 intro G F σ H I Q q
 refine h G F σ H I _ fun G1 H1 w o ρ1 ⟨i,eo,h1⟩ g1 I1 ok1=>?_
 subst eo
 refine h1 G1 F σ H1 I1 _ fun G2 H2 z y ρ2 ⟨ks,k,d,e1,e2,e3,h2⟩ g2 I2 ok2=>?_
 obtain ⟨a,o,rfl,_,ha,po⟩:=qJh I2 e1 ok1
 obtain ⟨xs,rfl,kx,rx⟩:=qJ9 po
 have dk:Den G2 (qCj k) z:=Jk I2 ok2 e2 (fun ys q=>by cases q)
 obtain ⟨b,us,rfl,_⟩:=id dk
 rcases qE5 (k:=k) rx with ⟨z1,_⟩ | ⟨d',v,z1,z2,z3⟩
 ·rw [z1] at e3; cases e3
 ·rw [z1] at e3
  cases e3
  exact ⟨a,xs,k,b,v,rfl,ha,Qb I2.g kx,rfl,Den.mono I2.g _ _ dk,z2,q G2 H2 (.ref v) (.d d) ρ2 h2 (g1.trans g2) I2 z3⟩
theorem qLP {td ty:TE} (h:wpV ty ρ fun y ρ1=>∃ k,y=.d (qCj k)/\wpV td ρ1 fun o ρ2=>∃ i ks,o=.b i/\ρ2[i]? = some (.o (dwP ks))/\Φ (.d (.bl (!(J4 ks k).isSome))) ρ2):wpV (qGc ty td) ρ Φ:=by
 intro G F σ H I Q q
 refine h G F σ H I _ fun G1 H1 w y ρ1 ⟨k,ey,h1⟩ g1 I1 ok1=>?_
 subst ey
 refine h1 G1 F σ H1 I1 _ fun G2 H2 z o ρ2 ⟨i,ks,eo,e1,h2⟩ g2 I2 ok2=>?_
 subst eo
 obtain ⟨a,o,rfl,_,ha,po⟩:=qJh I2 e1 ok2
 obtain ⟨xs,rfl,kx,rx⟩:=qJ9 po
 have dk:Den G2 (qCj k) w:=Den.mono g2 _ _ ok1
 obtain ⟨b,us,rfl,_⟩:=id dk
 refine ⟨a,xs,k,b,rfl,ha,Qb I2.g kx,rfl,Den.mono I2.g _ _ dk,?_⟩
 rw [qBx rx]
 exact q G2 H2 _ (.d (.bl _)) ρ2 h2 (g1.trans g2) I2 rfl
theorem qKR {td ty tv:TE} (h:wpV tv ρ fun r ρ1=>∃ ys,r.it=some (.lst ys)/\wpV td ρ1 fun o ρ2=>∃ i,o=.b i/\wpV ty ρ2 fun y ρ3=>∃ k ks,rd ρ3 y=some (qCj k)/\ρ3[i]? = some (.o (dwP ks))/\ks.length<sizeLine/\Ψ.nx (ρ3.set i (.o (dwP (putD ks k (.lst ys)))))):wpS B (qLk td ty tv) ρ Ψ:=by
 intro G F σ H I D n rt b ct
 refine h G F σ H I _ fun G1 H1 v r ρ1 ⟨ys,ed,h1⟩ g1 I1 ok1=>?_
 obtain ⟨G1',g1',I1',dn⟩:=qGk I1 ok1 ed
 refine h1 G1' F σ H1 I1' _ fun G2 H2 w o ρ2 ⟨i,eo,h2⟩ g2 I2 ok2=>?_
 subst eo
 refine h2 G2 F σ H2 I2 _ fun G3 H3 z y ρ3 ⟨k,ks,e1,e2,e3,h3⟩ g3 I3 ok3=>?_
 obtain ⟨a,o,rfl,e5,ha,po⟩:=qJh I3 e2 ok2
 obtain ⟨xs,rfl,kx,rx⟩:=qJ9 po
 have dk:Den G3 (qCj k) z:=Jk I3 ok3 e1 (fun ys q=>by cases q)
 obtain ⟨kb,us,rfl,_⟩:=id dk
 have dn3:=Den.mono (g2.trans g3) _ _ dn
 obtain ⟨c,vs,rfl,_⟩:=id dn
 refine ⟨a,xs,k,kb,c,rfl,ha,Qb I3.g kx,rfl,Den.mono I3.g _ _ dk,rfl,by rw [<- fU rx]; exact e3,?_⟩
 exact n G3 σ _ _ h3 (((g1.trans g1').trans g2).trans g3) (Kp.refl _ _) (I3.putO e2 e5 (qLs (qHM kx dk) (qHG rx dn3)))
end
noncomputable def jB (t u:TS):TS:=Qi t u
section
variable {B:List Nat} {ρ:List Sl} {Ψ:VE}
theorem qLH {t u:TS} (h:wpS B t ρ { Ψ with nx:=fun ρ1=>wpS B u ρ1 Ψ }):wpS B (jB t u) ρ Ψ:=qET h
theorem nm2 {t1 t2:TS} (h:let Φ:=Ψ; let y2:=t2; let y1:=jB t1 y2; wpS B y1 ρ Φ):wpS B (Qi t1 t2) ρ Ψ:=h
theorem nm3 {t1 t2 t3:TS} (h:let Φ:=Ψ; let y3:=t3; let y2:=jB t2 y3; let y1:=jB t1 y2; wpS B y1 ρ Φ):wpS B (Qi t1 (Qi t2 t3)) ρ Ψ:=h
theorem nm4 {t1 t2 t3 t4:TS} (h:let Φ:=Ψ; let y4:=t4; let y3:=jB t3 y4; let y2:=jB t2 y3; let y1:=jB t1 y2; wpS B y1 ρ Φ):wpS B (Qi t1 (Qi t2 (Qi t3 t4))) ρ Ψ:=h
theorem nm5 {t1 t2 t3 t4 t5:TS} (h:let Φ:=Ψ; let y5:=t5; let y4:=jB t4 y5; let y3:=jB t3 y4; let y2:=jB t2 y3; let y1:=jB t1 y2; wpS B y1 ρ Φ):wpS B (Qi t1 (Qi t2 (Qi t3 (Qi t4 t5)))) ρ Ψ:=h
theorem qN2 {t1 t2 t3 t4 t5 t6 t7 t8 t9 t10 t11 t12:TS} (h:let Φ:=Ψ; let y12:=t12; let y11:=jB t11 y12; let y10:=jB t10 y11; let y9:=jB t9 y10; let y8:=jB t8 y9; let y7:=jB t7 y8; let y6:=jB t6 y7; let y5:=jB t5 y6; let y4:=jB t4 y5; let y3:=jB t3 y4; let y2:=jB t2 y3; let y1:=jB t1 y2; wpS B y1 ρ Φ):wpS B (Qi t1 (Qi t2 (Qi t3 (Qi t4 (Qi t5 (Qi t6 (Qi t7 (Qi t8 (Qi t9 (Qi t10 (Qi t11 t12))))))))))) ρ Ψ:=h
theorem qN5 {t1 t2 t3 t4 t5 t6 t7 t8 t9 t10:TS} {wi:TI} {g:TG} (h:let Φ:=Ψ; let y10:=t10; let y9:=jB t9 y10; let y8:=jB t8 y9; let y7:=jB t7 y8; let y6:=jB t6 y7; let y5:=jB t5 y6; let y4:=jB t4 y5; let y3:=jB t3 y4; let y2:=jB t2 y3; let y1:=jB t1 y2; wpS B (qL5 wi g y1) ρ Φ):wpS B (qL5 wi g (Qi t1 (Qi t2 (Qi t3 (Qi t4 (Qi t5 (Qi t6 (Qi t7 (Qi t8 (Qi t9 t10)))))))))) ρ Ψ:=h
noncomputable def Le:List Sl->List Sl->Prop
 | [],[]=>True
 | _::ρ,.u::τ=>Le ρ τ
 | s::ρ,.d x::τ=>s=.d x/\Le ρ τ
 | s::ρ,.o x::τ=>s=.o x/\Le ρ τ
 | s::ρ,.f K x::τ=>s=.f K x/\Le ρ τ
 | _,_=>False
theorem Le.at_:∀{ρ τ:List Sl},Le ρ τ->∀(i:Nat) (s:Sl),τ[i]? = some s->(s=.u/\∃ t,ρ[i]? = some t)\/ρ[i]? = some s
 | [],[],_,i,s,e=>by cases e
 | _::ρ,.u::τ,h,0,s,e=>.inl ⟨(zS e).symm,_,rfl⟩
 | _::ρ,.u::τ,h,i+1,s,e=>Le.at_ (ρ:=ρ) (τ:=τ) h i s e
 | _::ρ,.d x::τ,h,0,s,e=>.inr ((congrArg some h.1).trans e)
 | _::ρ,.d x::τ,h,i+1,s,e=>Le.at_ (ρ:=ρ) (τ:=τ) h.2 i s e
 | _::ρ,.o x::τ,h,0,s,e=>.inr ((congrArg some h.1).trans e)
 | _::ρ,.o x::τ,h,i+1,s,e=>Le.at_ (ρ:=ρ) (τ:=τ) h.2 i s e
 | _::ρ,.f K x::τ,h,0,s,e=>.inr ((congrArg some h.1).trans e)
 | _::ρ,.f K x::τ,h,i+1,s,e=>Le.at_ (ρ:=ρ) (τ:=τ) h.2 i s e
theorem SI.le {G F H:Hp} {σ:St} {τ:List Sl} (l:Le ρ τ) (I:SI G F ρ σ H):SI G F τ σ H:=by
 have own:∀{i:Nat} {p:Pl},τ[i]? = some (.o p)->ρ[i]? = some (.o p):=fun e=>(l.at_ _ _ e).resolve_left fun z=>by cases z.1
 refine ⟨fun i s e=>?_,I.g,I.f,I.gf,fun i j a xs ys h1 h2=>I.nd i j a xs ys (own h1) (own h2),fun a ⟨i,xs,h1,h2⟩=>I.out a ⟨i,xs,own h1,h2⟩,I.ft⟩
 rcases l.at_ i s e with ⟨rfl,t,z⟩ | z
 ·obtain ⟨o,h1,_⟩:=I.ok i t z
  exact ⟨o,h1,trivial⟩
 ·exact I.ok i s z
theorem qMm {t:TS} {τ:List Sl} (l:Le ρ τ) (h:wpS B t τ Ψ):wpS B t ρ Ψ:=fun G F σ H I=>h G F σ H (I.le l)
theorem qHR {g:TG} {d:D} {τ:List Sl} {Φ:List Sl->Prop} (l:Le ρ τ) (h:wpG B g (.d d) τ Φ):wpG B g (.d d) ρ Φ:=fun G F σ H v I ok=>h G F σ H v (I.le l) ok
end
end L4
namespace L2
open PySem
noncomputable def Has (P:Program) (w:World) (K:wK) (mg:Str->Option Value) (base:Heap) (x:Str) (st:Stmt) (ps:List Str) (k:Nat) (sp:Sp):Prop:=∃ f fd,qLX K mg x st ps f fd/\Qg P w K mg base CX0 k f fd ps sp
section
variable {X:Cx} {x:Str} {pos:Pos}
theorem qp {st:Stmt} {ps:List Str} {j k:Nat} {sp:Sp} {e:Expr} {es:List Expr} {t:TA} {p:Pos} (h:Has X.prog X.w X.K X.mg X.base x st ps k sp) (hr:Y3 j X.A) (ha:PA X (e::es) t) (hk:k<=j:=by decide) (hg:Gl X x:=by rfl) (hdb:(x == ("__debug__" : Str))=false:=by decide) (he:starEach (e::es) X.env=(false,eval e X.env)::starEach es X.env:=by rfl) (hpl:(backTo pos (starEach es X.env)).any (·.1)=false:=by rfl):PE X (.Call (.Name x p) (e::es) [] pos) (qG9 sp [] E0 t):=
 let ⟨_,_,D,F⟩:=h
 qIq F (hr.mono hk) hg D.mg D.fn.kp D.bd .nil qMX ha hdb he hpl
theorem QH {K:wK} {a b:Expr} {ta tb:TE} (ha:PE X a ta) (hb:PE X b tb) (hK:X.K=K:=by rfl) (hs:qFh b:=by exact fun _ _=>rfl):PE X (.Subscript a b pos) (tOp (rIx K) ta tb):=qMK (ixK hK) ha hb hs
theorem jw (i:Nat) {P:List Str} {sc:Scope} {e:Expr} {te:TE} {pos':Pos} (S:qW X.N P sc) (he:PE X e te) (hi:X.N[i]? = some x:=by rfl) (hx:Loc X.env.scope x:=by first | exact .inl rfl | exact .inr rfl) (hs:swapsWith e (some (.Name x pos')) pos.line X.env=pure false:=by rfl) (hf:X.fn x=true\/X.env.scope.names.lookup x=some .local:=by first | exact .inl rfl | exact .inr rfl | assumption):PS X (.Assign [.Name x pos'] e pos) (qKJ te (qB2 i)):=qLL S.nd hi hx he hs hf
theorem qBG (i:Nat) {P:List Str} {sc:Scope} (S:qW X.N P sc) (hi:X.N[i]? = some x:=by rfl) (hx:Loc X.env.scope x:=by first | exact .inl rfl | exact .inr rfl) (hf:X.fn x=true\/X.env.scope.names.lookup x=some .local:=by first | exact .inl rfl | exact .inr rfl | assumption):PG X (.Name x pos) (qB2 i):=qE1 S.nd hi hx hf
theorem Qx (i:Nat) {N:List Str} {scope:Scope} {cl:List (Str×Addr)} {C:Addr} {s0:Shared} {H0:Hp} {fp:List Addr} (hi:N[i]? = some x:=by rfl) (hN:N.Nodup:=by decide +kernel) (hx:Loc (qQ X N scope cl C s0 H0 fp).env.scope x:=by first | exact .inl rfl | exact .inr rfl) (hf:(qQ X N scope cl C s0 H0 fp).fn x=true\/(qQ X N scope cl C s0 H0 fp).env.scope.names.lookup x=some .local:=by first | exact .inl rfl | exact .inr rfl | assumption):PG (qQ X N scope cl C s0 H0 fp) (.Name x pos) (qB2 i):=qE1 (X:=qQ X N scope cl C s0 H0 fp) hN hi hx hf
end
end L2
namespace L4
theorem ite_no {a b:Prop} (h:b):if false=true then a else b:=h
end L4
namespace PySem.W.Fast
def tw15474857341090217440:=0
def tw4903195285429227649:=0
def tw569768775675998657:=0
def tw4978156700980594369:=0
def tw9108037747896313729:=0
def tw8044678357500904482:=0
def tw7063044934864092226:=0
def tw12885208482920256610:=0
def tw14428665015295973538:=0
def tw6555832630025453922:=0
def tw556856893924936162:=0
def tw3396100168986799618:=0
def tw7185843275560151714:=0
def tw7327450961923910306:=0
def tw15491779781208982274:=0
def tw9416564306721865666:=0
def tw5953651118969317795:=0
def tw2089338252921372099:=0
def tw6827432962600575651:=0
def tw9665447570871549763:=0
def tw13115105036573993988:=0
def tw15332695595160413252:=0
def tw5914036387076690244:=0
def tw2457074950351828356:=0
def tw12735610306988032452:=0
def tw17198018628689294820:=0
def tw4338306396369526340:=0
def tw8704349073089314564:=0
def tw7571489371856448292:=0
def tw18185028240290084676:=0
def tw15533700213146113988:=0
def tw14323097618929410053:=0
def tw15391462515451129893:=0
def tw12622938600373039525:=0
def tw10343845495648336038:=0
def tw11118060337037836518:=0
def tw17643030941602511110:=0
def tw12526816249109717606:=0
def tw14761827098226821766:=0
def tw15134725673090136902:=0
def tw8559653778721062790:=0
def tw3747406434787524647:=0
def tw14334422363842187431:=0
def tw3709644273150924007:=0
def tw9800734081514895591:=0
def tw9128696351613858055:=0
def tw13385372860288607495:=0
def tw18218631555565197607:=0
def tw6969452162596762951:=0
def tw7911263577688887687:=0
def tw11474885522562382407:=0
def tw14975692638465185383:=0
def tw15930761178804675239:=0
def tw13633769008965830407:=0
def tw13216439528670944680:=0
def tw2680303196442360296:=0
def tw2471437415035606824:=0
def tw13552076178257053672:=0
def tw5621921951145481353:=0
def tw10893660950894908681:=0
def tw10266970169354923337:=0
def tw15854656650395707785:=0
def tw7207956208011416329:=0
def tw9413715461822272361:=0
def tw9908968925585587113:=0
def tw14087735872946701354:=0
def tw11334702341090458730:=0
def tw1303139414995261962:=0
def tw15921400850463444682:=0
def tw3320671835896702698:=0
def tw2677848493673009962:=0
def tw2904730853746966442:=0
def tw12112848288743499787:=0
def tw8274835849161953451:=0
def tw3342645669757725899:=0
def tw7660009003033117931:=0
def tw4862215861556066891:=0
def tw2103127925440269931:=0
def tw16139858050267575308:=0
def tw15264524913013839916:=0
def tw8971758775992906892:=0
def tw8426691694526195244:=0
def tw6093660616606447148:=0
def tw9881317450601992269:=0
def tw10060066958744708269:=0
def tw9646944381321653453:=0
def tw11201603988716972301:=0
def tw11690226108266183117:=0
def tw14540453361473036813:=0
def tw3030835205134332461:=0
def tw8206223888446454669:=0
def tw10002241598229829613:=0
def tw4710501391832952846:=0
def tw5410103329582325806:=0
def tw1107766022623461838:=0
def tw5598692976938247790:=0
def tw2956952005892850350:=0
def tw3403677898307810062:=0
def tw6288669881811124142:=0
def tw16627211789518184719:=0
def tw6463159208234435023:=0
def tw11719991710325076431:=0
def tw9052945531012697679:=0
def tw740959080076615407:=0
def tw13575241586475419503:=0
def tw9087753114803557295:=0
def tw14431426840277729231:=0
def tw15821838536423010255:=0
def tw3330948981822336016:=0
def tw15162484233688542576:=0
def tw7301718757860334032:=0
def tw408296475969660464:=0
def tw9739809727804322033:=0
def tw1464558577191588209:=0
def tw7435715287062319633:=0
def tw7548008433566083633:=0
def tw8089310380549915441:=0
def tw13169370783748385649:=0
def tw13617511353690045458:=0
def tw14157141441863663890:=0
def tw8962814369415223602:=0
def tw7503343700453553458:=0
def tw6874627270830471538:=0
def tw14703438285102885362:=0
def tw9569655116184304114:=0
def tw6852169832651544146:=0
def tw17480469781720103602:=0
def tw14222984909481990163:=0
def tw15212485003363596339:=0
def tw2838276164276355219:=0
def tw9740000535208967571:=0
def tw12589109473724898899:=0
def tw11593479579604174419:=0
def tw2571441803041227379:=0
def tw6527540666678809331:=0
def tw16756454704341126931:=0
def tw11777765173532977172:=0
def tw3974986062844353684:=0
def tw15030974809582909588:=0
def tw8185702080175469908:=0
def tw13394663669631802868:=0
def tw1654892922593020596:=0
def tw9231104977349935956:=0
def tw10900259479037473684:=0
def tw12919562169523239189:=0
def tw11898020076455217589:=0
def tw5532125192549311349:=0
def tw8451962498721250358:=0
def tw11193163896684513622:=0
def tw13656080176410526070:=0
def tw1802876857671110294:=0
def tw11462889683236825878:=0
def tw2256175410293184535:=0
def tw9749142498111939799:=0
def tw1254792140922770807:=0
def tw1340136037939635831:=0
def tw16712645745454027479:=0
def tw10367909528857237592:=0
def tw6105863289295256952:=0
def tw12710733013321941496:=0
def tw15580386741006899800:=0
def tw1287412653213491928:=0
def tw380974762779580344:=0
def tw14622398222210876344:=0
def tw2972648843576583321:=0
def tw2081308098737552569:=0
def tw14964111227439804889:=0
def tw2531350891179363929:=0
def tw721968809167038297:=0
def tw2374573639406774201:=0
def tw9470942254046321722:=0
def tw17668216229247835354:=0
def tw10722980036260355322:=0
def tw6748453990861349466:=0
def tw18050933145453411002:=0
def tw1655368074758197242:=0
def tw17350593471809263835:=0
def tw17394420320553716987:=0
def tw1752984318850600315:=0
def tw942635715577732475:=0
def tw8294064846329562587:=0
def tw12879866841438526971:=0
def tw14069524344479375899:=0
def tw14486519555553273563:=0
def tw5965950171556240283:=0
def tw10832666134553961435:=0
def tw11082376296256000284:=0
def tw13577692333371749788:=0
def tw11217440433726602908:=0
def tw3087188518780018717:=0
def tw13823048775102662717:=0
def tw2480511387708449853:=0
def tw2451014119401628733:=0
def tw11835486921801073981:=0
def tw863180605241015773:=0
def tw7863959490744923101:=0
def tw3950950396088662270:=0
def tw13763103795064073502:=0
def tw7890589548808471998:=0
def tw3235646682242744062:=0
def tw16303880283157565278:=0
def tw18177566334641650654:=0
def tw17964090620010379230:=0
def tw2704704523180493983:=0
def tw7381116827295078623:=0
def tw7076385775946498591:=0
def tw1002856686702403103:=0
def tw1850617224216453887:=0
def tw5163443023234819871:=0
def tw8548788594406134559:=0
end PySem.W.Fast
def PySem.W.Fast.tw15114764265475192832:PySem.Program:=PySem.Challenge.pw_rillturn_k46_falls_counted
theorem PySem.W.Fast.te15114764265475192832:PySem.Challenge.pw_rillturn_k46_falls_counted=PySem.W.Fast.tw15114764265475192832:=rfl
namespace K46
open PySem L2 L4
local macro_rules | `(tactic| walk_at "nm")=>`(tactic| first
 | ((with_reducible refine qN2 ?_); intro _ _ _ _ _ _ _ _ _ _ _ _ _)
 | ((with_reducible refine nm5 ?_); intro _ _ _ _ _ _)
 | ((with_reducible refine nm4 ?_); intro _ _ _ _ _)
 | ((with_reducible refine nm3 ?_); intro _ _ _ _)
 | ((with_reducible refine nm2 ?_); intro _ _ _))
local macro_rules | `(tactic| walk_at "nf")=>`(tactic| first
 | ((with_reducible refine qN5 ?_); intro _ _ _ _ _ _ _ _ _ _ _))
local macro_rules | `(tactic| walk_at "ps")=>`(tactic| try ((with_reducible refine s_psi ?_); intro _))
local macro_rules | `(tactic| walk_at "rf")=>`(tactic| first | rfl | decide)
local macro_rules | `(tactic| walk_at "op")=>`(tactic| first
 | ((with_reducible refine' qNR ?h1 ?h2 ?_); (case h1=>rfl); (case h2=>rfl))
 | ((with_reducible refine' OpV.l (qNR ?h1 ?h2 ?_)); (case h1=>rfl); (case h2=>rfl))
 | ((with_reducible refine' qNb ?h1 ?h2 ?_); (case h1=>rfl); (case h2=>rfl))
 | ((with_reducible refine' OpV.l (qNb ?h1 ?h2 ?_)); (case h1=>rfl); (case h2=>rfl))
 | ((with_reducible refine' OpV.l (qM8 ?h1 ?h2 ?_)); (case h1=>rfl); (case h2=>rfl))
 | ((with_reducible refine' OpV.l (qMt ?h1 ?h2 ?_)); (case h1=>rfl); (case h2=>rfl))
 | ((with_reducible refine' qLv ?h1 ?_); (case h1=>rfl))
 | ((with_reducible refine' qMe ?h1 ?h2 ?_); (case h1=>rfl); (case h2=>rfl))
 | ((with_reducible refine' qKV ?h1 ?h2 ?_); (case h1=>rfl); (case h2=>rfl))
 | ((with_reducible refine' qJy ?h1 ?h2 ?h3 ?_); (case h1=>rfl); (case h2=>rfl); (case h3=>first | exact YL _ | assumption))
 | ((with_reducible refine' OpV.r (OpV.l (YY ?h1 ?h2 ?h3 ?_))); (case h1=>rfl); (case h2=>rfl); (case h3=>exact szl (vB rfl)))
 | ((with_reducible refine' qJH ?h1 ?h2 ?h3 ?_); (case h1=>rfl); (case h2=>rfl); (case h3=>rfl))
 | ((with_reducible refine' qB7 ?h1 ?h2 ?h3 ?_); (case h1=>rfl); (case h2=>rfl); (case h3=>rfl))
 | ((with_reducible refine' qB7 ?h1 ?h2 ?h3 ?_); (case h1=>rfl); (case h2=>rfl); (case h3=>assumption))
 | ((with_reducible refine' qJH ?h1 ?h2 ?h3 ?_); (case h1=>rfl); (case h2=>rfl); (case h3=>assumption)))
local macro_rules | `(tactic| walk_at "ca")=>`(tactic| first
 | ((with_reducible refine' u_i ?h1 ?_); (case h1=>rfl))
 | ((with_reducible refine' qNv ?h1 ?h2 ?_); (case h1=>rfl); (case h2=>rfl))
 | ((with_reducible refine' qLT ?h1 ?_); (case h1=>rfl))
 | ((with_reducible refine' qLw ?h1 ?_); (case h1=>rfl))
 | ((with_reducible refine' qG5 ?h1 ?_); (case h1=>rfl))
 | ((with_reducible refine' qJk ?h1 ?_); (case h1=>rfl))
 | ((with_reducible refine' qHg ?h1 ?h2 ?_); (case h1=>rfl); (case h2=>rfl)))
local macro_rules | `(tactic| walk_at "v1")=>`(tactic| first
 | with_reducible refine qN7 ?_
 | with_reducible refine qMn ?_
 | ((with_reducible refine' qAr ?h ?_); (case h=>rfl))
 | ((with_reducible refine' qKG ?h ?_); (case h=>rfl))
 | ((with_reducible refine' qJX ?h ?_); (case h=>rfl))
 | ((with_reducible refine' qIx ?h ?_); (case h=>rfl))
 | with_reducible refine qI7 ?_
 | with_reducible refine qN8 ?_
 | with_reducible refine qNw ?_
 | (refine ⟨⟨rfl,_,(rfl:rd _ _=some (D.lst _))⟩,?_⟩)
 | with_reducible refine qKX ?_
 | with_reducible refine qMY ?_
 | with_reducible refine qMo ?_
 | with_reducible refine qMT ?_
 | with_reducible refine qNn ?_
 | with_reducible refine qMH ?_
 | with_reducible refine qMU ?_
 | with_reducible refine qOA ?_
 | with_reducible refine qKz ?_
 | with_reducible refine qLg ?_
 | with_reducible refine qN9 ?_
 | with_reducible refine qIE ?_
 | with_reducible refine t_B ?_
 | with_reducible refine qMa ?_
 | with_reducible refine QG ?_
 | with_reducible refine qMi ?_
 | with_reducible refine qLH ?_
 | walk_at "nm"
 | with_reducible refine qET ?_
 | with_reducible refine qBS ?_
 | ((with_reducible refine' qT ?h ?_); (case h=>rfl))
 | ((with_reducible refine' qD7 ?h1 ?h2 ?_); (case h1=>rfl); (case h2=>rfl))
 | with_reducible refine jd ?_
 | with_reducible refine qMv ?_
 | (refine ⟨_,(rfl:Rs.it _=some _),?_⟩)
 | (refine ⟨_,(rfl:_=Rs.b _),?_⟩)
 | with_reducible refine qAY ?_
 | with_reducible refine qHW ?_
 | with_reducible refine qLc ?_
 | with_reducible refine qHt ?_
 | with_reducible refine jR ?_
 | walk_at "op"
 | walk_at "ca"
 | (refine ⟨_,(rfl:rd _ _=some _),?_⟩)
 | (refine ⟨_,_,(rfl:rd _ _=some _),(rfl:qMf _=some _),?_⟩)
 | (refine ⟨_,(rfl:its _=some _),szl (vB rfl),?_⟩))
local macro_rules | `(tactic| walk_at "v")=>`(tactic| (repeat (walk_at "v1")))
local macro_rules | `(tactic| walk_at "st")=>`(tactic| try dsimp only [wZ,uD,Nat.reduceAdd,Nat.reduceSub,wN,List.cons_append,uA,List.set,Y1,List.map,Rs.sl,wb,L4.outer,Qe,List.drop,inner,List.getElem?_cons_zero,SK,List.headD,List.tail,qHo,Option.getD])
local macro_rules | `(tactic| walk_at "call")=>`(tactic| ((with_reducible refine jP ?_); walk_at "v"; (refine ⟨of_decide_eq_true rfl,?_⟩); walk_at "st"))
local macro_rules | `(tactic| walk_at "J")=>`(tactic| first
 | ((with_reducible refine' qL2 ?h1 ?h2 ?_); (case h1=>(walk_at "vJ"; exact ⟨rfl,rfl⟩)); (case h2=>(intro _; walk_at "vJ"; exact ⟨rfl,rfl⟩))))
local macro_rules | `(tactic| walk_at "vJ")=>`(tactic| (repeat (first | walk_at "v1" | walk_at "J")))
local macro_rules | `(tactic| walk_at "sc")=>`(tactic| exact ⟨rfl,rfl,rfl,by decide +kernel,rfl,by decide +kernel,by decide +kernel⟩)
local macro_rules | `(tactic| walk_at "cs")=>`(tactic| exact ⟨rfl,by decide +kernel,by decide +kernel,by repeat' (first | exact trivial | refine ⟨⟨rfl,rfl,by first | exact Or.inl rfl | exact Or.inr rfl⟩,?_⟩),by decide +kernel⟩)
local macro_rules | `(tactic| walk_at "vc")=>`(tactic| (walk_at "v"; walk_at "call"))
local macro_rules | `(tactic| walk_at "sv")=>`(tactic| (walk_at "st"; walk_at "v"))
def top (i:Nat):Stmt:=PySem.Challenge.pw_rillturn_k46_falls_counted.main.body.getD i (.Pass ⟨0,0,0,0⟩)
structure Txt (mg:Str->Option Value):Prop where
 n_min:mg "min" = none
 n_max:mg "max" = none
 n_tuple:mg "tuple" = none
 n_range:mg "range" = none
 n_len:mg "len" = none
 n_zip:mg "zip" = none
 n_int:mg "int" = none
 n_list:mg "list" = none
 n_sorted:mg "sorted" = none
 n_all:mg "all" = none
 n_isinstance:mg "isinstance" = none
 n_bool:mg "bool" = none
 n_set:mg "set" = none
 n_reversed:mg "reversed" = none
 n_sum:mg "sum" = none
 n_abs:mg "abs" = none
 g_MOST_FALLS:∃ t,mg "MOST_FALLS" = some (.int 300 t)
abbrev Tie:=Int×Int
def qb (t:Tie):D:=.tup [.int t.1,.int t.2]
def Jo (n:Nat) (ts:List Tie):D:=.tup [.int n,.tup (ts.map qb)]
abbrev qL (ns:List Int):List D:=ns.map D.int
theorem ofd {p:Prop} {i:Decidable p} (h:@decide p i=true):p:=@of_decide_eq_true p i h
theorem sz2 {a:Nat} (h:a<=1000):a<=sizeLine:=zM h (by rw [kM]; decide)
theorem qDt {b:Bool} (h:(!b)=true):b=false:=by cases b <;> first | rfl | cases h
def mk (a b:Int):Tie:=(if b<a then b else a,if b > a then b else a)
theorem qCV (a b:Tie):dEq (qb a) (qb b)=decide (a=b):=by
 obtain ⟨a1,a2⟩:=a
 obtain ⟨b1,b2⟩:=b
 show (decide (a1=b1) && (decide (a2=b2) && true))=_
 rw [SC]
 by_cases h1:a1=b1
 ·by_cases h2:a2=b2
  ·simp [h1,h2]
  ·simp [h1,h2]
 ·simp [h1]
def jJ (q:Int×Int×Int):List D:=[.int q.1,.int q.2.1,.int q.2.2]
def qLh:PV:=fun as Φ=>∃ c:Int,as=[.d (.int c)]/\∀ q,Φ (.l (jJ q)) as
def qGw:PV:=fun as Φ=>∃(q:Int×Int×Int) (b:Int),as=[.l (jJ q),.d (.int b)]/\0<b/\b<1073741824/\∀ r q',0<=r->r<b->Φ (.d (.int r)) [.l (jJ q'),.d (.int b)]
section
variable {P:Program} {w:World} {K:wK} {mg:Str->Option Value} {base:Heap} {f:Addr} {fd:FuncData}
theorem qCc:qW ["cell"] ["cell"] (qG (top 22)):=by walk_at "sc"
theorem qCW (F:Fun K "_law_dig" "_law_dig" (top 22) f fd) (T:Txt mg):Qg P w K mg base CX0 1 f fd ["cell"] (spV qLh):=by
 refine jr F qCc [0] (fun as Φ h=>?_) (fun cdv A outer s H E hr=>?_)
 ·obtain ⟨c,rfl,_⟩:=h
  rfl
 ·have hu:=hr.units
  refine ⟨_,(qF (qj (qy (qA (qK (QV rfl) (by rfl) T.n_max kI (qA qE (qA (qa YV (pv 0) (qa qIF qE qE)) qB))) (qA (qa QM (pv 0) (qa qIF qE qE)) (qA qE qB)))))),?_⟩
  rintro as Φ ⟨c,rfl,k⟩
  walk_at "sv"
  refine Jp rfl rfl ⟨by decide,by decide,by decide⟩ ?_
  walk_at "v"
  refine Jp rfl rfl ⟨by decide,by decide,by decide⟩ ?_
  refine Jp rfl rfl (by show (0:Int)<_; decide) ?_
  walk_at "v"
  exact ⟨⟨_,rfl⟩,k (_,_,_)⟩
theorem jn:qW ["pool","base","digit","mixed","stir"] ["pool","base"] (qG (top 23)):=by walk_at "sc"
theorem qBY (F:Fun K "_law_next" "_law_next" (top 23) f fd) (T:Txt mg):Qg P w K mg base CX0 1 f fd ["pool","base"] (spV qGw):=by
 refine jr F jn [0,1] (fun as Φ h=>?_) (fun cdv A outer s H E hr=>?_)
 ·obtain ⟨q,b,rfl,_⟩:=h
  rfl
 ·have hu:=hr.units
  refine ⟨_,(qC (Qr (qS qEI (QH (pv 0) qE) qE (qg _))
   (qC (jw 2 jn (qa QM (QH (pv 0) qE) (pv 1)))
    (qC (YF (qa qGQ (QH (pv 0) qE) (pv 1)) (qIc (pv 0) qE set_list))
    (qF (qj (pv 2)))))
   jA)
   (qC (YF (qa (qAj (K:=K) rfl) (QH (pv 0) qE) qE) (qIc (pv 0) qE set_list))
   (qC (jw 3 jn (qa QM (qa (qAj (K:=K) rfl) (QH (pv 0) qE) (qa opM qE (QH (pv 0) qE))) qE))
   (qC (jw 4 jn (qa QM (qa opM (qa (qAj (K:=K) rfl) (pv 3) qE) (qa (qAj (K:=K) rfl) (pv 3) qE)) qE))
   (qF (qj (qa QM (qa qGQ (qa QM (qa opM (pv 4) (pv 4)) qE) qE) (pv 1)))))))),?_⟩
  rintro as Φ ⟨⟨p0,p1,p2⟩,b,rfl,b0,b1,k⟩
  walk_at "sv"
  refine qBE (fun hc=>?_) (fun hc=>?_)
  ·walk_at "v"
   refine Jp rfl rfl b0 ?_
   walk_at "v"
   refine Jp rfl rfl ⟨b0,b1⟩ ?_
   walk_at "v"
   refine ⟨_,_,_,rfl,rfl,rfl,?_⟩
   walk_at "sv"
   exact ⟨⟨_,rfl⟩,k _ (_,_,_) (gC _ (by omega)) (kC _ b0)⟩
  ·refine jR ?_
   walk_at "v"
   refine ⟨_,_,_,rfl,rfl,rfl,?_⟩
   walk_at "st"
   generalize hp2:p2+1=p3
   walk_at "v"
   refine OpV.l (Jp rfl rfl (.inl ⟨by decide,by decide⟩) ?_)
   walk_at "v"
   refine Jp rfl rfl (by show (0:Int)<_; decide) ?_
   walk_at "v"
   have e0:(((p0,p1,p2):Int×Int×Int).snd.fst+7919*p3) % 1000000007=(p1+7919*p3) % 1000000007:=rfl
   rw [e0]
   generalize hm:(p1+7919*p3) % 1000000007=m
   have m0:0<=m:=by rw [<- hm]; exact gC _ (by decide)
   have m1:m<1000000007:=by rw [<- hm]; exact kC _ (by decide)
   refine OpV.l (Jp rfl rfl (.inl ⟨by omega,by omega⟩) ?_)
   walk_at "v"
   refine Jp rfl rfl (by show (0:Int)<_; decide) ?_
   walk_at "v"
   generalize hs:(m+11)*(m+48271) % 998244353=st
   have s0:0<=st:=by rw [<- hs]; exact gC _ (by decide)
   have s1:st<998244353:=by rw [<- hs]; exact kC _ (by decide)
   refine OpV.l (Jp rfl rfl (.inl ⟨by omega,by omega⟩) ?_)
   walk_at "v"
   refine Jp rfl rfl (by show (0:Int)<_; decide) ?_
   walk_at "v"
   refine Jp rfl rfl ⟨by decide,by decide⟩ ?_
   walk_at "v"
   refine Jp rfl rfl b0 ?_
   exact ⟨⟨_,rfl⟩,k _ (p0,p1,p3) (gC _ (by omega)) (kC _ b0)⟩
def places (n:Nat):List Int:=(wV n).map fun k:Nat=>(k:Int)
theorem places_len (n:Nat):(places n).length=n:=by unfold places; rw [wC,zT]
theorem qc {n:Nat} {p:Int}:p∈places n↔0<=p/\p<(n:Int):=by
 unfold places
 rw [zF]
 constructor
 ·rintro ⟨k,hk,rfl⟩
  have:=zO.mp hk
  omega
 ·rintro ⟨h0,h1⟩
  exact ⟨p.toNat,zO.mpr (by omega),by omega⟩
def JE (n:Nat) (o:List Int):Prop:=o.Perm (places n)
theorem JE.len {n:Nat} {o:List Int} (h:JE n o):o.length=n:=by rw [h.length_eq,places_len]
theorem JE.mem {n:Nat} {o:List Int} (h:JE n o) {p:Int}:p∈o↔0<=p/\p<(n:Int):=by rw [h.mem_iff,qc]
theorem qBk (n:Nat):(places n).Nodup:=by
 unfold places
 rw [wY,yB]
 exact List.Pairwise.imp (fun {a b} h z=>h (by omega)) (wY.mp (xT (n:=n)))
theorem JE.nd {n:Nat} {o:List Int} (h:JE n o):o.Nodup:=h.nodup_iff.mpr (qBk n)
def okp (n:Nat) (t:Tie):Prop:=0<=t.1/\t.1<t.2/\t.2<(n:Int)
structure qNt (n:Nat) (ts:List Tie):Prop where
 pos:1<=n
 few:n<=9
 len:ts.length<=20
 ok:∀ t∈ts,okp n t
structure qIu (n:Nat) (ts:List Tie):Prop extends qNt n ts where
 nd:ts.Nodup
def qKK (o:List Int) (t:Tie):Tie:=mk (o.getD t.1.toNat 0) (o.getD t.2.toNat 0)
def qIH:PV:=fun as Φ=>∃(q:Int×Int×Int) (n:Nat),as=[.l (jJ q),.d (.int n)]/\n<=9/\∀ o q',JE n o->Φ (.d (.tup (qL o))) [.l (jJ q'),.d (.int n)]
def qDc:PV:=fun as Φ=>∃(n:Nat) (us:List Tie) (o:List Int),as=[.d (Jo n us),.d (.tup (qL o))]/\qIu n us/\JE n o/\∀ ts:List Tie,ts.Perm (us.map (qKK o))->Φ (.d (Jo n ts)) as
def qNa:PV:=fun as Φ=>∃(q:Int×Int×Int) (most cap:Nat),as=[.l (jJ q),.d (.int most),.d (.int cap)]/\1<=most/\most<=9/\cap<=20/\∀ n ts q',qIu n ts->n<=most->ts.length<=cap->Φ (.d (Jo n ts)) [.l (jJ q'),.d (.int most),.d (.int cap)]
def YC (t:Tie):List Int:=[t.1,t.2]
def qFn (r:List Int):Tie:=(r.getD 0 0,r.getD 1 0)
theorem qBH {nss:List (List Int)} {us:List Tie} (h:nss.Perm (us.map YC)):∃ ts:List Tie,nss=ts.map YC/\ts.Perm us:=by
 refine ⟨nss.map qFn,?_,?_⟩
 ·rw [zW]
  have:∀ r∈nss,YC (qFn r)=r:=fun r hr=>by
   obtain ⟨t,_,rfl⟩:=zF.mp (h.mem_iff.mp hr)
   rfl
  symm
  have e:nss.map (YC∘qFn)=nss.map id:=uX this
  rw [e,List.map_id]
 ·have:=h.map qFn
  rw [zW] at this
  have e:us.map (qFn∘YC)=us:=List.map_id'' (fun _=>rfl) us
  rw [e] at this
  exact this
theorem JP (us:List Tie):(us.map YC).map qBF=us.map qb:=by
 rw [zW]
 rfl
theorem qLD {n:Nat} {a b:Int} (ha:0<=a/\a<(n:Int)) (hb:0<=b/\b<(n:Int)) (ne:a≠b):okp n (mk a b):=by
 unfold okp mk
 refine ⟨?_,?_,?_⟩
 ·show 0<=(if b<a then b else a)
  split <;> omega
 ·show (if b<a then b else a)<(if b > a then b else a)
  split <;> split <;> omega
 ·show (if b > a then b else a)<(n:Int)
  split <;> omega
theorem qDd {n:Nat} {o:List Int} (O:JE n o) {a:Int} (h0:0<=a) (h1:a<(n:Int)):∃ p,atI (qL o) a=some (.int p)/\o[a.toNat]? = some p/\0<=p/\p<(n:Int):=by
 have hl:=O.len
 have hk:a.toNat<o.length:=by omega
 refine ⟨o[a.toNat],?_,wA hk,?_⟩
 ·have e:a=((a.toNat:Nat):Int):=by omega
  conv=>lhs; rw [e]
  exact QX (by rw [wQ,wA hk]; rfl)
 ·exact O.mem.mp (yY hk)
theorem qLb {n:Nat} {o:List Int} (O:JE n o) {a b p r:Int} (h0:0<=a) (h1:a<b) (h2:b<(n:Int)) (ha:o[a.toNat]? = some p) (hb:o[b.toNat]? = some r):p≠r:=by
 intro z
 subst z
 obtain ⟨ka,ea⟩:=wR.mp ha
 obtain ⟨kb,eb⟩:=wR.mp hb
 have:=(VV O.nd).mp (ea.trans eb.symm)
 omega
theorem qI1 (us:List Tie) (c:Nat):cutD (us.map qb) none (some (c:Int))=(us.take c).map qb:=by
 unfold cutD
 rw [HT.sIx_none,HT.sIx_nat,TL,Nat.sub_zero,wC,List.map_take]
 by_cases h:c<=us.length
 ·rw [Nat.min_eq_left h]
 ·rw [Nat.min_eq_right (by omega),uH (by rw [wC]; exact wH _),uH (by rw [wC]; omega)]
theorem Ys {α β:Type} (f:α->β):∀(l:List α) (j:Nat),(l.map f).eraseIdx j=(l.eraseIdx j).map f
 | [],_=>rfl
 | _::_,0=>rfl
 | x::l,j+1=>by
  show f x::(l.map f).eraseIdx j=f x::(l.eraseIdx j).map f
  rw [Ys f l j]
theorem qAR {α:Type}:∀(l:List α) {j:Nat} (h:j<l.length),(l[j]::l.eraseIdx j).Perm l
 | x::l,0,_=>fJ _
 | x::l,j+1,h=>by
  have h':j<l.length:=by simpa using h
  show (l[j]::x::l.eraseIdx j).Perm (x::l)
  exact (List.Perm.swap _ _ _).trans ((qAR l h').cons x)
theorem qAa {n:Nat} {o:List Int} (O:JE n o) {a b:Int} (ha:0<=a/\a<(n:Int)) (hb:0<=b/\b<(n:Int)) (e:o.getD a.toNat 0=o.getD b.toNat 0):a=b:=by
 have hl:=O.len
 have ka:a.toNat<o.length:=by omega
 have kb:b.toNat<o.length:=by omega
 rw [wF,wF,wA ka,wA kb] at e
 have:=(VV O.nd).mp e
 omega
theorem qDD (a b:Int):mk a b=(a,b)\/mk a b=(b,a):=by
 unfold mk
 by_cases h:b<a
 ·exact .inr (by rw [if_pos h,if_neg (Int.not_lt.mpr (Int.le_of_lt h))])
 ·by_cases g:b > a
  ·exact .inl (by rw [if_neg h,if_pos g])
  ·exact .inl (by rw [if_neg h,if_neg g,Int.le_antisymm (Int.not_lt.mp h) (Int.not_lt.mp g)])
theorem mk_inj {a b c d:Int} (h:mk a b=mk c d):(a=c/\b=d)\/(a=d/\b=c):=by
 rcases qDD a b with e | e <;> rcases qDD c d with f | f <;> rw [e,f] at h
 ·exact .inl ⟨congrArg TR h,congrArg Prod.snd h⟩
 ·exact .inr ⟨congrArg TR h,congrArg Prod.snd h⟩
 ·exact .inr ⟨congrArg Prod.snd h,congrArg TR h⟩
 ·exact .inl ⟨congrArg Prod.snd h,congrArg TR h⟩
theorem qKE {n:Nat} {o:List Int} (O:JE n o) {t:Tie} (h:okp n t):okp n (qKK o t):=by
 obtain ⟨t1,t2,t3⟩:=h
 obtain ⟨p,_,hp2,hp3⟩:=qDd O (a:=t.1) (by omega) (by omega)
 obtain ⟨r,_,hr2,hr3⟩:=qDd O (a:=t.2) (by omega) (by omega)
 unfold qKK
 rw [wF,wF,hp2,hr2]
 exact qLD hp3 hr3 (qLb O t1 t2 t3 hp2 hr2)
theorem qHL {n:Nat} {o:List Int} (O:JE n o) {s t:Tie} (hs:okp n s) (ht:okp n t) (e:qKK o s=qKK o t):s=t:=by
 obtain ⟨s1,s2,s3⟩:=hs
 obtain ⟨t1,t2,t3⟩:=ht
 rcases mk_inj e with ⟨e1,e2⟩ | ⟨e1,e2⟩
 ·exact hV (qAa O ⟨s1,by omega⟩ ⟨t1,by omega⟩ e1) (qAa O ⟨by omega,s3⟩ ⟨by omega,t3⟩ e2)
 ·have:=qAa O ⟨s1,by omega⟩ ⟨by omega,t3⟩ e1
  have:=qAa O ⟨by omega,s3⟩ ⟨t1,by omega⟩ e2
  omega
theorem qBb {f:Tie->Tie}:∀{l:List Tie},(∀ s∈l,∀ t∈l,f s=f t->s=t)->l.Nodup->(l.map f).Nodup
 | [],_,_=>vI
 | x::l,h,nd=>by
  rw [zX] at nd
  show (f x::l.map f).Nodup
  rw [zX]
  refine ⟨fun hm=>?_,qBb (fun s hs t ht=>h s (wJ _ hs) t (wJ _ ht)) nd.2⟩
  obtain ⟨y,hy,e⟩:=zF.mp hm
  have:=h y (wJ _ hy) x wD e
  exact nd.1 (this ▸ hy)
theorem qJU {n:Nat} {ts us:List Tie} {o:List Int} (W:qIu n ts) (O:JE n o) (pm:us.Perm (ts.map (qKK o))):qIu n us:={ pos:=W.pos,few:=W.few,len:=(by rw [pm.length_eq,wC]; exact W.len),ok:=fun t ht=>(let ⟨s,hs,e⟩:=zF.mp (pm.mem_iff.mp ht); e ▸ qKE O (W.ok s hs)),nd:=pm.nodup_iff.mpr (qBb (fun s hs t ht e=>qHL O (W.ok s hs) (W.ok t ht) e) W.nd) }
theorem JA:qW ["pool","many","left"] ["pool","many"] (qG (top 26)):=by walk_at "sc"
theorem qAq (F:Fun K "_law_order" "_law_order" (top 26) f fd) (T:Txt mg) (XAJ:Has P w K mg base "_law_next" (top 23) ["pool","base"] 1 (spV qGw)):Qg P w K mg base CX0 2 f fd ["pool","many"] (spV qIH):=by
 refine jr F JA [0,1] (fun as Φ h=>?_) (fun cdv A outer s H E hr=>?_)
 ·obtain ⟨q,b,rfl,_⟩:=h
  rfl
 ·have hu:=hr.units
  refine ⟨_,(qC (jw 2 JA (qe (Jg rfl) (by rfl) T.n_list PyProof.Rows.boot_list (qA (qe Yx (by rfl) T.n_range SL (qA (pv 1) qB)) qB)))
   (qF (qj (qe (YK (K:=K) rfl) (by rfl) T.n_tuple xG (qA (qw rfl (own:=["k"]) (fr:=[("left",2),("pool",0)]) (by walk_at "cs") (jI (by rfl) T.n_range (qA (pv 1) qB)) (fun cl C s0 H0 fp=>⟨(Qx 0),QC,(qDE (K:=K) rfl gH PySem.F.slot_list_pop PySem.F.type_list_pop qDS (pv 1) (qA (qp XAJ hr (qA (pv 2) (qA (qK (qCz (K:=K) rfl) (by rfl) T.n_len vN (qA (pv 1) qB)) qB))) qB))⟩)) qB))))),?_⟩
  rintro as Φ ⟨q,n,rfl,hn,k⟩
  walk_at "sv"
  refine ⟨n,⟨_,rfl,rfl⟩,by omega,by omega,?_⟩
  rw [yD]
  have e0:((wV n).map fun k:Nat=>D.int (k:Int))=qL (places n):=by
   unfold qL places
   rw [zW]
   rfl
  rw [e0]
  refine qT rfl ?_
  walk_at "sv"
  refine qFK (qHv ?_)
  walk_at "v"
  refine ⟨n,⟨_,rfl,rfl⟩,by omega,by omega,qZ rfl,of_decide_eq_true rfl,fun i ys ρc=>∃ s q lf os,ρc=[s,.l (qL lf),.l (jJ q)]/\ys=qL os/\os.length=i/\(os++lf).Perm (places n),⟨_,q,places n,[],rfl,rfl,rfl,fJ _⟩,?_,?_,?_⟩
  ·rintro i ys ρc ⟨s,q,lf,os,rfl,rfl,hl,pm⟩
   have:=pm.length_eq
   rw [places_len,wO] at this
   exact ⟨qN (by rw [wC]; omega),rfl⟩
  ·rintro i x ys ρc hx ⟨s,q,lf,os,rfl,rfl,hl,pm⟩
   have hin:i<n:=by
    have:=(wR.mp hx).1
    rw [jF] at this
    omega
   have pl:=pm.length_eq
   rw [places_len,wO] at pl
   walk_at "v"
   rw [if_pos rfl]
   walk_at "v"
   refine jP ?_
   walk_at "v"
   refine ⟨of_decide_eq_true rfl,?_⟩
   walk_at "st"
   refine ⟨q,_,rfl,by rw [wC]; omega,by rw [wC]; omega,fun r q' r0 r1=>⟨⟨_,rfl⟩,?_⟩⟩
   rw [wC] at r1
   obtain ⟨j,rfl⟩:∃ j:Nat,r=(j:Int):=⟨r.toNat,by omega⟩
   have hj:j<lf.length:=by omega
   walk_at "sv"
   refine qFJ (k:=j) (d:=.int lf[j]) rfl rfl (by rw [wQ,wA hj]; rfl) (by rw [wC]; omega) ?_
   walk_at "st"
   have ee:(qL lf).eraseIdx j=qL (lf.eraseIdx j):=by
    unfold qL
    rw [Ys]
   rw [ee]
   refine ⟨_,rfl,_,q',lf.eraseIdx j,os++[lf[j]],rfl,?_,by rw [wO,hl]; rfl,?_⟩
   ·unfold qL
    rw [yI]
    rfl
   ·refine List.Perm.trans ?_ pm
    rw [yG]
    exact ZZ os (qAR lf hj)
  ·rintro ys ρc ⟨s,q,lf,os,rfl,rfl,hl,pm⟩
   rw [jF,yD] at hl
   have pl:=pm.length_eq
   rw [places_len,wO] at pl
   have:lf=[]:=gG.mp (by omega)
   subst this
   rw [zK] at pm
   walk_at "sv"
   exact ⟨⟨_,rfl⟩,k os q pm⟩
theorem QU:qW ["web","names","ties"] ["web","names"] (qG (top 27)):=by walk_at "sc"
theorem YE (F:Fun K "_law_renamed" "_law_renamed" (top 27) f fd) (T:Txt mg):Qg P w K mg base CX0 1 f fd ["web","names"] (spV qDc):=by
 refine jr F QU [0,1] (fun as Φ h=>?_) (fun cdv A outer s H E hr=>?_)
 ·obtain ⟨n,us,o,rfl,_⟩:=h
  rfl
 ·have hu:=hr.units
  refine ⟨_,(qC (JW (i:=2) rfl QU.nd rfl rfl (own:=["a","b"]) (fr:=[("names",1)]) (by walk_at "cs") (qt (K:=K) rfl (QH (pv 0) qE)) (fun cl C s0 H0 fp=>⟨(jG (K:=K) (n:=2) rfl rfl (qO (Qx 0) (qO (Qx 1) jD))),QC,(jS (qA (qK (Qy rfl) (by rfl) T.n_min gO (qA (QH (pv 2) (pv 0)) (qA (QH (pv 2) (pv 1)) qB))) (qA (qK (QV rfl) (by rfl) T.n_max kI (qA (QH (pv 2) (pv 0)) (qA (QH (pv 2) (pv 1)) qB))) qB)))⟩))
   (qF (qj (jS (qA (QH (pv 0) qE) (qA (qe (YK (K:=K) rfl) (by rfl) T.n_tuple xG (qA (qK (QW hu) (by rfl) T.n_sorted ZC (qA (pv 2) qB)) qB)) qB)))))),?_⟩
  rintro as Φ ⟨n,us,o,rfl,W,O,k⟩
  have W2:=W.len
  have hl:=O.len
  walk_at "sv"
  refine QE qb us (fun _=>true) (fun t=>qb (mk (o.getD t.1.toNat 0) (o.getD t.2.toNat 0))) (Yt ?_)
  walk_at "v"
  refine ⟨_,_,rfl,rfl,rfl,qN (by omega),qZ rfl,of_decide_eq_true rfl,?_,?_⟩
  ·rintro ⟨a,b⟩ ht os hos
   obtain ⟨z0,z1,rfl⟩:=qIW hos
   obtain ⟨t1,t2,t3⟩:=W.ok _ ht
   simp only at t1 t2 t3
   obtain ⟨p,hp,hp2,_⟩:=qDd O (a:=a) (by omega) (by omega)
   obtain ⟨r,hr,hr2,_⟩:=qDd O (a:=b) (by omega) (by omega)
   walk_at "v"
   refine ⟨⟨[_,_],rfl,rfl⟩,QG ⟨rfl,rfl⟩,fun _=>?_⟩
   walk_at "v"
   refine ⟨?_,rfl⟩
   show _=some (qb (mk (o.getD a.toNat 0) (o.getD b.toNat 0)))
   rw [wF,wF,hp2,hr2]
   rfl
  rw [qu]
  have em:us.map (fun t:Tie=>qb (mk (o.getD t.1.toNat 0) (o.getD t.2.toNat 0)))=((us.map fun t:Tie=>mk (o.getD t.1.toNat 0) (o.getD t.2.toNat 0)).map YC).map qBF:=by
   rw [JP,zW]
   rfl
  rw [em]
  have hlen:(us.map fun t:Tie=>mk (o.getD t.1.toNat 0) (o.getD t.2.toNat 0)).length<=20:=by rw [wC]; exact W2
  have k':∀ ts:List Tie,ts.Perm (us.map fun t:Tie=>mk (o.getD t.1.toNat 0) (o.getD t.2.toNat 0))->Φ (.d (Jo n ts)) [.d (Jo n us),.d (.tup (qL o))]:=k
  clear k
  generalize us.map (fun t:Tie=>mk (o.getD t.1.toNat 0) (o.getD t.2.toNat 0))=vs at hlen k'
  refine qT rfl ?_
  walk_at "sv"
  refine Yi (nss:=vs.map YC) (.inr rfl) (fun _ ns h=>?_) (zM (show _<=1000 by rw [wC]; omega) (by decide)) (fun nss' pm _=>?_)
  ·obtain ⟨t,_,rfl⟩:=zF.mp h
   exact fun z=>by cases z
  obtain ⟨ts,rfl,pt⟩:=qBH pm
  rw [JP ts]
  walk_at "v"
  exact ⟨⟨_,rfl⟩,k' ts pt⟩
theorem atN (bs:List Int) (w:Int) (h0:0<=w) (h1:w<(bs.length:Int)):∃ b,atI (bs.map D.int) w=some (.int b)/\bs[w.toNat]? = some b:=by
 obtain ⟨k,rfl⟩:∃ k:Nat,w=(k:Int):=⟨w.toNat,by omega⟩
 have hk:k<bs.length:=by omega
 exact ⟨bs[k],QX (by rw [wQ,wA hk]; rfl),by simp [hk]⟩
theorem qKZ {n i:Nat} (hi:i<n) (h3:2<n):((0:Int)+(i:Int))≠((0:Int)+(i:Int)+1) % (n:Int)/\0<=((0:Int)+(i:Int)+1) % (n:Int)/\((0:Int)+(i:Int)+1) % (n:Int)<(n:Int):=by
 refine ⟨?_,gC _ (by omega),kC _ (by omega)⟩
 by_cases z:i+1<n
 ·rw [Int.emod_eq_of_lt (by omega) (by omega)]
  omega
 ·have e:(0:Int)+(i:Int)+1=(n:Int):=by omega
  rw [e,Int.emod_self]
  omega
theorem qN0 {p:Prop} {i:Decidable p} (h:@decide p i=false):¬ p:=@of_decide_eq_false p i h
theorem qF8 {l:List Tie} {t:Tie} (h:l.Nodup) (n:t∉l):(l++[t]).Nodup:=uT.mpr ⟨h,zX.mpr ⟨zP,vI⟩,fun x hx y hy z=>n (zG.mp hy ▸ z ▸ hx)⟩
theorem qIZ {l m:List Tie} (h:l.Nodup) (g:m.Nodup) (d:∀ p∈l,p∉m):(l++m).Nodup:=uT.mpr ⟨h,g,fun x hx y hy z=>d x hx (z ▸ hy)⟩
theorem qDU {ps:List Tie} {i:Nat} (h:ps.Nodup) (g:∀ p∈ps,p.2<(i:Int)):(ps++(wV i).map fun a:Nat=>((0+(a:Int),(i:Int)):Tie)).Nodup/\∀ p∈ps++(wV i).map (fun a:Nat=>((0+(a:Int),(i:Int)):Tie)),p.2<((i+1:Nat):Int):=by
 refine ⟨qIZ h ?_ fun p hp z=>?_,fun p hp=>?_⟩
 ·rw [wY,yB]
  exact (wY.mp xT).imp fun {a b} ne z=>ne (by have:=congrArg TR z; simp only at this; omega)
 ·obtain ⟨a,_,rfl⟩:=zF.mp z
  have:=g _ hp
  simp only at this
  omega
 ·obtain z | z:=zR.mp hp
  ·have:=g p z
   omega
  ·obtain ⟨a,_,rfl⟩:=zF.mp z
   simp only
   omega
theorem qJP (n:Nat):(((wV n).filter fun _=>decide ((n:Int) > 2)).map fun i:Nat=>mk (0+(i:Int)) ((0+(i:Int)+1) % (n:Int))).Nodup:=by
 rw [wY,yB]
 refine hZ (R:=fun a b=>a≠b) (fun {i j} hi hj ne z=>?_) (wY.mp (xT.filter _))
 obtain ⟨i1,i2⟩:=zJ.mp hi
 obtain ⟨j1,_⟩:=zJ.mp hj
 have i1:=zO.mp i1
 have j1:=zO.mp j1
 have i2:=of_decide_eq_true i2
 have nx:∀ i:Nat,i<n->(0+(i:Int)+1) % (n:Int)=if i+1<n then (i:Int)+1 else 0:=fun i hi=>by
  by_cases h:i+1<n
  ·rw [if_pos h,Int.emod_eq_of_lt (by omega) (by omega)]
   omega
  ·rw [if_neg h,show 0+(i:Int)+1=(n:Int) by omega,Int.emod_self]
 rw [nx i i1,nx j j1] at z
 rcases mk_inj z with ⟨e,_⟩ | ⟨e1,e2⟩
 ·omega
 ·split at e1 <;> split at e2 <;> omega
theorem qHf {ps:List Tie} (h:ps.Nodup) {i:Nat} (hi:i<ps.length):ps[i]∉ps.take i:=fun z=>by
 have e:=vY i ps
 rw [<- e,uT] at h
 refine h.2.2 _ z _ ?_ rfl
 rw [kY hi]
 exact wD
theorem qFR {ps:List Tie} {i:Nat} (hi:i<ps.length) (p:Tie) (h:p=ps[i]\/p∈ps.take i):p∈ps.take (i+1):=by
 rw [vF hi]
 rcases h with z | z
 ·rw [z]
  exact zH _ wD
 ·exact zR.mpr (.inl z)
theorem qY:qW ["pool","most","cap","many","pairs","b","way","first","size","dense","more"] ["pool","most","cap"] (qG (top 25)):=by walk_at "sc"
theorem qCN (F:Fun K "_law_web" "_law_web" (top 25) f fd) (T:Txt mg) (XAJ:Has P w K mg base "_law_next" (top 23) ["pool","base"] 1 (spV qGw))
  (XAE:Has P w K mg base "_law_order" (top 26) ["pool","many"] 2 (spV qIH))
  (XAA:Has P w K mg base "_law_renamed" (top 27) ["web","names"] 1 (spV qDc)):Qg P w K mg base CX0 3 f fd ["pool","most","cap"] (spV qNa):=by
 refine jr F qY [0,1,2] (fun as Φ h=>?_) (fun cdv A outer s H E hr=>?_)
 ·obtain ⟨q,m,c,rfl,_⟩:=h
  rfl
 ·have hu:=hr.units
  refine ⟨_,(qC (jw 3 qY (qa (qAj (K:=K) rfl) qE (qp XAJ hr (qA (pv 0) (qA (pv 1) qB)))))
   (qC (jw 4 qY (qy qB))
   (qC (Ye xP rfl (jI (by rfl) T.n_range (qA (pv 3) qB)) (qBG 5 qY)
   (qF (jw 4 qY (qa (qAj (K:=K) rfl) (pv 4) (qw rfl (own:=["a"]) (fr:=[("b",5)]) (by walk_at "cs") (jI (by rfl) T.n_range (qA (pv 5) qB)) (fun cl C s0 H0 fp=>⟨(Qx 0),QC,(jS (qA (pv 0) (qA (pv 1) qB)))⟩))))))
   (qC (jw 6 qY (qp XAJ hr (qA (pv 0) (qA qE qB))))
   (qC (jw 7 qY (qy qB))
   (qC (Qr (PW.pt (qDN (qS (qGi hu) (pv 6) qE (qg _)) (qA6 (qS qEI (pv 3) qE (qg _)))))
   (qF (jw 7 qY (qw rfl (own:=["b"]) (fr:=[("pool",0)]) (by walk_at "cs") (qEh (by rfl) T.n_range (qA qE (qA (pv 3) qB))) (fun cl C s0 H0 fp=>⟨(Qx 0),QC,(jS (qA (qp XAJ hr (qA (pv 1) (qA (pv 0) qB))) (qA (pv 0) qB)))⟩))))
   jA)
   (qC (Qr (qS (qGi hu) (pv 6) qE (qg _))
   (qF (jw 7 qY (qw rfl (own:=["k"]) (fr:=[("many",3)]) (by walk_at "cs") (jI (by rfl) T.n_range (qA (pv 3) qB)) (fun cl C s0 H0 fp=>⟨(Qx 0),Qp (qS qEI (pv 1) qE (qg _)),(jS (qA (qK (Qy rfl) (by rfl) T.n_min gO (qA (pv 0) (qA (qa QM (qa (qAj (K:=K) rfl) (pv 0) qE) (pv 1)) qB))) (qA (qK (QV rfl) (by rfl) T.n_max kI (qA (pv 0) (qA (qa QM (qa (qAj (K:=K) rfl) (pv 0) qE) (pv 1)) qB))) qB)))⟩))))
   jA)
   (qC (Qr (qS (qGi hu) (pv 6) qE (qg _))
   (qC (jw 8 qY (qa (qAj (K:=K) rfl) qE (qp XAJ hr (qA (pv 0) (qA qE qB)))))
    (qF (jw 7 qY (qw rfl (own:=["pair"]) (fr:=[("size",8)]) (by walk_at "cs") (qt (K:=K) rfl (pv 4)) (fun cl C s0 H0 fp=>⟨(Qx 0),Qp (qS qHz (QH (pv 0) qE) (pv 1) (qg _)),(pv 0)⟩)))))
   jA)
   (qC (jw 9 qY (QH (qy (qA qE (qA qE (qA qE (qA qE qB))))) (qp XAJ hr (qA (pv 0) (qA qE qB)))))
   (qC (JW (i:=10) rfl qY.nd rfl rfl (own:=["pair"]) (fr:=[("first",7),("pool",0),("dense",9)]) (by walk_at "cs") (qt (K:=K) rfl (pv 4)) (fun cl C s0 H0 fp=>⟨(Qx 0),Qp (PW.pt (qDN (qS (YT hu) (pv 0) (pv 1) (by with_unfolding_all rfl)) (qA6 (qS (qGi hu) (qp XAJ hr (qA (pv 2) (qA (pv 3) qB))) qE (qg _))))),(pv 0)⟩))
   (qC (qAi xP (PW.pt (qDN (qS qEI (qa (qAj (K:=K) rfl) (qK (qCz (K:=K) rfl) (by rfl) T.n_len vN (qA (pv 7) qB)) (qK (qCz (K:=K) rfl) (by rfl) T.n_len vN (qA (pv 10) qB))) (pv 2) (qg _)) (qA6 (qS (qEt hu) (pv 10) (qy qB) (qg _)))))
   (qF (qB8 (qDE (K:=K) rfl gH PySem.F.slot_list_pop PySem.F.type_list_pop qDS (pv 10) (qA (qp XAJ hr (qA (pv 0) (qA (qK (qCz (K:=K) rfl) (by rfl) T.n_len vN (qA (pv 10) qB)) qB))) qB)))))
   (qF (qj (qp XAA hr (qA (jS (qA (pv 3) (qA (qe (YK (K:=K) rfl) (by rfl) T.n_tuple xG (qA (qK (QW hu) (by rfl) T.n_sorted ZC (qA (qa (qAj (K:=K) rfl) (qAs (qMQ (K:=K) rfl) (pv 7) qCM (qCe (pv 2))) (pv 10)) qB)) qB)) qB))) (qA (qp XAE hr (qA (pv 0) (qA (pv 3) qB))) qB)))))))))))))))),?_⟩
  rintro as Φ ⟨q,most,cap,rfl,m0,m1,hcap,k⟩
  walk_at "st"
  walk_at "vc"
  refine ⟨q,most,rfl,by omega,by omega,fun r q1 r0 r1=>⟨⟨_,rfl⟩,?_⟩⟩
  walk_at "sv"
  obtain ⟨n,hn⟩:∃ n:Nat,(n:Int)=1+r:=⟨(1+r).toNat,by omega⟩
  rw [<- hn]
  have hn1:1<=n:=by omega
  have hn9:n<=9:=by omega
  have hnm:n<=most:=by omega
  clear hn r0 r1
  walk_at "st"
  refine qCX (qHv ?_)
  walk_at "v"
  refine ⟨n,⟨_,rfl,rfl⟩,by omega,by omega,fun i ρ=>∃(ps:List Tie) (s5:Sl),ρ=[.l (jJ q1),.d (.int most),.d (.int cap),.d (.int n),.l (ps.map qb),s5,.u,.u,.u,.u,.u]/\(∀ p∈ps,okp n p)/\ps.length<=9*i/\ps.Nodup/\∀ p∈ps,p.2<(i:Int),⟨[],_,rfl,fun _ h=>(by cases h),wH _,vI,fun _ h=>(by cases h)⟩,?_,?_⟩
  ·rintro i x ρ hx ⟨ps,s5,rfl,hok,hl,pnd,plt⟩
   have hin:i<n:=by
    have:=(wR.mp hx).1
    rw [jF] at this
    omega
   rw [yD,Qc hin,kW] at hx
   cases hx
   refine qT rfl ?_
   walk_at "sv"
   refine QE (fun a:Nat=>D.int (0+(a:Int))) (wV i) (fun _=>true) (fun a=>qb (0+(a:Int),(i:Int))) (qHv ?_)
   walk_at "v"
   refine ⟨i,⟨_,rfl,rfl⟩,by omega,by omega,qC5 _ _,qN (by rw [zT]; omega),qZ rfl,of_decide_eq_true rfl,?_,?_⟩
   ·rintro a _ os hos
    obtain ⟨z0,rfl⟩:=qGn hos
    walk_at "v"
    refine ⟨⟨[_],rfl,rfl⟩,QG ⟨rfl,rfl⟩,fun _=>?_⟩
    walk_at "v"
    exact ⟨rfl,rfl⟩
   rw [qu]
   have em:(wV i).map (fun a:Nat=>qb (0+(a:Int),(i:Int)))=((wV i).map fun a:Nat=>((0+(a:Int),(i:Int)):Tie)).map qb:=by
    rw [zW]
    rfl
   rw [em]
   refine OpV.r (OpV.l (YY rfl rfl (sz2 ?_) ?_))
   ·rw [wC,wC,wC,zT]
    omega
   rw [<- yI]
   refine qT rfl ?_
   walk_at "st"
   refine ⟨_,_,rfl,fun p hp=>?_,?_,(qDU pnd plt).1,(qDU pnd plt).2⟩
   ·obtain z | z:=zR.mp hp
    ·exact hok p z
    ·obtain ⟨a,ha,rfl⟩:=zF.mp z
     have:=zO.mp ha
     refine ⟨?_,?_,?_⟩ <;> simp only <;> omega
   ·rw [wO,wC,zT]
    omega
  rintro ρ ⟨ps,s5,rfl,hps,hpl,pnd,_⟩
  rw [jF,yD] at hpl
  walk_at "vc"
  refine ⟨q1,6,rfl,by decide,by decide,fun way q2 w0 w1=>⟨⟨_,rfl⟩,?_⟩⟩
  walk_at "st"
  refine qT rfl ?_
  walk_at "st"
  refine qv (fun ρ=>ρ=[.l (jJ q2),.d (.int most),.d (.int cap),.d (.int n),.l (ps.map qb),s5,.d (.int way),.l [],.u,.u,.u]) (by walk_at "v"; rfl) ?_
  rintro ρ rfl
  refine qv (fun ρ=>∃(q:Int×Int×Int) (fs:List Tie),ρ=[.l (jJ q),.d (.int most),.d (.int cap),.d (.int n),.l (ps.map qb),s5,.d (.int way),.l (fs.map qb),.u,.u,.u]/\(∀ p∈fs,okp n p)/\fs.length<=81/\fs.Nodup) ?_ ?_
  ·walk_at "v"
   walk_at "vJ"
   refine qBE (fun _=>?_) (fun _=>jR ⟨q2,[],rfl,fun _ h=>(by cases h),by decide,vI⟩)
   refine qBS (qFK (qNr ?_))
   walk_at "v"
   refine ⟨1,n,⟨_,_,rfl,rfl,rfl⟩,⟨by decide,by decide,by omega,by omega⟩,qZ rfl,of_decide_eq_true rfl,fun i ys ρc=>∃(s:Sl) (q:Int×Int×Int) (fs:List Tie),ρc=[s,.l (jJ q)]/\ys=fs.map qb/\fs.length=i/\i<=9/\(∀ p∈fs,okp n p)/\fs.Nodup/\∀ p∈fs,p.2<1+(i:Int),⟨_,q2,[],rfl,rfl,rfl,by decide,fun _ h=>(by cases h),vI,fun _ h=>(by cases h)⟩,?_,?_,?_⟩
   ·rintro i ys ρc ⟨s,q,fs,rfl,rfl,hl,hi,_⟩
    exact ⟨qN (by rw [wC]; omega),rfl⟩
   ·rintro i x ys ρc hx ⟨s,q,fs,rfl,rfl,hl,hi,hok,fnd,flt⟩
    have hin:i<((n:Int) - 1).toNat:=by
     have:=(wR.mp hx).1
     rw [jF] at this
     exact this
    rw [Qc hin] at hx
    cases hx
    generalize hb:(1:Int)+(i:Int)=b
    walk_at "v"
    rw [if_pos rfl]
    walk_at "v"
    refine jP ?_
    walk_at "v"
    refine ⟨of_decide_eq_true rfl,?_⟩
    walk_at "st"
    refine ⟨q,b,rfl,by omega,by omega,fun v q' v0 v1=>⟨⟨_,rfl⟩,?_⟩⟩
    walk_at "sv"
    refine ⟨_,q',fs++[(v,b)],rfl,?_,by rw [wO,hl]; rfl,by omega,fun p hp=>?_,qF8 fnd (fun z=>by have:=flt _ z; simp only at this; omega),fun p hp=>?_⟩
    ·rw [yI]
     rfl
    ·obtain z | z:=zR.mp hp
     ·exact hok p z
     ·rw [zG.mp z]
      refine ⟨?_,?_,?_⟩ <;> simp only <;> omega
    ·obtain z | z:=zR.mp hp
     ·have:=flt p z
      omega
     ·rw [zG.mp z]
      simp only
      omega
   ·rintro ys ρc ⟨s,q,fs,rfl,rfl,hl,hi,hok,fnd,_⟩
    walk_at "st"
    refine qT rfl ?_
    walk_at "st"
    exact ⟨q,fs,rfl,hok,by omega,fnd⟩
  rintro ρ ⟨q3,fs,rfl,hok,hfl,fnd⟩
  refine qv (fun ρ=>∃(fs:List Tie),ρ=[.l (jJ q3),.d (.int most),.d (.int cap),.d (.int n),.l (ps.map qb),s5,.d (.int way),.l (fs.map qb),.u,.u,.u]/\(∀ p∈fs,okp n p)/\fs.length<=81/\fs.Nodup) ?_ ?_
  ·walk_at "v"
   refine qBE (fun _=>?_) (fun _=>jR ⟨fs,rfl,hok,hfl,fnd⟩)
   walk_at "v"
   refine QE (fun i:Nat=>D.int (0+(i:Int))) (wV n) (fun _=>decide ((n:Int) > 2)) (fun i=>qb (mk (0+(i:Int)) ((0+(i:Int)+1) % (n:Int)))) (qHv ?_)
   walk_at "v"
   refine ⟨n,⟨_,rfl,rfl⟩,by omega,by omega,qC5 _ _,qN (by rw [zT]; omega),qZ rfl,of_decide_eq_true rfl,?_,?_⟩
   ·rintro i _ os hos
    obtain ⟨z0,rfl⟩:=qGn hos
    walk_at "v"
    refine ⟨⟨[_],rfl,rfl⟩,?_,fun _=>?_⟩
    ·walk_at "v"
     exact ⟨rfl,rfl⟩
    ·walk_at "v"
     refine Jp rfl rfl (by show (0:Int)<_; omega) ?_
     walk_at "v"
     refine Jp rfl rfl (by show (0:Int)<_; omega) ?_
     walk_at "v"
     exact ⟨rfl,rfl⟩
   have em:((wV n).filter fun _=>decide ((n:Int) > 2)).map (fun i:Nat=>qb (mk (0+(i:Int)) ((0+(i:Int)+1) % (n:Int))))=(((wV n).filter fun _=>decide ((n:Int) > 2)).map fun i:Nat=>mk (0+(i:Int)) ((0+(i:Int)+1) % (n:Int))).map qb:=by
    rw [zW]
    rfl
   rw [em]
   refine qT rfl ?_
   walk_at "st"
   refine ⟨_,rfl,fun p hp=>?_,?_,qJP n⟩
   ·obtain ⟨i,hi,rfl⟩:=zF.mp hp
    obtain ⟨h1,h2⟩:=zJ.mp hi
    have h1':=zO.mp h1
    have h2':=ofd h2
    obtain ⟨a1,a2,a3⟩:=qKZ h1' (by omega)
    exact qLD ⟨by omega,by omega⟩ ⟨a2,a3⟩ a1
   ·rw [wC]
    exact zM (yU _ _) (by rw [zT]; omega)
  rintro ρ ⟨fs,rfl,hok,hfl,fnd⟩
  refine qv (fun ρ=>∃(q:Int×Int×Int) (fs:List Tie) (s8:Sl),ρ=[.l (jJ q),.d (.int most),.d (.int cap),.d (.int n),.l (ps.map qb),s5,.d (.int way),.l (fs.map qb),s8,.u,.u]/\(∀ p∈fs,okp n p)/\fs.length<=81/\fs.Nodup) ?_ ?_
  ·walk_at "v"
   refine qBE (fun _=>?_) (fun _=>jR ⟨q3,fs,_,rfl,hok,hfl,fnd⟩)
   walk_at "vc"
   refine ⟨q3,4,rfl,by decide,by decide,fun v q4 v0 v1=>⟨⟨_,rfl⟩,?_⟩⟩
   walk_at "sv"
   generalize (2:Int)+v=sz
   refine qAk qb ps (fun p=>decide (p.2<sz)) qb rfl rfl (qN (by omega)) (qZ rfl) (of_decide_eq_true rfl) ?_ ?_
   ·rintro ⟨a,b⟩ _ os hos
    obtain ⟨z0,rfl⟩:=qGn hos
    walk_at "v"
    refine ⟨⟨[_],rfl,rfl⟩,?_,fun _=>?_⟩
    ·walk_at "v"
     exact ⟨rfl,rfl⟩
    ·walk_at "v"
     exact ⟨rfl,rfl⟩
   refine qT rfl ?_
   walk_at "st"
   exact ⟨q4,_,_,rfl,fun p hp=>hps p (zJ.mp hp).1,zM (yU _ _) (by omega),pnd.filter _⟩
  rintro ρ ⟨q4,fs,s8,rfl,hok,hfl,fnd⟩
  walk_at "vc"
  refine ⟨q4,4,rfl,by decide,by decide,fun dv q5 v0 v1=>⟨⟨_,rfl⟩,?_⟩⟩
  walk_at "st"
  obtain ⟨dn,hdn,hdn2⟩:=atN [2,3,4,9] dv v0 v1
  have hdm:=vM hdn2
  have hd2:2<=dn/\dn<=9:=by
   simp only [wW,zP,or_false] at hdm
   omega
  refine qB7 rfl rfl hdn ?_
  refine qT rfl ?_
  walk_at "st"
  refine qv (fun ρ=>∃(q:Int×Int×Int) (ms:List Tie),ρ=[.l (jJ q),.d (.int most),.d (.int cap),.d (.int n),.l (ps.map qb),s5,.d (.int way),.l (fs.map qb),s8,.d (.int dn),.l (ms.map qb)]/\(∀ p∈ms,okp n p)/\ms.length<=81/\ms.Nodup/\∀ p∈ms,p∉fs) ?_ ?_
  ·refine qBS (qDW (s:=4) (xs:=ps.map qb) rfl (fun h=>by simp [Qe] at h) (qZ rfl) (of_decide_eq_true rfl) (fun i ys ρc=>∃(s:Sl) (q:Int×Int×Int) (ms:List Tie),ρc=[s,.l (fs.map qb),.l (jJ q),.d (.int dn)]/\ys=ms.map qb/\ms.length<=i/\i<=ps.length/\(∀ p∈ms,okp n p)/\ms.Nodup/\(∀ p∈ms,p∉fs)/\∀ p∈ms,p∈ps.take i) ⟨_,q5,[],rfl,rfl,wH _,yN _,fun _ h=>(by cases h),vI,fun _ h=>(by cases h),fun _ h=>(by cases h)⟩ ?_ ?_ ?_)
   ·rintro i ys ρc ⟨s,q,ms,rfl,rfl,hl,hi,_⟩
    exact ⟨qN (by rw [wC]; omega),rfl⟩
   ·rintro i x ys ρc hx ⟨s,q,ms,rfl,rfl,hl,hi,hmk,mnd,mnf,mtk⟩
    have hil:i<ps.length:=by
     have:=(wR.mp hx).1
     rwa [wC] at this
    have et:(ps.map qb)[i]? = some (qb ps[i]):=by rw [wQ,wA hil]; rfl
    rw [et] at hx
    cases hx
    have ot:=hps _ (yY hil)
    have tn:ps[i]∉ps.take i:=qHf pnd hil
    have ti:∀ p,p=ps[i]\/p∈ps.take i->p∈ps.take (i+1):=qFR hil
    clear et
    generalize ps[i]=t at ot tn ti
    refine qT rfl ?_
    walk_at "st"
    refine qLI (qIE ?_)
    walk_at "v"
    refine qIA (f:=qb) (q:=t) (fs:=fs) qCV (fun _=>vB rfl) rfl (.inl rfl) ?_
    walk_at "v"
    refine qBE (fun hnf=>?_) (fun _=>?_)
    ·have hnf:=qN0 (qDt hnf)
     walk_at "vc"
     refine ⟨q,dn,rfl,by omega,by omega,fun v q' v0 v1=>⟨⟨_,rfl⟩,?_⟩⟩
     walk_at "sv"
     refine qBE (fun _=>?_) (fun _=>?_)
     ·walk_at "v"
      refine ⟨_,q',ms++[t],rfl,?_,?_,by omega,fun p hp=>?_,qF8 mnd (fun z=>tn (mtk _ z)),fun p hp=>?_,fun p hp=>ti p ?_⟩
      ·rw [yI]
       rfl
      ·rw [wO]
       show ms.length+1<=i+1
       omega
      ·obtain z | z:=zR.mp hp
       ·exact hmk p z
       ·rw [zG.mp z]
        exact ot
      ·obtain z | z:=zR.mp hp
       ·exact mnf p z
       ·rw [zG.mp z]
        exact hnf
      ·obtain z | z:=zR.mp hp
       ·exact .inr (mtk p z)
       ·exact .inl (zG.mp z)
     ·exact ⟨_,q',ms,rfl,rfl,by omega,by omega,hmk,mnd,mnf,fun p hp=>ti p (.inr (mtk p hp))⟩
    ·rw [if_neg wU]
     exact ⟨_,q,ms,rfl,rfl,by omega,by omega,hmk,mnd,mnf,fun p hp=>ti p (.inr (mtk p hp))⟩
   ·rintro ys ρc ⟨s,q,ms,rfl,rfl,hl,hi,hmk,mnd,mnf,_⟩
    walk_at "st"
    refine qT rfl ?_
    walk_at "st"
    rw [wC] at hl hi
    exact ⟨q,ms,rfl,hmk,by omega,mnd,mnf⟩
  rintro ρ ⟨q6,ms,rfl,hmk,hml,mnd,mnf⟩
  refine qv (fun ρ=>∃(q:Int×Int×Int) (ms:List Tie),ρ=[.l (jJ q),.d (.int most),.d (.int cap),.d (.int n),.l (ps.map qb),s5,.d (.int way),.l (fs.map qb),s8,.d (.int dn),.l (ms.map qb)]/\(∀ p∈ms,okp n p)/\ms.Nodup/\(∀ p∈ms,p∉fs)/\(fs.length+ms.length<=cap\/ms=[])) ?_ ?_
  ·refine qCG (fun m ρ=>∃(q:Int×Int×Int) (ms:List Tie),ρ=[.l (jJ q),.d (.int most),.d (.int cap),.d (.int n),.l (ps.map qb),s5,.d (.int way),.l (fs.map qb),s8,.d (.int dn),.l (ms.map qb)]/\(∀ p∈ms,okp n p)/\ms.Nodup/\(∀ p∈ms,p∉fs)/\ms.length=m/\m<=81) ms.length ⟨q6,ms,rfl,hmk,mnd,mnf,rfl,hml⟩ ?_
   rintro m ρ ⟨q,ms,rfl,hmk,mnd,mnf,hm,hm81⟩
   have hdp:qI (ms.map qb)<=50:=zM (Qa (f:=qb) (k:=1) (fun a=>wH _) ms) (by decide)
   walk_at "vJ"
   by_cases hc:fs.length+ms.length<=cap
   ·rw [decide_eq_false (by rw [wC,wC]; omega),Bool.false_and,if_neg wU]
    exact ⟨q,ms,rfl,hmk,mnd,mnf,.inl hc⟩
   ·rw [decide_eq_true (by rw [wC,wC]; omega),Bool.true_and]
    by_cases hz:ms=[]
    ·subst hz
     rw [if_neg (by decide)]
     exact ⟨q,[],rfl,hmk,mnd,mnf,.inr rfl⟩
    ·have e:(ms.map qb).isEmpty=false:=by
      cases ms with
      | nil=>exact absurd rfl hz
      | cons t ms=>rfl
     have hpos:0<ms.length:=List.length_pos_iff.mpr hz
     rw [e,if_pos (by rfl)]
     walk_at "v"
     refine jP ?_
     walk_at "v"
     refine ⟨of_decide_eq_true rfl,?_⟩
     walk_at "st"
     refine ⟨q,_,rfl,by rw [wC]; omega,by rw [wC]; omega,fun r q' r0 r1=>⟨⟨_,rfl⟩,?_⟩⟩
     rw [wC] at r1
     obtain ⟨j,rfl⟩:∃ j:Nat,r=(j:Int):=⟨r.toNat,by omega⟩
     have hj:j<ms.length:=by omega
     walk_at "sv"
     refine qFJ (k:=j) (d:=qb ms[j]) rfl rfl (by rw [wQ,wA hj]; rfl) (by rw [wC]; omega) ?_
     walk_at "st"
     rw [Ys]
     refine ⟨m - 1,by omega,q',ms.eraseIdx j,rfl,fun p hp=>hmk p (SH hp),List.Pairwise.sublist (List.eraseIdx_sublist _ _) mnd,fun p hp=>mnf p (SH hp),?_,by omega⟩
     rw [List.length_eraseIdx,if_pos hj]
     omega
  rintro ρ ⟨q7,ms,rfl,hmk,mnd,mnf,hend⟩
  have hus:∀ p∈fs.take cap++ms,okp n p:=fun p hp=>by
   obtain z | z:=zR.mp hp
   ·exact hok p (uO z)
   ·exact hmk p z
  have unn:(fs.take cap++ms).Nodup:=qIZ (List.Pairwise.sublist (xY _ _) fnd) mnd fun p hp z=>mnf p z (uO hp)
  have hul:(fs.take cap++ms).length<=cap:=by
   rw [wO,yQ]
   rcases hend with z | z
   ·omega
   ·rw [z]
    show min cap fs.length+0<=cap
    omega
  walk_at "v"
  refine jP ?_
  walk_at "v"
  refine SlV.l (qOB rfl ?_)
  rw [qI1]
  walk_at "v"
  refine OpV.r (OpV.l (YY rfl rfl (sz2 ?_) ?_))
  ·rw [wC,wC]
   rw [wO] at hul
   omega
  rw [<- yI]
  generalize fs.take cap++ms=us at hus hul unn
  walk_at "v"
  refine Yi (nss:=us.map YC) (.inr (congrArg (fun l=>some (D.lst l)) (JP us).symm)) (fun _ ns h=>?_) (zM (show _<=1000 by rw [wC]; omega) (by decide)) (fun nss' pm _=>?_)
  ·obtain ⟨t,_,rfl⟩:=zF.mp h
   exact fun z=>by cases z
  obtain ⟨ts,rfl,pt⟩:=qBH pm
  rw [JP ts]
  walk_at "vc"
  refine ⟨q7,n,rfl,hn9,fun o q8 O=>⟨⟨_,rfl⟩,?_⟩⟩
  walk_at "sv"
  refine ⟨of_decide_eq_true rfl,?_⟩
  walk_at "st"
  have W1:qIu n ts:={ pos:=hn1,few:=hn9,len:=(by rw [pt.length_eq]; omega),ok:=fun t ht=>hus t (pt.mem_iff.mp ht),nd:=pt.nodup_iff.mpr unn }
  refine ⟨n,ts,o,rfl,W1,O,fun ts2 p2=>⟨⟨_,rfl⟩,?_⟩⟩
  walk_at "st"
  exact ⟨⟨_,rfl⟩,k n ts2 q8 (qJU W1 O p2) hnm (by rw [p2.length_eq,wC,pt.length_eq]; exact hul)⟩
def qFd:PV:=fun as Φ=>∃ a b:Int,as=[.d (.int a),.d (.int b)]/\Φ (.d (qb (mk a b))) as
theorem qHs (ts:List Tie):ts.map qb=(ts.map YC).map qBF:=by
 rw [zW]
 rfl
theorem qGP:qW ["a","b"] ["a","b"] (qG (top 5)):=by walk_at "sc"
theorem qGH (F:Fun K "tie_of" "tie_of" (top 5) f fd) (T:Txt mg):Qg P w K mg base CX0 1 f fd ["a","b"] (spV qFd):=by
 refine jr F qGP [0,1] (fun as Φ h=>?_) (fun cdv A outer s H E hr=>?_)
 ·obtain ⟨a,b,rfl,_⟩:=h
  rfl
 ·have hu:=hr.units
  refine ⟨_,(qF (qj (jS (qA (qK (Qy rfl) (by rfl) T.n_min gO (qA (pv 0) (qA (pv 1) qB))) (qA (qK (QV rfl) (by rfl) T.n_max kI (qA (pv 0) (qA (pv 1) qB))) qB))))),?_⟩
  rintro as Φ ⟨a,b,rfl,k⟩
  walk_at "sv"
  exact ⟨⟨_,rfl⟩,k⟩
def tlt (s t:Tie):Prop:=s.1<t.1\/(s.1=t.1/\s.2<t.2)
def ndr (a b p:Int):Int:=if p=b then a else if p > b then p - 1 else p
theorem qB0:∀{a b:List Int},HT.lexLt a b=false->HT.lexLt b a=false->a=b
 | [],b,h,g=>by
  cases b with
  | nil=>rfl
  | cons y b=>exact nomatch h
 | x::a,[],h,g=>nomatch g
 | x::a,y::b,h,g=>by
  rw [HT.lexLt_cons] at h g
  by_cases e:x=y
  ·subst e
   rw [if_pos rfl] at h g
   rw [qB0 h g]
  ·rw [if_neg e] at h
   rw [if_neg (ZK e)] at g
   have:=of_decide_eq_false h
   have:=of_decide_eq_false g
   omega
theorem qI0 {l:List (List Int)} (h:l.Pairwise (fun a b=>HT.lexLt b a=false)) (nd:l.Nodup):l.Pairwise (fun a b=>HT.lexLt a b=true):=by
 rw [wY] at nd
 refine (h.and nd).imp fun {a b} z=>?_
 cases e:HT.lexLt a b with
 | true=>rfl
 | false=>exact absurd (qB0 e z.1) z.2
theorem qA8 {a b p q:Int} (hab:a<b) (h:ndr a b p=ndr a b q):p=q\/(p=a/\q=b)\/(p=b/\q=a):=by
 unfold ndr at h
 split at h <;> split at h <;> (try split at h) <;> (try split at h) <;> omega
theorem off {p:Prop} {i:Decidable p} (h:@decide p i=false):¬ p:=@of_decide_eq_false p i h
def qNI:PV:=fun as Φ=>∃ p a b:Int,as=[.d (.int p),.d (.int a),.d (.int b)]/\Φ (.d (.int (ndr a b p))) as
def qGj (a b:Int) (t:Tie):Tie:=mk (ndr a b t.1) (ndr a b t.2)
def jb (a b:Int) (ts us:List Tie):Prop:=us.Pairwise tlt/\∀ u,u∈us↔∃ t∈ts,ndr a b t.1≠ndr a b t.2/\u=qGj a b t
def qGe:PV:=fun as Φ=>∃(n:Nat) (ts:List Tie) (a b:Int),as=[.d (Jo n ts),.d (.int a),.d (.int b)]/\1<=n/\ts.length<=20/\∀ us,jb a b ts us->Φ (.d (Jo (n - 1) us)) as
def qEn:PV:=fun as Φ=>∃(n:Nat) (ts:List Tie) (a b:Int),as=[.d (Jo n ts),.d (.int a),.d (.int b)]/\ts.length<=20/\mk a b∈ts/\Φ (.d (Jo n (ts.filter fun t=>!decide (t=mk a b)))) as
theorem qHb {s t:Tie} (h:YC s=YC t):s=t:=by
 obtain ⟨a,b⟩:=s
 obtain ⟨c,d⟩:=t
 obtain ⟨e1,e2⟩:=vZ h
 obtain ⟨e3,_⟩:=vZ e2
 exact hV e1 e3
theorem qLB {s t:Tie} (h:HT.lexLt (YC s) (YC t)=true):tlt s t:=by
 unfold YC at h
 unfold tlt
 rw [HT.lexLt_cons] at h
 by_cases e:s.1=t.1
 ·rw [if_pos e,HT.lexLt_cons] at h
  by_cases e2:s.2=t.2
  ·rw [if_pos e2] at h
   cases h
  ·rw [if_neg e2] at h
   exact .inr ⟨e,of_decide_eq_true h⟩
 ·rw [if_neg e] at h
  exact .inl (of_decide_eq_true h)
theorem qJ4 {us:List Tie} (so:(us.map YC).Pairwise (fun a b=>HT.lexLt b a=false)) (nd:us.Nodup):us.Pairwise tlt:=by
 have nd2:(us.map YC).Nodup:=by
  rw [wY,yB]
  exact (wY.mp nd).imp fun {a b} h z=>h (qHb z)
 have:=qI0 so nd2
 rw [yB] at this
 exact this.imp fun {a b} h=>qLB h
theorem Yl:qW ["place","a","b"] ["place","a","b"] (qG (top 6)):=by walk_at "sc"
theorem Yv (F:Fun K "number_drawn" "number_drawn" (top 6) f fd) (T:Txt mg):Qg P w K mg base CX0 1 f fd ["place","a","b"] (spV qNI):=by
 refine jr F Yl [0,1,2] (fun as Φ h=>?_) (fun cdv A outer s H E hr=>?_)
 ·obtain ⟨p,a,b,rfl,_⟩:=h
  rfl
 ·have hu:=hr.units
  refine ⟨_,(qC (Qr (qS (qGi hu) (pv 0) (pv 2) (qg _))
   (qF (qj (pv 1)))
   jA)
   (qF (qj (qDQ (qS qEI (pv 0) (pv 2) (qg _)) (qa YV (pv 0) qE) (pv 0))))),?_⟩
  rintro as Φ ⟨p,a,b,rfl,k⟩
  unfold ndr at k
  walk_at "sv"
  refine qBE (fun hc=>?_) (fun hc=>?_)
  ·rw [if_pos (ofd hc)] at k
   walk_at "v"
   exact ⟨⟨_,rfl⟩,k⟩
  ·rw [if_neg fun z=>hc (decide_eq_true z)] at k
   refine jR ?_
   refine qHW (qNU ?_)
   walk_at "v"
   refine qBE (fun hc2=>?_) (fun hc2=>?_)
   ·rw [if_pos (ofd hc2)] at k
    walk_at "v"
    exact ⟨⟨_,rfl⟩,k⟩
   ·rw [if_neg fun z=>hc2 (decide_eq_true z)] at k
    walk_at "v"
    exact ⟨⟨_,rfl⟩,k⟩
theorem J3:qW ["web","a","b","many","ties","pairs"] ["web","a","b"] (qG (top 7)):=by walk_at "sc"
theorem qHT (F:Fun K "drawn" "drawn" (top 7) f fd) (T:Txt mg) (XAB:Has P w K mg base "number_drawn" (top 6) ["place","a","b"] 1 (spV qNI)) (XAT:Has P w K mg base "tie_of" (top 5) ["a","b"] 1 (spV qFd)):Qg P w K mg base CX0 2 f fd ["web","a","b"] (spV qGe):=by
 refine jr F J3 [0,1,2] (fun as Φ h=>?_) (fun cdv A outer s H E hr=>?_)
 ·obtain ⟨n,ts,a,b,rfl,_⟩:=h
  rfl
 ·have hu:=hr.units
  refine ⟨_,(qC (YF (pv 0) (jG (K:=K) (n:=2) rfl rfl (qO (qBG 3 J3) (qO (qBG 4 J3) jD))))
   (qC (JW (i:=5) rfl J3.nd rfl rfl (own:=["one","other"]) (fr:=[("a",1),("b",2)]) (by walk_at "cs") (qt (K:=K) rfl (pv 4)) (fun cl C s0 H0 fp=>⟨(jG (K:=K) (n:=2) rfl rfl (qO (Qx 0) (qO (Qx 1) jD))),QC,(jS (qA (qp XAB hr (qA (pv 0) (qA (pv 2) (qA (pv 3) qB)))) (qA (qp XAB hr (qA (pv 1) (qA (pv 2) (qA (pv 3) qB)))) qB)))⟩))
   (qF (qj (jS (qA (qa YV (pv 3) qE) (qA (qe (YK (K:=K) rfl) (by rfl) T.n_tuple xG (qA (qD6 rfl hu (by rfl) T.n_sorted (own:=["one","other"]) (fr:=[]) (by walk_at "cs") (qt (K:=K) rfl (pv 5)) (fun cl C s0 H0 fp=>⟨(jG (K:=K) (n:=2) rfl rfl (qO (Qx 0) (qO (Qx 1) jD))),Qp (qS (qEt hu) (pv 0) (pv 1) (qg _)),(qp XAT hr (qA (pv 0) (qA (pv 1) qB)))⟩)) qB)) qB))))))),?_⟩
  rintro as Φ ⟨n,ts,a,b,rfl,n1,hl,k⟩
  let SW:Sl:=.d (Jo n ts)
  let SA:Sl:=.d (.int a)
  let SB:Sl:=.d (.int b)
  let SN:Sl:=.d (.int n)
  let ST:Sl:=.d (.tup (ts.map qb))
  let pr:Tie->Tie:=fun t=>(ndr a b t.1,ndr a b t.2)
  walk_at "st"
  refine qv (fun ρ=>ρ=[SW,SA,SB,SN,ST,.u]) ?_ ?_
  ·refine qBS (qAr rfl ?_)
   refine qD7 rfl rfl (jd (qT rfl (jd (qT rfl (qAY ?_)))))
   rfl
  rintro ρ rfl
  refine qv (fun ρ=>ρ=[SW,SA,SB,SN,ST,.l (ts.map fun t=>qb (pr t))]) ?_ ?_
  ·refine qBS (QE qb ts (fun _=>true) (fun t=>qb (pr t)) (Yt ?_))
   walk_at "v"
   refine ⟨_,_,rfl,rfl,rfl,qN (by omega),qZ rfl,of_decide_eq_true rfl,?_,?_⟩
   ·rintro ⟨c,d⟩ ht os hos
    obtain ⟨z0,z1,rfl⟩:=qIW hos
    rw [show qb (c,d)=D.tup [.int c,.int d] from rfl]
    walk_at "v"
    refine ⟨⟨[_,_],rfl,rfl⟩,QG ⟨rfl,rfl⟩,fun _=>?_⟩
    walk_at "vc"
    refine ⟨c,a,b,rfl,⟨⟨_,rfl⟩,?_⟩⟩
    walk_at "st"
    walk_at "vc"
    refine ⟨d,a,b,rfl,⟨⟨_,rfl⟩,?_⟩⟩
    walk_at "sv"
    exact ⟨rfl,rfl⟩
   ·rw [qu]
    walk_at "v"
    rfl
  rintro ρ rfl
  refine Qd (i:=5) rfl ?_
  walk_at "sv"
  refine qGT (fun t=>qb (pr t)) ts (fun t=>!decide (ndr a b t.1=ndr a b t.2)) (fun t=>YC (qGj a b t)) (Yt ?_)
  walk_at "v"
  refine ⟨_,_,rfl,rfl,rfl,by omega,qZ rfl,of_decide_eq_true rfl,?_,fun t=>List.cons_ne_nil _ _,fun L nd inL so=>?_⟩
  ·rintro ⟨c,d⟩ ht os hos
   obtain ⟨z0,z1,rfl⟩:=qIW hos
   rw [show qb (pr (c,d))=D.tup [.int (ndr a b c),.int (ndr a b d)] from rfl]
   walk_at "v"
   refine ⟨⟨[_,_],rfl,rfl⟩,?_,fun _=>?_⟩
   ·walk_at "v"
    exact ⟨rfl,rfl⟩
   ·walk_at "call"
    exact ⟨_,_,rfl,⟨⟨_,rfl⟩,rfl,rfl⟩⟩
  ·have inn:∀ r,r∈L↔∃ t∈ts,ndr a b t.1≠ndr a b t.2/\r=YC (qGj a b t):=fun r=>by
    rw [inL,zF]
    constructor
    ·rintro ⟨t,ht,e⟩
     obtain ⟨h1,h2⟩:=zJ.mp ht
     rw [xK,decide_eq_false_iff_not] at h2
     exact ⟨t,h1,h2,e.symm⟩
    ·rintro ⟨t,h1,h2,e⟩
     exact ⟨t,zJ.mpr ⟨h1,by rw [xK,decide_eq_false_iff_not]; exact h2⟩,e.symm⟩
   let un:List Int->Tie:=fun l=>(l.getD 0 0,l.getD 1 0)
   have back:∀ r∈L,YC (un r)=r:=fun r hr=>by
    obtain ⟨t,_,_,rfl⟩:=(inn r).mp hr
    rfl
   have eL:L=(L.map un).map YC:=by
    rw [zW]
    conv=>lhs; rw [<- List.map_id L]
    exact uX fun r hr=>(back r hr).symm
   have ndu:(L.map un).Nodup:=by
    rw [eL] at nd
    exact (wY.mpr ((yB.mp (wY.mp nd)).imp fun {s t} h (z:s=t)=>h (congrArg YC z)))
   have up:(L.map un).Pairwise tlt:=qJ4 (eL ▸ so) ndu
   have inu:∀ u,u∈L.map un↔∃ t∈ts,ndr a b t.1≠ndr a b t.2/\u=qGj a b t:=fun u=>by
    rw [zF]
    constructor
    ·rintro ⟨r,hr,rfl⟩
     obtain ⟨t,h1,h2,rfl⟩:=(inn r).mp hr
     exact ⟨t,h1,h2,rfl⟩
    ·rintro ⟨t,h1,h2,rfl⟩
     exact ⟨YC (qGj a b t),(inn _).mpr ⟨t,h1,h2,rfl⟩,rfl⟩
   have e2:L.map qBF=(L.map un).map qb:=by
    conv=>lhs; rw [eL]
    exact (qHs _).symm
   rw [e2]
   walk_at "v"
   have en:(n:Int) - 1=((n - 1:Nat):Int):=by omega
   rw [en]
   exact ⟨⟨_,rfl⟩,k _ ⟨up,inu⟩⟩
theorem Q3:qW ["web","a","b","many","ties","tie"] ["web","a","b"] (qG (top 8)):=by walk_at "sc"
theorem qFC (F:Fun K "untied" "untied" (top 8) f fd) (T:Txt mg) (XAT:Has P w K mg base "tie_of" (top 5) ["a","b"] 1 (spV qFd)):Qg P w K mg base CX0 2 f fd ["web","a","b"] (spV qEn):=by
 refine jr F Q3 [0,1,2] (fun as Φ h=>?_) (fun cdv A outer s H E hr=>?_)
 ·obtain ⟨n,ts,a,b,rfl,_⟩:=h
  rfl
 ·have hu:=hr.units
  refine ⟨_,(qC (YF (pv 0) (jG (K:=K) (n:=2) rfl rfl (qO (qBG 3 Q3) (qO (qBG 4 Q3) jD))))
   (qC (jw 5 Q3 (qp XAT hr (qA (pv 1) (qA (pv 2) qB))))
   (qC (Qr (qS (YT hu) (pv 5) (pv 4) (by with_unfolding_all rfl))
   (qF qDT)
   jA)
   (qF (qj (jS (qA (pv 3) (qA (qe (YK (K:=K) rfl) (by rfl) T.n_tuple xG (qA (qw rfl (own:=["other"]) (fr:=[("tie",5)]) (by walk_at "cs") (qt (K:=K) rfl (pv 4)) (fun cl C s0 H0 fp=>⟨(Qx 0),Qp (qS (qEt hu) (pv 0) (pv 1) (qg _)),(pv 0)⟩)) qB)) qB)))))))),?_⟩
  rintro as Φ ⟨n,ts,a,b,rfl,hl,hin,k⟩
  let SW:Sl:=.d (Jo n ts)
  let SA:Sl:=.d (.int a)
  let SB:Sl:=.d (.int b)
  let SN:Sl:=.d (.int n)
  let ST:Sl:=.d (.tup (ts.map qb))
  walk_at "st"
  refine qv (fun ρ=>ρ=[SW,SA,SB,SN,ST,.u]) ?_ ?_
  ·refine qBS (qAr rfl ?_)
   refine qD7 rfl rfl (jd (qT rfl (jd (qT rfl (qAY ?_)))))
   rfl
  rintro ρ rfl
  refine qv (fun ρ=>ρ=[SW,SA,SB,SN,ST,.d (qb (mk a b))]) ?_ ?_
  ·walk_at "v"
   walk_at "call"
   refine ⟨a,b,rfl,⟨⟨_,rfl⟩,?_⟩⟩
   walk_at "sv"
   rfl
  rintro ρ rfl
  refine qv (fun ρ=>ρ=[SW,SA,SB,SN,ST,.d (qb (mk a b))]) ?_ ?_
  ·refine qHt ?_
   walk_at "v"
   refine qIA (f:=qb) (q:=mk a b) (fs:=ts) qCV (fun _=>vB rfl) rfl (.inr rfl) ?_
   refine ⟨_,rfl,?_⟩
   refine qBE (fun z=>absurd hin (off (qDt z))) (fun _=>?_)
   exact jR rfl
  rintro ρ rfl
  walk_at "v"
  refine QE qb ts (fun t=>!decide (t=mk a b)) qb (Yt ?_)
  walk_at "v"
  refine ⟨_,_,rfl,rfl,rfl,qN (by omega),qZ rfl,of_decide_eq_true rfl,?_,?_⟩
  ·rintro t ht os hos
   obtain ⟨z0,rfl⟩:=qGn hos
   walk_at "v"
   refine ⟨⟨[_],rfl,rfl⟩,?_,fun _=>?_⟩
   ·walk_at "v"
    refine OpV.r (qKs (l:=[.int t.1,.int t.2]) (m:=[.int (mk a b).1,.int (mk a b).2]) rfl rfl (vB rfl) (hd2:=vB rfl) ?_)
    have e:Qk [D.int t.1,.int t.2] [.int (mk a b).1,.int (mk a b).2]=decide (t=mk a b):=qCV t (mk a b)
    rw [if_pos rfl,e]
    exact ⟨_,rfl,rfl,rfl⟩
   ·walk_at "v"
    exact ⟨rfl,rfl⟩
  ·walk_at "v"
   exact ⟨⟨_,rfl⟩,k⟩
def allR (k:Nat):Nat->List (List Nat)
 | 0=>[[]]
 | n+1=>(wV k).flatMap fun v=>(allR k n).map fun c=>v::c
theorem qM {k:Nat}:∀{n:Nat} {c:List Nat},c∈allR k n↔c.length=n/\∀ v∈c,v<k
 | 0,c=>by
  unfold allR
  rw [zG]
  constructor
  ·rintro rfl
   exact ⟨rfl,fun v h=>absurd h zP⟩
  ·rintro ⟨h,_⟩
   exact gG.mp h
 | n+1,c=>by
  unfold allR
  rw [ZJ]
  constructor
  ·rintro ⟨v,hv,h⟩
   obtain ⟨d,hd,rfl⟩:=zF.mp h
   obtain ⟨h1,h2⟩:=qM.mp hd
   refine ⟨by rw [wZ,h1],fun u hu=>?_⟩
   cases hu with
   | head=>exact zO.mp hv
   | tail _ hu=>exact h2 u hu
  ·rintro ⟨h1,h2⟩
   cases c with
   | nil=>cases h1
   | cons v d=>exact ⟨v,zO.mpr (h2 v wD),zF.mpr ⟨d,qM.mpr ⟨fC h1,fun u hu=>h2 u (wJ _ hu)⟩,rfl⟩⟩
theorem qCt {α β:Type} {f:α->List β} {m:Nat}:∀{l:List α},(∀ a∈l,(f a).length=m)->(l.flatMap f).length=l.length*m
 | [],_=>by rw [List.flatMap_nil,uD,uD,Nat.zero_mul]
 | a::l,h=>by
  rw [vX,wO,h a wD,qCt fun b hb=>h b (wJ _ hb),wZ,Nat.succ_mul,VH]
theorem jY (k:Nat):∀ n,(allR k n).length=k ^ n
 | 0=>rfl
 | n+1=>by
  unfold allR
  rw [qCt (m:=k ^ n) fun v _=>by rw [wC,jY k n],zT,gJ,Nat.mul_comm]
theorem Yu (k:Nat):∀ n,(allR k n).Nodup
 | 0=>zX.mpr ⟨zP,vI⟩
 | n+1=>by
  unfold allR
  have ih:=Yu k n
  have key:∀ l:List Nat,l.Nodup->(l.flatMap fun v=>(allR k n).map fun c=>v::c).Nodup:=by
   intro l
   induction l with
   | nil=>exact fun _=>vI
   | cons v l ihl=>
    intro h
    obtain ⟨h1,h2⟩:=zX.mp h
    rw [vX,uT]
    refine ⟨?_,ihl h2,fun x hx y hy z=>?_⟩
    ·rw [wY,yB]
     exact (wY.mp ih).imp fun {a b} h z=>h (vZ z).2
    ·subst z
     obtain ⟨c,_,rfl⟩:=zF.mp hx
     obtain ⟨u,hu,hy⟩:=ZJ.mp hy
     obtain ⟨d,_,e⟩:=zF.mp hy
     exact h1 ((vZ e).1 ▸ hu)
  exact key _ xT
def cnt (n k:Nat) (p:List Nat->Bool):Nat:=((allR k n).filter p).length
theorem nD {α:Type} {l:List α} {i:Nat} {d:α} (h:i<l.length):l.getD i d=l[i]:=by
 unfold List.getD
 rw [wA h]
 rfl
theorem mapR {α:Type} {f:Nat->α} {n i:Nat} {d:α} (h:i<n):((wV n).map f).getD i d=f i:=by
 rw [nD (by rw [wC,zT]; exact h)]
 simp
def pull (g:Nat->Nat) (n:Nat) (c:List Nat):List Nat:=(wV n).map fun i=>c.getD (g i) 0
theorem jz {g:Nat->Nat} {n i:Nat} {c:List Nat} (h:i<n):(pull g n c).getD i 0=c.getD (g i) 0:=by
 unfold pull
 exact mapR h
theorem qB9 {c:List Nat} {k i:Nat} (h:∀ v∈c,v<k) (hi:i<c.length):c.getD i 0<k:=by
 rw [nD hi]
 exact h _ (yY hi)
theorem J6 {g:Nat->Nat} {k n m:Nat} {c:List Nat} (hc:c∈allR k m) (hg:∀ i,i<n->g i<m):pull g n c∈allR k n:=by
 obtain ⟨h1,h2⟩:=qM.mp hc
 refine qM.mpr ⟨by unfold pull; rw [wC,zT],fun v hv=>?_⟩
 obtain ⟨i,hi,rfl⟩:=zF.mp hv
 exact qB9 h2 (by rw [h1]; exact hg i (zO.mp hi))
theorem Jx {c d:List Nat} (h:c.length=d.length) (e:∀ i,i<c.length->c.getD i 0=d.getD i 0):c=d:=by
 refine uN fun i=>?_
 by_cases hi:i<c.length
 ·have:=e i hi
  rw [wF,wF,wA hi,wA (h ▸ hi)] at this
  rw [wA hi,wA (h ▸ hi)]
  exact congrArg some this
 ·rw [zV (by omega),zV (by omega)]
theorem Qf (g:Nat->Nat) (n:Nat) (c:List Nat):(pull g n c).length=n:=by unfold pull; rw [wC,zT]
theorem qFZ {g:Nat->Nat} {n:Nat} {c d:List Nat} (hd:d.length=n) (e:∀ i,i<n->c.getD (g i) 0=d.getD i 0):pull g n c=d:=Jx (by rw [Qf,hd]) fun i hi=>by
 rw [Qf] at hi
 rw [jz hi]
 exact e i hi
theorem qGU {n m k:Nat} {p q:List Nat->Bool} {f b:List Nat->List Nat} (h:∀ c∈allR k n,p c=true->f c∈allR k m/\q (f c)=true/\b (f c)=c):cnt n k p<=cnt m k q:=by
 unfold cnt
 have nd:(((allR k n).filter p).map f).Nodup:=by
  rw [wY,yB]
  refine hZ (R:=fun a b=>a≠b) (fun {x y} hx hy ne z=>ne ?_) (wY.mp ((Yu k n).filter p))
  obtain ⟨x1,x2⟩:=zJ.mp hx
  obtain ⟨y1,y2⟩:=zJ.mp hy
  rw [<- (h x x1 x2).2.2,<- (h y y1 y2).2.2,z]
 have:=vK nd (l₂:=(allR k m).filter q) fun x hx=>by
  obtain ⟨c,hc,rfl⟩:=zF.mp hx
  obtain ⟨c1,c2⟩:=zJ.mp hc
  obtain ⟨z1,z2,_⟩:=h c c1 c2
  exact zJ.mpr ⟨z1,z2⟩
 rwa [wC] at this
theorem qDB {n m k:Nat} {p q:List Nat->Bool} {g s:Nat->Nat} (hg:∀ i,i<n->g i<m) (hs:∀ j,j<m->s j<n)
  (A:∀ d∈allR k m,q d=true->p (pull g n d)=true) (A2:∀ j,j<m->g (s j)=j)
  (B:∀ c∈allR k n,p c=true->q (pull s m c)=true/\∀ i,i<n->c.getD (s (g i)) 0=c.getD i 0):cnt n k p=cnt m k q:=by
 refine uC (qGU (f:=pull s m) (b:=pull g n) fun c hc hp=>?_) (qGU (f:=pull g n) (b:=pull s m) fun d hd hq=>?_)
 ·obtain ⟨b1,b2⟩:=B c hc hp
  refine ⟨J6 hc hs,b1,qFZ (qM.mp hc).1 fun i hi=>?_⟩
  rw [jz (hg i hi)]
  exact b2 i hi
 ·refine ⟨J6 hd hg,A d hd hq,qFZ (qM.mp hd).1 fun j hj=>?_⟩
  rw [jz (hs j hj),A2 j hj]
theorem qE4 (n k:Nat) (p q:List Nat->Bool):cnt n k p=cnt n k (fun c=>p c && q c)+cnt n k (fun c=>p c && !q c):=by
 unfold cnt
 generalize allR k n=l
 induction l with
 | nil=>rfl
 | cons c l ih=>
  simp only [yZ]
  cases p c <;> cases q c <;> simp [ih] <;> omega
theorem qNP {a b c d:Nat} (h:a=b) (g:c=d):a+c=b+d:=by rw [h,g]
theorem qFp {n k:Nat} {p q:List Nat->Bool} (h:∀ c∈allR k n,p c=q c):cnt n k p=cnt n k q:=by
 unfold cnt
 rw [List.filter_congr h]
def at_ (c:List Nat) (x:Int):Nat:=c.getD x.toNat 0
def Jn (ts:List Tie) (c:List Nat):Bool:=ts.all fun t=>!decide (at_ c t.1=at_ c t.2)
def qIY (ts:List Tie) (c:List Nat):Bool:=ts.all fun t=>decide (at_ c t.1=at_ c t.2)
theorem j7 {ts:List Tie} {c:List Nat}:Jn ts c=true↔∀ t∈ts,at_ c t.1≠at_ c t.2:=by
 unfold Jn
 rw [gS]
 exact ⟨fun h t ht=>by have:=h t ht; simpa using this,fun h t ht=>by have:=h t ht; simpa using this⟩
theorem JX {ts:List Tie} {c:List Nat}:qIY ts c=true↔∀ t∈ts,at_ c t.1=at_ c t.2:=by
 unfold qIY
 rw [gS]
 exact ⟨fun h t ht=>of_decide_eq_true (h t ht),fun h t ht=>decide_eq_true (h t ht)⟩
theorem qH6 (c:List Nat) (x y:Int):(at_ c (mk x y).1=at_ c (mk x y).2)↔at_ c x=at_ c y:=by
 unfold mk
 by_cases h:y<x
 ·rw [if_pos h,if_neg (by omega)]
  exact eq_comm
 ·rw [if_neg h]
  by_cases h2:y > x
  ·rw [if_pos h2]
  ·rw [if_neg h2,show y=x by omega]
section
variable {n:Nat} {ts us:List Tie} {a b:Int}
def und (b:Int) (j:Nat):Nat:=if (j:Int)<b then j else j+1
theorem qJZ (hb:a<b) {j:Nat}:ndr a b (und b j)=j:=by
 unfold und ndr
 by_cases h:(j:Int)<b
 ·rw [if_pos h,if_neg (by omega),if_neg (by omega)]
 ·rw [if_neg h,if_neg (by omega),if_pos (by omega)]
  omega
theorem qGB (ha:0<=a) (hb:a<b) {p:Int} (hp:0<=p):((und b (ndr a b p).toNat:Nat):Int)=if p=b then a else p:=by
 unfold und ndr
 by_cases h:p=b
 ·rw [if_pos h,if_pos h,if_pos (by omega)]
  omega
 ·rw [if_neg h,if_neg h]
  by_cases h2:p > b
  ·rw [if_pos h2,if_neg (by omega)]
   omega
  ·rw [if_neg h2,if_pos (by omega)]
   omega
theorem qCw (ha:0<=a) (hb:a<b) {p:Int} (hp:0<=p):0<=ndr a b p:=by
 unfold ndr
 split
 ·exact ha
 ·split <;> omega
theorem qC6 (hb:a<b) (hn:b<(n:Int)) {p:Int} (hp:p<(n:Int)):ndr a b p<((n - 1:Nat):Int):=by
 unfold ndr
 split
 ·omega
 ·split <;> omega
abbrev gD (a b:Int) (i:Nat):Nat:=(ndr a b i).toNat
theorem qCb (ha:0<=a) (hb:a<b) {d:List Nat} {p:Int} (hp:0<=p) (hn:p<(n:Int)):at_ (pull (gD a b) n d) p=at_ d (ndr a b p):=by
 unfold at_
 rw [jz (by omega)]
 show d.getD (ndr a b (p.toNat:Int)).toNat 0=_
 rw [show ((p.toNat:Nat):Int)=p by omega]
theorem qAO (ha:0<=a) (hb:a<b) (hn:b<(n:Int)) {c:List Nat} (e:at_ c a=at_ c b) {p:Int} (hp:0<=p) (hpn:p<(n:Int)):at_ (pull (und b) (n - 1) c) (ndr a b p)=at_ c p:=by
 have h0:=qCw ha hb hp
 have h1:=qC6 (n:=n) hb hn hpn
 have h2:=qGB ha hb hp
 unfold at_
 rw [jz (by omega)]
 by_cases z:p=b
 ·rw [if_pos z] at h2
  rw [show und b (ndr a b p).toNat=a.toNat by omega,z]
  exact e
 ·rw [if_neg z] at h2
  rw [show und b (ndr a b p).toNat=p.toNat by omega]
theorem YR (ha:0<=a) (hb:a<b) (hn:b<(n:Int)):(∀ i,i<n->gD a b i<n - 1)/\(∀ j,j<n - 1->und b j<n)/\∀ j,j<n - 1->gD a b (und b j)=j:=by
 refine ⟨fun i hi=>?_,fun j hj=>?_,fun j hj=>?_⟩
 ·have h0:=qCw ha hb (p:=(i:Int)) (by omega)
  have h1:=qC6 (n:=n) hb hn (p:=(i:Int)) (by omega)
  show (ndr a b i).toNat<n - 1
  omega
 ·unfold und
  split <;> omega
 ·show (ndr a b (und b j)).toNat=j
  rw [qJZ hb]
  omega
theorem qA5 (ha:0<=a) (hb:a<b) (hn:b<(n:Int)) {c:List Nat} (e:at_ c a=at_ c b):∀ i,i<n->c.getD (und b (gD a b i)) 0=c.getD i 0:=fun i hi=>by
 have h2:=qGB ha hb (p:=(i:Int)) (by omega)
 show c.getD (und b (ndr a b i).toNat) 0=_
 by_cases z:(i:Int)=b
 ·rw [if_pos z] at h2
  rw [show und b (ndr a b i).toNat=a.toNat by omega]
  have e':c.getD a.toNat 0=c.getD b.toNat 0:=e
  rw [e',show b.toNat=i by omega]
 ·rw [if_neg z] at h2
  rw [show und b (ndr a b i).toNat=i by omega]
theorem qG1 {k:Nat} (W:∀ t∈ts,okp n t) (ht:(a,b)∈ts) (D:jb a b ts us):cnt n k (Jn (ts.filter fun t=>!decide (t=(a,b))))=cnt n k (Jn ts)+cnt (n - 1) k (Jn us):=by
 obtain ⟨ha,hb,hn⟩:=W _ ht
 simp only at ha hb hn
 have nin:∀ t∈ts,t≠(a,b)->ndr a b t.1≠ndr a b t.2:=fun t h ne z=>by
  obtain ⟨t1,t2,t3⟩:=W t h
  rcases qA8 hb z with q | ⟨q1,q2⟩ | ⟨q1,q2⟩
  ·omega
  ·exact ne (hV q1 q2)
  ·omega
 obtain ⟨m1,m2,m3⟩:=YR (n:=n) ha hb hn
 rw [qE4 n k _ fun c=>!decide (at_ c a=at_ c b)]
 refine qNP (qFp fun c _=>?_) (qDB m1 m2 (fun d hd hq=>?_) m3 fun c hc hp=>?_)
 ·rw [vU,yR,j7,j7]
  constructor
  ·rintro ⟨h1,h2⟩ t h
   by_cases z:t=(a,b)
   ·subst z
    simpa using h2
   ·exact h1 t (zJ.mpr ⟨h,by simpa using z⟩)
  ·intro h
   exact ⟨fun t ht'=>h t (zJ.mp ht').1,by simpa using h _ ht⟩
 ·rw [j7] at hq
  rw [yR,j7]
  refine ⟨fun t ht'=>?_,?_⟩
  ·obtain ⟨h1,h2⟩:=zJ.mp ht'
   have h3:t≠(a,b):=by simpa using h2
   obtain ⟨t1,t2,t3⟩:=W t h1
   rw [qCb ha hb t1 (by omega),qCb ha hb (by omega) t3]
   have:=hq (qGj a b t) ((D.2 _).mpr ⟨t,h1,nin t h1 h3,rfl⟩)
   exact fun z=>this ((qH6 _ _ _).mpr z)
  ·rw [qCb ha hb ha (by omega),qCb ha hb (by omega) hn,show ndr a b a=ndr a b b from by unfold ndr; rw [if_pos rfl,if_neg (by omega),if_neg (by omega)]]
   simp
 ·rw [yR,j7] at hp
  obtain ⟨h1,h2⟩:=hp
  have e:at_ c a=at_ c b:=by simpa using h2
  refine ⟨j7.mpr fun u hu=>?_,qA5 ha hb hn e⟩
  obtain ⟨t,h3,h4,rfl⟩:=(D.2 u).mp hu
  obtain ⟨t1,t2,t3⟩:=W t h3
  intro z
  have z':=(qH6 _ _ _).mp z
  rw [qAO ha hb hn e t1 (by omega),qAO ha hb hn e (by omega) t3] at z'
  refine h1 t (zJ.mpr ⟨h3,?_⟩) z'
  have:t≠(a,b):=fun q=>h4 (by rw [q]; unfold ndr; rw [if_neg (by omega),if_neg (by omega),if_pos rfl])
  simpa using this
theorem qDr {k:Nat} (W:∀ t∈ts,okp n t) (ht:(a,b)∈ts) (D:jb a b ts us):cnt n k (qIY ts)=cnt (n - 1) k (qIY us):=by
 obtain ⟨ha,hb,hn⟩:=W _ ht
 simp only at ha hb hn
 obtain ⟨m1,m2,m3⟩:=YR (n:=n) ha hb hn
 refine qDB m1 m2 (fun d hd hq=>JX.mpr fun t h=>?_) m3 fun c hc hp=>?_
 ·obtain ⟨t1,t2,t3⟩:=W t h
  rw [qCb ha hb t1 (by omega),qCb ha hb (by omega) t3]
  by_cases z:ndr a b t.1=ndr a b t.2
  ·rw [z]
  ·exact (qH6 _ _ _).mp (JX.mp hq _ ((D.2 _).mpr ⟨t,h,z,rfl⟩))
 ·rw [JX] at hp
  have e:at_ c a=at_ c b:=hp _ ht
  refine ⟨JX.mpr fun u hu=>?_,qA5 ha hb hn e⟩
  obtain ⟨t,h3,h4,rfl⟩:=(D.2 u).mp hu
  obtain ⟨t1,t2,t3⟩:=W t h3
  refine (qH6 _ _ _).mpr ?_
  rw [qAO ha hb hn e t1 (by omega),qAO ha hb hn e (by omega) t3]
  exact hp t h3
theorem qGo {k:Nat} (h:∀ t∈us,t∈ts):cnt n k (qIY ts)<=cnt n k (qIY us):=qGU (f:=id) (b:=id) fun c hc hp=>⟨hc,JX.mpr fun t ht=>JX.mp hp t (h t ht),rfl⟩
end
def ev:List Int->Int->Int
 | [],_=>0
 | a::r,x=>a+x*ev r x
theorem Yd (x:Int) (b:Int):∀ r:List Int,ev (r++[b]) x=ev r x+b*x ^ r.length
 | []=>by show b+x*0=0+b*x ^ 0; rw [Int.mul_zero,Int.pow_zero,WB,VR,kW]
 | a::r=>by
  show a+x*ev (r++[b]) x=a+x*ev r x+b*x ^ (r.length+1)
  rw [Yd x b r,Int.pow_succ,Int.mul_add,<- Int.add_assoc,<- WN,VS x b,WN b x,VS x (x ^ _)]
theorem qCP (x:Int):∀ n,ev (wN n 0) x=0
 | 0=>rfl
 | n+1=>by
  rw [vW]
  show 0+x*ev (wN n 0) x=0
  rw [qCP x n,Int.mul_zero,VR]
theorem qGV (x:Int):∀ r s:List Int,r.length=s.length->ev (List.zipWith (fun a b=>a - b) r s) x=ev r x - ev s x
 | [],[],_=>rfl
 | [],_::_,h=>by cases h
 | _::_,[],h=>by cases h
 | a::r,b::s,h=>by
  show a - b+x*ev (List.zipWith _ r s) x=(a+x*ev r x) - (b+x*ev s x)
  rw [qGV x r s (fC h),Int.mul_sub]
  omega
theorem qFY {a k:Int} (h:a.natAbs<k.natAbs) (d:∃ e,a=k*e):a=0:=by
 obtain ⟨e,rfl⟩:=d
 rw [Int.natAbs_mul] at h
 by_cases z:e=0
 ·rw [z,Int.mul_zero]
 ·have:1<=e.natAbs:=by omega
  have:=Nat.mul_le_mul_left k.natAbs this
  omega
theorem qIe:∀(r s:List Int) (m:Nat),r.length=s.length->(∀ k:Nat,m<=k->ev r k=ev s k)->r=s
 | [],[],_,_,_=>rfl
 | [],_::_,_,h,_=>by cases h
 | _::_,[],_,h,_=>nomatch h
 | a::r,b::s,m,h,e=>by
  have e':∀ k:Nat,m<=k->a+(k:Int)*ev r k=b+(k:Int)*ev s k:=e
  have ab:a=b:=by
   have h1:=e' (m+(a - b).natAbs+1) (by omega)
   generalize ev r _=p at h1
   generalize ev s _=q at h1
   generalize hK:((m+(a - b).natAbs+1:Nat):Int)=K at h1
   have:=qFY (a:=a - b) (k:=K) (by omega) ⟨q - p,by rw [Int.mul_sub]; omega⟩
   omega
  rw [ab,qIe r s (m+1) (fC h) fun k hk=>?_]
  have h1:=e' k (by omega)
  rw [ab] at h1
  have h2:(k:Int)*ev r k=(k:Int)*ev s k:=by omega
  exact Int.eq_of_mul_eq_mul_left (by omega) h2
def JF (n:Nat) (ts:List Tie) (row:List Int):Prop:=row.length=n+1/\∀ k:Nat,ev row k=(cnt n k (Jn ts):Int)
theorem qJc {n:Nat} {ts us:List Tie} {r s:List Int} (h:JF n ts r) (g:JF n us s) (e:∀ k,cnt n k (Jn ts)=cnt n k (Jn us)):r=s:=qIe r s 0 (h.1.trans g.1.symm) fun k _=>by rw [h.2 k,g.2 k,e k]
theorem JF.one {n:Nat} {ts:List Tie} {r s:List Int} (h:JF n ts r) (g:JF n ts s):r=s:=qJc h g fun _=>rfl
theorem qFW (n:Nat):JF n [] (wN n 0++[1]):=by
 refine ⟨by rw [wO,zN]; rfl,fun k=>?_⟩
 rw [Yd,qCP,zN]
 have:cnt n k (Jn [])=k ^ n:=by
  unfold cnt
  rw [show (allR k n).filter (Jn [])=allR k n from uF.mpr fun c _=>rfl,jY]
 rw [this,kW,WI,UO]
def qEb (r s:List Int):List Int:=List.zipWith (fun a b=>a - b) r (s++[0])
theorem qG4 {n:Nat} {ts us:List Tie} {a b:Int} {r s:List Int} (W:∀ t∈ts,okp n t) (ht:(a,b)∈ts) (D:jb a b ts us) (h1:JF n (ts.filter fun t=>!decide (t=(a,b))) r) (h2:JF (n - 1) us s):JF n ts (qEb r s):=by
 obtain ⟨w1,w2,w3⟩:=W _ ht
 simp only at w1 w2 w3
 have hl:r.length=(s++[0]).length:=by
  rw [wO,h1.1,h2.1]
  show n+1=n - 1+1+1
  omega
 refine ⟨by unfold qEb; rw [List.length_zipWith,<- hl,ZP,h1.1],fun k=>?_⟩
 unfold qEb
 rw [qGV _ _ _ hl,Yd,h1.2,h2.2,VT,VR,qG1 W ht D]
 omega
theorem Jl {ts:List Tie} {t:Tie} (nd:(t::ts).Nodup):(t::ts).filter (fun u=>!decide (u=t))=ts:=by
 obtain ⟨h1,_⟩:=zX.mp nd
 rw [yZ,if_neg (by simp)]
 exact uF.mpr fun u hu=>by
  have:u≠t:=fun z=>h1 (z ▸ hu)
  simpa using this
theorem qBL {n:Nat} {ts us:List Tie} {a b:Int} {r s:List Int} (W:∀ t∈(a,b)::ts,okp n t) (nd:((a,b)::ts).Nodup) (D:jb a b ((a,b)::ts) us) (h1:JF n ts r) (h2:JF (n - 1) us s):JF n ((a,b)::ts) (qEb r s):=qG4 W wD D (by rw [Jl nd]; exact h1) h2
theorem Q4 {n:Nat} {ts us:List Tie} {a b:Int} (W:∀ t∈ts,okp n t) (ht:(a,b)∈ts) (D:jb a b ts us):∀ u∈us,okp (n - 1) u:=fun u hu=>by
 obtain ⟨ha,hb,hn⟩:=W _ ht
 simp only at ha hb hn
 obtain ⟨t,h1,h2,rfl⟩:=(D.2 u).mp hu
 obtain ⟨t1,t2,t3⟩:=W t h1
 have p0:=qCw ha hb t1
 have p1:=qC6 (n:=n) hb hn (p:=t.1) (by omega)
 have q0:=qCw ha hb (p:=t.2) (by omega)
 have q1:=qC6 (n:=n) hb hn t3
 unfold qGj okp mk
 refine ⟨?_,?_,?_⟩
 ·show 0<=(if _<_ then _ else _)
  split <;> assumption
 ·show (if _<_ then _ else _)<(if _ > _ then _ else _)
  split <;> split <;> omega
 ·show (if _ > _ then _ else _)<_
  split <;> assumption
theorem Yh {us:List Tie} (h:us.Pairwise tlt):us.Nodup:=wY.mpr (h.imp fun {a b} z e=>by
 subst e
 unfold tlt at z
 omega)
theorem QP {ts us:List Tie} {a b:Int} (ht:(a,b)∈ts) (hb:a<b) (D:jb a b ts us):us.length+1<=ts.length:=by
 have hs:us.Nodup:=Yh D.1
 have:us.length<=((ts.erase (a,b)).map (qGj a b)).length:=vK hs fun u hu=>by
  obtain ⟨t,h1,h2,rfl⟩:=(D.2 u).mp hu
  refine zF.mpr ⟨t,(List.mem_erase_of_ne fun z=>?_).mpr h1,rfl⟩
  rw [z] at h2
  exact h2 (by unfold ndr; rw [if_neg (by omega),if_neg (by omega),if_pos rfl])
 rw [wC,List.length_erase_of_mem ht] at this
 have:=List.length_pos_of_mem ht
 omega
def sgn (m:Nat):Int:=if m % 2=0 then 1 else -1
theorem qAZ (m:Nat):sgn (m+1) = - sgn m:=by
 unfold sgn
 by_cases h:m % 2=0
 ·rw [if_neg (by omega),if_pos h]
 ·rw [if_pos (by omega),if_neg h]
  rfl
theorem qCC (m:Nat):sgn m=1\/sgn m = -1:=by
 unfold sgn
 split
 ·exact .inl rfl
 ·exact .inr rfl
structure qK2 (n:Nat) (ts:List Tie) (r:List Int):Prop where
 last:r.getD n 0=1
 sign:∀ i,i<=n->0<=r.getD i 0*sgn (n - i)
 many:1<=n->r.getD (n - 1) 0 = - (ts.length:Int)
 small:∀ i,-((2 ^ ts.length:Nat):Int)<=r.getD i 0/\r.getD i 0<=((2 ^ ts.length:Nat):Int)
 low:∃ c,c<=n/\cnt n 2 (qIY ts)=2 ^ c/\r.getD c 0≠0/\∀ i,i<c->r.getD i 0=0
theorem getD_snoc {r:List Int} {b:Int} (i:Nat):(r++[b]).getD i 0=if i=r.length then b else r.getD i 0:=by
 rw [wF,wF]
 by_cases h:i<r.length
 ·rw [if_neg (by omega),yL h]
 ·rw [zU (by omega)]
  by_cases z:i=r.length
  ·rw [if_pos z,z,ZT]
   rfl
  ·rw [if_neg z,zV (by show 1<=_; omega),zV (by omega)]
theorem Qj {r s:List Int} (h:r.length=s.length+1) (i:Nat):(qEb r s).getD i 0=r.getD i 0 - s.getD i 0:=by
 unfold qEb
 rw [wF,List.getElem?_zipWith]
 have e:=getD_snoc (r:=s) (b:=0) i
 rw [wF] at e
 by_cases hi:i<r.length
 ·have l:(s++[0]).length=r.length:=by rw [wO]; exact h.symm
  rw [wA hi,wA (by rw [l]; exact hi)] at *
  rw [nD hi]
  show r[i] - (s++[0])[i]=r[i] - s.getD i 0
  have e':(s++[0])[i]'(by rw [l]; exact hi)=if i=s.length then 0 else s.getD i 0:=e
  rw [e']
  by_cases z:i=s.length
  ·rw [if_pos z,wF,zV (by omega)]
   rfl
  ·rw [if_neg z]
 ·rw [zV (by omega)]
  show (0:Int)=_
  rw [wF,zV (by omega),wF,zV (by omega)]
  rfl
theorem qGK (n i:Nat):(wN n (0:Int)).getD i 0=0:=by
 rw [wF,uZ]
 split <;> rfl
theorem qH0 (n:Nat):qK2 n [] (wN n 0++[1]):=by
 have e:∀ i,(wN n (0:Int)++[1]).getD i 0=if i=n then 1 else 0:=fun i=>by
  rw [getD_snoc,zN,qGK]
 refine ⟨by rw [e,if_pos rfl],fun i hi=>?_,fun h=>by rw [e,if_neg (by omega)]; rfl,fun i=>(by rw [e]; show -1<=_/\_<=1; split <;> omega),n,wH _,?_,by rw [e,if_pos rfl]; decide,fun i hi=>by rw [e,if_neg (by omega)]⟩
 ·rw [e]
  by_cases z:i=n
  ·rw [if_pos z,z,ZT]
   decide
  ·rw [if_neg z,VT]
   decide
 ·unfold cnt
  rw [show (allR 2 n).filter (qIY [])=allR 2 n from uF.mpr fun c _=>rfl,jY]
theorem qDs {p q s:Int} (hs:s=1\/s = -1) (h1:0<=p*s) (h2:0<=q * -s):0<=(p - q)*s/\(q≠0->p - q≠0):=by
 rcases hs with rfl | rfl
 ·rw [WB] at *
  constructor
  ·omega
  ·intro _ _
   omega
 ·constructor <;> omega
theorem qEC {n:Nat} {ts us:List Tie} {a b:Int} {r s:List Int} (W:∀ t∈(a,b)::ts,okp n t) (D:jb a b ((a,b)::ts) us) (l1:r.length=n+1) (l2:s.length=n - 1+1) (h1:qK2 n ts r) (h2:qK2 (n - 1) us s):qK2 n ((a,b)::ts) (qEb r s):=by
 obtain ⟨w1,w2,w3⟩:=W _ wD
 simp only at w1 w2 w3
 have hl:r.length=s.length+1:=by omega
 have out:∀ i,n<=i->s.getD i 0=0:=fun i hi=>by
  rw [wF,zV (by omega)]
  rfl
 have sg:∀ i,i<=n->0<=s.getD i 0 * - sgn (n - i):=fun i hi=>by
  by_cases z:i=n
  ·rw [out i (by omega),VT]
   decide
  ·have:=h2.sign i (by omega)
   rw [show n - i=(n - 1 - i)+1 by omega,qAZ,Int.neg_neg]
   exact this
 refine ⟨by rw [Qj hl,h1.last,out n (wH _)]; rfl,fun i hi=>?_,fun hn=>?_,fun i=>?_,?_⟩
 ·rw [Qj hl]
  exact (qDs (qCC _) (h1.sign i hi) (sg i hi)).1
 ·rw [Qj hl,h1.many hn,h2.last,wZ]
  omega
 ·have lu:=QP wD w2 D
  rw [wZ] at lu
  have pu:=xX (show 0<2 by decide) (show us.length<=ts.length by omega)
  have s1:=h1.small i
  have s2:=h2.small i
  rw [Qj hl,wZ,gJ]
  omega
 ·obtain ⟨c1,p1,e1,_,z1⟩:=h1.low
  obtain ⟨c2,p2,e2,n2,z2⟩:=h2.low
  have le:2 ^ c2<=2 ^ c1:=by
   rw [<- e2,<- e1,<- qDr W wD D]
   exact qGo fun t ht=>wJ _ ht
  have cc:c2<=c1:=(Nat.pow_le_pow_iff_right (by decide)).mp le
  refine ⟨c2,by omega,by rw [qDr W wD D,e2],?_,fun i hi=>by rw [Qj hl,z1 i (by omega),z2 i hi]; rfl⟩
  rw [Qj hl]
  exact (qDs (qCC _) (h1.sign c2 (by omega)) (sg c2 (by omega))).2 n2
def JK (n:Nat) (ts:List Tie) (r:List Int):Prop:=JF n ts r/\qK2 n ts r
theorem qBN (n:Nat):JK n [] (wN n 0++[1]):=⟨qFW n,qH0 n⟩
theorem YZ {n:Nat} {ts us:List Tie} {a b:Int} {r s:List Int} (W:∀ t∈(a,b)::ts,okp n t) (nd:((a,b)::ts).Nodup) (D:jb a b ((a,b)::ts) us) (h1:JK n ts r) (h2:JK (n - 1) us s):JK n ((a,b)::ts) (qEb r s):=⟨qBL W nd D h1.1 h2.1,qEC W D h1.1.1 h2.1.1 h1.2 h2.2⟩
theorem Je {α β:Type} {f g:α->List β}:∀{l:List α},(∀ a∈l,f a=g a)->l.flatMap f=l.flatMap g
 | [],_=>rfl
 | a::l,h=>by rw [vX,vX,h a wD,Je fun b hb=>h b (wJ _ hb)]
theorem qDP (k:Nat) (m:Nat):∀ n,allR k (n+m)=(allR k n).flatMap fun c=>(allR k m).map fun d=>c++d
 | 0=>by
  rw [kT]
  show allR k m=[[]].flatMap _
  simp
 | n+1=>by
  rw [show n+1+m=n+m+1 by omega]
  show ((wV k).flatMap fun v=>(allR k (n+m)).map fun c=>v::c)=((wV k).flatMap fun v=>(allR k n).map fun c=>v::c).flatMap _
  rw [qDP k m n,List.flatMap_assoc]
  refine Je fun v _=>?_
  rw [List.map_flatMap,List.flatMap_map]
  refine Je fun c _=>?_
  rw [zW]
  rfl
theorem qJp {s t:Tie} (h:s≠t):tlt s t\/tlt t s:=by
 unfold tlt
 by_cases h1:s.1<t.1
 ·exact .inl (.inl h1)
 ·by_cases h2:t.1<s.1
  ·exact .inr (.inl h2)
  ·have e:s.1=t.1:=by omega
   have ne:s.2≠t.2:=fun z=>h (hV e z)
   by_cases h3:s.2<t.2
   ·exact .inl (.inr ⟨e,h3⟩)
   ·exact .inr (.inr ⟨e.symm,by omega⟩)
theorem qLq {s t u:Tie} (h:tlt s t) (g:tlt t u):tlt s u:=by
 unfold tlt at *
 omega
theorem qIh (x:Tie):∀ l:List Tie,l.Pairwise tlt->∃ m:List Tie,m.Pairwise tlt/\∀ u,u∈m↔u=x\/u∈l
 | [],_=>⟨[x],ZI _ _,fun u=>by simp⟩
 | y::l,h=>by
  have hh:=xS.mp h
  have h1:=hh.1
  have h2:=hh.2
  by_cases e:x=y
  ·subst e
   exact ⟨x::l,h,fun u=>by simp⟩
  ·rcases qJp e with z | z
   ·refine ⟨x::y::l,xS.mpr ⟨fun u hu=>?_,h⟩,fun u=>by simp⟩
    rcases wW.mp hu with q | q
    ·rw [q]; exact z
    ·exact qLq z (h1 u q)
   ·obtain ⟨m,m1,m2⟩:=qIh x l h2
    refine ⟨y::m,xS.mpr ⟨fun u hu=>?_,m1⟩,fun u=>?_⟩
    ·rcases (m2 u).mp hu with q | q
     ·rw [q]; exact z
     ·exact h1 u q
    ·rw [wW,m2,wW]
     exact ⟨fun q=>by rcases q with q | q | q; exact .inr (.inl q); exact .inl q; exact .inr (.inr q),fun q=>by rcases q with q | q | q; exact .inr (.inl q); exact .inl q; exact .inr (.inr q)⟩
theorem qGF:∀ l:List Tie,∃ m:List Tie,m.Pairwise tlt/\∀ u,u∈m↔u∈l
 | []=>⟨[],.nil,fun _=>Iff.rfl⟩
 | x::l=>by
  obtain ⟨m,m1,m2⟩:=qGF l
  obtain ⟨k,k1,k2⟩:=qIh x m m1
  exact ⟨k,k1,fun u=>by rw [k2,wW,m2]⟩
theorem qDf (a b:Int) (ts:List Tie):∃ us,jb a b ts us:=by
 obtain ⟨m,m1,m2⟩:=qGF ((ts.filter fun t=>!decide (ndr a b t.1=ndr a b t.2)).map (qGj a b))
 refine ⟨m,m1,fun u=>?_⟩
 rw [m2,zF]
 constructor
 ·rintro ⟨t,ht,e⟩
  obtain ⟨h1,h2⟩:=zJ.mp ht
  exact ⟨t,h1,by simpa using h2,e.symm⟩
 ·rintro ⟨t,h1,h2,e⟩
  exact ⟨t,zJ.mpr ⟨h1,by simpa using h2⟩,e.symm⟩
theorem qDn:∀(k n:Nat) (ts:List Tie),ts.length<=k->(∀ t∈ts,okp n t)->ts.Nodup->∃ row,JK n ts row
 | _,n,[],_,_,_=>⟨_,qBN n⟩
 | 0,_,_::_,h,_,_=>absurd h (Nat.not_succ_le_zero _)
 | k+1,n,(a,b)::ts,h,ok,nd=>by
  obtain ⟨us,D⟩:=qDf a b ((a,b)::ts)
  obtain ⟨w1,w2,w3⟩:=ok _ wD
  have lu:=QP wD w2 D
  have h':ts.length<=k:=Nat.le_of_succ_le_succ h
  obtain ⟨r,hr⟩:=qDn k n ts h' (fun t ht=>ok t (wJ _ ht)) (zX.mp nd).2
  obtain ⟨s,hs⟩:=qDn k (n - 1) us (by rw [wZ] at lu; omega) (Q4 ok wD D) (Yh D.1)
  exact ⟨_,YZ ok nd D hr hs⟩
def qEO (ts:List Tie) (c:List Nat) (t:Tie):Nat:=c.getD (ts.idxOf t) 0
def Arr (ts:List Tie) (c:List Nat) (x y:Int):Prop:=((x,y)∈ts/\qEO ts c (x,y)=1)\/((y,x)∈ts/\qEO ts c (y,x)=0)
def Td (ts:List Tie) (x y:Int):Prop:=(x,y)∈ts\/(y,x)∈ts
noncomputable def Jq (ts:List Tie) (A:Int->Int->Prop):List Nat:=ts.map fun t=>@ite Nat (A t.1 t.2) (yT _) 1 0
def qJi (ts:List Tie) (A:Int->Int->Prop):Prop:=∀ x y,(x,y)∈ts->(A x y↔¬ A y x)
theorem qMb:∀(l:List Tie) (j:Nat) (h:j<l.length),l.Nodup->l.idxOf l[j]=j
 | [],j,h,_=>absurd h (uE j)
 | a::l,0,_,_=>List.idxOf_cons_self
 | a::l,j+1,h,nd=>by
  obtain ⟨h1,h2⟩:=zX.mp nd
  have hj:j<l.length:=Nat.lt_of_succ_lt_succ h
  rw [List.getElem_cons_succ,List.idxOf_cons,show (a == l[j])=false from beq_eq_false_iff_ne.mpr fun z=>h1 (z ▸ yY hj),qMb l j hj h2]
  rfl
theorem qAf (ts:List Tie) (A:Int->Int->Prop):Jq ts A∈allR 2 ts.length:=qM.mpr ⟨by unfold Jq; rw [wC],fun v hv=>by
 obtain ⟨t,_,rfl⟩:=zF.mp hv
 split <;> decide⟩
theorem qMB {ts:List Tie} {A:Int->Int->Prop} {t:Tie} (h:t∈ts):(qEO ts (Jq ts A) t=1↔A t.1 t.2)/\(qEO ts (Jq ts A) t=0↔¬ A t.1 t.2):=by
 have hl:=UQ h
 have e:qEO ts (Jq ts A) t = @ite Nat (A t.1 t.2) (yT _) 1 0:=by
  unfold qEO Jq
  rw [nD (by rw [wC]; exact hl),UE,List.getElem_idxOf]
 rw [e]
 by_cases z:A t.1 t.2
 ·rw [if_pos z]
  exact ⟨⟨fun _=>z,fun _=>rfl⟩,⟨fun q=>absurd q (by decide),fun q=>absurd z q⟩⟩
 ·rw [if_neg z]
  exact ⟨⟨fun q=>absurd q (by decide),fun q=>absurd q z⟩,⟨fun _=>z,fun _=>rfl⟩⟩
theorem qMA {ts:List Tie} {A:Int->Int->Prop} (F:qJi ts A) {x y:Int}:Arr ts (Jq ts A) x y↔Td ts x y/\A x y:=by
 constructor
 ·rintro (⟨h,e⟩ | ⟨h,e⟩)
  ·exact ⟨.inl h,(qMB h).1.mp e⟩
  ·exact ⟨.inr h,zY fun z=>((qMB h).2.mp e) ((F y x h).mpr z)⟩
 ·rintro ⟨h | h,e⟩
  ·exact .inl ⟨h,(qMB h).1.mpr e⟩
  ·exact .inr ⟨h,(qMB h).2.mpr fun z=>(F y x h).mp z e⟩
theorem qFS {ts:List Tie} {c:List Nat} (hc:c∈allR 2 ts.length) (t:Tie):qEO ts c t=0\/qEO ts c t=1:=by
 obtain ⟨h1,h2⟩:=qM.mp hc
 unfold qEO
 by_cases h:ts.idxOf t<c.length
 ·have:=qB9 h2 h
  omega
 ·rw [wF,zV (by omega)]
  exact .inl rfl
theorem Q1 {ts:List Tie} {c:List Nat} {x y:Int} (h:Arr ts c x y):Td ts x y:=by
 rcases h with ⟨h,_⟩ | ⟨h,_⟩
 ·exact .inl h
 ·exact .inr h
theorem JH {n:Nat} {ts:List Tie} {c:List Nat} (W:∀ t∈ts,okp n t) (hc:c∈allR 2 ts.length):qJi ts (Arr ts c):=fun x y h=>by
 obtain ⟨w1,w2,w3⟩:=W _ h
 simp only at w1 w2 w3
 have no:(y,x)∉ts:=fun z=>by
  obtain ⟨v1,v2,v3⟩:=W _ z
  simp only at v2
  omega
 rcases qFS hc (x,y) with e | e
 ·refine ⟨fun q=>?_,fun q=>absurd (.inr ⟨h,e⟩) q⟩
  rcases q with ⟨_,q⟩ | ⟨q,_⟩
  ·rw [e] at q
   cases q
  ·exact absurd q no
 ·refine ⟨fun _ q=>?_,fun _=>.inl ⟨h,e⟩⟩
  rcases q with ⟨q,_⟩ | ⟨_,q⟩
  ·exact absurd q no
  ·rw [e] at q
   cases q
theorem qAz {ts:List Tie} (nd:ts.Nodup) {c:List Nat} (hc:c∈allR 2 ts.length) {A:Int->Int->Prop} (h:∀ x y,(x,y)∈ts->(A x y↔Arr ts c x y)) (no:∀ x y,(x,y)∈ts->(y,x)∉ts):Jq ts A=c:=by
 have lc:=(qM.mp hc).1
 refine Jx (by unfold Jq; rw [wC,lc]) fun i hi=>?_
 unfold Jq at hi ⊢
 rw [wC] at hi
 rw [nD (by rw [wC]; exact hi),UE]
 have m:=yY hi
 have e:qEO ts c ts[i]=c.getD i 0:=by
  unfold qEO
  rw [qMb ts i hi nd]
 have hh:=h ts[i].1 ts[i].2 m
 by_cases z:A ts[i].1 ts[i].2
 ·rw [if_pos z]
  rcases hh.mp z with ⟨_,q⟩ | ⟨q,_⟩
  ·rw [<- e]
   exact q.symm
  ·exact absurd q (no _ _ m)
 ·rw [if_neg z]
  rcases qFS hc ts[i] with q | q
  ·rw [<- e]
   exact q.symm
  ·exact absurd (hh.mpr (.inl ⟨m,q⟩)) z
theorem Yr {n:Nat} {ts:List Tie} (W:∀ t∈ts,okp n t) (x y:Int) (h:(x,y)∈ts):(y,x)∉ts:=fun z=>by
 obtain ⟨w1,w2,w3⟩:=W _ h
 obtain ⟨v1,v2,v3⟩:=W _ z
 simp only at w2 v2
 omega
section
variable {n:Nat} {ts us:List Tie} {a b p q:Int}
abbrev JJ (ts:List Tie) (a b:Int):List Tie:=ts.filter fun t=>!decide (t=(a,b))
abbrev Ends (a b p q:Int):Prop:=(p=a/\q=b)\/(p=b/\q=a)
theorem qz {t:Tie}:t∈JJ ts a b↔t∈ts/\t≠(a,b):=by
 rw [zJ]
 exact ⟨fun h=>⟨h.1,by simpa using h.2⟩,fun h=>⟨h.1,by simpa using h.2⟩⟩
theorem qKB {x y:Int} (E:Ends a b p q) (h:Td ts x y) (n1:¬ (x=p/\y=q)) (n2:¬ (x=q/\y=p)):Td (JJ ts a b) x y:=by
 rcases h with h | h
 ·refine .inl (qz.mpr ⟨h,fun z=>?_⟩)
  obtain ⟨z1,z2⟩:=uU z
  rcases E with ⟨e1,e2⟩ | ⟨e1,e2⟩
  ·exact n1 ⟨z1.trans e1.symm,z2.trans e2.symm⟩
  ·exact n2 ⟨z1.trans e2.symm,z2.trans e1.symm⟩
 ·refine .inr (qz.mpr ⟨h,fun z=>?_⟩)
  obtain ⟨z1,z2⟩:=uU z
  rcases E with ⟨e1,e2⟩ | ⟨e1,e2⟩
  ·exact n2 ⟨z2.trans e2.symm,z1.trans e1.symm⟩
  ·exact n1 ⟨z2.trans e1.symm,z1.trans e2.symm⟩
theorem jN {x y:Int} (W:∀ t∈ts,okp n t) (ht:(a,b)∈ts) (E:Ends a b p q) (h:Td (JJ ts a b) x y):Td ts x y/\¬ (x=p/\y=q)/\¬ (x=q/\y=p):=by
 have key:∀ x y,(x,y)∈JJ ts a b->¬ (x=p/\y=q)/\¬ (x=q/\y=p):=fun x y h=>by
  obtain ⟨h1,h2⟩:=qz.mp h
  have nb:=Yr W a b ht
  rcases E with ⟨rfl,rfl⟩ | ⟨rfl,rfl⟩
  ·exact ⟨fun z=>h2 (by rw [z.1,z.2]),fun z=>nb (by rw [<- z.1,<- z.2]; exact h1)⟩
  ·exact ⟨fun z=>nb (by rw [<- z.1,<- z.2]; exact h1),fun z=>h2 (by rw [z.1,z.2])⟩
 rcases h with h | h
 ·exact ⟨.inl (qz.mp h).1,key x y h⟩
 ·obtain ⟨k1,k2⟩:=key y x h
  exact ⟨.inr (qz.mp h).1,fun z=>k2 ⟨z.2,z.1⟩,fun z=>k1 ⟨z.2,z.1⟩⟩
theorem JS {A:Int->Int->Prop} (F:qJi ts A) {x y:Int} (h:Td ts x y):A x y↔¬ A y x:=by
 rcases h with h | h
 ·exact F x y h
 ·exact ⟨fun z q=>(F y x h).mp q z,fun z=>zY fun q=>z ((F y x h).mpr q)⟩
def un (b x:Int):Int:=if x<b then x else x+1
abbrev Tch (a b x:Int):Prop:=x=a\/x=b
theorem qIa {x:Int} (hb:a<b):ndr a b (un b x)=x:=by
 unfold un ndr
 by_cases h:x<b
 ·rw [if_pos h,if_neg (by omega),if_neg (by omega)]
 ·rw [if_neg h,if_neg (by omega),if_pos (by omega)]
  omega
theorem qEa {x:Int} (hb:a<b):ndr a b x=a↔Tch a b x:=by
 unfold ndr
 constructor
 ·intro h
  split at h
  ·exact .inr (by assumption)
  ·split at h
   ·exact absurd h (by omega)
   ·exact .inl h
 ·rintro (z | z)
  ·rw [if_neg (by omega),if_neg (by omega)]
   exact z
  ·rw [if_pos z]
theorem qKP {x y:Int} (h:mk x y∈us):Td us x y:=by
 rcases qDD x y with e | e
 ·rw [e] at h
  exact .inl h
 ·rw [e] at h
  exact .inr h
theorem qI5 {x y:Int} (W:∀ t∈ts,okp n t) (D:jb a b ts us) (h:Td ts x y) (ne:ndr a b x≠ndr a b y):Td us (ndr a b x) (ndr a b y):=by
 rcases h with h | h
 ·exact qKP ((D.2 _).mpr ⟨_,h,ne,rfl⟩)
 ·have:=(D.2 _).mpr ⟨_,h,ZK ne,rfl⟩
  exact (qKP this).symm
theorem qM5 {u v:Int} (D:jb a b ts us) (h:Td us u v):∃ x y,Td ts x y/\ndr a b x=u/\ndr a b y=v:=by
 have key:∀ u v,(u,v)∈us->∃ x y,Td ts x y/\ndr a b x=u/\ndr a b y=v:=fun u v h=>by
  obtain ⟨t,h1,_,e⟩:=(D.2 _).mp h
  unfold qGj at e
  rcases qDD (ndr a b t.1) (ndr a b t.2) with z | z
  ·rw [z] at e
   obtain ⟨e1,e2⟩:=uU e
   exact ⟨t.1,t.2,.inl h1,e1.symm,e2.symm⟩
  ·rw [z] at e
   obtain ⟨e1,e2⟩:=uU e
   exact ⟨t.2,t.1,.inr h1,e1.symm,e2.symm⟩
 rcases h with h | h
 ·exact key u v h
 ·obtain ⟨x,y,h1,h2,h3⟩:=key v u h
  exact ⟨y,x,h1.symm,h3,h2⟩
end
theorem qC9 {α β:Type} {L:List α} {M:List β} (nd:L.Nodup) {f:α->β} {b:β->α} (h:∀ c∈L,f c∈M/\b (f c)=c):L.length<=M.length:=by
 have nd2:(L.map f).Nodup:=by
  rw [wY,yB]
  refine hZ (R:=fun a b=>a≠b) (fun {x y} hx hy ne z=>ne ?_) (wY.mp nd)
  rw [<- (h x hx).2,<- (h y hy).2,z]
 have:=vK nd2 (l₂:=M) fun x hx=>by
  obtain ⟨c,hc,rfl⟩:=zF.mp hx
  exact (h c hc).1
 rwa [wC] at this
abbrev Pr:Type:=List Nat×List Nat
def prs (m n k:Nat):List Pr:=(allR 2 m).flatMap fun c=>(allR k n).map fun d=>(c,d)
theorem QQ {m n k:Nat} {x:Pr}:x∈prs m n k↔x.1∈allR 2 m/\x.2∈allR k n:=by
 unfold prs
 rw [ZJ]
 constructor
 ·rintro ⟨c,hc,h⟩
  obtain ⟨d,hd,rfl⟩:=zF.mp h
  exact ⟨hc,hd⟩
 ·rintro ⟨h1,h2⟩
  exact ⟨x.1,h1,zF.mpr ⟨x.2,h2,rfl⟩⟩
theorem qFQ {α β:Type} {M:List β} (h:M.Nodup):∀{L:List α},L.Nodup->(L.flatMap fun c=>M.map fun d=>(c,d)).Nodup
 | [],_=>vI
 | c::L,g=>by
  have gg:=zX.mp g
  rw [vX,uT]
  refine ⟨?_,qFQ h gg.2,fun x hx y hy z=>?_⟩
  ·rw [wY,yB]
   exact (wY.mp h).imp fun {a b} n z=>n (uU z).2
  ·subst z
   obtain ⟨d,_,rfl⟩:=zF.mp hx
   obtain ⟨u,hu,hy⟩:=ZJ.mp hy
   obtain ⟨e,_,q⟩:=zF.mp hy
   exact gg.1 ((uU q).1 ▸ hu)
theorem qDh (m n k:Nat):(prs m n k).Nodup:=qFQ (Yu k n) (Yu 2 m)
inductive Rch (A:Int->Int->Prop) (x:Int):Int->Prop where
 | refl:Rch A x x
 | snoc {y z:Int}:Rch A x y->A y z->Rch A x z
def UpA (A:Int->Int->Prop):Prop:=∃ h:Int->Nat,∀ x y,A x y->h x<h y
def qIU (A:Int->Int->Prop) (d:List Nat):Prop:=∀ x y,A x y->at_ d x<=at_ d y
theorem UpA.sub {A B:Int->Int->Prop} (h:UpA A) (s:∀ x y,B x y->A x y):UpA B:=let ⟨g,hg⟩:=h; ⟨g,fun x y z=>hg x y (s x y z)⟩
theorem qCF {A:Int->Int->Prop} {g:Int->Nat} (h:∀ x y,A x y->g x<g y) {x y:Int} (r:Rch A x y):x=y\/g x<g y:=by
 induction r with
 | refl=>exact .inl rfl
 | snoc _ e ih=>
  have:=h _ _ e
  rcases ih with z | z
  ·exact .inr (z ▸ this)
  ·exact .inr (VI z this)
theorem qLN {A:Int->Int->Prop} {d:List Nat} (h:qIU A d) {x y:Int} (r:Rch A x y):at_ d x<=at_ d y:=by
 induction r with
 | refl=>exact wH _
 | snoc _ e ih=>exact zM ih (h _ _ e)
theorem qCE (h:Int->Nat):∀ l:List Int,∃ N,∀ x∈l,h x<N
 | []=>⟨0,fun x hx=>absurd hx zP⟩
 | a::l=>by
  obtain ⟨N,hN⟩:=qCE h l
  refine ⟨N+h a+1,fun x hx=>?_⟩
  rcases wW.mp hx with z | z
  ·rw [z]; omega
  ·have:=hN x z
   omega
abbrev InP (n:Nat) (A:Int->Int->Prop):Prop:=∀ x y,A x y->x∈places n/\y∈places n
abbrev qKm (a b:Int) (A:Int->Int->Prop):Int->Int->Prop:=fun x y=>(x=a/\y=b)\/A x y
theorem qDp {n:Nat} {A:Int->Int->Prop} {a b:Int} (I:InP n A) (ha:a∈places n) (U:UpA A) (no:¬ Rch A b a):UpA (qKm a b A):=by
 classical
 obtain ⟨h,hh⟩:=U
 obtain ⟨N,hN⟩:=qCE h (places n)
 refine ⟨fun x=>if Rch A b x then h x+N else h x,fun x y e=>?_⟩
 show (if Rch A b x then h x+N else h x)<(if Rch A b y then h y+N else h y)
 rcases e with ⟨e1,e2⟩ | e
 ·rw [e1,e2,if_neg no,if_pos .refl]
  have:=hN a ha
  omega
 ·have lt:=hh x y e
  by_cases z:Rch A b x
  ·rw [if_pos z,if_pos (z.snoc e)]
   omega
  ·rw [if_neg z]
   split <;> omega
theorem qJB {n:Nat} {A:Int->Int->Prop} {a b:Int} (I:InP n A) (U:UpA A) (n1:¬ Rch A a b) (n2:¬ Rch A b a):∃ g:Int->Nat,g a=g b/\∀ x y,A x y->g x<g y:=by
 classical
 obtain ⟨h,hh⟩:=U
 obtain ⟨N,hN⟩:=qCE h (places n)
 let g:Int->Nat:=fun x=>if x=a\/x=b then N else if Rch A a x\/Rch A b x then h x+N+1 else h x
 have no:∀ x y,A x y->(Rch A a x\/Rch A b x)->y≠a/\y≠b:=fun x y e r=>by
  have lt:=hh x y e
  constructor
  ·rintro rfl
   rcases r with r | r
   ·rcases qCF hh r with z | z
    ·rw [z] at lt; omega
    ·omega
   ·exact n2 (r.snoc e)
  ·rintro rfl
   rcases r with r | r
   ·exact n1 (r.snoc e)
   ·rcases qCF hh r with z | z
    ·rw [z] at lt; omega
    ·omega
 have on:∀ x y,A x y->(Rch A a x\/Rch A b x)->g y=h y+N+1:=fun x y e r=>by
  have q:=no x y e r
  show (if y=a\/y=b then N else if Rch A a y\/Rch A b y then h y+N+1 else h y)=_
  rw [if_neg (fun z=>z.elim q.1 q.2),if_pos (r.imp (fun z=>z.snoc e) fun z=>z.snoc e)]
 refine ⟨g,?_,fun x y e=>?_⟩
 ·show (if a=a\/a=b then N else _)=(if b=a\/b=b then N else _)
  rw [if_pos (.inl rfl),if_pos (.inr rfl)]
 ·have lt:=hh x y e
  have hx:=hN x (I x y e).1
  by_cases z:x=a\/x=b
  ·have r:Rch A a x\/Rch A b x:=by
    rcases z with z | z
    ·exact .inl (by rw [z]; exact .refl)
    ·exact .inr (by rw [z]; exact .refl)
   rw [on x y e r]
   show (if x=a\/x=b then N else _)<_
   rw [if_pos z]
   omega
  ·by_cases r:Rch A a x\/Rch A b x
   ·rw [on x y e r]
    show (if x=a\/x=b then N else if Rch A a x\/Rch A b x then h x+N+1 else h x)<_
    rw [if_neg z,if_pos r]
    omega
   ·show (if x=a\/x=b then N else if Rch A a x\/Rch A b x then h x+N+1 else h x)<(if y=a\/y=b then N else if Rch A a y\/Rch A b y then h y+N+1 else h y)
    rw [if_neg z,if_neg r]
    split
    ·exact hx
    ·split <;> omega
def qLn (ts:List Tie) (x:Pr):Prop:=UpA (Arr ts x.1)/\qIU (Arr ts x.1) x.2
noncomputable def Y0 (ts:List Tie) (x:Pr):Bool:=@decide (qLn ts x) (yT _)
theorem jO {ts:List Tie} {x:Pr}:Y0 ts x=true↔qLn ts x:=by
 unfold Y0
 exact @decide_eq_true_iff _ (yT _)
noncomputable def QY (n:Nat) (ts:List Tie) (k:Nat):Nat:=((prs ts.length n k).filter (Y0 ts)).length
section
variable {n:Nat} {ts us:List Tie} {a b:Int} {k:Nat}
def Adm (a b:Int) (A:Int->Int->Prop) (d:List Nat):Prop:=UpA (qKm a b A)/\at_ d a<=at_ d b
abbrev qH4 (ts:List Tie) (a b:Int) (c:List Nat):Int->Int->Prop:=fun x y=>Td (JJ ts a b) x y/\Arr ts c x y
def qNL (ts:List Tie) (a b:Int) (x:Pr):Prop:=Arr ts x.1 b a/\Adm a b (qH4 ts a b x.1) x.2
noncomputable def qKf (ts:List Tie) (a b:Int) (x:Pr):Bool:=@decide (qNL ts a b x) (yT _)
theorem ext_iff {x:Pr}:qKf ts a b x=true↔qNL ts a b x:=by
 unfold qKf
 exact @decide_eq_true_iff _ (yT _)
theorem qBK {A B:Int->Int->Prop} {d:List Nat} (e:∀ x y,A x y↔B x y):Adm a b A d↔Adm a b B d:=by
 have:A=B:=funext fun x=>funext fun y=>propext (e x y)
 rw [this]
theorem qEw (W:∀ t∈ts,okp n t) {x y:Int} (h:Td ts x y):x∈places n/\y∈places n:=by
 rcases h with h | h <;> (obtain ⟨w1,w2,w3⟩:=W _ h; simp only at w1 w2 w3; exact ⟨qc.mpr (by omega),qc.mpr (by omega)⟩)
theorem qF6 (W:∀ t∈ts,okp n t) (nd:ts.Nodup) (ht:(a,b)∈ts):((prs ts.length n k).filter fun x=>Y0 ts x && !qKf ts a b x).length=QY n (JJ ts a b) k:=by
 classical
 obtain ⟨w1,w2,w3⟩:=W _ ht
 simp only at w1 w2 w3
 have E:Ends a b a b:=.inl ⟨rfl,rfl⟩
 have WR:∀ t∈JJ ts a b,okp n t:=fun t h=>W t (qz.mp h).1
 have ndR:(JJ ts a b).Nodup:=nd.filter _
 have hpa:a∈places n:=qc.mpr (by omega)
 have hpb:b∈places n:=qc.mpr (by omega)
 let R:=JJ ts a b
 let B:Pr->Int->Int->Prop:=fun x u v=>Arr R x.1 u v\/(u=a/\v=b/\Adm a b (Arr R x.1) x.2)\/(u=b/\v=a/\¬ Adm a b (Arr R x.1) x.2)
 have fR:∀ c∈allR 2 ts.length,qJi R (Arr ts c):=fun c hc x y h=>JH W hc x y (qz.mp h).1
 have nab:∀ c,¬ Arr R c a b/\¬ Arr R c b a:=fun c=>⟨fun z=>(jN W ht E (Q1 z)).2.1 ⟨rfl,rfl⟩,fun z=>(jN W ht E (Q1 z)).2.2 ⟨rfl,rfl⟩⟩
 have far:∀ x u v,Td R u v->(B x u v↔Arr R x.1 u v):=fun x u v h=>by
  have q:=jN W ht E h
  constructor
  ·rintro (z | z | z)
   ·exact z
   ·exact absurd ⟨z.1,z.2.1⟩ q.2.1
   ·exact absurd ⟨z.1,z.2.1⟩ q.2.2
  ·exact fun z=>.inl z
 have Bab:∀ x,(B x a b↔Adm a b (Arr R x.1) x.2):=fun x=>by
  constructor
  ·rintro (z | z | z)
   ·exact absurd z (nab _).1
   ·exact z.2.2
   ·exact absurd z.1 (by omega)
  ·exact fun z=>.inr (.inl ⟨rfl,rfl,z⟩)
 have Bba:∀ x,(B x b a↔¬ Adm a b (Arr R x.1) x.2):=fun x=>by
  constructor
  ·rintro (z | z | z)
   ·exact absurd z (nab _).2
   ·exact absurd z.1 (by omega)
   ·exact z.2.2
  ·exact fun z=>.inr (.inr ⟨rfl,rfl,z⟩)
 have two:∀ u v,(u,v)∈ts->(u=a/\v=b)\/(u,v)∈R:=fun u v h=>by
  by_cases z:(u,v)=(a,b)
  ·exact .inl (uU z)
  ·exact .inr (qz.mpr ⟨h,z⟩)
 have fB:∀ x,x.1∈allR 2 R.length->qJi ts (B x):=fun x hx u v h=>by
  rcases two u v h with ⟨rfl,rfl⟩ | z
  ·rw [Bab,Bba]
   exact Classical.not_not.symm
  ·rw [far x u v (.inl z),far x v u (.inr z)]
   exact JH WR hx u v z
 unfold QY
 refine uC (qC9 ((qDh _ _ _).filter _) (f:=fun x=>(Jq R (Arr ts x.1),x.2)) (b:=fun x=>(Jq ts (B x),x.2)) fun x hx=>?_) (qC9 ((qDh _ _ _).filter _) (f:=fun x=>(Jq ts (B x),x.2)) (b:=fun x=>(Jq R (Arr ts x.1),x.2)) fun x hx=>?_)
 ·obtain ⟨h1,h2⟩:=zJ.mp hx
  obtain ⟨hc,hd⟩:=QQ.mp h1
  rw [yR,jO,xK,<- gR,ext_iff] at h2
  obtain ⟨⟨U,C⟩,no⟩:=h2
  have ar:=fun u v=>qMA (fR x.1 hc) (x:=u) (y:=v)
  have fr:=JS (JH W hc) (Or.inl ht:Td ts a b)
  refine ⟨zJ.mpr ⟨QQ.mpr ⟨qAf _ _,hd⟩,jO.mpr ⟨U.sub fun u v z=>((ar u v).mp z).2,fun u v z=>C u v ((ar u v).mp z).2⟩⟩,hV ?_ rfl⟩
  refine qAz nd hc (fun u v h=>?_) (Yr W)
  rcases two u v h with ⟨rfl,rfl⟩ | z
  ·rw [Bab,qBK (B:=qH4 ts u v x.1) ar]
   constructor
   ·intro A
    exact zY fun q=>no ⟨zY fun q2=>q (fr.mpr q2),A⟩
   ·intro q
    exact ⟨U.sub fun u' v' z=>z.elim (fun z=>by rw [z.1,z.2]; exact q) fun z=>z.2,C _ _ q⟩
  ·rw [far _ u v (.inl z)]
   exact (ar u v).trans ⟨fun q=>q.2,fun q=>⟨.inl z,q⟩⟩
 ·obtain ⟨h1,h2⟩:=zJ.mp hx
  obtain ⟨hc,hd⟩:=QQ.mp h1
  obtain ⟨U,C⟩:=jO.mp h2
  have ar:=fun u v=>qMA (fB x hc) (x:=u) (y:=v)
  have I:InP n (Arr R x.1):=fun u v z=>qEw WR (Q1 z)
  have res:∀ u v,qH4 ts a b (Jq ts (B x)) u v↔Arr R x.1 u v:=fun u v=>by
   constructor
   ·rintro ⟨z1,z2⟩
    exact (far x u v z1).mp ((ar u v).mp z2).2
   ·intro z
    exact ⟨Q1 z,(ar u v).mpr ⟨(jN W ht E (Q1 z)).1,.inl z⟩⟩
  have ba:¬ Adm a b (Arr R x.1) x.2->UpA (qKm b a (Arr R x.1))/\at_ x.2 b<=at_ x.2 a:=fun q=>by
   have le:at_ x.2 b<=at_ x.2 a:=by
    by_cases z:at_ x.2 a<=at_ x.2 b
    ·by_cases r:Rch (Arr R x.1) b a
     ·exact qLN C r
     ·exact absurd ⟨qDp I hpa U r,z⟩ q
    ·omega
   refine ⟨qDp I hpb U fun r=>?_,le⟩
   have r2:Rch (Arr R x.1) b a:=zY fun r2=>q ⟨qDp I hpa U r2,qLN C r⟩
   obtain ⟨h,hh⟩:=U
   rcases qCF hh r with z | z
   ·omega
   ·rcases qCF hh r2 with z2 | z2 <;> omega
  refine ⟨zJ.mpr ⟨QQ.mpr ⟨qAf _ _,hd⟩,?_⟩,hV (qAz ndR hc (fun u v h=>?_) (Yr WR)) rfl⟩
  ·rw [yR,jO,xK,<- gR,ext_iff]
   refine ⟨?_,fun q=>(Bba x).mp ((ar b a).mp q.1).2 ((qBK res).mp q.2)⟩
   by_cases q:Adm a b (Arr R x.1) x.2
   ·have s:∀ u v,Arr ts (Jq ts (B x)) u v->qKm a b (Arr R x.1) u v:=fun u v z=>by
     rcases ((ar u v).mp z).2 with z | z | z
     ·exact .inr z
     ·exact .inl ⟨z.1,z.2.1⟩
     ·exact absurd q z.2.2
    exact ⟨q.1.sub s,fun u v z=>(s u v z).elim (fun z=>by rw [z.1,z.2]; exact q.2) fun z=>C u v z⟩
   ·have s:∀ u v,Arr ts (Jq ts (B x)) u v->qKm b a (Arr R x.1) u v:=fun u v z=>by
     rcases ((ar u v).mp z).2 with z | z | z
     ·exact .inr z
     ·exact absurd z.2.2 q
     ·exact .inl ⟨z.1,z.2.1⟩
    exact ⟨(ba q).1.sub s,fun u v z=>(s u v z).elim (fun z=>by rw [z.1,z.2]; exact (ba q).2) fun z=>C u v z⟩
  ·show Arr ts (Jq ts (B x)) u v↔_
   rw [ar u v,far x u v (.inl h)]
   exact ⟨fun q=>q.2,fun q=>⟨.inl (qz.mp h).1,q⟩⟩
theorem qGI (W:∀ t∈ts,okp n t) (nd:ts.Nodup) (ht:(a,b)∈ts) (D:jb a b ts us):((prs ts.length n k).filter fun x=>Y0 ts x && qKf ts a b x).length=QY (n - 1) us k:=by
 classical
 obtain ⟨w1,w2,w3⟩:=W _ ht
 simp only at w1 w2 w3
 have E:Ends a b a b:=.inl ⟨rfl,rfl⟩
 have WR:∀ t∈JJ ts a b,okp n t:=fun t h=>W t (qz.mp h).1
 have WU:=Q4 W ht D
 have ndU:=Yh D.1
 have hpa:a∈places n:=qc.mpr (by omega)
 have hpb:b∈places n:=qc.mpr (by omega)
 let R:=JJ ts a b
 obtain ⟨m1,m2,m3⟩:=YR (n:=n) w1 w2 w3
 let F:Pr->Int->Int->Prop:=fun x u v=>∃ p q,qH4 ts a b x.1 p q/\ndr a b p=u/\ndr a b q=v
 let B:Pr->Int->Int->Prop:=fun x p q=>(p=b/\q=a)\/(Td R p q/\Arr us x.1 (ndr a b p) (ndr a b q))
 have unlike:∀ p q,Td R p q->ndr a b p≠ndr a b q:=fun p q h z=>by
  obtain ⟨t1,t2,t3⟩:=jN W ht E h
  rcases qA8 w2 z with y | y | y
  ·rw [y] at t1
   rcases t1 with t1 | t1 <;> (obtain ⟨_,w,_⟩:=W _ t1; simp only at w; omega)
  ·exact t2 y
  ·exact t3 y
 have down:∀ p q,Td R p q->Td us (ndr a b p) (ndr a b q):=fun p q h=>qI5 W D (jN W ht E h).1 (unlike p q h)
 have up:∀ u v,Td us u v->∃ p q,Td R p q/\ndr a b p=u/\ndr a b q=v:=fun u v h=>by
  obtain ⟨p,q,h1,h2,h3⟩:=qM5 D h
  refine ⟨p,q,qKB E h1 (fun z=>?_) (fun z=>?_),h2,h3⟩
  ·have e:ndr a b p=ndr a b q:=by rw [z.1,z.2]; exact ((qEa w2).mpr (.inl rfl)).trans ((qEa w2).mpr (.inr rfl)).symm
   rw [h2,h3] at e
   rw [e] at h
   rcases h with h | h <;> (obtain ⟨_,w,_⟩:=WU _ h; simp only at w; omega)
  ·have e:ndr a b p=ndr a b q:=by rw [z.1,z.2]; exact ((qEa w2).mpr (.inr rfl)).trans ((qEa w2).mpr (.inl rfl)).symm
   rw [h2,h3] at e
   rw [e] at h
   rcases h with h | h <;> (obtain ⟨_,w,_⟩:=WU _ h; simp only at w; omega)
 have fB:∀ x:Pr,x.1∈allR 2 us.length->qJi ts (B x):=fun x hx p q h=>by
  by_cases z:(p,q)=(a,b)
  ·obtain ⟨rfl,rfl⟩:=uU z
   refine ⟨fun y=>?_,fun y=>absurd (.inl ⟨rfl,rfl⟩) y⟩
   rcases y with y | y
   ·omega
   ·exact absurd ⟨rfl,rfl⟩ (jN W ht E y.1).2.1
  ·have tR:Td R p q:=.inl (qz.mpr ⟨h,z⟩)
   have nt:=jN W ht E tR
   have fr:=JS (JH WU hx) (down p q tR)
   constructor
   ·rintro (y | y) (y' | y')
    ·omega
    ·exact nt.2.2 y
    ·exact nt.2.1 ⟨y'.2,y'.1⟩
    ·exact fr.mp y.2 y'.2
   ·intro y
    exact .inr ⟨tR,fr.mpr fun y'=>y (.inr ⟨tR.symm,y'⟩)⟩
 unfold QY
 refine uC (qC9 ((qDh _ _ _).filter _) (f:=fun x=>(Jq us (F x),pull (und b) (n - 1) x.2)) (b:=fun x=>(Jq ts (B x),pull (gD a b) n x.2)) fun x hx=>?_) (qC9 ((qDh _ _ _).filter _) (f:=fun x=>(Jq ts (B x),pull (gD a b) n x.2)) (b:=fun x=>(Jq us (F x),pull (und b) (n - 1) x.2)) fun x hx=>?_)
 ·obtain ⟨h1,h2⟩:=zJ.mp hx
  obtain ⟨hc,hd⟩:=QQ.mp h1
  rw [yR,jO,ext_iff] at h2
  obtain ⟨⟨U,C⟩,ba,A⟩:=h2
  have ea:at_ x.2 a=at_ x.2 b:=uC A.2 (C _ _ ba)
  have fx:=JH W hc
  have UR:UpA (qH4 ts a b x.1):=U.sub fun p q z=>z.2
  have I:InP n (qH4 ts a b x.1):=fun p q z=>qEw W (Q1 z.2)
  have n1:¬ Rch (qH4 ts a b x.1) a b:=fun r=>by
   obtain ⟨h,hh⟩:=U
   have:=hh _ _ ba
   rcases qCF (g:=h) (fun p q z=>hh p q z.2) r with z | z <;> omega
  have n2:¬ Rch (qH4 ts a b x.1) b a:=fun r=>by
   obtain ⟨h,hh⟩:=A.1
   have:=hh a b (.inl ⟨rfl,rfl⟩)
   rcases qCF (g:=h) (fun p q z=>hh p q (.inr z)) r with z | z <;> omega
  obtain ⟨g,ga,gg⟩:=qJB I UR n1 n2
  have same:∀ p q,ndr a b p=ndr a b q->g p=g q/\at_ x.2 p=at_ x.2 q:=fun p q z=>by
   rcases qA8 w2 z with y | ⟨y1,y2⟩ | ⟨y1,y2⟩
   ·rw [y]; exact ⟨rfl,rfl⟩
   ·rw [y1,y2]; exact ⟨ga,ea⟩
   ·rw [y1,y2]; exact ⟨ga.symm,ea.symm⟩
  have noF:∀ u v,F x u v->¬ F x v u:=fun u v ⟨p,q,h1,h2,h3⟩ ⟨p',q',h1',h2',h3'⟩=>by
   have e1:=(same p q' (h2.trans h3'.symm)).1
   have e2:=(same q p' (h3.trans h2'.symm)).1
   have l1:=gg _ _ h1
   have l2:=gg _ _ h1'
   omega
  have someF:∀ u v,Td us u v->F x u v\/F x v u:=fun u v h=>by
   obtain ⟨p,q,h1,h2,h3⟩:=up u v h
   have t1:=(jN W ht E h1).1
   by_cases z:Arr ts x.1 p q
   ·exact .inl ⟨p,q,⟨h1,z⟩,h2,h3⟩
   ·exact .inr ⟨q,p,⟨h1.symm,zY fun y=>z ((JS fx t1).mpr y)⟩,h3,h2⟩
  have fF:qJi us (F x):=fun u v h=>⟨noF u v,fun z=>(someF u v (.inl h)).resolve_right z⟩
  have ar:=fun u v=>qMA fF (x:=u) (y:=v)
  refine ⟨zJ.mpr ⟨QQ.mpr ⟨qAf _ _,J6 hd m2⟩,jO.mpr ⟨?_,fun u v z=>?_⟩⟩,hV ?_ ?_⟩
  ·refine ⟨fun u=>g (un b u),fun u v z=>?_⟩
   obtain ⟨_,p,q,h1,rfl,rfl⟩:=(ar u v).mp z
   have e1:=(same (un b (ndr a b p)) p (qIa w2)).1
   have e2:=(same (un b (ndr a b q)) q (qIa w2)).1
   show g (un b (ndr a b p))<g (un b (ndr a b q))
   rw [e1,e2]
   exact gg _ _ h1
  ·obtain ⟨_,p,q,h1,rfl,rfl⟩:=(ar u v).mp z
   obtain ⟨i1,i2⟩:=I _ _ h1
   have i1:=qc.mp i1
   have i2:=qc.mp i2
   show at_ (pull (und b) (n - 1) x.2) _<=at_ (pull (und b) (n - 1) x.2) _
   rw [qAO w1 w2 w3 ea i1.1 i1.2,qAO w1 w2 w3 ea i2.1 i2.2]
   exact C _ _ h1.2
  ·refine qAz nd hc (fun p q h=>?_) (Yr W)
   by_cases z:(p,q)=(a,b)
   ·obtain ⟨rfl,rfl⟩:=uU z
    constructor
    ·rintro (y | y)
     ·omega
     ·exact absurd ⟨rfl,rfl⟩ (jN W ht E y.1).2.1
    ·intro y
     exact absurd ba ((fx _ _ ht).mp y)
   ·have tR:Td R p q:=.inl (qz.mpr ⟨h,z⟩)
    have nt:=jN W ht E tR
    constructor
    ·rintro (y | y)
     ·exact absurd y nt.2.2
     ·have:=((ar _ _).mp y.2).2
      exact zY fun y'=>noF _ _ this ⟨q,p,⟨tR.symm,zY fun y2=>y' ((JS fx (.inl h)).mpr y2)⟩,rfl,rfl⟩
    ·intro y
     exact .inr ⟨tR,(ar _ _).mpr ⟨down _ _ tR,p,q,⟨tR,y⟩,rfl,rfl⟩⟩
  ·refine Jx (by rw [Qf,(qM.mp hd).1]) fun i hi=>?_
   rw [Qf] at hi
   show (pull (gD a b) n (pull (und b) (n - 1) x.2)).getD i 0=_
   rw [jz hi,jz (m1 i hi)]
   exact qA5 w1 w2 w3 ea i hi
 ·obtain ⟨h1,h2⟩:=zJ.mp hx
  obtain ⟨hc,hd⟩:=QQ.mp h1
  obtain ⟨⟨h,hh⟩,C⟩:=jO.mp h2
  have ar:=fun u v=>qMA (fB x hc) (x:=u) (y:=v)
  have na:ndr a b a=ndr a b b:=((qEa w2).mpr (.inl rfl)).trans ((qEa w2).mpr (.inr rfl)).symm
  have dat:∀ p∈places n,at_ (pull (gD a b) n x.2) p=at_ x.2 (ndr a b p):=fun p hp=>by
   have:=qc.mp hp
   exact qCb w1 w2 this.1 this.2
  have bA:Arr ts (Jq ts (B x)) b a:=(ar b a).mpr ⟨.inr ht,.inl ⟨rfl,rfl⟩⟩
  have res:∀ p q,qH4 ts a b (Jq ts (B x)) p q->Arr us x.1 (ndr a b p) (ndr a b q):=fun p q z=>by
   rcases ((ar p q).mp z.2).2 with y | y
   ·exact absurd y (jN W ht E z.1).2.2
   ·exact y.2
  have cmp:∀ p q,Arr ts (Jq ts (B x)) p q->at_ (pull (gD a b) n x.2) p<=at_ (pull (gD a b) n x.2) q:=fun p q z=>by
   obtain ⟨i1,i2⟩:=qEw W (Q1 z)
   rw [dat p i1,dat q i2]
   rcases ((ar p q).mp z).2 with y | y
   ·rw [y.1,y.2,na]
    exact wH _
   ·exact C _ _ y.2
  have two:∀ c:Int,UpA (fun p q=>(p≠c/\q=c/\ndr a b p=ndr a b q)\/Arr us x.1 (ndr a b p) (ndr a b q)):=fun c=>by
   refine ⟨fun p=>2*h (ndr a b p)+(if p=c then 1 else 0),fun p q z=>?_⟩
   show 2*h (ndr a b p)+(if p=c then 1 else 0)<2*h (ndr a b q)+(if q=c then 1 else 0)
   rcases z with ⟨z1,z2,z3⟩ | z
   ·rw [z3,if_neg z1,if_pos z2]
    omega
   ·have:=hh _ _ z
    split <;> split <;> omega
  refine ⟨zJ.mpr ⟨QQ.mpr ⟨qAf _ _,J6 hd m1⟩,?_⟩,hV ?_ ?_⟩
  ·rw [yR,jO,ext_iff]
   refine ⟨⟨(two a).sub fun p q z=>?_,cmp⟩,bA,(two b).sub fun p q z=>?_,?_⟩
   ·rcases ((ar p q).mp z).2 with y | y
    ·exact .inl ⟨fun e=>by omega,y.2,by rw [y.1,y.2,na]⟩
    ·exact .inr y.2
   ·rcases z with z | z
    ·exact .inl ⟨fun e=>by omega,z.2,by rw [z.1,z.2,na]⟩
    ·exact .inr (res p q z)
   ·show at_ (pull (gD a b) n x.2) a<=at_ (pull (gD a b) n x.2) b
    rw [dat a hpa,dat b hpb,na]
    exact wH _
  ·refine qAz ndU hc (fun u v g=>?_) (Yr WU)
   constructor
   ·rintro ⟨p,q,y1,rfl,rfl⟩
    exact res p q y1
   ·intro y
    obtain ⟨p,q,h1,rfl,rfl⟩:=up u v (.inl g)
    exact ⟨p,q,⟨h1,(ar p q).mpr ⟨(jN W ht E h1).1,.inr ⟨h1,y⟩⟩⟩,rfl,rfl⟩
  ·refine Jx (by rw [Qf,(qM.mp hd).1]) fun i hi=>?_
   rw [Qf] at hi
   show (pull (und b) (n - 1) (pull (gD a b) n x.2)).getD i 0=_
   rw [jz hi,jz (m2 i hi),m3 i hi]
theorem qF9 {α:Type} (p q:α->Bool) (l:List α):(l.filter p).length=(l.filter fun x=>p x && !q x).length+(l.filter fun x=>p x && q x).length:=by
 induction l with
 | nil=>rfl
 | cons c l ih=>
  simp only [yZ]
  cases p c <;> cases q c <;> simp [ih] <;> omega
theorem qDk (W:∀ t∈ts,okp n t) (nd:ts.Nodup) (ht:(a,b)∈ts) (D:jb a b ts us):QY n ts k=QY n (JJ ts a b) k+QY (n - 1) us k:=by
 show ((prs ts.length n k).filter (Y0 ts)).length=_
 rw [qF9 (Y0 ts) (qKf ts a b)]
 exact qNP (qF6 W nd ht) (qGI W nd ht D)
theorem qFA (n k:Nat):QY n [] k=k ^ n:=by
 unfold QY
 have e:(prs ([]:List Tie).length n k).filter (Y0 [])=prs 0 n k:=uF.mpr fun x _=>by
  have no:∀ u v,¬ Arr [] x.1 u v:=fun u v z=>by
   rcases z with z | z <;> exact absurd z.1 zP
  exact jO.mpr ⟨⟨fun _=>0,fun u v z=>absurd z (no u v)⟩,fun u v z=>absurd z (no u v)⟩
 rw [e]
 unfold prs
 rw [show allR 2 0=[[]] from rfl,vX,List.flatMap_nil,zK,wC,jY]
end
theorem neg_pow (k:Nat):∀ n,(-(k:Int)) ^ n*sgn n=((k ^ n:Nat):Int)
 | 0=>by
  rw [Int.pow_zero,Nat.pow_zero]
  rfl
 | n+1=>by
  have ih:=neg_pow k n
  rw [Int.pow_succ,qAZ,WJ,WJ,Int.neg_mul,Int.neg_neg,WN,VS (k:Int),<- WN,ih,gJ,Int.natCast_mul]
theorem Yw (k:Nat):∀(m n:Nat) (ts:List Tie),ts.length<=m->(∀ t∈ts,okp n t)->ts.Nodup->∀ row,JF n ts row->ev row (-(k:Int))*sgn n=(QY n ts k:Int)
 | _,n,[],_,_,_,row,hr=>by
  rw [hr.one (qFW n),Yd,qCP,zN,qFA,kW,WI]
  exact neg_pow k n
 | 0,_,_::_,h,_,_,_,_=>absurd h (Nat.not_succ_le_zero _)
 | m+1,n,(a,b)::ts,h,ok,nd,row,hr=>by
  obtain ⟨us,D⟩:=qDf a b ((a,b)::ts)
  obtain ⟨w1,w2,w3⟩:=ok _ wD
  simp only at w1 w2 w3
  have lu:=QP wD w2 D
  have h':ts.length<=m:=Nat.le_of_succ_le_succ h
  have ok1:∀ t∈ts,okp n t:=fun t ht=>ok t (wJ _ ht)
  have nd1:=(zX.mp nd).2
  have ok2:=Q4 ok wD D
  have lu2:us.length<=m:=by rw [wZ] at lu; omega
  obtain ⟨r,r1,_⟩:=qDn m n ts h' ok1 nd1
  obtain ⟨s,s1,_⟩:=qDn m (n - 1) us lu2 ok2 (Yh D.1)
  have e1:=Yw k m n ts h' ok1 nd1 r r1
  have e2:=Yw k m (n - 1) us lu2 ok2 (Yh D.1) s s1
  have hl:r.length=(s++[0]).length:=by
   rw [wO,r1.1,s1.1]
   show n+1=n - 1+1+1
   omega
  rw [hr.one (qBL ok nd D r1 s1),qDk ok nd wD D,show JJ ((a,b)::ts) a b=ts from Jl nd]
  unfold qEb
  rw [qGV _ _ _ hl,Yd,VT,VR,Int.natCast_add,<- e1,<- e2,Int.sub_mul]
  have sn:sgn n = - sgn (n - 1):=by
   rw [<- qAZ]
   exact congrArg sgn (by omega)
  rw [sn,WJ,WJ]
  omega
theorem qFV {X:Cx} {x:Str} {pos:Pos} {st:Stmt} {ps:List Str} {j k:Nat} {sp:Sp} {e:Expr} {es:List Expr} {t:TA} {p:Pos} (h:Has X.prog X.w X.K X.mg X.base x st ps k sp) (hr:Y3 j X.A) (ha:PA X (e::es) t) (hk:k<=j:=by omega) (hg:Gl X x:=by rfl) (hdb:(x == ("__debug__" : Str))=false:=by decide) (he:starEach (e::es) X.env=(false,eval e X.env)::starEach es X.env:=by rfl) (hpl:(backTo pos (starEach es X.env)).any (·.1)=false:=by rfl):PE X (.Call (.Name x p) (e::es) [] pos) (qG9 sp [] E0 t):=qp h hr ha hk hg hdb he hpl
def Memo (ks:List (Q0×D)):Prop:=∀(n:Nat) (ts:List Tie) (d:D),J4 ks ((n:Int),ts)=some d->∃ row,d=.lst (qL row)/\JK n ts row
theorem qHj {ks:List (Q0×D)} {n:Nat} {ts:List Tie} {row:List Int} (h:Memo ks) (r:JK n ts row):Memo (putD ks ((n:Int),ts) (.lst (qL row))):=fun m us d e=>by
 rw [qDi] at e
 by_cases z:(((m:Int),us):Q0)=((n:Int),ts)
 ·rw [if_pos z] at e
  obtain ⟨z1,z2⟩:=uU z
  have z3:m=n:=by omega
  subst z2 z3
  exact ⟨row,(zS e).symm,r⟩
 ·rw [if_neg z] at e
  exact h m us d e
def qJj (m:Nat):PV:=fun as Φ=>∃(n:Nat) (ts:List Tie) (ks:List (Q0×D)),as=[.d (Jo n ts),.o (dwP ks)]/\ts.length+3<=m/\n<=9/\ts.length<=20/\(∀ t∈ts,okp n t)/\ts.Nodup/\Memo ks/\ks.length+2 ^ ts.length<=2 ^ 22/\∀ row ks',JK n ts row->Memo ks'->ks'.length+1<=ks.length+2 ^ ts.length->Φ (.d (.lst (qL row))) [.d (Jo n ts),.o (dwP ks')]
def qCT:PV:=fun as Φ=>∃(n:Nat) (ts:List Tie),as=[.d (Jo n ts)]/\n<=9/\ts.length<=20/\(∀ t∈ts,okp n t)/\ts.Nodup/\∀ row,JK n ts row->Φ (.d (.lst (qL row))) as
theorem pw2 {a b:Nat} (h:a+1<=b):2 ^ a+2 ^ a<=2 ^ b:=by
 have:=xX (show 0<2 by decide) h
 rw [gJ] at this
 omega
theorem pw1 (a:Nat):1<=2 ^ a:=Nat.one_le_two_pow
theorem qKd (n:Nat):(wN n [D.int 0]).flatten=qL (wN n 0):=by
 induction n with
 | zero=>rfl
 | succ n ih=>
  rw [vW,uM,ih]
  rfl
theorem qJ5 (t:Tie) (ts:List Tie):cutD ((t::ts).map qb) (some 1) none=ts.map qb:=by
 unfold cutD
 rw [show (some (1:Int))=some ((1:Nat):Int) from rfl,HT.sIx_nat,HT.sIx_none]
 simp
 exact uH (by rw [wC]; exact wH _)
theorem qDb:∀ ns ms:List Int,qGm (qL ns) (qL ms)=(ns.zip ms).map qb
 | [],_=>rfl
 | _::_,[]=>rfl
 | n::ns,m::ms=>by
  show D.tup [.int n,.int m]::qGm (qL ns) (qL ms)=qb (n,m)::(ns.zip ms).map qb
  rw [qDb ns ms]
  rfl
theorem jf:qW ["web","known","many","ties","a","b","without","together"] ["web","known"] (qG (top 10)):=by walk_at "sc"
theorem qGL (F:Fun K "row_of" "row_of" (top 10) f fd) (T:Txt mg) (XAQ:qLX K mg "row_of" (top 10) ["web","known"] f fd) (XAV:Has P w K mg base "drawn" (top 7) ["web","a","b"] 2 (spV qGe)) (m:Nat):Qg P w K mg base CX0 m f fd ["web","known"] (spV (qJj m)):=by
 induction m with
 | zero=>exact ⟨fun vs H Q E ⟨_,_,_,_,z,_⟩=>(by obtain ⟨n,ts,ks,_,h,_⟩:=z; omega),fun A outer s H args us vs Q E _ _ _ _ ⟨_,_,_,_,z,_⟩=>(by obtain ⟨n,ts,ks,_,h,_⟩:=z; omega)⟩
 | succ m ih=>
 by_cases hm:m<2
 ·exact ⟨fun vs H Q E ⟨_,_,_,_,z,_⟩=>(by obtain ⟨n,ts,ks,_,h,_⟩:=z; omega),fun A outer s H args us vs Q E _ _ _ _ ⟨_,_,_,_,z,_⟩=>(by obtain ⟨n,ts,ks,_,h,_⟩:=z; omega)⟩
 have XAS:Has P w K mg base "row_of" (top 10) ["web","known"] m (spV (qJj m)):=⟨f,fd,XAQ,ih⟩
 refine jr F jf [0,1] (fun as Φ h=>?_) (fun cdv A outer s H E hr=>?_)
 ·obtain ⟨n,ts,ks,rfl,_⟩:=h
  rfl
 ·have hu:=hr.units
  refine ⟨_,(qC (YF (pv 0) (jG (K:=K) (n:=2) rfl rfl (qO (qBG 2 jf) (qO (qBG 3 jf) jD))))
   (qC (Qr (qII (Q2 (K:=K) rfl (pv 3) (fun _=>rfl)))
   (qF (qj (qa (qAj (K:=K) rfl) (qa opM (qy (qA qE qB)) (pv 2)) (qy (qA qE qB)))))
   jA)
   (qC (Qr (qKg (qEd hu (pv 0) (pv 1)) (by with_unfolding_all rfl))
   (qC (YF (QH (pv 3) qE) (jG (K:=K) (n:=2) rfl rfl (qO (qBG 4 jf) (qO (qBG 5 jf) jD))))
    (qC (jw 6 jf (qFV XAS hr (qA (jS (qA (pv 2) (qA (qAs (qMQ (K:=K) rfl) (pv 3) (qCe qE) qCM) qB))) (qA (pv 1) qB))))
    (qC (jw 7 jf (qa (qAj (K:=K) rfl) (qFV XAS hr (qA (qFV XAV hr (qA (pv 0) (qA (pv 4) (qA (pv 5) qB)))) (qA (pv 1) qB))) (qy (qA qE qB))))
    (qF (qJC hu (pv 1) (pv 0) (qw rfl (own:=["one","other"]) (fr:=[]) (by walk_at "cs") (qI4 (by rfl) T.n_zip (qA (pv 6) (qA (pv 7) qB))) (fun cl C s0 H0 fp=>⟨(jG (K:=K) (n:=2) rfl rfl (qO (Qx 0) (qO (Qx 1) jD))),QC,(qa YV (pv 0) (pv 1))⟩)) (by rfl))))))
   jA)
   (qF (qj (qJE hu (pv 1) (pv 0) (fun _ _=>rfl))))))),?_⟩
  rintro as Φ ⟨n,ts,ks,rfl,hlm,hn,hl,ok,nd,mk0,fit,k⟩
  let SW:Sl:=.d (Jo n ts)
  let SN:Sl:=.d (.int n)
  let ST:Sl:=.d (.tup (ts.map qb))
  walk_at "st"
  refine qv (fun ρ=>ρ=[SW,.o (dwP ks),SN,ST,.u,.u,.u,.u]) ?_ ?_
  ·refine qBS (qAr rfl ?_)
   refine qD7 rfl rfl (jd (qT rfl (jd (qT rfl (qAY ?_)))))
   rfl
  rintro ρ rfl
  refine qv (fun ρ=>ρ=[SW,.o (dwP ks),SN,ST,.u,.u,.u,.u]/\ts≠[]) ?_ ?_
  ·walk_at "v"
   cases ts with
   | nil=>
    refine (if_pos rfl).mpr ?_
    refine qHW (qMy ?_)
    walk_at "v"
    refine OpV.r (qMF (k:=(n:Int)) rfl rfl (by omega) (by omega) (szl (by show 1*_<=1000; omega)) ?_)
    rw [yD,qKd]
    walk_at "v"
    refine OpV.r (OpV.l (YY rfl rfl (szl (by rw [wC,zN]; show n+1<=1000; omega)) ?_))
    have e:qL (wN n 0)++[.int 1]=qL (wN n 0++[1]):=by
     unfold qL
     rw [yI]
     rfl
    rw [e]
    exact ⟨_,rfl,⟨_,rfl⟩,k _ ks (qBN n) mk0 (by show ks.length+1<=ks.length+2 ^ 0; omega)⟩
   | cons t ts=>
    exact qBE (fun z=>Bool.noConfusion (show false=true from z)) fun _=>jR ⟨rfl,fun z=>by cases z⟩
  rintro ρ ⟨rfl,hne⟩
  refine qv (fun ρ=>∃(s4 s5 s6 s7:Sl) (row:List Int) (ks':List (Q0×D)),ρ=[SW,.o (dwP ks'),SN,ST,s4,s5,s6,s7]/\JK n ts row/\Memo ks'/\J4 ks' ((n:Int),ts)=some (.lst (qL row))/\ks'.length+1<=ks.length+2 ^ ts.length) ?_ ?_
  ·refine qHt ?_
   walk_at "v"
   refine qLP ?_
   walk_at "v"
   refine ⟨((n:Int),ts),rfl,?_⟩
   walk_at "v"
   refine ⟨1,ks,rfl,rfl,?_⟩
   walk_at "v"
   cases hv:J4 ks ((n:Int),ts) with
   | some d=>
    refine qBE (fun z=>Bool.noConfusion (show false=true from z)) fun _=>?_
    obtain ⟨row,rfl,ro⟩:=mk0 n ts d hv
    exact jR ⟨_,_,_,_,row,ks,rfl,ro,mk0,hv,by have:=pw1 ts.length; omega⟩
   | none=>
    refine (if_pos (by decide)).mpr ?_
    cases ts with
    | nil=>exact absurd rfl hne
    | cons t ts=>
    obtain ⟨a,b⟩:=t
    rw [wZ] at hl hlm fit
    have pw:=pw2 (wH (ts.length+1))
    have pp:=pw1 ts.length
    obtain ⟨t1,t2,t3⟩:=ok _ wD
    simp only at t1 t2 t3
    refine qv (fun ρ=>ρ=[SW,.o (dwP ks),SN,ST,.d (.int a),.d (.int b),.u,.u]) ?_ ?_
    ·walk_at "v"
     refine qJH (d:=qb (a,b)) rfl rfl (by exact QX (j:=0) rfl) ?_
     refine qD7 rfl rfl (jd (qT rfl (jd (qT rfl (qAY ?_)))))
     rfl
    rintro ρ rfl
    refine qv (fun ρ=>∃(r1:List Int) (ks1:List (Q0×D)),ρ=[SW,.o (dwP ks1),SN,ST,.d (.int a),.d (.int b),.d (.lst (qL r1)),.u]/\JK n ts r1/\Memo ks1/\ks1.length+1<=ks.length+2 ^ ts.length) ?_ ?_
    ·walk_at "v"
     refine jP ?_
     walk_at "v"
     refine SlV.r (qNd rfl ?_)
     rw [show cutD (((a,b)::ts).map qb) (some 1) none=ts.map qb from qJ5 _ _]
     walk_at "v"
     refine ⟨of_decide_eq_true rfl,?_⟩
     walk_at "st"
     refine ⟨n,ts,ks,rfl,by omega,hn,by omega,fun t h=>ok t (wJ _ h),(zX.mp nd).2,mk0,by omega,fun r1 ks1 ro1 me1 le1=>⟨⟨_,rfl⟩,?_⟩⟩
     walk_at "st"
     refine qT rfl ?_
     walk_at "st"
     exact ⟨r1,ks1,rfl,ro1,me1,le1⟩
    rintro ρ ⟨r1,ks1,rfl,ro1,me1,le1⟩
    refine qv (fun ρ=>∃(us:List Tie) (r2:List Int) (ks2:List (Q0×D)),ρ=[SW,.o (dwP ks2),SN,ST,.d (.int a),.d (.int b),.d (.lst (qL r1)),.l (qL (r2++[0]))]/\jb a b ((a,b)::ts) us/\JK (n - 1) us r2/\Memo ks2/\ks2.length+1<=ks1.length+2 ^ ts.length) ?_ ?_
    ·walk_at "v"
     refine jP ?_
     walk_at "vc"
     refine ⟨n,(a,b)::ts,a,b,rfl,by omega,by rw [wZ]; exact hl,fun us D=>⟨⟨_,rfl⟩,?_⟩⟩
     walk_at "sv"
     refine ⟨of_decide_eq_true rfl,?_⟩
     walk_at "st"
     have lu:=QP wD t2 D
     rw [wZ] at lu
     have pu:=xX (show 0<2 by decide) (show us.length<=ts.length by omega)
     refine ⟨n - 1,us,ks1,rfl,by omega,by omega,by omega,Q4 ok wD D,Yh D.1,me1,by omega,fun r2 ks2 ro2 me2 le2=>⟨⟨_,rfl⟩,?_⟩⟩
     walk_at "sv"
     refine OpV.r (OpV.l (YY rfl rfl (szl (by rw [wC,ro2.1.1]; show n - 1+1+1<=1000; omega)) ?_))
     have e:qL r2++[.int 0]=qL (r2++[0]):=by
      unfold qL
      rw [yI]
      rfl
     rw [e]
     refine qT rfl ?_
     walk_at "st"
     exact ⟨us,r2,ks2,rfl,D,ro2,me2,by omega⟩
    rintro ρ ⟨us,r2,ks2,rfl,Dr,ro2,me2,le2⟩
    have ro:=YZ ok nd Dr ro1 ro2
    have fits:ks2.length<sizeLine:=zZ (show ks2.length<2 ^ 22 by omega) (by rw [kM]; decide)
    refine Qd (i:=7) rfl ?_
    walk_at "st"
    refine qKR ?_
    have rl1:=ro1.1.1
    have rl2:=ro2.1.1
    refine QE qb (r1.zip (r2++[0])) (fun _=>true) (fun x=>D.int (x.1 - x.2)) (qLx true ?_)
    walk_at "v"
    refine ⟨_,_,rfl,qDb _ _,?_,qZ rfl,of_decide_eq_true rfl,?_,?_⟩
    ·refine qN ?_
     rw [List.length_zip]
     omega
    ·rintro ⟨x1,x2⟩ _ os hos
     obtain ⟨z0,z1,rfl⟩:=qIW hos
     walk_at "v"
     refine ⟨⟨[_,_],rfl,rfl⟩,QG ⟨rfl,rfl⟩,fun _=>?_⟩
     walk_at "v"
     exact ⟨rfl,rfl⟩
    have e:((r1.zip (r2++[0])).filter fun _=>true).map (fun x:Tie=>D.int (x.1 - x.2))=qL (qEb r1 r2):=by
     rw [qu]
     unfold qEb qL
     rw [List.map_zipWith,List.zip_eq_zipWith,List.map_zipWith]
    rw [e]
    refine ⟨_,rfl,?_⟩
    walk_at "v"
    refine ⟨((n:Int),(a,b)::ts),ks2,rfl,rfl,fits,?_⟩
    walk_at "st"
    refine ⟨_,_,_,_,_,_,rfl,ro,qHj me2 ro,by rw [qDi,if_pos rfl],?_⟩
    have:=qHc ks2 ((n:Int),(a,b)::ts) (.lst (qL (qEb r1 r2)))
    omega
  rintro ρ ⟨s4,s5,s6,s7,row,ks',rfl,ro,me,va,le⟩
  refine qHW (qKh ?_)
  walk_at "v"
  refine ⟨ks',((n:Int),ts),_,rfl,rfl,va,⟨_,rfl⟩,?_⟩
  exact k row ks' ro me le
theorem qEH:qW ["web"] ["web"] (qG (top 11)):=by walk_at "sc"
theorem qEQ (F:Fun K "hue_row" "hue_row" (top 11) f fd) (T:Txt mg) (XAS:Has P w K mg base "row_of" (top 10) ["web","known"] 23 (spV (qJj 23))):Qg P w K mg base CX0 24 f fd ["web"] (spV qCT):=by
 refine jr F qEH [0] (fun as Φ h=>?_) (fun cdv A outer s H E hr=>?_)
 ·obtain ⟨n,ts,rfl,_⟩:=h
  rfl
 ·have hu:=hr.units
  refine ⟨_,(qF (qj (qp XAS hr (qA (pv 0) (qA qJT qB))))),?_⟩
  rintro as Φ ⟨n,ts,rfl,hn,hl,ok,nd,k⟩
  walk_at "sv"
  refine jP ?_
  walk_at "v"
  refine qLJ ?_
  walk_at "v"
  refine ⟨of_decide_eq_true rfl,?_⟩
  walk_at "st"
  have pu:=xX (show 0<2 by decide) hl
  refine ⟨n,ts,[],rfl,by omega,hn,hl,ok,nd,fun _ _ _ e=>(by cases e),by show 0+_<=_; omega,fun row ks' ro _ _=>⟨⟨_,rfl⟩,?_⟩⟩
  walk_at "st"
  exact ⟨⟨_,rfl⟩,k row ro⟩
def qLU (K:wK):PV:=fun as Φ=>∃(ns:List Int) (k:Int),as=[.f K (ns.map D.int),.d (.int k)]/\0<=k/\k<100/\∀ c,Φ (.d (.int c)) as
theorem qB3:qW ["script","k"] ["script","k"] (qG (top 21)):=by walk_at "sc"
theorem qBj (F:Fun K "_law_cell" "_law_cell" (top 21) f fd) (T:Txt mg):Qg P w K mg base CX0 1 f fd ["script","k"] (spV (qLU K)):=by
 refine jr F qB3 [0,1] (fun as Φ h=>?_) (fun cdv A outer s H E hr=>?_)
 ·obtain ⟨ns,k,rfl,_⟩:=h
  rfl
 ·have hu:=hr.units
  refine ⟨_,(qC (Qr (qS qHz (pv 1) (qK (qCz (K:=K) rfl) (by rfl) T.n_len vN (qA (pv 0) qB)) (qg _))
   (qF (qj (QH (pv 0) (pv 1))))
   jA)
   (qF (qj (qa (qAj (K:=K) rfl) (qa opM (qa opM qE (pv 1)) (pv 1)) (qa opM qE (pv 1)))))),?_⟩
  rintro as Φ ⟨ns,i,rfl,h0,h1,k⟩
  walk_at "sv"
  refine qIk rfl ?_
  walk_at "v"
  refine qBE (fun hc=>?_) (fun hc=>?_)
  ·have hc':=ofd hc
   rw [wC] at hc'
   have hin:i.toNat<ns.length:=by omega
   have e:i=((i.toNat:Nat):Int):=by omega
   have hat:atI (ns.map D.int) i=some (.int ns[i.toNat]):=by
    conv=>lhs; rw [e]
    exact QX (by rw [wQ,wA hin]; rfl)
   walk_at "v"
   refine qMp rfl rfl hat ?_
   exact ⟨⟨_,rfl⟩,k _⟩
  ·refine jR ?_
   walk_at "v"
   refine OpV.l (Jp rfl rfl (.inl ⟨by omega,by omega⟩) ?_)
   walk_at "v"
   refine OpV.l (Jp rfl rfl (.inl ⟨by omega,by omega⟩) ?_)
   walk_at "v"
   refine OpV.l (Jp rfl rfl (.inl ⟨by omega,by omega⟩) ?_)
   walk_at "v"
   exact ⟨⟨_,rfl⟩,k _⟩
def evR (xs:List Int) (k:Int) (i:Nat):Int:=ev (xs.take i).reverse k
theorem qH9 {xs:List Int} {k:Int} {i:Nat} (h:i<xs.length):evR xs k i*k+xs.getD i 0=evR xs k (i+1):=by
 unfold evR
 rw [vF h,hG]
 show _=xs[i]+k*ev (xs.take i).reverse k
 rw [nD h,VS,Int.add_comm]
theorem qEu (r:List Int) (k:Int):evR r.reverse k r.length=ev r k:=by
 unfold evR
 rw [uH (by rw [hU]; exact wH _),WH]
def qKW (k:Int):Prop:=-(2 ^ 64)<k/\k<2 ^ 64
def qIG:PV:=fun as Φ=>∃(r:List Int) (k:Int),as=[.d (.lst (qL r)),.d (.int k)]/\r.length<=20/\qKW k/\Φ (.d (.int (ev r k))) as
def qIM:PV:=fun as Φ=>∃(r:List Int) (k:Int),as=[.d (.lst (qL r)),.d (.int k)]/\r.length<=20/\qKW k/\Φ (.d (.int (ev r k))) as
theorem JB:qW ["row","k","total","number"] ["row","k"] (qG (top 12)):=by walk_at "sc"
theorem qGM (F:Fun K "row_at" "row_at" (top 12) f fd) (T:Txt mg):Qg P w K mg base CX0 1 f fd ["row","k"] (spV qIG):=by
 refine jr F JB [0,1] (fun as Φ h=>?_) (fun cdv A outer s H E hr=>?_)
 ·obtain ⟨r,k,rfl,_⟩:=h
  rfl
 ·have hu:=hr.units
  refine ⟨_,(qC (jw 2 JB qE)
   (qC (Ye xP rfl (qKQ (K:=K) rfl (by rfl) T.n_reversed (qA (pv 0) qB)) (qBG 3 JB)
   (qF (jw 2 JB (qa (qAj (K:=K) rfl) (qa opM (pv 2) (pv 1)) (pv 3)))))
   (qF (qj (pv 2))))),?_⟩
  rintro as Φ ⟨r,x,rfl,hl,⟨x0,x1⟩,k⟩
  let S0:Sl:=.d (.lst (qL r))
  let S1:Sl:=.d (.int x)
  walk_at "st"
  refine qv (fun ρ=>ρ=[S0,S1,.d (.int 0),.u]) ?_ ?_
  ·walk_at "v"
   rfl
  rintro ρ rfl
  refine qET (qCX (qME ?_))
  walk_at "v"
  refine ⟨qL r,rfl,?_⟩
  have e:(qL r).reverse=qL r.reverse:=by
   unfold qL
   rw [List.map_reverse]
  rw [e]
  refine ⟨fun i ρ=>∃ s3:Sl,ρ=[S0,S1,.d (.int (evR r.reverse x i)),s3],⟨_,rfl⟩,?_,?_⟩
  rotate_left
  ·rintro ρ ⟨s3,rfl⟩
   rw [wC,hU,qEu]
   walk_at "v"
   exact ⟨⟨_,rfl⟩,k⟩
  rintro i d ρ hx ⟨s3,rfl⟩
  have hin:i<r.reverse.length:=by
   have:=(wR.mp hx).1
   rwa [wC] at this
  rw [wQ,wA hin,<- nD (d:=0) hin] at hx
  cases hx
  refine qT rfl ?_
  walk_at "sv"
  refine OpV.l (Jp rfl rfl (.inr ⟨x0,x1⟩) ?_)
  walk_at "v"
  rw [qH9 hin]
  exact ⟨_,rfl⟩
theorem jX:qW ["row","k","found","at"] ["row","k"] (qG (top 32)):=by walk_at "sc"
theorem qBC (F:Fun K "_law_worth" "_law_worth" (top 32) f fd) (T:Txt mg):Qg P w K mg base CX0 1 f fd ["row","k"] (spV qIM):=by
 refine jr F jX [0,1] (fun as Φ h=>?_) (fun cdv A outer s H E hr=>?_)
 ·obtain ⟨r,k,rfl,_⟩:=h
  rfl
 ·have hu:=hr.units
  refine ⟨_,(qC (jw 2 jX qE)
   (qC (Ye xP rfl (jI (by rfl) T.n_range (qA (qK (qCz (K:=K) rfl) (by rfl) T.n_len vN (qA (pv 0) qB)) qB)) (qBG 3 jX)
   (qF (jw 2 jX (qa (qAj (K:=K) rfl) (qa opM (pv 2) (pv 1)) (QH (pv 0) (qa YV (qa YV (qK (qCz (K:=K) rfl) (by rfl) T.n_len vN (qA (pv 0) qB)) qE) (pv 3)))))))
   (qF (qj (pv 2))))),?_⟩
  rintro as Φ ⟨r,x,rfl,hl,⟨x0,x1⟩,k⟩
  let S0:Sl:=.d (.lst (qL r))
  let S1:Sl:=.d (.int x)
  walk_at "st"
  refine qv (fun ρ=>ρ=[S0,S1,.d (.int 0),.u]) ?_ ?_
  ·walk_at "v"
   rfl
  rintro ρ rfl
  refine qET (qCX (qHv ?_))
  walk_at "v"
  refine ⟨r.length,⟨_,rfl,by rw [wC]; rfl⟩,by omega,by omega,fun i ρ=>∃ s3:Sl,ρ=[S0,S1,.d (.int (evR r.reverse x i)),s3],⟨_,rfl⟩,?_,?_⟩
  rotate_left
  ·rintro ρ ⟨s3,rfl⟩
   rw [jF,yD,qEu]
   walk_at "v"
   exact ⟨⟨_,rfl⟩,k⟩
  rintro i d ρ hx ⟨s3,rfl⟩
  have hin:i<r.length:=by
   have:=(wR.mp hx).1
   rw [jF] at this
   omega
  rw [yD,Qc hin,kW] at hx
  cases hx
  refine qT rfl ?_
  walk_at "st"
  have hin':i<r.reverse.length:=by rw [hU]; exact hin
  have a1:atI (qL r) (((qL r).length:Int) - 1 - (i:Int))=some (.int (r.reverse.getD i 0)):=by
   rw [show ((qL r).length:Int) - 1 - (i:Int)=((r.length - 1 - i:Nat):Int) by rw [wC]; omega]
   refine QX ?_
   rw [wQ,nD hin',List.getElem_reverse,wA (by omega)]
   rfl
  walk_at "v"
  refine OpV.l (Jp rfl rfl (.inr ⟨x0,x1⟩) ?_)
  walk_at "v"
  rw [qH9 hin']
  exact ⟨_,rfl⟩
theorem JI {n:Nat} {ts:List Tie} {row:List Int} {k:Nat} (W:∀ t∈ts,okp n t) (nd:ts.Nodup) (ro:JK n ts row):(ev row (-(k:Int))).natAbs=QY n ts k:=by
 have h:=Yw k ts.length n ts (wH _) W nd row ro.1
 rcases qCC n with z | z
 ·rw [z,WB] at h
  omega
 ·rw [z,WJ,WB] at h
  omega
def qAX:PV:=fun as Φ=>∃(n:Nat) (ts:List Tie),as=[.d (Jo n ts)]/\n<=9/\ts.length<=20/\(∀ t∈ts,okp n t)/\ts.Nodup/\Φ (.d (.int (QY n ts 1:Nat))) as
theorem qAt:qW ["web"] ["web"] (qG (top 13)):=by walk_at "sc"
theorem qAx (F:Fun K "falls_many" "falls_many" (top 13) f fd) (T:Txt mg) (XAR:Has P w K mg base "row_at" (top 12) ["row","k"] 1 (spV qIG)) (XAP:Has P w K mg base "hue_row" (top 11) ["web"] 24 (spV qCT)):Qg P w K mg base CX0 25 f fd ["web"] (spV qAX):=by
 refine jr F qAt [0] (fun as Φ h=>?_) (fun cdv A outer s H E hr=>?_)
 ·obtain ⟨n,ts,rfl,_⟩:=h
  rfl
 ·have hu:=hr.units
  refine ⟨_,(qF (qj (qK qBB (by rfl) T.n_abs WA (qA (qp XAR hr (qA (qp XAP hr (qA (pv 0) qB)) (qA (qJx qEz qE) qB))) qB)))),?_⟩
  rintro as Φ ⟨n,ts,rfl,hn,hl,ok,nd,k⟩
  walk_at "sv"
  refine jP ?_
  walk_at "vc"
  refine ⟨n,ts,rfl,hn,hl,ok,nd,fun row ro=>⟨⟨_,rfl⟩,?_⟩⟩
  walk_at "sv"
  refine ⟨of_decide_eq_true rfl,?_⟩
  walk_at "st"
  have rl:=ro.1.1
  refine ⟨row,-1,rfl,by omega,⟨by decide,by decide⟩,⟨⟨_,rfl⟩,?_⟩⟩
  walk_at "sv"
  refine qGg rfl ?_
  have e:=JI (k:=1) ok nd ro
  rw [show (-((1:Nat):Int)) = -1 from rfl] at e
  rw [e]
  exact ⟨⟨_,rfl⟩,k⟩
def arr (t:Tie) (b:Int):Tie:=if b=1 then t else (t.2,t.1)
def jW:List Tie->List Int->List Tie
 | t::ts,b::bs=>arr t b::jW ts bs
 | _,_=>[]
theorem qDY:∀(ts:List Tie) (bs:List Int),jW ts bs=(ts.zip bs).map fun p=>arr p.1 p.2
 | [],_=>rfl
 | _::_,[]=>rfl
 | t::ts,b::bs=>by
  show arr t b::jW ts bs=_
  rw [qDY ts bs]
  rfl
def qNN (bs:List Int):Prop:=∀ b∈bs,b=0\/b=1
def qNO:PV:=fun as Φ=>∃(n:Nat) (ts:List Tie) (bs:List Int),as=[.d (Jo n ts),.d (.tup (qL bs))]/\ts.length<=20/\bs.length=ts.length/\qNN bs/\Φ (.l ((jW ts bs).map qb)) as
def qL4 (n:Nat) (ar:List Tie) (fo:List Int):Prop:=∀ x∈ar,x.2∈fo->(0<=x.1/\x.1<(n:Int))->∃ l r,fo=l++x.2::r/\x.1∈l
theorem Jb:∀{ts:List Tie} {bs:List Int},bs.length=ts.length->(wV ts.length).map (fun i:Nat=>arr (ts.getD i (0,0)) (bs.getD i 0))=jW ts bs
 | [],bs,_=>rfl
 | t::ts,[],h=>by cases h
 | t::ts,b::bs,h=>by
  have h':bs.length=ts.length:=by simpa using h
  rw [wZ,ZO,xH,zW]
  show arr t b::_=arr t b::jW ts bs
  rw [<- Jb h']
  rfl
theorem YU {ts:List Tie} {bs:List Int}:(jW ts bs).length<=ts.length:=by
 rw [qDY,wC,List.length_zip]
 omega
theorem qIf {r:Int->Int}:∀{l:List Int},l≠[]->∃ p∈l,∀ q∈l,r p<=r q
 | [],h=>absurd rfl h
 | [x],_=>⟨x,wD,fun q hq=>by rw [zG.mp hq]; exact Int.le_refl _⟩
 | x::y::l,_=>by
  obtain ⟨p,hp,hm⟩:=qIf (r:=r) (l:=y::l) (fun z=>by cases z)
  by_cases h:r x<=r p
  ·refine ⟨x,wD,fun q hq=>?_⟩
   rcases wW.mp hq with z | z
   ·rw [z]; exact Int.le_refl _
   ·have:=hm q z
    omega
  ·refine ⟨p,wJ _ hp,fun q hq=>?_⟩
   rcases wW.mp hq with z | z
   ·rw [z]; omega
   ·exact hm q z
def JL (ar:List Tie) (lf:List Int):List Int:=(ar.filter fun x=>decide (x.1∈lf)).map fun x=>x.2
def qi (ar:List Tie) (lf:List Int):List Int:=lf.filter fun p=>!decide (p∈JL ar lf)
def restOf (ar:List Tie) (lf:List Int):List Int:=lf.filter fun p=>!decide (p∈qi ar lf)
theorem qDK {ar:List Tie} {lf:List Int} {p:Int}:p∈JL ar lf↔∃ x∈ar,x.1∈lf/\x.2=p:=by
 unfold JL
 rw [zF]
 constructor
 ·rintro ⟨x,hx,rfl⟩
  obtain ⟨h1,h2⟩:=zJ.mp hx
  exact ⟨x,h1,ofd h2,rfl⟩
 ·rintro ⟨x,h1,h2,rfl⟩
  exact ⟨x,zJ.mpr ⟨h1,decide_eq_true h2⟩,rfl⟩
theorem Yn {ar:List Tie} {lf:List Int} {p:Int}:p∈qi ar lf↔p∈lf/\p∉JL ar lf:=by
 unfold qi
 rw [zJ,xK,decide_eq_false_iff_not]
def qIB (ar:List Tie):Prop:=∃ r:Int->Nat,∀ x∈ar,r x.1<r x.2
theorem qEM {ar:List Tie} {lf:List Int} (A:qIB ar) (h:lf≠[]):qi ar lf≠[]:=by
 obtain ⟨r',hr'⟩:=A
 let r:Int->Int:=fun x=>(r' x:Int)
 have hr:∀ x∈ar,r x.1<r x.2:=fun x hx=>by
  have:=hr' x hx
  show ((r' x.1:Nat):Int)<(r' x.2:Nat)
  omega
 obtain ⟨p,hp,hm⟩:=qIf (r:=r) h
 have:p∈qi ar lf:=Yn.mpr ⟨hp,fun z=>by
  obtain ⟨x,h1,h2,h3⟩:=qDK.mp z
  have a1:=hr x h1
  have a2:=hm x.1 h2
  rw [h3] at a1
  omega⟩
 exact List.ne_nil_of_mem this
theorem Yf {q:Int->Bool}:∀ l:List Int,(l.filter q++l.filter fun p=>!q p).Perm l
 | []=>fJ _
 | x::l=>by
  rw [yZ,yZ]
  by_cases h:q x=true
  ·rw [if_pos h,if_neg (by rw [h]; decide)]
   exact (Yf l).cons x
  ·rw [if_neg h,if_pos (by rw [VL.mpr h]; rfl)]
   exact UC.trans ((Yf l).cons x)
theorem qGW (ar:List Tie) (lf:List Int):(qi ar lf++restOf ar lf).Perm lf:=by
 have e:restOf ar lf=lf.filter fun p=>!(!decide (p∈JL ar lf)):=by
  unfold restOf
  refine List.filter_congr fun p hp=>?_
  congr 1
  rw [vU,decide_eq_true_iff,xK,decide_eq_false_iff_not,Yn]
  exact ⟨fun h=>h.2,fun h=>⟨hp,h⟩⟩
 rw [e]
 exact Yf lf
theorem qBu {n:Nat} {ar:List Tie} {fo lf:List Int} (pm:(fo++lf).Perm (places n)) (T:qL4 n ar fo):qL4 n ar (fo++qi ar lf):=by
 intro x hx h2 h1
 rcases zR.mp h2 with z | z
 ·obtain ⟨l,r,e,hl⟩:=T x hx z h1
  exact ⟨l,r++qi ar lf,by rw [e]; simp,hl⟩
 ·obtain ⟨l,r,e⟩:=List.append_of_mem z
  refine ⟨fo++l,r,by rw [e]; simp,vL _ ?_⟩
  have hm:=(Yn.mp z).2
  have:x.1∈fo++lf:=pm.mem_iff.mpr (qc.mpr h1)
  rcases zR.mp this with y | y
  ·exact y
  ·exact absurd (qDK.mpr ⟨x,hx,y,rfl⟩) hm
theorem qEN (n:Nat):(places n).Nodup:=by
 unfold places
 rw [wY,yB]
 exact (wY.mp xT).imp fun {a b} h z=>h (by omega)
theorem qHw {n:Nat} {ar:List Tie} {fo:List Int} (inn:∀ x∈ar,x.1∈places n/\x.2∈places n) (pm:fo.Perm (places n)) (T:qL4 n ar fo):qIB ar:=by
 refine ⟨fun x=>fo.idxOf x,fun x hx=>?_⟩
 obtain ⟨i1,i2⟩:=inn x hx
 obtain ⟨l,r,e,hl⟩:=T x hx (pm.mem_iff.mpr i2) (qc.mp i1)
 have nd:fo.Nodup:=pm.nodup_iff.mpr (qEN n)
 rw [e] at nd
 have n2:x.2∉l:=fun z=>(uT.mp nd).2.2 _ z _ wD rfl
 show fo.idxOf x.1<fo.idxOf x.2
 rw [e,List.idxOf_append,List.idxOf_append,if_pos hl,if_neg n2]
 have:=UQ hl
 omega
def qKS:PV:=fun as Φ=>∃(n:Nat) (ar:List Tie),as=[.d (.int n),.l (ar.map qb)]/\n<=9/\ar.length<=20/\(∀ x∈ar,x.1∈places n/\x.2∈places n)/\(qIB ar->∀ fo,Φ (.d (.lst (qL fo))) as)/\(¬ qIB ar->Φ (.d .non) as)
def zi (c:List Nat):List Int:=c.map fun v:Nat=>(v:Int)
def qDl (c:List Nat):D:=qBF (zi c)
theorem qAW (c:List Nat):(zi c).length=c.length:=by unfold zi; rw [wC]
theorem qJR (c:List Nat) (i:Nat):(zi c).getD i 0=((c.getD i 0:Nat):Int):=by
 unfold zi
 rw [wF,wQ,wF]
 cases c[i]? <;> rfl
theorem qIv {m:Nat} {c:List Nat} (hc:c∈allR 2 m):qNN (zi c):=fun b hb=>by
 obtain ⟨v,hv,rfl⟩:=zF.mp hb
 have:=(qM.mp hc).2 v hv
 omega
theorem qEj (c:List Nat) (v:Nat):zi (c++[v])=zi c++[(v:Int)]:=by
 unfold zi
 rw [yI]
 rfl
theorem J8 {ts:List Tie} {c:List Nat} (nd:ts.Nodup) (hc:c∈allR 2 ts.length) (x y:Int):(x,y)∈jW ts (zi c)↔Arr ts c x y:=by
 have lc:=(qM.mp hc).1
 have key:∀ i (h:i<ts.length),qEO ts c ts[i]=c.getD i 0:=fun i h=>by
  unfold qEO
  rw [qMb ts i h nd]
 rw [<- Jb (by rw [qAW,lc]),zF]
 constructor
 ·rintro ⟨i,hi,e⟩
  have hi:=zO.mp hi
  rw [qJR,nD hi,<- key i hi] at e
  have m:=yY hi
  rcases qFS hc ts[i] with z | z
  ·rw [z] at e
   have e2:(ts[i].2,ts[i].1)=(x,y):=e
   obtain ⟨e3,e4⟩:=uU e2
   refine .inr ⟨?_,?_⟩
   ·rw [<- e3,<- e4]; exact m
   ·rw [<- e3,<- e4]; exact z
  ·rw [z] at e
   have e2:ts[i]=(x,y):=e
   exact .inl ⟨e2 ▸ m,e2 ▸ z⟩
 ·rintro (⟨h,z⟩ | ⟨h,z⟩)
  ·obtain ⟨i,hi,e⟩:=uW h
   refine ⟨i,zO.mpr hi,?_⟩
   rw [qJR,nD hi,<- key i hi,e,z]
   rfl
  ·obtain ⟨i,hi,e⟩:=uW h
   refine ⟨i,zO.mpr hi,?_⟩
   rw [qJR,nD hi,<- key i hi,e,z]
   rfl
theorem qAA {ts:List Tie} {c:List Nat} (nd:ts.Nodup) (hc:c∈allR 2 ts.length):qIB (jW ts (zi c))↔UpA (Arr ts c):=
 ⟨fun ⟨r,h⟩=>⟨r,fun x y z=>h (x,y) ((J8 nd hc x y).mpr z)⟩,fun ⟨r,h⟩=>⟨r,fun x hx=>h x.1 x.2 ((J8 nd hc x.1 x.2).mp hx)⟩⟩
noncomputable def upB (ts:List Tie) (c:List Nat):Bool:=@decide (UpA (Arr ts c)) (yT _)
theorem QZ {ts:List Tie} {c:List Nat}:upB ts c=true↔UpA (Arr ts c):=by
 unfold upB
 exact @decide_eq_true_iff _ (yT _)
def fl (m i:Nat):List Nat:=(wV m).map fun k=>i / 2 ^ k % 2
theorem qJu (m i:Nat):fl m i∈allR 2 m:=qM.mpr ⟨by unfold fl; rw [wC,zT],fun v hv=>by
 obtain ⟨k,_,rfl⟩:=zF.mp hv
 omega⟩
theorem qGJ (m i:Nat):fl (m+1) i=(i % 2)::fl m (i / 2):=by
 unfold fl
 rw [ZO,xH,zW,Nat.pow_zero,Nat.div_one]
 refine congrArg _ (uX fun k _=>?_)
 show i / 2 ^ (k+1) % 2=i / 2 / 2 ^ k % 2
 rw [gJ,Nat.mul_comm,ZU]
theorem qIi:∀(m i j:Nat),i<2 ^ m->j<2 ^ m->fl m i=fl m j->i=j
 | 0,i,j,hi,hj,_=>by
  rw [Nat.pow_zero] at hi hj
  omega
 | m+1,i,j,hi,hj,e=>by
  rw [qGJ,qGJ] at e
  rw [gJ] at hi hj
  have e1:=(vZ e).1
  have:=qIi m (i / 2) (j / 2) (by omega) (by omega) (vZ e).2
  omega
theorem qJs (m:Nat):((wV (2 ^ m)).map (fl m)).Perm (allR 2 m):=by
 have nd:((wV (2 ^ m)).map (fl m)).Nodup:=by
  rw [wY,yB]
  refine hZ (R:=fun a b=>a≠b) (fun {x y} hx hy ne z=>ne ?_) (wY.mp xT)
  exact qIi m x y (zO.mp hx) (zO.mp hy) z
 have sub:(wV (2 ^ m)).map (fl m) ⊆ allR 2 m:=fun c hc=>by
  obtain ⟨i,_,rfl⟩:=zF.mp hc
  exact qJu m i
 refine (TN nd (Yu 2 m)).mpr fun c=>⟨fun h=>sub h,fun h=>?_⟩
 exact zY fun no=>by
  have l1:=vK (zX.mpr ⟨no,nd⟩) (l₂:=allR 2 m) fun x hx=>by
   rcases wW.mp hx with z | z
   ·rw [z]; exact h
   ·exact sub z
  rw [jY,wZ,wC,zT] at l1
  omega
noncomputable def jj (ts:List Tie):List (List Nat):=(allR 2 ts.length).filter (upB ts)
theorem qJ1 (i k:Nat):UU ((i:Int) / 2 ^ ((k:Nat):Int).toNat) 1=((i / 2 ^ k % 2:Nat):Int):=by
 have e:(i:Int) / 2 ^ ((k:Nat):Int).toNat=((i / 2 ^ k:Nat):Int):=by
  rw [yD,Int.natCast_ediv,UO]
  rfl
 rw [e]
 unfold UU
 rw [decide_eq_true (WS _),decide_eq_true (show (0:Int)<=1 by decide)]
 show (((((i / 2 ^ k:Nat):Int).toNat &&& (1:Int).toNat:Nat)):Int)=_
 rw [yD,show (1:Int).toNat=1 from rfl,Nat.and_one_is_mod]
theorem qNS (k:Nat):∀ n,(allR k n).Pairwise fun c d=>HT.lexLt (zi c) (zi d)=true
 | 0=>ZI _ _
 | n+1=>by
  show ((wV k).flatMap fun v=>(allR k n).map fun c=>v::c).Pairwise _
  rw [List.pairwise_flatMap]
  refine ⟨fun v _=>?_,List.pairwise_lt_range.imp fun {u v} uv c hc d hd=>?_⟩
  ·rw [yB]
   refine (qNS k n).imp fun {c d} h=>?_
   show HT.lexLt ((v:Int)::zi c) ((v:Int)::zi d)=true
   rw [HT.lexLt_cons,if_pos rfl]
   exact h
  ·obtain ⟨c',_,rfl⟩:=zF.mp hc
   obtain ⟨d',_,rfl⟩:=zF.mp hd
   show HT.lexLt ((u:Int)::zi c') ((v:Int)::zi d')=true
   rw [HT.lexLt_cons,if_neg (by omega)]
   exact (decide_eq_true (by omega))
theorem qHD {a b:List Int} (h:HT.lexLt a b=true):HT.lexLt b a=false:=by
 cases z:HT.lexLt b a with
 | false=>rfl
 | true=>
  have:=LSo.lex_trans a b a h z
  rw [LSo.qA3] at this
  cases this
theorem qBd {ts:List Tie} {nss:List (List Int)} (p:nss.Perm ((jj ts).map zi)) (o:nss.Pairwise fun a b=>HT.lexLt b a=false):nss=(jj ts).map zi:=by
 refine List.Perm.eq_of_pairwise (le:=fun a b=>HT.lexLt b a=false) (fun a b _ _ h1 h2=>LSo.qAe a b h2 h1) o ?_ p
 rw [yB]
 exact ((qNS 2 ts.length).filter _).imp fun {a b} h=>qHD h
def qGO:PV:=fun as Φ=>∃(n:Nat) (ts:List Tie),as=[.d (Jo n ts)]/\n<=9/\ts.length<=9/\(∀ t∈ts,okp n t)/\ts.Nodup/\Φ (.l ((jj ts).map qDl)) as
theorem Y4:qW ["web","pointing"] ["web","pointing"] (qG (top 29)):=by walk_at "sc"
theorem Y6 (F:Fun K "_law_arrows" "_law_arrows" (top 29) f fd) (T:Txt mg):Qg P w K mg base CX0 1 f fd ["web","pointing"] (spV qNO):=by
 refine jr F Y4 [0,1] (fun as Φ h=>?_) (fun cdv A outer s H E hr=>?_)
 ·obtain ⟨n,ts,bs,rfl,_⟩:=h
  rfl
 ·have hu:=hr.units
  refine ⟨_,(qF (qj (qw rfl (own:=["k"]) (fr:=[("web",0),("pointing",1)]) (by walk_at "cs") (jI (by rfl) T.n_range (qA (qK (qCz (K:=K) rfl) (by rfl) T.n_len vN (qA (QH (pv 0) qE) qB)) qB)) (fun cl C s0 H0 fp=>⟨(Qx 0),QC,(jS (qA (QH (QH (QH (pv 1) qE) (pv 0)) (qa YV qE (QH (pv 2) (pv 0)))) (qA (QH (QH (QH (pv 1) qE) (pv 0)) (QH (pv 2) (pv 0))) qB)))⟩)))),?_⟩
  rintro as Φ ⟨n,ts,bs,rfl,hts,hbl,B,k⟩
  walk_at "sv"
  refine QE (fun i:Nat=>D.int (0+(i:Int))) (wV ts.length) (fun _=>true) (fun i=>qb (arr (ts.getD i (0,0)) (bs.getD i 0))) (qHv ?_)
  walk_at "v"
  refine ⟨_,⟨_,rfl,rfl⟩,by rw [wC]; omega,by rw [wC]; omega,?_,qN (by rw [zT]; omega),qZ rfl,of_decide_eq_true rfl,?_,?_⟩
  ·rw [wC,yD]
   rfl
  ·rintro i hi os hos
   obtain ⟨z0,rfl⟩:=qGn hos
   have hi':i<_:=zO.mp hi
   have hib:i<bs.length:=by omega
   have hat:atI (ts.map qb) (i:Int)=some (qb ts[i]):=QX (by rw [wQ,wA hi']; rfl)
   have hab:atI (qL bs) (i:Int)=some (.int bs[i]):=QX (by rw [wQ,wA hib]; rfl)
   have e1:ts.getD i (0,0)=ts[i]:=by rw [wF,wA hi']; rfl
   have e2:bs.getD i 0=bs[i]:=by rw [wF,wA hib]; rfl
   have hb:=B bs[i] (yY hib)
   rw [e1,e2,kW]
   generalize ts[i]=t at hat
   generalize bs[i]=b at hab hb
   obtain ⟨t1,t2⟩:=t
   rcases hb with rfl | rfl
   ·walk_at "v"
    refine ⟨⟨[_],rfl,rfl⟩,QG ⟨rfl,rfl⟩,fun _=>?_⟩
    walk_at "v"
    exact ⟨rfl,rfl⟩
   ·walk_at "v"
    refine ⟨⟨[_],rfl,rfl⟩,QG ⟨rfl,rfl⟩,fun _=>?_⟩
    walk_at "v"
    exact ⟨rfl,rfl⟩
  ·refine ⟨⟨_,rfl⟩,?_⟩
   have e:((wV ts.length).filter fun _=>true).map (fun i:Nat=>qb (arr (ts.getD i (0,0)) (bs.getD i 0)))=(jW ts bs).map qb:=by
    rw [qu,<- Jb hbl,zW]
    rfl
   rw [e]
   exact k
theorem qm:qW ["many","leads","left","found","going","ends","ready"] ["many","leads"] (qG (top 30)):=by walk_at "sc"
theorem qCd (F:Fun K "_law_led" "_law_led" (top 30) f fd) (T:Txt mg):Qg P w K mg base CX0 1 f fd ["many","leads"] (spV qKS):=by
 refine jr F qm [0,1] (fun as Φ h=>?_) (fun cdv A outer s H E hr=>?_)
 ·obtain ⟨n,ar,rfl,_⟩:=h
  rfl
 ·have hu:=hr.units
  refine ⟨_,(qC (jw 2 qm (qe (Jg rfl) (by rfl) T.n_list PyProof.Rows.boot_list (qA (qe Yx (by rfl) T.n_range SL (qA (pv 0) qB)) qB)))
   (qC (jw 3 qm (qy qB))
   (qC (jw 4 qm qD5)
   (qC (qAi xP (Q2 (K:=K) rfl (pv 4) (fun _=>rfl))
   (qC (jw 5 qm (qw rfl (own:=["a","b"]) (fr:=[("left",2)]) (by walk_at "cs") (qt (K:=K) rfl (pv 1)) (fun cl C s0 H0 fp=>⟨(jG (K:=K) (n:=2) rfl rfl (qO (Qx 0) (qO (Qx 1) jD))),Qp (qS (qNG hu) (pv 0) (pv 2) (by with_unfolding_all rfl)),(pv 1)⟩)))
    (qC (jw 6 qm (qw rfl (own:=["place"]) (fr:=[("ends",5)]) (by walk_at "cs") (qt (K:=K) rfl (pv 2)) (fun cl C s0 H0 fp=>⟨(Qx 0),Qp (qS (YT hu) (pv 0) (pv 1) (by with_unfolding_all rfl)),(pv 0)⟩)))
    (qC (jw 4 qm (Qu (qEt hu) (pv 6) (qy qB) (qg _)))
    (qC (jw 3 qm (qa (qAj (K:=K) rfl) (pv 3) (pv 6)))
    (qF (jw 2 qm (qw rfl (own:=["place"]) (fr:=[("ready",6)]) (by walk_at "cs") (qt (K:=K) rfl (pv 2)) (fun cl C s0 H0 fp=>⟨(Qx 0),Qp (qS (YT hu) (pv 0) (pv 1) (by with_unfolding_all rfl)),(pv 0)⟩)))))))))
   (qF (qj (QH (qy (qA (pv 3) (qA qIP qB))) (qe QN (by rfl) T.n_int kJ (qA (Qu (qEt hu) (pv 2) (qy qB) (qg _)) qB))))))))),?_⟩
  rintro as Φ ⟨n,ar,rfl,hn,har,inn,k1,k2⟩
  walk_at "sv"
  refine ⟨n,⟨_,rfl,rfl⟩,by omega,by omega,?_⟩
  rw [yD]
  have e0:((wV n).map fun k:Nat=>D.int (k:Int))=qL (places n):=by
   unfold qL places
   rw [zW]
   rfl
  rw [e0]
  refine qT rfl ?_
  walk_at "sv"
  walk_at "st"
  refine qCG (fun m ρ=>∃(lf fo:List Int) (g:Bool) (s5 s6:Sl),ρ=[.d (.int n),.l (ar.map qb),.l (qL lf),.l (qL fo),.d (.bl g),s5,s6]/\(fo++lf).Perm (places n)/\qL4 n ar fo/\lf.length+(if g=true then 1 else 0)=m/\(g=false->qi ar lf=[])) (n+1) ⟨places n,[],true,_,_,rfl,fJ _,fun x _ h=>(by cases h),by rw [places_len]; rfl,fun h=>(by cases h)⟩ ?_
  rintro m ρ ⟨lf,fo,g,s5,s6,rfl,pm,tp,hm,hg⟩
  have pl:=pm.length_eq
  rw [places_len,wO] at pl
  walk_at "v"
  cases g with
  | false=>
   rw [if_neg wU]
   have hg:=hg rfl
   refine Qd (i:=3) (xs:=qL fo) rfl ?_
   walk_at "sv"
   cases lf with
   | nil=>
    rw [zK] at pm
    refine qB7 (i:=0) rfl rfl rfl ?_
    exact ⟨⟨_,rfl⟩,k1 (qHw inn pm tp) fo⟩
   | cons p lf=>
    refine qB7 (i:=1) rfl rfl rfl ?_
    exact ⟨⟨_,rfl⟩,k2 fun A=>qEM A (fun z=>by cases z) hg⟩
  | true=>
   rw [if_pos rfl]
   walk_at "v"
   refine qAk qb ar (fun x=>decide (x.1∈lf)) (fun x=>D.int x.2) rfl rfl (qN (by omega)) (qZ rfl) (of_decide_eq_true rfl) ?_ ?_
   ·rintro ⟨a,b⟩ _ os hos
    obtain ⟨z0,z1,rfl⟩:=qIW hos
    walk_at "v"
    refine ⟨⟨[_,_],rfl,rfl⟩,?_,fun _=>?_⟩
    ·walk_at "v"
     exact ⟨rfl,rfl⟩
    ·walk_at "v"
     exact ⟨rfl,rfl⟩
   have e1:(ar.filter fun x=>decide (x.1∈lf)).map (fun x:Tie=>D.int x.2)=qL (JL ar lf):=by
    unfold qL JL
    rw [zW]
    rfl
   rw [e1]
   refine qT rfl ?_
   walk_at "sv"
   refine qAk D.int lf (fun p=>!decide (p∈JL ar lf)) D.int rfl rfl (qN (by omega)) (qZ rfl) (of_decide_eq_true rfl) ?_ ?_
   ·rintro p _ os hos
    obtain ⟨z0,rfl⟩:=qGn hos
    walk_at "v"
    refine ⟨⟨[_],rfl,rfl⟩,?_,fun _=>?_⟩
    ·walk_at "v"
     exact ⟨rfl,rfl⟩
    ·walk_at "v"
     exact ⟨rfl,rfl⟩
   have e2:(lf.filter fun p=>!decide (p∈JL ar lf)).map D.int=qL (qi ar lf):=rfl
   rw [e2]
   have hp2:=qGW ar lf
   have hl2:=hp2.length_eq
   rw [wO] at hl2
   refine qT rfl ?_
   walk_at "sv"
   walk_at "st"
   refine OpV.r (OpV.l (YY rfl rfl (sz2 (by rw [wC,wC]; omega)) ?_))
   have e3:qL fo++qL (qi ar lf)=qL (fo++qi ar lf):=by
    unfold qL
    rw [yI]
   rw [e3]
   refine qT rfl ?_
   walk_at "sv"
   refine qAk D.int lf (fun p=>!decide (p∈qi ar lf)) D.int rfl rfl (qN (by omega)) (qZ rfl) (of_decide_eq_true rfl) ?_ ?_
   ·rintro p _ os hos
    obtain ⟨z0,rfl⟩:=qGn hos
    walk_at "v"
    refine ⟨⟨[_],rfl,rfl⟩,?_,fun _=>?_⟩
    ·walk_at "v"
     exact ⟨rfl,rfl⟩
    ·walk_at "v"
     exact ⟨rfl,rfl⟩
   have e4:(lf.filter fun p=>!decide (p∈qi ar lf)).map D.int=qL (restOf ar lf):=rfl
   rw [e4]
   refine qT rfl ?_
   walk_at "st"
   have hm':lf.length+1=m:=hm
   have np:(fo++qi ar lf++restOf ar lf).Perm (places n):=by
    rw [yG]
    exact (ZZ fo hp2).trans pm
   by_cases hz:qi ar lf=[]
   ·have hr0:restOf ar lf=lf:=by
     unfold restOf
     rw [hz]
     exact uF.mpr fun _ _=>rfl
    refine ⟨lf.length,by omega,restOf ar lf,fo++qi ar lf,!(qL (qi ar lf)).isEmpty,_,_,rfl,np,qBu pm tp,?_,fun _=>by rw [hr0]; exact hz⟩
    rw [hr0,hz]
    rfl
   ·have hb:(!(qL (qi ar lf)).isEmpty)=true:=by
     cases h:qi ar lf with
     | nil=>exact absurd h hz
     | cons _ _=>rfl
    have hpos:0<(qi ar lf).length:=List.length_pos_iff.mpr hz
    refine ⟨(restOf ar lf).length+1,by omega,restOf ar lf,fo++qi ar lf,!(qL (qi ar lf)).isEmpty,_,_,rfl,np,qBu pm tp,?_,fun h=>?_⟩
    ·rw [hb]
     rfl
    ·rw [hb] at h
     cases h
theorem jV:qW ["web","found","bits","pointing"] ["web"] (qG (top 31)):=by walk_at "sc"
theorem qAb (F:Fun K "_law_falls" "_law_falls" (top 31) f fd) (T:Txt mg) (XAM:Has P w K mg base "_law_led" (top 30) ["many","leads"] 1 (spV qKS)) (XAC:Has P w K mg base "_law_arrows" (top 29) ["web","pointing"] 1 (spV qNO)):Qg P w K mg base CX0 2 f fd ["web"] (spV qGO):=by
 refine jr F jV [0] (fun as Φ h=>?_) (fun cdv A outer s H E hr=>?_)
 ·obtain ⟨n,ts,rfl,_⟩:=h
  rfl
 ·have hu:=hr.units
  refine ⟨_,(qC (jw 1 jV (qy qB))
   (qC (Ye xP rfl (jI (by rfl) T.n_range (qA (qa qKa qE (qK (qCz (K:=K) rfl) (by rfl) T.n_len vN (qA (QH (pv 0) qE) qB))) qB)) (qBG 2 jV)
   (qC (jw 3 jV (qe (YK (K:=K) rfl) (by rfl) T.n_tuple xG (qA (qw rfl (own:=["k"]) (fr:=[("bits",2)]) (by walk_at "cs") (jI (by rfl) T.n_range (qA (qK (qCz (K:=K) rfl) (by rfl) T.n_len vN (qA (QH (pv 0) qE) qB)) qB)) (fun cl C s0 H0 fp=>⟨(Qx 0),QC,(qa qLl (qa qLG (pv 1) (pv 0)) qE)⟩)) qB)))
    (qF (Qr (qS qJL (qp XAM hr (qA (QH (pv 0) qE) (qA (qp XAC hr (qA (pv 0) (qA (pv 3) qB))) qB))) qIP (qg _))
    (qF (qB8 (qDE (K:=K) rfl gH PySem.F.slot_list_append PySem.F.type_list_append Yj (pv 1) (qA (pv 3) qB))))
    jA))))
   (qF (qj (qK (QW hu) (by rfl) T.n_sorted ZC (qA (pv 1) qB)))))),?_⟩
  rintro as Φ ⟨n,ts,rfl,n9,l6,W,nd,k⟩
  let S0:Sl:=.d (Jo n ts)
  let pre:Nat->List (List Nat):=fun i=>((wV i).map (fl ts.length)).filter (upB ts)
  walk_at "st"
  refine qv (fun ρ=>ρ=[S0,.l [],.u,.u]) ?_ ?_
  ·walk_at "v"
   rfl
  rintro ρ rfl
  refine qv (fun ρ=>Le ρ [S0,.l ((pre (2 ^ ts.length)).map qDl),.u,.u]) ?_ ?_
  rotate_left
  ·intro ρ hle
   refine qMm hle ?_
   walk_at "v"
   have pp:(pre (2 ^ ts.length)).Perm (jj ts):=(qJs ts.length).filter (upB ts)
   refine Yi (nss:=(pre (2 ^ ts.length)).map zi) (.inr ?_) (fun h ns hns=>?_) ?_ (fun nss' pm po=>?_)
   ·show some (D.lst ((pre (2 ^ ts.length)).map qDl))=_
    rw [zW]
    rfl
   ·obtain ⟨c,hc,rfl⟩:=zF.mp hns
    obtain ⟨i,_,rfl⟩:=zF.mp (zJ.mp hc).1
    rintro z
    have z:=congrArg WC z
    rw [qAW,(qM.mp (qJu _ i)).1] at z
    rw [wC,pp.length_eq] at h
    have le:(jj ts).length<=2 ^ ts.length:=by
     rw [<- jY]
     exact yU _ _
    rw [show ts.length=0 from z] at le
    have:=zM h le
    exact absurd this (by decide)
   ·rw [wC,pp.length_eq]
    have le:(jj ts).length<=2 ^ ts.length:=by
     rw [<- jY]
     exact yU _ _
    exact vR (qN (zM le (zM (xX (by decide) l6) (by decide))))
   ·rw [qBd (pm.trans (pp.map zi)) po,zW]
    exact ⟨⟨_,rfl⟩,k⟩
  refine qCX (qHv ?_)
  walk_at "v"
  refine Jp rfl rfl ⟨by omega,by rw [wC]; omega,by decide⟩ ?_
  have em:(1:Int)*2 ^ (((ts.map qb).length:Nat):Int).toNat=((2 ^ ts.length:Nat):Int):=by
   rw [yD,wC,WI,UO]
   rfl
  rw [em]
  walk_at "v"
  have hp:2 ^ ts.length<=2 ^ 9:=xX (by decide) l6
  have hpI:((2 ^ ts.length:Nat):Int)<=512:=Int.ofNat_le.mpr hp
  refine ⟨_,⟨_,rfl,rfl⟩,Int.le_trans (by decide) (WS _),Int.lt_of_le_of_lt hpI (by decide),fun i ρ=>Le ρ [S0,.l ((pre i).map qDl),.u,.u],⟨rfl,rfl,trivial⟩,?_,?_⟩
  rotate_left
  ·intro ρ hle
   rw [jF,yD] at hle
   exact hle
  intro i x ρ hx hle
  have hin:i<2 ^ ts.length:=by
   have:=(wR.mp hx).1
   rw [jF,yD] at this
   exact this
  rw [yD,Qc hin,kW] at hx
  cases hx
  refine qHR hle ?_
  refine qT rfl ?_
  walk_at "st"
  refine qv (fun ρ=>ρ=[S0,.l ((pre i).map qDl),.d (.int (i:Int)),.d (qDl (fl ts.length i))]) ?_ ?_
  ·walk_at "v"
   refine QE (fun k:Nat=>D.int (0+(k:Int))) (wV ts.length) (fun _=>true) (fun k=>D.int ((i / 2 ^ k % 2:Nat):Int)) (qHv ?_)
   walk_at "v"
   refine ⟨_,⟨_,rfl,rfl⟩,by rw [wC]; omega,by rw [wC]; omega,?_,qN (by rw [zT]; omega),qZ rfl,of_decide_eq_true rfl,?_,?_⟩
   ·rw [wC,yD]
    rfl
   ·intro k hk os hos
    obtain ⟨z0,rfl⟩:=qGn hos
    rw [kW]
    walk_at "v"
    refine ⟨⟨[_],rfl,rfl⟩,QG ⟨rfl,rfl⟩,fun _=>?_⟩
    walk_at "v"
    refine Jp rfl rfl (by omega) ?_
    walk_at "v"
    rw [qJ1]
    exact ⟨rfl,rfl⟩
   ·rw [qu]
    have e:(wV ts.length).map (fun k:Nat=>D.int ((i / 2 ^ k % 2:Nat):Int))=qL (zi (fl ts.length i)):=by
     unfold qL zi fl
     simp only [zW]
     rfl
    rw [e]
    walk_at "v"
    rfl
  rintro ρ rfl
  have hc:=qJu ts.length i
  have lc:(zi (fl ts.length i)).length=ts.length:=by rw [qAW,(qM.mp hc).1]
  have pl:(pre i).length<=512:=by
   refine zM (yU _ _) ?_
   rw [wC,zT]
   exact zM (vR hin) hp
  have nx:pre (i+1)=pre i++(if upB ts (fl ts.length i)=true then [fl ts.length i] else []):=by
   show ((wV (i+1)).map (fl ts.length)).filter (upB ts)=_
   rw [List.range_succ,yI,fL]
   congr 1
   show [fl ts.length i].filter (upB ts)=_
   rw [yZ]
   rfl
  refine qHt ?_
  walk_at "v"
  refine jP ?_
  walk_at "vc"
  refine ⟨n,ts,zi (fl ts.length i),rfl,by omega,lc,qIv hc,⟨⟨_,rfl⟩,?_⟩⟩
  walk_at "sv"
  refine ⟨of_decide_eq_true rfl,?_⟩
  walk_at "st"
  refine ⟨n,jW ts (zi (fl ts.length i)),rfl,by omega,zM YU (by omega),fun x hx=>qEw W (Q1 ((J8 nd hc x.1 x.2).mp hx)),fun A fo=>⟨⟨_,rfl⟩,?_⟩,fun A=>⟨⟨_,rfl⟩,?_⟩⟩
  ·walk_at "st"
   walk_at "v"
   refine (if_pos rfl).mpr ?_
   walk_at "v"
   refine qHX (xs:=(pre i).map qDl) (d:=qDl (fl ts.length i)) rfl rfl (qN (by rw [wC]; omega)) ?_
   walk_at "sv"
   rw [nx,if_pos (QZ.mpr ((qAA nd hc).mp A)),yI]
   exact ⟨rfl,rfl,trivial⟩
  ·walk_at "st"
   walk_at "v"
   refine ite_no ?_
   refine jR ?_
   rw [nx,if_neg fun z=>A ((qAA nd hc).mpr (QZ.mp z)),zK]
   exact ⟨rfl,rfl,trivial⟩
inductive Path (ar:List Tie) (a:Int):Int->Prop
 | refl:Path ar a a
 | snoc {b c:Int}:Path ar a b->(b,c)∈ar->Path ar a c
noncomputable def qBV (ar:List Tie) (a b:Int):Bool:=@decide (Path ar a b) (yT _)
theorem qAB {ar:List Tie} {a b:Int}:qBV ar a b=true↔Path ar a b:=by
 unfold qBV
 exact @decide_eq_true_iff _ (yT _)
def qIS:PV:=fun as Φ=>∃(ar:List Tie) (a b:Int),as=[.d (.lst (ar.map qb)),.d (.int a),.d (.int b)]/\ar.length<=20/\ar.Nodup/\Φ (.d (.bl (qBV ar a b))) as
theorem qEp {ar:List Tie} {u:Int} (nd:ar.Nodup) (p:Tie->Bool) (h:∀ x,p x=true->x.1=u):((ar.filter p).map fun x=>x.2).Nodup:=by
 have:∀{l:List Tie},l.Nodup->(∀ x∈l,x.1=u)->(l.map fun x=>x.2).Nodup:=by
  intro l
  induction l with
  | nil=>intro _ _; exact vI
  | cons x l ih=>
   intro nd hu
   rw [zX] at nd
   show (x.2::l.map fun y=>y.2).Nodup
   rw [zX]
   refine ⟨fun hm=>?_,ih nd.2 fun y hy=>hu y (wJ _ hy)⟩
   obtain ⟨y,hy,e⟩:=zF.mp hm
   have:y=x:=hV (by rw [hu y (wJ _ hy),hu x wD]) e
   exact nd.1 (this ▸ hy)
 exact this (kE (List.filter_sublist) nd) fun x hx=>h x (zJ.mp hx).2
theorem qKo {t:Tie} {b:Int} (h:t.1<t.2):mk (arr t b).1 (arr t b).2=t:=by
 unfold arr mk
 by_cases e:b=1
 ·rw [if_pos e,if_neg (by omega),if_pos (by omega)]
 ·rw [if_neg e]
  show (if t.1<t.2 then t.1 else t.2,if t.1 > t.2 then t.1 else t.2)=t
  rw [if_pos h,if_neg (by omega)]
theorem qFD:∀{ts:List Tie} {bs:List Int},bs.length=ts.length->(∀ t∈ts,t.1<t.2)->(jW ts bs).map (fun x=>mk x.1 x.2)=ts
 | [],bs,_,_=>by cases bs <;> rfl
 | t::ts,[],h,_=>by cases h
 | t::ts,b::bs,h,hk=>by
  have h':bs.length=ts.length:=by simpa using h
  show mk (arr t b).1 (arr t b).2::(jW ts bs).map (fun x=>mk x.1 x.2)=t::ts
  rw [qFD h' fun u hu=>hk u (wJ _ hu),qKo (hk t wD)]
theorem Ji {f:Tie->Tie}:∀{l:List Tie},(l.map f).Nodup->l.Nodup
 | [],_=>vI
 | x::l,h=>by
  rw [xH,zX] at h
  rw [zX]
  exact ⟨fun hx=>h.1 (zF.mpr ⟨x,hx,rfl⟩),Ji h.2⟩
theorem j6:qW ["led","one","other","found","at"] ["led","one","other"] (qG (top 15)):=by walk_at "sc"
theorem qCZ (F:Fun K "leads_on" "leads_on" (top 15) f fd) (T:Txt mg):Qg P w K mg base CX0 1 f fd ["led","one","other"] (spV qIS):=by
 refine jr F j6 [0,1,2] (fun as Φ h=>?_) (fun cdv A outer s H E hr=>?_)
 ·obtain ⟨ar,a,b,rfl,_⟩:=h
  rfl
 ·have hu:=hr.units
  refine ⟨_,(qC (jw 3 j6 (qy (qA (pv 1) qB)))
   (qC (jw 4 j6 qE)
   (qC (qAi xP (qS qHz (pv 4) (qK (qCz (K:=K) rfl) (by rfl) T.n_len vN (qA (pv 3) qB)) (qg _))
   (qC (qB8 (qDE (K:=K) rfl gH PySem.F.slot_list_extend PySem.F.type_list_extend qE9 (pv 3) (qA (qw rfl (own:=["a","b"]) (fr:=[("found",3),("at",4)]) (by walk_at "cs") (qt (K:=K) rfl (pv 0)) (fun cl C s0 H0 fp=>⟨(jG (K:=K) (n:=2) rfl rfl (qO (Qx 0) (qO (Qx 1) jD))),Qp (PW.pt (qDN (qS (qGi hu) (pv 0) (QH (pv 2) (pv 3)) (qg _)) (qA6 (qS (YT hu) (pv 1) (pv 2) (by with_unfolding_all rfl))))),(pv 1)⟩)) qB)))
    (qF (qKt (i:=4) j6.nd rfl (Or.inr rfl) qE qJK))))
   (qF (qj (Qu (qNG hu) (pv 2) (pv 3) (by with_unfolding_all rfl))))))),?_⟩
  rintro as Φ ⟨ar,a,b,rfl,hal,nd,k⟩
  walk_at "sv"
  walk_at "st"
  refine qCG (fun m ρ=>∃(fo:List Int) (i:Nat),ρ=[.d (.lst (ar.map qb)),.d (.int a),.d (.int b),.l (qL fo),.d (.int i)]/\i<=fo.length/\fo.Nodup/\(∀ p∈fo,p∈a::ar.map fun x=>x.2)/\a∈fo/\(∀ p∈fo,Path ar a p)/\(∀ x∈ar,x.1∈fo.take i->x.2∈fo)/\i+m=22) 22 ⟨[a],0,rfl,yN _,zX.mpr ⟨zP,vI⟩,fun p hp=>by rw [zG.mp hp]; exact wD,wD,fun p hp=>by rw [zG.mp hp]; exact Path.refl,fun x _ h=>(by rw [kP] at h; cases h),rfl⟩ ?_
  rintro m ρ ⟨fo,i,rfl,hi,fnd,hsub,ha,hso,hcl,hm⟩
  have hfl:fo.length<=21:=by
   have hss:fo ⊆ a::ar.map fun x=>x.2:=fun p hp=>hsub p hp
   have:=vK fnd hss
   rw [wZ,wC] at this
   omega
  walk_at "v"
  rw [wC]
  by_cases hc:i<fo.length
  ·rw [decide_eq_true (by omega),if_pos rfl]
   have hat:atI (qL fo) (i:Int)=some (.int fo[i]):=QX (by rw [wQ,wA hc]; rfl)
   have ht:fo.take (i+1)=fo.take i++[fo[i]]:=vF hc
   have hu1:=hso fo[i] (yY hc)
   have htk:∀ x:Tie,x.1∈fo.take (i+1)->x.1∈fo.take i\/x.1=fo[i]:=fun x hx=>by
    rw [ht] at hx
    rcases zR.mp hx with z | z
    ·exact .inl z
    ·exact .inr (zG.mp z)
   generalize fo[i]=u at hat hu1 htk
   clear ht
   walk_at "v"
   refine QE qb ar (fun x=>decide (x.1=u) && !decide (x.2∈fo)) (fun x=>D.int x.2) (Yt ?_)
   walk_at "v"
   refine ⟨_,_,rfl,rfl,rfl,qN (by omega),qZ rfl,of_decide_eq_true rfl,?_,?_⟩
   ·rintro ⟨x1,x2⟩ _ os hos
    obtain ⟨z0,z1,rfl⟩:=qIW hos
    walk_at "v"
    refine ⟨⟨[_,_],rfl,rfl⟩,?_,fun _=>?_⟩
    ·walk_at "vJ"
     exact ⟨rfl,rfl⟩
    ·walk_at "v"
     exact ⟨rfl,rfl⟩
   have e1:(ar.filter fun x=>decide (x.1=u) && !decide (x.2∈fo)).map (fun x:Tie=>D.int x.2)=qL ((ar.filter fun x=>decide (x.1=u) && !decide (x.2∈fo)).map fun x=>x.2):=by
    unfold qL
    rw [zW]
    rfl
   rw [e1]
   have hmem:∀ p,p∈((ar.filter fun x=>decide (x.1=u) && !decide (x.2∈fo)).map fun x=>x.2)↔(u,p)∈ar/\p∉fo:=fun p=>by
    rw [zF]
    constructor
    ·rintro ⟨⟨x1,x2⟩,hx,rfl⟩
     obtain ⟨h1,h2⟩:=zJ.mp hx
     rw [yR] at h2
     have h3:=ofd h2.1
     have h4:=h2.2
     rw [xK,decide_eq_false_iff_not] at h4
     simp only at h3
     subst h3
     exact ⟨h1,h4⟩
    ·rintro ⟨h1,h2⟩
     exact ⟨(u,p),zJ.mpr ⟨h1,by rw [decide_eq_true rfl,decide_eq_false h2]; rfl⟩,rfl⟩
   have bnd:((ar.filter fun x=>decide (x.1=u) && !decide (x.2∈fo)).map fun x=>x.2).Nodup:=qEp (u:=u) nd _ fun x hx=>by
    rw [yR] at hx
    exact ofd hx.1
   have bl:((ar.filter fun x=>decide (x.1=u) && !decide (x.2∈fo)).map fun x=>x.2).length<=20:=by
    rw [wC]
    exact zM (yU _ _) hal
   generalize ((ar.filter fun x=>decide (x.1=u) && !decide (x.2∈fo)).map fun x=>x.2)=nw at hmem bnd bl
   clear e1
   walk_at "v"
   refine qHU rfl rfl (sz2 (by rw [wC,wC]; omega)) ?_
   walk_at "st"
   have e2:qL fo++qL nw=qL (fo++nw):=by
    unfold qL
    rw [yI]
   rw [e2]
   refine qM4 (k:=fun i j=>i+j) rfl rfl ?_
   walk_at "v"
   walk_at "st"
   refine ⟨m - 1,by omega,fo++nw,i+1,rfl,by rw [wO]; omega,uT.mpr ⟨fnd,bnd,fun p hp r hr z=>((hmem r).mp hr).2 (z ▸ hp)⟩,fun p hp=>?_,vL _ ha,fun p hp=>?_,fun x hx h1=>?_,by omega⟩
   ·obtain z | z:=zR.mp hp
    ·exact hsub p z
    ·exact wJ _ (zF.mpr ⟨(u,p),((hmem p).mp z).1,rfl⟩)
   ·obtain z | z:=zR.mp hp
    ·exact hso p z
    ·exact Path.snoc hu1 ((hmem p).mp z).1
   ·rw [List.take_append_of_le_length (by omega)] at h1
    rcases htk x h1 with z | z
    ·exact vL _ (hcl x hx z)
    ·by_cases y:x.2∈fo
     ·exact vL _ y
     ·exact zH _ ((hmem x.2).mpr ⟨by rw [<- z]; exact hx,y⟩)
  ·rw [decide_eq_false (by omega),if_neg wU]
   have hi2:i=fo.length:=by omega
   rw [hi2,xU] at hcl
   have hiff:∀ c,c∈fo↔Path ar a c:=by
    intro c
    refine ⟨hso c,fun h=>?_⟩
    induction h with
    | refl=>exact ha
    | snoc h1 h2 ih=>exact hcl _ h2 ih
   walk_at "v"
   have e:decide (b∈fo)=qBV ar a b:=by
    rw [vU,decide_eq_true_iff,qAB]
    exact hiff b
   rw [e]
   exact ⟨⟨_,rfl⟩,k⟩
theorem YB {t:Tie} {v:Int}:∀{us:List Tie} {bs:List Int},bs.length=us.length->jW (us++[t]) (bs++[v])=jW us bs++[arr t v]
 | [],[],_=>rfl
 | [],_::_,h=>by cases h
 | _::_,[],h=>by cases h
 | u::us,b::bs,h=>by
  have h':bs.length=us.length:=by simpa using h
  show arr u b::jW (us++[t]) (bs++[v])=arr u b::(jW us bs++[arr t v])
  rw [YB h']
theorem qJt {ts:List Tie} {bs:List Int} (h:bs.length=ts.length) (lt:∀ t∈ts,t.1<t.2) (nd:ts.Nodup):(jW ts bs).Nodup:=by
 apply Ji (f:=fun x=>mk x.1 x.2)
 rw [qFD h lt]
 exact nd
theorem qDu {ar:List Tie} {a b:Int}:Path ar a b↔Rch (fun x y=>(x,y)∈ar) a b:=by
 constructor
 ·intro h
  induction h with
  | refl=>exact .refl
  | snoc _ e ih=>exact .snoc ih e
 ·intro h
  induction h with
  | refl=>exact .refl
  | snoc _ e ih=>exact .snoc ih e
theorem qHN {n:Nat} {ar:List Tie} {e:Tie} (inn:∀ x∈ar,x.1∈places n/\x.2∈places n) (he:e.1∈places n) (ne:e.1≠e.2) (A:qIB ar):qIB (ar++[e])↔¬ Path ar e.2 e.1:=by
 constructor
 ·rintro ⟨r,h⟩ p
  have h1:∀ x y,(x,y)∈ar->r x<r y:=fun x y z=>h (x,y) (vL _ z)
  have h2:=h e (zH _ wD)
  rcases qCF h1 (qDu.mp p) with z | z
  ·exact ne z.symm
  ·omega
 ·intro no
  obtain ⟨r,h⟩:=A
  obtain ⟨g,hg⟩:=qDp (n:=n) (A:=fun x y=>(x,y)∈ar) (a:=e.1) (b:=e.2) (fun x y z=>inn (x,y) z) he ⟨r,fun x y z=>h (x,y) z⟩ fun z=>no (qDu.mpr z)
  refine ⟨g,fun x hx=>?_⟩
  rcases zR.mp hx with z | z
  ·exact hg x.1 x.2 (.inr z)
  ·rw [zG.mp z]
   exact hg e.1 e.2 (.inl ⟨rfl,rfl⟩)
noncomputable def exts (ar:List Tie) (t:Tie):List (List Tie):=([(t.2,t.1),t].filter fun e=>!qBV ar e.2 e.1).map fun e=>ar++[e]
noncomputable def AF (ts:List Tie) (j:Nat):List (List Nat):=jj (ts.take j)
def arT (ts:List Tie) (j:Nat) (c:List Nat):List Tie:=jW (ts.take j) (zi c)
theorem qF0 {ts:List Tie} {j:Nat} {c:List Nat} (h:c∈AF ts j):c∈allR 2 (ts.take j).length/\UpA (Arr (ts.take j) c):=by
 obtain ⟨h1,h2⟩:=zJ.mp h
 exact ⟨h1,QZ.mp h2⟩
theorem qJV {n:Nat} {ts:List Tie} {j:Nat} {c:List Nat} (W:∀ t∈ts,okp n t) (nd:ts.Nodup) (hj:j<ts.length) (hc:c∈AF ts j):exts (arT ts j c) ts[j]=(([c++[0],c++[1]].filter (upB (ts.take (j+1))))).map (arT ts (j+1)):=by
 obtain ⟨h1,h2⟩:=qF0 hc
 have tk:ts.take (j+1)=ts.take j++[ts[j]]:=vF hj
 have lc:(zi c).length=(ts.take j).length:=by rw [qAW,(qM.mp h1).1]
 have ndj:(ts.take j).Nodup:=kE (xY j ts) nd
 have nd1:(ts.take (j+1)).Nodup:=kE (xY _ ts) nd
 obtain ⟨w1,w2,w3⟩:=W _ (yY hj)
 have Wj:∀ t∈ts.take j,okp n t:=fun t ht=>W t (uO ht)
 have inn:∀ x∈arT ts j c,x.1∈places n/\x.2∈places n:=fun x hx=>qEw Wj (Q1 ((J8 ndj h1 x.1 x.2).mp hx))
 have A:qIB (arT ts j c):=(qAA ndj h1).mpr h2
 have ext:∀ v:Nat,arT ts (j+1) (c++[v])=arT ts j c++[arr ts[j] v]:=fun v=>by
  unfold arT
  rw [tk,qEj,YB lc]
 have key:∀(v:Nat),v<2->∀ e,arr ts[j] (v:Int)=e->e.1∈places n->e.1≠e.2->(!qBV (arT ts j c) e.2 e.1)=upB (ts.take (j+1)) (c++[v]):=fun v hv e he e1 e2=>by
  have hcv:c++[v]∈allR 2 (ts.take (j+1)).length:=by
   rw [tk,wO]
   refine qM.mpr ⟨by rw [wO,(qM.mp h1).1]; rfl,fun u hu=>?_⟩
   rcases zR.mp hu with z | z
   ·exact (qM.mp h1).2 u z
   ·rw [zG.mp z]; exact hv
  rw [vU,QZ,<- qAA nd1 hcv,xK,<- gR,qAB]
  have:=qHN inn e1 e2 A
  rw [<- he,<- ext v] at this
  rw [<- he]
  exact this.symm
 have pa:ts[j].1∈places n:=qc.mpr (by omega)
 have pb:ts[j].2∈places n:=qc.mpr (by omega)
 have k0:=key 0 (by decide) (ts[j].2,ts[j].1) rfl pb (by show ts[j].2≠ts[j].1; omega)
 have k1:=key 1 (by decide) ts[j] rfl pa (by omega)
 unfold exts
 simp only [yZ,List.filter_nil]
 simp only at k0
 rw [k0,k1]
 have e0:arT ts (j+1) (c++[0])=arT ts j c++[(ts[j].2,ts[j].1)]:=ext 0
 have e1:arT ts (j+1) (c++[1])=arT ts j c++[ts[j]]:=ext 1
 cases upB (ts.take (j+1)) (c++[0]) <;> cases upB (ts.take (j+1)) (c++[1]) <;> simp [e0,e1]
theorem qNC {n:Nat} {ts:List Tie} {j:Nat} (W:∀ t∈ts,okp n t) (nd:ts.Nodup) (hj:j<ts.length):AF ts (j+1)=(AF ts j).flatMap fun c=>[c++[0],c++[1]].filter (upB (ts.take (j+1))):=by
 have tk:ts.take (j+1)=ts.take j++[ts[j]]:=vF hj
 have ndj:(ts.take j).Nodup:=kE (xY j ts) nd
 have nd1:(ts.take (j+1)).Nodup:=kE (xY _ ts) nd
 unfold AF jj
 have e:(ts.take (j+1)).length=(ts.take j).length+1:=by rw [tk,wO]; rfl
 rw [e,qDP,List.filter_flatMap]
 have e2:∀ c:List Nat,((allR 2 1).map fun d=>c++d)=[c++[0],c++[1]]:=fun c=>rfl
 have key:∀ l:List (List Nat),(∀ c∈l,c∈allR 2 (ts.take j).length)->(l.flatMap fun c=>((allR 2 1).map fun d=>c++d).filter (upB (ts.take (j+1))))=(l.filter (upB (ts.take j))).flatMap fun c=>[c++[0],c++[1]].filter (upB (ts.take (j+1))):=by
  intro l hl
  induction l with
  | nil=>rfl
  | cons c l ih=>
   have ih:=ih fun x hx=>hl x (wJ _ hx)
   rw [vX,ih,yZ,e2]
   by_cases u:upB (ts.take j) c=true
   ·rw [if_pos u,vX]
   ·rw [if_neg u]
    have no:∀ v,v<2->¬ upB (ts.take (j+1)) (c++[v])=true:=fun v hv z=>u (by
     have h1:=hl c wD
     have hcv:c++[v]∈allR 2 (ts.take (j+1)).length:=by
      rw [e]
      refine qM.mpr ⟨by rw [wO,(qM.mp h1).1]; rfl,fun x hx=>?_⟩
      rcases zR.mp hx with y | y
      ·exact (qM.mp h1).2 x y
      ·rw [zG.mp y]; exact hv
     have lc:(zi c).length=(ts.take j).length:=by rw [qAW,(qM.mp h1).1]
     obtain ⟨r,hr⟩:=(qAA nd1 hcv).mpr (QZ.mp z)
     rw [tk,qEj,YB lc] at hr
     exact QZ.mpr ((qAA ndj h1).mp ⟨r,fun x hx=>hr x (vL _ hx)⟩))
    have : [c++[0],c++[1]].filter (upB (ts.take (j+1)))=[]:=by
     rw [yZ,if_neg (no 0 (by decide)),yZ,if_neg (no 1 (by decide))]
     rfl
    rw [this]
    rfl
 exact key _ fun c h=>h
theorem qJS (ts:List Tie):AF ts 0=[[]]:=by
 unfold AF jj
 rw [kP]
 show [[]].filter (upB [])=[[]]
 rw [yZ,if_pos (QZ.mpr ⟨fun _=>0,fun x y z=>by rcases z with z | z <;> exact absurd z.1 zP⟩)]
 rfl
theorem qC8:∀{ts:List Tie} {c:List Nat},(∀ t∈ts,t.1<t.2)->c∈allR 2 ts.length->(jW ts (zi c)).map (fun e=>(if e.1<e.2 then 1 else 0:Int))=zi c
 | [],c,_,h=>by
  rw [gG.mp (qM.mp h).1]
  rfl
 | t::ts,c,lt,h=>by
  obtain ⟨h1,h2⟩:=qM.mp h
  match c,h1,h2 with
  | v::c,h1,h2=>
   have ih:=qC8 (ts:=ts) (c:=c) (fun u hu=>lt u (wJ _ hu)) (qM.mpr ⟨fC h1,fun u hu=>h2 u (wJ _ hu)⟩)
   have hv:=h2 v wD
   have ht:=lt t wD
   show (if (arr t (v:Int)).1<(arr t (v:Int)).2 then 1 else 0:Int)::(jW ts (zi c)).map _=(v:Int)::zi c
   rw [ih]
   congr 1
   unfold arr
   by_cases e:v=1
   ·rw [e,if_pos (show ((1:Nat):Int)=1 from rfl),if_pos ht]
    rfl
   ·rw [if_neg (show ¬ ((v:Nat):Int)=1 by omega)]
    show (if t.2<t.1 then 1 else 0:Int)=_
    rw [if_neg (show ¬ t.2<t.1 by omega)]
    omega
theorem qFc {f:List Nat->List (List Nat)} {m:Nat}:∀{l:List (List Nat)},(∀ a,(f a).length<=m)->(l.flatMap f).length<=l.length*m
 | [],_=>yN _
 | a::l,h=>by
  have h1:=h a
  have h2:=qFc (l:=l) h
  rw [vX,wO,wZ,Nat.succ_mul]
  omega
def qCv:PV:=fun as Φ=>∃(ar:List Tie) (t:Tie),as=[.d (.lst (ar.map qb)),.d (qb t)]/\ar.length<=19/\ar.Nodup/\Φ (.l ((exts ar t).map fun l=>D.lst (l.map qb))) as
def qBr:PV:=fun as Φ=>∃(n:Nat) (ts:List Tie),as=[.d (Jo n ts)]/\ts.length<=20/\(∀ t∈ts,okp n t)/\ts.Nodup/\(∀ j,j<=ts.length->(AF ts j).length<=300)/\Φ (.l ((jj ts).map qDl)) as
theorem j9:qW ["led","tie","a","b"] ["led","tie"] (qG (top 18)):=by walk_at "sc"
theorem qA7 (F:Fun K "pointed_on" "pointed_on" (top 18) f fd) (T:Txt mg) (XAO:Has P w K mg base "leads_on" (top 15) ["led","one","other"] 1 (spV qIS)):Qg P w K mg base CX0 2 f fd ["led","tie"] (spV qCv):=by
 refine jr F j9 [0,1] (fun as Φ h=>?_) (fun cdv A outer s H E hr=>?_)
 ·obtain ⟨ar,t,rfl,_⟩:=h
  rfl
 ·have hu:=hr.units
  refine ⟨_,(qC (YF (pv 1) (jG (K:=K) (n:=2) rfl rfl (qO (qBG 2 j9) (qO (qBG 3 j9) jD))))
   (qF (qj (qw rfl (own:=["x","y"]) (fr:=[("led",0)]) (by walk_at "cs") (qt (K:=K) rfl (qy (qA (jS (qA (pv 3) (qA (pv 2) qB))) (qA (jS (qA (pv 2) (qA (pv 3) qB))) qB)))) (fun cl C s0 H0 fp=>⟨(jG (K:=K) (n:=2) rfl rfl (qO (Qx 0) (qO (Qx 1) jD))),Qp (qII (Q2 (K:=K) rfl (qp XAO hr (qA (pv 2) (qA (pv 1) (qA (pv 0) qB)))) (fun _=>rfl))),(qa (qAj (K:=K) rfl) (pv 2) (qy (qA (jS (qA (pv 0) (qA (pv 1) qB))) qB)))⟩))))),?_⟩
  rintro as Φ ⟨ar,⟨a,b⟩,rfl,hal,nd,k⟩
  walk_at "st"
  rw [show qb (a,b)=D.tup [.int a,.int b] from rfl]
  walk_at "v"
  refine QE qb [(b,a),(a,b)] (fun e=>!qBV ar e.2 e.1) (fun e=>D.lst ((ar++[e]).map qb)) (Yt ?_)
  walk_at "v"
  refine ⟨_,_,rfl,rfl,rfl,qN (show 2<=1000 by decide),qZ rfl,of_decide_eq_true rfl,?_,?_⟩
  ·rintro ⟨x,y⟩ _ os hos
   obtain ⟨z0,z1,rfl⟩:=qIW hos
   rw [show qb (x,y)=D.tup [.int x,.int y] from rfl]
   walk_at "v"
   refine ⟨⟨[_,_],rfl,rfl⟩,?_,fun _=>?_⟩
   ·walk_at "v"
    walk_at "call"
    refine ⟨ar,y,x,rfl,by omega,nd,⟨⟨_,rfl⟩,?_⟩⟩
    walk_at "sv"
    exact ⟨rfl,rfl⟩
   ·walk_at "v"
    refine OpV.r (OpV.l (YY (xs:=ar.map qb) rfl rfl (szl (by rw [wC]; show _+1<=1000; omega)) ?_))
    refine ⟨?_,rfl⟩
    show some (D.lst (ar.map qb++[qb (x,y)]))=some (D.lst ((ar++[(x,y)]).map qb))
    rw [yI]
    rfl
  have e:([(b,a),(a,b)].filter fun e=>!qBV ar e.2 e.1).map (fun e=>D.lst ((ar++[e]).map qb))=(exts ar (a,b)).map fun l=>D.lst (l.map qb):=by
   unfold exts
   rw [zW]
   rfl
  rw [e]
  exact ⟨⟨_,rfl⟩,k⟩
theorem jk:qW ["web","found","tie"] ["web"] (qG (top 19)):=by walk_at "sc"
theorem qBt (F:Fun K "all_falls" "all_falls" (top 19) f fd) (T:Txt mg) (XAH:Has P w K mg base "pointed_on" (top 18) ["led","tie"] 2 (spV qCv)):Qg P w K mg base CX0 3 f fd ["web"] (spV qBr):=by
 refine jr F jk [0] (fun as Φ h=>?_) (fun cdv A outer s H E hr=>?_)
 ·obtain ⟨n,ts,rfl,_⟩:=h
  rfl
 ·have hu:=hr.units
  refine ⟨_,(qC (jw 1 jk (qy (qA (qy qB) qB)))
   (qC (Ye xP rfl (qt (K:=K) rfl (QH (pv 0) qE)) (qBG 2 jk)
   (qC (qEk (i:=1) rfl jk.nd rfl rfl (own:=["led","more"]) (fr:=[("tie",2)]) (by walk_at "cs") (qt (K:=K) rfl (pv 1)) (fun cl C s0 H0 fp=>⟨(Qx 0),QC,(qt (K:=K) rfl (qp XAH hr (qA (pv 0) (qA (pv 2) qB)))),(Qx 1),QC,(pv 1)⟩))
    (qF (Qr (qS qEI (qK (qCz (K:=K) rfl) (by rfl) T.n_len vN (qA (pv 1) qB)) (qGx (by rfl) T.g_MOST_FALLS) (qg _))
    (qF qDT)
    jA))))
   (qF (qj (qw rfl (own:=["led"]) (fr:=[]) (by walk_at "cs") (qt (K:=K) rfl (pv 1)) (fun cl C s0 H0 fp=>⟨(Qx 0),QC,(qe (YK (K:=K) rfl) (by rfl) T.n_tuple xG (qA (qw rfl (own:=["a","b"]) (fr:=[]) (by walk_at "cs") (qt (K:=K) rfl (pv 0)) (fun cl C s0 H0 fp=>⟨(jG (K:=K) (n:=2) rfl rfl (qO (Qx 0) (qO (Qx 1) jD))),QC,(qDQ (qS qHz (pv 0) (pv 1) (qg _)) qE qE)⟩)) qB))⟩)))))),?_⟩
  rintro as Φ ⟨n,ts,rfl,tl,W,nd,few,k⟩
  let S0:Sl:=.d (Jo n ts)
  let lD:Nat->List Nat->D:=fun j c=>.lst ((arT ts j c).map qb)
  walk_at "st"
  refine qv (fun ρ=>ρ=[S0,.l ((AF ts 0).map (lD 0)),.u]) ?_ ?_
  ·walk_at "v"
   show _=[S0,.l ((AF ts 0).map (lD 0)),.u]
   rw [qJS]
   rfl
  rintro ρ rfl
  refine qv (fun ρ=>Le ρ [S0,.l ((AF ts ts.length).map (lD ts.length)),.u]) ?_ ?_
  rotate_left
  ·intro ρ hle
   refine qMm hle ?_
   refine Qd (i:=1) rfl ?_
   walk_at "sv"
   have fw:=few ts.length (wH _)
   refine QE (lD ts.length) (AF ts ts.length) (fun _=>true) qDl (Yt ?_)
   walk_at "v"
   refine ⟨_,_,rfl,rfl,rfl,qN (by omega),qZ rfl,of_decide_eq_true rfl,?_,?_⟩
   ·intro c hc os hos
    obtain ⟨z0,rfl⟩:=qGn hos
    walk_at "v"
    refine ⟨⟨[_],rfl,rfl⟩,QG ⟨rfl,rfl⟩,fun _=>?_⟩
    walk_at "v"
    have cl:(arT ts ts.length c).length<=20:=zM YU (zM (List.length_take_le _ _) tl)
    refine QE qb (arT ts ts.length c) (fun _=>true) (fun e=>D.int (if e.1<e.2 then 1 else 0)) (Yt ?_)
    walk_at "v"
    refine ⟨_,_,rfl,rfl,rfl,qN (by omega),qZ rfl,of_decide_eq_true rfl,?_,?_⟩
    ·rintro ⟨a,b⟩ _ os hos
     obtain ⟨z1,z2,rfl⟩:=qIW hos
     rw [show qb (a,b)=D.tup [.int a,.int b] from rfl]
     walk_at "v"
     refine ⟨⟨[_,_],rfl,rfl⟩,QG ⟨rfl,rfl⟩,fun _=>?_⟩
     refine qNU ?_
     walk_at "v"
     refine qBE (fun hh=>?_) (fun hh=>?_)
     ·walk_at "v"
      refine ⟨?_,rfl⟩
      show some (D.int 1)=some (D.int (if a<b then 1 else 0))
      rw [if_pos (ofd hh)]
     ·walk_at "v"
      refine ⟨?_,rfl⟩
      show some (D.int 0)=some (D.int (if a<b then 1 else 0))
      rw [if_neg (fun z=>hh (decide_eq_true z))]
    rw [qu]
    have e:(arT ts ts.length c).map (fun e:Tie=>D.int (if e.1<e.2 then 1 else 0))=qL (zi c):=by
     have h1:=(qF0 hc).1
     unfold arT
     rw [xU] at h1 ⊢
     have q:(jW ts (zi c)).map (fun e:Tie=>D.int (if e.1<e.2 then 1 else 0))=((jW ts (zi c)).map fun e:Tie=>(if e.1<e.2 then 1 else 0:Int)).map D.int:=by
      rw [zW]
      rfl
     rw [q,qC8 (fun t ht=>(W t ht).2.1) h1]
    rw [e]
    walk_at "v"
    exact ⟨rfl,rfl⟩
   rw [qu]
   unfold AF
   rw [xU]
   exact ⟨⟨_,rfl⟩,k⟩
  refine qCX (Yt ?_)
  walk_at "v"
  refine ⟨_,_,rfl,rfl,fun j ρ=>Le ρ [S0,.l ((AF ts j).map (lD j)),.u],⟨rfl,rfl,trivial⟩,?_,?_⟩
  rotate_left
  ·intro ρ hle
   rw [wC] at hle
   exact hle
  intro j x ρ hx hle
  rw [wQ] at hx
  have hj:j<ts.length:=by
   cases e:ts[j]? with
   | none=>rw [e] at hx; cases hx
   | some t=>exact (wR.mp e).1
  rw [wA hj] at hx
  cases hx
  have fw:=few j (vR hj)
  have fw1:=few (j+1) hj
  refine qHR hle ?_
  refine qT rfl ?_
  walk_at "st"
  refine Qd (i:=1) rfl ?_
  walk_at "st"
  let S2:Sl:=.d (qb ts[j])
  let S1:Sl:=.d (.lst ((AF ts j).map (lD j)))
  let ext:List Nat->List (List Nat):=fun c=>[c++[0],c++[1]].filter (upB (ts.take (j+1)))
  refine qv (fun ρ=>ρ=[S0,.l ((AF ts (j+1)).map (lD (j+1))),S2]) ?_ ?_
  ·refine qBS (qMu (Yt ?_))
   walk_at "v"
   refine ⟨_,_,rfl,rfl,qZ rfl,of_decide_eq_true rfl,fun k ys ρc=>∃ s0 s1:Sl,ρc=[s0,s1,S2]/\ys=(((AF ts j).take k).flatMap ext).map (lD (j+1))/\k<=(AF ts j).length,⟨_,_,rfl,rfl,yN _⟩,?_,?_,?_⟩
   ·rintro k ys ρc ⟨s0,s1,rfl,_⟩
    rfl
   ·rintro k x ys ρc hx ⟨s0,s1,rfl,rfl,hk⟩
    rw [wQ] at hx
    obtain ⟨c,hc,rfl⟩:=ZQ.mp hx
    have hcm:=vM hc
    have hk2:=(wR.mp hc).1
    obtain ⟨ca,cu⟩:=qF0 hcm
    have bt:((AF ts j).take (k+1)).flatMap ext=((AF ts j).take k).flatMap ext++ext c:=by
     rw [fT,hc,List.flatMap_append]
     show _++(ext c++[])=_
     rw [zK]
    have bl:(((AF ts j).take k).flatMap ext).length<=600:=by
     have h1:=qFc (f:=ext) (l:=(AF ts j).take k) fun c=>by
      show ([c++[0],c++[1]].filter _).length<=2
      exact yU _ _
     rw [yQ] at h1
     omega
    refine qT rfl ?_
    walk_at "st"
    refine QG ?_
    refine (if_pos rfl).mpr ?_
    refine qKw ?_
    walk_at "vc"
    refine ⟨arT ts j c,ts[j],rfl,?_,?_,⟨⟨_,rfl⟩,?_⟩⟩
    ·have h1:=YU (ts:=ts.take j) (bs:=zi c)
     rw [yQ] at h1
     show (jW _ _).length<=19
     omega
    ·exact qJt (by rw [qAW,(qM.mp ca).1]) (fun t ht=>(W t (uO ht)).2.1) (kE (xY j ts) nd)
    walk_at "st"
    rw [qJV W nd hj hcm,zW]
    have el:(ext c).length<=2:=yU _ _
    refine ⟨_,_,rfl,rfl,fun i ys ρc=>∃ s1:Sl,ρc=[.d (lD j c),s1,S2]/\ys=(((AF ts j).take k).flatMap ext).map (lD (j+1))++((ext c).take i).map (lD (j+1)),⟨_,rfl,by rw [kP,List.map_nil,zK]⟩,?_,?_,?_⟩
    ·rintro i ys ρc ⟨s1,rfl,rfl⟩
     refine qN ?_
     rw [wO,wC,wC,yQ]
     omega
    ·rintro i u ys ρc hu ⟨s1,rfl,rfl⟩
     obtain ⟨d,hd,rfl⟩:∃ d,(ext c)[i]? = some d/\u=lD (j+1) d:=by
      have hu':((ext c).map (lD (j+1)))[i]? = some u:=hu
      rw [wQ] at hu'
      obtain ⟨d,h1,h2⟩:=ZQ.mp hu'
      exact ⟨d,h1,h2.symm⟩
     refine qT rfl ?_
     walk_at "st"
     refine QG ?_
     refine (if_pos rfl).mpr ?_
     walk_at "v"
     refine ⟨_,rfl,?_⟩
     rw [fT,hd,yI,yG]
     rfl
    ·rintro ys ρc ⟨s1,rfl,rfl⟩
     refine ⟨_,_,rfl,?_,hk2⟩
     rw [bt,yI,wC,xU]
   ·rintro ys ρc ⟨s0,s1,rfl,rfl,_⟩
    rw [wC,xU,<- qNC W nd hj]
    walk_at "st"
    refine qT rfl ?_
    rfl
  rintro ρ rfl
  refine qHt ?_
  walk_at "v"
  rw [wC,decide_eq_false (by omega)]
  refine ite_no ?_
  exact jR ⟨rfl,rfl,trivial⟩
theorem qHI (ts:List Tie):qI (ts.map qb)<=50:=zM (Qa (f:=qb) (k:=1) (fun a=>wH _) ts) (by decide)
theorem qGu (L:List (List Nat)):qI (L.map qDl)<=50:=zM (Qa (f:=qDl) (k:=1) (fun a=>VY (Qa (f:=D.int) (k:=0) (fun _=>wH _) (zi a))) L) (by decide)
theorem qLF {xs:List D} {lo hi:Option Int} {x:D} (h:x∈cutD xs lo hi):x∈xs:=by
 unfold cutD at h
 exact gV (uO h)
theorem qBO:∀{ρ τ τ':List Sl},Le ρ τ->Le τ τ'->Le ρ τ'
 | [],[],[],_,_=>trivial
 | _::ρ,.u::τ,.u::τ',h,g=>qBO (ρ:=ρ) (τ:=τ) (τ':=τ') h g
 | _::ρ,.d _::τ,.u::τ',h,g=>qBO (ρ:=ρ) (τ:=τ) (τ':=τ') h.2 g
 | _::ρ,.o _::τ,.u::τ',h,g=>qBO (ρ:=ρ) (τ:=τ) (τ':=τ') h.2 g
 | _::ρ,.f _ _::τ,.u::τ',h,g=>qBO (ρ:=ρ) (τ:=τ) (τ':=τ') h.2 g
 | _::ρ,.d _::τ,.d _::τ',h,g=>⟨h.1.trans g.1,qBO (ρ:=ρ) (τ:=τ) (τ':=τ') h.2 g.2⟩
 | _::ρ,.o _::τ,.o _::τ',h,g=>⟨h.1.trans g.1,qBO (ρ:=ρ) (τ:=τ) (τ':=τ') h.2 g.2⟩
 | _::ρ,.f _ _::τ,.f _ _::τ',h,g=>⟨h.1.trans g.1,qBO (ρ:=ρ) (τ:=τ) (τ':=τ') h.2 g.2⟩
theorem qI9 (ts:List Tie):Qk (ts.map qb) []=ts.isEmpty:=by cases ts <;> rfl
section
variable {ρ:List Sl} {Φ:Rs->List Sl->Prop} {x y:Rs}
theorem qEm {xs:List D} (hx:rdE ρ x=some (.lst xs)) (hy:rdE ρ y=some (.lst xs)) (hd:qI xs<=50) (h:Φ (.d (.bl false)) ρ):OpV (fun x y H Q=>rNe x y H Q\/qIK true x y H Q) x y ρ Φ:=by
 refine OpV.r (qKO hx hy hd ?_)
 rw [if_pos rfl,QR]
 exact h
end
theorem qFH {n:Nat} {ts:List Tie}:QY n ts 1=(jj ts).length:=by
 have one:∀ n,allR 1 n=[wN n 0]:=fun n=>by
  induction n with
  | zero=>rfl
  | succ n ih=>
   show ([0].flatMap fun v=>(allR 1 n).map fun c=>v::c)=_
   rw [ih]
   rfl
 unfold QY prs jj
 rw [one]
 generalize allR 2 ts.length=l
 induction l with
 | nil=>rfl
 | cons c l ih=>
  rw [vX,fL,wO,ih,yZ]
  have e:Y0 ts (c,wN n 0)=upB ts c:=by
   rw [vU,jO,QZ]
   refine ⟨fun h=>h.1,fun h=>⟨h,fun x y _=>?_⟩⟩
   have z:∀ x,at_ (wN n 0) x=0:=fun x=>by
    unfold at_
    rw [wF,uZ]
    split <;> rfl
   rw [z,z]
   exact wH _
  show ([(c,wN n 0)].filter (Y0 ts)).length+_=_
  rw [yZ,e]
  cases upB ts c
  ·show 0+_=_
   rw [kT]
   rfl
  ·show 1+_=_+1
   rw [VH]
theorem qIm:∀ r:List Int,ev r (-1) % 2=ev r 1 % 2
 | []=>rfl
 | a::r=>by
  have ih:=qIm r
  show (a + -1*ev r (-1)) % 2=(a+1*ev r 1) % 2
  rw [Int.neg_mul,WI,WI]
  omega
theorem qGh {n:Nat} {ts:List Tie} {row:List Int} (W:∀ t∈ts,okp n t) (nd:ts.Nodup) (ro:JK n ts row):((QY n ts 1:Nat):Int) % 2=if ts.isEmpty=true then 1 else 0:=by
 have h:=JI (k:=1) W nd ro
 have p:=qIm row
 have e:=ro.1.2 1
 have one:cnt n 1 (Jn ts)=if ts.isEmpty=true then 1 else 0:=by
  cases ts with
  | nil=>
   unfold cnt
   rw [show (allR 1 n).filter (Jn [])=allR 1 n from uF.mpr fun c _=>rfl,jY,Nat.one_pow]
   rfl
  | cons t ts=>
   unfold cnt
   rw [List.filter_eq_nil_iff.mpr fun c hc z=>?_]
   ·rfl
   ·have lt:=(qM.mp hc).2
    have z0:∀ x,at_ c x=0:=fun x=>by
     unfold at_
     by_cases q:x.toNat<c.length
     ·have:=qB9 lt q
      omega
     ·rw [wF,zV (by omega)]
      rfl
    exact j7.mp z t wD (by rw [z0,z0])
 rw [one] at e
 have e1:ev row 1=if ts.isEmpty=true then 1 else 0:=by
  have:ev row ((1:Nat):Int)=_:=e
  rw [show ((1:Nat):Int)=1 from rfl] at this
  rw [this]
  split <;> rfl
 rw [show (-((1:Nat):Int)) = -1 from rfl] at h
 rw [e1] at p
 by_cases z:ts.isEmpty=true
 ·rw [if_pos z] at p ⊢
  omega
 ·rw [if_neg z] at p ⊢
  omega
theorem Qo:qW ["script","cell","pool","web","falls","found","great","many","a","b"] ["script"] (qG (top 33)):=by walk_at "sc"
theorem qLu (F:Fun K "law" "law" (top 33) f fd) (T:Txt mg)
  (XAL:Has P w K mg base "_law_dig" (top 22) ["cell"] 1 (spV qLh))
  (XAN:Has P w K mg base "_law_web" (top 25) ["pool","most","cap"] 3 (spV qNa))
  (XAI:Has P w K mg base "_law_cell" (top 21) ["script","k"] 1 (spV (qLU K)))
  (XAJ:Has P w K mg base "_law_next" (top 23) ["pool","base"] 1 (spV qGw))
  (XAP:Has P w K mg base "hue_row" (top 11) ["web"] 24 (spV qCT))
  (XAG:Has P w K mg base "falls_many" (top 13) ["web"] 25 (spV qAX))
  (XAF:Has P w K mg base "_law_worth" (top 32) ["row","k"] 1 (spV qIM))
  (XAD:Has P w K mg base "_law_falls" (top 31) ["web"] 2 (spV qGO))
  (XAK:Has P w K mg base "all_falls" (top 19) ["web"] 3 (spV qBr))
  (XAV:Has P w K mg base "drawn" (top 7) ["web","a","b"] 2 (spV qGe))
  (XAU:Has P w K mg base "untied" (top 8) ["web","a","b"] 2 (spV qEn)):Qg P w K mg base CX0 26 f fd ["script"] (qFN K):=by
 refine qK4 F Qo (fun cdv A outer s H E hr=>?_)
 have hu:=hr.units
 refine ⟨_,(qC (Ye xP rfl (jI (by rfl) T.n_range (qA (qK (QV rfl) (by rfl) T.n_max kI (qA qE (qA (qK (Qy rfl) (by rfl) T.n_min gO (qA qE (qA (qK (qCz (K:=K) rfl) (by rfl) T.n_len vN (qA (pv 0) qB)) qB))) qB))) qB)) (qBG 1 Qo)
   (qC (jw 2 Qo (qp XAL hr (qA (qp XAI hr (qA (pv 0) (qA (pv 1) qB))) qB)))
    (qC (jw 3 Qo (qp XAN hr (qA (pv 2) (qA (QH (qy (qA qE (qA qE qB))) (qe QN (by rfl) T.n_int kJ (qA (Qu (qGi hu) (qa QM (pv 1) qE) qE (qg _)) qB))) (qA (QH (qy (qA qE (qA qE qB))) (qe QN (by rfl) T.n_int kJ (qA (Qu (qGi hu) (qa QM (pv 1) qE) qE (qg _)) qB))) qB)))))
    (qC (jw 4 Qo (qp XAD hr (qA (pv 3) qB)))
    (qC (jw 5 Qo (qp XAG hr (qA (pv 3) qB)))
    (qC (Qr (PW.pt (qJ0 (Q2 (K:=K) rfl (qK (qJv (K:=K) rfl) (by rfl) T.n_isinstance PyProof.Rows.boot_isinstance (qA (pv 5) (qA (qKH (v:=.ty "bool") (by rfl) T.n_bool PyProof.Rows.boot_bool rfl) qB))) (fun _=>rfl)) (qJ0 (qS (qEt hu) (pv 5) (qK (qCz (K:=K) rfl) (by rfl) T.n_len vN (qA (pv 4) qB)) (qg _)) (qIV (qS (qEt hu) (pv 5) (qK qBB (by rfl) T.n_abs WA (qA (qp XAF hr (qA (qp XAP hr (qA (pv 3) qB)) (qA (qJx qEz qE) qB))) qB)) (qg _))))))
    (qF (qj qD5))
    jA)
    (qC (Qr (qS (qEt hu) (qp XAK hr (qA (pv 3) qB)) (pv 4) (qg _))
    (qF (qj qD5))
    jA)
    (qC (jw 6 Qo (qp XAN hr (qA (pv 2) (qA (QH (qy (qA qE (qA qE qB))) (qe QN (by rfl) T.n_int kJ (qA (Qu (qGi hu) (qp XAJ hr (qA (pv 2) (qA qE qB))) qE (qg _)) qB))) (qA qE qB)))))
    (qC (jw 7 Qo (qp XAG hr (qA (pv 6) qB)))
    (qC (Qr (PW.pt (qJ0 (qS (qEt hu) (pv 7) (qK qBB (by rfl) T.n_abs WA (qA (qp XAF hr (qA (qp XAP hr (qA (pv 6) qB)) (qA (qJx qEz qE) qB))) qB)) (qg _)) (qIV (qS (qEt hu) (qa QM (pv 7) qE) (qe QN (by rfl) T.n_int kJ (qA (Qu (qGi hu) (QH (pv 6) qE) (jS qB) (qg _)) qB)) (qg _)))))
    (qF (qj qD5))
    jA)
    (qF (Ye xP rfl (qt (K:=K) rfl (qAs (qMQ (K:=K) rfl) (QH (pv 6) qE) qCM (qCe qE))) (jG (K:=K) (n:=2) rfl rfl (qO (qBG 8 Qo) (qO (qBG 9 Qo) jD)))
    (qF (Qr (qS (qEt hu) (pv 7) (qa (qAj (K:=K) rfl) (qp XAG hr (qA (qp XAU hr (qA (pv 6) (qA (pv 8) (qA (pv 9) qB)))) qB)) (qp XAG hr (qA (qp XAV hr (qA (pv 6) (qA (pv 8) (qA (pv 9) qB)))) qB))) (qg _))
     (qF (qj qD5))
     jA))))))))))))))
   (qF (qj qD5))),?_⟩
 intro ns hns
 walk_at "st"
 refine qET ?_
 walk_at "nf"
 refine qCX (qHv ?_)
 walk_at "v"
 refine qIk rfl ?_
 walk_at "v"
 rw [wC]
 generalize hJ:(if (if (ns.length:Int)<6 then (ns.length:Int) else 6) > 3 then (if (ns.length:Int)<6 then (ns.length:Int) else 6) else 3)=J
 have hJ2:0<=J/\J<=6:=by
  rw [<- hJ]
  split <;> split <;> omega
 clear hJ
 let S0:Sl:=.f K (ns.map D.int)
 refine ⟨J,⟨_,rfl,rfl⟩,by omega,by omega,fun i ρ=>Le ρ [S0,.u,.u,.u,.u,.u,.u,.u,.u,.u],And.intro rfl trivial,?_,?_⟩
 rotate_left
 ·intro ρ hle
  refine qMm hle ?_
  walk_at "v"
  rfl
 intro i x ρ hx hle
 have hin:i<J.toNat:=by
  have:=(wR.mp hx).1
  rw [jF] at this
  exact this
 rw [Qc hin] at hx
 cases hx
 have hi0:(0:Int)<=0+(i:Int)/\(0:Int)+(i:Int)<100:=by omega
 generalize (0:Int)+(i:Int)=cell at hi0
 refine qHR hle ?_
 refine qT rfl ?_
 walk_at "st"
 let S1:Sl:=.d (.int cell)
 refine qv (fun ρ=>∃ q,ρ=[S0,S1,.l (jJ q),.u,.u,.u,.u,.u,.u,.u]) ?_ ?_
 ·walk_at "v"
  refine jP ?_
  walk_at "vc"
  refine ⟨ns,cell,rfl,hi0.1,hi0.2,fun c=>⟨⟨_,rfl⟩,?_⟩⟩
  walk_at "sv"
  refine ⟨of_decide_eq_true rfl,?_⟩
  walk_at "st"
  refine ⟨c,rfl,fun q=>⟨⟨_,rfl⟩,?_⟩⟩
  walk_at "st"
  refine qT rfl ?_
  exact ⟨q,rfl⟩
 rintro ρ ⟨q,rfl⟩
 refine qv (fun ρ=>∃(q:Int×Int×Int) (n:Nat) (ts:List Tie),ρ=[S0,S1,.l (jJ q),.d (Jo n ts),.u,.u,.u,.u,.u,.u]/\qIu n ts/\ts.length<=8) ?_ ?_
 ·walk_at "v"
  refine jP ?_
  walk_at "v"
  refine Jp rfl rfl (show (0:Int)<2 by decide) ?_
  walk_at "v"
  obtain ⟨most,e,m1,m9⟩:∃ most:Nat,atI [D.int 9,D.int 6] (if decide (cell % 2=0)=true then 1 else 0)=some (.int (most:Int))/\1<=most/\most<=9:=by
   by_cases z:cell % 2=0
   ·rw [decide_eq_true z]
    exact ⟨6,rfl,by decide,by decide⟩
   ·rw [decide_eq_false z]
    exact ⟨9,rfl,by decide,by decide⟩
  obtain ⟨cap,e',c8⟩:∃ cap:Nat,atI [D.int 6,D.int 8] (if decide (cell % 2=0)=true then 1 else 0)=some (.int (cap:Int))/\cap<=8:=by
   by_cases z:cell % 2=0
   ·rw [decide_eq_true z]
    exact ⟨8,rfl,by decide⟩
   ·rw [decide_eq_false z]
    exact ⟨6,rfl,by decide⟩
  refine qB7 rfl rfl e ?_
  walk_at "v"
  refine Jp rfl rfl (show (0:Int)<2 by decide) ?_
  walk_at "v"
  refine ⟨of_decide_eq_true rfl,?_⟩
  walk_at "st"
  refine ⟨q,most,cap,rfl,m1,m9,by omega,fun n ts q2 W _ tl=>⟨⟨_,rfl⟩,?_⟩⟩
  walk_at "st"
  refine qT rfl ?_
  exact ⟨q2,n,ts,rfl,W,by omega⟩
 rintro ρ ⟨q1,n,ts,rfl,W,tl⟩
 let S3:Sl:=.d (Jo n ts)
 have n1:=W.pos
 have n9:=W.few
 refine qv (fun ρ=>ρ=[S0,S1,.l (jJ q1),S3,.l ((jj ts).map qDl),.u,.u,.u,.u,.u]) ?_ ?_
 ·walk_at "v"
  walk_at "call"
  refine ⟨n,ts,rfl,by omega,by omega,W.ok,W.nd,⟨⟨_,rfl⟩,?_⟩⟩
  walk_at "st"
  refine qT rfl ?_
  rfl
 rintro ρ rfl
 refine Qd (i:=4) rfl ?_
 walk_at "st"
 let S4:Sl:=.d (.lst ((jj ts).map qDl))
 let S5:Sl:=.d (.int (QY n ts 1:Nat))
 refine qv (fun ρ=>ρ=[S0,S1,.l (jJ q1),S3,S4,S5,.u,.u,.u,.u]) ?_ ?_
 ·walk_at "v"
  walk_at "call"
  refine ⟨n,ts,rfl,by omega,by omega,W.ok,W.nd,⟨⟨_,rfl⟩,?_⟩⟩
  walk_at "st"
  refine qT rfl ?_
  rfl
 rintro ρ rfl
 refine qv (fun ρ=>ρ=[S0,S1,.l (jJ q1),S3,S4,S5,.u,.u,.u,.u]) ?_ ?_
 ·refine qHt (qMz ?_)
  walk_at "v"
  refine ite_no ?_
  refine qMz ?_
  walk_at "v"
  rw [wC]
  refine qBE (fun z=>absurd z (by simp [qFH])) fun _=>?_
  walk_at "v"
  refine jP ?_
  walk_at "vc"
  refine ⟨n,ts,rfl,by omega,by omega,W.ok,W.nd,fun row ro=>⟨⟨_,rfl⟩,?_⟩⟩
  walk_at "sv"
  refine ⟨of_decide_eq_true rfl,?_⟩
  walk_at "st"
  have rl:=ro.1.1
  refine ⟨row,-1,rfl,by omega,⟨by decide,by decide⟩,⟨⟨_,rfl⟩,?_⟩⟩
  walk_at "sv"
  refine qGg rfl ?_
  have e:=JI (k:=1) W.ok W.nd ro
  rw [show (-((1:Nat):Int)) = -1 from rfl] at e
  rw [e]
  walk_at "v"
  refine qBE (fun z=>absurd z (by simp)) fun _=>?_
  exact jR rfl
 rintro ρ rfl
 refine qv (fun ρ=>ρ=[S0,S1,.l (jJ q1),S3,S4,S5,.u,.u,.u,.u]) ?_ ?_
 ·refine qHt ?_
  walk_at "vc"
  refine ⟨n,ts,rfl,by omega,W.ok,W.nd,fun j hj=>?_,⟨⟨_,rfl⟩,?_⟩⟩
  ·refine zM (yU _ _) ?_
   rw [jY]
   refine zM (xX (by decide) (show (ts.take j).length<=8 by rw [yQ]; omega)) (by decide)
  walk_at "sv"
  refine qEm rfl rfl (qGu _) ?_
  walk_at "v"
  refine ite_no ?_
  exact jR rfl
 rintro ρ rfl
 refine qv (fun ρ=>∃(q:Int×Int×Int) (n:Nat) (ts:List Tie),ρ=[S0,S1,.l (jJ q),S3,S4,S5,.d (Jo n ts),.u,.u,.u]/\qIu n ts/\ts.length<=14) ?_ ?_
 ·walk_at "v"
  refine jP ?_
  walk_at "vc"
  refine ⟨q1,8,rfl,by decide,by decide,fun v q' v0 v1=>⟨⟨_,rfl⟩,?_⟩⟩
  walk_at "sv"
  obtain ⟨most,e,m1,m9⟩:∃ most:Nat,atI [D.int 8,D.int 9] (if decide (v=0)=true then 1 else 0)=some (.int (most:Int))/\1<=most/\most<=9:=by
   by_cases z:v=0
   ·rw [decide_eq_true z]
    exact ⟨9,rfl,by decide,by decide⟩
   ·rw [decide_eq_false z]
    exact ⟨8,rfl,by decide,by decide⟩
  refine qB7 rfl rfl e ?_
  walk_at "v"
  refine ⟨of_decide_eq_true rfl,?_⟩
  walk_at "st"
  refine ⟨q',most,14,rfl,m1,m9,by decide,fun n ts q2 W _ tl=>⟨⟨_,rfl⟩,?_⟩⟩
  walk_at "st"
  refine qT rfl ?_
  exact ⟨q2,n,ts,rfl,W,tl⟩
 rintro ρ ⟨q3,n',ts',rfl,W',tl'⟩
 let S6:Sl:=.d (Jo n' ts')
 let S7:Sl:=.d (.int (QY n' ts' 1:Nat))
 have n1':=W'.pos
 have n9':=W'.few
 refine qv (fun ρ=>ρ=[S0,S1,.l (jJ q3),S3,S4,S5,S6,S7,.u,.u]) ?_ ?_
 ·walk_at "v"
  walk_at "call"
  refine ⟨n',ts',rfl,by omega,by omega,W'.ok,W'.nd,⟨⟨_,rfl⟩,?_⟩⟩
  walk_at "st"
  refine qT rfl ?_
  rfl
 rintro ρ rfl
 refine qv (fun ρ=>ρ=[S0,S1,.l (jJ q3),S3,S4,S5,S6,S7,.u,.u]) ?_ ?_
 ·refine qHt (qMz ?_)
  walk_at "v"
  refine jP ?_
  walk_at "vc"
  refine ⟨n',ts',rfl,by omega,by omega,W'.ok,W'.nd,fun row ro=>⟨⟨_,rfl⟩,?_⟩⟩
  walk_at "sv"
  refine ⟨of_decide_eq_true rfl,?_⟩
  walk_at "st"
  have rl:=ro.1.1
  refine ⟨row,-1,rfl,by omega,⟨by decide,by decide⟩,⟨⟨_,rfl⟩,?_⟩⟩
  walk_at "sv"
  refine qGg rfl ?_
  have e:=JI (k:=1) W'.ok W'.nd ro
  rw [show (-((1:Nat):Int)) = -1 from rfl] at e
  rw [e]
  walk_at "v"
  refine qBE (fun z=>absurd z (by simp)) fun _=>?_
  walk_at "v"
  refine Jp rfl rfl (show (0:Int)<2 by decide) ?_
  walk_at "v"
  refine OpV.r (qKs rfl rfl (qHI _) ?_ (hd2:=vB rfl))
  rw [qI9]
  walk_at "v"
  rw [qGh W'.ok W'.nd ro]
  refine qBE (fun z=>absurd z (by simp)) fun _=>?_
  exact jR rfl
 rintro ρ rfl
 refine qCX (Yt ?_)
 walk_at "v"
 refine SlV.r (qNd rfl ?_)
 walk_at "v"
 refine ⟨_,_,rfl,rfl,fun i ρ=>Le ρ [S0,S1,.l (jJ q3),S3,S4,S5,S6,S7,.u,.u],⟨rfl,rfl,rfl,rfl,rfl,rfl,rfl,rfl,trivial⟩,?_,fun ρ hle=>?_⟩
 rotate_left
 ·exact qBO hle ⟨rfl,trivial⟩
 intro i x ρ hx hle
 obtain ⟨⟨a,b⟩,ht,rfl⟩:∃ t∈ts',x=qb t:=by
  have h1:=qLF (vM hx)
  obtain ⟨t,ht,e⟩:=zF.mp h1
  exact ⟨t,ht,e.symm⟩
 clear hx
 obtain ⟨t1,t2,t3⟩:=W'.ok _ ht
 simp only at t1 t2 t3
 have em:mk a b=(a,b):=by
  unfold mk
  rw [if_neg (by omega),if_pos t2]
 refine qHR hle ?_
 clear hle
 refine qD7 rfl rfl (jd (qT rfl (jd (qT rfl (qAY ?_)))))
 walk_at "st"
 refine qHt ?_
 walk_at "v"
 refine jP ?_
 walk_at "vc"
 refine ⟨n',ts',a,b,rfl,by omega,by rw [em]; exact ht,⟨⟨_,rfl⟩,?_⟩⟩
 walk_at "sv"
 rw [em]
 refine ⟨of_decide_eq_true rfl,?_⟩
 walk_at "st"
 have fl':=yU (fun t=>!decide (t=(a,b))) ts'
 refine ⟨n',_,rfl,by omega,zM (yU _ _) (by omega),fun t h=>W'.ok t (zJ.mp h).1,W'.nd.filter _,⟨⟨_,rfl⟩,?_⟩⟩
 walk_at "sv"
 refine jP ?_
 walk_at "vc"
 refine ⟨n',ts',a,b,rfl,n1',by omega,fun us Dr=>⟨⟨_,rfl⟩,?_⟩⟩
 walk_at "sv"
 refine ⟨of_decide_eq_true rfl,?_⟩
 walk_at "st"
 have lu:=QP ht t2 Dr
 refine ⟨n' - 1,us,rfl,by omega,by omega,Q4 W'.ok ht Dr,Yh Dr.1,⟨⟨_,rfl⟩,?_⟩⟩
 walk_at "sv"
 have dc:=qDk (k:=1) W'.ok W'.nd ht Dr
 refine qBE (fun z=>?_) fun _=>jR ⟨rfl,rfl,rfl,rfl,rfl,rfl,rfl,rfl,trivial⟩
 rw [dc] at z
 refine absurd z ?_
 rw [show JJ ts' a b=ts'.filter (fun t=>!decide (t=(a,b))) from rfl,Int.natCast_add]
 simp
end
theorem us0 {P:List Value->Prop} (h:P []):∀ us:List Value,us.length=0->P us:=fun _ e=>(UG e) ▸ h
theorem usS {k:Nat} {P:List Value->Prop} (h:∀(a:Value) (us:List Value),us.length=k->P (a::us)):∀ us:List Value,us.length=k+1->P us:=fun us e=>by
 cases us with
 | nil=>cases e
 | cons a us=>exact h a us (fC e)
theorem us1 {P:List Value->Prop} (h:∀ a0,P [a0]):∀ us:List Value,us.length=1->P us:=usS (k:=0) (P:=fun us=>P (us)) fun a0=>us0 (P:=fun us=>P (a0::us)) (h a0)
theorem us2 {P:List Value->Prop} (h:∀ a0 a1,P [a0,a1]):∀ us:List Value,us.length=2->P us:=usS (k:=1) (P:=fun us=>P (us)) fun a0=>usS (k:=0) (P:=fun us=>P (a0::us)) fun a1=>us0 (P:=fun us=>P (a0::a1::us)) (h a0 a1)
theorem us3 {P:List Value->Prop} (h:∀ a0 a1 a2,P [a0,a1,a2]):∀ us:List Value,us.length=3->P us:=usS (k:=2) (P:=fun us=>P (us)) fun a0=>usS (k:=1) (P:=fun us=>P (a0::us)) fun a1=>usS (k:=0) (P:=fun us=>P (a0::a1::us)) fun a2=>us0 (P:=fun us=>P (a0::a1::a2::us)) (h a0 a1 a2)
def At (K:wK) (x:Str) (st:Stmt) (f:Addr) (fd:FuncData):Prop:=VU K mainGlobals x=some (some (.ref f))/\Fun K x x st f fd
def Zs (K:wK):List Str->Prop
 | []=>True
 | x::r=>VU K mainGlobals x=some none/\Zs K r
structure Car (P:Program) (w:World) (K:wK) (mg:Str->Option Value) (base h:Heap):Prop where
 X:K.In h
 G:h.Ns mainGlobals mg
theorem At.h {P:Program} {w:World} {K:wK} {h base:Heap} {mg:Str->Option Value} {x:Str} {st:Stmt} {f:Addr} {fd:FuncData} {k:Nat} {sp:Sp} {ps:List Str} (a:At K x st f fd) (Z:Car P w K mg base h) (F:Qg P w K mg base CX0 k f fd ps sp) (b:∀(kV doc pm:Value) (an:Option Addr) (cdv ct:Value) (us:List Value),us.length=ps.length->bindArgs (kR x x (JT st) (j5 st) (qG st) .none kV doc pm an cdv ct) ⟨us,[]⟩=pure (ps.zip us)):Has P w K mg base x st ps k sp:=⟨f,fd,⟨a.2,a.2.binds b,WO Z.X Z.G a.1⟩,F⟩
local macro_rules | `(tactic| walk_at "d")=>`(tactic| first | exact fun _ _ _ _ _ _=>us1 fun _=>rfl | exact fun _ _ _ _ _ _=>us2 fun _ _=>rfl | exact fun _ _ _ _ _ _=>us3 fun _ _ _=>rfl)
theorem all_mk {l:ZX} {w:World} {K:wK} {h:Heap} {mg:Str->Option Value} {fa f0 f1 f2 f3 f4 f5 f6 f7 f8 f9 f10 f11 f12 f13 f14 f15 f16 f17 f18 f19 f20 f21:Addr} {e0 e1 e2 e3 e4 e5 e6 e7 e8 e9 e10 e11 e12 e13 e14 e15 e16 e17 e18 e19 e20 e21:FuncData} (X:K.In h) (G:h.Ns mainGlobals mg) (hfa:mg "law" = some (.ref fa))
  (x0:At K "tie_of" (top 5) f0 e0)
  (x1:At K "number_drawn" (top 6) f1 e1)
  (x2:At K "drawn" (top 7) f2 e2)
  (x3:At K "untied" (top 8) f3 e3)
  (x4:At K "row_of" (top 10) f4 e4)
  (x5:At K "hue_row" (top 11) f5 e5)
  (x6:At K "row_at" (top 12) f6 e6)
  (x7:At K "falls_many" (top 13) f7 e7)
  (x8:At K "leads_on" (top 15) f8 e8)
  (x9:At K "pointed_on" (top 18) f9 e9)
  (x10:At K "all_falls" (top 19) f10 e10)
  (x11:At K "_law_cell" (top 21) f11 e11)
  (x12:At K "_law_dig" (top 22) f12 e12)
  (x13:At K "_law_next" (top 23) f13 e13)
  (x14:At K "_law_web" (top 25) f14 e14)
  (x15:At K "_law_order" (top 26) f15 e15)
  (x16:At K "_law_renamed" (top 27) f16 e16)
  (x17:At K "_law_arrows" (top 29) f17 e17)
  (x18:At K "_law_led" (top 30) f18 e18)
  (x19:At K "_law_falls" (top 31) f19 e19)
  (x20:At K "_law_worth" (top 32) f20 e20)
  (x21:At K "law" (top 33) f21 e21)
  (z:Zs K ["min","max","tuple","range","len","zip","int","list","sorted","all","isinstance","bool","set","reversed","sum","abs"])
  {tk_MOST_FALLS:Tok} (v_MOST_FALLS:VU K mainGlobals "MOST_FALLS" = some (some (.int 300 tk_MOST_FALLS))) :
  ∃ fd:FuncData,(∀(s:Shared) (v:Value),BindsTo s fd ⟨[v],[]⟩ [("script",v)])/\∀ base:Heap,K.In base->base.Ns mainGlobals mg->Qg l.prog w K mg base CX0 26 fa fd ["script"] (qFN K):=by
 have e:=hfa.symm.trans (WO X G x21.1)
 cases e
 have m:∀{x:Str},VU K mainGlobals x=some none->mg x=none:=fun z=>PySem.W.mg_none_of X G z
 obtain ⟨z0,z1,z2,z3,z4,z5,z6,z7,z8,z9,z10,z11,z12,z13,z14,z15,_⟩:=z
 have T:Txt mg:=⟨m z0,m z1,m z2,m z3,m z4,m z5,m z6,m z7,m z8,m z9,m z10,m z11,m z12,m z13,m z14,m z15,⟨_,WO X G v_MOST_FALLS⟩⟩
 refine ⟨e21,fun s v=>?b,fun base _ _=>?_⟩
 case b=>
  obtain ⟨_,_,_,_,_,_,_,_,_,rfl,_,_⟩:=x21.2.ex
  exact .of_eq rfl
 have Z:Car l.prog w K mg base h:=⟨X,G⟩
 have XAL:=x12.h Z (qCW x12.2 T) (by walk_at "d")
 have XAJ:=x13.h Z (qBY x13.2 T) (by walk_at "d")
 have XAE:=x15.h Z (qAq x15.2 T XAJ) (by walk_at "d")
 have XAA:=x16.h Z (YE x16.2 T) (by walk_at "d")
 have XAN:=x14.h Z (qCN x14.2 T XAJ XAE XAA) (by walk_at "d")
 have XAI:=x11.h Z (qBj x11.2 T) (by walk_at "d")
 have XAB:=x1.h Z (Yv x1.2 T) (by walk_at "d")
 have XAT:=x0.h Z (qGH x0.2 T) (by walk_at "d")
 have XAV:=x2.h Z (qHT x2.2 T XAB XAT) (by walk_at "d")
 have XAS:=x4.h Z (qGL x4.2 T ⟨x4.2,x4.2.binds (by walk_at "d"),WO X G x4.1⟩ XAV 23) (by walk_at "d")
 have XAP:=x5.h Z (qEQ x5.2 T XAS) (by walk_at "d")
 have XAR:=x6.h Z (qGM x6.2 T) (by walk_at "d")
 have XAG:=x7.h Z (qAx x7.2 T XAR XAP) (by walk_at "d")
 have XAF:=x20.h Z (qBC x20.2 T) (by walk_at "d")
 have XAM:=x18.h Z (qCd x18.2 T) (by walk_at "d")
 have XAC:=x17.h Z (Y6 x17.2 T) (by walk_at "d")
 have XAD:=x19.h Z (qAb x19.2 T XAM XAC) (by walk_at "d")
 have XAO:=x8.h Z (qCZ x8.2 T) (by walk_at "d")
 have XAH:=x9.h Z (qA7 x9.2 T XAO) (by walk_at "d")
 have XAK:=x10.h Z (qBt x10.2 T XAH) (by walk_at "d")
 have XAU:=x3.h Z (qFC x3.2 T XAT) (by walk_at "d")
 exact qLu x21.2 T XAL XAN XAI XAJ XAP XAG XAF XAD XAK XAV XAU
theorem walk {l:ZX} {q:Program} {loose:List Str} {XP:(Str->Option Value)->Heap->Prop} {YP:World->Heap->Prop} {d:DefRec} {K:Params->wK} (hn:l.most=some 63) (hdf:d.params.defaults=[])
  (hY:∀(w:World) (h:Heap),YP w h->(K w.params).In h)
  (F:∀(w:World) (mg:Str->Option Value) (fa:Addr) (h:Heap),(K w.params).In h->h.Ns mainGlobals mg->mg d.name=some (.ref fa)->
   ∃ fd:FuncData,(∀(s:Shared) (u:Value),BindsTo s fd ⟨[u],[]⟩ [("script",u)])/\∀ base:Heap,(K w.params).In base->base.Ns mainGlobals mg->Qg l.prog w (K w.params) mg base CX0 26 fa fd ["script"] (qFN (K w.params))) :
  PySem.W.WalkO q loose XP YP l.row.toRowW d [] (fun f vs=>PySem.call f vs):=
 L2.qJ2 (n:=63) (k:=26) (x:="script") (CX:=fun _=>CX0) (sp:=fun w=>qFN (K w.params)) hn (by decide) hdf ⟨rfl,by decide,by decide⟩ hY F (fun _ _ a ns hl _ hS=>⟨a,ns,rfl,hS,hl,fun _=>rfl⟩) fun _ _ _ _ _ z=>z
def pwo:Program:={ main:={ body:=[top 0,top 1,top 2,top 3,top 4,top 5,top 6,top 7,top 8,top 9,top 10,top 11,top 12,top 13,top 14,top 15,top 16,top 17,top 18,top 19,top 20,top 21,top 22,top 23,top 24,top 25,top 26,top 27,top 28,top 29,top 30,top 31,top 32,top 33],scope:=PySem.Challenge.pw_rillturn_k46_falls_counted.main.scope,futureAnnotations:=false,file:="/claim/cut.py",more:=[] },modules:=[],parses:=[],absent:=[],harvested:=[],given:={ argv:=[],stdin:=[],environ:=(some [([76,67,95,65,76,76],[67,46,85,84,70,45,56])]) } }
def rwo:ZX:={ PySem.Challenge.rw_rillturn_k46_falls_counted with prog:=pwo }
def QI (P:Params) (n:Str) (t:Nat) (v:Value):DictEntry:=⟨PyData.keyHash P n,.str n t,v⟩
def jZ (s:Stmt):Str:=match s with
 | .FunctionDef n _ _ _ _ _ _ _ _ _=>n
 | _=>""
def jg (n:Str) (t:Nat) (l a b:Int) (c:Nat) (x y:Value) (z:Nat) (u:Int) (u':Nat):Obj:={ cls:=.type "code",data:=.fields #[.str n t,.str n (t+1),.str "/claim/cut.py" (t+2),.int l 0,.int a 0,.int 0 0,.int 0 0,.int b 0,.ref c,.bool true,.int 181 0,.ref (c+1),.none,x,y,.ref z,.int u 0,.int l 0,.str "/claim/cut.py" u'] }
def Yy (i:Nat) (m:Str) (mt c:Nat):Obj:={ cls:=.type "function",data:=.func (kR (jZ (top i)) (jZ (top i)) (JT (top i)) (j5 (top i)) (qG (top i)) .none .none .none (.str m mt) none (.ref c) .none) }
def kE0 (P:Params):List DictEntry:=[QI P "__name__" 165 (.str "law_rillturn_k46_falls_counted" 326),QI P "__doc__" 166 .none,QI P "__package__" 167 .none,QI P "__loader__" 168 (.builtin "__main__.__loader__#opaque"),QI P "__spec__" 169 .none,QI P "__annotations__" 170 (.ref 6),QI P "__builtins__" 171 (.ref 4),QI P "__file__" 173 (.str "/claim/cut.py" 172)]
def kE1 (P:Params):List DictEntry:=[QI P "__cached__" 174 .none,QI P "RillError" 206 (.ref 24),QI P "TooMany" 222 (.ref 37),QI P "NoTie" 238 (.ref 49),QI P "tie_of" 248 (.ref 58),QI P "number_drawn" 257 (.ref 65),QI P "drawn" 263 (.ref 70),QI P "untied" 269 (.ref 75)]
def kE2 (P:Params):List DictEntry:=[QI P "row_of" 277 (.ref 80),QI P "hue_row" 284 (.ref 87),QI P "row_at" 294 (.ref 94),QI P "falls_many" 301 (.ref 101),QI P "leads_on" 309 (.ref 106),QI P "MOST_FALLS" 313 (.int 300 312),QI P "pointed_on" 319 (.ref 111),QI P "all_falls" 325 (.ref 116)]
def kE3 (P:Params):List DictEntry:=[QI P "_law_cell" 335 (.ref 123),QI P "_law_dig" 342 (.ref 130),QI P "_law_next" 353 (.ref 137),QI P "_law_far" 362 (.ref 144),QI P "_law_web" 368 (.ref 149),QI P "_law_order" 374 (.ref 154),QI P "_law_renamed" 380 (.ref 159),QI P "_law_near" 386 (.ref 164)]
def kE4 (P:Params):List DictEntry:=[QI P "_law_arrows" 392 (.ref 169),QI P "_law_led" 398 (.ref 174),QI P "_law_falls" 404 (.ref 179),QI P "_law_worth" 414 (.ref 186),QI P "law" 430 (.ref 193)]
def qNq (P:Params):List DictEntry:=kE0 P++kE1 P++kE2 P++kE3 P++kE4 P
def qMG (P:Params):Obj:={ cls:=.type "dict",data:=.dict ⟨qNq P⟩ 37 }
def KF:Params->wK:=fun P=>(nat_lit 3,qMG P)::(nat_lit 57,jg (jZ (top 5)) 241 9 2 3 52 (.ref 54) (.ref 55) 56 246 247)::(nat_lit 58,Yy 5 "rillturn.webs" 239 57)::(nat_lit 64,jg (jZ (top 6)) 249 11 3 3 59 (.ref 61) (.ref 62) 63 255 256)::(nat_lit 65,Yy 6 "rillturn.webs" 239 64)::(nat_lit 69,jg (jZ (top 7)) 258 15 3 3 66 .none .none 68 261 262)::(nat_lit 70,Yy 7 "rillturn.webs" 239 69)::(nat_lit 74,jg (jZ (top 8)) 264 19 3 3 71 .none .none 73 267 268)::(nat_lit 75,Yy 8 "rillturn.webs" 239 74)::(nat_lit 79,jg (jZ (top 10)) 272 26 2 3 76 .none .none 78 275 276)::(nat_lit 80,Yy 10 "rillturn.counts" 270 79)::(nat_lit 86,jg (jZ (top 11)) 278 36 1 3 81 (.ref 83) (.ref 84) 85 282 283)::(nat_lit 87,Yy 11 "rillturn.counts" 270 86)::(nat_lit 93,jg (jZ (top 12)) 285 38 2 3 88 (.ref 90) (.ref 91) 92 292 293)::(nat_lit 94,Yy 12 "rillturn.counts" 270 93)::(nat_lit 100,jg (jZ (top 13)) 295 43 1 3 95 (.ref 97) (.ref 98) 99 299 300)::(nat_lit 101,Yy 13 "rillturn.counts" 270 100)::(nat_lit 105,jg (jZ (top 15)) 304 46 3 3 102 .none .none 104 307 308)::(nat_lit 106,Yy 15 "rillturn.pointings" 302 105)::(nat_lit 110,jg (jZ (top 18)) 314 55 2 3 107 .none .none 109 317 318)::(nat_lit 111,Yy 18 "rillturn.turning" 310 110)::(nat_lit 115,jg (jZ (top 19)) 320 58 1 3 112 .none .none 114 323 324)::(nat_lit 116,Yy 19 "rillturn.turning" 310 115)::(nat_lit 122,jg (jZ (top 21)) 328 66 2 3 117 (.ref 119) (.ref 120) 121 333 334)::(nat_lit 123,Yy 21 "law_rillturn_k46_falls_counted" 326 122)::(nat_lit 129,jg (jZ (top 22)) 336 70 1 3 124 (.ref 126) (.ref 127) 128 340 341)::(nat_lit 130,Yy 22 "law_rillturn_k46_falls_counted" 326 129)::(nat_lit 136,jg (jZ (top 23)) 343 72 2 3 131 (.ref 133) (.ref 134) 135 351 352)::(nat_lit 137,Yy 23 "law_rillturn_k46_falls_counted" 326 136)::(nat_lit 148,jg (jZ (top 25)) 363 86 3 3 145 .none .none 147 366 367)::(nat_lit 149,Yy 25 "law_rillturn_k46_falls_counted" 326 148)::(nat_lit 153,jg (jZ (top 26)) 369 105 2 3 150 .none .none 152 372 373)::(nat_lit 154,Yy 26 "law_rillturn_k46_falls_counted" 326 153)::(nat_lit 158,jg (jZ (top 27)) 375 108 2 3 155 .none .none 157 378 379)::(nat_lit 159,Yy 27 "law_rillturn_k46_falls_counted" 326 158)::(nat_lit 168,jg (jZ (top 29)) 387 113 2 3 165 .none .none 167 390 391)::(nat_lit 169,Yy 29 "law_rillturn_k46_falls_counted" 326 168)::(nat_lit 173,jg (jZ (top 30)) 393 115 2 3 170 .none .none 172 396 397)::(nat_lit 174,Yy 30 "law_rillturn_k46_falls_counted" 326 173)::(nat_lit 178,jg (jZ (top 31)) 399 126 1 3 175 .none .none 177 402 403)::(nat_lit 179,Yy 31 "law_rillturn_k46_falls_counted" 326 178)::(nat_lit 185,jg (jZ (top 32)) 405 133 2 3 180 (.ref 182) (.ref 183) 184 412 413)::(nat_lit 186,Yy 32 "law_rillturn_k46_falls_counted" 326 185)::(nat_lit 192,jg (jZ (top 33)) 415 138 1 3 187 (.ref 189) (.ref 190) 191 428 429)::(nat_lit 193,Yy 33 "law_rillturn_k46_falls_counted" 326 192)::[]
def kAt:List Addr:=[3,57,58,64,65,69,70,74,75,79,80,86,87,93,94,100,101,105,106,110,111,115,116,122,123,129,130,136,137,148,149,153,154,158,159,168,169,173,174,178,179,185,186,192,193]
end K46
open PySem PySem.W PyProof.Rows
set_option maxRecDepth 100000 in
set_option maxHeartbeats 0 in
theorem K46.oh:K46.rwo.Holds:=by
 w_on; refine PySem.W.holds_law (by decide +kernel) fun said=>?_; o_head (PySem.W.kHook K46.KF K46.kAt (fun _=>by kernel_rfl)); (case hw=>w_witness2)
 k_fill
 refine K46.walk (l:=K46.rwo) rfl rfl (fun w h Y=>PySem.W.kIn_of Y) ?F
 case F=>
  intro w mg fa h KX G hmg
  refine' K46.all_mk KX G hmg ?x0 ?x1 ?x2 ?x3 ?x4 ?x5 ?x6 ?x7 ?x8 ?x9 ?x10 ?x11 ?x12 ?x13 ?x14 ?x15 ?x16 ?x17 ?x18 ?x19 ?x20 ?x21 ?z ?v_MOST_FALLS
  case x0 | x1 | x2 | x3 | x4 | x5 | x6 | x7 | x8 | x9 | x10 | x11 | x12 | x13 | x14 | x15 | x16 | x17 | x18 | x19 | x20 | x21=>exact ⟨by k_is,L2.qLj (by k_is) (by k_is) (by k_is)⟩
  case z=>repeat' (first | exact trivial | refine ⟨by k_is,?_⟩)
  case v_MOST_FALLS=>k_is
theorem PySem.Challenge.cw_rillturn_k46_falls_counted_holds : PySem.Challenge.rw_rillturn_k46_falls_counted.Holds :=
 K46.oh
