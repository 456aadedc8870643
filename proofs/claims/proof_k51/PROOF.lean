import PyProof.Rows.All
import Wide.All
import OpenK.AllK
import Wide.FinOn
import Lean
import PyProof.EqAt
import PyProof.EqKinds
import PyProof.TupleCall
import PyProof.NeKinds
import PyProof.ForAny
import PyProof.ZipIter
import PyProof.Draws
import PyProof.ListRange
import PyProof.TupleOfGen
import KE.KRevIter
import KE.KMinKey
import PyProof.ConsumeWalk
import OpenK.KOwn
import KE.KTryMore
import KE.KIsAll
import PyProof.ExcArgs
import PyProof.NsDelKeeps
import PyProof.TupleOfSeq
import PyProof.Rows.SetFrom
import PyProof.WalksMore
import PyProof.ListNew
import KE.IntBitsLaws
import PyProof.EnumMake
import KE.KDictOf
import PyProof.AttrMissHeap
import PyProof.Rows.EnumRows
import KE.KDictSum
import PyProof.SumAny
import PyProof.DictValues
import PyProof.SetScanFacts
import PyProof.TupleKey
import PyProof.SetKind
import PySem.Challenge.RW_rillturn_k51_orders_or_cuts_told
open List renaming getElem?_eq_getElem->wA,length_map->wC,mem_cons_self->wF,size_toArray->wH,getElem?_eq_some_iff->wI,mem_singleton->wK,getElem?_map->wL,mem_cons->wM,mem_cons_of_mem->wN,length_append->wR,range->wV,getD_eq_getElem?_getD->wW,not_mem_nil->wY,mem_append->zG,mem_filter->zH,nodup_cons->zI,replicate->zJ,mem_append_right->zK,getElem?_set->zL,map_map->zM,mem_map->zP,mem_append_left->zS,getElem?_append_right->zW,mem_range->zY,nodup_nil->yC,map_append->yD,nodup_append->yF,length_cons->yG,idxOf_lt_length_of_mem->yI,length_replicate->yJ,length_filter_le->yL,length_range->yN,getElem?_append_left->yU,append_nil->yZ,nodup_iff_pairwise_ne->vB,filter_sublist->vC,lookup_cons->vE,getElem?_eq_none->vH,length_take->vK,mem_of_getElem?->vN,all_eq_true->vT,replicate_zero->vV,append_assoc->xA,map_congr_left->xI,take_length->xO,getElem_toArray->xU,contains_eq_mem->xV,ext_getElem?->xW,pairwise_map->xX,isPerm_iff->xZ,take_of_length_le->uB,any_eq_true->uF,pairwise_cons->uK,Perm->uO,map_cons->uW,filterMap_cons->uX,length_reverse->uY,length_drop->uZ,getElem_mem->kC,getElem_idxOf->kF,forIn_cons->kH,length_nil->kI,take_add_one->kQ,nodup_range->kZ,replicate_succ->hG,getElem?_range->hU,any_cons->hW,nil_append->hX,length_eq_zero_iff->gE,all_map->gH,any_map->gI,toArray->gJ,mem_reverse->gU,getElem_of_mem->gZ,mem_map_of_mem->fA,forIn_nil->fH,lookup_append->fI,flatten_cons->fN,map_take->fX,getElem?_replicate->ZG,getElem?_cons_succ->ZJ,head?_eq_getElem?->ZQ,getElem?_toArray->ZX,take_append_drop->ZY,mem_filterMap->WL,append_of_mem->WT,take_sublist->WY,getElem_inj->VL,eq_nil_of_length_eq_zero->VW,of_mem_zip->VY,foldl_cons->VZ,dropLast_concat_getLast->UC,take_zero->UP,drop_zero->UQ,pairwise_iff_getElem->UT,sublist_append_right->UU,getLast?_eq_getElem?->UV,map_drop->TH,mem_of_mem_eraseIdx->TJ,sublist_append_left->TK
open PySem renaming wpAny_bind->wB,wpAny_pure->wG,wpAny_holding->yM,boot_len->yW,Spec->yX,wpAny_ite_split->vA,wpAny_call_entry->vD,wpAny_newObj_type->vF,mem_of_lookup->vU,wpAny_callSpecial?_slot->vX,sizeLine_eq->xS,wpAny_field->uE,wpAny_seqItems->uH,wpAny_truthy_bool->uP,wpAny_mono->uV,codeAny_mono->kD,wpAny_passesOwn->kG,wpAny_standAt->kK,wpAny_typeOf->kX,wpAny_Call_Name_kw->hZ,call_meets->gR,wpAny_of_eq->gW,wpAny_rule->fG,wpAny_pyIter_tuple->fJ,wpAny_sequenceKey->fM,wpAny_pyIter_list->fP,wpAny_comprehension_free->fU,wpAny_onRaise->fV,wpAny_execs_nil->ZR,wpAny_loadPart'->ZS,codeAny_of_tree->ZU,codeAny_builtin->ZV,wpAny_updateSeq_pair->WC,evalPart_none->WG,evalPart_some->WH,wpAny_newList->WI,concat_meets->WZ,noFill_tuple_add->VN,wpAny_askSetting->VR,wpAny_isInstance->VS,wpAny_letGo->VV,typeIs_int->UJ,wpAny_listPart->UL,wpAny_newTuple->UN,isSubtype_type->UO,seq_tuple_add->UX,wpAny_attempt->UZ
open PySem.Heap renaming get?_push_of_some->wD,get?_push_size->zF,lt_size->zN,size_push->uI,get?_update_self->kM,SameBut->fB
open PySem.W renaming Frag->wJ,kia_one->xC,kitOne->xT,fnOf->kW,OpenLaw->ZT,methodObj->WX,instObj->VX,lookIn->UG,keepIn->UH,codeIn->UI
open Nat renaming le_refl->wO,le_trans->zO,lt_of_lt_of_le->zV,zero_le->zZ,ne_of_lt->yE,lt_of_le_of_lt->yR,le_add_right->yS,le_of_ble_eq_true->yT,le_of_lt->vI,lt_irrefl->vY,add_sub_cancel_left->xE,le_of_lt_succ->xG,le_of_not_lt->xN,le_of_eq->xP,not_lt_zero->uN,lt_succ_of_le->kP,ne_of_gt->gG,lt_succ_of_lt->gK,le_antisymm->gY,succ_pos->fC,sub_self->fE,le_succ->fO,lt_succ_self->ZI,min_eq_left->ZW,mod_lt->WR,max_le->WU,min_self->VB,le_of_succ_le->VC,not_lt_of_gt->VQ,min_eq_right->VU
open Bool renaming false_ne_true->wQ,true_and->wZ,and_eq_true->zX,false_and->yV,not_eq_true'->vM,false_eq_true->xM,not_false->kU,eq_iff_iff->gX,eq_false_iff->VA,and_false->UK,and_true->TB
open Array renaming length_toList->wU,getElem?_eq_getElem->zR,getElem?_toList->xB,getD_eq_getD_getElem?->uC,mem_toList_iff->uQ,getElem_toList->uU,getElem?_eq_some_iff->kT,getElem?_eq_none->gM,getElem_mem->fQ,toList_inj->VP,toList_map->VT,size_setIfInBounds->TC,getElem?_replicate->TF
open PySem.SetTable renaming bits->wX,below->vG,runEnd->xD,leap->xQ,turns->kA,grown->kB,sizeAbove->kE,advance->kY,toList_insertAt->fW,layClean->VD,insertAt->VF,put->VG
open Option.some renaming inj->zQ
open Int renaming toNat_natCast->zT,emod_lt_of_pos->uJ,le_trans->uS,emod_nonneg->kJ,le_refl->gF,zero_add->gO,lt_irrefl->gV,not_lt->fK,emod_eq_of_lt->fR,le_of_lt->VH,lt_trans->VJ,eq_ofNat_of_zero_le->TM
open PyProof.Rows renaming boot_tuple->zU,slot_tuple_getitem->yO,boot_isinstance->vQ,boot_all->xK,boot_sorted->xR,boot_range->xY,callWith_type1->uA,boot_list->uD,boot_any->uL,boot_max->kN,boot_min->kO,boot_int->WA,callWith_builtin1->VM
open PySem.Builtin.SmallTypes renaming nextOf->yQ
open List.Nodup renaming length_le_of_subset->yY
open PySem.F renaming plainAttrs_list->vL,called_set->vW,args_tuple_add_2->fT,slot_list_extend->fY,type_list_extend->fZ,plainAttrs_tuple->ZC,slot_tuple_index->ZE,type_tuple_index->ZF,entry_tuple_add->ZH,slot_list_index->ZL,type_list_index->ZM,slot_tuple_add->ZO,slot_tuple_iterator_next->UM
open PySem.Builtin.Slice renaming slicePlaces->vO,sliceAdjust->xJ,sliceApplied->kS,sliceFields->UR
open Classical renaming byContradiction->vP,propDecidable->ZK
open PySem.PassesOwn renaming never->vR
open PySem.Builtin.Tuple renaming tupleExact->vS,tupleItemsOf->fF
open ForInStep renaming yield->vZ
open PySem.NameKind renaming free->xF,cell->kL
open PySem.Heap.SameBut renaming update->xH
open PySem.Value renaming none->uG,ref->uM,int->gC,type->ZN
open PySem.Str renaming ofString->uR
open PySem.SetTable.probe renaming go->uT
open False renaming elim->kR
open PySem.Builtin.Range renaming rangePlace?->hE,rangeSize->gD
open PySem.Builtin.List renaming listTooLong->hV,listSubscript?->UD,listLengthHint->UE,listAllItems->US,listSameRef->UY
open PySem.Obj renaming mapSeq->gB
open PySem.SetTable.layClean renaming free->gL
open Option renaming map_eq_some_iff->gN,getD_none->VO,isSome_iff_exists->UW
open List.Sublist renaming cons_cons->gP,refl->fS,append->WE,nodup->WS
open PySem.SeqAt renaming EqAt->gQ
open And renaming intro->gS
open PySem.Calls renaming call_function_entry->fL,callWith_builtin->ZP,evalArgs_plain->WB,Name_function_global->UF
open List.Perm renaming append_left->ZZ
open Ne renaming symm->WD
open PySem.Shared renaming TypeIs->WJ
open List.cons renaming inj->WK
open True renaming intro->WM
open PySem.Heap.IsSliceOf renaming new->WN
open PySem.W.KFB renaming if_not->WO
open PySem.SeqAt.EqAt renaming of_refs->WQ,same->UA
open Sum renaming inl->WV,inr->WW
open Prod renaming fst->VI
open PySem.Builtin.Frozenset renaming updateFrom->UB
open PySem.Data renaming cell->TL
set_option Elab.async false
set_option linter.all false
noncomputable section
set_option maxRecDepth 100000
namespace L2
open PySem PySem.Spec PyProof.Rows
noncomputable abbrev Key:=Sum Int Str
noncomputable def qKb:Key->Value->Bool
 | .inl k,v=>Value.isInt k v
 | .inr x,v=>Value.isStrOf x v
noncomputable def qNU (w:World):Key->Int
 | .inl k=>hashInt k
 | .inr x=>hashStr w x
theorem jD:∀{k:Key} {v:Value},qKb k v=true->(∃ i t,k=WV i/\v=gC i t)\/(∃ x t,k=WW x/\v=Value.str x t)
 | .inl i,v,h=>by
  obtain ⟨t,e⟩:=Value.isInt_shape (k:=i) (v:=v) h
  exact .inl ⟨i,t,rfl,e⟩
 | .inr x,v,h=>by
  obtain ⟨t,e⟩:=Value.isStrOf_shape (x:=x) (v:=v) h
  exact .inr ⟨x,t,rfl,e⟩
theorem qKZ (a b:Int):decide ((WV a:Key)=WV b)=(a == b):=by
 by_cases e:a=b
 ·subst e; simp
 ·have h:¬ (WV a:Key)=WV b:=fun q=>e (Sum.inl.inj q)
  rw [decide_eq_false h]
  exact (beq_eq_false_iff_ne.mpr e).symm
theorem qLf (a b:Str):decide ((WW a:Key)=WW b)=decide (a=b):=by
 by_cases e:a=b
 ·subst e; simp
 ·have h:¬ (WW a:Key)=WW b:=fun q=>e (Sum.inr.inj q)
  rw [decide_eq_false h,decide_eq_false e]
theorem qKn (a:Int) (b:Str):decide ((WV a:Key)=WW b)=false:=decide_eq_false (fun q=>nomatch q)
theorem qKz (a:Str) (b:Int):decide ((WW a:Key)=WV b)=false:=decide_eq_false (fun q=>nomatch q)
noncomputable def qCs (prog:Program) (w:World):PySem.KeyKind prog w Key where
 is:=qKb
 hash:=qNU w
 inj:=fun v a b ha hb=>by
  rcases jD ha with ⟨i,t,rfl,rfl⟩ | ⟨x,t,rfl,rfl⟩
  ·rcases jD hb with ⟨j,u,rfl,e⟩ | ⟨y,u,rfl,e⟩
   ·injection e with e1 _; rw [e1]
   ·exact nomatch e
  ·rcases jD hb with ⟨j,u,rfl,e⟩ | ⟨y,u,rfl,e⟩
   ·exact nomatch e
   ·injection e with e1 _; rw [e1]
 byValue:=fun k v h=>by
  rcases jD h with ⟨i,t,rfl,rfl⟩ | ⟨x,t,rfl,rfl⟩ <;> rfl
 pyHash:=fun hv h=>by
  rcases jD hv with ⟨i,t,rfl,rfl⟩ | ⟨x,t,rfl,rfl⟩
  ·exact wpAny_pyHash_int h
  ·exact wpAny_pyHash_str h
 eqBool:=fun hu hv h=>by
  rcases jD hu with ⟨i,t,rfl,rfl⟩ | ⟨x,t,rfl,rfl⟩
  ·rcases jD hv with ⟨j,u,rfl,rfl⟩ | ⟨y,u,rfl,rfl⟩
   ·rw [qKZ] at h; exact wpAny_eqBool_int h
   ·rw [qKn] at h; exact SeqAt.EqAt.int_str i t y u _ _ _ _ h
  ·rcases jD hv with ⟨j,u,rfl,rfl⟩ | ⟨y,u,rfl,rfl⟩
   ·rw [qKz] at h; exact SeqAt.EqAt.str_int x t j u _ _ _ _ h
   ·rw [qLf] at h; exact wpAny_eqBool_str h
 «strs»:=fun k x t v h=>by
  rcases jD h with ⟨i,u,rfl,e⟩ | ⟨y,u,rfl,e⟩
  ·exact nomatch e
  ·injection e with e1 _
   subst e1
   cases v <;> rfl
inductive V where
 | non | bl (b:Bool) | int (i:Int) | str (x:Str) | byt (b:Array UInt8) | flt (b:UInt64) | ref (a:Addr) | ty (n:String)
 deriving DecidableEq
noncomputable def RelV:V->Value->Prop
 | .non,u=>u=uG
 | .bl b,u=>u=Value.bool b
 | .int i,u=>∃ t,u=gC i t
 | .str x,u=>∃ t,u=Value.str x t
 | .byt b,u=>∃ t,u=Value.bytes b t
 | .flt b,u=>∃ t,u=Value.float b t
 | .ref a,u=>u=uM a
 | .ty n,u=>u=ZN n
noncomputable abbrev jB:List V->List Value->Prop:=Paired RelV
theorem jB.length {xs:List V} {us:List Value} (r:jB xs us):xs.length=us.length:=Paired.length r
theorem jB.get:∀{xs:List V} {us:List Value} {i:Nat} {x:V},jB xs us->xs[i]? = some x->∃ u,us[i]? = some u/\RelV x u
 | _,_,_,_,.nil,e=>by simp at e
 | _,_,0,_,.cons r _,e=>by simp at e; subst e; exact ⟨_,rfl,r⟩
 | _,_,i+1,x,.cons _ t,e=>by
  obtain ⟨u,h1,h2⟩:=jB.get (i:=i) (x:=x) t (by simpa using e)
  exact ⟨u,by simpa using h1,h2⟩
theorem jB.set {x:V} {u:Value} (r:RelV x u):∀{xs:List V} {us:List Value} (i:Nat),jB xs us->jB (xs.set i x) (us.set i u)
 | _,_,_,.nil=>.nil
 | _,_,0,.cons _ t=>.cons r t
 | _,_,i+1,.cons q t=>.cons q (jB.set r i t)
theorem jB.append:∀{xs ys:List V} {us ws:List Value},jB xs us->jB ys ws->jB (xs++ys) (us++ws)
 | _,_,_,_,.nil,s=>s
 | _,_,_,_,.cons r t,s=>.cons r (jB.append t s)
theorem jB.take:∀{xs:List V} {us:List Value} (n:Nat),jB xs us->jB (xs.take n) (us.take n)
 | _,_,0,_=>.nil
 | _,_,_+1,.nil=>.nil
 | _,_,n+1,.cons r t=>.cons r (jB.take n t)
theorem jB.drop:∀{xs:List V} {us:List Value} (n:Nat),jB xs us->jB (xs.drop n) (us.drop n)
 | _,_,0,r=>r
 | _,_,_+1,.nil=>.nil
 | _,_,n+1,.cons _ t=>jB.drop n t
noncomputable def qLx:Option V->Option Value->Prop
 | some v,some u=>RelV v u
 | none,none=>True
 | _,_=>False
noncomputable def KV {κ:Type}:List (κ×V)->List (κ×Value)->Prop:=Paired fun (p:κ×V) (q:κ×Value)=>p.1=q.1/\RelV p.2 q.2
noncomputable def kV:Key->V
 | .inl i=>.int i
 | .inr x=>.str x
noncomputable def NoD (h:Heap) (a:Addr):Prop:=∀ o,h.get? a=some o->o.dict=none
theorem NoD.new {h:Heap} {o:Obj} (hd:o.dict=none) (hf:o.isFreed=false:=by rfl):NoD (h.push o) h.objs.size:=fun u e=>by
 rw [zF _ hf] at e
 cases e
 exact hd
inductive HO where
 /-- a list -/
 | lst (xs:List V)
 /-- a tuple (never changes) -/
 | tup (xs:List V)
 /-- a dict whose keys are ints and texts; one whose keys are tuples of ints and texts (the empty one is both) -/
 | dK (kvs:List (Key×V)) | dT (kvs:List (List Key×V))
 /-- a set of ints: its members, its size -/
 | set (S:Int->Bool) (n:Nat)
 /-- an instance of the class at C, its dict at dx, its attributes -/
 | ins (C dx:Addr) (fs:List (Str×V))
 /-- the dict of the instance at x -/
 | own (x:Addr)
 /-- the dict of an exception -/
 | xd (fs:List (Str×V))
 /-- a bound method, f of x -/
 | met (f x:Addr)
 /-- a range object lo, lo + 1, .. below hi -/
 | rng (lo hi:Int)
 /-- a thing that is known to the object (the script; a dict while a loop walks it): read, never written while it is so -/
 | frz (o:Obj) (u:HO)
 /-- a code object's table -/
 | tbl (ps:Array Value)
 /-- any other thing, by what is true of its one object (a def of one's own: SetO a S n := HO.ext fun h => ..) -/
 | ext (φ:Heap->Prop)
noncomputable abbrev Hp:=Addr->Option HO
noncomputable def upd (H:Hp) (a:Addr) (o:HO):Hp:=fun b=>if b=a then some o else H b
theorem qN {H:Hp} {a:Addr} {o:HO}:upd H a o a=some o:=by unfold upd; rw [if_pos rfl]
theorem qS {H:Hp} {a b:Addr} {o:HO} (h:b≠a):upd H a o b=H b:=by unfold upd; rw [if_neg h]
theorem ji {H:Hp} {a b:Addr} {o:HO} (h:H a=some o) (h':H b=none):a≠b:=by
 intro e; subst e; rw [h] at h'; cases h'
section
variable (P:Program) (w:World)
noncomputable def QS (H:Hp) (h:Heap) (a:Addr):HO->Prop
 | .lst xs=>xs.length<=sizeLine/\∃(its:List Value) (n:Nat),jB xs its/\h.get? a=some { cls:=.type "list",data:=.seq its.toArray n }
 | .tup xs=>xs.length<=sizeLine/\∃ its:List Value,jB xs its/\IsTup h a its.toArray/\NoD h a
 | .dK kvs=>kvs.length<=sizeLine/\(a == sysModules)=false/\∃ vs,KV kvs vs/\h.DictOf (qCs P w) a vs
 | .dT kvs=>kvs.length<=sizeLine/\(a == sysModules)=false/\∃ xs:List (List Key×Addr×Value),
   Paired (fun (p:List Key×V) (q:List Key×Addr×Value)=>p.1=q.1/\H q.2.1=some (.tup (p.1.map kV))/\RelV p.2 q.2.2) kvs xs/\
   ∃ o es ep,h.get? a=some o/\o.ExactDict/\o.data=.dict es ep/\es.toList=xs.map (entryOfKey (tupleKind (qCs P w)))/\(xs.map (·.1)).Nodup
 | .set S n=>h.SetOf (intKind P w) a S n
 | .ins C dx fs=>H dx=some (.own a)/\fs.length<=1000/\dx≠a/\h.get? a=some (VX C dx)/\
   ∃ mA,h.Ns1 dx mA/\(∀ f,qLx (fs.lookup f) (mA f))/\PySem.Within mA (fs.map (·.1))
 | .own _=>∃ o,h.get? a=some o
 | .xd fs=>∃ mA,h.Ns1 a mA/\∀ f,qLx (fs.lookup f) (mA f)
 | .rng lo hi=>∃ t u v,h.get? a=some { cls:=.type "range",data:=.fields #[.int lo t,.int hi u,.int 1 v] }
 | .frz o u=>h.get? a=some o/\QS H h a u
 | .tbl ps=>h.get? a=some { cls:=.none,data:=.fields ps }
 | .met f x=>h.get? a=some (WX (.ref f) (.ref x))
 | .ext φ=>φ h/\(∃ o,h.get? a=some o)/\∀ h1 h2:Heap,φ h1->(∀ o,h1.get? a=some o->h2.get? a=some o)->φ h2
noncomputable def HOk (H:Hp) (h:Heap):Prop:=∀ a o,H a=some o->QS P w H h a o
end
section
variable {P:Program} {w:World} {H H':Hp} {h h':Heap} {a:Addr} {o:HO}
theorem QS.lt (x:QS P w H h a o):a<h.objs.size:=by
 cases o with
 | lst xs=>obtain ⟨_,_,_,_,e⟩:=x; exact zN e
 | tup xs=>obtain ⟨_,_,_,p,_⟩:=x; exact p.lt
 | dK kvs=>obtain ⟨_,_,_,_,o,_,_,e,_⟩:=x; exact zN e
 | dT kvs=>obtain ⟨_,_,_,_,o,_,_,e,_⟩:=x; exact zN e
 | set S n=>obtain ⟨o,_,_,_,e,_⟩:=x; exact zN e
 | ins C dx fs=>obtain ⟨_,_,_,e,_⟩:=x; exact zN e
 | own y=>obtain ⟨_,e⟩:=x; exact zN e
 | xd fs=>obtain ⟨_,⟨_,_,_,e,_⟩,_⟩:=x; exact zN e
 | rng lo hi=>obtain ⟨_,_,_,e⟩:=x; exact zN e
 | frz ob u=>obtain ⟨e,_⟩:=x; exact zN e
 | tbl ps=>exact zN (show h.get? a=some _ from x)
 | met f y=>exact zN (show h.get? a=some _ from x)
 | ext φ=>obtain ⟨_,⟨_,e⟩,_⟩:=x; exact zN e
theorem Paired.mapP {α β:Type} {F G:α->β->Prop}:∀{l₁:List α} {l₂:List β},Paired F l₁ l₂->(∀ a b,F a b->G a b)->Paired G l₁ l₂
 | _,_,.nil,_=>.nil
 | _,_,.cons r t,f=>.cons (f _ _ r) (Paired.mapP t f)
theorem QS.stay (x:QS P w H h a o) (k:∀ b u,(b=a\/H b=some (.own a))->h.get? b=some u->h'.get? b=some u)
  (ho:∀ b,H b=some (.own a)->H' b=some (.own a)) (ht:∀ b xs,H b=some (.tup xs)->H' b=some (.tup xs)):QS P w H' h' a o:=by
 induction o with
 | lst xs=>obtain ⟨z,its,n,r,e⟩:=x; exact ⟨z,its,n,r,k _ _ (.inl rfl) e⟩
 | tup xs=>obtain ⟨z,its,r,⟨ob,e,c⟩,nd⟩:=x; exact ⟨z,its,r,⟨ob,k _ _ (.inl rfl) e,c⟩,fun o' e'=>by rw [k _ _ (.inl rfl) e] at e'; cases e'; exact nd _ e⟩
 | dK kvs=>obtain ⟨z,y,vs,r,ob,es,ep,e,c⟩:=x; exact ⟨z,y,vs,r,ob,es,ep,k _ _ (.inl rfl) e,c⟩
 | dT kvs=>
  obtain ⟨z,y,xs,r,ob,es,ep,e,c⟩:=x
  exact ⟨z,y,xs,Paired.mapP r fun p q z=>⟨z.1,ht _ _ z.2.1,z.2.2⟩,ob,es,ep,k _ _ (.inl rfl) e,c⟩
 | set S n=>obtain ⟨ob,es,ep,t,e,c⟩:=x; exact ⟨ob,es,ep,t,k _ _ (.inl rfl) e,c⟩
 | ins C dx fs=>
  obtain ⟨d,z,ne,e,mA,⟨od,es,ep,e2,c⟩,r⟩:=x
  exact ⟨ho _ d,z,ne,k _ _ (.inl rfl) e,mA,⟨od,es,ep,k _ _ (.inr d) e2,c⟩,r⟩
 | own y=>obtain ⟨ob,e⟩:=x; exact ⟨ob,k _ _ (.inl rfl) e⟩
 | xd fs=>obtain ⟨mA,⟨od,es,ep,e,c⟩,r⟩:=x; exact ⟨mA,⟨od,es,ep,k _ _ (.inl rfl) e,c⟩,r⟩
 | rng lo hi=>obtain ⟨t,u,v,e⟩:=x; exact ⟨t,u,v,k _ _ (.inl rfl) e⟩
 | frz ob u ih=>obtain ⟨e,q⟩:=x; exact ⟨k _ _ (.inl rfl) e,ih q⟩
 | tbl ps=>
  have e:h.get? a=some { cls:=.none,data:=.fields ps }:=x
  show h'.get? a=some { cls:=.none,data:=.fields ps }
  exact k a _ (.inl rfl) e
 | met f y=>
  have e:h.get? a=some (WX (.ref f) (.ref y)):=x
  show h'.get? a=some (WX (.ref f) (.ref y))
  exact k a _ (.inl rfl) e
 | ext φ=>obtain ⟨p,⟨o,e⟩,st⟩:=x; exact ⟨st _ _ p fun o q=>k _ _ (.inl rfl) q,⟨o,k _ _ (.inl rfl) e⟩,st⟩
theorem HOk.lt (x:HOk P w H h) (e:H a=some o):a<h.objs.size:=(x a o e).lt
theorem HOk.fresh (x:HOk P w H h) (e:h.objs.size<=a):H a=none:=by
 cases q:H a with
 | none=>rfl
 | some u=>exact absurd (zV (x.lt q) e) (vY _)
theorem HOk.kept (x:HOk P w H h) (k:∀ b u,h.get? b=some u->h'.get? b=some u):HOk P w H h':=fun a o e=>
 (x a o e).stay (fun b u _ q=>k b u q) (fun _ q=>q) fun _ _ q=>q
theorem HOk.laid (x:HOk P w H h) (k:∀ b u,h.get? b=some u->h'.get? b=some u) (hp:h.objs.size<=a) (new:QS P w (upd H a o) h' a o):HOk P w (upd H a o) h':=fun b u e=>by
 have hn:=x.fresh hp
 by_cases hb:b=a
 ·subst hb; rw [qN] at e; cases e; exact new
 ·rw [qS hb] at e
  exact (x b u e).stay (fun c v _ q=>k c v q) (fun c q=>by rw [qS (ji q hn)]; exact q) fun c xs q=>by rw [qS (ji q hn)]; exact q
end
noncomputable def Rd (H:Hp) (a:Addr) (u:HO):Prop:=H a=some u\/∃ o,H a=some (.frz o u)
theorem Rd.ok {P:Program} {w:World} {H:Hp} {h:Heap} {a:Addr} {u:HO} (r:Rd H a u) (x:HOk P w H h):QS P w H h a u:=by
 rcases r with r | ⟨o,r⟩
 ·exact x a u r
 ·obtain ⟨_,q⟩:=x a _ r
  exact q
noncomputable def Mut:Option HO->Prop
 | some (.lst _)=>True
 | some (.dK _)=>True
 | some (.dT _)=>True
 | some (.set _ _)=>True
 | some (.ins _ _ _)=>True
 | some (.ext _)=>True
 | _=>False
section
variable {P:Program} {w:World} {H:Hp} {h h':Heap} {x e:Addr} {o':HO}
theorem HOk.write (ok:HOk P w H h) (mu:Mut (H x)) (he:e=x\/H e=some (.own x)) (k:∀ b u,b≠e->h.get? b=some u->h'.get? b=some u) (heo:∃ u,h'.get? e=some u)
  (new:QS P w (upd H x o') h' x o'):HOk P w (upd H x o') h':=fun b u q=>by
 have nown:∀ c y,H c=some (.own y)->c≠x:=fun c y r z=>by subst z; rw [r] at mu; exact mu
 have ntup:∀ c xs,H c=some (.tup xs)->c≠x:=fun c xs r z=>by subst z; rw [r] at mu; exact mu
 by_cases hb:b=x
 ·subst hb; rw [qN] at q; cases q; exact new
 ·rw [qS hb] at q
  by_cases hbe:b=e
  ·have q':H b=some (.own x):=by
    rcases he with z | z
    ·exact absurd (hbe.trans z) hb
    ·rw [hbe]; exact z
   rw [q] at q'; cases q'
   obtain ⟨v,hv⟩:=heo
   exact ⟨v,by rw [hbe]; exact hv⟩
  ·refine (ok b u q).stay (fun c v hc r=>k c v ?_ r) (fun c r=>by rw [qS (nown c b r)]; exact r) fun c xs r=>by rw [qS (ntup c xs r)]; exact r
   rcases hc with rfl | hc
   ·exact hbe
   ·rintro rfl
    rcases he with z | z
    ·exact nown c b hc z
    ·rw [hc] at z; cases z; exact hb rfl
end
structure Un (fs ex:List Addr) (H H':Hp) (h h':Heap):Prop where
 keep:∀ b o,h.get? b=some o->H b=none->b∉fs->b∉ex->h'.get? b=some o
 slot:∀ b o,h.get? b=some o->H b=none->b∈fs->b∉ex->∃ sl,h'.get? b=some { o with slots:=sl }
 free:∀ b o,h.get? b=some o->H b=none->b∉ex->H' b=none
 there:∀ b o,h.get? b=some o->b∉ex->∃ o',h'.get? b=some o'
 tups:∀ b xs,H b=some (.tup xs)->H' b=some (.tup xs)
 frzs:∀ b o u,H b=some (.frz o u)->H' b=some (.frz o u)
 tbls:∀ b ps,H b=some (.tbl ps)->∃ more,H' b=some (.tbl (ps++more))
section
variable {fs fs' ex ex':List Addr} {H H1 H2:Hp} {h h1 h2 h':Heap} {a x e:Addr} {o:HO}
theorem Un.any (u:Un fs ex H H1 h h1) {b:Addr} {ob:Obj} (q:h.get? b=some ob) (n:H b=none) (hx:b∉ex):∃ sl,h1.get? b=some { ob with slots:=sl }:=by
 by_cases hb:b∈fs
 ·exact u.slot b ob q n hb hx
 ·exact ⟨ob.slots,u.keep b ob q n hb hx⟩
theorem Un.kept (k:∀ b u,h.get? b=some u->h'.get? b=some u):Un fs ex H H h h':=
 ⟨fun b ob q _ _ _=>k b ob q,fun b ob q _ _ _=>⟨ob.slots,k b ob q⟩,fun _ _ _ n _=>n,fun b ob q _=>⟨ob,k b ob q⟩,fun _ _ q=>q,fun _ _ _ q=>q,fun _ ps q=>⟨#[],by rw [q]; simp⟩⟩
theorem Un.refl:Un fs ex H H h h:=Un.kept fun _ _ q=>q
theorem Un.laid (k:∀ b u,h.get? b=some u->h'.get? b=some u) (hp:h.objs.size<=a) (hn:H a=none):Un fs ex H (upd H a o) h h' where
 keep:=fun b u q _ _ _=>k b u q
 slot:=fun b u q _ _ _=>⟨u.slots,k b u q⟩
 free:=fun b u q n _=>by rw [qS (yE (zV (zN q) hp))]; exact n
 there:=fun b u q _=>⟨u,k b u q⟩
 tups:=fun b xs q=>by rw [qS (ji q hn)]; exact q
 frzs:=fun b u xs q=>by rw [qS (ji q hn)]; exact q
 tbls:=fun b ps q=>⟨#[],by rw [qS (ji q hn),q]; simp⟩
theorem Un.write (mu:Mut (H x)) (he:e=x\/H e=some (.own x)) (k:∀ b u,b≠e->h.get? b=some u->h'.get? b=some u) (heo:∃ u,h'.get? e=some u):Un fs ex H (upd H x o) h h':=by
 have hx:∀ b,H b=none->b≠x:=fun b n z=>by subst z; rw [n] at mu; exact mu
 have hb:∀ b,H b=none->b≠e:=fun b n z=>by
  subst z
  rcases he with r | r
  ·exact hx b n r
  ·rw [n] at r; cases r
 have hm:∀ b u,H b=some u->¬ Mut (some u)->b≠x:=fun b u q nm z=>by subst z; rw [q] at mu; exact nm mu
 refine ⟨fun b u q n _ _=>k b u (hb b n) q,fun b u q n _ _=>⟨u.slots,k b u (hb b n) q⟩,fun b u q n _=>by rw [qS (hx b n)]; exact n,fun b u q _=>?_,
  fun b xs q=>by rw [qS (hm b _ q fun z=>z)]; exact q,fun b u xs q=>by rw [qS (hm b _ q fun z=>z)]; exact q,fun b ps q=>⟨#[],by rw [qS (hm b _ q fun z=>z),q]; simp⟩⟩
 by_cases hbe:b=e
 ·subst hbe; exact heo
 ·exact ⟨u,k b u hbe q⟩
end
noncomputable def trk (h:Heap) (H:Hp):List Addr:=(wV h.objs.size).filter fun a=>(H a).isSome
noncomputable def qHe (h:Heap) (H:Hp):Heap:=PySem.W.hideAll h (trk h H)
theorem qGa (h:Heap) (H:Hp):(qHe h H).objs.size=h.objs.size:=PySem.W.hideAll_size _ _
theorem qHK {h:Heap} {H:Hp} {b:Addr} {o:Obj} (e:h.get? b=some o) (n:H b=none):(qHe h H).get? b=some o:=
 PySem.W.hideAll_get _ e fun hm=>by
  have q:(H b).isSome=true:=(zH.mp hm).2
  rw [n] at q; simp at q
theorem qJ2 {h:Heap} {H:Hp} {b:Addr} {o:Obj} (e:(qHe h H).get? b=some o):h.get? b=some o/\H b=none:=by
 have e':h.get? b=some o:=PySem.W.of_hideAll (trk h H) e
 refine ⟨e',?_⟩
 cases q:H b with
 | none=>rfl
 | some x=>
  have hm:b∈trk h H:=zH.mpr ⟨zY.mpr (zN e'),by simp [q]⟩
  have z:(qHe h H).get? b=none:=PySem.W.hideAll_none (trk h H) hm
  rw [z] at e; cases e
noncomputable def qJB (g h:Heap) (L:Addr):List (Addr×Obj):=(wV h.objs.size).filterMap fun a=>if a=L\/(g.get? a).isSome=true then none else (h.get? a).map fun o=>(a,o)
noncomputable def rest (g h:Heap) (L d:Addr):List (Addr×Obj):=(qJB g h L).filter fun p=>decide (p.1≠d)
structure Mod (K:wJ) (mg:Str->Option Value) (base:Heap):Prop where
 kin:K.In base
 glob:base.Ns mainGlobals mg
 blt:∃ mb,base.Ns builtinsNs mb/\∀ x:Str,x≠"__name__"->mb x=bootBuiltins x
 nolimit:base.NoLimit
structure Cx where
 prog:Program
 w:World
 K:wJ
 mg:Str->Option Value
 base:Heap
 A:Around
 N:List Str
 s₀:Shared
 H₀:Hp
 env:Env
 outer:List Env
 stack:List Env
 ex:List Addr
 fn:Str->Bool
 calm:Bool
 pn:List (Addr×Obj)
 xe:Value->Shared->Prop
noncomputable def frs (l:List Env):List Addr:=l.filterMap (·.frame)
noncomputable abbrev Cx.fs (X:Cx):List Addr:=frs X.outer
noncomputable def Vis (sc:Scope) (x:Str):Prop:=sc.names.lookup x=some .local\/sc.names.lookup x=some .cell\/sc.names.lookup x=some .free
noncomputable def Loc (sc:Scope) (x:Str):Prop:=sc.names.lookup x=some .local\/sc.names.lookup x=some .cell
noncomputable def Look (env:Env) (h:Heap) (m:Str->Option Value) (x:Str) (u:Value):Prop:=
 (env.kindOf x=some .local/\m x=some u)\/((env.kindOf x=some .cell\/env.kindOf x=some .free)/\∃ c,env.cells.lookup x=some c/\h.IsCell c (some u))
structure Cx.Ok (X:Cx):Prop where
 mod:Mod X.K X.mg X.base
 kind:X.env.scope.kind=.function
 glob:X.env.globals=mainGlobals
 blt:X.env.builtins=builtinsNs
 above:X.s₀.heap.objs.size<=X.env.locals
 inj:∀ x y c,X.env.cells.lookup x=some c->X.env.cells.lookup y=some c->x=y
 has:∀ x,(X.env.kindOf x=some .cell\/X.env.kindOf x=some .free)->∃ c,X.env.cells.lookup x=some c
 cab:∀ x c,X.fn x=true->X.env.cells.lookup x=some c->X.s₀.heap.objs.size<=c
 hd:X.calm=true->X.A.handled=none
 frames:X.A.frames=some X.stack
 stk:X.stack=X.outer\/(X.stack=X.env::X.outer/\X.env.frame=some X.env.locals)
 exf:∀ b∈X.ex,b≠X.env.locals/\∀ x c,X.env.cells.lookup x=some c->c≠b
 bs:∀ b o,X.base.get? b=some o->X.s₀.heap.get? b=some o/\X.H₀ b=none
 bsz:X.base.objs.size<=X.s₀.heap.objs.size
 noex:∀ b o,X.base.get? b=some o->b∉X.ex
 exfs:∀ b∈X.ex,b∉X.fs
 funs:X.s₀.heap.FunFrames X.base X.outer
 frf:∀ b∈X.fs,X.H₀ b=none
structure Inv (X:Cx) (pins:List (Addr×Obj)) (σ:List (Option V)) (H:Hp) (s:Shared):Prop where
 ok:X.Ok
 os:s.os=X.s₀.os
 bare:AllBare s.gens
 base:Un X.fs X.ex X.H₀ H X.s₀.heap s.heap
 loc:∃ m,s.heap.Ns X.env.locals m/\∀(i:Nat) (x:Str) (v:V),X.N[i]? = some x->σ[i]? = some (some v)->Vis X.env.scope x->∃ u,RelV v u/\Look X.env s.heap m x u
 cell:∀ x c,X.env.cells.lookup x=some c->∃ v,s.heap.IsCell c v
 free:H X.env.locals=none
 freeC:∀ x c,X.env.cells.lookup x=some c->H c=none
 pin:∀ p∈X.pn++pins,s.heap.get? p.1=some p.2/\H p.1=none/\p.1≠X.env.locals/\p.1∉X.fs/\∀ v,p.2.data≠.cell v
 hok:HOk X.prog X.w H s.heap
 len:σ.length=X.N.length
section
variable {X:Cx} {pins:List (Addr×Obj)} {σ:List (Option V)} {H H':Hp} {s:Shared} {h':Heap}
theorem Cx.Ok.nofr (ok:X.Ok) {b:Addr} {o:Obj} (e:X.base.get? b=some o):b∉X.fs:=fun hb=>by
 have:=(ok.funs.mem hb).1
 rw [e] at this; cases this
theorem Inv.bs (I:Inv X pins σ H s):∀ b o,X.base.get? b=some o->s.heap.get? b=some o/\H b=none:=fun b o e=>
 ⟨I.base.keep b o (I.ok.bs b o e).1 (I.ok.bs b o e).2 (I.ok.nofr e) (I.ok.noex b o e),I.base.free b o (I.ok.bs b o e).1 (I.ok.bs b o e).2 (I.ok.noex b o e)⟩
theorem Inv.bk (I:Inv X pins σ H s):∀ b o,X.base.get? b=some o->s.heap.get? b=some o:=fun b o e=>(I.bs b o e).1
theorem Inv.mod (I:Inv X pins σ H s):Mod X.K X.mg X.base:=I.ok.mod
theorem Inv.kIn (I:Inv X pins σ H s):X.K.In s.heap:=I.ok.mod.kin.keeps I.bk
theorem Inv.lt (I:Inv X pins σ H s):X.env.locals<s.heap.objs.size:=let ⟨_,hn,_⟩:=I.loc; hn.lt
theorem Inv.sz (I:Inv X pins σ H s):X.s₀.heap.objs.size<=s.heap.objs.size:=zO I.ok.above (vI I.lt)
theorem Inv.nofs (I:Inv X pins σ H s) {a:Addr} (h:s.heap.objs.size<=a):a∉X.fs:=fun hb=>by
 obtain ⟨_,o,ho,_⟩:=I.ok.funs.mem hb
 exact absurd (zV (zN ho) (zO I.sz h)) (vY _)
theorem Inv.cne (I:Inv X pins σ H s):∀ x c,X.env.cells.lookup x=some c->c≠X.env.locals:=fun x c e z=>by
 obtain ⟨v,o,ho,hd⟩:=I.cell x c e
 obtain ⟨m,⟨o',es,ep,ho',hd',_⟩,_⟩:=I.loc
 rw [z,ho'] at ho; cases ho; rw [hd'] at hd; cases hd
theorem Inv.funs (I:Inv X pins σ H s):s.heap.FunFrames X.base X.outer:=by
 have all:∀(l:List Env),(∀ b∈frs l,b∈X.fs)->X.s₀.heap.FunFrames X.base l->s.heap.FunFrames X.base l:=by
  intro l
  induction l with
  | nil=>intro _ _; trivial
  | cons env r ih=>
   intro hs hl
   obtain ⟨hk,⟨L,o,hf,hn,ho,hd⟩,hr⟩:=hl
   have hL:L∈X.fs:=hs L (by unfold frs; rw [uX,hf]; exact wF)
   obtain ⟨sl,e⟩:=I.base.slot L o ho (I.ok.frf L hL) hL fun z=>I.ok.exfs L z hL
   exact ⟨hk,⟨L,_,hf,hn,e,hd⟩,ih (fun b hb=>hs b (by unfold frs; rw [uX,hf]; exact wN _ hb)) hr⟩
 exact all X.outer (fun _ hb=>hb) I.ok.funs
theorem Inv.stack (I:Inv X pins σ H s):s.heap.FunFrames X.base X.stack:=by
 rcases I.ok.stk with e | ⟨e,hf⟩
 ·rw [e]; exact I.funs
 ·rw [e]
  obtain ⟨m,hn,_⟩:=I.loc
  refine .cons (by rw [I.ok.kind]; decide) hf hn ?_ I.funs
  exact Heap.get?_none_of_le (zO I.ok.bsz I.ok.above)
theorem Inv.stkSub (I:Inv X pins σ H s):∀ b∈frs X.stack,b∈X.env.locals::X.fs:=fun b hb=>by
 rcases I.ok.stk with e | ⟨e,hf⟩
 ·rw [e] at hb; exact wN _ hb
 ·rw [e] at hb
  unfold frs at hb
  rw [uX,hf] at hb
  exact hb
theorem Inv.stkFree (I:Inv X pins σ H s):∀ b∈frs X.stack,H b=none:=fun b hb=>by
 rcases wM.mp (I.stkSub b hb) with e | hb
 ·rw [e]; exact I.free
 ·obtain ⟨_,o,ho,_⟩:=I.ok.funs.mem hb
  exact I.base.free b o ho (I.ok.frf b hb) fun z=>I.ok.exfs b z hb
theorem Inv.step {g':Array GenState} {t':Nat} {d':Drawn} {ch:List Addr} (I:Inv X pins σ H s)
  (hch:∀ b∈ch,(b∈X.ex\/X.s₀.heap.objs.size<=b)/\b≠X.env.locals/\(∀ x c,X.env.cells.lookup x=some c->c≠b)/\∀ p∈X.pn++pins,p.1≠b)
  (keep:∀ b o,b≠X.env.locals->b∉X.fs->b∉ch->s.heap.get? b=some o->H b=none->h'.get? b=some o)
  (slot:∀ b o,b≠X.env.locals->b∈X.fs->b∉ch->s.heap.get? b=some o->H b=none->∃ sl,h'.get? b=some { o with slots:=sl }) (free:∀ b o,b∉ch->s.heap.get? b=some o->H b=none->H' b=none)
  (there:∀ b o,b∉ch->s.heap.get? b=some o->∃ o',h'.get? b=some o')
  (tups:∀ b xs,H b=some (.tup xs)->H' b=some (.tup xs)) (frzs:∀ b o u,H b=some (.frz o u)->H' b=some (.frz o u)) (tbls:∀ b ps,H b=some (.tbl ps)->∃ more,H' b=some (.tbl (ps++more)))
  (ns:∀ m,s.heap.Ns X.env.locals m->h'.Ns X.env.locals m) (hok:HOk X.prog X.w H' h') (hg:AllBare g') :
  Inv X pins σ H' { s with heap:=h',gens:=g',drawn:=d',toks:=t' }:=by
 have neL:∀ b o,X.s₀.heap.get? b=some o->b≠X.env.locals:=fun b o e=>yE (zV (zN e) I.ok.above)
 have neC:∀ b o,X.s₀.heap.get? b=some o->b∉X.ex->b∉ch:=fun b o e hx hb=>by
  rcases (hch b hb).1 with z | z
  ·exact hx z
  ·exact absurd (zV (zN e) z) (vY _)
 have cellK:∀ x c,X.env.cells.lookup x=some c->∀ v,s.heap.IsCell c v->h'.IsCell c v:=fun x c e v ⟨o,ho,hd⟩=>by
  have nch:c∉ch:=fun z=>(hch c z).2.2.1 x c e rfl
  by_cases hc:c∈X.fs
  ·obtain ⟨sl,q⟩:=slot c o (I.cne x c e) hc nch ho (I.freeC x c e)
   exact ⟨_,q,hd⟩
  ·exact ⟨o,keep c o (I.cne x c e) hc nch ho (I.freeC x c e),hd⟩
 refine ⟨I.ok,I.os,hg,⟨fun b o e n hb hx=>?_,fun b o e n hb hx=>?_,fun b o e n hx=>?_,fun b o e hx=>?_,fun b xs e=>tups b xs (I.base.tups b xs e),fun b o xs e=>frzs b o xs (I.base.frzs b o xs e),fun b ps e=>?_⟩,?_,fun x c e=>?_,?_,fun x c e=>?_,fun p hp=>?_,hok,I.len⟩
 ·exact keep b o (neL b o e) hb (neC b o e hx) (I.base.keep b o e n hb hx) (I.base.free b o e n hx)
 ·obtain ⟨sl,e1⟩:=I.base.slot b o e n hb hx
  obtain ⟨sl',e2⟩:=slot b _ (neL b o e) hb (neC b o e hx) e1 (I.base.free b o e n hx)
  exact ⟨sl',e2⟩
 ·obtain ⟨o',e1⟩:=I.base.there b o e hx
  exact free b o' (neC b o e hx) e1 (I.base.free b o e n hx)
 ·obtain ⟨o',e1⟩:=I.base.there b o e hx
  exact there b o' (neC b o e hx) e1
 ·obtain ⟨m1,e1⟩:=I.base.tbls b ps e
  obtain ⟨m2,e2⟩:=tbls b _ e1
  exact ⟨m1++m2,by rw [e2,Array.append_assoc]⟩
 ·obtain ⟨m,hn,hl⟩:=I.loc
  refine ⟨m,ns m hn,fun i x v e1 e2 e3=>?_⟩
  obtain ⟨u,r,l⟩:=hl i x v e1 e2 e3
  refine ⟨u,r,?_⟩
  rcases l with l | ⟨k,c,e,z⟩
  ·exact .inl l
  ·exact .inr ⟨k,c,e,cellK x c e _ z⟩
 ·obtain ⟨v,z⟩:=I.cell x c e
  exact ⟨v,cellK x c e v z⟩
 ·obtain ⟨m,⟨o,_,_,ho,_⟩,_⟩:=I.loc
  exact free _ o (fun z=>(hch _ z).2.1 rfl) ho I.free
 ·obtain ⟨v,o,ho,hd⟩:=I.cell x c e
  exact free c o (fun z=>(hch c z).2.2.1 x c e rfl) ho (I.freeC x c e)
 ·obtain ⟨e,n,ne,nf,d⟩:=I.pin p hp
  have nch:p.1∉ch:=fun z=>(hch p.1 z).2.2.2 p hp rfl
  exact ⟨keep p.1 p.2 ne nf nch e n,free p.1 p.2 nch e n,ne,nf,d⟩
theorem Inv.un {t':Nat} (I:Inv X pins σ H s) (u:Un X.fs [] H H' s.heap h') (hok:HOk X.prog X.w H' h'):Inv X pins σ H' { s with heap:=h',toks:=t' }:=by
 obtain ⟨m,⟨o,es,ep,ho,r⟩,_⟩:=id I.loc
 obtain ⟨sl,hL⟩:=u.any ho I.free (by simp)
 exact I.step (g':=s.gens) (d':=s.drawn) (ch:=[]) (fun _ z=>nomatch z) (fun b o _ hb _ e n=>u.keep b o e n hb (by simp)) (fun b o _ hb _ e n=>u.slot b o e n hb (by simp)) (fun b o _ e n=>u.free b o e n (by simp)) (fun b o _ e=>u.there b o e (by simp)) u.tups u.frzs u.tbls (fun m' hm=>by
  obtain ⟨o',es',ep',ho',r'⟩:=hm
  rw [ho] at ho'; cases ho'
  exact ⟨_,es',ep',hL,r'⟩) hok I.bare
theorem Inv.call {g':Array GenState} {t':Nat} {d':Drawn} {ch:List Addr} (I:Inv X pins σ H s) (u:Un (frs X.stack) ch H H' s.heap h') (hok:HOk X.prog X.w H' h') (hg:AllBare g')
  (hch:∀ b∈ch,(b∈X.ex\/X.s₀.heap.objs.size<=b)/\b≠X.env.locals/\(∀ x c,X.env.cells.lookup x=some c->c≠b)/\∀ p∈X.pn++pins,p.1≠b) :
  Inv X pins σ H' { s with heap:=h',gens:=g',drawn:=d',toks:=t' }:=by
 obtain ⟨m,⟨o,es,ep,ho,r⟩,_⟩:=id I.loc
 obtain ⟨sl,hL⟩:=u.any ho I.free fun z=>(hch _ z).2.1 rfl
 exact I.step (ch:=ch) hch (fun b o hL hb hc e n=>u.keep b o e n (fun z=>(wM.mp (I.stkSub b z)).elim hL hb) hc) (fun b o _ _ hc e n=>u.any e n hc) (fun b o hc e n=>u.free b o e n hc) (fun b o hc e=>u.there b o e hc) u.tups u.frzs u.tbls (fun m' hm=>by
  obtain ⟨o',es',ep',ho',r'⟩:=hm
  rw [ho] at ho'; cases ho'
  exact ⟨_,es',ep',hL,r'⟩) hok hg
theorem Inv.turned {t':Nat} {it:Addr} (I:Inv X pins σ H s) (k:∀ b o,b≠it->s.heap.get? b=some o->h'.get? b=some o) (hn:H it=none) (hL:it≠X.env.locals)
  (h1:it∈X.ex\/X.s₀.heap.objs.size<=it) (h2:∀ x c,X.env.cells.lookup x=some c->c≠it) (h3:∀ p∈X.pn++pins,p.1≠it):Inv X pins σ H { s with heap:=h',toks:=t' }:=by
 have nit:∀ b u,H b=some u->b≠it:=fun b u e z=>by rw [z,hn] at e; cases e
 refine I.step (g':=s.gens) (d':=s.drawn) (ch:=[it]) (fun b hb=>?_) (fun b o _ _ hc e _=>k b o (fun z=>hc (by simp [z])) e) (fun b o _ _ hc e _=>⟨o.slots,k b o (fun z=>hc (by simp [z])) e⟩) (fun _ _ _ _ n=>n)
  (fun b o hc e=>⟨o,k b o (fun z=>hc (by simp [z])) e⟩) (fun _ _ e=>e) (fun _ _ _ e=>e) (fun b ps e=>⟨#[],by rw [e]; simp⟩) (fun m hm=>?_) (fun b u e=>?_) I.bare
 ·have e:b=it:=by simpa using hb
  subst e
  exact ⟨h1,hL,h2,h3⟩
 ·obtain ⟨o,es,ep,ho,r⟩:=hm
  exact ⟨o,es,ep,k _ o (WD hL) ho,r⟩
 ·refine (I.hok b u e).stay (fun c v hc q=>k c v ?_ q) (fun _ q=>q) fun _ _ q=>q
  rcases hc with z | z
  ·rw [z]; exact nit b u e
  ·exact nit c _ z
theorem Inv.tok (I:Inv X pins σ H s) (t:Nat):Inv X pins σ H { s with toks:=t }:=I.un (h':=s.heap) (t':=t) Un.refl I.hok
theorem Inv.kept {t':Nat} (I:Inv X pins σ H s) (k:∀ b u,s.heap.get? b=some u->h'.get? b=some u):Inv X pins σ H { s with heap:=h',toks:=t' }:=I.un (Un.kept k) (I.hok.kept k)
theorem Inv.laid {a:Addr} {o:HO} {t':Nat} (I:Inv X pins σ H s) (k:∀ b u,s.heap.get? b=some u->h'.get? b=some u) (hp:s.heap.objs.size<=a) (new:QS X.prog X.w (upd H a o) h' a o) :
  Inv X pins σ (upd H a o) { s with heap:=h',toks:=t' }:=I.un (Un.laid k hp (I.hok.fresh hp)) (I.hok.laid k hp new)
theorem Inv.write {x e:Addr} {o:HO} {t':Nat} (I:Inv X pins σ H s) (mu:Mut (H x)) (he:e=x\/H e=some (.own x)) (k:∀ b u,b≠e->s.heap.get? b=some u->h'.get? b=some u) (heo:∃ u,h'.get? e=some u)
  (new:QS X.prog X.w (upd H x o) h' x o):Inv X pins σ (upd H x o) { s with heap:=h',toks:=t' }:=I.un (Un.write mu he k heo) (I.hok.write mu he k heo new)
theorem Inv.pins_of {pins':List (Addr×Obj)} (I:Inv X pins σ H s) (h:∀ p∈pins',s.heap.get? p.1=some p.2/\H p.1=none/\p.1≠X.env.locals/\p.1∉X.fs/\∀ v,p.2.data≠.cell v):Inv X pins' σ H s:=
 ⟨I.ok,I.os,I.bare,I.base,I.loc,I.cell,I.free,I.freeC,fun p hp=>(zG.mp hp).elim (fun z=>I.pin p (zS _ z)) (h p),I.hok,I.len⟩
theorem qDz {N:List Str} (hN:N.Nodup) {i j:Nat} {x:Str} (a:N[i]? = some x) (b:N[j]? = some x):i=j:=by
 obtain ⟨h1,e1⟩:=wI.mp a
 obtain ⟨h2,e2⟩:=wI.mp b
 exact (VL hN).mp (e1.trans e2.symm)
theorem qBi {M:Model} {A:Around} {E:Value->Shared->Prop} {i:Nat} {x:Str} {v:V} {u:Value} {Q:Unit->Shared->Prop} (I:Inv X pins σ H s) (hN:X.N.Nodup) (hi:X.N[i]? = some x) (hx:Loc X.env.scope x) (r:RelV v u)
  (h:∀ s',Inv X pins (σ.set i (some v)) H s'->(∃ a,fB a s.heap s'.heap/\(a=X.env.locals\/X.env.cells.lookup x=some a))->Q () s') (hf:X.fn x=true\/X.env.scope.names.lookup x=some .local:=by first | exact .inl rfl | exact .inr rfl | assumption):wpAny M A (storeName X.env x u) Q E s:=by
 obtain ⟨m,hn,hl⟩:=id I.loc
 have hcls:(X.env.scope.kind == .class || (X.env.scope.kind == .module && X.env.locals != X.env.globals))=false:=by rw [I.ok.kind]; rfl
 have hiσ:i<σ.length:=by rw [I.len]; exact (wI.mp hi).1
 have cne:=I.cne
 have tracked:∀{a:Addr} {h':Heap},(∃ o,s.heap.get? a=some o/\H a=none)->fB a s.heap h'->HOk X.prog X.w H h':=fun {a h'} ha hs b ob e=>by
  obtain ⟨_,_,hfree⟩:=ha
  refine (I.hok b ob e).stay (fun c w' hc q=>(hs.2 c ?_).trans q) (fun _ q=>q) fun _ _ q=>q
  rintro rfl
  rcases hc with rfl | hc
  ·rw [hfree] at e; cases e
  ·rw [hfree] at hc; cases hc
 rcases hx with hk | hk
 ·refine wpAny_storeName_local hk hn (fun h' hn' hs=>?_) hcls
  obtain ⟨oL,_,_,hoL,_⟩:=id hn
  refine h _ ⟨I.ok,I.os,I.bare,⟨fun b o e n hb hx=>?_,fun b o e n hb hx=>?_,I.base.free,fun b o e hx=>?_,I.base.tups,I.base.frzs,I.base.tbls⟩,⟨_,hn',fun j y v' e1 e2 e3=>?_⟩,fun y c e=>?_,I.free,I.freeC,fun p hp=>?_,tracked ⟨oL,hoL,I.free⟩ hs,by simpa using I.len⟩ ⟨_,hs,.inl rfl⟩
  ·exact (hs.2 b (yE (zV (zN e) I.ok.above))).trans (I.base.keep b o e n hb hx)
  ·obtain ⟨sl,e1⟩:=I.base.slot b o e n hb hx
   exact ⟨sl,(hs.2 b (yE (zV (zN e) I.ok.above))).trans e1⟩
  ·obtain ⟨o',e1⟩:=I.base.there b o e hx
   exact ⟨o',(hs.2 b (yE (zV (zN e) I.ok.above))).trans e1⟩
  ·by_cases hj:j=i
   ·subst hj
    rw [hi] at e1; cases e1
    rw [List.getElem?_set_self hiσ] at e2
    cases e2
    exact ⟨u,r,.inl ⟨hk,by simp⟩⟩
   ·rw [List.getElem?_set_ne (WD hj)] at e2
    obtain ⟨u',r',q⟩:=hl j y v' e1 e2 e3
    refine ⟨u',r',?_⟩
    rcases q with ⟨k,e⟩ | ⟨k,c,e,z⟩
    ·refine .inl ⟨k,?_⟩
     have:y≠x:=fun e=>hj (qDz hN e1 (e ▸ hi))
     simp [this,e]
    ·exact .inr ⟨k,c,e,z.sameBut hs (cne y c e)⟩
  ·obtain ⟨w',z⟩:=I.cell y c e
   exact ⟨w',z.sameBut hs (cne y c e)⟩
  ·obtain ⟨e,n,ne,nf,d⟩:=I.pin p hp
   exact ⟨(hs.2 p.1 ne).trans e,n,ne,nf,d⟩
 ·have hfn:X.fn x=true:=by
   rcases hf with z | z
   ·exact z
   ·rw [z] at hk; cases hk
  obtain ⟨c,hc⟩:=I.ok.has x (.inl hk)
  obtain ⟨w',z⟩:=I.cell x c hc
  refine wpAny_storeName_cell I.ok.kind hk hc z (fun h' hc' hs=>?_)
  obtain ⟨oc,hoc,hocd⟩:=id z
  refine h { s with heap:=h' } ⟨I.ok,I.os,I.bare,⟨fun b o e n hb hx=>?_,fun b o e n hb hx=>?_,I.base.free,fun b o e hx=>?_,I.base.tups,I.base.frzs,I.base.tbls⟩,⟨m,hn.sameBut hs (WD (cne x c hc)),fun j y v' e1 e2 e3=>?_⟩,fun y c' e=>?_,I.free,I.freeC,fun p hp=>?_,tracked ⟨oc,hoc,I.freeC x c hc⟩ hs,by simpa using I.len⟩ ⟨c,hs,.inr hc⟩
  ·exact (hs.2 b (yE (zV (zN e) (I.ok.cab x c hfn hc)))).trans (I.base.keep b o e n hb hx)
  ·obtain ⟨sl,e1⟩:=I.base.slot b o e n hb hx
   exact ⟨sl,(hs.2 b (yE (zV (zN e) (I.ok.cab x c hfn hc)))).trans e1⟩
  ·obtain ⟨o',e1⟩:=I.base.there b o e hx
   exact ⟨o',(hs.2 b (yE (zV (zN e) (I.ok.cab x c hfn hc)))).trans e1⟩
  ·by_cases hj:j=i
   ·subst hj
    rw [hi] at e1; cases e1
    rw [List.getElem?_set_self hiσ] at e2
    cases e2
    exact ⟨u,r,.inr ⟨.inl hk,c,hc,hc'⟩⟩
   ·rw [List.getElem?_set_ne (WD hj)] at e2
    obtain ⟨u',r',q⟩:=hl j y v' e1 e2 e3
    refine ⟨u',r',?_⟩
    rcases q with q | ⟨k,c',e,z'⟩
    ·exact .inl q
    ·refine .inr ⟨k,c',e,z'.sameBut hs ?_⟩
     rintro rfl
     exact hj (qDz hN e1 (I.ok.inj _ _ _ e hc ▸ hi))
  ·by_cases hcc:c'=c
   ·subst hcc; exact ⟨_,hc'⟩
   ·obtain ⟨w2,z2⟩:=I.cell y c' e
    exact ⟨w2,z2.sameBut hs hcc⟩
  ·obtain ⟨e,n,ne,nf,d⟩:=I.pin p hp
   refine ⟨(hs.2 p.1 ?_).trans e,n,ne,nf,d⟩
   intro q
   rw [q,hoc] at e
   have q':oc=p.2:=zQ e
   exact d w' (by rw [<- q']; exact hocd)
theorem qA3 {M:Model} {A:Around} {E:Value->Shared->Prop} {i:Nat} {x:Str} {v:V} {u:Value} {Q:Unit->Shared->Prop} (I:Inv X pins σ H s) (hN:X.N.Nodup) (hi:X.N[i]? = some x) (hx:Loc X.env.scope x) (r:RelV v u)
  (h:∀ s',Inv X pins (σ.set i (some v)) H s'->Q () s') (hf:X.fn x=true\/X.env.scope.names.lookup x=some .local:=by first | exact .inl rfl | exact .inr rfl | assumption):wpAny M A (storeName X.env x u) Q E s:=
 qBi I hN hi hx r (fun s' I' _=>h s' I') hf
theorem Inv.call' {s':Shared} {ch:List Addr} (I:Inv X pins σ H s) (ho:s'.os=s.os) (u:Un (frs X.stack) ch H H' s.heap s'.heap) (hok:HOk X.prog X.w H' s'.heap) (hg:AllBare s'.gens)
  (hch:∀ b∈ch,(b∈X.ex\/X.s₀.heap.objs.size<=b)/\b≠X.env.locals/\(∀ x c,X.env.cells.lookup x=some c->c≠b)/\∀ p∈X.pn++pins,p.1≠b):Inv X pins σ H' s':=by
 obtain ⟨h',g',d',t',o'⟩:=s'
 have e:o'=s.os:=ho
 subst e
 exact I.call (g':=g') (t':=t') (d':=d') u hok hg hch
end
noncomputable abbrev XK:=Value->Option Addr->Hp->Prop
noncomputable abbrev St:=List (Option V)
noncomputable abbrev VK:=V->Hp->Prop
noncomputable abbrev TE:=St->Hp->VK->Prop
noncomputable abbrev TT:=St->Hp->(Bool->Hp->Prop)->Prop
noncomputable abbrev TA:=St->Hp->(List V->Hp->Prop)->Prop
structure Ends where
 nx:St->Hp->Prop
 rt:VK
 bk:St->Hp->Prop:=fun _ _=>False
 ct:St->Hp->Prop:=fun _ _=>False
noncomputable abbrev TS:=Ends->St->Hp->Prop
noncomputable def EP (X:Cx) (pins:List (Addr×Obj)) (σ:St) (Q:VK) (u:Value) (s':Shared):Prop:=∃ v H',Inv X pins σ H' s'/\RelV v u/\Q v H'
noncomputable def TP (X:Cx) (pins:List (Addr×Obj)) (σ:St) (Q:Bool->Hp->Prop) (b:Bool) (s':Shared):Prop:=∃ H',Inv X pins σ H' s'/\Q b H'
noncomputable def AP (X:Cx) (pins:List (Addr×Obj)) (σ:St) (Q:List V->Hp->Prop) (us:List Value) (s':Shared):Prop:=∃ vs H',Inv X pins σ H' s'/\jB vs us/\Q vs H'
noncomputable def SP (X:Cx) (pins:List (Addr×Obj)) (D:Ends) (f:Flow) (s':Shared):Prop:=
 match f with
 | .next=>∃ σ' H',Inv X pins σ' H' s'/\D.nx σ' H'
 | .brk=>∃ σ' H',Inv X pins σ' H' s'/\D.bk σ' H'
 | .cont=>∃ σ' H',Inv X pins σ' H' s'/\D.ct σ' H'
 | .ret u=>∃ v σ' H',Inv X pins σ' H' s'/\RelV v u/\D.rt v H'
noncomputable def PE (X:Cx) (e:Expr) (t:TE):Prop:=
 ∀(pins:List (Addr×Obj)) (s:Shared) (σ:St) (H:Hp) (Q:VK),Inv X pins σ H s->t σ H Q->wpAny (model X.prog X.w) X.A (eval e X.env) (EP X pins σ Q) X.xe s
noncomputable def PT (X:Cx) (e:Expr) (t:TT):Prop:=
 ∀(pins:List (Addr×Obj)) (s:Shared) (σ:St) (H:Hp) (Q:Bool->Hp->Prop),Inv X pins σ H s->t σ H Q->wpAny (model X.prog X.w) X.A (isTrue e X.env (eval e X.env)) (TP X pins σ Q) X.xe s
noncomputable def PW (X:Cx) (e:Expr) (t:TT):Prop:=
 ∀(whole:Sem Value) (pins:List (Addr×Obj)) (s:Shared) (σ:St) (H:Hp) (Q:Bool->Hp->Prop),Inv X pins σ H s->t σ H Q->wpAny (model X.prog X.w) X.A (isTrue e X.env whole) (TP X pins σ Q) X.xe s
theorem PW.pt {X:Cx} {e:Expr} {t:TT} (h:PW X e t):PT X e t:=h _
noncomputable def PA (X:Cx) (es:List Expr) (t:TA):Prop:=
 ∀(pos:Pos) (pins:List (Addr×Obj)) (s:Shared) (σ:St) (H:Hp) (Q:List V->Hp->Prop),Inv X pins σ H s->t σ H Q->wpAny (model X.prog X.w) X.A (spliced (backTo pos (starEach es X.env))) (AP X pins σ Q) X.xe s
noncomputable def PS (X:Cx) (st:Stmt) (t:TS):Prop:=
 ∀(pins:List (Addr×Obj)) (s:Shared) (σ:St) (H:Hp) (D:Ends),Inv X pins σ H s->t D σ H->wpAny (model X.prog X.w) X.A (exec st X.env) (SP X pins D) X.xe s
noncomputable def PSs (X:Cx) (st:List Stmt) (t:TS):Prop:=
 ∀(pins:List (Addr×Obj)) (s:Shared) (σ:St) (H:Hp) (D:Ends),Inv X pins σ H s->t D σ H->wpAny (model X.prog X.w) X.A (execs st X.env) (SP X pins D) X.xe s
theorem thn {α:Type} {t:Sem α} {Q Q':α->Shared->Prop} {M:Model} {A:Around} {E:Value->Shared->Prop} {s:Shared} (h:wpAny M A t Q E s) (hQ:∀ a s,Q a s->Q' a s):wpAny M A t Q' E s:=uV h hQ fun _ _ x=>x
section
variable {X:Cx}
theorem bin {a b:Expr} {ta tb:TE} (ha:PE X a ta) (hb:PE X b tb) {pins:List (Addr×Obj)} {s:Shared} {σ:St} {H:Hp} {R:V->V->Hp->Prop} (I:Inv X pins σ H s) (h:ta σ H fun x H1=>tb σ H1 fun y H2=>R x y H2)
  {α:Type} {Q:α->Shared->Prop} {f:Value->Value->Sem α}
  (hf:∀ v u s2 x y H2,Inv X pins σ H2 s2->RelV x v->RelV y u->R x y H2->wpAny (model X.prog X.w) X.A (f v u) Q X.xe s2) :
  wpAny (model X.prog X.w) X.A (eval a X.env) (fun v s₁=>wpAny (model X.prog X.w) X.A (eval b X.env) (fun u s₂=>wpAny (model X.prog X.w) X.A (f v u) Q X.xe s₂) X.xe s₁) X.xe s:=by
 refine thn (ha pins s σ H _ I h) fun v s1 ⟨x,H1,I1,r1,q1⟩=>?_
 refine thn (hb pins s1 σ H1 _ I1 q1) fun u s2 ⟨y,H2,I2,r2,q2⟩=>?_
 exact hf v u s2 x y H2 I2 r1 r2 q2
noncomputable def qIn (i:Nat):TE:=fun σ H Q=>∃ v,σ[i]? = some (some v)/\Q v H
noncomputable def tC (v:V):TE:=fun _ H Q=>Q v H
theorem qKI {i:Nat} {x:Str} {pos:Pos} (hN:X.N[i]? = some x) (hv:Vis X.env.scope x) (hd:(x == ("__debug__" : Str))=false:=by decide) (hcd:(x == ("__classdict__" : Str))=false:=by decide):PE X (.Name x pos) (qIn i):=by
 intro pins s σ H Q I h
 obtain ⟨v,e,h⟩:=h
 obtain ⟨m,hn,hl⟩:=I.loc
 obtain ⟨u,r,l⟩:=hl i x v hN e hv
 have fin:EP X pins σ Q u s:=⟨v,H,I,r,h⟩
 rcases l with ⟨hk,hm⟩ | ⟨hk,c,hc,hcell⟩
 ·exact wpAny_Name (wpAny_loadName_local I.ok.kind hk hn hm fin) hd
 ·rcases hk with hk | hk
  ·exact wpAny_Name (wpAny_loadName_cell I.ok.kind hk hc hcell fin) hd
  ·exact wpAny_Name (wpAny_loadName_free I.ok.kind hk hc hcell fin hcd) hd
theorem qD {i j pos}:PE X (.Constant (.int i) j pos) (tC (.int i)):=fun _ _ _ H _ I h=>wpAny_Constant_int ⟨.int i,H,I.tok _,⟨_,rfl⟩,h⟩
theorem QG {b j pos}:PE X (.Constant (.bool b) j pos) (tC (.bl b)):=fun _ _ _ H _ I h=>Constant_bool ⟨.bl b,H,I,rfl,h⟩
theorem qId {j pos}:PE X (.Constant .none j pos) (tC .non):=fun _ _ _ H _ I h=>Constant_none ⟨.non,H,I,rfl,h⟩
theorem JA {x j pos}:PE X (.Constant (.str x) j pos) (tC (.str x)):=fun _ _ _ H _ I h=>Calls.Constant_str ⟨.str x,H,I.tok _,⟨_,rfl⟩,h⟩
noncomputable def Gl (X:Cx) (x:Str):Prop:=X.env.kindOf x=some .globalImplicit
theorem qJu {E:Value->Shared->Prop} {pins:List (Addr×Obj)} {s:Shared} {σ:St} {H:Hp} {x:Str} {u:Value} {pos:Pos} {Q:Value->Shared->Prop} (I:Inv X pins σ H s) (hg:Gl X x) (hm:X.mg x=some u) (h:Q u s)
  (hd:(x == ("__debug__" : Str))=false:=by decide):wpAny (model X.prog X.w) X.A (eval (.Name x pos) X.env) Q E s:=
 UF I.ok.kind hg (Calls.loadGlobal_global (by rw [I.ok.glob]; exact I.mod.glob.keeps I.bk) hm h) hd
theorem J3 {E:Value->Shared->Prop} {pins:List (Addr×Obj)} {s:Shared} {σ:St} {H:Hp} {x:Str} {u:Value} {pos:Pos} {Q:Value->Shared->Prop} (I:Inv X pins σ H s) (hg:Gl X x) (hm:X.mg x=none) (hv:bootBuiltins x=some u) (h:Q u s)
  (hn:x≠"__name__":=by decide) (hd:(x == ("__debug__" : Str))=false:=by decide):wpAny (model X.prog X.w) X.A (eval (.Name x pos) X.env) Q E s:=by
 obtain ⟨mb,h1,h2⟩:=I.mod.blt
 exact UF I.ok.kind hg (Calls.loadGlobal_builtin (by rw [I.ok.glob]; exact I.mod.glob.keeps I.bk) hm (by rw [I.ok.blt]; exact h1.keeps I.bk) ((h2 x hn).trans hv) h) hd
theorem JE {x:Str} {v:V} {u:Value} {pos:Pos} (hg:Gl X x) (hm:X.mg x=none) (hv:bootBuiltins x=some u) (r:RelV v u) (hn:x≠"__name__":=by decide) (hd:(x == ("__debug__" : Str))=false:=by decide):PE X (.Name x pos) (tC v):=
 fun _ _ _ H _ I h=>J3 I hg hm hv ⟨v,H,I,r,h⟩ hn hd
variable {a b:Expr} {ta tb:TE} {pos:Pos}
variable {tA tB':TT} {rest:List Expr}
noncomputable def qML (t u:TT):TT:=fun σ H Q=>t σ H fun c H1=>if c=true then u σ H1 Q else Q false H1
noncomputable def tOr (t u:TT):TT:=fun σ H Q=>t σ H fun c H1=>if c=true then Q true H1 else u σ H1 Q
noncomputable def qMv (t:TT):TT:=fun σ H Q=>t σ H fun c H1=>Q (!c) H1
theorem Jm (ha:PT X a tA):PW X (.BoolOp .And [a] pos) tA:=by
 intro wh pins s σ H Q I h
 refine isTrue_and (thn (ha pins s σ H Q I h) fun c s1 e=>?_)
 cases c with
 | true=>exact isTrue_and_nil e
 | false=>exact e
theorem Qh (ha:PT X a tA):PW X (.BoolOp .Or [a] pos) tA:=by
 intro wh pins s σ H Q I h
 refine isTrue_or (thn (ha pins s σ H Q I h) fun c s1 e=>?_)
 cases c with
 | false=>exact isTrue_or_nil e
 | true=>exact e
theorem qAe (ha:PT X a tA) (hb:PW X (.BoolOp .And (b::rest) pos) tB'):PW X (.BoolOp .And (a::b::rest) pos) (qML tA tB'):=by
 intro wh pins s σ H Q I h
 refine isTrue_and (thn (ha pins s σ H _ I h) fun c s1 ⟨H1,I1,q1⟩=>?_)
 cases c with
 | true=>exact hb wh pins s1 σ H1 Q I1 q1
 | false=>exact ⟨H1,I1,q1⟩
theorem Q2 (ha:PT X a tA) (hb:PW X (.BoolOp .Or (b::rest) pos) tB'):PW X (.BoolOp .Or (a::b::rest) pos) (tOr tA tB'):=by
 intro wh pins s σ H Q I h
 refine isTrue_or (thn (ha pins s σ H _ I h) fun c s1 ⟨H1,I1,q1⟩=>?_)
 cases c with
 | true=>exact ⟨H1,I1,q1⟩
 | false=>exact hb wh pins s1 σ H1 Q I1 q1
theorem QX (ha:PT X a tA):PT X (.UnaryOp .Not a pos) (qMv tA):=by
 intro pins s σ H Q I h
 exact isTrue_not (ha pins s σ H (fun c H1=>Q (!c) H1) I h)
noncomputable def qJb (ta tb:TE):TE:=fun σ H Q=>ta σ H fun x H1=>∃ c,x=.bl c/\if c=true then tb σ H1 Q else Q (.bl false) H1
noncomputable def qMH (ta tb:TE):TE:=fun σ H Q=>ta σ H fun x H1=>∃ c,x=.bl c/\if c=true then Q (.bl true) H1 else tb σ H1 Q
theorem YR {op} {t:TE} (h:PE X a t):PE X (.BoolOp op [a] pos) t:=fun pins s σ H Q I hw=>BoolOp_one (h pins s σ H Q I hw)
theorem qAi (ha:PE X a ta) (hb:PE X (.BoolOp .And (b::rest) pos) tb):PE X (.BoolOp .And (a::b::rest) pos) (qJb ta tb):=by
 intro pins s σ H Q I h
 refine BoolOp_and (thn (ha pins s σ H _ I h) fun v s1 ⟨x,H1,I1,r1,q1⟩=>?_)
 obtain ⟨c,rfl,q1⟩:=q1
 cases r1
 refine uP ?_
 cases c with
 | true=>exact hb pins s1 σ H1 Q I1 q1
 | false=>exact ⟨.bl false,H1,I1,rfl,q1⟩
theorem qKJ (ha:PE X a ta) (hb:PE X (.BoolOp .Or (b::rest) pos) tb):PE X (.BoolOp .Or (a::b::rest) pos) (qMH ta tb):=by
 intro pins s σ H Q I h
 refine BoolOp_or (thn (ha pins s σ H _ I h) fun v s1 ⟨x,H1,I1,r1,q1⟩=>?_)
 obtain ⟨c,rfl,q1⟩:=q1
 cases r1
 refine uP ?_
 cases c with
 | false=>exact hb pins s1 σ H1 Q I1 q1
 | true=>exact ⟨.bl true,H1,I1,rfl,q1⟩
noncomputable def tIf (t:TT) (ta tb:TE):TE:=fun σ H Q=>t σ H fun c H1=>if c=true then ta σ H1 Q else tb σ H1 Q
theorem qBO {c:Expr} (hc:PT X c tA) (ha:PE X a ta) (hb:PE X b tb):PE X (.IfExp c a b pos) (tIf tA ta tb):=by
 intro pins s σ H Q I h
 refine wpAny_IfExp (thn (hc pins s σ H _ I h) fun d s1 ⟨H1,I1,q1⟩=>?_)
 cases d with
 | true=>exact ha pins s1 σ H1 Q I1 q1
 | false=>exact hb pins s1 σ H1 Q I1 q1
end
noncomputable def SqL (K:wJ) (H:Hp) (a:Addr) (xs:List V):Prop:=
 Rd H a (.lst xs)\/
  ∃(o:Obj) (its:Array Value) (n:Nat),K.lookup a=some o/\o.cls=.type "list"/\o.dict=none/\o.data=.seq its n/\its.size<=sizeLine/\jB xs its.toList
noncomputable def SqT (K:wJ) (H:Hp) (a:Addr) (xs:List V):Prop:=
 Rd H a (.tup xs)\/
  ∃(o:Obj) (its:Array Value) (n:Nat),K.lookup a=some o/\o.cls=.type "tuple"/\o.data=.seq its n/\its.size<=sizeLine/\jB xs its.toList
noncomputable def qNd:Value->Option V
 | .none=>some .non
 | .bool b=>some (.bl b)
 | .int i _=>some (.int i)
 | .str x _=>some (.str x)
 | .bytes b _=>some (.byt b)
 | .float b _=>some (.flt b)
 | .ref a=>some (.ref a)
 | .type n=>some (.ty n)
 | _=>none
theorem RelV.abs {x:V} {u:Value} (r:RelV x u):qNd u=some x:=by
 cases x with
 | non=>cases r; rfl
 | bl _=>cases r; rfl
 | int _=>obtain ⟨t,rfl⟩:=r; rfl
 | str _=>obtain ⟨t,rfl⟩:=r; rfl
 | byt _=>obtain ⟨t,rfl⟩:=r; rfl
 | flt _=>obtain ⟨t,rfl⟩:=r; rfl
 | ref _=>cases r; rfl
 | ty _=>cases r; rfl
theorem RelV.inj {x y:V} {u:Value} (r:RelV x u) (q:RelV y u):x=y:=zQ (r.abs.symm.trans q.abs)
theorem jB.inj:∀{xs ys:List V} {us:List Value},jB xs us->jB ys us->xs=ys
 | _,_,_,.nil,.nil=>rfl
 | _,_,_,.cons r t,.cons r' t'=>by rw [r.inj r',jB.inj t t']
section
variable {X:Cx} {pins:List (Addr×Obj)} {σ:St} {H:Hp} {s:Shared} {a:Addr} {xs ys:List V}
theorem SqL.of {K:wJ} (h:H a=some (.lst xs)):SqL K H a xs:=.inl (.inl h)
theorem SqT.of {K:wJ} (h:H a=some (.tup xs)):SqT K H a xs:=.inl (.inl h)
theorem Inv.list (I:Inv X pins σ H s) (h:SqL X.K H a xs):∃ its:List Value,jB xs its/\PlainL s.heap a its.toArray/\xs.length<=sizeLine:=by
 rcases h with h | ⟨o,its,n,hk,hc,hd,hs,hz,r⟩
 ·obtain ⟨z,its,n,r,e⟩:=h.ok I.hok
  exact ⟨its,r,⟨_,n,e,rfl,rfl,rfl⟩,z⟩
 ·refine ⟨its.toList,r,⟨o,n,I.kIn a o hk,hc,hd,by simpa using hs⟩,?_⟩
  have e:=r.length
  simp only [wU] at e
  omega
theorem Inv.tuple (I:Inv X pins σ H s) (h:SqT X.K H a xs):∃ its:List Value,jB xs its/\IsTup s.heap a its.toArray/\xs.length<=sizeLine:=by
 rcases h with h | ⟨o,its,n,hk,hc,hs,hz,r⟩
 ·obtain ⟨z,its,r,p⟩:=h.ok I.hok
  exact ⟨its,r,p.1,z⟩
 ·refine ⟨its.toList,r,⟨o,I.kIn a o hk,hc,n,by simpa using hs⟩,?_⟩
  have e:=r.length
  simp only [wU] at e
  omega
theorem Inv.list_inj (I:Inv X pins σ H s) (h:SqL X.K H a xs) (h':SqL X.K H a ys):xs=ys:=by
 obtain ⟨its,r,⟨o,n,e,_,_,d⟩,_⟩:=I.list h
 obtain ⟨its',r',⟨o',n',e',_,_,d'⟩,_⟩:=I.list h'
 rw [e] at e'; cases e'
 rw [d] at d'
 injection d' with d1 _
 have:its=its':=by simpa using congrArg Array.toList d1
 subst this
 exact r.inj r'
theorem Inv.tuple_inj (I:Inv X pins σ H s) (h:SqT X.K H a xs) (h':SqT X.K H a ys):xs=ys:=by
 obtain ⟨its,r,⟨o,e,_,n,d⟩,_⟩:=I.tuple h
 obtain ⟨its',r',⟨o',e',_,n',d'⟩,_⟩:=I.tuple h'
 rw [e] at e'; cases e'
 rw [d] at d'
 injection d' with d1 _
 have:its=its':=by simpa using congrArg Array.toList d1
 subst this
 exact r.inj r'
end
noncomputable abbrev Cx.wish (X:Cx) (E:Value->Shared->Prop):Cx:={ X with xe:=E }
noncomputable abbrev Cx.nox (X:Cx):Cx:=X.wish fun _ _=>False
theorem Cx.Ok.wish {X:Cx} (ok:X.Ok) (E:Value->Shared->Prop):(X.wish E).Ok:=
 ⟨ok.mod,ok.kind,ok.glob,ok.blt,ok.above,ok.inj,ok.has,ok.cab,ok.hd,ok.frames,ok.stk,ok.exf,ok.bs,ok.bsz,ok.noex,ok.exfs,ok.funs,ok.frf⟩
theorem Cx.Ok.unwish {X:Cx} {E:Value->Shared->Prop} (ok:(X.wish E).Ok):X.Ok:=
 ⟨ok.mod,ok.kind,ok.glob,ok.blt,ok.above,ok.inj,ok.has,ok.cab,ok.hd,ok.frames,ok.stk,ok.exf,ok.bs,ok.bsz,ok.noex,ok.exfs,ok.funs,ok.frf⟩
section
variable {X:Cx} {pins:List (Addr×Obj)} {σ:St} {H:Hp} {s:Shared} {E:Value->Shared->Prop}
theorem Inv.wish (I:Inv X pins σ H s) (E:Value->Shared->Prop):Inv (X.wish E) pins σ H s:=⟨I.ok.wish E,I.os,I.bare,I.base,I.loc,I.cell,I.free,I.freeC,I.pin,I.hok,I.len⟩
theorem Inv.unwish (I:Inv (X.wish E) pins σ H s):Inv X pins σ H s:=⟨I.ok.unwish,I.os,I.bare,I.base,I.loc,I.cell,I.free,I.freeC,I.pin,I.hok,I.len⟩
theorem SP.unwish {D:Ends} {f:Flow} {s':Shared} (h:SP (X.wish E) pins D f s'):SP X pins D f s':=by
 cases f with
 | next=>obtain ⟨σ',H',I,q⟩:=h; exact ⟨σ',H',I.unwish,q⟩
 | brk=>obtain ⟨σ',H',I,q⟩:=h; exact ⟨σ',H',I.unwish,q⟩
 | cont=>obtain ⟨σ',H',I,q⟩:=h; exact ⟨σ',H',I.unwish,q⟩
 | ret u=>obtain ⟨v,σ',H',I,r,q⟩:=h; exact ⟨v,σ',H',I.unwish,r,q⟩
theorem PSs.nox {st:List Stmt} {t:TS} (h:PSs X.nox st t):PSs X st t:=fun pins s σ H D I hw=>
 uV (h pins s σ H D (I.wish _) hw) (fun _ _ q=>q.unwish) fun _ _ z=>kR z
end
section
variable {X:Cx} {st:Stmt} {rest:List Stmt} {t u:TS} {e:Expr} {te:TE} {pos:Pos}
noncomputable def qKG:TS:=fun D σ H=>D.nx σ H
noncomputable def j9 (t u:TS):TS:=fun D σ H=>t { D with nx:=u D } σ H
theorem qb:PSs X [] qKG:=fun _ _ σ H _ I h=>ZR ⟨σ,H,I,h⟩
theorem qC (h1:PS X st t) (h2:PSs X rest u):PSs X (st::rest) (j9 t u):=by
 intro pins s σ H D I h
 refine wpAny_execs_cons (thn (h1 pins s σ H { D with nx:=u D } I h) fun f s1 q=>?_)
 cases f with
 | next=>
  obtain ⟨σ',H',I',q⟩:=q
  exact h2 pins s1 σ' H' D I' q
 | ret v=>exact q
 | brk=>exact q
 | cont=>exact q
theorem qF (h1:PS X st t):PSs X [st] t:=by
 intro pins s σ H D I h
 refine wpAny_execs_cons (thn (h1 pins s σ H D I h) fun f s1 q=>?_)
 cases f with
 | next=>exact ZR q
 | ret v=>exact q
 | brk=>exact q
 | cont=>exact q
theorem Inv.quiet {pins:List (Addr×Obj)} {σ:St} {H:Hp} {s:Shared} (I:Inv X pins σ H s):interactive X.env=false:=by simp [interactive,I.ok.kind]
noncomputable def qKc (te:TE):TS:=fun D σ H=>te σ H fun _ H1=>D.nx σ H1
theorem Qu (he:PE X e te) (hs:swapsWith e none pos.line X.env=pure false:=by rfl):PS X (.Expr e pos) (qKc te):=by
 intro pins s σ H D I h
 exact wpAny_Expr_any (thn (he pins s σ H _ I h) fun v s1 ⟨x,H1,I1,r1,q1⟩=>⟨σ,H1,I1,q1⟩) I.quiet hs
noncomputable def qLy (te:TE):TS:=fun D σ H=>te σ H D.rt
theorem qQ (he:PE X e te):PS X (.Return (some e) pos) (qLy te):=by
 intro pins s σ H D I h
 exact wpAny_Return_some (thn (he pins s σ H _ I h) fun v s1 ⟨x,H1,I1,r1,q1⟩=>⟨x,σ,H1,I1,r1,q1⟩)
noncomputable def qM5 (c:TT) (t u:TS):TS:=fun D σ H=>c σ H fun b H1=>if b=true then t D σ H1 else u D σ H1
theorem jY {c:Expr} {a b:List Stmt} {tc:TT} (hc:PT X c tc) (ha:PSs X a t) (hb:PSs X b u):PS X (.If c a b pos) (qM5 tc t u):=by
 intro pins s σ H D I h
 refine wpAny_If (thn (hc pins s σ H _ I h) fun d s1 ⟨H1,I1,q1⟩=>?_)
 cases d with
 | true=>exact ha pins s1 σ H1 D I1 q1
 | false=>exact hb pins s1 σ H1 D I1 q1
noncomputable def qKU:TS:=fun _ _ _=>False
theorem qD4:PS X st qKU:=fun _ _ _ _ _ _ h=>h.elim
end
noncomputable abbrev TG:=V->St->Hp->(St->Hp->Prop)->Prop
noncomputable abbrev TGs:=List V->St->Hp->(St->Hp->Prop)->Prop
noncomputable def PG (X:Cx) (target:Expr) (t:TG):Prop:=
 ∀(pins:List (Addr×Obj)) (s:Shared) (σ:St) (H:Hp) (v:V) (u:Value) (Q:St->Hp->Prop),Inv X pins σ H s->RelV v u->t v σ H Q->
  wpAny (model X.prog X.w) X.A (assign target X.env u) (fun _ s'=>∃ σ' H',Inv X pins σ' H' s'/\Q σ' H') X.xe s
noncomputable def PGs (X:Cx) (ts:List Expr) (t:TGs):Prop:=
 ∀(pins:List (Addr×Obj)) (s:Shared) (σ:St) (H:Hp) (vs:List V) (us:List Value) (Q:St->Hp->Prop),Inv X pins σ H s->jB vs us->t vs σ H Q->
  wpAny (model X.prog X.w) X.A (assignInOrder ((assignEach ts X.env).map (·.2)) us) (fun _ s'=>∃ σ' H',Inv X pins σ' H' s'/\Q σ' H') X.xe s
noncomputable abbrev qLt:=V->V->V->Hp->(Hp->Prop)->Prop
noncomputable def qM3 (X:Cx) (t:qLt):Prop:=
 ∀(pins:List (Addr×Obj)) (s:Shared) (σ:St) (H:Hp) (o i v:V) (ov iv u:Value) (Q:Hp->Prop),Inv X pins σ H s->RelV o ov->RelV i iv->RelV v u->t o i v H Q->
  wpAny (model X.prog X.w) X.A (setItem ov iv u) (fun _ s'=>∃ H',Inv X pins σ H' s'/\Q H') X.xe s
noncomputable abbrev TIp:=V->V->Hp->VK->Prop
noncomputable def PIp (X:Cx) (op:Operator) (t:TIp):Prop:=
 ∀(pins:List (Addr×Obj)) (s:Shared) (σ:St) (H:Hp) (x y:V) (v u:Value) (Q:VK),Inv X pins σ H s->RelV x v->RelV y u->t x y H Q->
  wpAny (model X.prog X.w) X.A (inplaceOp op v u) (EP X pins σ Q) X.xe s
section
variable {X:Cx} {pos:Pos}
noncomputable def qA9 (i:Nat):TG:=fun v σ H Q=>Q (σ.set i (some v)) H
theorem qEs {i:Nat} {x:Str} (hN:X.N.Nodup) (hi:X.N[i]? = some x) (hx:Loc X.env.scope x) (hf:X.fn x=true\/X.env.scope.names.lookup x=some .local:=by first | exact .inl rfl | exact .inr rfl | assumption):PG X (.Name x pos) (qA9 i):=by
 intro pins s σ H v u Q I r h
 exact wpAny_assign_Name (qA3 I hN hi hx r (fun s' I'=>⟨_,H,I',h⟩) hf)
noncomputable def qMu:TGs:=fun vs σ H Q=>vs=[]/\Q σ H
noncomputable def qLZ (t:TG) (u:TGs):TGs:=fun vs σ H Q=>∃ v r,vs=v::r/\t v σ H fun σ' H'=>u r σ' H' Q
theorem jd:PGs X [] qMu:=by
 intro pins s σ H vs us Q I r h
 obtain ⟨e,h⟩:=h
 subst e
 cases r
 exact assignInOrder_nil ⟨σ,H,I,h⟩
theorem qW {e:Expr} {es:List Expr} {t:TG} {u:TGs} (h1:PG X e t) (h2:PGs X es u)
  (hs:(assignEach (e::es) X.env).map (·.2)=assign e X.env::(assignEach es X.env).map (·.2):=by rfl):PGs X (e::es) (qLZ t u):=by
 intro pins s σ H vs us Q I r h
 obtain ⟨v,vr,e1,h⟩:=h
 subst e1
 cases r with
 | cons r rr=>
  rw [hs]
  refine assignInOrder_cons (thn (h1 pins s σ H _ _ _ I r h) fun _ s1 ⟨σ1,H1,I1,q1⟩=>?_)
  exact h2 pins s1 σ1 H1 _ _ Q I1 rr q1
noncomputable def qMR (K:wJ) (n:Nat) (t:TGs):TG:=fun v σ H Q=>∃ a xs,v=.ref a/\SqT K H a xs/\xs.length=n/\t xs σ H Q
theorem qK2 {es:List Expr} {k:Nat} {t:TGs} {n:Nat} (hc:X.calm=true) (h:PGs X es t)
  (hn:(assignEach es X.env).length=n:=by rfl) (hst:(assignEach es X.env).findIdx? (·.1)=none:=by rfl):PG X (.Tuple es k pos) (qMR X.K n t):=by
 intro pins s σ H v u Q I r hw
 obtain ⟨a,xs,e1,hq,hl,hw⟩:=hw
 subst e1
 cases r
 obtain ⟨its,rv,ht,hz⟩:=I.tuple hq
 refine assign_Tuple_tuple (I.ok.hd hc) ht (by simp [hn,<- hl,rv.length]) hst fun h' hx=>?_
 have I1:Inv X pins σ H { s with heap:=h' }:=I.kept (t':=s.toks) fun b o e=>hx b o (yE (zN e)) e
 exact h pins _ σ H xs _ Q I1 (by simpa using rv) hw
noncomputable def qMj (to ti:TE) (t:qLt):TG:=fun v σ H Q=>to σ H fun o H1=>ti σ H1 fun i H2=>t o i v H2 fun H3=>Q σ H3
theorem qDw {o i:Expr} {to ti:TE} {t:qLt} (ho:PE X o to) (hi:PE X i ti) (hs:qM3 X t)
  (ha:∀ v,assign (.Subscript o i pos) X.env v=(do
   let ov <- holding [v] (eval o X.env)
   let iv <- holding [v,ov] (eval i X.env)
   standAt pos
   holding [v,ov,iv] (setItem ov iv v)
   release [v,ov,iv] []):=by intro _; rfl):PG X (.Subscript o i pos) (qMj to ti t):=by
 intro pins s σ H v u Q I r h
 rw [ha]
 refine wB (yM (thn (ho pins s σ H _ I h) fun ov s1 ⟨x,H1,I1,r1,q1⟩=>?_))
 refine wB (yM (thn (hi pins s1 σ H1 _ I1 q1) fun iv s2 ⟨y,H2,I2,r2,q2⟩=>?_))
 refine wB (kK (wB (yM (thn (hs pins s2 σ H2 x y v ov iv u _ I2 r1 r2 r q2) fun _ s3 ⟨H3,I3,q3⟩=>?_))))
 exact wpAny_release ⟨σ,H3,I3,q3⟩
noncomputable def qIo (te:TE) (g:TG):TS:=fun D σ H=>te σ H fun x H1=>g x σ H1 D.nx
theorem qAP {tg e:Expr} {te:TE} {g:TG} (he:PE X e te) (hg:PG X tg g) (hs:swapsWithSole [tg] e pos.line X.env=pure false:=by rfl) (hw:swappedStores [tg] e X.env=pure none:=by rfl)
  (h1:(assignEach [tg] X.env).map (·.2)=[assign tg X.env]:=by rfl):PS X (.Assign [tg] e pos) (qIo te g):=by
 intro pins s σ H D I h
 refine wpAny_Assign_stores (thn (he pins s σ H _ I h) fun v s1 ⟨x,H1,I1,r1,q1⟩=>?_) hs hw
 rw [h1]
 exact thn (hg pins s1 σ H1 x v _ I1 r1 q1) fun _ s2 q=>q
theorem qKW {i:Nat} {x:Str} {e:Expr} {te:TE} {pos':Pos} (hN:X.N.Nodup) (hi:X.N[i]? = some x) (hx:Loc X.env.scope x) (he:PE X e te) (hs:swapsWith e (some (.Name x pos')) pos.line X.env=pure false:=by rfl) (hf:X.fn x=true\/X.env.scope.names.lookup x=some .local:=by first | exact .inl rfl | exact .inr rfl | assumption) :
  PS X (.Assign [.Name x pos'] e pos) (qIo te (qA9 i)):=by
 intro pins s σ H D I h
 refine wpAny_Assign_Name (thn (he pins s σ H _ I h) fun v s1 ⟨y,H1,I1,r1,q1⟩=>?_) hs
 exact qA3 I1 hN hi hx r1 (fun s2 I2=>⟨_,H1,I2,q1⟩) hf
noncomputable def qMz (i:Nat) (te:TE) (ti:TIp):TS:=fun D σ H=>∃ x,σ[i]? = some (some x)/\te σ H fun y H1=>ti x y H1 fun z H2=>D.nx (σ.set i (some z)) H2
theorem qII {i:Nat} {x:Str} {e:Expr} {te:TE} {op:Operator} {ti:TIp} {pos':Pos} (hN:X.N.Nodup) (hi:X.N[i]? = some x) (hx:Loc X.env.scope x) (he:PE X e te) (ho:PIp X op ti) (hf:X.fn x=true\/X.env.scope.names.lookup x=some .local:=by first | exact .inl rfl | exact .inr rfl | assumption) :
  PS X (.AugAssign (.Name x pos') op e pos) (qMz i te ti):=by
 intro pins s σ H D I h
 obtain ⟨v,e1,h⟩:=h
 obtain ⟨m,hn,hl⟩:=I.loc
 have vis:Vis X.env.scope x:=by rcases hx with k | k; exact .inl k; exact .inr (.inl k)
 obtain ⟨u,r,l⟩:=hl i x v hi e1 vis
 refine wpAny_AugAssign_Name ?_
 have go:wpAny (model X.prog X.w) X.A (eval e X.env) (fun w s₂=>wpAny (model X.prog X.w) X.A (inplaceOp op u w) (fun r s₃=>wpAny (model X.prog X.w) X.A (storeName X.env x r) (fun _=>SP X pins D .next) X.xe s₃) X.xe s₂) X.xe s:=by
  refine thn (he pins s σ H _ I h) fun w s1 ⟨y,H1,I1,r1,q1⟩=>?_
  refine thn (ho pins s1 σ H1 v y u w _ I1 r r1 q1) fun z s2 ⟨zv,H2,I2,r2,q2⟩=>?_
  exact qA3 I2 hN hi hx r2 (fun s3 I3=>⟨_,H2,I3,q2⟩) hf
 rcases l with ⟨hk,hm⟩ | ⟨hk,c,hc,hcell⟩
 ·exact wpAny_loadName_local I.ok.kind hk hn hm go
 ·rcases hk with hk | hk
  ·exact wpAny_loadName_cell I.ok.kind hk hc hcell go
  ·rcases hx with k | k
   ·have:X.env.scope.names.lookup x=some .free:=hk
    rw [k] at this; cases this
   ·have:X.env.scope.names.lookup x=some .free:=hk
    rw [k] at this; cases this
end
section
variable {X:Cx} {pos:Pos}
noncomputable def J8 (c:TT) (tb:TS):TS:=fun D σ H=>∃ W:Nat->St->Hp->Prop,(∃ m,W m σ H)/\∀ m σ H,W m σ H->
 c σ H fun b H1=>if b=true then ∃ N:St->Hp->Prop,(∀ σ' H',N σ' H'->∃ m',m'<m/\W m' σ' H')/\tb { D with nx:=N,ct:=N,bk:=D.nx } σ H1 else D.nx σ H1
theorem YG {c:Expr} {body:List Stmt} {tc:TT} {tb:TS} (hp:PassesOwn (model X.prog X.w) X.A X.env X.xe) (hc:PT X c tc) (hb:PSs X body tb):PS X (.While c body [] pos) (J8 tc tb):=by
 intro pins s σ H D I h
 obtain ⟨W,⟨m0,w0⟩,turn⟩:=h
 refine wpAny_While (codeAny_whileLoop (fun n s'=>∃ σ' H',Inv X pins σ' H' s'/\W n σ' H') ?_ m0 ⟨σ,H,I,w0⟩)
 rintro n s1 ⟨σ1,H1,I1,w1⟩
 refine kG hp (thn (hc pins s1 σ1 H1 _ I1 (turn n σ1 H1 w1)) fun b s2 ⟨H2,I2,q2⟩=>?_)
 cases b with
 | true=>
  obtain ⟨N,hN,q2⟩:=q2
  rw [if_pos rfl]
  refine kG hp (thn (hb pins s2 σ1 H2 _ I2 q2) fun f s3 q3=>?_)
  cases f with
  | next=>
   obtain ⟨σ3,H3,I3,n3⟩:=q3
   obtain ⟨m',hm,w3⟩:=hN σ3 H3 n3
   exact ⟨m',hm,σ3,H3,I3,w3⟩
  | cont=>
   obtain ⟨σ3,H3,I3,n3⟩:=q3
   obtain ⟨m',hm,w3⟩:=hN σ3 H3 n3
   exact ⟨m',hm,σ3,H3,I3,w3⟩
  | brk=>exact q3
  | ret v=>exact q3
 | false=>
  rw [if_neg wQ]
  exact ZR ⟨σ1,H2,I2,q2⟩
end
structure It where
 go:Nat->Hp->Prop
 yld:Nat->Hp->V->Hp->Prop
 stop:Nat->Hp->Prop
noncomputable def qCQ (X:Cx) (pins:List (Addr×Obj)) (H:Hp) (b:Addr):Prop:=
 H b=none/\b≠X.env.locals/\b∉X.fs/\(b∈X.ex\/X.s₀.heap.objs.size<=b)/\(∀ x c,X.env.cells.lookup x=some c->c≠b)/\∀ p∈X.pn++pins,p.1≠b
theorem Inv.fpOk {X:Cx} {pins:List (Addr×Obj)} {σ:St} {H H':Hp} {s:Shared} {b:Addr} (I:Inv X pins σ H s) (hb:s.heap.objs.size<=b) (hn:H' b=none):qCQ X pins H' b:=by
 refine ⟨hn,gG (zV I.lt hb),I.nofs hb,.inr (zO I.sz hb),fun x c e z=>?_,fun p hp z=>?_⟩
 ·obtain ⟨v,q⟩:=I.cell x c e
  exact absurd (zV q.lt (by rw [z]; exact hb)) (vY _)
 ·exact absurd (zV (zN (I.pin p hp).1) (by rw [z]; exact hb)) (vY _)
structure Turn (P:Program) (w:World) (K:wJ) (tg:Expr) (J:It) (fp:List Addr) (it:Addr) (tn:Nat->Heap->Prop):Prop where
 mem:it∈fp
 obj:∀ i h,tn i h->∀ b∈fp,∃ o,h.get? b=some o/\∀ v,o.data≠.cell v
 keep:∀ i h h',tn i h->(∀ b∈fp,∀ o,h.get? b=some o->h'.get? b=some o)->tn i h'
 item:∀(X:Cx),X.prog=P->X.w=w->X.K=K->X.calm=true->∀(i:Nat) (pins:List (Addr×Obj)) (s:Shared) (σ:St) (H:Hp) (E:Value->Shared->Prop),Inv X pins σ H s->(∀ b∈fp,qCQ X pins H b)->tn i s.heap->J.go i H->
  wpAny (model P w) X.A (pyNext (.ref it)) (fun r s1=>∃ u,r=some u/\
   wpAny (model P w) X.A (letOwnedTupleGo tg (.ref it) u) (fun _ s2=>∃ x H',Inv X pins σ H' s2/\RelV x u/\J.yld i H x H'/\tn (i+1) s2.heap/\∀ b∈fp,H' b=none) E s1) E s
 done:∀(X:Cx),X.prog=P->X.w=w->X.K=K->X.calm=true->∀(i:Nat) (pins:List (Addr×Obj)) (s:Shared) (σ:St) (H:Hp) (E:Value->Shared->Prop),Inv X pins σ H s->(∀ b∈fp,qCQ X pins H b)->tn i s.heap->J.stop i H->
  wpAny (model P w) X.A (pyNext (.ref it)) (fun r s1=>r=none/\Inv X pins σ H s1) E s
 self:∀(A:Around) (i:Nat) (s:Shared) (Q:Value->Shared->Prop) (E:Value->Shared->Prop),tn i s.heap->Q (.ref it) s->wpAny (model P w) A (pyIter (.ref it)) Q E s
noncomputable abbrev TI:=St->Hp->(It->Hp->Prop)->Prop
noncomputable def PIE (X:Cx) (pins:List (Addr×Obj)) (σ:St) (tg:Expr) (R:It->Hp->Prop) (itv:Value) (s2:Shared):Prop:=
 ∃(it:Addr) (fp:List Addr) (tn:Nat->Heap->Prop) (J:It) (H':Hp),itv=.ref it/\Inv X pins σ H' s2/\Turn X.prog X.w X.K tg J fp it tn/\tn 0 s2.heap/\(∀ b∈fp,qCQ X pins H' b)/\R J H'
noncomputable def PI (X:Cx) (tg iter:Expr) (wi:TI):Prop:=
 ∀(pins:List (Addr×Obj)) (s:Shared) (σ:St) (H:Hp) (R:It->Hp->Prop),Inv X pins σ H s->wi σ H R->
  wpAny (model X.prog X.w) X.A (eval iter X.env) (fun v s1=>wpAny (model X.prog X.w) X.A (pyIter v) (PIE X pins σ tg R) X.xe s1) X.xe s
theorem qI6 {M:Model} {A:Around} {E:Value->Shared->Prop} {s:Shared} {tg:Expr} {it:Addr} {u:Value} {o:Obj} {n:String} {vs:Array Value} {Q:Unit->Shared->Prop} (ho:s.heap.get? it=some o) (hc:o.cls=.type n) (hd:o.data=.fields vs)
  (hn : ["enumerate","zip","dict_itemiterator","dict_reverseitemiterator","odict_iterator","itertools.zip_longest","itertools.pairwise"].contains n=false) (hQ:Q () s):wpAny M A (letOwnedTupleGo tg (.ref it) u) Q E s:=by
 unfold letOwnedTupleGo
 cases tg <;> first
  | exact wG hQ
  | (cases u <;> first
    | exact wG hQ
    | (refine wB (wpAny_load ho ?_)
       rw [hc,hd]
       show wpAny M A (if (["enumerate","zip","dict_itemiterator","dict_reverseitemiterator","odict_iterator","itertools.zip_longest","itertools.pairwise"].contains n && vs[0]? == some (rawInt _))=true then _ else _) Q E s
       rw [if_neg (by intro h; rw [hn,yV] at h; cases h)]
       exact wG hQ))
noncomputable def Itl (K:wJ) (a:Addr):It:=
 ⟨fun i H=>∃ xs x,SqL K H a xs/\xs[i]? = some x,fun i H x H'=>H'=H/\∀ xs,SqL K H a xs->xs[i]? = some x,fun i H=>∃ xs,SqL K H a xs/\xs.length<=i⟩
noncomputable def Itt (K:wJ) (a:Addr):It:=
 ⟨fun i H=>∃ xs x,SqT K H a xs/\xs[i]? = some x,fun i H x H'=>H'=H/\∀ xs,SqT K H a xs->xs[i]? = some x,fun i H=>∃ xs,SqT K H a xs/\xs.length<=i⟩
noncomputable def Itr (lo:Int) (n:Nat):It:=⟨fun i _=>i<n,fun i H x H'=>H'=H/\x=.int (lo+i),fun i _=>n<=i⟩
theorem qGG {P:Program} {w:World} {K:wJ} {tg:Expr} (a it:Addr):Turn P w K tg (Itl K a) [it] it (fun i h=>h.IsListIter it a i) where
 mem:=by simp
 obj:=fun i h st b hb=>by
  have e:b=it:=by simpa using hb
  subst e
  obtain ⟨o,e,c,d⟩:=st
  exact ⟨o,e,fun v z=>by rw [d] at z; cases z⟩
 keep:=fun i h h' st k=>st.at fun o e=>k it (by simp) o e
 item:=by
  intro X hP hw hK hc i pins s σ H E I hf st hg
  subst hP hw hK
  obtain ⟨xs,x,hq,hx⟩:=hg
  obtain ⟨its,rv,p,hz⟩:=I.list hq
  obtain ⟨u,hu,ru⟩:=rv.get hx
  obtain ⟨f0,f1,f2,f3,f4,f5⟩:=hf it (by simp)
  refine wpAny_pyNext_list_item st p.isList (x:=u) (by simpa using hu) fun h' st' sb=>?_
  have I1:Inv X pins σ H { s with heap:=h' }:=I.turned (t':=s.toks) (fun b o hb e=>(sb.2 b hb).trans e) f0 f1 f3 f4 f5
  obtain ⟨o,e,c,d⟩:=id st'
  exact ⟨u,rfl,qI6 (s:={ s with heap:=h' }) e c d (by decide) ⟨x,H,I1,ru,⟨rfl,fun ys hy=>by rw [I.list_inj hy hq]; exact hx⟩,st',fun b hb=>(hf b hb).1⟩⟩
 done:=by
  intro X hP hw hK hc i pins s σ H E I hf st hg
  subst hP hw hK
  obtain ⟨xs,hq,hx⟩:=hg
  obtain ⟨its,rv,p,hz⟩:=I.list hq
  obtain ⟨f0,f1,f2,f3,f4,f5⟩:=hf it (by simp)
  have hl:=rv.length
  exact wpAny_pyNext_list_end (I.ok.hd hc) st p.isList (by simp; omega) fun h' eb=>⟨rfl,I.turned (t':=s.toks) (fun b o hb e=>eb b o hb e) f0 f1 f3 f4 f5⟩
 self:=fun _ _ _ _ _ st h=>wpAny_pyIter_listiter st h
theorem qEN {P:Program} {w:World} {K:wJ} {tg:Expr} (a it:Addr):Turn P w K tg (Itt K a) [it] it (fun i h=>h.IsTupleIter it a i) where
 mem:=by simp
 obj:=fun i h st b hb=>by
  have e:b=it:=by simpa using hb
  subst e
  obtain ⟨o,e,c,d⟩:=st
  exact ⟨o,e,fun v z=>by rw [d] at z; cases z⟩
 keep:=fun i h h' st k=>st.at fun o e=>k it (by simp) o e
 item:=by
  intro X hP hw hK hc i pins s σ H E I hf st hg
  subst hP hw hK
  obtain ⟨xs,x,hq,hx⟩:=hg
  obtain ⟨its,rv,p,hz⟩:=I.tuple hq
  obtain ⟨u,hu,ru⟩:=rv.get hx
  obtain ⟨f0,f1,f2,f3,f4,f5⟩:=hf it (by simp)
  refine wpAny_pyNext_tuple_item st (show s.heap.IsTuple a its.toArray from p) (x:=u) (by simpa using hu) fun h' st' sb=>?_
  have I1:Inv X pins σ H { s with heap:=h' }:=I.turned (t':=s.toks) (fun b o hb e=>(sb.2 b hb).trans e) f0 f1 f3 f4 f5
  obtain ⟨o,e,c,d⟩:=id st'
  exact ⟨u,rfl,qI6 (s:={ s with heap:=h' }) e c d (by decide) ⟨x,H,I1,ru,⟨rfl,fun ys hy=>by rw [I.tuple_inj hy hq]; exact hx⟩,st',fun b hb=>(hf b hb).1⟩⟩
 done:=by
  intro X hP hw hK hc i pins s σ H E I hf st hg
  subst hP hw hK
  obtain ⟨xs,hq,hx⟩:=hg
  obtain ⟨its,rv,p,hz⟩:=I.tuple hq
  obtain ⟨f0,f1,f2,f3,f4,f5⟩:=hf it (by simp)
  have hl:=rv.length
  exact wpAny_pyNext_tuple_end (I.ok.hd hc) st (show s.heap.IsTuple a its.toArray from p) (by simp; omega) fun h' eb=>⟨rfl,I.turned (t':=s.toks) (fun b o hb e=>eb b o hb e) f0 f1 f3 f4 f5⟩
 self:=fun _ _ _ _ _ st h=>wpAny_pyIter_tupleiter st h
theorem qEZ {P:Program} {w:World} {K:wJ} {tg:Expr} (it:Addr) (lo:Int) (n:Nat):Turn P w K tg (Itr lo n) [it] it (fun i h=>IsRangeIter h it (lo+(i:Nat)*1) ((n:Int) - (i:Nat)) 1) where
 mem:=by simp
 obj:=fun i h st b hb=>by
  have e:b=it:=by simpa using hb
  subst e
  exact ⟨_,st,fun v z=>by
   have z':Data.fields _=TL v:=z
   cases z'⟩
 keep:=fun i h h' st k=>k it (by simp) _ st
 item:=by
  intro X hP hw hK hc i pins s σ H E I hf st hg
  subst hP hw hK
  obtain ⟨f0,f1,f2,f3,f4,f5⟩:=hf it (by simp)
  have W:=Walks.range (prog:=X.prog) (w:=X.w) (I.ok.hd hc) it lo 1 n
  refine W.item i s _ _ hg st fun v h' tk hv st' kk=>?_
  obtain ⟨t,rfl⟩:=hv
  have I1:Inv X pins σ H { s with heap:=h',toks:=tk }:=I.turned (fun b o hb e=>kk b o (by simpa using hb) e) f0 f1 f3 f4 f5
  refine ⟨_,rfl,qI6 (s:={ s with heap:=h',toks:=tk }) (n:="range_iterator") st' rfl rfl (by decide) ⟨.int (lo+i),H,I1,⟨t,?_⟩,⟨rfl,rfl⟩,st',fun b hb=>(hf b hb).1⟩⟩
  rw [Int.mul_one]
 done:=by
  intro X hP hw hK hc i pins s σ H E I hf st hg
  subst hP hw hK
  obtain ⟨f0,f1,f2,f3,f4,f5⟩:=hf it (by simp)
  exact wpAny_pyNext_range_end (I.ok.hd hc) st (by have:n<=i:=hg; omega) fun h' eb=>⟨rfl,I.turned (t':=s.toks) (fun b o hb e=>eb b o hb e) f0 f1 f3 f4 f5⟩
 self:=fun _ _ _ _ _ st h=>wpAny_pyIter_rangeiter st h
section
variable {X:Cx} {tg:Expr}
theorem qD0 {pins:List (Addr×Obj)} {σ:St} {H:Hp} {s:Shared} {R:It->Hp->Prop} {E:Value->Shared->Prop} {lo hi:Int} {t u v:Tok} {tk:Nat} (I:Inv X pins σ H s) (h1 : -(2 ^ 62)<=lo) (h2:lo<2 ^ 62) (h3 : -(2 ^ 62)<=hi) (h4:hi<2 ^ 62)
  (q:R (Itr lo (hi - lo).toNat) H):wpAny (model X.prog X.w) X.A (pyIter (.ref s.heap.objs.size)) (PIE X pins σ tg R) E { s with heap:=s.heap.push { cls:=.type "range",data:=.fields #[.int lo t,.int hi u,.int 1 v] },toks:=tk }:=by
 refine wpAny_pyIter_range (IsRange.new ..) (small_one h1 h2 h3 h4) ?_
 have I1:Inv X pins σ H { s with heap:=s.heap.push { cls:=.type "range",data:=.fields #[.int lo t,.int hi u,.int 1 v] },toks:=tk }:=I.kept fun b o e=>wD _ e
 refine ⟨(s.heap.push { cls:=.type "range",data:=.fields #[.int lo t,.int hi u,.int 1 v] }).objs.size,[(s.heap.push { cls:=.type "range",data:=.fields #[.int lo t,.int hi u,.int 1 v] }).objs.size],_,_,H,rfl,
  I1.kept (t':=tk) fun b o e=>wD _ e,qEZ _ lo (hi - lo).toNat,?_,fun b hb=>?_,q⟩
 ·have e1:lo+((0:Nat):Int)*1=lo:=by simp
  have e2:(((hi - lo).toNat:Nat):Int) - ((0:Nat):Int)=gD lo hi 1:=by rw [rangeSize_one]; split <;> omega
  show IsRangeIter _ _ (lo+((0:Nat):Int)*1) ((((hi - lo).toNat:Nat):Int) - ((0:Nat):Int)) 1
  rw [e1,e2]
  exact zF _ rfl
 ·have e:b=(s.heap.push { cls:=.type "range",data:=.fields #[.int lo t,.int hi u,.int 1 v] }).objs.size:=by simpa using hb
  subst e
  exact I1.fpOk (wO _) (I1.hok.fresh (wO _))
noncomputable def qKH (ta:TA):TI:=fun σ H R=>ta σ H fun vs H1=>∃ j:Int,vs=[.int j]/\-(2 ^ 62)<=j/\j<2 ^ 62/\R (Itr 0 j.toNat) H1
noncomputable def qKh (ta:TA):TI:=fun σ H R=>ta σ H fun vs H1=>∃ i j:Int,vs=[.int i,.int j]/\(-(2 ^ 62)<=i/\i<2 ^ 62/\-(2 ^ 62)<=j/\j<2 ^ 62)/\R (Itr i (j - i).toNat) H1
theorem qz {a:Expr} {ta:TA} {p pos:Pos} (hg:Gl X "range") (hm:X.mg "range" = none) (ha:PA X [a] ta) (hs:starEach [a] X.env=[(false,eval a X.env)]:=by rfl):PI X tg (.Call (.Name "range" p) [a] [] pos) (qKH ta):=by
 intro pins s σ H R I h
 refine Call_ (J3 I hg hm boot_range (uA (thn (ha pos pins s σ H _ I h) fun us s1 ⟨vs,H1,I1,r1,q1⟩=>?_) hs rfl))
 obtain ⟨j,e,q1,q2,q⟩:=q1
 subst e
 cases r1 with
 | cons r rr=>
  cases rr
  obtain ⟨t,rfl⟩:=r
  exact call_range_1 (qD0 I1 (by omega) (by omega) q1 q2 (by simpa using q))
theorem JS {a b:Expr} {ta:TA} {p pos:Pos} (hg:Gl X "range") (hm:X.mg "range" = none) (ha:PA X [a,b] ta) (hs:starEach [a,b] X.env=[(false,eval a X.env),(false,eval b X.env)]:=by rfl) (hs2:starEach [b] X.env=[(false,eval b X.env)]:=by rfl) :
  PI X tg (.Call (.Name "range" p) [a,b] [] pos) (qKh ta):=by
 intro pins s σ H R I h
 refine Call_ (J3 I hg hm boot_range (uA (thn (ha pos pins s σ H _ I h) fun us s1 ⟨vs,H1,I1,r1,q1⟩=>?_) (by rw [hs,hs2]) (by rw [hs2]; rfl)))
 obtain ⟨i,j,e,⟨q1,q2,q3,q4⟩,q⟩:=q1
 subst e
 cases r1 with
 | cons r rr=>
  cases rr with
  | cons r' rr=>
   cases rr
   obtain ⟨t,rfl⟩:=r
   obtain ⟨t',rfl⟩:=r'
   exact call_range_2 (qD0 I1 q1 q2 q3 q4 q)
noncomputable def qG3 (wi:TI) (g:TG) (tb:TS):TS:=fun D σ H=>wi σ H fun J H1=>∃ W:Nat->Nat->St->Hp->Prop,(∃ m,W 0 m σ H1)/\∀ i m σ H,W i m σ H->
 (J.stop i H/\D.nx σ H)\/(J.go i H/\∃ N:St->Hp->Prop,(∀ σ' H',N σ' H'->∃ m',m'<m/\W (i+1) m' σ' H')/\∀ x H',J.yld i H x H'->g x σ H' fun σ2 H2=>tb { D with nx:=N,ct:=N,bk:=D.nx } σ2 H2)
noncomputable def Yg (fp:List Addr) (h:Heap):List (Addr×Obj):=fp.filterMap fun b=>(h.get? b).map fun o=>(b,o)
theorem jj {fp:List Addr} {h:Heap} {b:Addr} {o:Obj} (hb:b∈fp) (e:h.get? b=some o):(b,o)∈Yg fp h:=WL.mpr ⟨b,hb,by rw [e]; rfl⟩
theorem qFU {fp:List Addr} {h:Heap} {p:Addr×Obj} (hp:p∈Yg fp h):p.1∈fp/\h.get? p.1=some p.2:=by
 obtain ⟨b,hb,e⟩:=WL.mp hp
 cases q:h.get? b with
 | none=>rw [q] at e; cases e
 | some o=>
  rw [q] at e
  have e':(b,o)=p:=zQ e
  subst e'
  exact ⟨hb,q⟩
theorem Inv.pinned {pins:List (Addr×Obj)} {σ:St} {H:Hp} {s:Shared} {fp:List Addr} (I:Inv X pins σ H s) (hf:∀ b∈fp,qCQ X pins H b) (ho:∀ b∈fp,∃ o,s.heap.get? b=some o/\∀ v,o.data≠.cell v):Inv X (pins++Yg fp s.heap) σ H s:=
 I.pins_of fun p hp=>(zG.mp hp).elim (fun z=>I.pin p (zK _ z)) fun z=>by
  obtain ⟨hb,e⟩:=qFU z
  obtain ⟨f0,f1,f2,_⟩:=hf p.1 hb
  obtain ⟨o,e',d⟩:=ho p.1 hb
  rw [e] at e'; cases e'
  exact ⟨e,f0,f1,f2,d⟩
theorem Inv.unpinned {pins pl:List (Addr×Obj)} {σ:St} {H:Hp} {s:Shared} (I:Inv X (pins++pl) σ H s):Inv X pins σ H s:=I.pins_of fun p hp=>I.pin p (zK _ (zS _ hp))
theorem JW {iter:Expr} {body:List Stmt} {wi:TI} {g:TG} {tb:TS} {pos:Pos} (hp:PassesOwn (model X.prog X.w) X.A X.env X.xe) (hc:X.calm=true) (hi:PI X tg iter wi) (hg:PG X tg g) (hb:PSs X body tb)
  (hs:∀ x,foldedSetIterable iter X.env x=pure x:=by intro _; rfl):PS X (.For tg iter body [] pos) (qG3 wi g tb):=by
 intro pins s σ H D I h
 refine wpAny_For (thn (hi pins s σ H _ I h) fun v s1 h1=>thn h1 fun itv s2 h2=>?_) hs
 obtain ⟨it,fp,tn,J,H2,e,I2,T,st2,f2,W,⟨m0,w0⟩,turn⟩:=h2
 subst e
 have stat:∀{H':Hp},(∀ b∈fp,H' b=none)->∀ b∈fp,qCQ X pins H' b:=fun hn b hb=>⟨hn b hb,(f2 b hb).2⟩
 refine codeAny_forLoop_any (fun n s'=>∃ i σ' H',Inv X pins σ' H' s'/\tn i s'.heap/\(∀ b∈fp,H' b=none)/\W i n σ' H') ?_ m0 ⟨0,σ,H2,I2,st2,fun b hb=>(f2 b hb).1,w0⟩
 rintro n s3 ⟨i,σ3,H3,I3,st3,fr3,w3⟩
 rcases turn i n σ3 H3 w3 with ⟨stop,qn⟩ | ⟨go,N,hN,step⟩
 ·refine kG hp (thn (T.done X rfl rfl rfl hc i pins s3 σ3 H3 X.xe I3 (stat fr3) st3 stop) fun r s4 ⟨hr,I4⟩=>?_)
  subst hr
  exact ZR ⟨σ3,H3,I4,qn⟩
 ·refine kG hp (thn (T.item X rfl rfl rfl hc i pins s3 σ3 H3 X.xe I3 (stat fr3) st3 go) fun r s4 ⟨u,hr,h4⟩=>?_)
  subst hr
  refine kG hp (thn h4 fun _ s5 ⟨x,H5,I5,r5,y5,st5,fr5⟩=>?_)
  have I5':=I5.pinned (stat fr5) (T.obj _ _ st5)
  refine kG hp (thn (hg _ s5 σ3 H5 x u _ I5' r5 (step x H5 y5)) fun _ s6 ⟨σ6,H6,I6,q6⟩=>?_)
  refine kG hp (thn (hb _ s6 σ6 H6 _ I6 q6) fun f s7 q7=>?_)
  have again:∀{σ7:St} {H7:Hp},Inv X (pins++Yg fp s5.heap) σ7 H7 s7->N σ7 H7->∃ m,m<n/\∃ i σ' H',Inv X pins σ' H' s7/\tn i s7.heap/\(∀ b∈fp,H' b=none)/\W i m σ' H':=fun {σ7 H7} I7 n7=>by
   obtain ⟨m',hm,w7⟩:=hN σ7 H7 n7
   refine ⟨m',hm,i+1,σ7,H7,I7.unpinned,T.keep _ _ _ st5 fun b hb o e=>(I7.pin (b,o) (zK _ (zK _ (jj hb e)))).1,fun b hb=>?_,w7⟩
   obtain ⟨o,e,d⟩:=T.obj _ _ st5 b hb
   exact (I7.pin (b,o) (zK _ (zK _ (jj hb e)))).2.1
  cases f with
  | next=>obtain ⟨σ7,H7,I7,n7⟩:=q7; exact again I7 n7
  | cont=>obtain ⟨σ7,H7,I7,n7⟩:=q7; exact again I7 n7
  | brk=>obtain ⟨σ7,H7,I7,q7⟩:=q7; exact ⟨σ7,H7,I7.unpinned,q7⟩
  | ret v=>obtain ⟨x7,σ7,H7,I7,r7,q7⟩:=q7; exact ⟨x7,σ7,H7,I7.unpinned,r7,q7⟩
end
noncomputable abbrev R2:=V->V->Hp->VK->Prop
noncomputable def OpR (X:Cx) (f:Value->Value->Sem Value) (r:R2):Prop:=
 ∀(pins:List (Addr×Obj)) (s:Shared) (σ:St) (H:Hp) (x y:V) (v u:Value) (Q:VK),Inv X pins σ H s->RelV x v->RelV y u->r x y H Q->
  wpAny (model X.prog X.w) X.A (f v u) (EP X pins σ Q) X.xe s
noncomputable def UnR (X:Cx) (f:Value->Sem Value) (r:V->Hp->VK->Prop):Prop:=
 ∀(pins:List (Addr×Obj)) (s:Shared) (σ:St) (H:Hp) (x:V) (v:Value) (Q:VK),Inv X pins σ H s->RelV x v->r x H Q->
  wpAny (model X.prog X.w) X.A (f v) (EP X pins σ Q) X.xe s
noncomputable def QJ (X:Cx) (f:Value) (r:List V->Hp->VK->Prop):Prop:=
 ∀(pins:List (Addr×Obj)) (s:Shared) (σ:St) (H:Hp) (xs:List V) (us:List Value) (Q:VK),Inv X pins σ H s->jB xs us->r xs H Q->
  wpAny (model X.prog X.w) X.A (call f us) (EP X pins σ Q) X.xe s
noncomputable def qNl (X:Cx) (r:V->Hp->(Bool->Hp->Prop)->Prop):Prop:=
 ∀(pins:List (Addr×Obj)) (s:Shared) (σ:St) (H:Hp) (x:V) (v:Value) (Q:Bool->Hp->Prop),Inv X pins σ H s->RelV x v->r x H Q->
  wpAny (model X.prog X.w) X.A (truthy v) (TP X pins σ Q) X.xe s
noncomputable def tOp (r:R2) (ta tb:TE):TE:=fun σ H Q=>ta σ H fun x H1=>tb σ H1 fun y H2=>r x y H2 Q
noncomputable def tUn (r:V->Hp->VK->Prop) (ta:TE):TE:=fun σ H Q=>ta σ H fun x H1=>r x H1 Q
noncomputable def rI (C:Int->Int->Prop) (g:Int->Int->V):R2:=fun x y H Q=>∃ i j,x=.int i/\y=.int j/\C i j/\Q (g i j) H
noncomputable def rI0 (g:Int->Int->V):R2:=fun x y H Q=>∃ i j,x=.int i/\y=.int j/\Q (g i j) H
noncomputable def rU (g:Int->V):V->Hp->VK->Prop:=fun x H Q=>∃ i,x=.int i/\Q (g i) H
section
variable {X:Cx} {a b c:Expr} {ta tb tc:TE} {pos:Pos}
theorem qMF (ha:PE X a ta) (hb:PE X b tb) {pins:List (Addr×Obj)} {s:Shared} {σ:St} {H:Hp} {R:V->V->Hp->Prop} (I:Inv X pins σ H s)
  (h:ta σ H fun x H1=>tb σ H1 fun y H2=>R x y H2) {Q:Value->Shared->Prop} {f:Value->Value->Sem Value}
  (hf:∀ v u s2 x y H2,Inv X pins σ H2 s2->RelV x v->RelV y u->R x y H2->wpAny (model X.prog X.w) X.A (f v u) Q X.xe s2) :
  wpAny (model X.prog X.w) X.A (eval a X.env) (fun v s₁=>wpAny (model X.prog X.w) X.A (eval b X.env) (fun u s₂=>wpAny (model X.prog X.w) X.A (f v u) Q X.xe s₂) X.xe s₁) X.xe s:=by
 refine thn (ha pins s σ H _ I h) fun v s1 ⟨x,H1,I1,r1,q1⟩=>?_
 refine thn (hb pins s1 σ H1 _ I1 q1) fun u s2 ⟨y,H2,I2,r2,q2⟩=>?_
 exact hf v u s2 x y H2 I2 r1 r2 q2
theorem qr {op:Operator} {r:R2} (ho:OpR X (binaryOp op) r) (ha:PE X a ta) (hb:PE X b tb):PE X (.BinOp a op b pos) (tOp r ta tb):=by
 intro pins s σ H Q I h
 exact wpAny_BinOp (qMF ha hb I h fun v u s2 x y H2 I2 rx ry q=>ho pins s2 σ H2 x y v u Q I2 rx ry q)
theorem qBd {op:UnaryOp} {r:V->Hp->VK->Prop} (ho:UnR X (unaryOp op) r) (ha:PE X a ta):PE X (.UnaryOp op a pos) (tUn r ta):=by
 intro pins s σ H Q I h
 exact UnaryOp_ (thn (ha pins s σ H _ I h) fun v s1 ⟨x,H1,I1,r1,q1⟩=>ho pins s1 σ H1 x v Q I1 r1 q1)
theorem opI {f:Value->Value->Sem Value} {C:Int->Int->Prop} {g:Int->Int->Int}
  (rule:∀(i j:Int) (t u:Tok) (s:Shared) (Q:Value->Shared->Prop) (E:Value->Shared->Prop),C i j->Q (.int (g i j) s.toks) { s with toks:=s.toks+1 }->wpAny (model X.prog X.w) X.A (f (.int i t) (.int j u)) Q E s) :
  OpR X f (rI C fun i j=>.int (g i j)):=by
 intro pins s σ H x y v u Q I rx ry h
 obtain ⟨i,j,rfl,rfl,hc,q⟩:=h
 obtain ⟨t,rfl⟩:=rx
 obtain ⟨t',rfl⟩:=ry
 exact rule i j t t' s _ _ hc ⟨.int (g i j),H,I.tok _,⟨_,rfl⟩,q⟩
theorem qL5 {f:Value->Value->Sem Value} {g:Int->Int->Int}
  (rule:∀(i j:Int) (t u:Tok) (s:Shared) (Q:Value->Shared->Prop) (E:Value->Shared->Prop),Q (.int (g i j) s.toks) { s with toks:=s.toks+1 }->wpAny (model X.prog X.w) X.A (f (.int i t) (.int j u)) Q E s) :
  OpR X f (rI0 fun i j=>.int (g i j)):=by
 intro pins s σ H x y v u Q I rx ry h
 obtain ⟨i,j,rfl,rfl,q⟩:=h
 obtain ⟨t,rfl⟩:=rx
 obtain ⟨t',rfl⟩:=ry
 exact rule i j t t' s _ _ ⟨.int (g i j),H,I.tok _,⟨_,rfl⟩,q⟩
theorem qMS {f:Value->Value->Sem Value} {g:Int->Int->Bool}
  (rule:∀(i j:Int) (t u:Tok) (s:Shared) (Q:Value->Shared->Prop) (E:Value->Shared->Prop),Q (.bool (g i j)) s->wpAny (model X.prog X.w) X.A (f (.int i t) (.int j u)) Q E s) :
  OpR X f (rI0 fun i j=>.bl (g i j)):=by
 intro pins s σ H x y v u Q I rx ry h
 obtain ⟨i,j,rfl,rfl,q⟩:=h
 obtain ⟨t,rfl⟩:=rx
 obtain ⟨t',rfl⟩:=ry
 exact rule i j t t' s _ _ ⟨.bl (g i j),H,I,rfl,q⟩
noncomputable def qNE (i j:Int):Prop:=0<j/\j<1073741824
noncomputable def qNS (i j:Int):Prop:=0<=j/\j<=1000000/\i.natAbs<2 ^ 64
noncomputable def qLl (i j:Int):Prop:=(-(2 ^ 64)<i/\i<2 ^ 64)\/(-(2 ^ 64)<j/\j<2 ^ 64)
theorem qLl.ok {i j:Int} (h:qLl i j):IntMulOk i j:=by
 rcases h with ⟨h1,h2⟩ | ⟨h1,h2⟩
 ·exact .of_left (intBits_le_64 h1 h2)
 ·exact .of_right (intBits_le_64 h1 h2)
theorem qLc:OpR X (binaryOp .Add) (rI0 fun i j=>.int (i+j)):=qL5 fun _ _ _ _ _ _ _ q=>add_int q
theorem J6:OpR X (binaryOp .Sub) (rI0 fun i j=>.int (i - j)):=qL5 fun _ _ _ _ _ _ _ q=>sub_int q
theorem qKp:OpR X (binaryOp .Mult) (rI qLl fun i j=>.int (i*j)):=opI fun _ _ _ _ _ _ _ hc q=>mul_int q hc.ok
theorem qF5:OpR X (binaryOp .FloorDiv) (rI qNE fun i j=>.int (i / j)):=opI fun i j _ _ _ _ _ hc q=>by
 have h1:(0:Int)<j:=hc.1
 have h2:j<1073741824:=hc.2
 exact floordiv_int (by omega) (by rw [Int.fdiv_eq_ediv_of_nonneg i (by omega)]; exact q) (.inl (PyProof.noPylong_small (by omega)))
theorem JR:OpR X (binaryOp .Mod) (rI (fun _ j=>0<j) fun i j=>.int (i % j)):=opI fun i j _ _ _ _ _ hc q=>by
 have h1:(0:Int)<j:=hc
 exact mod_int' (by omega) (by rw [Int.fmod_eq_emod_of_nonneg i (by omega)]; exact q)
theorem qIU:OpR X (binaryOp .Pow) (rI qNS fun i j=>.int (i ^ j.toNat)):=opI fun _ _ _ _ _ _ _ hc q=>pow_int_small hc.1 hc.2.1 hc.2.2 q
theorem qGL:OpR X (inplaceOp .Add) (rI0 fun i j=>.int (i+j)):=qL5 fun _ _ _ _ _ _ _ q=>iadd_int q
theorem unI {f:Value->Sem Value} {g:Int->Int}
  (rule:∀(i:Int) (t:Tok) (s:Shared) (Q:Value->Shared->Prop) (E:Value->Shared->Prop),Q (.int (g i) s.toks) { s with toks:=s.toks+1 }->wpAny (model X.prog X.w) X.A (f (.int i t)) Q E s) :
  UnR X f (rU fun i=>.int (g i)):=by
 intro pins s σ H x v Q I rx h
 obtain ⟨i,rfl,q⟩:=h
 obtain ⟨t,rfl⟩:=rx
 exact rule i t s _ _ ⟨.int (g i),H,I.tok _,⟨_,rfl⟩,q⟩
theorem J5:UnR X (unaryOp .USub) (rU fun i=>.int (-i)):=unI fun _ _ _ _ _ q=>neg_int q
end
noncomputable def qLr:V->V->Bool
 | .non,.non=>true | .non,.int _=>true | .int _,.non=>true | .non,.bl _=>true | .bl _,.non=>true | .non,.str _=>true | .str _,.non=>true
 | .int _,.int _=>true | .bl _,.bl _=>true | .str _,.str _=>true | .byt _,.byt _=>true
 | .int _,.str _=>true | .str _,.int _=>true | .bl _,.str _=>true | .str _,.bl _=>true
 | _,_=>false
noncomputable def rEq:R2:=fun x y H Q=>qLr x y=true/\Q (.bl (decide (x=y))) H
noncomputable def rNe:R2:=fun x y H Q=>qLr x y=true/\Q (.bl (!decide (x=y))) H
theorem qF8 {i j:Int}:decide (V.int i=V.int j)=(i == j):=by
 rw [gX]
 simp
theorem qIX {i j:Bool}:decide (V.bl i=V.bl j)=(i == j):=by
 rw [gX]
 simp
theorem qGT {i j:Str}:decide (V.str i=V.str j)=(i == j):=by
 rw [gX]
 simp
theorem qE3 {i j:Array UInt8}:decide (V.byt i=V.byt j)=(i.toList == j.toList):=by
 rw [gX]
 cases i
 cases j
 simp
section
variable {X:Cx} {a b c:Expr} {ta tb tc:TE} {pos:Pos}
theorem qa {pins:List (Addr×Obj)} {σ:St} {H:Hp} {s:Shared} {Q:VK} {k k':Bool} (I:Inv X pins σ H s) (q:Q (.bl k) H) (e:k=k'):EP X pins σ Q (.bool k') s:=by
 subst e
 exact ⟨.bl k,H,I,rfl,q⟩
theorem qMV:OpR X (compareOp .Eq) rEq:=by
 intro pins s σ H x y v u Q I rx ry h
 obtain ⟨hs,q⟩:=h
 cases x with
 | non=>
  cases rx
  cases y with
  | non=>cases ry; exact PySem.EqNone.eq_none_none (qa I q (by simp))
  | bl j=>cases ry; exact PySem.EqNone.eq_none_bool (qa I q (by simp))
  | int j=>obtain ⟨t',rfl⟩:=ry; exact PySem.EqNone.eq_none_int (qa I q (by simp))
  | str j=>obtain ⟨t',rfl⟩:=ry; exact PySem.EqNone.eq_none_str (qa I q (by simp))
  | _=>exact absurd (show false=true from hs) wQ
 | bl i=>
  cases rx
  cases y with
  | non=>cases ry; exact PySem.EqNone.eq_bool_none (qa I q (by simp))
  | bl j=>cases ry; exact eq_bool (qa I q qIX)
  | str j=>obtain ⟨t',rfl⟩:=ry; exact PySem.EqMixed.eq_bool_str (qa I q (by simp))
  | _=>exact absurd (show false=true from hs) wQ
 | int i=>
  obtain ⟨t,rfl⟩:=rx
  cases y with
  | non=>cases ry; exact PySem.EqNone.eq_int_none (qa I q (by simp))
  | int j=>obtain ⟨t',rfl⟩:=ry; exact eq_int (qa I q qF8)
  | str j=>obtain ⟨t',rfl⟩:=ry; exact PySem.EqMixed.eq_int_str (qa I q (by simp))
  | _=>exact absurd (show false=true from hs) wQ
 | str i=>
  obtain ⟨t,rfl⟩:=rx
  cases y with
  | non=>cases ry; exact PySem.EqNone.eq_str_none (qa I q (by simp))
  | bl j=>cases ry; exact PySem.EqMixed.eq_str_bool (qa I q (by simp))
  | int j=>obtain ⟨t',rfl⟩:=ry; exact PySem.EqMixed.eq_str_int (qa I q (by simp))
  | str j=>obtain ⟨t',rfl⟩:=ry; exact eq_str (qa I q qGT)
  | _=>exact absurd (show false=true from hs) wQ
 | byt i=>
  obtain ⟨t,rfl⟩:=rx
  cases y with
  | byt j=>obtain ⟨t',rfl⟩:=ry; exact PySem.W.eq_bytes (qa I q qE3)
  | _=>exact absurd (show false=true from hs) wQ
 | _=>cases y <;> exact absurd (show false=true from hs) wQ
theorem qMb:OpR X (compareOp .NotEq) rNe:=by
 intro pins s σ H x y v u Q I rx ry h
 obtain ⟨hs,q⟩:=h
 cases x with
 | non=>
  cases rx
  cases y with
  | non=>cases ry; exact PySem.EqNone.ne_none_none (qa I q (by simp))
  | bl j=>cases ry; exact PySem.EqNone.ne_none_bool (qa I q (by simp))
  | int j=>obtain ⟨t',rfl⟩:=ry; exact PySem.EqNone.ne_none_int (qa I q (by simp))
  | str j=>obtain ⟨t',rfl⟩:=ry; exact PySem.EqNone.ne_none_str (qa I q (by simp))
  | _=>exact absurd (show false=true from hs) wQ
 | bl i=>
  cases rx
  cases y with
  | non=>cases ry; exact PySem.EqNone.ne_bool_none (qa I q (by simp))
  | bl j=>cases ry; exact ne_bool (qa I q (congrArg not qIX))
  | str j=>obtain ⟨t',rfl⟩:=ry; exact PySem.EqMixed.ne_bool_str (qa I q (by simp))
  | _=>exact absurd (show false=true from hs) wQ
 | int i=>
  obtain ⟨t,rfl⟩:=rx
  cases y with
  | non=>cases ry; exact PySem.EqNone.ne_int_none (qa I q (by simp))
  | int j=>obtain ⟨t',rfl⟩:=ry; exact ne_int (qa I q (congrArg not qF8))
  | str j=>obtain ⟨t',rfl⟩:=ry; exact PySem.EqMixed.ne_int_str (qa I q (by simp))
  | _=>exact absurd (show false=true from hs) wQ
 | str i=>
  obtain ⟨t,rfl⟩:=rx
  cases y with
  | non=>cases ry; exact PySem.EqNone.ne_str_none (qa I q (by simp))
  | bl j=>cases ry; exact PySem.EqMixed.ne_str_bool (qa I q (by simp))
  | int j=>obtain ⟨t',rfl⟩:=ry; exact PySem.EqMixed.ne_str_int (qa I q (by simp))
  | str j=>obtain ⟨t',rfl⟩:=ry; exact ne_str (qa I q (congrArg not qGT))
  | _=>exact absurd (show false=true from hs) wQ
 | byt i=>
  obtain ⟨t,rfl⟩:=rx
  cases y with
  | byt j=>obtain ⟨t',rfl⟩:=ry; exact PySem.W.ne_bytes (qa I q (congrArg not qE3))
  | _=>exact absurd (show false=true from hs) wQ
 | _=>cases y <;> exact absurd (show false=true from hs) wQ
theorem qAB:OpR X (compareOp .Lt) (rI0 fun i j=>.bl (decide (i<j))):=qMS fun _ _ _ _ _ _ _ q=>lt_int q
theorem qL7:OpR X (compareOp .LtE) (rI0 fun i j=>.bl (decide (i<=j))):=qMS fun _ _ _ _ _ _ _ q=>le_int q
theorem qFN:OpR X (compareOp .Gt) (rI0 fun i j=>.bl (decide (j<i))):=qMS fun _ _ _ _ _ _ _ q=>gt_int q
theorem qJ1:OpR X (compareOp .IsNot) (fun x y H Q=>y=.non/\Q (.bl (!decide (x=.non))) H):=by
 intro pins s σ H x y v u Q I rx ry h
 obtain ⟨rfl,q⟩:=h
 cases ry
 refine isnot_none_gen (qa I q ?_)
 cases x <;> first
  | (cases rx; rfl)
  | (obtain ⟨t,rfl⟩:=rx; rfl)
theorem OpR.or {f:Value->Value->Sem Value} {r r':R2} (h:OpR X f r) (h':OpR X f r'):OpR X f (fun x y H Q=>r x y H Q\/r' x y H Q):=by
 intro pins s σ H x y v u Q I rx ry q
 rcases q with q | q
 ·exact h pins s σ H x y v u Q I rx ry q
 ·exact h' pins s σ H x y v u Q I rx ry q
theorem qV (b:Expr) {op:CmpOp} (h:op≠.In:=by decide) (h2:op≠.NotIn:=by decide):behindInMarks op b=false:=by
 have e1:(op == CmpOp.In)=false:=by cases op <;> first | rfl | exact absurd rfl h
 have e2:(op == CmpOp.NotIn)=false:=by cases op <;> first | rfl | exact absurd rfl h2
 cases b <;> simp [behindInMarks,e1,e2]
theorem jU {op:CmpOp} {r:R2} (ho:OpR X (compareOp op) r) (ha:PE X a ta) (hb:PE X b tb) (hm:behindInMarks op b=false):PE X (.Compare a [op] [b] pos) (tOp r ta tb):=by
 intro pins s σ H Q I h
 exact wpAny_Compare1 (qMF ha hb I h fun v u s2 x y H2 I2 rx ry q=>ho pins s2 σ H2 x y v u Q I2 rx ry q) hm
noncomputable def qKa (t:TE):TT:=fun σ H Q=>t σ H fun x H'=>∃ k,x=.bl k/\Q k H'
theorem qK {op:CmpOp} {r:R2} (ho:OpR X (compareOp op) r) (ha:PE X a ta) (hb:PE X b tb) (hm:behindInMarks op b=false):PT X (.Compare a [op] [b] pos) (qKa (tOp r ta tb)):=by
 intro pins s σ H Q I h
 refine wpAny_isTrue_Compare1 (thn (ha pins s σ H _ I h) fun v s1 ⟨x,H1,I1,r1,q1⟩=>thn (hb pins s1 σ H1 _ I1 q1) fun u s2 ⟨y,H2,I2,r2,q2⟩=>
  thn (ho pins s2 σ H2 x y v u _ I2 r1 r2 q2) fun c s3 ⟨z,H3,I3,r3,k,e,q3⟩=>?_) hm
 subst e
 cases r3
 exact uP ⟨H3,I3,q3⟩
noncomputable def qIm (r r':R2) (ta tb tc:TE):TE:=fun σ H Q=>ta σ H fun x H1=>tb σ H1 fun y H2=>r x y H2 fun z H3=>∃ k,z=.bl k/\
 (if k=true then tc σ H3 fun w' H4=>r' y w' H4 Q else Q (.bl false) H3)
theorem qHg {op op':CmpOp} {r r':R2} (ho:OpR X (compareOp op) r) (ho':OpR X (compareOp op') r') (ha:PE X a ta) (hb:PE X b tb) (hc:PE X c tc)
  (hm:lastMarks [op,op'] [b,c]=false:=by with_unfolding_all rfl):PE X (.Compare a [op,op'] [b,c] pos) (qIm r r' ta tb tc):=by
 intro pins s σ H Q I h
 refine Compare_chain (thn (ha pins s σ H _ I h) fun v s1 ⟨x,H1,I1,r1,q1⟩=>chain_link (thn (hb pins s1 σ H1 _ I1 q1) fun u s2 ⟨y,H2,I2,r2,q2⟩=>
  thn (ho pins s2 σ H2 x y v u _ I2 r1 r2 q2) fun d s3 ⟨z,H3,I3,r3,k,e,q3⟩=>?_)) hm
 subst e
 cases r3
 refine uP ?_
 cases k with
 | false=>exact ite_ff ⟨.bl false,H3,I3,rfl,q3⟩
 | true=>exact ite_tt (chain_last (thn (hc pins s3 σ H3 _ I3 q3) fun w' s4 ⟨z',H4,I4,r4,q4⟩=>ho' pins s4 σ H4 y z' u w' Q I4 r2 r4 q4))
noncomputable def qLb (K:wJ) (x:V) (H:Hp) (k:Bool):Prop:=
 match x with
 | .non=>k=false
 | .bl b=>k=b
 | .int i=>k=(i != 0)
 | .str y=>y.length<=sizeLine/\k=((y.length:Int) != 0)
 | .byt y=>y.size<=sizeLine/\k=((y.size:Int) != 0)
 | .ref p=>(∃ xs,SqL K H p xs/\k = !xs.isEmpty)\/(∃ xs,SqT K H p xs/\k = !xs.isEmpty)\/∃ kvs,H p=some (.dK kvs)/\k = !kvs.isEmpty
 | _=>False
theorem qEi {κ:Type} {kvs:List (κ×V)} {vs:List (κ×Value)} (r:KV kvs vs):(!vs.isEmpty) = !kvs.isEmpty:=by
 cases r <;> rfl
theorem qAL {xs:List V} {its:List Value} (r:jB xs its):(!its.toArray.isEmpty) = !xs.isEmpty:=by
 cases r <;> simp
theorem Yr:(sizeLine:Nat)<2 ^ 63:=by rw [xS]; decide
theorem qIj:qNl X (fun x H Q=>∃ k,qLb X.K x H k/\Q k H):=by
 intro pins s σ H x v Q I rx h
 obtain ⟨k,e,q⟩:=h
 have hl:=Yr
 have hs:sizeLine=16777216:=xS
 cases x with
 | non=>
  cases rx
  have e':k=false:=e
  subst e'
  exact truthy_none ⟨H,I,q⟩
 | bl b=>
  cases rx
  have e':k=b:=e
  subst e'
  exact uP ⟨H,I,q⟩
 | int i=>
  obtain ⟨t,rfl⟩:=rx
  have e':k=(i != 0):=e
  subst e'
  exact PySem.P.truthy_int ⟨H,I,q⟩
 | str y=>
  obtain ⟨t,rfl⟩:=rx
  obtain ⟨hy,e'⟩:y.length<=sizeLine/\k=((y.length:Int) != 0):=e
  subst e'
  exact PySem.P.truthy_str (by omega) ⟨H,I.tok _,q⟩
 | byt y=>
  obtain ⟨t,rfl⟩:=rx
  obtain ⟨hy,e'⟩:y.size<=sizeLine/\k=((y.size:Int) != 0):=e
  subst e'
  exact PySem.W.truthy_bytes (by omega) ⟨H,I.tok _,q⟩
 | ref p=>
  cases rx
  have e':(∃ xs,SqL X.K H p xs/\k = !xs.isEmpty)\/(∃ xs,SqT X.K H p xs/\k = !xs.isEmpty)\/∃ kvs,H p=some (.dK kvs)/\k = !kvs.isEmpty:=e
  rcases e' with ⟨xs,hx,e'⟩ | ⟨xs,hx,e'⟩ | ⟨kvs,hx,e'⟩
  ·subst e'
   obtain ⟨its,r,pl,hz⟩:=I.list hx
   have hlen:=r.length
   exact wpAny_truthy_list pl.isList (by simp only [wH]; omega) ⟨H,I.tok _,by rw [qAL r]; exact q⟩
  ·subst e'
   obtain ⟨its,r,pl,hz⟩:=I.tuple hx
   have hlen:=r.length
   exact truthy_tuple pl (by simp only [wH]; omega) ⟨H,I.tok _,by rw [qAL r]; exact q⟩
  ·subst e'
   obtain ⟨hz,hS,vs,r,m⟩:kvs.length<=sizeLine/\(p == sysModules)=false/\∃ vs,KV kvs vs/\s.heap.DictOf (qCs X.prog X.w) p vs:=I.hok p _ hx
   have hlen:kvs.length=vs.length:=Paired.length r
   exact wpAny_truthy_dict hS m (by omega) ⟨H,I.tok _,by rw [qEi r]; exact q⟩
 | _=>exact (show False from e).elim
theorem qHY (ha:PE X a ta) (he:∀ whole,isTrue a X.env whole=(do let v <- whole; standAt a.pos; holding [v] (truthy v))) :
  PT X a (fun σ H Q=>ta σ H fun x H'=>∃ k,qLb X.K x H' k/\Q k H'):=by
 intro pins s σ H Q I h
 exact isTrue_plain (thn (ha pins s σ H _ I h) fun v s1 ⟨x,H1,I1,r1,q1⟩=>qIj pins s1 σ H1 x v Q I1 r1 q1) (he _)
theorem vals1 {x:V} {us:List Value} (r:jB [x] us):∃ u,us=[u]/\RelV x u:=by
 cases r with
 | cons r1 r2=>cases r2; exact ⟨_,rfl,r1⟩
theorem vals2 {x y:V} {us:List Value} (r:jB [x,y] us):∃ u w',us=[u,w']/\RelV x u/\RelV y w':=by
 cases r with
 | cons r1 r2=>
  cases r2 with
  | cons r3 r4=>cases r4; exact ⟨_,_,rfl,r1,r3⟩
theorem Qm (hc:X.calm=true):QJ X (.builtin "max") (fun xs H Q=>∃ i j,xs=[.int i,.int j]/\Q (.int (if j > i then j else i)) H):=by
 intro pins s σ H xs us Q I r h
 obtain ⟨i,j,rfl,q⟩:=h
 obtain ⟨u,w',rfl,⟨t,rfl⟩,⟨t',rfl⟩⟩:=vals2 r
 refine max_two_ints (I.ok.hd hc) fun h' tk k=>⟨_,H,I.kept k,?_,q⟩
 by_cases hj:j > i
 ·rw [if_pos hj,if_pos hj]; exact ⟨_,rfl⟩
 ·rw [if_neg hj,if_neg hj]; exact ⟨_,rfl⟩
theorem Qw (hc:X.calm=true):QJ X (.builtin "min") (fun xs H Q=>∃ i j,xs=[.int i,.int j]/\Q (.int (if j<i then j else i)) H):=by
 intro pins s σ H xs us Q I r h
 obtain ⟨i,j,rfl,q⟩:=h
 obtain ⟨u,w',rfl,⟨t,rfl⟩,⟨t',rfl⟩⟩:=vals2 r
 refine min_two_ints (I.ok.hd hc) fun h' tk k=>⟨_,H,I.kept k,?_,q⟩
 by_cases hj:j<i
 ·rw [if_pos hj,if_pos hj]; exact ⟨_,rfl⟩
 ·rw [if_neg hj,if_neg hj]; exact ⟨_,rfl⟩
theorem qB0:QJ X (.type "int") (fun xs H Q=>(∃ i,xs=[.int i]/\Q (.int i) H)\/∃ k,xs=[.bl k]/\Q (.int (if k then 1 else 0)) H):=by
 intro pins s σ H xs us Q I r h
 rcases h with ⟨i,rfl,q⟩ | ⟨k,rfl,q⟩
 ·obtain ⟨u,rfl,t,rfl⟩:=vals1 r
  exact call_int_int ⟨.int i,H,I,⟨_,rfl⟩,q⟩
 ·obtain ⟨u,rfl,r1⟩:=vals1 r
  cases r1
  exact call_int_bool ⟨.int (if k then 1 else 0),H,I.tok _,⟨_,rfl⟩,q⟩
end
structure qMM (h:Heap) (x dx C:Addr) (mA:Str->Option Value):Prop where
 obj:h.get? x=some (VX C dx)
 ns:h.Ns1 dx mA
 ne:dx≠x
theorem qFW {h:Heap} {dx:Addr} {mA:Str->Option Value} (n:h.Ns1 dx mA):∃ od,h.get? dx=some od/\∀ name,UG name od=some (mA name):=by
 obtain ⟨o,es,ep,ho,hd,hk,_,hm⟩:=n
 refine ⟨o,ho,fun name=>?_⟩
 have e:=hm name
 unfold nsFind findBy at e
 rw [<- Array.find?_toList] at e
 unfold UG
 rw [hd]
 dsimp only
 split
 ·rename_i y q
  rw [q] at e
  exact congrArg some e
 ·rename_i q
  rw [q] at e
  have a:es.toList.any (·.refKey)=false:=by
   rw [List.any_eq_false]
   intro y hy
   obtain ⟨z,t,hkey⟩:=hk y (uQ.mp hy)
   simp [DictEntry.refKey,hkey]
  have a':¬ es.toList.any (·.refKey)=true:=by rw [a]; exact wQ
  rw [if_neg a']
  exact congrArg some e
theorem qMM.look {h:Heap} {x dx C:Addr} {mA:Str->Option Value} (I:qMM h x dx C mA):∃ od,PySem.W.InstAt h x (VX C dx) C (some od)/\∀ name,UG name od=some (mA name):=
 let ⟨od,ho,hl⟩:=qFW I.ns
 ⟨od,⟨I.obj,rfl,rfl,ho⟩,hl⟩
section
variable {P:Program} {w:World} {H H':Hp} {h h':Heap} {a C dx:Addr} {fs fs':List (Str×V)}
theorem qJN (hok:HOk P w H h) (e:H a=some (.ins C dx fs)):∃ mA,qMM h a dx C mA/\(∀ f,qLx (fs.lookup f) (mA f))/\PySem.Within mA (fs.map (·.1))/\fs.length<=1000/\H dx=some (.own a):=by
 obtain ⟨d,z,ne,ob,mA,n,r,q⟩:=(show QS P w H h a (.ins C dx fs) from hok a _ e)
 exact ⟨mA,⟨ob,n,ne⟩,r,q,z,d⟩
end
structure Cls (K:wJ) (C:Addr):Prop where
 pg:PySem.W.plainGet K C Str.empty=true
 hd:PySem.W.hasDictIn K C=true
 po:PySem.W.plainOver K C=true
 sa:PySem.W.findIn K (.ref C) "__setattr__" = some (some (.builtin "object.__setattr__"))
theorem Cls.get {K:wJ} {C:Addr} (c:Cls K C) (f:Str):PySem.W.plainGet K C f=true:=c.pg
section
variable {X:Cx} {pins:List (Addr×Obj)} {σ:St} {H:Hp} {s:Shared} {A:Around} {E:Value->Shared->Prop} {Q:Value->Shared->Prop} {c:Value} {b:Bool}
inductive qCP (K:wJ) (H:Hp):V->Value->Prop where
 | non:qCP K H .non (.type "NoneType")
 | bl (x:Bool):qCP K H (.bl x) (.type "bool")
 | int (i:Int):qCP K H (.int i) (.type "int")
 | str (x:Str):qCP K H (.str x) (.type "str")
 | flt (x:UInt64):qCP K H (.flt x) (.type "float")
 | lst {a:Addr} {xs:List V} (e:H a=some (.lst xs)):qCP K H (.ref a) (.type "list")
 | frz {a:Addr} {o:Obj} {xs:List V} (e:H a=some (.frz o (.lst xs))):qCP K H (.ref a) (.type "list")
 | tup {a:Addr} {xs:List V} (e:H a=some (.tup xs)):qCP K H (.ref a) (.type "tuple")
 | dK {a:Addr} {kvs:List (Key×V)} (e:H a=some (.dK kvs)):qCP K H (.ref a) (.type "dict")
 | dT {a:Addr} {kvs:List (List Key×V)} (e:H a=some (.dT kvs)):qCP K H (.ref a) (.type "dict")
 | ins {a C dx:Addr} {fs:List (Str×V)} (e:H a=some (.ins C dx fs)) (cl:Cls K C) (ha:PySem.W.findIn K (.ref C) "__class__" = some (some (.builtin "object.__class__")))
   (hn:PySem.W.specialIn K (.builtin "object.__class__") "__get__" = some (some (.builtin "getset_descriptor.__get__"))) (htk:PySem.W.takesIn K (.builtin "object.__class__")=some true)
   (hm:PySem.W.mroIn K C (.type "object")=some true):qCP K H (.ref a) (.ref C)
theorem qFC {x:V} {u t:Value} (I:Inv X pins σ H s) (rx:RelV x u) (ty:qCP X.K H x t) (e:xT X.K t c=some b) (h:∀ tk,Q (.bool b) { s with toks:=tk }) :
  wpAny (model X.prog X.w) A (call (.builtin "isinstance") [u,c]) Q E s:=by
 cases ty with
 | non=>cases (show u=uG from rx); exact xC PySem.W.kitx_none I.kIn WM e (fun z=>nomatch z) h
 | bl y=>cases (show u=Value.bool y from rx); exact xC PySem.W.kitx_bool I.kIn WM e (fun z=>nomatch z) h
 | int i=>obtain ⟨t,q⟩:=(show ∃ t,u=gC i t from rx); cases q; exact xC PySem.W.kitx_int I.kIn WM e (fun z=>nomatch z) h
 | str y=>obtain ⟨t,q⟩:=(show ∃ t,u=Value.str y t from rx); cases q; exact xC PySem.W.kitx_str I.kIn WM e (fun z=>nomatch z) h
 | flt y=>obtain ⟨t,q⟩:=(show ∃ t,u=Value.float y t from rx); cases q; exact xC PySem.W.kitx_float I.kIn WM e (fun z=>nomatch z) h
 | @lst a xs ea=>
  cases (show u=uM a from rx)
  obtain ⟨_,_,n,_,h1⟩:=(show QS X.prog X.w H s.heap a (.lst xs) from I.hok a _ ea)
  exact xC PySem.W.kitx_list I.kIn ⟨_,h1,rfl⟩ e (fun z=>nomatch z) h
 | @frz a ob xs ea=>
  cases (show u=uM a from rx)
  obtain ⟨_,_,_,n,_,h1⟩:=(show QS X.prog X.w H s.heap a (.frz ob (.lst xs)) from I.hok a _ ea)
  exact xC PySem.W.kitx_list I.kIn ⟨_,h1,rfl⟩ e (fun z=>nomatch z) h
 | @tup a xs ea=>
  cases (show u=uM a from rx)
  obtain ⟨_,_,_,p⟩:=(show QS X.prog X.w H s.heap a (.tup xs) from I.hok a _ ea)
  obtain ⟨⟨o,h1,h2,_⟩,_⟩:=p
  exact xC PySem.W.kitx_tuple I.kIn ⟨o,h1,h2⟩ e (fun z=>nomatch z) h
 | @dK a kvs ea=>
  cases (show u=uM a from rx)
  obtain ⟨_,_,vs,_,p⟩:=(show QS X.prog X.w H s.heap a (.dK kvs) from I.hok a _ ea)
  obtain ⟨o,es,ep,h1,h2,_⟩:=p
  exact xC PySem.W.kitx_dict I.kIn ⟨o,h1,h2.1⟩ e (fun z=>nomatch z) h
 | @dT a kvs ea=>
  cases (show u=uM a from rx)
  obtain ⟨_,_,xs,_,o,es,ep,h1,h2,_⟩:=(show QS X.prog X.w H s.heap a (.dT kvs) from I.hok a _ ea)
  exact xC PySem.W.kitx_dict I.kIn ⟨o,h1,h2.1⟩ e (fun z=>nomatch z) h
 | @ins a C dx fs ea cl ha hn htk hm=>
  cases (show u=uM a from rx)
  obtain ⟨mA,O,_⟩:=qJN I.hok ea
  obtain ⟨od,J,_⟩:=O.look
  exact xC (PySem.W.kitx_own (cl.get _) cl.hd ha hn htk hm) I.kIn J e (fun z=>nomatch z) h
end
structure qAb (k:Nat) (A:Around):Prop where
 hd:A.handled=none
 dp:A.depth+3*k+5<recursionLimit
 un:A.units+16*k+200<cLine
theorem qAb.mono {j k:Nat} {A:Around} (r:qAb k A) (h:j<=k):qAb j A:=⟨r.hd,by have:=r.dp; omega,by have:=r.un; omega⟩
theorem qAb.deeper {k:Nat} {A:Around} (r:qAb (k+1) A) (env:Env):qAb k (A.deeper env):=
 ⟨r.hd,by have:=r.dp; show A.depth+1+3*k+5<_; omega,by have:=r.un; show A.units+3+16*k+200<_; omega⟩
theorem qAb.depth {k:Nat} {A:Around} (r:qAb k A):A.depth<recursionLimit:=by have:=r.dp; omega
theorem qAb.units {k:Nat} {A:Around} (r:qAb k A):A.units+64<cLine:=by have:=r.un; omega
noncomputable def qLp:TA:=fun _ H Q=>Q [] H
noncomputable def qH3 (ta:TE) (tr:TA):TA:=fun σ H Q=>ta σ H fun x H1=>tr σ H1 fun xs H2=>Q (x::xs) H2
section
variable {X:Cx} {e:Expr} {es:List Expr} {te:TE} {t:TA} {pos:Pos}
theorem qB:PA X [] qLp:=fun _ _ _ _ H Q I h=>Calls.spliced_nil ⟨[],H,I,.nil,h⟩
theorem qA (ha:PE X e te) (hr:PA X es t) (hs:starEach (e::es) X.env=(false,eval e X.env)::starEach es X.env:=by rfl):PA X (e::es) (qH3 te t):=by
 intro pos pins s σ H Q I h
 rw [hs]
 show wpAny _ _ (spliced ((false,eval e X.env)::backTo pos (starEach es X.env))) _ _ s
 refine Calls.spliced_cons (thn (ha pins s σ H _ I h) fun u s1 ⟨x,H1,I1,r1,q1⟩=>?_)
 exact thn (hr pos pins s1 σ H1 _ I1 q1) fun us s2 ⟨xs,H2,I2,r2,q2⟩=>⟨x::xs,H2,I2,.cons r1 r2,q2⟩
noncomputable def qMk (t:TA):TE:=fun σ H Q=>t σ H fun xs H1=>xs.length<=sizeLine/\∀ p,H1 p=none->Q (.ref p) (upd H1 p (.tup xs))
noncomputable def qM2 (t:TA):TE:=fun σ H Q=>t σ H fun xs H1=>xs.length<=sizeLine/\∀ p,H1 p=none->Q (.ref p) (upd H1 p (.lst xs))
theorem qk {x1} (h:PA X es t):PE X (.Tuple es x1 pos) (qMk t):=by
 intro pins s σ H Q I hq
 refine wpAny_Tuple_spliced (thn (h pos pins s σ H _ I hq) fun us s1 ⟨xs,H1,I1,r,z,q⟩=>⟨by rw [<- r.length]; exact z,?_⟩)
 have hf:H1 s1.heap.objs.size=none:=I1.hok.fresh (wO _)
 refine ⟨.ref s1.heap.objs.size,upd H1 s1.heap.objs.size (.tup xs),I1.laid (t':=s1.toks) (fun b u e=>wD _ e) (wO _) ?_,rfl,q _ hf⟩
 exact ⟨z,us,r,⟨_,zF _ rfl,rfl,_,rfl⟩,NoD.new rfl⟩
theorem Qq (h:PA X es t):PE X (.List es pos) (qM2 t):=by
 intro pins s σ H Q I hq
 refine wpAny_List_spliced (thn (h pos pins s σ H _ I hq) fun us s1 ⟨xs,H1,I1,r,z,q⟩=>⟨by rw [<- r.length]; exact z,?_⟩)
 have hf:H1 s1.heap.objs.size=none:=I1.hok.fresh (wO _)
 refine ⟨.ref s1.heap.objs.size,upd H1 s1.heap.objs.size (.lst xs),I1.laid (t':=s1.toks) (fun b u e=>wD _ e) (wO _) ?_,rfl,q _ hf⟩
 exact ⟨z,us,0,r,zF _ rfl⟩
end
noncomputable abbrev Sp:=List V->Hp->VK->XK->Prop
noncomputable abbrev CXT:=List Env->Hp->Shared->XK->Value->Shared->Prop
structure qLm (P:Program) (w:World) (K:wJ) (mg:Str->Option Value) (base:Heap) (A:Around) (outer:List Env) (s:Shared) (H:Hp):Prop where
 frames:A.frames=some outer
 mod:Mod K mg base
 bs:∀ b o,base.get? b=some o->s.heap.get? b=some o/\H b=none
 bsz:base.objs.size<=s.heap.objs.size
 funs:s.heap.FunFrames base outer
 frf:∀ b∈frs outer,H b=none
 hok:HOk P w H s.heap
 bare:AllBare s.gens
noncomputable def CE (outer:List Env) (P:Program) (w:World) (H:Hp) (s:Shared) (Q:VK) (u:Value) (s':Shared):Prop:=
 ∃ v H',s'.os=s.os/\AllBare s'.gens/\Un (frs outer) [] H H' s.heap s'.heap/\HOk P w H' s'.heap/\RelV v u/\Q v H'
noncomputable def CR (CX:CXT) (outer:List Env) (P:Program) (w:World) (H:Hp) (s:Shared) (Q:VK) (E:XK) (r:Result) (s':Shared):Prop:=
 match r with
 | .ok (.ret u)=>CE outer P w H s Q u s'
 | .ok _=>False
 | .error e=>CX outer H s E e s'
structure QC (P:Program) (w:World) (K:wJ) (mg:Str->Option Value) (base:Heap) (CX:CXT) (k:Nat) (f:Addr) (fd:FuncData) (ps:List Str) (sp:Sp):Prop where
 len:∀ vs H Q E,sp vs H Q E->vs.length=ps.length
 run:∀(A:Around) (outer:List Env) (s:Shared) (H:Hp) (args:Args) (us:List Value) (vs:List V) (Q:VK) (E:XK),qAb k A->qLm P w K mg base A outer s H->BindsTo s fd args (ps.zip us)->jB vs us->sp vs H Q E->
  codeAny (model P w) A (.call (.ref f) args) (CR CX outer P w H s Q E) s
section
variable {X:Cx} {pins:List (Addr×Obj)} {σ:St} {H:Hp} {s s':Shared}
theorem Inv.env0 (I:Inv X pins σ H s):qLm X.prog X.w X.K X.mg X.base X.A X.stack s H:=
 ⟨I.ok.frames,I.ok.mod,I.bs,zO I.ok.bsz I.sz,I.stack,I.stkFree,I.hok,I.bare⟩
theorem Inv.after {Q:VK} {u:Value} (I:Inv X pins σ H s) (h:CE X.stack X.prog X.w H s Q u s'):EP X pins σ Q u s':=by
 obtain ⟨v,H',os,bare,un,hok,r,q⟩:=h
 obtain ⟨hh,g,d,t,os'⟩:=s'
 obtain rfl:os'=s.os:=os
 exact ⟨v,H',I.call (h':=hh) (g':=g) (d':=d) (t':=t) (ch:=[]) un hok bare (fun b z=>absurd z (by simp)),r,q⟩
end
noncomputable def qG7 (sp:Sp) (dvs:List V) (E:XK) (t:TA):TE:=fun σ H Q=>t σ H fun vs H1=>sp (vs++dvs) H1 Q E
noncomputable def Binds (K:wJ) (fd:FuncData) (ps:List Str) (ds:List Value):Prop:=
 ∀(s:Shared) (us:List Value),K.In s.heap->(us++ds).length=ps.length->BindsTo s fd ⟨us,[]⟩ (ps.zip (us++ds))
theorem Binds.all {K:wJ} {fd:FuncData} {ps:List Str} (h:∀ us:List Value,us.length=ps.length->bindArgs fd ⟨us,[]⟩=pure (ps.zip us)):Binds K fd ps []:=fun s us _ hl=>by
 rw [yZ] at hl ⊢
 exact .of_eq (h us hl)
noncomputable def qGg (CX:CXT) (X:Cx) (E:XK):Prop:=∀(pins:List (Addr×Obj)) (σ:St) (H:Hp) (s:Shared) (e:Value) (s':Shared),Inv X pins σ H s->CX X.stack H s E e s'->X.xe e s'
section
variable {X:Cx} {CX:CXT} {k:Nat} {f C:Addr} {fd:FuncData} {ps:List Str} {sp:Sp} {dvs:List V} {ds:List Value} {E:XK} {x m:Str} {p pos apos:Pos} {e o:Expr} {es:List Expr} {ta:TE} {t:TA}
theorem qLk {pins:List (Addr×Obj)} {σ:St} {H:Hp} {s:Shared} {Q:VK} {us:List Value} {vs:List V} (F:QC X.prog X.w X.K X.mg X.base CX k f fd ps sp) (hr:qAb k X.A) (hb:Binds X.K fd ps ds) (hd:jB dvs ds) (hx:qGg CX X E)
  (I:Inv X pins σ H s) (r:jB vs us) (h:sp (vs++dvs) H Q E):wpAny (model X.prog X.w) X.A (call (.ref f) us) (EP X pins σ Q) X.xe s:=by
 have r2:jB (vs++dvs) (us++ds):=r.append hd
 have hl:(us++ds).length=ps.length:=by rw [<- r2.length]; exact F.len _ _ _ _ h
 refine wpAny_call (kD (F.run X.A X.stack s H ⟨us,[]⟩ (us++ds) (vs++dvs) Q E hr I.env0 (hb s us I.kIn hl) r2 h) fun r s' hq=>?_)
 cases r with
 | error e=>exact hx pins σ H s e s' I hq
 | ok fl=>
  cases fl with
  | ret u=>exact I.after hq
  | next=>exact kR hq
  | brk=>exact kR hq
  | cont=>exact kR hq
theorem qI8 (F:QC X.prog X.w X.K X.mg X.base CX k f fd ps sp) (hr:qAb k X.A) (hg:Gl X x) (hm:X.mg x=some (.ref f)) (hk:UH X.K (.ref f)=true) (hb:Binds X.K fd ps ds) (hd:jB dvs ds) (hx:qGg CX X E)
  (ha:PA X (e::es) t) (hdb:(x == ("__debug__" : Str))=false:=by decide) (he:starEach (e::es) X.env=(false,eval e X.env)::starEach es X.env:=by rfl) (hpl:(backTo pos (starEach es X.env)).any (·.1)=false:=by rfl) :
  PE X (.Call (.Name x p) (e::es) [] pos) (qG7 sp dvs E t):=by
 intro pins s σ H Q I h
 refine hZ (qJu I hg hm ?_ hdb)
 refine PySem.W.callWith_K (h₀:=X.base) I.ok.mod.kin hk (thn (ha pos pins s σ H _ I h) fun us s1 ⟨vs,H1,I1,r,q⟩=>⟨I1.kIn,?_⟩) he hpl
 exact qLk F hr hb hd hx I1 r q
end
structure qR (N P:List Str) (sc:Scope):Prop where
 kind:sc.kind=.function
 co:sc.isCoroutine=false
 gen:sc.isGenerator=false
 nd:N.Nodup
 pre:N.take P.length=P
 par:∀ x∈P,sc.names.lookup x=some .local\/sc.names.lookup x=some .cell
 nofree:∀ y∈sc.names,y.2≠.free
theorem qBV {kindOf:Str->Option NameKind} {x:Str}:∀{binds:List (Str×Value)} {m:Str->Option Value},(∀ v,(x,v)∉binds)->bindL kindOf binds m x=m x
 | [],_,_=>rfl
 | (n,v)::r,m,h=>by
  unfold bindL
  rw [qBV fun w hw=>h w (wN _ hw)]
  split
  ·have:x≠n:=by rintro rfl; exact h v wF
   simp [this]
  ·rfl
theorem qCH {kindOf:Str->Option NameKind} {x:Str}:∀{binds:List (Str×Value)} {m:Str->Option Value},(∀ v,(x,v)∉binds)->bindC kindOf binds m x=m x
 | [],_,_=>rfl
 | (n,v)::r,m,h=>by
  unfold bindC
  rw [qCH fun w hw=>h w (wN _ hw)]
  split
  ·rfl
  ·have:x≠n:=by rintro rfl; exact h v wF
   simp [this]
theorem qBk {kindOf:Str->Option NameKind} {x:Str} {v:Value}:∀{P:List Str} {vs:List Value} {i:Nat} {m:Str->Option Value},P.Nodup->P[i]? = some x->vs[i]? = some v->kindOf x=some .local->
  bindL kindOf (P.zip vs) m x=some v
 | [],_,_,_,_,h,_,_=>by simp at h
 | _::_,[],_,_,_,_,h,_=>by simp at h
 | p::P,w::vs,0,m,nd,h1,h2,hk=>by
  simp at h1 h2; subst h1; subst h2
  show bindL kindOf ((p,w)::P.zip vs) m p=_
  unfold bindL
  rw [qBV fun v hv=>(zI.mp nd).1 (VY hv).1,if_pos hk]
  simp
 | p::P,w::vs,i+1,m,nd,h1,h2,hk=>by
  show bindL kindOf ((p,w)::P.zip vs) m x=_
  unfold bindL
  exact qBk (i:=i) (zI.mp nd).2 (by simpa using h1) (by simpa using h2) hk
theorem qBv {kindOf:Str->Option NameKind} {x:Str} {v:Value}:∀{P:List Str} {vs:List Value} {i:Nat} {m:Str->Option Value},P.Nodup->P[i]? = some x->vs[i]? = some v->kindOf x≠some .local->
  bindC kindOf (P.zip vs) m x=some v
 | [],_,_,_,_,h,_,_=>by simp at h
 | _::_,[],_,_,_,_,h,_=>by simp at h
 | p::P,w::vs,0,m,nd,h1,h2,hk=>by
  simp at h1 h2; subst h1; subst h2
  show bindC kindOf ((p,w)::P.zip vs) m p=_
  unfold bindC
  rw [qCH fun v hv=>(zI.mp nd).1 (VY hv).1,if_neg hk]
  simp
 | p::P,w::vs,i+1,m,nd,h1,h2,hk=>by
  show bindC kindOf ((p,w)::P.zip vs) m x=_
  unfold bindC
  exact qBv (i:=i) (zI.mp nd).2 (by simpa using h1) (by simpa using h2) hk
noncomputable def start (N:List Str) (vs:List V):St:=vs.map some++zJ (N.length - vs.length) none
noncomputable def qIO (CX:CXT) (P:Program) (w:World) (K:wJ) (mg:Str->Option Value) (base:Heap) (N:List Str) (qual:Str) (scope:Scope) (f:Addr) (cd:Value) (A:Around) (outer:List Env) (s:Shared) (H:Hp) (E:XK):Cx where
 prog:=P
 w:=w
 K:=K
 mg:=mg
 base:=base
 A:=A.deeper (envOfC qual scope s.heap.objs.size f cd)
 N:=N
 s₀:=s
 H₀:=H
 env:=envOfC qual scope s.heap.objs.size f cd
 outer:=outer
 stack:=envOfC qual scope s.heap.objs.size f cd::outer
 ex:=[]
 calm:=true
 fn:=fun _=>true
 pn:=[]
 xe:=fun e s'=>wpAny (model P w) (A.deeper (envOfC qual scope s.heap.objs.size f cd)) (leaving (envOfC qual scope s.heap.objs.size f cd) e) (fun _ s''=>CX outer H s E e s'') (fun e' s''=>CX outer H s E e' s'') s'
theorem YK {sc:Scope} {n:Nat} {x:Str} (h:sc.names.lookup x=some .cell):∃ c,(cellsFrom n sc.names []).lookup x=some c:=by
 have q:=PySem.W.cellsFrom_some sc.names n [] (.inl h)
 exact UW.mp q
theorem qGj {CX:CXT} {P:Program} {w:World} {K:wJ} {mg:Str->Option Value} {base:Heap} {N ps:List Str} {qual:Str} {scope:Scope} {f:Addr} {cd:Value} {A:Around} {outer:List Env} {s s1:Shared} {H:Hp} {E:XK} {us:List Value} {vs:List V}
  (S:qR N ps scope) (hd:A.handled=none) (e0:qLm P w K mg base A outer s H) (hl:vs.length=ps.length) (r:jB vs us)
  (x:InCallC s s.heap.objs.size (bindL (envOfC qual scope s.heap.objs.size f cd).kindOf (ps.zip us) fun _=>none) (cellsFrom (s.heap.objs.size+1) scope.names []) (bindC (envOfC qual scope s.heap.objs.size f cd).kindOf (ps.zip us) fun _=>none) s1) :
  Inv (qIO CX P w K mg base N qual scope f cd A outer s H E) [] (start N vs) H s1:=by
 have hpl:ps.length<=N.length:=by have:=congrArg List.length S.pre; rw [vK] at this; omega
 obtain ⟨h1,tk,rfl,hk⟩:=x.done
 have noA:∀ b:Addr,b∉(qIO CX P w K mg base N qual scope f cd A outer s H E).ex:=fun b z=>absurd (show b∈([]:List Addr) from z) (by simp)
 refine ⟨⟨e0.mod,S.kind,rfl,rfl,wO _,fun y z c h1 h2=>?_,fun y hy=>?_,fun y c _ h=>?_,fun _=>hd,Around.frames_deeper e0.frames,.inr ⟨rfl,rfl⟩,fun b z=>absurd z (noA b),e0.bs,e0.bsz,fun b _ _=>noA b,fun b z=>absurd z (noA b),e0.funs,e0.frf⟩,
  rfl,e0.bare,Un.kept hk,⟨_,x.toInCall.ns,fun i y v h1 h2 h3=>?_⟩,fun y c h=>⟨_,x.cell y c h⟩,e0.hok.fresh (wO _),fun y c h=>?_,fun p hp=>absurd (show p∈([]:List (Addr×Obj)) from hp) (by simp),e0.hok.kept hk,?_⟩
 ·exact name_of_addr x.apart (vU h1) (vU h2)
 ·have hy:scope.names.lookup y=some .cell\/scope.names.lookup y=some .free:=hy
  rcases hy with hy | hy
  ·exact YK hy
  ·exact absurd rfl (S.nofree _ (vU hy))
 ·exact vI (x.above y c (vU h))
 ·have hi:i<vs.length:=by
   unfold start at h2
   by_cases hi:i<vs.length
   ·exact hi
   ·rw [zW (by simpa using hi)] at h2
    rw [ZG] at h2
    split at h2 <;> cases h2
  have ha:vs[i]? = some v:=by
   unfold start at h2
   rw [yU (by simpa using hi),wL] at h2
   cases e:vs[i]? with
   | none=>rw [e] at h2; cases h2
   | some a=>rw [e] at h2; cases h2; rfl
  obtain ⟨u,hu,rv⟩:=r.get ha
  have hp:ps[i]? = some y:=by
   rw [<- S.pre,List.getElem?_take_of_lt (by omega)]; exact h1
  have ndP:ps.Nodup:=by rw [<- S.pre]; exact S.nd.sublist (WY _ _)
  refine ⟨u,rv,?_⟩
  rcases S.par y (vN hp) with k | k
  ·exact .inl ⟨k,qBk ndP hp hu k⟩
  ·obtain ⟨c,e⟩:=YK (n:=s.heap.objs.size+1) k
   refine .inr ⟨.inl k,c,e,?_⟩
   have q:=x.cell y c e
   rw [qBv ndP hp hu (by show scope.names.lookup y≠_; rw [k]; decide)] at q
   exact q
 ·exact e0.hok.fresh (vI (x.above y c (vU h)))
 ·unfold start
  show _=N.length
  rw [wR,wC,yJ]
  omega
theorem qMZ {CX:CXT} {P:Program} {w:World} {K:wJ} {mg:Str->Option Value} {base:Heap} {k:Nat} {f:Addr} {name qual:Str} {params:Arguments} {body:List Stmt} {scope:Scope} {dV kV doc pm cdv ct oc:Value} {an od:Option Addr}
  {osl:Array (Option Value)} {N ps:List Str} {sp:Sp} (lk:K.lookup f=some ⟨oc,od,.func (kW name qual params body scope dV kV doc pm an cdv ct),osl⟩) (hcd:UI K cdv qual=true) (S:qR N ps scope)
  (len:∀ vs H Q E,sp vs H Q E->vs.length=ps.length)
  (hbody:∀(A:Around) (outer:List Env) (s:Shared) (H:Hp) (vs:List V) (Q:VK) (E:XK),qAb k (A.deeper (envOfC qual scope s.heap.objs.size f cdv))->sp vs H Q E->
   ∃ t,PSs (qIO CX P w K mg base N qual scope f cdv A outer s H E) body t/\t { nx:=fun _ H'=>Q .non H',rt:=Q } (start N vs) H) :
  QC P w K mg base CX (k+1) f (kW name qual params body scope dV kV doc pm an cdv ct) ps sp:=by
 refine ⟨len,fun A outer s H args us vs Q E hr e0 hb r hsp=>?_⟩
 have hl:=len _ _ _ _ hsp
 have KX:K.In s.heap:=e0.mod.kin.keeps fun b o e=>(e0.bs b o e).1
 have lim:s.heap.NoLimit:=e0.mod.nolimit.keeps fun b o e=>(e0.bs b o e).1
 have hkind:∀ y∈ps.zip us,scope.names.lookup y.1=some .local\/(scope.names.lookup y.1=some .cell/\((cellsFrom (s.heap.objs.size+1) scope.names []).lookup y.1).isSome=true):=fun ⟨n,v⟩ hy=>by
  rcases S.par n (VY hy).1 with q | q
  ·exact .inl q
  ·exact .inr ⟨q,PySem.W.cellsFrom_some _ _ _ (.inl q)⟩
 refine codeAny_call_function hr.depth (KX _ _ lk) rfl S.co S.gen rfl (PySem.W.codeRec_of KX hcd) (hb _ _ _ _ ?_)
 refine wpAny_newFunctionEnv_cells S.kind hkind fun env he s1 x=>?_
 subst he
 refine ⟨lim.keeps x.toInCall.keep,codeAny_func ?_⟩
 obtain ⟨t,ht,hq⟩:=hbody A outer s H vs Q E (hr.deeper _) hsp
 have I:Inv (qIO CX P w K mg base N qual scope f cdv A outer s H E) [] (start N vs) H s1:=qGj S hr.hd e0 hl r x
 refine uV (ht [] s1 (start N vs) H _ I hq) (fun fl s' hs=>?_) fun e s' hs=>hs
 have fin:∀{σ':St} {H':Hp} {v:V} {u:Value},Inv (qIO CX P w K mg base N qual scope f cdv A outer s H E) [] σ' H' s'->RelV v u->Q v H'->CE outer P w H s Q u s':=
  fun {σ' H' v u} J rv q=>⟨v,H',J.os,J.bare,J.base,J.hok,rv,q⟩
 cases fl with
 | ret u=>
  obtain ⟨v,σ',H',J,rv,q⟩:=hs
  exact fin J rv q
 | next=>
  obtain ⟨σ',H',J,q⟩:=hs
  exact fin (v:=V.non) (u:=uG) J rfl q
 | brk=>
  obtain ⟨_,_,_,q⟩:=hs
  exact kR q
 | cont=>
  obtain ⟨_,_,_,q⟩:=hs
  exact kR q
section
variable {X:Cx} {x:Str} {p pos:Pos} {e:Expr} {es:List Expr} {t:TA} {id T:String} {r:List V->Hp->VK->Prop}
noncomputable def tCB (r:List V->Hp->VK->Prop) (t:TA):TE:=fun σ H Q=>t σ H fun vs H1=>r vs H1 Q
theorem qH (hc:QJ X (.builtin id) r) (hg:Gl X x) (hm:X.mg x=none) (hv:bootBuiltins x=some (.builtin id)) (ha:PA X (e::es) t) (hn:x≠"__name__":=by decide) (hdb:(x == ("__debug__" : Str))=false:=by decide)
  (he:starEach (e::es) X.env=(false,eval e X.env)::starEach es X.env:=by rfl) (hpl:(backTo pos (starEach es X.env)).any (·.1)=false:=by rfl):PE X (.Call (.Name x p) (e::es) [] pos) (tCB r t):=by
 intro pins s σ H Q I h
 refine hZ (J3 I hg hm hv ?_ hn hdb)
 exact VM (thn (ha pos pins s σ H _ I h) fun us s1 ⟨vs,H1,I1,r1,q1⟩=>hc pins s1 σ H1 vs us Q I1 r1 q1) he hpl
theorem qU (hc:QJ X (.type T) r) (hg:Gl X x) (hm:X.mg x=none) (hv:bootBuiltins x=some (.type T)) (ha:PA X (e::es) t) (hn:x≠"__name__":=by decide) (hdb:(x == ("__debug__" : Str))=false:=by decide)
  (he:starEach (e::es) X.env=(false,eval e X.env)::starEach es X.env:=by rfl) (hpl:(backTo pos (starEach es X.env)).any (·.1)=false:=by rfl):PE X (.Call (.Name x p) (e::es) [] pos) (tCB r t):=by
 intro pins s σ H Q I h
 refine hZ (J3 I hg hm hv ?_ hn hdb)
 exact uA (thn (ha pos pins s σ H _ I h) fun us s1 ⟨vs,H1,I1,r1,q1⟩=>hc pins s1 σ H1 vs us Q I1 r1 q1) he hpl
end
end L2
namespace HT
open PySem PyProof.Rows
noncomputable def lexLt:List Int->List Int->Bool
 | [],[]=>false
 | [],_::_=>true
 | _::_,[]=>false
 | x::xs,y::ys=>if x=y then lexLt xs ys else decide (x<y)
theorem lexLt_cons (x y:Int) (xs ys:List Int):lexLt (x::xs) (y::ys)=if x=y then lexLt xs ys else decide (x<y):=rfl
theorem lexLt_nil_nil:lexLt [] []=false:=rfl
theorem lexLt_nil_cons (y:Int) (ys:List Int):lexLt [] (y::ys)=true:=rfl
theorem lexLt_cons_nil (x:Int) (xs:List Int):lexLt (x::xs) []=false:=rfl
theorem eqAt_int (A:Around) (s:Shared) (a:Int) (t:Tok) (c:Int) (u:Tok):∃ e,gQ A s (.int a t) (.int c u) e/\(e=true↔a=c):=
 ⟨(a == c),SeqAt.EqAt.int_int a t c u,by simp⟩
theorem rcLt_int (A:Around) (s:Shared) (a:Int) (t:Tok) (c:Int) (u:Tok) (prog:Program) (w:World) (E:Value->Shared->Prop) (Q:Value->Shared->Prop) (h:Q (.bool (decide (a<c))) s) :
  wpAny (model prog w) A (richCompare .Lt (.int a t) (.int c u)) Q E s:=
 (PyProof.Rows.lt_int h:wpAny (model prog w) A (compareOp .Lt (.int a t) (.int c u)) Q E s)
section
open PySem.SeqAt
open PySem.AutoSeq1 (wpAny_loadPart')
open PySem.MeetsSeq PySem.MeetsSeq2 PySem.MeetsSeq3
end
section
variable {prog:Program} {w:World} {A:Around} {E:Value->Shared->Prop} {s:Shared}
theorem cat_tup {t b:Addr} {vs ws:List Value} {Q:Value->Shared->Prop} (ht:IsTup s.heap t vs.toArray) (hb:IsTup s.heap b ws.toArray) (hv:vs≠[])
  (h1:ws=[]->Q (.ref t) s) (h2:ws≠[]->Q (.ref s.heap.objs.size) { s with heap:=s.heap.push { cls:=.type "tuple",data:=.seq (vs++ws).toArray } })
  (hsz:vs.length+ws.length<=sizeLine):wpAny (model prog w) A (binaryOp .Add (.ref t) (.ref b)) Q E s:=by
 obtain ⟨⟨cls,dd,data,sl⟩,ho,hc,n,hd⟩:=id ht
 obtain ⟨⟨cls2,dd2,data2,sl2⟩,ho2,hc2,n2,hd2⟩:=id hb
 simp only at hc hd hc2 hd2
 subst hc hd hc2 hd2
 have e:vs.toArray++ws.toArray=(vs++ws).toArray:=by simp
 by_cases hw:ws=[]
 ·exact WZ ⟨_,ho,rfl⟩ ⟨_,ho2,rfl⟩ VN UX ZO ZH (fT _ _)
   (tuple_addW1 t b vs.toArray ws.toArray n n2 dd dd2 sl sl2 (by simpa using hv) (by simp [hw])) ⟨ho,ho2,h1 hw⟩
 ·refine WZ ⟨_,ho,rfl⟩ ⟨_,ho2,rfl⟩ VN UX ZO ZH (fT _ _)
   (tuple_addW2 t b vs.toArray ws.toArray n n2 dd dd2 sl sl2 (by simpa using hv) (by simpa using hw) (by rw [wH,wH]; exact hsz)) ⟨ho,ho2,?_⟩
  rw [e]
  exact h2 hw
noncomputable def sIx (n d:Nat):Option Int->Nat
 | none=>d
 | some v=>if v<0 then (v+(n:Int)).toNat else min v.toNat n
theorem sIx_none (n d:Nat):sIx n d none=d:=rfl
theorem sIx_nat (n d k:Nat):sIx n d (some (k:Int))=min k n:=by
 show (if (k:Int)<0 then ((k:Int)+(n:Int)).toNat else min (k:Int).toNat n)=min k n
 rw [if_neg (by omega),zT]
theorem qKy (n d:Nat) (hd:d<=n) (o:Option Int):sIx n d o<=n:=by
 cases o with
 | none=>exact hd
 | some v=>
  show (if v<0 then (v+(n:Int)).toNat else min v.toNat n)<=n
  by_cases hv:v<0
  ·rw [if_pos hv]; omega
  ·rw [if_neg hv]; exact Nat.min_le_right _ _
theorem qGz (v:Int) (n d:Nat):(if v<0 then max (v+(n:Int)) 0 else min v (n:Int))=((sIx n d (some v):Nat):Int):=by
 show (if v<0 then max (v+(n:Int)) 0 else min v (n:Int))=(((if v<0 then (v+(n:Int)).toNat else min v.toNat n):Nat):Int)
 by_cases hv:v<0
 ·simp only [if_pos hv]; omega
 ·simp only [if_neg hv]; omega
theorem qEk (lo hi:Option Int) (n:Nat):xJ lo hi 1 (n:Int)=(((sIx n 0 lo:Nat):Int),((sIx n n hi:Nat):Int)):=by
 have h1:¬ ((1:Int)<0):=by omega
 unfold xJ
 simp only [h1,if_false]
 refine Prod.ext ?_ ?_
 ·cases lo with
  | none=>rfl
  | some v=>exact qGz v n 0
 ·cases hi with
  | none=>rfl
  | some v=>exact qGz v n n
theorem qEf (i j:Nat):vO (i:Int) (j:Int) 1=j - i:=by
 unfold vO
 have h1:(1:Int) > 0:=by omega
 simp only [h1,if_true,Int.ediv_one]
 split <;> omega
theorem qAX {v:Value} {o:Option Int} {Q:Option Int->Shared->Prop} (p:IsPart v o) (h:Q o s):wpAny (model prog w) A (Builtin.Slice.slicePartIndex v) Q E s:=by
 cases p with
 | none=>exact slicePart_none h
 | int i t=>exact slicePart_int h
theorem Qg {sl:Addr} {vl vu:Value} {lo hi:Option Int} {n:Nat} {Q:Int×Int×Nat->Shared->Prop} (hs:s.heap.IsSliceOf sl vl vu .none) (pl:IsPart vl lo) (pu:IsPart vu hi)
  (h:Q (((sIx n 0 lo:Nat):Int),1,sIx n n hi - sIx n 0 lo) s):wpAny (model prog w) A (kS (.ref sl) (pure (n:Int))) Q E s:=by
 obtain ⟨os,hos,hcs,hds⟩:=id hs
 unfold kS UR
 refine wB (wB (uE hos hds (x:=vl) rfl (wB (uE hos hds (x:=vu) rfl (wB (uE hos hds (x:=.none) rfl (wG ?_)))))))
 refine wB (slicePart_none ?_)
 show wpAny _ _ (if ((1:Int) == 0)=true then _ else _) _ _ s
 rw [if_neg (by decide)]
 refine wB (qAX pl (wB (qAX pu (wB (wG ?_)))))
 show wpAny _ _ (match xJ lo hi 1 (n:Int) with | (lo,hi)=>pure (lo,(1:Int),vO lo hi 1)) _ _ s
 rw [qEk lo hi n]
 show wpAny _ _ (pure (((sIx n 0 lo:Nat):Int),(1:Int),vO ((sIx n 0 lo:Nat):Int) ((sIx n n hi:Nat):Int) 1)) _ _ s
 rw [qEf]
 exact wG h
theorem qHw (xs:Array Value) (i k:Nat):((wV k).filterMap fun (m:Nat)=>xs[((i:Int)+(m:Int)*1).toNat]?).toArray=((xs.toList.drop i).take k).toArray:=by
 have e:(fun (m:Nat)=>xs[((i:Int)+(m:Int)*1).toNat]?)=fun m=>xs[i+m]?:=by
  funext m
  have:((i:Int)+(m:Int)*1).toNat=i+m:=by omega
  rw [this]
 rw [e]
 have:=pick_run xs i k
 rw [List.filterMap_map] at this
 have e2:((fun x=>xs[x]?)∘fun x=>i+x)=fun m=>xs[i+m]?:=rfl
 rw [e2] at this
 rw [this]
theorem getItem_tuple_cut {t sl:Addr} {items:Array Value} {vl vu:Value} {lo hi:Option Int} {Q:Value->Shared->Prop} (ht:IsTup s.heap t items) (hs:s.heap.IsSliceOf sl vl vu .none) (pl:IsPart vl lo) (pu:IsPart vu hi)
  (hw:¬ (sIx items.size 0 lo=0/\sIx items.size items.size hi=items.size))
  (h:Q (.ref s.heap.objs.size) { s with heap:=s.heap.push { cls:=.type "tuple",data:=.seq ((items.toList.drop (sIx items.size 0 lo)).take (sIx items.size items.size hi - sIx items.size 0 lo)).toArray } })
  (hsz:items.size<=sizeLine):wpAny (model prog w) A (getItem (.ref t) (.ref sl)) Q E s:=by
 have htake:sizeOk (.seq ((items.toList.drop (sIx items.size 0 lo)).take (sIx items.size items.size hi - sIx items.size 0 lo)).toArray):=by
  show ((items.toList.drop (sIx items.size 0 lo)).take (sIx items.size items.size hi - sIx items.size 0 lo)).toArray.size<=sizeLine
  rw [wH,vK,uZ,wU]
  omega
 have hj:sIx items.size items.size hi<=items.size:=qKy _ _ (wO _) hi
 obtain ⟨os,hos,hcs,hds⟩:=id hs
 have hTs:s.TypeIs (.ref sl) "slice":=⟨os,hos,hcs⟩
 unfold getItem
 try with_reducible refine yM ?_
 first | refine wB (wG ?_) | skip
 refine wB (fM ht.typeIs (by decide) ?_)
 refine wB (vX (name:=uR "__getitem__") ht.typeIs yO
  (vD yO ht.typeIs entry_tuple_getitem ?_ (args_tuple_getitem _ _)))
 show wpAny _ _ (fF (.ref t) >>= _) _ _ s
 refine wB (tupleItemsOf_ ht ?_)
 refine wB (kX hTs ?_)
 rw [if_pos (by decide)]
 refine wB (Qg hs pl pu ?_)
 have hno:¬ ((((sIx items.size 0 lo:Nat):Int) == 0 && (1:Int) == 1 && (sIx items.size items.size hi - sIx items.size 0 lo) == items.size)=true):=by
  intro q
  rw [zX,zX] at q
  have q1:((sIx items.size 0 lo:Nat):Int)=0:=eq_of_beq q.1.1
  have q2:sIx items.size items.size hi - sIx items.size 0 lo=items.size:=eq_of_beq q.2
  exact hw ⟨by omega,by omega⟩
 show wpAny _ _ (if (((sIx items.size 0 lo:Nat):Int) == 0 && (1:Int) == 1 && (sIx items.size items.size hi - sIx items.size 0 lo) == items.size)=true then _ else _) _ _ s
 rw [if_neg hno,qHw]
 first
  | exact wB (m:=vS _) (vF (wG ⟨_,rfl,wG h⟩) htake)
  | exact wB (m:=vS _) (vF (wB (wG (wG ⟨_,rfl,wG h⟩))) htake)
  | exact wB (wB (m:=vS _) (vF (wG (wG ⟨_,rfl,wG h⟩)) htake))
  | exact wB (wB (m:=vS _) (vF (wG ⟨_,rfl,wG h⟩) htake))
end
end HT
namespace L2
open PySem PySem.Spec PyProof.Rows
noncomputable abbrev TO:=St->Hp->(Option Int->Hp->Prop)->Prop
noncomputable def PO (X:Cx) (e:Option Expr) (t:TO):Prop:=
 ∀(pins:List (Addr×Obj)) (s:Shared) (σ:St) (H:Hp) (Q:Option Int->Hp->Prop),Inv X pins σ H s->t σ H Q->
  wpAny (model X.prog X.w) X.A (evalPart e X.env) (fun u s'=>∃ o H',Inv X pins σ H' s'/\IsPart u o/\Q o H') X.xe s
noncomputable def qF4:TO:=fun _ H Q=>Q none H
noncomputable def qK3 (t:TE):TO:=fun σ H Q=>t σ H fun x H1=>∃ i,x=.int i/\Q (some i) H1
theorem intsAre_of {ns:List Int}:∀{us:List Value},jB (ns.map V.int) us->IntsAre us ns:=by
 induction ns with
 | nil=>intro us r; rw [List.map_nil] at r; cases r; exact .nil
 | cons n ns ih=>
  intro us r
  rw [uW] at r
  cases r with
  | cons r1 r2=>
   obtain ⟨t,e⟩:=r1
   subst e
   exact .cons n t (ih r2)
section
variable {X:Cx} {e:Expr} {te:TE} {lo hi:Option Expr} {tl th:TO} {pos p2:Pos}
theorem Jl:PO X none qF4:=by
 intro pins s σ H Q I h
 rw [WG]
 exact wG ⟨none,H,I,.none,h⟩
theorem Qt (h:PE X e te):PO X (some e) (qK3 te):=by
 intro pins s σ H Q I hw
 rw [WH]
 refine thn (h pins s σ H _ I hw) fun u s1 ⟨x,H1,I1,r1,q1⟩=>?_
 obtain ⟨i,rfl,q⟩:=q1
 obtain ⟨t,rfl⟩:=r1
 exact ⟨some i,H1,I1,.int i t,q⟩
noncomputable def SlR (X:Cx) (r:V->Option Int->Option Int->Hp->VK->Prop):Prop:=
 ∀(pins:List (Addr×Obj)) (s:Shared) (σ:St) (H:Hp) (x:V) (v vl vu:Value) (lo hi:Option Int) (sl:Addr) (Q:VK),Inv X pins σ H s->RelV x v->s.heap.IsSliceOf sl vl vu .none->IsPart vl lo->IsPart vu hi->r x lo hi H Q->
  ∃ T id,typeLookup (.type T) "__getitem__" = pure (some (.builtin id))/\s.TypeIs v T/\wpAny (model X.prog X.w) X.A (getItem v (.ref sl)) (EP X pins σ Q) X.xe s
theorem SlR.or {r r':V->Option Int->Option Int->Hp->VK->Prop} (h:SlR X r) (h':SlR X r'):SlR X (fun x lo hi H Q=>r x lo hi H Q\/r' x lo hi H Q):=by
 intro pins s σ H x v vl vu lo hi sl Q I rx hs pl pu q
 rcases q with q | q
 ·exact h pins s σ H x v vl vu lo hi sl Q I rx hs pl pu q
 ·exact h' pins s σ H x v vl vu lo hi sl Q I rx hs pl pu q
noncomputable def tSl (r:V->Option Int->Option Int->Hp->VK->Prop) (te:TE) (tl th:TO):TE:=fun σ H Q=>te σ H fun x H1=>tl σ H1 fun l H2=>th σ H2 fun u H3=>r x l u H3 Q
theorem Qb {r:V->Option Int->Option Int->Hp->VK->Prop} (hr:SlR X r) (he:PE X e te) (hl:PO X lo tl) (hu:PO X hi th):PE X (.Subscript e (.Slice lo hi none p2) pos) (tSl r te tl th):=by
 intro pins s σ H Q I h
 refine Subscript_ (thn (he pins s σ H _ I h) fun v s1 ⟨x,H1,I1,r1,q1⟩=>?_)
 refine wpAny_Slice (thn (hl pins s1 σ H1 _ I1 q1) fun vl s2 ⟨l,H2,I2,pl,q2⟩=>thn (hu pins s2 σ H2 _ I2 q2) fun vu s3 ⟨u,H3,I3,pu,q3⟩=>?_)
 rw [WG]
 refine wG ?_
 have I4:Inv X pins σ H3 { s3 with heap:=s3.heap.push { cls:=.type "slice",data:=.fields #[vl,vu,.none] } }:=I3.kept (t':=s3.toks) fun b ob q=>wD _ q
 obtain ⟨T,id,hT,ht,hg⟩:=hr pins { s3 with heap:=s3.heap.push { cls:=.type "slice",data:=.fields #[vl,vu,.none] } } σ H3 x v vl vu l u s3.heap.objs.size Q I4 r1 (WN ..) pl pu q3
 show wpAny (model X.prog X.w) X.A (subscriptTail e (.Slice lo hi none p2) v (.ref s3.heap.objs.size)) (EP X pins σ Q) X.xe { s3 with heap:=s3.heap.push { cls:=.type "slice",data:=.fields #[vl,vu,.none] } }
 exact tail_any (ops:=[.ref s3.heap.objs.size,v]) ht hT hg (by with_unfolding_all rfl)
noncomputable def qHJ (xs:List V) (lo hi:Option Int):List V:=(xs.drop (HT.sIx xs.length 0 lo)).take (HT.sIx xs.length xs.length hi - HT.sIx xs.length 0 lo)
theorem Yc (xs:List V) (lo hi:Option Int):(qHJ xs lo hi).length<=xs.length:=by
 unfold qHJ
 rw [vK,uZ]
 omega
noncomputable def qNH (K:wJ):V->Option Int->Option Int->Hp->VK->Prop:=fun x lo hi H Q=>∃ a xs,x=.ref a/\SqT K H a xs/\
 ¬ (HT.sIx xs.length 0 lo=0/\HT.sIx xs.length xs.length hi=xs.length)/\∀ p,H p=none->Q (.ref p) (upd H p (.tup (qHJ xs lo hi)))
theorem qK9:SlR X (qNH X.K):=by
 intro pins s σ H x v vl vu lo hi sl Q I rx hs pl pu h
 obtain ⟨a,xs,rfl,hx,hw,q⟩:=h
 cases rx
 obtain ⟨its,r,ht,hz⟩:=I.tuple hx
 have hlen:its.toArray.size=xs.length:=by rw [wH]; exact r.length.symm
 refine ⟨"tuple",_,yO.lookup,ht.typeIs,?_⟩
 refine HT.getItem_tuple_cut ht hs pl pu (by rw [hlen]; exact hw) ?_ (by rw [hlen]; exact hz)
 rw [hlen]
 refine ⟨.ref s.heap.objs.size,_,I.laid (t':=s.toks) (o:=.tup (qHJ xs lo hi)) (fun b ob q=>wD _ q) (wO _) ?_,rfl,q _ (I.hok.fresh (wO _))⟩
 exact ⟨zO (Yc xs lo hi) hz,_,(r.drop (HT.sIx xs.length 0 lo)).take (HT.sIx xs.length xs.length hi - HT.sIx xs.length 0 lo),IsTup.new _ _,NoD.new rfl⟩
noncomputable def qL8 (K:wJ):R2:=fun x y H Q=>∃ a b xs ys,x=.ref a/\y=.ref b/\SqT K H a xs/\SqT K H b ys/\xs≠[]/\xs.length+ys.length<=sizeLine/\
 (ys=[]->Q (.ref a) H)/\(ys≠[]->∀ p,H p=none->Q (.ref p) (upd H p (.tup (xs++ys))))
theorem jB.nil_iff {xs:List V} {us:List Value} (r:jB xs us):us=[]↔xs=[]:=by
 cases r with
 | nil=>simp
 | cons _ _=>simp
theorem qIw:OpR X (binaryOp .Add) (qL8 X.K):=by
 intro pins s σ H x y v u Q I rx ry h
 obtain ⟨a,b,xs,ys,rfl,rfl,ha,hb,hx,hz,q1,q2⟩:=h
 cases rx
 cases ry
 obtain ⟨its,r1,p1,_⟩:=I.tuple ha
 obtain ⟨its2,r2,p2,_⟩:=I.tuple hb
 refine HT.cat_tup p1 p2 (fun z=>hx (r1.nil_iff.mp z)) (fun z=>⟨.ref a,H,I,rfl,q1 (r2.nil_iff.mp z)⟩) (fun z=>?_) (by rw [<- r1.length,<- r2.length]; exact hz)
 refine ⟨.ref s.heap.objs.size,_,I.laid (t':=s.toks) (o:=.tup (xs++ys)) (fun b ob q=>wD _ q) (wO _) ?_,rfl,q2 (fun w=>z (r2.nil_iff.mpr w)) _ (I.hok.fresh (wO _))⟩
 exact ⟨by rw [wR]; exact hz,_,r1.append r2,IsTup.new _ _,NoD.new rfl⟩
end
noncomputable def ixN (n:Nat) (i:Int):Option Nat:=if 0<=i then (if i<n then some i.toNat else none) else if -(n:Int)<=i then some (i+n).toNat else none
noncomputable def atI {α:Type} (xs:List α) (i:Int):Option α:=(ixN xs.length i).bind fun j=>xs[j]?
theorem qCo {n:Nat} {i:Int} {j:Nat} (h:ixN n i=some j):seqIndex? i n=some j/\j<n/\-(n:Int)<=i/\i<n:=by
 unfold ixN at h
 by_cases h0:0<=i
 ·rw [if_pos h0] at h
  by_cases h1:i<n
  ·rw [if_pos h1] at h
   have e:i.toNat=j:=zQ h
   exact ⟨by rw [seqIndex_of h0 h1,e],by omega,by omega,h1⟩
  ·rw [if_neg h1] at h; cases h
 ·rw [if_neg h0] at h
  by_cases h1 : -(n:Int)<=i
  ·rw [if_pos h1] at h
   have e:(i+n).toNat=j:=zQ h
   exact ⟨by rw [seqIndex_neg (by omega) h1,e],by omega,h1,by omega⟩
  ·rw [if_neg h1] at h; cases h
theorem qC7 {α:Type} {xs:List α} {i:Int} {v:α} (h:atI xs i=some v):∃ j,seqIndex? i xs.length=some j/\xs[j]? = some v/\j<xs.length/\-(xs.length:Int)<=i/\i<xs.length:=by
 unfold atI at h
 cases e:ixN xs.length i with
 | none=>rw [e] at h; cases h
 | some j=>
  rw [e] at h
  obtain ⟨h1,h2,h3,h4⟩:=qCo e
  exact ⟨j,h1,h,h2,h3,h4⟩
theorem JI {α:Type} {xs:List α} {j:Nat} {v:α} (h:xs[j]? = some v):atI xs (j:Int)=some v:=by
 have hj:j<xs.length:=(wI.mp h).1
 have e:ixN xs.length (j:Int)=some j:=by
  unfold ixN
  rw [if_pos (by omega),if_pos (by omega)]; simp
 unfold atI; rw [e]; exact h
theorem qD8 {α:Type} (xs:List α) (v:α):atI (xs++[v]) (-1)=some v:=by
 have hl:(xs++[v]).length=xs.length+1:=by simp
 have e:ixN (xs++[v]).length (-1)=some xs.length:=by
  unfold ixN
  rw [hl,if_neg (by decide),if_pos (by omega)]
  congr 1
  omega
 unfold atI
 rw [e]
 show (xs++[v])[xs.length]? = some v
 simp
noncomputable def qFr (b:Expr):Prop:=∀ o i,subscripted b false o i=operate [o,i] (getItem o i)
noncomputable def IxR (X:Cx) (r:R2):Prop:=
 ∀(value slice:Expr) (pins:List (Addr×Obj)) (s:Shared) (σ:St) (H:Hp) (x y:V) (v u:Value) (Q:VK),Inv X pins σ H s->RelV x v->RelV y u->r x y H Q->
  subscripted slice false v u=operate [v,u] (getItem v u)->wpAny (model X.prog X.w) X.A (subscriptTail value slice v u) (EP X pins σ Q) X.xe s
noncomputable def MtR (X:Cx) (id:String) (r:V->List V->Hp->VK->Prop):Prop:=
 ∀(pins:List (Addr×Obj)) (s:Shared) (σ:St) (H:Hp) (x:V) (xs:List V) (v:Value) (us:List Value) (Q:VK),Inv X pins σ H s->RelV x v->jB xs us->r x xs H Q->
  wpAny (model X.prog X.w) X.A (call (.builtin id) (v::us)) (EP X pins σ Q) X.xe s
section
variable {X:Cx} {a b:Expr} {ta tb:TE} {pos:Pos}
theorem IxR.or {r r':R2} (h:IxR X r) (h':IxR X r'):IxR X (fun x y H Q=>r x y H Q\/r' x y H Q):=by
 intro value slice pins s σ H x y v u Q I rx ry q hs
 rcases q with q | q
 ·exact h value slice pins s σ H x y v u Q I rx ry q hs
 ·exact h' value slice pins s σ H x y v u Q I rx ry q hs
theorem qMW {r:R2} (hr:IxR X r) (ha:PE X a ta) (hb:PE X b tb) (hs:qFr b):PE X (.Subscript a b pos) (tOp r ta tb):=by
 intro pins s σ H Q I h
 exact Subscript_ (qMF ha hb I h fun v u s2 x y H2 I2 rx ry q=>hr a b pins s2 σ H2 x y v u Q I2 rx ry q (hs _ _))
noncomputable def qMr (K:wJ):R2:=fun x y H Q=>∃ p xs i v,x=.ref p/\y=.int i/\SqL K H p xs/\atI xs i=some v/\Q v H
noncomputable def qMm (K:wJ):R2:=fun x y H Q=>∃ p xs i v,x=.ref p/\y=.int i/\SqT K H p xs/\atI xs i=some v/\Q v H
noncomputable def qMo:R2:=fun x y H Q=>∃ z i c,x=.str z/\y=.int i/\z.length<=sizeLine/\atI z.cps.toList i=some c/\Q (.str ⟨#[c]⟩) H
theorem qI4:IxR X (qMr X.K):=by
 intro value slice pins s σ H x y v u Q I rx ry h hs
 obtain ⟨p,xs,i,z,rfl,rfl,hq,he,q⟩:=h
 cases rx
 obtain ⟨t,rfl⟩:=ry
 obtain ⟨its,r,pl,hz⟩:=I.list hq
 obtain ⟨j,h1,h2,h3,h4,h5⟩:=qC7 he
 obtain ⟨w,ew,rw'⟩:=r.get h2
 have hl:=r.length
 have hn:=Yr
 have fin:EP X pins σ Q w s:=⟨z,H,I,rw',q⟩
 by_cases h0:0<=i
 ·have hj:i.toNat=j:=by
   rw [seqIndex_of h0 h5] at h1
   exact zQ h1
  exact item_listR pl.isList h0 (by omega) (by rw [hj]; simpa using ew) fin hs
 ·have hj:(i+(its.toArray.size:Int)).toNat=j:=by
   rw [seqIndex_neg (by omega) h4] at h1
   rw [wH,<- hl]
   exact zQ h1
  exact subscriptTail_builtinR (x:=w) pl.isList.typeIs slot_list_getitem.lookup
   (wpAny_getItem_list_neg (Q:=fun r s'=>r=w/\EP X pins σ Q r s') pl.isList (by omega) (by rw [wH] <;> omega) (by omega) (by rw [hj]; simpa using ew) ⟨rfl,fin⟩) hs
theorem qLR:IxR X (qMm X.K):=by
 intro value slice pins s σ H x y v u Q I rx ry h hs
 obtain ⟨p,xs,i,z,rfl,rfl,hq,he,q⟩:=h
 cases rx
 obtain ⟨t,rfl⟩:=ry
 obtain ⟨its,r,pl,hz⟩:=I.tuple hq
 obtain ⟨j,h1,h2,h3,h4,h5⟩:=qC7 he
 obtain ⟨w,ew,rw'⟩:=r.get h2
 have hl:=r.length
 have hn:=Yr
 have fin:EP X pins σ Q w s:=⟨z,H,I,rw',q⟩
 exact subscriptTail_builtinR (x:=w) pl.typeIs slot_tuple_getitem.lookup
  (getItem_tuple (j:=j) (Q:=fun r s'=>r=w/\EP X pins σ Q r s') pl (by omega) (by omega) (by rw [wH,<- hl]; exact h1) (by simpa using ew) ⟨rfl,fin⟩) hs
theorem qKX:IxR X qMo:=by
 intro value slice pins s σ H x y v u Q I rx ry h hs
 obtain ⟨z,i,c,rfl,rfl,hz,he,q⟩:=h
 obtain ⟨t,rfl⟩:=rx
 obtain ⟨t',rfl⟩:=ry
 obtain ⟨j,h1,h2,h3,h4,h5⟩:=qC7 he
 have hl:z.cps.toList.length=z.length:=by simp [Str.length]
 rw [hl] at h1 h4 h5
 have hn:=Yr
 exact tail_any (typeIs_str s z t) slot_str_getitem.lookup (getItem_str (c:=c) (by
  have e1:decide (i < -(2 ^ 63:Int))=false:=decide_eq_false (by omega)
  have e2:decide (i≥2 ^ 63)=false:=decide_eq_false (by omega)
  rw [e1,e2,Bool.or_false]) (by rw [h1]; simpa using h2) ⟨.str ⟨#[c]⟩,H,I.tok _,⟨_,rfl⟩,q⟩) hs
noncomputable def rIx (K:wJ):R2:=fun x y H Q=>qMr K x y H Q\/qMm K x y H Q\/qMo x y H Q
theorem qKw:IxR X (rIx X.K):=qI4.or (qLR.or qKX)
theorem qEo (its:List Value) (n j:Nat) (u:Value):gB (·.setIfInBounds j u) { cls:=.type "list",data:=.seq its.toArray n } = { cls:=.type "list",data:=.seq (its.set j u).toArray n }:=by
 simp [gB]
theorem Inv.lst {pins:List (Addr×Obj)} {σ:St} {H:Hp} {s:Shared} {p:Addr} {xs:List V} (I:Inv X pins σ H s) (h:H p=some (.lst xs)) :
  ∃(its:List Value) (n:Nat),jB xs its/\s.heap.get? p=some { cls:=.type "list",data:=.seq its.toArray n }/\xs.length<=sizeLine:=by
 obtain ⟨z,its,n,r,e⟩:=I.hok p _ h
 exact ⟨its,n,r,e,z⟩
theorem Inv.lstUpd {pins:List (Addr×Obj)} {σ:St} {H:Hp} {s:Shared} {p:Addr} {xs ys:List V} {its its':List Value} {n n':Nat} {f:Obj->Obj} (I:Inv X pins σ H s) (h:H p=some (.lst xs))
  (ho:s.heap.get? p=some { cls:=.type "list",data:=.seq its.toArray n }) (hf:f { cls:=.type "list",data:=.seq its.toArray n } = { cls:=.type "list",data:=.seq its'.toArray n' }) (r:jB ys its') (hz:ys.length<=sizeLine) (t:Nat) :
  Inv X pins σ (upd H p (.lst ys)) { s with heap:=s.heap.update p f,toks:=t }:=by
 have e:(s.heap.update p f).get? p=some { cls:=.type "list",data:=.seq its'.toArray n' }:=by
  rw [kM f ho (by rw [hf] <;> rfl),hf]
 refine I.write (x:=p) (e:=p) (by rw [h]; trivial) (.inl rfl) (fun b u hb q=>(Heap.get?_update_other _ _ (WD hb)).trans q) ⟨_,e⟩ ?_
 exact ⟨hz,its',n',r,e⟩
noncomputable def qLh:V->V->V->Hp->(Hp->Prop)->Prop:=fun o i v H Q=>∃ p xs k j,o=.ref p/\i=.int k/\H p=some (.lst xs)/\ixN xs.length k=some j/\Q (upd H p (.lst (xs.set j v)))
theorem set_list:qM3 X qLh:=by
 intro pins s σ H o i v ov iv u Q I ro ri rv h
 obtain ⟨p,xs,k,j,rfl,rfl,hp,hj,q⟩:=h
 cases ro
 obtain ⟨t,rfl⟩:=ri
 obtain ⟨its,n,r,ho,hz⟩:=I.lst hp
 obtain ⟨h1,h2,h3,h4⟩:=qCo hj
 have hl:=r.length
 have hn:=Yr
 have I':Inv X pins σ (upd H p (.lst (xs.set j v))) { s with heap:=s.heap.update p (gB (·.setIfInBounds j u)) }:=
  I.lstUpd hp ho (qEo its n j u) (r.set rv j) (by rw [List.length_set]; exact hz) s.toks
 by_cases h0:0<=k
 ·have hk:k.toNat=j:=by
   rw [seqIndex_of h0 h4] at h1
   exact zQ h1
  exact PySem.W.ki_setAt ho h0 (by omega) (by rw [wH,<- hl]; exact h4) (by rw [hk]; exact ⟨_,I',q⟩)
 ·have hk:(k+(its.toArray.size:Int)).toNat=j:=by
   rw [seqIndex_neg (by omega) h3] at h1
   rw [wH,<- hl]
   exact zQ h1
  exact PySem.W.ki_setBack ho (by omega) (by rw [wH,<- hl]; exact h3) (by omega) (by rw [hk]; exact ⟨_,I',q⟩)
theorem qBW (lo hi:Option Int) (n:Nat):(sliceBounds lo hi none n).1=((HT.sIx n 0 lo:Nat):Int)/\(sliceBounds lo hi none n).2.1=((HT.sIx n n hi:Nat):Int)/\(sliceBounds lo hi none n).2.2=1:=by
 refine ⟨?_,?_,rfl⟩
 ·cases lo with
  | none=>simp [sliceBounds,HT.sIx]
  | some i=>
   simp only [sliceBounds,HT.sIx,VO,show (1:Int) > 0 by decide,if_true]
   by_cases h:i<0
   ·simp only [h,if_true] <;> omega
   ·simp only [h,if_false] <;> omega
 ·cases hi with
  | none=>simp [sliceBounds,HT.sIx]
  | some i=>
   simp only [sliceBounds,HT.sIx,VO,show (1:Int) > 0 by decide,if_true]
   by_cases h:i<0
   ·simp only [h,if_true] <;> omega
   ·simp only [h,if_false] <;> omega
theorem qBF (its:List Value) (lo hi:Option Int):slicePick its.toArray lo hi none=((its.drop (HT.sIx its.length 0 lo)).take (HT.sIx its.length its.length hi - HT.sIx its.length 0 lo)).toArray:=by
 obtain ⟨h1,h2,h3⟩:=qBW lo hi its.toArray.size
 unfold slicePick
 rw [h1,h2,h3]
 simp only [sliceRange_one,pick_run,wH] <;> rfl
noncomputable def qMK (K:wJ):V->Option Int->Option Int->Hp->VK->Prop:=fun x lo hi H Q=>∃ a xs,x=.ref a/\SqL K H a xs/\∀ p,H p=none->Q (.ref p) (upd H p (.lst (qHJ xs lo hi)))
theorem qJD:SlR X (qMK X.K):=by
 intro pins s σ H x v vl vu lo hi sl Q I rx hs pl pu h
 obtain ⟨a,xs,rfl,hx,q⟩:=h
 cases rx
 obtain ⟨its,r,ht,hz⟩:=I.list hx
 have hlen:=r.length
 refine ⟨"list",_,slot_list_getitem.lookup,ht.isList.typeIs,?_⟩
 refine wpAny_getItem_list_slice ht.isList hs pl pu .none (by simp) ?_ (by rw [wH] <;> omega)
 rw [qBF,<- hlen]
 refine ⟨.ref s.heap.objs.size,_,I.laid (t':=s.toks) (o:=.lst (qHJ xs lo hi)) (fun b ob q=>wD _ q) (wO _) ?_,rfl,q _ (I.hok.fresh (wO _))⟩
 exact ⟨zO (Yc xs lo hi) hz,_,0,(r.drop (HT.sIx xs.length 0 lo)).take (HT.sIx xs.length xs.length hi - HT.sIx xs.length 0 lo),zF _ rfl⟩
theorem qCI:QJ X (.builtin "len") (fun xs H Q=>∃ p ys,xs=[.ref p]/\(SqL X.K H p ys\/SqT X.K H p ys)/\Q (.int ys.length) H):=by
 intro pins s σ H xs us Q I r h
 obtain ⟨p,ys,rfl,hq,q⟩:=h
 obtain ⟨u,rfl,rx⟩:=vals1 r
 cases rx
 have hn:=Yr
 rcases hq with hq | hq
 ·obtain ⟨its,r',pl,hz⟩:=I.list hq
  have hlen:=r'.length
  exact Calls.call_len_list pl.isList (by simp only [wH] <;> omega) ⟨.int ys.length,H,I.tok _,⟨s.toks+1,by rw [wH,hlen]⟩,q⟩
 ·obtain ⟨its,r',pl,hz⟩:=I.tuple hq
  have hlen:=r'.length
  exact len_tuple pl (by simp only [wH] <;> omega) ⟨.int ys.length,H,I.tok _,⟨s.toks+1,by rw [wH,hlen]⟩,q⟩
theorem qBb:QJ X (.type "list") (fun xs H Q=>∃ p ys,xs=[.ref p]/\(SqL X.K H p ys\/SqT X.K H p ys)/\∀ l,H l=none->Q (.ref l) (upd H l (.lst ys))):=by
 intro pins s σ H xs us Q I r h
 obtain ⟨p,ys,rfl,hq,q⟩:=h
 obtain ⟨u,rfl,rx⟩:=vals1 r
 cases rx
 have fin:∀(its:List Value),jB ys its->ys.length<=sizeLine->∀(h':Heap) (c':Nat),(∀ b o',s.heap.get? b=some o'->h'.get? b=some o')->
   h'.get? s.heap.objs.size=some { cls:=.type "list",dict:=none,data:=.seq its.toArray c',slots:=#[] }->EP X pins σ Q (.ref s.heap.objs.size) { s with heap:=h' }:=fun its r' hz h' c' kp e=>
  ⟨.ref s.heap.objs.size,_,I.laid (t':=s.toks) kp (wO _) (show QS X.prog X.w _ h' _ (.lst ys) from ⟨hz,its,c',r',e⟩),rfl,q _ (I.hok.fresh (wO _))⟩
 rcases hq with hq | hq
 ·obtain ⟨its,r',pl,hz⟩:=I.list hq
  have hlen:=r'.length
  obtain ⟨o,ho,hc,n,hd⟩:=pl.isList
  exact call_list_seq p (.inl rfl) ho hc hd (fun h' c' kp e=>fin its r' hz h' c' kp e) (by simp only [wH] <;> omega)
 ·obtain ⟨its,r',pl,hz⟩:=I.tuple hq
  have hlen:=r'.length
  obtain ⟨o,ho,hc,n,hd⟩:=pl
  exact call_list_seq p (.inr rfl) ho hc hd (fun h' c' kp e=>fin its r' hz h' c' kp e) (by simp only [wH] <;> omega)
theorem qA1:QJ X (.type "tuple") (fun xs H Q=>∃ p ys,xs=[.ref p]/\((SqL X.K H p ys/\∀ l,H l=none->Q (.ref l) (upd H l (.tup ys)))\/(SqT X.K H p ys/\Q (.ref p) H))):=by
 intro pins s σ H xs us Q I r h
 obtain ⟨p,ys,rfl,h⟩:=h
 obtain ⟨u,rfl,rx⟩:=vals1 r
 cases rx
 rcases h with ⟨hq,q⟩ | ⟨hq,q⟩
 ·obtain ⟨its,r',pl,hz⟩:=I.list hq
  have hlen:=r'.length
  refine call_tuple_list pl.isList (fun h' kp=>?_) (by simp only [wH] <;> omega)
  have I1:Inv X pins σ H { s with heap:=h' }:=I.kept (t':=s.toks) kp
  have I2:Inv X pins σ (upd H h'.objs.size (.tup ys)) { s with heap:=h'.push { cls:=.type "tuple",data:=.seq its.toArray } }:=
   I1.laid (t':=s.toks) (fun b o e=>wD _ e) (wO _) (show QS X.prog X.w _ _ _ (.tup ys) from ⟨hz,its,r',IsTup.new _ _,NoD.new rfl⟩)
  exact ⟨.ref h'.objs.size,_,I2,rfl,q _ (I1.hok.fresh (wO _))⟩
 ·obtain ⟨its,r',pl,hz⟩:=I.tuple hq
  exact call_tuple_same pl ⟨.ref p,H,I,rfl,q⟩
noncomputable def tyV (K:wJ) (T:String) (x:V) (H:Hp):Prop:=match x with
 | .str _=>T = "str"
 | .int _=>T = "int"
 | .ref p=>(T = "list"/\∃ xs,SqL K H p xs)\/(T = "tuple"/\∃ o,K.lookup p=some o/\o.cls=.type "tuple"/\o.dict=none)\/
   (T = "dict"/\((∃ kvs,H p=some (.dK kvs))\/∃ kvs,H p=some (.dT kvs)))\/(T = "set"/\∃ S n,H p=some (.set S n))
 | _=>False
theorem qIG {pins:List (Addr×Obj)} {σ:St} {H:Hp} {s:Shared} {T:String} {x:V} {v:Value} (I:Inv X pins σ H s) (r:RelV x v) (ty:tyV X.K T x H) :
  s.TypeIs v T/\∀ a,v=.ref a->∃ ob,s.heap.get? a=some ob/\ob.dict=none:=by
 cases x with
 | str z=>
  obtain ⟨t,rfl⟩:=r
  cases (show T = "str" from ty)
  exact ⟨typeIs_str s z t,fun _ e=>nomatch e⟩
 | int i=>
  obtain ⟨t,rfl⟩:=r
  cases (show T = "int" from ty)
  exact ⟨UJ s i t,fun _ e=>nomatch e⟩
 | ref p=>
  cases r
  rcases ty with ⟨rfl,xs,hq⟩ | ⟨rfl,o,hk,hc,hd⟩ | ⟨rfl,hk⟩ | ⟨rfl,S,n,hk⟩
  ·obtain ⟨its,_,pl,_⟩:=I.list hq
   refine ⟨pl.isList.typeIs,fun a e=>?_⟩
   cases e
   obtain ⟨o,n,e,c,hd,_⟩:=pl
   exact ⟨o,e,hd⟩
  ·refine ⟨⟨o,I.kIn p o hk,hc⟩,fun a e=>?_⟩
   cases e
   exact ⟨o,I.kIn _ o hk,hd⟩
  ·have z:∃ o,s.heap.get? p=some o/\o.ExactDict:=by
    rcases hk with ⟨kvs,hk⟩ | ⟨kvs,hk⟩
    ·obtain ⟨_,_,_,_,o,_,_,e,ex,_⟩:=I.hok p _ hk
     exact ⟨o,e,ex⟩
    ·obtain ⟨_,_,_,_,o,_,_,e,ex,_⟩:=I.hok p _ hk
     exact ⟨o,e,ex⟩
   obtain ⟨o,e,ex⟩:=z
   refine ⟨⟨o,e,ex.1⟩,fun a e2=>?_⟩
   cases e2
   exact ⟨o,e,ex.2.1⟩
  ·obtain ⟨o,_,_,_,e,ex,_⟩:=I.hok p _ hk
   refine ⟨⟨o,e,ex.1⟩,fun a e2=>?_⟩
   cases e2
   exact ⟨o,e,ex.2.1⟩
 | _=>exact kR ty
noncomputable def tBM (K:wJ) (T:String) (r:V->List V->Hp->VK->Prop) (to:TE) (t:TA):TE:=fun σ H Q=>to σ H fun x H1=>tyV K T x H1/\t σ H1 fun xs H2=>r x xs H2 Q
variable {o e:Expr} {es:List Expr} {to:TE} {t:TA} {name:Str} {apos cpos:Pos} {T id:String} {r:V->List V->Hp->VK->Prop}
theorem qMO (pa:PlainAttrs T) (slot:Slot T name id) (hty:typeOf (.builtin id)=pure (.type "method_descriptor")) (hm:MtR X id r) (ho:PE X o to) (ha:PA X (e::es) t)
  (hbase:attributeBase o name X.env (eval o X.env)=eval o X.env:=by rfl)
  (hfew:((backTo cpos (starEach (e::es) X.env)).all (fun x=>!x.1) && (backToKw cpos (keywordEach [] X.env)).all (fun x=>x.1.isSome)
   && decide ((e::es).length+([]:List Keyword).length+(if ([]:List Keyword).isEmpty then 0 else 1)<30))=true:=by rfl)
  (hline:(apos.endLine == cpos.line)=true:=by rfl) (hs:starEach (e::es) X.env=(false,eval e X.env)::starEach es X.env:=by rfl) (hplain:(backTo cpos (starEach es X.env)).any (·.1)=false:=by rfl) :
  PE X (.Call (.Attribute o name apos) (e::es) [] cpos) (tBM X.K T r to t):=by
 intro pins s σ H Q I h
 refine wpAny_Call_method_late hbase hfew hline rfl (thn (ho pins s σ H _ I h) fun v s1 ⟨x,H1,I1,r1,ty,q1⟩=>?_)
 obtain ⟨h1,h2⟩:=qIG I1 r1 ty
 refine ⟨T,id,pa,slot,hty,h1,h2,?_⟩
 have hA:=ha cpos pins s1 σ H1 _ I1 q1
 rw [hs] at hA ⊢
 refine ZP (by show (false || (backTo cpos (starEach es X.env)).any (·.1))=false; rw [hplain] <;> rfl) (WB ?_)
 exact thn hA fun us s2 ⟨vs,H2,I2,r2,q2⟩=>hm pins s2 σ H2 x vs v us Q I2 r1 r2 q2
end
noncomputable def MtM (X:Cx) (id:String) (r:V->List V->Hp->VK->Prop):Prop:=
 ∀(pins:List (Addr×Obj)) (s:Shared) (σ:St) (H:Hp) (x:V) (xs:List V) (v:Value) (us:List Value) (Q:VK),Inv X pins σ H s->RelV x v->jB xs us->r x xs H Q->
  wpAny (model X.prog X.w) X.A (call (.builtin id) (v::us)) (EP X pins σ Q) X.xe s
theorem jB.one:∀{x:V} {us:List Value},jB [x] us->∃ u,us=[u]/\RelV x u
 | _,_,.cons r .nil=>⟨_,rfl,r⟩
theorem jB.eraseIdx:∀{xs:List V} {us:List Value} (i:Nat),jB xs us->jB (xs.eraseIdx i) (us.eraseIdx i)
 | _,_,_,.nil=>.nil
 | _,_,0,.cons _ t=>t
 | _,_,i+1,.cons r t=>.cons r (jB.eraseIdx i t)
theorem jB.rep {xs:List V} {us:List Value} (h:jB xs us):∀ k:Nat,jB (zJ k xs).flatten (zJ k us).flatten
 | 0=>.nil
 | k+1=>by
  rw [hG,hG,fN,fN]
  exact jB.append h (jB.rep h k)
theorem qBh {α:Type}:∀(l:List α) (i:Nat),(l.eraseIdx i).length<=l.length
 | [],_=>wO _
 | _::_,0=>fO _
 | _::r,i+1=>Nat.succ_le_succ (qBh r i)
theorem foldl_rep (its:List Value):∀(k:Nat) (acc:List Value),
  List.foldl (fun x1 x2=>x1++x2) acc.toArray (zJ k its.toArray)=(acc++(zJ k its).flatten).toArray
 | 0,acc=>by simp
 | k+1,acc=>by
  have e:acc.toArray++its.toArray=(acc++its).toArray:=by simp
  have e2:(acc++its)++(zJ k its).flatten=acc++(zJ (k+1) its).flatten:=by
   rw [hG,fN,xA]
  rw [<- e2,<- foldl_rep its k (acc++its),<- e,hG,VZ]
section
variable {X:Cx} {pins:List (Addr×Obj)} {σ:St} {H:Hp} {s:Shared} {l b:Addr} {xs ys zs:List V}
theorem Inv.lset {its its':List Value} {n:Nat} {f:Array Value->Array Value} {t':Nat} (I:Inv X pins σ H s) (hH:H l=some (.lst xs))
  (e:s.heap.get? l=some { cls:=.type "list",data:=.seq its.toArray n }) (hf:f its.toArray=its'.toArray) (hv:jB ys its') (hz:ys.length<=sizeLine) :
  Inv X pins σ (upd H l (.lst ys)) { s with heap:=s.heap.update l (gB f),toks:=t' }:=by
 have q:=PySem.IsL.update e f
 rw [hf] at q
 refine I.write (x:=l) (e:=l) (by rw [hH]; exact trivial) (.inl rfl) (fun b' u hb hu=>(Heap.get?_update_other s.heap (gB f) (WD hb)).trans hu) ⟨_,q⟩ ?_
 exact ⟨hz,its',_,hv,q⟩
theorem Inv.lnew {its:List Value} {t':Nat} (I:Inv X pins σ H s) (hv:jB ys its) (hz:ys.length<=sizeLine) :
  Inv X pins σ (upd H s.heap.objs.size (.lst ys)) { s with heap:=s.heap.push { cls:=.type "list",data:=.seq its.toArray },toks:=t' }:=
 I.laid (fun _ _ q=>wD _ q) (wO _) ⟨hz,its,0,hv,zF _ rfl⟩
theorem Inv.fresh (I:Inv X pins σ H s):H s.heap.objs.size=none:=I.hok.fresh (wO _)
theorem Inv.lstM (I:Inv X pins σ H s) (hH:H l=some (.lst xs)):xs.length<=sizeLine/\∃(its:List Value) (n:Nat),jB xs its/\xs.length=its.length/\s.heap.get? l=some { cls:=.type "list",data:=.seq its.toArray n }:=by
 obtain ⟨z,its,n,r,e⟩:=I.hok l _ hH
 exact ⟨z,its,n,r,r.length,e⟩
theorem YL {n:Nat} (h:n<=sizeLine):hV n=false:=by
 unfold hV
 exact decide_eq_false (by omega)
end
section
variable {X:Cx}
noncomputable def qEz:V->List V->Hp->VK->Prop:=fun x vs H Q=>∃ l xs y,x=.ref l/\vs=[y]/\H l=some (.lst xs)/\xs.length<sizeLine/\Q .non (upd H l (.lst (xs++[y])))
theorem YQ:MtM X "list.append" qEz:=by
 intro pins s σ H x vs v us Q I rx rv h
 obtain ⟨l,xs,y,rfl,rfl,hH,hz,q⟩:=h
 cases rx
 obtain ⟨u,rfl,ru⟩:=rv.one
 obtain ⟨z,its,n,r,hl,e⟩:=I.lstM hH
 refine gR F.slot_list_append ⟨_,e,rfl⟩ F.entry_list_append (F.args_list_append_2 _ _) (PySem.list_append l its.toArray n u (by rw [wH]; omega)) ⟨e,?_⟩
 refine ⟨.non,_,I.lset (its':=its++[u]) hH e (by simp) (r.append (.cons ru .nil)) ?_,rfl,q⟩
 rw [wR,List.length_singleton]
 omega
noncomputable def qFO:V->List V->Hp->VK->Prop:=fun x vs H Q=>∃ l b xs zs,x=.ref l/\vs=[.ref b]/\H l=some (.lst xs)/\H b=some (.lst zs)/\xs.length+zs.length<=sizeLine/\Q .non (upd H l (.lst (xs++zs)))
theorem Yd:MtM X "list.extend" qFO:=by
 intro pins s σ H x vs v us Q I rx rv h
 obtain ⟨l,b,xs,zs,rfl,rfl,hH,hB,hz,q⟩:=h
 cases rx
 obtain ⟨u,rfl,ru⟩:=rv.one
 cases ru
 obtain ⟨z,its,n,r,hl,e⟩:=I.lstM hH
 obtain ⟨z2,its2,n2,r2,hl2,e2⟩:=I.lstM hB
 have hsz:its.toArray.size+its2.toArray.size<=sizeLine:=by rw [wH,wH]; omega
 have hlong:¬ (!its.toArray.isEmpty && hV (its.toArray.size+its2.toArray.size))=true:=by
  rw [YL hsz,UK]
  exact wQ
 refine gR F.slot_list_extend ⟨_,e,rfl⟩ F.entry_list_extend (F.args_list_extend_2 _ _)
  (AutoSeq1.list_extend_list_list_0 l its.toArray n b its2.toArray n2 hlong (by rw [wH]; omega) (by omega)) ⟨e,e2,?_⟩
 refine ⟨.non,_,I.lset (its':=its++its2) hH e (by simp) (r.append r2) ?_,rfl,q⟩
 rw [wR]
 omega
noncomputable def qIe:V->List V->Hp->VK->Prop:=fun x vs H Q=>∃ l xs i k y,x=.ref l/\vs=[.int i]/\H l=some (.lst xs)/\-(2 ^ 63)<=i/\i<2 ^ 63/\seqIndex? i xs.length=some k/\xs[k]? = some y/\Q y (upd H l (.lst (xs.eraseIdx k)))
theorem qDt:MtM X "list.pop" qIe:=by
 intro pins s σ H x vs v us Q I rx rv h
 obtain ⟨l,xs,i,k,y,rfl,rfl,hH,h1,h2,hk,hy,q⟩:=h
 cases rx
 obtain ⟨u,rfl,ru⟩:=rv.one
 obtain ⟨t,rfl⟩:=ru
 obtain ⟨z,its,n,r,hl,e⟩:=I.lstM hH
 obtain ⟨w,hw,rw'⟩:=r.get hy
 refine gR F.slot_list_pop ⟨_,e,rfl⟩ F.entry_list_pop (F.args_list_pop_2 _ _)
  (MeetsSeq.list_pop_at l its.toArray n i t k w (fitsIndex_both h1 h2) (by rw [wH,<- hl]; exact hk) (by rw [<- xB]; exact hw) (by rw [wH]; omega)) ⟨e,?_⟩
 refine ⟨y,_,I.lset (its':=its.eraseIdx k) hH e ?_ (r.eraseIdx k) ?_,rw',q⟩
 ·show its.toArray.eraseIdxIfInBounds k=(its.eraseIdx k).toArray
  rw [List.eraseIdxIfInBounds_toArray]
 ·have:=qBh xs k
  omega
noncomputable def qNB:R2:=fun x y H Q=>∃ l k xs,x=.ref l/\y=.int k/\H l=some (.lst xs)/\-(2 ^ 63)<=k/\k<2 ^ 63/\xs.length*k.toNat<=sizeLine/\
 ∀ p,H p=none->Q (.ref p) (upd H p (.lst (zJ k.toNat xs).flatten))
theorem len_rep {α:Type} (xs:List α) (k:Nat):(zJ k xs).flatten.length=k*xs.length:=by
 induction k with
 | zero=>simp
 | succ k ih=>rw [hG,fN,wR,ih,Nat.succ_mul,Nat.add_comm]
theorem qLI:OpR X (binaryOp .Mult) qNB:=by
 intro pins s σ H x y v u Q I rx ry h
 obtain ⟨l,k,xs,rfl,rfl,hH,h1,h2,hz,q⟩:=h
 cases rx
 obtain ⟨t,rfl⟩:=ry
 obtain ⟨z,its,n,r,hl,e⟩:=I.lstM hH
 have hlen:its.toArray.size*k.toNat<=sizeLine:=by rw [wH,<- hl]; exact hz
 have hcap:¬ its.toArray.size*k.toNat > (2 ^ 63 - 1) / 8:=by
  have:(sizeLine:Nat)<=(2 ^ 63 - 1) / 8:=by decide
  omega
 have hfit:¬ (!Builtin.List.listFitsIndex k)=true:=by
  rw [fitsIndex_both h1 h2]
  exact wQ
 have hlong:¬ hV (its.toArray.size*k.toNat)=true:=by
  rw [YL hlen]
  exact wQ
 have hnew:List.foldl (fun x1 x2=>x1++x2) #[] (zJ (if its.toArray.isEmpty=true then 0 else k.toNat) its.toArray)=(zJ k.toNat its).flatten.toArray:=by
  have f0:∀ m:Nat,List.foldl (fun x1 x2=>x1++x2) #[] (zJ m its.toArray)=(zJ m its).flatten.toArray:=fun m=>by
   have:=foldl_rep its m []
   rw [hX] at this
   exact this
  rw [f0]
  cases its with
  | nil=>simp
  | cons a r'=>rw [if_neg (by simp)]
 refine wpAny_binaryOp_repeat_ref (T:="list") (U:="int") (by decide) ⟨_,e,rfl⟩ (fun s'=>UJ s' k t) noFill_list_mul F.fills_int_mul F.slot_int_rmul repeat_list F.slot_int_index.lookup
  (gR F.slot_int_rmul (UJ s k t) F.entry_int_rmul (F.args_int_rmul_2 _ _) (int___rmul___int_list k t l its.toArray n)
   ⟨e,rfl,⟨_,e,rfl⟩,gR F.slot_list_mul ⟨_,e,rfl⟩ F.entry_list_mul (F.args_list_mul_2 _ _) (AutoListH.list___mul___list_int_3 l its.toArray n k t hfit hcap hlong) ⟨e,?_⟩⟩)
 rw [hnew]
 exact ⟨.ref _,_,I.lnew (t':=s.toks) (r.rep k.toNat) (by rw [len_rep,Nat.mul_comm]; exact hz),rfl,q _ I.fresh⟩
end
section
variable {prog:Program} {w:World} {A:Around} {E:Value->Shared->Prop} {s:Shared}
theorem qGF (its its2:List Value) (a c:Nat):its.toArray.extract 0 a++its2.toArray++its.toArray.extract c its.toArray.size=(its.take a++its2++its.drop c).toArray:=by
 apply VP.mp
 first
  | (simp
     exact uB (by simp))
  | simp [uB]
  | simp
theorem qEP {a c n:Nat} (hac:a<=c) (hc:c<=n):sliceBounds (some (a:Int)) (some (c:Int)) none n=((a:Int),(c:Int),1):=by
 simp only [sliceBounds,VO]
 have h1:¬ ((a:Int)<0):=by omega
 have h2:¬ ((c:Int)<0):=by omega
 simp only [h1,h2,if_false,show (1:Int) > 0 by decide,if_true]
 congr 1
 ·omega
 ·congr 1; omega
set_option maxRecDepth 100000 in
theorem qAu {l b sl:Addr} {items new:Array Value} {n n2:Nat} {vl vu:Value} {a c:Nat} {Q:Unit->Shared->Prop}
  (e:s.heap.get? l=some { cls:=.type "list",data:=.seq items n }) (e2:s.heap.get? b=some { cls:=.type "list",data:=.seq new n2 }) (hne:l≠b)
  (hs:s.heap.IsSliceOf sl vl vu .none) (pl:IsPart vl (some (a:Int))) (pu:IsPart vu (some (c:Int))) (hac:a<=c) (hc:c<=items.size)
  (hsz:items.size+new.size<=sizeLine) (h:Q () { s with heap:=s.heap.update l (gB fun xs=>xs.extract 0 a++new++xs.extract c xs.size) }) :
  wpAny (model prog w) A (setItem (.ref l) (.ref sl) (.ref b)) Q E s:=by
 have hl:s.heap.IsList l items:=PySem.IsL.isList e
 have hb:s.heap.IsList b new:=PySem.IsL.isList e2
 obtain ⟨os,hos,hcs,hds⟩:=id hs
 have hTs:s.TypeIs (.ref sl) "slice":=⟨os,hos,hcs⟩
 have hstep:¬ ((rawPart none == rawInt 0)=true):=wQ
 have hsame:UY (.ref l) (.ref b)=false:=by
  unfold UY
  exact beq_eq_false_iff_ne.mpr hne
 have hmax:(max (a:Int) (c:Int)).toNat=c:=by omega
 have hz':((fun xs:Array Value=>xs.extract 0 a++new++xs.extract c xs.size) items).size<=sizeLine+1:=by
  simp only [Array.size_append,Array.size_extract]
  omega
 unfold setItem
 try with_reducible refine yM ?_
 first | refine wB (wG ?_) | skip
 refine wB (fM hl.typeIs (by decide) ?_)
 refine wB (vX (name:=uR "__setitem__") hl.typeIs slot_list_setitem
  (vD slot_list_setitem hl.typeIs entry_list_setitem ?_ (args_list_setitem _ _ _)))
 show wpAny _ _ (UD (.ref sl) >>= _) _ _ s
 refine wB ?_
 unfold UD
 refine wB (wpAny_specialOf hTs slice_no_index ?_)
 simp only [Option.isNone_none,if_true]
 refine wG ?_
 show wpAny _ _ (typeOf (.ref sl) >>= _) _ _ s
 refine wB (kX hTs ?_)
 first
  | rw [if_neg (by decide)]
  | refine WO (by decide) ?_
 rw [listSliceParts_eq]
 refine wB (wB (uE hos hds (x:=.none) rfl (wB (UL .none ?_))))
 rw [if_neg hstep]
 refine wB (uE hos hds (x:=vl) rfl (wB (UL pl ?_)))
 refine wB (uE hos hds (x:=vu) rfl (wB (UL pu (wG ?_))))
 first
  | simp only [hsame,xM,if_false]
  | refine WO hsame ?_
  | (dsimp only
     rw [if_neg (by rw [hsame]; exact wQ)])
 refine wB (m:=US (.ref b) "must assign iterable to extended slice") ?_
 unfold US
 refine wB (kX hb.typeIs ?_)
 first
  | refine PySem.W.KFB.if_so (by decide) ?_
  | rw [if_pos (by decide)]
  | simp only [beq_self_eq_true,Bool.true_or,if_true]
 unfold Builtin.List.listItems
 refine wB (uH e2 rfl (wG ?_))
 refine wB (wB (uH e rfl (wG ?_)))
 refine wB (gW ((sliceIndices_raw (some (a:Int)) (some (c:Int)) none items.size (by simp)).trans (congrArg (pure:Int×Int×Int->Sem (Int×Int×Int)) (qEP hac hc))) ?_)
 show wpAny _ _ (if ((1:Int) == 1)=true then _ else _) _ _ s
 rw [if_pos (by decide)]
 refine wB (fG ?_)
 first
  | simp only [YL hsz,xM,if_false]
  | refine WO (YL hsz) ?_
 first | refine wB (wG ?_) | skip
 show wpAny _ _ (updateSeq l (fun xs=>xs.extract 0 ((a:Int)).toNat++new++xs.extract (max (a:Int) (c:Int)).toNat xs.size) >>= _) _ _ s
 rw [hmax,zT]
 refine wB (wpAny_updateSeq (hz:=zO (yS _ _) hsz) (_hz':=hz') e rfl ?_)
 refine wB (VV ?_)
 first
  | exact wB (wG (wG ⟨.none,rfl,wG h⟩))
  | exact wG ⟨.none,rfl,wG h⟩
end
section
variable {X:Cx}
theorem qGu {pins:List (Addr×Obj)} {s:Shared} {σ:St} {H:Hp} {l b sl:Addr} {xs ys:List V} {a c:Int} {vl vu:Value} {Q:Unit->Shared->Prop} (I:Inv X pins σ H s)
  (hH:H l=some (.lst xs)) (hB:H b=some (.lst ys)) (hne:l≠b) (hs:s.heap.IsSliceOf sl vl vu .none) (ra:RelV (.int a) vl) (rc:RelV (.int c) vu) (h0:0<=a) (hac:a<=c) (hc:c<=xs.length)
  (hz:xs.length+ys.length<=sizeLine) (h:∀ s',Inv X pins σ (upd H l (.lst (xs.take a.toNat++ys++xs.drop c.toNat))) s'->Q () s') :
  wpAny (model X.prog X.w) X.A (setItem (.ref l) (.ref sl) (.ref b)) Q X.xe s:=by
 obtain ⟨ta,rfl⟩:=ra
 obtain ⟨tc,rfl⟩:=rc
 obtain ⟨z,its,n,r,hl,e⟩:=I.lstM hH
 obtain ⟨z2,its2,n2,r2,hl2,e2⟩:=I.lstM hB
 obtain ⟨a',rfl⟩:=TM h0
 obtain ⟨c',rfl⟩:=TM (uS h0 hac)
 simp only [zT] at h
 refine qAu (a:=a') (c:=c') e e2 hne hs (.int _ _) (.int _ _) (by omega) (by rw [wH]; omega) (by rw [wH,wH]; omega) (h _ ?_)
 refine I.lset (its':=its.take a'++its2++its.drop c') (t':=s.toks) hH e ?_ (jB.append (jB.append (r.take _) r2) (r.drop _)) ?_
 ·exact qGF its its2 a' c'
 ·rw [wR,wR,vK,uZ]
  omega
end
end L2
namespace Att
open PySem PySem.W PySem.Calls PyProof.Rows
theorem Yz {P:Params} {h:Heap}:∀(ns:List Int) (vs:List Value),WellAll P h vs (ns.map WData.int)->IntsAre vs ns:=by
 intro ns
 induction ns with
 | nil=>
  intro vs w
  rw [List.map_nil] at w
  cases w
  exact .nil
 | cons n ns ih=>
  intro vs w
  rw [uW] at w
  cases w with
  | cons a b=>
   cases a
   exact .cons _ _ (ih _ b)
theorem qE9 {l:OpenLaw} {n:Nat} (hn:l.most=some n) {P:Params} {h:Heap} {args:List WData} {vals:List Value}
  (hpre:l.row.toRowW.claim.pre args=true) (hwl:WellAll P h vals args) :
  ∃ a vs ns,vals=[uM a]/\args=[WData.list (ns.map WData.int)]/\h.get? a=some { cls:=.type "list",data:=.seq vs.toArray }/\IntsAre vs ns/\ns.length<=n:=by
 have hsh:WShape.hasAll [] args [.list .int]=true:=(pre_splitW hpre).1
 have hc:l.pre.holds [] { args:=args } = true:=(pre_splitW hpre).2
 obtain ⟨d,r,rfl,h1,h2⟩:=hasAllW_cons hsh
 obtain rfl:=hasAllW_nil h2
 obtain ⟨xs,rfl,h3⟩:=hasW_list h1
 obtain ⟨ns,rfl⟩:=items_int h3
 have hlen:ns.length<=n:=by
  unfold OpenLaw.pre at hc
  have h4:(WTm.not (.lt (.lit (.int (n:Int))) (.len (.arg 0)))).holds [] { args:=[.list (ns.map .int)] } = true:=by
   have h4:=(holds_andW hc).1
   rw [hn] at h4
   exact h4
  have h5:=condW_of h4 (w_not (w_lt w_lit (w_len_list (w_arg rfl))))
  rw [wC] at h5
  refine xN fun q=>?_
  have q':(n:Int)<((ns.length:Nat):Int):=by omega
  first
   | (rw [decide_eq_true q'] at h5; exact absurd h5 (by decide))
   | (simp at h5; omega)
 cases hwl with
 | cons w1 w2=>
  cases w2
  cases w1 with
  | list ho hall=>exact ⟨_,_,ns,rfl,rfl,ho,Yz ns _ hall,hlen⟩
theorem qG1 (l:OpenLaw) (args:List WData):l.row.toRowW.claim.post args (.bool true) args=true:=
 postW_of (r:=l.row.toRowW) (X:=(true == true))
  (show WShape.has [] (.bool true) .bool=true by first | rfl | decide | simp [WShape.has,WShape.arms,WShape.armsAll])
  (show (WTm.eq .res (.lit (.bool true))).value [] { args:=args,res:=some (.bool true),after:=args } = some (.bool (true == true)) from w_eq_bool (w_res rfl) w_lit) rfl
theorem attach_call {l:OpenLaw} {n:Nat} {q:Program} {loose:List Str} {XP:(Str->Option Value)->Heap->Prop} {YP:World->Heap->Prop} {d:DefRec}
  (hn:l.most=some n) (hdf:d.params.defaults=[])
  (call:∀(w:World) (s₀ s₁:Shared) (mg mb:Str->Option Value) (fa:Addr) (o:Obj) (pm cd doc:Value) (a:Addr) (vs:List Value) (ns:List Int),
   Ground q loose [] XP w s₀ mg mb s₁.heap->YP w s₁.heap->
   s₁.heap.get? fa=some o->o.data=.func (docDef d.name d.params d.body d.scope pm cd doc)->s₁.heap.CodeRec cd d.name->mg d.name=some (.ref fa)->
   s₁.heap.get? a=some { cls:=.type "list",data:=.seq vs.toArray }->IntsAre vs ns->ns.length<=n->s₁.gens = #[]->
   codeAny (model l.prog w) callerA (.call (.ref fa) ⟨[.ref a],[]⟩) (fun r s'=>r=.ok (.ret (.bool true))/\OldK s₁.heap s'.heap/\s'.os=s₁.os/\AllBare s'.gens) s₁) :
  WalkO q loose XP YP l.row.toRowW d [] (fun f vs=>PySem.call f vs):=by
 intro w s₀ s₁ mg mb G Y fa o pm cd doc dV kV ho hd hcd hD hmg hg args vals as hpre hlay hrd hwl hlo
 obtain rfl:dV=.none:=Dflts.none hD hdf
 obtain rfl:kV=.none:=Dflts.noKw hD
 obtain ⟨a,vs,ns,rfl,rfl,hobj,hints,hlen⟩:=qE9 hn hpre hwl
 refine enter_call (kD (call w s₀ s₁ mg mb fa o pm cd doc a vs ns G Y ho (fd_plain hd) hcd hmg hobj hints hlen hg) fun r s' hq=>?_)
 obtain ⟨rfl,h2,h3,h4⟩:=hq
 exact ⟨.inl ⟨.bool true,.bool true,[],rfl,fun _=>rfl,.bool true,qG1 l _,fun _=>⟨List.Pairwise.nil,fun _ hm=>(nomatch hm)⟩⟩,h2,h3,h4⟩
section
variable {prog:Program} {w:World} {A:Around} {E:Value->Shared->Prop} {s:Shared} {K:Frag}
noncomputable def ledger (h:Heap) (L d:Addr):List (Addr×Obj):=(wV h.objs.size).filterMap fun a=>if a=L\/a=d then none else (h.get? a).map fun o=>(a,o)
end
end Att
namespace L2
open PySem PySem.Spec PyProof.Rows
theorem Qs:∀{vs:List Value} {ns:List Int},IntsAre vs ns->jB (ns.map V.int) vs
 | _,_,.nil=>.nil
 | _,_,.cons n t h=>.cons ⟨t,rfl⟩ (Qs h)
noncomputable def qMd (H:Hp):Prop:=∀ b,H b=none\/∃ o xs,H b=some (.frz o (.lst xs))
theorem qH4 {P:Program} {w:World} {K:wJ} {mg mb:Str->Option Value} {CX:CXT} {k:Nat} {fa a:Addr} {fd:FuncData} {x:Str} {sp:Sp} {s₁:Shared} {vs:List Value} {ns:List Int}
  (KX:K.In s₁.heap) (hns:s₁.heap.Ns mainGlobals mg) (hb:s₁.heap.Ns builtinsNs mb) (hbb:∀ x:Str,x≠"__name__"->mb x=bootBuiltins x) (hlim:s₁.heap.NoLimit) (hg:s₁.gens = #[])
  (ha:s₁.heap.get? a=some { cls:=.type "list",data:=.seq vs.toArray }) (hi:IntsAre vs ns) (hl:ns.length<=sizeLine) (hr:qAb k callerA)
  (F:∀ base:Heap,K.In base->base.Ns mainGlobals mg->QC P w K mg base CX k fa fd [x] sp) (hbind:∀(s:Shared) (u:Value),BindsTo s fd ⟨[u],[]⟩ [(x,u)])
  (hsp:∀ H:Hp,qMd H->SqL K H a (ns.map V.int)->sp [.ref a] H (fun v _=>v=.bl true) fun _ _ _=>False)
  (hCX:∀ H e s',CX [] H s₁ (fun _ _ _=>False) e s'->False) :
  codeAny (model P w) callerA (.call (.ref fa) ⟨[.ref a],[]⟩) (fun r s'=>r=.ok (.ret (.bool true))/\OldK s₁.heap s'.heap/\s'.os=s₁.os/\AllBare s'.gens) s₁:=by
 have rv:=Qs hi
 have lenV:=hi.length
 have core:∀ H:Hp,qMd H->SqL K H a (ns.map V.int)->HOk P w H s₁.heap->(∀ b,H b≠none->b=a)->(H a≠none->K.lookup a=none)->
   codeAny (model P w) callerA (.call (.ref fa) ⟨[.ref a],[]⟩) (fun r s'=>r=.ok (.ret (.bool true))/\OldK s₁.heap s'.heap/\s'.os=s₁.os/\AllBare s'.gens) s₁:=by
  intro H hO hS hok hA hK
  have base_of:∀{b:Addr} {o:Obj},s₁.heap.get? b=some o->H b=none->(qHe s₁.heap H).get? b=some o:=fun e n=>qHK e n
  have noA:∀{b:Addr} {o:Obj} {es:Array DictEntry} {ep:Nat},s₁.heap.get? b=some o->o.data=.dict es ep->H b=none:=fun {b o es ep} e d=>by
   cases q:H b with
   | none=>rfl
   | some u=>
    have e':b=a:=hA b (by rw [q]; simp)
    subst e'
    rw [ha] at e; cases e
    have d':Data.seq vs.toArray _=Data.dict es ep:=d
    cases d'
  have nsK:∀{b:Addr} {m:Str->Option Value},s₁.heap.Ns b m->(qHe s₁.heap H).Ns b m:=fun {b m} ⟨o,es,ep,e,d,r⟩=>⟨o,es,ep,base_of e (noA e d),d,r⟩
  have hKb:K.In (qHe s₁.heap H):=fun b o e=>base_of (KX b o e) (by
   cases q:H b with
   | none=>rfl
   | some u=>
    have e':b=a:=hA b (by rw [q]; simp)
    subst e'
    rw [hK (by rw [q]; simp)] at e; cases e)
  have hM:Mod K mg (qHe s₁.heap H):=⟨hKb,nsK hns,⟨mb,nsK hb,hbb⟩,let ⟨mc,h1,h2⟩:=hlim; ⟨mc,nsK h1,h2⟩⟩
  have e0:qLm P w K mg (qHe s₁.heap H) callerA [] s₁ H:=⟨rfl,hM,fun b o e=>qJ2 e,xP (qGa _ _),trivial,fun b hb=>absurd (show b∈([]:List Addr) from hb) (by simp),hok,.of_eq hg⟩
  refine kD ((F _ hKb (nsK hns)).run callerA [] s₁ H ⟨[.ref a],[]⟩ [.ref a] [.ref a] _ _ hr e0 (hbind s₁ (.ref a)) (.cons rfl .nil) (hsp H hO hS)) fun r s' h=>?_
  cases r with
  | error e=>exact (hCX H e s' h).elim
  | ok fl=>
   cases fl with
   | next=>exact kR h
   | brk=>exact kR h
   | cont=>exact kR h
   | ret u=>
    obtain ⟨v,H',os,bare,un,hok',r',q⟩:=h
    have q':v=.bl true:=q
    subst q'
    obtain rfl:u=Value.bool true:=r'
    refine ⟨rfl,OldK.of_keep fun b o e=>?_,os,bare⟩
    cases q:H b with
    | none=>exact un.keep b o e q (by intro z; exact absurd (show b∈([]:List Addr) from z) (by simp)) (by simp)
    | some u=>
     rcases hO b with z | ⟨ob,xs,z⟩
     ·rw [q] at z; cases z
     ·have z2:=un.frzs b ob _ z
      obtain ⟨e1,_⟩:=hok b _ z
      obtain ⟨e2,_⟩:=hok' b _ z2
      rw [e] at e1; cases e1
      exact e2
 cases hk:K.lookup a with
 | some o=>
  have e:=KX a o hk
  rw [ha] at e
  cases e
  refine core (fun _=>none) (fun _=>.inl rfl) (.inr ⟨_,vs.toArray,_,hk,rfl,rfl,rfl,by rw [wH,lenV]; exact hl,by simpa using rv⟩) (fun b u z=>by have z':(none:Option HO)=some u:=z; cases z') (fun b z=>absurd rfl z) fun z=>absurd rfl z
 | none=>
  refine core (fun b=>if b=a then some (.frz { cls:=.type "list",data:=.seq vs.toArray } (.lst (ns.map V.int))) else none) (fun b=>?_) (.inl (.inr ⟨{ cls:=.type "list",data:=.seq vs.toArray },if_pos rfl⟩)) (fun b u z=>?_) (fun b z=>?_) fun _=>hk
  ·by_cases hb:b=a
   ·exact .inr ⟨_,_,if_pos hb⟩
   ·exact .inl (if_neg hb)
  ·by_cases hb:b=a
   ·have z':=(if_pos hb).symm.trans z
    cases z'
    subst hb
    exact ⟨ha,by rw [wC]; exact hl,vs,_,rv,ha⟩
   ·have z':=(if_neg hb).symm.trans z
    cases z'
  ·by_cases hb:b=a
   ·exact hb
   ·exact absurd (if_neg hb) z
theorem qJK {l:ZT} {n k:Nat} {q:Program} {loose:List Str} {XP:(Str->Option Value)->Heap->Prop} {YP:World->Heap->Prop} {d:DefRec} {K:Params->wJ} {CX:World->CXT} {sp:World->Sp} {x:Str}
  (hn:l.most=some n) (hn2:n<=sizeLine) (hdf:d.params.defaults=[]) (hr:qAb k callerA)
  (hY:∀(w:World) (h:Heap),YP w h->(K w.params).In h)
  (F:∀(w:World) (mg:Str->Option Value) (fa:Addr) (h:Heap),(K w.params).In h->h.Ns mainGlobals mg->mg d.name=some (.ref fa)->
   ∃ fd:FuncData,(∀(s:Shared) (u:Value),BindsTo s fd ⟨[u],[]⟩ [(x,u)])/\
    ∀ base:Heap,(K w.params).In base->base.Ns mainGlobals mg->QC l.prog w (K w.params) mg base (CX w) k fa fd [x] (sp w))
  (hsp:∀(w:World) (H:Hp) (a:Addr) (ns:List Int),ns.length<=n->qMd H->SqL (K w.params) H a (ns.map V.int)->sp w [.ref a] H (fun v _=>v=.bl true) fun _ _ _=>False)
  (hCX:∀(w:World) (H:Hp) (s:Shared) (e:Value) (s':Shared),CX w [] H s (fun _ _ _=>False) e s'->False) :
  PySem.W.WalkO q loose XP YP l.row.toRowW d [] (fun f vs=>PySem.call f vs):=by
 refine Att.attach_call hn hdf fun w s₀ s₁ mg mb fa o pm cd doc a vs ns G Y ho hd hcd hmg hobj hints hlen hg=>?_
 have KX:=hY w _ Y
 obtain ⟨fd,hb,hF⟩:=F w mg fa _ KX G.T.g hmg
 exact qH4 KX G.T.g G.T.b G.T.builtins G.T.nolimit hg hobj hints (zO hlen hn2) hr hF hb (fun H hO hS=>hsp w H a ns hlen hO hS) fun H e s'=>hCX w H s₁ e s'
noncomputable def Ji (s:Stmt):Arguments:=match s with
 | .FunctionDef _ a _ _ _ _ _ _ _ _=>a
 | _=>{ posonlyargs:=[],args:=[],vararg:=none,kwonlyargs:=[],kw_defaults:=[],kwarg:=none,defaults:=[] }
noncomputable def Qc (s:Stmt):List Stmt:=match s with
 | .FunctionDef _ _ b _ _ _ _ _ _ _=>b
 | _=>[]
noncomputable def qJ (s:Stmt):Scope:=match s with
 | .FunctionDef _ _ _ _ _ _ sc _ _ _=>sc
 | _=>{ kind:=.function,names:=[],isGenerator:=false,isCoroutine:=false }
noncomputable abbrev CX0:CXT:=fun _ _ _ _ _ _=>False
noncomputable abbrev E0:XK:=fun _ _ _=>False
theorem qMQ {X:Cx}:qGg CX0 X E0:=fun _ _ _ _ _ _ _ h=>h.elim
structure Fun (K:wJ) (x qual:Str) (st:Stmt) (f:Addr) (fd:FuncData):Prop where
 ex:∃(oc:Value) (od:Option Addr) (kV doc pm:Value) (an:Option Addr) (cdv ct:Value) (osl:Array (Option Value)),
  fd=kW x qual (Ji st) (Qc st) (qJ st) .none kV doc pm an cdv ct/\K.lookup f=some ⟨oc,od,.func fd,osl⟩/\UI K cdv qual=true
 kp:UH K (.ref f)=true
section
variable {P:Program} {w:World} {K:wJ} {mg:Str->Option Value} {base:Heap}
theorem Fun.ok {x qual:Str} {st:Stmt} {f:Addr} {fd:FuncData} {N ps:List Str} {k:Nat} {sp:Sp} (F:Fun K x qual st f fd) (S:qR N ps (qJ st)) (len:∀ vs H Q E,sp vs H Q E->vs.length=ps.length)
  (hbody:∀(cdv:Value) (A:Around) (outer:List Env) (s:Shared) (H:Hp) (vs:List V) (Q:VK) (E:XK),qAb k (A.deeper (envOfC qual (qJ st) s.heap.objs.size f cdv))->sp vs H Q E->
   ∃ t,PSs (qIO CX0 P w K mg base N qual (qJ st) f cdv A outer s H E).nox (Qc st) t/\t { nx:=fun _ H'=>Q .non H',rt:=Q } (start N vs) H):QC P w K mg base CX0 (k+1) f fd ps sp:=by
 obtain ⟨oc,od,kV,doc,pm,an,cdv,ct,osl,rfl,lk,hcd⟩:=F.ex
 refine qMZ lk hcd S len fun A outer s H vs Q E hr hsp=>?_
 obtain ⟨t,h,q⟩:=hbody cdv A outer s H vs Q E hr hsp
 exact ⟨t,h.nox,q⟩
theorem Fun.binds {x qual:Str} {st:Stmt} {f:Addr} {fd:FuncData} {ps:List Str} (F:Fun K x qual st f fd)
  (h:∀(kV doc pm:Value) (an:Option Addr) (cdv ct:Value) (us:List Value),us.length=ps.length->bindArgs (kW x qual (Ji st) (Qc st) (qJ st) .none kV doc pm an cdv ct) ⟨us,[]⟩=pure (ps.zip us)):Binds K fd ps []:=by
 obtain ⟨oc,od,kV,doc,pm,an,cdv,ct,osl,rfl,lk,hcd⟩:=F.ex
 exact .all (h kV doc pm an cdv ct)
theorem qLM {x qual:Str} {st:Stmt} {f:Addr} {oc:Value} {od an:Option Addr} {osl:Array (Option Value)} {kV doc pm cdv ct:Value} (l:K.lookup f=some ⟨oc,od,.func (kW x qual (Ji st) (Qc st) (qJ st) .none kV doc pm an cdv ct),osl⟩)
  (c:UI K cdv qual=true) (k:UH K (.ref f)=true):Fun K x qual st f (kW x qual (Ji st) (Qc st) (qJ st) .none kV doc pm an cdv ct):=⟨⟨oc,od,kV,doc,pm,an,cdv,ct,osl,rfl,l,c⟩,k⟩
end
theorem qI {n:Nat} (h:n<=1000):n<sizeLine:=yR h (by decide)
section
variable {X:Cx}
theorem pv (i:Nat) {x:Str} {pos:Pos} (hN:X.N[i]? = some x:=by rfl) (hv:Vis X.env.scope x:=by first | exact Or.inl rfl | exact Or.inr (Or.inl rfl) | exact Or.inr (Or.inr rfl)) (hd:(x == ("__debug__" : Str))=false:=by decide)
  (hcd:(x == ("__classdict__" : Str))=false:=by decide):PE X (.Name x pos) (qIn i):=qKI hN hv hd hcd
end
theorem Qf {c A B:Prop} [Decidable c] (h1:c->A) (h2:¬ c->B):if c then A else B:=by
 by_cases h:c
 ·rw [if_pos h]
  exact h1 h
 ·rw [if_neg h]
  exact h2 h
noncomputable def qX (H H':Hp):Prop:=∀ b o,H b=some o->H' b=some o
theorem qX.refl (H:Hp):qX H H:=fun _ _ h=>h
theorem qX.trans {H H1 H2:Hp} (a:qX H H1) (b:qX H1 H2):qX H H2:=fun c o h=>b c o (a c o h)
theorem qX.free {H H':Hp} (e:qX H H') {l:Addr} (h:H' l=Option.none):H l=Option.none:=by
 cases q:H l with
 | none=>rfl
 | some o=>
  rw [e l o q] at h
  cases h
theorem qX.seq {K:wJ} {H H':Hp} {a:Addr} {xs:List V} (e:qX H H') (h:SqL K H a xs):SqL K H' a xs:=by
 rcases h with (h | ⟨o,h⟩) | h
 ·exact .inl (.inl (e _ _ h))
 ·exact .inl (.inr ⟨o,e _ _ h⟩)
 ·exact .inr h
end L2
set_option maxHeartbeats 16000000
namespace L2
open PySem PySem.Spec PyProof.Rows
noncomputable def IsD (H:Hp) (a:Addr):Prop:=(∃ kvs,Rd H a (.dK kvs))\/∃ kvs,Rd H a (.dT kvs)
section
variable {w:World} {prog:Program} {A:Around} {s:Shared} {R:Result->Shared->Prop}
theorem qCG {elt target iter:Expr} {ifs:List Expr} {scope:Scope} {pos:Pos} {it acc:Value} {env:Env} (J:Nat->Shared->Prop)
  (turn:∀ n s,J n s->wpAny (model prog w) A (pyNext it) (fun r s1=>match r with
   | none=>R (.ok .next) s1
   | some v=>wpAny (model prog w) A (letOwnedTupleGo target it v) (fun _ s1'=>wpAny (model prog w) A (assign target env v) (fun _ s2=>
     wpAny (model prog w) A (forIn ifs true fun c r=>if r=true then do let ok <- isTrue c env (eval c env); pure (vZ ok) else pure (vZ r)) (fun ok s3=>
      if ok=true then wpAny (model prog w) A (eval elt env) (fun x s4=>
       wpAny (model prog w) A (call (.builtin "list.append") [acc,x]) (fun _ s5=>∃ m,m<n/\J m s5) (fun _ _=>False) s4) (fun _ _=>False) s3
      else ∃ m,m<n/\J m s3) (fun _ _=>False) s2) (fun _ _=>False) s1') (fun _ _=>False) s1) (fun _ _=>False) s)
  (n:Nat) (h:J n s):codeAny (model prog w) A (.compLoop (.ListComp elt [⟨target,iter,ifs,0⟩] scope pos) 0 it acc env) R s:=by
 refine codeAny_loop rfl J (fun n s hI=>?_) n h
 refine wpAny_noted (env:=env) (m:=compTurn (.ListComp elt [⟨target,iter,ifs,0⟩] scope pos) 0 it acc env) ?_
 rw [compTurn_list]
 refine wB (kK (wB (uV (turn n s hI) (fun r s1 h1=>?_) fun _ _ h'=>h'.elim)))
 cases r with
 | none=>exact wG h1
 | some v=>
  refine wB (uV h1 (fun _ s1' h1'=>?_) fun _ _ h'=>h'.elim)
  refine wB (uV h1' (fun _ s2 h2=>wB (uV h2 (fun ok s3 h3=>?_) fun _ _ h'=>h'.elim)) fun _ _ h'=>h'.elim)
  cases ok with
  | false=>exact wG ⟨rfl,h3⟩
  | true=>
   exact wB (wB (uV h3 (fun x s4 h4=>wB (uV h4 (fun _ s5 h5=>wG (wG ⟨rfl,h5⟩)) fun _ _ h'=>h'.elim)) fun _ _ h'=>h'.elim))
end
theorem Jy {env:Env}:∀(names:List (Str×NameKind)) (cs:List (Str×Addr)),(∀ x∈names,x.2=.free->∃ c,env.cells.lookup x.1=some c)->(∀ x c,cs.lookup x=some c->env.cells.lookup x=some c)->
  ∃ cl,(forIn names cs fun (x:Str×NameKind) (cs:List (Str×Addr))=>(if (x.2 == xF)=true then do let a <- cellOf env x.1; pure (vZ ((x.1,a)::cs)) else pure (vZ cs):Sem (ForInStep (List (Str×Addr)))))=pure cl/\
   (∀ x c,cl.lookup x=some c->env.cells.lookup x=some c)/\(∀ x,(cs.lookup x).isSome=true->(cl.lookup x).isSome=true)/\∀ x∈names,x.2=.free->(cl.lookup x.1).isSome=true
 | [],cs,_,h=>⟨cs,rfl,h,fun _ z=>z,fun x z=>by cases z⟩
 | (n,k)::r,cs,hf,h=>by
  by_cases hk:k=.free
  ·subst hk
   obtain ⟨c,hc⟩:=hf (n,.free) wF rfl
   have hc':env.cells.lookup n=some c:=hc
   obtain ⟨cl,e,h1,h2,h3⟩:=Jy (env:=env) r ((n,c)::cs) (fun x hx=>hf x (wN _ hx)) (fun x d hd=>by
    rw [vE] at hd
    by_cases hx:x=n
    ·subst hx
     simp at hd
     subst hd
     exact hc
    ·have:(x == n)=false:=by simpa using hx
     rw [this] at hd
     exact h x d hd)
   refine ⟨cl,?_,h1,fun x hx=>h2 x ?_,fun x hx hk=>?_⟩
   ·rw [kH]
    simp only [beq_self_eq_true,if_true,cellOf,hc',pure_bind]
    exact e
   ·rw [vE]
    by_cases hx':x=n
    ·subst hx'; simp
    ·have:(x == n)=false:=by simpa using hx'
     rw [this]; exact hx
   ·rcases wM.mp hx with z | z
    ·subst z
     refine h2 _ ?_
     rw [vE]
     simp
    ·exact h3 x z hk
  ·obtain ⟨cl,e,h1,h2,h3⟩:=Jy (env:=env) r cs (fun x hx=>hf x (wN _ hx)) h
   refine ⟨cl,?_,h1,h2,fun x hx hk'=>?_⟩
   ·rw [kH]
    have:(k == xF)=false:=by simpa using hk
    simp only [this,xM,if_false,pure_bind]
    exact e
   ·rcases wM.mp hx with z | z
    ·subst z; exact absurd hk' hk
    ·exact h3 x z hk'
theorem Jk {env:Env} {scope:Scope} (hf:∀ x∈scope.names,x.2=.free->∃ c,env.cells.lookup x.1=some c) :
  ∃ cl,closureFor scope env=pure cl/\(∀ x c,cl.lookup x=some c->env.cells.lookup x=some c)/\∀ x∈scope.names,x.2=.free->(cl.lookup x.1).isSome=true:=by
 obtain ⟨cl,e,h1,_,h3⟩:=Jy (env:=env) scope.names [] hf (fun x c z=>by cases z)
 refine ⟨cl,?_,h1,h3⟩
 unfold closureFor
 simp only [bind_pure]
 exact e
noncomputable def qCm (scope:Scope) (x:Str):Bool:=match scope.names.lookup x with
 | some .cell=>true
 | _=>false
theorem qEW {scope:Scope} {x:Str} (h:qCm scope x=true):scope.names.lookup x=some .cell:=by
 unfold qCm at h
 split at h
 ·assumption
 ·cases h
noncomputable def qf (n:Nat) (scope:Scope):List (Str×Addr):=cellsFrom (n+1) scope.names []
theorem Q0:∀(names:List (Str×NameKind)) (n:Nat) (cl:List (Str×Addr)),cellsFrom n names cl=cellsFrom n names []++cl
 | [],_,_=>rfl
 | (x,k)::r,n,cl=>by
  unfold cellsFrom
  split
  ·rw [Q0 r (n+1) ((x,n)::cl),Q0 r (n+1) [(x,n)],xA]
   rfl
  ·exact Q0 r n cl
theorem Yp:∀(names:List (Str×NameKind)) (n:Nat) {x:Str} {c:Addr},(x,c)∈cellsFrom n names []->(x,kL)∈names
 | [],_,_,_,h=>absurd h wY
 | (y,k)::r,n,x,c,h=>by
  unfold cellsFrom at h
  split at h
  ·rename_i hk
   rw [Q0] at h
   rcases zG.mp h with z | z
   ·exact wN _ (Yp r _ z)
   ·cases wK.mp z
    rw [beq_iff_eq.mp hk]
    exact wF
  ·exact wN _ (Yp r _ h)
structure qAv (s:Shared) (scope:Scope) (h':Heap):Prop where
 ns:h'.Ns s.heap.objs.size fun _=>none
 keep:∀ b o,s.heap.get? b=some o->h'.get? b=some o
 cell:∀ x c,(qf s.heap.objs.size scope).lookup x=some c->h'.IsCell c none/\s.heap.objs.size<c
 one:∀ x y c,(qf s.heap.objs.size scope).lookup x=some c->(qf s.heap.objs.size scope).lookup y=some c->x=y
theorem qB2 {M:Model} {A:Around} {E:Value->Shared->Prop} {s:Shared} {scope:Scope} {gl:Addr} {cl:List (Str×Addr)} {q:Str} {env:Env} {Q:Env->Shared->Prop}
  (h:∀ h',qAv s scope h'->Q (newEnv scope s.heap.objs.size gl (qf s.heap.objs.size scope++cl) q none .none (some env) builtinsNs) { s with heap:=h',toks:=s.toks }) :
  wpAny M A (newFunctionEnv scope gl cl [] q none .none (some env)) Q E s:=by
 unfold newFunctionEnv
 refine wB (wpAny_alloc (wB (wpAny_layCells _ (fun x k cs=>?_) _ _ _ _ (wB ?_))))
 ·by_cases z:(k == kL)=true
  ·rw [if_pos z]
   simp only [z,if_true,pure_bind,bind_assoc]
  ·rw [if_neg z]
   simp only [VA.mpr z,xM,if_false,pure_bind]
 ·have sz:=uI s.heap { cls:=.type "dict",data:=.dict #[] }
  have ok:=cellsFrom_ok scope.names (s.heap.push { cls:=.type "dict",data:=.dict #[] }) (s.heap.objs.size+1) [] ⟨fun x c z=>absurd z wY,.nil⟩ (xP sz.symm)
  rw [sz] at ok
  have b:qAv s scope (pushCells (s.heap.push { cls:=.type "dict",data:=.dict #[] }) scope.names):=by
   refine ⟨(Heap.Ns.new s.heap (.type "dict")).keeps (pushCells_keeps _ _),fun b o e=>pushCells_keeps _ _ b o (wD _ e),fun x c e=>?_,fun x y c e1 e2=>name_of_addr ok.apart (vU e1) (vU e2)⟩
   obtain ⟨z1,z2⟩:=ok.empty x c (vU e)
   exact ⟨z1,z2⟩
  have this:=h _ b
  unfold qf at this
  rw [<- Q0,<- sz] at this
  rw [fH]
  exact wG (wG this)
noncomputable def qv (X:Cx) (NY:List Str) (scope:Scope) (cl:List (Str×Addr)) (C:Addr) (s0:Shared) (H0:Hp) (ex:List Addr):Cx:=
 { X with N:=NY,s₀:=s0,H₀:=H0,env:=compEnvC scope cl C X.env,outer:=X.stack,ex:=ex,fn:=qCm scope,pn:=[],xe:=fun _ _=>False }
noncomputable def YO (X:Cx) (scope:Scope):List (Str×Nat)->Prop
 | []=>True
 | p::r=>(X.N[p.2]? = some p.1/\scope.names.lookup p.1=some .free/\(X.env.kindOf p.1=some .cell\/X.env.kindOf p.1=some .free))/\YO X scope r
theorem YO.all {X:Cx} {scope:Scope}:∀{fr:List (Str×Nat)},YO X scope fr->∀ p∈fr,X.N[p.2]? = some p.1/\scope.names.lookup p.1=some .free/\(X.env.kindOf p.1=some .cell\/X.env.kindOf p.1=some .free)
 | [],_,p,hp=>by cases hp
 | q::r,h,p,hp=>by
  rcases wM.mp hp with z | z
  ·subst z; exact h.1
  ·exact YO.all h.2 p z
noncomputable def jC (own:List Str) (fr:List (Str×Nat)) (σ:St):St:=own.map (fun _=>none)++fr.map fun p=>(σ[p.2]?).join
theorem Qn {env:Env}:∀{names:List (Str×NameKind)} {x:Str} {k:NameKind},(names.map fun (n,k)=>if (k == xF && env.scope.kind == .function && env.kindOf n == some .cell) then (n,kL) else (n,k)).lookup x=some k->
  k=.cell\/k=.free->names.lookup x=some .free\/names.lookup x=some .cell
 | [],_,_,h,_=>by simp at h
 | (n,k0)::r,x,k,h,hk=>by
  have ih:=@Qn env r x k
  have h':List.lookup x ((if (k0 == xF && env.scope.kind == .function && env.kindOf n == some .cell)=true then (n,kL) else (n,k0))::(r.map fun (n,k)=>if (k == xF && env.scope.kind == .function && env.kindOf n == some .cell) then (n,kL) else (n,k)))=some k:=h
  clear h
  cases hx:x == n with
  | true=>
   simp only [vE,hx]
   by_cases hc:(k0 == xF && env.scope.kind == .function && env.kindOf n == some .cell)=true
   ·simp only [zX,beq_iff_eq] at hc
    exact .inl (by rw [hc.1.1])
   ·rw [if_neg hc] at h'
    simp only [vE,hx] at h'
    cases h'
    rcases hk with rfl | rfl
    ·exact .inr rfl
    ·exact .inl rfl
  | false=>
   simp only [vE,hx]
   by_cases hc:(k0 == xF && env.scope.kind == .function && env.kindOf n == some .cell)=true
   ·rw [if_pos hc] at h'; simp only [vE,hx] at h'; exact ih h' hk
   ·rw [if_neg hc] at h'; simp only [vE,hx] at h'; exact ih h' hk
theorem JU {env:Env}:∀{names:List (Str×NameKind)} {x:Str},(names.map fun (n,k)=>if (k == xF && env.scope.kind == .function && env.kindOf n == some .cell) then (n,kL) else (n,k)).lookup x=some .local->
  names.lookup x=some .local
 | [],_,h=>by simp at h
 | (n,k0)::r,x,h=>by
  have ih:=@JU env r x
  have h':List.lookup x ((if (k0 == xF && env.scope.kind == .function && env.kindOf n == some .cell)=true then (n,kL) else (n,k0))::(r.map fun (n,k)=>if (k == xF && env.scope.kind == .function && env.kindOf n == some .cell) then (n,kL) else (n,k)))=some .local:=h
  clear h
  cases hx:x == n with
  | true=>
   simp only [vE,hx]
   by_cases hc:(k0 == xF && env.scope.kind == .function && env.kindOf n == some .cell)=true
   ·rw [if_pos hc] at h'; simp [vE,hx] at h'
   ·rw [if_neg hc] at h'; simpa [vE,hx] using h'
  | false=>
   simp only [vE,hx]
   by_cases hc:(k0 == xF && env.scope.kind == .function && env.kindOf n == some .cell)=true
   ·rw [if_pos hc] at h'; simp only [vE,hx] at h'; exact ih h'
   ·rw [if_neg hc] at h'; simp only [vE,hx] at h'; exact ih h'
structure jW (X:Cx) (own:List Str) (fr:List (Str×Nat)) (scope:Scope):Prop where
 kind:scope.kind=.function
 cells:∀ y∈scope.names,y.2=.cell->scope.names.lookup y.1=some .cell
 names:∀ x∈scope.names,x.2=.local->scope.names.lookup x.1=some .local
 frees:YO X scope fr
 allf:∀ x∈scope.names,x.2=.free->∃ p∈fr,p.1=x.1
section
variable {X:Cx} {pins:List (Addr×Obj)} {σ:St} {H:Hp} {s:Shared}
theorem jW.has {own:List Str} {fr:List (Str×Nat)} {scope:Scope} (S:jW X own fr scope) (ok:X.Ok):∀ x∈scope.names,x.2=.free->∃ c,X.env.cells.lookup x.1=some c:=fun x hx hk=>by
 obtain ⟨p,hp,e⟩:=S.allf x hx hk
 obtain ⟨_,_,h⟩:=S.frees.all p hp
 rw [<- e]
 exact ok.has p.1 h
theorem JY {n:Nat} {scope:Scope} {cl:List (Str×Addr)} {x:Str} {c:Addr} (h:(qf n scope++cl).lookup x=some c):(qf n scope).lookup x=some c\/cl.lookup x=some c:=by
 rw [fI] at h
 cases e:(qf n scope).lookup x with
 | none=>rw [e] at h; exact .inr h
 | some d=>rw [e] at h; exact .inl h
theorem jW.outer {own:List Str} {fr:List (Str×Nat)} {scope:Scope} (S:jW X own fr scope) {n:Nat} {cl:List (Str×Addr)} {x:Str} (h:scope.names.lookup x=some .free):(qf n scope++cl).lookup x=cl.lookup x:=by
 rw [fI]
 cases e:(qf n scope).lookup x with
 | none=>rfl
 | some d=>
  have:=S.cells _ (Yp _ _ (vU e)) rfl
  rw [h] at this
  cases this
theorem qBM {scope:Scope} {cl:List (Str×Addr)} {h':Heap} (B:qAv s scope h') {b:Addr} {o:Obj} (hb:s.heap.get? b=some o) {x:Str} {c:Addr} (h:(qf s.heap.objs.size scope++cl).lookup x=some c) (g:cl.lookup x=some c->c≠b):c≠b:=by
 rcases JY h with z | z
 ·exact fun e=>absurd (zN hb) (VQ (e ▸ (B.cell x c z).2))
 ·exact g z
theorem qDE {own:List Str} {fr:List (Str×Nat)} {scope:Scope} {cl:List (Str×Addr)} {fp:List Addr} {h':Heap} {tk:Nat} (S:jW X own fr scope) (I:Inv X pins σ H s)
  (hcl:∀ x c,cl.lookup x=some c->X.env.cells.lookup x=some c) (hcs:∀ x∈scope.names,x.2=.free->(cl.lookup x.1).isSome=true)
  (hf:∀ b∈fp,qCQ X pins H b) (hfo:∀ b∈fp,∃ o,s.heap.get? b=some o)
  (B:qAv s scope h') :
  Inv (qv X (own++fr.map (·.1)) scope (qf s.heap.objs.size scope++cl) s.heap.objs.size s H fp) [] (jC own fr σ) H { s with heap:=h',toks:=tk }:=by
 have keep:=B.keep
 have old:∀ x c,cl.lookup x=some c->c<s.heap.objs.size:=fun x c e=>by
  obtain ⟨v,z⟩:=I.cell x c (hcl x c e)
  exact z.lt
 have freeOf:∀ x,scope.names.lookup x=some .free->∃ c,cl.lookup x=some c:=fun x hx=>by
  have hm:=vU hx
  exact UW.mp (hcs _ hm rfl)
 refine ⟨⟨I.ok.mod,?_,I.ok.glob,I.ok.blt,wO _,?_,?_,?_,I.ok.hd,I.ok.frames,.inl rfl,?_,I.bs,zO I.ok.bsz I.sz,?_,?_,I.stack,I.stkFree⟩,rfl,I.bare,Un.kept keep,⟨_,B.ns,?_⟩,?_,I.hok.fresh (wO _),?_,?_,I.hok.kept keep,?_⟩
 ·exact S.kind
 ·intro x y c h1 h2
  rcases JY h1 with z1 | z1 <;> rcases JY h2 with z2 | z2
  ·exact B.one x y c z1 z2
  ·exact absurd (old y c z2) (VQ (B.cell x c z1).2)
  ·exact absurd (old x c z1) (VQ (B.cell y c z2).2)
  ·exact I.ok.inj x y c (hcl x c z1) (hcl y c z2)
 ·intro x hx
  have hx':(relabel scope X.env).names.lookup x=some .cell\/(relabel scope X.env).names.lookup x=some .free:=hx
  have:scope.names.lookup x=some .free\/scope.names.lookup x=some .cell:=by
   rcases hx' with z | z
   ·exact Qn z (.inl rfl)
   ·exact Qn z (.inr rfl)
  rcases this with z | z
  ·obtain ⟨c,hc⟩:=freeOf x z
   exact ⟨c,(S.outer z).trans hc⟩
  ·obtain ⟨c,hc⟩:=YK (n:=s.heap.objs.size+1) z
   refine ⟨c,?_⟩
   show (qf s.heap.objs.size scope++cl).lookup x=some c
   rw [fI,show (qf s.heap.objs.size scope).lookup x=some c from hc]
   rfl
 ·intro x c hx z
  obtain ⟨d,hd⟩:=YK (n:=s.heap.objs.size+1) (qEW hx)
  have e:(qf s.heap.objs.size scope++cl).lookup x=some d:=by
   rw [fI,show (qf s.heap.objs.size scope).lookup x=some d from hd]
   rfl
  have z':(qf s.heap.objs.size scope++cl).lookup x=some c:=z
  rw [e] at z'
  cases z'
  exact vI (B.cell x c hd).2
 ·intro b hb
  obtain ⟨o,ho⟩:=hfo b hb
  exact ⟨yE (zN ho),fun x c e=>qBM B ho e fun z=>(hf b hb).2.2.2.2.1 x c (hcl x c z)⟩
 ·intro b o e hb
  obtain ⟨_,_,_,z,_⟩:=hf b hb
  rcases z with z | z
  ·exact I.ok.noex b o e z
  ·exact absurd (zV (zN (I.ok.bs b o e).1) z) (vY _)
 ·intro b hb hs
  obtain ⟨_,f1,f2,_⟩:=hf b hb
  rcases wM.mp (I.stkSub b hs) with e | e
  ·exact f1 e
  ·exact f2 e
 ·intro i x v h1 h2 h3
  have h1':(own++fr.map (·.1))[i]? = some x:=h1
  have h2':(own.map (fun _=>(none:Option V))++fr.map fun p=>(σ[p.2]?).join)[i]? = some (some v):=h2
  by_cases hi:i<own.length
  ·rw [yU (by simpa using hi),wL] at h2'
   rw [wA hi] at h2'
   cases h2'
  ·rw [zW (by omega),wL] at h1'
   rw [zW (by simp; omega),wL,wC] at h2'
   cases e:fr[i - own.length]? with
   | none=>rw [e] at h1'; cases h1'
   | some p=>
    rw [e] at h1' h2'
    have e1:p.1=x:=by simpa using h1'
    have e2:(σ[p.2]?).join=some v:=by simpa using h2'
    have e3:σ[p.2]? = some (some v):=by
     cases q:σ[p.2]? with
     | none=>rw [q] at e2; cases e2
     | some y=>rw [q] at e2; cases y with
      | none=>cases e2
      | some y=>simpa using e2
    obtain ⟨g1,g2,g3⟩:=S.frees.all p (vN e)
    subst e1
    obtain ⟨m,hn,hl⟩:=I.loc
    have vis:Vis X.env.scope p.1:=by
     rcases g3 with z | z
     ·exact .inr (.inl z)
     ·exact .inr (.inr z)
    obtain ⟨u,r,l⟩:=hl p.2 p.1 v g1 e3 vis
    refine ⟨u,r,.inr ⟨?_,?_⟩⟩
    ·have h3':Vis (relabel scope X.env) p.1:=h3
     rcases h3' with z | z | z
     ·have:=JU z
      rw [g2] at this
      cases this
     ·exact .inl z
     ·exact .inr z
    ·rcases l with ⟨k,_⟩ | ⟨k,c,hc,hcell⟩
     ·rcases g3 with z | z
      ·rw [z] at k; cases k
      ·rw [z] at k; cases k
     ·obtain ⟨c',hc'⟩:=freeOf p.1 g2
      have:=hcl _ _ hc'
      rw [hc] at this
      cases this
      obtain ⟨o,ho,hd⟩:=hcell
      exact ⟨c,(S.outer g2).trans hc',o,keep c o ho,hd⟩
 ·intro x c e
  rcases JY e with z | z
  ·exact ⟨none,(B.cell x c z).1⟩
  ·obtain ⟨v,o,ho,hd⟩:=I.cell x c (hcl x c z)
   exact ⟨v,o,keep c o ho,hd⟩
 ·intro x c e
  rcases JY e with z | z
  ·exact I.hok.fresh (vI (B.cell x c z).2)
  ·exact I.freeC x c (hcl x c z)
 ·intro p hp
  exact absurd (show p∈([]:List (Addr×Obj)) from hp) (by simp)
 ·show (own.map (fun _=>(none:Option V))++fr.map fun p=>(σ[p.2]?).join).length=(own++fr.map (·.1)).length
  simp
end
noncomputable def PF (X:Cx) (ifs:List Expr) (t:TT):Prop:=
 ∀(pins:List (Addr×Obj)) (s:Shared) (σ:St) (H:Hp) (Q:Bool->Hp->Prop),Inv X pins σ H s->t σ H Q->
  wpAny (model X.prog X.w) X.A (forIn ifs true fun c r=>if r=true then do let ok <- isTrue c X.env (eval c X.env); pure (vZ ok) else pure (vZ r)) (TP X pins σ Q) X.xe s
noncomputable def qLY:TT:=fun _ H Q=>Q true H
theorem jH {X:Cx}:PF X [] qLY:=fun _ _ _ H _ I h=>wpAny_tests_nil ⟨H,I,h⟩
theorem jg {X:Cx} {c:Expr} {t:TT} (h:PT X c t):PF X [c] t:=fun pins s σ H Q I q=>wpAny_tests_one (h pins s σ H Q I q)
noncomputable def qAs (J:It) (g:TG) (tt:TT) (te:TE) (σ0:St) (H1:Hp) (D:Addr) (Q:Hp->Prop):Prop:=
 ∃ W:Nat->Nat->List V->St->Hp->Prop,(∃ m,W 0 m [] σ0 (upd H1 D (.lst [])))/\∀ i m ys σ H,W i m ys σ H->H D=some (.lst ys)/\
  ((J.stop i H/\Q H)\/(J.go i H/\ys.length<sizeLine/\∃ N:List V->St->Hp->Prop,(∀ ys' σ' H',N ys' σ' H'->∃ m',m'<m/\W (i+1) m' ys' σ' H')/\
   ∀ x H',J.yld i H x H'->g x σ H' fun σ2 H2=>tt σ2 H2 fun b H3=>if b=true then te σ2 H3 fun y H4=>H4 D=some (.lst ys)/\N (ys++[y]) σ2 (upd H4 D (.lst (ys++[y]))) else N ys σ2 H3))
noncomputable def qEb (own:List Str) (fr:List (Str×Nat)) (wi:TI) (g:TG) (tt:TT) (te:TE):TE:=fun σ H Q=>wi σ H fun J H1=>∀ D,H1 D=none->qAs J g tt te (jC own fr σ) H1 D fun H2=>Q (.ref D) H2
section
variable {X:Cx} {pins:List (Addr×Obj)} {σ:St} {H:Hp} {s:Shared}
theorem qDn {own:List Str} {fr:List (Str×Nat)} {scope:Scope} {cl:List (Str×Addr)} {elt tg iter:Expr} {ifs:List Expr} {pos:Pos} {g:TG} {tt:TT} {te:TE} {Q:Addr->Hp->Prop} {RR:Value->Addr->Result->Shared->Prop} {E:Value->Shared->Prop}
  {it:Addr} {fp:List Addr} {tn:Nat->Heap->Prop} {J:It}
  (hc:X.calm=true) (S:jW X own fr scope) (I:Inv X pins σ H s) (hcl:∀ x c,cl.lookup x=some c->X.env.cells.lookup x=some c) (hcs:∀ x∈scope.names,x.2=.free->(cl.lookup x.1).isSome=true)
  (T:Turn X.prog X.w X.K tg J fp it tn) (st:tn 0 s.heap) (hf:∀ b∈fp,qCQ X pins H b)
  (hB:∀(cl:List (Str×Addr)) (C:Addr) (s0:Shared) (H0:Hp),PG (qv X (own++fr.map (·.1)) scope cl C s0 H0 fp) tg g/\PF (qv X (own++fr.map (·.1)) scope cl C s0 H0 fp) ifs tt/\PE (qv X (own++fr.map (·.1)) scope cl C s0 H0 fp) elt te)
  (body:∀ D,H D=none->qAs J g tt te (jC own fr σ) H D (Q D))
  (hR:∀ D C s' H',Inv X pins σ H' s'->Q D H'->C≠X.env.locals->(∃ m,s'.heap.Ns C m)->qCQ X pins H' C->(∃ o,s'.heap.get? C=some o)->RR (.ref D) C (.ok .next) s') :
  wpAny (model X.prog X.w) X.A (newList []) (fun acc s3=>wpAny (model X.prog X.w) X.A (newFunctionEnv scope X.env.globals cl [] X.env.qual none .none (some X.env)) (fun cenv s4=>
   codeAny (model X.prog X.w) X.A (.compStart (.ListComp elt [⟨tg,iter,ifs,0⟩] scope pos) 0 (.ref it) acc { cenv with scope:=relabel scope X.env }) (RR acc cenv.locals) s4) E s3) E s:=by
 refine vF ?_
 have nD:H s.heap.objs.size=none:=I.hok.fresh (wO _)
 have I3:Inv X pins σ (upd H s.heap.objs.size (.lst [])) { s with heap:=s.heap.push { cls:=.type "list",data:=.seq ([]:List Value).toArray },toks:=s.toks }:=I.lnew (t':=s.toks) .nil (zZ _)
 generalize hs3:({ s with heap:=s.heap.push { cls:=.type "list",data:=.seq ([]:List Value).toArray },toks:=s.toks }:Shared)=s3 at I3
 generalize hD:s.heap.objs.size=D at I3 nD
 have st3:tn 0 s3.heap:=by
  subst hs3
  exact T.keep _ _ _ st fun b _ o e=>wD _ e
 have fD:∀ b∈fp,b≠D:=fun b hb z=>by
  obtain ⟨o,ho,_⟩:=T.obj _ _ st b hb
  exact absurd (zN ho) (by rw [hD,z]; exact vY _)
 have hf3:∀ b∈fp,qCQ X pins (upd H D (.lst [])) b:=fun b hb=>⟨by rw [qS (fD b hb)]; exact (hf b hb).1,(hf b hb).2⟩
 obtain ⟨W,⟨m0,w0⟩,turn⟩:=body D nD
 refine qB2 fun h4 B4=>?_
 have keep4:=B4.keep
 have far:∀ b∈fp,∀ x c,(qf s3.heap.objs.size scope++cl).lookup x=some c->c≠b:=fun b hb x c e=>by
  obtain ⟨o,ho,_⟩:=T.obj _ _ st3 b hb
  exact qBM B4 ho e fun z=>(hf b hb).2.2.2.2.1 x c (hcl x c z)
 generalize hs4:({ s3 with heap:=h4,toks:=s3.toks }:Shared)=s4
 have I4:Inv (qv X (own++fr.map (·.1)) scope (qf s3.heap.objs.size scope++cl) s3.heap.objs.size s3 (upd H D (.lst [])) fp) [] (jC own fr σ) (upd H D (.lst [])) s4:=by
  subst hs4
  exact qDE S I3 hcl hcs hf3 (fun b hb=>let ⟨o,e,_⟩:=T.obj _ _ st3 b hb; ⟨o,e⟩) B4
 have st4:tn 0 s4.heap:=by
  subst hs4
  exact T.keep _ _ _ st3 fun b _ o e=>keep4 b o e
 have Cne:s3.heap.objs.size≠X.env.locals:=gG I3.lt
 generalize hcl2:qf s3.heap.objs.size scope++cl=cl2 at I4 far
 generalize hC:s3.heap.objs.size=C at I4 Cne
 obtain ⟨pG,pF,pE⟩:=hB cl2 C s3 (upd H D (.lst []))
 generalize hY:qv X (own++fr.map (·.1)) scope cl2 C s3 (upd H D (.lst [])) fp=Y at I4 pG pF pE
 have yP:Y.prog=X.prog:=by rw [<- hY]; rfl
 have yw:Y.w=X.w:=by rw [<- hY]; rfl
 have yK:Y.K=X.K:=by rw [<- hY]; rfl
 have yA:Y.A=X.A:=by rw [<- hY]; rfl
 have yc:Y.calm=true:=by rw [<- hY]; exact hc
 have yx:Y.xe=fun _ _=>False:=by rw [<- hY]; rfl
 have yfs:Y.fs=frs X.stack:=by rw [<- hY]; rfl
 have yex:Y.ex=fp:=by rw [<- hY]; rfl
 have yH:Y.H₀=upd H D (.lst []):=by rw [<- hY]; rfl
 have ys:Y.s₀=s3:=by rw [<- hY]; rfl
 have yl:Y.env.locals=C:=by rw [<- hY]; rfl
 have ypn:Y.pn=[]:=by rw [<- hY]; rfl
 have ycl:Y.env.cells=cl2:=by rw [<- hY]; rfl
 have yenv:Y.env=compEnvC scope cl2 C X.env:=by rw [<- hY]; rfl
 have e5:{ (newEnv scope C X.env.globals cl2 X.env.qual none .none (some X.env) builtinsNs:Env) with scope:=relabel scope X.env } = Y.env:=by rw [yenv]; rfl
 have hCe:(newEnv scope C X.env.globals cl2 X.env.qual none .none (some X.env) builtinsNs:Env).locals=C:=rfl
 have fpY:∀{H':Hp},(∀ b∈fp,H' b=none)->∀ b∈fp,qCQ Y [] H' b:=fun hn b hb=>by
  obtain ⟨o,ho,_⟩:=T.obj _ _ st3 b hb
  have hlt:=zN ho
  refine ⟨hn b hb,?_,?_,.inl (by rw [yex]; exact hb),fun x c e=>?_,fun p hp=>?_⟩
  ·rw [yl,<- hC]; exact yE hlt
  ·rw [yfs]
   intro z
   obtain ⟨_,f1,f2,_⟩:=hf b hb
   rcases wM.mp (I.stkSub b z) with e | e
   ·exact f1 e
   ·exact f2 e
  ·rw [ycl] at e
   exact far b hb x c e
  ·rw [ypn] at hp
   cases hp
 have main:codeAny (model X.prog X.w) X.A (.compLoop (.ListComp elt [⟨tg,iter,ifs,0⟩] scope pos) 0 (.ref it) (.ref D) Y.env) (RR (.ref D) C) s4:=by
  refine qCG (fun n s'=>∃ i ys σ' H',Inv Y [] σ' H' s'/\tn i s'.heap/\(∀ b∈fp,H' b=none)/\W i n ys σ' H') ?_ m0 ⟨0,[],_,_,I4,st4,fun b hb=>(hf3 b hb).1,w0⟩
  rintro n s5 ⟨i,ys5,σ5,H5,I5,st5,fr5,w5⟩
  obtain ⟨hD5,hw⟩:=turn i n ys5 σ5 H5 w5
  rcases hw with ⟨stop,q⟩ | ⟨go,hz,N,hN,step⟩
  ·have:=T.done Y yP yw yK yc i [] s5 σ5 H5 (fun _ _=>False) I5 (fpY fr5) st5 stop
   rw [yA] at this
   refine thn this fun r s6 ⟨hr,I6⟩=>?_
   subst hr
   have I7:Inv X pins σ H5 s6:=by
    refine I3.call' (ch:=fp) (H':=H5) ?_ ?_ ?_ I6.bare fun b hb=>?_
    ·rw [<- ys]; exact I6.os
    ·have:=I6.base
     rw [yfs,yex,yH,ys] at this
     exact this
    ·have:=I6.hok
     rw [yP,yw] at this
     exact this
    ·obtain ⟨_,f1,_,f3,f4,f5⟩:=hf b hb
     exact ⟨f3,f1,f4,f5⟩
   obtain ⟨mC,hnC,_⟩:=I6.loc
   rw [yl] at hnC
   refine hR D C s6 H5 I7 q Cne ⟨mC,hnC⟩ ?_ ?_
   ·refine I3.fpOk (by rw [hC]; exact wO _) ?_
    have:=I6.free
    rw [yl] at this
    exact this
   ·obtain ⟨o,_,_,ho,_⟩:=hnC
    exact ⟨o,ho⟩
  ·have h5:=T.item Y yP yw yK yc i [] s5 σ5 H5 (fun _ _=>False) I5 (fpY fr5) st5 go
   rw [yA] at h5
   refine thn h5 fun r s6 ⟨u,hr,h6⟩=>?_
   subst hr
   refine thn h6 fun _ s7 ⟨x,H7,I7,r7,y7,st7,fr7⟩=>?_
   have I7':=I7.pinned (fpY fr7) (T.obj _ _ st7)
   have h8:=pG _ s7 σ5 H7 x u _ I7' r7 (step x H7 y7)
   rw [yP,yw,yA,yx] at h8
   refine thn h8 fun _ s8 ⟨σ8,H8,I8,q8⟩=>?_
   have h9:=pF _ s8 σ8 H8 _ I8 q8
   rw [yP,yw,yA,yx] at h9
   refine thn h9 fun b s9 ⟨H9,I9,q9⟩=>?_
   have again:∀{ys':List V} {σ':St} {H':Hp} {s':Shared},Inv Y ([]++Yg fp s7.heap) σ' H' s'->N ys' σ' H'->∃ m,m<n/\∃ i ys σ' H',Inv Y [] σ' H' s'/\tn i s'.heap/\(∀ b∈fp,H' b=none)/\W i m ys σ' H':=fun {ys' σ' H' s'} I' n'=>by
    obtain ⟨m',hm,w'⟩:=hN ys' σ' H' n'
    refine ⟨m',hm,i+1,ys',σ',H',I'.unpinned,T.keep _ _ _ st7 fun b hb o e=>(I'.pin (b,o) (zK _ (zK _ (jj hb e)))).1,fun b hb=>?_,w'⟩
    obtain ⟨o,e,d⟩:=T.obj _ _ st7 b hb
    exact (I'.pin (b,o) (zK _ (zK _ (jj hb e)))).2.1
   cases b with
   | false=>
    simp only [xM,if_false] at q9 ⊢
    exact again I9 q9
   | true=>
    simp only [if_true] at q9 ⊢
    have h10:=pE _ s9 σ8 H9 _ I9 q9
    rw [yP,yw,yA,yx] at h10
    refine thn h10 fun y s10 ⟨z,H10,I10,r10,hD10,n10⟩=>?_
    have h11:=YQ (X:=Y) _ s10 σ8 H10 (.ref D) [z] (.ref D) [y] (fun _ H'=>N (ys5++[z]) σ8 H') I10 rfl (.cons r10 .nil) ⟨D,ys5,z,rfl,rfl,hD10,hz,n10⟩
    rw [yP,yw,yA,yx] at h11
    refine thn h11 fun _ s11 ⟨_,H11,I11,_,n11⟩=>?_
    exact again I11 n11
 have start:codeAny (model X.prog X.w) X.A (.compStart (.ListComp elt [⟨tg,iter,ifs,0⟩] scope pos) 0 (.ref it) (.ref D) Y.env) (RR (.ref D) C) s4:=
  codeAny_compStart_list main (T.self X.A 0 s4 _ _ st4 main)
 have goal:codeAny (model X.prog X.w) X.A (.compStart (.ListComp elt [⟨tg,iter,ifs,0⟩] scope pos) 0 (.ref it) (.ref D) { (newEnv scope C X.env.globals cl2 X.env.qual none .none (some X.env) builtinsNs:Env) with scope:=relabel scope X.env }) (RR (.ref D) (newEnv scope C X.env.globals cl2 X.env.qual none .none (some X.env) builtinsNs:Env).locals) s4:=by
  rw [e5,hCe]; exact start
 subst hC hD
 exact goal
end
section
variable {X:Cx}
theorem qc {own:List Str} {fr:List (Str×Nat)} {scope:Scope} {elt tg iter:Expr} {ifs:List Expr} {pos:Pos} {wi:TI} {g:TG} {tt:TT} {te:TE} (hc:X.calm=true) (S:jW X own fr scope) (hi:PI X tg iter wi)
  (hB:∀(cl:List (Str×Addr)) (C:Addr) (s0:Shared) (H0:Hp) (fp:List Addr),PG (qv X (own++fr.map (·.1)) scope cl C s0 H0 fp) tg g/\PF (qv X (own++fr.map (·.1)) scope cl C s0 H0 fp) ifs tt/\PE (qv X (own++fr.map (·.1)) scope cl C s0 H0 fp) elt te)
  (hs:∀ x,foldedSetIterable iter X.env x=pure x:=by intro _; rfl):PE X (.ListComp elt [⟨tg,iter,ifs,0⟩] scope pos) (qEb own fr wi g tt te):=by
 intro pins s σ H Q I h
 obtain ⟨cl,e1,e2,e3⟩:=Jk (S.has I.ok)
 rw [eval_ListComp]
 refine fU (use:=none) rfl hs e1 S.kind S.names (thn (hi pins s σ H _ I h) fun v s1 h1=>thn h1 fun itv s2 h2=>?_)
 obtain ⟨it,fp,tn,J,H2,e,I2,T,st2,f2,body⟩:=h2
 subst e
 refine qDn (Q:=fun D H'=>Q (.ref D) H') (RR:=fun acc C=>compPost (model X.prog X.w) X.A X.xe none (EP X pins σ Q) acc C) hc S I2 e2 e3 T st2 f2 (fun cl' C s0 H0=>hB cl' C s0 H0 fp) body ?_
 intro D C s' H' I' q hne ⟨m,hn⟩ ⟨f0,f1,f2',f3,f4,f5⟩ _
 exact ⟨m,hn,fun h'' hs''=>⟨.ref D,H',I'.turned (it:=C) (t':=s'.toks) (fun b o hb e=>hs''.extBut b o hb e) f0 f1 f3 f4 f5,rfl,q⟩⟩
theorem jS {i:Nat} {x:Str} {pos' spos:Pos} {own:List Str} {fr:List (Str×Nat)} {scope:Scope} {elt tg iter:Expr} {ifs:List Expr} {pos:Pos} {wi:TI} {g:TG} {tt:TT} {te:TE} (hc:X.calm=true)
  (hN:X.N.Nodup) (hi':X.N[i]? = some x) (hx:X.env.scope.names.lookup x=some .local) (S:jW X own fr scope) (hi:PI X tg iter wi)
  (hB:∀(cl:List (Str×Addr)) (C:Addr) (s0:Shared) (H0:Hp) (fp:List Addr),PG (qv X (own++fr.map (·.1)) scope cl C s0 H0 fp) tg g/\PF (qv X (own++fr.map (·.1)) scope cl C s0 H0 fp) ifs tt/\PE (qv X (own++fr.map (·.1)) scope cl C s0 H0 fp) elt te)
  (hs:∀ x,foldedSetIterable iter X.env x=pure x:=by intro _; rfl)
  (hsw:swapsWith (.ListComp elt [⟨tg,iter,ifs,0⟩] scope pos) (some (.Name x pos')) spos.line X.env=pure true:=by rfl):PS X (.Assign [.Name x pos'] (.ListComp elt [⟨tg,iter,ifs,0⟩] scope pos) spos) (qIo (qEb own fr wi g tt te) (qA9 i)):=by
 intro pins s σ H D0 I h
 obtain ⟨cl,e1,e2,e3⟩:=Jk (S.has I.ok)
 have un:=exec_Assign_Name_used _ _ _ _ hsw
 rw [un]
 apply wB
 apply kK
 apply wB
 show wpAny _ X.A (do let _ <- comprehension (.ListComp elt [⟨tg,iter,ifs,0⟩] scope pos) scope X.env _ (newList []) false (eval iter X.env) (some (assign (.Name x pos') X.env))) _ _ s
 refine wB (thn (fU (use:=some (assign (.Name x pos') X.env)) (Q:=fun _ s'=>SP X pins D0 .next s') rfl hs e1 S.kind S.names
  (thn (hi pins s σ H _ I h) fun v s1 h1=>thn h1 fun itv s2 h2=>?_)) fun _ s' hq=>wG (wG hq))
 obtain ⟨it,fp,tn,J,H2,e,I2,T,st2,f2,body⟩:=h2
 subst e
 refine qDn (Q:=fun D H'=>D0.nx (σ.set i (some (.ref D))) H') (RR:=fun acc C=>compPost (model X.prog X.w) X.A X.xe (some (assign (.Name x pos') X.env)) (fun _ s'=>SP X pins D0 .next s') acc C) hc S I2 e2 e3 T st2 f2 (fun cl' C s0 H0=>hB cl' C s0 H0 fp) body ?_
 intro D C s' H' I' q hne ⟨m,hn⟩ ⟨f0,f1,f2',f3,f4,f5⟩ _
 show wpAny _ X.A (assign (.Name x pos') X.env (.ref D)) _ _ s'
 refine wpAny_assign_Name (qBi I' hN hi' (.inl hx) (v:=.ref D) rfl (fun s'' I'' hk=>?_) (.inr hx))
 have hC2:∃ m,s''.heap.Ns C m:=by
  obtain ⟨a,hsb,ha⟩:=hk
  obtain ⟨o,es,ep,ho,r⟩:=hn
  refine ⟨m,o,es,ep,hsb.extBut C o ?_ ho,r⟩
  rcases ha with z | z
  ·rw [z]; exact hne
  ·exact fun e=>f4 x a z e.symm
 obtain ⟨m2,hn2⟩:=hC2
 exact ⟨m2,hn2,fun h'' hs''=>⟨_,H',I''.turned (it:=C) (t':=s''.toks) (fun b o hb e=>hs''.extBut b o hb e) f0 f1 f3 f4 f5,q⟩⟩
end
noncomputable abbrev j6 (elt tg iter:Expr) (ifs:List Expr) (tg1 iter1:Expr) (ifs1:List Expr) (scope:Scope) (pos:Pos):Expr:=.ListComp elt [⟨tg,iter,ifs,0⟩,⟨tg1,iter1,ifs1,0⟩] scope pos
noncomputable abbrev qGs (ifs:List Expr) (env:Env):Sem Bool:=forIn ifs true fun c r=>if r=true then do let ok <- isTrue c env (eval c env); pure (vZ ok) else pure (vZ r)
noncomputable abbrev noR:Value->Shared->Prop:=fun _ _=>False
theorem th0 {α:Type} {t:Sem α} {Q Q':α->Shared->Prop} {M:Model} {A:Around} {E:Value->Shared->Prop} {s:Shared} (h:wpAny M A t Q noR s) (hQ:∀ a s,Q a s->Q' a s):wpAny M A t Q' E s:=uV h hQ fun _ _ x=>x.elim
section
variable {w:World} {prog:Program} {A:Around} {s:Shared} {R:Result->Shared->Prop} {elt tg iter tg1 iter1:Expr} {ifs ifs1:List Expr} {scope:Scope} {pos:Pos} {it acc:Value} {env:Env}
theorem qKi (J:Nat->Shared->Prop)
  (turn:∀ n s,J n s->wpAny (model prog w) A (pyNext it) (fun r s1=>match r with
   | none=>R (.ok .next) s1
   | some v=>wpAny (model prog w) A (letOwnedTupleGo tg1 it v) (fun _ s2=>wpAny (model prog w) A (assign tg1 env v) (fun _ s3=>wpAny (model prog w) A (qGs ifs1 env) (fun ok s4=>
     if ok=true then wpAny (model prog w) A (eval elt env) (fun x s5=>wpAny (model prog w) A (call (.builtin "list.append") [acc,x]) (fun _ s6=>∃ m,m<n/\J m s6) noR s5) noR s4
     else ∃ m,m<n/\J m s4) noR s3) noR s2) noR s1) noR s)
  (n:Nat) (h:J n s):codeAny (model prog w) A (.compLoop (j6 elt tg iter ifs tg1 iter1 ifs1 scope pos) 1 it acc env) R s:=by
 refine codeAny_loop rfl J (fun n s hI=>?_) n h
 refine wpAny_noted (env:=env) (m:=compTurn (j6 elt tg iter ifs tg1 iter1 ifs1 scope pos) 1 it acc env) ?_
 refine wB (kK (wB (th0 (turn n s hI) fun r s1 h1=>?_)))
 cases r with
 | none=>exact wG h1
 | some v=>
  refine wB (th0 h1 fun _ s2 h2=>wB (th0 h2 fun _ s3 h3=>wB (th0 h3 fun ok s4 h4=>?_)))
  cases ok with
  | false=>exact wG ⟨rfl,h4⟩
  | true=>exact wB (wB (th0 h4 fun x s5 h5=>wB (th0 h5 fun _ s6 h6=>wG (wG ⟨rfl,h6⟩))))
theorem qFc (h0:codeAny (model prog w) A (.compLoop (j6 elt tg iter ifs tg1 iter1 ifs1 scope pos) 1 it acc env) R s)
  (h:wpAny (model prog w) A (pyIter it) (fun i s'=>codeAny (model prog w) A (.compLoop (j6 elt tg iter ifs tg1 iter1 ifs1 scope pos) 1 i acc env) R s') noR s) :
  codeAny (model prog w) A (.compStart (j6 elt tg iter ifs tg1 iter1 ifs1 scope pos) 1 it acc env) R s:=by
 refine ZU (wpAny_notedAt (env:=env) (m:=compStart (j6 elt tg iter ifs tg1 iter1 ifs1 scope pos) 1 it acc env) ?_)
 refine wB ?_
 refine VR ?_
 refine wpAny_ite ?_
 split
 ·exact wG ⟨rfl,h0⟩
 ·exact wB (fG (wB (kK (wB (th0 h fun _ _ z=>wG ⟨rfl,z⟩)))))
theorem qJE (J:Nat->Shared->Prop) (hs:∀ x,foldedSetIterable iter1 env x=pure x)
  (turn:∀ n s,J n s->wpAny (model prog w) A (pyNext it) (fun r s1=>match r with
   | none=>R (.ok .next) s1
   | some v=>wpAny (model prog w) A (letOwnedTupleGo tg it v) (fun _ s2=>wpAny (model prog w) A (assign tg env v) (fun _ s3=>wpAny (model prog w) A (qGs ifs env) (fun ok s4=>
     if ok=true then wpAny (model prog w) A (eval iter1 env) (fun x s5=>wpAny (model prog w) A (pyIter x) (fun i s6=>
      codeAny (model prog w) A (.compStart (j6 elt tg iter ifs tg1 iter1 ifs1 scope pos) 1 i acc env) (fun r s7=>(∃ f,r=.ok f)/\∃ m,m<n/\J m s7) s6) noR s5) noR s4
     else ∃ m,m<n/\J m s4) noR s3) noR s2) noR s1) noR s)
  (n:Nat) (h:J n s):codeAny (model prog w) A (.compLoop (j6 elt tg iter ifs tg1 iter1 ifs1 scope pos) 0 it acc env) R s:=by
 refine codeAny_loop rfl J (fun n s hI=>?_) n h
 refine wpAny_noted (env:=env) (m:=compTurn (j6 elt tg iter ifs tg1 iter1 ifs1 scope pos) 0 it acc env) ?_
 refine wB (kK (wB (th0 (turn n s hI) fun r s1 h1=>?_)))
 cases r with
 | none=>exact wG h1
 | some v=>
  refine wB (th0 h1 fun _ s2 h2=>wB (th0 h2 fun _ s3 h3=>wB (th0 h3 fun ok s4 h4=>?_)))
  cases ok with
  | false=>exact wG ⟨rfl,h4⟩
  | true=>
   refine wB (th0 h4 fun x s5 h5=>wB (kK ?_))
   refine wB (m:=foldedSetIterable iter1 env x) (gW (hs x) ?_)
   refine wB (yM (m:=pyIter x) (th0 h5 fun i s6 h6=>wB (wpAny_runOwn (h:=none) ?_)))
   refine kD h6 fun r s7 h7=>?_
   obtain ⟨⟨f,e⟩,h7⟩:=h7
   subst e
   exact wG ⟨rfl,h7⟩
end
noncomputable def qGc (wi:TI) (g:TG) (tt:TT) (te:TE) (D:Addr) (ys:List V) (σ:St) (H:Hp) (N:List V->St->Hp->Prop):Prop:=
 wi σ H fun J H1=>∃ W:Nat->Nat->List V->St->Hp->Prop,(∃ m,W 0 m ys σ H1)/\∀ i m ys σ H,W i m ys σ H->H D=some (.lst ys)/\
  ((J.stop i H/\N ys σ H)\/(J.go i H/\ys.length<sizeLine/\∃ M:List V->St->Hp->Prop,(∀ ys' σ' H',M ys' σ' H'->∃ m',m'<m/\W (i+1) m' ys' σ' H')/\
   ∀ x H',J.yld i H x H'->g x σ H' fun σ2 H2=>tt σ2 H2 fun b H3=>if b=true then te σ2 H3 fun y H4=>H4 D=some (.lst ys)/\M (ys++[y]) σ2 (upd H4 D (.lst (ys++[y]))) else M ys σ2 H3))
noncomputable def qFh (J:It) (g:TG) (tt:TT) (wi1:TI) (g1:TG) (tt1:TT) (te:TE) (σ0:St) (H1:Hp) (D:Addr) (Q:Hp->Prop):Prop:=
 ∃ W:Nat->Nat->List V->St->Hp->Prop,(∃ m,W 0 m [] σ0 (upd H1 D (.lst [])))/\∀ i m ys σ H,W i m ys σ H->H D=some (.lst ys)/\
  ((J.stop i H/\Q H)\/(J.go i H/\∃ N:List V->St->Hp->Prop,(∀ ys' σ' H',N ys' σ' H'->∃ m',m'<m/\W (i+1) m' ys' σ' H')/\
   ∀ x H',J.yld i H x H'->g x σ H' fun σ2 H2=>tt σ2 H2 fun b H3=>if b=true then qGc wi1 g1 tt1 te D ys σ2 H3 N else N ys σ2 H3))
noncomputable def qMp (own:List Str) (fr:List (Str×Nat)) (wi:TI) (g:TG) (tt:TT) (wi1:TI) (g1:TG) (tt1:TT) (te:TE):TE:=fun σ H Q=>wi σ H fun J H1=>∀ D,H1 D=none->qFh J g tt wi1 g1 tt1 te (jC own fr σ) H1 D fun H2=>Q (.ref D) H2
section
variable {X:Cx} {pins:List (Addr×Obj)} {σ:St} {H:Hp} {s:Shared}
theorem qLi {elt tg iter tg1 iter1:Expr} {ifs ifs1:List Expr} {scope:Scope} {pos:Pos} {wi:TI} {g:TG} {tt:TT} {te:TE} {D:Addr} {ys:List V} {N:List V->St->Hp->Prop}
  (hc:X.calm=true) (hx:X.xe=noR) (hi:PI X tg1 iter1 wi) (pG:PG X tg1 g) (pF:PF X ifs1 tt) (pE:PE X elt te) (I:Inv X pins σ H s) (h:qGc wi g tt te D ys σ H N) :
  wpAny (model X.prog X.w) X.A (eval iter1 X.env) (fun v s1=>wpAny (model X.prog X.w) X.A (pyIter v) (fun i s2=>codeAny (model X.prog X.w) X.A (.compStart (j6 elt tg iter ifs tg1 iter1 ifs1 scope pos) 1 i (.ref D) X.env)
   (fun r s3=>(∃ f,r=.ok f)/\∃ ys' σ' H',Inv X pins σ' H' s3/\N ys' σ' H') s2) noR s1) noR s:=by
 have h0:=hi pins s σ H _ I h
 rw [hx] at h0
 refine thn h0 fun v s1 h1=>thn h1 fun itv s2 h2=>?_
 obtain ⟨it,fp,tn,J,H2,e,I2,T,st2,f2,W,⟨m0,w0⟩,turn⟩:=h2
 subst e
 have stat:∀{H':Hp},(∀ b∈fp,H' b=none)->∀ b∈fp,qCQ X pins H' b:=fun hn b hb=>⟨hn b hb,(f2 b hb).2⟩
 have main:codeAny (model X.prog X.w) X.A (.compLoop (j6 elt tg iter ifs tg1 iter1 ifs1 scope pos) 1 (.ref it) (.ref D) X.env) (fun r s3=>(∃ f,r=.ok f)/\∃ ys' σ' H',Inv X pins σ' H' s3/\N ys' σ' H') s2:=by
  refine qKi (fun n s'=>∃ i ys σ' H',Inv X pins σ' H' s'/\tn i s'.heap/\(∀ b∈fp,H' b=none)/\W i n ys σ' H') ?_ m0 ⟨0,ys,σ,H2,I2,st2,fun b hb=>(f2 b hb).1,w0⟩
  rintro n s3 ⟨i,ys3,σ3,H3,I3,st3,fr3,w3⟩
  obtain ⟨hD,hw⟩:=turn i n ys3 σ3 H3 w3
  rcases hw with ⟨stop,q⟩ | ⟨go,hz,M,hM,step⟩
  ·refine thn (T.done X rfl rfl rfl hc i pins s3 σ3 H3 noR I3 (stat fr3) st3 stop) fun r s4 ⟨hr,I4⟩=>?_
   subst hr
   exact ⟨⟨_,rfl⟩,ys3,σ3,H3,I4,q⟩
  ·refine thn (T.item X rfl rfl rfl hc i pins s3 σ3 H3 noR I3 (stat fr3) st3 go) fun r s4 ⟨u,hr,h4⟩=>?_
   subst hr
   refine thn h4 fun _ s5 ⟨x,H5,I5,r5,y5,st5,fr5⟩=>?_
   have I5':=I5.pinned (stat fr5) (T.obj _ _ st5)
   have h6:=pG _ s5 σ3 H5 x u _ I5' r5 (step x H5 y5)
   rw [hx] at h6
   refine thn h6 fun _ s6 ⟨σ6,H6,I6,q6⟩=>?_
   have h7:=pF _ s6 σ6 H6 _ I6 q6
   rw [hx] at h7
   refine thn h7 fun b s7 ⟨H7,I7,q7⟩=>?_
   have again:∀{ys':List V} {σ':St} {H':Hp} {s':Shared},Inv X (pins++Yg fp s5.heap) σ' H' s'->M ys' σ' H'->∃ m,m<n/\∃ i ys σ' H',Inv X pins σ' H' s'/\tn i s'.heap/\(∀ b∈fp,H' b=none)/\W i m ys σ' H':=fun {ys' σ' H' s'} I' n'=>by
    obtain ⟨m',hm,w'⟩:=hM ys' σ' H' n'
    have pin:=fun b hb o e=>I'.pin (b,o) (zK _ (zK _ (jj (fp:=fp) (h:=s5.heap) hb e)))
    refine ⟨m',hm,i+1,ys',σ',H',I'.unpinned,T.keep _ _ _ st5 fun b hb o e=>(pin b hb o e).1,fun b hb=>?_,w'⟩
    obtain ⟨o,e,_⟩:=T.obj _ _ st5 b hb
    exact (pin b hb o e).2.1
   cases b with
   | false=>
    rw [if_neg wQ] at q7 ⊢
    exact again I7 q7
   | true=>
    rw [if_pos rfl] at q7 ⊢
    have h8:=pE _ s7 σ6 H7 _ I7 q7
    rw [hx] at h8
    refine thn h8 fun y s8 ⟨z,H8,I8,r8,hD8,n8⟩=>?_
    have h9:=YQ (X:=X) _ s8 σ6 H8 (.ref D) [z] (.ref D) [y] (fun _ H'=>M (ys3++[z]) σ6 H') I8 rfl (.cons r8 .nil) ⟨D,ys3,z,rfl,rfl,hD8,hz,n8⟩
    rw [hx] at h9
    exact thn h9 fun _ s9 ⟨_,H9,I9,_,n9⟩=>again I9 n9
 exact qFc main (T.self X.A 0 s2 _ _ st2 main)
end
section
variable {X:Cx} {pins:List (Addr×Obj)} {σ:St} {H:Hp} {s:Shared}
theorem qJp {own:List Str} {fr:List (Str×Nat)} {scope:Scope} {cl:List (Str×Addr)} {elt tg iter tg1 iter1:Expr} {ifs ifs1:List Expr} {pos:Pos} {g:TG} {tt:TT} {wi1:TI} {g1:TG} {tt1:TT} {te:TE} {Q:Addr->Hp->Prop} {RR:Value->Addr->Result->Shared->Prop} {E:Value->Shared->Prop}
  {it:Addr} {fp:List Addr} {tn:Nat->Heap->Prop} {J:It}
  (hc:X.calm=true) (S:jW X own fr scope) (I:Inv X pins σ H s) (hcl:∀ x c,cl.lookup x=some c->X.env.cells.lookup x=some c) (hcs:∀ x∈scope.names,x.2=.free->(cl.lookup x.1).isSome=true)
  (T:Turn X.prog X.w X.K tg J fp it tn) (st:tn 0 s.heap) (hf:∀ b∈fp,qCQ X pins H b)
  (hB:∀(cl:List (Str×Addr)) (C:Addr) (s0:Shared) (H0:Hp),PG (qv X (own++fr.map (·.1)) scope cl C s0 H0 fp) tg g/\PF (qv X (own++fr.map (·.1)) scope cl C s0 H0 fp) ifs tt/\PI (qv X (own++fr.map (·.1)) scope cl C s0 H0 fp) tg1 iter1 wi1/\PG (qv X (own++fr.map (·.1)) scope cl C s0 H0 fp) tg1 g1/\PF (qv X (own++fr.map (·.1)) scope cl C s0 H0 fp) ifs1 tt1/\PE (qv X (own++fr.map (·.1)) scope cl C s0 H0 fp) elt te)
  (hs1:∀(env:Env) (x:Value),foldedSetIterable iter1 env x=pure x)
  (body:∀ D,H D=none->qFh J g tt wi1 g1 tt1 te (jC own fr σ) H D (Q D))
  (hR:∀ D C s' H',Inv X pins σ H' s'->Q D H'->C≠X.env.locals->(∃ m,s'.heap.Ns C m)->qCQ X pins H' C->(∃ o,s'.heap.get? C=some o)->RR (.ref D) C (.ok .next) s') :
  wpAny (model X.prog X.w) X.A (newList []) (fun acc s3=>wpAny (model X.prog X.w) X.A (newFunctionEnv scope X.env.globals cl [] X.env.qual none .none (some X.env)) (fun cenv s4=>
   codeAny (model X.prog X.w) X.A (.compStart (j6 elt tg iter ifs tg1 iter1 ifs1 scope pos) 0 (.ref it) acc { cenv with scope:=relabel scope X.env }) (RR acc cenv.locals) s4) E s3) E s:=by
 refine vF ?_
 have nD:H s.heap.objs.size=none:=I.hok.fresh (wO _)
 have I3:Inv X pins σ (upd H s.heap.objs.size (.lst [])) { s with heap:=s.heap.push { cls:=.type "list",data:=.seq ([]:List Value).toArray },toks:=s.toks }:=I.lnew (t':=s.toks) .nil (zZ _)
 generalize hs3:({ s with heap:=s.heap.push { cls:=.type "list",data:=.seq ([]:List Value).toArray },toks:=s.toks }:Shared)=s3 at I3
 generalize hD:s.heap.objs.size=D at I3 nD
 have st3:tn 0 s3.heap:=by
  subst hs3
  exact T.keep _ _ _ st fun b _ o e=>wD _ e
 have fD:∀ b∈fp,b≠D:=fun b hb z=>by
  obtain ⟨o,ho,_⟩:=T.obj _ _ st b hb
  exact absurd (zN ho) (by rw [hD,z]; exact vY _)
 have hf3:∀ b∈fp,qCQ X pins (upd H D (.lst [])) b:=fun b hb=>⟨by rw [qS (fD b hb)]; exact (hf b hb).1,(hf b hb).2⟩
 obtain ⟨W,⟨m0,w0⟩,turn⟩:=body D nD
 refine qB2 fun h4 B4=>?_
 have keep4:=B4.keep
 have far:∀ b∈fp,∀ x c,(qf s3.heap.objs.size scope++cl).lookup x=some c->c≠b:=fun b hb x c e=>by
  obtain ⟨o,ho,_⟩:=T.obj _ _ st3 b hb
  exact qBM B4 ho e fun z=>(hf b hb).2.2.2.2.1 x c (hcl x c z)
 generalize hs4:({ s3 with heap:=h4,toks:=s3.toks }:Shared)=s4
 have I4:Inv (qv X (own++fr.map (·.1)) scope (qf s3.heap.objs.size scope++cl) s3.heap.objs.size s3 (upd H D (.lst [])) fp) [] (jC own fr σ) (upd H D (.lst [])) s4:=by
  subst hs4
  exact qDE S I3 hcl hcs hf3 (fun b hb=>let ⟨o,e,_⟩:=T.obj _ _ st3 b hb; ⟨o,e⟩) B4
 have st4:tn 0 s4.heap:=by
  subst hs4
  exact T.keep _ _ _ st3 fun b _ o e=>keep4 b o e
 have Cne:s3.heap.objs.size≠X.env.locals:=gG I3.lt
 generalize hcl2:qf s3.heap.objs.size scope++cl=cl2 at I4 far
 generalize hC:s3.heap.objs.size=C at I4 Cne
 obtain ⟨pG,pF,pI1,pG1,pF1,pE⟩:=hB cl2 C s3 (upd H D (.lst []))
 generalize hY:qv X (own++fr.map (·.1)) scope cl2 C s3 (upd H D (.lst [])) fp=Y at I4 pG pF pI1 pG1 pF1 pE
 have yP:Y.prog=X.prog:=by rw [<- hY]; rfl
 have yw:Y.w=X.w:=by rw [<- hY]; rfl
 have yK:Y.K=X.K:=by rw [<- hY]; rfl
 have yA:Y.A=X.A:=by rw [<- hY]; rfl
 have yc:Y.calm=true:=by rw [<- hY]; exact hc
 have yx:Y.xe=fun _ _=>False:=by rw [<- hY]; rfl
 have yfs:Y.fs=frs X.stack:=by rw [<- hY]; rfl
 have yex:Y.ex=fp:=by rw [<- hY]; rfl
 have yH:Y.H₀=upd H D (.lst []):=by rw [<- hY]; rfl
 have ys:Y.s₀=s3:=by rw [<- hY]; rfl
 have yl:Y.env.locals=C:=by rw [<- hY]; rfl
 have ypn:Y.pn=[]:=by rw [<- hY]; rfl
 have ycl:Y.env.cells=cl2:=by rw [<- hY]; rfl
 have yenv:Y.env=compEnvC scope cl2 C X.env:=by rw [<- hY]; rfl
 have e5:{ (newEnv scope C X.env.globals cl2 X.env.qual none .none (some X.env) builtinsNs:Env) with scope:=relabel scope X.env } = Y.env:=by rw [yenv]; rfl
 have hCe:(newEnv scope C X.env.globals cl2 X.env.qual none .none (some X.env) builtinsNs:Env).locals=C:=rfl
 have fpY:∀{H':Hp},(∀ b∈fp,H' b=none)->∀ b∈fp,qCQ Y [] H' b:=fun hn b hb=>by
  obtain ⟨o,ho,_⟩:=T.obj _ _ st3 b hb
  have hlt:=zN ho
  refine ⟨hn b hb,?_,?_,.inl (by rw [yex]; exact hb),fun x c e=>?_,fun p hp=>?_⟩
  ·rw [yl,<- hC]; exact yE hlt
  ·rw [yfs]
   intro z
   obtain ⟨_,f1,f2,_⟩:=hf b hb
   rcases wM.mp (I.stkSub b z) with e | e
   ·exact f1 e
   ·exact f2 e
  ·rw [ycl] at e
   exact far b hb x c e
  ·rw [ypn] at hp
   cases hp
 have main:codeAny (model X.prog X.w) X.A (.compLoop (j6 elt tg iter ifs tg1 iter1 ifs1 scope pos) 0 (.ref it) (.ref D) Y.env) (RR (.ref D) C) s4:=by
  refine qJE (fun n s'=>∃ i ys σ' H',Inv Y [] σ' H' s'/\tn i s'.heap/\(∀ b∈fp,H' b=none)/\W i n ys σ' H') (hs1 _) ?_ m0 ⟨0,[],_,_,I4,st4,fun b hb=>(hf3 b hb).1,w0⟩
  rintro n s5 ⟨i,ys5,σ5,H5,I5,st5,fr5,w5⟩
  obtain ⟨hD5,hw⟩:=turn i n ys5 σ5 H5 w5
  rcases hw with ⟨stop,q⟩ | ⟨go,N,hN,step⟩
  ·have:=T.done Y yP yw yK yc i [] s5 σ5 H5 (fun _ _=>False) I5 (fpY fr5) st5 stop
   rw [yA] at this
   refine thn this fun r s6 ⟨hr,I6⟩=>?_
   subst hr
   have I7:Inv X pins σ H5 s6:=by
    refine I3.call' (ch:=fp) (H':=H5) ?_ ?_ ?_ I6.bare fun b hb=>?_
    ·rw [<- ys]; exact I6.os
    ·have:=I6.base
     rw [yfs,yex,yH,ys] at this
     exact this
    ·have:=I6.hok
     rw [yP,yw] at this
     exact this
    ·obtain ⟨_,f1,_,f3,f4,f5⟩:=hf b hb
     exact ⟨f3,f1,f4,f5⟩
   obtain ⟨mC,hnC,_⟩:=I6.loc
   rw [yl] at hnC
   refine hR D C s6 H5 I7 q Cne ⟨mC,hnC⟩ ?_ ?_
   ·refine I3.fpOk (by rw [hC]; exact wO _) ?_
    have:=I6.free
    rw [yl] at this
    exact this
   ·obtain ⟨o,_,_,ho,_⟩:=hnC
    exact ⟨o,ho⟩
  ·have h5:=T.item Y yP yw yK yc i [] s5 σ5 H5 (fun _ _=>False) I5 (fpY fr5) st5 go
   rw [yA] at h5
   refine thn h5 fun r s6 ⟨u,hr,h6⟩=>?_
   subst hr
   refine thn h6 fun _ s7 ⟨x,H7,I7,r7,y7,st7,fr7⟩=>?_
   have I7':=I7.pinned (fpY fr7) (T.obj _ _ st7)
   have h8:=pG _ s7 σ5 H7 x u _ I7' r7 (step x H7 y7)
   rw [yP,yw,yA,yx] at h8
   refine thn h8 fun _ s8 ⟨σ8,H8,I8,q8⟩=>?_
   have h9:=pF _ s8 σ8 H8 _ I8 q8
   rw [yP,yw,yA,yx] at h9
   refine thn h9 fun b s9 ⟨H9,I9,q9⟩=>?_
   have again:∀{ys':List V} {σ':St} {H':Hp} {s':Shared},Inv Y ([]++Yg fp s7.heap) σ' H' s'->N ys' σ' H'->∃ m,m<n/\∃ i ys σ' H',Inv Y [] σ' H' s'/\tn i s'.heap/\(∀ b∈fp,H' b=none)/\W i m ys σ' H':=fun {ys' σ' H' s'} I' n'=>by
    obtain ⟨m',hm,w'⟩:=hN ys' σ' H' n'
    refine ⟨m',hm,i+1,ys',σ',H',I'.unpinned,T.keep _ _ _ st7 fun b hb o e=>(I'.pin (b,o) (zK _ (zK _ (jj hb e)))).1,fun b hb=>?_,w'⟩
    obtain ⟨o,e,d⟩:=T.obj _ _ st7 b hb
    exact (I'.pin (b,o) (zK _ (zK _ (jj hb e)))).2.1
   cases b with
   | false=>
    simp only [xM,if_false] at q9 ⊢
    exact again I9 q9
   | true=>
    simp only [if_true] at q9 ⊢
    have h10:=qLi (elt:=elt) (tg:=tg) (iter:=iter) (ifs:=ifs) (scope:=scope) (pos:=pos) yc yx pI1 pG1 pF1 pE I9 q9
    rw [yP,yw,yA] at h10
    exact thn h10 fun v s10 h11=>thn h11 fun i s11 h12=>kD h12 fun r s12 ⟨hr,ys',σ',H',I',n'⟩=>⟨hr,again I' n'⟩
 have start:codeAny (model X.prog X.w) X.A (.compStart (j6 elt tg iter ifs tg1 iter1 ifs1 scope pos) 0 (.ref it) (.ref D) Y.env) (RR (.ref D) C) s4:=
  codeAny_compStart_list main (T.self X.A 0 s4 _ _ st4 main)
 have goal:codeAny (model X.prog X.w) X.A (.compStart (j6 elt tg iter ifs tg1 iter1 ifs1 scope pos) 0 (.ref it) (.ref D) { (newEnv scope C X.env.globals cl2 X.env.qual none .none (some X.env) builtinsNs:Env) with scope:=relabel scope X.env }) (RR (.ref D) (newEnv scope C X.env.globals cl2 X.env.qual none .none (some X.env) builtinsNs:Env).locals) s4:=by
  rw [e5,hCe]; exact start
 subst hC hD
 exact goal
end
section
variable {X:Cx}
theorem qK6 {own:List Str} {fr:List (Str×Nat)} {scope:Scope} {elt tg iter tg1 iter1:Expr} {ifs ifs1:List Expr} {pos:Pos} {wi:TI} {g:TG} {tt:TT} {wi1:TI} {g1:TG} {tt1:TT} {te:TE} (hc:X.calm=true) (S:jW X own fr scope) (hi:PI X tg iter wi)
  (hB:∀(cl:List (Str×Addr)) (C:Addr) (s0:Shared) (H0:Hp) (fp:List Addr),PG (qv X (own++fr.map (·.1)) scope cl C s0 H0 fp) tg g/\PF (qv X (own++fr.map (·.1)) scope cl C s0 H0 fp) ifs tt/\PI (qv X (own++fr.map (·.1)) scope cl C s0 H0 fp) tg1 iter1 wi1/\PG (qv X (own++fr.map (·.1)) scope cl C s0 H0 fp) tg1 g1/\PF (qv X (own++fr.map (·.1)) scope cl C s0 H0 fp) ifs1 tt1/\PE (qv X (own++fr.map (·.1)) scope cl C s0 H0 fp) elt te)
  (hs1:∀(env:Env) (x:Value),foldedSetIterable iter1 env x=pure x:=by intro _ _; rfl)
  (hs:∀ x,foldedSetIterable iter X.env x=pure x:=by intro _; rfl):PE X (j6 elt tg iter ifs tg1 iter1 ifs1 scope pos) (qMp own fr wi g tt wi1 g1 tt1 te):=by
 intro pins s σ H Q I h
 obtain ⟨cl,e1,e2,e3⟩:=Jk (S.has I.ok)
 rw [eval_ListComp]
 refine fU (use:=none) rfl hs e1 S.kind S.names (thn (hi pins s σ H _ I h) fun v s1 h1=>thn h1 fun itv s2 h2=>?_)
 obtain ⟨it,fp,tn,J,H2,e,I2,T,st2,f2,body⟩:=h2
 subst e
 refine qJp (Q:=fun D H'=>Q (.ref D) H') (RR:=fun acc C=>compPost (model X.prog X.w) X.A X.xe none (EP X pins σ Q) acc C) hc S I2 e2 e3 T st2 f2 (fun cl' C s0 H0=>hB cl' C s0 H0 fp) hs1 body ?_
 intro D C s' H' I' q hne ⟨m,hn⟩ ⟨f0,f1,f2',f3,f4,f5⟩ _
 exact ⟨m,hn,fun h'' hs''=>⟨.ref D,H',I'.turned (it:=C) (t':=s'.toks) (fun b o hb e=>hs''.extBut b o hb e) f0 f1 f3 f4 f5,rfl,q⟩⟩
end
inductive D where
 | non | bl (b:Bool) | int (i:Int) | str (x:Str) | tup (l:List D) | lst (l:List D) | dic
mutual
noncomputable def Den (H:Hp):D->V->Prop
 | .non,v=>v=.non
 | .bl b,v=>v=.bl b
 | .int i,v=>v=.int i
 | .str x,v=>v=.str x
 | .tup l,v=>∃ a xs,v=.ref a/\H a=some (.tup xs)/\qY H l xs
 | .lst l,v=>∃ a xs,v=.ref a/\H a=some (.lst xs)/\qY H l xs
 | .dic,v=>∃ a kvs,v=.ref a/\H a=some (.dK kvs)
noncomputable def qY (H:Hp):List D->List V->Prop
 | [],xs=>xs=[]
 | d::l,xs=>∃ x r,xs=x::r/\Den H d x/\qY H l r
end
mutual
noncomputable def dEq:D->D->Bool
 | .non,.non=>true
 | .bl a,.bl b=>a == b
 | .bl a,.int b=>(if a then 1 else 0) == b
 | .int a,.bl b=>a == (if b then 1 else 0)
 | .int a,.int b=>a == b
 | .str a,.str b=>a == b
 | .tup l,.tup m=>QY l m
 | .lst l,.lst m=>QY l m
 | .dic,.dic=>true
 | _,_=>false
noncomputable def QY:List D->List D->Bool
 | [],[]=>true
 | d::l,e::m=>dEq d e && QY l m
 | _,_=>false
end
mutual
noncomputable def qs:D->Nat
 | .tup l=>qL l+1
 | .lst l=>qL l+1
 | .dic=>cLine
 | _=>0
noncomputable def qL:List D->Nat
 | []=>0
 | d::l=>max (qs d) (qL l)
end
mutual
theorem Den.mono {H H':Hp} (e:qX H H'):∀(d:D) (v:V),Den H d v->Den H' d v
 | .non,v,h=>h
 | .bl _,v,h=>h
 | .int _,v,h=>h
 | .str _,v,h=>h
 | .tup l,v,h=>by
  obtain ⟨a,xs,r,h1,h2⟩:=h
  exact ⟨a,xs,r,e _ _ h1,qY.mono e l xs h2⟩
 | .lst l,v,h=>by
  obtain ⟨a,xs,r,h1,h2⟩:=h
  exact ⟨a,xs,r,e _ _ h1,qY.mono e l xs h2⟩
 | .dic,v,h=>by
  obtain ⟨a,xs,r,h1⟩:=h
  exact ⟨a,xs,r,e _ _ h1⟩
theorem qY.mono {H H':Hp} (e:qX H H'):∀(l:List D) (xs:List V),qY H l xs->qY H' l xs
 | [],xs,h=>h
 | d::l,xs,h=>by
  obtain ⟨x,r,h0,h1,h2⟩:=h
  exact ⟨x,r,h0,Den.mono e d x h1,qY.mono e l r h2⟩
end
theorem qY.length {H:Hp}:∀{l:List D} {xs:List V},qY H l xs->xs.length=l.length
 | [],xs,h=>by
  have h':xs=[]:=h
  subst h'; rfl
 | d::l,xs,h=>by
  obtain ⟨x,r,h0,h1,h2⟩:=h
  subst h0
  rw [yG,yG,qY.length h2]
theorem qY.get {H:Hp}:∀{l:List D} {xs:List V} {i:Nat} {x:V},qY H l xs->xs[i]? = some x->∃ d,l[i]? = some d/\Den H d x
 | [],xs,i,x,h,e=>by
  have h':xs=[]:=h
  subst h'; simp at e
 | d::l,xs,i,x,h,e=>by
  obtain ⟨y,r,h0,h1,h2⟩:=h
  subst h0
  cases i with
  | zero=>simp at e; subst e; exact ⟨d,rfl,h1⟩
  | succ i=>
   obtain ⟨d',g1,g2⟩:=qY.get h2 (by simpa using e:r[i]? = some x)
   exact ⟨d',by simpa using g1,g2⟩
theorem qY.get' {H:Hp} {l:List D} {xs:List V} {i:Nat} {d:D} (h:qY H l xs) (e:l[i]? = some d):∃ x,xs[i]? = some x/\Den H d x:=by
 have hi:i<xs.length:=by rw [h.length]; exact (wI.mp e).1
 obtain ⟨d',g1,g2⟩:=h.get (wA hi)
 rw [e] at g1
 cases g1
 exact ⟨_,wA hi,g2⟩
theorem qY.append {H:Hp}:∀{l m:List D} {xs ys:List V},qY H l xs->qY H m ys->qY H (l++m) (xs++ys)
 | [],m,xs,ys,h,g=>by
  have h':xs=[]:=h
  subst h'; exact g
 | d::l,m,xs,ys,h,g=>by
  obtain ⟨y,r,h0,h1,h2⟩:=h
  subst h0
  exact ⟨y,r++ys,rfl,h1,qY.append h2 g⟩
theorem qY.snoc {H:Hp} {l:List D} {xs:List V} {d:D} {x:V} (h:qY H l xs) (g:Den H d x):qY H (l++[d]) (xs++[x]):=h.append ⟨x,[],rfl,g,rfl⟩
theorem qY.ints (H:Hp):∀(ns:List Int),qY H (ns.map D.int) (ns.map V.int)
 | []=>rfl
 | n::ns=>⟨.int n,_,rfl,rfl,qY.ints H ns⟩
theorem qY.ints_eq {H:Hp}:∀{ns:List Int} {xs:List V},qY H (ns.map D.int) xs->xs=ns.map V.int
 | [],xs,h=>h
 | n::ns,xs,h=>by
  obtain ⟨y,r,h0,h1,h2⟩:=h
  subst h0
  have h1':y=.int n:=h1
  subst h1'
  rw [qY.ints_eq h2,uW]
theorem qAm:∀{l:List D} {j:Nat} {d:D},l[j]? = some d->qs d<=qL l
 | [],_,_,h=>by simp at h
 | c::l,0,d,h=>by
  simp at h
  subst h
  exact Nat.le_max_left _ _
 | c::l,j+1,d,h=>zO (qAm (l:=l) (j:=j) (by simpa using h)) (Nat.le_max_right _ _)
noncomputable def qHv (l m:List D) (j:Nat):Bool:=match l[j]?,m[j]? with | some d,some e=>dEq d e | _,_=>false
theorem qCf {l m:List D} {j:Nat} {d e:D} (h1:l[j]? = some d) (h2:m[j]? = some e):qHv l m j=dEq d e:=by
 unfold qHv
 rw [h1,h2]
theorem jk:∀(l m:List D),l.length=m.length->(wV l.length).all (qHv l m)=QY l m
 | [],[],_=>by simp [QY]
 | [],_::_,h=>by simp at h
 | _::_,[],h=>by simp at h
 | d::l,e::m,h=>by
  have ih:=jk l m (by simpa using h)
  rw [yG,List.range_succ_eq_map,List.all_cons,gH]
  unfold QY
  rw [<- ih]
  rfl
theorem Qe:∀(l m:List D),l.length≠m.length->QY l m=false
 | [],[],h=>absurd rfl h
 | [],_::_,_=>by simp [QY]
 | _::_,[],_=>by simp [QY]
 | d::l,e::m,h=>by
  unfold QY
  rw [Qe l m (by simpa using h),UK]
mutual
theorem qA2:∀ d:D,dEq d d=true
 | .non=>rfl
 | .bl b=>by simp [dEq]
 | .int i=>by simp [dEq]
 | .str x=>by simp [dEq]
 | .tup l=>by simp only [dEq]; exact Qp l
 | .lst l=>by simp only [dEq]; exact Qp l
 | .dic=>by simp [dEq]
theorem Qp:∀ l:List D,QY l l=true
 | []=>by simp [QY]
 | d::l=>by simp only [QY]; rw [qA2 d,Qp l]; rfl
end
mutual
noncomputable def nb:D->Bool
 | .bl _=>false
 | .tup l=>nbs l
 | .lst l=>nbs l
 | _=>true
noncomputable def nbs:List D->Bool
 | []=>true
 | d::l=>nb d && nbs l
end
mutual
theorem qLP:∀(d e:D),nb d=true->nb e=true->dEq d e=true->d=e
 | .non,e,h1,h2,h=>by cases e <;> simp [dEq,nb] at * 
 | .bl b,e,h1,h2,h=>by simp [nb] at h1
 | .int i,e,h1,h2,h=>by cases e <;> simp [dEq,nb] at * ; exact h
 | .str x,e,h1,h2,h=>by cases e <;> simp [dEq,nb] at * ; exact h
 | .tup l,e,h1,h2,h=>by
  cases e <;> simp only [dEq,nb,xM] at *
  rw [qCX l _ h1 h2 h]
 | .lst l,e,h1,h2,h=>by
  cases e <;> simp only [dEq,nb,xM] at *
  rw [qCX l _ h1 h2 h]
 | .dic,e,h1,h2,h=>by cases e <;> simp [dEq,nb] at *
theorem qCX:∀(l m:List D),nbs l=true->nbs m=true->QY l m=true->l=m
 | [],[],_,_,_=>rfl
 | [],_::_,_,_,h=>by simp [QY] at h
 | _::_,[],_,_,h=>by simp [QY] at h
 | d::l,e::m,h1,h2,h=>by
  simp only [nbs,QY,zX] at h1 h2 h
  rw [qLP d e h1.1 h2.1 h.1,qCX l m h1.2 h2.2 h.2]
end
mutual
theorem Den.inj {H:Hp}:∀(d e:D) (x:V),Den H d x->Den H e x->d=e
 | .non,e,x,h,g=>by
  cases (show x=.non from h)
  cases e with
  | non=>rfl
  | bl b=>exact nomatch (show V.non=.bl b from g)
  | int b=>exact nomatch (show V.non=.int b from g)
  | str b=>exact nomatch (show V.non=.str b from g)
  | tup m=>obtain ⟨_,_,z,_⟩:=g; cases z
  | lst m=>obtain ⟨_,_,z,_⟩:=g; cases z
  | dic=>obtain ⟨_,_,z,_⟩:=g; cases z
 | .bl c,e,x,h,g=>by
  cases (show x=.bl c from h)
  cases e with
  | non=>exact nomatch (show V.bl c=.non from g)
  | bl b=>cases (show V.bl c=.bl b from g); rfl
  | int b=>exact nomatch (show V.bl c=.int b from g)
  | str b=>exact nomatch (show V.bl c=.str b from g)
  | tup m=>obtain ⟨_,_,z,_⟩:=g; cases z
  | lst m=>obtain ⟨_,_,z,_⟩:=g; cases z
  | dic=>obtain ⟨_,_,z,_⟩:=g; cases z
 | .int c,e,x,h,g=>by
  cases (show x=.int c from h)
  cases e with
  | non=>exact nomatch (show V.int c=.non from g)
  | bl b=>exact nomatch (show V.int c=.bl b from g)
  | int b=>cases (show V.int c=.int b from g); rfl
  | str b=>exact nomatch (show V.int c=.str b from g)
  | tup m=>obtain ⟨_,_,z,_⟩:=g; cases z
  | lst m=>obtain ⟨_,_,z,_⟩:=g; cases z
  | dic=>obtain ⟨_,_,z,_⟩:=g; cases z
 | .str c,e,x,h,g=>by
  cases (show x=.str c from h)
  cases e with
  | non=>exact nomatch (show V.str c=.non from g)
  | bl b=>exact nomatch (show V.str c=.bl b from g)
  | int b=>exact nomatch (show V.str c=.int b from g)
  | str b=>cases (show V.str c=.str b from g); rfl
  | tup m=>obtain ⟨_,_,z,_⟩:=g; cases z
  | lst m=>obtain ⟨_,_,z,_⟩:=g; cases z
  | dic=>obtain ⟨_,_,z,_⟩:=g; cases z
 | .tup l,e,x,h,g=>by
  obtain ⟨a,xs,rfl,h1,h2⟩:=h
  cases e with
  | non=>exact nomatch (show V.ref a=.non from g)
  | bl b=>exact nomatch (show V.ref a=.bl b from g)
  | int b=>exact nomatch (show V.ref a=.int b from g)
  | str b=>exact nomatch (show V.ref a=.str b from g)
  | tup m=>
   obtain ⟨b,ys,z,g1,g2⟩:=g
   cases z
   rw [h1] at g1
   cases g1
   rw [qY.inj l m xs h2 g2]
  | lst m=>
   obtain ⟨b,ys,z,g1,g2⟩:=g
   cases z
   rw [h1] at g1
   cases g1
  | dic=>
   obtain ⟨b,ys,z,g1⟩:=g
   cases z
   rw [h1] at g1
   cases g1
 | .lst l,e,x,h,g=>by
  obtain ⟨a,xs,rfl,h1,h2⟩:=h
  cases e with
  | non=>exact nomatch (show V.ref a=.non from g)
  | bl b=>exact nomatch (show V.ref a=.bl b from g)
  | int b=>exact nomatch (show V.ref a=.int b from g)
  | str b=>exact nomatch (show V.ref a=.str b from g)
  | tup m=>
   obtain ⟨b,ys,z,g1,g2⟩:=g
   cases z
   rw [h1] at g1
   cases g1
  | lst m=>
   obtain ⟨b,ys,z,g1,g2⟩:=g
   cases z
   rw [h1] at g1
   cases g1
   rw [qY.inj l m xs h2 g2]
  | dic=>
   obtain ⟨b,ys,z,g1⟩:=g
   cases z
   rw [h1] at g1
   cases g1
 | .dic,e,x,h,g=>by
  obtain ⟨a,xs,rfl,h1⟩:=h
  cases e with
  | non=>exact nomatch (show V.ref a=.non from g)
  | bl b=>exact nomatch (show V.ref a=.bl b from g)
  | int b=>exact nomatch (show V.ref a=.int b from g)
  | str b=>exact nomatch (show V.ref a=.str b from g)
  | tup m=>
   obtain ⟨b,ys,z,g1,_⟩:=g
   cases z
   rw [h1] at g1
   cases g1
  | lst m=>
   obtain ⟨b,ys,z,g1,_⟩:=g
   cases z
   rw [h1] at g1
   cases g1
  | dic=>rfl
theorem qY.inj {H:Hp}:∀(l m:List D) (xs:List V),qY H l xs->qY H m xs->l=m
 | [],m,xs,h,g=>by
  cases (show xs=[] from h)
  cases m with
  | nil=>rfl
  | cons e m=>obtain ⟨_,_,z,_⟩:=g; cases z
 | d::l,m,xs,h,g=>by
  obtain ⟨x,r,rfl,h1,h2⟩:=h
  cases m with
  | nil=>exact nomatch (show x::r=[] from g)
  | cons e m=>
   obtain ⟨y,r',z,g1,g2⟩:=g
   cases z
   rw [Den.inj d e x h1 g1,qY.inj l m r h2 g2]
end
theorem qY.same_eq {H:Hp} {l m:List D} {xs:List V} (h:qY H l xs) (g:qY H m xs):QY l m=true:=by
 rw [qY.inj l m xs h g]
 exact Qp m
section
variable {X:Cx} {pins:List (Addr×Obj)} {σ:St} {H:Hp} {s:Shared}
mutual
theorem qKD (I:Inv X pins σ H s):∀(d e:D) (A:Around) (x y:V) (u v:Value),Den H d x->Den H e y->RelV x u->RelV y v->A.units+qs d<cLine->A.units+qs e<cLine->gQ A s u v (dEq d e)
 | .non,e,A,x,y,u,v,h1,h2,r1,r2,hu,he=>by
  have h1':x=.non:=h1
  subst h1'
  cases r1
  cases e with
  | non=>cases (show y=.non from h2); cases r2; simp only [dEq]; exact UA _
  | bl b=>cases (show y=.bl b from h2); cases r2; simp only [dEq]; exact SeqAt.EqAt.none_bool b
  | int b=>cases (show y=.int b from h2); obtain ⟨t,rfl⟩:=r2; simp only [dEq]; exact SeqAt.EqAt.none_int b t
  | str b=>cases (show y=.str b from h2); obtain ⟨t,rfl⟩:=r2; simp only [dEq]; exact SeqAt.EqAt.none_str b t
  | tup m=>
   obtain ⟨a,xs,rfl,g1,_⟩:=h2
   cases r2
   obtain ⟨its,_,p,_⟩:=I.tuple (SqT.of (K:=X.K) g1)
   simp only [dEq]
   exact SeqAt.EqAt.none_tuple p (yR (yS _ _) hu)
  | lst m=>
   obtain ⟨a,xs,rfl,g1,_⟩:=h2
   cases r2
   obtain ⟨its,_,p,_⟩:=I.list (SqL.of (K:=X.K) g1)
   simp only [dEq]
   exact SeqAt.EqAt.none_list p.isList (yR (yS _ _) hu)
  | dic=>exact absurd (show A.units+cLine<cLine from he) (by omega)
 | .bl c,e,A,x,y,u,v,h1,h2,r1,r2,hu,he=>by
  have h1':x=.bl c:=h1
  subst h1'
  cases r1
  cases e with
  | non=>cases (show y=.non from h2); cases r2; simp only [dEq]; exact SeqAt.EqAt.bool_none c
  | bl b=>cases (show y=.bl b from h2); cases r2; simp only [dEq]; exact SeqAt.EqAt.bool_bool c b
  | int b=>cases (show y=.int b from h2); obtain ⟨t,rfl⟩:=r2; simp only [dEq]; exact SeqAt.EqAt.bool_int c b t
  | str b=>cases (show y=.str b from h2); obtain ⟨t,rfl⟩:=r2; simp only [dEq]; exact SeqAt.EqAt.bool_str c b t
  | tup m=>
   obtain ⟨a,xs,rfl,g1,_⟩:=h2
   cases r2
   obtain ⟨its,_,p,_⟩:=I.tuple (SqT.of (K:=X.K) g1)
   simp only [dEq]
   exact SeqAt.EqAt.bool_tuple c p (yR (yS _ _) hu)
  | lst m=>
   obtain ⟨a,xs,rfl,g1,_⟩:=h2
   cases r2
   obtain ⟨its,_,p,_⟩:=I.list (SqL.of (K:=X.K) g1)
   simp only [dEq]
   exact SeqAt.EqAt.bool_list c p.isList (yR (yS _ _) hu)
  | dic=>exact absurd (show A.units+cLine<cLine from he) (by omega)
 | .int c,e,A,x,y,u,v,h1,h2,r1,r2,hu,he=>by
  have h1':x=.int c:=h1
  subst h1'
  obtain ⟨t',rfl⟩:=r1
  cases e with
  | non=>cases (show y=.non from h2); cases r2; simp only [dEq]; exact SeqAt.EqAt.int_none c t'
  | bl b=>cases (show y=.bl b from h2); cases r2; simp only [dEq]; exact SeqAt.EqAt.int_bool c t' b
  | int b=>cases (show y=.int b from h2); obtain ⟨t,rfl⟩:=r2; simp only [dEq]; exact SeqAt.EqAt.int_int c t' b t
  | str b=>cases (show y=.str b from h2); obtain ⟨t,rfl⟩:=r2; simp only [dEq]; exact SeqAt.EqAt.int_str c t' b t
  | tup m=>
   obtain ⟨a,xs,rfl,g1,_⟩:=h2
   cases r2
   obtain ⟨its,_,p,_⟩:=I.tuple (SqT.of (K:=X.K) g1)
   simp only [dEq]
   exact SeqAt.EqAt.int_tuple c t' p (yR (yS _ _) hu)
  | lst m=>
   obtain ⟨a,xs,rfl,g1,_⟩:=h2
   cases r2
   obtain ⟨its,_,p,_⟩:=I.list (SqL.of (K:=X.K) g1)
   simp only [dEq]
   exact SeqAt.EqAt.int_list c t' p.isList (yR (yS _ _) hu)
  | dic=>exact absurd (show A.units+cLine<cLine from he) (by omega)
 | .str c,e,A,x,y,u,v,h1,h2,r1,r2,hu,he=>by
  have h1':x=.str c:=h1
  subst h1'
  obtain ⟨t',rfl⟩:=r1
  cases e with
  | non=>cases (show y=.non from h2); cases r2; simp only [dEq]; exact SeqAt.EqAt.str_none c t'
  | bl b=>cases (show y=.bl b from h2); cases r2; simp only [dEq]; exact SeqAt.EqAt.str_bool c t' b
  | int b=>cases (show y=.int b from h2); obtain ⟨t,rfl⟩:=r2; simp only [dEq]; exact SeqAt.EqAt.str_int c t' b t
  | str b=>cases (show y=.str b from h2); obtain ⟨t,rfl⟩:=r2; simp only [dEq]; exact SeqAt.EqAt.str_str c t' b t
  | tup m=>
   obtain ⟨a,xs,rfl,g1,_⟩:=h2
   cases r2
   obtain ⟨its,_,p,_⟩:=I.tuple (SqT.of (K:=X.K) g1)
   simp only [dEq]
   exact SeqAt.EqAt.str_tuple c t' p (yR (yS _ _) hu)
  | lst m=>
   obtain ⟨a,xs,rfl,g1,_⟩:=h2
   cases r2
   obtain ⟨its,_,p,_⟩:=I.list (SqL.of (K:=X.K) g1)
   simp only [dEq]
   exact SeqAt.EqAt.str_list c t' p.isList (yR (yS _ _) hu)
  | dic=>exact absurd (show A.units+cLine<cLine from he) (by omega)
 | .tup l,e,A,x,y,u,v,h1,h2,r1,r2,hu,he=>by
  obtain ⟨a,xs,rfl,g1,g2⟩:=h1
  cases r1
  obtain ⟨its,rv,p,hz⟩:=I.tuple (SqT.of (K:=X.K) g1)
  have hu0:A.units<cLine:=yR (yS _ _) hu
  cases e with
  | non=>cases (show y=.non from h2); cases r2; simp only [dEq]; exact SeqAt.EqAt.tuple_none p hu0
  | bl b=>cases (show y=.bl b from h2); cases r2; simp only [dEq]; exact SeqAt.EqAt.tuple_bool b p hu0
  | int b=>cases (show y=.int b from h2); obtain ⟨t,rfl⟩:=r2; simp only [dEq]; exact SeqAt.EqAt.tuple_int b t p hu0
  | str b=>cases (show y=.str b from h2); obtain ⟨t,rfl⟩:=r2; simp only [dEq]; exact SeqAt.EqAt.tuple_str b t p hu0
  | tup m=>
   obtain ⟨b,ys,rfl,k1,k2⟩:=h2
   cases r2
   obtain ⟨its2,rv2,p2,_⟩:=I.tuple (SqT.of (K:=X.K) k1)
   simp only [dEq]
   have key:=Jj I l A.in1 (by have:A.units+(qL l+1)<cLine:=hu; show A.units+1+qL l<cLine; omega)
   by_cases hab:a=b
   ·subst hab
    rw [g1] at k1
    cases k1
    have e1:gQ A s (.ref a) (.ref a) true:=UA _
    by_cases hd:QY l m=true
    ·rw [hd]; exact e1
    ·exact absurd (qY.same_eq g2 k2) hd
   ·have l1:=rv.length
    have l2:=rv2.length
    have n1:=g2.length
    have n2:=k2.length
    have h0:=SeqAt.RcAt.tuples (A:=A) (e:=qHv l m) p p2 hu0 (fun j hj1 hj2=>by
     simp only [xU]
     have a1:j<its.length:=by simpa using hj1
     have a2:j<its2.length:=by simpa using hj2
     obtain ⟨d,q1,q2⟩:=g2.get (wA (by omega:j<xs.length))
     obtain ⟨e,q3,q4⟩:=k2.get (wA (by omega:j<ys.length))
     obtain ⟨w1,z1,z2⟩:=rv.get (wA (by omega:j<xs.length))
     obtain ⟨w2,z3,z4⟩:=rv2.get (wA (by omega:j<ys.length))
     rw [wA a1] at z1
     rw [wA a2] at z3
     cases z1
     cases z3
     rw [qCf q1 q3]
     exact key j d q1 e _ _ _ _ q2 q4 z2 z4 (by have h3:=qAm q3; have h4:A.units+(qL m+1)<cLine:=he; show A.units+1+qs e<cLine; omega))
    have h1:=WQ hab h0
    have e2:((wV (min its.toArray.size its2.toArray.size)).all (qHv l m) && its.toArray.size == its2.toArray.size)=QY l m:=by
     rw [wH,wH,<- l1,<- l2,n1,n2]
     by_cases hl:l.length=m.length
     ·rw [<- hl,VB,jk l m hl]; simp
     ·rw [Qe l m hl]; simp [hl]
    rw [e2] at h1
    exact h1
  | lst m=>
   obtain ⟨b,ys,rfl,k1,k2⟩:=h2
   cases r2
   obtain ⟨its2,rv2,p2,_⟩:=I.list (SqL.of (K:=X.K) k1)
   simp only [dEq]
   exact SeqAt.EqAt.tuple_list p p2.isList hu0
  | dic=>exact absurd (show A.units+cLine<cLine from he) (by omega)
 | .lst l,e,A,x,y,u,v,h1,h2,r1,r2,hu,he=>by
  obtain ⟨a,xs,rfl,g1,g2⟩:=h1
  cases r1
  obtain ⟨its,rv,p,hz⟩:=I.list (SqL.of (K:=X.K) g1)
  have hu0:A.units<cLine:=yR (yS _ _) hu
  cases e with
  | non=>cases (show y=.non from h2); cases r2; simp only [dEq]; exact SeqAt.EqAt.list_none p.isList hu0
  | bl b=>cases (show y=.bl b from h2); cases r2; simp only [dEq]; exact SeqAt.EqAt.list_bool b p.isList hu0
  | int b=>cases (show y=.int b from h2); obtain ⟨t,rfl⟩:=r2; simp only [dEq]; exact SeqAt.EqAt.list_int b t p.isList hu0
  | str b=>cases (show y=.str b from h2); obtain ⟨t,rfl⟩:=r2; simp only [dEq]; exact SeqAt.EqAt.list_str b t p.isList hu0
  | tup m=>
   obtain ⟨b,ys,rfl,k1,k2⟩:=h2
   cases r2
   obtain ⟨its2,rv2,p2,_⟩:=I.tuple (SqT.of (K:=X.K) k1)
   simp only [dEq]
   exact SeqAt.EqAt.list_tuple p.isList p2 hu0
  | lst m=>
   obtain ⟨b,ys,rfl,k1,k2⟩:=h2
   cases r2
   obtain ⟨its2,rv2,p2,_⟩:=I.list (SqL.of (K:=X.K) k1)
   simp only [dEq]
   have key:=Jj I l A.in1 (by have:A.units+(qL l+1)<cLine:=hu; show A.units+1+qL l<cLine; omega)
   by_cases hab:a=b
   ·subst hab
    rw [g1] at k1
    cases k1
    have e1:gQ A s (.ref a) (.ref a) true:=UA _
    by_cases hd:QY l m=true
    ·rw [hd]; exact e1
    ·exact absurd (qY.same_eq g2 k2) hd
   ·have l1:=rv.length
    have l2:=rv2.length
    have n1:=g2.length
    have n2:=k2.length
    by_cases hl:l.length=m.length
    ·have hsz:its.toArray.size=its2.toArray.size:=by rw [wH,wH]; omega
     have h0:=SeqAt.RcAt.lists (A:=A) (e:=qHv l m) p.isList p2.isList hsz hu0 (fun j hj1 hj2=>by
      simp only [xU]
      have a1:j<its.length:=by simpa using hj1
      have a2:j<its2.length:=by simpa using hj2
      obtain ⟨d,q1,q2⟩:=g2.get (wA (by omega:j<xs.length))
      obtain ⟨e,q3,q4⟩:=k2.get (wA (by omega:j<ys.length))
      obtain ⟨w1,z1,z2⟩:=rv.get (wA (by omega:j<xs.length))
      obtain ⟨w2,z3,z4⟩:=rv2.get (wA (by omega:j<ys.length))
      rw [wA a1] at z1
      rw [wA a2] at z3
      cases z1
      cases z3
      rw [qCf q1 q3]
      exact key j d q1 e _ _ _ _ q2 q4 z2 z4 (by have h3:=qAm q3; have h4:A.units+(qL m+1)<cLine:=he; show A.units+1+qs e<cLine; omega))
     have h1:=WQ hab h0
     rw [wH,<- l1,n1,jk l m hl] at h1
     exact h1
    ·rw [Qe l m hl]
     have hsz:(its.toArray.size != its2.toArray.size)=true:=by rw [wH,wH,<- l1,<- l2,n1,n2]; simpa using hl
     exact WQ hab (SeqAt.RcAt.lists_lengths p.isList p2.isList hsz hu0)
  | dic=>exact absurd (show A.units+cLine<cLine from he) (by omega)
 | .dic,e,A,x,y,u,v,h1,h2,r1,r2,hu,he=>absurd (show A.units+cLine<cLine from hu) (by omega)
theorem Jj (I:Inv X pins σ H s):∀(l:List D) (A:Around),A.units+qL l<cLine->∀(j:Nat) (d:D),l[j]? = some d->∀(e:D) (x y:V) (u v:Value),Den H d x->Den H e y->RelV x u->RelV y v->A.units+qs e<cLine->gQ A s u v (dEq d e)
 | [],A,hu,j,d,h,e,x,y,u,v,_,_,_,_,_=>by simp at h
 | d0::l,A,hu,j,d,h,e,x,y,u,v,h1,h2,r1,r2,he=>by
  have hu':A.units+max (qs d0) (qL l)<cLine:=hu
  cases j with
  | zero=>
   simp at h
   subst h
   exact qKD I d0 e A x y u v h1 h2 r1 r2 (by omega) he
  | succ j=>exact Jj I l A (by omega) j d (by simpa using h) e x y u v h1 h2 r1 r2 he
end
end
noncomputable def qNa (H:Hp) (l:List D) (v:V):Prop:=Den H (.tup l) v\/Den H (.lst l) v
noncomputable def dIn (d:D) (l:List D):Bool:=l.any fun e=>dEq e d
section
variable {X:Cx}
theorem anyB {α β:Type} {f:α->Bool} {g:β->Bool}:∀{l:List α} {m:List β},l.length=m.length->(∀(j:Nat) (a:α) (b:β),l[j]? = some a->m[j]? = some b->f a=g b)->l.any f=m.any g
 | [],[],_,_=>rfl
 | [],_::_,h,_=>absurd h (by simp)
 | _::_,[],h,_=>absurd h (by simp)
 | a::l,b::m,h,k=>by
  rw [hW,hW,k 0 a b rfl rfl,anyB (by simpa using h) fun j a b h1 h2=>k (j+1) a b (by simpa using h1) (by simpa using h2)]
theorem qHn {pins:List (Addr×Obj)} {σ:St} {H:Hp} {s:Shared} {A:Around} {l:List D} {xs:List V} {its:List Value} {d:D} {x:V} {u:Value} (I:Inv X pins σ H s) (h:qY H l xs) (rv:jB xs its) (hd:Den H d x) (r:RelV x u) (hu:A.units+qL l<cLine) (hu2:A.units+qs d<cLine) :
  ∃ e:Value->Bool,(∀ w,w∈its->gQ A s w u (e w))/\its.any e=dIn d l:=by
 have key:∀(j:Nat) (w:Value),its[j]? = some w->∃ c,l[j]? = some c/\∃ y,xs[j]? = some y/\Den H c y/\RelV y w:=fun j w hw=>by
  have hj:j<xs.length:=by rw [rv.length]; exact (wI.mp hw).1
  obtain ⟨c,g1,g2⟩:=h.get (wA hj)
  obtain ⟨w',g3,g4⟩:=rv.get (wA hj)
  rw [hw] at g3
  cases g3
  exact ⟨c,g1,_,wA hj,g2,g4⟩
 have uniq:∀(w:Value) (c c':D) (y y':V),Den H c y->RelV y w->Den H c' y'->RelV y' w->c=c':=fun w c c' y y' h1 r1 h2 r2=>by
  have e:=r1.inj r2
  subst e
  exact Den.inj c c' y h1 h2
 classical
 refine ⟨fun w=>if hw:∃(c:D) (y:V),Den H c y/\RelV y w then dEq hw.choose d else false,fun w hw=>?_,?_⟩
 ·obtain ⟨j,hj,e⟩:=gZ hw
  obtain ⟨c,g1,y,g2,g3,g4⟩:=key j w (by rw [wA hj,e])
  have hex:∃(c:D) (y:V),Den H c y/\RelV y w:=⟨c,y,g3,g4⟩
  simp only [hex,dif_pos]
  obtain ⟨y',q1,q2⟩:=hex.choose_spec
  have:hex.choose=c:=uniq w _ _ _ _ q1 q2 g3 g4
  rw [this]
  exact Jj I l A hu j c g1 d _ _ _ _ g3 hd g4 r hu2
 ·refine anyB (by rw [<- rv.length,h.length]) fun j w c h1 h2=>?_
  obtain ⟨c',g1,y,g2,g3,g4⟩:=key j w h1
  rw [h2] at g1
  cases g1
  have hex:∃(c:D) (y:V),Den H c y/\RelV y w:=⟨c,y,g3,g4⟩
  simp only [hex,dif_pos]
  obtain ⟨y',q1,q2⟩:=hex.choose_spec
  have:hex.choose=c:=uniq w _ _ _ _ q1 q2 g3 g4
  rw [this]
noncomputable def qFY (neg:Bool):R2:=fun x y H Q=>∃ d l,Den H d x/\qNa H l y/\qL l<=50/\qs d<=50/\Q (.bl (if neg then !dIn d l else dIn d l)) H
theorem qKM (hu:X.A.units+64<cLine):OpR X (compareOp .In) (qFY false):=by
 intro pins s σ H x y v u Q I rx ry h
 obtain ⟨d,l,hd,hl,hz,hz2,q⟩:=h
 have hu1:X.A.in1.units+qL l<cLine:=by show X.A.units+1+qL l<cLine; omega
 have hu2:X.A.in1.units+qs d<cLine:=by show X.A.units+1+qs d<cLine; omega
 rcases hl with ⟨a,xs,rfl,h1,h2⟩ | ⟨a,xs,rfl,h1,h2⟩
 ·cases ry
  obtain ⟨its,rv,p,_⟩:=I.tuple (SqT.of (K:=X.K) h1)
  obtain ⟨e,e1,e2⟩:=qHn (A:=X.A.in1) I h2 rv hd rx hu1 hu2
  refine SeqAt.in_tupleAt e p (fun w hw=>e1 w (by simpa using hw)) ⟨.bl _,H,I,rfl,?_⟩
  rw [show its.toArray.any e=its.any e by simp,e2]
  exact q
 ·cases ry
  obtain ⟨its,rv,p,_⟩:=I.list (SqL.of (K:=X.K) h1)
  obtain ⟨e,e1,e2⟩:=qHn (A:=X.A.in1) I h2 rv hd rx hu1 hu2
  refine SeqAt.in_listAt e p.isList (fun w hw=>e1 w (by simpa using hw)) ⟨.bl _,H,I,rfl,?_⟩
  rw [show its.toArray.any e=its.any e by simp,e2]
  exact q
theorem qF9 (hu:X.A.units+64<cLine):OpR X (compareOp .NotIn) (qFY true):=by
 intro pins s σ H x y v u Q I rx ry h
 obtain ⟨d,l,hd,hl,hz,hz2,q⟩:=h
 have hu1:X.A.in1.units+qL l<cLine:=by show X.A.units+1+qL l<cLine; omega
 have hu2:X.A.in1.units+qs d<cLine:=by show X.A.units+1+qs d<cLine; omega
 rcases hl with ⟨a,xs,rfl,h1,h2⟩ | ⟨a,xs,rfl,h1,h2⟩
 ·cases ry
  obtain ⟨its,rv,p,_⟩:=I.tuple (SqT.of (K:=X.K) h1)
  obtain ⟨e,e1,e2⟩:=qHn (A:=X.A.in1) I h2 rv hd rx hu1 hu2
  refine SeqAt.notIn_tupleAt e p (fun w hw=>e1 w (by simpa using hw)) ⟨.bl _,H,I,rfl,?_⟩
  rw [show its.toArray.any e=its.any e by simp,e2]
  exact q
 ·cases ry
  obtain ⟨its,rv,p,_⟩:=I.list (SqL.of (K:=X.K) h1)
  obtain ⟨e,e1,e2⟩:=qHn (A:=X.A.in1) I h2 rv hd rx hu1 hu2
  refine SeqAt.notIn_listAt e p.isList (fun w hw=>e1 w (by simpa using hw)) ⟨.bl _,H,I,rfl,?_⟩
  rw [show its.toArray.any e=its.any e by simp,e2]
  exact q
theorem qD6 {pins:List (Addr×Obj)} {σ:St} {H:Hp} {s:Shared} {A:Around} {l m:List D} {xs ys:List V} {its its2:List Value} (I:Inv X pins σ H s) (h:qY H l xs) (rv:jB xs its) (g:qY H m ys) (rw2:jB ys its2) (hu:A.units+qL l<cLine) (hum:A.units+qL m<cLine)
  (j:Nat) (h1:j<its.toArray.size) (h2:j<its2.toArray.size):gQ A s its.toArray[j] its2.toArray[j] (qHv l m j):=by
 simp only [xU]
 have a1:j<its.length:=by simpa using h1
 have a2:j<its2.length:=by simpa using h2
 have l1:=rv.length
 have l2:=rw2.length
 obtain ⟨d,q1,q2⟩:=h.get (wA (by omega:j<xs.length))
 obtain ⟨e,q3,q4⟩:=g.get (wA (by omega:j<ys.length))
 obtain ⟨w1,z1,z2⟩:=rv.get (wA (by omega:j<xs.length))
 obtain ⟨w2,z3,z4⟩:=rw2.get (wA (by omega:j<ys.length))
 rw [wA a1] at z1
 rw [wA a2] at z3
 cases z1
 cases z3
 rw [qCf q1 q3]
 exact Jj I l A hu j d q1 e _ _ _ _ q2 q4 z2 z4 (yR (Nat.add_le_add_left (qAm q3) _) hum)
noncomputable def qIS (neg:Bool):R2:=fun x y H Q=>∃ l m,((Den H (.tup l) x/\Den H (.tup m) y)\/(Den H (.lst l) x/\Den H (.lst m) y))/\qL l<=50/\qL m<=50/\Q (.bl (if neg then !QY l m else QY l m)) H
theorem qLO (hu:X.A.units+64<cLine):OpR X (compareOp .Eq) (qIS false):=by
 intro pins s σ H x y v u Q I rx ry h
 obtain ⟨l,m,hl,hz,hz3,q⟩:=h
 have hu0:X.A.units<cLine:=by omega
 have hu3:X.A.in1.units+qL m<cLine:=by show X.A.units+1+qL m<cLine; omega
 have hu1:X.A.in1.units+qL l<cLine:=by show X.A.units+1+qL l<cLine; omega
 rcases hl with ⟨⟨a,xs,rfl,h1,h2⟩,⟨b,ys,rfl,k1,k2⟩⟩ | ⟨⟨a,xs,rfl,h1,h2⟩,⟨b,ys,rfl,k1,k2⟩⟩
 ·cases rx
  cases ry
  obtain ⟨its,rv,p,_⟩:=I.tuple (SqT.of (K:=X.K) h1)
  obtain ⟨its2,rv2,p2,_⟩:=I.tuple (SqT.of (K:=X.K) k1)
  have l1:=rv.length
  have l2:=rv2.length
  have n1:=h2.length
  have n2:=k2.length
  refine SeqAt.eq_tupleAt p p2 hu0 (qD6 I h2 rv k2 rv2 hu1 hu3) ⟨.bl _,H,I,rfl,?_⟩
  have e2:((wV (min its.toArray.size its2.toArray.size)).all (qHv l m) && its.toArray.size == its2.toArray.size)=QY l m:=by
   rw [wH,wH,<- l1,<- l2,n1,n2]
   by_cases hl:l.length=m.length
   ·rw [<- hl,VB,jk l m hl]; simp
   ·rw [Qe l m hl]; simp [hl]
  rw [e2]
  exact q
 ·cases rx
  cases ry
  obtain ⟨its,rv,p,_⟩:=I.list (SqL.of (K:=X.K) h1)
  obtain ⟨its2,rv2,p2,_⟩:=I.list (SqL.of (K:=X.K) k1)
  have l1:=rv.length
  have l2:=rv2.length
  have n1:=h2.length
  have n2:=k2.length
  by_cases hl:l.length=m.length
  ·have hsz:its.toArray.size=its2.toArray.size:=by rw [wH,wH]; omega
   refine SeqAt.eq_listAt p.isList p2.isList hsz hu0 (qD6 I h2 rv k2 rv2 hu1 hu3) ⟨.bl _,H,I,rfl,?_⟩
   rw [wH,<- l1,n1,jk l m hl]
   exact q
  ·have hsz:(its.toArray.size != its2.toArray.size)=true:=by rw [wH,wH,<- l1,<- l2,n1,n2]; simpa using hl
   refine SeqAt.eq_list_lengthsAt p.isList p2.isList hsz hu0 ⟨.bl _,H,I,rfl,?_⟩
   rw [Qe l m hl] at q
   exact q
theorem qLK (hu:X.A.units+64<cLine):OpR X (compareOp .NotEq) (qIS true):=by
 intro pins s σ H x y v u Q I rx ry h
 obtain ⟨l,m,hl,hz,hz3,q⟩:=h
 have hu0:X.A.units<cLine:=by omega
 have hu3:X.A.in1.units+qL m<cLine:=by show X.A.units+1+qL m<cLine; omega
 have hu1:X.A.in1.units+qL l<cLine:=by show X.A.units+1+qL l<cLine; omega
 rcases hl with ⟨⟨a,xs,rfl,h1,h2⟩,⟨b,ys,rfl,k1,k2⟩⟩ | ⟨⟨a,xs,rfl,h1,h2⟩,⟨b,ys,rfl,k1,k2⟩⟩
 ·cases rx
  cases ry
  obtain ⟨its,rv,p,_⟩:=I.tuple (SqT.of (K:=X.K) h1)
  obtain ⟨its2,rv2,p2,_⟩:=I.tuple (SqT.of (K:=X.K) k1)
  have l1:=rv.length
  have l2:=rv2.length
  have n1:=h2.length
  have n2:=k2.length
  refine SeqAt.RcNeAt.tuples p p2 hu0 (qD6 I h2 rv k2 rv2 hu1 hu3) X.prog X.w X.xe _ ⟨.bl _,H,I,rfl,?_⟩
  have e2:((wV (min its.toArray.size its2.toArray.size)).all (qHv l m) && its.toArray.size == its2.toArray.size)=QY l m:=by
   rw [wH,wH,<- l1,<- l2,n1,n2]
   by_cases hl:l.length=m.length
   ·rw [<- hl,VB,jk l m hl]; simp
   ·rw [Qe l m hl]; simp [hl]
  rw [e2]
  exact q
 ·cases rx
  cases ry
  obtain ⟨its,rv,p,_⟩:=I.list (SqL.of (K:=X.K) h1)
  obtain ⟨its2,rv2,p2,_⟩:=I.list (SqL.of (K:=X.K) k1)
  have l1:=rv.length
  have l2:=rv2.length
  have n1:=h2.length
  have n2:=k2.length
  by_cases hl:l.length=m.length
  ·have hsz:its.toArray.size=its2.toArray.size:=by rw [wH,wH]; omega
   refine SeqAt.RcNeAt.lists p.isList p2.isList hsz hu0 (qD6 I h2 rv k2 rv2 hu1 hu3) X.prog X.w X.xe _ ⟨.bl _,H,I,rfl,?_⟩
   rw [wH,<- l1,n1,jk l m hl]
   exact q
  ·have hsz:(its.toArray.size != its2.toArray.size)=true:=by rw [wH,wH,<- l1,<- l2,n1,n2]; simpa using hl
   refine SeqAt.RcNeAt.lists_lengths p.isList p2.isList hsz hu0 X.prog X.w X.xe _ ⟨.bl _,H,I,rfl,?_⟩
   rw [Qe l m hl] at q
   exact q
theorem QH (hc:X.calm=true):QJ X (.builtin "all") (fun xs H Q=>∃(p:Addr) (bs:List Bool),xs=[.ref p]/\H p=some (.lst (bs.map V.bl))/\Q (.bl (bs.all id)) H):=by
 intro pins s σ H xs us Q I r h
 obtain ⟨p,bs,rfl,hp,q⟩:=h
 obtain ⟨u,rfl,rx⟩:=vals1 r
 cases rx
 obtain ⟨its,rv,pl,hzz⟩:=I.list (SqL.of (K:=X.K) hp)
 clear hzz
 have hb:LSm.BoolsAre its bs:=by
  clear q pl hp
  induction bs generalizing its with
  | nil=>cases rv; exact .nil
  | cons b bs ih=>
   cases rv with
   | cons r1 r2=>cases r1; exact .cons b (ih _ r2)
 have hlt:p<s.heap.objs.size:=by obtain ⟨_,e,_⟩:=pl.isList; exact zN e
 refine call_all_walk (fP pl.isList ?_)
 refine ⟨s.heap.objs.size,[s.heap.objs.size,p],[s.heap.objs.size],its.toArray.size,_,_,fun i=>(bs[i]?).getD true,rfl,Walks.list (A:=X.A.in1) (I.ok.hd hc) _ p (yE hlt) its.toArray,
  ⟨⟨_,zF _ rfl,rfl,rfl⟩,pl.isList.push _⟩,fun i v s' Q' E' hP hQ=>?_,fun h' tk hk=>?_⟩
 ·rcases hb.get i v (by simpa using hP) with ⟨b,eb,rfl⟩
  replace hQ:Q' b s':=by simpa [eb] using hQ
  exact uP hQ
 ·have e:((wV its.toArray.size).all fun i=>(bs[i]?).getD true)=bs.all id:=by
   rw [wH,hb.length,LSm.range_all]
  rw [e]
  exact ⟨.bl _,H,I.kept (LSm.kept_iter hk),rfl,q⟩
theorem qBU:QJ X (.builtin "sorted") (fun xs H Q=>∃(p:Addr) (ns:List Int),xs=[.ref p]/\H p=some (.lst (ns.map V.int))/\ns.length<64/\∀(ns':List Int) (l:Addr),ns'.Perm ns->ns'.Pairwise (·<=·)->H l=none->Q (.ref l) (upd H l (.lst (ns'.map V.int)))):=by
 intro pins s σ H xs us Q I r h
 obtain ⟨p,ns,rfl,hp,h64,q⟩:=h
 obtain ⟨u,rfl,rx⟩:=vals1 r
 cases rx
 obtain ⟨its,rv,pl,_⟩:=I.list (SqL.of (K:=X.K) hp)
 have hlen:=rv.length
 rw [wC] at hlen
 refine sorted_ints pl.isList (intsAre_of rv) (by omega) fun out ns' a1 a2 a3=>?_
 obtain ⟨e,he⟩:=sortedAll_at s.heap its out
 have hl:ns'.length<=sizeLine:=by
  rw [a2.length_eq]
  have:(64:Nat)<=sizeLine:=by rw [xS]; decide
  omega
 refine ⟨.ref (s.heap.objs.size+1),upd H (s.heap.objs.size+1) (.lst (ns'.map V.int)),I.laid (t':=s.toks) (fun b o e=>sortedAll_old e) (fO _) ?_,rfl,q ns' _ a2 a3 (I.hok.fresh (fO _))⟩
 refine ⟨by rw [wC]; exact hl,out.toList,e,Qs a1,?_⟩
 rw [he]
 first | done | simp [seqObj]
noncomputable def qJm (K:wJ):R2:=fun x y H Q=>∃ l b xs zs,x=.ref l/\y=.ref b/\SqL K H l xs/\SqL K H b zs/\xs.length+zs.length<=sizeLine/\∀ p,H p=none->Q (.ref p) (upd H p (.lst (xs++zs)))
theorem qJ0:OpR X (binaryOp .Add) (qJm X.K):=by
 intro pins s σ H x y v u Q I rx ry h
 obtain ⟨l,b,xs,zs,rfl,rfl,hH,hB,hz,q⟩:=h
 cases rx
 cases ry
 obtain ⟨its,r,pl,_⟩:=I.list hH
 obtain ⟨its2,r2,pl2,_⟩:=I.list hB
 have n1:=r.length
 have n2:=r2.length
 obtain ⟨⟨cls,dd,data,sl⟩,ho,hc,n,hd⟩:=pl.isList
 obtain ⟨⟨cls2,dd2,data2,sl2⟩,ho2,hc2,n2',hd2⟩:=pl2.isList
 simp only at hc hd hc2 hd2
 subst hc hd hc2 hd2
 have e:its.toArray++its2.toArray=(its++its2).toArray:=by simp
 refine WZ ⟨_,ho,rfl⟩ ⟨_,ho2,rfl⟩ noFill_list_add seq_list_add PySem.F.slot_list_add PySem.F.entry_list_add (PySem.F.args_list_add_2 _ _) (list_addW l b its.toArray its2.toArray n n2' dd dd2 sl sl2 (by simp only [wH]; omega)) ⟨ho,ho2,?_⟩
 rw [e]
 exact ⟨.ref _,_,I.lnew (t':=s.toks) (r.append r2) (by rw [wR]; omega),rfl,q _ I.fresh⟩
theorem qCb:QJ X (.builtin "isinstance") (fun xs H Q=>∃ x t T b,xs=[x,.ty T]/\qCP X.K H x t/\xT X.K t (.type T)=some b/\Q (.bl b) H):=by
 intro pins s σ H xs us Q I r h
 obtain ⟨x,t,T,b,rfl,ty,e,q⟩:=h
 obtain ⟨u,w',rfl,rx,ry⟩:=vals2 r
 cases ry
 exact qFC I rx ty e fun tk=>⟨.bl b,H,I.tok _,rfl,q⟩
end
example (K:wJ):xT K (.type "list") (.type "list")=some true:=rfl
example (K:wJ):xT K (.type "int") (.type "bool")=some false:=by rfl
example (K:wJ):xT K (.type "bool") (.type "int")=some true:=by rfl
end L2
namespace L2
open PySem PySem.Spec PyProof.Rows PySem.W
noncomputable abbrev qM8:=Int×List (Int×Int)
noncomputable abbrev qNG:=qM8×Addr×Addr
end L2
namespace L2
open PySem PySem.Spec PyProof.Rows
section
variable {X:Cx} {a:Expr} {ta:TE} {pos:Pos} {tg:Expr}
theorem opM:OpR X (binaryOp .Mult) (fun x y H Q=>(rI qLl fun i j=>.int (i*j)) x y H Q\/qNB x y H Q):=qKp.or qLI
theorem qAH (hu:X.A.units+64<cLine):OpR X (compareOp .Eq) (fun x y H Q=>rEq x y H Q\/qIS false x y H Q):=qMV.or (qLO hu)
theorem qCN (hu:X.A.units+64<cLine):OpR X (compareOp .NotEq) (fun x y H Q=>rNe x y H Q\/qIS true x y H Q):=qMb.or (qLK hu)
theorem qCY (hu:X.A.units+64<cLine):OpR X (compareOp .In) (qFY false):=qKM hu
theorem QR (hu:X.A.units+64<cLine):OpR X (compareOp .NotIn) (qFY true):=qF9 hu
noncomputable def qKA (K:wJ) (tl:TE):TI:=fun σ H R=>tl σ H fun x H1=>∃ a,x=.ref a/\(((∃ xs,SqL K H1 a xs)/\R (Itl K a) H1)\/((∃ xs,SqT K H1 a xs)/\R (Itt K a) H1))
theorem qLd {l:Expr} {tl:TE} (hl:PE X l tl):PI X tg l (qKA X.K tl):=by
 intro pins s σ H R I h
 refine thn (hl pins s σ H _ I h) fun v s1 ⟨x,H1,I1,r1,q1⟩=>?_
 obtain ⟨a,e,q⟩:=q1
 subst e
 cases r1
 rcases q with ⟨⟨xs,hq⟩,q⟩ | ⟨⟨xs,hq⟩,q⟩
 ·obtain ⟨its,rv,p,hz⟩:=I1.list hq
  refine fP p.isList ?_
  refine ⟨s1.heap.objs.size,[s1.heap.objs.size],_,_,H1,rfl,I1.kept (t':=s1.toks) fun b o e=>wD _ e,qGG a _,⟨_,zF _ rfl,rfl,rfl⟩,fun b hb=>?_,q⟩
  have e:b=s1.heap.objs.size:=by simpa using hb
  subst e
  exact I1.fpOk (wO _) (I1.hok.fresh (wO _))
 ·obtain ⟨its,rv,p,hz⟩:=I1.tuple hq
  refine fJ (show s1.heap.IsTuple a its.toArray from p) ?_
  refine ⟨s1.heap.objs.size,[s1.heap.objs.size],_,_,H1,rfl,I1.kept (t':=s1.toks) fun b o e=>wD _ e,qEN a _,⟨_,zF _ rfl,rfl,rfl⟩,fun b hb=>?_,q⟩
  have e:b=s1.heap.objs.size:=by simpa using hb
  subst e
  exact I1.fpOk (wO _) (I1.hok.fresh (wO _))
noncomputable def qJU (ta:TE) (K:wJ):TE:=fun σ H Q=>ta σ H fun x H1=>∃ k,qLb K x H1 k/\Q (.bl (!k)) H1
theorem qJX (ha:PE X a ta):PE X (.UnaryOp .Not a pos) (qJU ta X.K):=by
 intro pins s σ H Q I h
 refine UnaryOp_ (thn (ha pins s σ H _ I h) fun v s1 ⟨x,H1,I1,r1,k,e,q1⟩=>not_of ?_)
 exact thn (qIj pins s1 σ H1 x v (fun k H'=>Q (.bl (!k)) H') I1 r1 ⟨k,e,q1⟩) fun b s2 ⟨H2,I2,q2⟩=>⟨.bl (!b),H2,I2,rfl,q2⟩
end
theorem qX.new {H:Hp} {p:Addr} {o:HO} (h:H p=none):qX H (upd H p o):=fun b u e=>by rw [qS (ji e h)]; exact e
noncomputable def qHx (H H':Hp):Prop:=∀ a xs,H a=some (.tup xs)->H' a=some (.tup xs)
mutual
noncomputable def qAy:D->Bool
 | .lst _=>false
 | .dic=>false
 | .tup l=>jw l
 | _=>true
noncomputable def jw:List D->Bool
 | []=>true
 | d::l=>qAy d && jw l
end
theorem qAM:∀(l:List D),(∀ d∈l,qAy d=true)->jw l=true
 | [],_=>rfl
 | d::l,h=>by
  simp only [jw,zX]
  exact ⟨h d wF,qAM l fun e he=>h e (wN _ he)⟩
theorem Yy (ns:List Int):jw (ns.map D.int)=true:=qAM _ fun d hd=>by
 obtain ⟨n,_,rfl⟩:=zP.mp hd
 rfl
mutual
theorem Den.monoT {H H':Hp} (e:qHx H H'):∀(d:D) (v:V),qAy d=true->Den H d v->Den H' d v
 | .non,v,_,h=>h
 | .bl _,v,_,h=>h
 | .int _,v,_,h=>h
 | .str _,v,_,h=>h
 | .tup l,v,t,h=>by
  obtain ⟨a,xs,r,h1,h2⟩:=h
  exact ⟨a,xs,r,e _ _ h1,qY.monoT e l xs t h2⟩
 | .lst l,v,t,h=>by simp [qAy] at t
 | .dic,v,t,h=>by simp [qAy] at t
theorem qY.monoT {H H':Hp} (e:qHx H H'):∀(l:List D) (xs:List V),jw l=true->qY H l xs->qY H' l xs
 | [],xs,_,h=>h
 | d::l,xs,t,h=>by
  obtain ⟨x,r,h0,h1,h2⟩:=h
  simp only [jw,zX] at t
  exact ⟨x,r,h0,Den.monoT e d x t.1 h1,qY.monoT e l r t.2 h2⟩
end
section
variable {X:Cx} {K:wJ} {a b o e:Expr} {es:List Expr} {ta tb to:TE} {t:TA} {pos:Pos} {tg:Expr}
theorem ixK (h:X.K=K):IxR X (rIx K):=by subst h; exact qKw
theorem qd {l:Expr} {tl:TE} (h:X.K=K) (hl:PE X l tl):PI X tg l (qKA K tl):=by subst h; exact qLd hl
theorem qIF (h:X.K=K) (ha:PE X a ta):PE X (.UnaryOp .Not a pos) (qJU ta K):=by subst h; exact qJX ha
noncomputable def qMt (K:wJ) (ta:TE):TT:=fun σ H Q=>ta σ H fun x H'=>∃ k,qLb K x H' k/\Q k H'
theorem qq (h:X.K=K) (ha:PE X a ta) (he:∀ whole,isTrue a X.env whole=(do let v <- whole; standAt a.pos; holding [v] (truthy v))):PT X a (qMt K ta):=by subst h; exact qHY ha he
theorem qBY (h:X.K=K):QJ X (.builtin "len") (fun xs H Q=>∃ p ys,xs=[.ref p]/\(SqL K H p ys\/SqT K H p ys)/\Q (.int ys.length) H):=by subst h; exact qCI
theorem Qj (h:X.K=K):QJ X (.type "tuple") (fun xs H Q=>∃ p ys,xs=[.ref p]/\((SqL K H p ys/\∀ l,H l=none->Q (.ref l) (upd H l (.tup ys)))\/(SqT K H p ys/\Q (.ref p) H))):=by subst h; exact qA1
theorem qLB (h:X.K=K):QJ X (.type "list") (fun xs H Q=>∃ p ys,xs=[.ref p]/\(SqL K H p ys\/SqT K H p ys)/\∀ l,H l=none->Q (.ref l) (upd H l (.lst ys))):=by subst h; exact qBb
theorem JF (h:X.K=K):QJ X (.builtin "isinstance") (fun xs H Q=>∃ x t T b,xs=[x,.ty T]/\qCP K H x t/\xT K t (.type T)=some b/\Q (.bl b) H):=by subst h; exact qCb
theorem qAN {name:Str} {apos cpos:Pos} {T id:String} {r:V->List V->Hp->VK->Prop} (h:X.K=K) (pa:PlainAttrs T) (slot:Slot T name id) (hty:typeOf (.builtin id)=pure (.type "method_descriptor")) (hm:MtR X id r) (ho:PE X o to) (ha:PA X (e::es) t)
  (hbase:attributeBase o name X.env (eval o X.env)=eval o X.env:=by rfl)
  (hfew:((backTo cpos (starEach (e::es) X.env)).all (fun x=>!x.1) && (backToKw cpos (keywordEach [] X.env)).all (fun x=>x.1.isSome)
   && decide ((e::es).length+([]:List Keyword).length+(if ([]:List Keyword).isEmpty then 0 else 1)<30))=true:=by rfl)
  (hline:(apos.endLine == cpos.line)=true:=by rfl) (hs:starEach (e::es) X.env=(false,eval e X.env)::starEach es X.env:=by rfl) (hplain:(backTo cpos (starEach es X.env)).any (·.1)=false:=by rfl) :
  PE X (.Call (.Attribute o name apos) (e::es) [] cpos) (tBM K T r to t):=by subst h; exact qMO pa slot hty hm ho ha hbase hfew hline hs hplain
theorem jc {es:List Expr} {k:Nat} {t:TGs} {n:Nat} (h:X.K=K) (hc:X.calm=true) (hg:PGs X es t)
  (hn:(assignEach es X.env).length=n:=by rfl) (hst:(assignEach es X.env).findIdx? (·.1)=none:=by rfl):PG X (.Tuple es k pos) (qMR K n t):=by subst h; exact qK2 hc hg hn hst
end
structure qMT (K:wJ) (mg:Str->Option Value) (x:Str) (st:Stmt) (ps:List Str) (f:Addr) (fd:FuncData):Prop where
 fn:Fun K x x st f fd
 bd:Binds K fd ps []
 mg:mg x=some (.ref f)
end L2
namespace L2
open PySem
noncomputable abbrev Fo (h:Heap) (c:String) (a:Addr) (fs:Array Value):Prop:=h.get? a=some ⟨.type c,none,.fields fs,#[]⟩
noncomputable def qAh (a:Addr) (h h':Heap):Prop:=∀ c o,c≠a->h.get? c=some o->h'.get? c=some o
theorem qAh.refl (a:Addr) (h:Heap):qAh a h h:=fun _ _ _ y=>y
theorem qAh.then {a:Addr} {h h' h'':Heap} (x:qAh a h h') (y:qAh a h' h''):qAh a h h'':=fun c o n z=>y c o n (x c o n z)
theorem qAh.new {a:Addr} {h h':Heap} (x:qAh a h h') (o:Obj):qAh a h (h'.push o):=fun c u n z=>wD o (x c u n z)
theorem qAh.of {a:Addr} {h h':Heap} (x:fB a h h'):qAh a h h':=x.extBut
section
variable {prog:Program} {w:World} {A:Around} {E:Value->Shared->Prop} {s:Shared} {a:Addr} {c:String} {fs:Array Value} {β:Type} {Q:β->Shared->Prop}
theorem ask {k:Nat} {x:Value} {g:Value->Sem β} (o:Fo s.heap c a fs) (hx:fs[k]? = some x) (K:wpAny (model prog w) A (g x) Q E s):wpAny (model prog w) A (field (.ref a) k >>= g) Q E s:=wB (uE o rfl hx K)
theorem qMP {k:Nat} {v:Value} {Q:Unit->Shared->Prop} (o:Fo s.heap c a fs) (hk:k<fs.size) (K:∀ h',Fo h' c a (fs.setIfInBounds k v)->qAh a s.heap h'->h'.objs.size=s.heap.objs.size->Q () { s with heap:=h' }):wpAny (model prog w) A (setField (.ref a) k v) Q E s:=
 wpAny_setField_rec o hk fun h' o' same=>K h' o' (.of same) same.1
theorem put {k:Nat} {v:Value} {g:Unit->Sem β} (o:Fo s.heap c a fs) (hk:k<fs.size) (K:∀ h',Fo h' c a (fs.setIfInBounds k v)->qAh a s.heap h'->h'.objs.size=s.heap.objs.size->wpAny (model prog w) A (g ()) Q E { s with heap:=h' }):wpAny (model prog w) A (setField (.ref a) k v >>= g) Q E s:=
 wB (qMP o hk K)
theorem alive {b:Addr} {g:Option Obj->Sem β} (K:wpAny (model prog w) A (g (s.heap.get? b)) Q E s):wpAny (model prog w) A (loadIfAlive b >>= g) Q E s:=by
 refine wB ?_
 intro Γ p _
 exact (Sem.wp_loadIfAlive ..).symm ▸ K
end
end L2
namespace L2
open PySem PySem.Spec PyProof.Rows
section
variable {w:World} {prog:Program} {A:Around} {s:Shared} {E:Value->Shared->Prop}
theorem qMI {α:Type} {Q:α->Shared->Prop} (calm:A.handled=none) (K:∀ h' e,(∀ b o,s.heap.get? b=some o->h'.get? b=some o)->(∃ o,h'.get? e=some o/\o.cls=.type "StopIteration")->E (.ref e) { s with heap:=h' }):wpAny (model prog w) A (Builtin.SmallTypes.stopIteration:Sem α) Q E s:=by
 refine wB (m:=newExc _ _) (wB (vF (wB (m:=firstArgMember _ _) (gW (a:=uG) (by simp only [firstArgMember]; rfl) (vF (wpAny_raiseNew_none calm (K _ _ (fun b o y=>?_) ⟨_,zF _ rfl,rfl⟩)) (by size_fits)))) (by size_fits)))
 exact wD _ (wD _ y)
theorem nextT {nx tu:Addr} {i:Nat} {its:Array Value} {Q:Value->Shared->Prop} (hi:s.heap.IsTupleIter nx tu i) (ht:s.heap.IsTuple tu its) (yes:∀ y h',its[i]? = some y->h'.IsTupleIter nx tu (i+1)->fB nx s.heap h'->Q y { s with heap:=h' })
  (no:its[i]? = none->A.handled=none/\∀ h' e,Heap.ExtBut nx s.heap h'->(∃ o,h'.get? e=some o/\o.cls=.type "StopIteration")->E (.ref e) { s with heap:=h' }):wpAny (model prog w) A (yQ (.ref nx)) Q E s:=by
 obtain ⟨ob,eb,cb,db⟩:=id hi
 obtain ⟨ot,et,_,nt,dt⟩:=ht
 refine wB (vX (name:=uR "__next__") hi.typeIs UM (vD UM hi.typeIs F.entry_tuple_iterator_next ?_ (F.args_tuple_iterator_next_1 _)))
 refine wB (gW (a:=(.ref nx,[])) rfl (wB (uE eb db (x:=.ref tu) rfl (vA (fun z=>absurd z wQ) fun _=>wB (uE eb db (x:=.int i 0) rfl (wB (uH et dt ?_)))))))
 simp only [zT]
 cases e:its[i]? with
 | some y=>
  refine wB (wpAny_setField eb db (by simp) (wG ⟨y,rfl,wG (yes y _ e ⟨_,kM _ eb (Obj.isFreed_of_fields (Obj.data_mapFields db _)),(Obj.cls_mapFields ..).trans cb,?_⟩ (xH ..))⟩))
  rw [Obj.data_mapFields db]
  simp [rawInt]
 | none=>
  obtain ⟨calm,over⟩:=no e
  exact wB (fG (wB (wpAny_setField eb db (by simp) (qMI calm fun h' x old new=>over h' x (fun b o n y=>old b o ((xH ..).extBut b o n y)) new))))
end
theorem qDI {prog:Program} {w:World} {A:Around} (hh:A.handled=none) (nx tu:Addr) (hne:tu≠nx) (its:Array Value) :
  Draws prog w A nx [nx,tu] its.size (fun i v=>its[i]? = some v) (fun i h=>h.IsTupleIter nx tu i/\h.IsTuple tu its) where
 live:=fun _ _ st=>by obtain ⟨o,ho,_⟩:=st.1; exact ⟨o,ho⟩
 frame:=fun _ _ _ st hk=>⟨st.1.at fun o e=>hk nx (by simp) o e,by obtain ⟨o,e,r⟩:=st.2; exact ⟨o,hk tu (by simp) o e,r⟩⟩
 item:=fun i s Q E hi st k=>nextT st.1 st.2 (no:=fun z=>absurd z (by simp [hi])) (yes:=fun y h' ey g1 g2=>k y h' s.toks ey ⟨g1,by obtain ⟨o,e,r⟩:=st.2; exact ⟨o,g2.extBut tu o hne e,r⟩⟩ g2)
 done:=fun s Q E st k=>nextT st.1 st.2 (yes:=fun y _ ey=>absurd ey (by simp)) (no:=fun _=>⟨hh,k⟩)
structure ZA (z TI TO i1 i2:Addr) (f1 f2:List Addr):Prop where
 tz:TI≠z
 oz:TO≠z
 az:i1≠z
 bz:i2≠z
 tO:TI≠TO
 ta:TI≠i1
 tb:TI≠i2
 oa:TO≠i1
 ob:TO≠i2
 ab:i1≠i2
 zf1:z∉f1
 zf2:z∉f2
 of1:TO∉f1
 of2:TO∉f2
 af2:i1∉f2
 bf1:i2∉f1
end L2
namespace L2
open PySem PyProof.Rows
noncomputable def Kept (l:List Addr) (h h':Heap):Prop:=∀ b o,b∉l->h.get? b=some o->h'.get? b=some o
theorem Kept.then {l m:List Addr} {h h' h'':Heap} (x:Kept l h h') (y:Kept m h' h''):Kept (l++m) h h'':=fun b o n z=>y b o (fun q=>n (zK _ q)) (x b o (fun q=>n (zS _ q)) z)
theorem Kept.one {a:Addr} {h h':Heap} (x:fB a h h'):Kept [a] h h':=fun b o n z=>x.extBut b o (fun q=>n (q ▸ wK.mpr rfl)) z
theorem Kept.past {a:Addr} {h h':Heap} (x:qAh a h h'):Kept [a] h h':=fun b o n z=>x b o (fun q=>n (q ▸ wK.mpr rfl)) z
theorem Kept.new (h:Heap) (o:Obj):Kept [] h (h.push o):=fun _ _ _ z=>wD o z
theorem Kept.sub {l m:List Addr} {h h':Heap} (x:Kept l h h') (s:∀ a∈l,a∈m):Kept m h h':=fun b o n z=>x b o (fun q=>n (s b q)) z
noncomputable def qIz (u0 u1:Value):Prop:=(u0=.none\/∃ a:Nat,u0=rawInt a)/\∃ b,u1=.bool b
noncomputable abbrev Zf (h:Heap) (z TI TO:Addr) (u0 u1:Value):Prop:=Fo h "zip" z #[u0,u1,.bool false,.ref TI,.ref TO]
section
variable {prog:Program} {w:World} {A:Around} {E:Value->Shared->Prop} {s:Shared} {z TI TO i1 i2:Addr} {f1 f2:List Addr} {n1 n2:Nat} {P1 P2:Nat->Value->Prop} {S1 S2:Nat->Heap->Prop}
theorem held? {u0 u1:Value} {Q:Bool->Shared->Prop} (own:qIz u0 u1) (o:Zf s.heap z TI TO u0 u1) (yes:Q true s) (no:u0≠.none->∀ h' g0,qIz g0 (.bool true)->Zf h' z TI TO g0 (.bool true)->qAh z s.heap h'->h'.objs.size=s.heap.objs.size->Q false { s with heap:=h' }):wpAny (model prog w) A (Builtin.SmallTypes.ownedTupleIsFree (.ref z)) Q E s:=by
 refine ask (k:=0) o rfl ?_
 obtain ⟨rfl | ⟨b,rfl⟩,c,rfl⟩:=own
 ·exact wG yes
 refine alive (b:=b) ?_
 cases s.heap.get? b with
 | none=>exact wG yes
 | some _=>
  cases c with
  | true=>
   refine ask (k:=1) (x:=.bool true) o rfl (vA (fun q=>absurd q (by decide)) fun _=>wG ?_)
   exact no (fun q=>by cases q) s.heap (rawInt b) ⟨.inr ⟨b,rfl⟩,true,rfl⟩ o (qAh.refl _ _) rfl
  | false=>
   refine ask (k:=1) (x:=.bool false) o rfl (vA (fun _=>?_) fun q=>absurd (by decide) q)
   exact put o (show 1<5 by decide) fun h' o' k' z'=>wG (no (fun q=>by cases q) h' (rawInt b) ⟨.inr ⟨b,rfl⟩,true,rfl⟩ o' k' z')
theorem qHO {i:Nat} {c d u0 u1:Value} {Q:Value->Shared->Prop} (X1:Draws prog w A i1 f1 n1 P1 S1) (X2:Draws prog w A i2 f2 n2 P2 S2) (Z:ZA z TI TO i1 i2 f1 f2) (l1:i<n1) (l2:i<n2)
  (o:Zf s.heap z TI TO u0 u1) (own:qIz u0 u1) (hI:IsPair s.heap TI (.ref i1) (.ref i2)) (hO:IsPair s.heap TO c d) (g1:S1 i s.heap) (g2:S2 i s.heap)
  (K:∀ h' t x y v0 v1,P1 i x->P2 i y->qIz v0 v1->Zf h' z TI TO v0 v1->(u0=.none->v0=rawInt s.heap.objs.size/\v1=.bool false/\IsPair h' TO x y)->(∃ c d,IsPair h' TO c d)->S1 (i+1) h'->S2 (i+1) h'->IsPair h' s.heap.objs.size x y->h'.objs.size=s.heap.objs.size+1->Kept [z,TO,i1,i2] s.heap h'->Q (.ref s.heap.objs.size) { s with heap:=h',toks:=t }) :
  wpAny (model prog w) A (Builtin.«zip.__next__» ⟨[uM z],[]⟩) (fun r s'=>∃ v,r=.done (.ret v)/\Q v s') E s:=by
 have away:∀{l f:List Addr},(∀ a∈l,a∉f)->∀{h h':Heap},Kept l h h'->∀ b∈f,∀ u,h.get? b=some u->h'.get? b=some u:=fun apart _ _ k b hb u y=>k b u (fun q=>apart b q hb) y
 refine wB (gW (a:=(.ref z,[])) rfl (ask (k:=2) o rfl (ask (k:=3) o rfl (wB (uH hI rfl (vA (fun q=>absurd q (by simp)) fun _=>wB (held? own o ?_ fun nn h0 v0 own' o0 k0 z0=>?_)))))))
 ·refine vA (fun _=>wB (fG (ask (k:=4) o rfl (put (k:=0) o (show 0<5 by decide) fun ha oa ka za=>wB ?_)))) fun q=>absurd rfl q
  simp only [List.zipIdx_cons,kH,List.zipIdx_nil,fH]
  have a1:S1 i ha:=X1.frame _ _ _ g1 (away (by simp [Z.zf1]) (.past ka))
  have a2:S2 i ha:=X2.frame _ _ _ g2 (away (by simp [Z.zf2]) (.past ka))
  refine wB (wB (fV (wB (m:=yQ (.ref i1)) (X1.item i { s with heap:=ha } _ _ l1 a1 fun x hb t px b1 sb=>wG ?_))))
  have kb:Kept [i1] ha hb:=.one sb
  have Ob:IsPair hb TO c d:=((Kept.past ka).then kb) TO _ (by simp [Z.oz,Z.oa]) hO
  refine wB (uH Ob rfl (wB (WC Ob fun hc Oc sc=>wB (VV (wG ?_)))))
  have kc:Kept ([i1]++[TO]) ha hc:=kb.then (.one sc)
  have c2:S2 i hc:=X2.frame _ _ _ a2 (away (by simp [Z.af2,Z.of2]) kc)
  refine wB (wB (fV (wB (m:=yQ (.ref i2)) (X2.item i { s with heap:=hc,toks:=t } _ _ l2 c2 fun y hd t2 py d2 sd=>wG ?_))))
  have Od:IsPair hd TO x d:=sd.extBut TO _ Z.ob Oc
  refine wB (uH Od rfl (wB (WC Od fun he Oe se=>wB (VV (wG (wG ?_))))))
  have ke:Kept ([i1]++[TO]++[i2]++[TO]) ha he:=(kc.then (.one sd)).then (.one se)
  have e1:S1 (i+1) he:=X1.frame _ _ _ b1 (away (l:=[TO]++[i2]++[TO]) (by simp [Z.of1,Z.bf1]) (((Kept.one sc).then (.one sd)).then (.one se)))
  have e2:S2 (i+1) he:=X2.frame _ _ _ d2 (away (by simp [Z.of2]) (.one se))
  have ze:he.objs.size=s.heap.objs.size:=se.1.trans (sd.1.trans (sc.1.trans (sb.1.trans za)))
  have oe:Zf he z TI TO .ellipsis u1:=ke z _ (by simp [Z.oz.symm,Z.az.symm,Z.bz.symm]) oa
  have zl:z<he.objs.size:=zN oe
  refine wB (uH Oe rfl (wB (UN (wB (put (s:={ s with heap:=he.push { cls:=.type "tuple",data:=.seq #[x,y] },toks:=t2 }) (k:=0) (wD _ oe) (show 0<5 by decide) fun hg og kg zg=>qMP (k:=1) og (show 1<5 by decide) fun hk ok kk zk=>wG ⟨_,rfl,?_⟩)) (by show 2<=sizeLine; decide))))
  have up:Kept [z] he hk:=fun b u n q=>kk b u (fun e=>n (e ▸ wK.mpr rfl)) (kg b u (fun e=>n (e ▸ wK.mpr rfl)) (wD _ q))
  have T:IsPair hk he.objs.size x y:=kk _ _ (gG zl) (kg _ _ (gG zl) (zF he rfl))
  have sz:hk.objs.size=he.objs.size+1:=zk.trans (zg.trans (uI ..))
  have Ok:IsPair hk TO x y:=up TO _ (by simp [Z.oz]) Oe
  show Q (.ref he.objs.size) _
  rw [ze] at T sz ⊢
  refine K hk t2 x y _ _ px py ⟨.inr ⟨he.objs.size,rfl⟩,false,rfl⟩ ok (fun _=>⟨by rw [ze],rfl,Ok⟩) ⟨_,_,Ok⟩ (X1.frame _ _ _ e1 (away (by simp [Z.zf1]) up)) (X2.frame _ _ _ e2 (away (by simp [Z.zf2]) up)) T sz ((((Kept.past ka).then ke).then up).sub ?_)
  simp only [zG,wK]
  rintro a h
  simp only [wM,wY,or_false]
  rcases h with (rfl | (((rfl | rfl) | rfl) | rfl)) | rfl <;> simp
 ·refine vA (fun q=>absurd q (by decide)) fun _=>wB ?_
  rw [<- Array.forIn_toList]; simp only [kH,fH]
  have a1:S1 i h0:=X1.frame _ _ _ g1 (away (by simp [Z.zf1]) (.past k0))
  have a2:S2 i h0:=X2.frame _ _ _ g2 (away (by simp [Z.zf2]) (.past k0))
  refine wB (wB (yM (wB (m:=yQ (.ref i1)) (X1.item i { s with heap:=h0 } _ _ l1 a1 fun x hb t px b1 sb=>wG (wG ?_)))))
  have b2:S2 i hb:=X2.frame _ _ _ a2 (away (by simp [Z.af2]) (.one sb))
  refine wB (wB (yM (wB (m:=yQ (.ref i2)) (X2.item i { s with heap:=hb,toks:=t } _ _ l2 b2 fun y hd t2 py d2 sd=>wG (wG (wG ?_))))))
  refine wB (UN (wG ⟨_,rfl,?_⟩) (by show 2<=sizeLine; decide))
  have kd:Kept ([z]++[i1]++[i2]) s.heap hd:=((Kept.past k0).then (.one sb)).then (.one sd)
  have zd:hd.objs.size=s.heap.objs.size:=sd.1.trans (sb.1.trans z0)
  have od:Zf hd z TI TO v0 (.bool true):=((Kept.one sb).then (.one sd)) z _ (by simp [Z.az.symm,Z.bz.symm]) o0
  have d1:S1 (i+1) hd:=X1.frame _ _ _ b1 (away (by simp [Z.bf1]) (.one sd))
  have Od:IsPair hd TO c d:=kd TO _ (by simp [Z.oz,Z.oa,Z.ob]) hO
  have new:Kept [] hd (hd.push { cls:=.type "tuple",data:=.seq #[x,y] }):=.new _ _
  have T:IsPair (hd.push { cls:=.type "tuple",data:=.seq #[x,y] }) hd.objs.size x y:=zF hd rfl
  show Q (.ref hd.objs.size) _
  rw [zd] at T ⊢
  refine K _ t2 x y _ _ px py own' (new z _ (by simp) od) (fun q=>absurd q nn) ⟨_,_,new TO _ (by simp) Od⟩ (X1.frame _ _ _ d1 (away (by simp) new)) (X2.frame _ _ _ d2 (away (by simp) new)) T (by rw [uI,zd]) ((kd.then new).sub ?_)
  simp only [zG,wK]
  rintro a h
  simp only [wM,wY,or_false] at h ⊢
  rcases h with (rfl | rfl) | rfl <;> simp
theorem qHs {i:Nat} {c d u0 u1:Value} {Q:Fin->Shared->Prop} (X1:Draws prog w A i1 f1 n1 P1 S1) (X2:Draws prog w A i2 f2 n2 P2 S2) (Z:ZA z TI TO i1 i2 f1 f2) (l:i=n1\/(i<n1/\i=n2))
  (o:Zf s.heap z TI TO u0 u1) (own:qIz u0 u1) (hI:IsPair s.heap TI (.ref i1) (.ref i2)) (hO:IsPair s.heap TO c d) (g1:S1 i s.heap) (g2:S2 i s.heap)
  (K:∀ h' t e,Kept [z,TO,i1,i2] s.heap h'->(∃ o,h'.get? e=some o/\o.cls=.type "StopIteration")->E (.ref e) { s with heap:=h',toks:=t }):wpAny (model prog w) A (Builtin.«zip.__next__» ⟨[uM z],[]⟩) Q E s:=by
 have away:∀{l f:List Addr},(∀ a∈l,a∉f)->∀{h h':Heap},Kept l h h'->∀ b∈f,∀ u,h.get? b=some u->h'.get? b=some u:=fun apart _ _ k b hb u y=>k b u (fun q=>apart b q hb) y
 have ext:∀{a:Addr} {h h':Heap},Heap.ExtBut a h h'->Kept [a] h h':=fun x=>.past x
 refine wB (gW (a:=(.ref z,[])) rfl (ask (k:=2) o rfl (ask (k:=3) o rfl (wB (uH hI rfl (vA (fun q=>absurd q (by simp)) fun _=>wB (held? own o ?_ fun nn h0 v0 own' o0 k0 z0=>?_)))))))
 ·refine vA (fun _=>wB (fG (ask (k:=4) o rfl (put (k:=0) o (show 0<5 by decide) fun ha oa ka za=>wB ?_)))) fun q=>absurd rfl q
  simp only [List.zipIdx_cons,kH,List.zipIdx_nil,fH]
  have a1:S1 i ha:=X1.frame _ _ _ g1 (away (by simp [Z.zf1]) (.past ka))
  have a2:S2 i ha:=X2.frame _ _ _ g2 (away (by simp [Z.zf2]) (.past ka))
  have shut:∀{hx:Heap} {t:Nat} {e:Addr} {m:List Addr},Kept m ha hx->z∉m->(∀ a∈m,a∈[z,TO,i1,i2])->(∃ o,hx.get? e=some o/\o.cls=.type "StopIteration")->wpAny (model prog w) A (setField (.ref z) 0 .none) (fun _ s''=>E (.ref e) s'') E { s with heap:=hx,toks:=t }:=fun {hx t e m} km nz sub ⟨u,hu,cu⟩=>by
   have ox:Zf hx z TI TO .ellipsis u1:=km z _ nz oa
   have ez:e≠z:=fun q=>by rw [q,ox] at hu; cases hu; simp at cu
   refine qMP ox (show 0<5 by decide) fun hy _ ky _=>K hy t e ((((Kept.past ka).then km).then (.past ky)).sub ?_) ⟨u,ky e u ez hu,cu⟩
   intro a h
   obtain h | h:=zG.mp h
   ·obtain h | h:=zG.mp h
    ·simp [wK.mp h]
    ·exact sub a h
   ·simp [wK.mp h]
  rcases l with rfl | ⟨l,rfl⟩
  ·exact wB (wB (fV (wB (m:=yQ (.ref i1)) (X1.done { s with heap:=ha } _ _ a1 fun hb e sb stop=>shut (ext sb) (by simp [Z.az.symm]) (by simp) stop))))
  ·refine wB (wB (fV (wB (m:=yQ (.ref i1)) (X1.item i { s with heap:=ha } _ _ l a1 fun x hb t px b1 sb=>wG ?_))))
   have Ob:IsPair hb TO c d:=((Kept.past ka).then (.one sb)) TO _ (by simp [Z.oz,Z.oa]) hO
   refine wB (uH Ob rfl (wB (WC Ob fun hc Oc sc=>wB (VV (wG ?_)))))
   have kc:Kept ([i1]++[TO]) ha hc:=(Kept.one sb).then (.one sc)
   have c2:S2 i hc:=X2.frame _ _ _ a2 (away (by simp [Z.af2,Z.of2]) kc)
   exact wB (wB (fV (wB (m:=yQ (.ref i2)) (X2.done { s with heap:=hc,toks:=t } _ _ c2 fun hd e sd stop=>shut (kc.then (ext sd)) (by simp [Z.oz.symm,Z.az.symm,Z.bz.symm]) (by simp) stop))))
 ·refine vA (fun q=>absurd q (by decide)) fun _=>wB ?_
  rw [<- Array.forIn_toList]; simp only [kH,fH]
  have a1:S1 i h0:=X1.frame _ _ _ g1 (away (by simp [Z.zf1]) (.past k0))
  have a2:S2 i h0:=X2.frame _ _ _ g2 (away (by simp [Z.zf2]) (.past k0))
  rcases l with rfl | ⟨l,rfl⟩
  ·exact wB (wB (yM (wB (m:=yQ (.ref i1)) (X1.done { s with heap:=h0 } _ _ a1 fun hb e sb stop=>K hb s.toks e (((Kept.past k0).then (ext sb)).sub (by simp)) stop))))
  ·refine wB (wB (yM (wB (m:=yQ (.ref i1)) (X1.item i { s with heap:=h0 } _ _ l a1 fun x hb t px b1 sb=>wG (wG ?_)))))
   have b2:S2 i hb:=X2.frame _ _ _ a2 (away (by simp [Z.af2]) (.one sb))
   exact wB (wB (yM (wB (m:=yQ (.ref i2)) (X2.done { s with heap:=hb,toks:=t } _ _ b2 fun hd e sd stop=>K hd t e ((((Kept.past k0).then (.one sb)).then (ext sd)).sub (by simp)) stop))))
end
end L2
namespace L2
open PySem PySem.Spec PyProof.Rows
section
variable {prog:Program} {w:World} {A:Around} {E:Value->Shared->Prop} {s:Shared} {z TI TO i1 i2:Addr} {f1 f2:List Addr} {n1 n2:Nat} {P1 P2:Nat->Value->Prop} {S1 S2:Nat->Heap->Prop}
theorem Kept.four {h h':Heap} (k:Kept [z,TO,i1,i2] h h'):∀ b o,b≠z->b≠TO->b≠i1->b≠i2->h.get? b=some o->h'.get? b=some o:=fun b o c1 c2 c3 c4 y=>k b o (by simp [c1,c2,c3,c4]) y
theorem qDm {i:Nat} {c d u0 u1:Value} {Q:Option Value->Shared->Prop} (X1:Draws prog w A.in1 i1 f1 n1 P1 S1) (X2:Draws prog w A.in1 i2 f2 n2 P2 S2) (Z:ZA z TI TO i1 i2 f1 f2) (o:Zf s.heap z TI TO u0 u1) (own:qIz u0 u1) (hI:IsPair s.heap TI (.ref i1) (.ref i2)) (hO:IsPair s.heap TO c d) (g1:S1 i s.heap) (g2:S2 i s.heap)
  (more:i<n1->i<n2->∀ h' t x y v0 v1,P1 i x->P2 i y->qIz v0 v1->Zf h' z TI TO v0 v1->(u0=.none->v0=rawInt s.heap.objs.size/\v1=.bool false/\IsPair h' TO x y)->(∃ c d,IsPair h' TO c d)->S1 (i+1) h'->S2 (i+1) h'->IsPair h' s.heap.objs.size x y->h'.objs.size=s.heap.objs.size+1->Kept [z,TO,i1,i2] s.heap h'->Q (some (.ref s.heap.objs.size)) { s with heap:=h',toks:=t })
  (over:¬ (i<n1/\i<n2)->∀ h' t,Kept [z,TO,i1,i2] s.heap h'->Q none { s with heap:=h',toks:=t }) (le:i<=n1/\(i<n1->i<=n2)):wpAny (model prog w) A (pyNext (uM z)) Q E s:=by
 have ty:s.TypeIs (.ref z) "zip":=⟨_,o,rfl⟩
 refine wB (UZ (vX (name:=uR "__next__") ty F.slot_zip_next (vD F.slot_zip_next ty F.entry_zip_next ?_ (F.args_zip_next_1 _))))
 by_cases both:i<n1/\i<n2
 ·exact qHO X1 X2 Z both.1 both.2 o own hI hO g1 g2 fun h' t x y v0 v1 a1 a2 a3 a4 a5 a6 a7 a8 a9 b1 b2=>wG (more both.1 both.2 h' t x y v0 v1 a1 a2 a3 a4 a5 a6 a7 a8 a9 b1 b2)
 ·exact qHs X1 X2 Z ((Nat.lt_or_ge i n1).elim (fun q=>.inr ⟨q,gY (le.2 q) (xN fun y=>both ⟨q,y⟩)⟩) fun q=>.inl (gY le.1 q)) o own hI hO g1 g2 fun h' t e kk ⟨u,hu,cu⟩=>wB (VS (T:="StopIteration") (b:=true) ⟨u,hu,cu⟩ isSubtype_stop (wG (over both h' t kk)))
theorem qC5 {i:Nat} {c d:Value} {Q:Option Value->Shared->Prop} (X1:Draws prog w A.in1 i1 f1 n1 P1 S1) (X2:Draws prog w A.in1 i2 f2 n2 P2 S2) (Z:ZA z TI TO i1 i2 f1 f2) (l1:i<n1) (l2:i<n2)
  (hz:IsZip s.heap z TI TO .none) (hI:IsPair s.heap TI (.ref i1) (.ref i2)) (hO:IsPair s.heap TO c d) (g1:S1 i s.heap) (g2:S2 i s.heap)
  (k:∀ h' tk x y,P1 i x->P2 i y->IsZip h' z TI TO (rawInt s.heap.objs.size)->IsPair h' TO x y->S1 (i+1) h'->S2 (i+1) h'->IsPair h' s.heap.objs.size x y->h'.objs.size=s.heap.objs.size+1->
   (∀ b o,b≠z->b≠TO->b≠i1->b≠i2->s.heap.get? b=some o->h'.get? b=some o)->Q (some (.ref s.heap.objs.size)) { s with heap:=h',toks:=tk }):wpAny (model prog w) A (pyNext (uM z)) Q E s:=by
 refine qDm X1 X2 Z hz ⟨.inl rfl,false,rfl⟩ hI hO g1 g2 (fun _ _ h' t x y v0 v1 a1 a2 _ a4 a5 _ a7 a8 a9 b1 b2=>?_) (fun q=>absurd ⟨l1,l2⟩ q) ⟨vI l1,fun _=>vI l2⟩
 obtain ⟨rfl,rfl,o⟩:=a5 rfl
 exact k h' t x y a1 a2 a4 o a7 a8 a9 b1 b2.four
theorem qEG {i:Nat} {c d:Value} {Q:Option Value->Shared->Prop} (X1:Draws prog w A.in1 i1 f1 n1 P1 S1) (X2:Draws prog w A.in1 i2 f2 n2 P2 S2) (Z:ZA z TI TO i1 i2 f1 f2) (l:i=n1\/(i<n1/\i=n2))
  (hz:IsZip s.heap z TI TO .none) (hI:IsPair s.heap TI (.ref i1) (.ref i2)) (hO:IsPair s.heap TO c d) (g1:S1 i s.heap) (g2:S2 i s.heap)
  (k:∀ h' tk,(∀ b o,b≠z->b≠TO->b≠i1->b≠i2->s.heap.get? b=some o->h'.get? b=some o)->Q none { s with heap:=h',toks:=tk }):wpAny (model prog w) A (pyNext (.ref z)) Q E s:=
 qDm X1 X2 Z hz ⟨.inl rfl,false,rfl⟩ hI hO g1 g2 (fun q1 q2=>l.elim (fun z=>absurd q1 (z ▸ vY _)) fun z=>absurd q2 (z.2 ▸ vY _)) (fun _ h' t kk=>k h' t kk.four) (l.elim (fun z=>⟨xP z,fun q=>absurd q (z ▸ vY _)⟩) fun z=>⟨vI z.1,fun _=>xP z.2⟩)
end
noncomputable def Itz (l1 l2:Addr):It:=
 ⟨fun i H=>∃ xs ys x y,H l1=some (.tup xs)/\H l2=some (.tup ys)/\xs[i]? = some x/\ys[i]? = some y,
  fun i H v H'=>∃ T,v=.ref T/\H T=none/\∀ xs ys x y,H l1=some (.tup xs)->H l2=some (.tup ys)->xs[i]? = some x->ys[i]? = some y->H'=upd H T (.tup [x,y]),
  fun i H=>∃ xs ys,H l1=some (.tup xs)/\H l2=some (.tup ys)/\(xs.length=i\/(i<xs.length/\ys.length=i))⟩
structure ZD (z TI TO i1 i2:Addr):Prop where
 tz:TI≠z
 oz:TO≠z
 az:i1≠z
 bz:i2≠z
 tO:TI≠TO
 ta:TI≠i1
 tb:TI≠i2
 oa:TO≠i1
 ob:TO≠i2
 ab:i1≠i2
noncomputable def ZSt (z TI TO i1 i2 l1 l2:Addr) (i:Nat) (h:Heap):Prop:=IsZip h z TI TO .none/\IsPair h TI (.ref i1) (.ref i2)/\(∃ a b,IsPair h TO a b)/\h.IsTupleIter i1 l1 i/\h.IsTupleIter i2 l2 i
theorem ZD.za {z TI TO i1 i2 l1 l2:Addr} (D:ZD z TI TO i1 i2) {H:Hp} (hf:∀ b∈[z,TI,TO,i1,i2],H b=none) {o1 o2:HO} (h1:H l1=some o1) (h2:H l2=some o2):ZA z TI TO i1 i2 [i1,l1] [i2,l2]:=by
 have n1:∀ b∈[z,TI,TO,i1,i2],b≠l1:=fun b hb q=>by subst q; rw [hf b hb] at h1; cases h1
 have n2:∀ b∈[z,TI,TO,i1,i2],b≠l2:=fun b hb q=>by subst q; rw [hf b hb] at h2; cases h2
 refine ⟨D.tz,D.oz,D.az,D.bz,D.tO,D.ta,D.tb,D.oa,D.ob,D.ab,?_,?_,?_,?_,?_,?_⟩ <;> simp only [wM,wY,or_false,not_or]
 ·exact ⟨D.az.symm,n1 z (by simp)⟩
 ·exact ⟨D.bz.symm,n2 z (by simp)⟩
 ·exact ⟨D.oa,n1 TO (by simp)⟩
 ·exact ⟨D.ob,n2 TO (by simp)⟩
 ·exact ⟨D.ab,n2 i1 (by simp)⟩
 ·exact ⟨D.ab.symm,n1 i2 (by simp)⟩
theorem ZSt.obj {z TI TO i1 i2 l1 l2:Addr} {i:Nat} {h:Heap} (st:ZSt z TI TO i1 i2 l1 l2 i h):∀ b∈[z,TI,TO,i1,i2],∃ o,h.get? b=some o/\∀ v,o.data≠.cell v:=by
 obtain ⟨g1,g2,⟨a,c,g3⟩,⟨o4,e4,c4,d4⟩,⟨o5,e5,c5,d5⟩⟩:=st
 intro b hb
 simp only [wY,wM,or_false] at hb
 rcases hb with rfl | rfl | rfl | rfl | rfl
 ·exact ⟨_,g1,fun v q=>by cases (show Data.fields _=TL v from q)⟩
 ·exact ⟨_,g2,fun v q=>by cases (show Data.seq _ _=TL v from q)⟩
 ·exact ⟨_,g3,fun v q=>by cases (show Data.seq _ _=TL v from q)⟩
 ·exact ⟨_,e4,fun v q=>by rw [d4] at q; cases q⟩
 ·exact ⟨_,e5,fun v q=>by rw [d5] at q; cases q⟩
theorem qHN {P:Program} {w:World} {K:wJ} {es:List Expr} {kx:Nat} {tp:Pos} {z TI TO i1 i2:Addr} (l1 l2:Addr) (D:ZD z TI TO i1 i2) :
  Turn P w K (.Tuple es kx tp) (Itz l1 l2) [z,TI,TO,i1,i2] z (ZSt z TI TO i1 i2 l1 l2) where
 mem:=by simp
 obj:=fun i h st=>st.obj
 keep:=fun i h h' st kk=>by
  obtain ⟨g1,g2,⟨a,c,g3⟩,g4,g5⟩:=st
  exact ⟨kk z (by simp) _ g1,kk TI (by simp) _ g2,⟨a,c,kk TO (by simp) _ g3⟩,g4.at fun o e=>kk i1 (by simp) o e,g5.at fun o e=>kk i2 (by simp) o e⟩
 item:=by
  intro X hP hw hK hc i pins s σ H E I hf st hg
  subst hP hw hK
  obtain ⟨xs,ys,x,y,h1,h2,hx,hy⟩:=hg
  obtain ⟨it1,rv1,p1,z1⟩:=I.tuple (SqT.of (K:=X.K) h1)
  obtain ⟨it2,rv2,p2,z2⟩:=I.tuple (SqT.of (K:=X.K) h2)
  obtain ⟨u1,hu1,ru1⟩:=rv1.get hx
  obtain ⟨u2,hu2,ru2⟩:=rv2.get hy
  have hn:∀ b∈[z,TI,TO,i1,i2],H b=none:=fun b hb=>(hf b hb).1
  have Z:=D.za hn h1 h2
  have nl1:l1≠i1:=fun q=>by subst q; rw [hn l1 (by simp)] at h1; cases h1
  have nl2:l2≠i2:=fun q=>by subst q; rw [hn l2 (by simp)] at h2; cases h2
  have a1:i<it1.toArray.size:=by simpa using (wI.mp hu1).1
  have a2:i<it2.toArray.size:=by simpa using (wI.mp hu2).1
  obtain ⟨g1,g2,⟨a,c,g3⟩,g4,g5⟩:=id st
  have hh:X.A.in1.handled=none:=I.ok.hd hc
  refine qC5 (qDI hh i1 l1 nl1 it1.toArray) (qDI hh i2 l2 nl2 it2.toArray) Z a1 a2 g1 g2 g3 ⟨g4,p1⟩ ⟨g5,p2⟩ fun h' tk x' y' q1 q2 q3 q4 q5 q6 q7 q8 q9=>?_
  have ex':x'=u1:=by
   have q1':it1.toArray[i]? = some x':=q1
   rw [ZX,hu1] at q1'
   exact (zQ q1').symm
  have ey':y'=u2:=by
   have q2':it2.toArray[i]? = some y':=q2
   rw [ZX,hu2] at q2'
   exact (zQ q2').symm
  subst ex' ey'
  have hfr:H s.heap.objs.size=none:=I.hok.fresh (wO _)
  have nch:∀ b o,s.heap.get? b=some o->b≠s.heap.objs.size:=fun b o e=>yE (zN e)
  have kk:∀ b o,b∉[z,TO,i1,i2]->s.heap.get? b=some o->h'.get? b=some o:=fun b o hb e=>q9 b o (fun q=>hb (by simp [q])) (fun q=>hb (by simp [q])) (fun q=>hb (by simp [q])) (fun q=>hb (by simp [q])) e
  have ntr:∀ b u,H b=some u->b∉[z,TO,i1,i2]:=fun b u e hb=>by
   have:H b=none:=hn b (by simp only [wM,wY,or_false] at hb ⊢; rcases hb with q | q | q | q <;> simp [q])
   rw [this] at e
   cases e
  have I1:Inv X pins σ (upd H s.heap.objs.size (.tup [x,y])) { s with heap:=h',toks:=tk }:=by
   refine I.step (g':=s.gens) (d':=s.drawn) (ch:=[z,TO,i1,i2]) (fun b hb=>?_) (fun b o _ _ hb e _=>kk b o hb e) (fun b o _ _ hb e _=>⟨o.slots,kk b o hb e⟩) (fun b o _ e n=>by rw [qS (nch b o e)]; exact n)
    (fun b o hb e=>⟨o,kk b o hb e⟩) (fun b xs e=>qX.new hfr _ _ e) (fun b o u e=>qX.new hfr _ _ e) (fun b ps e=>⟨#[],by rw [qX.new hfr _ _ e]; simp⟩) (fun m hm=>?_) (fun b u e=>?_) I.bare
   ·have hb':b∈[z,TI,TO,i1,i2]:=by simp only [wM,wY,or_false] at hb ⊢; rcases hb with q | q | q | q <;> simp [q]
    obtain ⟨_,f1,_,f3,f4,f5⟩:=hf b hb'
    exact ⟨f3,f1,f4,f5⟩
   ·obtain ⟨o,es',ep,ho,r⟩:=hm
    refine ⟨o,es',ep,kk _ o (fun hb=>?_) ho,r⟩
    have hb':X.env.locals∈[z,TI,TO,i1,i2]:=by simp only [wM,wY,or_false] at hb ⊢; rcases hb with q | q | q | q <;> simp [q]
    exact (hf _ hb').2.1 rfl
   ·by_cases hb:b=s.heap.objs.size
    ·subst hb
     rw [qN] at e
     cases e
     exact ⟨by show 2<=sizeLine; decide,[x',y'],.cons ru1 (.cons ru2 .nil),⟨_,q7,rfl,_,rfl⟩,fun o' e'=>by rw [q7] at e'; cases e'; rfl⟩
    ·rw [qS hb] at e
     refine (I.hok b u e).stay (fun c' v hc' q=>kk c' v ?_ q) (fun c' q=>qX.new hfr _ _ q) fun c' xs' q=>qX.new hfr _ _ q
     rcases hc' with q0 | q0
     ·rw [q0]; exact ntr b u e
     ·exact ntr c' _ q0
  refine ⟨.ref s.heap.objs.size,rfl,wpAny_letOwnedTupleGo_zip (s:={ s with heap:=h',toks:=tk }) q3 fun h'' z'' s''=>?_⟩
  have zs:z≠s.heap.objs.size:=nch z _ g1
  obtain ⟨_,f1,_,f3,f4,f5⟩:=hf z (by simp)
  refine ⟨.ref s.heap.objs.size,upd H s.heap.objs.size (.tup [x,y]),I1.turned (it:=z) (t':=tk) (fun b o hb e=>s''.extBut b o hb e) (by rw [qS zs]; exact hn z (by simp)) f1 f3 f4 f5,rfl,
   ⟨_,rfl,hfr,fun xs' ys' x'' y'' e1 e2 e3 e4=>?_⟩,⟨z'',s''.extBut _ _ D.tz (q9 _ _ D.tz D.tO D.ta D.tb g2),⟨_,_,s''.extBut _ _ D.oz q4⟩,q5.1.at fun o e=>s''.extBut _ o D.az e,q6.1.at fun o e=>s''.extBut _ o D.bz e⟩,fun b hb=>?_⟩
  ·rw [h1] at e1
   rw [h2] at e2
   cases e1
   cases e2
   rw [hx] at e3
   rw [hy] at e4
   cases e3
   cases e4
   rfl
  ·obtain ⟨o,e,_⟩:=st.obj b hb
   rw [qS (nch b o e)]
   exact hn b hb
 done:=by
  intro X hP hw hK hc i pins s σ H E I hf st hg
  subst hP hw hK
  obtain ⟨xs,ys,h1,h2,hl⟩:=hg
  obtain ⟨it1,rv1,p1,z1⟩:=I.tuple (SqT.of (K:=X.K) h1)
  obtain ⟨it2,rv2,p2,z2⟩:=I.tuple (SqT.of (K:=X.K) h2)
  have hn:∀ b∈[z,TI,TO,i1,i2],H b=none:=fun b hb=>(hf b hb).1
  have Z:=D.za hn h1 h2
  have nl1:l1≠i1:=fun q=>by subst q; rw [hn l1 (by simp)] at h1; cases h1
  have nl2:l2≠i2:=fun q=>by subst q; rw [hn l2 (by simp)] at h2; cases h2
  obtain ⟨g1,g2,⟨a,c,g3⟩,g4,g5⟩:=id st
  have hh:X.A.in1.handled=none:=I.ok.hd hc
  have n1:=rv1.length
  have n2:=rv2.length
  have ll:i=it1.toArray.size\/(i<it1.toArray.size/\i=it2.toArray.size):=by
   simp only [wH]
   omega
  refine qEG (qDI hh i1 l1 nl1 it1.toArray) (qDI hh i2 l2 nl2 it2.toArray) Z ll g1 g2 g3 ⟨g4,p1⟩ ⟨g5,p2⟩ fun h' tk q9=>⟨rfl,?_⟩
  have kk:∀ b o,b∉[z,TO,i1,i2]->s.heap.get? b=some o->h'.get? b=some o:=fun b o hb e=>q9 b o (fun q=>hb (by simp [q])) (fun q=>hb (by simp [q])) (fun q=>hb (by simp [q])) (fun q=>hb (by simp [q])) e
  have ntr:∀ b u,H b=some u->b∉[z,TO,i1,i2]:=fun b u e hb=>by
   have:H b=none:=hn b (by simp only [wM,wY,or_false] at hb ⊢; rcases hb with q | q | q | q <;> simp [q])
   rw [this] at e
   cases e
  refine I.step (g':=s.gens) (d':=s.drawn) (t':=tk) (ch:=[z,TO,i1,i2]) (fun b hb=>?_) (fun b o _ _ hb e _=>kk b o hb e) (fun b o _ _ hb e _=>⟨o.slots,kk b o hb e⟩) (fun b o _ e n=>n)
   (fun b o hb e=>⟨o,kk b o hb e⟩) (fun b xs e=>e) (fun b o u e=>e) (fun b ps e=>⟨#[],by rw [e]; simp⟩) (fun m hm=>?_) (fun b u e=>?_) I.bare
  ·have hb':b∈[z,TI,TO,i1,i2]:=by simp only [wM,wY,or_false] at hb ⊢; rcases hb with q | q | q | q <;> simp [q]
   obtain ⟨_,f1,_,f3,f4,f5⟩:=hf b hb'
   exact ⟨f3,f1,f4,f5⟩
  ·obtain ⟨o,es',ep,ho,r⟩:=hm
   refine ⟨o,es',ep,kk _ o (fun hb=>?_) ho,r⟩
   have hb':X.env.locals∈[z,TI,TO,i1,i2]:=by simp only [wM,wY,or_false] at hb ⊢; rcases hb with q | q | q | q <;> simp [q]
   exact (hf _ hb').2.1 rfl
  ·refine (I.hok b u e).stay (fun c' v hc' q=>kk c' v ?_ q) (fun c' q=>q) fun c' xs' q=>q
   rcases hc' with q0 | q0
   ·rw [q0]; exact ntr b u e
   ·exact ntr c' _ q0
 self:=fun _ _ _ _ _ st h=>wpAny_pyIter_zip st.1 h
noncomputable abbrev zA (h:Heap) (l1:Addr):Heap:=h.push { cls:=.type "tuple_iterator",data:=.fields #[.ref l1,.int 0 0] }
noncomputable abbrev zB (h:Heap) (l1 l2:Addr):Heap:=(zA h l1).push { cls:=.type "tuple_iterator",data:=.fields #[.ref l2,.int 0 0] }
noncomputable abbrev zC (h:Heap) (l1 l2:Addr):Heap:=(zB h l1 l2).push { cls:=.type "tuple",data:=.seq #[.ref h.objs.size,.ref (zA h l1).objs.size] }
noncomputable abbrev zD (h:Heap) (l1 l2:Addr):Heap:=(zC h l1 l2).push { cls:=.type "tuple",data:=.seq #[.none,.none] }
noncomputable abbrev zE (h:Heap) (l1 l2:Addr):Heap:=(zD h l1 l2).push { cls:=.type "zip",data:=.fields #[.none,.bool false,.bool false,.ref (zB h l1 l2).objs.size,.ref (zC h l1 l2).objs.size] }
theorem qJv (l1 l2:Addr) (xs ys:Array Value) :
  Meets (Builtin.«zip.__new__» ⟨[.type "zip",.ref l1,.ref l2],[]⟩) (fun _ R s=>s.heap.IsTuple l1 xs/\s.heap.IsTuple l2 ys/\R (.ok (.ret (.ref (zD s.heap l1 l2).objs.size))) { s with heap:=zE s.heap l1 l2 }):=
 .of_wp fun prog w A R s hall=>by
  obtain ⟨hp,g,d,tk,os⟩:=s; obtain ⟨t1,t2,h⟩:=hall
  have hsub:=sub_zip
  have hL1:Heap.IsTuple (Shared.heap ⟨hp,g,d,tk,os⟩) l1 xs:=t1
  have hL2:Heap.IsTuple (Shared.heap ⟨hp.push { cls:=.type "tuple_iterator",data:=.fields #[.ref l1,.int 0 0] },g,d,tk,os⟩) l2 ys:=by
   obtain ⟨o,e,r⟩:=t2; exact ⟨o,wD _ e,r⟩
  wp_walk using fJ hL1,fJ hL2
  exact ⟨_,rfl,h⟩
section
variable {w:World} {prog:Program} {A:Around} {s:Shared} {E:Value->Shared->Prop}
theorem qFS {l1 l2:Addr} {xs ys:Array Value} {Q:Value->Shared->Prop} (t1:s.heap.IsTuple l1 xs) (t2:s.heap.IsTuple l2 ys)
  (k:∀ h' z TI TO i1 i2,ZD z TI TO i1 i2->ZSt z TI TO i1 i2 l1 l2 0 h'->(∀ b∈[z,TI,TO,i1,i2],s.heap.objs.size<=b)->(∀ c o,s.heap.get? c=some o->h'.get? c=some o)->Q (.ref z) { s with heap:=h' }) :
  wpAny (model prog w) A (call (ZN "zip") [.ref l1,.ref l2]) Q E s:=by
 refine callType_new F.called_zip (by decide) (F.typeCall_zip_2 _ _) (F.newCall_zip_2 _ _) (fun obj=>F.args_object_init_3 obj _ _) F.entry_zip_new (qJv l1 l2 xs ys) ⟨t1,t2,?_⟩
 generalize hn:s.heap.objs.size=n
 have e1:(zA s.heap l1).objs.size=n+1:=by rw [uI,hn]
 have e2:(zB s.heap l1 l2).objs.size=n+2:=by rw [uI,e1]
 have e3:(zC s.heap l1 l2).objs.size=n+3:=by rw [uI,e2]
 have e4:(zD s.heap l1 l2).objs.size=n+4:=by rw [uI,e3]
 have g5:(zE s.heap l1 l2).get? (zD s.heap l1 l2).objs.size=some _:=zF _ rfl
 have g4:(zE s.heap l1 l2).get? (zC s.heap l1 l2).objs.size=some _:=wD _ (zF _ rfl)
 have g3:(zE s.heap l1 l2).get? (zB s.heap l1 l2).objs.size=some _:=wD _ (wD _ (zF _ rfl))
 have g2:(zE s.heap l1 l2).get? (zA s.heap l1).objs.size=some _:=wD _ (wD _ (wD _ (zF _ rfl)))
 have g1:(zE s.heap l1 l2).get? s.heap.objs.size=some _:=wD _ (wD _ (wD _ (wD _ (zF _ rfl))))
 refine ⟨⟨_,g5,rfl⟩,k _ _ (zB s.heap l1 l2).objs.size (zC s.heap l1 l2).objs.size s.heap.objs.size (zA s.heap l1).objs.size ?_ ⟨g5,g3,⟨_,_,g4⟩,⟨_,g1,rfl,rfl⟩,⟨_,g2,rfl,rfl⟩⟩ ?_ fun c o q=>wD _ (wD _ (wD _ (wD _ (wD _ q))))⟩
 ·rw [e1,e2,e3,e4,hn]
  have ne:∀ a b:Nat,a≠b->n+a≠n+b:=fun a b h q=>h (Nat.add_left_cancel q)
  exact ⟨ne 2 4 (by decide),ne 3 4 (by decide),ne 0 4 (by decide),ne 1 4 (by decide),ne 2 3 (by decide),ne 2 0 (by decide),ne 2 1 (by decide),ne 3 0 (by decide),ne 3 1 (by decide),ne 0 1 (by decide)⟩
 ·rw [e1,e2,e3,e4,hn]
  intro b hb
  simp only [wY,wM,or_false] at hb
  rcases hb with q | q | q | q | q <;> rw [q] <;> first | exact yS _ _ | exact wO _
end
section
variable {X:Cx}
noncomputable def qM6 (ta:TA):TI:=fun σ H R=>ta σ H fun vs H1=>∃ l1 l2,vs=[.ref l1,.ref l2]/\(∃ xs,H1 l1=some (.tup xs))/\(∃ ys,H1 l2=some (.tup ys))/\R (Itz l1 l2) H1
theorem qGi {es:List Expr} {kx:Nat} {tp:Pos} {a b:Expr} {ta:TA} {p pos:Pos} (hg:Gl X "zip") (hm:X.mg "zip" = none) (ha:PA X [a,b] ta) (hs:starEach [a,b] X.env=[(false,eval a X.env),(false,eval b X.env)]:=by rfl) (hs2:starEach [b] X.env=[(false,eval b X.env)]:=by rfl) :
  PI X (.Tuple es kx tp) (.Call (.Name "zip" p) [a,b] [] pos) (qM6 ta):=by
 intro pins s σ H R I h
 refine Call_ (J3 I hg hm boot_zip (uA (thn (ha pos pins s σ H _ I h) fun us s1 ⟨vs,H1,I1,r1,q1⟩=>?_) (by rw [hs,hs2]) (by rw [hs2]; rfl)))
 obtain ⟨l1,l2,e,⟨xs,h1⟩,⟨ys,h2⟩,q⟩:=q1
 subst e
 obtain ⟨u,u',rfl,r2,r3⟩:=vals2 r1
 cases r2
 cases r3
 obtain ⟨it1,_,p1,_⟩:=I1.tuple (SqT.of (K:=X.K) h1)
 obtain ⟨it2,_,p2,_⟩:=I1.tuple (SqT.of (K:=X.K) h2)
 refine qFS p1 p2 fun h' z TI TO i1 i2 D st new kk=>?_
 refine wpAny_pyIter_zip st.1 ⟨z,[z,TI,TO,i1,i2],_,Itz l1 l2,H1,rfl,I1.kept (t':=s1.toks) kk,qHN l1 l2 D,st,fun b hb=>I1.fpOk (new b hb) (I1.hok.fresh (new b hb)),q⟩
end
end L2
namespace L2
open PySem PySem.Spec PyProof.Rows PySem.SeqAt
open PySem.AutoSeq1 (wpAny_loadPart')
theorem qFl {β:Type} (n:Nat) (b:β) (f:Nat->β->Sem (ForInStep β)):forIn [:n] b f=forIn (List.range' 0 n 1) b f:=by
 refine (Std.Legacy.Range.forIn_eq_forIn_range' ..).trans ?_
 simp [Std.Legacy.Range.size]
theorem qA5 (l:Addr) (items:Array Value) (n:Nat) (dd:Option Addr) (sl:Array (Option Value)) (x:Value) (e:Value->Bool) (j:Nat) (hj:j<items.size) (hit:e items[j]=true) (hno:∀ m (hm:m<items.size),m<j->e items[m]=false) :
  Meets (Builtin.«tuple.index» ⟨[.ref l,x],[]⟩)
   (fun A R s=>s.heap.get? l=some { cls:=.type "tuple",dict:=dd,data:=.seq items n,slots:=sl }/\(∀ y,y∈items->EqAt A.in1 s y x (e y))/\R (.ok (.ret (.int j s.toks))) { s with toks:=s.toks+1 }):=
 .of_wp fun prog w A R ⟨hp,g,d,tk,os⟩ ⟨told,he,h⟩=>by
  wp_walk using ZS told
  show wpAny (model prog w) A.in1 (forIn [:min items.size items.size] ((none:Option PySem.Fin),()) fun (i:Nat) _=>match items[i]? with
   | some y=>do
    let r <- eqBool y x
    if r=true then do
     let z <- retInt (i:Int); pure (ForInStep.done (some z,()))
    else pure (vZ (none,()))
   | _=>pure (vZ (none,()))) _ _ _
  rw [VB,qFl]
  have key:∀(k c:Nat),c+k=items.size->c<=j->wpAny (model prog w) A.in1 (forIn (List.range' c k 1) ((none:Option PySem.Fin),()) fun (i:Nat) _=>match items[i]? with
   | some y=>do
    let r <- eqBool y x
    if r=true then do
     let z <- retInt (i:Int); pure (ForInStep.done (some z,()))
    else pure (vZ (none,()))
   | _=>pure (vZ (none,())))
    (fun a s'=>wpAny (model prog w) A.in1 (match a.fst with | some r=>pure r | none=>do rule "tuple.index.not-found"; raiseErrorWords "ValueError" "tuple.index(x): x not in tuple") (fun fin s'=>∃ v,fin=Fin.done (Flow.ret v)/\R (Except.ok (Flow.ret v)) s') (fun e s'=>R (Except.error e) s') s')
    (fun e s'=>R (Except.error e) s') { heap:=hp,gens:=g,drawn:=d,toks:=tk,os:=os }:=by
   intro k
   induction k with
   | zero=>intro c h1 h2; omega
   | succ k ih=>
    intro c h1 h2
    have hc:c<items.size:=by omega
    simp only [List.range'_succ,kH]
    apply wB
    rw [zR hc]
    show wpAny _ _ (eqBool items[c] x >>= _) _ _ _
    refine wB (he _ (fQ hc) prog w _ _ ?_)
    by_cases hcj:c=j
    ·subst hcj
     rw [hit]
     wp_walk
     exact ⟨_,rfl,h⟩
    ·rw [hno c hc (by omega)]
     rw [if_neg wQ]; refine wG ?_
     exact ih (c+1) (by omega) (by omega)
  refine uV (key items.size 0 (by omega) (zZ _)) (fun a s' q=>?_) fun _ _ q=>q
  obtain ⟨o,u⟩:=a
  cases o with
  | some r=>exact q
  | none=>exact q
section
variable {X:Cx}
theorem qJk {pins:List (Addr×Obj)} {σ:St} {H:Hp} {s:Shared} {A:Around} {l:List D} {xs:List V} {its:List Value} {d:D} {x:V} {u:Value} (I:Inv X pins σ H s) (h:qY H l xs) (rv:jB xs its) (hd:Den H d x) (r:RelV x u) (hu:A.units+qL l<cLine) (hu2:A.units+qs d<cLine) :
  ∃ e:Value->Bool,(∀ w,w∈its->gQ A s w u (e w))/\∀(j:Nat) (w:Value) (c:D),its[j]? = some w->l[j]? = some c->e w=dEq c d:=by
 have key:∀(j:Nat) (w:Value),its[j]? = some w->∃ c,l[j]? = some c/\∃ y,xs[j]? = some y/\Den H c y/\RelV y w:=fun j w hw=>by
  have hj:j<xs.length:=by rw [rv.length]; exact (wI.mp hw).1
  obtain ⟨c,g1,g2⟩:=h.get (wA hj)
  obtain ⟨w',g3,g4⟩:=rv.get (wA hj)
  rw [hw] at g3
  cases g3
  exact ⟨c,g1,_,wA hj,g2,g4⟩
 have uniq:∀(w:Value) (c c':D) (y y':V),Den H c y->RelV y w->Den H c' y'->RelV y' w->c=c':=fun w c c' y y' h1 r1 h2 r2=>by
  have e:=r1.inj r2
  subst e
  exact Den.inj c c' y h1 h2
 classical
 refine ⟨fun w=>if hw:∃(c:D) (y:V),Den H c y/\RelV y w then dEq hw.choose d else false,fun w hw=>?_,fun j w c h1 h2=>?_⟩
 ·obtain ⟨j,hj,e⟩:=gZ hw
  obtain ⟨c,g1,y,g2,g3,g4⟩:=key j w (by rw [wA hj,e])
  have hex:∃(c:D) (y:V),Den H c y/\RelV y w:=⟨c,y,g3,g4⟩
  simp only [hex,dif_pos]
  obtain ⟨y',q1,q2⟩:=hex.choose_spec
  have:hex.choose=c:=uniq w _ _ _ _ q1 q2 g3 g4
  rw [this]
  exact Jj I l A hu j c g1 d _ _ _ _ g3 hd g4 r hu2
 ·obtain ⟨c',g1,y,g2,g3,g4⟩:=key j w h1
  rw [h2] at g1
  cases g1
  have hex:∃(c:D) (y:V),Den H c y/\RelV y w:=⟨c,y,g3,g4⟩
  simp only [hex,dif_pos]
  obtain ⟨y',q1,q2⟩:=hex.choose_spec
  have:hex.choose=c:=uniq w _ _ _ _ q1 q2 g3 g4
  rw [this]
noncomputable def Y0 (d:D) (l:List D) (j:Nat):Prop:=(∃ c,l[j]? = some c/\dEq c d=true)/\∀(m:Nat) (c:D),m<j->l[m]? = some c->dEq c d=false
noncomputable def qGK:V->List V->Hp->VK->Prop:=fun x vs H Q=>∃ l ds d y j,x=.ref l/\vs=[y]/\Den H (.lst ds) x/\Den H d y/\qL ds<=50/\qs d<=50/\Y0 d ds j/\Q (.int j) H
theorem Y1 (hu:X.A.units+64<cLine):MtM X "list.index" qGK:=by
 intro pins s σ H x vs v us Q I rx rv h
 obtain ⟨l,ds,d,y,j,rfl,rfl,hx,hd,hz,hz2,⟨⟨c,hc,hcd⟩,hno⟩,q⟩:=h
 cases rx
 obtain ⟨u,rfl,ru⟩:=rv.one
 obtain ⟨a,xs,ea,hH,hs⟩:=hx
 cases ea
 obtain ⟨z,its,n,r,hl,e⟩:=I.lstM hH
 have hu1:X.A.in1.units+qL ds<cLine:=by show X.A.units+1+qL ds<cLine; omega
 have hu2:X.A.in1.units+qs d<cLine:=by show X.A.units+1+qs d<cLine; omega
 obtain ⟨e',h1,h2⟩:=qJk (A:=X.A.in1) I hs r hd ru hu1 hu2
 have ld:=hs.length
 have hj:j<its.length:=by
  have:=(wI.mp hc).1
  omega
 have hn:=Yr
 refine gR F.slot_list_index ⟨_,e,rfl⟩ F.entry_list_index (F.args_list_index_2 _ _) (SeqAt.list_indexAt l its.toArray n none #[] u e' j (by rw [wH]; exact hj) (by omega) ?_ ?_) ⟨e,fun w hw=>h1 w (by simpa using hw),?_⟩
 ·simp only [xU]
  rw [h2 j _ c (wA hj) hc]
  exact hcd
 ·intro m hm hmj
  have hm':m<its.length:=by simpa using hm
  simp only [xU]
  have:m<ds.length:=by omega
  rw [h2 m _ _ (wA hm') (wA this)]
  exact hno m _ hmj (wA this)
 ·exact ⟨.int j,H,I.tok _,⟨_,rfl⟩,q⟩
noncomputable def qJz:V->List V->Hp->VK->Prop:=fun x vs H Q=>∃ l ds d y,x=.ref l/\vs=[y]/\Den H (.tup ds) x/\Den H d y/\qL ds<=50/\qs d<=50/\Q (.int (ds.countP fun c=>dEq c d:Nat)) H
theorem qIV {its:List Value} {ds:List D} {e:Value->Bool} {d:D}:∀{its:List Value} {ds:List D},its.length=ds.length->(∀(j:Nat) (w:Value) (c:D),its[j]? = some w->ds[j]? = some c->e w=dEq c d)->its.countP e=ds.countP fun c=>dEq c d
 | [],[],_,_=>rfl
 | [],_::_,h,_=>absurd h (by simp)
 | _::_,[],h,_=>absurd h (by simp)
 | w::its,c::ds,h,k=>by
  rw [List.countP_cons,List.countP_cons,k 0 w c rfl rfl,qIV (its:=its) (ds:=ds) (by simpa using h) fun j a b h1 h2=>k (j+1) a b (by simpa using h1) (by simpa using h2)]
theorem qKm (hu:X.A.units+64<cLine):MtM X "tuple.count" qJz:=by
 intro pins s σ H x vs v us Q I rx rv h
 obtain ⟨l,ds,d,y,rfl,rfl,hx,hd,hz,hz2,q⟩:=h
 cases rx
 obtain ⟨u,rfl,ru⟩:=rv.one
 obtain ⟨a,xs,ea,hH,hs⟩:=hx
 cases ea
 obtain ⟨zz,its,r,it,_⟩:=I.hok l _ hH
 have hu1:X.A.in1.units+qL ds<cLine:=by show X.A.units+1+qL ds<cLine; omega
 have hu2:X.A.in1.units+qs d<cLine:=by show X.A.units+1+qs d<cLine; omega
 obtain ⟨e',h1,h2⟩:=qJk (A:=X.A.in1) I hs r hd ru hu1 hu2
 have ld:=hs.length
 have lr:=r.length
 obtain ⟨o,e,hc,n,hdat⟩:=it
 rcases o with ⟨oc,od,odt,osl⟩
 cases (show oc=.type "tuple" from hc)
 cases (show odt=.seq its.toArray n from hdat)
 refine gR F.slot_tuple_count ⟨_,e,rfl⟩ F.entry_tuple_count (F.args_tuple_count_2 _ _) (SeqAt.tuple_countAt l its.toArray n od osl u e') ⟨e,fun w hw=>h1 w (by simpa using hw),?_⟩
 refine ⟨.int (ds.countP fun c=>dEq c d:Nat),H,I.tok _,⟨s.toks,?_⟩,q⟩
 rw [show its.toArray.toList=its by simp,qIV (its:=its) (ds:=ds) (d:=d) (by omega) h2]
noncomputable def qFt:V->List V->Hp->VK->Prop:=fun x vs H Q=>∃ l ds d y j,x=.ref l/\vs=[y]/\Den H (.tup ds) x/\Den H d y/\qL ds<=50/\qs d<=50/\Y0 d ds j/\Q (.int j) H
theorem Ya (hu:X.A.units+64<cLine):MtM X "tuple.index" qFt:=by
 intro pins s σ H x vs v us Q I rx rv h
 obtain ⟨l,ds,d,y,j,rfl,rfl,hx,hd,hz,hz2,⟨⟨c,hc,hcd⟩,hno⟩,q⟩:=h
 cases rx
 obtain ⟨u,rfl,ru⟩:=rv.one
 obtain ⟨a,xs,ea,hH,hs⟩:=hx
 cases ea
 obtain ⟨zz,its,r,it,_⟩:=I.hok l _ hH
 have hu1:X.A.in1.units+qL ds<cLine:=by show X.A.units+1+qL ds<cLine; omega
 have hu2:X.A.in1.units+qs d<cLine:=by show X.A.units+1+qs d<cLine; omega
 obtain ⟨e',h1,h2⟩:=qJk (A:=X.A.in1) I hs r hd ru hu1 hu2
 have ld:=hs.length
 have lr:=r.length
 have hj:j<its.length:=by
  have:=(wI.mp hc).1
  omega
 obtain ⟨o,e,hcl,n,hdat⟩:=it
 rcases o with ⟨oc,od,odt,osl⟩
 cases (show oc=.type "tuple" from hcl)
 cases (show odt=.seq its.toArray n from hdat)
 refine gR F.slot_tuple_index ⟨_,e,rfl⟩ F.entry_tuple_index (F.args_tuple_index_2 _ _) (qA5 l its.toArray n od osl u e' j (by rw [wH]; exact hj) ?_ ?_) ⟨e,fun w hw=>h1 w (by simpa using hw),?_⟩
 ·simp only [xU]
  rw [h2 j _ c (wA hj) hc]
  exact hcd
 ·intro m hm hmj
  have hm':m<its.length:=by simpa using hm
  simp only [xU]
  have:m<ds.length:=by omega
  rw [h2 m _ _ (wA hm') (wA this)]
  exact hno m _ hmj (wA this)
 ·exact ⟨.int j,H,I.tok _,⟨_,rfl⟩,q⟩
theorem qAQ (j:Int):gD 0 j 1=j.toNat:=by
 delta gD
 by_cases h:0<j
 ·rw [if_pos (by decide),if_pos h]; omega
 ·rw [if_pos (by decide),if_neg h]; omega
theorem qGA {n:Nat} {acc:Array Value} (h:ItemsOf (fun i v=>∃ t,v=.int (0+i*1) t) acc n):jB ((wV n).map fun k:Nat=>V.int k) acc.toList:=by
 obtain ⟨h1,h2⟩:=h
 have key:∀(m:Nat) (l:List Value) (c:Nat),l.length=m->(∀ j v,l[j]? = some v->∃ t,v=gC ((c+j:Nat):Int) t)->jB ((List.range' c m).map fun k:Nat=>V.int k) l:=by
  intro m
  induction m with
  | zero=>intro l c hl _; cases gE.mp hl; exact .nil
  | succ m ih=>
   intro l c hl hv
   cases l with
   | nil=>simp at hl
   | cons v l=>
    rw [List.range'_succ,uW]
    obtain ⟨t,e⟩:=hv 0 v rfl
    refine .cons ⟨t,by rw [e]; rfl⟩ (ih l (c+1) (by simpa using hl) fun j w hw=>?_)
    obtain ⟨t,e⟩:=hv (j+1) w (by simpa using hw)
    exact ⟨t,by rw [e]; congr 2; omega⟩
 rw [List.range_eq_range']
 refine key n acc.toList 0 (by simpa using h1) fun j v hj=>?_
 obtain ⟨t,e⟩:=h2 j v (by simpa using hj)
 exact ⟨t,by rw [e]; congr 1; omega⟩
noncomputable def qCx:List V->Hp->VK->Prop:=fun xs H Q=>∃ j:Int,xs=[.int j]/\∀ p,H p=none->Q (.ref p) (upd H p (.rng 0 j))
theorem jh:QJ X (.type "range") qCx:=by
 intro pins s σ H xs us Q I r h
 obtain ⟨j,rfl,q⟩:=h
 obtain ⟨u,rfl,ru⟩:=vals1 r
 obtain ⟨t,rfl⟩:=ru
 refine call_range_1 ?_
 refine ⟨.ref s.heap.objs.size,_,I.laid (t':=s.toks+1+1) (o:=.rng 0 j) (fun b ob q=>wD _ q) (wO _) ?_,rfl,q _ (I.hok.fresh (wO _))⟩
 exact ⟨_,_,_,zF _ rfl⟩
noncomputable def qDC:List V->Hp->VK->Prop:=fun xs H Q=>∃(p:Addr) (j:Int),xs=[.ref p]/\H p=some (.rng 0 j)/\j<=1000/\-(2 ^ 62)<=j/\∀ l,H l=none->Q (.ref l) (upd H l (.lst ((wV j.toNat).map fun k:Nat=>V.int k)))
theorem QM (hc:X.calm=true):QJ X (.type "list") qDC:=by
 intro pins s σ H xs us Q I r h
 obtain ⟨p,j,rfl,hp,h1,h2,q⟩:=h
 obtain ⟨u,rfl,ru⟩:=vals1 r
 cases ru
 obtain ⟨t,u',v,e⟩:=I.hok p _ hp
 have hh:X.A.handled=none:=I.ok.hd hc
 refine call_list_range (n:=j.toNat) hh e ?_ (qAQ j) (by omega) fun h' tk acc' c' hk hS hacc=>?_
 ·have hb:gD 0 j 1=j.toNat:=qAQ j
  unfold Builtin.Range.small
  rw [hb]
  simp only [Builtin.Range.rangeFitsLong,zX,Bool.or_eq_true,decide_eq_true_eq,beq_iff_eq,show ((1:Int) > 0) by decide,if_true]
  omega
 ·refine ⟨.ref s.heap.objs.size,_,I.laid (t':=tk) (o:=.lst ((wV j.toNat).map fun k:Nat=>V.int k)) hk (wO _) ?_,rfl,q _ (I.hok.fresh (wO _))⟩
  have hv:=qGA hacc
  refine ⟨?_,acc'.toList,c',hv,?_⟩
  ·rw [wC,yN]
   exact zO (by omega:j.toNat<=1000) (vI (qI (wO _)))
  ·rw [hS]
end
end L2
namespace L2
open PySem PySem.Spec PyProof.Rows
section
variable {X:Cx} {K:wJ}
noncomputable def qMx (K:wJ) (rL rT:V->List V->Hp->VK->Prop) (to:TE) (t:TA):TE:=fun σ H Q=>to σ H fun x H1=>((∃ a xs,x=.ref a/\SqL K H1 a xs)/\t σ H1 fun vs H2=>rL x vs H2 Q)\/((∃ a xs,x=.ref a/\H1 a=some (.tup xs))/\t σ H1 fun vs H2=>rT x vs H2 Q)
variable {o e:Expr} {es:List Expr} {to:TE} {t:TA} {name:Str} {apos cpos:Pos} {idL idT:String} {rL rT:V->List V->Hp->VK->Prop}
theorem qFp (h:X.K=K) (paL:PlainAttrs "list") (qFT:Slot "list" name idL) (htyL:typeOf (.builtin idL)=pure (.type "method_descriptor")) (hmL:MtM X idL rL) (paT:PlainAttrs "tuple") (slotT:Slot "tuple" name idT) (htyT:typeOf (.builtin idT)=pure (.type "method_descriptor")) (hmT:MtM X idT rT)
  (ho:PE X o to) (ha:PA X (e::es) t)
  (hbase:attributeBase o name X.env (eval o X.env)=eval o X.env:=by rfl)
  (hfew:((backTo cpos (starEach (e::es) X.env)).all (fun x=>!x.1) && (backToKw cpos (keywordEach [] X.env)).all (fun x=>x.1.isSome)
   && decide ((e::es).length+([]:List Keyword).length+(if ([]:List Keyword).isEmpty then 0 else 1)<30))=true:=by rfl)
  (hline:(apos.endLine == cpos.line)=true:=by rfl) (hs:starEach (e::es) X.env=(false,eval e X.env)::starEach es X.env:=by rfl) (hplain:(backTo cpos (starEach es X.env)).any (·.1)=false:=by rfl) :
  PE X (.Call (.Attribute o name apos) (e::es) [] cpos) (qMx K rL rT to t):=by
 subst h
 intro pins s σ H Q I h
 refine wpAny_Call_method_late hbase hfew hline rfl (thn (ho pins s σ H _ I h) fun v s1 ⟨x,H1,I1,r1,q1⟩=>?_)
 rcases q1 with ⟨⟨a,xs,rfl,ty⟩,q1⟩ | ⟨⟨a,xs,rfl,ty⟩,q1⟩
 ·obtain ⟨h1,h2⟩:=qIG (T:="list") I1 r1 (.inl ⟨rfl,xs,ty⟩)
  refine ⟨"list",idL,paL,qFT,htyL,h1,h2,?_⟩
  have hA:=ha cpos pins s1 σ H1 _ I1 q1
  rw [hs] at hA ⊢
  refine ZP (by show (false || (backTo cpos (starEach es X.env)).any (·.1))=false; rw [hplain] <;> rfl) (WB ?_)
  exact thn hA fun us s2 ⟨vs,H2,I2,r2,q2⟩=>hmL pins s2 σ H2 _ vs v us Q I2 r1 r2 q2
 ·cases r1
  obtain ⟨_,its,r,⟨ob,e1,e2,n,e3⟩,nd⟩:=I1.hok a _ ty
  refine ⟨"tuple",idT,paT,slotT,htyT,⟨ob,e1,e2⟩,fun b z=>?_,?_⟩
  ·cases z
   exact ⟨ob,e1,nd ob e1⟩
  have hA:=ha cpos pins s1 σ H1 _ I1 q1
  rw [hs] at hA ⊢
  refine ZP (by show (false || (backTo cpos (starEach es X.env)).any (·.1))=false; rw [hplain] <;> rfl) (WB ?_)
  exact thn hA fun us s2 ⟨vs,H2,I2,r2,q2⟩=>hmT pins s2 σ H2 (V.ref a) vs (.ref a) us Q I2 rfl r2 q2
end
theorem qAI:∀{bs:List Bool} {us:List Value},jB (bs.map V.bl) us->us.length=bs.length/\∀(i:Nat) (v:Value),us[i]? = some v->∃ k,bs[i]? = some k/\v=.bool k
 | [],us,r=>by
  cases r
  exact ⟨rfl,fun i v e=>by cases e⟩
 | b::bs,us,r=>by
  cases r with
  | cons r1 r2=>
   cases r1
   obtain ⟨l,h⟩:=qAI r2
   refine ⟨congrArg (· + 1) l,fun i v e=>?_⟩
   cases i with
   | zero=>
    cases e
    exact ⟨b,rfl,rfl⟩
   | succ i=>exact h i v e
theorem qAT:∀ bs:List Bool,((wV bs.length).any fun i=>(bs[i]?).getD false)=bs.any id
 | []=>rfl
 | b::bs=>by
  rw [yG,List.range_succ_eq_map,hW,gI,hW,<- qAT bs]
  rfl
noncomputable def qLS:List V->Hp->VK->Prop:=fun xs H Q=>∃(p:Addr) (bs:List Bool),xs=[.ref p]/\H p=some (.lst (bs.map V.bl))/\Q (.bl (bs.any id)) H
theorem QU {X:Cx} (hc:X.calm=true):QJ X (.builtin "any") qLS:=by
 intro pins s σ H xs us Q I r h
 obtain ⟨p,bs,rfl,hp,q⟩:=h
 obtain ⟨u,rfl,rx⟩:=vals1 r
 cases rx
 obtain ⟨its,rv,pl,hzz⟩:=I.list (SqL.of (K:=X.K) hp)
 obtain ⟨len,item⟩:=qAI rv
 have old:p<s.heap.objs.size:=by
  obtain ⟨_,e,_⟩:=pl.isList
  exact zN e
 refine call_any_walk (fP pl.isList ⟨s.heap.objs.size,[s.heap.objs.size,p],[s.heap.objs.size],its.toArray.size,_,_,fun i=>(bs[i]?).getD false,rfl,Walks.list (A:=X.A.in1) (I.ok.hd hc) _ p (yE old) its.toArray,⟨⟨_,zF _ rfl,rfl,rfl⟩,pl.isList.push _⟩,fun i v s' Q' E' hP hQ=>?_,fun h' tk hk=>?_⟩)
 ·obtain ⟨k,ek,rfl⟩:=item i v (by simpa using hP)
  replace hQ:Q' ((bs[i]?).getD false) s':=hQ
  rw [ek] at hQ
  exact wG hQ
 ·have e:((wV its.toArray.size).any fun i=>(bs[i]?).getD false)=bs.any id:=by
   rw [wH,len]
   exact qAT bs
  rw [e]
  exact ⟨.bl _,H,I.kept (LSm.kept_iter hk),rfl,q⟩
section
variable {X:Cx}
noncomputable def qKf:R2:=fun x y H Q=>∃ a b,x=.bl a/\y=.bl b/\Q (.bl (a != b)) H
theorem qE0:OpR X (compareOp .IsNot) qKf:=by
 intro pins s σ H x y v u Q I rx ry h
 obtain ⟨a,b,rfl,rfl,q⟩:=h
 cases rx
 cases ry
 exact isnot_bool ⟨.bl (a != b),H,I,rfl,q⟩
end
theorem JB {α:Type} (l:List α) (d:α):(wV l.length).map (fun i=>l.getD i d)=l:=by
 apply xW
 intro i
 rw [wL]
 by_cases h:i<l.length
 ·rw [wA h]
  simp [h]
 ·rw [vH (by simpa using h)]
  simp [h]
noncomputable abbrev Cx.inner (X:Cx) (pn:List (Addr×Obj)) (E:Value->Shared->Prop):Cx:={ X with pn:=pn,xe:=E }
end L2
namespace L2
open PySem
end L2
namespace L2
open PySem PySem.Spec PyProof.Rows
end L2
namespace LSo
open PySem PySem.W PyProof.Rows
theorem qGS:∀ a:List Int,HT.lexLt a a=false
 | []=>rfl
 | x::a=>by rw [HT.lexLt_cons,if_pos rfl]; exact qGS a
theorem lex_trans:∀ a b c:List Int,HT.lexLt a b=true->HT.lexLt b c=true->HT.lexLt a c=true
 | [],b,[],h1,h2=>by cases b <;> cases h2
 | [],_,_::_,_,_=>rfl
 | _::_,[],_,h1,_=>by cases h1
 | _::_,_::_,[],_,h2=>by cases h2
 | x::a,y::b,z::c,h1,h2=>by
  rw [HT.lexLt_cons] at h1 h2 ⊢
  by_cases e1:x=y
  ·rw [if_pos e1] at h1
   by_cases e2:y=z
   ·rw [if_pos e2] at h2
    rw [if_pos (e1.trans e2)]
    exact lex_trans a b c h1 h2
   ·rw [if_neg e2] at h2
    rw [if_neg (fun z'=>e2 (e1.symm.trans z'))]
    have:=of_decide_eq_true h2
    refine decide_eq_true ?_
    omega
  ·rw [if_neg e1] at h1
   have h1':=of_decide_eq_true h1
   by_cases e2:y=z
   ·rw [if_neg (by omega)]
    refine decide_eq_true ?_
    omega
   ·rw [if_neg e2] at h2
    have:=of_decide_eq_true h2
    rw [if_neg (by omega)]
    refine decide_eq_true ?_
    omega
theorem qCg:∀ a b:List Int,HT.lexLt a b=false->HT.lexLt b a=false->a=b
 | [],[],_,_=>rfl
 | [],_::_,hq,_=>by cases hq
 | _::_,[],_,hq=>by cases hq
 | x::a,y::b,h1,h2=>by
  rw [HT.lexLt_cons] at h1 h2
  by_cases e:x=y
  ·rw [if_pos e] at h1
   rw [if_pos e.symm] at h2
   rw [e,qCg a b h1 h2]
  ·rw [if_neg e] at h1
   rw [if_neg (fun z=>e z.symm)] at h2
   have a1:=of_decide_eq_false h1
   have a2:=of_decide_eq_false h2
   omega
theorem qJZ (a b c:List Int) (h:HT.lexLt a c=true):HT.lexLt a b=true\/HT.lexLt b c=true:=by
 cases h1:HT.lexLt a b with
 | true=>exact .inl rfl
 | false=>
  right
  cases h2:HT.lexLt b a with
  | true=>exact lex_trans _ _ _ h2 h
  | false=>rw [<- qCg a b h1 h2]; exact h
noncomputable def qNZ:KeyOrd:=⟨List Int,HT.lexLt,qGS,lex_trans,qJZ,qCg⟩
section
variable {O:KeyOrd} {key:Nat->O.α} {N:Nat} {cmp:Nat->Nat->(Bool->Shared->Prop)->Shared->Prop} {s:Shared}
noncomputable def qMg (key:Nat->O.α) (N:Nat) (cmp:Nat->Nat->(Bool->Shared->Prop)->Shared->Prop) (s:Shared):Prop:=∀ i j C,i<N->j<N->C (O.blt (key i) (key j)) s->cmp i j C s
structure Pm (N:Nat) (p:Array Nat):Prop where
 pm:p.Perm (gJ (wV N))
theorem Pm.size {p:Array Nat} (h:Pm N p):p.size=N:=by rw [h.pm.size_eq]; simp
theorem Pm.lt {p:Array Nat} (h:Pm N p) {i:Nat} (hi:i<N):p.getD i 0<N:=by
 have hs:=h.size
 have e:p.getD i 0=p[i]'(by omega):=by simp [Array.getD,hs,hi]
 rw [e]
 have:p[i]'(by omega)∈gJ (wV N):=h.pm.mem_iff.mp (fQ _)
 simpa using this
theorem Pm.of {p q:Array Nat} (h:Pm N p) (g:q.Perm p):Pm N q:=⟨g.trans h.pm⟩
end
section
variable {N:Nat} {cmp:Nat->Nat->(Bool->Shared->Prop)->Shared->Prop} {s:Shared}
noncomputable def qHr (N:Nat) (cmp:Nat->Nat->(Bool->Shared->Prop)->Shared->Prop) (s:Shared):Prop:=∀ i j C,i<N->j<N->(∀ b:Bool,C b s)->cmp i j C s
theorem qMg.free {O:KeyOrd} {key:Nat->O.α} (hA:qMg key N cmp s):qHr N cmp s:=fun i j C hi hj h=>hA i j C hi hj (h _)
theorem Pm.any {p:Array Nat} (h:Pm N p) (pos:0<N) (i:Nat):p.getD i 0<N:=by
 by_cases hi:i<N
 ·exact h.lt hi
 ·have e:p.getD i 0=0:=by
   have:=h.size
   simp [Array.getD,show ¬ i<p.size by rw [this]; exact hi]
  rw [e]
  exact pos
theorem qGW (hA:qHr N cmp s) (pos:0<N) {p:Array Nat} (P:Pm N p) {G:Nat->Shared->Prop} (g:∀ m,G m s):∀ f a:Nat,(kas_asc p f a).kasWp cmp G s
 | 0,a=>g a
 | f+1,a=>hA _ _ _ (P.any pos _) (P.any pos _) fun b=>match b with
  | true=>g a
  | false=>qGW hA pos P g f (a+1)
theorem qBL (hA:qHr N cmp s) (pos:0<N) {G:Array Nat×Nat×Nat->Shared->Prop} (g:∀ p m q,Pm N p->G (p,m,q) s):∀(f:Nat) (p:Array Nat) (n q:Nat),Pm N p->(kas_desc f p n q).kasWp cmp G s
 | 0,p,n,q,P=>g p n q P
 | f+1,p,n,q,P=>hA _ _ _ (P.any pos _) (P.any pos _) fun b=>match b with
  | true=>by
   show KasT.kasWp cmp (if q > 0 then kas_desc f (kas_rev p (n - (q+1)) n) (n+1) 0 else kas_desc f p (n+1) 0) G s
   split
   ·exact qBL hA pos g f _ (n+1) 0 (P.of (mirror_perm _ _ _ _))
   ·exact qBL hA pos g f p (n+1) 0 P
  | false=>hA _ _ _ (P.any pos _) (P.any pos _) fun d=>match d with
   | true=>g p n q P
   | false=>qBL hA pos g f p (n+1) (q+1) P
theorem qD1 (hA:qHr N cmp s) (pos:0<N) {p:Array Nat} (P:Pm N p) (n:Nat) {G:Nat×Array Nat->Shared->Prop} (g:∀ m q,Pm N q->G (m,q) s):(kas_tail3 n N p).kasWp cmp G s:=by
 unfold kas_tail3
 rw [KasT.kasWp_bind]
 have P':Pm N (kas_rev p 0 n):=P.of (mirror_perm _ _ _ _)
 exact qGW hA pos P' (fun m=>g m _ P') _ _
theorem Yj (hA:qHr N cmp s) (pos:0<N) {p:Array Nat} (P:Pm N p) (n:Nat) {G:Nat×Array Nat->Shared->Prop} (g:∀ m q,Pm N q->G (m,q) s):(kas_descPart n N p).kasWp cmp G s:=by
 unfold kas_descPart
 rw [KasT.kasWp_bind]
 refine qBL hA pos (fun q m k Q=>?_) _ p _ _ P
 show KasT.kasWp cmp (if k > 0 then kas_tail3 m N (kas_rev q (m - (k+1)) m) else kas_tail3 m N q) G s
 split
 ·exact qD1 hA pos (Q.of (mirror_perm _ _ _ _)) m g
 ·exact qD1 hA pos Q m g
theorem qHh (hA:qHr N cmp s) (pos:0<N) {p:Array Nat} (P:Pm N p) {G:Nat×Array Nat->Shared->Prop} (g:∀ m q,Pm N q->G (m,q) s):(kas_count N p).kasWp cmp G s:=by
 unfold kas_count
 rw [KasT.kasWp_bind]
 refine qGW hA pos P (fun n=>?_) _ _
 split
 ·exact g n p P
 ·split
  ·exact hA _ _ _ (P.any pos _) (P.any pos _) fun b=>match b with
    | true=>g n p P
    | false=>Yj hA pos (P.of (mirror_perm _ _ _ _)) n g
  ·exact Yj hA pos P n g
theorem qBA (hA:qHr N cmp s) (pos:0<N) {p:Array Nat} (P:Pm N p) (k:Nat) {G:Nat->Shared->Prop} (g:∀ m,G m s):∀ f l r:Nat,(kas_place p k f l r).kasWp cmp G s
 | 0,l,r=>g l
 | f+1,l,r=>by
  unfold kas_place
  split
  ·exact g l
  ·exact hA _ _ _ (P.any pos _) (P.any pos _) fun b=>match b with
    | true=>qBA hA pos P k g f _ _
    | false=>qBA hA pos P k g f _ _
theorem qIP (hA:qHr N cmp s) (pos:0<N) {G:Array Nat->Shared->Prop} (g:∀ p,Pm N p->G p s):∀(f:Nat) (p:Array Nat) (k:Nat),Pm N p->(kas_bin f p k).kasWp cmp G s
 | 0,p,k,P=>g p P
 | f+1,p,k,P=>by
  unfold kas_bin
  rw [KasT.kasWp_bind]
  exact qBA hA pos P k (fun l=>qIP hA pos g f _ (k+1) (P.of (bubble_perm _ _ _))) _ _ _
theorem qJd (hA:qHr N cmp s) (pos:0<N) {G:Array Nat->Shared->Prop} (g:∀ p,Pm N p->G p s):(kas_sort N).kasWp cmp G s:=by
 unfold kas_sort
 rw [KasT.kasWp_bind]
 refine qHh hA pos ⟨Array.Perm.refl _⟩ fun m p P=>?_
 show KasT.kasWp cmp (if m<N then _ else _) G s
 split
 ·exact qIP hA pos g _ p _ P
 ·exact g p P
end
section
variable {prog:Program} {w:World} {A:Around} {E:Value->Shared->Prop} {s:Shared} {O:KeyOrd} {key:Nat->O.α}
noncomputable def j5 (h:Heap) (a:Addr) (vs:List Value):Heap:=((h.update a (gB fun _=>(#[]:Array Value))).push (seqObj "tuple" vs.toArray 0)).push (seqObj "list" #[] 0)
noncomputable def qBE (vs:List Value) (p:Array Nat):Array Value:=(p.toList.map fun i=>vs.getD i uG).toArray
theorem qFQ (vs:List Value):qBE vs (gJ (wV vs.length))=vs.toArray:=by
 unfold qBE
 congr 1
 apply xW
 intro i
 rw [wL]
 by_cases h:i<vs.length
 ·rw [wA h]
  simp [h]
 ·rw [vH (by simpa using h)]
  simp [h]
theorem qEV {R:Array Nat->Prop} {a:Addr} {vs:List Value} {n:Nat} {κ:SortKind} {P:PySem.Fin->Shared->Prop} (ho:s.heap.get? a=some (seqObj "list" vs.toArray n)) (h64:vs.length<64)
  (hk:2<=vs.length->∀ Q:SortKind->Shared->Prop,Q κ { s with heap:=j5 s.heap a vs }->wpAny (model prog w) A (keyKind' vs.toArray) Q E { s with heap:=j5 s.heap a vs })
  (few:vs.length<2->R (gJ (wV vs.length)))
  (many:2<=vs.length->∀ G:Array Nat->Shared->Prop,(∀ p,Pm vs.length p->R p->G p { s with heap:=j5 s.heap a vs })->(kas_sort vs.length).kasWp (kas_cmp prog w A κ (pairsOf vs)) G { s with heap:=j5 s.heap a vs })
  (h:∀ p,Pm vs.length p->R p->P (.done (.ret .none)) { s with heap:=sortedHeap s.heap a vs (qBE vs p) }):wpAny (model prog w) A (Builtin.«list.sort» ⟨[.ref a],[]⟩) P E s:=by
 have fit:vs.length<=sizeLine:=zO (vI h64) (by rw [xS]; decide)
 have fitA:vs.toArray.size<=sizeLine:=by simpa using fit
 obtain ⟨m,o1⟩:∃ m,(s.heap.update a (gB fun _=>(#[]:Array Value))).get? a=some (seqObj "list" #[] m):=⟨_,get?_update_seq ho _⟩
 have o2:(j5 s.heap a vs).get? a=some (seqObj "list" #[] m):=wD _ (wD _ o1)
 have quiet:∀ k:Nat,(k != k)=false:=bne_self_eq_false
 rw [list_sort_plain]
 refine wB (listItems_at ho rfl (wB (listUpdate_at ho rfl (wB (seqEpoch_at o1 rfl (wB (UN (wB (WI (yM ?_) (zZ _))) fit)))) fitA (zZ _))))
 show wpAny (model prog w) A _ P E { s with heap:=j5 s.heap a vs }
 dsimp only
 rcases Nat.lt_or_ge vs.toArray.size 2 with one | more
 ·have hv:vs.length<2:=by simpa using one
  have snds:Array.map (fun x:Value×Value=>x.2) (vs.toArray.zip vs.toArray)=vs.toArray:=by
   apply VP.mp
   rw [VT,Array.toList_zip]
   exact List.map_snd_zip (wO _)
  have g:=h _ ⟨Array.Perm.refl _⟩ (few hv)
  rw [qFQ] at g
  rw [if_pos one,if_pos one]
  refine wB (wG ?_)
  rw [StateT.run_pure]
  refine wB (wG ?_)
  show wpAny (model prog w) A (seqEpoch a >>= _) P E _
  refine wB (seqEpoch_at o2 rfl (wB (listUpdate_at o2 rfl ?_ (zZ _) (by show (Array.map (fun x:Value×Value=>x.2) (vs.toArray.zip vs.toArray)).size<=_; rw [snds]; omega))))
  rw [quiet,if_neg wQ]
  refine wG ?_
  show P (.done (.ret .none)) { s with heap:=(j5 s.heap a vs).update a (gB fun _=>Array.map (fun x:Value×Value=>x.2) (vs.toArray.zip vs.toArray)) }
  exact snds.symm ▸ g
 ·have hv:2<=vs.length:=by simpa using more
  have less:¬ vs.toArray.size<2:=Nat.not_lt.mpr more
  rw [if_neg less,if_neg less]
  refine wB (hk hv _ ?_)
  have est:SortSt.mk' κ (vs.toArray.zip vs.toArray) #[] 7 none=kas_st κ (pairsOf vs) (gJ (wV vs.length)):=by
   show SortSt.mk' κ (pairsOf vs) #[] 7 none=SortSt.mk' κ ((gJ (wV vs.length)).map (kas_item (pairsOf vs))) #[] 7 none
   rw [<- pairsOf_size vs,kas_range]
  have run:=kas_runs (E:=E) (Q:=fun _ st' s'=>∃ p:Array Nat,Pm vs.length p/\R p/\arrOf st'=p.map (kas_item (pairsOf vs))/\failedOf st'=none/\s' = { s with heap:=j5 s.heap a vs })
   hv h64 (fun p' st' s' a1 a2 a3 a4=>⟨p',a4.1,a4.2.1,a2,a3,a4.2.2⟩) (many hv (fun p s'=>Pm vs.length p/\R p/\s' = { s with heap:=j5 s.heap a vs }) fun p P1 P2=>⟨P1,P2,rfl⟩)
  rw [<- est] at run
  refine wB (uV run (fun ⟨_,st'⟩ s' ⟨p,P1,P2,har,hf,es⟩=>?_) fun _ _ z=>z)
  cases es
  have hout:(arrOf st').map (·.2)=qBE vs p:=by
   rw [har]
   apply VP.mp
   show ((p.map (kas_item (pairsOf vs))).map (·.2)).toList=p.toList.map fun i=>vs.getD i uG
   simp only [VT,zM]
   apply xI
   intro i _
   show (kas_item (pairsOf vs) i).2=vs.getD i uG
   rw [kas_item_eq]
  have hsz:(qBE vs p).size=vs.length:=by
   unfold qBE
   rw [wH,wC,wU,P1.size]
  dsimp only
  rw [hout]
  refine wB (seqEpoch_at o2 rfl (wB (listUpdate_at o2 rfl ?_ (zZ _) (by show (qBE vs p).size<=_; omega))))
  rw [hf,quiet,if_neg wQ]
  exact wG (h p P1 P2)
theorem qHA {a b:List Value} {ns ms:List Int} {fin:Bool} {Q:Bool->Shared->Prop} (hu:A.units<cLine):∀{a b:List Value} {ns ms:List Int} (i:Nat),IntsAre a ns->IntsAre b ms->(∀ ns' ms',ns'.length+ms.length=ms'.length+ns.length->(ns'=[]\/ms'=[])->HT.lexLt ns' ms'=fin)->Q (HT.lexLt ns ms) s->KatLex prog w A true fin Q (a.zip b) i s:=by
 intro a b ns ms i ha hb hf hq
 induction ha generalizing b ms i with
 | nil=>
  rw [List.zip_nil_left]
  refine kat_nil ?_
  rw [<- hf [] ms (by simp) (.inl rfl)]
  exact hq
 | @cons x t a ns ha ih=>
  cases hb with
  | nil=>
   rw [List.zip_nil_right]
   refine kat_nil ?_
   rw [<- hf (x::ns) [] (by simp) (.inr rfl)]
   exact hq
  | cons y u hb=>
   rw [List.zip_cons_cons]
   refine kat_cons ?_
   obtain ⟨e,he,hiff⟩:=HT.eqAt_int A s x t y u
   refine he prog w _ _ ?_
   rw [HT.lexLt_cons] at hq
   cases e with
   | true=>
    rw [if_pos (hiff.mp rfl)] at hq
    refine kat_yes (ih (i+1) hb (fun ns' ms' hl ho=>hf ns' ms' (by simp only [yG]; omega) ho) hq)
   | false=>
    rw [if_neg (fun q=>absurd (hiff.mpr q) wQ)] at hq
    refine kat_no ?_
    by_cases hi:i=0
    ·subst hi
     exact oneLt_int hq
    ·have e:(true && i == 0)=false:=by simp [hi]
     rw [e]
     exact kat_one _ _ (HT.rcLt_int A s x t y u prog w _ _ hq)
theorem qIs {a b:List Int}:∀ ns' ms':List Int,ns'.length+b.length=ms'.length+a.length->(ns'=[]\/ms'=[])->HT.lexLt ns' ms'=decide (a.length<b.length)
 | [],[],h,_=>by
  rw [HT.lexLt_nil_nil]
  simp only [kI] at h
  exact (decide_eq_false (by omega)).symm
 | [],_::_,h,_=>by
  rw [HT.lexLt_nil_cons]
  simp only [kI,yG] at h
  exact (decide_eq_true (by omega)).symm
 | _::_,[],h,_=>by
  rw [HT.lexLt_cons_nil]
  simp only [kI,yG] at h
  exact (decide_eq_false (by omega)).symm
 | _::_,_::_,_,h=>by rcases h with h | h <;> cases h
noncomputable def Rows (h:Heap):List Value->List (List Int)->Prop
 | [],[]=>True
 | v::vs,ns::nss=>(∃ b its,v=.ref b/\IsTup h b its/\IntsAre its.toList ns/\ns≠[])/\Rows h vs nss
 | _,_=>False
theorem Rows.kept {h h':Heap} (k:∀ b o,h.get? b=some o->h'.get? b=some o):∀{vs:List Value} {nss:List (List Int)},Rows h vs nss->Rows h' vs nss
 | [],[],_=>trivial
 | [],_::_,r=>r.elim
 | _::_,[],r=>r.elim
 | _::vs,_::nss,⟨⟨b,its,e,p,q⟩,r⟩=>⟨⟨b,its,e,p.keeps k,q⟩,Rows.kept k r⟩
theorem Rows.at:∀{h:Heap} {vs:List Value} {nss:List (List Int)} {i:Nat},Rows h vs nss->i<vs.length->∃ b its,vs.getD i uG=.ref b/\IsTup h b its/\IntsAre its.toList (nss.getD i [])/\nss.getD i []≠[]
 | _,[],[],i,_,hi=>by cases hi
 | _,[],_::_,_,r,_=>r.elim
 | _,_::_,[],_,r,_=>r.elim
 | _,_::vs,_::nss,0,r,_=>r.1
 | _,_::vs,_::nss,i+1,r,hi=>Rows.at (i:=i) r.2 (by simpa using hi)
theorem Rows.firsts:∀{h:Heap} {vs:List Value} {nss:List (List Int)},Rows h vs nss->∃ fs,KatTups h vs fs/\fs.length=vs.length/\∀ v∈fs,∃ n t,v=gC n t
 | _,[],[],_=>⟨[],KatTups.nil,rfl,fun _ h=>by cases h⟩
 | _,[],_::_,r=>r.elim
 | _,_::_,[],r=>r.elim
 | _,_::vs,ns::nss,⟨⟨b,its,e,⟨o,ho,hc,n,hd⟩,q,hne⟩,r⟩=>by
  obtain ⟨fs,f1,f2,f3⟩:=Rows.firsts r
  cases hi:its.toList with
  | nil=>
   rw [hi] at q
   cases q
   exact absurd rfl hne
  | cons v rest=>
   rw [hi] at q
   cases q with
   | cons x t q=>
    have h0:its[0]? = some (gC x t):=by
     rw [<- xB,hi]
     rfl
    subst e
    refine ⟨gC x t::fs,KatTups.cons ho hc hd h0 f1,by rw [yG,yG,f2],fun v hv=>?_⟩
    rcases wM.mp hv with z | z
    ·exact ⟨x,t,z⟩
    ·exact f3 v z
theorem qEw {vs:List Value} {nss:List (List Int)} (hu:A.units<cLine) (r:Rows s.heap vs nss):qMg (O:=qNZ) (fun i=>nss.getD i []) vs.length (kas_cmp prog w A (tuples' true) (pairsOf vs)) s:=by
 intro i j C hi hj hc
 obtain ⟨b1,its1,e1,⟨o1,g1,c1,n1,d1⟩,q1,_⟩:=r.at hi
 obtain ⟨b2,its2,e2,⟨o2,g2,c2,n2,d2⟩,q2,_⟩:=r.at hj
 unfold kas_cmp
 rw [kas_item_eq,kas_item_eq,e1,e2]
 refine kat_lt g1 d1 g2 d2 ?_
 have z1:its1.size=(nss.getD i []).length:=by rw [<- q1.length]; simp
 have z2:its2.size=(nss.getD j []).length:=by rw [<- q2.length]; simp
 refine qHA (a:=[]) (b:=[]) (ns:=[]) (ms:=[]) hu 0 q1 q2 (fun ns' ms' hl ho=>?_) hc
 rw [z1,z2]
 exact qIs ns' ms' hl ho
theorem qGY {h:Heap} {a:Addr} {vs:List Value} {b:Addr} {o:Obj} (hb:b≠a) (e:h.get? b=some o):(j5 h a vs).get? b=some o:=by
 unfold j5
 refine wD _ (wD _ ?_)
 rw [Heap.get?_update_ne _ _ _ _ hb]
 exact e
theorem Jr {h:Heap} {a:Addr} {vs:List Value} {out:Array Value} {b:Addr} {o:Obj} (hb:b≠a) (e:h.get? b=some o):(sortedHeap h a vs out).get? b=some o:=
 (Heap.get?_update_ne _ _ _ _ hb).trans (qGY (vs:=vs) hb e)
theorem Ju {h:Heap} {a:Addr} {vs:List Value} {out:Array Value} {n:Nat} (ho:h.get? a=some (seqObj "list" vs.toArray n)):∃ m,(sortedHeap h a vs out).get? a=some (seqObj "list" out m):=
 ⟨_,get?_update_seq (wD _ (wD _ (get?_update_seq ho _))) _⟩
end
end LSo
namespace L2
open PySem PySem.Spec PyProof.Rows
noncomputable abbrev qDg (ns:List Int):D:=.tup (ns.map D.int)
section
variable {X:Cx} {pins:List (Addr×Obj)} {σ:St} {H:Hp} {s:Shared}
theorem qIq (I:Inv X pins σ H s):∀{nss:List (List Int)} {xs:List V} {its:List Value},qY H (nss.map qDg) xs->jB xs its->(∀ ns∈nss,ns≠[])->LSo.Rows s.heap its nss:=by
 intro nss
 induction nss with
 | nil=>
  intro xs its h r _
  cases (show xs=[] from h)
  cases r
  trivial
 | cons ns nss ih=>
  intro xs its h r hn
  obtain ⟨x,xr,rfl,h1,h2⟩:=h
  cases r with
  | cons r1 r2=>
   refine ⟨?_,ih h2 r2 fun m hm=>hn m (wN _ hm)⟩
   obtain ⟨a,ys,rfl,e1,e2⟩:=h1
   cases r1
   obtain ⟨js,q1,q2,_⟩:=I.tuple (SqT.of (K:=X.K) e1)
   have e3:=e2.ints_eq
   subst e3
   exact ⟨a,_,rfl,q2,intsAre_of q1,hn ns (wF ..)⟩
theorem qBr {xs:List V} {its:List Value} (r:jB xs its):∀(is:List Nat),(∀ i∈is,i<xs.length)->jB (is.map fun i=>xs.getD i V.non) (is.map fun i=>its.getD i uG)
 | [],_=>.nil
 | i::is,h=>by
  have hi:=h i (wF ..)
  obtain ⟨u,g1,g2⟩:=r.get (wA hi)
  refine .cons ?_ (qBr r is fun j hj=>h j (wN _ hj))
  show RelV (xs.getD i V.non) (its.getD i uG)
  rw [wW,wW,wA hi,g1]
  exact g2
theorem qBa {nss:List (List Int)} {xs:List V} (h:qY H (nss.map qDg) xs):∀(is:List Nat),(∀ i∈is,i<xs.length)->qY H ((is.map fun i=>nss.getD i []).map qDg) (is.map fun i=>xs.getD i V.non)
 | [],_=>rfl
 | i::is,g=>by
  have hi:=g i (wF ..)
  obtain ⟨d,g1,g2⟩:=h.get (wA hi)
  refine ⟨_,_,rfl,?_,qBa h is fun j hj=>g j (wN _ hj)⟩
  rw [wL] at g1
  show Den H (qDg (nss.getD i [])) (xs.getD i V.non)
  rw [wW,wW,wA hi]
  cases e:nss[i]? with
  | none=>rw [e] at g1; cases g1
  | some ns=>
   rw [e] at g1
   cases g1
   exact g2
end
end L2
namespace LSo
open PySem PySem.W PyProof.Rows
end LSo
namespace L2
open PySem PySem.Spec PyProof.Rows
end L2
namespace LSo
open PySem PySem.W PyProof.Rows
section
variable {prog:Program} {w:World} {A:Around} {E:Value->Shared->Prop} {s:Shared}
theorem qC0 {l:Addr} {vs:List Value} {nss:List (List Int)} {Q:Value->Shared->Prop} (hu:A.units+8<cLine) (hl:s.heap.IsList l vs.toArray\/IsTup s.heap l vs.toArray) (r:2<=vs.length->Rows s.heap vs nss) (h64:vs.length<64)
  (h:∀(p:Array Nat) (h1 h2:Heap) (m:Nat),Pm vs.length p->(∀ b o,s.heap.get? b=some o->h1.get? b=some o)->(∀ b o,h1.get? b=some o->h2.get? b=some o)->h2.get? h1.objs.size=some (seqObj "list" (qBE vs p) m)->Q (.ref h1.objs.size) { s with heap:=h2 }):wpAny (model prog w) A (call (.builtin "sorted") [.ref l]) Q E s:=by
 have fit:vs.length<=sizeLine:=zO (vI h64) (by rw [xS]; decide)
 obtain ⟨T,o,n,hT,ho,hc,hd⟩:∃ T o n,(T = "list"\/T = "tuple")/\s.heap.get? l=some o/\o.cls=.type T/\o.data=.seq vs.toArray n:=by
  rcases hl with ⟨o,y,c,n,d⟩ | ⟨o,y,c,n,d⟩
  ·exact ⟨_,o,n,.inl rfl,y,c,d⟩
  ·exact ⟨_,o,n,.inr rfl,y,c,d⟩
 refine fL kind_sorted plain_sorted entry_sorted (args_sorted1 _) (wB (m:=checkCount "sorted" 1 1 _) (wG (wB (wpAny_collect_seq l hT ho hc hd (fun h1 k1=>wB (WI ?_ fit)) (by simpa using fit)))))
 have oL:(h1.push (seqObj "list" vs.toArray 0)).get? h1.objs.size=some (seqObj "list" vs.toArray 0):=zF h1 rfl
 have apart:∀ b u,h1.get? b=some u->b≠h1.objs.size:=fun b u y=>yE (zN y)
 have r2:2<=vs.length->Rows (j5 (h1.push (seqObj "list" vs.toArray 0)) h1.objs.size vs) vs nss:=fun hv=>(r hv).kept fun b u y=>qGY (apart b u (k1 b u y)) (wD _ (k1 b u y))
 refine wB (yM (vD slot_list_sort (s:={ s with heap:=h1.push (seqObj "list" vs.toArray 0) }) ⟨_,oL,rfl⟩ entry_list_sort (qEV (R:=fun _=>True) (κ:=tuples' true) oL h64 (fun hv Q hq=>?_) (fun _=>trivial) (fun hv G g=>qJd (qEw ?_ (r2 hv)).free (zV (by decide) hv) fun p P=>g p P trivial) fun p P1 _=>?_) (args_list_sort _)))
 ·obtain ⟨fs,f1,f2,f3⟩:=(r2 hv).firsts
  refine kat_kind (T:=.type "int") f1 (by omega) (fun v hv=>?_) (by decide) hq
  obtain ⟨n,t,rfl⟩:=f3 v hv
  exact fun A Q E s' _ hq=>kX (UJ s' n t) hq
 ·show A.units+1+1<cLine
  omega
 ·obtain ⟨m,om⟩:=Ju (out:=qBE vs p) oL
  exact ⟨_,rfl,wG ⟨_,rfl,h p h1 _ m P1 k1 (fun b u y=>Jr (apart b u y) (wD _ y)) om⟩⟩
end
end LSo
namespace L2
open PySem PySem.Spec PyProof.Rows
noncomputable def qFo:List V->Hp->VK->Prop:=fun vs H Q=>∃(a:Addr) (xs:List V) (nss:List (List Int)),vs=[.ref a]/\(H a=some (.tup xs)\/H a=some (.lst xs))/\qY H (nss.map qDg) xs/\(2<=nss.length->∀ ns∈nss,ns≠[])/\nss.length<64/\
 ∀(is:List Nat) (l:Addr),is.Perm (wV nss.length)->H l=none->Q (.ref l) (upd H l (.lst (is.map fun i=>xs.getD i V.non)))
section
variable {X:Cx} {pins:List (Addr×Obj)} {σ:St} {H:Hp} {s:Shared}
theorem Qr (hu:X.A.units+64<cLine):QJ X (.builtin "sorted") qFo:=by
 intro pins s σ H xs us Q I r h
 obtain ⟨a,ys,nss,rfl,hx,hd,hn,h64,q⟩:=h
 obtain ⟨u,rfl,rx⟩:=vals1 r
 have main:∀(its:List Value),u=.ref a->jB ys its->(s.heap.IsList a its.toArray\/IsTup s.heap a its.toArray)->wpAny (model X.prog X.w) X.A (call (.builtin "sorted") [u]) (EP X pins σ Q) X.xe s:=by
  intro its eu rv hl
  subst eu
  have ly:ys.length=nss.length:=by rw [hd.length,wC]
  have li:its.length=ys.length:=rv.length.symm
  refine LSo.qC0 (by omega) hl (fun hv=>qIq I hd rv (hn (by omega))) (by omega) fun p h1 h2 e P1 k1 k2 he=>?_
  have I1:Inv X pins σ H { s with heap:=h1 }:=I.kept (t':=s.toks) k1
  have pin:∀ i∈p.toList,i<ys.length:=fun i hi=>by
   have:i∈(gJ (wV its.length)):=P1.pm.mem_iff.mp (uQ.mp hi)
   have:i<its.length:=by simpa using this
   omega
  have pl:p.toList.Perm (wV its.length):=by
   have:=P1.pm
   rw [Array.perm_iff_toList_perm] at this
   exact this
  have hl:p.toList.length<=sizeLine:=by
   rw [pl.length_eq,yN,xS]
   omega
  refine ⟨.ref h1.objs.size,upd H h1.objs.size (.lst (p.toList.map fun i=>ys.getD i V.non)),I1.laid (t':=s.toks) k2 (wO _) ?_,rfl,
   q p.toList _ ?_ (I1.hok.fresh (wO _))⟩
  ·refine ⟨by rw [wC]; exact hl,(p.toList.map fun i=>its.getD i uG),e,qBr rv _ pin,?_⟩
   rw [he]
   rfl
  ·rw [li,ly] at pl
   exact pl
 rcases hx with h1 | h1
 ·cases rx
  obtain ⟨its,rv,p,_⟩:=I.tuple (SqT.of (K:=X.K) h1)
  exact main its rfl rv (.inr p)
 ·cases rx
  obtain ⟨its,rv,p,_⟩:=I.list (SqL.of (K:=X.K) h1)
  exact main its rfl rv (.inl p.isList)
end
end L2
namespace LSo
open PySem PySem.W PyProof.Rows
section
variable {prog:Program} {w:World} {A:Around} {E:Value->Shared->Prop} {s:Shared}
theorem qBx {l:Addr} {vs:List Value} {ns:List Int} {Q:Value->Shared->Prop} (hl:s.heap.IsList l vs.toArray\/IsTup s.heap l vs.toArray) (hI:IntsAre vs ns) (h64:vs.length<64)
  (h:∀(out:Array Value) (ns':List Int) (h1 h2:Heap) (m:Nat),IntsAre out.toList ns'->ns'.Perm ns->ns'.Pairwise (·<=·)->(∀ b o,s.heap.get? b=some o->h1.get? b=some o)->(∀ b o,h1.get? b=some o->h2.get? b=some o)->h2.get? h1.objs.size=some (seqObj "list" out m)->Q (.ref h1.objs.size) { s with heap:=h2 }):wpAny (model prog w) A (call (.builtin "sorted") [.ref l]) Q E s:=by
 have fit:vs.length<=sizeLine:=zO (vI h64) (by rw [xS]; decide)
 obtain ⟨T,o,n,hT,ho,hc,hd⟩:∃ T o n,(T = "list"\/T = "tuple")/\s.heap.get? l=some o/\o.cls=.type T/\o.data=.seq vs.toArray n:=by
  rcases hl with ⟨o,y,c,n,d⟩ | ⟨o,y,c,n,d⟩
  ·exact ⟨_,o,n,.inl rfl,y,c,d⟩
  ·exact ⟨_,o,n,.inr rfl,y,c,d⟩
 refine fL kind_sorted plain_sorted entry_sorted (args_sorted1 _) (wB (m:=checkCount "sorted" 1 1 _) (wG (wB (wpAny_collect_seq l hT ho hc hd (fun h1 k1=>wB (WI ?_ fit)) (by simpa using fit)))))
 have oL:(h1.push (seqObj "list" vs.toArray 0)).get? h1.objs.size=some (seqObj "list" vs.toArray 0):=zF h1 rfl
 have apart:∀ b u,h1.get? b=some u->b≠h1.objs.size:=fun b u y=>yE (zN y)
 refine wB (yM (vD slot_list_sort (s:={ s with heap:=h1.push (seqObj "list" vs.toArray 0) }) ⟨_,oL,rfl⟩ entry_list_sort (list_sort_tree oL hI h64 fun out ns' a1 a2 a3=>?_) (args_list_sort _)))
 obtain ⟨m,om⟩:=Ju (out:=out) oL
 exact ⟨_,rfl,wG ⟨_,rfl,h out ns' h1 _ m a1 a2 a3 k1 (fun b u y=>Jr (apart b u y) (wD _ y)) om⟩⟩
end
end LSo
namespace L2
open PySem PySem.Spec PyProof.Rows
noncomputable def qIZ:List V->Hp->VK->Prop:=fun vs H Q=>∃(a:Addr) (ns:List Int),vs=[.ref a]/\(H a=some (.tup (ns.map V.int))\/H a=some (.lst (ns.map V.int)))/\ns.length<64/\
 ∀(ns':List Int) (l:Addr),ns'.Perm ns->ns'.Pairwise (·<=·)->H l=none->Q (.ref l) (upd H l (.lst (ns'.map V.int)))
section
variable {X:Cx}
theorem J9:QJ X (.builtin "sorted") qIZ:=by
 intro pins s σ H xs us Q I r h
 obtain ⟨a,ns,rfl,hx,h64,q⟩:=h
 obtain ⟨u,rfl,rx⟩:=vals1 r
 have main:∀(its:List Value),u=.ref a->jB (ns.map V.int) its->(s.heap.IsList a its.toArray\/IsTup s.heap a its.toArray)->wpAny (model X.prog X.w) X.A (call (.builtin "sorted") [u]) (EP X pins σ Q) X.xe s:=by
  intro its eu rv hl
  subst eu
  have hlen:=rv.length
  rw [wC] at hlen
  refine LSo.qBx hl (intsAre_of rv) (by omega) fun out ns' h1 h2 m a1 a2 a3 k1 k2 he=>?_
  have I1:Inv X pins σ H { s with heap:=h1 }:=I.kept (t':=s.toks) k1
  have hz:ns'.length<=sizeLine:=by
   rw [a2.length_eq,xS]
   omega
  exact ⟨.ref h1.objs.size,upd H h1.objs.size (.lst (ns'.map V.int)),I1.laid (t':=s.toks) k2 (wO _) ⟨by rw [wC]; exact hz,out.toList,m,Qs a1,he⟩,rfl,q ns' _ a2 a3 (I1.hok.fresh (wO _))⟩
 rcases hx with h1 | h1
 ·cases rx
  obtain ⟨its,rv,p,_⟩:=I.tuple (SqT.of (K:=X.K) h1)
  exact main its rfl rv (.inr p)
 ·cases rx
  obtain ⟨its,rv,p,_⟩:=I.list (SqL.of (K:=X.K) h1)
  exact main its rfl rv (.inl p.isList)
end
end L2
namespace LTu
open PySem PyProof.Rows HT
section
variable {s:Shared} {prog:Program} {w:World} {A:Around} {E:Value->Shared->Prop}
theorem get_whole {t sl:Addr} {items:Array Value} {vl vu:Value} {lo hi:Option Int} {Q:Value->Shared->Prop} (ht:IsTup s.heap t items) (hs:s.heap.IsSliceOf sl vl vu .none) (pl:IsPart vl lo) (pu:IsPart vu hi)
  (hw:sIx items.size 0 lo=0/\sIx items.size items.size hi=items.size) (h:Q (.ref t) s):wpAny (model prog w) A (getItem (.ref t) (.ref sl)) Q E s:=by
 obtain ⟨os,hos,hcs,hds⟩:=id hs
 have hTs:s.TypeIs (.ref sl) "slice":=⟨os,hos,hcs⟩
 unfold getItem
 try with_reducible refine yM ?_
 first | refine wB (wG ?_) | skip
 refine wB (fM ht.typeIs (by decide) ?_)
 refine wB (vX (name:=uR "__getitem__") ht.typeIs yO (vD yO ht.typeIs entry_tuple_getitem ?_ (args_tuple_getitem _ _)))
 show wpAny _ _ (fF (.ref t) >>= _) _ _ s
 refine wB (tupleItemsOf_ ht ?_)
 refine wB (kX hTs ?_)
 rw [if_pos (by decide)]
 refine wB (Qg hs pl pu ?_)
 have hy:(((sIx items.size 0 lo:Nat):Int) == 0 && (1:Int) == 1 && (sIx items.size items.size hi - sIx items.size 0 lo) == items.size)=true:=by
  rw [hw.1,hw.2]
  simp
 show wpAny _ _ (if (((sIx items.size 0 lo:Nat):Int) == 0 && (1:Int) == 1 && (sIx items.size items.size hi - sIx items.size 0 lo) == items.size)=true then _ else _) _ _ s
 rw [if_pos hy]
 unfold Builtin.Tuple.tupleIsExact
 refine wB (wB (kX ht.typeIs (wG ?_)))
 rw [if_pos (by decide)]
 exact wB (fG (wG ⟨_,rfl,wG h⟩))
theorem qIt (n:Nat):xJ none none (-1) (n:Int)=((n:Int) - 1,-1):=by
 unfold xJ
 simp
theorem qEB (n:Nat):vO ((n:Int) - 1) (-1) (-1)=n:=by
 unfold vO
 rw [if_neg (by decide)]
 rcases Int.lt_or_le (-1) ((n:Int) - 1) with h | h
 ·rw [if_pos h]
  have e1:(-(-1:Int))=1:=rfl
  rw [e1,Int.ediv_one]
  omega
 ·rw [if_neg (fK.mpr h)]
  omega
theorem qGI {α β:Type} {f:α->Option β} {g:α->β}:∀(l:List α),(∀ m∈l,f m=some (g m))->l.filterMap f=l.map g
 | [],_=>rfl
 | x::l,h=>by
  rw [uX,h x (wF ..)]
  show g x::l.filterMap f=_
  rw [qGI l fun m hm=>h m (wN _ hm)]
  rfl
theorem qH1 (xs:Array Value):((wV xs.size).filterMap fun (m:Nat)=>xs[((xs.size:Int) - 1+(m:Int) * -1).toNat]?).toArray=xs.toList.reverse.toArray:=by
 congr 1
 have e:∀ m∈wV xs.size,xs[((xs.size:Int) - 1+(m:Int) * -1).toNat]? = some (xs.toList.reverse.getD m uG):=fun m hm=>by
  rw [zY] at hm
  have e1:((xs.size:Int) - 1+(m:Int) * -1).toNat=xs.size - 1 - m:=by omega
  rw [e1,wW,List.getElem?_reverse (by simpa using hm)]
  simp
  have:xs.size - 1 - m<xs.size:=by omega
  rw [zR this]
  rfl
 rw [qGI _ e]
 have:=L2.JB xs.toList.reverse uG
 rw [uY,wU] at this
 exact this
theorem qC6 {sl:Addr} {n:Nat} {u:Tok} {Q:Int×Int×Nat->Shared->Prop} (hs:s.heap.IsSliceOf sl .none .none (.int (-1) u)) (h:Q ((n:Int) - 1,-1,n) s):wpAny (model prog w) A (kS (.ref sl) (pure (n:Int))) Q E s:=by
 obtain ⟨os,hos,hcs,hds⟩:=id hs
 unfold kS UR
 refine wB (wB (uE hos hds (x:=.none) rfl (wB (uE hos hds (x:=.none) rfl (wB (uE hos hds (x:=.int (-1) u) rfl (wG ?_)))))))
 (refine wB (slicePart_int ?_))
 show wpAny _ _ (if ((-1:Int) == 0)=true then _ else _) _ _ s
 rw [if_neg (by decide)]
 refine wB (slicePart_none (wB (slicePart_none (wB (wG ?_)))))
 show wpAny _ _ (match xJ none none (-1) (n:Int) with | (lo,hi)=>pure (lo,(-1:Int),vO lo hi (-1))) _ _ s
 rw [qIt n]
 show wpAny _ _ (pure ((n:Int) - 1,(-1:Int),vO ((n:Int) - 1) (-1) (-1))) _ _ s
 rw [qEB]
 exact wG h
theorem get_rev {t sl:Addr} {items:Array Value} {u:Tok} {Q:Value->Shared->Prop} (ht:IsTup s.heap t items) (hs:s.heap.IsSliceOf sl .none .none (.int (-1) u)) (hsz:items.size<=sizeLine)
  (h:Q (.ref s.heap.objs.size) { s with heap:=s.heap.push { cls:=.type "tuple",data:=.seq items.toList.reverse.toArray } }):wpAny (model prog w) A (getItem (.ref t) (.ref sl)) Q E s:=by
 obtain ⟨os,hos,hcs,hds⟩:=id hs
 have hTs:s.TypeIs (.ref sl) "slice":=⟨os,hos,hcs⟩
 have htake:sizeOk (.seq items.toList.reverse.toArray):=by
  show items.toList.reverse.toArray.size<=sizeLine
  rw [wH,uY,wU]
  exact hsz
 unfold getItem
 try with_reducible refine yM ?_
 first | refine wB (wG ?_) | skip
 refine wB (fM ht.typeIs (by decide) ?_)
 refine wB (vX (name:=uR "__getitem__") ht.typeIs yO (vD yO ht.typeIs entry_tuple_getitem ?_ (args_tuple_getitem _ _)))
 show wpAny _ _ (fF (.ref t) >>= _) _ _ s
 refine wB (tupleItemsOf_ ht ?_)
 refine wB (kX hTs ?_)
 rw [if_pos (by decide)]
 (refine wB (qC6 hs ?_))
 show wpAny _ _ (if (((items.size:Int) - 1 == 0 && (-1:Int) == 1 && items.size == items.size)=true) then _ else _) _ _ s
 rw [if_neg (by simp),qH1]
 first
  | exact wB (m:=vS _) (vF (wG ⟨_,rfl,wG h⟩) htake)
  | exact wB (m:=vS _) (vF (wB (wG (wG ⟨_,rfl,wG h⟩))) htake)
  | exact wB (wB (m:=vS _) (vF (wG (wG ⟨_,rfl,wG h⟩)) htake))
  | exact wB (wB (m:=vS _) (vF (wG ⟨_,rfl,wG h⟩) htake))
end
section
variable {s:Shared} {prog:Program} {w:World} {A:Around} {E:Value->Shared->Prop}
section
open PySem.SeqAt
open PySem.AutoSeq1 (wpAny_loadPart')
open PySem.MeetsSeq PySem.MeetsSeq2 PySem.MeetsSeq3
end
theorem cat_nil {t b:Addr} {ws:List Value} {Q:Value->Shared->Prop} (ht:IsTup s.heap t ([]:List Value).toArray) (hb:IsTup s.heap b ws.toArray) (h:Q (.ref b) s):wpAny (model prog w) A (binaryOp .Add (.ref t) (.ref b)) Q E s:=by
 obtain ⟨⟨cls,dd,data,sl⟩,ho,hc,n,hd⟩:=id ht
 obtain ⟨⟨cls2,dd2,data2,sl2⟩,ho2,hc2,n2,hd2⟩:=id hb
 simp only at hc hd hc2 hd2
 subst hc hd hc2 hd2
 exact WZ ⟨_,ho,rfl⟩ ⟨_,ho2,rfl⟩ VN UX ZO ZH (fT _ _) (tuple_addW0 t b _ ws.toArray n n2 dd dd2 sl sl2 (by simp)) ⟨ho,ho2,h⟩
end
end LTu
namespace L2
open PySem PySem.Spec PyProof.Rows
section
variable {X:Cx} {K:wJ} {e st:Expr} {te ts:TE} {pos p2:Pos}
noncomputable def qJx (K:wJ):R2:=fun x y H Q=>∃ a b xs ys,x=.ref a/\y=.ref b/\SqT K H a xs/\SqT K H b ys/\xs.length+ys.length<=sizeLine/\(xs=[]->Q (.ref b) H)/\(xs≠[]->ys=[]->Q (.ref a) H)/\(xs≠[]->ys≠[]->∀ p,H p=none->Q (.ref p) (upd H p (.tup (xs++ys))))
theorem qJs:OpR X (binaryOp .Add) (qJx X.K):=by
 intro pins s σ H x y v u Q I rx ry h
 obtain ⟨a,b,xs,ys,rfl,rfl,ha,hb,hz,q0,q1,q2⟩:=h
 by_cases hx:xs=[]
 ·subst hx
  cases rx
  cases ry
  obtain ⟨its,r1,p1,_⟩:=I.tuple ha
  obtain ⟨its2,r2,p2,_⟩:=I.tuple hb
  cases r1
  exact LTu.cat_nil p1 p2 ⟨.ref b,H,I,rfl,q0 rfl⟩
 ·exact qIw pins s σ H (.ref a) (.ref b) v u Q I rx ry ⟨a,b,xs,ys,rfl,rfl,ha,hb,hx,hz,q1 hx,q2 hx⟩
theorem Y3 (h:X.K=K):OpR X (binaryOp .Add) (fun x y H Q=>(rI0 fun i j=>.int (i+j)) x y H Q\/(qJm K x y H Q\/qJx K x y H Q)):=by subst h; exact qLc.or (qJ0.or qJs)
noncomputable def qMU (K:wJ):V->Option Int->Option Int->Hp->VK->Prop:=fun x lo hi H Q=>∃ a xs,x=.ref a/\SqT K H a xs/\
 ((HT.sIx xs.length 0 lo=0/\HT.sIx xs.length xs.length hi=xs.length)->Q (.ref a) H)/\(¬ (HT.sIx xs.length 0 lo=0/\HT.sIx xs.length xs.length hi=xs.length)->∀ p,H p=none->Q (.ref p) (upd H p (.tup (qHJ xs lo hi))))
theorem qLe:SlR X (qMU X.K):=by
 intro pins s σ H x v vl vu lo hi sl Q I rx hs pl pu h
 obtain ⟨a,xs,rfl,hx,q1,q2⟩:=h
 by_cases hw:HT.sIx xs.length 0 lo=0/\HT.sIx xs.length xs.length hi=xs.length
 ·cases rx
  obtain ⟨its,r,ht,hz⟩:=I.tuple hx
  have hlen:its.toArray.size=xs.length:=by rw [wH]; exact r.length.symm
  refine ⟨"tuple",_,yO.lookup,ht.typeIs,?_⟩
  exact LTu.get_whole ht hs pl pu (by rw [hlen]; exact hw) ⟨.ref a,H,I,rfl,q1 hw⟩
 ·exact qK9 pins s σ H (.ref a) v vl vu lo hi sl Q I rx hs pl pu ⟨a,xs,rfl,hx,hw,q2 hw⟩
theorem qJQ (h:X.K=K):SlR X (fun x lo hi H Q=>qMK K x lo hi H Q\/qMU K x lo hi H Q):=by
 subst h
 exact qJD.or qLe
noncomputable def qLL (K:wJ) (te ts:TE):TE:=fun σ H Q=>te σ H fun x H1=>ts σ H1 fun y H2=>y=.int (-1)/\∃ a xs,x=.ref a/\SqT K H2 a xs/\∀ p,H2 p=none->Q (.ref p) (upd H2 p (.tup xs.reverse))
theorem qHp {xs:List V} {its:List Value} (r:jB xs its):jB xs.reverse its.reverse:=by
 induction r with
 | nil=>exact .nil
 | cons h1 h2 ih=>
  simpa only [List.reverse_cons] using jB.append ih (.cons h1 .nil)
theorem qJJ (hK:X.K=K) (he:PE X e te) (hs:PE X st ts):PE X (.Subscript e (.Slice none none (some st) p2) pos) (qLL K te ts):=by
 subst hK
 intro pins s σ H Q I h
 refine Subscript_ (thn (he pins s σ H _ I h) fun v s1 ⟨x,H1,I1,r1,q1⟩=>?_)
 refine wpAny_Slice ?_
 rw [WG]
 iterate 2 apply wG
 rw [WH]
 refine thn (hs pins s1 σ H1 _ I1 q1) fun u s3 ⟨y,H3,I3,r3,q3⟩=>?_
 obtain ⟨rfl,a,xs,rfl,hx,q⟩:=q3
 obtain ⟨tk,rfl⟩:=r3
 cases r1
 have I4:Inv X pins σ H3 { s3 with heap:=s3.heap.push { cls:=.type "slice",data:=.fields #[.none,.none,.int (-1) tk] } }:=I3.kept (t':=s3.toks) fun b ob q=>wD _ q
 obtain ⟨its,r,ht,hz⟩:=I4.tuple hx
 have hsl:=WN s3.heap .none .none (.int (-1) tk)
 have hlen:its.toArray.size=xs.length:=by rw [wH]; exact r.length.symm
 show wpAny (model X.prog X.w) X.A (subscriptTail e (.Slice none none (some st) p2) (.ref a) (.ref s3.heap.objs.size)) (EP X pins σ Q) X.xe { s3 with heap:=s3.heap.push { cls:=.type "slice",data:=.fields #[.none,.none,.int (-1) tk] } }
 refine tail_any (ops:=[.ref a,.ref s3.heap.objs.size]) ht.typeIs yO.lookup ?_ (by with_unfolding_all rfl)
 refine LTu.get_rev ht hsl (by rw [hlen]; exact hz) ?_
 refine ⟨.ref _,_,I4.laid (t':=s3.toks) (o:=.tup xs.reverse) (fun b ob q=>wD _ q) (wO _) ?_,rfl,q _ (I4.hok.fresh (wO _))⟩
 exact ⟨by rw [uY]; exact hz,its.reverse,qHp r,IsTup.new _ _,NoD.new rfl⟩
end
end L2
namespace LTu
open PySem PyProof.Rows HT
end LTu
namespace L2
open PySem PyProof.Rows HT
end L2
namespace LTu
open PySem PyProof.Rows HT
end LTu
namespace L2
open PySem PyProof.Rows HT
section
variable {X:Cx} {o lo hi:Expr} {to tl tu:TE} {p2 pos:Pos}
noncomputable def qMw (to tl tu:TE):TG:=fun v σ H Q=>to σ H fun x H1=>tl σ H1 fun i H2=>tu σ H2 fun j H3=>∃(l b:Addr) (xs ys:List V) (a c:Int),x=.ref l/\v=.ref b/\i=.int a/\j=.int c/\H3 l=some (.lst xs)/\H3 b=some (.lst ys)/\l≠b/\0<=a/\a<=c/\c<=xs.length/\xs.length+ys.length<=sizeLine/\Q σ (upd H3 l (.lst (xs.take a.toNat++ys++xs.drop c.toNat)))
theorem qKk (ho:PE X o to) (hl:PE X lo tl) (hu:PE X hi tu):PG X (.Subscript o (.Slice (some lo) (some hi) none p2) pos) (qMw to tl tu):=by
 intro pins s σ H v u Q I r h
 rw [PySem.assign_Subscript]
 refine wB (yM (thn (ho pins s σ H _ I h) fun ov s1 ⟨x,H1,I1,r1,q1⟩=>?_))
 refine wB (yM (wpAny_Slice ?_))
 rw [WH]
 refine thn (hl pins s1 σ H1 _ I1 q1) fun b1 s2 ⟨y,H2,I2,r2,q2⟩=>?_
 rw [WH]
 refine thn (hu pins s2 σ H2 _ I2 q2) fun b2 s3 ⟨z,H3,I3,r3,q3⟩=>?_
 rw [WG]
 refine wG ?_
 obtain ⟨l,b,xs,ys,a,c,rfl,rfl,rfl,rfl,hl',hb',ne,h0,hac,hc,hz,q⟩:=q3
 cases r1
 cases r
 have I4:Inv X pins σ H3 { s3 with heap:=s3.heap.push { cls:=.type "slice",data:=.fields #[b1,b2,.none] } }:=I3.kept (t':=s3.toks) fun _ _=>wD _
 have hsl:({ s3 with heap:=s3.heap.push { cls:=.type "slice",data:=.fields #[b1,b2,.none] } }:Shared).heap.IsSliceOf s3.heap.objs.size b1 b2 .none:=WN s3.heap b1 b2 .none
 refine wB (kK (wB (yM (qGu I4 hl' hb' ne hsl r2 r3 h0 hac hc hz fun s' I'=>?_))))
 exact wpAny_release ⟨σ,_,I',q⟩
end
end L2
namespace LTu
open PySem PyProof.Rows HT
end LTu
namespace L2
open PySem PyProof.Rows HT
end L2
namespace L2
open PySem PySem.Spec PyProof.Rows
section
variable {s:Shared} {prog:Program} {w:World} {A:Around} {E:Value->Shared->Prop} {r:Addr} {a b c i:Int} {t u v ti:Tok}
theorem qFx {Q:Value->Shared->Prop} (hr:IsRange s.heap r a b c t u v) (h:Q (.bool (!(hE a b c i).isSome)) s):wpAny (model prog w) A (compareOp .NotIn (.int i ti) (.ref r)) Q E s:=by
 have ty:s.TypeIs (.ref r) "range":=⟨_,hr,rfl⟩
 refine NotIn_slot ty F.slot_range_contains (vD F.slot_range_contains ty F.entry_range_contains ?_ (F.args_range_contains_2 _ _))
 unfold Builtin.«range.__contains__»
 generalize hq:hE = RP at h ⊢
 wp_walk
 exact ⟨_,rfl,uP h⟩
theorem qE7 (j i:Int):(hE 0 j 1 i).isSome=(decide (0<=i) && decide (i<j)):=by
 unfold hE
 rw [if_pos (show (1:Int) > 0 by decide),Int.emod_one,show ((0:Int) == 0)=true from rfl]
 show (if ((decide (0<=i) && decide (i<j)) && true)=true then some ((i - 0) / 1) else none).isSome=_
 rw [TB]
 cases h:(decide (0<=i) && decide (i<j)) with
 | true=>rw [if_pos rfl]; rfl
 | false=>rw [if_neg wQ]; rfl
end
noncomputable def qGM:R2:=fun x y H Q=>∃(i:Int) (p:Addr) (j:Int),x=.int i/\y=.ref p/\H p=some (.rng 0 j)/\Q (.bl (!(decide (0<=i) && decide (i<j)))) H
section
variable {X:Cx}
theorem qCA:OpR X (compareOp .NotIn) qGM:=by
 intro pins s σ H x y v u Q I rx ry h
 obtain ⟨i,p,j,rfl,rfl,hp,q⟩:=h
 obtain ⟨t,rfl⟩:=rx
 cases ry
 obtain ⟨t1,t2,t3,e⟩:=I.hok p _ hp
 refine qFx e ⟨.bl _,H,I,rfl,?_⟩
 rw [qE7]
 exact q
end
section
variable {w:World} {prog:Program} {s:Shared} {A:Around} {E:Value->Shared->Prop}
noncomputable abbrev YD (led:Bool):Obj:={ cls:=.type "set",dict:=none,data:=.set #[] 0 (.fresh 0 0 led) }
noncomputable def J7 (ns:List Int):Nat:=(firstMet (fun i=>ns.getD i 0) ns.length).length
noncomputable def qIr (ns:List Int) (k:Int):Bool:=(firstMet (fun i=>ns.getD i 0) ns.length).any (· == k)
theorem qEc {x:Value} {Q:Value->Shared->Prop} (K:∀ led:Bool,codeAny (model prog w) A.in1 (.call (.builtin "set.__init__") ⟨[.ref s.heap.objs.size,x],[]⟩) (wants (fun r s2=>r=.none/\Q (.ref s.heap.objs.size) s2) E) { s with heap:=s.heap.push (YD led) }):wpAny (model prog w) A (call (.type "set") [x]) Q E s:=by
 obtain ⟨m0,ms,mro⟩:=vW.mro
 obtain ⟨b1,b2,b3,b4⟩:=gS vW.made (gS vW.sub (gS vW.notType vW.canCreate))
 have ck:=F.typeCall_set_1 x
 refine wpAny_call (ZU (show wpAny _ _ (callAny (.type "set") _) _ _ _ from wG ⟨Code.quiet_builtin _ (by decide +kernel),ZV F.entry_type_call ?_⟩))
 rw [Around.under_plain (weight_type_call_type "set" [x] []) rfl]
 repeat' first | assumption | wp_step
 refine kD (code_set_new_1 x (E:=E) (Q₁:=fun r s1=>∃ led:Bool,r=.ref s.heap.objs.size/\s1 = { s with heap:=s.heap.push (YD led) }) fun led=>⟨led,rfl,rfl⟩) fun r s1 hr=>?_
 rcases r with _ | fl
 ·exact hr
 cases fl with
 | ret v=>
  obtain ⟨led,rfl,rfl⟩:=hr
  have ty:WJ { s with heap:=s.heap.push (YD led) } (.ref s.heap.objs.size) "set":=⟨YD led,zF s.heap (o:=YD led) rfl,rfl⟩
  obtain ⟨i1,i2⟩:=gS vW.init.lookup (vW.init.bind (.ref s.heap.objs.size))
  repeat' first | assumption | wp_step
  refine kD (K led) fun r2 s2 hr2=>?_
  rcases r2 with _ | fl2
  ·exact hr2
  cases fl2 with
  | ret v2=>
   obtain ⟨rfl,q⟩:=hr2
   repeat (any_goals (first | exact q | assumption | wp_step))
  | _=>exact hr2.elim
 | _=>exact hr.elim
end
section
variable {X:Cx}
theorem qF1 {its:List Value}:∀{ns:List Int},jB (ns.map V.int) its->IntsAre its ns:=by
 induction its with
 | nil=>intro ns h; cases ns with
  | nil=>exact .nil
  | cons n ns=>cases h
 | cons u us ih=>intro ns h; cases ns with
  | nil=>cases h
  | cons n ns=>
   cases h with
   | cons r t=>
    obtain ⟨tk,rfl⟩:=r
    exact .cons n tk (ih t)
noncomputable def qKN:List V->Hp->VK->Prop:=fun xs H Q=>∃(p:Addr) (S:Int->Bool) (n:Nat),xs=[.ref p]/\H p=some (.set S n)/\Q (.int n) H
theorem qGC:QJ X (.builtin "len") qKN:=by
 intro pins s σ H xs us Q I r h
 obtain ⟨p,S,n,rfl,hp,q⟩:=h
 obtain ⟨u,rfl,ru⟩:=vals1 r
 cases ru
 obtain ⟨o,es,ep,t,ho,hex,hd,_,_,hb,hf,hn⟩:=I.hok p _ hp
 refine call_len_set ho hex hd hf (by unfold scanBound at hb; omega) ?_
 rw [hn]
 exact ⟨.int n,H,I.tok _,⟨_,rfl⟩,q⟩
end
end L2
namespace L2
open PySem PyProof.Rows
end L2
namespace L2
open PySem Spec
open PyProof.Rows
end L2
namespace L2
open PySem PySem.Spec PyProof.Rows
section
variable {w:World} {prog:Program} {s:Shared} {A:Around} {E:Value->Shared->Prop}
theorem qBs {l:Addr} {its:List Value} {ns:List Int} {Q:Value->Shared->Prop} (hh:A.handled=none) (ht:s.heap.IsList l its.toArray) (hi:IntsAre its ns) (hb:its.length+1<scanBound)
  (k:∀(h':Heap) (tk:Nat),h'.SetOf (intKind prog w) s.heap.objs.size (qIr ns) (J7 ns)->(∀ b o,s.heap.get? b=some o->h'.get? b=some o)->Q (.ref s.heap.objs.size) { s with heap:=h',toks:=tk }):wpAny (model prog w) A (call (.type "set") [.ref l]) Q E s:=by
 have hlen:its.toArray.size=ns.length:=by simpa using IntsAre.length hi
 refine qEc fun led=>?_
 have oS:(s.heap.push (YD led)).get? s.heap.objs.size=some (YD led):=zF s.heap rfl
 have ty:WJ { s with heap:=s.heap.push (YD led) } (.ref s.heap.objs.size) "set":=⟨_,oS,rfl⟩
 have tup:(s.heap.push (YD led)).IsList l its.toArray:=ht.push _
 have z:(s.heap.push (YD led)).objs.size=s.heap.objs.size+1:=uI _ _
 obtain ⟨⟨c,dd,u,sl⟩,hol,hc,m,hd⟩:=ht
 cases (hc:c=.type "list")
 cases (hd:u=.seq its.toArray m)
 have ll:l<s.heap.objs.size:=zN hol
 have ol:(s.heap.push (YD led)).get? l=some ⟨.type "list",dd,.seq its.toArray m,sl⟩:=wD _ hol
 refine codeAny_call_builtin vW.init.plain F.entry_set_init (check_set_init_1 ty ?_)
 have q1:=F.sub_list_set
 have q2:=F.sub_list_frozenset
 have q3:(ZN "list" == ZN "dict")=false:=by decide
 unfold Builtin.«set.__init__»; unfold noKeywords; unfold UB
 generalize walks:pyIter=PI; wp_walk; subst walks
 refine fP tup (wB (wpAny_runValue (codeAny_set_update_loopS ((Walks.list (A:=A.in1.in1.in1) (by simp [hh]) _ l ?_ its.toArray).toS) s.heap.objs.size ?_ (fun i=>ns.getD i 0) (fun i v hv=>IntsAre.int_at hi i v (by simpa using hv)) (by simpa using hb) (its.toArray.size - 0) 0 _ (by omega) (zZ _) ⟨⟨_,zF _ rfl,rfl,rfl⟩,tup.push _⟩ ?_ ?_)))
 ·rw [z]
  exact yE (gK ll)
 ·rw [z]
  simp only [wM,wY,or_false,not_or]
  exact ⟨yE (ZI _),gG ll⟩
 ·exact SetOf_congr ((setObjOf_fresh (knd:=intKind prog w) led).setOf (wD _ oS) (by unfold scanBound; omega)) (fun _=>rfl) rfl
 ·rintro ⟨h',g,d,t,os⟩ same hS
  cases (same.gens:g=s.gens)
  cases (same.drawn:d=s.drawn)
  cases (same.os:os=s.os)
  refine wG (wG ⟨rfl,k h' t (by rw [hlen] at hS; exact hS) fun b o e=>same.heap b o ?_ (wD _ (wD _ e))⟩)
  have lb:=zN e
  simp only [wM,wY,or_false,not_or]
  exact ⟨yE lb,z ▸ yE (gK lb)⟩
end
section
variable {X:Cx}
noncomputable def qIL:List V->Hp->VK->Prop:=fun xs H Q=>∃(p:Addr) (ns:List Int),xs=[.ref p]/\H p=some (.lst (ns.map V.int))/\ns.length<=1000/\∀ l,H l=none->Q (.ref l) (upd H l (.set (qIr ns) (J7 ns)))
theorem qEv (hc:X.calm=true):QJ X (.type "set") qIL:=by
 intro pins s σ H xs us Q I r h
 obtain ⟨p,ns,rfl,hp,hl,q⟩:=h
 obtain ⟨u,rfl,ru⟩:=vals1 r
 cases ru
 have hh:X.A.handled=none:=I.ok.hd hc
 obtain ⟨its,rv,pt,hz⟩:=I.list (SqL.of (K:=X.K) hp)
 have hi:=qF1 rv
 have hlen:its.length=ns.length:=IntsAre.length hi
 refine qBs hh pt.isList hi (by unfold scanBound; omega) fun h' tk hS hk=>?_
 exact ⟨.ref s.heap.objs.size,_,I.laid (t':=tk) (o:=.set (qIr ns) (J7 ns)) hk (wO _) hS,rfl,q _ (I.hok.fresh (wO _))⟩
end
end L2
namespace L2
open PySem PySem.Spec PyProof.Rows PySem.W
end L2
namespace LSo
open PySem PySem.W PyProof.Rows
end LSo
namespace L2
open PySem PySem.Spec PyProof.Rows PySem.W
end L2
namespace L2
open PySem
noncomputable abbrev ST:=SetTable
noncomputable def qJ9 (xs:Array Nat):Prop:=∀ a b (ha:a<b) (hb:b<xs.size),xs[a]<xs[b]
theorem qJ9.le {xs:Array Nat} (R:qJ9 xs) {a b:Nat} (h:a<=b) (hb:b<xs.size):xs[a]<=xs[b]:=by
 rcases Nat.lt_or_eq_of_le h with z | z
 ·exact vI (R a b z hb)
 ·subst z
  exact wO _
theorem qCU {xs:Array Nat} {k:Nat} (h:k<xs.size) (d:Nat):xs.getD k d=xs[k]:=by
 rw [uC,zR h]
 rfl
structure Cut (xs:Array Nat) (j r:Nat):Prop where
 le:r<=xs.size
 lt:∀ k (h:k<r) (hk:k<xs.size),xs[k]<j
 ge:∀ k (h:r<=k) (hk:k<xs.size),j<=xs[k]
theorem qEx {xs:Array Nat} (R:qJ9 xs) (j:Nat):∀(fuel lo hi:Nat),lo<=hi->hi<=xs.size->hi - lo<=fuel->(∀ k (h:k<lo) (hk:k<xs.size),xs[k]<j)->(∀ k (h:hi<=k) (hk:k<xs.size),j<=xs[k])->Cut xs j (SetTable.below.go xs j fuel lo hi)
 | 0,lo,hi,h1,h2,h3,h4,h5=>by
  have e:lo=hi:=by omega
  subst e
  exact ⟨h2,h4,h5⟩
 | fuel+1,lo,hi,h1,h2,h3,h4,h5=>by
  unfold SetTable.below.go
  by_cases z:lo<hi
  ·rw [if_pos z]
   have m1:(lo+hi) / 2<xs.size:=by omega
   dsimp only
   rw [qCU m1]
   by_cases y:xs[(lo+hi) / 2]<j
   ·rw [if_pos y]
    refine qEx R j fuel _ hi (by omega) h2 (by omega) (fun k hk hs=>?_) h5
    exact yR (R.le (show k<=(lo+hi) / 2 by omega) m1) y
   ·rw [if_neg y]
    refine qEx R j fuel lo _ (by omega) (by omega) (by omega) h4 fun k hk hs=>?_
    exact zO (xN y) (R.le hk hs)
  ·rw [if_neg z]
   have e:lo=hi:=by omega
   subst e
   exact ⟨h2,h4,h5⟩
theorem Qo {xs:Array Nat} (R:qJ9 xs) (j:Nat):Cut xs j (vG xs j):=qEx R j xs.size 0 xs.size (zZ _) (wO _) (by omega) (fun k h=>absurd h (uN _)) fun k h hk=>absurd hk (Nat.not_lt.mpr h)
structure Tab (t:ST) (n:Nat):Prop where
 rise:qJ9 t.place
 size:t.place.size=n
 bare:t.dummies = #[]
 mask:∀ k (h:k<t.place.size),t.place[k]<=t.mask
theorem qBZ {t:ST} {n:Nat} (T:Tab t n) {j i:Nat} (h:t.place[i]? = some j):t.slot j=.live i:=by
 obtain ⟨hi,e⟩:=kT.mp h
 have c:=Qo T.rise j
 have eb:vG t.place j=i:=by
  refine gY (xN fun z=>?_) (xN fun z=>?_)
  ·have:=c.lt i z hi
   omega
  ·have:=c.ge _ (wO _) (Nat.lt_trans z hi)
   have:=T.rise _ _ z hi
   omega
 unfold SetTable.slot
 dsimp only
 rw [eb,h]
 simp
theorem qEU {t:ST} {n:Nat} (T:Tab t n) {j:Nat} (h:∀ i:Nat,t.place[i]?≠some j):t.slot j=.empty:=by
 unfold SetTable.slot
 dsimp only
 have e1:(t.place[vG t.place j]? == some j)=false:=beq_eq_false_iff_ne.mpr (h _)
 have e2:SetTable.has t.dummies j=false:=by
  rw [T.bare]
  rfl
 rw [e1,e2]
 rfl
theorem qGn {t:ST} {n:Nat} (T:Tab t n) (j:Nat):t.slot j=.empty\/∃ i:Nat,t.slot j=.live i/\t.place[i]? = some j:=by
 by_cases h:∃ i:Nat,t.place[i]? = some j
 ·obtain ⟨i,hi⟩:=h
  exact .inr ⟨i,qBZ T hi,hi⟩
 ·exact .inl (qEU T fun i z=>h ⟨i,z⟩)
noncomputable def qG (t:ST) (h:Int):Nat->SetTable.Probe
 | 0=>t.probeStart h
 | n+1=>t.advance (qG t h n)
noncomputable def qu (mask:Nat) (b:Nat):Nat->Nat×Nat
 | 0=>(b % (mask+1),b)
 | k+1=>xQ mask (qu mask b k).1 (qu mask b k).2
theorem JP (mask b:Nat):∀ k,(qu mask b k).2=b / 32 ^ k
 | 0=>by
  show b=b / 1
  rw [Nat.div_one]
 | k+1=>by
  show (qu mask b k).2 / 32=_
  rw [JP mask b k,Nat.div_div_eq_div_mul,Nat.pow_succ]
theorem qBo (mask b:Nat):∀ k,(qu mask b k).1<=mask
 | 0=>xG (WR _ (fC _))
 | _+1=>xG (WR _ (fC _))
structure qGf (t:ST) (h:Int) (k n:Nat):Prop where
 few:n<=10*k
 j:(qG t h n).j=(qu t.mask (wX h) k).1
 i:(qG t h n).i=(qu t.mask (wX h) k).1
 p:(qG t h n).perturb=(qu t.mask (wX h) k).2
 more:(qG t h n).more=xD t.mask (qu t.mask (wX h) k).1 - (qu t.mask (wX h) k).1
theorem qAZ (t:ST) (h:Int) {n:Nat}:∀ r,r<=(qG t h n).more->(qG t h (n+r)).j=(qG t h n).j+r/\(qG t h (n+r)).i=(qG t h n).i/\(qG t h (n+r)).perturb=(qG t h n).perturb/\(qG t h (n+r)).more=(qG t h n).more - r
 | 0,_=>⟨rfl,rfl,rfl,rfl⟩
 | r+1,hr=>by
  obtain ⟨h1,h2,h3,h4⟩:=qAZ t h r (VC hr)
  have e:qG t h (n+(r+1)) = { qG t h (n+r) with j:=(qG t h (n+r)).j+1,more:=(qG t h (n+r)).more - 1 }:=by
   show t.advance (qG t h (n+r))=_
   unfold kY
   rw [if_pos (by omega)]
  rw [e]
  dsimp only
  exact ⟨by omega,h2,h3,by omega⟩
theorem qDJ (t:ST) (h:Int):∀ k,∃ n,qGf t h k n
 | 0=>⟨0,wO _,rfl,rfl,rfl,rfl⟩
 | k+1=>by
  obtain ⟨n,b⟩:=qDJ t h k
  obtain ⟨h1,h2,h3,h4⟩:=qAZ t h (n:=n) (qG t h n).more (wO _)
  have m9:(qG t h n).more<=9:=by
   rw [b.more]
   unfold xD
   split <;> omega
  have e:qG t h (n+(qG t h n).more+1) = { qG t h (n+(qG t h n).more) with j:=(xQ t.mask (qu t.mask (wX h) k).1 (qu t.mask (wX h) k).2).1,more:=xD t.mask (xQ t.mask (qu t.mask (wX h) k).1 (qu t.mask (wX h) k).2).1 - (xQ t.mask (qu t.mask (wX h) k).1 (qu t.mask (wX h) k).2).1,i:=(xQ t.mask (qu t.mask (wX h) k).1 (qu t.mask (wX h) k).2).1,perturb:=(xQ t.mask (qu t.mask (wX h) k).1 (qu t.mask (wX h) k).2).2 }:=by
   show t.advance (qG t h (n+(qG t h n).more))=_
   unfold kY
   rw [if_neg (by omega),h2,h3,b.i,b.p]
  refine ⟨n+(qG t h n).more+1,?_,?_,?_,?_,?_⟩
  ·have:=b.few
   omega
  ·rw [e]; rfl
  ·rw [e]; rfl
  ·rw [e]; rfl
  ·rw [e]; rfl
noncomputable def qHu (m i:Nat):Nat:=(i*5+1) % m
noncomputable def qAq (m:Nat):Nat->Nat->Nat
 | 0,i=>i
 | q+1,i=>qHu m (qAq m q i)
theorem Jf (m a:Nat) (i:Nat):∀ b,qAq m (a+b) i=qAq m b (qAq m a i)
 | 0=>rfl
 | b+1=>congrArg (qHu m) (Jf m a i b)
noncomputable def qJf (m:Nat):Nat->Nat->List Nat
 | 0,_=>[]
 | k+1,i=>i::qJf m k (qHu m i)
noncomputable def qJr (m:Nat):Bool:=(wV m).all (fun e=>(qJf m m 0).contains e) && qAq m m 0 == 0
theorem YU {m:Nat}:∀{k i e:Nat},e∈qJf m k i->∃ q,q<k/\qAq m q i=e
 | 0,i,e,h=>absurd h wY
 | k+1,i,e,h=>by
  rcases wM.mp h with z | z
  ·exact ⟨0,fC _,z.symm⟩
  ·obtain ⟨q,hq,e1⟩:=YU z
   refine ⟨q+1,Nat.succ_lt_succ hq,?_⟩
   rw [Nat.add_comm,Jf]
   exact e1
theorem qDT {m:Nat} (h:qJr m=true) {i e:Nat} (hi:i<m) (he:e<m):∃ q,q<m/\qAq m q i=e:=by
 unfold qJr at h
 rw [zX,vT,beq_iff_eq] at h
 obtain ⟨h1,h2⟩:=h
 obtain ⟨a,ha,ea⟩:=YU (List.contains_iff_mem.mp (h1 i (zY.mpr hi)))
 obtain ⟨b,hb,eb⟩:=YU (List.contains_iff_mem.mp (h1 e (zY.mpr he)))
 by_cases z:a<=b
 ·refine ⟨b - a,by omega,?_⟩
  rw [<- ea,<- Jf,Nat.add_sub_cancel' z]
  exact eb
 ·refine ⟨m - a+b,by omega,?_⟩
  rw [<- ea,<- Jf,show a+(m - a+b)=m+b by omega,Jf,h2]
  exact eb
noncomputable def Fits (mask:Nat):Prop:=mask=7\/mask=31\/mask=127\/mask=511
theorem qBf {mask:Nat} (h:Fits mask):qJr (mask+1)=true:=by
 rcases h with rfl | rfl | rfl | rfl <;> decide +kernel
theorem qHo (h:Int):wX h / 32 ^ 13=0:=by
 refine Nat.div_eq_of_lt ?_
 unfold wX
 have h1:=uJ h (show (0:Int)<2 ^ 64 by decide)
 have h2:=kJ h (show (2 ^ 64:Int)≠0 by decide)
 have e:(32:Nat) ^ 13=36893488147419103232:=by decide
 have e2:(2:Int) ^ 64=18446744073709551616:=by decide
 rw [e]
 rw [e2] at *
 omega
theorem Js (mask:Nat) (h:Int):∀ q,(qu mask (wX h) (13+q)).1=qAq (mask+1) q (qu mask (wX h) 13).1
 | 0=>rfl
 | q+1=>by
  have e0:(qu mask (wX h) (13+q)).2=0:=by
   rw [JP,Nat.pow_add,<- Nat.div_div_eq_div_mul,qHo,Nat.zero_div]
  show ((qu mask (wX h) (13+q)).1*5+1+(qu mask (wX h) (13+q)).2 / 32) % (mask+1)=qHu (mask+1) (qAq (mask+1) q (qu mask (wX h) 13).1)
  rw [e0,Nat.zero_div,Nat.add_zero,Js mask h q]
  rfl
theorem asked {t:ST} (F:Fits t.mask) (h:Int) {e:Nat} (he:e<=t.mask):∃ n,n<10*kA t.mask/\(qG t h n).j=e:=by
 obtain ⟨q,hq,eq⟩:=qDT (qBf F) (kP (qBo t.mask (wX h) 13)) (kP he)
 obtain ⟨n,b⟩:=qDJ t h (13+q)
 refine ⟨n,?_,?_⟩
 ·have:=b.few
  unfold kA
  omega
 ·rw [b.j,Js]
  exact eq
theorem qAK (t:ST) (h:Int):∀ n,(qG t h n).dummy=none
 | 0=>rfl
 | n+1=>by
  have ih:=qAK t h n
  show (t.advance (qG t h n)).dummy=none
  unfold kY
  split
  ·exact ih
  ·exact ih
structure qFH (t:ST) (hs:Nat->Int) (h:Int) (a c:Nat):Prop where
 le:a<=c
 past:∀ q,a<=q->q<c->∃ i,t.slot (qG t h q).j=.live i/\hs i≠h
theorem qIh {t:ST} {n:Nat} (T:Tab t n) (hs:Nat->Int) (h:Int):∀(fuel a b:Nat),a<=b->b<a+fuel->t.slot (qG t h b).j=.empty->
  ∃ c,c<=b/\qFH t hs h a c/\((t.slot (qG t h c).j=.empty/\uT t hs h fuel (qG t h a)=some (.empty (qG t h c).j none))\/∃ i,t.slot (qG t h c).j=.live i/\hs i=h/\uT t hs h fuel (qG t h a)=some (.candidate (qG t h c).j i (qG t h (c+1))))
 | 0,a,b,h1,h2,_=>absurd h2 (by omega)
 | fuel+1,a,b,h1,h2,h3=>by
  have nil:qFH t hs h a a:=⟨wO _,fun q z y=>absurd y (Nat.not_lt.mpr z)⟩
  rcases qGn T (qG t h a).j with e | ⟨i,e,_⟩
  ·refine ⟨a,h1,nil,.inl ⟨e,?_⟩⟩
   unfold uT
   rw [e]
   dsimp only
   rw [qAK]
  ·by_cases z:hs i=h
   ·refine ⟨a,h1,nil,.inr ⟨i,e,z,?_⟩⟩
    unfold uT
    rw [e]
    dsimp only
    rw [if_pos (beq_iff_eq.mpr z)]
    rfl
   ·have ne:a≠b:=fun y=>by
     rw [y,h3] at e
     cases e
    have eg:uT t hs h (fuel+1) (qG t h a)=uT t hs h fuel (qG t h (a+1)):=by
     conv=>lhs; unfold uT
     rw [e]
     dsimp only
     rw [if_neg (fun y=>z (beq_iff_eq.mp y))]
     rfl
    obtain ⟨c,c1,m,r⟩:=qIh T hs h fuel (a+1) b (by omega) (by omega) h3
    rw [<- eg] at r
    refine ⟨c,c1,⟨VC m.le,fun q q1 q2=>?_⟩,r⟩
    by_cases y:q=a
    ·rw [y]
     exact ⟨i,e,z⟩
    ·exact m.past q (by omega) q2
theorem qAj {m j:Nat} (h:j<=m):j+(xD m j - j)<=m:=by
 unfold xD
 split <;> omega
theorem Q1 (t:ST) (h:Int):∀ n,(qG t h n).j+(qG t h n).more<=t.mask
 | 0=>qAj (xG (WR (wX h) (fC t.mask)))
 | n+1=>by
  have ih:=Q1 t h n
  show (t.advance (qG t h n)).j+(t.advance (qG t h n)).more<=t.mask
  unfold kY
  by_cases z:(qG t h n).more > 0
  ·rw [if_pos z]
   dsimp only
   omega
  ·rw [if_neg z]
   exact qAj (xG (WR _ (fC t.mask)))
theorem Jn {t u:ST} (e:t.mask=u.mask) (h:Int):∀ n,qG t h n=qG u h n
 | 0=>by
  show t.probeStart h=u.probeStart h
  unfold SetTable.probeStart
  rw [e]
 | n+1=>by
  show t.advance (qG t h n)=u.advance (qG u h n)
  rw [Jn e h n]
  unfold kY
  rw [e]
theorem Ym {xs:Array Nat}:qJ9 xs↔xs.toList.Pairwise (· < ·):=by
 refine Iff.trans ?_ UT.symm
 constructor
 ·intro R i j hi hj hij
  rw [uU,uU]
  exact R i j hij (by simpa using hj)
 ·intro P a b ha hb
  have:=P a b (by simp; omega) (by simpa using hb) ha
  rwa [uU,uU] at this
structure Qk (t:ST) (hs:List Int):Prop where
 tab:Tab t hs.length
 fits:Fits t.mask
 room:hs.length<=t.mask
 meet:∀(i:Nat) (h:Int),hs[i]? = some h->∃ c,t.place[i]? = some (qG t h c).j/\∀ q,q<c->t.slot (qG t h q).j≠.empty
theorem Jg {t:ST} {n:Nat} (T:Tab t n) (j:Nat):t.slot j≠.empty↔j∈t.place.toList:=by
 constructor
 ·intro h
  rcases qGn T j with z | ⟨i,_,z⟩
  ·exact absurd z h
  ·exact uQ.mpr (Array.mem_of_getElem? z)
 ·intro h z
  obtain ⟨i,hi,e⟩:=Array.mem_iff_getElem.mp (uQ.mp h)
  have:=qBZ T (kT.mpr ⟨hi,e⟩)
  rw [this] at z
  cases z
theorem qGB {t:ST} {hs:List Int} (k:Qk t hs):∃ e,e<=t.mask/\t.slot e=.empty:=by
 refine vP fun no=>?_
 have all:∀ e∈wV (t.mask+1),e∈t.place.toList:=fun e he=>(Jg k.tab e).mp fun z=>no ⟨e,xG (zY.mp he),z⟩
 have:=yY kZ all
 rw [yN,wU,k.tab.size] at this
 have:=k.room
 omega
theorem qE8 {t:ST} {hs:List Int} (k:Qk t hs) (g:Nat->Int) (h:Int) (a:Nat) (ha:∀ b,t.slot (qG t h b).j=.empty->b<10*kA t.mask->a<=b) :
  ∃ c,qFH t g h a c/\((t.slot (qG t h c).j=.empty/\t.probe g h (qG t h a)=some (.empty (qG t h c).j none))\/∃ i,t.slot (qG t h c).j=.live i/\g i=h/\t.probe g h (qG t h a)=some (.candidate (qG t h c).j i (qG t h (c+1)))):=by
 obtain ⟨e,he,se⟩:=qGB k
 obtain ⟨b,hb,eb⟩:=asked k.fits h he
 have sb:t.slot (qG t h b).j=.empty:=by rw [eb]; exact se
 obtain ⟨c,_,m,r⟩:=qIh k.tab g h (10*kA t.mask) a b (ha b sb hb) (by omega) sb
 exact ⟨c,m,r⟩
noncomputable def J4 {α:Type} (xs:List α) (p:Nat) (x:α):List α:=xs.take p++x::xs.drop p
theorem qDp {α:Type} {xs:List α} {p:Nat} (x:α) (hp:p<=xs.length) (i:Nat):(J4 xs p x)[i]? = if i<p then xs[i]? else if i=p then some x else xs[i - 1]?:=by
 unfold J4
 have l:(xs.take p).length=p:=by rw [vK]; omega
 by_cases z:i<p
 ·rw [if_pos z,yU (by omega),List.getElem?_take,if_pos z]
 ·rw [if_neg z,zW (by omega),l]
  by_cases y:i=p
  ·subst y
   rw [if_pos rfl,fE]
   rfl
  ·rw [if_neg y]
   have e:i - p=(i - 1 - p)+1:=by omega
   rw [e,ZJ,List.getElem?_drop]
   congr 1
   omega
theorem qBG {α:Type} {xs:List α} {p:Nat} (x:α):(J4 xs p x).length=xs.length+1:=by
 unfold J4
 rw [wR,vK,yG,uZ]
 omega
theorem qDM {α:Type} {xs:List α} {p:Nat} {x y:α}:y∈J4 xs p x↔y=x\/y∈xs:=by
 unfold J4
 have e:y∈xs↔y∈xs.take p\/y∈xs.drop p:=by
  rw [<- zG,ZY]
 rw [zG,wM,e]
 constructor
 ·rintro (h | h | h)
  ·exact .inr (.inl h)
  ·exact .inl h
  ·exact .inr (.inr h)
 ·rintro (h | h | h)
  ·exact .inr (.inl h)
  ·exact .inl h
  ·exact .inr (.inr h)
theorem has_none (j:Nat):SetTable.has #[] j=false:=rfl
theorem Qz {t:ST} {n:Nat} (T:Tab t n) (j:Nat):(t.put j).1.place.toList=J4 t.place.toList (vG t.place j) j:=fW _ _ _
theorem qHy {t:ST} {n:Nat} (T:Tab t n) (j:Nat):(t.put j).1.dummies = #[]:=by
 show (if SetTable.has t.dummies j then _ else t.dummies)=_
 rw [T.bare,has_none]
 rfl
theorem qIv {t:ST} {n:Nat} (T:Tab t n) {j:Nat} (hj:j<=t.mask) (s:t.slot j=.empty):Tab (t.put j).1 (n+1):=by
 have c:=Qo T.rise j
 have no:j∉t.place.toList:=fun h=>(Jg T j).mpr h s
 have pw:=Ym.mp T.rise
 have lo:∀ a∈t.place.toList.take (vG t.place j),a<j:=by
  intro a ha
  obtain ⟨k,hk,e⟩:=List.mem_iff_getElem.mp ha
  rw [vK] at hk
  rw [List.getElem_take,uU] at e
  rw [<- e]
  exact c.lt k (by omega) (by rw [<- wU]; omega)
 have hi:∀ a∈t.place.toList.drop (vG t.place j),j<a:=by
  intro a ha
  have ne:a≠j:=fun e=>no (e ▸ List.mem_of_mem_drop ha)
  obtain ⟨k,hk,e⟩:=List.mem_iff_getElem.mp ha
  rw [uZ] at hk
  rw [List.getElem_drop,uU] at e
  have:=c.ge (vG t.place j+k) (by omega) (by rw [<- wU]; omega)
  rw [e] at this
  omega
 refine ⟨Ym.mpr ?_,?_,qHy T j,?_⟩
 ·rw [Qz T]
  unfold J4
  rw [List.pairwise_append,uK]
  refine ⟨pw.sublist (WY _ _),⟨hi,pw.sublist (List.drop_sublist _ _)⟩,fun a ha b hb=>?_⟩
  rcases wM.mp hb with z | z
  ·rw [z]
   exact lo a ha
  ·exact Nat.lt_trans (lo a ha) (hi b z)
 ·rw [<- wU,Qz T,qBG,wU,T.size]
 ·intro k hk
  have:(t.put j).1.place[k]∈(t.put j).1.place.toList:=uQ.mpr (fQ hk)
  rw [Qz T,qDM] at this
  show _<=t.mask
  rcases this with z | z
  ·rw [z]
   exact hj
  ·obtain ⟨q,hq,e⟩:=Array.mem_iff_getElem.mp (uQ.mp z)
   rw [<- e]
   exact T.mask q hq
theorem qH5 {t:ST} {hs:List Int} (k:Qk t hs) (room:hs.length+1<=t.mask) {h:Int} {c:Nat} (s:t.slot (qG t h c).j=.empty) (all:∀ q,q<c->t.slot (qG t h q).j≠.empty) :
  Qk (t.put (qG t h c).j).1 (J4 hs (vG t.place (qG t h c).j) h):=by
 have hj:(qG t h c).j<=t.mask:=zO (yS _ _) (Q1 t h c)
 have T:=qIv k.tab hj s
 have cu:=Qo k.tab.rise (qG t h c).j
 have sz:=k.tab.size
 have same:∀(h':Int) (n:Nat),qG (t.put (qG t h c).j).1 h' n=qG t h' n:=fun h' n=>Jn (t:=(t.put (qG t h c).j).1) (u:=t) rfl h' n
 have more:∀ j':Nat,t.slot j'≠.empty->(t.put (qG t h c).j).1.slot j'≠.empty:=by
  intro j' n
  refine (Jg T j').mpr ?_
  rw [Qz k.tab,qDM]
  exact .inr ((Jg k.tab j').mp n)
 refine ⟨by rw [qBG]; exact T,k.fits,by rw [qBG]; exact room,fun i h' hi=>?_⟩
 rw [qDp _ (by have:=cu.le; omega)] at hi
 have hp:(t.put (qG t h c).j).1.place[i]? = if i<vG t.place (qG t h c).j then t.place[i]? else if i=vG t.place (qG t h c).j then some (qG t h c).j else t.place[i - 1]?:=by
  rw [<- xB,Qz k.tab,qDp _ (by rw [wU]; exact cu.le),xB,xB]
 rw [hp]
 have old:∀ i:Nat,hs[i]? = some h'->∃ c',t.place[i]? = some (qG (t.put (qG t h c).j).1 h' c').j/\∀ q,q<c'->(t.put (qG t h c).j).1.slot (qG (t.put (qG t h c).j).1 h' q).j≠.empty:=by
  intro i hi
  obtain ⟨c',e,al⟩:=k.meet i h' hi
  refine ⟨c',by rw [same]; exact e,fun q hq=>?_⟩
  rw [same]
  exact more _ (al q hq)
 by_cases z:i<vG t.place (qG t h c).j
 ·rw [if_pos z] at hi ⊢
  exact old i hi
 ·rw [if_neg z] at hi ⊢
  by_cases y:i=vG t.place (qG t h c).j
  ·rw [if_pos y] at hi ⊢
   cases hi
   refine ⟨c,by rw [same],fun q hq=>?_⟩
   rw [same]
   exact more _ (all q hq)
  ·rw [if_neg y] at hi ⊢
   exact old (i - 1) hi
theorem qEJ (finger moves:Nat) (led:Bool):Qk (SetTable.fresh finger moves led) []:=by
 refine ⟨⟨fun a b _ hb=>absurd hb (uN _),rfl,rfl,fun k h=>absurd h (uN _)⟩,.inl rfl,zZ _,fun i h hi=>?_⟩
 cases hi
theorem qEE {t:ST} {h:Int} {k n:Nat} (b:qGf t h k n):qGf t h (k+1) (n+(qG t h n).more+1):=by
 obtain ⟨h1,h2,h3,h4⟩:=qAZ t h (n:=n) (qG t h n).more (wO _)
 have m9:(qG t h n).more<=9:=by
  rw [b.more]
  unfold xD
  split <;> omega
 have e:qG t h (n+(qG t h n).more+1) = { qG t h (n+(qG t h n).more) with j:=(xQ t.mask (qu t.mask (wX h) k).1 (qu t.mask (wX h) k).2).1,more:=xD t.mask (xQ t.mask (qu t.mask (wX h) k).1 (qu t.mask (wX h) k).2).1 - (xQ t.mask (qu t.mask (wX h) k).1 (qu t.mask (wX h) k).2).1,i:=(xQ t.mask (qu t.mask (wX h) k).1 (qu t.mask (wX h) k).2).1,perturb:=(xQ t.mask (qu t.mask (wX h) k).1 (qu t.mask (wX h) k).2).2 }:=by
  show t.advance (qG t h (n+(qG t h n).more))=_
  unfold kY
  rw [if_neg (by omega),h2,h3,b.i,b.p]
 refine ⟨?_,?_,?_,?_,?_⟩
 ·have:=b.few
  omega
 ·rw [e]; rfl
 ·rw [e]; rfl
 ·rw [e]; rfl
 ·rw [e]; rfl
noncomputable abbrev qBR (o:Array (Option Nat)) (j:Nat):Prop:=(o.getD j (some 0)).isNone=true
theorem qH2 {t:ST} {h:Int} {k n r:Nat} (b:qGf t h k n) (hr:r∈wV (xD t.mask (qu t.mask (wX h) k).1+1 - (qu t.mask (wX h) k).1)):r<=(qG t h n).more/\(qG t h (n+r)).j=(qu t.mask (wX h) k).1+r:=by
 have l:=zY.mp hr
 have m:=b.more
 have le:r<=(qG t h n).more:=by omega
 refine ⟨le,?_⟩
 rw [(qAZ t h r le).1,b.j]
theorem qDV {t:ST} (o:Array (Option Nat)) (h:Int):∀(fuel k n:Nat),qGf t h k n->(∀ q,q<n->¬ qBR o (qG t h q).j)->(∃ k',k<=k'/\k'<k+fuel/\qBR o (qu t.mask (wX h) k').1)->
  ∃ c,gL t.mask o fuel (qu t.mask (wX h) k).1 (qu t.mask (wX h) k).2=some (qG t h c).j/\qBR o (qG t h c).j/\∀ q,q<c->¬ qBR o (qG t h q).j
 | 0,k,n,b,al,⟨k',h1,h2,_⟩=>absurd h2 (by omega)
 | fuel+1,k,n,b,al,⟨k',h1,h2,h3⟩=>by
  unfold gL
  cases f:(wV (xD t.mask (qu t.mask (wX h) k).1+1 - (qu t.mask (wX h) k).1)).find? (fun r=>(o.getD ((qu t.mask (wX h) k).1+r) (some 0)).isNone) with
  | some r=>
   obtain ⟨p,mem,lo⟩:=List.find?_range_eq_some.mp f
   obtain ⟨le,e⟩:=qH2 b mem
   refine ⟨n+r,by rw [e],by rw [e]; exact p,fun q hq=>?_⟩
   by_cases z:q<n
   ·exact al q z
   ·have q':q=n+(q - n):=by omega
    rw [q',(qAZ t h (q - n) (by omega)).1,b.j]
    have:=lo (q - n) (by omega)
    intro w
    rw [w] at this
    cases this
  | none=>
   have no:=List.find?_eq_none.mp f
   have here:∀ r,r<=(qG t h n).more->¬ qBR o ((qu t.mask (wX h) k).1+r):=fun r hr=>no r (zY.mpr (by
    have m:=b.more
    have:(qu t.mask (wX h) k).1<=xD t.mask (qu t.mask (wX h) k).1:=by
     unfold xD
     split <;> omega
    omega))
   refine qDV o h fuel (k+1) _ (qEE b) (fun q hq=>?_) ⟨k',?_,by omega,h3⟩
   ·by_cases z:q<n
    ·exact al q z
    ·have q':q=n+(q - n):=by omega
     rw [q',(qAZ t h (q - n) (by omega)).1,b.j]
     exact here (q - n) (by omega)
   ·rcases Nat.lt_or_eq_of_le h1 with z | z
    ·exact z
    ·subst z
     exact absurd h3 (here 0 (zZ _))
theorem qJS {t:ST} (F:Fits t.mask) (o:Array (Option Nat)) (h:Int) {e:Nat} (he:e<=t.mask) (be:qBR o e) :
  ∃ c,gL t.mask o (kA t.mask) (wX h % (t.mask+1)) (wX h)=some (qG t h c).j/\qBR o (qG t h c).j/\∀ q,q<c->¬ qBR o (qG t h q).j:=by
 obtain ⟨q,hq,eq⟩:=qDT (qBf F) (kP (qBo t.mask (wX h) 13)) (kP he)
 refine qDV o h (kA t.mask) 0 0 ⟨wO _,rfl,rfl,rfl,rfl⟩ (fun q hq=>absurd hq (uN _)) ⟨13+q,zZ _,?_,?_⟩
 ·unfold kA
  omega
 ·rw [Js,eq]
  exact be
structure qHk (t:ST) (o:Array (Option Nat)) (hs:List Int):Prop where
 size:o.size=t.mask+1
 low:∀(j k:Nat),o[j]? = some (some k)->k<hs.length
 once:∀(j j' k:Nat),o[j]? = some (some k)->o[j']? = some (some k)->j=j'
 meet:∀(i:Nat) (h:Int),hs[i]? = some h->∃ c,o[(qG t h c).j]? = some (some i)/\∀ q,q<c->¬ qBR o (qG t h q).j
theorem JQ {o:Array (Option Nat)} {j:Nat} (hj:j<o.size):qBR o j↔o[j]? = some none:=by
 unfold qBR
 rw [uC,zR hj,Option.getD_some]
 cases o[j] with
 | none=>exact ⟨fun _=>rfl,fun _=>rfl⟩
 | some k=>exact ⟨fun h=>(by cases h),fun h=>(by cases h)⟩
theorem qJR {t:ST} {o:Array (Option Nat)} {hs:List Int} (O:qHk t o hs) {h:Int} {c:Nat} (b:qBR o (qG t h c).j) (al:∀ q,q<c->¬ qBR o (qG t h q).j):qHk t (o.setIfInBounds (qG t h c).j (some hs.length)) (hs++[h]):=by
 have hj:(qG t h c).j<o.size:=by
  rw [O.size]
  exact kP (zO (yS _ _) (Q1 t h c))
 have at0:=(JQ hj).mp b
 have get:∀ j:Nat,(o.setIfInBounds (qG t h c).j (some hs.length))[j]? = if (qG t h c).j=j then some (some hs.length) else o[j]?:=by
  intro j
  refine Eq.trans Array.getElem?_setIfInBounds ?_
  by_cases z:(qG t h c).j=j
  ·rw [if_pos z,if_pos z,if_pos hj]
  ·rw [if_neg z,if_neg z]
 have keep:∀ j:Nat,j<=t.mask->¬ qBR o j->¬ qBR (o.setIfInBounds (qG t h c).j (some hs.length)) j:=by
  intro j hm nb w
  have w':=(JQ (by rw [TC,O.size]; omega)).mp w
  rw [get] at w'
  by_cases z:(qG t h c).j=j
  ·rw [if_pos z] at w'
   cases w'
  ·rw [if_neg z] at w'
   exact nb ((JQ (by rw [O.size]; omega)).mpr w')
 have lowj:∀(h':Int) (q:Nat),(qG t h' q).j<=t.mask:=fun h' q=>zO (yS _ _) (Q1 t h' q)
 refine ⟨by rw [TC]; exact O.size,fun j k e=>?_,fun j j' k e e'=>?_,fun i h' hi=>?_⟩
 ·rw [get] at e
  rw [wR]
  by_cases z:(qG t h c).j=j
  ·rw [if_pos z] at e
   cases e
   exact ZI _
  ·rw [if_neg z] at e
   exact gK (O.low j k e)
 ·rw [get] at e e'
  by_cases z:(qG t h c).j=j
  ·by_cases z':(qG t h c).j=j'
   ·exact z.symm.trans z'
   ·rw [if_pos z] at e
    rw [if_neg z'] at e'
    cases e
    exact absurd (O.low j' _ e') (vY _)
  ·by_cases z':(qG t h c).j=j'
   ·rw [if_neg z] at e
    rw [if_pos z'] at e'
    cases e'
    exact absurd (O.low j _ e) (vY _)
   ·rw [if_neg z] at e
    rw [if_neg z'] at e'
    exact O.once j j' k e e'
 ·by_cases z:i<hs.length
  ·rw [yU z] at hi
   obtain ⟨c',e,al'⟩:=O.meet i h' hi
   refine ⟨c',?_,fun q hq=>keep _ (lowj h' q) (al' q hq)⟩
   rw [get,if_neg,e]
   intro w
   rw [<- w,at0] at e
   cases e
  ·rw [zW (xN z)] at hi
   have i0:i=hs.length:=by
    refine gY (xN fun y=>?_) (xN z)
    rw [show i - hs.length=(i - hs.length - 1)+1 by omega] at hi
    cases hi
   subst i0
   rw [fE] at hi
   cases hi
   refine ⟨c,by rw [get,if_pos rfl],fun q hq=>keep _ (lowj h q) (al q hq)⟩
theorem qHI {t:ST} {o:Array (Option Nat)} {hs:List Int} (O:qHk t o hs) (room:hs.length<=t.mask):∃ e,e<=t.mask/\qBR o e:=by
 refine vP fun no=>?_
 have all:∀ e:Nat,e<=t.mask->∃ k,o[e]? = some (some k):=by
  intro e he
  have hl:e<o.size:=by rw [O.size]; omega
  have nb:¬ qBR o e:=fun b=>no ⟨e,he,b⟩
  cases z:o[e] with
  | none=>exact absurd ((JQ hl).mpr (by rw [zR hl,z])) nb
  | some k=>exact ⟨k,by rw [zR hl,z]⟩
 have val:∀(e k:Nat),o[e]? = some (some k)->(o.getD e none).getD 0=k:=by
  intro e k h
  rw [uC,h]
  rfl
 have nd:((wV (t.mask+1)).map fun e=>(o.getD e none).getD 0).Nodup:=by
  unfold List.Nodup
  rw [xX]
  refine (kZ (n:=t.mask+1)).imp_of_mem fun {a b} ha hb ne w=>ne ?_
  obtain ⟨k,hk⟩:=all a (xG (zY.mp ha))
  obtain ⟨k',hk'⟩:=all b (xG (zY.mp hb))
  rw [val a k hk,val b k' hk'] at w
  subst w
  exact O.once a b k hk hk'
 have sub:∀ k∈(wV (t.mask+1)).map fun e=>(o.getD e none).getD 0,k∈wV hs.length:=by
  intro k hk
  obtain ⟨e,he,ek⟩:=zP.mp hk
  obtain ⟨k',hk'⟩:=all e (xG (zY.mp he))
  rw [val e k' hk'] at ek
  subst ek
  exact zY.mpr (O.low e _ hk')
 have:=yY nd sub
 rw [wC,yN,yN] at this
 omega
noncomputable def qA7 (mask:Nat) (acc:Option (Array (Option Nat)×Nat)) (h:Int):Option (Array (Option Nat)×Nat):=
 acc.bind fun x=>(gL mask x.1 (kA mask) (wX h % (mask+1)) (wX h)).bind fun j=>some (x.1.setIfInBounds j (some x.2),x.2+1)
theorem qHX (mask:Nat) (hs:Array Int):VD mask hs=(hs.toList.foldl (qA7 mask) (some (Array.replicate (mask+1) none,0))).map (·.1):=by
 unfold VD
 rw [<- Array.foldl_toList]
 rfl
theorem qIR {t:ST} (F:Fits t.mask):∀(rest done:List Int) (o:Array (Option Nat)),qHk t o done->done.length+rest.length<=t.mask->
  ∃ o',rest.foldl (qA7 t.mask) (some (o,done.length))=some (o',done.length+rest.length)/\qHk t o' (done++rest)
 | [],done,o,O,_=>⟨o,rfl,by rw [yZ]; exact O⟩
 | h::rest,done,o,O,room=>by
  rw [yG] at room
  obtain ⟨e,he,be⟩:=qHI O (by omega)
  obtain ⟨c,fr,b,al⟩:=qJS F o h he be
  obtain ⟨o',r,O'⟩:=qIR F rest (done++[h]) _ (qJR O b al) (by rw [wR,List.length_singleton]; omega)
  refine ⟨o',?_,by rw [xA] at O'; exact O'⟩
  rw [VZ]
  have st:qA7 t.mask (some (o,done.length)) h=some (o.setIfInBounds (qG t h c).j (some done.length),(done++[h]).length):=by
   unfold qA7
   rw [Option.bind_some,fr,Option.bind_some,wR]
   rfl
  rw [st,r]
  simp only [wR,yG,kI]
  congr 2
  omega
theorem qHT (t:ST):qHk t (Array.replicate (t.mask+1) none) []:=by
 refine ⟨Array.size_replicate,fun j k e=>?_,fun j j' k e _=>?_,fun i h hi=>by cases hi⟩
 ·rw [TF] at e
  split at e <;> cases e
 ·rw [TF] at e
  split at e <;> cases e
theorem qJ5 {t:ST} (F:Fits t.mask) (hs:Array Int) (room:hs.size<=t.mask):∃ o,VD t.mask hs=some o/\qHk t o hs.toList:=by
 obtain ⟨o,r,O⟩:=qIR F hs.toList [] _ (qHT t) (by rw [kI,Nat.zero_add,wU]; exact room)
 refine ⟨o,?_,O⟩
 rw [qHX]
 rw [kI] at r
 rw [r]
 rfl
noncomputable def jX (mask:Nat) (o:Array (Option Nat)):List (Nat×Nat):=(wV (mask+1)).filterMap fun j=>(o.getD j none).map (j,·)
theorem Qa {t:ST} {o:Array (Option Nat)} {hs:List Int} (O:qHk t o hs) {j k:Nat}:(j,k)∈jX t.mask o↔o[j]? = some (some k):=by
 unfold jX
 rw [WL]
 constructor
 ·rintro ⟨a,ha,e⟩
  have hl:a<o.size:=by rw [O.size]; exact zY.mp ha
  rw [uC,zR hl,Option.getD_some] at e
  cases z:o[a] with
  | none=>rw [z] at e; cases e
  | some b=>
   rw [z] at e
   cases e
   rw [zR hl,z]
 ·intro e
  have hl:j<o.size:=(kT.mp e).1
  refine ⟨j,zY.mpr (by rw [<- O.size]; exact hl),?_⟩
  rw [uC,e]
  rfl
theorem qBn (mask:Nat) (o:Array (Option Nat)):((jX mask o).map (·.1)).Pairwise (· < ·):=by
 rw [xX]
 unfold jX
 rw [List.pairwise_filterMap]
 refine (List.pairwise_lt_range (n:=mask+1)).imp fun {a b} ab x hx y hy=>?_
 cases za:o.getD a none with
 | none=>rw [za] at hx; cases hx
 | some k=>
  cases zb:o.getD b none with
  | none=>rw [zb] at hy; cases hy
  | some k'=>
   rw [za] at hx
   rw [zb] at hy
   cases hx
   cases hy
   exact ab
theorem qFg {t:ST} {o:Array (Option Nat)} {hs:List Int} (O:qHk t o hs):uO ((jX t.mask o).map (·.2)) (wV hs.length):=by
 refine (List.perm_ext_iff_of_nodup ?_ kZ).mpr fun k=>?_
 ·unfold List.Nodup
  rw [xX]
  have r:=qBn t.mask o
  rw [xX] at r
  refine r.imp_of_mem fun {a b} ha hb lt w=>?_
  obtain ⟨a1,a2⟩:=a
  obtain ⟨b1,b2⟩:=b
  have w':a2=b2:=w
  subst w'
  have:=O.once a1 b1 a2 ((Qa O).mp ha) ((Qa O).mp hb)
  have lt':a1<b1:=lt
  omega
 ·rw [zP,zY]
  constructor
  ·rintro ⟨⟨j,k'⟩,m,e⟩
   cases e
   exact O.low j _ ((Qa O).mp m)
  ·intro hk
   obtain ⟨c,e,_⟩:=O.meet k hs[k] (wA hk)
   exact ⟨(_,k),(Qa O).mpr e,rfl⟩
theorem qDx {α:Type} (xs:List α):∀(l:List Nat),(∀ k∈l,k<xs.length)->∀ i:Nat,(l.filterMap (xs[·]?))[i]? = (l[i]?).bind (xs[·]?)
 | [],_,i=>rfl
 | k::l,h,i=>by
  have hk:=h k wF
  rw [uX,wA hk]
  cases i with
  | zero=>
   show some _=xs[k]?
   rw [wA hk]
  | succ i=>exact qDx xs l (fun a ha=>h a (wN _ ha)) i
theorem qGO {t:ST} (F:Fits t.mask) (hs:Array Int) (room:hs.size<=t.mask) (finger moves:Nat) (led plain:Bool) :
  ∃(u:ST) (order:Array Nat),SetTable.laid t.mask finger moves led plain hs=some (u,order)/\uO order.toList (wV hs.size)/\Qk u (order.toList.filterMap (hs.toList[·]?))/\u.mask=t.mask/\u.led=led/\u.plain=plain:=by
 obtain ⟨o,lo,O⟩:=qJ5 F hs room
 have pm:=qFg O
 rw [wU] at pm
 have low:∀ k∈(jX t.mask o).map (·.2),k<hs.toList.length:=fun k hk=>by
  rw [wU]
  exact zY.mp (pm.mem_iff.mp hk)
 have len:(((jX t.mask o).map (·.2)).filterMap (hs.toList[·]?)).length=(jX t.mask o).length:=by
  have:∀(l:List Nat),(∀ k∈l,k<hs.toList.length)->(l.filterMap (hs.toList[·]?)).length=l.length:=by
   intro l
   induction l with
   | nil=>intro _; rfl
   | cons k l ih=>
    intro h
    rw [uX,wA (h k wF)]
    exact congrArg (· + 1) (ih fun a ha=>h a (wN _ ha))
  rw [this _ low,wC]
 have full:(jX t.mask o).length=hs.size:=by
  have:=pm.length_eq
  rwa [wC,yN] at this
 refine ⟨{ mask:=t.mask,place:=((jX t.mask o).map (·.1)).toArray,dummies:=#[],finger,led,moves,plain },((jX t.mask o).map (·.2)).toArray,?_,pm,?_,rfl,rfl,rfl⟩
 ·unfold SetTable.laid
  rw [lo]
  rfl
 ·have T:Tab { mask:=t.mask,place:=((jX t.mask o).map (·.1)).toArray,dummies:=#[],finger,led,moves,plain } (((jX t.mask o).map (·.2)).filterMap (hs.toList[·]?)).length:=by
   refine ⟨Ym.mpr (qBn t.mask o),?_,rfl,fun k hk=>?_⟩
   ·rw [len]
    exact (wH).trans (wC _)
   ·have m:((jX t.mask o).map (·.1)).toArray[k]∈(jX t.mask o).map (·.1):=List.mem_toArray.mp (fQ hk)
    obtain ⟨⟨j,k'⟩,mm,e⟩:=zP.mp m
    show ((jX t.mask o).map (·.1)).toArray[k]<=t.mask
    rw [<- e]
    have:=(kT.mp ((Qa O).mp mm)).1
    rw [O.size] at this
    exact xG this
  refine ⟨T,F,by show _<=t.mask; rw [len,full]; exact room,fun i h hi=>?_⟩
  rw [qDx _ _ low,wL] at hi
  cases z:(jX t.mask o)[i]? with
  | none=>rw [z] at hi; cases hi
  | some p=>
   rw [z] at hi
   obtain ⟨j,k⟩:=p
   have hk:hs.toList[k]? = some h:=hi
   have own:=(Qa O).mp (vN z)
   obtain ⟨c,e,al⟩:=O.meet k h hk
   have ej:=O.once _ _ _ e own
   have same:∀ q,qG { mask:=t.mask,place:=((jX t.mask o).map (·.1)).toArray,dummies:=#[],finger,led,moves,plain } h q=qG t h q:=fun q=>Jn (t:={ mask:=t.mask,place:=((jX t.mask o).map (·.1)).toArray,dummies:=#[],finger,led,moves,plain }) (u:=t) rfl h q
   refine ⟨c,?_,fun q hq=>?_⟩
   ·rw [same,ej]
    show ((jX t.mask o).map (·.1)).toArray[i]? = some j
    rw [ZX,wL,z]
    rfl
   ·rw [same]
    refine (Jg T _).mpr ?_
    show (qG t h q).j∈(jX t.mask o).map (·.1)
    have hl:(qG t h q).j<o.size:=by
     rw [O.size]
     exact kP (zO (yS _ _) (Q1 t h q))
    cases y:o[(qG t h q).j] with
    | none=>exact absurd ((JQ hl).mpr (by rw [zR hl,y])) (al q hq)
    | some k'=>exact zP.mpr ⟨(_,k'),(Qa O).mpr (by rw [zR hl,y]),rfl⟩
structure Jw (t:ST) (hs:List Int):Prop where
 kept:Qk t hs
 few:hs.length*5<t.mask*3
theorem Jw.fill {t:ST} {hs:List Int} (k:Qk t hs):t.fill=hs.length:=by
 unfold SetTable.fill
 rw [k.tab.size,k.tab.bare]
 rfl
theorem YV (finger moves:Nat) (led:Bool):Jw (SetTable.fresh finger moves led) []:=⟨qEJ finger moves led,by show 0<7*3; decide⟩
theorem qEt {mask n:Nat} (F:Fits mask) (few:n*5<mask*3) (full:(n+1)*5≥mask*3) (hn:n+1<307) :
  Fits (kE (kB (n+1)) - 1)/\(n+1)*5<(kE (kB (n+1)) - 1)*3/\kE (kB (n+1))<=512:=by
 rcases F with z | z | z | z
 ·subst z
  have e:n=4:=by omega
  subst e
  exact ⟨.inr (.inl (by decide)),by decide,by decide⟩
 ·subst z
  have e:n=18:=by omega
  subst e
  exact ⟨.inr (.inr (.inl (by decide))),by decide,by decide⟩
 ·subst z
  have e:n=76:=by omega
  subst e
  exact ⟨.inr (.inr (.inr (by decide))),by decide,by decide⟩
 ·omega
theorem qCe {t:ST} {hs:List Int} (k:Qk t hs) {n:Nat} (hn:hs.length=n+1) (few:n*5<t.mask*3) (full:t.tooFull=true) (lim:n+1<307) (ha:Array Int) (eh:ha.toList=hs) :
  ∃(u:ST) (order:Array Nat),t.relaid ha (kB (n+1))=some (u,order)/\uO order.toList (wV hs.length)/\Jw u (order.toList.filterMap (hs[·]?))/\u.led=t.led/\u.plain=t.plain:=by
 have f:=of_decide_eq_true full
 rw [Jw.fill k,hn] at f
 obtain ⟨F,fw,_⟩:=qEt k.fits few f lim
 have sz:ha.size=n+1:=by rw [<- wU,eh,hn]
 obtain ⟨u,order,e,pm,kp,em,el,ep⟩:=qGO (t:={ t with mask:=kE (kB (n+1)) - 1 }) F ha (by rw [sz]; show n+1<=kE (kB (n+1)) - 1; omega) t.finger (t.movedTo (kE (kB (n+1)) - 1)) t.led t.plain
 rw [eh] at kp
 rw [sz,<- hn] at pm
 refine ⟨u,order,e,pm,⟨kp,?_⟩,el,ep⟩
 have len:(order.toList.filterMap (hs[·]?)).length=n+1:=by
  have:=pm.filterMap (hs[·]?)
  have:=this.length_eq
  rw [this]
  have q:=congrArg List.length (PySem.List.filterMap_getElem?_range_length hs)
  rw [<- hn]
  exact q
 rw [len,em]
 exact fw
theorem qFE {t:ST} {hs:List Int} (R:Jw t hs) {h:Int} {c:Nat} (s:t.slot (qG t h c).j=.empty) (all:∀ q,q<c->t.slot (qG t h q).j≠.empty) :
  Qk (t.put (qG t h c).j).1 (J4 hs (vG t.place (qG t h c).j) h)/\((t.put (qG t h c).j).1.tooFull=false->Jw (t.put (qG t h c).j).1 (J4 hs (vG t.place (qG t h c).j) h)):=by
 have lo:7<=t.mask:=by
  rcases R.kept.fits with z | z | z | z <;> omega
 have few:=R.few
 have kp:=qH5 R.kept (by omega) s all
 refine ⟨kp,fun nf=>⟨kp,?_⟩⟩
 have:=of_decide_eq_false nf
 rw [Jw.fill kp] at this
 omega
section
variable {prog:Program} {w:World} {A:Around} {E:Value->Shared->Prop} {s:Shared}
theorem Qx {t:ST} {hs:List Int} (k:Qk t hs) {n:Nat} (hn:hs.length=n):t.fits n=true:=by
 unfold SetTable.fits
 rw [Jw.fill k,k.tab.size,hn]
 have:=k.room
 rw [hn] at this
 simp [this]
theorem asks {β:Type} {prog:Program} {w:World} {A:Around} {E:Value->Shared->Prop} {s:Shared} {a:Addr} {o:Obj} {es:Array (Int×Value)} {ep:Nat} {t:ST} {g:Array (Int×Value)×Nat×ST->Sem β} {Q:β->Shared->Prop} (ho:s.heap.get? a=some o) (hd:o.data=.set es ep t) (k:Qk t (es.toList.map (·.1))) (h:wpAny (model prog w) A (g (es,ep,t)) Q E s):wpAny (model prog w) A (setState a >>= g) Q E s:=
 wB (wpAny_setState_of ho hd (Qx k (by rw [wC,wU])) h)
end
section
variable {prog:Program} {w:World} {A:Around} {E:Value->Shared->Prop} {s:Shared}
theorem ins_map (es:Array (Int×Value)) (p:Nat) (x:Int×Value):(VF es p x).toList.map (·.1)=J4 (es.toList.map (·.1)) p x.1:=by
 rw [fW]
 unfold J4
 rw [yD,uW,fX,TH]
end
theorem qAF {α:Type}:∀{l:List α} {i:Nat} {x:α},l[i]? = some x->uO (x::l.eraseIdx i) l
 | [],i,x,h=>by cases h
 | y::l,0,x,h=>by
  cases h
  exact .refl _
 | y::l,i+1,x,h=>by
  have:=qAF (l:=l) (i:=i) (x:=x) h
  exact (List.Perm.swap _ _ _).trans (.cons y this)
theorem qFe {α:Type} (next:Nat->Nat):∀(fuel k:Nat) (left:List α) (out:Array α),left.length=fuel->uO (pickOrder.go next fuel k left out).toList (out.toList++left)
 | 0,k,left,out,h=>by
  cases VW h
  rw [yZ]
  exact .refl _
 | fuel+1,k,left,out,h=>by
  have hl:next k % left.length<left.length:=WR _ (by omega)
  have e:=wA hl
  unfold pickOrder.go
  rw [e]
  dsimp only
  refine (qFe next fuel (k+1) (left.eraseIdx (next k % left.length)) _ (by rw [List.length_eraseIdx_of_lt hl,h]; rfl)).trans ?_
  rw [Array.toList_push,xA]
  exact ZZ _ (qAF e)
theorem qEu {α:Type} (next:Nat->Nat) (xs:Array α):uO (pickOrder next xs).toList xs.toList:=qFe next xs.size 0 xs.toList #[] (wU)
end L2
namespace L2
open PySem PySem.Spec PyProof.Rows PySem.W
theorem Jp:Slot "set_iterator" "__next__" "set_iterator.__next__":=by
 refine Slot.of (n:="__next__") (owner:="set_iterator") ?_ ?_ ?_ ?_ (.inl ?_) ?_
 ·rw [typeLookup_type,builtinLookup_eq_fast]
  kernel_rfl
 ·decide +kernel
 ·decide +kernel
 ·decide +kernel
 ·decide +kernel
 ·rw [UO]
  kernel_rfl
theorem qDW:entryFor table "set_iterator.__next__" = some Builtin.«set_iterator.__next__»:=entryFor_of_tree (by kernel_rfl)
theorem qEA (a:Value):argsOk "set_iterator.__next__" ⟨[a],[]⟩:=by
 unfold argsOk
 kernel_rfl
theorem qGD:Slot "set_iterator" "__iter__" "set_iterator.__iter__":=by
 refine Slot.of (n:="__iter__") (owner:="set_iterator") ?_ ?_ ?_ ?_ (.inl ?_) ?_
 ·rw [typeLookup_type,builtinLookup_eq_fast]
  kernel_rfl
 ·decide +kernel
 ·decide +kernel
 ·decide +kernel
 ·decide +kernel
 ·rw [UO]
  kernel_rfl
theorem qF6:entryFor table "set.__iter__" = some Builtin.«frozenset.__iter__»:=entryFor_alias (id':="frozenset.__iter__") (by kernel_rfl) rfl (by decide +kernel) (by kernel_rfl)
theorem qHz:entryFor table "set_iterator.__iter__" = some Builtin.«dict_keyiterator.__iter__»:=entryFor_alias (id':="dict_keyiterator.__iter__") (by kernel_rfl) rfl (by decide +kernel) (by kernel_rfl)
theorem qHP (a:Value):argsOk "set_iterator.__iter__" ⟨[a],[]⟩:=by
 unfold argsOk
 kernel_rfl
noncomputable abbrev sit (a:Addr) (n ep first i:Nat):Obj:=⟨.type "set_iterator",none,.fields #[.int first 0,.int i 0,.ref a,.int n 0,.int ep 0],#[]⟩
noncomputable abbrev jI (w:World):Bool:=w.params.followText "set-order"
noncomputable def QF (w:World) (t:ST) (i:Nat):Nat:=if jI w=true then 0 else match i with
 | 0=>0
 | k+1=>t.place.getD k 0+1
noncomputable def inOrder (w:World) (a:Addr) (ep:Nat) (es:Array (Int×Value)):Array (Int×Value):=if jI w=true then pickOrder (w.params.setOrder a ep) es else es
theorem qAS (w:World) (a:Addr) (ep:Nat) (es:Array (Int×Value)):uO (inOrder w a ep es).toList es.toList:=by
 unfold inOrder
 split
 ·exact qEu _ _
 ·exact .refl _
theorem qAc (w:World) (a:Addr) (ep:Nat) (es:Array (Int×Value)):(inOrder w a ep es).size=es.size:=by
 have:=(qAS w a ep es).length_eq
 rwa [wU,wU] at this
structure j7 (w:World) (h:Heap) (a:Addr) (es:Array (Int×Value)) (ep:Nat) (t:ST):Prop where
 at_:∃ o,h.get? a=some o/\o.ExactSet/\o.data=.set es ep t
 kept:Qk t (es.toList.map (·.1))
 led:jI w=true\/t.led=true
 plain:t.plain=true
theorem j7.ext {w:World} {h h':Heap} {a:Addr} {es:Array (Int×Value)} {ep:Nat} {t:ST} (S:j7 w h a es ep t) (k:∀ o,h.get? a=some o->h'.get? a=some o):j7 w h' a es ep t:=
 let ⟨⟨o,x,y⟩,c,d,e⟩:=S; ⟨⟨o,k o x,y⟩,c,d,e⟩
theorem j7.low {w:World} {h:Heap} {a:Addr} {es:Array (Int×Value)} {ep:Nat} {t:ST} (S:j7 w h a es ep t):a<h.objs.size:=let ⟨_,x,_⟩:=S.at_; zN x
section
variable {prog:Program} {w:World} {A:Around} {E:Value->Shared->Prop} {s:Shared} {a it:Addr} {es:Array (Int×Value)} {ep:Nat} {t:ST}
theorem j7.ty (S:j7 w s.heap a es ep t):s.TypeIs (.ref a) "set":=let ⟨o,x,y,_⟩:=S.at_; ⟨o,x,y.1⟩
theorem j7.state {Q:Array (Int×Value)×Nat×ST->Shared->Prop} (S:j7 w s.heap a es ep t) (q:Q (es,ep,t) s):wpAny (model prog w) A (setState a) Q E s:=by
 obtain ⟨o,ho,_,hd⟩:=S.at_
 exact wpAny_setState_of ho hd (Qx S.kept (by rw [wC,wU])) q
theorem jm {Q:Bool->Shared->Prop} (q:Q (jI w) s):wpAny (model prog w) A setsByText Q E s:=by
 unfold setsByText
 exact wB (VR (wG q))
theorem qBw {d:Bool} (p:t.plain=true) (z:(!t.plain && d)=true):False:=by
 rw [p] at z
 cases z
theorem qHD {Q:Value->Shared->Prop} (S:j7 w s.heap a es ep t) (K:Q (.ref s.heap.objs.size) { s with heap:=s.heap.push (sit a es.size ep 0 0) }):wpAny (model prog w) A (pyIter (.ref a)) Q E s:=by
 refine wpAny_pyIter_slot S.ty F.slot_set_iter (vD F.slot_set_iter S.ty qF6 ?_ (F.args_set_iter_1 _))
 delta Builtin.«frozenset.__iter__» Builtin.Frozenset.slot0 Builtin.Frozenset.addrOf Builtin.Frozenset.sizeOf setDrawn setEpoch setEntries
 repeat' first | assumption | (refine S.state ?_) | (refine jm ?_) | wp_step
 refine vA (fun z=>(qBw S.plain (show (!t.plain && decide (es.size > 1))=true from (Bool.and_eq_true_iff.mp z).2)).elim) fun _=>?_
 repeat' first | assumption | (refine S.state ?_) | (refine jm ?_) | wp_step
 exact ⟨_,rfl,"set_iterator",_,⟨_,zF _ rfl,rfl⟩,Jp.lookup,K⟩
theorem qEl (k:Qk t (es.toList.map (·.1))) (nt:jI w=false) {i:Nat} (hi:i<=es.size):vG t.place (QF w t i)=i:=by
 have sz:t.place.size=es.size:=by rw [k.tab.size,wC,wU]
 unfold QF
 rw [nt,if_neg (by decide)]
 cases i with
 | zero=>
  have c:=Qo k.tab.rise 0
  refine Nat.eq_zero_of_not_pos fun z=>?_
  have:=c.lt 0 z (zV z c.le)
  omega
 | succ i=>
  have hi':i<t.place.size:=by omega
  dsimp only
  rw [qCU hi' 0]
  have c:=Qo k.tab.rise (t.place[i]+1)
  have h1:¬ vG t.place (t.place[i]+1)<=i:=fun z=>by
   have:=c.ge i z hi'
   omega
  refine gY ?_ (by omega)
  refine xN fun z=>?_
  have hs:i+1<t.place.size:=zV z c.le
  have h2:=c.lt (i+1) z hs
  have h3:=k.tab.rise i (i+1) (by omega) hs
  omega
theorem qGd (S:j7 w s.heap a es ep t) {i:Nat} {Q:Option (Value×Nat)->Shared->Prop} (hi:i<=es.size) (q:Q (((inOrder w a ep es)[i]?).map fun e=>(e.2,QF w t (i+1))) s):wpAny (model prog w) A (setNext a (QF w t i) i ep) Q E s:=by
 have sz:t.place.size=es.size:=by rw [S.kept.tab.size,wC,wU]
 delta setNext
 refine wB (S.state ?_)
 refine wB (jm ?_)
 refine vA (fun z=>?_) fun z=>?_
 ·refine vA (fun y=>absurd rfl (bne_iff_ne.mp y)) fun _=>?_
  have e1:∀ k,QF w t k=0:=fun k=>by unfold QF; rw [if_pos z]
  have e2:inOrder w a ep es=pickOrder (w.params.setOrder a ep) es:=by unfold inOrder; rw [if_pos z]
  rw [e1,e2] at q
  rw [e1]
  delta setWalk
  refine wB (wB (S.state (wB (jm (vA (fun _=>?_) fun y=>absurd z y)))))
  exact wB (VR (wG (wG q)))
 ·have nt:jI w=false:=VA.mpr z
  have ld:t.led=true:=S.led.resolve_left z
  refine vA (fun y=>(qBw S.plain (show (!t.plain && decide (es.size > 1))=true from y)).elim) fun _=>?_
  have led:(!t.led && !es.isEmpty)=false:=by rw [ld]; rfl
  refine wB (show wpAny _ _ (if (!t.led && !es.isEmpty)=true then unsupported "set:maker-not-led" else pure ()) _ _ _ from ?_)
  rw [if_neg (by rw [led]; exact wQ)]
  refine wG ?_
  have e2:inOrder w a ep es=es:=by unfold inOrder; rw [if_neg z]
  rw [e2] at q
  refine wG ?_
  rw [qEl S.kept nt hi]
  by_cases l:i<es.size
  ·have l':i<t.place.size:=by omega
   rw [zR l] at q
   rw [zR l,zR l']
   have e3:QF w t (i+1)=t.place[i]+1:=by
    unfold QF
    rw [if_neg z]
    exact congrArg (· + 1) (qCU l' 0)
   rw [e3] at q
   exact q
  ·rw [gM (by omega)] at q
   rw [gM (by omega)]
   exact q
theorem qEX {i:Nat} {Q:Option Value->Shared->Prop} (hi:s.heap.get? it=some (sit a es.size ep (QF w t i) i)) (S:j7 w s.heap a es ep t) (l:i<es.size) (K:∀ h' v,h'.get? it=some (sit a es.size ep (QF w t (i+1)) (i+1))->qAh it s.heap h'->(∃ hh,(inOrder w a ep es)[i]? = some (hh,v))->Q (some v) { s with heap:=h' }):wpAny (model prog w) A (pyNext (.ref it)) Q E s:=by
 have ty:s.TypeIs (.ref it) "set_iterator":=⟨_,hi,rfl⟩
 have l':i<(inOrder w a ep es).size:=by rw [qAc]; exact l
 delta pyNext
 refine wB (UZ (vX (name:=uR "__next__") ty Jp (vD Jp ty qDW ?_ (qEA _))))
 delta Builtin.«set_iterator.__next__» setEntries
 repeat' first | assumption | (refine S.state ?_) | (refine jm ?_) | (refine qGd S (vI l) ?_) | wp_step
 rw [zR l']
 repeat' first | assumption | wp_step
 have g1:=kM (Obj.mapFields fun x=>x.setIfInBounds 0 (rawInt (QF w t (i+1)))) hi rfl
 exact ⟨_,rfl,wG (K _ _ (kM _ g1 rfl) ((qAh.of (xH ..)).then (.of (xH ..))) ⟨_,zR l'⟩)⟩
theorem qFZ {Q:Option Value->Shared->Prop} (hh:A.handled=none) (hi:s.heap.get? it=some (sit a es.size ep (QF w t es.size) es.size)) (S:j7 w s.heap a es ep t) (K:∀ h' tk,qAh it s.heap h'->Q none { s with heap:=h',toks:=tk }):wpAny (model prog w) A (pyNext (.ref it)) Q E s:=by
 have ty:s.TypeIs (.ref it) "set_iterator":=⟨_,hi,rfl⟩
 delta pyNext
 refine wB (UZ (vX (name:=uR "__next__") ty Jp (vD Jp ty qDW ?_ (qEA _))))
 delta Builtin.«set_iterator.__next__» setEntries
 repeat' first | assumption | (refine S.state ?_) | (refine jm ?_) | (refine qGd S (wO _) ?_) | wp_step
 rw [gM (by rw [qAc]; exact wO _)]
 repeat' first | assumption | wp_step
 exact wpAny_raiseNew_none hh (wB (VS (T:="StopIteration") (b:=true) ⟨_,zF _ rfl,rfl⟩ isSubtype_stop (wG (K _ _ (((qAh.of (xH ..)).new _).new _)))))
noncomputable def qG2 (w:World) (a:Addr) (ep:Nat) (es:Array (Int×Value)) (i:Nat) (v:Value):Prop:=∃ hh,(inOrder w a ep es)[i]? = some (hh,v)
theorem qCa (calm:A.handled=none) (apart:a≠it):Walks prog w A it [it,a] [it] es.size (qG2 w a ep es) (fun i h=>h.get? it=some (sit a es.size ep (QF w t i) i)/\j7 w h a es ep t) where
 sub:=fun b hb=>by rw [wK.mp hb]; exact wF
 frame:=fun i h h' st k=>⟨k it wF _ st.1,st.2.ext fun o e=>k a (wN _ wF) o e⟩
 item:=fun i s Q E hi st hQ=>qEX st.1 st.2 hi fun h' v y past th=>hQ v h' s.toks th ⟨y,st.2.ext fun o e=>past a o apart e⟩ fun b o hb e=>past b o (fun z=>hb (by rw [z]; exact wF)) e
 done:=fun s Q E st hQ=>qFZ calm st.1 st.2 fun h' tk past=>hQ h' tk fun b o hb e=>past b o (fun z=>hb (by rw [z]; exact wF)) e
 self:=fun i s Q E st hQ=>by
  have ty:s.TypeIs (.ref it) "set_iterator":=⟨_,st.1,rfl⟩
  refine wpAny_pyIter_slot ty qGD (vD qGD ty qHz ?_ (qHP _))
  exact wG ⟨_,rfl,"set_iterator",_,ty,Jp.lookup,hQ⟩
theorem qHQ {Q:Bool->Shared->Prop} (ty:s.TypeIs (.ref a) "set") (q:Q false s):wpAny (model prog w) A (UE (.ref a)) Q E s:=by
 delta UE
 refine wB (wpAny_specialOf ty F.slot_set_len.lookup ?_)
 generalize hid:("set.__len__" : String)=id0
 wp_delta
 have sp:splitId id0=some ("set","__len__"):=by subst hid; decide +kernel
 rw [sp]
 subst hid
 refine wB (VS (T:="set") (b:=true) ty (by rw [UO]; kernel_rfl) ?_)
 refine vA (fun y=>absurd y (by decide)) fun _=>vA (fun _=>?_) fun y=>absurd (by decide +kernel) y
 exact wB (kX ty (wG q))
theorem qJa:KdlSrc prog w "set" a a es.size (qG2 w a ep es) (fun h=>j7 w h a es ep t) where
 type:=fun s x=>x.ty
 there:=fun h x=>⟨x.low,x.low⟩
 keep:=fun h h' x k=>x.ext fun o e=>k a (.inl rfl) o e
 notList:=by decide
 notTuple:=by decide
 hint:=fun A E s Q x q=>qHQ x.ty q
 iter:=fun A s calm x=>⟨_,_,fun E Q q=>qHD x q,qCa calm (yE x.low),⟨by
  have z:QF w t 0=0:=by unfold QF; split <;> rfl
  rw [z]
  exact zF _ rfl,x.ext fun o e=>wD _ e⟩⟩
end
theorem JD {α β:Type} {f:α->β} {l l':List β} (p:uO l l'):∀{m:List α},l'=m.map f->∃ m',uO m' m/\l=m'.map f:=by
 induction p with
 | nil=>exact fun {m} _=>⟨m,.refl _,by assumption⟩
 | cons x _ ih=>
  intro m e
  cases m with
  | nil=>cases e
  | cons y m=>
   obtain ⟨e1,e2⟩:=WK e
   obtain ⟨m',q,g⟩:=ih e2
   exact ⟨y::m',.cons _ q,by rw [g,e1]; rfl⟩
 | swap x y l=>
  intro m e
  match m,e with
  | [],e=>cases e
  | [_],e=>cases (WK e).2
  | a::b::m,e=>
   obtain ⟨e1,e2⟩:=WK e
   obtain ⟨e3,e4⟩:=WK e2
   exact ⟨b::a::m,.swap _ _ _,by rw [e1,e3,e4]; rfl⟩
 | trans _ _ ih1 ih2=>
  intro m e
  obtain ⟨m',q,g⟩:=ih2 e
  obtain ⟨m'',q',g'⟩:=ih1 g
  exact ⟨m'',q'.trans q,g'⟩
noncomputable abbrev TRw:=Addr×List Int
noncomputable def qNQ (prog:Program) (w:World) (r:TRw):Int×Value:=(tupleKeyHash (intKind prog w) r.2,uM r.1)
noncomputable def qLw (prog:Program) (w:World) (hp:Heap) (a:Addr) (R:List TRw):Prop:=∃(o:Obj) (es:Array (Int×Value)) (ep:Nat) (t:ST),hp.get? a=some o/\o.ExactSet/\o.data=.set es ep t/\Jw t (es.toList.map (·.1))/\es.toList=R.map (qNQ prog w)/\(R.map (·.2)).Nodup/\(jI w=true\/t.led=true)/\t.plain=true
section
variable {prog:Program} {w:World} {A:Around} {E:Value->Shared->Prop} {s:Shared} {a:Addr} {R:List TRw}
theorem qI5 {Q:Value->Shared->Prop} (q:qLw prog w (s.heap.push (YD (!jI w))) s.heap.objs.size []->Q (.ref s.heap.objs.size) { s with heap:=s.heap.push (YD (!jI w)) }):wpAny (model prog w) A (newSet (.type "set")) Q E s:=by
 delta newSet
 refine wB (jm ?_)
 refine vF ?_
 refine q ⟨_,#[],0,_,zF _ rfl,⟨rfl,rfl,rfl⟩,rfl,YV 0 0 _,rfl,yC,?_,rfl⟩
 cases jI w
 ·exact .inr rfl
 ·exact .inl rfl
end
end L2
namespace LSo
open PySem PySem.W PyProof.Rows
end LSo
namespace L2
open PySem PySem.Spec PyProof.Rows PySem.W
noncomputable abbrev IRw:=Int×Nat
noncomputable def qHm (prog:Program) (w:World) (r:IRw):Int×Value:=((intKind prog w).hash r.1,.int r.1 r.2)
noncomputable def qBB (prog:Program) (w:World) (hp:Heap) (a:Addr) (R:List IRw):Prop:=∃(o:Obj) (es:Array (Int×Value)) (ep:Nat) (t:ST),hp.get? a=some o/\o.ExactSet/\o.data=.set es ep t/\Jw t (es.toList.map (·.1))/\es.toList=R.map (qHm prog w)/\(R.map (·.1)).Nodup/\(jI w=true\/t.led=true)/\t.plain=true
noncomputable def qK1 (R:List IRw) (r:IRw) (R':List IRw):Prop:=(r.1∈R.map (·.1)/\R'=R)\/(r.1∉R.map (·.1)/\uO R' (r::R))
theorem qJc {t:ST} {hs:List Int} (k:Qk t hs) (h:Int):∃ c,t.freeSlot h=some ((qG t h c).j,false)/\t.slot (qG t h c).j=.empty/\∀ q,q<c->t.slot (qG t h q).j≠.empty:=by
 obtain ⟨c,m,z⟩:=qE8 k (fun _=>h+1) h 0 fun b _ _=>zZ _
 rcases z with ⟨se,e⟩ | ⟨i,_,g,_⟩
 ·refine ⟨c,?_,se,fun q hq=>?_⟩
  ·unfold SetTable.freeSlot
   rw [show t.probeStart h=qG t h 0 from rfl,e]
   rfl
  ·obtain ⟨i,y,_⟩:=m.past q (zZ _) hq
   exact fun v=>by rw [y] at v; cases v
 ·exact absurd g (by show ¬ h+1=h; omega)
section
variable {prog:Program} {w:World} {A:Around} {E:Value->Shared->Prop} {s:Shared} {a:Addr} {R:List IRw}
theorem qHF {es:Array (Int×Value)} (e:es.toList=R.map (qHm prog w)):ElemsOf (intKind prog w) es.toList:=fun x hx=>by
 rw [e] at hx
 obtain ⟨r,_,rfl⟩:=zP.mp hx
 exact ⟨⟨r.1,decide_eq_true rfl,rfl⟩,rfl⟩
theorem qI2 {es:Array (Int×Value)} {t:ST} {h:Int} {x:Value} (Rm:Jw t (es.toList.map (·.1))):∃(es':Array (Int×Value)) (t':ST),layNew t es h x=(es',t',false,false)/\uO es'.toList ((h,x)::es.toList)/\Qk t' (es'.toList.map (·.1))/\(t'.tooFull=false->Jw t' (es'.toList.map (·.1)))/\t'.led=t.led/\t'.plain=t.plain/\t'.mask=t.mask:=by
 obtain ⟨c,fs,se,al⟩:=qJc Rm.kept h
 obtain ⟨kp,rm⟩:=qFE Rm se al
 have em:=ins_map es (VG t (qG t h c).j).snd (h,x)
 have kp':Qk (VG t (qG t h c).j).fst ((VF es (VG t (qG t h c).j).snd (h,x)).toList.map (·.1)):=by
  rw [em]
  exact kp
 have hf:=Qx kp' (n:=(VF es (VG t (qG t h c).j).snd (h,x)).size) (by rw [wC,wU])
 refine ⟨_,_,?_,?_,kp',fun nf=>?_,rfl,rfl,rfl⟩
 ·unfold layNew
  rw [fs]
  dsimp only
  unfold SetTable.orStandIn
  rw [hf]
  rfl
 ·rw [fW]
  refine List.perm_middle.trans ?_
  rw [ZY]
 ·rw [em]
  exact rm nf
theorem qGw {es:Array (Int×Value)} {t:ST} {n:Nat} (k:Qk t (es.toList.map (·.1))) (hn:es.size=n+1) (few:n*5<t.mask*3) (full:t.tooFull=true) (lim:n+1<307):∃(es':Array (Int×Value)) (t':ST),relayAll t es (kB es.size)=(es',t',false)/\uO es'.toList es.toList/\Jw t' (es'.toList.map (·.1))/\t'.led=t.led/\t'.plain=t.plain:=by
 have hl:(es.toList.map (·.1)).length=n+1:=by rw [wC,wU,hn]
 obtain ⟨u,order,e,pm,Rm,el,epl⟩:=qCe k hl few full lim (es.map (·.1)) (by rw [VT])
 rw [hl,<- hn,<- wU] at pm
 have p2:uO (order.filterMap (es[·]?)).toList es.toList:=by
  rw [Array.toList_filterMap]
  refine (pm.filterMap (es[·]?)).trans ?_
  rw [wU,filterMap_getElem?_range]
 have m2:(order.filterMap (es[·]?)).toList.map (·.1)=order.toList.filterMap ((es.toList.map (·.1))[·]?):=by
  rw [Array.toList_filterMap,List.map_filterMap]
  congr 1
  funext i
  rw [wL,xB]
 rw [<- m2] at Rm
 refine ⟨_,u,?_,p2,Rm,el,epl⟩
 unfold relayAll
 rw [hn,e]
 dsimp only
 have c1:coversAll order es.size=true:=by
  unfold coversAll
  rw [wU] at pm
  exact xZ.mpr pm
 have c2:=Qx Rm.kept (n:=(order.filterMap (es[·]?)).size) (by rw [wC,wU])
 rw [<- hn,c1,c2]
 rfl
theorem qJh {k:Int} {tok:Nat} {Q:Bool->Shared->Prop} (S:qBB prog w s.heap a R) (lim:R.length+1<307)
  (q:∀(b:Bool) (hp:Heap) (R':List IRw) (tk:Nat),fB a s.heap hp->qBB prog w hp a R'->qK1 R (k,tok) R'->Q b { s with heap:=hp,toks:=tk }):wpAny (model prog w) A (setAdd a (.int k tok)) Q E s:=by
 obtain ⟨o,es,ep,t,ho,hex,hd,Rm,er,nd,l1,l2⟩:=S
 have sz:es.size=R.length:=by rw [<- wU,er,wC]
 have hel:=qHF er
 have hf:t.fits es.size=true:=Qx Rm.kept (by rw [wC,wU])
 have bs:byScan (.int k tok) es=true:=byScan_of rfl (by unfold scanBound; omega) hel
 delta setAdd setAddHashed
 refine yM (wB (wpAny_pyHash_int (yM ?_)))
 unfold setAddHashedIn
 refine asks ho hd Rm.kept ?_
 dsimp only
 rw [if_pos bs]
 delta setAddByScan
 refine wB (wB (fG (wB (wpAny_setScan_of (knd:=intKind prog w) (k:=k) (decide_eq_true rfl) ho hd hf hel ?_))))
 have get:∀(hp:Heap) (o:Obj) (e1:Array (Int×Value)) (n1:Nat) (t1:ST) (es':Array (Int×Value)) (t':ST),hp.get? a=some o->o.data=.set e1 n1 t1->(hp.update a (Obj.putSet es' t')).get? a=some { o with data:=.set es' (n1+1) t' }:=by
  intro hp o e1 n1 t1 es' t' g d
  have:=kM (Obj.putSet es' t') g (by rw [putSet_of es' t' d]; rfl)
  rw [putSet_of es' t' d] at this
  exact this
 cases hr:es.toList.findIdx? (fun e=>(intKind prog w).is k e.2) with
 | some j=>
  obtain ⟨hj,hp,_⟩:=List.findIdx?_eq_some_iff_getElem.mp hr
  have m:es.toList[j]∈R.map (qHm prog w):=er ▸ kC hj
  obtain ⟨r,hr',er'⟩:=zP.mp m
  rw [<- er'] at hp
  have e1:r.1=k:=(intKind prog w).inj (qHm prog w r).2 r.1 k (decide_eq_true rfl) hp
  refine wG (wG (q _ s.heap R _ (Heap.SameBut.refl ..) ⟨o,es,ep,t,ho,hex,hd,Rm,er,nd,l1,l2⟩ (.inl ⟨?_,rfl⟩)))
  rw [show (k,tok).1=r.1 from e1.symm]
  exact fA hr'
 | none=>
  have nin:k∉R.map (·.1):=fun z=>by
   obtain ⟨r,hr',e⟩:=zP.mp z
   have:=List.findIdx?_eq_none_iff.mp hr (qHm prog w r) (er ▸ fA hr')
   have y:(intKind prog w).is k (qHm prog w r).2=true:=by rw [<- e]; exact decide_eq_true rfl
   rw [y] at this
   cases this
  obtain ⟨es1,t1,el,pm,kp,rm,d1,d2,d3⟩:=qI2 (h:=hashInt k) (x:=.int k tok) Rm
  obtain ⟨R1,p1,g1⟩:=JD (f:=qHm prog w) pm (m:=(k,tok)::R) (by rw [er]; rfl)
  have nd1:(R1.map (·.1)).Nodup:=(p1.map (·.1)).nodup_iff.mpr (zI.mpr ⟨nin,nd⟩)
  have sz1:es1.size=es.size+1:=by
   have:=pm.length_eq
   rwa [wU,yG,wU] at this
  dsimp only
  rw [el]
  dsimp only
  refine wB (wG ?_)
  rw [if_pos (d2.trans l2)]
  refine wB (wG ?_)
  rw [if_pos rfl]
  refine wB (wpAny_storeSet_of (s:={ s with toks:=s.toks+1 }) ho hd ?_ (by rw [sz1,xS]; omega))
  have h1:=get s.heap o es ep t es1 t1 ho hd
  by_cases full:t1.tooFull=true
  ·rw [full]
   obtain ⟨es2,t2,el2,pm2,rm2,f1,f2⟩:=qGw kp sz1 (by have:=Rm.few; rw [wC,wU] at this; rw [d3]; exact this) full (by omega)
   obtain ⟨R2,p2,g2⟩:=JD (f:=qHm prog w) pm2 (m:=R1) g1
   rw [if_pos (show (!false && true)=true from rfl),el2]
   dsimp only
   refine wB (wG (wB (wpAny_storeSet_of (s:={ s with heap:=s.heap.update a (Obj.putSet es1 t1),toks:=s.toks+1 }) h1 rfl ?_ ?_)))
   ·refine wG (wG (q _ _ R2 _ ((xH ..).trans (xH ..)) ⟨_,es2,_,t2,get _ _ _ _ _ es2 t2 h1 rfl,hex,rfl,rm2,g2,(p2.map (·.1)).nodup_iff.mpr nd1,?_,f2.trans (d2.trans l2)⟩ (.inr ⟨nin,p2.trans p1⟩)))
    rw [f1,d1]
    exact l1
   ·have:=pm2.length_eq
    rw [wU,wU] at this
    rw [this,sz1,xS]
    omega
  ·have nf:t1.tooFull=false:=VA.mpr full
   rw [nf]
   refine wG (wG (q _ _ R1 _ (xH ..) ⟨_,es1,_,t1,h1,hex,rfl,rm nf,g1,nd1,?_,d2.trans l2⟩ (.inr ⟨nin,p1⟩)))
   rw [d1]
   exact l1
end
section
variable {prog:Program} {w:World} {A:Around} {E:Value->Shared->Prop} {s:Shared} {a:Addr} {R:List IRw}
theorem qBB.at {hp hp':Heap} (S:qBB prog w hp a R) (k:∀ o,hp.get? a=some o->hp'.get? a=some o):qBB prog w hp' a R:=
 let ⟨o,es,ep,t,ho,r⟩:=S; ⟨o,es,ep,t,k o ho,r⟩
noncomputable def Holds (R:List IRw) (ns:List Int):Prop:=(R.map (·.1)).Nodup/\(∀ k,k∈R.map (·.1)↔k∈ns)/\R.length<=ns.length
theorem Holds.next {R R':List IRw} {ns:List Int} {r:IRw} (h:Holds R ns) (m:qK1 R r R'):Holds R' (ns++[r.1]):=by
 obtain ⟨h1,h2,h3⟩:=h
 have e:∀ k,k∈ns++[r.1]↔k∈R.map (·.1)\/k=r.1:=fun k=>by rw [zG,wK,h2]
 have l:(ns++[r.1]).length=ns.length+1:=by rw [wR]; rfl
 rcases m with ⟨z,rfl⟩ | ⟨z,p⟩
 ·exact ⟨h1,fun k=>(Iff.intro .inl fun y=>y.elim id fun e=>e ▸ z).trans (e k).symm,by omega⟩
 ·refine ⟨(p.map (·.1)).nodup_iff.mpr (zI.mpr ⟨z,h1⟩),fun k=>?_,?_⟩
  ·rw [(p.map (·.1)).mem_iff,e k]
   show k∈r.1::R.map (·.1)↔_
   rw [wM]
   exact Or.comm
  ·rw [p.length_eq,yG,l]
   omega
theorem qGm {I:Addr} {RR:Result->Shared->Prop} (h:wpAny (model prog w) A.in1 (Builtin.«set.update.loop» ⟨[.ref a,.ref I],[]⟩) (fun fin s'=>match fin with
  | .done f=>RR (.ok f) s'
  | .again c=>c.quiet=true/\codeAny (model prog w) A c RR s') (fun e s'=>RR (.error e) s') s):codeAny (model prog w) A (.builtin "set.update.loop" ⟨[.ref a,.ref I],[]⟩) RR s:=
 ZV F.entry_set_update_loop (by rw [show A.under (.builtin "set.update.loop" ⟨[.ref a,.ref I],[]⟩)=A.in1 from Around.under_plainId F.plain_set_update_loop _]; exact h)
theorem qFI {I:Addr} {fp wr:List Addr} {n:Nat} {P:Nat->Value->Prop} {St:Nat->Heap->Prop} {ns:List Int} {RR:Result->Shared->Prop} (W:Walks prog w A.in1 I fp wr n P St) (far:a∉fp) (hn:n=ns.length) (few:n<300) (val:∀ i v,P i v->∃ k t,ns[i]? = some k/\v=.int k t) :
  ∀(k i:Nat) (s:Shared) (R:List IRw),n - i=k->i<=n->St i s.heap->qBB prog w s.heap a R->Holds R (ns.take i)->
   (∀(h':Heap) (tk:Nat) (R':List IRw),qBB prog w h' a R'->Holds R' ns->(∀ b o,b∉a::wr->s.heap.get? b=some o->h'.get? b=some o)->RR (.ok (.ret .none)) { s with heap:=h',toks:=tk })->codeAny (model prog w) A (.builtin "set.update.loop" ⟨[.ref a,.ref I],[]⟩) RR s:=by
 have farw:a∉wr:=fun z=>far (W.sub _ z)
 intro k
 induction k with
 | zero=>
  intro i s R hk hi st S h q
  have e:i=n:=by omega
  refine qGm ?_
  refine wB (m:=pyNext (.ref I)) (W.done s _ _ (e ▸ st) fun h' tk kp=>?_)
  refine wG (q h' tk R (S.at fun o y=>kp a o farw y) ?_ fun b o nb y=>kp b o (fun z=>nb (wN _ z)) y)
  rw [e,hn,xO] at h
  exact h
 | succ k ih=>
  intro i s R hk hi st S h q
  have lt:i<n:=by omega
  refine qGm ?_
  refine wB (m:=pyNext (.ref I)) (W.item i s _ _ lt st fun v h' tk hp st' kp=>?_)
  obtain ⟨x,t,ex,rfl⟩:=val i v hp
  refine wB (m:=holding [gC x t] (setAdd a (.int x t))) (yM (qJh (s:={ s with heap:=h',toks:=tk }) (S.at fun o y=>kp a o farw y) ?_ fun b hp' R' tk' sb S' mo=>?_))
  ·have:=h.2.2
   rw [vK] at this
   omega
  ·refine wG ⟨plainId_quiet F.plain_set_update_loop _,ih (i+1) _ R' (by omega) lt (W.frame _ _ _ st' fun c hc o y=>?_) S' ?_ fun h'' tk'' R'' S'' hh kp'=>q h'' tk'' R'' S'' hh fun c o nc y=>kp' c o nc ?_⟩
   ·rw [sb.2 c fun z=>far (z ▸ hc)]
    exact y
   ·have:=h.next mo
    rw [kQ,ex]
    exact this
   ·show hp'.get? c=some o
    rw [sb.2 c fun z=>nc (z ▸ wF)]
    exact kp c o (fun z=>nc (wN _ z)) y
theorem qHC {x:Value} {Q:Value->Shared->Prop} (q:Q (.ref s.heap.objs.size) { s with heap:=s.heap.push (YD (!jI w)) }):codeAny (model prog w) A (.call (.builtin "set.__new__") ⟨[.type "set",x],[]⟩) (wants Q E) s:=by
 refine ZU (wB (m:=checkBuiltinCall "set.__new__" ⟨[.type "set",x],[]⟩) (gW (F.newCall_set_1 x) (wG ⟨plainId_quiet F.plain_set_new _,ZV F.entry_set_new ?_⟩)))
 rw [show A.under (.builtin "set.__new__" ⟨[.type "set",x],[]⟩)=A.in1 from Around.under_plainId F.plain_set_new _]
 delta Builtin.«set.__new__» Builtin.Frozenset.newClass
 have sb:=sub_set_self
 repeat' first | assumption | (refine qI5 fun _=>?_) | wp_step
theorem qCc {x:Value} {Q:Value->Shared->Prop} (K:codeAny (model prog w) A.in1 (.call (.builtin "set.__init__") ⟨[.ref s.heap.objs.size,x],[]⟩) (wants (fun r s2=>r=.none/\Q (.ref s.heap.objs.size) s2) E) { s with heap:=s.heap.push (YD (!jI w)) }):wpAny (model prog w) A (call (.type "set") [x]) Q E s:=by
 obtain ⟨m0,ms,mro⟩:=vW.mro
 obtain ⟨b1,b2,b3,b4⟩:=gS vW.made (gS vW.sub (gS vW.notType vW.canCreate))
 have ck:=F.typeCall_set_1 x
 refine wpAny_call (ZU (show wpAny _ _ (callAny (.type "set") _) _ _ _ from wG ⟨Code.quiet_builtin _ (by decide +kernel),ZV F.entry_type_call ?_⟩))
 rw [Around.under_plain (weight_type_call_type "set" [x] []) rfl]
 repeat' first | assumption | wp_step
 refine kD (qHC (x:=x) (E:=E) (Q:=fun r s1=>r=.ref s.heap.objs.size/\s1 = { s with heap:=s.heap.push (YD (!jI w)) }) ⟨rfl,rfl⟩) fun r s1 hr=>?_
 rcases r with _ | fl
 ·exact hr
 cases fl with
 | ret v=>
  obtain ⟨rfl,rfl⟩:=hr
  have ty:WJ { s with heap:=s.heap.push (YD (!jI w)) } (.ref s.heap.objs.size) "set":=⟨YD (!jI w),zF s.heap (o:=YD (!jI w)) rfl,rfl⟩
  obtain ⟨i1,i2⟩:=gS vW.init.lookup (vW.init.bind (.ref s.heap.objs.size))
  repeat' first | assumption | wp_step
  refine kD K fun r2 s2 hr2=>?_
  rcases r2 with _ | fl2
  ·exact hr2
  cases fl2 with
  | ret v2=>
   obtain ⟨rfl,q⟩:=hr2
   repeat (any_goals (first | exact q | assumption | wp_step))
  | _=>exact hr2.elim
 | _=>exact hr.elim
theorem qHB {l:Addr} {its:List Value} {ns:List Int} {Q:Value->Shared->Prop} (hh:A.handled=none) (ht:s.heap.IsTuple l its.toArray) (hi:IntsAre its ns) (hb:its.length<300)
  (k:∀(h':Heap) (tk:Nat) (R:List IRw),qBB prog w h' s.heap.objs.size R->Holds R ns->(∀ b o,s.heap.get? b=some o->h'.get? b=some o)->Q (.ref s.heap.objs.size) { s with heap:=h',toks:=tk }):wpAny (model prog w) A (call (.type "set") [.ref l]) Q E s:=by
 have hlen:its.length=ns.length:=IntsAre.length hi
 refine qCc ?_
 have oS:(s.heap.push (YD (!jI w))).get? s.heap.objs.size=some (YD (!jI w)):=zF s.heap rfl
 have ty:WJ { s with heap:=s.heap.push (YD (!jI w)) } (.ref s.heap.objs.size) "set":=⟨_,oS,rfl⟩
 have tup:(s.heap.push (YD (!jI w))).IsTuple l its.toArray:=ht.push _
 have z:(s.heap.push (YD (!jI w))).objs.size=s.heap.objs.size+1:=uI _ _
 obtain ⟨⟨c,dd,u,sl⟩,hol,hc,m,hd⟩:=ht
 cases (hc:c=.type "tuple")
 cases (hd:u=.seq its.toArray m)
 have ll:l<s.heap.objs.size:=zN hol
 have ol:(s.heap.push (YD (!jI w))).get? l=some ⟨.type "tuple",dd,.seq its.toArray m,sl⟩:=wD _ hol
 refine codeAny_call_builtin vW.init.plain F.entry_set_init (check_set_init_1 ty ?_)
 have q1:=F.sub_tuple_set
 have q2:=F.sub_tuple_frozenset
 have q3:(ZN "tuple" == ZN "dict")=false:=by decide
 unfold Builtin.«set.__init__»; unfold noKeywords; unfold UB
 generalize walks:pyIter=PI; wp_walk; subst walks
 refine fJ tup (wB (wpAny_runValue (qFI (a:=s.heap.objs.size) (ns:=ns) (Walks.tuple (A:=A.in1.in1.in1) (by simp [hh]) _ l ?_ its.toArray) ?_ (by simpa using hlen) (by simpa using hb) (fun i v hv=>?_) (its.toArray.size - 0) 0 _ [] (by omega) (zZ _) ⟨⟨_,zF _ rfl,rfl,rfl⟩,tup.push _⟩ ?_ ⟨yC,fun k=>by simp,zZ _⟩ ?_)))
 ·rw [z]
  exact yE (gK ll)
 ·rw [z]
  simp only [wM,wY,or_false,not_or]
  exact ⟨yE (ZI _),gG ll⟩
 ·have hv':its[i]? = some v:=by simpa using hv
  obtain ⟨t,e⟩:=IntsAre.int_at hi i v hv'
  have li:i<ns.length:=by rw [<- hlen]; exact (wI.mp hv').1
  refine ⟨ns[i],t,wA li,?_⟩
  rw [e,wW,wA li]
  rfl
 ·refine ⟨_,#[],0,_,wD _ oS,⟨rfl,rfl,rfl⟩,rfl,YV 0 0 _,rfl,yC,?_,rfl⟩
  cases jI w
  ·exact .inr rfl
  ·exact .inl rfl
 ·intro h' tk R S hh kp
  refine wG (wG ⟨rfl,k h' tk R S hh fun b o e=>kp b o ?_ (wD _ (wD _ e))⟩)
  have lb:=zN e
  simp only [wM,wY,or_false,not_or]
  exact ⟨yE lb,z ▸ yE (gK lb)⟩
theorem qCT {T:String} {r d:Addr} {n:Nat} {P:Nat->Value->Prop} {OK:Heap->Prop} {vs:List Value} {ns:List Int} {Q:Value->Shared->Prop} (calm:A.handled=none) (K:KdlSrc prog w T r d n P OK) (ok:OK s.heap)
  (all:∀ acc:Array Value,ItemsOf P acc n->acc.toList=vs) (hn:n=vs.length) (hI:IntsAre vs ns) (h64:vs.length<64)
  (h:∀(h1 h2:Heap) (m tk:Nat) (out:Array Value) (ns':List Int),IntsAre out.toList ns'->ns'.Perm ns->ns'.Pairwise (·<=·)->(∀ b o,s.heap.get? b=some o->h1.get? b=some o)->(∀ b o,h1.get? b=some o->h2.get? b=some o)->h2.get? h1.objs.size=some (seqObj "list" out m)->Q (.ref h1.objs.size) { s with heap:=h2,toks:=tk }):wpAny (model prog w) A (call (.builtin "sorted") [.ref r]) Q E s:=by
 have fit:vs.length<=sizeLine:=zO (vI h64) (by rw [xS]; decide)
 refine fL kind_sorted plain_sorted entry_sorted (args_sorted1 _) (wB (m:=checkCount "sorted" 1 1 _) (wG (wB (kdu_collect (A:=A.in1) K calm ok (by rw [hn]; exact fit) fun h1 tk acc k1 it=>?_))))
 rw [all acc it]
 refine wB (WI ?_ fit)
 have oL:(h1.push (seqObj "list" vs.toArray 0)).get? h1.objs.size=some (seqObj "list" vs.toArray 0):=zF h1 rfl
 have apart:∀ b u,h1.get? b=some u->b≠h1.objs.size:=fun b u y=>yE (zN y)
 refine wB (yM (vD slot_list_sort (s:={ s with heap:=h1.push (seqObj "list" vs.toArray 0),toks:=tk }) ⟨_,oL,rfl⟩ entry_list_sort (list_sort_tree oL hI h64 fun out ns' a1 a2 a3=>⟨_,rfl,?_⟩) (args_list_sort _)))
 obtain ⟨m,om⟩:=LSo.Ju (out:=out) oL
 exact wG ⟨_,rfl,h h1 _ m tk out ns' a1 a2 a3 k1 (fun b u y=>LSo.Jr (apart b u y) (wD _ y)) om⟩
theorem qBS:∀ R:List IRw,IntsAre (R.map fun r=>gC r.1 r.2) (R.map (·.1))
 | []=>.nil
 | r::R=>.cons r.1 r.2 (qBS R)
end
noncomputable def qBP (ta:TA):TE:=fun σ H Q=>ta σ H fun xs H1=>∃(p:Addr) (ns:List Int),xs=[.ref p]/\H1 p=some (.tup (ns.map V.int))/\ns.length<60/\∀(ns':List Int) (l:Addr),ns'.Nodup->(∀ k,k∈ns'↔k∈ns)->ns'.Pairwise (·<=·)->H1 l=none->Q (.ref l) (upd H1 l (.lst (ns'.map V.int)))
section
variable {X:Cx} {pins:List (Addr×Obj)} {σ:St} {H:Hp} {s:Shared}
theorem qCt {D:Addr} {R:List IRw} {ns:List Int} {Q:VK} (hc:X.calm=true) (I:Inv X pins σ H s) (S:qBB X.prog X.w s.heap D R) (hs:Holds R ns) (few:ns.length<60)
  (q:∀(ns':List Int) (l:Addr),ns'.Nodup->(∀ k,k∈ns'↔k∈ns)->ns'.Pairwise (·<=·)->H l=none->Q (.ref l) (upd H l (.lst (ns'.map V.int)))):wpAny (model X.prog X.w) X.A (call (.builtin "sorted") [.ref D]) (EP X pins σ Q) X.xe s:=by
 obtain ⟨o,es,ep,t,ho,hex,hd,Rm,er,nd,l1,l2⟩:=S
 have Wk:j7 X.w s.heap D es ep t:=⟨⟨o,ho,hex,hd⟩,Rm.kept,l1,l2⟩
 obtain ⟨R1,p1,g1⟩:=JD (f:=qHm X.prog X.w) (qAS X.w D ep es) (m:=R) er
 obtain ⟨s1,s2,s3⟩:=hs
 have lR:R1.length=R.length:=p1.length_eq
 have sz:es.size=R.length:=by rw [<- wU,er,wC]
 refine qCT (I.ok.hd hc) (qJa (es:=es) (ep:=ep) (t:=t)) Wk (vs:=R1.map fun r=>gC r.1 r.2) (fun acc it=>?_) (by rw [wC,lR]; exact sz) (qBS R1) (by rw [wC]; omega) fun h1 h2 m tk out ns' a1 a2 a3 k1 k2 new=>?_
 ·obtain ⟨i1,i2⟩:=it
  apply xW
  intro j
  rw [xB,wL]
  by_cases hj:j<es.size
  ·have hj':j<R1.length:=by omega
   obtain ⟨hh,y⟩:=i2 j (acc[j]'(by omega)) (zR (by omega))
   rw [zR (by omega),wA hj']
   rw [<- xB,g1,wL,wA hj'] at y
   have y2:=congrArg (fun z=>z.map (·.2)) y
   exact y2.symm
  ·rw [gM (by omega),vH (by omega)]
   rfl
 have pm:uO ns' (R.map (·.1)):=a2.trans (p1.map (·.1))
 have I1:Inv X pins σ H { s with heap:=h1,toks:=tk }:=I.kept (t':=tk) k1
 refine ⟨.ref h1.objs.size,upd H h1.objs.size (.lst (ns'.map V.int)),I1.laid (t':=tk) k2 (wO _) ?_,rfl,q ns' _ (pm.nodup_iff.mpr s1) (fun k=>pm.mem_iff.trans (s2 k)) a3 (I1.hok.fresh (wO _))⟩
 refine ⟨?_,out.toList,m,Qs a1,?_⟩
 ·rw [wC,pm.length_eq,wC,xS]
  omega
 ·rw [new]
theorem qCk {e:Expr} {ta:TA} {p p2 cpos pos:Pos} (hc:X.calm=true) (hg:Gl X "sorted") (hm:X.mg "sorted" = none) (hg2:Gl X "set") (hm2:X.mg "set" = none) (ha:PA X [e] ta)
  (h1:starEach [.Call (.Name "set" p2) [e] [] cpos] X.env=(false,eval (.Call (.Name "set" p2) [e] [] cpos) X.env)::starEach [] X.env:=by rfl) (h2:starEach [e] X.env=(false,eval e X.env)::starEach [] X.env:=by rfl)
  (hp1:(backTo pos (starEach [] X.env)).any (·.1)=false:=by rfl) (hp2:(backTo cpos (starEach [] X.env)).any (·.1)=false:=by rfl):PE X (.Call (.Name "sorted" p) [.Call (.Name "set" p2) [e] [] cpos] [] pos) (qBP ta):=by
 intro pins s σ H Q I h
 refine hZ (J3 I hg hm boot_sorted ?_)
 refine VM ?_ h1 hp1
 refine Calls.spliced_cons ?_
 refine hZ (J3 I hg2 hm2 PyProof.Rows.boot_set ?_)
 refine uA (thn (ha cpos pins s σ H _ I h) fun us s1 ⟨vs,H1,I1,r1,a,ns,ev,ea,few,q⟩=>?_) h2 hp2
 subst ev
 obtain ⟨u,rfl,rx⟩:=vals1 r1
 obtain rfl:u=uM a:=rx
 obtain ⟨its,rv,pt,_⟩:=I1.tuple (SqT.of (K:=X.K) ea)
 have hi:=qF1 rv
 have hl:=IntsAre.length hi
 refine qHB (I1.ok.hd hc) pt hi (by omega) fun h' tk R S hs k=>Calls.spliced_nil ?_
 exact qCt hc (I1.kept (t':=tk) k) S hs few q
end
end L2
namespace L4
open PySem L2
inductive Pl where
 | li (xs:List D) | di (ks:List (Key×D)) | dt (ks:List (List Key×D)) | ex (φ:Hp->Addr->HO->Prop)
inductive Sl where
 | u | d (x:D) | o (p:Pl) | f (K:wJ) (xs:List D)
inductive Rs where
 | d (x:D) | o (p:Pl) | b (i:Nat) | raw (v:V)
noncomputable abbrev Sl.l (xs:List D):Sl:=.o (.li xs)
noncomputable abbrev Rs.l (xs:List D):Rs:=.o (.li xs)
noncomputable def qCh {κ:Type} (G:Hp):List (κ×D)->List (κ×V)->Prop
 | [],vs=>vs=[]
 | x::xs,vs=>∃ v r,vs=(x.1,v)::r/\Den G x.2 v/\qCh G xs r
theorem qCh.mono {κ:Type} {G G':Hp} (g:qX G G'):∀{xs:List (κ×D)} {vs:List (κ×V)},qCh G xs vs->qCh G' xs vs
 | [],_,h=>h
 | _::_,_,⟨v,r,e,h1,h2⟩=>⟨v,r,e,Den.mono g _ _ h1,qCh.mono g h2⟩
noncomputable def qIf (G:Hp):Pl->Addr->HO->Prop
 | .li xs,_,o=>∃ vs,o=.lst vs/\qY G xs vs
 | .di ks,_,o=>∃ vs,o=.dK vs/\qCh G ks vs
 | .dt ks,_,o=>∃ vs,o=.dT vs/\qCh G ks vs
 | .ex φ,a,o=>(∀ xs,o≠.tup xs)/\∀ G',qX G G'->φ G' a o
theorem qIf.ntup {G:Hp} {p:Pl} {a:Addr} {o:HO} (h:qIf G p a o) (xs:List V):o≠.tup xs:=by
 cases p with
 | ex φ=>exact h.1 xs
 | _=>obtain ⟨_,rfl,_⟩:=h; exact fun z=>by cases z
theorem qIf.mono {G G':Hp} (g:qX G G') {p:Pl} {a:Addr} {o:HO} (h:qIf G p a o):qIf G' p a o:=by
 cases p with
 | li xs=>obtain ⟨vs,e,h⟩:=h; exact ⟨vs,e,qY.mono g _ _ h⟩
 | di ks=>obtain ⟨vs,e,h⟩:=h; exact ⟨vs,e,h.mono g⟩
 | dt ks=>obtain ⟨vs,e,h⟩:=h; exact ⟨vs,e,h.mono g⟩
 | ex φ=>exact ⟨h.1,fun G2 g2=>h.2 G2 (g.trans g2)⟩
noncomputable def qLU (G H:Hp):Sl->Option V->Prop
 | .u,_=>True
 | .d x,o=>∃ v,o=some v/\Den G x v
 | .o p,o=>∃ a vs,o=some (.ref a)/\H a=some vs/\qIf G p a vs
 | .f K xs,o=>∃ a vs,o=some (.ref a)/\SqL K G a vs/\qY G xs vs
noncomputable def qHc (ρ:List Sl) (σ:St) (a:Addr):Prop:=∃(i:Nat) (xs:Pl),ρ[i]? = some (Sl.o xs)/\σ[i]? = some (some (V.ref a))
structure SI (G F:Hp) (ρ:List Sl) (σ:St) (H:Hp):Prop where
 ok:∀(i:Nat) (s:Sl),ρ[i]? = some s->∃ o,σ[i]? = some o/\qLU G H s o
 g:qX G H
 f:qX F H
 gf:∀ a o,F a=some o->G a=none
 nd:∀(i j:Nat) (a:Addr) (xs ys:Pl),ρ[i]? = some (Sl.o xs)->ρ[j]? = some (Sl.o ys)->σ[i]? = some (some (V.ref a))->σ[j]? = some (some (V.ref a))->i=j
 out:∀ a,qHc ρ σ a->G a=none/\F a=none
 ft:∀ a xs,F a≠some (.tup xs)
noncomputable def jn (G F:Hp) (ρ:List Sl) (σ:St) (H:Hp):Rs->V->Prop
 | .d x,v=>Den G x v
 | .o xs,v=>∃ a vs,v=.ref a/\H a=some vs/\qIf G xs a vs/\G a=none/\F a=none/\¬ qHc ρ σ a
 | .b i,v=>σ[i]? = some (some v)
 | .raw w,v=>v=w
noncomputable def hold (r:Rs) (v:V) (H F:Hp):Hp:=match r,v with
 | .o _,.ref a=>fun b=>if b=a then H a else F b
 | _,_=>F
noncomputable def jy (G F:Hp) (ρ:List Sl) (σ:St) (H:Hp):List Rs->List V->Prop
 | [],vs=>vs=[]
 | r::rs,vs=>∃ v vt,vs=v::vt/\jn G F ρ σ H r v/\jy G (hold r v H F) ρ σ H rs vt
section
variable {G F H:Hp} {ρ:List Sl} {σ:St}
theorem qLU.up {G' H':Hp} {s:Sl} {o:Option V} (h:qLU G H s o) (g:qX G G') (e:∀ xs a vs,s=.o xs->o=some (.ref a)->H a=some vs->H' a=some vs):qLU G' H' s o:=by
 cases s with
 | u=>trivial
 | d x=>obtain ⟨v,h1,h2⟩:=h; exact ⟨v,h1,Den.mono g _ _ h2⟩
 | o xs=>obtain ⟨a,vs,h1,h2,h3⟩:=h; exact ⟨a,vs,h1,e xs a vs rfl h1 h2,h3.mono g⟩
 | f K xs=>
  obtain ⟨a,vs,h1,h2,h3⟩:=h
  exact ⟨a,vs,h1,g.seq h2,qY.mono g _ _ h3⟩
theorem Ys (r:Rs) (v:V) (h:jn G F ρ σ H r v):qX F (hold r v H F):=by
 cases r with
 | o xs=>
  obtain ⟨a,vs,rfl,h1,h2,h3,h4,h5⟩:=h
  intro b o e
  show (if b=a then H a else F b)=some o
  rw [if_neg]
  ·exact e
  ·intro z; subst z; rw [h4] at e; cases e
 | _=>exact qX.refl _
theorem SI.held (I:SI G F ρ σ H) {r:Rs} {v:V} (h:jn G F ρ σ H r v):SI G (hold r v H F) ρ σ H:=by
 cases r with
 | o xs=>
  obtain ⟨a,vs,rfl,h1,h2,h3,h4,h5⟩:=h
  refine ⟨I.ok,I.g,fun b o e=>?_,fun b o e=>?_,I.nd,fun b hb=>?_,fun b xs e=>?_⟩
  ·by_cases z:b=a
   ·subst z
    have e':(if b=b then H b else F b)=some o:=e
    rw [if_pos rfl] at e'
    exact e'
   ·have e':(if b=a then H a else F b)=some o:=e
    rw [if_neg z] at e'
    exact I.f _ _ e'
  ·by_cases z:b=a
   ·subst z; exact h3
   ·have e':(if b=a then H a else F b)=some o:=e
    rw [if_neg z] at e'
    exact I.gf _ _ e'
  ·have nb:b≠a:=fun z=>h5 (z ▸ hb)
   refine ⟨(I.out b hb).1,?_⟩
   show (if b=a then H a else F b)=none
   rw [if_neg nb]
   exact (I.out b hb).2
  ·have e':(if b=a then H a else F b)=some (.tup xs):=e
   by_cases z:b=a
   ·rw [if_pos z,h1] at e'
    exact h2.ntup xs (zQ e')
   ·rw [if_neg z] at e'
    exact I.ft b xs e'
 | _=>exact I
theorem SI.freed {G' H':Hp} {ρ':List Sl} {r:Rs} {v:V} (h:jn G F ρ σ H r v) (g:qX G G') (I':SI G' (hold r v H F) ρ' σ H'):SI G' F ρ' σ H'/\jn G' F ρ' σ H' r v:=by
 cases r with
 | o xs=>
  obtain ⟨a,vs,rfl,h1,h2,h3,h4,h5⟩:=h
  have fa:hold (.o xs) (.ref a) H F a=some vs:=by
   show (if a=a then H a else F a)=_
   rw [if_pos rfl]; exact h1
  have fs:qX F (hold (.o xs) (.ref a) H F):=Ys (ρ:=ρ) (σ:=σ) (G:=G) (.o xs) (.ref a) ⟨a,vs,rfl,h1,h2,h3,h4,h5⟩
  refine ⟨⟨I'.ok,I'.g,fun b o e=>I'.f _ _ (fs _ _ e),fun b o e=>I'.gf _ _ (fs _ _ e),I'.nd,fun b hb=>⟨(I'.out b hb).1,fs.free (I'.out b hb).2⟩,fun b xs e=>I'.ft b xs (fs _ _ e)⟩,a,vs,rfl,I'.f _ _ fa,h2.mono g,I'.gf _ _ fa,h4,fun q=>?_⟩
  rw [(I'.out a q).2] at fa
  cases fa
 | d x=>exact ⟨I',Den.mono g _ _ h⟩
 | b i=>exact ⟨I',h⟩
 | raw w=>exact ⟨I',h⟩
theorem jn.weak {F':Hp} (e:qX F' F) {r:Rs} {v:V} (h:jn G F ρ σ H r v):jn G F' ρ σ H r v:=by
 cases r with
 | o xs=>
  obtain ⟨a,vs,rfl,h1,h2,h3,h4,h5⟩:=h
  exact ⟨a,vs,rfl,h1,h2,h3,e.free h4,h5⟩
 | d x=>exact h
 | b i=>exact h
 | raw w=>exact h
end
noncomputable def Fin (G F:Hp) (σ:St) (Φ:Rs->List Sl->Prop) (Q:VK):Prop:=∀ G' H' v r ρ',Φ r ρ'->qX G G'->SI G' F ρ' σ H'->jn G' F ρ' σ H' r v->Q v H'
noncomputable def wpV (te:TE) (ρ:List Sl) (Φ:Rs->List Sl->Prop):Prop:=∀ G F σ H,SI G F ρ σ H->∀ Q:VK,Fin G F σ Φ Q->te σ H Q
noncomputable def wpT (tt:TT) (ρ:List Sl) (Φ:Bool->List Sl->Prop):Prop:=∀ G F σ H,SI G F ρ σ H->∀ Q:Bool->Hp->Prop,(∀ G' H' b ρ',Φ b ρ'->qX G G'->SI G' F ρ' σ H'->Q b H')->tt σ H Q
noncomputable def wpA (ta:TA) (ρ:List Sl) (Φ:List Rs->List Sl->Prop):Prop:=∀ G F σ H,SI G F ρ σ H->∀ Q:List V->Hp->Prop,(∀ G' H' vs rs ρ',Φ rs ρ'->qX G G'->SI G' F ρ' σ H'->jy G' F ρ' σ H' rs vs->Q vs H')->ta σ H Q
noncomputable def OpV (r2:R2) (x y:Rs) (ρ:List Sl) (Φ:Rs->List Sl->Prop):Prop:=∀ G F σ H vx vy,SI G F ρ σ H->jn G F ρ σ H x vx->jn G (hold x vx H F) ρ σ H y vy->∀ Q:VK,Fin G F σ Φ Q->r2 vx vy H Q
noncomputable def j4 (r:List V->Hp->VK->Prop) (rs:List Rs) (ρ:List Sl) (Φ:Rs->List Sl->Prop):Prop:=∀ G F σ H vs,SI G F ρ σ H->jy G F ρ σ H rs vs->∀ Q:VK,Fin G F σ Φ Q->r vs H Q
theorem Fin.at {G F:Hp} {σ:St} {Φ Ψ:Rs->List Sl->Prop} {Q:VK} (h:Fin G F σ Φ Q) {G':Hp} (g:qX G G') (e:∀ r ρ,Ψ r ρ->Φ r ρ):Fin G' F σ Ψ Q:=fun G2 H2 v r ρ2 p g2 I ok=>h G2 H2 v r ρ2 (e _ _ p) (g.trans g2) I ok
section
variable {ρ:List Sl} {Φ:Rs->List Sl->Prop}
theorem wpV.mono {te:TE} {Ψ:Rs->List Sl->Prop} (h:wpV te ρ Φ) (e:∀ r ρ',Φ r ρ'->Ψ r ρ'):wpV te ρ Ψ:=fun G F σ H I Q q=>h G F σ H I Q (q.at (qX.refl _) e)
theorem qNV {r2:R2} {ta tb:TE} (h:wpV ta ρ fun x ρ1=>wpV tb ρ1 fun y ρ2=>OpV r2 x y ρ2 Φ):wpV (tOp r2 ta tb) ρ Φ:=by
 intro G F σ H I Q q
 refine h G F σ H I _ fun G1 H1 vx x ρ1 h1 g1 I1 ok1=>?_
 refine h1 G1 (hold x vx H1 F) σ H1 (I1.held ok1) _ fun G2 H2 vy y ρ2 h2 g2 I2 ok2=>?_
 obtain ⟨I3,ok3⟩:=SI.freed ok1 g2 I2
 have eh:hold x vx H2 F=hold x vx H1 F:=by
  cases x with
  | o xs=>
   obtain ⟨a,vs,rfl,z1,z2,z3,z4,z5⟩:=ok1
   obtain ⟨a',vs',z,y1,y2,y3,y4,y5⟩:=ok3
   cases z
   funext b
   show (if b=a then H2 a else F b)=(if b=a then H1 a else F b)
   by_cases e:b=a
   ·rw [if_pos e,if_pos e,z1]
    have:hold (.o xs) (.ref a) H1 F a=some vs:=by
     show (if a=a then H1 a else F a)=_
     rw [if_pos rfl]; exact z1
    exact I2.f _ _ this
   ·rw [if_neg e,if_neg e]
  | _=>rfl
 exact h2 G2 F σ H2 vx vy I3 ok3 (by rw [eh]; exact ok2) Q (q.at (g1.trans g2) fun _ _ p=>p)
theorem qNK {r:V->Hp->VK->Prop} {ta:TE} (h:wpV ta ρ fun x ρ1=>j4 (fun vs H Q=>∃ v,vs=[v]/\r v H Q) [x] ρ1 Φ):wpV (tUn r ta) ρ Φ:=by
 intro G F σ H I Q q
 refine h G F σ H I _ fun G1 H1 vx x ρ1 h1 g1 I1 ok1=>?_
 obtain ⟨v,e,z⟩:=h1 G1 F σ H1 [vx] I1 ⟨vx,[],rfl,ok1,rfl⟩ Q (q.at g1 fun _ _ p=>p)
 cases e
 exact z
theorem qMJ {Φ:List Rs->List Sl->Prop} (h:Φ [] ρ):wpA qLp ρ Φ:=fun G F σ H I Q q=>q G H [] [] ρ h (qX.refl _) I rfl
theorem jy.cons {F:Hp} {σ:St} {H1 G1 G2 H2:Hp} {ρ1 ρ2:List Sl} {x:Rs} {vx:V} {rs:List Rs} {vs:List V} (ok1:jn G1 F ρ1 σ H1 x vx) (g2:qX G1 G2) (I2:SI G2 (hold x vx H1 F) ρ2 σ H2) (oks:jy G2 (hold x vx H1 F) ρ2 σ H2 rs vs) :
  SI G2 F ρ2 σ H2/\jy G2 F ρ2 σ H2 (x::rs) (vx::vs):=by
 obtain ⟨I3,ok3⟩:=SI.freed ok1 g2 I2
 have eh:hold x vx H2 F=hold x vx H1 F:=by
  cases x with
  | o xs=>
   obtain ⟨a,vs,rfl,z1,z2,z3,z4,z5⟩:=ok1
   funext b
   show (if b=a then H2 a else F b)=(if b=a then H1 a else F b)
   by_cases e:b=a
   ·rw [if_pos e,if_pos e,z1]
    have:hold (.o xs) (.ref a) H1 F a=some vs:=by
     show (if a=a then H1 a else F a)=_
     rw [if_pos rfl]; exact z1
    exact I2.f _ _ this
   ·rw [if_neg e,if_neg e]
  | _=>rfl
 exact ⟨I3,vx,vs,rfl,ok3,by rw [eh]; exact oks⟩
theorem qKE {Φ:List Rs->List Sl->Prop} {te:TE} {ta:TA} (h:wpV te ρ fun x ρ1=>wpA ta ρ1 fun rs ρ2=>Φ (x::rs) ρ2):wpA (qH3 te ta) ρ Φ:=by
 intro G F σ H I Q q
 refine h G F σ H I _ fun G1 H1 vx x ρ1 h1 g1 I1 ok1=>?_
 refine h1 G1 (hold x vx H1 F) σ H1 (I1.held ok1) _ fun G2 H2 vs rs ρ2 h2 g2 I2 oks=>?_
 obtain ⟨I3,ok3⟩:=jy.cons ok1 g2 I2 oks
 exact q G2 H2 (vx::vs) (x::rs) ρ2 h2 (g1.trans g2) I3 ok3
theorem qNb {r:List V->Hp->VK->Prop} {t:TA} (h:wpA t ρ fun rs ρ1=>j4 r rs ρ1 Φ):wpV (tCB r t) ρ Φ:=by
 intro G F σ H I Q q
 refine h G F σ H I _ fun G1 H1 vs rs ρ1 h1 g1 I1 oks=>?_
 exact h1 G1 F σ H1 vs I1 oks Q (q.at g1 fun _ _ p=>p)
theorem qJ7 {i:Nat} {x:D} (hi:ρ[i]? = some (.d x)) (h:Φ (.d x) ρ):wpV (qIn i) ρ Φ:=fun G F σ H I Q q=>by
 obtain ⟨o,e,v,rfl,hv⟩:=I.ok i _ hi
 exact ⟨v,e,q G H v _ ρ h (qX.refl _) I hv⟩
theorem qJM {i:Nat} {xs:List D} (hi:ρ[i]? = some (.l xs)) (h:Φ (.b i) ρ):wpV (qIn i) ρ Φ:=fun G F σ H I Q q=>by
 obtain ⟨o,e,a,vs,rfl,hv⟩:=I.ok i _ hi
 exact ⟨_,e,q G H (.ref a) _ ρ h (qX.refl _) I e⟩
theorem qJA {i:Nat} {K:wJ} {xs:List D} (hi:ρ[i]? = some (.f K xs)) (h:Φ (.b i) ρ):wpV (qIn i) ρ Φ:=fun G F σ H I Q q=>by
 obtain ⟨o,e,a,vs,rfl,hv⟩:=I.ok i _ hi
 exact ⟨_,e,q G H (.ref a) _ ρ h (qX.refl _) I e⟩
theorem qMa {i:Int} (h:Φ (.d (.int i)) ρ):wpV (tC (.int i)) ρ Φ:=fun G F σ H I Q q=>q G H _ _ ρ h (qX.refl _) I (show Den G (.int i) (.int i) from rfl)
theorem qNM {b:Bool} (h:Φ (.d (.bl b)) ρ):wpV (tC (.bl b)) ρ Φ:=fun G F σ H I Q q=>q G H _ _ ρ h (qX.refl _) I (show Den G (.bl b) (.bl b) from rfl)
theorem qLz (h:Φ (.d .non) ρ):wpV (tC .non) ρ Φ:=fun G F σ H I Q q=>q G H _ _ ρ h (qX.refl _) I (show Den G .non .non from rfl)
theorem qLv {x:Str} (h:Φ (.d (.str x)) ρ):wpV (tC (.str x)) ρ Φ:=fun G F σ H I Q q=>q G H _ _ ρ h (qX.refl _) I (show Den G (.str x) (.str x) from rfl)
theorem qMB {w:V} (h:Φ (.raw w) ρ):wpV (tC w) ρ Φ:=fun G F σ H I Q q=>q G H _ _ ρ h (qX.refl _) I (show w=w from rfl)
end
noncomputable def rd (ρ:List Sl):Rs->Option D
 | .d x=>some x
 | .o (.li xs)=>some (.lst xs)
 | .b i=>match ρ[i]? with
  | some (.o (.li xs))=>some (.lst xs)
  | some (.d x)=>some x
  | _=>none
 | _=>none
noncomputable def rdE (ρ:List Sl):Rs->Option D
 | .d x=>some x
 | .o (.li xs)=>some (.lst xs)
 | .b i=>match ρ[i]? with
  | some (.o (.li xs))=>some (.lst xs)
  | some (.d x)=>some x
  | _=>none
 | _=>none
section
variable {G F H:Hp} {ρ:List Sl} {σ:St} {r:Rs} {v:V} {K:wJ}
theorem jz (I:SI G F ρ σ H) (h:jn G F ρ σ H r v) {x:D} (e:rdE ρ r=some x):Den H x v/\((∀ ys,x≠.lst ys)->Den G x v)/\∀ ys,x=.lst ys->∃ a vs,v=.ref a/\H a=some (.lst vs)/\qY G ys vs:=by
 cases r with
 | d y=>
  have e':y=x:=zQ e
  subst e'
  refine ⟨Den.mono I.g _ _ h,fun _=>h,fun ys z=>?_⟩
  subst z
  obtain ⟨a,vs,h1,h2,h3⟩:=h
  exact ⟨a,vs,h1,I.g _ _ h2,h3⟩
 | o p=>
  cases p with
  | di _=>cases e
  | dt _=>cases e
  | ex _=>cases e
  | li xs=>
   have e':D.lst xs=x:=zQ e
   subst e'
   obtain ⟨a,_,rfl,h1,⟨vs,rfl,h2⟩,h3,h4,h5⟩:=h
   refine ⟨⟨a,vs,rfl,h1,qY.mono I.g _ _ h2⟩,fun z=>absurd rfl (z xs),fun ys z=>?_⟩
   cases z
   exact ⟨a,vs,rfl,h1,h2⟩
 | b i=>
  have h':σ[i]? = some (some v):=h
  unfold rdE at e
  cases hi:ρ[i]? with
  | none=>simp only [hi] at e; cases e
  | some s=>
   obtain ⟨o,e1,e2⟩:=I.ok i s hi
   rw [h'] at e1
   cases e1
   cases s with
   | u=>simp only [hi] at e; cases e
   | f _ xs=>simp only [hi] at e; cases e
   | d y=>
    simp only [hi] at e
    have e':y=x:=zQ e
    subst e'
    obtain ⟨w,z,h⟩:=e2
    cases z
    refine ⟨Den.mono I.g _ _ h,fun _=>h,fun ys z=>?_⟩
    subst z
    obtain ⟨a,vs,h1,h2,h3⟩:=h
    exact ⟨a,vs,h1,I.g _ _ h2,h3⟩
   | o p=>
    cases p with
    | di _=>simp only [hi] at e; cases e
    | dt _=>simp only [hi] at e; cases e
    | ex _=>simp only [hi] at e; cases e
    | li xs=>
     simp only [hi] at e
     have e':D.lst xs=x:=zQ e
     subst e'
     obtain ⟨a,_,z,h1,vs,rfl,h2⟩:=e2
     cases z
     refine ⟨⟨a,vs,rfl,h1,qY.mono I.g _ _ h2⟩,fun z=>absurd rfl (z xs),fun ys z=>?_⟩
     cases z
     exact ⟨a,vs,rfl,h1,h2⟩
 | raw w=>cases e
theorem qBX {x:D} (e:rd ρ r=some x):rdE ρ r=some x:=by
 cases r <;> exact e
theorem QA (I:SI G F ρ σ H) (h:jn G F ρ σ H r v) {xs:List D} (e:rd ρ r=some (.lst xs)):∃ a vs,v=.ref a/\SqL K H a vs/\qY G xs vs:=by
 obtain ⟨a,vs,h1,h2,h3⟩:=(jz I h (qBX e)).2.2 xs rfl
 exact ⟨a,vs,h1,SqL.of h2,h3⟩
theorem J0 (I:SI G F ρ σ H) (h:jn G F ρ σ H r v) {x:D} (e:rd ρ r=some x) (n:∀ ys,x≠.lst ys):Den G x v:=(jz I h (qBX e)).2.1 n
theorem jP (I:SI G F ρ σ H) (h:jn G F ρ σ H r v) {xs:List D} (e:rd ρ r=some (.tup xs)):∃ a vs,v=.ref a/\G a=some (.tup vs)/\qY G xs vs:=J0 I h e (fun ys z=>by cases z)
theorem qZ (I:SI G F ρ σ H) (h:jn G F ρ σ H r v) {i:Int} (e:rd ρ r=some (.int i)):v=.int i:=J0 I h e (fun ys z=>by cases z)
theorem JM (I:SI G F ρ σ H) (h:jn G F ρ σ H r v) {i:Bool} (e:rd ρ r=some (.bl i)):v=.bl i:=J0 I h e (fun ys z=>by cases z)
theorem qG8 (I:SI G F ρ σ H) (h:jn G F ρ σ H r v) (e:rd ρ r=some .non):v=.non:=J0 I h e (fun ys z=>by cases z)
theorem SI.new {p:Addr} {o:HO} (I:SI G F ρ σ H) (hp:H p=none):SI G F ρ σ (upd H p o):=
 ⟨fun i s e=>let ⟨o',e1,e2⟩:=I.ok i s e; ⟨o',e1,e2.up (qX.refl _) fun xs a vs _ _ z=>qX.new hp _ _ z⟩,I.g.trans (qX.new hp),I.f.trans (qX.new hp),I.gf,I.nd,I.out,I.ft⟩
theorem SI.newG {p:Addr} {o:HO} (I:SI G F ρ σ H) (hp:H p=none):SI (upd G p o) F ρ σ (upd H p o)/\qX G (upd G p o):=by
 have gp:G p=none:=I.g.free hp
 have fp:F p=none:=I.f.free hp
 refine ⟨⟨fun i s e=>let ⟨o',e1,e2⟩:=I.ok i s e; ⟨o',e1,e2.up (qX.new gp) fun xs a vs _ _ z=>qX.new hp _ _ z⟩,fun b u e=>?_,I.f.trans (qX.new hp),fun b u e=>?_,I.nd,fun b hb=>⟨?_,(I.out b hb).2⟩,I.ft⟩,qX.new gp⟩
 ·by_cases z:b=p
  ·subst z; rw [qN] at e ⊢; exact e
  ·rw [qS z] at e ⊢; exact I.g _ _ e
 ·have z:b≠p:=fun z=>by subst z; rw [fp] at e; cases e
  rw [qS z]; exact I.gf _ _ e
 ·obtain ⟨i,xs,h1,h2⟩:=hb
  obtain ⟨o',e1,a,vs,z,h3,_⟩:=I.ok i _ h1
  rw [h2] at e1
  cases e1
  cases z
  rw [qS (ji h3 hp)]
  exact (I.out b ⟨i,xs,h1,h2⟩).1
theorem qCJ {Φ:Rs->List Sl->Prop} {Q:VK} (q:Fin G F σ Φ Q) (I:SI G F ρ σ H) {x:D} (hv:Den G x v) (h:Φ (.d x) ρ):Q v H:=q G H v (.d x) ρ h (qX.refl _) I hv
theorem QE {Φ:Rs->List Sl->Prop} {Q:VK} (q:Fin G F σ Φ Q) (I:SI G F ρ σ H) {i:Int} (h:Φ (.d (.int i)) ρ):Q (.int i) H:=qCJ q I (x:=.int i) rfl h
theorem qa {Φ:Rs->List Sl->Prop} {Q:VK} (q:Fin G F σ Φ Q) (I:SI G F ρ σ H) {i:Bool} (h:Φ (.d (.bl i)) ρ):Q (.bl i) H:=qCJ q I (x:=.bl i) rfl h
theorem Yx {Φ:Rs->List Sl->Prop} {Q:VK} (q:Fin G F σ Φ Q) (I:SI G F ρ σ H) {xs:List D} {vs:List V} (hv:qY G xs vs) (h:Φ (.d (.tup xs)) ρ) {p:Addr} (hp:H p=none):Q (.ref p) (upd H p (.tup vs)):=by
 obtain ⟨I2,g⟩:=I.newG (o:=.tup vs) hp
 exact q _ _ _ _ ρ h g I2 ⟨p,vs,rfl,qN,qY.mono g _ _ hv⟩
theorem QQ {Φ:Rs->List Sl->Prop} {Q:VK} (q:Fin G F σ Φ Q) (I:SI G F ρ σ H) {xs:List D} {vs:List V} (hv:qY G xs vs) (h:Φ (.l xs) ρ) {p:Addr} (hp:H p=none):Q (.ref p) (upd H p (.lst vs)):=by
 refine q G _ _ _ ρ h (qX.refl _) (I.new hp) ⟨p,_,rfl,qN,⟨vs,rfl,hv⟩,I.g.free hp,I.f.free hp,?_⟩
 rintro ⟨i,ys,h1,h2⟩
 obtain ⟨o',e1,a,ws,z,h3,_⟩:=I.ok i _ h1
 rw [h2] at e1
 cases e1
 cases z
 rw [hp] at h3
 cases h3
theorem SI.putO {i:Nat} {xs ys:Pl} {a:Addr} {vs:HO} (I:SI G F ρ σ H) (hi:ρ[i]? = some (.o xs)) (ha:σ[i]? = some (some (.ref a))) (hv:qIf G ys a vs):SI G F (ρ.set i (.o ys)) σ (upd H a vs):=by
 have oa:=I.out a ⟨i,xs,hi,ha⟩
 have il:i<ρ.length:=(wI.mp hi).1
 refine ⟨fun j s e=>?_,fun b u e=>?_,fun b u e=>?_,I.gf,fun j k b us ws h1 h2 h3 h4=>?_,fun b hb=>?_,I.ft⟩
 ·rw [zL] at e
  by_cases z:i=j
  ·subst z
   rw [if_pos rfl,if_pos il] at e
   cases e
   exact ⟨_,ha,a,vs,rfl,qN,hv⟩
  ·rw [if_neg z] at e
   obtain ⟨o',e1,e2⟩:=I.ok j s e
   refine ⟨o',e1,e2.up (qX.refl _) fun us b ws h1 h2 h3=>?_⟩
   subst h1 h2
   rw [qS]
   ·exact h3
   ·intro q; subst q
    exact z (I.nd i j b xs us hi e ha e1)
 ·rw [qS]
  ·exact I.g _ _ e
  ·intro q; subst q; rw [oa.1] at e; cases e
 ·rw [qS]
  ·exact I.f _ _ e
  ·intro q; subst q; rw [oa.2] at e; cases e
 ·have w:∀(n:Nat) (zs:Pl),(ρ.set i (.o ys))[n]? = some (.o zs)->∃ zs',ρ[n]? = some (.o zs'):=fun n zs h=>by
   rw [zL] at h
   by_cases z:i=n
   ·subst z; exact ⟨xs,hi⟩
   ·rw [if_neg z] at h; exact ⟨zs,h⟩
  obtain ⟨u1,w1⟩:=w j us h1
  obtain ⟨u2,w2⟩:=w k ws h2
  exact I.nd j k b u1 u2 w1 w2 h3 h4
 ·obtain ⟨n,zs,h1,h2⟩:=hb
  rw [zL] at h1
  by_cases z:i=n
  ·subst z; exact I.out b ⟨i,xs,hi,h2⟩
  ·rw [if_neg z] at h1; exact I.out b ⟨n,zs,h1,h2⟩
theorem SI.put {i:Nat} {xs ys:List D} {a:Addr} {vs:List V} (I:SI G F ρ σ H) (hi:ρ[i]? = some (.l xs)) (ha:σ[i]? = some (some (.ref a))) (hv:qY G ys vs):SI G F (ρ.set i (.l ys)) σ (upd H a (.lst vs)):=I.putO hi ha ⟨vs,rfl,hv⟩
theorem SI.freeze {i:Nat} {xs:List D} (I:SI G F ρ σ H) (hi:ρ[i]? = some (.l xs)):∃ G',qX G G'/\SI G' F (ρ.set i (.d (.lst xs))) σ H:=by
 obtain ⟨o,ha,a,_,rfl,h1,vs,rfl,h2⟩:=I.ok i _ hi
 have oa:=I.out a ⟨i,.li xs,hi,ha⟩
 have il:i<ρ.length:=(wI.mp hi).1
 have sg:qX G (upd G a (.lst vs)):=qX.new oa.1
 refine ⟨upd G a (.lst vs),sg,fun j s e=>?_,fun b u e=>?_,I.f,fun b u e=>?_,fun j k b us ws e1 e2 h3 h4=>?_,fun b hb=>?_,I.ft⟩
 ·rw [zL] at e
  by_cases z:i=j
  ·subst z
   rw [if_pos rfl,if_pos il] at e
   cases e
   exact ⟨_,ha,_,rfl,a,vs,rfl,qN,qY.mono sg _ _ h2⟩
  ·rw [if_neg z] at e
   obtain ⟨o',e1,e2⟩:=I.ok j s e
   exact ⟨o',e1,e2.up sg fun _ _ _ _ _ z=>z⟩
 ·by_cases z:b=a
  ·subst z; rw [qN] at e; cases e; exact h1
  ·rw [qS z] at e; exact I.g _ _ e
 ·have z:b≠a:=fun z=>by subst z; rw [oa.2] at e; cases e
  rw [qS z]; exact I.gf _ _ e
 ·have w:∀(n:Nat) (zs:Pl),(ρ.set i (.d (.lst xs)))[n]? = some (.o zs)->ρ[n]? = some (.o zs):=fun n zs h=>by
   rw [zL] at h
   by_cases z:i=n
   ·subst z; rw [if_pos rfl,if_pos il] at h; cases h
   ·rw [if_neg z] at h; exact h
  exact I.nd j k b us ws (w j us e1) (w k ws e2) h3 h4
 ·obtain ⟨n,zs,e1,e2⟩:=hb
  have z:i≠n:=fun z=>by subst z; rw [zL,if_pos rfl,if_pos il] at e1; cases e1
  rw [zL,if_neg z] at e1
  have nb:b≠a:=fun q=>by subst q; exact z (I.nd i n b (.li xs) zs hi e1 ha e2)
  rw [qS nb]
  exact I.out b ⟨n,zs,e1,e2⟩
theorem SI.lay {xs:List D} {v:V} (I:SI G F ρ σ H) (h:jn G F ρ σ H (.l xs) v):∃ G',qX G G'/\SI G' F ρ σ H/\Den G' (.lst xs) v:=by
 obtain ⟨a,_,rfl,h1,⟨vs,rfl,h2⟩,h3,h4,h5⟩:=h
 have sg:qX G (upd G a (.lst vs)):=qX.new h3
 refine ⟨upd G a (.lst vs),sg,⟨fun j s e=>let ⟨o',e1,e2⟩:=I.ok j s e; ⟨o',e1,e2.up sg fun _ _ _ _ _ z=>z⟩,fun b u e=>?_,I.f,fun b u e=>?_,I.nd,fun b hb=>?_,I.ft⟩,a,vs,rfl,qN,qY.mono sg _ _ h2⟩
 ·by_cases z:b=a
  ·subst z; rw [qN] at e; cases e; exact h1
  ·rw [qS z] at e; exact I.g _ _ e
 ·have z:b≠a:=fun z=>by subst z; rw [h4] at e; cases e
  rw [qS z]; exact I.gf _ _ e
 ·have nb:b≠a:=fun q=>by subst q; exact h5 hb
  rw [qS nb]
  exact I.out b hb
noncomputable def Rs.sl:Rs->Sl
 | .d x=>.d x
 | .o p=>.o p
 | _=>.u
theorem SI.asg {i:Nat} {v:V} (I:SI G F ρ σ H) (h:jn G F ρ σ H r v):SI G F (ρ.set i r.sl) (σ.set i (some v)) H:=by
 have base:∀ j,j≠i->(σ.set i (some v))[j]? = σ[j]?:=fun j hj=>by rw [zL,if_neg hj.symm]
 have own:∀(n:Nat) (zs:Pl) (b:Addr),(ρ.set i r.sl)[n]? = some (.o zs)->(σ.set i (some v))[n]? = some (some (.ref b))->(n=i/\v=.ref b/\r=.o zs)\/(n≠i/\ρ[n]? = some (.o zs)/\σ[n]? = some (some (.ref b))):=fun n zs b h1 h2=>by
  by_cases z:i=n
  ·subst z
   rw [zL,if_pos rfl] at h1 h2
   by_cases q:i<ρ.length
   ·by_cases q2:i<σ.length
    ·rw [if_pos q] at h1
     rw [if_pos q2] at h2
     cases r with
     | o xs=>cases h1; cases h2; exact .inl ⟨rfl,rfl,rfl⟩
     | d x=>cases h1
     | b x=>cases h1
     | raw x=>cases h1
    ·rw [if_neg q2] at h2; cases h2
   ·rw [if_neg q] at h1; cases h1
  ·rw [zL,if_neg z] at h1
   rw [zL,if_neg z] at h2
   exact .inr ⟨fun e=>z e.symm,h1,h2⟩
 refine ⟨fun j s e=>?_,I.g,I.f,I.gf,fun j k b us ws h1 h2 h3 h4=>?_,fun b hb=>?_,I.ft⟩
 ·rw [zL] at e
  by_cases z:i=j
  ·subst z
   rw [if_pos rfl] at e
   by_cases q:i<ρ.length
   ·rw [if_pos q] at e
    cases e
    obtain ⟨o,ho,_⟩:=I.ok i ρ[i] (wA q)
    have q2:i<σ.length:=(wI.mp ho).1
    refine ⟨some v,by rw [zL,if_pos rfl,if_pos q2],?_⟩
    cases r with
    | d x=>exact ⟨v,rfl,h⟩
    | o xs=>
     obtain ⟨a,vs,rfl,h1,h2,_⟩:=h
     exact ⟨a,vs,rfl,h1,h2⟩
    | b x=>trivial
    | raw x=>trivial
   ·rw [if_neg q] at e; cases e
  ·rw [if_neg z] at e
   obtain ⟨o',e1,e2⟩:=I.ok j s e
   exact ⟨o',by rw [base j (fun q=>z q.symm)]; exact e1,e2⟩
 ·rcases own j us b h1 h3 with ⟨rfl,e1,e2⟩ | ⟨n1,e1,e2⟩
  ·rcases own k ws b h2 h4 with ⟨rfl,_,_⟩ | ⟨n2,e3,e4⟩
   ·rfl
   ·subst e2
    obtain ⟨a,vs,z,_,_,_,_,h5⟩:=h
    rw [e1] at z
    cases z
    exact absurd ⟨k,ws,e3,e4⟩ h5
  ·rcases own k ws b h2 h4 with ⟨rfl,e3,e4⟩ | ⟨n2,e3,e4⟩
   ·subst e4
    obtain ⟨a,vs,z,_,_,_,_,h5⟩:=h
    rw [e3] at z
    cases z
    exact absurd ⟨j,us,e1,e2⟩ h5
   ·exact I.nd j k b us ws e1 e3 e2 e4
 ·obtain ⟨n,zs,e1,e2⟩:=hb
  rcases own n zs b e1 e2 with ⟨rfl,e3,e4⟩ | ⟨_,e3,e4⟩
  ·subst e4
   obtain ⟨a,vs,z,_,_,h3,h4,_⟩:=h
   rw [e3] at z
   cases z
   exact ⟨h3,h4⟩
  ·exact I.out b ⟨n,zs,e3,e4⟩
end
section
variable {ρ:List Sl} {Φ:Rs->List Sl->Prop} {x y:Rs} {K:wJ} {r2 r3:R2}
theorem OpV.l (h:OpV r2 x y ρ Φ):OpV (fun a b H Q=>r2 a b H Q\/r3 a b H Q) x y ρ Φ:=fun G F σ H vx vy I h1 h2 Q q=>.inl (h G F σ H vx vy I h1 h2 Q q)
theorem OpV.r (h:OpV r3 x y ρ Φ):OpV (fun a b H Q=>r2 a b H Q\/r3 a b H Q) x y ρ Φ:=fun G F σ H vx vy I h1 h2 Q q=>.inr (h G F σ H vx vy I h1 h2 Q q)
theorem ok2 {G F H:Hp} {σ:St} {vx vy:V} (h1:jn G F ρ σ H x vx) (h2:jn G (hold x vx H F) ρ σ H y vy):jn G F ρ σ H y vy:=h2.weak (Ys x vx h1)
theorem qMi {k:Int->Int->Int} {i j:Int} (hx:rd ρ x=some (.int i)) (hy:rd ρ y=some (.int j)) (h:Φ (.d (.int (k i j))) ρ):OpV (rI0 fun i j=>.int (k i j)) x y ρ Φ:=fun G F σ H vx vy I h1 h2 Q q=>
 ⟨i,j,qZ I h1 hx,qZ I (ok2 h1 h2) hy,QE q I h⟩
theorem qMh {k:Int->Int->Bool} {i j:Int} (hx:rd ρ x=some (.int i)) (hy:rd ρ y=some (.int j)) (h:Φ (.d (.bl (k i j))) ρ):OpV (rI0 fun i j=>.bl (k i j)) x y ρ Φ:=fun G F σ H vx vy I h1 h2 Q q=>
 ⟨i,j,qZ I h1 hx,qZ I (ok2 h1 h2) hy,qa q I h⟩
theorem qAt {C:Int->Int->Prop} {k:Int->Int->Int} {i j:Int} (hx:rd ρ x=some (.int i)) (hy:rd ρ y=some (.int j)) (hc:C i j) (h:Φ (.d (.int (k i j))) ρ):OpV (rI C fun i j=>.int (k i j)) x y ρ Φ:=fun G F σ H vx vy I h1 h2 Q q=>
 ⟨i,j,qZ I h1 hx,qZ I (ok2 h1 h2) hy,hc,QE q I h⟩
theorem u_i {k:Int->Int} {i:Int} (hx:rd ρ x=some (.int i)) (h:Φ (.d (.int (k i))) ρ):j4 (fun vs H Q=>∃ v,vs=[v]/\rU (fun i=>.int (k i)) v H Q) [x] ρ Φ:=fun G F σ H vs I h1 Q q=>by
 obtain ⟨v,vt,rfl,ok,e⟩:=h1
 have e':vt=[]:=e
 subst e'
 exact ⟨v,rfl,i,qZ I ok hx,QE q I h⟩
theorem qD9 {xs ys:List D} (hx:rd ρ x=some (.lst xs)) (hy:rd ρ y=some (.lst ys)) (hz:xs.length+ys.length<=sizeLine) (h:Φ (.l (xs++ys)) ρ):OpV (qJm K) x y ρ Φ:=fun G F σ H vx vy I h1 h2 Q q=>by
 obtain ⟨a,vs,rfl,s1,d1⟩:=QA (K:=K) I h1 hx
 obtain ⟨b,ws,rfl,s2,d2⟩:=QA (K:=K) I (ok2 h1 h2) hy
 exact ⟨a,b,vs,ws,rfl,rfl,s1,s2,by rw [d1.length,d2.length]; exact hz,fun p hp=>QQ q I (d1.append d2) h hp⟩
theorem qGU {H:Hp} {xs:List D} {vs:List V} (h:qY H xs vs) {i:Int} {d:D} (e:atI xs i=some d):∃ v,atI vs i=some v/\Den H d v:=by
 unfold atI at e ⊢
 rw [h.length]
 cases z:ixN xs.length i with
 | none=>rw [z] at e; cases e
 | some j=>
  rw [z] at e
  have e':xs[j]? = some d:=e
  obtain ⟨v,e1,e2⟩:=h.get' e'
  exact ⟨v,e1,e2⟩
theorem qJV {xs:List D} {i:Int} {d:D} (hx:rd ρ x=some (.lst xs)) (hy:rd ρ y=some (.int i)) (hi:atI xs i=some d) (h:Φ (.d d) ρ):OpV (rIx K) x y ρ Φ:=fun G F σ H vx vy I h1 h2 Q q=>by
 obtain ⟨a,vs,rfl,s1,d1⟩:=QA (K:=K) I h1 hx
 obtain ⟨v,e1,e2⟩:=qGU d1 hi
 exact .inl ⟨a,vs,i,v,rfl,qZ I (ok2 h1 h2) hy,s1,e1,qCJ q I e2 h⟩
theorem qKx {xs:List D} {i:Int} {d:D} (hx:rd ρ x=some (.tup xs)) (hy:rd ρ y=some (.int i)) (hi:atI xs i=some d) (h:Φ (.d d) ρ):OpV (rIx K) x y ρ Φ:=fun G F σ H vx vy I h1 h2 Q q=>by
 obtain ⟨a,vs,rfl,s1,d1⟩:=jP I h1 hx
 obtain ⟨v,e1,e2⟩:=qGU d1 hi
 exact .inr (.inl ⟨a,vs,i,v,rfl,qZ I (ok2 h1 h2) hy,SqT.of (I.g _ _ s1),e1,qCJ q I e2 h⟩)
theorem qMY {b:Bool} {d:D} {l:List D} (hx:rdE ρ x=some d) (hy:rdE ρ y=some (.lst l)) (hd:qL l<=50) (h:Φ (.d (.bl (if b then !dIn d l else dIn d l))) ρ) (hd2:qs d<=50:=by first | exact yT rfl | assumption):OpV (qFY b) x y ρ Φ:=fun G F σ H vx vy I h1 h2 Q q=>
 ⟨d,l,(jz I h1 hx).1,.inr (jz I (ok2 h1 h2) hy).1,hd,hd2,qa q I h⟩
theorem qHi {b:Bool} {d:D} {l:List D} (hx:rdE ρ x=some d) (hy:rdE ρ y=some (.tup l)) (hd:qL l<=50) (h:Φ (.d (.bl (if b then !dIn d l else dIn d l))) ρ) (hd2:qs d<=50:=by first | exact yT rfl | assumption):OpV (qFY b) x y ρ Φ:=fun G F σ H vx vy I h1 h2 Q q=>
 ⟨d,l,(jz I h1 hx).1,.inl (jz I (ok2 h1 h2) hy).1,hd,hd2,qa q I h⟩
theorem qHd {b:Bool} {l m:List D} (hx:rdE ρ x=some (.lst l)) (hy:rdE ρ y=some (.lst m)) (hd:qL l<=50) (h:Φ (.d (.bl (if b then !QY l m else QY l m))) ρ) (hd2:qL m<=50:=by first | exact yT rfl | exact jT _ | assumption):OpV (qIS b) x y ρ Φ:=fun G F σ H vx vy I h1 h2 Q q=>
 ⟨l,m,.inr ⟨(jz I h1 hx).1,(jz I (ok2 h1 h2) hy).1⟩,hd,hd2,qa q I h⟩
theorem qK5 {b:Bool} {l m:List D} (hx:rdE ρ x=some (.tup l)) (hy:rdE ρ y=some (.tup m)) (hd:qL l<=50) (h:Φ (.d (.bl (if b then !QY l m else QY l m))) ρ) (hd2:qL m<=50:=by first | exact yT rfl | exact jT _ | assumption):OpV (qIS b) x y ρ Φ:=fun G F σ H vx vy I h1 h2 Q q=>
 ⟨l,m,.inl ⟨(jz I h1 hx).1,(jz I (ok2 h1 h2) hy).1⟩,hd,hd2,qa q I h⟩
noncomputable def dV:D->Option V
 | .non=>some .non | .bl b=>some (.bl b) | .int i=>some (.int i) | .str s=>some (.str s) | _=>none
theorem qAr {G F H:Hp} {σ:St} {v w:V} {d:D} (I:SI G F ρ σ H) (h:jn G F ρ σ H x v) (e:rd ρ x=some d) (hw:dV d=some w):v=w:=by
 have n:∀ ys,d≠.lst ys:=fun ys z=>by subst z; cases hw
 have g:=J0 I h e n
 cases d with
 | non=>cases hw; exact g
 | bl b=>cases hw; exact g
 | int i=>cases hw; exact g
 | str s=>cases hw; exact g
 | tup l=>cases hw
 | lst l=>cases hw
 | dic=>cases hw
theorem qBC {d e:D} {v w:V} (hx:rd ρ x=some d) (hy:rd ρ y=some e) (hv:dV d=some v) (hw:dV e=some w) (hs:qLr v w=true) (h:Φ (.d (.bl (decide (v=w)))) ρ):OpV rEq x y ρ Φ:=fun G F σ H vx vy I h1 h2 Q q=>by
 cases qAr I h1 hx hv
 cases qAr I (ok2 h1 h2) hy hw
 exact ⟨hs,qa q I h⟩
theorem qIx {d e:D} {v w:V} (hx:rd ρ x=some d) (hy:rd ρ y=some e) (hv:dV d=some v) (hw:dV e=some w) (hs:qLr v w=true) (h:Φ (.d (.bl (!decide (v=w)))) ρ):OpV rNe x y ρ Φ:=fun G F σ H vx vy I h1 h2 Q q=>by
 cases qAr I h1 hx hv
 cases qAr I (ok2 h1 h2) hy hw
 exact ⟨hs,qa q I h⟩
theorem qMe {i j:Int} (hx:rd ρ x=some (.int i)) (hy:rd ρ y=some (.int j)) (h:Φ (.d (.bl (decide (i=j)))) ρ):OpV rEq x y ρ Φ:=by
 refine qBC hx hy rfl rfl rfl ?_
 have e:decide (V.int i=V.int j)=decide (i=j):=decide_eq_decide.mpr ⟨fun z=>by cases z; rfl,fun z=>by rw [z]⟩
 rw [e]; exact h
theorem qL9 {i j:Int} (hx:rd ρ x=some (.int i)) (hy:rd ρ y=some (.int j)) (h:Φ (.d (.bl (!decide (i=j)))) ρ):OpV rNe x y ρ Φ:=by
 refine qIx hx hy rfl rfl rfl ?_
 have e:decide (V.int i=V.int j)=decide (i=j):=decide_eq_decide.mpr ⟨fun z=>by cases z; rfl,fun z=>by rw [z]⟩
 rw [e]; exact h
end
section
variable {ρ:List Sl} {Φ:Rs->List Sl->Prop} {x y:Rs} {K:wJ}
theorem jx {G F H:Hp} {σ:St} {vs:List V} (h:jy G F ρ σ H [x] vs):∃ v,vs=[v]/\jn G F ρ σ H x v:=by
 obtain ⟨v,vt,rfl,ok,e⟩:=h
 have e':vt=[]:=e
 subst e'
 exact ⟨v,rfl,ok⟩
theorem Ja {G F H:Hp} {σ:St} {vs:List V} (h:jy G F ρ σ H [x,y] vs):∃ v w,vs=[v,w]/\jn G F ρ σ H x v/\jn G F ρ σ H y w:=by
 obtain ⟨v,vt,rfl,ok,h2⟩:=h
 obtain ⟨w,rfl,ok'⟩:=jx h2
 exact ⟨v,w,rfl,ok,ok2 ok ok'⟩
theorem qKS {xs:List D} (hx:rd ρ x=some (.lst xs)) (h:Φ (.d (.int xs.length)) ρ):j4 (fun xs H Q=>∃ p ys,xs=[.ref p]/\(SqL K H p ys\/SqT K H p ys)/\Q (.int ys.length) H) [x] ρ Φ:=fun G F σ H vs I h1 Q q=>by
 obtain ⟨v,rfl,ok⟩:=jx h1
 obtain ⟨a,ws,rfl,s1,d1⟩:=QA (K:=K) I ok hx
 refine ⟨a,ws,rfl,.inl s1,?_⟩
 rw [d1.length]
 exact QE q I h
theorem qKq {xs:List D} (hx:rd ρ x=some (.tup xs)) (h:Φ (.d (.int xs.length)) ρ):j4 (fun xs H Q=>∃ p ys,xs=[.ref p]/\(SqL K H p ys\/SqT K H p ys)/\Q (.int ys.length) H) [x] ρ Φ:=fun G F σ H vs I h1 Q q=>by
 obtain ⟨v,rfl,ok⟩:=jx h1
 obtain ⟨a,ws,rfl,s1,d1⟩:=jP I ok hx
 refine ⟨a,ws,rfl,.inr (SqT.of (I.g _ _ s1)),?_⟩
 rw [d1.length]
 exact QE q I h
theorem qID {xs:List D} (hx:rd ρ x=some (.lst xs)) (h:Φ (.d (.tup xs)) ρ):j4 (fun xs H Q=>∃ p ys,xs=[.ref p]/\((SqL K H p ys/\∀ l,H l=none->Q (.ref l) (upd H l (.tup ys)))\/(SqT K H p ys/\Q (.ref p) H))) [x] ρ Φ:=fun G F σ H vs I h1 Q q=>by
 obtain ⟨v,rfl,ok⟩:=jx h1
 obtain ⟨a,ws,rfl,s1,d1⟩:=QA (K:=K) I ok hx
 exact ⟨a,ws,rfl,.inl ⟨s1,fun l hl=>Yx q I d1 h hl⟩⟩
theorem qJH {xs:List D} (hx:rd ρ x=some (.tup xs)) (h:Φ (.l xs) ρ):j4 (fun xs H Q=>∃ p ys,xs=[.ref p]/\(SqL K H p ys\/SqT K H p ys)/\∀ l,H l=none->Q (.ref l) (upd H l (.lst ys))) [x] ρ Φ:=fun G F σ H vs I h1 Q q=>by
 obtain ⟨v,rfl,ok⟩:=jx h1
 obtain ⟨a,ws,rfl,s1,d1⟩:=jP I ok hx
 exact ⟨a,ws,rfl,.inr (SqT.of (I.g _ _ s1)),fun l hl=>QQ q I d1 h hl⟩
theorem qNj {k:Int->Int->Int} {i j:Int} (hx:rd ρ x=some (.int i)) (hy:rd ρ y=some (.int j)) (h:Φ (.d (.int (k i j))) ρ):j4 (fun xs H Q=>∃ i j,xs=[.int i,.int j]/\Q (.int (k i j)) H) [x,y] ρ Φ:=fun G F σ H vs I h1 Q q=>by
 obtain ⟨v,w,rfl,o1,o2⟩:=Ja h1
 cases qZ I o1 hx
 cases qZ I o2 hy
 exact ⟨i,j,rfl,QE q I h⟩
theorem qFX {H:Hp}:∀{bs:List Bool} {vs:List V},qY H (bs.map D.bl) vs->vs=bs.map V.bl
 | [],vs,h=>h
 | b::bs,vs,h=>by
  obtain ⟨v,r,rfl,h1,h2⟩:=h
  have h1':v=.bl b:=h1
  subst h1'
  rw [qFX h2,uW]
theorem qDA {bs:List Bool} (hx:rdE ρ x=some (.lst (bs.map D.bl))) (h:Φ (.d (.bl (bs.all id))) ρ):j4 (fun xs H Q=>∃(p:Addr) (bs:List Bool),xs=[.ref p]/\H p=some (.lst (bs.map V.bl))/\Q (.bl (bs.all id)) H) [x] ρ Φ:=fun G F σ H vs I h1 Q q=>by
 obtain ⟨v,rfl,ok⟩:=jx h1
 obtain ⟨a,ws,rfl,s1,d1⟩:=(jz I ok hx).2.2 _ rfl
 rw [qFX d1] at s1
 exact ⟨a,bs,rfl,s1,qa q I h⟩
theorem qFR {ns:List Int} (hx:rdE ρ x=some (.lst (ns.map D.int))) (hn:ns.length<64) (h:∀ ns':List Int,ns'.Perm ns->ns'.Pairwise (·<=·)->Φ (.l (ns'.map D.int)) ρ):j4 (fun xs H Q=>∃(p:Addr) (ns:List Int),xs=[.ref p]/\H p=some (.lst (ns.map V.int))/\ns.length<64/\∀(ns':List Int) (l:Addr),ns'.Perm ns->ns'.Pairwise (·<=·)->H l=none->Q (.ref l) (upd H l (.lst (ns'.map V.int)))) [x] ρ Φ:=fun G F σ H vs I h1 Q q=>by
 obtain ⟨v,rfl,ok⟩:=jx h1
 obtain ⟨a,ws,rfl,s1,d1⟩:=(jz I ok hx).2.2 _ rfl
 rw [d1.ints_eq] at s1
 exact ⟨a,ns,rfl,s1,hn,fun ns' l pm pw hl=>QQ q I (qY.ints G ns') (h ns' pm pw) hl⟩
noncomputable def tyD:D->String
 | .non=>"NoneType" | .bl _=>"bool" | .int _=>"int" | .str _=>"str" | .tup _=>"tuple" | .lst _=>"list" | .dic=>"dict"
theorem qND {H:Hp} {d:D} {v:V} (h:Den H d v):qCP K H v (.type (tyD d)):=by
 cases d with
 | non=>cases (show v=_ from h); exact .non
 | bl b=>cases (show v=_ from h); exact .bl b
 | int b=>cases (show v=_ from h); exact .int b
 | str b=>cases (show v=_ from h); exact .str b
 | tup l=>obtain ⟨a,xs,rfl,h1,_⟩:=h; exact .tup h1
 | lst l=>obtain ⟨a,xs,rfl,h1,_⟩:=h; exact .lst h1
 | dic=>obtain ⟨a,xs,rfl,h1⟩:=h; exact .dK h1
theorem qBD {d:D} {T:String} {b:Bool} (hx:rdE ρ x=some d) (hb:xT K (.type (tyD d)) (.type T)=some b) (h:Φ (.d (.bl b)) ρ):j4 (fun xs H Q=>∃ x t T b,xs=[x,.ty T]/\qCP K H x t/\xT K t (.type T)=some b/\Q (.bl b) H) [x,.raw (.ty T)] ρ Φ:=fun G F σ H vs I h1 Q q=>by
 obtain ⟨v,w,rfl,o1,o2⟩:=Ja h1
 cases (show w=V.ty T from o2)
 exact ⟨v,_,T,b,rfl,qND (jz I o1 hx).1,hb,qa q I h⟩
theorem qIy {k:Bool} (hx:rd ρ x=some (.bl k)) (h:Φ (.d (.int (if k then 1 else 0))) ρ):j4 (fun xs H Q=>(∃ i,xs=[.int i]/\Q (.int i) H)\/∃ k,xs=[.bl k]/\Q (.int (if k then 1 else 0)) H) [x] ρ Φ:=fun G F σ H vs I h1 Q q=>by
 obtain ⟨v,rfl,ok⟩:=jx h1
 cases JM I ok hx
 exact .inr ⟨k,rfl,QE q I h⟩
end
noncomputable def Rs.it:Rs->Option D
 | .d x=>some x
 | .o (.li xs)=>some (.lst xs)
 | _=>none
noncomputable def its:List Rs->Option (List D)
 | []=>some []
 | r::rs=>match r.it,its rs with | some d,some ds=>some (d::ds) | _,_=>none
theorem qH7 {r:Rs} {rs:List Rs} {ds:List D} (h:its (r::rs)=some ds):∃ d dt,r.it=some d/\its rs=some dt/\ds=d::dt:=by
 unfold its at h
 cases e1:r.it with
 | none=>rw [e1] at h; cases h
 | some d=>
  cases e2:its rs with
  | none=>rw [e1,e2] at h; cases h
  | some dt=>rw [e1,e2] at h; cases h; exact ⟨d,dt,rfl,rfl,rfl⟩
theorem qIY {G F H:Hp} {ρ:List Sl} {σ:St} {r:Rs} {v:V} {d:D} (I:SI G F ρ σ H) (h:jn G F ρ σ H r v) (e:r.it=some d):∃ G',qX G G'/\SI G' F ρ σ H/\Den G' d v:=by
 cases r with
 | d x=>cases e; exact ⟨G,qX.refl _,I,h⟩
 | o p=>cases p with
  | li xs=>cases e; exact I.lay h
  | di _=>cases e
  | dt _=>cases e
  | ex _=>cases e
 | b i=>cases e
 | raw w=>cases e
theorem qL1:∀{rs:List Rs} {ds:List D} {G F H:Hp} {ρ:List Sl} {σ:St} {vs:List V},SI G F ρ σ H->jy G F ρ σ H rs vs->its rs=some ds->∃ G',qX G G'/\SI G' F ρ σ H/\qY G' ds vs
 | [],ds,G,F,H,ρ,σ,vs,I,h,e=>by
  cases e
  exact ⟨G,qX.refl _,I,h⟩
 | r::rs,ds,G,F,H,ρ,σ,vs,I,h,e=>by
  obtain ⟨v,vt,rfl,ok,oks⟩:=h
  obtain ⟨d,dt,e1,e2,rfl⟩:=qH7 e
  obtain ⟨G1,g1,I1,d1⟩:=qL1 (I.held ok) oks e2
  obtain ⟨I2,ok2⟩:=SI.freed ok g1 I1
  obtain ⟨G2,g2,I3,d2⟩:=qIY I2 ok2 e1
  exact ⟨G2,g1.trans g2,I3,v,vt,rfl,d2,qY.mono g2 _ _ d1⟩
section
variable {ρ:List Sl} {Φ:Rs->List Sl->Prop} {t:TA}
theorem qMC (h:wpA t ρ fun rs ρ1=>∃ ds,its rs=some ds/\ds.length<=sizeLine/\Φ (.d (.tup ds)) ρ1):wpV (qMk t) ρ Φ:=by
 intro G F σ H I Q q
 refine h G F σ H I _ fun G1 H1 vs rs ρ1 ⟨ds,e,hl,h1⟩ g1 I1 oks=>?_
 obtain ⟨G2,g2,I2,dn⟩:=qL1 I1 oks e
 exact ⟨by rw [dn.length]; exact hl,fun p hp=>Yx (q.at (g1.trans g2) fun _ _ z=>z) I2 dn h1 hp⟩
theorem qMf (h:wpA t ρ fun rs ρ1=>∃ ds,its rs=some ds/\ds.length<=sizeLine/\Φ (.l ds) ρ1):wpV (qM2 t) ρ Φ:=by
 intro G F σ H I Q q
 refine h G F σ H I _ fun G1 H1 vs rs ρ1 ⟨ds,e,hl,h1⟩ g1 I1 oks=>?_
 obtain ⟨G2,g2,I2,dn⟩:=qL1 I1 oks e
 exact ⟨by rw [dn.length]; exact hl,fun p hp=>QQ (q.at (g1.trans g2) fun _ _ z=>z) I2 dn h1 hp⟩
end
noncomputable def qLn:D->Option Bool
 | .non=>some false | .bl b=>some b | .int i=>some (i != 0) | .tup l=>some !l.isEmpty | .lst l=>some !l.isEmpty | .str _=>none | .dic=>none
theorem qM7 {G F H:Hp} {ρ:List Sl} {σ:St} {r:Rs} {v:V} {d:D} {k:Bool} {K:wJ} (I:SI G F ρ σ H) (h:jn G F ρ σ H r v) (e:rd ρ r=some d) (t:qLn d=some k):qLb K v H k:=by
 cases d with
 | non=>cases qG8 I h e; cases t; exact rfl
 | bl b=>cases JM I h e; cases t; exact rfl
 | int i=>cases qZ I h e; cases t; exact rfl
 | str s=>cases t
 | dic=>cases t
 | tup l=>
  cases t
  obtain ⟨a,ws,rfl,s1,d1⟩:=jP I h e
  refine .inr (.inl ⟨ws,SqT.of (I.g _ _ s1),?_⟩)
  have:=d1.length
  cases ws <;> cases l <;> first | rfl | cases this
 | lst l=>
  cases t
  obtain ⟨a,ws,rfl,s1,d1⟩:=QA (K:=K) I h e
  refine .inl ⟨ws,s1,?_⟩
  have:=d1.length
  cases ws <;> cases l <;> first | rfl | cases this
section
variable {ρ:List Sl} {Φ:Rs->List Sl->Prop} {Ψ:Bool->List Sl->Prop} {ta tb:TE} {t u:TT} {K:wJ}
theorem qFv (h:wpV ta ρ fun r ρ1=>∃ b,rd ρ1 r=some (.bl b)/\Ψ b ρ1):wpT (qKa ta) ρ Ψ:=by
 intro G F σ H I Q q
 refine h G F σ H I _ fun G1 H1 v r ρ1 ⟨b,e,h1⟩ g1 I1 ok1=>?_
 exact ⟨b,JM I1 ok1 e,q G1 H1 b ρ1 h1 g1 I1⟩
theorem qL0 (h:wpV ta ρ fun r ρ1=>∃ d b,rd ρ1 r=some d/\qLn d=some b/\Ψ b ρ1):wpT (qMt K ta) ρ Ψ:=by
 intro G F σ H I Q q
 refine h G F σ H I _ fun G1 H1 v r ρ1 ⟨d,b,e,e2,h1⟩ g1 I1 ok1=>?_
 exact ⟨b,qM7 I1 ok1 e e2,q G1 H1 b ρ1 h1 g1 I1⟩
theorem jN (h:Ψ true ρ):wpT qLY ρ Ψ:=fun G F σ H I Q q=>q G H true ρ h (qX.refl _) I
theorem qIC (h:wpT t ρ fun b ρ1=>if b=true then wpT u ρ1 Ψ else Ψ false ρ1):wpT (qML t u) ρ Ψ:=by
 intro G F σ H I Q q
 refine h G F σ H I _ fun G1 H1 b ρ1 h1 g1 I1=>?_
 cases b with
 | true=>exact (by simpa using h1:wpT u ρ1 Ψ) G1 F σ H1 I1 Q fun G2 H2 b ρ2 h2 g2 I2=>q G2 H2 b ρ2 h2 (g1.trans g2) I2
 | false=>exact q G1 H1 false ρ1 (by simpa using h1) g1 I1
theorem Y8 (h:wpT t ρ fun b ρ1=>if b=true then Ψ true ρ1 else wpT u ρ1 Ψ):wpT (tOr t u) ρ Ψ:=by
 intro G F σ H I Q q
 refine h G F σ H I _ fun G1 H1 b ρ1 h1 g1 I1=>?_
 cases b with
 | true=>exact q G1 H1 true ρ1 (by simpa using h1) g1 I1
 | false=>exact (by simpa using h1:wpT u ρ1 Ψ) G1 F σ H1 I1 Q fun G2 H2 b ρ2 h2 g2 I2=>q G2 H2 b ρ2 h2 (g1.trans g2) I2
theorem qMD (h:wpT t ρ fun b ρ1=>Ψ (!b) ρ1):wpT (qMv t) ρ Ψ:=by
 intro G F σ H I Q q
 exact h G F σ H I _ fun G1 H1 b ρ1 h1 g1 I1=>q G1 H1 (!b) ρ1 h1 g1 I1
theorem wpT.mono {Ψ':Bool->List Sl->Prop} (h:wpT t ρ Ψ) (e:∀ b ρ',Ψ b ρ'->Ψ' b ρ'):wpT t ρ Ψ':=fun G F σ H I Q q=>h G F σ H I Q fun G1 H1 b ρ1 h1 g1 I1=>q G1 H1 b ρ1 (e _ _ h1) g1 I1
theorem qIb {b c:Bool} (h1:wpT t ρ fun x ρ1=>x=b/\ρ1=ρ) (h2:b=true->wpT u ρ fun x ρ1=>x=c/\ρ1=ρ) (h:Ψ (b && c) ρ):wpT (qML t u) ρ Ψ:=by
 refine qIC (h1.mono ?_)
 rintro x ρ1 ⟨rfl,rfl⟩
 cases x with
 | true=>rw [if_pos rfl]; exact (h2 rfl).mono fun x ρ1 ⟨e1,e2⟩=>by subst e1 e2; exact h
 | false=>exact h
theorem qKl {b c:Bool} (h1:wpT t ρ fun x ρ1=>x=b/\ρ1=ρ) (h2:b=false->wpT u ρ fun x ρ1=>x=c/\ρ1=ρ) (h:Ψ (b || c) ρ):wpT (tOr t u) ρ Ψ:=by
 refine Y8 (h1.mono ?_)
 rintro x ρ1 ⟨rfl,rfl⟩
 cases x with
 | true=>exact h
 | false=>exact (h2 rfl).mono fun x ρ1 ⟨e1,e2⟩=>by subst e1 e2; exact h
theorem v_and (h:wpV ta ρ fun r ρ1=>∃ b,rd ρ1 r=some (.bl b)/\if b=true then wpV tb ρ1 Φ else Φ (.d (.bl false)) ρ1):wpV (qJb ta tb) ρ Φ:=by
 intro G F σ H I Q q
 refine h G F σ H I _ fun G1 H1 v r ρ1 ⟨b,e,h1⟩ g1 I1 ok1=>?_
 refine ⟨b,JM I1 ok1 e,?_⟩
 cases b with
 | true=>exact (by simpa using h1:wpV tb ρ1 Φ) G1 F σ H1 I1 Q (q.at g1 fun _ _ z=>z)
 | false=>exact q G1 H1 _ (.d (.bl false)) ρ1 (by simpa using h1) g1 I1 rfl
theorem v_or (h:wpV ta ρ fun r ρ1=>∃ b,rd ρ1 r=some (.bl b)/\if b=true then Φ (.d (.bl true)) ρ1 else wpV tb ρ1 Φ):wpV (qMH ta tb) ρ Φ:=by
 intro G F σ H I Q q
 refine h G F σ H I _ fun G1 H1 v r ρ1 ⟨b,e,h1⟩ g1 I1 ok1=>?_
 refine ⟨b,JM I1 ok1 e,?_⟩
 cases b with
 | true=>exact q G1 H1 _ (.d (.bl true)) ρ1 (by simpa using h1) g1 I1 rfl
 | false=>exact (by simpa using h1:wpV tb ρ1 Φ) G1 F σ H1 I1 Q (q.at g1 fun _ _ z=>z)
theorem qKT {b c:Bool} (h1:wpV ta ρ fun x ρ1=>x=.d (.bl b)/\ρ1=ρ) (h2:b=true->wpV tb ρ fun x ρ1=>x=.d (.bl c)/\ρ1=ρ) (h:Φ (.d (.bl (b && c))) ρ):wpV (qJb ta tb) ρ Φ:=by
 refine v_and (h1.mono ?_)
 rintro x ρ1 ⟨rfl,rfl⟩
 refine ⟨b,rfl,?_⟩
 cases b with
 | true=>rw [if_pos rfl]; exact (h2 rfl).mono fun x ρ1 ⟨e1,e2⟩=>by subst e1 e2; exact h
 | false=>exact h
theorem qJY {b c:Bool} (h1:wpV ta ρ fun x ρ1=>x=.d (.bl b)/\ρ1=ρ) (h2:b=false->wpV tb ρ fun x ρ1=>x=.d (.bl c)/\ρ1=ρ) (h:Φ (.d (.bl (b || c))) ρ):wpV (qMH ta tb) ρ Φ:=by
 refine v_or (h1.mono ?_)
 rintro x ρ1 ⟨rfl,rfl⟩
 refine ⟨b,rfl,?_⟩
 cases b with
 | true=>exact h
 | false=>exact (h2 rfl).mono fun x ρ1 ⟨e1,e2⟩=>by subst e1 e2; exact h
theorem v_not (h:wpV ta ρ fun r ρ1=>∃ d b,rd ρ1 r=some d/\qLn d=some b/\Φ (.d (.bl (!b))) ρ1):wpV (qJU ta K) ρ Φ:=by
 intro G F σ H I Q q
 refine h G F σ H I _ fun G1 H1 v r ρ1 ⟨d,b,e,e2,h1⟩ g1 I1 ok1=>?_
 exact ⟨b,qM7 I1 ok1 e e2,q G1 H1 _ _ ρ1 h1 g1 I1 (show Den G1 (.bl (!b)) (.bl (!b)) from rfl)⟩
theorem qMc (h:wpT t ρ fun b ρ1=>if b=true then wpV ta ρ1 Φ else wpV tb ρ1 Φ):wpV (tIf t ta tb) ρ Φ:=by
 intro G F σ H I Q q
 refine h G F σ H I _ fun G1 H1 b ρ1 h1 g1 I1=>?_
 cases b with
 | true=>exact (by simpa using h1:wpV ta ρ1 Φ) G1 F σ H1 I1 Q (q.at g1 fun _ _ z=>z)
 | false=>exact (by simpa using h1:wpV tb ρ1 Φ) G1 F σ H1 I1 Q (q.at g1 fun _ _ z=>z)
end
structure VE where
 nx:List Sl->Prop
 rt:Rs->List Sl->Prop
 bk:List Sl->Prop:=fun _=>False
 ct:List Sl->Prop:=fun _=>False
noncomputable def Kp (B:List Nat) (σ σ':St):Prop:=∀ i∈B,σ'[i]? = σ[i]?
theorem Kp.refl (B:List Nat) (σ:St):Kp B σ σ:=fun _ _=>rfl
theorem Kp.trans {B:List Nat} {σ σ1 σ2:St} (a:Kp B σ σ1) (b:Kp B σ1 σ2):Kp B σ σ2:=fun i hi=>(b i hi).trans (a i hi)
noncomputable def NX (B:List Nat) (G F:Hp) (σ:St) (Ψ:List Sl->Prop) (N:St->Hp->Prop):Prop:=∀ G' σ' H' ρ',Ψ ρ'->qX G G'->Kp B σ σ'->SI G' F ρ' σ' H'->N σ' H'
noncomputable def RT (B:List Nat) (G F:Hp) (σ:St) (Ψ:Rs->List Sl->Prop) (N:VK):Prop:=∀ G' σ' H' ρ' r v,Ψ r ρ'->qX G G'->Kp B σ σ'->SI G' F ρ' σ' H'->jn G' F ρ' σ' H' r v->N v H'
theorem NX.at {B:List Nat} {G F:Hp} {σ:St} {Ψ:List Sl->Prop} {N:St->Hp->Prop} (h:NX B G F σ Ψ N) {G':Hp} {σ':St} (g:qX G G') (k:Kp B σ σ'):NX B G' F σ' Ψ N:=fun G2 σ2 H2 ρ2 p g2 k2 I=>h G2 σ2 H2 ρ2 p (g.trans g2) (k.trans k2) I
theorem RT.at {B:List Nat} {G F:Hp} {σ:St} {Ψ:Rs->List Sl->Prop} {N:VK} (h:RT B G F σ Ψ N) {G':Hp} {σ':St} (g:qX G G') (k:Kp B σ σ'):RT B G' F σ' Ψ N:=fun G2 σ2 H2 ρ2 r v p g2 k2 I ok=>h G2 σ2 H2 ρ2 r v p (g.trans g2) (k.trans k2) I ok
noncomputable def wpS (B:List Nat) (ts:TS) (ρ:List Sl) (Ψ:VE):Prop:=∀ G F σ H,SI G F ρ σ H->∀ D:Ends,NX B G F σ Ψ.nx D.nx->RT B G F σ Ψ.rt D.rt->NX B G F σ Ψ.bk D.bk->NX B G F σ Ψ.ct D.ct->ts D σ H
noncomputable def wpG (B:List Nat) (g:TG) (r:Rs) (ρ:List Sl) (Φ:List Sl->Prop):Prop:=∀ G F σ H v,SI G F ρ σ H->jn G F ρ σ H r v->∀ N:St->Hp->Prop,NX B G F σ Φ N->g v σ H N
noncomputable def qLo (B:List Nat) (g:TGs) (ds:List D) (ρ:List Sl) (Φ:List Sl->Prop):Prop:=∀ G F σ H vs,SI G F ρ σ H->qY G ds vs->∀ N:St->Hp->Prop,NX B G F σ Φ N->g vs σ H N
section
variable {B:List Nat} {ρ:List Sl} {Ψ:VE} {t u:TS} {te:TE} {c:TT}
theorem Yb (h:wpS B t ρ { Ψ with nx:=fun ρ1=>wpS B u ρ1 Ψ }):wpS B (j9 t u) ρ Ψ:=by
 intro G F σ H I D n r b ct
 refine h G F σ H I _ ?_ r b ct
 intro G1 σ1 H1 ρ1 h1 g1 k1 I1
 exact h1 G1 F σ1 H1 I1 D (n.at g1 k1) (r.at g1 k1) (b.at g1 k1) (ct.at g1 k1)
theorem qg (h:Ψ.nx ρ):wpS B qKG ρ Ψ:=fun G F σ H I D n r b ct=>n G σ H ρ h (qX.refl _) (Kp.refl _ _) I
theorem qLN (h:wpV te ρ fun _ ρ1=>Ψ.nx ρ1):wpS B (qKc te) ρ Ψ:=fun G F σ H I D n r b ct=>
 h G F σ H I _ fun G1 H1 v x ρ1 h1 g1 I1 _=>n G1 σ H1 ρ1 h1 g1 (Kp.refl _ _) I1
theorem qCE (h:wpV te ρ fun r ρ1=>Ψ.rt r ρ1):wpS B (qLy te) ρ Ψ:=fun G F σ H I D n r b ct=>
 h G F σ H I _ fun G1 H1 v x ρ1 h1 g1 I1 ok=>r G1 σ H1 ρ1 x v h1 g1 (Kp.refl _ _) I1 ok
theorem SI.forget {G F H:Hp} {ρ:List Sl} {σ:St} (I:SI G F ρ σ H) (i:Nat):SI G F (ρ.set i .u) σ H:=by
 have w:∀(n:Nat) (s:Sl),(ρ.set i .u)[n]? = some s->s=.u\/ρ[n]? = some s:=fun n s h=>by
  rw [zL] at h
  by_cases z:i=n
  ·rw [if_pos z] at h
   by_cases q:i<ρ.length
   ·rw [if_pos q] at h; cases h; exact .inl rfl
   ·rw [if_neg q] at h; cases h
  ·rw [if_neg z] at h; exact .inr h
 have w2:∀(n:Nat) (xs:Pl),(ρ.set i .u)[n]? = some (.o xs)->ρ[n]? = some (.o xs):=fun n xs h=>(w n _ h).resolve_left (fun z=>by cases z)
 refine ⟨fun j s e=>?_,I.g,I.f,I.gf,fun j k a xs ys h1 h2=>I.nd j k a xs ys (w2 _ _ h1) (w2 _ _ h2),fun a ⟨j,xs,h1,h2⟩=>I.out a ⟨j,xs,w2 _ _ h1,h2⟩,I.ft⟩
 by_cases z:i=j
 ·subst z
  have q:i<ρ.length:=by
   have:=(wI.mp e).1
   simpa using this
  obtain ⟨o,e1,_⟩:=I.ok i ρ[i] (wA q)
  rw [zL,if_pos rfl,if_pos q] at e
  cases e
  exact ⟨o,e1,trivial⟩
 ·rw [zL,if_neg z] at e
  exact I.ok j s e
theorem jn.move {G F H:Hp} {ρ:List Sl} {σ:St} {i:Nat} {xs:Pl} {v:V} (I:SI G F ρ σ H) (hi:ρ[i]? = some (.o xs)) (h:σ[i]? = some (some v)):jn G F (ρ.set i .u) σ H (.o xs) v:=by
 obtain ⟨o,e,a,vs,z,h1,h2⟩:=I.ok i _ hi
 rw [h] at e
 cases e
 cases z
 have oa:=I.out a ⟨i,xs,hi,h⟩
 refine ⟨a,vs,rfl,h1,h2,oa.1,oa.2,?_⟩
 rintro ⟨j,ys,e1,e2⟩
 rw [zL] at e1
 by_cases q:i=j
 ·rw [if_pos q] at e1
  by_cases q2:i<ρ.length
  ·rw [if_pos q2] at e1; cases e1
  ·rw [if_neg q2] at e1; cases e1
 ·rw [if_neg q] at e1
  exact q (I.nd i j a xs ys hi e1 h e2)
theorem qJe {i:Nat} {xs:List D} (hi:ρ[i]? = some (.l xs)) (h:Ψ.rt (.l xs) (ρ.set i .u)):wpS B (qLy (qIn i)) ρ Ψ:=fun G F σ H I D n r b ct=>by
 obtain ⟨o,e,a,vs,z,h1,h2⟩:=I.ok i _ hi
 subst z
 exact ⟨_,e,r G σ H _ _ _ h (qX.refl _) (Kp.refl _ _) (I.forget i) (jn.move I hi e)⟩
theorem JO (h:wpT c ρ fun b ρ1=>if b=true then wpS B t ρ1 Ψ else wpS B u ρ1 Ψ):wpS B (qM5 c t u) ρ Ψ:=by
 intro G F σ H I D n r b ct
 refine h G F σ H I _ fun G1 H1 x ρ1 h1 g1 I1=>?_
 cases x with
 | true=>exact (by simpa using h1:wpS B t ρ1 Ψ) G1 F σ H1 I1 D (n.at g1 (Kp.refl _ _)) (r.at g1 (Kp.refl _ _)) (b.at g1 (Kp.refl _ _)) (ct.at g1 (Kp.refl _ _))
 | false=>exact (by simpa using h1:wpS B u ρ1 Ψ) G1 F σ H1 I1 D (n.at g1 (Kp.refl _ _)) (r.at g1 (Kp.refl _ _)) (b.at g1 (Kp.refl _ _)) (ct.at g1 (Kp.refl _ _))
theorem Yn {g:TG} (h:wpV te ρ fun r ρ1=>wpG B g r ρ1 Ψ.nx):wpS B (qIo te g) ρ Ψ:=by
 intro G F σ H I D n r b ct
 refine h G F σ H I _ fun G1 H1 v x ρ1 h1 g1 I1 ok=>?_
 exact h1 G1 F σ H1 v I1 ok _ (n.at g1 (Kp.refl _ _))
theorem qm {i:Nat} {r:Rs} {Φ:List Sl->Prop} (hi:B.contains i=false) (h:Φ (ρ.set i r.sl)):wpG B (qA9 i) r ρ Φ:=by
 intro G F σ H v I ok N n
 refine n G _ H _ h (qX.refl _) (fun j hj=>?_) (I.asg (i:=i) ok)
 rw [zL,if_neg]
 intro z; subst z
 rw [xV,decide_eq_false_iff_not] at hi
 exact hi hj
theorem qK4 {Φ:List Sl->Prop} (h:Φ ρ):qLo B qMu [] ρ Φ:=fun G F σ H vs I d N n=>⟨d,n G σ H ρ h (qX.refl _) (Kp.refl _ _) I⟩
theorem qJq {g:TG} {gs:TGs} {x:D} {ds:List D} {Φ:List Sl->Prop} (h:wpG B g (.d x) ρ fun ρ1=>qLo B gs ds ρ1 Φ):qLo B (qLZ g gs) (x::ds) ρ Φ:=by
 intro G F σ H vs I d N n
 obtain ⟨v,r,rfl,d1,d2⟩:=d
 refine ⟨v,r,rfl,h G F σ H v I d1 _ ?_⟩
 intro G1 σ1 H1 ρ1 h1 g1 k1 I1
 exact h1 G1 F σ1 H1 r I1 (qY.mono g1 _ _ d2) N (n.at g1 k1)
theorem qJ8 {K:wJ} {k:Nat} {gs:TGs} {r:Rs} {ds:List D} {Φ:List Sl->Prop} (e:rd ρ r=some (.tup ds)) (hk:ds.length=k) (h:qLo B gs ds ρ Φ):wpG B (qMR K k gs) r ρ Φ:=by
 intro G F σ H v I ok N n
 obtain ⟨a,vs,rfl,h1,h2⟩:=jP I ok e
 exact ⟨a,vs,rfl,SqT.of (I.g _ _ h1),by rw [h2.length]; exact hk,h G F σ H vs I h2 N n⟩
theorem qDZ {H:Hp}:∀{xs:List D} {vs:List V} {d:D} {v:V} (j:Nat),qY H xs vs->Den H d v->qY H (xs.set j d) (vs.set j v)
 | [],vs,d,v,j,h,g=>by cases (show vs=[] from h); exact rfl
 | x::xs,vs,d,v,0,h,g=>by
  obtain ⟨w,r,rfl,h1,h2⟩:=h
  exact ⟨v,r,rfl,g,h2⟩
 | x::xs,vs,d,v,j+1,h,g=>by
  obtain ⟨w,r,rfl,h1,h2⟩:=h
  exact ⟨w,r.set j v,rfl,h1,qDZ j h2 g⟩
theorem qLC {i:Nat} {k:Int->Int->Int} {n:Int} (hB:B.contains i=false) (hi:ρ[i]? = some (.d (.int n))) (h:wpV te ρ fun r ρ1=>∃ m,rd ρ1 r=some (.int m)/\Ψ.nx (ρ1.set i (.d (.int (k n m))))):wpS B (qMz i te (rI0 fun i j=>.int (k i j))) ρ Ψ:=by
 intro G F σ H I D nx r b ct
 obtain ⟨o,e,v,rfl,dv⟩:=I.ok i _ hi
 refine ⟨v,e,h G F σ H I _ fun G1 H1 w x ρ1 ⟨m,e1,h1⟩ g1 I1 ok=>⟨n,m,dv,qZ I1 ok e1,?_⟩⟩
 refine nx G1 _ H1 _ h1 g1 (fun j hj=>?_) (I1.asg (i:=i) (r:=.d (.int (k n m))) (show Den G1 (.int (k n m)) _ from rfl))
 rw [zL,if_neg]
 intro z; subst z
 rw [xV,decide_eq_false_iff_not] at hB
 exact hB hj
theorem qAx (Jv:Nat->List Sl->Prop) (m0:Nat) (h0:Jv m0 ρ) {tb:TS}
  (h:∀ m ρ,Jv m ρ->wpT c ρ fun b ρ1=>if b=true then wpS B tb ρ1 { nx:=fun ρ'=>∃ m',m'<m/\Jv m' ρ',ct:=fun ρ'=>∃ m',m'<m/\Jv m' ρ',bk:=Ψ.nx,rt:=Ψ.rt } else Ψ.nx ρ1):wpS B (J8 c tb) ρ Ψ:=by
 intro G F σ H I D n r b ct
 refine ⟨fun m σ' H'=>∃ G' ρ',Jv m ρ'/\qX G G'/\Kp B σ σ'/\SI G' F ρ' σ' H',⟨m0,G,ρ,h0,qX.refl _,Kp.refl _ _,I⟩,?_⟩
 rintro m σ1 H1 ⟨G1,ρ1,hI,g1,k1,I1⟩
 refine h m ρ1 hI G1 F σ1 H1 I1 _ fun G2 H2 x ρ2 h2 g2 I2=>?_
 cases x with
 | true=>
  refine ⟨fun σ' H'=>∃ m',m'<m/\∃ G' ρ',Jv m' ρ'/\qX G G'/\Kp B σ σ'/\SI G' F ρ' σ' H',fun σ' H' z=>z,?_⟩
  rw [if_pos rfl] at h2
  refine h2 G2 F σ1 H2 I2 _ ?_ (r.at (g1.trans g2) k1) ?_ ?_
  ·exact fun G3 σ3 H3 ρ3 ⟨m',l,p⟩ g3 k3 I3=>⟨m',l,G3,ρ3,p,(g1.trans g2).trans g3,k1.trans k3,I3⟩
  ·exact n.at (g1.trans g2) k1
  ·exact fun G3 σ3 H3 ρ3 ⟨m',l,p⟩ g3 k3 I3=>⟨m',l,G3,ρ3,p,(g1.trans g2).trans g3,k1.trans k3,I3⟩
 | false=>exact n.at (g1.trans g2) k1 G2 σ1 H2 ρ2 (by simpa using h2) (qX.refl _) (Kp.refl _ _) I2
noncomputable def sq:D->Option (List D)
 | .tup l=>some l
 | .lst l=>some l
 | _=>none
end
section
variable {ρ:List Sl} {Φ:Rs->List Sl->Prop} {K:wJ} {t:TA} {i:Nat} {xs:List D}
theorem qNO {T:String} {r:V->List V->Hp->VK->Prop} {to:TE} (h:wpV to ρ fun o ρ1=>(T = "list"/\∃ xs,rd ρ1 o=some (.lst xs))/\wpA t ρ1 fun rs ρ2=>j4 (fun vs H Q=>∃ v vt,vs=v::vt/\r v vt H Q) (o::rs) ρ2 Φ):wpV (tBM K T r to t) ρ Φ:=by
 intro G F σ H I Q q
 refine h G F σ H I _ fun G1 H1 v o ρ1 ⟨⟨eT,xs,hx⟩,h1⟩ g1 I1 ok1=>?_
 obtain ⟨a,ws,rfl,s1,d1⟩:=QA (K:=K) I1 ok1 hx
 refine ⟨.inl ⟨eT,ws,s1⟩,?_⟩
 refine h1 G1 (hold o (.ref a) H1 F) σ H1 (I1.held ok1) _ fun G2 H2 vs rs ρ2 h2 g2 I2 oks=>?_
 obtain ⟨I3,ok3⟩:=jy.cons ok1 g2 I2 oks
 obtain ⟨v,vt,e,z⟩:=h2 G2 F σ H2 (.ref a::vs) I3 ok3 Q (q.at (g1.trans g2) fun _ _ p=>p)
 cases e
 exact z
theorem qFT {G F H:Hp} {σ:St} {v:V} (I:SI G F ρ σ H) (hi:ρ[i]? = some (.l xs)) (ok:jn G F ρ σ H (.b i) v):∃ a vs,v=.ref a/\σ[i]? = some (some (.ref a))/\H a=some (.lst vs)/\qY G xs vs:=by
 obtain ⟨o,e,a,_,z,h1,vs,rfl,h2⟩:=I.ok i _ hi
 have ok':σ[i]? = some (some v):=ok
 rw [ok'] at e
 cases e
 cases z
 exact ⟨a,vs,rfl,ok',h1,h2⟩
theorem qHt {r:Rs} {d:D} (hi:ρ[i]? = some (.l xs)) (hr:r.it=some d) (hz:xs.length<sizeLine) (h:Φ (.d .non) (ρ.set i (.l (xs++[d])))):j4 (fun vs H Q=>∃ v vt,vs=v::vt/\qEz v vt H Q) [.b i,r] ρ Φ:=by
 intro G F σ H vs I oks Q q
 obtain ⟨v,w,rfl,o1,o2⟩:=Ja oks
 obtain ⟨G1,g1,I1,dn⟩:=qIY I o2 hr
 obtain ⟨a,us,rfl,e1,h1,h2⟩:=qFT I1 hi o1
 refine ⟨_,_,rfl,a,us,w,rfl,rfl,h1,by rw [h2.length]; exact hz,?_⟩
 exact q G1 _ .non (.d .non) _ h g1 (I1.put hi e1 (h2.snoc dn)) rfl
theorem qAp {r:Rs} {ys:List D} (hi:ρ[i]? = some (.l xs)) (hr:rdE ρ r=some (.lst ys)) (hz:xs.length+ys.length<=sizeLine) (h:Φ (.d .non) (ρ.set i (.l (xs++ys)))):j4 (fun vs H Q=>∃ v vt,vs=v::vt/\qFO v vt H Q) [.b i,r] ρ Φ:=by
 intro G F σ H vs I oks Q q
 obtain ⟨v,w,rfl,o1,o2⟩:=Ja oks
 obtain ⟨a,us,rfl,e1,h1,h2⟩:=qFT I hi o1
 obtain ⟨b,ws,rfl,h3,h4⟩:=(jz I o2 hr).2.2 _ rfl
 refine ⟨_,_,rfl,a,b,us,ws,rfl,rfl,h1,h3,by rw [h2.length,h4.length]; exact hz,?_⟩
 exact q G _ .non (.d .non) _ h (qX.refl _) (I.put hi e1 (h2.append h4)) rfl
theorem qAG {H:Hp}:∀{xs:List D} {vs:List V} (j:Nat),qY H xs vs->qY H (xs.eraseIdx j) (vs.eraseIdx j)
 | [],vs,j,h=>by cases (show vs=[] from h); exact rfl
 | x::xs,vs,0,h=>by
  obtain ⟨w,r,rfl,h1,h2⟩:=h
  exact h2
 | x::xs,vs,j+1,h=>by
  obtain ⟨w,r,rfl,h1,h2⟩:=h
  exact ⟨w,r.eraseIdx j,rfl,h1,qAG j h2⟩
theorem qGP {r:Rs} {k:Nat} {d:D} (hi:ρ[i]? = some (.l xs)) (hr:rd ρ r=some (.int k)) (hk:xs[k]? = some d) (hz:xs.length<2 ^ 62) (h:Φ (.d d) (ρ.set i (.l (xs.eraseIdx k)))):j4 (fun vs H Q=>∃ v vt,vs=v::vt/\qIe v vt H Q) [.b i,r] ρ Φ:=by
 intro G F σ H vs I oks Q q
 obtain ⟨v,w,rfl,o1,o2⟩:=Ja oks
 obtain ⟨a,us,rfl,e1,h1,h2⟩:=qFT I hi o1
 cases qZ I o2 hr
 obtain ⟨x,hx,dx⟩:=h2.get' hk
 have hkl:k<xs.length:=(wI.mp hk).1
 have hl:=h2.length
 refine ⟨_,_,rfl,a,us,k,k,x,rfl,rfl,h1,by omega,by omega,?_,hx,?_⟩
 ·have z:=(qCo (n:=us.length) (i:=(k:Int)) (j:=k) (by unfold ixN; rw [if_pos (by omega),if_pos (by omega)]; simp)).1
  exact z
 ·exact q G _ x (.d d) _ h (qX.refl _) (I.put hi e1 (qAG k h2)) dx
end
end L4
namespace L2
open PySem PySem.Spec PyProof.Rows
end L2
namespace L4
open PySem L2
variable {ρ:List Sl} {Φ:Rs->List Sl->Prop} {K:wJ}
noncomputable def qHV (ρ:List Sl):Rs->Sl
 | .d x=>.d x
 | .o xs=>.o xs
 | .b i=>(ρ[i]?).getD .u
 | .raw _=>.u
noncomputable def isB:List Rs->List Nat
 | []=>[]
 | .b i::rs=>i::isB rs
 | _::rs=>isB rs
theorem JL {i:Nat}:∀{rs:List Rs},i∈isB rs↔Rs.b i∈rs
 | []=>by simp [isB]
 | .b j::rs=>by
  have ih:=JL (i:=i) (rs:=rs)
  simp only [isB,wM,ih,Rs.b.injEq]
 | .d x::rs=>by
  have ih:=JL (i:=i) (rs:=rs)
  simp only [isB,wM,ih]
  exact ⟨.inr,fun h=>h.resolve_left (fun z=>by cases z)⟩
 | .o x::rs=>by
  have ih:=JL (i:=i) (rs:=rs)
  simp only [isB,wM,ih]
  exact ⟨.inr,fun h=>h.resolve_left (fun z=>by cases z)⟩
 | .raw x::rs=>by
  have ih:=JL (i:=i) (rs:=rs)
  simp only [isB,wM,ih]
  exact ⟨.inr,fun h=>h.resolve_left (fun z=>by cases z)⟩
theorem qFf {i:Nat}:∀{rs:List Rs} {j k:Nat},(isB rs).Nodup->rs[j]? = some (.b i)->rs[k]? = some (.b i)->j=k
 | [],j,k,n,h1,h2=>by simp at h1
 | r::rs,j,k,n,h1,h2=>by
  have nt:(isB rs).Nodup:=by
   cases r with
   | b i=>exact (zI.mp n).2
   | d x=>exact n
   | o x=>exact n
   | raw x=>exact n
  cases j with
  | zero=>
   cases k with
   | zero=>rfl
   | succ k=>
    simp at h1 h2
    subst h1
    exact absurd (JL.mpr (vN h2)) (zI.mp n).1
  | succ j=>
   cases k with
   | zero=>
    simp at h1 h2
    subst h2
    exact absurd (JL.mpr (vN h1)) (zI.mp n).1
   | succ k=>exact congrArg (· + 1) (qFf nt (by simpa using h1:rs[j]? = some (.b i)) (by simpa using h2:rs[k]? = some (.b i)))
noncomputable def kept (ρ:List Sl) (σ:St) (rs:List Rs) (a:Addr):Prop:=∃(i:Nat) (xs:Pl),ρ[i]? = some (Sl.o xs)/\σ[i]? = some (some (V.ref a))/\Rs.b i∉rs
open Classical in
noncomputable def foc (H F:Hp) (ρ:List Sl) (σ:St) (rs:List Rs):Hp:=fun a=>if kept ρ σ rs a then H a else F a
noncomputable def wb (ρ:List Sl):List Rs->List Sl->List Sl
 | [],_=>ρ
 | .b i::rs,as=>match ρ[i]? with
  | some (.o _)=>wb (ρ.set i (as.headD .u)) rs as.tail
  | _=>wb ρ rs as.tail
 | _::rs,as=>wb ρ rs as.tail
theorem qDO {i:Nat} {s:Sl}:∀{rs:List Rs} {ρ as:List Sl},(wb ρ rs as)[i]? = some s->(∃ j:Nat,rs[j]? = some (Rs.b i)/\(as[j]? = some s\/s=.u))\/(ρ[i]? = some s/\((∃ xs,s=.o xs)->Rs.b i∉rs))
 | [],ρ,as,h=>.inr ⟨h,fun _=>wY⟩
 | r::rs,ρ,as,h=>by
  have tl:∀ j:Nat,as.tail[j]? = as[j+1]?:=fun j=>by cases as <;> simp
  have go:∀ ρ':List Sl,(wb ρ' rs as.tail)[i]? = some s->(∃ j:Nat,(r::rs)[j]? = some (Rs.b i)/\(as[j]? = some s\/s=.u))\/(ρ'[i]? = some s/\((∃ xs,s=.o xs)->Rs.b i∉rs)):=fun ρ' h=>by
   rcases qDO h with ⟨j,h1,h2⟩ | h1
   ·exact .inl ⟨j+1,by simpa using h1,by rw [<- tl]; exact h2⟩
   ·exact .inr h1
  cases r with
  | b k=>
   unfold wb at h
   cases e:ρ[k]? with
   | none=>
    simp only [e] at h
    rcases go ρ h with q | ⟨q1,q2⟩
    ·exact .inl q
    ·refine .inr ⟨q1,fun z m=>?_⟩
     rcases wM.mp m with m | m
     ·cases m; rw [e] at q1; cases q1
     ·exact q2 z m
   | some s'=>
    cases s' with
    | o ys=>
     simp only [e] at h
     rcases go _ h with q | ⟨q1,q2⟩
     ·exact .inl q
     ·by_cases z:k=i
      ·subst z
       rw [zL,if_pos rfl,if_pos (wI.mp e).1] at q1
       cases as with
       | nil=>exact .inl ⟨0,rfl,.inr (zQ q1).symm⟩
       | cons s0 as'=>exact .inl ⟨0,rfl,.inl q1⟩
      ·rw [zL,if_neg z] at q1
       refine .inr ⟨q1,fun z' m=>?_⟩
       rcases wM.mp m with m | m
       ·cases m; exact z rfl
       ·exact q2 z' m
    | _=>
     simp only [e] at h
     rcases go ρ h with q | ⟨q1,q2⟩
     ·exact .inl q
     ·refine .inr ⟨q1,fun z m=>?_⟩
      rcases wM.mp m with m | m
      ·cases m
       obtain ⟨xs,z⟩:=z
       rw [z,e] at q1
       cases q1
      ·exact q2 z m
  | d x=>
   rcases go ρ h with q | ⟨q1,q2⟩
   ·exact .inl q
   ·exact .inr ⟨q1,fun z m=>q2 z ((wM.mp m).resolve_left fun z=>by cases z)⟩
  | o x=>
   rcases go ρ h with q | ⟨q1,q2⟩
   ·exact .inl q
   ·exact .inr ⟨q1,fun z m=>q2 z ((wM.mp m).resolve_left fun z=>by cases z)⟩
  | raw x=>
   rcases go ρ h with q | ⟨q1,q2⟩
   ·exact .inl q
   ·exact .inr ⟨q1,fun z m=>q2 z ((wM.mp m).resolve_left fun z=>by cases z)⟩
section
variable {G F H:Hp} {ρ:List Sl} {σ:St}
theorem jy.get:∀{rs:List Rs} {F:Hp} {vs:List V} {j:Nat} {v:V},jy G F ρ σ H rs vs->vs[j]? = some v->∃ r,rs[j]? = some r/\jn G F ρ σ H r v
 | [],F,vs,j,v,h,e=>by cases (show vs=[] from h); simp at e
 | r::rs,F,vs,j,v,h,e=>by
  obtain ⟨w,vt,rfl,ok,oks⟩:=h
  cases j with
  | zero=>simp at e; subst e; exact ⟨r,rfl,ok⟩
  | succ j=>
   obtain ⟨r',h1,h2⟩:=jy.get oks (by simpa using e:vt[j]? = some v)
   exact ⟨r',by simpa using h1,h2.weak (Ys r w ok)⟩
theorem jy.len:∀{rs:List Rs} {F:Hp} {vs:List V},jy G F ρ σ H rs vs->vs.length=rs.length
 | [],F,vs,h=>by cases (show vs=[] from h); rfl
 | r::rs,F,vs,h=>by
  obtain ⟨w,vt,rfl,ok,oks⟩:=h
  rw [yG,yG,oks.len]
theorem jy.apart:∀{rs:List Rs} {F:Hp} {vs:List V} {j k:Nat} {a:Addr} {xs ys:Pl},jy G F ρ σ H rs vs->rs[j]? = some (.o xs)->rs[k]? = some (.o ys)->vs[j]? = some (.ref a)->vs[k]? = some (.ref a)->j=k
 | [],F,vs,j,k,a,xs,ys,h,h1,_,_,_=>by simp at h1
 | r::rs,F,vs,j,k,a,xs,ys,h,h1,h2,h3,h4=>by
  obtain ⟨w,vt,rfl,ok,oks⟩:=h
  have no:∀(n:Nat) (zs us:Pl),r=.o us->w=.ref a->rs[n]? = some (.o zs)->vt[n]? = some (.ref a)->False:=fun n zs us e1 e2 e3 e4=>by
   subst e1 e2
   obtain ⟨r',q1,q2⟩:=jy.get oks e4
   rw [e3] at q1
   cases q1
   obtain ⟨b,ws,z,_,_,_,z5,_⟩:=q2
   cases z
   obtain ⟨b,ws',z,y1,_⟩:=ok
   cases z
   have:hold (.o us) (.ref a) H F a=some ws':=by
    show (if a=a then H a else F a)=_
    rw [if_pos rfl]; exact y1
   rw [this] at z5
   cases z5
  cases j with
  | zero=>
   cases k with
   | zero=>rfl
   | succ k=>simp at h1 h2 h3 h4; exact (no k ys xs h1 h3 h2 h4).elim
  | succ j=>
   cases k with
   | zero=>simp at h1 h2 h3 h4; exact (no j xs ys h2 h4 h1 h3).elim
   | succ k=>exact congrArg (· + 1) (jy.apart oks (by simpa using h1:rs[j]? = some (.o xs)) (by simpa using h2:rs[k]? = some (.o ys)) (by simpa using h3:vt[j]? = some (.ref a)) (by simpa using h4))
theorem JV {rs:List Rs} {a:Addr} (h:kept ρ σ rs a):foc H F ρ σ rs a=H a:=by unfold foc; rw [if_pos h]
theorem YW {rs:List Rs} {a:Addr} (h:¬ kept ρ σ rs a):foc H F ρ σ rs a=F a:=by unfold foc; rw [if_neg h]
theorem YM {rs:List Rs} (I:SI G F ρ σ H):qX F (foc H F ρ σ rs):=fun b o e=>by
 rw [YW]
 ·exact e
 ·rintro ⟨i,xs,h1,h2,_⟩
  rw [(I.out b ⟨i,xs,h1,h2⟩).2] at e
  cases e
theorem SI.focus {rs:List Rs} {vs:List V} (I:SI G F ρ σ H) (oks:jy G F ρ σ H rs vs) (nb:(isB rs).Nodup):SI G (foc H F ρ σ rs) (rs.map (qHV ρ)) (vs.map some) H:=by
 have get:∀(j:Nat) (s:Sl),(rs.map (qHV ρ))[j]? = some s->∃ r v,rs[j]? = some r/\s=qHV ρ r/\vs[j]? = some v/\jn G F ρ σ H r v:=fun j s e=>by
  rw [wL] at e
  cases z:rs[j]? with
  | none=>rw [z] at e; cases e
  | some r=>
   rw [z] at e
   have hj:j<vs.length:=by rw [oks.len]; exact (wI.mp z).1
   obtain ⟨r',q1,q2⟩:=oks.get (wA hj)
   rw [z] at q1
   cases q1
   exact ⟨r,vs[j],rfl,(zQ e).symm,wA hj,q2⟩
 have own:∀(j:Nat) (xs:Pl) (a:Addr),(rs.map (qHV ρ))[j]? = some (.o xs)->(vs.map some)[j]? = some (some (.ref a))->G a=none/\F a=none/\((∃ ys,rs[j]? = some (.o ys)/\vs[j]? = some (.ref a)/\¬ qHc ρ σ a)\/∃ i,rs[j]? = some (.b i)/\ρ[i]? = some (.o xs)/\σ[i]? = some (some (.ref a))):=fun j xs a h1 h2=>by
  obtain ⟨r,v,e1,e2,e3,ok⟩:=get j _ h1
  rw [wL,e3] at h2
  cases h2
  cases r with
  | d x=>cases e2
  | raw x=>cases e2
  | o ys=>
   obtain ⟨b,ws,z,z1,z2,z3,z4,z5⟩:=ok
   cases z
   exact ⟨z3,z4,.inl ⟨ys,e1,e3,z5⟩⟩
  | b i=>
   have e2':Sl.o xs=(ρ[i]?).getD .u:=e2
   cases z:ρ[i]? with
   | none=>rw [z] at e2'; cases e2'
   | some s=>
    rw [z] at e2'
    cases (show Sl.o xs=s from e2')
    have o:=I.out a ⟨i,xs,z,ok⟩
    exact ⟨o.1,o.2,.inr ⟨i,e1,z,ok⟩⟩
 refine ⟨fun j s e=>?_,I.g,fun b o e=>?_,fun b o e=>?_,fun j k a xs ys h1 h2 h3 h4=>?_,fun a ha=>?_,fun b ws e=>?ft⟩
 case ft=>
  by_cases z:kept ρ σ rs b
  ·rw [JV z] at e
   obtain ⟨i,xs,h1,h2,_⟩:=z
   obtain ⟨o,q1,a,us,q2,q3,q4⟩:=I.ok i _ h1
   rw [h2] at q1
   cases q1
   cases q2
   rw [q3] at e
   exact q4.ntup ws (zQ e)
  ·rw [YW z] at e
   exact I.ft b ws e
 ·obtain ⟨r,v,e1,e2,e3,ok⟩:=get j s e
  refine ⟨some v,by rw [wL,e3]; rfl,?_⟩
  subst e2
  cases r with
  | d x=>exact ⟨v,rfl,ok⟩
  | raw x=>trivial
  | o ys=>
   obtain ⟨b,ws,z,z1,z2,z3,z4,z5⟩:=ok
   subst z
   exact ⟨b,ws,rfl,z1,z2⟩
  | b i=>
   have ok':σ[i]? = some (some v):=ok
   show qLU G H ((ρ[i]?).getD .u) (some v)
   cases z:ρ[i]? with
   | none=>trivial
   | some s=>
    obtain ⟨o,q1,q2⟩:=I.ok i s z
    rw [ok'] at q1
    cases q1
    exact q2
 ·by_cases z:kept ρ σ rs b
  ·rw [JV z] at e; exact e
  ·rw [YW z] at e; exact I.f _ _ e
 ·by_cases z:kept ρ σ rs b
  ·obtain ⟨i,xs,h1,h2,_⟩:=z
   exact (I.out b ⟨i,xs,h1,h2⟩).1
  ·rw [YW z] at e; exact I.gf _ _ e
 ·obtain ⟨_,_,o1⟩:=own j xs a h1 h3
  obtain ⟨_,_,o2⟩:=own k ys a h2 h4
  rcases o1 with ⟨us,q1,q2,q3⟩ | ⟨i,q1,q2,q3⟩
  ·rcases o2 with ⟨ws,p1,p2,p3⟩ | ⟨i',p1,p2,p3⟩
   ·exact oks.apart q1 p1 q2 p2
   ·exact absurd ⟨i',ys,p2,p3⟩ q3
  ·rcases o2 with ⟨ws,p1,p2,p3⟩ | ⟨i',p1,p2,p3⟩
   ·exact absurd ⟨i,xs,q2,q3⟩ p3
   ·have e:=I.nd i i' a xs ys q2 p2 q3 p3
    subst e
    exact qFf nb q1 p1
 ·obtain ⟨j,xs,h1,h2⟩:=ha
  obtain ⟨g,f,o⟩:=own j xs a h1 h2
  refine ⟨g,?_⟩
  rw [YW]
  ·exact f
  ·rintro ⟨i,us,e1,e2,e3⟩
   rcases o with ⟨ys,q1,q2,q3⟩ | ⟨i',q1,q2,q3⟩
   ·exact q3 ⟨i,us,e1,e2⟩
   ·have e:=I.nd i i' a us xs e1 q2 e2 q3
    subst e
    exact e3 (vN q1)
theorem SI.unfocus {rs:List Rs} {vs:List V} {G' H':Hp} {as:List Sl} (I:SI G F ρ σ H) (oks:jy G F ρ σ H rs vs) (g:qX G G') (I':SI G' (foc H F ρ σ rs) as (vs.map some) H'):SI G' F (wb ρ rs as) σ H':=by
 have hf:=YM (rs:=rs) I
 have at':∀{i j:Nat},rs[j]? = some (.b i)->∃ v,vs[j]? = some v/\σ[i]? = some (some v):=fun {i j} e=>by
  have hj:j<vs.length:=by rw [oks.len]; exact (wI.mp e).1
  obtain ⟨r',q1,q2⟩:=oks.get (wA hj)
  rw [e] at q1
  cases q1
  exact ⟨_,wA hj,q2⟩
 have own:∀(i:Nat) (xs:Pl) (a:Addr),(wb ρ rs as)[i]? = some (.o xs)->σ[i]? = some (some (.ref a))->(∃ j:Nat,rs[j]? = some (Rs.b i)/\as[j]? = some (Sl.o xs)/\(vs.map some)[j]? = some (some (V.ref a)))\/(ρ[i]? = some (.o xs)/\kept ρ σ rs a):=fun i xs a h1 h2=>by
  rcases qDO h1 with ⟨j,e1,e2⟩ | ⟨e1,e2⟩
  ·obtain ⟨v,q1,q2⟩:=at' e1
   rw [h2] at q2
   cases q2
   refine .inl ⟨j,e1,e2.resolve_right (fun z=>nomatch z),by rw [wL,q1]; rfl⟩
  ·exact .inr ⟨e1,i,xs,e1,h2,e2 ⟨xs,rfl⟩⟩
 have keptH:∀ a,kept ρ σ rs a->∃ ws,H a=some ws/\foc H F ρ σ rs a=some ws:=fun a k=>by
  obtain ⟨i,xs,e1,e2,e3⟩:=k
  obtain ⟨o,q1,b,ws,z,q2,q3⟩:=I.ok i _ e1
  rw [e2] at q1
  cases q1
  cases z
  exact ⟨ws,q2,by rw [JV ⟨i,xs,e1,e2,e3⟩]; exact q2⟩
 refine ⟨fun i s e=>?_,I'.g,fun b o e=>I'.f _ _ (hf _ _ e),fun b o e=>I'.gf _ _ (hf _ _ e),fun i k a xs ys h1 h2 h3 h4=>?_,fun a ha=>?_,fun b xs e=>I'.ft b xs (hf _ _ e)⟩
 ·rcases qDO e with ⟨j,e1,e2⟩ | ⟨e1,e2⟩
  ·obtain ⟨v,q1,q2⟩:=at' e1
   refine ⟨_,q2,?_⟩
   rcases e2 with e2 | rfl
   ·obtain ⟨o,p1,p2⟩:=I'.ok j s e2
    rw [wL,q1] at p1
    cases p1
    exact p2
   ·trivial
  ·obtain ⟨o,p1,p2⟩:=I.ok i s e1
   refine ⟨o,p1,p2.up g fun xs a ws z1 z2 z3=>?_⟩
   subst z1 z2
   obtain ⟨ws',k1,k2⟩:=keptH a ⟨i,xs,e1,p1,e2 ⟨xs,rfl⟩⟩
   rw [z3] at k1
   cases k1
   exact I'.f _ _ k2
 ·rcases own i xs a h1 h3 with ⟨j1,p1,p2,p3⟩ | ⟨p1,p2⟩
  ·rcases own k ys a h2 h4 with ⟨j2,q1,q2,q3⟩ | ⟨q1,q2⟩
   ·have e:=I'.nd j1 j2 a xs ys p2 q2 p3 q3
    subst e
    rw [p1] at q1
    cases q1
    rfl
   ·obtain ⟨ws,k1,k2⟩:=keptH a q2
    rw [(I'.out a ⟨j1,xs,p2,p3⟩).2] at k2
    cases k2
  ·rcases own k ys a h2 h4 with ⟨j2,q1,q2,q3⟩ | ⟨q1,q2⟩
   ·obtain ⟨ws,k1,k2⟩:=keptH a p2
    rw [(I'.out a ⟨j2,ys,q2,q3⟩).2] at k2
    cases k2
   ·exact I.nd i k a xs ys p1 q1 h3 h4
 ·obtain ⟨i,xs,h1,h2⟩:=ha
  rcases own i xs a h1 h2 with ⟨j1,p1,p2,p3⟩ | ⟨p1,p2⟩
  ·have o:=I'.out a ⟨j1,xs,p2,p3⟩
   exact ⟨o.1,hf.free o.2⟩
  ·obtain ⟨ws,k1,k2⟩:=keptH a p2
   exact ⟨I'.gf _ _ k2,(I.out a ⟨i,xs,p1,h2⟩).2⟩
theorem jn.unfocus {rs:List Rs} {vs:List V} {G' H':Hp} {as:List Sl} {r:Rs} {v:V} {d:D} (I:SI G F ρ σ H) (oks:jy G F ρ σ H rs vs) (hr:r.it=some d) (ok:jn G' (foc H F ρ σ rs) as (vs.map some) H' r v):jn G' F (wb ρ rs as) σ H' r v:=by
 have hf:=YM (rs:=rs) I
 cases r with
 | d x=>exact ok
 | b i=>cases hr
 | raw w=>cases hr
 | o xs=>
  obtain ⟨a,ws,rfl,h1,h2,h3,h4,h5⟩:=ok
  refine ⟨a,ws,rfl,h1,h2,h3,hf.free h4,?_⟩
  rintro ⟨i,ys,e1,e2⟩
  rcases qDO e1 with ⟨j,q1,q2⟩ | ⟨q1,q2⟩
  ·have hj:j<vs.length:=by rw [oks.len]; exact (wI.mp q1).1
   obtain ⟨r',p1,p2⟩:=oks.get (wA hj)
   rw [q1] at p1
   cases p1
   have p2':σ[i]? = some (some vs[j]):=p2
   rw [e2] at p2'
   refine h5 ⟨j,ys,q2.resolve_right (fun z=>nomatch z),?_⟩
   rw [wL,wA hj,<- zQ p2']
   rfl
  ·obtain ⟨o,p1,b,ws',z,p2,p3⟩:=I.ok i _ q1
   rw [e2] at p1
   cases p1
   cases z
   rw [JV ⟨i,ys,q1,e2,q2 ⟨ys,rfl⟩⟩,p2] at h4
   cases h4
end
noncomputable abbrev PV:=List Sl->(Rs->List Sl->Prop)->Prop
noncomputable def spV (P:PV):Sp:=fun vs H Q _=>∃ as Φ G F,P as Φ/\as.length=vs.length/\SI G F as (vs.map some) H/\Fin G F (vs.map some) Φ Q
theorem jf {P:PV} {E:XK} {t:TA} {ρ:List Sl} {Φ:Rs->List Sl->Prop} (h:wpA t ρ fun rs ρ1=>(isB rs).Nodup/\P (rs.map (qHV ρ1)) fun r as=>(∃ d,r.it=some d)/\Φ r (wb ρ1 rs as)):wpV (qG7 (spV P) [] E t) ρ Φ:=by
 intro G F σ H I Q q
 refine h G F σ H I _ fun G1 H1 vs rs ρ1 ⟨nb,h1⟩ g1 I1 oks=>?_
 show spV P (vs++[]) H1 Q E
 rw [yZ]
 refine ⟨_,_,G1,_,h1,by rw [wC,oks.len],I1.focus oks nb,?_⟩
 intro G2 H2 v r as ⟨⟨d,ed⟩,h2⟩ g2 I2 ok
 exact q G2 H2 v r _ h2 (g1.trans g2) (I1.unfocus oks g2 I2) (jn.unfocus I1 oks ed ok)
noncomputable def sel (c:Nat) (B:List Nat) (n:Nat) (ρ:List Sl):List Sl:=(wV n).map fun j=>if B.contains (c+j) then (ρ[c+j]?).getD .u else .u
theorem qCZ {c:Nat} {B:List Nat} {n:Nat} {ρ:List Sl} {j:Nat} {s:Sl} (h:(sel c B n ρ)[j]? = some s):j<n/\(s=.u\/(c+j∈B/\ρ[c+j]? = some s)):=by
 unfold sel at h
 rw [wL] at h
 by_cases z:j<n
 ·rw [hU z] at h
  refine ⟨z,?_⟩
  have h':(if B.contains (c+j)=true then (ρ[c+j]?).getD .u else .u)=s:=zQ h
  by_cases q:B.contains (c+j)=true
  ·rw [if_pos q] at h'
   rw [xV,decide_eq_true_iff] at q
   cases e:ρ[c+j]? with
   | none=>rw [e] at h'; exact .inl h'.symm
   | some s'=>
    rw [e] at h'
    have h2:s'=s:=h'
    subst h2
    exact .inr ⟨q,rfl⟩
  ·rw [if_neg q] at h'; exact .inl h'.symm
 ·rw [vH (zO (xP yN) (by omega))] at h
  cases h
theorem SI.sel {G F H:Hp} {ρ:List Sl} {σ σ0:St} {c n:Nat} {B:List Nat} {vs:List V} (I:SI G F ρ σ H) (k:Kp B σ0 σ) (h0:∀ j v,vs[j]? = some v->σ0[c+j]? = some (some v)) (hn:n<=vs.length):SI G F (sel c B n ρ) (vs.map some) H:=by
 have own:∀(j:Nat) (xs:Pl) (a:Addr),(L4.sel c B n ρ)[j]? = some (.o xs)->(vs.map some)[j]? = some (some (.ref a))->ρ[c+j]? = some (.o xs)/\σ[c+j]? = some (some (.ref a)):=fun j xs a h1 h2=>by
  obtain ⟨z,q⟩:=qCZ h1
  obtain ⟨m,q⟩:=q.resolve_left fun z=>by cases z
  refine ⟨q,?_⟩
  rw [k _ m]
  rw [wL] at h2
  cases e:vs[j]? with
  | none=>rw [e] at h2; cases h2
  | some v=>rw [e] at h2; cases h2; exact h0 j _ e
 refine ⟨fun j s e=>?_,I.g,I.f,I.gf,fun i j a xs ys h1 h2 h3 h4=>?_,fun a ⟨j,xs,h1,h2⟩=>?_,I.ft⟩
 ·obtain ⟨z,q⟩:=qCZ e
  have hj:j<vs.length:=by omega
  refine ⟨some vs[j],by rw [wL,wA hj]; rfl,?_⟩
  rcases q with rfl | ⟨m,q⟩
  ·trivial
  ·obtain ⟨o,e1,e2⟩:=I.ok _ s q
   rw [k _ m,h0 j _ (wA hj)] at e1
   cases e1
   exact e2
 ·obtain ⟨p1,p2⟩:=own i xs a h1 h3
  obtain ⟨q1,q2⟩:=own j ys a h2 h4
  have:=I.nd _ _ a xs ys p1 q1 p2 q2
  omega
 ·obtain ⟨p1,p2⟩:=own j xs a h1 h2
  exact I.out a ⟨_,xs,p1,p2⟩
theorem jn.sel {G F H:Hp} {ρ:List Sl} {σ σ0:St} {c n:Nat} {B:List Nat} {vs:List V} {r:Rs} {v:V} {d:D} (hr:r.it=some d) (ok:jn G F ρ σ H r v) (k:Kp B σ0 σ) (h0:∀ j v,vs[j]? = some v->σ0[c+j]? = some (some v)):jn G F (sel c B n ρ) (vs.map some) H r v:=by
 cases r with
 | d x=>exact ok
 | b i=>cases hr
 | raw w=>cases hr
 | o xs=>
  obtain ⟨a,ws,rfl,h1,h2,h3,h4,h5⟩:=ok
  refine ⟨a,ws,rfl,h1,h2,h3,h4,?_⟩
  rintro ⟨j,ys,e1,e2⟩
  obtain ⟨z,q⟩:=qCZ e1
  obtain ⟨m,q⟩:=q.resolve_left fun z=>by cases z
  refine h5 ⟨_,ys,q,?_⟩
  rw [k _ m]
  rw [wL] at e2
  cases e:vs[j]? with
  | none=>rw [e] at e2; cases e2
  | some v=>rw [e] at e2; cases e2; exact h0 j _ e
theorem SI.ext {G F H:Hp} {as:List Sl} {vs:List V} (I:SI G F as (vs.map some) H) (c k:Nat) (hl:as.length=vs.length):SI G F (zJ c .u++(as++zJ k .u)) (zJ c none++(vs.map some++zJ k none)) H:=by
 have get:∀(i:Nat) (s:Sl),(zJ c Sl.u++(as++zJ k Sl.u))[i]? = some s->(s=.u/\i<c+as.length+k)\/(c<=i/\i - c<as.length/\as[i - c]? = some s):=fun i s e=>by
  by_cases z:i<c
  ·rw [yU (by rw [yJ]; exact z),ZG,if_pos z] at e
   exact .inl ⟨(zQ e).symm,by omega⟩
  ·rw [zW (by rw [yJ]; omega),yJ] at e
   by_cases q:i - c<as.length
   ·rw [yU q] at e
    exact .inr ⟨by omega,q,e⟩
   ·rw [zW (by omega),ZG] at e
    by_cases y:i - c - as.length<k
    ·rw [if_pos y] at e; exact .inl ⟨(zQ e).symm,by omega⟩
    ·rw [if_neg y] at e; cases e
 have st:∀ i,c<=i->i - c<as.length->(zJ c none++(vs.map some++zJ k none))[i]? = (vs.map some)[i - c]?:=fun i h1 h2=>by
  rw [zW (by rw [yJ]; exact h1),yJ,yU (by rw [wC]; omega)]
 have own:∀(i:Nat) (xs:Pl),(zJ c Sl.u++(as++zJ k Sl.u))[i]? = some (.o xs)->c<=i/\i - c<as.length/\as[i - c]? = some (.o xs):=fun i xs e=>(get i _ e).resolve_left fun z=>by cases z.1
 refine ⟨fun i s e=>?_,I.g,I.f,I.gf,fun i j a xs ys h1 h2 h3 h4=>?_,fun a ⟨i,xs,h1,h2⟩=>?_,I.ft⟩
 ·rcases get i s e with ⟨rfl,z⟩ | ⟨z1,z2,z3⟩
  ·have hl2:(zJ c none++(vs.map some++zJ k none)).length=c+vs.length+k:=by
    rw [wR,wR,yJ,yJ,wC]; omega
   have hi:i<(zJ c none++(vs.map some++zJ k none)).length:=by rw [hl2,<- hl]; exact z
   exact ⟨_,wA hi,trivial⟩
  ·obtain ⟨o,e1,e2⟩:=I.ok _ s z3
   exact ⟨o,by rw [st i z1 z2]; exact e1,e2⟩
 ·obtain ⟨p1,p2,p3⟩:=own i xs h1
  obtain ⟨q1,q2,q3⟩:=own j ys h2
  rw [st i p1 p2] at h3
  rw [st j q1 q2] at h4
  have:=I.nd _ _ a xs ys p3 q3 h3 h4
  omega
 ·obtain ⟨p1,p2,p3⟩:=own i xs h1
  rw [st i p1 p2] at h2
  exact I.out a ⟨_,xs,p3,h2⟩
theorem jO {P:Program} {w:World} {K:wJ} {mg:Str->Option Value} {base:Heap} {x qual:Str} {st:Stmt} {f:Addr} {fd:FuncData} {N ps:List Str} {k:Nat} {pv:PV} (F:Fun K x qual st f fd) (S:qR N ps (qJ st)) (B:List Nat)
  (len:∀ as Φ,pv as Φ->as.length=ps.length)
  (hbody:∀(cdv:Value) (A:Around) (outer:List Env) (s:Shared) (H:Hp) (E:XK),qAb k (A.deeper (PyProof.Rows.envOfC qual (qJ st) s.heap.objs.size f cdv))->
   ∃ t,PSs (qIO CX0 P w K mg base N qual (qJ st) f cdv A outer s H E).nox (Qc st) t/\
    ∀ as Φ,pv as Φ->wpS B t (as++zJ (N.length - ps.length) .u) { nx:=fun ρ=>Φ (.d .non) (sel 0 B ps.length ρ),rt:=fun r ρ=>(∃ d,r.it=some d)/\Φ r (sel 0 B ps.length ρ) }) :
  QC P w K mg base CX0 (k+1) f fd ps (spV pv):=by
 have len':∀ vs H Q E,spV pv vs H Q E->vs.length=ps.length:=fun vs H Q E h=>by
  obtain ⟨as,Φ,G,F,p,l,_⟩:=h
  rw [<- l]; exact len as Φ p
 refine F.ok S len' fun cdv A outer s H vs Q E hr h=>?_
 obtain ⟨t,ht,hw⟩:=hbody cdv A outer s H E hr
 refine ⟨t,ht,?_⟩
 have hl:=len' vs H Q E h
 obtain ⟨as,Φ,G,F',p,l,I,q⟩:=h
 have I0:=I.ext 0 (N.length - ps.length) l
 rw [vV,vV,hX,hX] at I0
 have es:L2.start N vs=vs.map some++zJ (N.length - ps.length) none:=by unfold L2.start; rw [hl]
 have h0:∀ j v,vs[j]? = some v->(vs.map some++zJ (N.length - ps.length) none)[0+j]? = some (some v):=fun j v e=>by
  rw [Nat.zero_add,yU (by rw [wC]; exact (wI.mp e).1),wL,e]
  rfl
 rw [es]
 refine hw as Φ p G F' _ H I0 _ ?_ ?_ ?_ ?_
 ·intro G1 σ1 H1 ρ1 h1 g1 k1 I1
  exact q G1 H1 .non (.d .non) _ h1 g1 (I1.sel k1 h0 (xP hl.symm)) rfl
 ·intro G1 σ1 H1 ρ1 r v ⟨⟨d,ed⟩,h1⟩ g1 k1 I1 ok
  exact q G1 H1 v r _ h1 g1 (I1.sel k1 h0 (xP hl.symm)) (jn.sel ed ok k1 h0)
 ·intro G1 σ1 H1 ρ1 h1
  exact h1.elim
 ·intro G1 σ1 H1 ρ1 h1
  exact h1.elim
noncomputable def Src (J:It) (G F:Hp) (xs:List D):Prop:=∀(i:Nat) (G' H':Hp),qX G G'->qX G' H'->qX F H'->
 (i<xs.length->J.go i H'/\∀ x H2,J.yld i H' x H2->∃ d,xs[i]? = some d/\((H2=H'/\Den G' d x)\/∃ p o,H' p=none/\H2=upd H' p o/\Den (upd G' p o) d x))/\(i=xs.length->J.stop i H')
noncomputable def wpI (wi:TI) (ρ:List Sl) (Φ:List D->List Sl->Prop):Prop:=∀ G F σ H,SI G F ρ σ H->∀ R:It->Hp->Prop,(∀ G' H' J xs ρ',Φ xs ρ'->qX G G'->SI G' F ρ' σ H'->Src J G' F xs->R J H')->wi σ H R
section
variable {ρ:List Sl} {Φ:List D->List Sl->Prop} {K:wJ}
noncomputable def qCO (lo:Int) (n:Nat):List D:=(wV n).map fun k:Nat=>D.int (lo+k)
theorem jJ (lo:Int) (n:Nat):(qCO lo n).length=n:=by unfold qCO; rw [wC,yN]
theorem QN {lo:Int} {n k:Nat} (h:k<n):(qCO lo n)[k]? = some (.int (lo+k)):=by unfold qCO; rw [wL,hU h]; rfl
theorem src_range (lo:Int) (n:Nat) (G F:Hp):Src (Itr lo n) G F (qCO lo n):=by
 intro i G' H' _ _ _
 rw [jJ]
 refine ⟨fun hi=>⟨hi,fun x H2 y=>?_⟩,fun hi=>xP hi.symm⟩
 obtain ⟨e,y⟩:=y
 subst e y
 exact ⟨_,QN hi,.inl ⟨rfl,rfl⟩⟩
theorem qDK {ta:TA} (h:wpA ta ρ fun rs ρ1=>∃ j:Int,(∃ r,rs=[r]/\rd ρ1 r=some (.int j))/\-(2 ^ 62)<=j/\j<2 ^ 62/\Φ (qCO 0 j.toNat) ρ1):wpI (qKH ta) ρ Φ:=by
 intro G F σ H I R q
 refine h G F σ H I _ fun G1 H1 vs rs ρ1 ⟨j,⟨x,er,ex⟩,l1,l2,h1⟩ g1 I1 oks=>?_
 subst er
 obtain ⟨v,rfl,ok⟩:=jx oks
 cases qZ I1 ok ex
 exact ⟨j,rfl,l1,l2,q G1 H1 _ _ ρ1 h1 g1 I1 (src_range _ _ _ _)⟩
theorem qLq {ta:TA} (h:wpA ta ρ fun rs ρ1=>∃ i j:Int,(∃ r r',rs=[r,r']/\rd ρ1 r=some (.int i)/\rd ρ1 r'=some (.int j))/\(-(2 ^ 62)<=i/\i<2 ^ 62/\-(2 ^ 62)<=j/\j<2 ^ 62)/\Φ (qCO i (j - i).toNat) ρ1):wpI (qKh ta) ρ Φ:=by
 intro G F σ H I R q
 refine h G F σ H I _ fun G1 H1 vs rs ρ1 ⟨i,j,⟨x,x',er,ex,ex'⟩,l1,h1⟩ g1 I1 oks=>?_
 subst er
 obtain ⟨v,v',rfl,ok,ok'⟩:=Ja oks
 cases qZ I1 ok ex
 cases qZ I1 ok' ex'
 exact ⟨i,j,rfl,l1,q G1 H1 _ _ ρ1 h1 g1 I1 (src_range _ _ _ _)⟩
theorem qFP {a:Addr} {ws:List V} {xs:List D} {G F:Hp} (h1:G a=some (.tup ws)) (h2:qY G xs ws):Src (Itt K a) G F xs:=by
 intro i G' H' g gh _
 have st:SqT K H' a ws:=SqT.of (gh _ _ (g _ _ h1))
 have hl:=h2.length
 refine ⟨fun hi=>?_,fun hi=>⟨ws,st,by omega⟩⟩
 have hi2:i<ws.length:=by omega
 refine ⟨⟨ws,ws[i],st,wA hi2⟩,fun x H2 y=>?_⟩
 obtain ⟨e,y⟩:=y
 subst e
 obtain ⟨d,e1,e2⟩:=h2.get (y ws st)
 exact ⟨d,e1,.inl ⟨rfl,Den.mono g _ _ e2⟩⟩
theorem qCn {a:Addr} {ws:List V} {xs:List D} {G F:Hp} (h1:∀ G' H',qX G G'->qX G' H'->qX F H'->SqL K H' a ws) (h2:qY G xs ws):Src (Itl K a) G F xs:=by
 intro i G' H' g gh gf
 have st:SqL K H' a ws:=h1 G' H' g gh gf
 have hl:=h2.length
 refine ⟨fun hi=>?_,fun hi=>⟨ws,st,by omega⟩⟩
 have hi2:i<ws.length:=by omega
 refine ⟨⟨ws,ws[i],st,wA hi2⟩,fun x H2 y=>?_⟩
 obtain ⟨e,y⟩:=y
 subst e
 obtain ⟨d,e1,e2⟩:=h2.get (y ws st)
 exact ⟨d,e1,.inl ⟨rfl,Den.mono g _ _ e2⟩⟩
theorem QL {tl:TE} (h:wpV tl ρ fun r ρ1=>∃ d xs,r.it=some d/\sq d=some xs/\Φ xs ρ1):wpI (qKA K tl) ρ Φ:=by
 intro G F σ H I R q
 refine h G F σ H I _ fun G0 H1 v x ρ1 ⟨d,xs,e1,e2,h1⟩ g0 I0 ok=>?_
 obtain ⟨G1,g1',I1,dn⟩:=qIY I0 ok e1
 have g1:=g0.trans g1'
 cases d with
 | tup l=>
  cases e2
  obtain ⟨a,ws,rfl,k1,k2⟩:=dn
  exact ⟨a,rfl,.inr ⟨⟨ws,SqT.of (I1.g _ _ k1)⟩,q G1 H1 _ _ ρ1 h1 g1 I1 (qFP k1 k2)⟩⟩
 | lst l=>
  cases e2
  obtain ⟨a,ws,rfl,k1,k2⟩:=dn
  exact ⟨a,rfl,.inl ⟨⟨ws,SqL.of (I1.g _ _ k1)⟩,q G1 H1 _ _ ρ1 h1 g1 I1 (qCn (fun G' H' g gh _=>SqL.of (gh _ _ (g _ _ k1))) k2)⟩⟩
 | non=>cases e2
 | bl _=>cases e2
 | int _=>cases e2
 | str _=>cases e2
 | dic=>cases e2
end
theorem qAz {B:List Nat} {ρ:List Sl} {Ψ:VE} {wi:TI} {g:TG} {tb:TS} (h:wpI wi ρ fun xs ρ1=>∃ Jv:Nat->List Sl->Prop,Jv 0 ρ1/\
  (∀ k x ρ,xs[k]? = some x->Jv k ρ->wpG B g (.d x) ρ fun ρ2=>wpS B tb ρ2 { nx:=Jv (k+1),ct:=Jv (k+1),bk:=Ψ.nx,rt:=Ψ.rt })/\∀ ρ,Jv xs.length ρ->Ψ.nx ρ):wpS B (qG3 wi g tb) ρ Ψ:=by
 intro G F σ H I D n r b ct
 refine h G F σ H I _ fun G1 H1 J xs ρ1 ⟨Jv,i0,st,en⟩ g1 I1 S=>?_
 refine ⟨fun i m σ' H'=>m=xs.length - i/\i<=xs.length/\∃ G' ρ',Jv i ρ'/\qX G1 G'/\Kp B σ σ'/\SI G' F ρ' σ' H',⟨xs.length,by simp,zZ _,G1,ρ1,i0,qX.refl _,Kp.refl _ _,I1⟩,?_⟩
 rintro i m σ2 H2 ⟨rfl,hi,G2,ρ2,p2,g2,k2,I2⟩
 obtain ⟨s1,s2⟩:=S i G2 H2 g2 I2.g I2.f
 by_cases hlt:i<xs.length
 ·obtain ⟨go,yl⟩:=s1 hlt
  refine .inr ⟨go,fun σ' H'=>∃ G' ρ',Jv (i+1) ρ'/\qX G1 G'/\Kp B σ σ'/\SI G' F ρ' σ' H',fun σ' H' p'=>⟨xs.length - (i+1),by omega,rfl,hlt,p'⟩,fun x H' y=>?_⟩
  obtain ⟨d,ed,yy⟩:=yl x H' y
  have fin:∀ G3,qX G2 G3->SI G3 F ρ2 σ2 H'->Den G3 d x->g x σ2 H' fun σ3 H3=>tb { D with nx:=fun σ' H'=>∃ G' ρ',Jv (i+1) ρ'/\qX G1 G'/\Kp B σ σ'/\SI G' F ρ' σ' H',ct:=fun σ' H'=>∃ G' ρ',Jv (i+1) ρ'/\qX G1 G'/\Kp B σ σ'/\SI G' F ρ' σ' H',bk:=D.nx } σ3 H3:=fun G3 g3 I3 dn=>by
   refine st i d ρ2 ed p2 G3 F σ2 _ x I3 dn _ ?_
   intro G4 σ4 H4 ρ4 h4 g4 k4 I4
   have gg:=(g2.trans g3).trans g4
   refine h4 G4 F σ4 H4 I4 _ ?_ (r.at (g1.trans gg) (k2.trans k4)) ?_ ?_
   ·exact fun G5 σ5 H5 ρ5 p5 g5 k5 I5=>⟨G5,ρ5,p5,gg.trans g5,(k2.trans k4).trans k5,I5⟩
   ·exact n.at (g1.trans gg) (k2.trans k4)
   ·exact fun G5 σ5 H5 ρ5 p5 g5 k5 I5=>⟨G5,ρ5,p5,gg.trans g5,(k2.trans k4).trans k5,I5⟩
  rcases yy with ⟨e,dn⟩ | ⟨p,o,hp,e,dn⟩
  ·subst e
   exact fin G2 (qX.refl _) I2 dn
  ·subst e
   obtain ⟨I3,g3⟩:=I2.newG (o:=o) hp
   exact fin _ g3 I3 dn
 ·have e:i=xs.length:=by omega
  subst e
  exact .inl ⟨s2 rfl,n G2 σ2 H2 ρ2 (en ρ2 p2) (g1.trans g2) k2 I2⟩
noncomputable def Jt (fr:List (Str×Nat)):List Rs:=fr.map fun p=>Rs.b p.2
noncomputable def known (ρ:List Sl) (fr:List (Str×Nat)):Prop:=∀ p∈fr,∃ s,ρ[p.2]? = some s/\s≠.u
theorem qC1 {G F H:Hp} {ρ:List Sl} {σ:St} (I:SI G F ρ σ H):∀{fr:List (Str×Nat)},known ρ fr->∃ vs:List V,jy G F ρ σ H (Jt fr) vs/\(fr.map fun p=>(σ[p.2]?).join)=vs.map some
 | [],_=>⟨[],rfl,rfl⟩
 | p::fr,h=>by
  obtain ⟨vs,h1,h2⟩:=qC1 I (fr:=fr) fun q hq=>h q (wN _ hq)
  obtain ⟨s,e,ne⟩:=h p wF
  obtain ⟨o,e1,e2⟩:=I.ok _ s e
  have:∃ v,o=some v:=by
   cases s with
   | u=>exact absurd rfl ne
   | d x=>obtain ⟨v,z,_⟩:=e2; exact ⟨v,z⟩
   | o x=>obtain ⟨a,_,z,_⟩:=e2; exact ⟨_,z⟩
   | f _ x=>obtain ⟨a,_,z,_⟩:=e2; exact ⟨_,z⟩
  obtain ⟨v,rfl⟩:=this
  refine ⟨v::vs,⟨v,vs,rfl,e1,h1⟩,?_⟩
  rw [uW,uW,h2,e1]
  rfl
noncomputable def inner (own:List Str) (fr:List (Str×Nat)) (ρ:List Sl):List Sl:=zJ own.length .u++fr.map fun p=>(ρ[p.2]?).getD .u
noncomputable def bnd (own:List Str) (fr:List (Str×Nat)):List Nat:=(wV fr.length).map (own.length + ·)
noncomputable def outer (own:List Str) (fr:List (Str×Nat)) (ρ ρc:List Sl):List Sl:=wb ρ (Jt fr) (ρc.drop own.length)
theorem qDX {c n:Nat} {ρ:List Sl} (h:ρ.length=c+n):sel c ((wV n).map (c + ·)) n ρ=ρ.drop c:=by
 apply xW
 intro j
 unfold sel
 rw [wL,List.getElem?_drop]
 by_cases z:j<n
 ·rw [hU z]
  have m:((wV n).map (c + ·)).contains (c+j)=true:=by
   rw [xV,decide_eq_true_iff]
   exact zP.mpr ⟨j,zY.mpr z,rfl⟩
  show some (if ((wV n).map (c + ·)).contains (c+j)=true then (ρ[c+j]?).getD .u else .u)=_
  rw [if_pos m]
  have:c+j<ρ.length:=by omega
  rw [wA this]
  rfl
 ·rw [vH (zO (xP yN) (by omega)),vH (by omega)]
  rfl
theorem qCF {own:List Str} {fr:List (Str×Nat)} {J:It} {g:TG} {tt:TT} {te:TE} {ρ:List Sl} {Φ:Rs->List Sl->Prop} {G F H:Hp} {σ:St} {Q:VK} {xs:List D} (I:SI G F ρ σ H) (kn:known ρ fr) (nd:(isB (Jt fr)).Nodup)
  (S:Src J G (foc H F ρ σ (Jt fr)) xs) (Jv:Nat->List D->List Sl->Prop) (j0:Jv 0 [] (inner own fr ρ)) (jl:∀ k ys ρc,Jv k ys ρc->ys.length<sizeLine/\ρc.length=own.length+fr.length)
  (st:∀ k x ys ρc,xs[k]? = some x->Jv k ys ρc->wpG (bnd own fr) g (.d x) ρc fun ρ2=>wpT tt ρ2 fun b ρ3=>if b=true then wpV te ρ3 fun r ρ4=>∃ d,r.it=some d/\Jv (k+1) (ys++[d]) ρ4 else Jv (k+1) ys ρ3)
  (en:∀ ys ρc,Jv xs.length ys ρc->Φ (.l ys) (outer own fr ρ ρc)) (q:Fin G F σ Φ Q) (A:Addr) (hA:H A=none):qAs J g tt te (jC own fr σ) H A fun H2=>Q (.ref A) H2:=by
 obtain ⟨vs,oks,ev⟩:=qC1 I kn
 have I1:=I.focus oks nd
 have lv:vs.length=fr.length:=by rw [oks.len]; unfold Jt; rw [wC]
 have as_eq:(Jt fr).map (qHV ρ)=fr.map fun p=>(ρ[p.2]?).getD .u:=by unfold Jt; rw [zM]; rfl
 rw [as_eq] at I1
 have I2:=I1.ext own.length 0 (by rw [wC,lv])
 have e1:(zJ own.length Sl.u++((fr.map fun p=>(ρ[p.2]?).getD .u)++zJ 0 Sl.u))=inner own fr ρ:=by unfold inner; rw [vV,yZ]
 have e2:(zJ own.length none++(vs.map some++zJ 0 none))=jC own fr σ:=by
  unfold jC
  rw [vV,yZ,ev]
  congr 1
  rw [List.map_const']
 rw [e1,e2] at I2
 generalize hF2:foc H F ρ σ (Jt fr)=F2 at S I1 I2
 have FA:F2 A=none:=I1.f.free hA
 have h0:∀(j:Nat) (v:V),vs[j]? = some v->(jC own fr σ)[own.length+j]? = some (some v):=fun j v e=>by
  rw [<- e2,zW (by rw [yJ]; omega),yJ,xE,vV,yZ,wL,e]
  rfl
 have fr1:∀ ys,qX F2 (upd F2 A (.lst ys)):=fun ys=>qX.new FA
 refine ⟨fun i m ys σ' H'=>m=xs.length - i/\i<=xs.length/\∃ G' ds ρc,Jv i ds ρc/\qX G G'/\Kp (bnd own fr) (jC own fr σ) σ'/\SI G' (upd F2 A (.lst ys)) ρc σ' H'/\qY G' ds ys,⟨xs.length,by simp,zZ _,G,[],_,j0,qX.refl _,Kp.refl _ _,?_,rfl⟩,?_⟩
 ·have I3:=I2.new (o:=.lst []) hA
  refine ⟨I3.ok,I3.g,fun b o e=>?_,fun b o e=>?_,I3.nd,fun b hb=>⟨(I3.out b hb).1,?_⟩,fun b us e=>?ft⟩
  case ft=>
   by_cases z:b=A
   ·rw [z,qN] at e
    cases e
   ·rw [qS z] at e
    exact I3.ft b us e
  ·by_cases z:b=A
   ·subst z; rw [qN] at e ⊢; exact e
   ·rw [qS z] at e; exact I3.f _ _ e
  ·by_cases z:b=A
   ·subst z; exact I2.g.free hA
   ·rw [qS z] at e; exact I3.gf _ _ e
  ·have nb:b≠A:=fun z=>by
    subst z
    obtain ⟨i,zs,q1,q2⟩:=hb
    obtain ⟨o,p1,a,ws,z,p2,p3⟩:=I2.ok i _ q1
    rw [q2] at p1
    cases p1
    cases z
    rw [hA] at p2
    cases p2
   rw [qS nb]
   exact (I3.out b hb).2
 ·rintro i m ys σ2 H2 ⟨rfl,hi,G2,ds,ρ2,p2,g2,k2,I4,dn⟩
  have hHA:H2 A=some (.lst ys):=I4.f _ _ qN
  have lds:=dn.length
  obtain ⟨jl1,jl2⟩:=jl i ds ρ2 p2
  refine ⟨hHA,?_⟩
  obtain ⟨s1,s2⟩:=S i G2 H2 g2 I4.g ((fr1 ys).trans I4.f)
  by_cases hlt:i<xs.length
  ·obtain ⟨go,yl⟩:=s1 hlt
   refine .inr ⟨go,by rw [lds]; exact jl1,fun ys' σ' H'=>∃ G' ds ρc,Jv (i+1) ds ρc/\qX G G'/\Kp (bnd own fr) (jC own fr σ) σ'/\SI G' (upd F2 A (.lst ys')) ρc σ' H'/\qY G' ds ys',fun ys' σ' H' p'=>⟨xs.length - (i+1),by omega,rfl,hlt,p'⟩,fun x H' y=>?_⟩
   obtain ⟨d,ed,yy⟩:=yl x H' y
   have fin:∀ G3,qX G2 G3->SI G3 (upd F2 A (.lst ys)) ρ2 σ2 H'->Den G3 d x->g x σ2 H' fun σ4 H4=>tt σ4 H4 fun b H5=>if b=true then te σ4 H5 fun y H6=>H6 A=some (.lst ys)/\∃ G' ds ρc,Jv (i+1) ds ρc/\qX G G'/\Kp (bnd own fr) (jC own fr σ) σ4/\SI G' (upd F2 A (.lst (ys++[y]))) ρc σ4 (upd H6 A (.lst (ys++[y])))/\qY G' ds (ys++[y])
     else ∃ G' ds ρc,Jv (i+1) ds ρc/\qX G G'/\Kp (bnd own fr) (jC own fr σ) σ4/\SI G' (upd F2 A (.lst ys)) ρc σ4 H5/\qY G' ds ys:=fun G3 g3 I3 dx=>by
    refine st i d ds ρ2 ed p2 G3 (upd F2 A (.lst ys)) σ2 H' x I3 dx _ ?_
    intro G4 σ4 H4 ρ4 h4 g4 k4 I5
    refine h4 G4 _ σ4 H4 I5 _ fun G5 H5 b ρ5 h5 g5 I6=>?_
    have gg:=((g2.trans g3).trans g4).trans g5
    cases b with
    | false=>
     rw [if_neg wQ] at h5 ⊢
     exact ⟨G5,ds,ρ5,h5,gg,k2.trans k4,I6,qY.mono ((g3.trans g4).trans g5) _ _ dn⟩
    | true=>
     rw [if_pos rfl] at h5 ⊢
     refine h5 G5 _ σ4 H5 I6 _ fun G6 H6 y r ρ6 ⟨d',ed',h6⟩ g6 I7 ok=>?_
     obtain ⟨G7,g7,I8,dy⟩:=qIY I7 ok ed'
     have hA6:H6 A=some (.lst ys):=I8.f _ _ qN
     refine ⟨hA6,G7,ds++[d'],ρ6,h6,(gg.trans g6).trans g7,k2.trans k4,?_,qY.snoc (qY.mono (((g3.trans g4).trans g5).trans (g6.trans g7)) _ _ dn) dy⟩
     have gA:G7 A=none:=I8.gf _ _ qN
     have oA:∀ b,qHc ρ6 σ4 b->b≠A:=fun b hb z=>by
      subst z
      have:=(I8.out b hb).2
      rw [qN] at this
      cases this
     refine ⟨fun j s e=>?_,fun b o e=>?_,fun b o e=>?_,fun b o e=>?_,I8.nd,fun b hb=>?_,fun b us e=>?ft⟩
     case ft=>
      by_cases z:b=A
      ·rw [z,qN] at e
       cases e
      ·rw [qS z] at e
       exact I8.ft b us (by rw [qS z]; exact e)
     ·obtain ⟨o,q1,q2⟩:=I8.ok j s e
      refine ⟨o,q1,q2.up (qX.refl _) fun us a ws z1 z2 z3=>?_⟩
      subst z1 z2
      rw [qS (oA a ⟨j,us,e,q1⟩)]
      exact z3
     ·rw [qS]
      ·exact I8.g _ _ e
      ·intro z; subst z; rw [gA] at e; cases e
     ·by_cases z:b=A
      ·subst z; rw [qN] at e ⊢; exact e
      ·rw [qS z] at e ⊢
       exact I8.f _ _ (by rw [qS z]; exact e)
     ·by_cases z:b=A
      ·subst z; exact gA
      ·rw [qS z] at e
       exact I8.gf _ _ (by rw [qS z]; exact e)
     ·refine ⟨(I8.out b hb).1,?_⟩
      have:=(I8.out b hb).2
      rw [qS (oA b hb)] at this ⊢
      exact this
   rcases yy with ⟨e,dx⟩ | ⟨p,o,hp,e,dx⟩
   ·subst e
    exact fin G2 (qX.refl _) I4 dx
   ·subst e
    obtain ⟨I3,g3⟩:=I4.newG (o:=o) hp
    exact fin _ g3 I3 dx
  ·have e:i=xs.length:=by omega
   subst e
   refine .inl ⟨s2 rfl,?_⟩
   have gA:G2 A=none:=I4.gf _ _ qN
   have I5:SI G2 F2 ρ2 σ2 H2:=⟨I4.ok,I4.g,(fr1 ys).trans I4.f,fun b o e=>I4.gf _ _ (fr1 ys _ _ e),I4.nd,fun b hb=>⟨(I4.out b hb).1,(fr1 ys).free (I4.out b hb).2⟩,fun b us e=>I4.ft b us (fr1 ys _ _ e)⟩
   have ok5:jn G2 F2 ρ2 σ2 H2 (.l ds) (.ref A):=⟨A,_,rfl,hHA,⟨ys,rfl,dn⟩,gA,FA,fun hb=>by
    have:=(I4.out A hb).2
    rw [qN] at this
    cases this⟩
   have I6:=I5.sel (n:=fr.length) k2 h0 (xP lv.symm)
   have ok6:=jn.sel (n:=fr.length) (d:=.lst ds) rfl ok5 k2 h0
   have es:sel own.length (bnd own fr) fr.length ρ2=ρ2.drop own.length:=qDX jl2
   rw [es,<- hF2] at I6 ok6
   have I7:=I.unfocus oks g2 I6
   have ok7:=jn.unfocus (d:=.lst ds) I oks rfl ok6
   exact q G2 H2 _ _ _ (en ds ρ2 p2) g2 I7 ok7
theorem qGR {own:List Str} {fr:List (Str×Nat)} {wi:TI} {g:TG} {tt:TT} {te:TE} {ρ:List Sl} {Φ:Rs->List Sl->Prop} (h:wpI wi ρ fun xs ρ1=>known ρ1 fr/\(isB (Jt fr)).Nodup/\∃ Jv:Nat->List D->List Sl->Prop,Jv 0 [] (inner own fr ρ1)/\
  (∀ k ys ρc,Jv k ys ρc->ys.length<sizeLine/\ρc.length=own.length+fr.length)/\
  (∀ k x ys ρc,xs[k]? = some x->Jv k ys ρc->wpG (bnd own fr) g (.d x) ρc fun ρ2=>wpT tt ρ2 fun b ρ3=>if b=true then wpV te ρ3 fun r ρ4=>∃ d,r.it=some d/\Jv (k+1) (ys++[d]) ρ4 else Jv (k+1) ys ρ3)/\
  ∀ ys ρc,Jv xs.length ys ρc->Φ (.l ys) (outer own fr ρ1 ρc)):wpV (qEb own fr wi g tt te) ρ Φ:=by
 intro G F σ H I Q q
 refine h G F σ H I _ fun G1 H1 J xs ρ1 ⟨kn,nd,Jv,j0,jl,st,en⟩ g1 I1 S A hA=>?_
 refine qCF I1 kn nd (fun i G' H' a b c=>S i G' H' a b ((YM I1).trans c)) Jv j0 jl st en (q.at g1 fun _ _ z=>z) A hA
theorem qD3 {own:List Str} {fr:List (Str×Nat)} {g:TG} {tt:TT} {te:TE} {ρ:List Sl} {Φ:Rs->List Sl->Prop} {K:wJ} {s:Nat} {xs:List D} (hs:ρ[s]? = some (.l xs)) (hn:Rs.b s∉Jt fr) (kn:known ρ fr) (nd:(isB (Jt fr)).Nodup) (Jv:Nat->List D->List Sl->Prop) (j0:Jv 0 [] (inner own fr ρ))
  (jl:∀ k ys ρc,Jv k ys ρc->ys.length<sizeLine/\ρc.length=own.length+fr.length)
  (st:∀ k x ys ρc,xs[k]? = some x->Jv k ys ρc->wpG (bnd own fr) g (.d x) ρc fun ρ2=>wpT tt ρ2 fun b ρ3=>if b=true then wpV te ρ3 fun r ρ4=>∃ d,r.it=some d/\Jv (k+1) (ys++[d]) ρ4 else Jv (k+1) ys ρ3)
  (en:∀ ys ρc,Jv xs.length ys ρc->Φ (.l ys) (outer own fr ρ ρc)):wpV (qEb own fr (qKA K (qIn s)) g tt te) ρ Φ:=by
 intro G F σ H I Q q
 obtain ⟨o,e,a,_,rfl,k1,ws,rfl,k2⟩:=I.ok s _ hs
 have ka:kept ρ σ (Jt fr) a:=⟨s,.li xs,hs,e,hn⟩
 refine ⟨_,e,a,rfl,.inl ⟨⟨ws,SqL.of k1⟩,fun A hA=>?_⟩⟩
 refine qCF I kn nd (qCn (fun G' H' _ _ c=>SqL.of (c a _ (by rw [JV ka]; exact k1))) k2) Jv j0 jl st en q A hA
noncomputable def qMn (wi:TI) (ρ:List Sl) (Φ:List D->List Sl->Prop):Prop:=∀ G F σ H,SI G F ρ σ H->∀ R:It->Hp->Prop,(∀ G' H' J xs ρ',Φ xs ρ'->qX G G'->SI G' F ρ' σ H'->Src J G' (fun _=>none) xs->R J H')->wi σ H R
theorem qKd {ρ:List Sl} {Φ:List D->List Sl->Prop} {K:wJ} {tl:TE} (h:wpV tl ρ fun r ρ1=>∃ d xs,r.it=some d/\sq d=some xs/\Φ xs ρ1):qMn (qKA K tl) ρ Φ:=by
 intro G F σ H I R q
 refine h G F σ H I _ fun G0 H1 v x ρ1 ⟨d,xs,e1,e2,h1⟩ g0 I0 ok=>?_
 obtain ⟨G1,g1',I1,dn⟩:=qIY I0 ok e1
 have go:=fun J S=>q G1 H1 J xs ρ1 h1 (g0.trans g1') I1 S
 cases d with
 | tup l=>
  obtain ⟨a,ws,rfl,k1,k2⟩:=dn
  obtain rfl:l=xs:=zQ e2
  exact ⟨a,rfl,.inr ⟨⟨ws,SqT.of (I1.g _ _ k1)⟩,go _ (qFP k1 k2)⟩⟩
 | lst l=>
  obtain ⟨a,ws,rfl,k1,k2⟩:=dn
  obtain rfl:l=xs:=zQ e2
  exact ⟨a,rfl,.inl ⟨⟨ws,SqL.of (I1.g _ _ k1)⟩,go _ (qCn (fun G' H' g gh _=>SqL.of (gh _ _ (g _ _ k1))) k2)⟩⟩
 | non=>cases e2
 | bl _=>cases e2
 | int _=>cases e2
 | str _=>cases e2
 | dic=>cases e2
section
variable {G F H:Hp} {ρ:List Sl} {σ:St} {A:Addr}
theorem SI.begun (I:SI G F ρ σ H) (hA:H A=none):SI G (upd F A (.lst [])) ρ σ (upd H A (.lst [])):=by
 have I3:=I.new (o:=.lst []) hA
 refine ⟨I3.ok,I3.g,fun b o e=>?_,fun b o e=>?_,I3.nd,fun b hb=>⟨(I3.out b hb).1,?_⟩,fun b us e=>?_⟩
 ·by_cases z:b=A
  ·subst z; rw [qN] at e ⊢; exact e
  ·rw [qS z] at e; exact I3.f _ _ e
 ·by_cases z:b=A
  ·subst z; exact I.g.free hA
  ·rw [qS z] at e; exact I3.gf _ _ e
 ·have nb:b≠A:=fun z=>by
   subst z
   obtain ⟨i,zs,q1,q2⟩:=hb
   obtain ⟨o,p1,a,ws,z,p2,p3⟩:=I.ok i _ q1
   rw [q2] at p1
   cases p1
   cases z
   rw [hA] at p2
   cases p2
  rw [qS nb]
  exact (I3.out b hb).2
 ·by_cases z:b=A
  ·rw [z,qN] at e; cases e
  ·rw [qS z] at e; exact I3.ft b us e
theorem SI.longer {ys:List V} {y:V} (I:SI G (upd F A (.lst ys)) ρ σ H):SI G (upd F A (.lst (ys++[y]))) ρ σ (upd H A (.lst (ys++[y]))):=by
 have gA:G A=none:=I.gf _ _ qN
 have oA:∀ b,qHc ρ σ b->b≠A:=fun b hb z=>by
  subst z
  have:=(I.out b hb).2
  rw [qN] at this
  cases this
 have far:∀{b:Addr} {o:HO},b≠A->upd F A (.lst (ys++[y])) b=some o->upd F A (.lst ys) b=some o:=fun z e=>by rw [qS z] at e ⊢; exact e
 refine ⟨fun j s e=>?_,fun b o e=>?_,fun b o e=>?_,fun b o e=>?_,I.nd,fun b hb=>⟨(I.out b hb).1,?_⟩,fun b us e=>?_⟩
 ·obtain ⟨o,q1,q2⟩:=I.ok j s e
  refine ⟨o,q1,q2.up (qX.refl _) fun us a ws z1 z2 z3=>?_⟩
  subst z1 z2
  rw [qS (oA a ⟨j,us,e,q1⟩)]
  exact z3
 ·rw [qS fun z=>by subst z; rw [gA] at e; cases e]
  exact I.g _ _ e
 ·by_cases z:b=A
  ·subst z; rw [qN] at e ⊢; exact e
  ·rw [qS z]; exact I.f _ _ (far z e)
 ·by_cases z:b=A
  ·subst z; exact gA
  ·exact I.gf _ _ (far z e)
 ·have:=(I.out b hb).2
  rw [qS (oA b hb)] at this ⊢
  exact this
 ·by_cases z:b=A
  ·rw [z,qN] at e; cases e
  ·exact I.ft b us (far z e)
end
theorem qL6 {own:List Str} {fr:List (Str×Nat)} {wi:TI} {g:TG} {tt:TT} {wi1:TI} {g1:TG} {tt1:TT} {te:TE} {ρ:List Sl} {Φ:Rs->List Sl->Prop} (h:wpI wi ρ fun xs ρ1=>known ρ1 fr/\(isB (Jt fr)).Nodup/\∃ Jv:Nat->List D->List Sl->Prop,Jv 0 [] (inner own fr ρ1)/\
  (∀ k ys ρc,Jv k ys ρc->ρc.length=own.length+fr.length)/\
  (∀ k x ys ρc,xs[k]? = some x->Jv k ys ρc->wpG (bnd own fr) g (.d x) ρc fun ρ2=>wpT tt ρ2 fun b ρ3=>if b=true then qMn wi1 ρ3 fun us ρ4=>∃ Lv:Nat->List D->List Sl->Prop,Lv 0 ys ρ4/\(∀ j ys ρc,Lv j ys ρc->ys.length<sizeLine)/\
    (∀ j u ys ρc,us[j]? = some u->Lv j ys ρc->wpG (bnd own fr) g1 (.d u) ρc fun ρ5=>wpT tt1 ρ5 fun b ρ6=>if b=true then wpV te ρ6 fun r ρ7=>∃ d,r.it=some d/\Lv (j+1) (ys++[d]) ρ7 else Lv (j+1) ys ρ6)/\
    ∀ ys ρc,Lv us.length ys ρc->Jv (k+1) ys ρc
   else Jv (k+1) ys ρ3)/\
  ∀ ys ρc,Jv xs.length ys ρc->Φ (.l ys) (outer own fr ρ1 ρc)):wpV (qMp own fr wi g tt wi1 g1 tt1 te) ρ Φ:=by
 intro G F σ H I Q q
 refine h G F σ H I _ fun G1 H1 J xs ρ1 ⟨kn,nd,Jv,j0,jl,st,en⟩ gg1 I1 S A hA=>?_
 obtain ⟨vs,oks,ev⟩:=qC1 I1 kn
 have If:=I1.focus oks nd
 have lv:vs.length=fr.length:=by rw [oks.len]; unfold Jt; rw [wC]
 have as_eq:(Jt fr).map (qHV ρ1)=fr.map fun p=>(ρ1[p.2]?).getD .u:=by unfold Jt; rw [zM]; rfl
 rw [as_eq] at If
 have I2:=If.ext own.length 0 (by rw [wC,lv])
 have e1:(zJ own.length Sl.u++((fr.map fun p=>(ρ1[p.2]?).getD .u)++zJ 0 Sl.u))=inner own fr ρ1:=by unfold inner; rw [vV,yZ]
 have e2:(zJ own.length none++(vs.map some++zJ 0 none))=jC own fr σ:=by
  unfold jC
  rw [vV,yZ,ev]
  congr 1
  rw [List.map_const']
 rw [e1,e2] at I2
 have S2:Src J G1 (foc H1 F ρ1 σ (Jt fr)) xs:=fun i G' H' a b c=>S i G' H' a b ((YM I1).trans c)
 generalize hF2:foc H1 F ρ1 σ (Jt fr)=F2 at S2 If I2
 have FA:F2 A=none:=If.f.free hA
 have h0:∀(j:Nat) (v:V),vs[j]? = some v->(jC own fr σ)[own.length+j]? = some (some v):=fun j v e=>by
  rw [<- e2,zW (by rw [yJ]; omega),yJ,xE,vV,yZ,wL,e]
  rfl
 have fr1:∀ ys,qX F2 (upd F2 A (.lst ys)):=fun ys=>qX.new FA
 refine ⟨fun i m ys σ' H'=>m=xs.length - i/\i<=xs.length/\∃ G' ds ρc,Jv i ds ρc/\qX G1 G'/\Kp (bnd own fr) (jC own fr σ) σ'/\SI G' (upd F2 A (.lst ys)) ρc σ' H'/\qY G' ds ys,⟨xs.length,by simp,zZ _,G1,[],_,j0,qX.refl _,Kp.refl _ _,I2.begun hA,rfl⟩,?_⟩
 rintro i m ys σ2 H2 ⟨rfl,hi,G2,ds,ρ2,p2,g2,k2,I4,dn⟩
 have hHA:H2 A=some (.lst ys):=I4.f _ _ qN
 refine ⟨hHA,?_⟩
 obtain ⟨s1,s2⟩:=S2 i G2 H2 g2 I4.g ((fr1 ys).trans I4.f)
 by_cases hlt:i<xs.length
 ·obtain ⟨go,yl⟩:=s1 hlt
  refine .inr ⟨go,fun ys' σ' H'=>∃ G' ds ρc,Jv (i+1) ds ρc/\qX G1 G'/\Kp (bnd own fr) (jC own fr σ) σ'/\SI G' (upd F2 A (.lst ys')) ρc σ' H'/\qY G' ds ys',fun ys' σ' H' p'=>⟨xs.length - (i+1),by omega,rfl,hlt,p'⟩,fun x H' y=>?_⟩
  obtain ⟨d,ed,yy⟩:=yl x H' y
  have fin:∀ G3,qX G2 G3->SI G3 (upd F2 A (.lst ys)) ρ2 σ2 H'->Den G3 d x->g x σ2 H' fun σ4 H4=>tt σ4 H4 fun b H5=>if b=true then qGc wi1 g1 tt1 te A ys σ4 H5 (fun ys' σ' H'=>∃ G' ds ρc,Jv (i+1) ds ρc/\qX G1 G'/\Kp (bnd own fr) (jC own fr σ) σ'/\SI G' (upd F2 A (.lst ys')) ρc σ' H'/\qY G' ds ys')
    else ∃ G' ds ρc,Jv (i+1) ds ρc/\qX G1 G'/\Kp (bnd own fr) (jC own fr σ) σ4/\SI G' (upd F2 A (.lst ys)) ρc σ4 H5/\qY G' ds ys:=fun G3 g3 I3 dx=>by
   refine st i d ds ρ2 ed p2 G3 (upd F2 A (.lst ys)) σ2 H' x I3 dx _ ?_
   intro G4 σ4 H4 ρ4 h4 g4 k4 I5
   refine h4 G4 _ σ4 H4 I5 _ fun G5 H5 b ρ5 h5 g5 I6=>?_
   have gg:=((g2.trans g3).trans g4).trans g5
   have dn5:=qY.mono ((g3.trans g4).trans g5) _ _ dn
   cases b with
   | false=>
    rw [if_neg wQ] at h5 ⊢
    exact ⟨G5,ds,ρ5,h5,gg,k2.trans k4,I6,dn5⟩
   | true=>
    rw [if_pos rfl] at h5 ⊢
    refine h5 G5 _ σ4 H5 I6 _ fun G6 H6 J1 us ρ6 ⟨Lv,l0,ll,ls,le⟩ g6 I7 T=>?_
    refine ⟨fun j m zs σ' H'=>m=us.length - j/\j<=us.length/\∃ G' es ρc,Lv j es ρc/\qX G6 G'/\Kp (bnd own fr) (jC own fr σ) σ'/\SI G' (upd F2 A (.lst zs)) ρc σ' H'/\qY G' es zs,⟨us.length,by simp,zZ _,G6,ds,ρ6,l0,qX.refl _,k2.trans k4,I7,qY.mono g6 _ _ dn5⟩,?_⟩
    rintro j m zs σ7 H7 ⟨rfl,hj,G7,es,ρ7,p7,g7,k7,I8,dn7⟩
    refine ⟨I8.f _ _ qN,?_⟩
    obtain ⟨t1,t2⟩:=T j G7 H7 g7 I8.g fun _ _ e=>by cases e
    by_cases hlj:j<us.length
    ·obtain ⟨go',yl'⟩:=t1 hlj
     refine .inr ⟨go',by rw [dn7.length]; exact ll j es ρ7 p7,fun zs' σ' H'=>∃ G' es ρc,Lv (j+1) es ρc/\qX G6 G'/\Kp (bnd own fr) (jC own fr σ) σ'/\SI G' (upd F2 A (.lst zs')) ρc σ' H'/\qY G' es zs',fun zs' σ' H' p'=>⟨us.length - (j+1),by omega,rfl,hlj,p'⟩,fun x H' y=>?_⟩
     obtain ⟨d',ed',yy'⟩:=yl' x H' y
     have fin':∀ G8,qX G7 G8->SI G8 (upd F2 A (.lst zs)) ρ7 σ7 H'->Den G8 d' x->g1 x σ7 H' fun σ8 H8=>tt1 σ8 H8 fun b H9=>if b=true then te σ8 H9 fun y H10=>H10 A=some (.lst zs)/\∃ G' es ρc,Lv (j+1) es ρc/\qX G6 G'/\Kp (bnd own fr) (jC own fr σ) σ8/\SI G' (upd F2 A (.lst (zs++[y]))) ρc σ8 (upd H10 A (.lst (zs++[y])))/\qY G' es (zs++[y])
       else ∃ G' es ρc,Lv (j+1) es ρc/\qX G6 G'/\Kp (bnd own fr) (jC own fr σ) σ8/\SI G' (upd F2 A (.lst zs)) ρc σ8 H9/\qY G' es zs:=fun G8 g8 I9 dx=>by
      refine ls j d' es ρ7 ed' p7 G8 _ σ7 H' x I9 dx _ ?_
      intro G9 σ9 H9 ρ9 h9 g9 k9 I10
      refine h9 G9 _ σ9 H9 I10 _ fun G10 H10 b ρ10 h10 g10 I11=>?_
      have g':=(g8.trans g9).trans g10
      cases b with
      | false=>
       rw [if_neg wQ] at h10 ⊢
       exact ⟨G10,es,ρ10,h10,g7.trans g',k7.trans k9,I11,qY.mono g' _ _ dn7⟩
      | true=>
       rw [if_pos rfl] at h10 ⊢
       refine h10 G10 _ σ9 H10 I11 _ fun G11 H11 y r ρ11 ⟨d2,ed2,h11⟩ g11 I12 ok=>?_
       obtain ⟨G12,g12,I13,dy⟩:=qIY I12 ok ed2
       have g3':=g'.trans (g11.trans g12)
       exact ⟨I13.f _ _ qN,G12,es++[d2],ρ11,h11,g7.trans g3',k7.trans k9,I13.longer,qY.snoc (qY.mono g3' _ _ dn7) dy⟩
     rcases yy' with ⟨e,dx⟩ | ⟨p,o,hp,e,dx⟩
     ·subst e
      exact fin' G7 (qX.refl _) I8 dx
     ·subst e
      obtain ⟨I9,g9⟩:=I8.newG (o:=o) hp
      exact fin' _ g9 I9 dx
    ·have e:j=us.length:=by omega
     subst e
     exact .inl ⟨t2 rfl,G7,es,ρ7,le es ρ7 p7,(gg.trans g6).trans g7,k7,I8,dn7⟩
  rcases yy with ⟨e,dx⟩ | ⟨p,o,hp,e,dx⟩
  ·subst e
   exact fin G2 (qX.refl _) I4 dx
  ·subst e
   obtain ⟨I3,g3⟩:=I4.newG (o:=o) hp
   exact fin _ g3 I3 dx
 ·have e:i=xs.length:=by omega
  subst e
  refine .inl ⟨s2 rfl,?_⟩
  have gA:G2 A=none:=I4.gf _ _ qN
  have I5:SI G2 F2 ρ2 σ2 H2:=⟨I4.ok,I4.g,(fr1 ys).trans I4.f,fun b o e=>I4.gf _ _ (fr1 ys _ _ e),I4.nd,fun b hb=>⟨(I4.out b hb).1,(fr1 ys).free (I4.out b hb).2⟩,fun b us e=>I4.ft b us (fr1 ys _ _ e)⟩
  have ok5:jn G2 F2 ρ2 σ2 H2 (.l ds) (.ref A):=⟨A,_,rfl,hHA,⟨ys,rfl,dn⟩,gA,FA,fun hb=>by
   have:=(I4.out A hb).2
   rw [qN] at this
   cases this⟩
  have I6:=I5.sel (n:=fr.length) k2 h0 (xP lv.symm)
  have ok6:=jn.sel (n:=fr.length) (d:=.lst ds) rfl ok5 k2 h0
  have es:sel own.length (bnd own fr) fr.length ρ2=ρ2.drop own.length:=qDX (jl _ _ _ p2)
  rw [es,<- hF2] at I6 ok6
  have I7:=I1.unfocus oks g2 I6
  have ok7:=jn.unfocus (d:=.lst ds) I1 oks rfl ok6
  exact (q.at gg1 fun _ _ z=>z) G2 H2 _ _ _ (en ds ρ2 p2) g2 I7 ok7
section
variable {ρ:List Sl} {Φ:Rs->List Sl->Prop} {K:wJ} {t:TA} {i:Nat} {xs:List D} {rL rT:V->List V->Hp->VK->Prop} {to:TE}
theorem qJW (h:wpV to ρ fun o ρ1=>(∃ xs,rd ρ1 o=some (.lst xs)/\wpA t ρ1 fun rs ρ2=>j4 (fun vs H Q=>∃ v vt,vs=v::vt/\rL v vt H Q) (o::rs) ρ2 Φ)\/(∃ xs,rd ρ1 o=some (.tup xs)/\wpA t ρ1 fun rs ρ2=>j4 (fun vs H Q=>∃ v vt,vs=v::vt/\rT v vt H Q) (o::rs) ρ2 Φ)):wpV (qMx K rL rT to t) ρ Φ:=by
 intro G F σ H I Q q
 refine h G F σ H I _ fun G1 H1 v o ρ1 h0 g1 I1 ok1=>?_
 rcases h0 with ⟨xs,hx,h1⟩ | ⟨xs,hx,h1⟩
 ·obtain ⟨a,ws,rfl,s1,d1⟩:=QA (K:=K) I1 ok1 hx
  refine .inl ⟨⟨a,ws,rfl,s1⟩,?_⟩
  refine h1 G1 (hold o (.ref a) H1 F) σ H1 (I1.held ok1) _ fun G2 H2 vs rs ρ2 h2 g2 I2 oks=>?_
  obtain ⟨I3,ok3⟩:=jy.cons ok1 g2 I2 oks
  obtain ⟨v,vt,e,z⟩:=h2 G2 F σ H2 (.ref a::vs) I3 ok3 Q (q.at (g1.trans g2) fun _ _ p=>p)
  cases e
  exact z
 ·obtain ⟨a,ws,rfl,s1,d1⟩:=jP I1 ok1 hx
  refine .inr ⟨⟨a,ws,rfl,I1.g _ _ s1⟩,?_⟩
  refine h1 G1 (hold o (.ref a) H1 F) σ H1 (I1.held ok1) _ fun G2 H2 vs rs ρ2 h2 g2 I2 oks=>?_
  obtain ⟨I3,ok3⟩:=jy.cons ok1 g2 I2 oks
  obtain ⟨v,vt,e,z⟩:=h2 G2 F σ H2 (.ref a::vs) I3 ok3 Q (q.at (g1.trans g2) fun _ _ p=>p)
  cases e
  exact z
theorem qHS {o r:Rs} {d:D} {j:Nat} (ho:rdE ρ o=some (.lst xs)) (hr:rdE ρ r=some d) (hd:qL xs<=50) (hj:Y0 d xs j) (h:Φ (.d (.int j)) ρ) (hd2:qs d<=50:=by first | exact yT rfl | assumption):j4 (fun vs H Q=>∃ v vt,vs=v::vt/\qGK v vt H Q) [o,r] ρ Φ:=by
 intro G F σ H vs I oks Q q
 obtain ⟨v,w,rfl,o1,o2⟩:=Ja oks
 have d1:=(jz I o1 ho).1
 obtain ⟨a,ws,e,_⟩:=id d1
 subst e
 exact ⟨_,_,rfl,a,xs,d,w,j,rfl,rfl,d1,(jz I o2 hr).1,hd,hd2,hj,QE q I h⟩
theorem qDv {o r:Rs} {d:D} {j:Nat} (ho:rdE ρ o=some (.tup xs)) (hr:rdE ρ r=some d) (hd:qL xs<=50) (hj:Y0 d xs j) (h:Φ (.d (.int j)) ρ) (hd2:qs d<=50:=by first | exact yT rfl | assumption):j4 (fun vs H Q=>∃ v vt,vs=v::vt/\qFt v vt H Q) [o,r] ρ Φ:=by
 intro G F σ H vs I oks Q q
 obtain ⟨v,w,rfl,o1,o2⟩:=Ja oks
 have d1:=(jz I o1 ho).1
 obtain ⟨a,ws,e,_⟩:=id d1
 subst e
 exact ⟨_,_,rfl,a,xs,d,w,j,rfl,rfl,d1,(jz I o2 hr).1,hd,hd2,hj,QE q I h⟩
theorem qCC {H:Hp}:∀{xs:List D} {vs:List V} (n:Nat),qY H xs vs->qY H (xs.take n) (vs.take n)
 | xs,vs,0,h=>by rw [UP,UP]; exact rfl
 | [],vs,n+1,h=>by cases (show vs=[] from h); exact rfl
 | x::xs,vs,n+1,h=>by
  obtain ⟨w,r,rfl,h1,h2⟩:=h
  exact ⟨w,r.take n,rfl,h1,qCC n h2⟩
theorem qBc {H:Hp}:∀{xs:List D} {vs:List V} (n:Nat),qY H xs vs->qY H (xs.drop n) (vs.drop n)
 | xs,vs,0,h=>h
 | [],vs,n+1,h=>by cases (show vs=[] from h); exact rfl
 | x::xs,vs,n+1,h=>by
  obtain ⟨w,r,rfl,h1,h2⟩:=h
  exact qBc n h2
theorem qJF {ta:TA} (h:wpA ta ρ fun rs ρ1=>∃ j:Int,(∃ r,rs=[r]/\rd ρ1 r=some (.int j))/\j<=1000/\-(2 ^ 62)<=j/\Φ (.l ((wV j.toNat).map fun k:Nat=>D.int k)) ρ1):wpV (tCB qDC (qH3 (tCB qCx ta) qLp)) ρ Φ:=by
 intro G F σ H I Q q
 refine h G F σ H I _ fun G1 H1 vs rs ρ1 ⟨j,⟨x,er,ex⟩,l1,l2,h1⟩ g1 I1 oks=>?_
 subst er
 obtain ⟨v,rfl,ok⟩:=jx oks
 cases qZ I1 ok ex
 refine ⟨j,rfl,fun p hp=>⟨p,j,rfl,qN,l1,l2,fun l hl=>?_⟩⟩
 have I2:=I1.new (o:=.rng 0 j) hp
 refine QQ (q.at g1 fun _ _ z=>z) I2 ?_ h1 hl
 have e1:((wV j.toNat).map fun k:Nat=>D.int k)=((wV j.toNat).map fun k:Nat=>(k:Int)).map D.int:=by rw [zM]; rfl
 have e2:((wV j.toNat).map fun k:Nat=>V.int k)=((wV j.toNat).map fun k:Nat=>(k:Int)).map V.int:=by rw [zM]; rfl
 rw [e1,e2]
 exact qY.ints _ _
theorem qDa {H:Hp}:∀{xs:List D} {vs:List V},qY H xs vs->qY H xs.reverse vs.reverse
 | [],vs,h=>by cases (show vs=[] from h); exact rfl
 | x::xs,vs,h=>by
  obtain ⟨w,r,rfl,h1,h2⟩:=h
  simp only [List.reverse_cons]
  exact (qDa h2).snoc h1
noncomputable def wpO (to:TO) (ρ:List Sl) (Φ:Option Int->List Sl->Prop):Prop:=∀ G F σ H,SI G F ρ σ H->∀ Q:Option Int->Hp->Prop,(∀ G' H' o ρ',Φ o ρ'->qX G G'->SI G' F ρ' σ H'->Q o H')->to σ H Q
theorem qLE {Φ:Option Int->List Sl->Prop} (h:Φ none ρ):wpO qF4 ρ Φ:=fun G F σ H I Q q=>q G H none ρ h (qX.refl _) I
theorem qKP {Φ:Option Int->List Sl->Prop} {te:TE} (h:wpV te ρ fun r ρ1=>∃ i,rd ρ1 r=some (.int i)/\Φ (some i) ρ1):wpO (qK3 te) ρ Φ:=fun G F σ H I Q q=>
 h G F σ H I _ fun G1 H1 v r ρ1 ⟨i,e,h1⟩ g1 I1 ok=>⟨i,qZ I1 ok e,q G1 H1 (some i) ρ1 h1 g1 I1⟩
noncomputable def cutD (xs:List D) (lo hi:Option Int):List D:=(xs.drop (HT.sIx xs.length 0 lo)).take (HT.sIx xs.length xs.length hi - HT.sIx xs.length 0 lo)
theorem qDN {H:Hp} {xs:List D} {vs:List V} {lo hi:Option Int} (h:qY H xs vs):qY H (cutD xs lo hi) (qHJ vs lo hi):=by
 unfold cutD qHJ
 rw [h.length]
 exact qCC _ (qBc _ h)
noncomputable def SlV (r:V->Option Int->Option Int->Hp->VK->Prop) (x:Rs) (lo hi:Option Int) (ρ:List Sl) (Φ:Rs->List Sl->Prop):Prop:=∀ G F σ H v,SI G F ρ σ H->jn G F ρ σ H x v->∀ Q:VK,Fin G F σ Φ Q->r v lo hi H Q
theorem qNT {r:V->Option Int->Option Int->Hp->VK->Prop} {te:TE} {tl th:TO} (h:wpV te ρ fun x ρ1=>wpO tl ρ1 fun lo ρ2=>wpO th ρ2 fun hi ρ3=>SlV r x lo hi ρ3 Φ):wpV (tSl r te tl th) ρ Φ:=by
 intro G F σ H I Q q
 refine h G F σ H I _ fun G1 H1 v x ρ1 h1 g1 I1 ok1=>?_
 refine h1 G1 (hold x v H1 F) σ H1 (I1.held ok1) _ fun G2 H2 lo ρ2 h2 g2 I2=>?_
 refine h2 G2 _ σ H2 I2 _ fun G3 H3 hi ρ3 h3 g3 I3=>?_
 obtain ⟨I4,ok4⟩:=SI.freed ok1 (g2.trans g3) I3
 exact h3 G3 F σ H3 v I4 ok4 Q (q.at ((g1.trans g2).trans g3) fun _ _ z=>z)
theorem qM1 {x:Rs} {lo hi:Option Int} (hx:rd ρ x=some (.lst xs)) (h:Φ (.l (cutD xs lo hi)) ρ):SlV (qMK K) x lo hi ρ Φ:=fun G F σ H v I ok Q q=>by
 obtain ⟨a,ws,rfl,s1,d1⟩:=QA (K:=K) I ok hx
 exact ⟨a,ws,rfl,s1,fun p hp=>QQ q I (qDN d1) h hp⟩
end
noncomputable def qGh:List D->List D->List D
 | x::xs,y::ys=>.tup [x,y]::qGh xs ys
 | _,_=>[]
theorem qJg {i a b:Nat} (h:i=min a b):a=i\/(i<a/\b=i):=(Nat.lt_or_ge b a).elim (fun q=>have e:=h.trans (VU (vI q)); .inr ⟨yR (xP e) q,e.symm⟩) fun q=>.inl (h.trans (ZW q)).symm
theorem qDb:∀(xs ys:List D),(qGh xs ys).length=min xs.length ys.length
 | [],ys=>by simp [qGh]
 | x::xs,[]=>by simp [qGh]
 | x::xs,y::ys=>(congrArg (· + 1) (qDb xs ys)).trans (Nat.add_min_add_right ..).symm
theorem qDD:∀{xs ys:List D} {i:Nat} {x y:D},xs[i]? = some x->ys[i]? = some y->(qGh xs ys)[i]? = some (.tup [x,y])
 | [],ys,i,x,y,h1,h2=>by simp at h1
 | a::xs,[],i,x,y,h1,h2=>by simp at h2
 | a::xs,b::ys,0,x,y,h1,h2=>by simp at h1 h2; subst h1 h2; rfl
 | a::xs,b::ys,i+1,x,y,h1,h2=>by
  show (qGh xs ys)[i]? = _
  exact qDD (by simpa using h1) (by simpa using h2)
theorem qJ3 {l1 l2:Addr} {us ws:List V} {xs ys:List D} {G F:Hp} (h1:G l1=some (.tup us)) (h2:qY G xs us) (k1:G l2=some (.tup ws)) (k2:qY G ys ws):Src (Itz l1 l2) G F (qGh xs ys):=by
 intro i G' H' g gh _
 have e1:H' l1=some (.tup us):=gh _ _ (g _ _ h1)
 have e2:H' l2=some (.tup ws):=gh _ _ (g _ _ k1)
 have a1:=h2.length
 have a2:=k2.length
 rw [qDb,<- a1,<- a2]
 refine ⟨fun hi=>?_,fun hi=>⟨us,ws,e1,e2,qJg hi⟩⟩
 have i1:i<us.length:=zV hi (Nat.min_le_left ..)
 have i2:i<ws.length:=zV hi (Nat.min_le_right ..)
 refine ⟨⟨us,ws,us[i],ws[i],e1,e2,wA i1,wA i2⟩,fun x H2 y=>?_⟩
 obtain ⟨T,rfl,hT,hall⟩:=y
 have hH:=hall us ws _ _ e1 e2 (wA i1) (wA i2)
 obtain ⟨d1,p1,p2⟩:=h2.get (wA i1)
 obtain ⟨d2,q1,q2⟩:=k2.get (wA i2)
 refine ⟨_,qDD p1 q1,.inr ⟨T,_,hT,hH,T,_,rfl,qN,?_⟩⟩
 have gT:G' T=none:=gh.free hT
 exact ⟨_,_,rfl,Den.mono (g.trans (qX.new gT)) _ _ p2,_,_,rfl,Den.mono (g.trans (qX.new gT)) _ _ q2,rfl⟩
theorem qLQ {ρ:List Sl} {Φ:List D->List Sl->Prop} {ta:TA} (h:wpA ta ρ fun rs ρ1=>∃ xs ys,(∃ r r',rs=[r,r']/\rd ρ1 r=some (.tup xs)/\rd ρ1 r'=some (.tup ys))/\Φ (qGh xs ys) ρ1):wpI (qM6 ta) ρ Φ:=by
 intro G F σ H I R q
 refine h G F σ H I _ fun G1 H1 vs rs ρ1 ⟨xs,ys,⟨x,x',er,ex,ex'⟩,h1⟩ g1 I1 oks=>?_
 subst er
 obtain ⟨v,v',rfl,ok,ok'⟩:=Ja oks
 obtain ⟨a,us,rfl,s1,d1⟩:=jP I1 ok ex
 obtain ⟨b,ws,rfl,s2,d2⟩:=jP I1 ok' ex'
 exact ⟨a,b,rfl,⟨us,I1.g _ _ s1⟩,⟨ws,I1.g _ _ s2⟩,q G1 H1 _ _ ρ1 h1 g1 I1 (qJ3 s1 d1 s2 d2)⟩
noncomputable def qEM (fr:List (Str×Nat)) (ρ:List Sl):List Sl:=fr.map fun p=>(ρ[p.2]?).getD .u
theorem set_same {ρ:List Sl} {i:Nat} {s:Sl} (h:ρ[i]? = some s):ρ.set i s=ρ:=by
 apply xW
 intro j
 rw [zL]
 by_cases z:i=j
 ·subst z
  rw [if_pos rfl,if_pos (wI.mp h).1,h]
 ·rw [if_neg z]
theorem qA8:∀(fr:List (Str×Nat)) (ρ:List Sl),wb ρ (Jt fr) (qEM fr ρ)=ρ
 | [],ρ=>rfl
 | p::fr,ρ=>by
  show (match ρ[p.2]? with | some (.o _)=>wb (ρ.set p.2 ((qEM (p::fr) ρ).headD .u)) (Jt fr) (qEM (p::fr) ρ).tail | _=>wb ρ (Jt fr) (qEM (p::fr) ρ).tail)=ρ
  have e:(qEM (p::fr) ρ).tail=qEM fr ρ:=rfl
  rw [e]
  cases h:ρ[p.2]? with
  | none=>exact qA8 fr ρ
  | some s=>
   cases s with
   | o xs=>
    have e2:(qEM (p::fr) ρ).headD .u=.o xs:=by
     show (ρ[p.2]?).getD .u=_
     rw [h]; rfl
    rw [e2,set_same h]
    exact qA8 fr ρ
   | _=>exact qA8 fr ρ
theorem qAf {own:List Str} {fr:List (Str×Nat)} {ρ os:List Sl} (h:os.length=own.length):outer own fr ρ (os++qEM fr ρ)=ρ:=by
 unfold outer
 rw [<- h,List.drop_left]
 exact qA8 fr ρ
section
variable {α:Type} {own:List Str} {fr:List (Str×Nat)} {g:TG} {tt:TT} {te:TE} {ρ:List Sl} {Φ:Rs->List Sl->Prop}
noncomputable def qJj (own:List Str) (fr:List (Str×Nat)) (g:TG) (tt:TT) (te:TE) (ρ:List Sl) (x:D) (b:Bool) (d:D):Prop:=∀ os:List Sl,os.length=own.length->wpG (bnd own fr) g (.d x) (os++qEM fr ρ) fun ρ2=>
 (∃ os',os'.length=own.length/\ρ2=os'++qEM fr ρ)/\wpT tt ρ2 (fun c ρ3=>c=b/\ρ3=ρ2)/\(b=true->wpV te ρ2 fun r ρ4=>r.it=some d/\ρ4=ρ2)
theorem wpG.mono {B:List Nat} {g:TG} {r:Rs} {ρ:List Sl} {Φ Ψ:List Sl->Prop} (h:wpG B g r ρ Φ) (e:∀ ρ',Φ ρ'->Ψ ρ'):wpG B g r ρ Ψ:=fun G F σ H v I ok N n=>h G F σ H v I ok N fun G1 σ1 H1 ρ1 p g1 k1 I1=>n G1 σ1 H1 ρ1 (e _ p) g1 k1 I1
noncomputable def qEj (own:List Str) (fr:List (Str×Nat)) (ρ:List Sl) (l:List α) (p:α->Bool) (f:α->D):Nat->List D->List Sl->Prop:=fun k ys ρc=>ys=(((l.take k).filter p).map f)/\∃ os,os.length=own.length/\ρc=os++qEM fr ρ
theorem qBm {enc:α->D} {l:List α} {p:α->Bool} {f:α->D} (st:∀ a∈l,qJj own fr g tt te ρ (enc a) (p a) (f a)):∀ k x ys ρc,(l.map enc)[k]? = some x->qEj own fr ρ l p f k ys ρc->wpG (bnd own fr) g (.d x) ρc fun ρ2=>wpT tt ρ2 fun b ρ3=>if b=true then wpV te ρ3 fun r ρ4=>∃ d,r.it=some d/\qEj own fr ρ l p f (k+1) (ys++[d]) ρ4 else qEj own fr ρ l p f (k+1) ys ρ3:=by
 rintro k x ys ρc hx ⟨rfl,os,ho,rfl⟩
 rw [wL] at hx
 cases ha:l[k]? with
 | none=>rw [ha] at hx; cases hx
 | some a=>
  rw [ha] at hx
  have hx':enc a=x:=zQ hx
  subst hx'
  refine (st a (vN ha) os ho).mono ?_
  rintro ρ2 ⟨⟨os',ho',rfl⟩,h1,h2⟩
  refine h1.mono ?_
  rintro c ρ3 ⟨rfl,rfl⟩
  have et:(l.take (k+1)).filter p=(l.take k).filter p++if p a=true then [a] else []:=by
   rw [kQ,ha,List.filter_append]
   congr 1
   cases hpa:p a <;> simp [hpa]
  cases hp:p a with
  | true=>
   rw [if_pos rfl]
   refine (h2 hp).mono ?_
   rintro r ρ4 ⟨e1,rfl⟩
   refine ⟨_,e1,?_,os',ho',rfl⟩
   rw [et,if_pos hp,yD]
   rfl
  | false=>
   rw [if_neg wQ]; refine ⟨?_,os',ho',rfl⟩
   rw [et,hp,if_neg wQ,yZ]
theorem qDe {l:List α} {p:α->Bool} {f:α->D} (hl:l.length<sizeLine):∀ k ys ρc,qEj own fr ρ l p f k ys ρc->ys.length<sizeLine/\ρc.length=own.length+fr.length:=by
 rintro k ys ρc ⟨rfl,os,ho,rfl⟩
 constructor
 ·rw [wC]
  refine yR (yL _ _) ?_
  rw [vK]
  omega
 ·rw [wR,ho]
  unfold qEM
  rw [wC]
theorem qy {wi:TI} (enc:α->D) (l:List α) (p:α->Bool) (f:α->D) (h:wpI wi ρ fun xs ρ1=>xs=l.map enc/\l.length<sizeLine/\known ρ1 fr/\(isB (Jt fr)).Nodup/\(∀ a∈l,qJj own fr g tt te ρ1 (enc a) (p a) (f a))/\Φ (.l ((l.filter p).map f)) ρ1):wpV (qEb own fr wi g tt te) ρ Φ:=by
 refine qGR fun G F σ H I R q=>h G F σ H I R fun G1 H1 J xs ρ1 ⟨e,hl,kn,nd,st,fin⟩ g1 I1 S=>q G1 H1 J xs ρ1 ?_ g1 I1 S
 subst e
 refine ⟨kn,nd,qEj own fr ρ1 l p f,⟨rfl,_,yJ,rfl⟩,qDe hl,qBm st,?_⟩
 rintro ys ρc ⟨rfl,os,ho,rfl⟩
 rw [qAf ho,wC,xO]
 exact fin
theorem JH {K:wJ} {s:Nat} (enc:α->D) (l:List α) (p:α->Bool) (f:α->D) (hs:ρ[s]? = some (.l (l.map enc))) (hn:(isB (Jt fr)).contains s=false) (hl:l.length<sizeLine) (kn:known ρ fr) (nd:(isB (Jt fr)).Nodup) (st:∀ a∈l,qJj own fr g tt te ρ (enc a) (p a) (f a)) (fin:Φ (.l ((l.filter p).map f)) ρ):wpV (qEb own fr (qKA K (qIn s)) g tt te) ρ Φ:=by
 have hn':Rs.b s∉Jt fr:=fun z=>by
  rw [xV,decide_eq_false_iff_not] at hn
  exact hn (JL.mpr z)
 refine qD3 hs hn' kn nd (qEj own fr ρ l p f) ⟨rfl,_,yJ,rfl⟩ (qDe hl) (qBm st) ?_
 rintro ys ρc ⟨rfl,os,ho,rfl⟩
 rw [qAf ho,wC,xO]
 exact fin
theorem qT {l:List α}:l.filter (fun _=>true)=l:=List.filter_eq_self.mpr fun _ _=>rfl
theorem Jz {os:List Sl} (h:os.length=1):∃ a,os=[a]:=List.length_eq_one_iff.mp h
theorem qMq {k:Nat}:∀{os:List Sl},os.length=k+1->∃ a r,os=a::r/\r.length=k
 | a::r,h=>⟨a,r,rfl,Nat.succ.inj h⟩
theorem qFn {os:List Sl} (h:os.length=2):∃ a b,os=[a,b]:=(qMq h).elim fun a e=>e.elim fun _ g=>(Jz g.2).elim fun b z=>⟨a,b,g.1.trans (congrArg _ z)⟩
theorem qNY {os:List Sl} (h:os.length=3):∃ a b c,os=[a,b,c]:=(qMq h).elim fun a e=>e.elim fun _ g=>(qFn g.2).elim fun b z=>z.elim fun c y=>⟨a,b,c,g.1.trans (congrArg _ y)⟩
end
theorem qDl {α β:Type} (f:α->D) (g:β->D):∀(l:List α) (m:List β),qGh (l.map f) (m.map g)=(l.zip m).map fun p=>.tup [f p.1,g p.2]
 | [],_=>rfl
 | _::_,[]=>rfl
 | a::l,b::m=>by
  simp only [uW,qGh,List.zip_cons_cons,qDl f g l m]
theorem qDq (lo:Int) (n:Nat):qCO lo n=(wV n).map fun k:Nat=>D.int (lo+k):=rfl
theorem qMN {B:List Nat} {ρ:List Sl} {r:Rs} {to ti:TE} {Φ:List Sl->Prop} (h:∃ d,r.it=some d/\wpV to ρ fun o ρ2=>∃ i,o=.b i/\wpV ti ρ2 fun ix ρ3=>∃ k j xs,rd ρ3 ix=some (.int k)/\ρ3[i]? = some (.l xs)/\ixN xs.length k=some j/\Φ (ρ3.set i (.l (xs.set j d)))):wpG B (qMj to ti qLh) r ρ Φ:=by
 intro G F σ H v I ok N n
 obtain ⟨d,ed,h1⟩:=h
 obtain ⟨G1',g1',I1',dn⟩:=qIY I ok ed
 refine h1 G1' F σ H I1' _ fun G2 H2 w o ρ2 ⟨i,eo,h2⟩ g2 I2 ok2=>?_
 subst eo
 refine h2 G2 F σ H2 I2 _ fun G3 H3 z ix ρ3 ⟨k,j,xs,e1,e2,e3,h3⟩ g3 I3 ok3=>?_
 obtain ⟨o',e4,a,_,e5,h4,vs,rfl,h5⟩:=I3.ok i _ e2
 have ok2':σ[i]? = some (some w):=ok2
 rw [ok2'] at e4
 cases e4
 cases e5
 refine ⟨a,vs,k,j,rfl,qZ I3 ok3 e1,h4,by rw [h5.length]; exact e3,?_⟩
 exact n G3 σ _ _ h3 ((g1'.trans g2).trans g3) (Kp.refl _ _) (I3.put e2 ok2 (qDZ j h5 (Den.mono (g2.trans g3) _ _ dn)))
theorem qAl {α:Type} (x:α) (l:List α):atI (x::l) 0=some x:=JI (j:=0) rfl
noncomputable def qKr (ρ:List Sl) (fr:List (Str×Nat)):Bool:=fr.all fun p=>match ρ[p.2]? with | some .u=>false | some _=>true | none=>false
theorem qM {ρ:List Sl} {fr:List (Str×Nat)} (h:qKr ρ fr=true):known ρ fr:=fun p hp=>by
 have q:=(vT.mp h) p hp
 cases e:ρ[p.2]? with
 | none=>rw [e] at q; cases q
 | some s=>
  rw [e] at q
  cases s with
  | u=>cases q
  | d x=>exact ⟨_,rfl,by intro z; cases z⟩
  | o x=>exact ⟨_,rfl,by intro z; cases z⟩
  | f _ x=>exact ⟨_,rfl,by intro z; cases z⟩
theorem szl {n:Nat} (h:n<=1000):n<=sizeLine:=vI (qI h)
theorem Qd {α:Type} {f:α->D} {k:Nat} (h:∀ a,qs (f a)<=k):∀ l:List α,qL (l.map f)<=k
 | []=>zZ _
 | a::l=>by
  show max (qs (f a)) (qL (l.map f))<=k
  have:=h a
  have:=Qd h l
  omega
theorem Yl {α:Type} [DecidableEq α] {f:α->D} (h:∀ a b,dEq (f a) (f b)=decide (a=b)) (a:α) (l:List α):dIn (f a) (l.map f)=decide (a∈l):=by
 unfold dIn
 rw [gX,uF,decide_eq_true_iff]
 constructor
 ·rintro ⟨e,he,q⟩
  obtain ⟨b,hb,rfl⟩:=zP.mp he
  rw [h,decide_eq_true_iff] at q
  exact q ▸ hb
 ·intro m
  exact ⟨f a,zP.mpr ⟨a,m,rfl⟩,qA2 _⟩
theorem Y2 (a b:Int):dEq (.int a) (.int b)=decide (a=b):=by simp [dEq,Bool.beq_eq_decide_eq]
theorem YJ {α:Type} [DecidableEq α] {f:α->D} (h:∀ a b,dEq (f a) (f b)=decide (a=b)):∀(l m:List α),QY (l.map f) (m.map f)=decide (l=m)
 | [],[]=>by simp [QY]
 | [],_::_=>by simp [QY]
 | _::_,[]=>by simp [QY]
 | a::l,b::m=>by
  show (dEq (f a) (f b) && QY (l.map f) (m.map f))=_
  rw [h,YJ h l m]
  simp
theorem qC8 (q:Int) (fs:List Int):dIn (.int q) (fs.map D.int)=decide (q∈fs):=Yl Y2 q fs
theorem jT (ns:List Int):qL (ns.map D.int)<=50:=zO (Qd (f:=D.int) (k:=0) (fun a=>wO _) ns) (by decide)
section
variable {ρ:List Sl} {Φ:Rs->List Sl->Prop} {x y:Rs} {K:wJ}
theorem qKs {q:Int} {fs:List Int} (hx:rdE ρ x=some (.int q)) (hy:rdE ρ y=some (.lst (fs.map D.int))) (h:Φ (.d (.bl (!decide (q∈fs)))) ρ):OpV (qFY true) x y ρ Φ:=by
 refine qMY hx hy (jT _) ?_
 rw [if_pos rfl,qC8]
 exact h
theorem qDk {q:Int} {fs:List Int} (hx:rdE ρ x=some (.int q)) (hy:rdE ρ y=some (.tup (fs.map D.int))) (h:Φ (.d (.bl (decide (q∈fs)))) ρ):OpV (qFY false) x y ρ Φ:=by
 refine qHi hx hy (jT _) ?_
 rw [if_neg wQ,qC8]
 exact h
theorem qF7 {q:Int} {fs:List Int} (hx:rdE ρ x=some (.int q)) (hy:rdE ρ y=some (.tup (fs.map D.int))) (h:Φ (.d (.bl (!decide (q∈fs)))) ρ):OpV (qFY true) x y ρ Φ:=by
 refine qHi hx hy (jT _) ?_
 rw [if_pos rfl,qC8]
 exact h
theorem qL3 {α:Type} [DecidableEq α] {f:α->D} {q:α} {fs:List α} (hf:∀ a b,dEq (f a) (f b)=decide (a=b)) (hd:∀ a,qs (f a)<=50) (hx:rdE ρ x=some (f q)) (hy:rdE ρ y=some (.lst (fs.map f))\/rdE ρ y=some (.tup (fs.map f))) (h:Φ (.d (.bl (decide (q∈fs)))) ρ):OpV (qFY false) x y ρ Φ:=by
 rcases hy with hy | hy
 ·refine qMY hx hy (Qd hd _) (hd2:=hd q) ?_
  rw [if_neg wQ,Yl hf]
  exact h
 ·refine qHi hx hy (Qd hd _) (hd2:=hd q) ?_
  rw [if_neg wQ,Yl hf]
  exact h
theorem qKu {α:Type} [DecidableEq α] {f:α->D} {q:α} {fs:List α} (hf:∀ a b,dEq (f a) (f b)=decide (a=b)) (hd:∀ a,qs (f a)<=50) (hx:rdE ρ x=some (f q)) (hy:rdE ρ y=some (.lst (fs.map f))\/rdE ρ y=some (.tup (fs.map f))) (h:Φ (.d (.bl (!decide (q∈fs)))) ρ):OpV (qFY true) x y ρ Φ:=by
 rcases hy with hy | hy
 ·refine qMY hx hy (Qd hd _) (hd2:=hd q) ?_
  rw [if_pos rfl,Yl hf]
  exact h
 ·refine qHi hx hy (Qd hd _) (hd2:=hd q) ?_
  rw [if_pos rfl,Yl hf]
  exact h
theorem qIE (l:List D):QY l []=l.isEmpty:=by cases l <;> simp [QY]
theorem qI1 {l:List D} (hx:rdE ρ x=some (.lst l)) (hy:rdE ρ y=some (.lst [])) (hd:qL l<=50) (h:Φ (.d (.bl !l.isEmpty)) ρ):OpV (fun x y H Q=>rNe x y H Q\/qIS true x y H Q) x y ρ Φ:=by
 refine OpV.r (qHd hx hy hd ?_)
 rw [if_pos rfl,qIE]
 exact h
end
section
variable {ρ:List Sl} {Φ:Rs->List Sl->Prop} {ta tb tc td:TE} {r r' r'':R2}
noncomputable abbrev IsD (d:D) (ρ:List Sl):Rs->List Sl->Prop:=fun x ρ1=>x=.d d/\ρ1=ρ
theorem qHq {b c:Bool} {x y z:D} (h1:wpV ta ρ (IsD x ρ)) (h2:wpV tb ρ (IsD y ρ)) (h3:OpV r (.d x) (.d y) ρ (IsD (.bl b) ρ)) (h4:b=true->wpV tc ρ (IsD z ρ)) (h5:b=true->OpV r' (.d y) (.d z) ρ (IsD (.bl c) ρ)) (h:Φ (.d (.bl (b && c))) ρ):wpV (qIm r r' ta tb tc) ρ Φ:=by
 intro G F σ H I Q q
 refine h1 G F σ H I _ fun G1 H1 v1 x1 ρ1 ⟨e1,e2⟩ g1 I1 ok1=>?_
 subst e1 e2
 refine h2 G1 F σ H1 I1 _ fun G2 H2 v2 x2 ρ2 ⟨e1,e2⟩ g2 I2 ok2=>?_
 subst e1 e2
 have ok1':jn G2 F ρ2 σ H2 (.d x) v1:=Den.mono g2 _ _ ok1
 refine h3 G2 F σ H2 v1 v2 I2 ok1' ok2 _ fun G3 H3 v3 x3 ρ3 ⟨e1,e2⟩ g3 I3 ok3=>?_
 subst e1 e2
 have e3:v3=.bl b:=ok3
 refine ⟨b,e3,?_⟩
 have gg:=(g1.trans g2).trans g3
 cases b with
 | false=>
  rw [if_neg wQ]; exact q G3 H3 _ (.d (.bl false)) ρ3 h gg I3 rfl
 | true=>
  rw [if_pos rfl]
  refine h4 rfl G3 F σ H3 I3 _ fun G4 H4 v4 x4 ρ4 ⟨e1,e2⟩ g4 I4 ok4=>?_
  subst e1 e2
  have ok2':jn G4 F ρ4 σ H4 (.d y) v2:=Den.mono (g3.trans g4) _ _ ok2
  refine h5 rfl G4 F σ H4 v2 v4 I4 ok2' ok4 _ fun G5 H5 v5 x5 ρ5 ⟨e1,e2⟩ g5 I5 ok5=>?_
  subst e1 e2
  exact q G5 H5 v5 (.d (.bl (true && c))) ρ5 h ((gg.trans g4).trans g5) I5 ok5
end
theorem qp {B:List Nat} {t u:TS} {ρ:List Sl} {Ψ:VE} (M:List Sl->Prop) (h1:wpS B t ρ { Ψ with nx:=M }) (h2:∀ ρ1,M ρ1->wpS B u ρ1 Ψ):wpS B (j9 t u) ρ Ψ:=by
 refine Yb ?_
 intro G F σ H I D n r b ct
 refine h1 G F σ H I D ?_ r b ct
 intro G1 σ1 H1 ρ1 m g1 k1 I1
 exact n G1 σ1 H1 ρ1 (h2 ρ1 m) g1 k1 I1
noncomputable def qFb (K:wJ):Sp:=fun vs H Q _=>∃(a:Addr) (ns:List Int),vs=[.ref a]/\SqL K H a (ns.map V.int)/\ns.length<=63/\∀ H',Q (.bl true) H'
theorem qKL {P:Program} {w:World} {K:wJ} {mg:Str->Option Value} {base:Heap} {qual:Str} {x:Str} {st:Stmt} {f:Addr} {fd:FuncData} {N:List Str} {k:Nat} (F:Fun K x qual st f fd) (S:qR N ["script"] (qJ st))
  (hbody:∀(cdv:Value) (A:Around) (outer:List Env) (s:Shared) (H:Hp) (E:XK),qAb k (A.deeper (PyProof.Rows.envOfC qual (qJ st) s.heap.objs.size f cdv))->
   ∃ t,PSs (qIO CX0 P w K mg base N qual (qJ st) f cdv A outer s H E).nox (Qc st) t/\
    ∀ ns:List Int,ns.length<=63->wpS [0] t (.f K (ns.map D.int)::zJ (N.length - 1) .u) { nx:=fun _=>False,rt:=fun r _=>r=.d (.bl true) }) :
  QC P w K mg base CX0 (k+1) f fd ["script"] (qFb K):=by
 refine F.ok S (fun vs H Q E h=>?_) fun cdv A outer s H vs Q E hr h=>?_
 ·obtain ⟨a,ns,rfl,_⟩:=h
  rfl
 ·obtain ⟨t,ht,hw⟩:=hbody cdv A outer s H E hr
  refine ⟨t,ht,?_⟩
  obtain ⟨a,ns,rfl,hS,hl,fin⟩:=h
  have I:SI H (fun _=>none) [.f K (ns.map D.int)] ([V.ref a].map some) H:=by
   refine ⟨fun i s e=>?_,qX.refl _,fun b o e=>(nomatch e),fun b o e=>(nomatch e),fun i j b xs ys h1=>?_,fun b ⟨i,xs,h1,_⟩=>?_,fun b xs e=>(nomatch e)⟩
   ·cases i with
    | zero=>
     cases e
     exact ⟨_,rfl,a,_,rfl,hS,qY.ints _ _⟩
    | succ i=>simp at e
   ·cases i with
    | zero=>cases h1
    | succ i=>simp at h1
   ·cases i with
    | zero=>cases h1
    | succ i=>simp at h1
  have I0:=I.ext 0 (N.length - 1) rfl
  rw [vV,vV,hX,hX] at I0
  refine hw ns hl H (fun _=>none) _ H I0 _ ?_ ?_ ?_ ?_
  ·intro G1 σ1 H1 ρ1 h1
   exact h1.elim
  ·intro G1 σ1 H1 ρ1 r v h1 g1 k1 I1 ok
   have h1':r=.d (.bl true):=h1
   subst h1'
   have e:v=.bl true:=ok
   rw [e]
   exact fin H1
  ·intro G1 σ1 H1 ρ1 h1
   exact h1.elim
  ·intro G1 σ1 H1 ρ1 h1
   exact h1.elim
noncomputable def qLa:D->Bool
 | .non=>true
 | _=>false
theorem qJt {H:Hp} {d:D} {v:V} (h:Den H d v):decide (v=.non)=qLa d:=by
 cases d with
 | non=>cases (show v=_ from h); rfl
 | bl b=>cases (show v=_ from h); rfl
 | int b=>cases (show v=_ from h); rfl
 | str b=>cases (show v=_ from h); rfl
 | tup l=>obtain ⟨a,xs,rfl,_⟩:=h; rfl
 | lst l=>obtain ⟨a,xs,rfl,_⟩:=h; rfl
 | dic=>obtain ⟨a,xs,rfl,_⟩:=h; rfl
theorem qLX {ρ:List Sl} {Φ:Rs->List Sl->Prop} {x:Rs} {d:D} (hx:rdE ρ x=some d) (h:Φ (.d (.bl (!qLa d))) ρ):OpV (fun x y H Q=>y=.non/\Q (.bl (!decide (x=.non))) H) x (.d .non) ρ Φ:=fun G F σ H vx vy I h1 h2 Q q=>by
 refine ⟨h2,?_⟩
 rw [qJt (jz I h1 hx).1]
 exact qa q I h
theorem Q6 {ρ:List Sl} {Φ:Rs->List Sl->Prop} {x y:Rs} {l:List D} (hx:rdE ρ x=some (.tup l)) (hy:rdE ρ y=some (.tup l)) (hd:qL l<=50) (h:Φ (.d (.bl false)) ρ):OpV (fun x y H Q=>rNe x y H Q\/qIS true x y H Q) x y ρ Φ:=by
 refine OpV.r (qK5 hx hy hd ?_)
 rw [if_pos rfl,Qp]
 exact h
theorem qEa {ta:TA} {ρ:List Sl} {Φ:Rs->List Sl->Prop} (h:wpA ta ρ fun rs ρ1=>∃ ns:List Int,(∃ r,rs=[r]/\rd ρ1 r=some (.tup (ns.map D.int)))/\ns.length<60/\∀ ns':List Int,ns'.Nodup->(∀ k,k∈ns'↔k∈ns)->ns'.Pairwise (·<=·)->Φ (.l (ns'.map D.int)) ρ1):wpV (qBP ta) ρ Φ:=by
 intro G F σ H I Q q
 refine h G F σ H I _ fun G1 H1 vs rs ρ1 ⟨ns,⟨r,er,hx⟩,few,k⟩ g1 I1 oks=>?_
 subst er
 obtain ⟨v,rfl,ok⟩:=jx oks
 obtain ⟨a,ws,rfl,s1,d1⟩:=jP I1 ok hx
 have e:=d1.ints_eq
 subst e
 exact ⟨a,ns,rfl,I1.g _ _ s1,few,fun ns' l h1 h2 h3 hl=>QQ (q.at g1 fun _ _ z=>z) I1 (qY.ints _ _) (k ns' h1 h2 h3) hl⟩
noncomputable def isT:Option HO->Bool
 | some (.tup _)=>true
 | _=>false
noncomputable def tups (G:Hp):Hp:=fun a=>if isT (G a)=true then G a else none
noncomputable def qEr (G F:Hp):Hp:=fun a=>if isT (G a)=true then F a else if G a=none then F a else G a
noncomputable def both (G G':Hp):Hp:=fun a=>if G' a=none then G a else G' a
theorem qBj {G:Hp} {a:Addr} {o:HO} (h:tups G a=some o):G a=some o/\isT (G a)=true:=by
 unfold tups at h
 by_cases z:isT (G a)=true
 ·rw [if_pos z] at h; exact ⟨h,z⟩
 ·rw [if_neg z] at h; cases h
theorem qK7 (G:Hp):qHx G (tups G):=fun a xs h=>by
 have:isT (G a)=true:=by rw [h]; rfl
 unfold tups
 rw [if_pos this]; exact h
theorem YN {G F:Hp} {a:Addr} {o:HO} (h:G a=some o) (n:isT (G a)≠true):qEr G F a=some o:=by
 unfold qEr
 rw [if_neg n,if_neg (by rw [h]; exact Option.some_ne_none _)]
 exact h
theorem qGV {G F:Hp} {a:Addr} (h:G a=none):qEr G F a=F a:=by
 unfold qEr
 rw [if_neg (by rw [h]; exact wQ),if_pos h]
section
variable {G F H:Hp} {as:List Sl} {σ:St}
theorem SI.thin (I:SI G F as σ H) (hd:∀(j:Nat) (s:Sl),as[j]? = some s->∃ x,s=.d x/\qAy x=true):SI (tups G) (qEr G F) as σ H:=by
 have no:∀(j:Nat) (xs:Pl),as[j]? = some (.o xs)->False:=fun j xs e=>by obtain ⟨x,z,_⟩:=hd j _ e; cases z
 refine ⟨fun j s e=>?_,fun a o e=>I.g _ _ (qBj e).1,fun a o e=>?_,fun a o e=>?_,fun j k a xs ys e=>(no j xs e).elim,fun a ⟨j,xs,e,_⟩=>(no j xs e).elim,fun a us e=>?ft⟩
 case ft=>
  unfold qEr at e
  by_cases z:isT (G a)=true
  ·rw [if_pos z] at e
   exact I.ft a us e
  ·rw [if_neg z] at e
   by_cases q:G a=none
   ·rw [if_pos q] at e
    exact I.ft a us e
   ·rw [if_neg q] at e
    rw [e] at z
    exact z rfl
 ·obtain ⟨x,rfl,tx⟩:=hd j s e
  obtain ⟨o,e1,v,e2,dn⟩:=I.ok j _ e
  exact ⟨o,e1,v,e2,Den.monoT (qK7 G) _ _ tx dn⟩
 ·by_cases z:isT (G a)=true
  ·unfold qEr at e; rw [if_pos z] at e; exact I.f _ _ e
  ·by_cases q:G a=none
   ·rw [qGV q] at e; exact I.f _ _ e
   ·unfold qEr at e; rw [if_neg z,if_neg q] at e; exact I.g _ _ e
 ·cases q:tups G a with
  | none=>rfl
  | some o'=>
   obtain ⟨q1,q2⟩:=qBj q
   unfold qEr at e
   rw [if_pos q2] at e
   rw [I.gf _ _ e] at q1
   cases q1
theorem SI.thick {G' H':Hp} {as':List Sl} (I:SI G F as σ H) (g:qX (tups G) G') (I':SI G' (qEr G F) as' σ H'):SI (both G G') F as' σ H'/\qX G (both G G')/\qX G' (both G G')/\∀ a vs,G' a=some (.lst vs)->G a=none:=by
 have s2:qX G' (both G G'):=fun a o e=>by
  unfold both
  rw [if_neg (by rw [e]; exact Option.some_ne_none _)]; exact e
 have s1:qX G (both G G'):=fun a o e=>by
  by_cases z:isT (G a)=true
  ·have:tups G a=some o:=by unfold tups; rw [if_pos z]; exact e
   exact s2 _ _ (g _ _ this)
  ·have:=I'.gf _ _ (YN (F:=F) e z)
   unfold both
   rw [if_pos this]; exact e
 have sf:qX F (qEr G F):=fun a o e=>by rw [qGV (I.gf _ _ e)]; exact e
 refine ⟨⟨fun j s e=>?_,fun a o e=>?_,fun a o e=>I'.f _ _ (sf _ _ e),fun a o e=>?_,I'.nd,fun a ha=>?_,fun a us e=>I'.ft a us (sf _ _ e)⟩,s1,s2,fun a vs e=>?_⟩
 ·obtain ⟨o,e1,e2⟩:=I'.ok j s e
  exact ⟨o,e1,e2.up s2 fun _ _ _ _ _ z=>z⟩
 ·by_cases z:G' a=none
  ·unfold both at e
   rw [if_pos z] at e
   by_cases q:isT (G a)=true
   ·have:tups G a=some o:=by unfold tups; rw [if_pos q]; exact e
    rw [g _ _ this] at z; cases z
   ·exact I'.f _ _ (YN e q)
  ·unfold both at e
   rw [if_neg z] at e
   exact I'.g _ _ e
 ·have h1:=I.gf _ _ e
  have h2:=I'.gf _ _ (sf _ _ e)
  unfold both
  rw [if_pos h2]; exact h1
 ·obtain ⟨h1,h2⟩:=I'.out a ha
  have h3:G a=none:=by
   cases q:G a with
   | none=>rfl
   | some o=>
    by_cases z:isT (G a)=true
    ·have:tups G a=some o:=by unfold tups; rw [if_pos z]; exact q
     rw [g _ _ this] at h1; cases h1
    ·rw [YN q z] at h2; cases h2
  refine ⟨?_,?_⟩
  ·unfold both; rw [if_pos h1]; exact h3
  ·rw [qGV h3] at h2; exact h2
 ·cases q:G a with
  | none=>rfl
  | some o=>
   by_cases z:isT (G a)=true
   ·have:tups G a=some o:=by unfold tups; rw [if_pos z]; exact q
    rw [g _ _ this] at e
    rw [q,zQ e] at z
    cases z
   ·rw [I'.gf _ _ (YN (F:=F) q z)] at e; cases e
end
theorem qM9:∀(ds:List D) (ρ as:List Sl),wb ρ (ds.map Rs.d) as=ρ
 | [],_,_=>rfl
 | d::ds,ρ,as=>qM9 ds ρ as.tail
theorem qKF:∀(ds:List D),isB (ds.map Rs.d)=[]
 | []=>rfl
 | d::ds=>qKF ds
noncomputable def anew (G G3:Hp) (a:Addr) (vs:List V):Hp:=fun b=>if b=a then some (.lst vs) else if isT (G3 b)=true then G3 b else if G b=none then none else G3 b
end L4
namespace L2
open PySem PySem.Spec PyProof.Rows
end L2
namespace L4
open PySem L2
end L4
namespace L2
open PySem PySem.Spec PyProof.Rows
end L2
namespace L4
open PySem L2
section
variable {ρ:List Sl} {Φ:Rs->List Sl->Prop} {K:wJ} {x y:Rs} {B:List Nat} {Ψ:VE}
theorem qFy {a b:Bool} (hx:rd ρ x=some (.bl a)) (hy:rd ρ y=some (.bl b)) (h:Φ (.d (.bl (a != b))) ρ):OpV qKf x y ρ Φ:=fun G F σ H vx vy I h1 h2 Q q=>
 ⟨a,b,JM I h1 hx,JM I (ok2 h1 h2) hy,qa q I h⟩
theorem qBJ {t:TS} {i:Nat} {xs:List D} (hi:ρ[i]? = some (.l xs)) (h:wpS B t (ρ.set i (.d (.lst xs))) Ψ):wpS B t ρ Ψ:=by
 intro G F σ H I D n r b ct
 obtain ⟨G',g,I'⟩:=I.freeze hi
 exact h G' F σ H I' D (n.at g (Kp.refl _ _)) (r.at g (Kp.refl _ _)) (b.at g (Kp.refl _ _)) (ct.at g (Kp.refl _ _))
end
section
variable {ρ:List Sl} {Φ:Rs->List Sl->Prop} {x y:Rs} {K:wJ}
theorem qIM {xs ys:List D} (hx:rd ρ x=some (.tup xs)) (hy:rd ρ y=some (.tup ys)) (hz:xs.length+ys.length<=sizeLine) (h:Φ (.d (.tup (xs++ys))) ρ):OpV (qJx K) x y ρ Φ:=fun G F σ H vx vy I h1 h2 Q q=>by
 have g1:=J0 I h1 hx (fun _ z=>by cases z)
 have g2:=J0 I (ok2 h1 h2) hy (fun _ z=>by cases z)
 obtain ⟨a,vs,rfl,s1,d1⟩:=jP I h1 hx
 obtain ⟨b,ws,rfl,s2,d2⟩:=jP I (ok2 h1 h2) hy
 refine ⟨a,b,vs,ws,rfl,rfl,SqT.of (I.g _ _ s1),SqT.of (I.g _ _ s2),by rw [d1.length,d2.length]; exact hz,fun z=>?_,fun _ z=>?_,fun _ _ p hp=>Yx q I (d1.append d2) h hp⟩
 ·have l1:=d1.length
  rw [z] at l1
  have xe:xs=[]:=gE.mp l1.symm
  subst xe
  exact qCJ q I g2 h
 ·have l2:=d2.length
  rw [z] at l2
  have ye:ys=[]:=gE.mp l2.symm
  subst ye
  rw [yZ] at h
  exact qCJ q I g1 h
theorem SlV.l {r r':V->Option Int->Option Int->Hp->VK->Prop} {lo hi:Option Int} (h:SlV r x lo hi ρ Φ):SlV (fun a l u H Q=>r a l u H Q\/r' a l u H Q) x lo hi ρ Φ:=fun G F σ H v I ok Q q=>.inl (h G F σ H v I ok Q q)
theorem SlV.r {r r':V->Option Int->Option Int->Hp->VK->Prop} {lo hi:Option Int} (h:SlV r' x lo hi ρ Φ):SlV (fun a l u H Q=>r a l u H Q\/r' a l u H Q) x lo hi ρ Φ:=fun G F σ H v I ok Q q=>.inr (h G F σ H v I ok Q q)
theorem qLA {xs:List D} {lo hi:Option Int} (hx:rd ρ x=some (.tup xs)) (h:Φ (.d (.tup (cutD xs lo hi))) ρ):SlV (qMU K) x lo hi ρ Φ:=fun G F σ H v I ok Q q=>by
 have g1:=J0 I ok hx (fun _ z=>by cases z)
 obtain ⟨a,vs,rfl,s1,d1⟩:=jP I ok hx
 refine ⟨a,vs,rfl,SqT.of (I.g _ _ s1),fun hw=>?_,fun _ p hp=>Yx q I (qDN d1) h hp⟩
 rw [d1.length] at hw
 unfold cutD at h
 rw [hw.1,hw.2,UQ,Nat.sub_zero,xO] at h
 exact qCJ q I g1 h
theorem qK0 {te ts:TE} (h:wpV te ρ fun r ρ1=>wpV ts ρ1 fun t ρ2=>rd ρ2 t=some (.int (-1))/\∃ xs,rd ρ2 r=some (.tup xs)/\Φ (.d (.tup xs.reverse)) ρ2):wpV (qLL K te ts) ρ Φ:=by
 intro G F σ H I Q q
 refine h G F σ H I _ fun G1 H1 v r ρ1 h1 g1 I1 ok1=>?_
 refine h1 G1 (hold r v H1 F) σ H1 (I1.held ok1) _ fun G2 H2 u t ρ2 ⟨e1,xs,e2,h2⟩ g2 I2 ok2=>?_
 obtain ⟨I3,ok3⟩:=SI.freed ok1 g2 I2
 refine ⟨qZ I2 ok2 e1,?_⟩
 obtain ⟨a,vs,rfl,s1,d1⟩:=jP I3 ok3 e2
 exact ⟨a,vs,rfl,SqT.of (I3.g _ _ s1),fun p hp=>Yx (q.at (g1.trans g2) fun _ _ z=>z) I3 (qDa d1) h2 hp⟩
end
section
variable {B:List Nat} {ρ:List Sl} {Ψ:VE} {te to tl tu:TE}
theorem YT {G:Hp}:∀{xs ys:List D} {vs ws:List V},qY G xs vs->qY G ys ws->qY G (xs++ys) (vs++ws)
 | [],ys,vs,ws,d,e=>by
  have z:vs=[]:=d
  subst z
  exact e
 | x::xs,ys,vs,ws,d,e=>by
  obtain ⟨v,r,rfl,h1,h2⟩:=d
  exact ⟨v,r++ws,rfl,h1,YT h2 e⟩
theorem qAd {G:Hp}:∀(k:Nat) {xs:List D} {vs:List V},qY G xs vs->qY G (xs.take k) (vs.take k)
 | 0,_,_,_=>rfl
 | k+1,[],vs,d=>by
  have e:vs=[]:=d
  subst e
  exact rfl
 | k+1,x::xs,vs,d=>by
  obtain ⟨v,r,rfl,h1,h⟩:=d
  exact ⟨v,r.take k,rfl,h1,qAd k h⟩
theorem qAJ {G:Hp}:∀(k:Nat) {xs:List D} {vs:List V},qY G xs vs->qY G (xs.drop k) (vs.drop k)
 | 0,_,_,d=>d
 | k+1,[],vs,d=>by
  have e:vs=[]:=d
  subst e
  exact rfl
 | k+1,x::xs,vs,d=>by
  obtain ⟨v,r,rfl,_,h⟩:=d
  exact qAJ k h
theorem qMG (h:wpV te ρ fun r ρ1=>∃ ys,r.it=some (.lst ys)/\wpV to ρ1 fun o ρ2=>∃ i,o=.b i/\wpV tl ρ2 fun x ρ3=>∃ a,rd ρ3 x=some (.int a)/\wpV tu ρ3 fun y ρ4=>∃ c xs,rd ρ4 y=some (.int c)/\ρ4[i]? = some (.l xs)/\0<=a/\a<=c/\c<=xs.length/\xs.length+ys.length<=sizeLine/\Ψ.nx (ρ4.set i (.l (xs.take a.toNat++ys++xs.drop c.toNat)))):wpS B (qIo te (qMw to tl tu)) ρ Ψ:=by
 intro G F σ H I D n rt b ct
 refine h G F σ H I _ fun G1 H1 v r ρ1 ⟨ys,ed,h1⟩ g1 I1 ok1=>?_
 obtain ⟨G1',g1',I1',dn⟩:=qIY I1 ok1 ed
 refine h1 G1' F σ H1 I1' _ fun G2 H2 w o ρ2 ⟨i,eo,h2⟩ g2 I2 ok2=>?_
 subst eo
 refine h2 G2 F σ H2 I2 _ fun G3 H3 z x ρ3 ⟨a,ea,h3⟩ g3 I3 ok3=>?_
 have za:=qZ I3 ok3 ea
 refine h3 G3 F σ H3 I3 _ fun G4 H4 z' y ρ4 ⟨c,xs,ec,e2,a0,ac,cl,sz,h4⟩ g4 I4 ok4=>?_
 have zc:=qZ I4 ok4 ec
 obtain ⟨o',e4,p,_,e5,h5,vs,rfl,h6⟩:=I4.ok i _ e2
 have ok2':σ[i]? = some (some w):=ok2
 rw [ok2'] at e4
 cases e4
 cases e5
 obtain ⟨b',ws,rfl,k1,k2⟩:=Den.mono ((g2.trans g3).trans g4) _ _ dn
 have ne:p≠b':=fun z=>by
  have:=(I4.out p ⟨i,_,e2,ok2⟩).1
  rw [z,k1] at this
  cases this
 refine ⟨p,b',vs,ws,a,c,rfl,rfl,za,zc,h5,I4.g _ _ k1,ne,a0,ac,by rw [h6.length]; exact cl,by rw [h6.length,k2.length]; exact sz,?_⟩
 exact n G4 σ _ _ h4 ((((g1.trans g1').trans g2).trans g3).trans g4) (Kp.refl _ _) (I4.put e2 ok2 (YT (YT (qAd _ h6) k2) (qAJ _ h6)))
end
theorem qKO {ρ:List Sl} {Φ:Rs->List Sl->Prop} {tx:TE} {ta:TA} (h:wpV tx ρ fun r ρ1=>∃ i:Int,rd ρ1 r=some (.int i)/\wpA ta ρ1 fun rs ρ2=>∃ j:Int,(∃ r',rs=[r']/\rd ρ2 r'=some (.int j))/\Φ (.d (.bl (!(decide (0<=i) && decide (i<j))))) ρ2):wpV (tOp qGM tx (tCB qCx ta)) ρ Φ:=by
 intro G F σ H I Q q
 refine h G F σ H I _ fun G1 H1 v r ρ1 ⟨i,ei,h1⟩ g1 I1 ok=>?_
 cases qZ I1 ok ei
 refine h1 G1 F σ H1 I1 _ fun G2 H2 vs rs ρ2 ⟨j,⟨r',er,ej⟩,h2⟩ g2 I2 oks=>?_
 subst er
 obtain ⟨w,rfl,okw⟩:=jx oks
 cases qZ I2 okw ej
 refine ⟨j,rfl,fun p hp=>⟨i,p,j,rfl,rfl,qN,?_⟩⟩
 exact q _ _ _ (.d (.bl _)) ρ2 h2 (g1.trans g2) (I2.new (o:=.rng 0 j) hp) rfl
section
variable {ρ:List Sl} {Φ:Rs->List Sl->Prop} {x y:Rs} {K:wJ}
theorem qEn {nss:List (List Int)} (hx:rdE ρ x=some (.tup (nss.map qDg))\/rdE ρ x=some (.lst (nss.map qDg))) (hn:2<=nss.length->∀ ns∈nss,ns≠[]) (h64:nss.length<64) (h:∀ nss':List (List Int),nss'.Perm nss->Φ (.l (nss'.map qDg)) ρ):j4 qFo [x] ρ Φ:=fun G F σ H vs I h1 Q q=>by
 obtain ⟨v,rfl,ok⟩:=jx h1
 have fin:∀{xs:List V},qY G (nss.map qDg) xs->∀(is:List Nat) (l:Addr),is.Perm (wV nss.length)->H l=none->Q (.ref l) (upd H l (.lst (is.map fun i=>xs.getD i V.non))):=fun {xs} hd is l pm hl=>by
  have lx:xs.length=nss.length:=by rw [hd.length,wC]
  refine QQ q I (qBa hd is fun i hi=>?_) (h _ ?_) hl
  ·have:=zY.mp (pm.mem_iff.mp hi)
   omega
  ·have:=pm.map (fun i=>nss.getD i [])
   rw [JB] at this
   exact this
 rcases hx with hx | hx
 ·obtain ⟨a,ws,rfl,s1,d1⟩:=(jz I ok hx).2.1 (fun _ z=>by cases z)
  exact ⟨a,ws,nss,rfl,.inl (I.g _ _ s1),qY.mono I.g _ _ d1,hn,h64,fin d1⟩
 ·obtain ⟨a,ws,rfl,s1,d1⟩:=(jz I ok hx).2.2 _ rfl
  exact ⟨a,ws,nss,rfl,.inr s1,qY.mono I.g _ _ d1,hn,h64,fin d1⟩
theorem Yi {nss:List (List Int)} (hx:rdE ρ x=some (.tup (nss.map qDg))\/rdE ρ x=some (.lst (nss.map qDg))) (hn:∀ ns∈nss,ns≠[]) (h64:nss.length<64) (h:∀ nss':List (List Int),nss'.Perm nss->Φ (.l (nss'.map qDg)) ρ):j4 qFo [x] ρ Φ:=qEn hx (fun _=>hn) h64 h
end
theorem qBt {ρ:List Sl} {Φ:Rs->List Sl->Prop} {x:Rs} {ns:List Int} (hx:rdE ρ x=some (.tup (ns.map D.int))\/rdE ρ x=some (.lst (ns.map D.int))) (hn:ns.length<64) (h:∀ ns':List Int,ns'.Perm ns->ns'.Pairwise (·<=·)->Φ (.l (ns'.map D.int)) ρ):j4 qIZ [x] ρ Φ:=fun G F σ H vs I h1 Q q=>by
 obtain ⟨v,rfl,ok⟩:=jx h1
 rcases hx with hx | hx
 ·obtain ⟨a,ws,rfl,s1,d1⟩:=(jz I ok hx).2.1 (fun _ z=>by cases z)
  rw [d1.ints_eq] at s1
  exact ⟨a,ns,rfl,.inl (I.g _ _ s1),hn,fun ns' l pm pw hl=>QQ q I (qY.ints G ns') (h ns' pm pw) hl⟩
 ·obtain ⟨a,ws,rfl,s1,d1⟩:=(jz I ok hx).2.2 _ rfl
  rw [d1.ints_eq] at s1
  exact ⟨a,ns,rfl,.inr s1,hn,fun ns' l pm pw hl=>QQ q I (qY.ints G ns') (h ns' pm pw) hl⟩
section
variable {ρ:List Sl} {Φ:Rs->List Sl->Prop} {x y:Rs} {K:wJ} {G F H:Hp} {σ:St}
noncomputable def qLj:D->Bool
 | .int _=>true | .bl _=>true | _=>false
noncomputable def qF2:D->Bool
 | .bl _=>true | _=>false
theorem qJL (K:wJ) (d:D):xT K (.type (tyD d)) (.type "int")=some (qLj d):=by cases d <;> rfl
theorem qHj (K:wJ) (d:D):xT K (.type (tyD d)) (.type "bool")=some (qF2 d):=by cases d <;> rfl
end
end L4
namespace L2
open PySem PySem.Spec PyProof.Rows PySem.W
end L2
namespace L4
open PySem L2
open PyProof.Rows (step_dedup step_length firstMet)
theorem qEI:∀ ns:List Int,(wV ns.length).map (fun i=>ns.getD i 0)=ns:=fun ns=>by
 apply xW
 intro i
 rw [wL]
 by_cases h:i<ns.length
 ·rw [hU h]
  simp [List.getD,h]
 ·rw [vH (by simpa using h),vH (by omega)]
  rfl
section
variable {ρ:List Sl} {Φ:Rs->List Sl->Prop} {x y:Rs} {K:wJ} {G F H:Hp} {σ:St} {B:List Nat} {Ψ:VE}
theorem qIN {i:Nat} {xs:List D} (hi:ρ[i]? = some (.f K xs)) (h:Φ (.d (.int xs.length)) ρ):j4 (fun xs H Q=>∃ p ys,xs=[.ref p]/\(SqL K H p ys\/SqT K H p ys)/\Q (.int ys.length) H) [.b i] ρ Φ:=fun G F σ H vs I h1 Q q=>by
 obtain ⟨v,rfl,ok⟩:=jx h1
 obtain ⟨o,e,a,ws,z,k1,k2⟩:=I.ok i _ hi
 have ok':σ[i]? = some (some v):=ok
 rw [ok'] at e
 cases e
 cases z
 refine ⟨a,ws,rfl,.inl (I.g.seq k1),?_⟩
 rw [k2.length]
 exact QE q I h
theorem qMA {i:Nat} {xs:List D} {k:Int} {d:D} (hx:ρ[i]? = some (.f K xs)) (hy:rd ρ y=some (.int k)) (hi:atI xs k=some d) (h:Φ (.d d) ρ):OpV (rIx K) (.b i) y ρ Φ:=fun G F σ H vx vy I h1 h2 Q q=>by
 obtain ⟨o,e,a,ws,z,k1,k2⟩:=I.ok i _ hx
 have ok':σ[i]? = some (some vx):=h1
 rw [ok'] at e
 cases e
 cases z
 obtain ⟨v,e1,e2⟩:=qGU k2 hi
 exact .inl ⟨a,ws,k,v,rfl,qZ I (ok2 h1 h2) hy,I.g.seq k1,e1,qCJ q I e2 h⟩
end
section
variable {ρ:List Sl} {Φ:Rs->List Sl->Prop}
theorem qFq {ta:TA} (h:wpA ta ρ fun rs ρ1=>∃ ns:List Int,(∃ r,rs=[r]/\rdE ρ1 r=some (.lst (ns.map D.int)))/\ns.length<=1000/\Φ (.d (.int (J7 ns))) ρ1):wpV (tCB qKN (qH3 (tCB qIL ta) qLp)) ρ Φ:=by
 intro G F σ H I Q q
 refine h G F σ H I _ fun G1 H1 vs rs ρ1 ⟨ns,⟨x,er,ex⟩,l1,h1⟩ g1 I1 oks=>?_
 subst er
 obtain ⟨v,rfl,ok⟩:=jx oks
 obtain ⟨a,ws,rfl,s1,d1⟩:=(jz I1 ok ex).2.2 _ rfl
 have e:=d1.ints_eq
 subst e
 refine ⟨a,ns,rfl,s1,l1,fun p hp=>⟨p,_,_,rfl,qN,?_⟩⟩
 exact QE (q.at g1 fun _ _ z=>z) (I1.new hp) h1
end
theorem qAa {ρ:List Sl} {Φ:Rs->List Sl->Prop} {x:Rs} {bs:List Bool} (hx:rdE ρ x=some (.lst (bs.map D.bl))) (h:Φ (.d (.bl (bs.any id))) ρ):j4 qLS [x] ρ Φ:=fun G F σ H vs I h1 Q q=>by
 obtain ⟨v,rfl,ok⟩:=jx h1
 obtain ⟨a,ws,rfl,s1,d1⟩:=(jz I ok hx).2.2 _ rfl
 rw [qFX d1] at s1
 exact ⟨a,bs,rfl,s1,qa q I h⟩
noncomputable def YF (G:Hp) (a:Addr):Hp:=fun b=>if b=a then none else G b
theorem qFK {G:Hp} {a:Addr}:qX (YF G a) G:=fun b o h=>by
 unfold YF at h
 by_cases z:b=a
 ·rw [if_pos z] at h; cases h
 ·rw [if_neg z] at h; exact h
theorem qA0 {G G':Hp} {a:Addr} (g:qX G G') (h:G a=none):qX G (YF G' a):=fun b o e=>by
 have z:b≠a:=fun z=>by rw [z,h] at e; cases e
 unfold YF
 rw [if_neg z]
 exact g _ _ e
theorem qC9 {G:Hp} {a:Addr} {vs:List V} (h:G a=some (.lst vs)):qHx G (YF G a):=fun b xs e=>by
 have z:b≠a:=fun z=>by rw [z,h] at e; cases e
 unfold YF
 rw [if_neg z]
 exact e
noncomputable def qGt:List Sl->Prop
 | []=>True
 | .o p::r=>(∃ xs,p=.li xs/\jw xs=true)/\qGt r
 | _::r=>qGt r
theorem qGH:∀{ρ:List Sl},qGt ρ->∀(j:Nat) (p:Pl),ρ[j]? = some (.o p)->∃ xs,p=.li xs/\jw xs=true
 | [],_,j,p,e=>by cases j <;> cases e
 | s::r,h,0,p,e=>by
  cases e
  exact h.1
 | s::r,h,j+1,p,e=>by
  have e':r[j]? = some (.o p):=e
  have h':qGt r:=by
   cases s with
   | o p=>exact h.2
   | u=>exact h
   | d x=>exact h
   | f K xs=>exact h
  exact qGH h' j p e'
theorem SI.less {G1 G F H1 H:Hp} {ρ:List Sl} {σ:St} {a:Addr} {vs:List V} (I1:SI G1 F ρ σ H1) (I:SI G F ρ σ H) (g:qX G1 G) (h1:G1 a=none) (h:G a=some (.lst vs)) (ow:qGt ρ):SI (YF G a) F ρ σ H:=by
 have g1:=qA0 g h1
 have T:=qC9 h
 have free:∀ b,G b=none->YF G a b=none:=fun b e=>by
  unfold YF
  split
  ·rfl
  ·exact e
 refine ⟨fun j s e=>?_,fun b o e=>I.g _ _ (qFK _ _ e),I.f,fun b o e=>free b (I.gf _ _ e),I.nd,fun b hb=>⟨free b (I.out b hb).1,(I.out b hb).2⟩,I.ft⟩
 obtain ⟨o,e1,e2⟩:=I.ok j s e
 refine ⟨o,e1,?_⟩
 obtain ⟨o',e3,e4⟩:=I1.ok j s e
 rw [e1] at e3
 cases e3
 cases s with
 | u=>trivial
 | d x=>
  obtain ⟨v,q1,q2⟩:=e4
  exact ⟨v,q1,Den.mono g1 _ _ q2⟩
 | f K xs=>
  obtain ⟨b,ws,q1,q2,q3⟩:=e4
  exact ⟨b,ws,q1,g1.seq q2,qY.mono g1 _ _ q3⟩
 | o p=>
  obtain ⟨xs,rfl,tx⟩:=qGH ow j p e
  obtain ⟨b,_,q1,q2,ws,rfl,q3⟩:=e2
  exact ⟨b,_,q1,q2,ws,rfl,qY.monoT T _ _ tx q3⟩
theorem qDF:∀{ds:List D},jw ds=true->∀(j:Nat) (d:D),ds[j]? = some d->qAy d=true
 | [],_,j,d,e=>by cases j <;> cases e
 | y::ys,h,j,d,e=>by
  have h':(qAy y && jw ys)=true:=h
  rw [zX] at h'
  cases j with
  | zero=>cases e; exact h'.1
  | succ j=>exact qDF h'.2 j d e
theorem qHE {B:List Nat} {ρ:List Sl} {Ψ:VE} {P:PV} {E:XK} {ta:TA} {i:Nat} (hi:B.contains i=false) (ow:qGt ρ)
  (h:wpA ta ρ fun rs ρ1=>ρ1=ρ/\∃ ds,rs=ds.map Rs.d/\jw ds=true/\P (ds.map Sl.d) fun r _=>∃ xs,r=.d (.lst xs)/\jw xs=true/\Ψ.nx (ρ.set i (.l xs))) :
  wpS B (qIo (qG7 (spV P) [] E ta) (qA9 i)) ρ Ψ:=by
 intro G F σ H I Dn n r b ct
 refine h G F σ H I _ ?_
 rintro G1 H1 vs rs ρ1 ⟨rfl,ds,rfl,td,hP⟩ g1 I1 oks
 show spV P (vs++[]) H1 _ E
 rw [yZ]
 have I2:=I1.focus oks (by rw [qKF]; exact yC)
 rw [show (ds.map Rs.d).map (qHV ρ1)=ds.map Sl.d by rw [zM]; rfl] at I2
 have allD:∀(j:Nat) (s:Sl),(ds.map Sl.d)[j]? = some s->∃ x,s=.d x/\qAy x=true:=fun j s e=>by
  rw [wL] at e
  obtain ⟨d,q1,q2⟩:=gN.mp e
  exact ⟨d,q2.symm,qDF td j d q1⟩
 refine ⟨_,_,_,_,hP,by rw [wC,oks.len,wC],I2.thin allD,?_⟩
 rintro G2 H2 v rr as2 ⟨xs,rfl,txs,hn⟩ g2 I3 okv
 obtain ⟨I4,s1,s2,fresh⟩:=I2.thick g2 I3
 have I5:=I1.unfocus oks s1 I4
 rw [qM9] at I5
 obtain ⟨a,us,rfl,ha,dvs⟩:=okv
 have ha':=s2 _ _ ha
 have I6:=I1.less I5 s1 (fresh a _ ha) ha' ow
 have fa:F a=none:=by
  cases q:F a with
  | none=>rfl
  | some o=>rw [I5.gf _ _ q] at ha'; cases ha'
 have nw:¬ qHc ρ1 σ a:=fun hb=>by
  have:=(I5.out a hb).1
  rw [ha'] at this
  cases this
 have kp:Kp B σ (σ.set i (some (.ref a))):=fun l hl=>by
  rw [zL,if_neg]
  intro z
  subst z
  rw [xV,decide_eq_false_iff_not] at hi
  exact hi hl
 exact n _ _ H2 _ hn (g1.trans (qA0 s1 (fresh a _ ha))) kp (I6.asg (i:=i) (r:=.l xs) ⟨a,_,rfl,I5.g _ _ ha',⟨us,rfl,qY.monoT (qC9 ha') _ _ txs (qY.mono s2 _ _ dvs)⟩,if_pos rfl,fa,nw⟩)
theorem qB9:∀{ρ:List Sl} (i:Nat),qGt ρ->qGt (ρ.set i .u)
 | [],i,_=>by
  cases i <;> exact trivial
 | s::r,0,h=>by
  cases s with
  | o p=>exact h.2
  | u=>exact h
  | d x=>exact h
  | f K xs=>exact h
 | s::r,i+1,h=>by
  cases s with
  | o p=>exact ⟨h.1,qB9 i h.2⟩
  | u=>exact qB9 (ρ:=r) i h
  | d x=>exact qB9 (ρ:=r) i h
  | f K xs=>exact qB9 (ρ:=r) i h
theorem qB5 {α:Type} {l:List α} {i:Nat} {x:α} (h:l[i]? = some x):l.set i x=l:=by
 apply xW
 intro k
 rw [zL]
 by_cases z:i=k
 ·subst z
  rw [if_pos rfl,if_pos (wI.mp h).1,h]
 ·rw [if_neg z]
theorem qLT {B:List Nat} {ρ:List Sl} {Ψ:VE} {te:TE} {i j:Nat} {xs:List D} (hj:B.contains j=false) (ij:i≠j) (hi:ρ[i]? = some (.l xs)) (tx:jw xs=true) (ow:qGt ρ)
  (h:wpV te (ρ.set i (.d (.lst xs))) fun r ρ1=>ρ1=ρ.set i (.d (.lst xs))/\∃ ns:List Int,r=.l (ns.map D.int)/\Ψ.nx (ρ.set j (.l (ns.map D.int)))):wpS B (qIo te (qA9 j)) ρ Ψ:=by
 intro G F σ H I Dn n r b ct
 obtain ⟨o,ha,a,_,rfl,h1,vs,rfl,h2⟩:=I.ok i _ hi
 have oa:=I.out a ⟨i,.li xs,hi,ha⟩
 have il:i<ρ.length:=(wI.mp hi).1
 obtain ⟨G',g',I'⟩:=I.freeze hi
 refine h G' F σ H I' _ ?_
 rintro G2 H2 v r ρ1 ⟨rfl,ns,rfl,hn⟩ g2 I2 ok
 obtain ⟨p,_,rfl,hp,⟨us,rfl,d2⟩,gp,fp,np⟩:=ok
 have ei:(ρ.set i (Sl.d (.lst xs)))[i]? = some (.d (.lst xs)):=by rw [zL,if_pos rfl,if_pos il]
 obtain ⟨o2,e2,v2,e3,d3⟩:=I2.ok i _ ei
 have ha2:σ[i]? = some (some (.ref a)):=ha
 rw [ha2] at e2
 cases e2
 cases e3
 obtain ⟨a',ws,e4,k1,k2⟩:=d3
 cases e4
 have I3:SI G2 F (ρ.set i .u) σ H2:=by
  have:=I2.forget i
  rwa [List.set_set] at this
 have I4:=(I.forget i).less I3 (g'.trans g2) oa.1 k1 (qB9 i ow)
 have T:=qC9 k1
 have la:YF G2 a a=none:=if_pos rfl
 have pa:p≠a:=fun z=>by rw [z,k1] at gp; cases gp
 have lp:YF G2 a p=none:=by
  unfold YF
  rw [if_neg pa]
  exact gp
 have own_u:∀ b,qHc (ρ.set i .u) σ b->qHc (ρ.set i (Sl.d (.lst xs))) σ b:=fun b ⟨k,q,h3,h4⟩=>by
  refine ⟨k,q,?_,h4⟩
  rw [zL] at h3 ⊢
  by_cases z:i=k
  ·rw [if_pos z] at h3
   split at h3
   ·cases h3
   ·cases h3
  ·rw [if_neg z] at h3 ⊢
   exact h3
 have I5:=I4.asg (i:=j) (r:=.l (ns.map D.int)) (v:=.ref p) ⟨p,_,rfl,hp,⟨us,rfl,qY.monoT T _ _ (Yy ns) d2⟩,lp,fp,fun z=>np (own_u p z)⟩
 have na:¬ qHc ((ρ.set i .u).set j (Rs.l (ns.map D.int)).sl) (σ.set j (some (.ref p))) a:=fun ⟨k,q,h3,h4⟩=>by
  rw [zL] at h3 h4
  by_cases z:j=k
  ·rw [if_pos z] at h4
   split at h4
   ·cases h4
    exact pa rfl
   ·cases h4
  ·rw [if_neg z] at h3 h4
   have:=(I4.out a ⟨k,q,h3,h4⟩)
   rw [zL] at h3
   by_cases y:i=k
   ·rw [if_pos y] at h3
    split at h3
    ·cases h3
    ·cases h3
   ·rw [if_neg y] at h3
    exact y (I.nd i k a _ _ hi h3 ha h4)
 have I6:=I5.asg (i:=i) (r:=.l xs) (v:=.ref a) ⟨a,_,rfl,I2.g _ _ k1,⟨ws,rfl,qY.monoT T _ _ tx k2⟩,la,oa.2,na⟩
 have es:(σ.set j (some (V.ref p))).set i (some (.ref a))=σ.set j (some (.ref p)):=qB5 (by rw [zL,if_neg (WD ij)]; exact ha)
 have er:((ρ.set i .u).set j (Rs.l (ns.map D.int)).sl).set i (Rs.l xs).sl=ρ.set j (.l (ns.map D.int)):=by
  rw [List.set_comm _ _ ij,List.set_set]
  exact qB5 (by rw [zL,if_neg (WD ij)]; exact hi)
 rw [es,er] at I6
 have kp:Kp B σ (σ.set j (some (.ref p))):=fun l hl=>by
  rw [zL,if_neg]
  intro z
  subst z
  rw [xV,decide_eq_false_iff_not] at hj
  exact hj hl
 exact n _ _ H2 _ hn (qA0 (g'.trans g2) oa.1) kp I6
noncomputable def qx (t u:TS):TS:=j9 t u
section
variable {B:List Nat} {ρ:List Sl} {Ψ:VE}
theorem qLJ {t u:TS} (h:wpS B t ρ { Ψ with nx:=fun ρ1=>wpS B u ρ1 Ψ }):wpS B (qx t u) ρ Ψ:=Yb h
theorem qL2 {t:TS} (h:let Φ:=Ψ; wpS B t ρ Φ):wpS B t ρ Ψ:=h
theorem nm2 {t1 t2:TS} (h:let Φ:=Ψ; let y2:=t2; let y1:=qx t1 y2; wpS B y1 ρ Φ):wpS B (j9 t1 t2) ρ Ψ:=h
theorem nm3 {t1 t2 t3:TS} (h:let Φ:=Ψ; let y3:=t3; let y2:=qx t2 y3; let y1:=qx t1 y2; wpS B y1 ρ Φ):wpS B (j9 t1 (j9 t2 t3)) ρ Ψ:=h
theorem nm4 {t1 t2 t3 t4:TS} (h:let Φ:=Ψ; let y4:=t4; let y3:=qx t3 y4; let y2:=qx t2 y3; let y1:=qx t1 y2; wpS B y1 ρ Φ):wpS B (j9 t1 (j9 t2 (j9 t3 t4))) ρ Ψ:=h
theorem nm5 {t1 t2 t3 t4 t5:TS} (h:let Φ:=Ψ; let y5:=t5; let y4:=qx t4 y5; let y3:=qx t3 y4; let y2:=qx t2 y3; let y1:=qx t1 y2; wpS B y1 ρ Φ):wpS B (j9 t1 (j9 t2 (j9 t3 (j9 t4 t5)))) ρ Ψ:=h
theorem qNP {t1 t2 t3 t4 t5 t6 t7 t8 t9 t10 t11 t12:TS} (h:let Φ:=Ψ; let y12:=t12; let y11:=qx t11 y12; let y10:=qx t10 y11; let y9:=qx t9 y10; let y8:=qx t8 y9; let y7:=qx t7 y8; let y6:=qx t6 y7; let y5:=qx t5 y6; let y4:=qx t4 y5; let y3:=qx t3 y4; let y2:=qx t2 y3; let y1:=qx t1 y2; wpS B y1 ρ Φ):wpS B (j9 t1 (j9 t2 (j9 t3 (j9 t4 (j9 t5 (j9 t6 (j9 t7 (j9 t8 (j9 t9 (j9 t10 (j9 t11 t12))))))))))) ρ Ψ:=h
theorem nf1 {t1:TS} {wi:TI} {g:TG} (h:let Φ:=Ψ; let y1:=t1; wpS B (qG3 wi g y1) ρ Φ):wpS B (qG3 wi g t1) ρ Ψ:=h
theorem nf2 {t1 t2:TS} {wi:TI} {g:TG} (h:let Φ:=Ψ; let y2:=t2; let y1:=qx t1 y2; wpS B (qG3 wi g y1) ρ Φ):wpS B (qG3 wi g (j9 t1 t2)) ρ Ψ:=h
theorem nf4 {t1 t2 t3 t4:TS} {wi:TI} {g:TG} (h:let Φ:=Ψ; let y4:=t4; let y3:=qx t3 y4; let y2:=qx t2 y3; let y1:=qx t1 y2; wpS B (qG3 wi g y1) ρ Φ):wpS B (qG3 wi g (j9 t1 (j9 t2 (j9 t3 t4)))) ρ Ψ:=h
theorem nf8 {t1 t2 t3 t4 t5 t6 t7 t8:TS} {wi:TI} {g:TG} (h:let Φ:=Ψ; let y8:=t8; let y7:=qx t7 y8; let y6:=qx t6 y7; let y5:=qx t5 y6; let y4:=qx t4 y5; let y3:=qx t3 y4; let y2:=qx t2 y3; let y1:=qx t1 y2; wpS B (qG3 wi g y1) ρ Φ):wpS B (qG3 wi g (j9 t1 (j9 t2 (j9 t3 (j9 t4 (j9 t5 (j9 t6 (j9 t7 t8)))))))) ρ Ψ:=h
theorem nw3 {t1 t2 t3:TS} {c:TT} (h:let Φ:=Ψ; let y3:=t3; let y2:=qx t2 y3; let y1:=qx t1 y2; wpS B (J8 c y1) ρ Φ):wpS B (J8 c (j9 t1 (j9 t2 t3))) ρ Ψ:=h
theorem nw6 {t1 t2 t3 t4 t5 t6:TS} {c:TT} (h:let Φ:=Ψ; let y6:=t6; let y5:=qx t5 y6; let y4:=qx t4 y5; let y3:=qx t3 y4; let y2:=qx t2 y3; let y1:=qx t1 y2; wpS B (J8 c y1) ρ Φ):wpS B (J8 c (j9 t1 (j9 t2 (j9 t3 (j9 t4 (j9 t5 t6)))))) ρ Ψ:=h
theorem nw7 {t1 t2 t3 t4 t5 t6 t7:TS} {c:TT} (h:let Φ:=Ψ; let y7:=t7; let y6:=qx t6 y7; let y5:=qx t5 y6; let y4:=qx t4 y5; let y3:=qx t3 y4; let y2:=qx t2 y3; let y1:=qx t1 y2; wpS B (J8 c y1) ρ Φ):wpS B (J8 c (j9 t1 (j9 t2 (j9 t3 (j9 t4 (j9 t5 (j9 t6 t7))))))) ρ Ψ:=h
noncomputable def Le:List Sl->List Sl->Prop
 | [],[]=>True
 | _::ρ,.u::τ=>Le ρ τ
 | s::ρ,.d x::τ=>s=.d x/\Le ρ τ
 | s::ρ,.o x::τ=>s=.o x/\Le ρ τ
 | s::ρ,.f K x::τ=>s=.f K x/\Le ρ τ
 | _,_=>False
theorem Le.at_:∀{ρ τ:List Sl},Le ρ τ->∀(i:Nat) (s:Sl),τ[i]? = some s->(s=.u/\∃ t,ρ[i]? = some t)\/ρ[i]? = some s
 | [],[],_,i,s,e=>by cases e
 | _::ρ,.u::τ,h,0,s,e=>.inl ⟨(zQ e).symm,_,rfl⟩
 | _::ρ,.u::τ,h,i+1,s,e=>Le.at_ (ρ:=ρ) (τ:=τ) h i s e
 | _::ρ,.d x::τ,h,0,s,e=>.inr ((congrArg some h.1).trans e)
 | _::ρ,.d x::τ,h,i+1,s,e=>Le.at_ (ρ:=ρ) (τ:=τ) h.2 i s e
 | _::ρ,.o x::τ,h,0,s,e=>.inr ((congrArg some h.1).trans e)
 | _::ρ,.o x::τ,h,i+1,s,e=>Le.at_ (ρ:=ρ) (τ:=τ) h.2 i s e
 | _::ρ,.f K x::τ,h,0,s,e=>.inr ((congrArg some h.1).trans e)
 | _::ρ,.f K x::τ,h,i+1,s,e=>Le.at_ (ρ:=ρ) (τ:=τ) h.2 i s e
theorem SI.le {G F H:Hp} {σ:St} {τ:List Sl} (l:Le ρ τ) (I:SI G F ρ σ H):SI G F τ σ H:=by
 have own:∀{i:Nat} {p:Pl},τ[i]? = some (.o p)->ρ[i]? = some (.o p):=fun e=>(l.at_ _ _ e).resolve_left fun z=>by cases z.1
 refine ⟨fun i s e=>?_,I.g,I.f,I.gf,fun i j a xs ys h1 h2=>I.nd i j a xs ys (own h1) (own h2),fun a ⟨i,xs,h1,h2⟩=>I.out a ⟨i,xs,own h1,h2⟩,I.ft⟩
 rcases l.at_ i s e with ⟨rfl,t,z⟩ | z
 ·obtain ⟨o,h1,_⟩:=I.ok i t z
  exact ⟨o,h1,trivial⟩
 ·exact I.ok i s z
theorem qL4 {t:TS} {τ:List Sl} (l:Le ρ τ) (h:wpS B t τ Ψ):wpS B t ρ Ψ:=fun G F σ H I=>h G F σ H (I.le l)
theorem qKg {g:TG} {d:D} {τ:List Sl} {Φ:List Sl->Prop} (l:Le ρ τ) (h:wpG B g (.d d) τ Φ):wpG B g (.d d) ρ Φ:=fun G F σ H v I ok=>h G F σ H v (I.le l) ok
end
end L4
namespace L2
open PySem
noncomputable def Has (P:Program) (w:World) (K:wJ) (mg:Str->Option Value) (base:Heap) (x:Str) (st:Stmt) (ps:List Str) (k:Nat) (sp:Sp):Prop:=∃ f fd,qMT K mg x st ps f fd/\QC P w K mg base CX0 k f fd ps sp
section
variable {X:Cx} {x:Str} {pos:Pos}
theorem qh {st:Stmt} {ps:List Str} {j k:Nat} {sp:Sp} {e:Expr} {es:List Expr} {t:TA} {p:Pos} (h:Has X.prog X.w X.K X.mg X.base x st ps k sp) (hr:qAb j X.A) (ha:PA X (e::es) t) (hk:k<=j:=by decide) (hg:Gl X x:=by rfl) (hdb:(x == ("__debug__" : Str))=false:=by decide) (he:starEach (e::es) X.env=(false,eval e X.env)::starEach es X.env:=by rfl) (hpl:(backTo pos (starEach es X.env)).any (·.1)=false:=by rfl):PE X (.Call (.Name x p) (e::es) [] pos) (qG7 sp [] E0 t):=
 let ⟨_,_,D,F⟩:=h
 qI8 F (hr.mono hk) hg D.mg D.fn.kp D.bd .nil qMQ ha hdb he hpl
theorem jA {K:wJ} {a b:Expr} {ta tb:TE} (ha:PE X a ta) (hb:PE X b tb) (hK:X.K=K:=by rfl) (hs:qFr b:=by exact fun _ _=>rfl):PE X (.Subscript a b pos) (tOp (rIx K) ta tb):=qMW (ixK hK) ha hb hs
theorem QP (i:Nat) {P:List Str} {sc:Scope} {e:Expr} {te:TE} {pos':Pos} (S:qR X.N P sc) (he:PE X e te) (hi:X.N[i]? = some x:=by rfl) (hx:Loc X.env.scope x:=by first | exact .inl rfl | exact .inr rfl) (hs:swapsWith e (some (.Name x pos')) pos.line X.env=pure false:=by rfl) (hf:X.fn x=true\/X.env.scope.names.lookup x=some .local:=by first | exact .inl rfl | exact .inr rfl | assumption):PS X (.Assign [.Name x pos'] e pos) (qIo te (qA9 i)):=qKW S.nd hi hx he hs hf
theorem qEp (i:Nat) {P:List Str} {sc:Scope} (S:qR X.N P sc) (hi:X.N[i]? = some x:=by rfl) (hx:Loc X.env.scope x:=by first | exact .inl rfl | exact .inr rfl) (hf:X.fn x=true\/X.env.scope.names.lookup x=some .local:=by first | exact .inl rfl | exact .inr rfl | assumption):PG X (.Name x pos) (qA9 i):=qEs S.nd hi hx hf
theorem jo (i:Nat) {N:List Str} {scope:Scope} {cl:List (Str×Addr)} {C:Addr} {s0:Shared} {H0:Hp} {fp:List Addr} (hi:N[i]? = some x:=by rfl) (hN:N.Nodup:=by decide +kernel) (hx:Loc (qv X N scope cl C s0 H0 fp).env.scope x:=by first | exact .inl rfl | exact .inr rfl) (hf:(qv X N scope cl C s0 H0 fp).fn x=true\/(qv X N scope cl C s0 H0 fp).env.scope.names.lookup x=some .local:=by first | exact .inl rfl | exact .inr rfl | assumption):PG (qv X N scope cl C s0 H0 fp) (.Name x pos) (qA9 i):=qEs (X:=qv X N scope cl C s0 H0 fp) hN hi hx hf
end
end L2
namespace L4
theorem ite_no {a b:Prop} (h:b):if false=true then a else b:=h
end L4
namespace L2
open PySem
end L2
namespace PySem.W.Fast
def tw16765747489298662496:=0
def tw17657894870734645408:=0
def tw8613125538234664160:=0
def tw2379218251623283936:=0
def tw5677831315623043328:=0
def tw3986708829213489472:=0
def tw1642703327887546720:=0
def tw5778411275860815296:=0
def tw1554012015781207552:=0
def tw13072097690151833120:=0
def tw9594521208967103200:=0
def tw3082658124648225632:=0
def tw3106412653424345024:=0
def tw15427979945297397889:=0
def tw13464347799754373281:=0
def tw1100897861585353921:=0
def tw11470084214209068257:=0
def tw6442332709770520801:=0
def tw12441257707307400577:=0
def tw2955264858950485441:=0
def tw12229927853058892353:=0
def tw18025844729775936065:=0
def tw2168879469879961249:=0
def tw2571917237825057537:=0
def tw8610245522962252577:=0
def tw17159182675695263617:=0
def tw585214148651643938:=0
def tw5343084101069934626:=0
def tw6580346945612797090:=0
def tw11128716156096326082:=0
def tw5671934410560721442:=0
def tw6698819043761316386:=0
def tw646349344586302178:=0
def tw14325731944106028802:=0
def tw6088351599183617858:=0
def tw15986366037357341570:=0
def tw8046522697583183746:=0
def tw3993464872382856323:=0
def tw8095669145306819747:=0
def tw13090792108082553187:=0
def tw1762333776112211363:=0
def tw9095404465858380291:=0
def tw5238918110763805411:=0
def tw1942708463451669411:=0
def tw2236356956283804804:=0
def tw7619858562071750820:=0
def tw20538511353608612:=0
def tw10734189861019967940:=0
def tw14355841552347412228:=0
def tw5660496877096695588:=0
def tw16410503035913304900:=0
def tw13282281120078487460:=0
def tw4037327020172240868:=0
def tw2989246567279764517:=0
def tw6593697143676009541:=0
def tw15517801352225547397:=0
def tw1827805371601023173:=0
def tw2927320300524455205:=0
def tw2597070254110508357:=0
def tw4747873206889011557:=0
def tw9210888729173495173:=0
def tw3747213231291197925:=0
def tw9241700663850292805:=0
def tw8216709795098344133:=0
def tw11118471691747705605:=0
def tw9332425165801455429:=0
def tw14328466343422804998:=0
def tw16312081684772846662:=0
def tw17033712038638374022:=0
def tw13773098587478583718:=0
def tw13599988980619086246:=0
def tw9391899874796592614:=0
def tw2255611621173251718:=0
def tw2922882904251435814:=0
def tw8217631407359964998:=0
def tw11235886651132118886:=0
def tw15823854492892523366:=0
def tw13044879689162422182:=0
def tw15294583526083320967:=0
def tw17597491970697029095:=0
def tw13128548879668669959:=0
def tw16783492110889573959:=0
def tw7908284444749849351:=0
def tw15342010061105868647:=0
def tw8386347194153728935:=0
def tw6112180869751392264:=0
def tw5009521368133893224:=0
def tw17199686745346204808:=0
def tw3349660286559733000:=0
def tw10431973823670056200:=0
def tw19154342683681224:=0
def tw11353603777443583560:=0
def tw527434968160918472:=0
def tw13252629920721188840:=0
def tw12614280439079966729:=0
def tw7274355166594482601:=0
def tw4844677974852569098:=0
def tw13111148888756806698:=0
def tw12607404549459196074:=0
def tw18228953757267176778:=0
def tw9403061660687797610:=0
def tw8557684585530128746:=0
def tw7249952902110428618:=0
def tw4649483656259079722:=0
def tw13330980930858993258:=0
def tw15571762089497113322:=0
def tw6227034854035420138:=0
def tw4848171324394459211:=0
def tw13939715109294280779:=0
def tw11766738495520515179:=0
def tw7148801485491799307:=0
def tw5520724715784248619:=0
def tw1802643077654319499:=0
def tw7321177927266000427:=0
def tw17615553052442525259:=0
def tw15258447824851504779:=0
def tw775932895132131019:=0
def tw16629083198758669291:=0
def tw17081148506368333900:=0
def tw14103557871034539148:=0
def tw18223131525102267596:=0
def tw2753022324618898700:=0
def tw14614704800899662124:=0
def tw10678616911021361644:=0
def tw3690478373143404172:=0
def tw16116296141037385420:=0
def tw2508367748162394860:=0
def tw3483297120168598412:=0
def tw15018477299481961388:=0
def tw11727152117523813324:=0
def tw13351773925444925453:=0
def tw10028507254117354637:=0
def tw16853722116996523437:=0
def tw2655585641834992557:=0
def tw18064074422901146541:=0
def tw16972795110690793614:=0
def tw10600272497822699982:=0
def tw10884715472608485838:=0
def tw1484080379631197646:=0
def tw5123325522448249390:=0
def tw13759265883105123118:=0
def tw923768726492261198:=0
def tw2902903471797497710:=0
def tw10139289611952075726:=0
def tw7298682985616950222:=0
def tw3834950081560837102:=0
def tw14392240410340306991:=0
def tw1467995355257813039:=0
def tw5831306339606885487:=0
def tw5761381413724462479:=0
def tw6005355817399850639:=0
def tw12699476259115683503:=0
def tw1534787252907418415:=0
def tw10116376894258515919:=0
def tw3714236858917997872:=0
def tw14066700102368837168:=0
def tw15449564025567445648:=0
def tw3801173101953341104:=0
def tw12828235791394592656:=0
def tw2724932841986654192:=0
def tw9808813484521575441:=0
def tw12742904277329270865:=0
def tw3938323400916346033:=0
def tw8940689355114384689:=0
def tw6672171651901211153:=0
def tw8451077313547736657:=0
def tw9008970875885692625:=0
def tw5310007170029993745:=0
def tw5129741289186777106:=0
def tw9490597650689680530:=0
def tw5285410129163479218:=0
def tw1429217132523964850:=0
def tw12158142291565742546:=0
def tw17738911197668775410:=0
def tw300187408222910130:=0
def tw8729372859940373202:=0
def tw12775189389652923090:=0
def tw14423900822872442642:=0
def tw12625246361710421842:=0
def tw8874585012617734002:=0
def tw10618703277925559218:=0
def tw12930258756331113491:=0
def tw14442165255243320499:=0
def tw14093433775207014579:=0
def tw5849787287962145075:=0
def tw9173975283070486899:=0
def tw1807297203360554451:=0
def tw9992443284491329043:=0
def tw7765679683720079923:=0
def tw15498856616879948339:=0
def tw1393896799747012243:=0
def tw13312172812337157779:=0
def tw138370933720841939:=0
def tw6222825910356340563:=0
def tw18365973707255871443:=0
def tw5925661634314222644:=0
def tw13121079673293532244:=0
def tw5945063193200864596:=0
def tw385026947339597268:=0
def tw4843149264147942004:=0
def tw18295858761580314292:=0
def tw18430323990513474356:=0
def tw12934793408548137876:=0
def tw30893351799275541:=0
def tw4587074457819642901:=0
def tw5546827116727195701:=0
def tw2098835747339853973:=0
def tw9152071220758544661:=0
def tw5007725143509872981:=0
def tw9952566010678353493:=0
def tw1953174121284330293:=0
def tw5195807407285502805:=0
def tw10090104487991143413:=0
def tw10162505902818484246:=0
def tw15059834861938268278:=0
def tw5374280506034038102:=0
def tw320862554942995830:=0
def tw18084117837393811286:=0
def tw18376295178146503767:=0
def tw17120008200798189847:=0
def tw2812644525100808567:=0
def tw124558877028389271:=0
def tw13463911074801605271:=0
def tw14971307801898724023:=0
def tw14466137617148810967:=0
def tw1885834546046997848:=0
def tw10341114747022273976:=0
def tw8367232589559721496:=0
def tw16873955762452546136:=0
def tw17096874560237655672:=0
def tw16341706351836837656:=0
def tw9504958524016610585:=0
def tw13155192811914054009:=0
def tw15769160421612836441:=0
def tw10997446886405644921:=0
def tw8024476016114840345:=0
def tw7716018553372951321:=0
def tw17997954692147619641:=0
def tw7310891242218682394:=0
def tw6697371517900257562:=0
def tw399998185564967674:=0
def tw3059122896113900314:=0
def tw15142065750034542490:=0
def tw5289162167371211770:=0
def tw8580106470855652379:=0
def tw6409368536850582587:=0
def tw3229426173776974939:=0
def tw6232243304876347483:=0
def tw106108503187097851:=0
def tw8771345848848500219:=0
def tw16947331770962183803:=0
def tw12579136553475410651:=0
def tw17692582166280837947:=0
def tw17894734535182708635:=0
def tw14292296729680158619:=0
def tw5725185158706171068:=0
def tw9820521050702832988:=0
def tw2805512274466003388:=0
def tw14338947488448943548:=0
def tw3630430405215966652:=0
def tw3604115359241654844:=0
def tw6995242648204393308:=0
def tw17200813199560119389:=0
def tw6687699771500940445:=0
def tw5068050813943000477:=0
def tw14152856668120566301:=0
def tw6513092142986350461:=0
def tw17247622810395227262:=0
def tw6343396987806406942:=0
def tw8831799652736533790:=0
def tw3093735198373685790:=0
def tw18219397323280279070:=0
def tw17634179763903017726:=0
def tw17427426489613740894:=0
def tw13832975073605071774:=0
def tw17459308956785598462:=0
def tw7809617823664780383:=0
def tw13294562248581460063:=0
def tw12354676138224688351:=0
def tw513726306970429759:=0
def tw11885105569908200799:=0
def tw8520054806040433151:=0
def tw11139189170116495103:=0
def tw3124671610187774751:=0
def tw89125735430539039:=0
def tw6381754040613514047:=0
def tw8265409231076759551:=0
end PySem.W.Fast
def PySem.W.Fast.tw3379642733738372785:PySem.Program:=PySem.Challenge.pw_rillturn_k51_orders_or_cuts_told
theorem PySem.W.Fast.te3379642733738372785:PySem.Challenge.pw_rillturn_k51_orders_or_cuts_told=PySem.W.Fast.tw3379642733738372785:=rfl
namespace K51
open PySem L2 L4
local macro_rules | `(tactic| walk_at "nm")=>`(tactic| first
 | ((with_reducible refine qNP ?_); intro _ _ _ _ _ _ _ _ _ _ _ _ _)
 | ((with_reducible refine nm5 ?_); intro _ _ _ _ _ _)
 | ((with_reducible refine nm4 ?_); intro _ _ _ _ _)
 | ((with_reducible refine nm3 ?_); intro _ _ _ _)
 | ((with_reducible refine nm2 ?_); intro _ _ _))
local macro_rules | `(tactic| walk_at "nf")=>`(tactic| first
 | ((with_reducible refine nf8 ?_); intro _ _ _ _ _ _ _ _ _)
 | ((with_reducible refine nf4 ?_); intro _ _ _ _ _)
 | ((with_reducible refine nf2 ?_); intro _ _ _)
 | ((with_reducible refine nf1 ?_); intro _ _))
local macro_rules | `(tactic| walk_at "nw")=>`(tactic| first
 | ((with_reducible refine nw7 ?_); intro _ _ _ _ _ _ _ _)
 | ((with_reducible refine nw6 ?_); intro _ _ _ _ _ _ _)
 | ((with_reducible refine nw3 ?_); intro _ _ _ _))
local macro_rules | `(tactic| walk_at "ps")=>`(tactic| try ((with_reducible refine qL2 ?_); intro _))
local macro_rules | `(tactic| walk_at "rf")=>`(tactic| first | rfl | decide)
local macro_rules | `(tactic| walk_at "op")=>`(tactic| first
 | ((with_reducible refine' qMi ?h1 ?h2 ?_); (case h1=>rfl); (case h2=>rfl))
 | ((with_reducible refine' OpV.l (qMi ?h1 ?h2 ?_)); (case h1=>rfl); (case h2=>rfl))
 | ((with_reducible refine' qMh ?h1 ?h2 ?_); (case h1=>rfl); (case h2=>rfl))
 | ((with_reducible refine' OpV.l (qMh ?h1 ?h2 ?_)); (case h1=>rfl); (case h2=>rfl))
 | ((with_reducible refine' OpV.l (qMe ?h1 ?h2 ?_)); (case h1=>rfl); (case h2=>rfl))
 | ((with_reducible refine' OpV.l (qL9 ?h1 ?h2 ?_)); (case h1=>rfl); (case h2=>rfl))
 | ((with_reducible refine' qLX ?h1 ?_); (case h1=>rfl))
 | ((with_reducible refine' qKs ?h1 ?h2 ?_); (case h1=>rfl); (case h2=>rfl))
 | ((with_reducible refine' qDk ?h1 ?h2 ?_); (case h1=>rfl); (case h2=>rfl))
 | ((with_reducible refine' qF7 ?h1 ?h2 ?_); (case h1=>rfl); (case h2=>rfl))
 | ((with_reducible refine' qI1 ?h1 ?h2 ?h3 ?_); (case h1=>rfl); (case h2=>rfl); (case h3=>first | exact jT _ | assumption))
 | ((with_reducible refine' OpV.r (OpV.l (qD9 ?h1 ?h2 ?h3 ?_))); (case h1=>rfl); (case h2=>rfl); (case h3=>exact szl (yT rfl)))
 | ((with_reducible refine' qKx ?h1 ?h2 ?h3 ?_); (case h1=>rfl); (case h2=>rfl); (case h3=>rfl))
 | ((with_reducible refine' qJV ?h1 ?h2 ?h3 ?_); (case h1=>rfl); (case h2=>rfl); (case h3=>rfl))
 | ((with_reducible refine' qJV ?h1 ?h2 ?h3 ?_); (case h1=>rfl); (case h2=>rfl); (case h3=>assumption))
 | ((with_reducible refine' qKx ?h1 ?h2 ?h3 ?_); (case h1=>rfl); (case h2=>rfl); (case h3=>assumption)))
local macro_rules | `(tactic| walk_at "ca")=>`(tactic| first
 | ((with_reducible refine' u_i ?h1 ?_); (case h1=>rfl))
 | ((with_reducible refine' qNj ?h1 ?h2 ?_); (case h1=>rfl); (case h2=>rfl))
 | ((with_reducible refine' qKS ?h1 ?_); (case h1=>rfl))
 | ((with_reducible refine' qKq ?h1 ?_); (case h1=>rfl))
 | ((with_reducible refine' qID ?h1 ?_); (case h1=>rfl))
 | ((with_reducible refine' qJH ?h1 ?_); (case h1=>rfl))
 | ((with_reducible refine' qIy ?h1 ?_); (case h1=>rfl))
 | ((with_reducible refine' qBD ?h1 ?h2 ?_); (case h1=>rfl); (case h2=>rfl)))
local macro_rules | `(tactic| walk_at "v1")=>`(tactic| first
 | with_reducible refine qNV ?_
 | with_reducible refine qMa ?_
 | ((with_reducible refine' qJ7 ?h ?_); (case h=>rfl))
 | ((with_reducible refine' qJM ?h ?_); (case h=>rfl))
 | ((with_reducible refine' qJA ?h ?_); (case h=>rfl))
 | with_reducible refine qJF ?_
 | with_reducible refine qNb ?_
 | with_reducible refine qNO ?_
 | (refine ⟨⟨rfl,_,(rfl:rd _ _=some (D.lst _))⟩,?_⟩)
 | with_reducible refine qKE ?_
 | with_reducible refine qMJ ?_
 | with_reducible refine qMC ?_
 | with_reducible refine qMf ?_
 | with_reducible refine qNM ?_
 | with_reducible refine qLz ?_
 | with_reducible refine qLv ?_
 | with_reducible refine qMB ?_
 | with_reducible refine qNT ?_
 | with_reducible refine qLE ?_
 | with_reducible refine qKP ?_
 | with_reducible refine qNK ?_
 | with_reducible refine v_not ?_
 | with_reducible refine qFv ?_
 | with_reducible refine qL0 ?_
 | with_reducible refine jN ?_
 | with_reducible refine qMD ?_
 | with_reducible refine qLJ ?_
 | walk_at "nm"
 | with_reducible refine Yb ?_
 | with_reducible refine Yn ?_
 | ((with_reducible refine' qm ?h ?_); (case h=>rfl))
 | ((with_reducible refine' qJ8 ?h1 ?h2 ?_); (case h1=>rfl); (case h2=>rfl))
 | with_reducible refine qJq ?_
 | with_reducible refine qMN ?_
 | (refine ⟨_,(rfl:Rs.it _=some _),?_⟩)
 | (refine ⟨_,(rfl:_=Rs.b _),?_⟩)
 | with_reducible refine qK4 ?_
 | with_reducible refine qCE ?_
 | with_reducible refine qLN ?_
 | with_reducible refine JO ?_
 | with_reducible refine qg ?_
 | walk_at "op"
 | walk_at "ca"
 | (refine ⟨_,(rfl:rd _ _=some _),?_⟩)
 | (refine ⟨_,_,(rfl:rd _ _=some _),(rfl:qLn _=some _),?_⟩)
 | (refine ⟨_,(rfl:its _=some _),szl (yT rfl),?_⟩))
local macro_rules | `(tactic| walk_at "v")=>`(tactic| (repeat (walk_at "v1")))
local macro_rules | `(tactic| walk_at "st")=>`(tactic| try dsimp only [yG,kI,Nat.reduceAdd,Nat.reduceSub,zJ,List.cons_append,hX,List.set,qEM,List.map,Rs.sl,wb,L4.outer,Jt,List.drop,inner,List.getElem?_cons_zero,ZJ,List.headD,List.tail,qHV,Option.getD])
local macro_rules | `(tactic| walk_at "call")=>`(tactic| ((with_reducible refine jf ?_); walk_at "v"; (refine ⟨of_decide_eq_true rfl,?_⟩); walk_at "st"))
local macro_rules | `(tactic| walk_at "J")=>`(tactic| first
 | ((with_reducible refine' qJY ?h1 ?h2 ?_); (case h1=>(walk_at "vJ"; exact ⟨rfl,rfl⟩)); (case h2=>(intro _; walk_at "vJ"; exact ⟨rfl,rfl⟩)))
 | ((with_reducible refine' qKT ?h1 ?h2 ?_); (case h1=>(walk_at "vJ"; exact ⟨rfl,rfl⟩)); (case h2=>(intro _; walk_at "vJ"; exact ⟨rfl,rfl⟩)))
 | ((with_reducible refine' qKl ?h1 ?h2 ?_); (case h1=>(walk_at "vJ"; exact ⟨rfl,rfl⟩)); (case h2=>(intro _; walk_at "vJ"; exact ⟨rfl,rfl⟩)))
 | ((with_reducible refine' qIb ?h1 ?h2 ?_); (case h1=>(walk_at "vJ"; exact ⟨rfl,rfl⟩)); (case h2=>(intro _; walk_at "vJ"; exact ⟨rfl,rfl⟩)))
 | ((with_reducible refine' qHq ?h1 ?h2 ?h3 ?h4 ?h5 ?_); (case h1=>(walk_at "vJ"; exact ⟨rfl,rfl⟩)); (case h2=>(walk_at "vJ"; exact ⟨rfl,rfl⟩)); (case h3=>(walk_at "vJ"; exact ⟨rfl,rfl⟩)); (case h4=>(intro _; walk_at "vJ"; exact ⟨rfl,rfl⟩)); (case h5=>(intro _; walk_at "vJ"; exact ⟨rfl,rfl⟩))))
local macro_rules | `(tactic| walk_at "vJ")=>`(tactic| (repeat (first | walk_at "v1" | walk_at "J")))
local macro_rules | `(tactic| walk_at "sc")=>`(tactic| exact ⟨rfl,rfl,rfl,by decide +kernel,rfl,by decide +kernel,by decide +kernel⟩)
local macro_rules | `(tactic| walk_at "cs")=>`(tactic| exact ⟨rfl,by decide +kernel,by decide +kernel,by repeat' (first | exact trivial | refine ⟨⟨rfl,rfl,by first | exact Or.inl rfl | exact Or.inr rfl⟩,?_⟩),by decide +kernel⟩)
local macro_rules | `(tactic| walk_at "vc")=>`(tactic| (walk_at "v"; walk_at "call"))
local macro_rules | `(tactic| walk_at "sv")=>`(tactic| (walk_at "st"; walk_at "v"))
def top (i:Nat):Stmt:=PySem.Challenge.pw_rillturn_k51_orders_or_cuts_told.main.body.getD i (.Pass ⟨0,0,0,0⟩)
structure Txt (mg:Str->Option Value):Prop where
 n_min:mg "min" = none
 n_max:mg "max" = none
 n_tuple:mg "tuple" = none
 n_range:mg "range" = none
 n_len:mg "len" = none
 n_list:mg "list" = none
 n_sorted:mg "sorted" = none
 n_any:mg "any" = none
 n_all:mg "all" = none
 n_isinstance:mg "isinstance" = none
 n_int:mg "int" = none
 n_bool:mg "bool" = none
 n_set:mg "set" = none
 n_zip:mg "zip" = none
abbrev Tie:=Int×Int
def qw (t:Tie):D:=.tup [.int t.1,.int t.2]
def jq (n:Nat) (ts:List Tie):D:=.tup [.int n,.tup (ts.map qw)]
abbrev qE (ns:List Int):List D:=ns.map D.int
theorem ofd {p:Prop} {i:Decidable p} (h:@decide p i=true):p:=@of_decide_eq_true p i h
theorem sz2 {a:Nat} (h:a<=1000):a<=sizeLine:=zO h (by rw [xS]; decide)
def qDr:D->Bool
 | .int _=>true
 | _=>false
def qIa:PV:=fun as Φ=>∃ d:D,as=[.d d]/\Φ (.d (.bl (qDr d))) as
theorem jR {b:Bool} (h:(!b)=true):b=false:=by cases b <;> first | rfl | cases h
theorem jL {b:Bool} (h:¬ (!b)=true):b=true:=by cases b <;> first | rfl | exact absurd rfl h
def mk (a b:Int):Tie:=(if b<a then b else a,if b > a then b else a)
theorem qGk (a b:Tie):dEq (qw a) (qw b)=decide (a=b):=by
 obtain ⟨a1,a2⟩:=a
 obtain ⟨b1,b2⟩:=b
 show (decide (a1=b1) && (decide (a2=b2) && true))=_
 rw [TB]
 by_cases h1:a1=b1
 ·by_cases h2:a2=b2
  ·simp [h1,h2]
  ·simp [h1,h2]
 ·simp [h1]
section
variable {P:Program} {w:World} {K:wJ} {mg:Str->Option Value} {base:Heap} {f:Addr} {fd:FuncData}
theorem qC3:qR ["thing"] ["thing"] (qJ (top 5)):=by walk_at "sc"
theorem qCV (F:Fun K "is_whole" "is_whole" (top 5) f fd) (T:Txt mg):QC P w K mg base CX0 1 f fd ["thing"] (spV qIa):=by
 refine jO F qC3 [0] (fun as Φ h=>?_) (fun cdv A outer s H E hr=>?_)
 ·obtain ⟨d,rfl,_⟩:=h
  rfl
 ·have hu:=hr.units
  refine ⟨_,(qF (qQ (qAi (qH (JF (K:=K) rfl) (by rfl) T.n_isinstance vQ (qA (pv 0) (qA (JE (v:=.ty "int") (by rfl) T.n_int WA rfl) qB))) (YR (qIF (K:=K) rfl (qH (JF (K:=K) rfl) (by rfl) T.n_isinstance vQ (qA (pv 0) (qA (JE (v:=.ty "bool") (by rfl) T.n_bool PyProof.Rows.boot_bool rfl) qB)))))))),?_⟩
  rintro as Φ ⟨d,rfl,k⟩
  walk_at "sv"
  refine v_and ?_
  walk_at "v"
  refine qBD rfl (qJL K d) ?_
  walk_at "v"
  refine Qf (fun h1=>?_) (fun h1=>?_)
  ·walk_at "v"
   refine qBD rfl (qHj K d) ?_
   walk_at "v"
   have e:(!qF2 d)=qDr d:=by cases d <;> first | rfl | cases h1
   rw [e]
   exact ⟨⟨_,rfl⟩,k⟩
  ·have e:qDr d=false:=by cases d <;> first | rfl | exact absurd rfl h1
   rw [e] at k
   exact ⟨⟨_,rfl⟩,k⟩
def jZ (q:Int×Int×Int):List D:=[.int q.1,.int q.2.1,.int q.2.2]
def qLH:PV:=fun as Φ=>∃ c:Int,as=[.d (.int c)]/\∀ q,Φ (.l (jZ q)) as
def qHW:PV:=fun as Φ=>∃(q:Int×Int×Int) (b:Int),as=[.l (jZ q),.d (.int b)]/\0<b/\b<1073741824/\∀ r q',0<=r->r<b->Φ (.d (.int r)) [.l (jZ q'),.d (.int b)]
theorem qCz:qR ["cell"] ["cell"] (qJ (top 30)):=by walk_at "sc"
theorem qCr (F:Fun K "_law_dig" "_law_dig" (top 30) f fd) (T:Txt mg):QC P w K mg base CX0 1 f fd ["cell"] (spV qLH):=by
 refine jO F qCz [0] (fun as Φ h=>?_) (fun cdv A outer s H E hr=>?_)
 ·obtain ⟨c,rfl,_⟩:=h
  rfl
 ·have hu:=hr.units
  refine ⟨_,(qF (qQ (Qq (qA (qH (Qm rfl) (by rfl) T.n_max kN (qA qD (qA (qr J6 (pv 0) (qr qIU qD qD)) qB))) (qA (qr JR (pv 0) (qr qIU qD qD)) (qA qD qB)))))),?_⟩
  rintro as Φ ⟨c,rfl,k⟩
  walk_at "sv"
  refine qAt rfl rfl ⟨by decide,by decide,by decide⟩ ?_
  walk_at "v"
  refine qAt rfl rfl ⟨by decide,by decide,by decide⟩ ?_
  refine qAt rfl rfl (by show (0:Int)<_; decide) ?_
  walk_at "v"
  exact ⟨⟨_,rfl⟩,k (_,_,_)⟩
theorem QO:qR ["pool","base","digit","mixed","stir"] ["pool","base"] (qJ (top 31)):=by walk_at "sc"
theorem qBu (F:Fun K "_law_next" "_law_next" (top 31) f fd) (T:Txt mg):QC P w K mg base CX0 1 f fd ["pool","base"] (spV qHW):=by
 refine jO F QO [0,1] (fun as Φ h=>?_) (fun cdv A outer s H E hr=>?_)
 ·obtain ⟨q,b,rfl,_⟩:=h
  rfl
 ·have hu:=hr.units
  refine ⟨_,(qC (jY (qK qFN (jA (pv 0) qD) qD (qV _))
   (qC (QP 2 QO (qr JR (jA (pv 0) qD) (pv 1)))
    (qC (qAP (qr qF5 (jA (pv 0) qD) (pv 1)) (qDw (pv 0) qD set_list))
    (qF (qQ (pv 2)))))
   qb)
   (qC (qAP (qr (Y3 (K:=K) rfl) (jA (pv 0) qD) qD) (qDw (pv 0) qD set_list))
   (qC (QP 3 QO (qr JR (qr (Y3 (K:=K) rfl) (jA (pv 0) qD) (qr opM qD (jA (pv 0) qD))) qD))
   (qC (QP 4 QO (qr JR (qr opM (qr (Y3 (K:=K) rfl) (pv 3) qD) (qr (Y3 (K:=K) rfl) (pv 3) qD)) qD))
   (qF (qQ (qr JR (qr qF5 (qr JR (qr opM (pv 4) (pv 4)) qD) qD) (pv 1)))))))),?_⟩
  rintro as Φ ⟨⟨p0,p1,p2⟩,b,rfl,b0,b1,k⟩
  walk_at "sv"
  refine Qf (fun hc=>?_) (fun hc=>?_)
  ·walk_at "v"
   refine qAt rfl rfl b0 ?_
   walk_at "v"
   refine qAt rfl rfl ⟨b0,b1⟩ ?_
   walk_at "v"
   refine ⟨_,_,_,rfl,rfl,rfl,?_⟩
   walk_at "sv"
   exact ⟨⟨_,rfl⟩,k _ (_,_,_) (kJ _ (by omega)) (uJ _ b0)⟩
  ·refine qg ?_
   walk_at "v"
   refine ⟨_,_,_,rfl,rfl,rfl,?_⟩
   walk_at "st"
   generalize hp2:p2+1=p3
   walk_at "v"
   refine OpV.l (qAt rfl rfl (.inl ⟨by decide,by decide⟩) ?_)
   walk_at "v"
   refine qAt rfl rfl (by show (0:Int)<_; decide) ?_
   walk_at "v"
   have e0:(((p0,p1,p2):Int×Int×Int).snd.fst+7919*p3) % 1000000007=(p1+7919*p3) % 1000000007:=rfl
   rw [e0]
   generalize hm:(p1+7919*p3) % 1000000007=m
   have m0:0<=m:=by rw [<- hm]; exact kJ _ (by decide)
   have m1:m<1000000007:=by rw [<- hm]; exact uJ _ (by decide)
   refine OpV.l (qAt rfl rfl (.inl ⟨by omega,by omega⟩) ?_)
   walk_at "v"
   refine qAt rfl rfl (by show (0:Int)<_; decide) ?_
   walk_at "v"
   generalize hs:(m+11)*(m+48271) % 998244353=st
   have s0:0<=st:=by rw [<- hs]; exact kJ _ (by decide)
   have s1:st<998244353:=by rw [<- hs]; exact uJ _ (by decide)
   refine OpV.l (qAt rfl rfl (.inl ⟨by omega,by omega⟩) ?_)
   walk_at "v"
   refine qAt rfl rfl (by show (0:Int)<_; decide) ?_
   walk_at "v"
   refine qAt rfl rfl ⟨by decide,by decide⟩ ?_
   walk_at "v"
   refine qAt rfl rfl b0 ?_
   exact ⟨⟨_,rfl⟩,k _ (p0,p1,p3) (kJ _ (by omega)) (uJ _ b0)⟩
def places (n:Nat):List Int:=(wV n).map fun k:Nat=>(k:Int)
theorem places_len (n:Nat):(places n).length=n:=by unfold places; rw [wC,yN]
theorem qP {n:Nat} {p:Int}:p∈places n↔0<=p/\p<(n:Int):=by
 unfold places
 rw [zP]
 constructor
 ·rintro ⟨k,hk,rfl⟩
  have:=zY.mp hk
  omega
 ·rintro ⟨h0,h1⟩
  exact ⟨p.toNat,zY.mpr (by omega),by omega⟩
def JT (n:Nat) (o:List Int):Prop:=o.Perm (places n)
theorem JT.len {n:Nat} {o:List Int} (h:JT n o):o.length=n:=by rw [h.length_eq,places_len]
theorem JT.mem {n:Nat} {o:List Int} (h:JT n o) {p:Int}:p∈o↔0<=p/\p<(n:Int):=by rw [h.mem_iff,qP]
theorem ju (n:Nat):(places n).Nodup:=by
 unfold places
 rw [vB,xX]
 exact List.Pairwise.imp (fun {a b} h z=>h (by omega)) (vB.mp (kZ (n:=n)))
theorem JT.nd {n:Nat} {o:List Int} (h:JT n o):o.Nodup:=h.nodup_iff.mpr (ju n)
def okp (n:Nat) (t:Tie):Prop:=0<=t.1/\t.1<t.2/\t.2<(n:Int)
structure qM4 (n:Nat) (ts:List Tie):Prop where
 pos:1<=n
 few:n<=9
 len:ts.length<=20
 ok:∀ t∈ts,okp n t
structure YA (n:Nat) (ts:List Tie):Prop extends qM4 n ts where
 nd:ts.Nodup
def qKC (o:List Int) (t:Tie):Tie:=mk (o.getD t.1.toNat 0) (o.getD t.2.toNat 0)
def qIp:PV:=fun as Φ=>∃(q:Int×Int×Int) (n:Nat),as=[.l (jZ q),.d (.int n)]/\n<=9/\∀ o q',JT n o->Φ (.d (.tup (qE o))) [.l (jZ q'),.d (.int n)]
def qDy:PV:=fun as Φ=>∃(n:Nat) (us:List Tie) (o:List Int),as=[.d (jq n us),.d (.tup (qE o))]/\YA n us/\JT n o/\∀ ts:List Tie,ts.Perm (us.map (qKC o))->Φ (.d (jq n ts)) as
def qMs:PV:=fun as Φ=>∃(q:Int×Int×Int) (most cap:Nat),as=[.l (jZ q),.d (.int most),.d (.int cap)]/\1<=most/\most<=9/\cap<=20/\∀ n ts q',YA n ts->n<=most->ts.length<=cap->Φ (.d (jq n ts)) [.l (jZ q'),.d (.int most),.d (.int cap)]
def qG5 (t:Tie):List Int:=[t.1,t.2]
def qEy (r:List Int):Tie:=(r.getD 0 0,r.getD 1 0)
theorem Yt {nss:List (List Int)} {us:List Tie} (h:nss.Perm (us.map qG5)):∃ ts:List Tie,nss=ts.map qG5/\ts.Perm us:=by
 refine ⟨nss.map qEy,?_,?_⟩
 ·rw [zM]
  have:∀ r∈nss,qG5 (qEy r)=r:=fun r hr=>by
   obtain ⟨t,_,rfl⟩:=zP.mp (h.mem_iff.mp hr)
   rfl
  symm
  have e:nss.map (qG5∘qEy)=nss.map id:=xI this
  rw [e,List.map_id]
 ·have:=h.map qEy
  rw [zM] at this
  have e:us.map (qEy∘qG5)=us:=List.map_id'' (fun _=>rfl) us
  rw [e] at this
  exact this
theorem QT (us:List Tie):(us.map qG5).map qDg=us.map qw:=by
 rw [zM]
 rfl
theorem qKY {n:Nat} {a b:Int} (ha:0<=a/\a<(n:Int)) (hb:0<=b/\b<(n:Int)) (ne:a≠b):okp n (mk a b):=by
 unfold okp mk
 refine ⟨?_,?_,?_⟩
 ·show 0<=(if b<a then b else a)
  split <;> omega
 ·show (if b<a then b else a)<(if b > a then b else a)
  split <;> split <;> omega
 ·show (if b > a then b else a)<(n:Int)
  split <;> omega
theorem qDH {n:Nat} {o:List Int} (O:JT n o) {a:Int} (h0:0<=a) (h1:a<(n:Int)):∃ p,atI (qE o) a=some (.int p)/\o[a.toNat]? = some p/\0<=p/\p<(n:Int):=by
 have hl:=O.len
 have hk:a.toNat<o.length:=by omega
 refine ⟨o[a.toNat],?_,wA hk,?_⟩
 ·have e:a=((a.toNat:Nat):Int):=by omega
  conv=>lhs; rw [e]
  exact JI (by rw [wL,wA hk]; rfl)
 ·exact O.mem.mp (kC hk)
theorem qKQ {n:Nat} {o:List Int} (O:JT n o) {a b p r:Int} (h0:0<=a) (h1:a<b) (h2:b<(n:Int)) (ha:o[a.toNat]? = some p) (hb:o[b.toNat]? = some r):p≠r:=by
 intro z
 subst z
 obtain ⟨ka,ea⟩:=wI.mp ha
 obtain ⟨kb,eb⟩:=wI.mp hb
 have:=(VL O.nd).mp (ea.trans eb.symm)
 omega
theorem qJn (us:List Tie) (c:Nat):cutD (us.map qw) none (some (c:Int))=(us.take c).map qw:=by
 unfold cutD
 rw [HT.sIx_none,HT.sIx_nat,UQ,Nat.sub_zero,wC,fX]
 by_cases h:c<=us.length
 ·rw [ZW h]
 ·rw [VU (by omega),uB (by rw [wC]; exact wO _),uB (by rw [wC]; omega)]
theorem Yu {α β:Type} (f:α->β):∀(l:List α) (j:Nat),(l.map f).eraseIdx j=(l.eraseIdx j).map f
 | [],_=>rfl
 | _::_,0=>rfl
 | x::l,j+1=>by
  show f x::(l.map f).eraseIdx j=f x::(l.eraseIdx j).map f
  rw [Yu f l j]
theorem qAR {α:Type}:∀(l:List α) {j:Nat} (h:j<l.length),(l[j]::l.eraseIdx j).Perm l
 | x::l,0,_=>List.Perm.refl _
 | x::l,j+1,h=>by
  have h':j<l.length:=by simpa using h
  show (l[j]::x::l.eraseIdx j).Perm (x::l)
  exact (List.Perm.swap _ _ _).trans ((qAR l h').cons x)
theorem qBN {n:Nat} {o:List Int} (O:JT n o) {a b:Int} (ha:0<=a/\a<(n:Int)) (hb:0<=b/\b<(n:Int)) (e:o.getD a.toNat 0=o.getD b.toNat 0):a=b:=by
 have hl:=O.len
 have ka:a.toNat<o.length:=by omega
 have kb:b.toNat<o.length:=by omega
 rw [wW,wW,wA ka,wA kb] at e
 have:=(VL O.nd).mp e
 omega
theorem qIT (a b:Int):mk a b=(a,b)\/mk a b=(b,a):=by
 unfold mk
 by_cases h:b<a
 ·exact .inr (by rw [if_pos h,if_neg (fK.mpr (VH h))])
 ·by_cases g:b > a
  ·exact .inl (by rw [if_neg h,if_pos g])
  ·exact .inl (by rw [if_neg h,if_neg g,Int.le_antisymm (fK.mp h) (fK.mp g)])
theorem mk_inj {a b c d:Int} (h:mk a b=mk c d):(a=c/\b=d)\/(a=d/\b=c):=by
 rcases qIT a b with e | e <;> rcases qIT c d with f | f <;> rw [e,f] at h
 ·exact .inl ⟨congrArg VI h,congrArg Prod.snd h⟩
 ·exact .inr ⟨congrArg VI h,congrArg Prod.snd h⟩
 ·exact .inr ⟨congrArg Prod.snd h,congrArg VI h⟩
 ·exact .inl ⟨congrArg Prod.snd h,congrArg VI h⟩
theorem qJo {n:Nat} {o:List Int} (O:JT n o) {t:Tie} (h:okp n t):okp n (qKC o t):=by
 obtain ⟨t1,t2,t3⟩:=h
 obtain ⟨p,_,hp2,hp3⟩:=qDH O (a:=t.1) (by omega) (by omega)
 obtain ⟨r,_,hr2,hr3⟩:=qDH O (a:=t.2) (by omega) (by omega)
 unfold qKC
 rw [wW,wW,hp2,hr2]
 exact qKY hp3 hr3 (qKQ O t1 t2 t3 hp2 hr2)
theorem qHZ {n:Nat} {o:List Int} (O:JT n o) {s t:Tie} (hs:okp n s) (ht:okp n t) (e:qKC o s=qKC o t):s=t:=by
 obtain ⟨s1,s2,s3⟩:=hs
 obtain ⟨t1,t2,t3⟩:=ht
 rcases mk_inj e with ⟨e1,e2⟩ | ⟨e1,e2⟩
 ·exact Prod.ext (qBN O ⟨s1,by omega⟩ ⟨t1,by omega⟩ e1) (qBN O ⟨by omega,s3⟩ ⟨by omega,t3⟩ e2)
 ·have:=qBN O ⟨s1,by omega⟩ ⟨by omega,t3⟩ e1
  have:=qBN O ⟨by omega,s3⟩ ⟨t1,by omega⟩ e2
  omega
theorem qBy {f:Tie->Tie}:∀{l:List Tie},(∀ s∈l,∀ t∈l,f s=f t->s=t)->l.Nodup->(l.map f).Nodup
 | [],_,_=>yC
 | x::l,h,nd=>by
  rw [zI] at nd
  show (f x::l.map f).Nodup
  rw [zI]
  refine ⟨fun hm=>?_,qBy (fun s hs t ht=>h s (wN _ hs) t (wN _ ht)) nd.2⟩
  obtain ⟨y,hy,e⟩:=zP.mp hm
  have:=h y (wN _ hy) x wF e
  exact nd.1 (this ▸ hy)
theorem qJ6 {n:Nat} {ts us:List Tie} {o:List Int} (W:YA n ts) (O:JT n o) (pm:us.Perm (ts.map (qKC o))):YA n us:={ pos:=W.pos,few:=W.few,len:=(by rw [pm.length_eq,wC]; exact W.len),ok:=fun t ht=>(let ⟨s,hs,e⟩:=zP.mp (pm.mem_iff.mp ht); e ▸ qJo O (W.ok s hs)),nd:=pm.nodup_iff.mpr (qBy (fun s hs t ht e=>qHZ O (W.ok s hs) (W.ok t ht) e) W.nd) }
theorem Je:qR ["pool","many","left"] ["pool","many"] (qJ (top 34)):=by walk_at "sc"
theorem qBI (F:Fun K "_law_order" "_law_order" (top 34) f fd) (T:Txt mg) (XAQ:Has P w K mg base "_law_next" (top 31) ["pool","base"] 1 (spV qHW)):QC P w K mg base CX0 2 f fd ["pool","many"] (spV qIp):=by
 refine jO F Je [0,1] (fun as Φ h=>?_) (fun cdv A outer s H E hr=>?_)
 ·obtain ⟨q,b,rfl,_⟩:=h
  rfl
 ·have hu:=hr.units
  refine ⟨_,(qC (QP 2 Je (qU (QM rfl) (by rfl) T.n_list uD (qA (qU jh (by rfl) T.n_range xY (qA (pv 1) qB)) qB)))
   (qF (qQ (qU (Qj (K:=K) rfl) (by rfl) T.n_tuple zU (qA (qc rfl (own:=["k"]) (fr:=[("left",2),("pool",0)]) (by walk_at "cs") (qz (by rfl) T.n_range (qA (pv 1) qB)) (fun cl C s0 H0 fp=>⟨(jo 0),jH,(qAN (K:=K) rfl vL PySem.F.slot_list_pop PySem.F.type_list_pop qDt (pv 1) (qA (qh XAQ hr (qA (pv 2) (qA (qH (qBY (K:=K) rfl) (by rfl) T.n_len yW (qA (pv 1) qB)) qB))) qB))⟩)) qB))))),?_⟩
  rintro as Φ ⟨q,n,rfl,hn,k⟩
  walk_at "sv"
  refine ⟨n,⟨_,rfl,rfl⟩,by omega,by omega,?_⟩
  rw [zT]
  have e0:((wV n).map fun k:Nat=>D.int (k:Int))=qE (places n):=by
   unfold qE places
   rw [zM]
   rfl
  rw [e0]
  refine qm rfl ?_
  walk_at "sv"
  refine qGR (qDK ?_)
  walk_at "v"
  refine ⟨n,⟨_,rfl,rfl⟩,by omega,by omega,qM rfl,of_decide_eq_true rfl,fun i ys ρc=>∃ s q lf os,ρc=[s,.l (qE lf),.l (jZ q)]/\ys=qE os/\os.length=i/\(os++lf).Perm (places n),⟨_,q,places n,[],rfl,rfl,rfl,List.Perm.refl _⟩,?_,?_,?_⟩
  ·rintro i ys ρc ⟨s,q,lf,os,rfl,rfl,hl,pm⟩
   have:=pm.length_eq
   rw [places_len,wR] at this
   exact ⟨qI (by rw [wC]; omega),rfl⟩
  ·rintro i x ys ρc hx ⟨s,q,lf,os,rfl,rfl,hl,pm⟩
   have hin:i<n:=by
    have:=(wI.mp hx).1
    rw [jJ] at this
    omega
   have pl:=pm.length_eq
   rw [places_len,wR] at pl
   walk_at "v"
   rw [if_pos rfl]
   walk_at "v"
   refine jf ?_
   walk_at "v"
   refine ⟨of_decide_eq_true rfl,?_⟩
   walk_at "st"
   refine ⟨q,_,rfl,by rw [wC]; omega,by rw [wC]; omega,fun r q' r0 r1=>⟨⟨_,rfl⟩,?_⟩⟩
   rw [wC] at r1
   obtain ⟨j,rfl⟩:∃ j:Nat,r=(j:Int):=⟨r.toNat,by omega⟩
   have hj:j<lf.length:=by omega
   walk_at "sv"
   refine qGP (k:=j) (d:=.int lf[j]) rfl rfl (by rw [wL,wA hj]; rfl) (by rw [wC]; omega) ?_
   walk_at "st"
   have ee:(qE lf).eraseIdx j=qE (lf.eraseIdx j):=by
    unfold qE
    rw [Yu]
   rw [ee]
   refine ⟨_,rfl,_,q',lf.eraseIdx j,os++[lf[j]],rfl,?_,by rw [wR,hl]; rfl,?_⟩
   ·unfold qE
    rw [yD]
    rfl
   ·refine List.Perm.trans ?_ pm
    rw [xA]
    exact ZZ os (qAR lf hj)
  ·rintro ys ρc ⟨s,q,lf,os,rfl,rfl,hl,pm⟩
   rw [jJ,zT] at hl
   have pl:=pm.length_eq
   rw [places_len,wR] at pl
   have:lf=[]:=gE.mp (by omega)
   subst this
   rw [yZ] at pm
   walk_at "sv"
   exact ⟨⟨_,rfl⟩,k os q pm⟩
theorem Qy:qR ["web","names","ties"] ["web","names"] (qJ (top 35)):=by walk_at "sc"
theorem YY (F:Fun K "_law_renamed" "_law_renamed" (top 35) f fd) (T:Txt mg):QC P w K mg base CX0 1 f fd ["web","names"] (spV qDy):=by
 refine jO F Qy [0,1] (fun as Φ h=>?_) (fun cdv A outer s H E hr=>?_)
 ·obtain ⟨n,us,o,rfl,_⟩:=h
  rfl
 ·have hu:=hr.units
  refine ⟨_,(qC (jS (i:=2) rfl Qy.nd rfl rfl (own:=["a","b"]) (fr:=[("names",1)]) (by walk_at "cs") (qd (K:=K) rfl (jA (pv 0) qD)) (fun cl C s0 H0 fp=>⟨(jc (K:=K) (n:=2) rfl rfl (qW (jo 0) (qW (jo 1) jd))),jH,(qk (qA (qH (Qw rfl) (by rfl) T.n_min kO (qA (jA (pv 2) (pv 0)) (qA (jA (pv 2) (pv 1)) qB))) (qA (qH (Qm rfl) (by rfl) T.n_max kN (qA (jA (pv 2) (pv 0)) (qA (jA (pv 2) (pv 1)) qB))) qB)))⟩))
   (qF (qQ (qk (qA (jA (pv 0) qD) (qA (qU (Qj (K:=K) rfl) (by rfl) T.n_tuple zU (qA (qH (Qr hu) (by rfl) T.n_sorted xR (qA (pv 2) qB)) qB)) qB)))))),?_⟩
  rintro as Φ ⟨n,us,o,rfl,W,O,k⟩
  have W2:=W.len
  have hl:=O.len
  walk_at "sv"
  refine qy qw us (fun _=>true) (fun t=>qw (mk (o.getD t.1.toNat 0) (o.getD t.2.toNat 0))) (QL ?_)
  walk_at "v"
  refine ⟨_,_,rfl,rfl,rfl,qI (by omega),qM rfl,of_decide_eq_true rfl,?_,?_⟩
  ·rintro ⟨a,b⟩ ht os hos
   obtain ⟨z0,z1,rfl⟩:=qFn hos
   obtain ⟨t1,t2,t3⟩:=W.ok _ ht
   simp only at t1 t2 t3
   obtain ⟨p,hp,hp2,_⟩:=qDH O (a:=a) (by omega) (by omega)
   obtain ⟨r,hr,hr2,_⟩:=qDH O (a:=b) (by omega) (by omega)
   walk_at "v"
   refine ⟨⟨[_,_],rfl,rfl⟩,jN ⟨rfl,rfl⟩,fun _=>?_⟩
   walk_at "v"
   refine ⟨?_,rfl⟩
   show _=some (qw (mk (o.getD a.toNat 0) (o.getD b.toNat 0)))
   rw [wW,wW,hp2,hr2]
   rfl
  rw [qT]
  have em:us.map (fun t:Tie=>qw (mk (o.getD t.1.toNat 0) (o.getD t.2.toNat 0)))=((us.map fun t:Tie=>mk (o.getD t.1.toNat 0) (o.getD t.2.toNat 0)).map qG5).map qDg:=by
   rw [QT,zM]
   rfl
  rw [em]
  have hlen:(us.map fun t:Tie=>mk (o.getD t.1.toNat 0) (o.getD t.2.toNat 0)).length<=20:=by rw [wC]; exact W2
  have k':∀ ts:List Tie,ts.Perm (us.map fun t:Tie=>mk (o.getD t.1.toNat 0) (o.getD t.2.toNat 0))->Φ (.d (jq n ts)) [.d (jq n us),.d (.tup (qE o))]:=k
  clear k
  generalize us.map (fun t:Tie=>mk (o.getD t.1.toNat 0) (o.getD t.2.toNat 0))=vs at hlen k'
  refine qm rfl ?_
  walk_at "sv"
  refine Yi (nss:=vs.map qG5) (.inr rfl) (fun ns h=>?_) (by rw [wC]; omega) (fun nss' pm=>?_)
  ·obtain ⟨t,_,rfl⟩:=zP.mp h
   exact fun z=>by cases z
  obtain ⟨ts,rfl,pt⟩:=Yt pm
  rw [QT ts]
  walk_at "v"
  exact ⟨⟨_,rfl⟩,k' ts pt⟩
theorem atN (bs:List Int) (w:Int) (h0:0<=w) (h1:w<(bs.length:Int)):∃ b,atI (bs.map D.int) w=some (.int b)/\bs[w.toNat]? = some b:=by
 obtain ⟨k,rfl⟩:∃ k:Nat,w=(k:Int):=⟨w.toNat,by omega⟩
 have hk:k<bs.length:=by omega
 exact ⟨bs[k],JI (by rw [wL,wA hk]; rfl),by simp [hk]⟩
theorem qLD {n i:Nat} (hi:i<n) (h3:2<n):((0:Int)+(i:Int))≠((0:Int)+(i:Int)+1) % (n:Int)/\0<=((0:Int)+(i:Int)+1) % (n:Int)/\((0:Int)+(i:Int)+1) % (n:Int)<(n:Int):=by
 refine ⟨?_,kJ _ (by omega),uJ _ (by omega)⟩
 by_cases z:i+1<n
 ·rw [fR (by omega) (by omega)]
  omega
 ·have e:(0:Int)+(i:Int)+1=(n:Int):=by omega
  rw [e,Int.emod_self]
  omega
theorem qNX {p:Prop} {i:Decidable p} (h:@decide p i=false):¬ p:=@of_decide_eq_false p i h
theorem qFa {l:List Tie} {t:Tie} (h:l.Nodup) (n:t∉l):(l++[t]).Nodup:=yF.mpr ⟨h,zI.mpr ⟨wY,yC⟩,fun x hx y hy z=>n (wK.mp hy ▸ z ▸ hx)⟩
theorem qIl {l m:List Tie} (h:l.Nodup) (g:m.Nodup) (d:∀ p∈l,p∉m):(l++m).Nodup:=yF.mpr ⟨h,g,fun x hx y hy z=>d x hx (z ▸ hy)⟩
theorem qDf {ps:List Tie} {i:Nat} (h:ps.Nodup) (g:∀ p∈ps,p.2<(i:Int)):(ps++(wV i).map fun a:Nat=>((0+(a:Int),(i:Int)):Tie)).Nodup/\∀ p∈ps++(wV i).map (fun a:Nat=>((0+(a:Int),(i:Int)):Tie)),p.2<((i+1:Nat):Int):=by
 refine ⟨qIl h ?_ fun p hp z=>?_,fun p hp=>?_⟩
 ·rw [vB,xX]
  exact (vB.mp kZ).imp fun {a b} ne z=>ne (by have:=congrArg VI z; simp only at this; omega)
 ·obtain ⟨a,_,rfl⟩:=zP.mp z
  have:=g _ hp
  simp only at this
  omega
 ·obtain z | z:=zG.mp hp
  ·have:=g p z
   omega
  ·obtain ⟨a,_,rfl⟩:=zP.mp z
   simp only
   omega
theorem qJy (n:Nat):(((wV n).filter fun _=>decide ((n:Int) > 2)).map fun i:Nat=>mk (0+(i:Int)) ((0+(i:Int)+1) % (n:Int))).Nodup:=by
 rw [vB,xX]
 refine List.Pairwise.imp_of_mem (R:=fun a b=>a≠b) (fun {i j} hi hj ne z=>?_) (vB.mp (kZ.filter _))
 obtain ⟨i1,i2⟩:=zH.mp hi
 obtain ⟨j1,_⟩:=zH.mp hj
 have i1:=zY.mp i1
 have j1:=zY.mp j1
 have i2:=of_decide_eq_true i2
 have nx:∀ i:Nat,i<n->(0+(i:Int)+1) % (n:Int)=if i+1<n then (i:Int)+1 else 0:=fun i hi=>by
  by_cases h:i+1<n
  ·rw [if_pos h,fR (by omega) (by omega)]
   omega
  ·rw [if_neg h,show 0+(i:Int)+1=(n:Int) by omega,Int.emod_self]
 rw [nx i i1,nx j j1] at z
 rcases mk_inj z with ⟨e,_⟩ | ⟨e1,e2⟩
 ·omega
 ·split at e1 <;> split at e2 <;> omega
theorem qH6 {ps:List Tie} (h:ps.Nodup) {i:Nat} (hi:i<ps.length):ps[i]∉ps.take i:=fun z=>by
 have e:=ZY i ps
 rw [<- e,yF] at h
 refine h.2.2 _ z _ ?_ rfl
 rw [List.drop_eq_getElem_cons hi]
 exact wF
theorem qGo {ps:List Tie} {i:Nat} (hi:i<ps.length) (p:Tie) (h:p=ps[i]\/p∈ps.take i):p∈ps.take (i+1):=by
 rw [List.take_succ_eq_append_getElem hi]
 rcases h with z | z
 ·rw [z]
  exact zK _ wF
 ·exact zG.mpr (.inl z)
theorem qj:qR ["pool","most","cap","many","pairs","b","way","first","size","dense","more"] ["pool","most","cap"] (qJ (top 33)):=by walk_at "sc"
theorem qCl (F:Fun K "_law_web" "_law_web" (top 33) f fd) (T:Txt mg) (XAQ:Has P w K mg base "_law_next" (top 31) ["pool","base"] 1 (spV qHW))
  (XAL:Has P w K mg base "_law_order" (top 34) ["pool","many"] 2 (spV qIp))
  (XAD:Has P w K mg base "_law_renamed" (top 35) ["web","names"] 1 (spV qDy)):QC P w K mg base CX0 3 f fd ["pool","most","cap"] (spV qMs):=by
 refine jO F qj [0,1,2] (fun as Φ h=>?_) (fun cdv A outer s H E hr=>?_)
 ·obtain ⟨q,m,c,rfl,_⟩:=h
  rfl
 ·have hu:=hr.units
  refine ⟨_,(qC (QP 3 qj (qr (Y3 (K:=K) rfl) qD (qh XAQ hr (qA (pv 0) (qA (pv 1) qB)))))
   (qC (QP 4 qj (Qq qB))
   (qC (JW vR rfl (qz (by rfl) T.n_range (qA (pv 3) qB)) (qEp 5 qj)
   (qF (QP 4 qj (qr (Y3 (K:=K) rfl) (pv 4) (qc rfl (own:=["a"]) (fr:=[("b",5)]) (by walk_at "cs") (qz (by rfl) T.n_range (qA (pv 5) qB)) (fun cl C s0 H0 fp=>⟨(jo 0),jH,(qk (qA (pv 0) (qA (pv 1) qB)))⟩))))))
   (qC (QP 6 qj (qh XAQ hr (qA (pv 0) (qA qD qB))))
   (qC (QP 7 qj (Qq qB))
   (qC (jY (PW.pt (qAe (qK (qAH hu) (pv 6) qD (qV _)) (Jm (qK qFN (pv 3) qD (qV _)))))
   (qF (QP 7 qj (qc rfl (own:=["b"]) (fr:=[("pool",0)]) (by walk_at "cs") (JS (by rfl) T.n_range (qA qD (qA (pv 3) qB))) (fun cl C s0 H0 fp=>⟨(jo 0),jH,(qk (qA (qh XAQ hr (qA (pv 1) (qA (pv 0) qB))) (qA (pv 0) qB)))⟩))))
   qb)
   (qC (jY (qK (qAH hu) (pv 6) qD (qV _))
   (qF (QP 7 qj (qc rfl (own:=["k"]) (fr:=[("many",3)]) (by walk_at "cs") (qz (by rfl) T.n_range (qA (pv 3) qB)) (fun cl C s0 H0 fp=>⟨(jo 0),jg (qK qFN (pv 1) qD (qV _)),(qk (qA (qH (Qw rfl) (by rfl) T.n_min kO (qA (pv 0) (qA (qr JR (qr (Y3 (K:=K) rfl) (pv 0) qD) (pv 1)) qB))) (qA (qH (Qm rfl) (by rfl) T.n_max kN (qA (pv 0) (qA (qr JR (qr (Y3 (K:=K) rfl) (pv 0) qD) (pv 1)) qB))) qB)))⟩))))
   qb)
   (qC (jY (qK (qAH hu) (pv 6) qD (qV _))
   (qC (QP 8 qj (qr (Y3 (K:=K) rfl) qD (qh XAQ hr (qA (pv 0) (qA qD qB)))))
    (qF (QP 7 qj (qc rfl (own:=["pair"]) (fr:=[("size",8)]) (by walk_at "cs") (qd (K:=K) rfl (pv 4)) (fun cl C s0 H0 fp=>⟨(jo 0),jg (qK qAB (jA (pv 0) qD) (pv 1) (qV _)),(pv 0)⟩)))))
   qb)
   (qC (QP 9 qj (jA (Qq (qA qD (qA qD (qA qD (qA qD qB))))) (qh XAQ hr (qA (pv 0) (qA qD qB)))))
   (qC (jS (i:=10) rfl qj.nd rfl rfl (own:=["pair"]) (fr:=[("first",7),("pool",0),("dense",9)]) (by walk_at "cs") (qd (K:=K) rfl (pv 4)) (fun cl C s0 H0 fp=>⟨(jo 0),jg (PW.pt (qAe (qK (QR hu) (pv 0) (pv 1) (by with_unfolding_all rfl)) (Jm (qK (qAH hu) (qh XAQ hr (qA (pv 2) (qA (pv 3) qB))) qD (qV _))))),(pv 0)⟩))
   (qC (YG vR (PW.pt (qAe (qK qFN (qr (Y3 (K:=K) rfl) (qH (qBY (K:=K) rfl) (by rfl) T.n_len yW (qA (pv 7) qB)) (qH (qBY (K:=K) rfl) (by rfl) T.n_len yW (qA (pv 10) qB))) (pv 2) (qV _)) (Jm (qK (qCN hu) (pv 10) (Qq qB) (qV _)))))
   (qF (Qu (qAN (K:=K) rfl vL PySem.F.slot_list_pop PySem.F.type_list_pop qDt (pv 10) (qA (qh XAQ hr (qA (pv 0) (qA (qH (qBY (K:=K) rfl) (by rfl) T.n_len yW (qA (pv 10) qB)) qB))) qB)))))
   (qF (qQ (qh XAD hr (qA (qk (qA (pv 3) (qA (qU (Qj (K:=K) rfl) (by rfl) T.n_tuple zU (qA (qH (Qr hu) (by rfl) T.n_sorted xR (qA (qr (Y3 (K:=K) rfl) (Qb (qJQ (K:=K) rfl) (pv 7) Jl (Qt (pv 2))) (pv 10)) qB)) qB)) qB))) (qA (qh XAL hr (qA (pv 0) (qA (pv 3) qB))) qB)))))))))))))))),?_⟩
  rintro as Φ ⟨q,most,cap,rfl,m0,m1,hcap,k⟩
  walk_at "st"
  walk_at "vc"
  refine ⟨q,most,rfl,by omega,by omega,fun r q1 r0 r1=>⟨⟨_,rfl⟩,?_⟩⟩
  walk_at "sv"
  obtain ⟨n,hn⟩:∃ n:Nat,(n:Int)=1+r:=⟨(1+r).toNat,by omega⟩
  rw [<- hn]
  have hn1:1<=n:=by omega
  have hn9:n<=9:=by omega
  have hnm:n<=most:=by omega
  clear hn r0 r1
  walk_at "st"
  refine qAz (qDK ?_)
  walk_at "v"
  refine ⟨n,⟨_,rfl,rfl⟩,by omega,by omega,fun i ρ=>∃(ps:List Tie) (s5:Sl),ρ=[.l (jZ q1),.d (.int most),.d (.int cap),.d (.int n),.l (ps.map qw),s5,.u,.u,.u,.u,.u]/\(∀ p∈ps,okp n p)/\ps.length<=9*i/\ps.Nodup/\∀ p∈ps,p.2<(i:Int),⟨[],_,rfl,fun _ h=>(by cases h),wO _,yC,fun _ h=>(by cases h)⟩,?_,?_⟩
  ·rintro i x ρ hx ⟨ps,s5,rfl,hok,hl,pnd,plt⟩
   have hin:i<n:=by
    have:=(wI.mp hx).1
    rw [jJ] at this
    omega
   rw [zT,QN hin,gO] at hx
   cases hx
   refine qm rfl ?_
   walk_at "sv"
   refine qy (fun a:Nat=>D.int (0+(a:Int))) (wV i) (fun _=>true) (fun a=>qw (0+(a:Int),(i:Int))) (qDK ?_)
   walk_at "v"
   refine ⟨i,⟨_,rfl,rfl⟩,by omega,by omega,qDq _ _,qI (by rw [yN]; omega),qM rfl,of_decide_eq_true rfl,?_,?_⟩
   ·rintro a _ os hos
    obtain ⟨z0,rfl⟩:=Jz hos
    walk_at "v"
    refine ⟨⟨[_],rfl,rfl⟩,jN ⟨rfl,rfl⟩,fun _=>?_⟩
    walk_at "v"
    exact ⟨rfl,rfl⟩
   rw [qT]
   have em:(wV i).map (fun a:Nat=>qw (0+(a:Int),(i:Int)))=((wV i).map fun a:Nat=>((0+(a:Int),(i:Int)):Tie)).map qw:=by
    rw [zM]
    rfl
   rw [em]
   refine OpV.r (OpV.l (qD9 rfl rfl (sz2 ?_) ?_))
   ·rw [wC,wC,wC,yN]
    omega
   rw [<- yD]
   refine qm rfl ?_
   walk_at "st"
   refine ⟨_,_,rfl,fun p hp=>?_,?_,(qDf pnd plt).1,(qDf pnd plt).2⟩
   ·obtain z | z:=zG.mp hp
    ·exact hok p z
    ·obtain ⟨a,ha,rfl⟩:=zP.mp z
     have:=zY.mp ha
     refine ⟨?_,?_,?_⟩ <;> simp only <;> omega
   ·rw [wR,wC,yN]
    omega
  rintro ρ ⟨ps,s5,rfl,hps,hpl,pnd,_⟩
  rw [jJ,zT] at hpl
  walk_at "vc"
  refine ⟨q1,6,rfl,by decide,by decide,fun way q2 w0 w1=>⟨⟨_,rfl⟩,?_⟩⟩
  walk_at "st"
  refine qm rfl ?_
  walk_at "st"
  refine qp (fun ρ=>ρ=[.l (jZ q2),.d (.int most),.d (.int cap),.d (.int n),.l (ps.map qw),s5,.d (.int way),.l [],.u,.u,.u]) (by walk_at "v"; rfl) ?_
  rintro ρ rfl
  refine qp (fun ρ=>∃(q:Int×Int×Int) (fs:List Tie),ρ=[.l (jZ q),.d (.int most),.d (.int cap),.d (.int n),.l (ps.map qw),s5,.d (.int way),.l (fs.map qw),.u,.u,.u]/\(∀ p∈fs,okp n p)/\fs.length<=81/\fs.Nodup) ?_ ?_
  ·walk_at "v"
   walk_at "vJ"
   refine Qf (fun _=>?_) (fun _=>qg ⟨q2,[],rfl,fun _ h=>(by cases h),by decide,yC⟩)
   refine Yn (qGR (qLq ?_))
   walk_at "v"
   refine ⟨1,n,⟨_,_,rfl,rfl,rfl⟩,⟨by decide,by decide,by omega,by omega⟩,qM rfl,of_decide_eq_true rfl,fun i ys ρc=>∃(s:Sl) (q:Int×Int×Int) (fs:List Tie),ρc=[s,.l (jZ q)]/\ys=fs.map qw/\fs.length=i/\i<=9/\(∀ p∈fs,okp n p)/\fs.Nodup/\∀ p∈fs,p.2<1+(i:Int),⟨_,q2,[],rfl,rfl,rfl,by decide,fun _ h=>(by cases h),yC,fun _ h=>(by cases h)⟩,?_,?_,?_⟩
   ·rintro i ys ρc ⟨s,q,fs,rfl,rfl,hl,hi,_⟩
    exact ⟨qI (by rw [wC]; omega),rfl⟩
   ·rintro i x ys ρc hx ⟨s,q,fs,rfl,rfl,hl,hi,hok,fnd,flt⟩
    have hin:i<((n:Int) - 1).toNat:=by
     have:=(wI.mp hx).1
     rw [jJ] at this
     exact this
    rw [QN hin] at hx
    cases hx
    generalize hb:(1:Int)+(i:Int)=b
    walk_at "v"
    rw [if_pos rfl]
    walk_at "v"
    refine jf ?_
    walk_at "v"
    refine ⟨of_decide_eq_true rfl,?_⟩
    walk_at "st"
    refine ⟨q,b,rfl,by omega,by omega,fun v q' v0 v1=>⟨⟨_,rfl⟩,?_⟩⟩
    walk_at "sv"
    refine ⟨_,q',fs++[(v,b)],rfl,?_,by rw [wR,hl]; rfl,by omega,fun p hp=>?_,qFa fnd (fun z=>by have:=flt _ z; simp only at this; omega),fun p hp=>?_⟩
    ·rw [yD]
     rfl
    ·obtain z | z:=zG.mp hp
     ·exact hok p z
     ·rw [wK.mp z]
      refine ⟨?_,?_,?_⟩ <;> simp only <;> omega
    ·obtain z | z:=zG.mp hp
     ·have:=flt p z
      omega
     ·rw [wK.mp z]
      simp only
      omega
   ·rintro ys ρc ⟨s,q,fs,rfl,rfl,hl,hi,hok,fnd,_⟩
    walk_at "st"
    refine qm rfl ?_
    walk_at "st"
    exact ⟨q,fs,rfl,hok,by omega,fnd⟩
  rintro ρ ⟨q3,fs,rfl,hok,hfl,fnd⟩
  refine qp (fun ρ=>∃(fs:List Tie),ρ=[.l (jZ q3),.d (.int most),.d (.int cap),.d (.int n),.l (ps.map qw),s5,.d (.int way),.l (fs.map qw),.u,.u,.u]/\(∀ p∈fs,okp n p)/\fs.length<=81/\fs.Nodup) ?_ ?_
  ·walk_at "v"
   refine Qf (fun _=>?_) (fun _=>qg ⟨fs,rfl,hok,hfl,fnd⟩)
   walk_at "v"
   refine qy (fun i:Nat=>D.int (0+(i:Int))) (wV n) (fun _=>decide ((n:Int) > 2)) (fun i=>qw (mk (0+(i:Int)) ((0+(i:Int)+1) % (n:Int)))) (qDK ?_)
   walk_at "v"
   refine ⟨n,⟨_,rfl,rfl⟩,by omega,by omega,qDq _ _,qI (by rw [yN]; omega),qM rfl,of_decide_eq_true rfl,?_,?_⟩
   ·rintro i _ os hos
    obtain ⟨z0,rfl⟩:=Jz hos
    walk_at "v"
    refine ⟨⟨[_],rfl,rfl⟩,?_,fun _=>?_⟩
    ·walk_at "v"
     exact ⟨rfl,rfl⟩
    ·walk_at "v"
     refine qAt rfl rfl (by show (0:Int)<_; omega) ?_
     walk_at "v"
     refine qAt rfl rfl (by show (0:Int)<_; omega) ?_
     walk_at "v"
     exact ⟨rfl,rfl⟩
   have em:((wV n).filter fun _=>decide ((n:Int) > 2)).map (fun i:Nat=>qw (mk (0+(i:Int)) ((0+(i:Int)+1) % (n:Int))))=(((wV n).filter fun _=>decide ((n:Int) > 2)).map fun i:Nat=>mk (0+(i:Int)) ((0+(i:Int)+1) % (n:Int))).map qw:=by
    rw [zM]
    rfl
   rw [em]
   refine qm rfl ?_
   walk_at "st"
   refine ⟨_,rfl,fun p hp=>?_,?_,qJy n⟩
   ·obtain ⟨i,hi,rfl⟩:=zP.mp hp
    obtain ⟨h1,h2⟩:=zH.mp hi
    have h1':=zY.mp h1
    have h2':=ofd h2
    obtain ⟨a1,a2,a3⟩:=qLD h1' (by omega)
    exact qKY ⟨by omega,by omega⟩ ⟨a2,a3⟩ a1
   ·rw [wC]
    exact zO (yL _ _) (by rw [yN]; omega)
  rintro ρ ⟨fs,rfl,hok,hfl,fnd⟩
  refine qp (fun ρ=>∃(q:Int×Int×Int) (fs:List Tie) (s8:Sl),ρ=[.l (jZ q),.d (.int most),.d (.int cap),.d (.int n),.l (ps.map qw),s5,.d (.int way),.l (fs.map qw),s8,.u,.u]/\(∀ p∈fs,okp n p)/\fs.length<=81/\fs.Nodup) ?_ ?_
  ·walk_at "v"
   refine Qf (fun _=>?_) (fun _=>qg ⟨q3,fs,_,rfl,hok,hfl,fnd⟩)
   walk_at "vc"
   refine ⟨q3,4,rfl,by decide,by decide,fun v q4 v0 v1=>⟨⟨_,rfl⟩,?_⟩⟩
   walk_at "sv"
   generalize (2:Int)+v=sz
   refine JH qw ps (fun p=>decide (p.2<sz)) qw rfl rfl (qI (by omega)) (qM rfl) (of_decide_eq_true rfl) ?_ ?_
   ·rintro ⟨a,b⟩ _ os hos
    obtain ⟨z0,rfl⟩:=Jz hos
    walk_at "v"
    refine ⟨⟨[_],rfl,rfl⟩,?_,fun _=>?_⟩
    ·walk_at "v"
     exact ⟨rfl,rfl⟩
    ·walk_at "v"
     exact ⟨rfl,rfl⟩
   refine qm rfl ?_
   walk_at "st"
   exact ⟨q4,_,_,rfl,fun p hp=>hps p (zH.mp hp).1,zO (yL _ _) (by omega),pnd.filter _⟩
  rintro ρ ⟨q4,fs,s8,rfl,hok,hfl,fnd⟩
  walk_at "vc"
  refine ⟨q4,4,rfl,by decide,by decide,fun dv q5 v0 v1=>⟨⟨_,rfl⟩,?_⟩⟩
  walk_at "st"
  obtain ⟨dn,hdn,hdn2⟩:=atN [2,3,4,9] dv v0 v1
  have hdm:=vN hdn2
  have hd2:2<=dn/\dn<=9:=by
   simp only [wM,wY,or_false] at hdm
   omega
  refine qJV rfl rfl hdn ?_
  refine qm rfl ?_
  walk_at "st"
  refine qp (fun ρ=>∃(q:Int×Int×Int) (ms:List Tie),ρ=[.l (jZ q),.d (.int most),.d (.int cap),.d (.int n),.l (ps.map qw),s5,.d (.int way),.l (fs.map qw),s8,.d (.int dn),.l (ms.map qw)]/\(∀ p∈ms,okp n p)/\ms.length<=81/\ms.Nodup/\∀ p∈ms,p∉fs) ?_ ?_
  ·refine Yn (qD3 (s:=4) (xs:=ps.map qw) rfl (fun h=>by simp [Jt] at h) (qM rfl) (of_decide_eq_true rfl) (fun i ys ρc=>∃(s:Sl) (q:Int×Int×Int) (ms:List Tie),ρc=[s,.l (fs.map qw),.l (jZ q),.d (.int dn)]/\ys=ms.map qw/\ms.length<=i/\i<=ps.length/\(∀ p∈ms,okp n p)/\ms.Nodup/\(∀ p∈ms,p∉fs)/\∀ p∈ms,p∈ps.take i) ⟨_,q5,[],rfl,rfl,wO _,zZ _,fun _ h=>(by cases h),yC,fun _ h=>(by cases h),fun _ h=>(by cases h)⟩ ?_ ?_ ?_)
   ·rintro i ys ρc ⟨s,q,ms,rfl,rfl,hl,hi,_⟩
    exact ⟨qI (by rw [wC]; omega),rfl⟩
   ·rintro i x ys ρc hx ⟨s,q,ms,rfl,rfl,hl,hi,hmk,mnd,mnf,mtk⟩
    have hil:i<ps.length:=by
     have:=(wI.mp hx).1
     rwa [wC] at this
    have et:(ps.map qw)[i]? = some (qw ps[i]):=by rw [wL,wA hil]; rfl
    rw [et] at hx
    cases hx
    have ot:=hps _ (kC hil)
    have tn:ps[i]∉ps.take i:=qH6 pnd hil
    have ti:∀ p,p=ps[i]\/p∈ps.take i->p∈ps.take (i+1):=qGo hil
    clear et
    generalize ps[i]=t at ot tn ti
    refine qm rfl ?_
    walk_at "st"
    refine qIC (qFv ?_)
    walk_at "v"
    refine qKu (f:=qw) (q:=t) (fs:=fs) qGk (fun _=>yT rfl) rfl (.inl rfl) ?_
    walk_at "v"
    refine Qf (fun hnf=>?_) (fun _=>?_)
    ·have hnf:=qNX (jR hnf)
     walk_at "vc"
     refine ⟨q,dn,rfl,by omega,by omega,fun v q' v0 v1=>⟨⟨_,rfl⟩,?_⟩⟩
     walk_at "sv"
     refine Qf (fun _=>?_) (fun _=>?_)
     ·walk_at "v"
      refine ⟨_,q',ms++[t],rfl,?_,?_,by omega,fun p hp=>?_,qFa mnd (fun z=>tn (mtk _ z)),fun p hp=>?_,fun p hp=>ti p ?_⟩
      ·rw [yD]
       rfl
      ·rw [wR]
       show ms.length+1<=i+1
       omega
      ·obtain z | z:=zG.mp hp
       ·exact hmk p z
       ·rw [wK.mp z]
        exact ot
      ·obtain z | z:=zG.mp hp
       ·exact mnf p z
       ·rw [wK.mp z]
        exact hnf
      ·obtain z | z:=zG.mp hp
       ·exact .inr (mtk p z)
       ·exact .inl (wK.mp z)
     ·exact ⟨_,q',ms,rfl,rfl,by omega,by omega,hmk,mnd,mnf,fun p hp=>ti p (.inr (mtk p hp))⟩
    ·rw [if_neg wQ]
     exact ⟨_,q,ms,rfl,rfl,by omega,by omega,hmk,mnd,mnf,fun p hp=>ti p (.inr (mtk p hp))⟩
   ·rintro ys ρc ⟨s,q,ms,rfl,rfl,hl,hi,hmk,mnd,mnf,_⟩
    walk_at "st"
    refine qm rfl ?_
    walk_at "st"
    rw [wC] at hl hi
    exact ⟨q,ms,rfl,hmk,by omega,mnd,mnf⟩
  rintro ρ ⟨q6,ms,rfl,hmk,hml,mnd,mnf⟩
  refine qp (fun ρ=>∃(q:Int×Int×Int) (ms:List Tie),ρ=[.l (jZ q),.d (.int most),.d (.int cap),.d (.int n),.l (ps.map qw),s5,.d (.int way),.l (fs.map qw),s8,.d (.int dn),.l (ms.map qw)]/\(∀ p∈ms,okp n p)/\ms.Nodup/\(∀ p∈ms,p∉fs)/\(fs.length+ms.length<=cap\/ms=[])) ?_ ?_
  ·refine qAx (fun m ρ=>∃(q:Int×Int×Int) (ms:List Tie),ρ=[.l (jZ q),.d (.int most),.d (.int cap),.d (.int n),.l (ps.map qw),s5,.d (.int way),.l (fs.map qw),s8,.d (.int dn),.l (ms.map qw)]/\(∀ p∈ms,okp n p)/\ms.Nodup/\(∀ p∈ms,p∉fs)/\ms.length=m/\m<=81) ms.length ⟨q6,ms,rfl,hmk,mnd,mnf,rfl,hml⟩ ?_
   rintro m ρ ⟨q,ms,rfl,hmk,mnd,mnf,hm,hm81⟩
   have hdp:qL (ms.map qw)<=50:=zO (Qd (f:=qw) (k:=1) (fun a=>wO _) ms) (by decide)
   walk_at "vJ"
   by_cases hc:fs.length+ms.length<=cap
   ·rw [decide_eq_false (by rw [wC,wC]; omega),yV,if_neg wQ]
    exact ⟨q,ms,rfl,hmk,mnd,mnf,.inl hc⟩
   ·rw [decide_eq_true (by rw [wC,wC]; omega),wZ]
    by_cases hz:ms=[]
    ·subst hz
     rw [if_neg (by decide)]
     exact ⟨q,[],rfl,hmk,mnd,mnf,.inr rfl⟩
    ·have e:(ms.map qw).isEmpty=false:=by
      cases ms with
      | nil=>exact absurd rfl hz
      | cons t ms=>rfl
     have hpos:0<ms.length:=List.length_pos_iff.mpr hz
     rw [e,if_pos (by rfl)]
     walk_at "v"
     refine jf ?_
     walk_at "v"
     refine ⟨of_decide_eq_true rfl,?_⟩
     walk_at "st"
     refine ⟨q,_,rfl,by rw [wC]; omega,by rw [wC]; omega,fun r q' r0 r1=>⟨⟨_,rfl⟩,?_⟩⟩
     rw [wC] at r1
     obtain ⟨j,rfl⟩:∃ j:Nat,r=(j:Int):=⟨r.toNat,by omega⟩
     have hj:j<ms.length:=by omega
     walk_at "sv"
     refine qGP (k:=j) (d:=qw ms[j]) rfl rfl (by rw [wL,wA hj]; rfl) (by rw [wC]; omega) ?_
     walk_at "st"
     rw [Yu]
     refine ⟨m - 1,by omega,q',ms.eraseIdx j,rfl,fun p hp=>hmk p (TJ hp),List.Pairwise.sublist (List.eraseIdx_sublist _ _) mnd,fun p hp=>mnf p (TJ hp),?_,by omega⟩
     rw [List.length_eraseIdx,if_pos hj]
     omega
  rintro ρ ⟨q7,ms,rfl,hmk,mnd,mnf,hend⟩
  have hus:∀ p∈fs.take cap++ms,okp n p:=fun p hp=>by
   obtain z | z:=zG.mp hp
   ·exact hok p (List.mem_of_mem_take z)
   ·exact hmk p z
  have unn:(fs.take cap++ms).Nodup:=qIl (List.Pairwise.sublist (WY _ _) fnd) mnd fun p hp z=>mnf p z (List.mem_of_mem_take hp)
  have hul:(fs.take cap++ms).length<=cap:=by
   rw [wR,vK]
   rcases hend with z | z
   ·omega
   ·rw [z]
    show min cap fs.length+0<=cap
    omega
  walk_at "v"
  refine jf ?_
  walk_at "v"
  refine SlV.l (qM1 rfl ?_)
  rw [qJn]
  walk_at "v"
  refine OpV.r (OpV.l (qD9 rfl rfl (sz2 ?_) ?_))
  ·rw [wC,wC]
   rw [wR] at hul
   omega
  rw [<- yD]
  generalize fs.take cap++ms=us at hus hul unn
  walk_at "v"
  refine Yi (nss:=us.map qG5) (.inr (congrArg (fun l=>some (D.lst l)) (QT us).symm)) (fun ns h=>?_) (by rw [wC]; omega) (fun nss' pm=>?_)
  ·obtain ⟨t,_,rfl⟩:=zP.mp h
   exact fun z=>by cases z
  obtain ⟨ts,rfl,pt⟩:=Yt pm
  rw [QT ts]
  walk_at "vc"
  refine ⟨q7,n,rfl,hn9,fun o q8 O=>⟨⟨_,rfl⟩,?_⟩⟩
  walk_at "sv"
  refine ⟨of_decide_eq_true rfl,?_⟩
  walk_at "st"
  have W1:YA n ts:={ pos:=hn1,few:=hn9,len:=(by rw [pt.length_eq]; omega),ok:=fun t ht=>hus t (pt.mem_iff.mp ht),nd:=pt.nodup_iff.mpr unn }
  refine ⟨n,ts,o,rfl,W1,O,fun ts2 p2=>⟨⟨_,rfl⟩,?_⟩⟩
  walk_at "st"
  exact ⟨⟨_,rfl⟩,k n ts2 q8 (qJ6 W1 O p2) hnm (by rw [p2.length_eq,wC,pt.length_eq]; exact hul)⟩
def qKt (K:wJ):PV:=fun as Φ=>∃(ns:List Int) (k:Int),as=[.f K (ns.map D.int),.d (.int k)]/\0<=k/\k<100/\∀ c,Φ (.d (.int c)) as
theorem qB8:qR ["script","k"] ["script","k"] (qJ (top 29)):=by walk_at "sc"
theorem qB7 (F:Fun K "_law_cell" "_law_cell" (top 29) f fd) (T:Txt mg):QC P w K mg base CX0 1 f fd ["script","k"] (spV (qKt K)):=by
 refine jO F qB8 [0,1] (fun as Φ h=>?_) (fun cdv A outer s H E hr=>?_)
 ·obtain ⟨ns,k,rfl,_⟩:=h
  rfl
 ·have hu:=hr.units
  refine ⟨_,(qC (jY (qK qAB (pv 1) (qH (qBY (K:=K) rfl) (by rfl) T.n_len yW (qA (pv 0) qB)) (qV _))
   (qF (qQ (jA (pv 0) (pv 1))))
   qb)
   (qF (qQ (qr (Y3 (K:=K) rfl) (qr opM (qr opM qD (pv 1)) (pv 1)) (qr opM qD (pv 1)))))),?_⟩
  rintro as Φ ⟨ns,i,rfl,h0,h1,k⟩
  walk_at "sv"
  refine qIN rfl ?_
  walk_at "v"
  refine Qf (fun hc=>?_) (fun hc=>?_)
  ·have hc':=ofd hc
   rw [wC] at hc'
   have hin:i.toNat<ns.length:=by omega
   have e:i=((i.toNat:Nat):Int):=by omega
   have hat:atI (ns.map D.int) i=some (.int ns[i.toNat]):=by
    conv=>lhs; rw [e]
    exact JI (by rw [wL,wA hin]; rfl)
   walk_at "v"
   refine qMA rfl rfl hat ?_
   exact ⟨⟨_,rfl⟩,k _⟩
  ·refine qg ?_
   walk_at "v"
   refine OpV.l (qAt rfl rfl (.inl ⟨by omega,by omega⟩) ?_)
   walk_at "v"
   refine OpV.l (qAt rfl rfl (.inl ⟨by omega,by omega⟩) ?_)
   walk_at "v"
   refine OpV.l (qAt rfl rfl (.inl ⟨by omega,by omega⟩) ?_)
   walk_at "v"
   exact ⟨⟨_,rfl⟩,k _⟩
def qO (E:List Tie) (u x:Int):Prop:=(u,x)∈E\/(x,u)∈E
theorem jV {l:List Int} {n:Nat} (nd:l.Nodup) (h:∀ p∈l,p∈places n):l.length<=n:=by
 have:=yY nd (l₂:=places n) fun p hp=>h p hp
 rwa [places_len] at this
theorem jQ {n:Nat} {E:List Tie} (ok:∀ t∈E,okp n t) {u x:Int} (h:qO E u x):u∈places n/\x∈places n:=by
 rcases h with z | z
 ·have:=ok _ z
  unfold okp at this
  simp only at this
  exact ⟨qP.mpr (by omega),qP.mpr (by omega)⟩
 ·have:=ok _ z
  unfold okp at this
  simp only at this
  exact ⟨qP.mpr (by omega),qP.mpr (by omega)⟩
theorem qAV {l:List Int} {x:Int} (nd:l.Nodup) (h:x∉l):(l++[x]).Nodup:=by
 rw [yF]
 refine ⟨nd,zI.mpr ⟨wY,yC⟩,fun a ha b hb z=>?_⟩
 rw [wK.mp hb] at z
 exact h (z ▸ ha)
inductive qi (R:Int->Int->Prop) (a:Int):Int->Prop
 | refl:qi R a a
 | snoc {b c:Int}:qi R a b->R b c->qi R a c
theorem qi.trans {R:Int->Int->Prop} {a b c:Int} (h:qi R a b) (g:qi R b c):qi R a c:=by
 induction g with
 | refl=>exact h
 | snoc _ e ih=>exact .snoc ih e
theorem qi.symm {R:Int->Int->Prop} (sy:∀ x y,R x y->R y x) {a b:Int} (h:qi R a b):qi R b a:=by
 induction h with
 | refl=>exact .refl
 | snoc _ e ih=>exact qi.trans (.snoc .refl (sy _ _ e)) ih
theorem jv {E:List Tie} (x y:Int) (h:qO E x y):qO E y x:=Or.symm h
inductive Q9 (E:List Tie) (s:Int):List Int->Int->Prop
 | base:Q9 E s [] s
 | snoc {v:List Int} {u x:Int}:Q9 E s v u->qO E u x->x∉v++[u]->Q9 E s (v++[u]) x
theorem qJC {n:Nat} {E:List Tie} {s:Int} (ok:∀ t∈E,okp n t) (hs:s∈places n) {v:List Int} {u:Int} (W:Q9 E s v u):v.length+1<=n:=by
 have key:(v++[u]).Nodup/\∀ p∈v++[u],p∈places n:=by
  induction W with
  | base=>exact ⟨zI.mpr ⟨wY,yC⟩,fun p hp=>by rw [wK.mp hp]; exact hs⟩
  | snoc _ t nx ih=>
   refine ⟨qAV ih.1 nx,fun p hp=>(zG.mp hp).elim (ih.2 p) fun z=>?_⟩
   ·rw [wK.mp z]
    exact (jQ ok t).2
 have:=jV key.1 key.2
 rwa [wR] at this
theorem qJT {E:List Tie} {s:Int} {v:List Int} {u:Int} (W:Q9 E s v u) {x:Int} (h:x∈v++[u]):∃ v',Q9 E s v' x:=by
 induction W with
 | base=>exact ⟨[],by rw [wK.mp h]; exact .base⟩
 | @snoc v u y W t nx ih=>
  rcases zG.mp h with z | z
  ·exact ih z
  ·rw [wK.mp z]
   exact ⟨_,.snoc W t nx⟩
theorem qG6 {E:List Tie} {s x:Int} (c:qi (qO E) s x):∃ v,Q9 E s v x:=by
 induction c with
 | refl=>exact ⟨[],.base⟩
 | @snoc b c _ t ih=>
  obtain ⟨v,W⟩:=ih
  by_cases z:c∈v++[b]
  ·exact qJT W z
  ·exact ⟨_,.snoc W t z⟩
def put {α:Type} (f:Int->α) (b:Int) (v:α):Int->α:=fun p=>if p=b then v else f p
theorem qD7 {α:Type} (f:Int->α) (b:Int) (v:α):put f b v b=v:=if_pos rfl
theorem qG0 {α:Type} (f:Int->α) {b p:Int} (v:α) (h:p≠b):put f b v p=f p:=if_neg h
theorem Qv (n:Nat):(places n).Pairwise (· < ·):=by
 unfold places
 rw [xX]
 exact List.Pairwise.imp (fun {a b} h=>by omega) (List.pairwise_lt_range (n:=n))
theorem qDd {l:List Int} (h:l.Pairwise (· < ·)):l.Nodup:=vB.mpr (h.imp fun {a b} z=>Int.ne_of_lt z)
theorem qAW {α:Type} {r:α->α->Prop} (irr:∀ a,¬ r a a) (asym:∀ a b,r a b->¬ r b a):∀{as bs:List α},as.Pairwise r->bs.Pairwise r->(∀ x,x∈as↔x∈bs)->as=bs
 | [],[],_,_,_=>rfl
 | [],b::bs,_,_,h=>absurd ((h b).mpr wF) wY
 | a::as,[],_,_,h=>absurd ((h a).mp wF) wY
 | a::as,b::bs,ha,hb,h=>by
  obtain ⟨a1,a2⟩:=uK.mp ha
  obtain ⟨b1,b2⟩:=uK.mp hb
  have e:a=b:=by
   rcases wM.mp ((h a).mp wF) with z | z
   ·exact z
   ·rcases wM.mp ((h b).mpr wF) with y | y
    ·exact y.symm
    ·exact absurd (a1 b y) (asym _ _ (b1 a z))
  subst e
  have t:as=bs:=qAW irr asym a2 b2 fun x=>⟨fun hx=>(wM.mp ((h x).mp (wN _ hx))).resolve_left fun z=>irr a (a1 a (z ▸ hx)),fun hx=>(wM.mp ((h x).mpr (wN _ hx))).resolve_left fun z=>irr a (b1 a (z ▸ hx))⟩
  rw [t]
theorem Jc {as bs:List Int} (ha:as.Pairwise (· < ·)) (hb:bs.Pairwise (· < ·)) (h:∀ x,x∈as↔x∈bs):as=bs:=qAW (fun a=>gV a) (fun a b x y=>gV a (VJ x y)) ha hb h
theorem qFA {l:List Int} (h:l.Pairwise (·<=·)) (nd:l.Nodup):l.Pairwise (· < ·):=by
 rw [vB] at nd
 exact (h.and nd).imp fun {a b} z=>Int.lt_iff_le_and_ne.mpr z
structure qE4 (C:Int->Int->Prop):Prop where
 refl:∀ p,C p p
 symm:∀ p q,C p q->C q p
 trans:∀ p q r,C p q->C q r->C p r
theorem qE4.of (E:List Tie):qE4 (qi (qO E)):=⟨fun _=>.refl,fun _ _ h=>h.symm jv,fun _ _ _ h g=>h.trans g⟩
noncomputable def part (n:Nat) (C:Int->Int->Prop) (p:Int):List Int:=(places n).filter fun q=>@decide (C p q) (ZK _)
theorem ja {n:Nat} {C:Int->Int->Prop} {p q:Int}:q∈part n C p↔q∈places n/\C p q:=by
 unfold part
 rw [zH]
 exact and_congr_right fun _=>@decide_eq_true_iff _ (ZK _)
theorem qFG (n:Nat) (C:Int->Int->Prop) (p:Int):(part n C p).Pairwise (· < ·):=(Qv n).sublist vC
theorem qGr {n:Nat} {C:Int->Int->Prop} {p:Int} {l:List Int} (up:l.Pairwise (· < ·)) (h:∀ q,q∈l↔q∈places n/\C p q):l=part n C p:=Jc up (qFG n C p) fun q=>(h q).trans ja.symm
theorem qI9 {n:Nat} {C:Int->Int->Prop} (L:qE4 C) {p:Int} (h:p∈places n):part n C p≠[]:=fun z=>by
 have:p∈part n C p:=ja.mpr ⟨h,L.refl p⟩
 rw [z] at this
 exact absurd this wY
def first (l:List Int) (p:Int):Bool:=decide (l.head? = some p)
noncomputable def qJP (n:Nat) (C:Int->Int->Prop) (i:Nat):List (List Int):=((places i).filter fun p=>first (part n C p) p).map (part n C)
noncomputable def parts (n:Nat) (C:Int->Int->Prop):List (List Int):=qJP n C n
theorem qIg {α:Type} {l:List α} {i:Nat} {d:α} (h:i<l.length):l.getD i d∈l:=by
 have e:l.getD i d=l[i]:=by
  rw [wW,wA h]
  rfl
 rw [e]
 exact kC h
theorem qCy {α:Type} {P:α->Prop} {a:α} (h:P a):∀ x∈[a],P x:=fun x hx=>wK.mp hx ▸ h
def endOf (u:Int) (t:Tie):Int:=if t.2=u then t.1 else t.2
def nbr (ts:List Tie) (u:Int):List Int:=(ts.filter fun t=>decide (u∈[t.1,t.2])).map (endOf u)
theorem Jq {α β:Type} {f:α->β}:∀{l:List α},(∀ s∈l,∀ t∈l,f s=f t->s=t)->l.Nodup->(l.map f).Nodup
 | [],_,_=>yC
 | x::l,h,nd=>by
  rw [zI] at nd
  show (f x::l.map f).Nodup
  rw [zI]
  refine ⟨fun hm=>?_,Jq (fun s hs t ht=>h s (wN _ hs) t (wN _ ht)) nd.2⟩
  obtain ⟨y,hy,e⟩:=zP.mp hm
  have:=h y (wN _ hy) x wF e
  exact nd.1 (this ▸ hy)
theorem qB6 {n:Nat} {ts:List Tie} (ok:∀ t∈ts,okp n t) (nd:ts.Nodup) (u:Int):(nbr ts u).Nodup:=by
 unfold nbr
 refine Jq ?_ (WS vC nd)
 intro s hs t ht e
 obtain ⟨h1,h2⟩:=zH.mp hs
 obtain ⟨h3,h4⟩:=zH.mp ht
 have o1:=ok s h1
 have o2:=ok t h3
 unfold okp at o1 o2
 have m1:=ofd h2
 have m2:=ofd h4
 simp only [wM,wY,or_false] at m1 m2
 unfold endOf at e
 obtain ⟨s1,s2⟩:=s
 obtain ⟨t1,t2⟩:=t
 simp only at o1 o2 m1 m2 e
 by_cases a:s2=u <;> by_cases b:t2=u
 ·rw [if_pos a,if_pos b] at e
  rw [e,a,b]
 ·rw [if_pos a,if_neg b] at e
  rw [<- m2.resolve_right fun z=>b z.symm,<- e] at o2
  rw [a] at o1
  exact absurd (VJ o1.2.1 o2.2.1) (gV _)
 ·rw [if_neg a,if_pos b] at e
  rw [<- m1.resolve_right fun z=>a z.symm,e] at o1
  rw [b] at o2
  exact absurd (VJ o1.2.1 o2.2.1) (gV _)
 ·rw [if_neg a,if_neg b] at e
  rw [e,<- m1.resolve_right fun z=>a z.symm,<- m2.resolve_right fun z=>b z.symm]
theorem qIQ {n:Nat} {ts:List Tie} (ok:∀ t∈ts,okp n t) {u p:Int} (h:p∈nbr ts u):p∈places n:=by
 obtain ⟨t,ht,rfl⟩:=zP.mp h
 have o1:=ok t (zH.mp ht).1
 unfold okp at o1
 rw [qP]
 unfold endOf
 split <;> omega
def qHl (w:List Int):D:=.lst (qE w)
def qCd (ts:List Tie) (b:Int):Nat->List (List Int)->List Int->Nat->Option (List Int)
 | 0,_,_,_=>none
 | f+1,ws,met,i=>
  if i<ws.length then
   if (ws.getD i []).getLastD 0=b then some (ws.getD i [])
   else qCd ts b f (ws++((nbr ts ((ws.getD i []).getLastD 0)).filter fun p=>!decide (p∈met)).map fun p=>ws.getD i []++[p]) (met++(nbr ts ((ws.getD i []).getLastD 0)).filter fun p=>!decide (p∈met)) (i+1)
  else none
def qEL (ts:List Tie) (a b:Int):Option (List Int):=qCd ts b 10 [[a]] [a] 0
theorem qHM {n:Nat} {E:List Tie} (ok:∀ t∈E,okp n t) {u x:Int}:x∈nbr E u↔qO E u x:=by
 unfold nbr
 constructor
 ·intro h
  obtain ⟨⟨a,b⟩,ht,e⟩:=zP.mp h
  obtain ⟨h1,h2⟩:=zH.mp ht
  have h3:=ofd h2
  simp only [wM,wY,or_false] at h3
  unfold endOf at e
  simp only at e
  by_cases c:b=u
  ·rw [if_pos c] at e
   exact .inr (by rw [<- e,<- c]; exact h1)
  ·rw [if_neg c] at e
   have ua:u=a:=by
    rcases h3 with z | z
    ·exact z
    ·exact absurd z.symm c
   exact .inl (by rw [<- e,ua]; exact h1)
 ·rintro (h | h)
  ·have:=ok _ h
   unfold okp at this
   simp only at this
   refine zP.mpr ⟨_,zH.mpr ⟨h,decide_eq_true wF⟩,?_⟩
   unfold endOf
   rw [if_neg (by show ¬ x=u; omega)]
  ·refine zP.mpr ⟨_,zH.mpr ⟨h,decide_eq_true (wN _ wF)⟩,?_⟩
   unfold endOf
   rw [if_pos rfl]
structure BF (n:Nat) (E:List Tie) (s g:Int) (ws:List (List Int)) (met:List Int) (i:Nat):Prop where
 way:∀ w∈ws,∃ v u,w=v++[u]/\Q9 E s v u/\∀ p∈v++[u],p∈met
 lst:met=ws.map fun w=>w.getLastD 0
 nd:met.Nodup
 pl:∀ p∈met,p∈places n
 st:s∈met
 no:∀ j,j<i->(ws.getD j []).getLastD 0≠g/\∀ x,qO E ((ws.getD j []).getLastD 0) x->x∈met
 le:i<=ws.length
theorem Q3 (v:List Int) (u:Int):(v++[u]).getLastD 0=u:=by simp
theorem BF.len {n:Nat} {E:List Tie} {s g:Int} {ws:List (List Int)} {met:List Int} {i:Nat} (b:BF n E s g ws met i):ws.length<=n:=by
 have:=jV b.nd b.pl
 rwa [b.lst,wC] at this
theorem BF.at_ {n:Nat} {E:List Tie} {s g:Int} {ws:List (List Int)} {met:List Int} {i:Nat} (b:BF n E s g ws met i) {p:Int} (h:p∈met):∃ j,j<ws.length/\(ws.getD j []).getLastD 0=p:=by
 rw [b.lst] at h
 obtain ⟨w,hw,e⟩:=zP.mp h
 obtain ⟨j,hj⟩:=List.mem_iff_getElem?.mp hw
 exact ⟨j,(wI.mp hj).1,by rw [wW,hj]; exact e⟩
theorem BF.step {n:Nat} {E:List Tie} {s g:Int} (ok:∀ t∈E,okp n t) (ndE:E.Nodup) {ws:List (List Int)} {met:List Int} {i:Nat} (b:BF n E s g ws met i) (hi:i<ws.length) (ne:(ws.getD i []).getLastD 0≠g) :
  BF n E s g (ws++((nbr E ((ws.getD i []).getLastD 0)).filter fun p=>!decide (p∈met)).map fun p=>ws.getD i []++[p]) (met++(nbr E ((ws.getD i []).getLastD 0)).filter fun p=>!decide (p∈met)) (i+1):=by
 have hw:ws.getD i []∈ws:=qIg hi
 have old:∀ j (l:List (List Int)),j<ws.length->(ws++l).getD j []=ws.getD j []:=fun j l hj=>by
  rw [wW,yU hj,wW]
 obtain ⟨v,u,ew,W,hm⟩:=b.way _ hw
 have no':=b.no
 generalize hg:ws.getD i []=w at ew ne hw
 subst ew
 rw [Q3] at ne ⊢
 have inn:∀ p,p∈(nbr E u).filter (fun p=>!decide (p∈met))↔qO E u p/\p∉met:=fun p=>by
  rw [zH,qHM ok]
  simp
 refine ⟨fun w' hw'=>?_,?_,?_,fun p hp=>?_,zS _ b.st,fun j hj=>?_,?_⟩
 ·rcases zG.mp hw' with z | z
  ·obtain ⟨v',u',e',W',hm'⟩:=b.way _ z
   exact ⟨v',u',e',W',fun p hp=>zS _ (hm' p hp)⟩
  ·obtain ⟨p,hp,rfl⟩:=zP.mp z
   obtain ⟨t1,t2⟩:=(inn p).mp hp
   refine ⟨v++[u],p,rfl,.snoc W t1 (fun y=>t2 (hm p y)),fun p' hp'=>?_⟩
   rcases zG.mp hp' with y | y
   ·exact zS _ (hm p' y)
   ·rw [wK.mp y]
    exact zK _ hp
 ·rw [yD,zM,<- b.lst]
  congr 1
  conv=>lhs; rw [<- List.map_id ((nbr E u).filter fun p=>!decide (p∈met))]
  refine xI fun p _=>?_
  exact (Q3 _ _).symm
 ·rw [yF]
  refine ⟨b.nd,WS vC (qB6 ok ndE u),fun x hx y hy e=>?_⟩
  exact ((inn y).mp hy).2 (e ▸ hx)
 ·rcases zG.mp hp with z | z
  ·exact b.pl p z
  ·exact qIQ ok (zH.mp z).1
 ·rcases Nat.lt_succ_iff_lt_or_eq.mp hj with z | z
  ·rw [old j _ (by omega)]
   exact ⟨(no' j z).1,fun x hx=>zS _ ((no' j z).2 x hx)⟩
  ·subst z
   rw [old j _ hi,hg,Q3]
   refine ⟨ne,fun x hx=>?_⟩
   by_cases c:x∈met
   ·exact zS _ c
   ·exact zK _ ((inn x).mpr ⟨hx,c⟩)
 ·rw [wR]
  omega
theorem qIi {n:Nat} {E:List Tie} {s g:Int} (n9:n<=9) (ok:∀ t∈E,okp n t) (ndE:E.Nodup):∀(f:Nat) (ws:List (List Int)) (met:List Int) (i:Nat),BF n E s g ws met i->10<=f+i->(∀ w,qCd E g f ws met i=some w->∃ v,w=v++[g]/\Q9 E s v g)/\(qCd E g f ws met i=none->¬ qi (qO E) s g)
 | 0,ws,met,i,b,h=>by
  have h1:=b.len
  have h2:=b.le
  omega
 | f+1,ws,met,i,b,h=>by
  unfold qCd
  by_cases hi:i<ws.length
  ·rw [if_pos hi]
   by_cases hl:(ws.getD i []).getLastD 0=g
   ·rw [if_pos hl]
    refine ⟨fun w e=>?_,fun e=>(by cases e)⟩
    cases e
    obtain ⟨v,u,e2,W,_⟩:=b.way (ws.getD i []) (qIg hi)
    rw [e2,Q3] at hl
    subst hl
    exact ⟨v,e2,W⟩
   ·rw [if_neg hl]
    exact qIi n9 ok ndE f _ _ _ (b.step ok ndE hi hl) (by omega)
  ·rw [if_neg hi]
   refine ⟨fun w e=>(by cases e),fun _ c=>?_⟩
   have all:∀{x:Int},qi (qO E) s x->x∈met:=by
    intro x c
    induction c with
    | refl=>exact b.st
    | snoc _ t ih=>
     obtain ⟨j,hj,e⟩:=b.at_ ih
     exact (b.no j (by omega)).2 _ (by rw [e]; exact t)
   obtain ⟨j,hj,e⟩:=b.at_ (all c)
   exact (b.no j (by omega)).1 e
theorem qJO {n:Nat} {E:List Tie} {s g:Int} (n9:n<=9) (ok:∀ t∈E,okp n t) (ndE:E.Nodup) (hs:s∈places n):(∀ w,qEL E s g=some w->∃ v,w=v++[g]/\Q9 E s v g)/\(qEL E s g=none->¬ qi (qO E) s g):=by
 exact qIi n9 ok ndE 10 [[s]] [s] 0 ⟨qCy ⟨[],s,rfl,.base,fun p hp=>hp⟩,rfl,zI.mpr ⟨wY,yC⟩,qCy hs,wF,fun j hj=>absurd hj (uN _),zZ _⟩ (wO _)
def JJ (n:Nat) (us:List Tie):Prop:=∀ a∈places n,qi (qO us) 0 a
theorem at_getD {ns:List Int} {a:Int} (h0:0<=a) (h1:a<(ns.length:Int)):atI (qE ns) a=some (.int (ns.getD a.toNat 0)):=by
 have hk:a.toNat<ns.length:=by omega
 have e:a=((a.toNat:Nat):Int):=by omega
 conv=>lhs; rw [e]
 exact JI (by rw [wL,wA hk,wW,wA hk]; rfl)
theorem getD_in {α:Type} {l:List α} {i:Nat} {d:α} (h:i<l.length):l.getD i d∈l:=by
 have e:l.getD i d=l[i]:=by
  rw [wW,wA h]
  rfl
 rw [e]
 exact kC h
def qIH:PV:=fun as Φ=>∃ a b:Int,as=[.d (.int a),.d (.int b)]/\Φ (.d (qw (mk a b))) as
theorem qGN:qR ["a","b"] ["a","b"] (qJ (top 7)):=by walk_at "sc"
theorem qFk (F:Fun K "tie_of" "tie_of" (top 7) f fd) (T:Txt mg):QC P w K mg base CX0 1 f fd ["a","b"] (spV qIH):=by
 refine jO F qGN [0,1] (fun as Φ h=>?_) (fun cdv A outer s H E hr=>?_)
 ·obtain ⟨a,b,rfl,_⟩:=h
  rfl
 ·have hu:=hr.units
  refine ⟨_,(qF (qQ (qk (qA (qH (Qw rfl) (by rfl) T.n_min kO (qA (pv 0) (qA (pv 1) qB))) (qA (qH (Qm rfl) (by rfl) T.n_max kN (qA (pv 0) (qA (pv 1) qB))) qB))))),?_⟩
  rintro as Φ ⟨a,b,rfl,k⟩
  walk_at "sv"
  exact ⟨⟨_,rfl⟩,k⟩
abbrev qLu (n:Nat) (ts:List Tie):Prop:=YA n ts
def jM (n:Nat) (ts:List Tie) (p:Int):List Int:=(places n).filter fun k=>decide (mk p k∈ts)
theorem YI (n:Nat) (ts:List Tie) (p:Int):(jM n ts p).length<=n:=by
 unfold jM
 exact zO (yL _ _) (by rw [places_len]; exact wO _)
def qFi:PV:=fun as Φ=>∃(n:Nat) (ts:List Tie) (p:Int),as=[.d (jq n ts),.d (.int p)]/\n<=9/\Φ (.d (.tup (qE (jM n ts p)))) as
theorem Yh {n:Nat} {ts:List Tie} (ok:∀ t∈ts,okp n t) {a b:Int}:mk a b∈ts↔qO ts a b:=by
 constructor
 ·intro h
  unfold mk at h
  by_cases z:b<a
  ·rw [if_pos z,if_neg (fK.mpr (VH z))] at h
   exact .inr h
  ·by_cases y:b > a
   ·rw [if_neg z,if_pos y] at h
    exact .inl h
   ·rw [if_neg z,if_neg y] at h
    obtain ⟨_,lt,_⟩:=ok _ h
    exact absurd lt (gV _)
 ·intro h
  unfold mk
  rcases h with h | h <;> obtain ⟨_,lt,_⟩:=ok _ h <;> dsimp only at lt
  ·rw [if_neg (fK.mpr (VH lt)),if_pos lt]
   exact h
  ·rw [if_pos lt,if_neg (fK.mpr (VH lt))]
   exact h
structure Found (n:Nat) (ts:List Tie) (s:Int) (l:List Int) (i:Nat):Prop where
 nd:l.Nodup
 pl:∀ p∈l,p∈places n
 st:s∈l
 con:∀ p∈l,qi (qO ts) s p
 done:∀ j,j<i->∀ q,qO ts (l.getD j 0) q->q∈l
theorem qES {n:Nat} {ts:List Tie} {s:Int} {l:List Int} {i:Nat} (ok:∀ t∈ts,okp n t) (F:Found n ts s l i) (hi:i<l.length):Found n ts s (l++(jM n ts (l.getD i 0)).filter fun p=>!decide (p∈l)) (i+1):=by
 have hm:l.getD i 0∈l:=getD_in hi
 have inn:∀ p,p∈(jM n ts (l.getD i 0)).filter (fun p=>!decide (p∈l))↔qO ts (l.getD i 0) p/\p∉l:=fun p=>by
  rw [zH,vM,decide_eq_false_iff_not]
  refine and_congr_left fun _=>?_
  unfold jM
  rw [zH,decide_eq_true_iff,Yh ok]
  exact ⟨fun h=>h.2,fun h=>⟨(jQ ok h).2,h⟩⟩
 refine ⟨yF.mpr ⟨F.nd,((ju n).sublist vC).sublist vC,fun a ha b hb z=>((inn b).mp hb).2 (z ▸ ha)⟩,fun p hp=>?_,zS _ F.st,fun p hp=>?_,fun j hj q hq=>?_⟩
 ·rcases zG.mp hp with z | z
  ·exact F.pl p z
  ·exact (jQ ok ((inn p).mp z).1).2
 ·rcases zG.mp hp with z | z
  ·exact F.con p z
  ·exact .snoc (F.con _ hm) ((inn p).mp z).1
 ·have e:(l++(jM n ts (l.getD i 0)).filter fun p=>!decide (p∈l)).getD j 0=l.getD j 0:=by
   rw [wW,yU (by omega),<- wW]
  rw [e] at hq
  by_cases z:j<i
  ·exact zS _ (F.done j z q hq)
  ·have ej:j=i:=by omega
   rw [ej] at hq
   by_cases y:q∈l
   ·exact zS _ y
   ·exact zK _ ((inn q).mpr ⟨hq,y⟩)
theorem qFd {n:Nat} {ts:List Tie} {s:Int} {l:List Int} {i:Nat} (F:Found n ts s l i) (hi:l.length<=i) {q:Int} (c:qi (qO ts) s q):q∈l:=by
 induction c with
 | refl=>exact F.st
 | snoc _ t ih=>
  obtain ⟨j,hj,e⟩:=gZ ih
  refine F.done j (by omega) _ ?_
  rw [wW,wA hj,e]
  exact t
def qDj:PV:=fun as Φ=>∃(n:Nat) (ts:List Tie) (s:Int),as=[.d (jq n ts),.d (.int s)]/\qLu n ts/\s∈places n/\Φ (.d (.tup (qE (part n (qi (qO ts)) s)))) as
theorem qI7:qR ["web","place"] ["web","place"] (qJ (top 8)):=by walk_at "sc"
theorem qJI (F:Fun K "near" "near" (top 8) f fd) (T:Txt mg) (XAf:Has P w K mg base "tie_of" (top 7) ["a","b"] 1 (spV qIH)):QC P w K mg base CX0 2 f fd ["web","place"] (spV qFi):=by
 refine jO F qI7 [0,1] (fun as Φ h=>?_) (fun cdv A outer s H E hr=>?_)
 ·obtain ⟨n,ts,p,rfl,_⟩:=h
  rfl
 ·have hu:=hr.units
  refine ⟨_,(qF (qQ (qU (Qj (K:=K) rfl) (by rfl) T.n_tuple zU (qA (qc rfl (own:=["other"]) (fr:=[("place",1),("web",0)]) (by walk_at "cs") (qz (by rfl) T.n_range (qA (jA (pv 0) qD) qB)) (fun cl C s0 H0 fp=>⟨(jo 0),jg (qK (qCY hu) (qh XAf hr (qA (pv 1) (qA (pv 0) qB))) (jA (pv 2) qD) (by with_unfolding_all rfl)),(pv 0)⟩)) qB)))),?_⟩
  rintro as Φ ⟨n,ts,p,rfl,n9,k⟩
  walk_at "sv"
  refine qy (fun k:Int=>D.int k) (places n) (fun k=>decide (mk p k∈ts)) (fun k=>D.int k) (qDK ?_)
  walk_at "v"
  refine ⟨n,⟨_,rfl,rfl⟩,by omega,by omega,?_,qI (by rw [places_len]; omega),qM rfl,of_decide_eq_true rfl,?_,?_⟩
  ·rw [zT]
   unfold qCO places
   rw [zM]
   exact xI fun i _=>by rw [gO]; rfl
  ·rintro i _ os hos
   obtain ⟨z0,rfl⟩:=Jz hos
   walk_at "v"
   refine ⟨⟨[_],rfl,rfl⟩,?_,fun _=>?_⟩
   ·walk_at "v"
    walk_at "call"
    refine ⟨p,_,rfl,⟨⟨_,rfl⟩,?_⟩⟩
    walk_at "sv"
    refine qL3 (f:=qw) (q:=mk p i) (fs:=ts) qGk (fun _=>yT rfl) rfl (.inr rfl) ?_
    exact ⟨_,rfl,decide_eq_decide.mpr Iff.rfl,rfl⟩
   ·walk_at "v"
    exact ⟨rfl,rfl⟩
  ·walk_at "v"
   exact ⟨⟨_,rfl⟩,k⟩
theorem QD:qR ["web","place","found","at","nearby"] ["web","place"] (qJ (top 9)):=by walk_at "sc"
theorem qC2 (F:Fun K "piece_of" "piece_of" (top 9) f fd) (T:Txt mg) (XAh:Has P w K mg base "near" (top 8) ["web","place"] 2 (spV qFi)):QC P w K mg base CX0 3 f fd ["web","place"] (spV qDj):=by
 refine jO F QD [0,1] (fun as Φ h=>?_) (fun cdv A outer s H E hr=>?_)
 ·obtain ⟨n,ts,p,rfl,_⟩:=h
  rfl
 ·have hu:=hr.units
  refine ⟨_,(qC (QP 2 QD (Qq (qA (pv 1) qB)))
   (qC (QP 3 QD qD)
   (qC (YG vR (qK qAB (pv 3) (qH (qBY (K:=K) rfl) (by rfl) T.n_len yW (qA (pv 2) qB)) (qV _))
   (qC (QP 4 QD (qh XAh hr (qA (pv 0) (qA (jA (pv 2) (pv 3)) qB))))
    (qC (Qu (qAN (K:=K) rfl vL fY fZ Yd (pv 2) (qA (qc rfl (own:=["other"]) (fr:=[("found",2)]) (by walk_at "cs") (qd (K:=K) rfl (pv 4)) (fun cl C s0 H0 fp=>⟨(jo 0),jg (qK (QR hu) (pv 0) (pv 1) (by with_unfolding_all rfl)),(pv 0)⟩)) qB)))
    (qF (qII (i:=3) QD.nd rfl (Or.inl rfl) qD qGL)))))
   (qF (qQ (qU (Qj (K:=K) rfl) (by rfl) T.n_tuple zU (qA (qH qBU (by rfl) T.n_sorted xR (qA (pv 2) qB)) qB))))))),?_⟩
  rintro as Φ ⟨n,ts,p,rfl,W,hp,k⟩
  have W1:=W.few
  walk_at "sv"
  walk_at "st"
  walk_at "nw"
  refine qAx (fun m ρ=>∃(l:List Int) (i:Nat) (s4:Sl),ρ=[.d (jq n ts),.d (.int p),.l (qE l),.d (.int i),s4]/\Found n ts p l i/\i<=l.length/\i+m=10) 10 ⟨[p],0,_,rfl,⟨zI.mpr ⟨wY,yC⟩,fun q hq=>by rw [wK.mp hq]; exact hp,wF,fun q hq=>by rw [wK.mp hq]; exact .refl,fun j hj=>absurd hj (uN _)⟩,zZ _,rfl⟩ ?_
  rintro m ρ ⟨l,i,s4,rfl,Fo,hi,hm⟩
  have few:=jV Fo.nd Fo.pl
  walk_at "v"
  rw [wC]
  by_cases hc:i<l.length
  ·rw [decide_eq_true (by omega),if_pos rfl]
   have hat:atI (qE l) (i:Int)=some (.int (l.getD i 0)):=by
    have:=at_getD (ns:=l) (a:=(i:Int)) (by omega) (by omega)
    rwa [zT] at this
   have nx:=qES W.ok Fo hc
   have nl:=YI n ts (l.getD i 0)
   walk_at "vc"
   refine ⟨n,ts,l.getD i 0,rfl,W1,⟨⟨_,rfl⟩,?_⟩⟩
   walk_at "st"
   generalize jM n ts (l.getD i 0)=nr at nx nl
   refine qm rfl ?_
   walk_at "st"
   walk_at "ps"
   walk_at "v"
   refine qy (fun q:Int=>D.int q) nr (fun q=>!decide (q∈l)) (fun q=>D.int q) (QL ?_)
   walk_at "v"
   refine ⟨_,_,rfl,rfl,rfl,qI (by omega),qM rfl,of_decide_eq_true rfl,?_,?_⟩
   ·rintro q _ os hos
    obtain ⟨z0,rfl⟩:=Jz hos
    walk_at "v"
    refine ⟨⟨[_],rfl,rfl⟩,?_,fun _=>?_⟩
    ·walk_at "v"
     exact ⟨rfl,rfl⟩
    ·walk_at "v"
     exact ⟨rfl,rfl⟩
   have fl:(nr.filter fun q=>!decide (q∈l)).length<=9:=zO (yL _ _) (zO nl W1)
   generalize (nr.filter fun q=>!decide (q∈l))=nw at nx fl
   walk_at "v"
   refine qAp rfl rfl (sz2 (by rw [wC,wC]; omega)) ?_
   walk_at "st"
   have e2:qE l++nw.map (fun q=>D.int q)=qE (l++nw):=by
    unfold qE
    rw [yD]
   rw [e2]
   refine qLC (k:=fun i j=>i+j) rfl rfl ?_
   walk_at "v"
   walk_at "st"
   exact ⟨m - 1,by omega,l++nw,i+1,_,rfl,nx,by rw [wR]; omega,by omega⟩
  ·rw [decide_eq_false (by omega),if_neg wQ]
   walk_at "sv"
   refine qFR (ns:=l) (by rfl) (by omega) fun l' pm so=>?_
   walk_at "v"
   have el:l'=part n (qi (qO ts)) p:=qGr (qFA so (pm.nodup_iff.mpr Fo.nd)) fun q=>pm.mem_iff.trans ⟨fun z=>⟨Fo.pl q z,Fo.con q z⟩,fun z=>qFd Fo (by omega) z.2⟩
   rw [el]
   exact ⟨⟨_,rfl⟩,k⟩
def qKe:PV:=fun as Φ=>∃(n:Nat) (ts:List Tie),as=[.d (jq n ts)]/\YA n ts/\JJ n ts/\Φ (.d .non) as
theorem qET {n:Nat} {ts:List Tie} (h:JJ n ts):part n (qi (qO ts)) 0=places n:=by
 unfold part
 exact List.filter_eq_self.mpr fun q hq=>@decide_eq_true _ (ZK _) (h q hq)
theorem Yk:qR ["web"] ["web"] (qJ (top 10)):=by walk_at "sc"
theorem Yo (F:Fun K "refuse_apart" "refuse_apart" (top 10) f fd) (T:Txt mg) (XAX:Has P w K mg base "piece_of" (top 9) ["web","place"] 3 (spV qDj)):QC P w K mg base CX0 4 f fd ["web"] (spV qKe):=by
 refine jO F Yk [0] (fun as Φ h=>?_) (fun cdv A outer s H E hr=>?_)
 ·obtain ⟨n,ts,rfl,_⟩:=h
  rfl
 ·have hu:=hr.units
  refine ⟨_,(qF (jY (qK qAB (qH (qBY (K:=K) rfl) (by rfl) T.n_len yW (qA (qh XAX hr (qA (pv 0) (qA qD qB))) qB)) (jA (pv 0) qD) (qV _))
   (qF qD4)
   qb)),?_⟩
  rintro as Φ ⟨n,ts,rfl,W,wh,k⟩
  have n1:=W.pos
  walk_at "st"
  refine JO ?_
  walk_at "vc"
  refine ⟨n,ts,0,rfl,W,qP.mpr (by omega),⟨⟨_,rfl⟩,?_⟩⟩
  walk_at "st"
  rw [qET wh]
  walk_at "v"
  rw [wC,places_len,decide_eq_false (gV _)]
  refine ite_no ?_
  exact qg k
open PyProof.Rows (step_dedup firstMet)
theorem Yf:∀(ns m:List Int),m.Nodup->(ns.foldl step_dedup m).Nodup/\∀ x,x∈ns.foldl step_dedup m↔x∈m\/x∈ns
 | [],m,h=>⟨h,fun x=>by simp⟩
 | n::ns,m,h=>by
  rw [VZ]
  by_cases c:m.any (· == n)=true
  ·have e:step_dedup m n=m:=by
    unfold step_dedup
    rw [if_pos c]
   have hm:n∈m:=by
    obtain ⟨k,hk,ek⟩:=uF.mp c
    rw [beq_iff_eq] at ek
    exact ek ▸ hk
   obtain ⟨h1,h2⟩:=Yf ns m h
   rw [e]
   refine ⟨h1,fun x=>?_⟩
   rw [h2,wM]
   constructor
   ·rintro (z | z)
    ·exact .inl z
    ·exact .inr (.inr z)
   ·rintro (z | z | z)
    ·exact .inl z
    ·exact .inl (z ▸ hm)
    ·exact .inr z
  ·have hm:n∉m:=fun hm=>c (uF.mpr ⟨n,hm,by simp⟩)
   have e:step_dedup m n=m++[n]:=by
    unfold step_dedup
    rw [if_neg c]
   have nd:(m++[n]).Nodup:=yF.mpr ⟨h,zI.mpr ⟨wY,yC⟩,fun a ha b hb z=>hm (by rw [<- wK.mp hb,<- z]; exact ha)⟩
   obtain ⟨h1,h2⟩:=Yf ns _ nd
   rw [e]
   refine ⟨h1,fun x=>?_⟩
   rw [h2,zG,wK,wM]
   constructor
   ·rintro ((z | z) | z)
    ·exact .inl z
    ·exact .inr (.inl z)
    ·exact .inr (.inr z)
   ·rintro (z | z | z)
    ·exact .inl (.inl z)
    ·exact .inl (.inr z)
    ·exact .inr z
theorem qE6 (ns:List Int):∃ l:List Int,l.Nodup/\(∀ x,x∈l↔x∈ns)/\J7 ns=l.length:=by
 obtain ⟨h1,h2⟩:=Yf ns [] yC
 refine ⟨ns.foldl step_dedup [],h1,fun x=>by rw [h2]; simp,?_⟩
 unfold J7 firstMet
 rw [qEI]
theorem qJi {l ns:List Int} (nd:l.Nodup) (h:∀ x∈l,x∈ns):l.length<=J7 ns:=by
 obtain ⟨m,_,h2,h3⟩:=qE6 ns
 rw [h3]
 exact yY nd fun x hx=>(h2 x).mpr (h x hx)
def qG4 (ν:Int->Int) (t:Tie):Int->Int:=put (put ν t.1 (min (ν t.1) (ν t.2))) t.2 (min (ν t.1) (ν t.2))
def Jb (ν:Int->Int) (ts:List Tie):Int->Int:=ts.foldl qG4 ν
theorem qDu (ν:Int->Int) (t:Tie) (p:Int):(p=t.1\/p=t.2->qG4 ν t p=min (ν t.1) (ν t.2))/\(p≠t.1->p≠t.2->qG4 ν t p=ν p):=by
 unfold qG4
 refine ⟨fun h=>?_,fun h1 h2=>?_⟩
 ·by_cases z:p=t.2
  ·rw [z,qD7]
  ·rw [qG0 _ _ z,h.resolve_right z,qD7]
 ·rw [qG0 _ _ h2,qG0 _ _ h1]
theorem qGl (ν:Int->Int) (t:Tie) (p:Int):qG4 ν t p<=ν p:=by
 obtain ⟨h1,h2⟩:=qDu ν t p
 by_cases a:p=t.1
 ·rw [h1 (.inl a),a]
  exact Int.min_le_left _ _
 ·by_cases b:p=t.2
  ·rw [h1 (.inr b),b]
   exact Int.min_le_right _ _
  ·rw [h2 a b]
   exact gF _
theorem qGJ:∀(hs:List Tie) (ν:Int->Int),(∀ p,Jb ν hs p<=ν p)/\∀ t∈hs,Jb ν hs t.1<=ν t.2/\Jb ν hs t.2<=ν t.1
 | [],_=>⟨fun _=>gF _,fun t ht=>absurd ht wY⟩
 | h::hs,ν=>by
  obtain ⟨i1,i2⟩:=qGJ hs (qG4 ν h)
  refine ⟨fun p=>uS (i1 p) (qGl ν h p),fun t ht=>?_⟩
  rcases wM.mp ht with z | z
  ·subst z
   refine ⟨uS (i1 t.1) ?_,uS (i1 t.2) ?_⟩
   ·rw [(qDu ν t t.1).1 (.inl rfl)]
    exact Int.min_le_right _ _
   ·rw [(qDu ν t t.2).1 (.inr rfl)]
    exact Int.min_le_left _ _
  ·exact ⟨uS (i2 t z).1 (qGl ν h _),uS (i2 t z).2 (qGl ν h _)⟩
def qB1 (us:List Tie) (ν:Int->Int):Prop:=∀ p,qi (qO us) p (ν p)
theorem qJl {us:List Tie} {ν:Int->Int} (L:qB1 us ν) {t:Tie} (ht:t∈us):qB1 us (qG4 ν t):=fun p=>by
 obtain ⟨h1,h2⟩:=qDu ν t p
 have c12:qi (qO us) t.1 t.2:=.snoc .refl (.inl ht)
 have c21:qi (qO us) t.2 t.1:=.snoc .refl (.inr ht)
 by_cases a:p=t.1\/p=t.2
 ·rw [h1 a]
  have m:min (ν t.1) (ν t.2)=ν t.1\/min (ν t.1) (ν t.2)=ν t.2:=by
   rcases Int.le_total (ν t.1) (ν t.2) with z | z
   ·exact .inl (Int.min_eq_left z)
   ·exact .inr (Int.min_eq_right z)
  rcases a with rfl | rfl <;> rcases m with e | e <;> rw [e]
  ·exact L _
  ·exact c12.trans (L _)
  ·exact c21.trans (L _)
  ·exact L _
 ·rw [h2 (fun z=>a (.inl z)) fun z=>a (.inr z)]
  exact L p
theorem qFL {us:List Tie}:∀(hs:List Tie) {ν:Int->Int},(∀ t∈hs,t∈us)->qB1 us ν->qB1 us (Jb ν hs)
 | [],_,_,L=>L
 | h::hs,_,hh,L=>qFL hs (fun t ht=>hh t (wN _ ht)) (qJl L (hh h wF))
def qKB (us:List Tie) (k:Nat) (ν:Int->Int):Prop:=∀ s v u,Q9 us s v u->v.length<=k->ν u<=s
theorem qFF (us:List Tie):qKB us 0 fun p=>p:=fun s v u W h=>by
 cases W with
 | base=>exact gF _
 | snoc W t n=>
  rw [wR] at h
  exact absurd h (by show ¬ _+1<=0; omega)
theorem qGp {us:List Tie} {k:Nat} {ν:Int->Int} (N:qKB us k ν):qKB us (k+1) (Jb ν us):=fun s v u W h=>by
 obtain ⟨l1,l2⟩:=qGJ us ν
 cases W with
 | base=>exact uS (l1 _) (N s [] s .base (zZ _))
 | snoc W t n=>
  rw [wR] at h
  have:=N s _ _ W (Nat.le_of_succ_le_succ h)
  rcases t with z | z
  ·exact uS (l2 _ z).2 this
  ·exact uS (l2 _ z).1 this
theorem qEY {n:Nat} {us:List Tie} (ok:∀ t∈us,okp n t) {ν:Int->Int} (L:qB1 us ν) (pl:∀ p∈places n,ν p∈places n) (N:qKB us n ν):∀ t∈us,ν t.1=ν t.2:=fun t ht=>by
 have key:∀ a b,a∈places n->qO us a b->ν b<=ν a:=fun a b ha hab=>by
  have c:qi (qO us) (ν a) b:=((L a).symm jv).trans (.snoc .refl hab)
  obtain ⟨v,W⟩:=qG6 c
  exact N _ v b W (VC (qJC ok (pl a ha) W))
 obtain ⟨p1,p2⟩:=jQ ok (show qO us t.1 t.2 from .inl ht)
 exact Int.le_antisymm (key t.2 t.1 p2 (.inr ht)) (key t.1 t.2 p1 (.inl ht))
theorem qIu {n:Nat} {us:List Tie} (ok:∀ t∈us,okp n t) {a b:Int} (h:a∈places n) (c:qi (qO us) a b):b∈places n:=by
 induction c with
 | refl=>exact h
 | snoc _ t _=>exact (jQ ok t).2
theorem qHR (ν:Int->Int) {ts:List Tie} {j:Nat} {t:Tie} (h:ts[j]? = some t):Jb ν (ts.take (j+1))=qG4 (Jb ν (ts.take j)) t:=by
 rw [kQ,h]
 exact List.foldl_append
theorem qBH {us:List Tie} {ν:Int->Int} (al:∀ t∈us,ν t.1=ν t.2) {a b:Int} (c:qi (qO us) a b):ν a=ν b:=by
 induction c with
 | refl=>rfl
 | snoc _ t ih=>
  rcases t with z | z
  ·exact ih.trans (al _ z)
  ·exact ih.trans (al _ z).symm
theorem qEm {n:Nat} {us:List Tie} (n1:1<=n) {ν:Int->Int} (L:qB1 us ν) (al:∀ t∈us,ν t.1=ν t.2):1<J7 ((places n).map ν)↔¬ JJ n us:=by
 have h0:(0:Int)∈places n:=qP.mpr ⟨gF _,by omega⟩
 constructor
 ·intro h W
  obtain ⟨l,nd,me,e⟩:=qE6 ((places n).map ν)
  rw [e] at h
  match l,nd,me,h with
  | x::y::l,nd,me,_=>
   obtain ⟨a,ha,rfl⟩:=zP.mp ((me x).mp wF)
   obtain ⟨b,hb,rfl⟩:=zP.mp ((me y).mp (wN _ wF))
   exact (zI.mp nd).1 (by rw [<- qBH al (W a ha),qBH al (W b hb)]; exact wF)
 ·intro h
  have ⟨a,ha⟩:=Classical.not_forall.mp h
  have ⟨ha,nc⟩:=Classical.not_imp.mp ha
  have ne:ν 0≠ν a:=fun e=>nc ((L 0).trans (e ▸ (L a).symm jv))
  refine zV (by decide:1<2) (qJi (l:=[ν 0,ν a]) (zI.mpr ⟨fun z=>ne (wK.mp z),zI.mpr ⟨wY,yC⟩⟩) fun x hx=>(wM.mp hx).elim (fun z=>z ▸ fA h0) fun z=>wK.mp z ▸ fA ha)
def qEK (n:Nat) (f:Int->D):List D:=(places n).map f
theorem qCS (n:Nat) (f:Int->D):(qEK n f).length=n:=by
 unfold qEK
 rw [wC,places_len]
theorem qFu {n:Nat} {p:Int} (h:p∈places n) (f:Int->D):ixN (qEK n f).length p=some p.toNat:=by
 obtain ⟨h0,h1⟩:=qP.mp h
 unfold ixN
 rw [qCS,if_pos h0,if_pos h1]
theorem qBg {n i:Nat} (h:i<n):(places n)[i]? = some (i:Int):=by
 unfold places
 rw [wL,hU h]
 rfl
theorem qBq {n:Nat} {p:Int} (h:p∈places n) (f:Int->D):atI (qEK n f) p=some (f p):=by
 obtain ⟨h0,h1⟩:=qP.mp h
 unfold atI
 rw [qFu h]
 show (qEK n f)[p.toNat]? = _
 unfold qEK
 rw [wL,qBg (by omega)]
 show some (f (p.toNat:Int))=_
 rw [Int.toNat_of_nonneg h0]
theorem qGQ {n:Nat} {p:Int} (h:p∈places n) (f:Int->D) (d:D):(qEK n f).set p.toNat d=qEK n (put f p d):=by
 obtain ⟨h0,h1⟩:=qP.mp h
 refine xW fun i=>?_
 by_cases hi:i<n
 ·rw [zL]
  unfold qEK
  rw [wL,wL,qBg hi,wC,places_len]
  show (if p.toNat=i then _ else some (f i))=some (put f p d i)
  unfold put
  by_cases z:p.toNat=i
  ·rw [if_pos z,if_pos (by omega),if_pos (by omega)]
  ·rw [if_neg z,if_neg (by omega)]
 ·rw [vH (by rw [List.length_set,qCS]; omega),vH (by rw [qCS]; omega)]
theorem qDi {α β:Type} (g:α->β) (f:Int->α) (b:Int) (v:α):(fun p=>g (put f b v p))=put (fun p=>g (f p)) b (g v):=by
 funext p
 unfold put
 split <;> rfl
def QI (n:Nat) (c:Int->Int):List D:=qEK n fun p=>.int (c p)
def qIA:PV:=fun as Φ=>∃(n:Nat) (ts:List Tie) (td:D),as=[.d (.tup [.int n,td])]/\(td=.tup (ts.map qw)\/td=.lst (ts.map qw))/\qM4 n ts/\∀ ν:Int->Int,qB1 ts ν->(∀ t∈ts,ν t.1=ν t.2)->Φ (.l (QI n ν)) as
theorem jF:qR ["web","marks","turn","a","b","least"] ["web"] (qJ (top 37)):=by walk_at "sc"
theorem Y4 (F:Fun K "_law_pieces" "_law_pieces" (top 37) f fd) (T:Txt mg):QC P w K mg base CX0 1 f fd ["web"] (spV qIA):=by
 refine jO F jF [0] (fun as Φ h=>?_) (fun cdv A outer s H E hr=>?_)
 ·obtain ⟨n,ts,td,rfl,_⟩:=h
  rfl
 ·have hu:=hr.units
  refine ⟨_,(qC (QP 1 jF (qU (QM rfl) (by rfl) T.n_list uD (qA (qU jh (by rfl) T.n_range xY (qA (jA (pv 0) qD) qB)) qB)))
   (qC (JW vR rfl (qz (by rfl) T.n_range (qA (jA (pv 0) qD) qB)) (qEp 2 jF)
   (qF (JW vR rfl (qd (K:=K) rfl (jA (pv 0) qD)) (jc (K:=K) (n:=2) rfl rfl (qW (qEp 3 jF) (qW (qEp 4 jF) jd)))
    (qC (QP 5 jF (qH (Qw rfl) (by rfl) T.n_min kO (qA (jA (pv 1) (pv 3)) (qA (jA (pv 1) (pv 4)) qB))))
     (qC (qAP (pv 5) (qDw (pv 1) (pv 3) set_list))
     (qF (qAP (pv 5) (qDw (pv 1) (pv 4) set_list))))))))
   (qF (qQ (pv 1))))),?_⟩
  rintro as Φ ⟨n,ts,td,rfl,htd,W,k⟩
  have W1:=W.few
  have W2:=W.len
  walk_at "sv"
  refine ⟨n,⟨_,rfl,rfl⟩,by omega,by omega,?_⟩
  rw [zT]
  have e0:((wV n).map fun k:Nat=>D.int (k:Int))=QI n fun p=>p:=by
   unfold QI qEK places
   rw [zM]
   rfl
  rw [e0]
  refine qm rfl ?_
  walk_at "st"
  refine Yb (qAz (qDK ?_))
  walk_at "v"
  refine ⟨n,⟨_,rfl,rfl⟩,by omega,by omega,fun i ρ=>∃(ν:Int->Int) (s2 s3 s4 s5:Sl),ρ=[.d (.tup [.int n,td]),.l (QI n ν),s2,s3,s4,s5]/\qB1 ts ν/\qKB ts i ν,⟨_,_,_,_,_,rfl,fun p=>.refl,qFF ts⟩,?_,?_⟩
  rotate_left
  ·rintro ρ ⟨ν,s2,s3,s4,s5,rfl,L,N⟩
   refine qJe (i:=1) rfl ?_
   walk_at "st"
   have N':qKB ts n ν:=by
    have e:(qCO 0 (n:Int).toNat).length=n:=by
     unfold qCO
     rw [wC,yN,zT]
    rwa [e] at N
   exact ⟨⟨_,rfl⟩,k ν L (qEY W.ok L (fun p hp=>qIu W.ok hp (L p)) N')⟩
  rintro i x ρ _ ⟨ν,s2,s3,s4,s5,rfl,L,N⟩
  walk_at "v"
  walk_at "st"
  refine qAz (QL ?_)
  walk_at "v"
  refine ⟨td,ts.map qw,rfl,htd.elim (fun e=>e ▸ rfl) (fun e=>e ▸ rfl),fun j ρ=>∃(s2 s3 s4 s5:Sl),ρ=[.d (.tup [.int n,td]),.l (QI n (Jb ν (ts.take j))),s2,s3,s4,s5],⟨_,_,_,_,rfl⟩,?_,?_⟩
  rotate_left
  ·rintro ρ ⟨s2',s3',s4',s5',rfl⟩
   rw [wC,xO]
   exact ⟨_,_,_,_,_,rfl,qFL ts (fun t h=>h) L,qGp N⟩
  rintro j y ρ hy ⟨s2',s3',s4',s5',rfl⟩
  have hj:j<ts.length:=by
   have:=(wI.mp hy).1
   rwa [wC] at this
  rw [wL,wA hj] at hy
  have hy':qw ts[j]=y:=zQ hy
  subst hy'
  have lt:=qHR ν (wA hj)
  obtain ⟨p1,p2⟩:=jQ W.ok (show qO ts ts[j].1 ts[j].2 from .inl (kC hj))
  clear hy
  generalize ts[j]=t at lt p1 p2
  obtain ⟨a,b⟩:=t
  generalize Jb ν (ts.take j)=μ at lt
  dsimp only at p1 p2
  have ha:=qBq p1 fun p=>D.int (μ p)
  have hb:=qBq p2 fun p=>D.int (μ p)
  have xa:=qFu p1 fun p=>D.int (μ p)
  refine qJ8 rfl rfl ?_
  walk_at "v"
  walk_at "sv"
  have em:(if μ b<μ a then μ b else μ a)=min (μ a) (μ b):=by omega
  rw [em]
  walk_at "st"
  generalize hl:min (μ a) (μ b)=low
  refine ⟨a,_,_,rfl,rfl,xa,?_⟩
  walk_at "st"
  have q1:=qGQ p1 (fun p=>D.int (μ p)) (.int low)
  have q2:=qDi D.int μ a low
  rw [show (QI n μ).set a.toNat (.int low)=QI n (put μ a low) from q1.trans (congrArg (qEK n) q2.symm)]
  have xb:=qFu p2 fun p=>D.int (put μ a low p)
  walk_at "v"
  refine ⟨b,_,_,rfl,rfl,xb,?_⟩
  walk_at "st"
  have q3:=qGQ p2 (fun p=>D.int (put μ a low p)) (.int low)
  have q4:=qDi D.int (put μ a low) b low
  rw [show (QI n (put μ a low)).set b.toNat (.int low)=QI n (put (put μ a low) b low) from q3.trans (congrArg (qEK n) q4.symm)]
  have el:qG4 μ (a,b)=put (put μ a low) b low:=by
   unfold qG4
   dsimp only
   rw [hl]
  walk_at "v"
  refine ⟨s2',.d (.int a),.d (.int b),.d (.int low),?_⟩
  rw [lt,el]
def qLs:PV:=fun as Φ=>∃(n:Nat) (ts:List Tie) (a b:Int) (td:D),as=[.d td,.d (.int a),.d (.int b)]/\(td=.tup (ts.map qw)\/td=.lst (ts.map qw))/\n<=9/\ts.length<=20/\ts.Nodup/\(∀ t∈ts,okp n t)/\a∈places n/\(qEL ts a b=none->Φ (.d .non) as)/\∀ w:List Int,qEL ts a b=some (w++[b])->(w++[b]).Nodup->w.length<=9->Φ (.d (.lst (qE (w++[b])))) as
theorem qt:qR ["ties","one","other","ways","met","at","way","nearby","unmet"] ["ties","one","other"] (qJ (top 11)):=by walk_at "sc"
theorem Y7 (F:Fun K "way_between" "way_between" (top 11) f fd) (T:Txt mg):QC P w K mg base CX0 1 f fd ["ties","one","other"] (spV qLs):=by
 refine jO F qt [0,1,2] (fun as Φ h=>?_) (fun cdv A outer s H E hr=>?_)
 ·obtain ⟨n,ts,a,b,td,rfl,_⟩:=h
  rfl
 ·have hu:=hr.units
  refine ⟨_,(qC (QP 3 qt (Qq (qA (Qq (qA (pv 1) qB)) qB)))
   (qC (QP 4 qt (Qq (qA (pv 1) qB)))
   (qC (QP 5 qt qD)
   (qC (YG vR (qK qAB (pv 5) (qH (qBY (K:=K) rfl) (by rfl) T.n_len yW (qA (pv 3) qB)) (qV _))
   (qC (QP 6 qt (jA (pv 3) (pv 5)))
    (qC (jY (qK (qAH hu) (jA (pv 6) (qBd J5 qD)) (pv 2) (qV _))
    (qF (qQ (pv 6)))
    qb)
    (qC (jS (i:=7) rfl qt.nd rfl rfl (own:=["a","b"]) (fr:=[("way",6)]) (by walk_at "cs") (qd (K:=K) rfl (pv 0)) (fun cl C s0 H0 fp=>⟨(jc (K:=K) (n:=2) rfl rfl (qW (jo 0) (qW (jo 1) jd))),jg (qK (qCY hu) (jA (pv 2) (qBd J5 qD)) (qk (qA (pv 0) (qA (pv 1) qB))) (by with_unfolding_all rfl)),(qBO (qK (qAH hu) (pv 1) (jA (pv 2) (qBd J5 qD)) (qV _)) (pv 0) (pv 1))⟩))
    (qC (jS (i:=8) rfl qt.nd rfl rfl (own:=["place"]) (fr:=[("met",4)]) (by walk_at "cs") (qd (K:=K) rfl (pv 7)) (fun cl C s0 H0 fp=>⟨(jo 0),jg (qK (QR hu) (pv 0) (pv 1) (by with_unfolding_all rfl)),(pv 0)⟩))
    (qC (Qu (qAN (K:=K) rfl vL fY fZ Yd (pv 3) (qA (qc rfl (own:=["place"]) (fr:=[("way",6)]) (by walk_at "cs") (qd (K:=K) rfl (pv 8)) (fun cl C s0 H0 fp=>⟨(jo 0),jH,(qr (Y3 (K:=K) rfl) (pv 1) (Qq (qA (pv 0) qB)))⟩)) qB)))
    (qC (Qu (qAN (K:=K) rfl vL fY fZ Yd (pv 4) (qA (pv 8) qB)))
    (qF (qII (i:=5) qt.nd rfl (Or.inl rfl) qD qGL)))))))))
   (qF (qQ qId)))))),?_⟩
  rintro as Φ ⟨n,ts,a,b,td,rfl,htd,hn,hts,nd,ok,ha,kn,k⟩
  walk_at "sv"
  walk_at "st"
  walk_at "nw"
  refine qAx (fun m ρ=>∃(ws:List (List Int)) (met:List Int) (i:Nat) (s6 s7 s8:Sl),ρ=[.d td,.d (.int a),.d (.int b),.l (ws.map qHl),.l (qE met),.d (.int i),s6,s7,s8]/\ws.length=met.length/\met.Nodup/\(∀ p∈met,p∈places n)/\(∀ v∈ws,v≠[]/\v.Nodup/\∀ p∈v,p∈met)/\i<=ws.length/\i+m=10/\qCd ts b m ws met i=qEL ts a b) 10 ⟨[[a]],[a],0,_,_,_,rfl,rfl,zI.mpr ⟨wY,yC⟩,fun p hp=>by rw [wK.mp hp]; exact ha,fun v hv=>by rw [wK.mp hv]; exact ⟨List.cons_ne_nil _ _,zI.mpr ⟨wY,yC⟩,fun p hp=>hp⟩,zZ _,rfl,rfl⟩ ?_
  rintro m ρ ⟨ws,met,i,s6,s7,s8,rfl,hwl,mnd,mpl,hws,hi,him,go⟩
  have hml:met.length<=n:=by
   have hs:met ⊆ places n:=fun p hp=>mpl p hp
   have:=yY mnd hs
   rwa [places_len] at this
  obtain ⟨m,rfl⟩:∃ k,m=k+1:=⟨m - 1,by omega⟩
  unfold qCd at go
  walk_at "v"
  rw [wC]
  by_cases hc:i<ws.length
  rotate_left
  ·rw [decide_eq_false (by omega),if_neg wQ]
   rw [if_neg hc] at go
   walk_at "v"
   exact ⟨⟨_,rfl⟩,kn go.symm⟩
  rw [decide_eq_true (by omega),if_pos rfl]
  obtain ⟨v0,vnd,vmet⟩:=hws ws[i] (kC hc)
  have hat:atI (ws.map qHl) (i:Int)=some (.lst (qE ws[i])):=JI (by rw [wL,wA hc]; rfl)
  have hgd:ws.getD i []=ws[i]:=by rw [wW,wA hc]; rfl
  rw [if_pos hc,hgd] at go
  clear hgd
  generalize ws[i]=v at hat v0 vnd vmet go
  obtain ⟨v',u,rfl⟩:∃ v' u,v=v'++[u]:=⟨v.dropLast,v.getLast v0,(UC v0).symm⟩
  have egl:(v'++[u]).getLastD 0=u:=by simp
  rw [egl] at go
  have hlast:atI (qE (v'++[u])) (-1)=some (.int u):=by
   unfold qE
   rw [yD]
   exact qD8 _ _
  have vl:(v'++[u]).length<=met.length:=yY vnd (fun p hp=>vmet p hp)
  rw [wR] at vl
  have vl':v'.length+1<=met.length:=vl
  walk_at "v"
  walk_at "sv"
  refine Qf (fun hub=>?_) (fun hub=>?_)
  ·have e:u=b:=ofd hub
   subst e
   walk_at "v"
   rw [if_pos rfl] at go
   exact ⟨⟨_,rfl⟩,k v' go.symm vnd (by omega)⟩
  rw [if_neg (fun z=>hub (decide_eq_true z))] at go
  clear hub
  refine qg ?_
  refine Yb (Yn ?_)
  refine qy qw ts (fun t=>decide (u∈[t.1,t.2])) (fun t=>D.int (endOf u t)) (QL ?_)
  walk_at "v"
  refine ⟨td,ts.map qw,rfl,htd.elim (fun e=>e ▸ rfl) (fun e=>e ▸ rfl),rfl,qI (by omega),qM rfl,of_decide_eq_true rfl,?_,?_⟩
  ·rintro ⟨x1,x2⟩ _ os hos
   obtain ⟨z0,z1,rfl⟩:=qFn hos
   walk_at "v"
   refine ⟨⟨[_,_],rfl,rfl⟩,?_,fun _=>?_⟩
   ·walk_at "v"
    refine qDk (fs:=[x1,x2]) rfl rfl ?_
    exact ⟨_,rfl,rfl,rfl⟩
   ·refine qMc ?_
    walk_at "v"
    refine Qf (fun hc=>?_) (fun hc=>?_)
    ·walk_at "v"
     refine ⟨?_,rfl⟩
     unfold endOf
     rw [if_pos (ofd hc)]
     rfl
    ·walk_at "v"
     refine ⟨?_,rfl⟩
     unfold endOf
     rw [if_neg (fun z=>hc (decide_eq_true z))]
     rfl
  have e1:(ts.filter fun t=>decide (u∈[t.1,t.2])).map (fun t:Tie=>D.int (endOf u t))=qE (nbr ts u):=by
   unfold qE nbr
   rw [zM]
   rfl
  rw [e1]
  have nnd:=qB6 ok nd u
  have nok:∀ p∈nbr ts u,p∈places n:=fun p hp=>qIQ ok hp
  have nl:(nbr ts u).length<=20:=by
   unfold nbr
   rw [wC]
   exact zO (yL _ _) hts
  generalize nbr ts u=nb at nnd nok nl go
  clear e1
  refine qm rfl ?_
  walk_at "st"
  walk_at "ps"
  refine Yb (Yn ?_)
  refine JH (fun p:Int=>D.int p) nb (fun p=>!decide (p∈met)) (fun p=>D.int p) rfl rfl (qI (by omega)) (qM rfl) (of_decide_eq_true rfl) ?_ ?_
  ·rintro p _ os hos
   obtain ⟨z0,rfl⟩:=Jz hos
   walk_at "v"
   refine ⟨⟨[_],rfl,rfl⟩,?_,fun _=>?_⟩
   ·walk_at "v"
    exact ⟨rfl,rfl⟩
   ·walk_at "v"
    exact ⟨rfl,rfl⟩
  have und:(nb.filter fun p=>!decide (p∈met)).Nodup:=WS vC nnd
  have uok:∀ p∈nb.filter (fun p=>!decide (p∈met)),p∈places n/\p∉met:=fun p hp=>by
   obtain ⟨h1,h2⟩:=zH.mp hp
   rw [vM,decide_eq_false_iff_not] at h2
   exact ⟨nok p h1,h2⟩
  have ul:(nb.filter fun p=>!decide (p∈met)).length<=20:=zO (yL _ _) nl
  generalize nb.filter (fun p=>!decide (p∈met))=um at und uok ul go
  refine qm rfl ?_
  walk_at "sv"
  refine JH (fun p:Int=>D.int p) um (fun _=>true) (fun p=>qHl (v'++[u]++[p])) rfl rfl (qI (by omega)) (qM rfl) (of_decide_eq_true rfl) ?_ ?_
  ·rintro p _ os hos
   obtain ⟨z0,rfl⟩:=Jz hos
   walk_at "v"
   refine ⟨⟨[_],rfl,rfl⟩,jN ⟨rfl,rfl⟩,fun _=>?_⟩
   walk_at "v"
   refine OpV.r (OpV.l (qD9 rfl rfl (sz2 (by rw [wC,wR]; show _+1+1<=1000; omega)) ?_))
   refine ⟨?_,rfl⟩
   unfold qHl qE
   rw [yD (l₁:=v'++[u])]
   rfl
  rw [qT]
  walk_at "v"
  refine qAp (xs:=ws.map qHl) (ys:=um.map fun p=>qHl (v'++[u]++[p])) rfl rfl (sz2 (by rw [wC,wC]; omega)) ?_
  walk_at "sv"
  refine qAp (xs:=qE met) (ys:=um.map fun p:Int=>D.int p) rfl rfl (sz2 (by rw [wC,wC]; omega)) ?_
  walk_at "st"
  refine qLC (k:=fun i j=>i+j) rfl rfl ?_
  walk_at "v"
  walk_at "st"
  have e2:ws.map qHl++um.map (fun p=>qHl (v'++[u]++[p]))=(ws++um.map fun p=>v'++[u]++[p]).map qHl:=by
   rw [yD,zM]
   rfl
  have e3:qE met++um.map (fun p:Int=>D.int p)=qE (met++um):=by
   unfold qE
   rw [yD]
  rw [e2,e3]
  refine ⟨m,by omega,ws++um.map (fun p=>v'++[u]++[p]),met++um,i+1,_,_,_,rfl,by rw [wR,wR,wC]; omega,?_,?_,?_,by rw [wR]; omega,by omega,go⟩
  ·exact yF.mpr ⟨mnd,und,fun p hp r hr z=>(uok r hr).2 (z ▸ hp)⟩
  ·intro p hp
   obtain z | z:=zG.mp hp
   ·exact mpl p z
   ·exact (uok p z).1
  ·intro x hx
   rcases zG.mp hx with z | z
   ·obtain ⟨h1,h2,h3⟩:=hws x z
    exact ⟨h1,h2,fun p hp=>zS _ (h3 p hp)⟩
   ·obtain ⟨p,hp,rfl⟩:=zP.mp z
    refine ⟨fun h=>by simp at h,yF.mpr ⟨vnd,zI.mpr ⟨wY,yC⟩,fun r hr y hy e=>?_⟩,fun r hr=>?_⟩
    ·rw [wK.mp hy] at e
     exact (uok p hp).2 (e ▸ vmet r hr)
    ·rcases zG.mp hr with y | y
     ·exact zS _ (vmet r y)
     ·rw [wK.mp y]
      exact zK _ hp
theorem qFM {a y:Int} {o:List Int} (h:¬ a=y):(a::o).idxOf y=o.idxOf y+1:=by
 rw [List.idxOf_cons,beq_false_of_ne h]
 rfl
theorem qA6:∀{o:List Int} {y x:Int},o.Nodup->[y,x].Sublist o->o.idxOf y<o.idxOf x
 | [],y,x,nd,h=>by cases h
 | a::o,y,x,nd,h=>by
  obtain ⟨na,nd'⟩:=zI.mp nd
  cases h with
  | cons _ h=>
   have hy:y∈o:=h.subset wF
   have hx:x∈o:=h.subset (wN _ wF)
   have ny:¬ a=y:=fun z=>na (z ▸ hy)
   have nx:¬ a=x:=fun z=>na (z ▸ hx)
   rw [qFM ny,qFM nx]
   exact Nat.succ_lt_succ (qA6 nd' h)
  | cons_cons _ h=>
   have hx:x∈o:=h.subset wF
   have nx:¬ a=x:=fun z=>na (z ▸ hx)
   rw [List.idxOf_cons_self,qFM nx]
   exact fC _
theorem qCu {l r:List Int} {e:Int} (h:e∉l):(l++e::r).idxOf e=l.length:=by
 rw [List.idxOf_append,if_neg h,List.idxOf_cons_self]
 exact Nat.zero_add _
def qJw (E:List Tie) (s t:Int) (o:List Int) (x:Int):Prop:=(x≠s->∃ y,qO E x y/\[y,x].Sublist o)/\(x≠t->∃ y,qO E x y/\[x,y].Sublist o)
theorem qJw.up {E E':List Tie} {s t:Int} {o o':List Int} {x:Int} (h:qJw E s t o x) (m:∀ a b,qO E a b->qO E' a b) (su:o.Sublist o'):qJw E' s t o' x:=
 ⟨fun z=>let ⟨y,h1,h2⟩:=h.1 z; ⟨y,m _ _ h1,h2.trans su⟩,fun z=>let ⟨y,h1,h2⟩:=h.2 z; ⟨y,m _ _ h1,h2.trans su⟩⟩
theorem qBT {o:List Int} {u x:Int} (h:u∈o) : [u,x].Sublist (o++[x]):=WE (List.singleton_sublist.mpr h) (fS [x])
theorem qDL {E:List Tie} {s:Int} {v:List Int} {u:Int} (W:Q9 E s v u):∀ x∈v++[u],qJw E s u (v++[u]) x:=by
 induction W with
 | base=>
  intro x hx
  have e:=wK.mp hx
  exact ⟨fun z=>absurd e z,fun z=>absurd e z⟩
 | @snoc v u x W t nx ih=>
  intro z hz
  rcases zG.mp hz with h | h
  ·obtain ⟨h1,h2⟩:=ih z h
   refine ⟨fun ne=>let ⟨y,a,b⟩:=h1 ne; ⟨y,a,b.trans (TK _ _)⟩,fun _=>?_⟩
   by_cases e:z=u
   ·rw [e]
    exact ⟨x,t,qBT (zK _ wF)⟩
   ·obtain ⟨y,a,b⟩:=h2 e
    exact ⟨y,a,b.trans (TK _ _)⟩
  ·rw [wK.mp h]
   exact ⟨fun _=>⟨u,jv _ _ t,qBT (zK _ wF)⟩,fun z=>absurd rfl z⟩
structure Jh (n:Nat) (E:List Tie) (s t:Int) (o:List Int):Prop where
 nd:o.Nodup
 pl:∀ p∈o,p∈places n
 hd:o.head? = some s
 ls:o.getLast? = some t
 hung:∀ x∈o,qJw E s t o x
theorem qHb {E:List Tie} {s:Int} {v:List Int} {u:Int} (W:Q9 E s v u):qi (qO E) s u:=by
 induction W with
 | base=>exact .refl
 | snoc _ t _ ih=>exact .snoc ih t
theorem qIK {n:Nat} {E:List Tie} (ok:∀ t∈E,okp n t) {s:Int} (hs:s∈places n) {v:List Int} {u:Int} (W:Q9 E s v u):(v++[u]).Nodup/\∀ p∈v++[u],p∈places n:=by
 induction W with
 | base=>exact ⟨zI.mpr ⟨wY,yC⟩,qCy hs⟩
 | snoc _ t nx ih=>exact ⟨qAV ih.1 nx,fun p hp=>(zG.mp hp).elim (ih.2 p) fun z=>wK.mp z ▸ (jQ ok t).2⟩
theorem qDs {E:List Tie} {s:Int} {v:List Int} {u:Int} (W:Q9 E s v u):∃ r,v++[u]=s::r:=by
 induction W with
 | base=>exact ⟨[],rfl⟩
 | snoc _ _ _ ih=>
  obtain ⟨r,e⟩:=ih
  exact ⟨_,by rw [e]; rfl⟩
theorem qHU {n:Nat} {E:List Tie} (ok:∀ t∈E,okp n t) {s t:Int} (hs:s∈places n) {v:List Int} (W:Q9 E s v t):Jh n E s t (v++[t]):=by
 obtain ⟨h1,h2⟩:=qIK ok hs W
 obtain ⟨r,e⟩:=qDs W
 exact ⟨h1,h2,by rw [e]; rfl,by rw [List.getLast?_append]; rfl,qDL W⟩
def QW (o:List Int) (E:List Tie):List Tie:=E.filter fun t=>!decide (t.1∈o) && !decide (t.2∈o)
def YX (n:Nat) (o:List Int):List Int:=(places n).filter fun p=>!decide (p∈o)
noncomputable def Q8 (n:Nat) (E:List Tie) (o:List Int):List Int:=part n (qi (qO (QW o E))) ((YX n o).headD 0)
def Y6 (n:Nat) (E:List Tie) (o P:List Int):List Int:=o.filter fun p=>(jM n E p).any fun q=>decide (q∈P)
def j8 (E:List Tie) (P:List Int) (a b:Int):List Tie:=(E.filter fun t=>decide (t.1∈P) || decide (t.2∈P)).filter fun t=>decide (t.1∈P++[a,b]) && decide (t.2∈P++[a,b])
def qLV (E:List Tie) (P:List Int) (a b:Int):List Int:=(((qEL (j8 E P a b) a b).getD []).drop 1).dropLast
def J4 (o:List Int) (a:Int) (b:List Int):List Int:=o.take (o.idxOf a+1)++b++o.drop (o.idxOf a+1)
inductive Told
 | order (o:List Int)
 | cut (p:Int) (P:List Int)
noncomputable def Y9 (n:Nat) (E:List Tie):Nat->List Int->Told
 | 0,o=>.order o
 | k+1,o=>if o.length<n then (match Y6 n E o (Q8 n E o) with | []=>.order o | [e]=>.cut e (Q8 n E o) | e::e'::_=>Y9 n E k (J4 o e (qLV E (Q8 n E o) e e'))) else .order o
noncomputable def JX (n:Nat) (E:List Tie) (s t:Int):Told:=Y9 n E n ((qEL E s t).getD [])
theorem Ye {o:List Int} {E:List Tie} {a b:Int}:qO (QW o E) a b↔qO E a b/\a∉o/\b∉o:=by
 have key:∀ t:Tie,t∈QW o E↔t∈E/\t.1∉o/\t.2∉o:=fun t=>by
  unfold QW
  rw [zH,zX,vM,vM,decide_eq_false_iff_not,decide_eq_false_iff_not]
 unfold qO
 rw [key,key]
 constructor
 ·rintro (⟨h1,h2,h3⟩ | ⟨h1,h2,h3⟩)
  ·exact ⟨.inl h1,h2,h3⟩
  ·exact ⟨.inr h1,h3,h2⟩
 ·rintro ⟨h1 | h1,h2,h3⟩
  ·exact .inl ⟨h1,h2,h3⟩
  ·exact .inr ⟨h1,h3,h2⟩
theorem QB {E:List Tie} {P:List Int} {a b x y:Int}:qO (j8 E P a b) x y↔qO E x y/\(x∈P\/y∈P)/\x∈P++[a,b]/\y∈P++[a,b]:=by
 have key:∀ t:Tie,t∈j8 E P a b↔t∈E/\(t.1∈P\/t.2∈P)/\t.1∈P++[a,b]/\t.2∈P++[a,b]:=fun t=>by
  unfold j8
  rw [zH,zH,zX,Bool.or_eq_true,decide_eq_true_iff,decide_eq_true_iff,decide_eq_true_iff,decide_eq_true_iff,and_assoc]
 unfold qO
 rw [key,key]
 constructor
 ·rintro (⟨h1,h2,h3,h4⟩ | ⟨h1,h2,h3,h4⟩)
  ·exact ⟨.inl h1,h2,h3,h4⟩
  ·exact ⟨.inr h1,h2.symm,h4,h3⟩
 ·rintro ⟨h1 | h1,h2,h3,h4⟩
  ·exact .inl ⟨h1,h2,h3,h4⟩
  ·exact .inr ⟨h1,h2.symm,h4,h3⟩
structure Yw (n:Nat) (E:List Tie) (o P:List Int):Prop where
 ne:P≠[]
 up:P.Pairwise (· < ·)
 pl:∀ p∈P,p∈places n
 out:∀ p∈P,p∉o
 shut:∀ x∈P,∀ y,qO E x y->y∈P\/y∈o
 conn:∀ x∈P,∀ y∈P,qi (qO (QW o E)) x y
theorem qGZ {n:Nat} {o:List Int} (nd:o.Nodup) (pl:∀ p∈o,p∈places n) (h:o.length<n):∃ p r,YX n o=p::r/\p∈places n/\p∉o:=by
 cases e:YX n o with
 | nil=>
  have:∀ p∈places n,p∈o:=fun p hp=>by
   apply vP
   intro z
   have:p∈YX n o:=zH.mpr ⟨hp,by rw [vM,decide_eq_false_iff_not]; exact z⟩
   rw [e] at this
   cases this
  have:=yY (ju n) this
  rw [places_len] at this
  omega
 | cons p r=>
  have:p∈YX n o:=by rw [e]; exact wF
  obtain ⟨h1,h2⟩:=zH.mp this
  rw [vM,decide_eq_false_iff_not] at h2
  exact ⟨p,r,rfl,h1,h2⟩
theorem qDc {o:List Int} {E:List Tie} {a b:Int} (h:a∉o) (c:qi (qO (QW o E)) a b):b∉o:=by
 cases c with
 | refl=>exact h
 | snoc _ t=>exact (Ye.mp t).2.2
theorem qE1 {n:Nat} {E:List Tie} (ok:∀ t∈E,okp n t) {o:List Int} (nd:o.Nodup) (pl:∀ p∈o,p∈places n) (h:o.length<n):Yw n E o (Q8 n E o):=by
 obtain ⟨p,r,e,hp,po⟩:=qGZ nd pl h
 have L:qE4 (qi (qO (QW o E))):=qE4.of _
 unfold Q8
 rw [e]
 show Yw n E o (part n (qi (qO (QW o E))) p)
 refine ⟨qI9 L hp,qFG _ _ _,fun q hq=>(ja.mp hq).1,fun q hq=>qDc po (ja.mp hq).2,fun x hx y t=>?_,fun x hx y hy=>L.trans _ _ _ (L.symm _ _ (ja.mp hx).2) (ja.mp hy).2⟩
 by_cases yo:y∈o
 ·exact .inr yo
 ·exact .inl (ja.mpr ⟨(jQ ok t).2,.snoc (ja.mp hx).2 (Ye.mpr ⟨t,qDc po (ja.mp hx).2,yo⟩)⟩)
theorem qH8 {n:Nat} {E:List Tie} (ok:∀ t∈E,okp n t) {P:List Int} {p:Int}:((jM n E p).any fun q=>decide (q∈P))=true↔∃ q∈P,qO E p q:=by
 rw [uF]
 unfold jM
 constructor
 ·rintro ⟨q,h1,h2⟩
  exact ⟨q,of_decide_eq_true h2,(Yh ok).mp (of_decide_eq_true (zH.mp h1).2)⟩
 ·rintro ⟨q,h1,h2⟩
  exact ⟨q,zH.mpr ⟨(jQ ok h2).2,decide_eq_true ((Yh ok).mpr h2)⟩,decide_eq_true h1⟩
theorem qD2 {n:Nat} {E:List Tie} (ok:∀ t∈E,okp n t) {o P:List Int} {p:Int}:p∈Y6 n E o P↔p∈o/\∃ q∈P,qO E p q:=by
 unfold Y6
 rw [zH,qH8 ok]
theorem qI3 {n:Nat} {E:List Tie} (ok:∀ t∈E,okp n t) (wh:JJ n E) {o P:List Int} (pk:Yw n E o P) {s:Int} (hs:s∈o) (sp:s∈places n):Y6 n E o P≠[]:=fun z=>by
 obtain ⟨x,hx⟩:∃ x,x∈P:=by
  have:=pk.ne
  cases h:P with
  | nil=>exact absurd h this
  | cons x _=>exact ⟨x,wF⟩
 have L:qE4 (qi (qO E)):=qE4.of E
 have c:qi (qO E) x s:=L.trans _ _ _ (L.symm _ _ (wh x (pk.pl x hx))) (wh s sp)
 have key:∀ y,qi (qO E) x y->y∈P:=fun y c=>by
  induction c with
  | refl=>exact hx
  | @snoc b c _ t ih=>
   rcases pk.shut _ ih _ t with h | h
   ·exact h
   ·have:c∈Y6 n E o P:=(qD2 ok).mpr ⟨h,b,ih,jv _ _ t⟩
    rw [z] at this
    cases this
 exact pk.out s (key s c) hs
theorem qFz {E:List Tie} {o P:List Int} {n:Nat} (pk:Yw n E o P) {a b x y:Int} (hx:x∈P) (c:qi (qO (QW o E)) x y):y∈P/\qi (qO (j8 E P a b)) x y:=by
 induction c with
 | refl=>exact ⟨hx,.refl⟩
 | @snoc u v _ t ih=>
  obtain ⟨t1,t2,t3⟩:=Ye.mp t
  have hv:v∈P:=(pk.shut _ ih.1 _ t1).resolve_right t3
  exact ⟨hv,.snoc ih.2 (QB.mpr ⟨t1,.inl ih.1,zS _ ih.1,zS _ hv⟩)⟩
theorem qG9 {n:Nat} {E:List Tie} {o P:List Int} (pk:Yw n E o P) {a b x y:Int} (hx:x∈P) (hy:y∈P) (ta:qO E a x) (tb:qO E b y):qi (qO (j8 E P a b)) a b:=by
 have ma:a∈P++[a,b]:=zK _ wF
 have mb:b∈P++[a,b]:=zK _ (wN _ wF)
 have c1:qi (qO (j8 E P a b)) a x:=.snoc .refl (QB.mpr ⟨ta,.inr hx,ma,zS _ hx⟩)
 have c2:=(qFz (a:=a) (b:=b) pk hx (pk.conn x hx y hy)).2
 exact .snoc (c1.trans c2) (QB.mpr ⟨jv _ _ tb,.inl hy,zS _ hy,mb⟩)
theorem qAo:∀{o:List Int} {a b:Int},[a,b].Sublist o->∃ l r,o=l++a::r/\b∈r
 | [],_,_,h=>by cases h
 | x::o,a,b,h=>by
  cases h with
  | cons _ h=>
   obtain ⟨l,r,e,hb⟩:=qAo h
   exact ⟨x::l,r,by rw [e]; rfl,hb⟩
  | cons_cons _ h=>exact ⟨[],o,rfl,h.subset wF⟩
theorem qBQ {E:List Tie} {P:List Int} {a b:Int} {t:Tie} (h:t∈j8 E P a b):t∈E:=(zH.mp (zH.mp h).1).1
theorem qDP {E:List Tie} (nd:E.Nodup) (P:List Int) (a b:Int):(j8 E P a b).Nodup:=(nd.sublist vC).sublist vC
structure qH0 (E:List Tie) (P:List Int) (a b:Int) (B:List Int):Prop where
 way:qEL (j8 E P a b) a b=some (a::B++[b])
 bow:qLV E P a b=B
 ne:B≠[]
 nd:(a::B++[b]).Nodup
 inn:∀ z∈B,z∈P
 hung:∀ z∈a::B++[b],qJw E a b (a::B++[b]) z
theorem qKv {n:Nat} {E:List Tie} (n9:n<=9) (ok:∀ t∈E,okp n t) (ndE:E.Nodup) {o P:List Int} (pk:Yw n E o P) {a b x y:Int} (ha:a∈places n) (aP:a∉P) (bP:b∉P) (ne:a≠b) (hx:x∈P) (hy:y∈P) (ta:qO E a x) (tb:qO E b y):∃ B,qH0 E P a b B:=by
 have oki:∀ t∈j8 E P a b,okp n t:=fun t h=>ok t (qBQ h)
 obtain ⟨h1,h2⟩:=qJO (g:=b) n9 oki (qDP ndE P a b) ha
 cases e:qEL (j8 E P a b) a b with
 | none=>exact absurd (qG9 pk hx hy ta tb) (h2 e)
 | some w=>
  obtain ⟨v,rfl,W⟩:=h1 w e
  obtain ⟨nd,_⟩:=qIK oki ha W
  obtain ⟨r,er⟩:=qDs W
  have hg:=qDL W
  cases v with
  | nil=>
   have : [b]=a::r:=er
   injection this with z _
   exact absurd z.symm ne
  | cons c B=>
   have z:c::(B++[b])=a::r:=er
   injection z with z _
   subst z
   have hg':∀ z∈c::B++[b],qJw E c b (c::B++[b]) z:=fun z hz=>(hg z hz).up (fun _ _ t=>(QB.mp t).1) (fS _)
   refine ⟨B,e,?_,fun z=>?_,nd,fun z hz=>?_,hg'⟩
   ·unfold qLV
    rw [e]
    show (B++[b]).dropLast=B
    exact List.dropLast_concat
   ·subst z
    obtain ⟨y',t1,t2⟩:=(hg b (wN _ wF)).1 fun z=>ne z.symm
    obtain ⟨_,t3,_⟩:=QB.mp t1
    have hb:y'=c:=by
     have hy':y'∈[c]++[b]:=t2.subset wF
     rcases zG.mp hy' with q | q
     ·exact wK.mp q
     ·have:=t2.nodup nd
      rw [wK.mp q] at this
      exact absurd wF (zI.mp this).1
    rw [hb] at t3
    exact t3.elim bP aP
   ·have zc:z≠c:=fun q=>(zI.mp nd).1 (zS _ (q ▸ hz))
    have zb:z≠b:=fun q=>(yF.mp (zI.mp nd).2).2.2 z hz b wF q
    obtain ⟨y',t1,_⟩:=(hg z (zS _ (wN _ hz))).1 zc
    obtain ⟨_,_,t4,_⟩:=QB.mp t1
    rcases zG.mp t4 with q | q
    ·exact q
    ·rcases wM.mp q with q | q
     ·exact absurd q zc
     ·exact absurd (wK.mp q) zb
theorem qK8 {l r:List Int} {a:Int} (h:a∉l) (B:List Int):J4 (l++a::r) a B=l++a::(B++r):=by
 unfold J4
 rw [qCu h]
 have e1:(l++a::r).take (l.length+1)=l++[a]:=by
  rw [List.take_append,uB (fO _),xE]
  rfl
 have e2:(l++a::r).drop (l.length+1)=r:=by
  rw [List.drop_append,List.drop_eq_nil_of_le (fO _),xE]
  rfl
 rw [e1,e2,xA,xA]
 rfl
theorem qKo {n:Nat} {E:List Tie} {s t:Int} {o P B l r:List Int} {a b:Int} (H:Jh n E s t o) (pk:Yw n E o P) (eo:o=l++a::r) (hb:b∈r) (bk:qH0 E P a b B):Jh n E s t (J4 o a B)/\(J4 o a B).length=o.length+B.length:=by
 subst eo
 have nd:=H.nd
 have al:a∉l:=fun z=>(yF.mp nd).2.2 a z a wF rfl
 rw [qK8 al]
 have su:(l++a::r).Sublist (l++a::(B++r)):=WE (fS _) (gP _ (UU _ _))
 have sw:(a::B++[b]).Sublist (l++a::(B++r)):=(gP _ (WE (fS _) (List.singleton_sublist.mpr hb))).trans (UU _ _)
 have mm:∀ x,x∈l++a::(B++r)↔x∈l++a::r\/x∈B:=fun x=>by
  rw [zG,wM,zG,zG,wM]
  constructor
  ·rintro (h | h | h | h)
   ·exact .inl (.inl h)
   ·exact .inl (.inr (.inl h))
   ·exact .inr h
   ·exact .inl (.inr (.inr h))
  ·rintro ((h | h | h) | h)
   ·exact .inl h
   ·exact .inr (.inl h)
   ·exact .inr (.inr (.inr h))
   ·exact .inr (.inr (.inl h))
 have pe:(l++a::(B++r)).Perm ((l++a::r)++B):=by
  rw [xA]
  exact ZZ _ (List.Perm.cons _ List.perm_append_comm)
 refine ⟨⟨?_,fun p hp=>?_,?_,?_,fun x hx=>?_⟩,?_⟩
 ·rw [pe.nodup_iff,yF]
  refine ⟨nd,((yF.mp (zI.mp bk.nd).2).1),fun x hx y hy e=>pk.out y (bk.inn y hy) (e ▸ hx)⟩
 ·exact ((mm p).mp hp).elim (H.pl p) fun h=>pk.pl p (bk.inn p h)
 ·have:=H.hd
  cases l with
  | nil=>exact this
  | cons c l=>exact this
 ·have:=H.ls
  have e1:∀ X:List Int,(l++a::(X++r)).getLast? = r.getLast?:=fun X=>by
   have:r≠[]:=fun z=>by rw [z] at hb; cases hb
   rw [show l++a::(X++r)=(l++a::X)++r from by rw [xA]; rfl,List.getLast?_append]
   cases h:r.getLast? with
   | none=>exact absurd (List.getLast?_eq_none_iff.mp h) this
   | some z=>rfl
  rw [e1 B,<- e1 []]
  exact this
 ·rcases (mm x).mp hx with h | h
  ·exact (H.hung x h).up (fun _ _ t=>t) su
  ·have xa:x≠a:=fun q=>(zI.mp bk.nd).1 (zS _ (q ▸ h))
   have xb:x≠b:=fun q=>(yF.mp (zI.mp bk.nd).2).2.2 x h b wF q
   obtain ⟨h1,h2⟩:=bk.hung x (zS _ (wN _ h))
   obtain ⟨y1,t1,s1⟩:=h1 xa
   obtain ⟨y2,t2,s2⟩:=h2 xb
   exact ⟨fun _=>⟨y1,t1,s1.trans sw⟩,fun _=>⟨y2,t2,s2.trans sw⟩⟩
 ·rw [pe.length_eq,wR]
structure qE2 (n:Nat) (E:List Tie) (s t p:Int) (P:List Int):Prop where
 ne:P≠[]
 up:P.Pairwise (· < ·)
 pl:∀ q∈P,q∈places n
 at_:p∈places n
 s_:s∉P
 t_:t∉P
 p_:p∉P
 shut:∀ x∈P,∀ y,qO E x y->y∈P\/y=p
def qE5 (n:Nat) (E:List Tie) (s t:Int):Told->Prop
 | .order o=>Jh n E s t o/\o.length=n
 | .cut p P=>qE2 n E s t p P
theorem Jh.s_in {n:Nat} {E:List Tie} {s t:Int} {o:List Int} (H:Jh n E s t o):s∈o:=List.mem_of_head? H.hd
theorem Jh.t_in {n:Nat} {E:List Tie} {s t:Int} {o:List Int} (H:Jh n E s t o):t∈o:=List.mem_of_getLast? H.ls
theorem qFD {n:Nat} {E:List Tie} (n9:n<=9) (ok:∀ t∈E,okp n t) (ndE:E.Nodup) (wh:JJ n E) {s t:Int} {o:List Int} (H:Jh n E s t o) (h:o.length<n) :
  (∃ e,Y6 n E o (Q8 n E o)=[e]/\qE2 n E s t e (Q8 n E o))\/∃ a b r B,Y6 n E o (Q8 n E o)=a::b::r/\qH0 E (Q8 n E o) a b B/\a∈o/\b∈o/\Jh n E s t (J4 o a B)/\o.length<(J4 o a B).length:=by
 have pk:=qE1 ok H.nd H.pl h
 generalize Q8 n E o=P at pk
 have en:=qI3 ok wh pk H.s_in (H.pl s H.s_in)
 cases e:Y6 n E o P with
 | nil=>exact absurd e en
 | cons a r=>
  have hm:∀ p,p∈a::r↔p∈o/\∃ q∈P,qO E p q:=fun p=>by rw [<- e,qD2 ok]
  obtain ⟨ao,x,hx,ta⟩:=(hm a).mp wF
  cases r with
  | nil=>
   refine .inl ⟨a,rfl,pk.ne,pk.up,pk.pl,H.pl a ao,fun z=>pk.out s z H.s_in,fun z=>pk.out t z H.t_in,fun z=>pk.out a z ao,fun x hx y t=>?_⟩
   rcases pk.shut x hx y t with z | z
   ·exact .inl z
   ·exact .inr (wK.mp ((hm y).mpr ⟨z,x,hx,jv _ _ t⟩))
  | cons b r=>
   obtain ⟨bo,y,hy,tb⟩:=(hm b).mp (wN _ wF)
   have su : [a,b].Sublist o:=(show [a,b].Sublist (a::b::r) from gP _ (gP _ (List.nil_sublist _))).trans (e ▸ vC)
   obtain ⟨l,r',eo,hb⟩:=qAo su
   have ne:a≠b:=fun z=>by
    have:=su.nodup H.nd
    rw [z] at this
    exact (zI.mp this).1 wF
   obtain ⟨B,bk⟩:=qKv n9 ok ndE pk (H.pl a ao) (fun z=>pk.out a z ao) (fun z=>pk.out b z bo) ne hx hy ta tb
   obtain ⟨g1,g2⟩:=qKo H pk eo hb bk
   have:=List.length_pos_iff.mpr bk.ne
   exact .inr ⟨a,b,r,B,rfl,bk,ao,bo,g1,by omega⟩
theorem qFV {n:Nat} {E:List Tie} (n9:n<=9) (ok:∀ t∈E,okp n t) (ndE:E.Nodup) (wh:JJ n E) {s t:Int}:∀(k:Nat) (o:List Int),Jh n E s t o->n<=o.length+k->qE5 n E s t (Y9 n E k o)
 | 0,o,H,h=>⟨H,by have:=jV H.nd H.pl; omega⟩
 | k+1,o,H,h=>by
  unfold Y9
  by_cases c:o.length<n
  ·rw [if_pos c]
   rcases qFD n9 ok ndE wh H c with ⟨e,he,ck⟩ | ⟨a,b,r,B,he,bk,_,_,g1,g2⟩
   ·rw [he]
    exact ck
   ·rw [he]
    show qE5 n E s t (Y9 n E k (J4 o a (qLV E (Q8 n E o) a b)))
    rw [bk.bow]
    exact qFV n9 ok ndE wh k _ g1 (by omega)
  ·rw [if_neg c]
   exact ⟨H,by have:=jV H.nd H.pl; omega⟩
theorem qB3 {n:Nat} {E:List Tie} (n9:n<=9) (ok:∀ t∈E,okp n t) (ndE:E.Nodup) (wh:JJ n E) {s t:Int} (hs:s∈places n) (ht:t∈places n):∃ v,qEL E s t=some (v++[t])/\Jh n E s t (v++[t]):=by
 obtain ⟨h1,h2⟩:=qJO (g:=t) n9 ok ndE hs
 have L:qE4 (qi (qO E)):=qE4.of E
 cases e:qEL E s t with
 | none=>exact absurd (L.trans _ _ _ (L.symm _ _ (wh s hs)) (wh t ht)) (h2 e)
 | some w=>
  obtain ⟨v,rfl,W⟩:=h1 w e
  exact ⟨v,rfl,qHU ok hs W⟩
theorem qHf {n:Nat} {E:List Tie} (n9:n<=9) (ok:∀ t∈E,okp n t) (ndE:E.Nodup) (wh:JJ n E) {s t:Int} (hs:s∈places n) (ht:t∈places n):qE5 n E s t (JX n E s t):=by
 obtain ⟨v,e,H⟩:=qB3 n9 ok ndE wh hs ht
 unfold JX
 rw [e]
 exact qFV n9 ok ndE wh n _ H (Nat.le_add_left _ _)
theorem JC {d:Int} {l:List Int} (h:d∈l):Y0 (.int d) (qE l) (l.idxOf d):=by
 have hj:=List.idxOf_lt_length_iff.mpr h
 refine ⟨⟨.int d,?_,qA2 _⟩,fun m c hm hc=>?_⟩
 ·unfold qE
  rw [wL,wA hj,kF hj]
  rfl
 ·unfold qE at hc
  rw [wL] at hc
  have hml:m<l.length:=by omega
  rw [wA hml] at hc
  have hc':D.int l[m]=c:=zQ hc
  rw [<- hc',Y2,decide_eq_false_iff_not]
  intro z
  have:=List.not_of_lt_findIdx (p:=(· == d)) (xs:=l) (i:=m) hm
  simp [z] at this
def YS:PV:=fun as Φ=>∃(n:Nat) (ts:List Tie) (s t:Int),as=[.d (jq n ts),.d (.int s),.d (.int t)]/\YA n ts/\JJ n ts/\s≠t/\Φ (.d .non) as
def qGq:PV:=fun as Φ=>∃(n:Nat) (ts:List Tie) (o:List Int) (p:Int),as=[.d (jq n ts),.l (qE o),.d (.int p)]/\YA n ts/\o.length<=9/\p∈places n/\Φ (.d (.tup (qE (part n (qi (qO (QW o ts))) p)))) as
def qF0:PV:=fun as Φ=>∃(n:Nat) (ts:List Tie) (o P:List Int),as=[.d (jq n ts),.l (qE o),.d (.tup (qE P))]/\n<=9/\o.length<=9/\Φ (.l (qE (Y6 n ts o P))) as
def qLg:PV:=fun as Φ=>∃(n:Nat) (ts:List Tie) (a b:Int) (P B:List Int),as=[.d (jq n ts),.d (.int a),.d (.int b),.d (.tup (qE P))]/\YA n ts/\a∈places n/\P.length<=9/\qH0 ts P a b B/\Φ (.l (qE B)) as
def qC4:Told->D
 | .order o=>.tup [.str "order",.tup (qE o)]
 | .cut p P=>.tup [.str "cut",.int p,.tup (qE P)]
def qIk:PV:=fun as Φ=>∃(n:Nat) (ts:List Tie) (s t:Int),as=[.d (jq n ts),.d (.int s),.d (.int t)]/\YA n ts/\JJ n ts/\s≠t/\s∈places n/\t∈places n/\Φ (.d (qC4 (JX n ts s t))) as
theorem qJG (a b:D) (xs:List D):cutD (a::(xs++[b])) (some 1) (some (-1))=xs:=by
 unfold cutD
 have e1:HT.sIx (a::(xs++[b])).length 0 (some 1)=1:=by simp [HT.sIx]
 have e2:HT.sIx (a::(xs++[b])).length (a::(xs++[b])).length (some (-1))=xs.length+1:=by
  simp [HT.sIx,wR]
  try omega
 rw [e1,e2]
 show (xs++[b]).take (xs.length+1 - 1)=xs
 rw [Nat.add_sub_cancel,List.take_append_of_le_length (wO _),xO]
theorem qAO:∀ ns:List Int,jw (qE ns)=true
 | []=>rfl
 | _::ns=>qAO ns
theorem Q4:∀ ts:List Tie,jw (ts.map qw)=true
 | []=>rfl
 | _::ts=>Q4 ts
theorem JN (n:Nat):qCO 0 n=(places n).map fun p:Int=>D.int p:=by
 unfold qCO places
 rw [zM]
 exact xI fun i _=>by rw [gO]; rfl
theorem qHG {o:List Int} {E:List Tie} {t:Tie} (h:t∈QW o E):t∈E:=(zH.mp h).1
theorem qJ4 {n:Nat} {E:List Tie} {s g:Int} (n9:n<=9) (ok:∀ t∈E,okp n t) (ndE:E.Nodup) (hs:s∈places n):qEL E s g=none↔¬ qi (qO E) s g:=by
 obtain ⟨h1,h2⟩:=qJO (g:=g) n9 ok ndE hs
 refine ⟨h2,fun h=>?_⟩
 cases e:qEL E s g with
 | none=>rfl
 | some w=>
  obtain ⟨v,_,W⟩:=h1 w e
  exact absurd (qHb W) h
theorem Yq:qR ["web","s","t"] ["web","s","t"] (qJ (top 19)):=by walk_at "sc"
theorem YZ (F:Fun K "refuse_poles" "refuse_poles" (top 19) f fd) (T:Txt mg) (XAE:Has P w K mg base "refuse_apart" (top 10) ["web"] 4 (spV qKe)):QC P w K mg base CX0 5 f fd ["web","s","t"] (spV YS):=by
 refine jO F Yq [0,1,2] (fun as Φ h=>?_) (fun cdv A outer s H E hr=>?_)
 ·obtain ⟨n,ts,a,b,rfl,_⟩:=h
  rfl
 ·have hu:=hr.units
  refine ⟨_,(qC (Qu (qh XAE hr (qA (pv 0) qB)))
   (qF (jY (qK (qAH hu) (pv 1) (pv 2) (qV _))
   (qF qD4)
   qb))),?_⟩
  rintro as Φ ⟨n,ts,a,b,rfl,W,wh,ne,k⟩
  walk_at "st"
  walk_at "vc"
  refine ⟨n,ts,rfl,W,wh,⟨⟨_,rfl⟩,?_⟩⟩
  walk_at "sv"
  rw [decide_eq_false ne]
  refine ite_no ?_
  exact qg k
theorem qAk:qR ["web","order","place","free"] ["web","order","place"] (qJ (top 20)):=by walk_at "sc"
theorem qEH (F:Fun K "part_of" "part_of" (top 20) f fd) (T:Txt mg) (XAK:Has P w K mg base "way_between" (top 11) ["ties","one","other"] 1 (spV qLs)):QC P w K mg base CX0 2 f fd ["web","order","place"] (spV qGq):=by
 refine jO F qAk [0,1,2] (fun as Φ h=>?_) (fun cdv A outer s H E hr=>?_)
 ·obtain ⟨n,ts,o,p,rfl,_⟩:=h
  rfl
 ·have hu:=hr.units
  refine ⟨_,(qC (QP 3 qAk (qc rfl (own:=["a","b"]) (fr:=[("order",1)]) (by walk_at "cs") (qd (K:=K) rfl (jA (pv 0) qD)) (fun cl C s0 H0 fp=>⟨(jc (K:=K) (n:=2) rfl rfl (qW (jo 0) (qW (jo 1) jd))),jg (PW.pt (qAe (qK (QR hu) (pv 0) (pv 2) (by with_unfolding_all rfl)) (Jm (qK (QR hu) (pv 1) (pv 2) (by with_unfolding_all rfl))))),(qk (qA (pv 0) (qA (pv 1) qB)))⟩)))
   (qF (qQ (qU (Qj (K:=K) rfl) (by rfl) T.n_tuple zU (qA (qc rfl (own:=["other"]) (fr:=[("free",3),("place",2)]) (by walk_at "cs") (qz (by rfl) T.n_range (qA (jA (pv 0) qD) qB)) (fun cl C s0 H0 fp=>⟨(jo 0),jg (qK qJ1 (qh XAK hr (qA (pv 1) (qA (pv 2) (qA (pv 0) qB)))) qId (qV _)),(pv 0)⟩)) qB))))),?_⟩
  rintro as Φ ⟨n,ts,o,p,rfl,W,o9,hp,k⟩
  have n9:=W.few
  have tl:=W.len
  have okf:∀ t∈QW o ts,okp n t:=fun t h=>W.ok t (qHG h)
  have ndf:(QW o ts).Nodup:=W.nd.sublist vC
  have lf:(QW o ts).length<=20:=zO (yL _ _) tl
  walk_at "st"
  refine qp (fun ρ=>ρ=[.d (jq n ts),.l (qE o),.d (.int p),.l ((QW o ts).map qw)]) ?_ ?_
  ·refine Yn (qy qw ts (fun t=>!decide (t.1∈o) && !decide (t.2∈o)) qw (QL ?_))
   walk_at "v"
   refine ⟨_,_,rfl,rfl,rfl,qI (by omega),qM rfl,of_decide_eq_true rfl,?_,?_⟩
   ·rintro ⟨a,b⟩ _ os hos
    obtain ⟨z0,z1,rfl⟩:=qFn hos
    rw [show qw (a,b)=D.tup [.int a,.int b] from rfl]
    walk_at "v"
    refine ⟨⟨[_,_],rfl,rfl⟩,?_,fun _=>?_⟩
    ·refine qIb (b:=!decide (a∈o)) (c:=!decide (b∈o)) ?_ (fun _=>?_) ⟨rfl,rfl⟩
     ·walk_at "v"
      exact ⟨rfl,rfl⟩
     ·walk_at "v"
      exact ⟨rfl,rfl⟩
    ·walk_at "v"
     exact ⟨rfl,rfl⟩
   ·refine qm rfl ?_
    show _=_
    rfl
  rintro ρ rfl
  refine qBJ (i:=3) rfl ?_
  walk_at "sv"
  refine qy (fun q:Int=>D.int q) (places n) (fun q=>decide (q∈part n (qi (qO (QW o ts))) p)) (fun q=>D.int q) (qDK ?_)
  walk_at "v"
  refine ⟨_,⟨_,rfl,rfl⟩,by omega,by omega,?_,qI (by rw [places_len]; omega),qM rfl,of_decide_eq_true rfl,?_,?_⟩
  ·rw [zT]
   exact JN n
  ·rintro q hq os hos
   obtain ⟨z0,rfl⟩:=Jz hos
   walk_at "v"
   refine ⟨⟨[_],rfl,rfl⟩,?_,fun _=>?_⟩
   ·walk_at "v"
    walk_at "call"
    have wn:=qJ4 (g:=q) n9 okf ndf hp
    refine ⟨n,QW o ts,p,q,_,rfl,.inr rfl,n9,lf,ndf,okf,hp,fun e=>⟨⟨_,rfl⟩,?_⟩,fun v e _ _=>⟨⟨_,rfl⟩,?_⟩⟩
    ·rw [decide_eq_false fun z=>wn.mp e (ja.mp z).2]
     walk_at "v"
     exact ⟨rfl,rfl⟩
    ·rw [decide_eq_true (ja.mpr ⟨hq,vP fun z=>by rw [wn.mpr z] at e; cases e⟩)]
     walk_at "v"
     exact ⟨rfl,rfl⟩
   ·walk_at "v"
    exact ⟨rfl,rfl⟩
  have e:(places n).filter (fun q=>decide (q∈part n (qi (qO (QW o ts))) p))=part n (qi (qO (QW o ts))) p:=qGr ((Qv n).sublist vC) fun q=>by
   rw [zH,decide_eq_true_iff,ja]
   exact ⟨fun z=>z.2,fun z=>⟨z.1,z⟩⟩
  rw [e]
  walk_at "v"
  exact ⟨⟨_,rfl⟩,k⟩
theorem qEQ:qR ["web","order","part"] ["web","order","part"] (qJ (top 21)):=by walk_at "sc"
theorem qEh (F:Fun K "edge_of" "edge_of" (top 21) f fd) (T:Txt mg) (XAh:Has P w K mg base "near" (top 8) ["web","place"] 2 (spV qFi)):QC P w K mg base CX0 3 f fd ["web","order","part"] (spV qF0):=by
 refine jO F qEQ [0,1,2] (fun as Φ h=>?_) (fun cdv A outer s H E hr=>?_)
 ·obtain ⟨n,ts,o,P,rfl,_⟩:=h
  rfl
 ·have hu:=hr.units
  refine ⟨_,(qF (qQ (qc rfl (own:=["place"]) (fr:=[("web",0),("part",2)]) (by walk_at "cs") (qd (K:=K) rfl (pv 1)) (fun cl C s0 H0 fp=>⟨(jo 0),jg (qq (K:=K) rfl (qH (QU rfl) (by rfl) T.n_any uL (qA (qc rfl (own:=["other"]) (fr:=[("part",2)]) (by walk_at "cs") (qd (K:=K) rfl (qh XAh hr (qA (pv 1) (qA (pv 0) qB)))) (fun cl C s0 H0 fp=>⟨(jo 0),jH,(jU (qCY hu) (pv 0) (pv 1) (by with_unfolding_all rfl))⟩)) qB)) (fun _=>rfl)),(pv 0)⟩)))),?_⟩
  rintro as Φ ⟨n,ts,o,Q,rfl,n9,o9,k⟩
  walk_at "sv"
  refine JH (fun p:Int=>D.int p) o (fun p=>(jM n ts p).any fun q=>decide (q∈Q)) (fun p=>D.int p) rfl rfl (qI (by omega)) (qM rfl) (of_decide_eq_true rfl) ?_ ?_
  ·rintro p _ os hos
   obtain ⟨z0,rfl⟩:=Jz hos
   walk_at "v"
   refine ⟨⟨[_],rfl,rfl⟩,?_,fun _=>?_⟩
   ·walk_at "v"
    refine qy (fun q:Int=>D.int q) (jM n ts p) (fun _=>true) (fun q=>D.bl (decide (q∈Q))) (QL ?_)
    walk_at "vc"
    refine ⟨n,ts,p,rfl,n9,⟨⟨_,rfl⟩,?_⟩⟩
    have nl:=YI n ts p
    refine ⟨_,_,rfl,rfl,rfl,qI (by omega),qM rfl,of_decide_eq_true rfl,?_,?_⟩
    ·rintro q _ os hos
     obtain ⟨z0,rfl⟩:=Jz hos
     walk_at "v"
     refine ⟨⟨[_],rfl,rfl⟩,jN ⟨rfl,rfl⟩,fun _=>?_⟩
     walk_at "v"
     exact ⟨rfl,rfl⟩
    rw [qT,show (jM n ts p).map (fun q=>D.bl (decide (q∈Q)))=((jM n ts p).map fun q=>decide (q∈Q)).map D.bl from by rw [zM]; rfl]
    walk_at "v"
    refine qAa rfl ?_
    walk_at "v"
    rw [gI]
    exact ⟨rfl,rfl⟩
   ·walk_at "v"
    exact ⟨rfl,rfl⟩
  exact ⟨⟨_,rfl⟩,k⟩
theorem qFw:qR ["web","one","other","part","ties","inner"] ["web","one","other","part"] (qJ (top 22)):=by walk_at "sc"
theorem qKR (F:Fun K "bow" "bow" (top 22) f fd) (T:Txt mg) (XAK:Has P w K mg base "way_between" (top 11) ["ties","one","other"] 1 (spV qLs)):QC P w K mg base CX0 2 f fd ["web","one","other","part"] (spV qLg):=by
 refine jO F qFw [0,1,2,3] (fun as Φ h=>?_) (fun cdv A outer s H E hr=>?_)
 ·obtain ⟨n,ts,a,b,P,B,rfl,_⟩:=h
  rfl
 ·have hu:=hr.units
  refine ⟨_,(qC (jS (i:=4) rfl qFw.nd rfl rfl (own:=["a","b"]) (fr:=[("part",3)]) (by walk_at "cs") (qd (K:=K) rfl (jA (pv 0) qD)) (fun cl C s0 H0 fp=>⟨(jc (K:=K) (n:=2) rfl rfl (qW (jo 0) (qW (jo 1) jd))),jg (PW.pt (Q2 (qK (qCY hu) (pv 0) (pv 2) (by with_unfolding_all rfl)) (Qh (qK (qCY hu) (pv 1) (pv 2) (by with_unfolding_all rfl))))),(qk (qA (pv 0) (qA (pv 1) qB)))⟩))
   (qC (jS (i:=5) rfl qFw.nd rfl rfl (own:=["a","b"]) (fr:=[("part",3),("one",1),("other",2)]) (by walk_at "cs") (qd (K:=K) rfl (pv 4)) (fun cl C s0 H0 fp=>⟨(jc (K:=K) (n:=2) rfl rfl (qW (jo 0) (qW (jo 1) jd))),jg (qq (K:=K) rfl (qH (QH rfl) (by rfl) T.n_all xK (qA (qc rfl (own:=["place"]) (fr:=[("part",2),("one",3),("other",4)]) (by walk_at "cs") (qd (K:=K) rfl (qk (qA (pv 0) (qA (pv 1) qB)))) (fun cl C s0 H0 fp=>⟨(jo 0),jH,(jU (qCY hu) (pv 0) (qr (Y3 (K:=K) rfl) (pv 1) (qk (qA (pv 2) (qA (pv 3) qB)))) (by with_unfolding_all rfl))⟩)) qB)) (fun _=>rfl)),(qk (qA (pv 0) (qA (pv 1) qB)))⟩))
   (qF (qQ (Qb (qJQ (K:=K) rfl) (qh XAK hr (qA (pv 5) (qA (pv 1) (qA (pv 2) qB)))) (Qt qD) (Qt (qBd J5 qD))))))),?_⟩
  rintro as Φ ⟨n,ts,a,b,Q,B,rfl,W,ha,q9,bk,k⟩
  have n9:=W.few
  have tl:=W.len
  let S0:Sl:=.d (jq n ts)
  let S1:Sl:=.d (.int a)
  let S2:Sl:=.d (.int b)
  let S3:Sl:=.d (.tup (qE Q))
  walk_at "st"
  refine qp (fun ρ=>ρ=[S0,S1,S2,S3,.l ((ts.filter fun t=>decide (t.1∈Q) || decide (t.2∈Q)).map qw),.u]) ?_ ?_
  ·refine Yn (qy qw ts (fun t=>decide (t.1∈Q) || decide (t.2∈Q)) qw (QL ?_))
   walk_at "v"
   refine ⟨_,_,rfl,rfl,rfl,qI (by omega),qM rfl,of_decide_eq_true rfl,?_,?_⟩
   ·rintro ⟨x,y⟩ _ os hos
    obtain ⟨z0,z1,rfl⟩:=qFn hos
    rw [show qw (x,y)=D.tup [.int x,.int y] from rfl]
    walk_at "v"
    refine ⟨⟨[_,_],rfl,rfl⟩,?_,fun _=>?_⟩
    ·refine qKl (b:=decide (x∈Q)) (c:=decide (y∈Q)) ?_ (fun _=>?_) ⟨rfl,rfl⟩
     ·walk_at "v"
      exact ⟨rfl,rfl⟩
     ·walk_at "v"
      exact ⟨rfl,rfl⟩
    ·walk_at "v"
     exact ⟨rfl,rfl⟩
   ·refine qm rfl ?_
    show _=_
    rfl
  rintro ρ rfl
  refine qp (fun ρ=>ρ=[S0,S1,S2,S3,.l ((ts.filter fun t=>decide (t.1∈Q) || decide (t.2∈Q)).map qw),.l ((j8 ts Q a b).map qw)]) ?_ ?_
  ·refine Yn (JH qw (ts.filter fun t=>decide (t.1∈Q) || decide (t.2∈Q)) (fun t=>decide (t.1∈Q++[a,b]) && decide (t.2∈Q++[a,b])) qw rfl rfl (qI (zO (yL _ _) (by omega))) (qM rfl) (of_decide_eq_true rfl) ?_ ?_)
   ·rintro ⟨x,y⟩ _ os hos
    obtain ⟨z0,z1,rfl⟩:=qFn hos
    rw [show qw (x,y)=D.tup [.int x,.int y] from rfl]
    walk_at "v"
    refine ⟨⟨[_,_],rfl,rfl⟩,?_,fun _=>?_⟩
    ·walk_at "v"
     refine qy (fun q:Int=>D.int q) [x,y] (fun _=>true) (fun q=>D.bl (decide (q∈Q++[a,b]))) (QL ?_)
     walk_at "v"
     refine ⟨_,_,rfl,rfl,rfl,qI (show 2<=1000 by decide),qM rfl,of_decide_eq_true rfl,?_,?_⟩
     ·rintro q _ os hos
      obtain ⟨z0,rfl⟩:=Jz hos
      walk_at "v"
      refine ⟨⟨[_],rfl,rfl⟩,jN ⟨rfl,rfl⟩,fun _=>?_⟩
      walk_at "v"
      refine OpV.r (OpV.r (qIM rfl rfl (szl (by unfold qE; rw [wC]; show Q.length+2<=1000; omega)) ?_))
      rw [show qE Q++[D.int a,D.int b]=qE (Q++[a,b]) from by unfold qE; rw [yD]; rfl]
      walk_at "v"
      exact ⟨rfl,rfl⟩
     rw [qT]
     walk_at "v"
     refine qDA (bs:=[decide (x∈Q++[a,b]),decide (y∈Q++[a,b])]) rfl ?_
     walk_at "v"
     refine ⟨?_,rfl⟩
     show (decide (x∈Q++[a,b]) && (decide (y∈Q++[a,b]) && true))=_
     rw [TB]
    ·walk_at "v"
     exact ⟨rfl,rfl⟩
   ·refine qm rfl ?_
    show _=_
    rfl
  rintro ρ rfl
  refine qBJ (i:=5) rfl ?_
  walk_at "st"
  walk_at "vc"
  have oki:∀ t∈j8 ts Q a b,okp n t:=fun t h=>W.ok t (qBQ h)
  have li:(j8 ts Q a b).length<=20:=zO (yL _ _) (zO (yL _ _) tl)
  refine ⟨n,j8 ts Q a b,a,b,_,rfl,.inr rfl,n9,li,qDP W.nd Q a b,oki,ha,fun e=>?_,fun v e _ _=>?_⟩
  ·rw [bk.way] at e
   cases e
  ·rw [bk.way] at e
   injection e with e
   have e':(a::B)++[b]=v++[b]:=e
   rw [<- List.append_cancel_right e']
   refine ⟨⟨_,rfl⟩,?_⟩
   walk_at "v"
   refine SlV.l (qM1 rfl ?_)
   rw [show qE (a::B++[b])=.int a::(qE B++[.int b]) from by unfold qE; rw [yD]; rfl,qJG]
   exact ⟨⟨_,rfl⟩,k⟩
theorem Q5:qR ["web","s","t","order","left","part","edge","at"] ["web","s","t"] (qJ (top 23)):=by walk_at "sc"
theorem qHH (F:Fun K "poled" "poled" (top 23) f fd) (T:Txt mg) (XAF:Has P w K mg base "refuse_poles" (top 19) ["web","s","t"] 5 (spV YS)) (XAK:Has P w K mg base "way_between" (top 11) ["ties","one","other"] 1 (spV qLs)) (XAa:Has P w K mg base "part_of" (top 20) ["web","order","place"] 2 (spV qGq)) (XAY:Has P w K mg base "edge_of" (top 21) ["web","order","part"] 3 (spV qF0)) (XAi:Has P w K mg base "bow" (top 22) ["web","one","other","part"] 2 (spV qLg)):QC P w K mg base CX0 6 f fd ["web","s","t"] (spV qIk):=by
 refine jO F Q5 [0,1,2] (fun as Φ h=>?_) (fun cdv A outer s H E hr=>?_)
 ·obtain ⟨n,ts,a,b,rfl,_⟩:=h
  rfl
 ·have hu:=hr.units
  refine ⟨_,(qC (Qu (qh XAF hr (qA (pv 0) (qA (pv 1) (qA (pv 2) qB)))))
   (qC (QP 3 Q5 (qh XAK hr (qA (jA (pv 0) qD) (qA (pv 1) (qA (pv 2) qB)))))
   (qC (YG vR (qK qAB (qH (qBY (K:=K) rfl) (by rfl) T.n_len yW (qA (pv 3) qB)) (jA (pv 0) qD) (qV _))
   (qC (jS (i:=4) rfl Q5.nd rfl rfl (own:=["place"]) (fr:=[("order",3)]) (by walk_at "cs") (qz (by rfl) T.n_range (qA (jA (pv 0) qD) qB)) (fun cl C s0 H0 fp=>⟨(jo 0),jg (qK (QR hu) (pv 0) (pv 1) (by with_unfolding_all rfl)),(pv 0)⟩))
    (qC (QP 5 Q5 (qh XAa hr (qA (pv 0) (qA (pv 3) (qA (jA (pv 4) qD) qB)))))
    (qC (QP 6 Q5 (qh XAY hr (qA (pv 0) (qA (pv 3) (qA (pv 5) qB)))))
    (qC (jY (qK (qAH hu) (qH (qBY (K:=K) rfl) (by rfl) T.n_len yW (qA (pv 6) qB)) qD (qV _))
    (qF (qQ (qk (qA JA (qA (jA (pv 6) qD) (qA (pv 5) qB))))))
    qb)
    (qC (QP 7 Q5 (qr (Y3 (K:=K) rfl) (qFp (K:=K) rfl vL ZL ZM (Y1 hu) ZC ZE ZF (Ya hu) (pv 3) (qA (jA (pv 6) qD) qB)) qD))
    (qF (qAP (qh XAi hr (qA (pv 0) (qA (jA (pv 6) qD) (qA (jA (pv 6) qD) (qA (pv 5) qB))))) (qKk (pv 3) (pv 7) (pv 7))))))))))
   (qF (qQ (qk (qA JA (qA (qU (Qj (K:=K) rfl) (by rfl) T.n_tuple zU (qA (pv 3) qB)) qB)))))))),?_⟩
  rintro as Φ ⟨n,ts,s,t,rfl,W,wh,ne,hs,ht,k⟩
  have n9:=W.few
  have tl:=W.len
  obtain ⟨v,ev,H0⟩:=qB3 n9 W.ok W.nd wh hs ht
  let S0:Sl:=.d (jq n ts)
  let S1:Sl:=.d (.int s)
  let S2:Sl:=.d (.int t)
  walk_at "st"
  refine qp (fun ρ=>ρ=[S0,S1,S2,.u,.u,.u,.u,.u]) ?_ ?_
  ·walk_at "v"
   walk_at "call"
   refine ⟨n,ts,s,t,rfl,W,wh,ne,⟨⟨_,rfl⟩,?_⟩⟩
   walk_at "sv"
  rintro ρ rfl
  refine qp (fun ρ=>ρ=[S0,S1,S2,.l (qE (v++[t])),.u,.u,.u,.u]) ?_ ?_
  ·refine qHE rfl ?_ ?_
   ·exact trivial
   walk_at "v"
   refine ⟨rfl,[.tup (ts.map qw),.int s,.int t],rfl,?_,?_⟩
   ·show (jw (ts.map qw) && true)=true
    rw [Q4]
    rfl
   refine ⟨n,ts,s,t,_,rfl,.inl rfl,n9,tl,W.nd,W.ok,hs,fun e=>?_,fun v' e _ _=>?_⟩
   ·rw [ev] at e
    cases e
   ·rw [ev] at e
    injection e with e
    rw [<- e]
    exact ⟨_,rfl,qAO _,rfl⟩
  rintro ρ rfl
  refine Yb ?_
  walk_at "nw"
  refine qAx (fun m ρ=>∃(o:List Int) (s4 s5 s6 s7:Sl),ρ=[S0,S1,S2,.l (qE o),s4,s5,s6,s7]/\Jh n ts s t o/\n<=o.length+m/\Y9 n ts m o=JX n ts s t) n ⟨v++[t],_,_,_,_,rfl,H0,Nat.le_add_left _ _,by unfold JX; rw [ev]; rfl⟩ ?_
  rintro m ρ ⟨o,s4,s5,s6,s7,rfl,H,hm,eg⟩
  have o9:o.length<=9:=zO (jV H.nd H.pl) n9
  have el:(qE o).length=o.length:=wC _
  walk_at "v"
  rw [el]
  by_cases c:o.length<n
  rotate_left
  ·rw [decide_eq_false (by omega),if_neg wQ]
   have et:Y9 n ts m o=.order o:=by
    cases m with
    | zero=>rfl
    | succ m=>unfold Y9; rw [if_neg c]
   rw [<- eg,et] at k
   walk_at "v"
   exact ⟨⟨_,rfl⟩,k⟩
  rw [decide_eq_true (by omega),if_pos rfl]
  obtain ⟨m,rfl⟩:∃ j,m=j+1:=⟨m - 1,by omega⟩
  unfold Y9 at eg
  rw [if_pos c] at eg
  have pk:=qE1 W.ok H.nd H.pl c
  have st:=qFD n9 W.ok W.nd wh H c
  obtain ⟨p,r,ep,hp,po⟩:=qGZ H.nd H.pl c
  have epo:Q8 n ts o=part n (qi (qO (QW o ts))) p:=by unfold Q8; rw [ep]; rfl
  have p9:(Q8 n ts o).length<=9:=zO (jV (qDd pk.up) pk.pl) n9
  refine qp (fun ρ=>ρ=[S0,S1,S2,.l (qE o),.l (qE (YX n o)),s5,s6,s7]) ?_ ?_
  ·refine Yn (qy (fun q:Int=>D.int q) (places n) (fun q=>!decide (q∈o)) (fun q=>D.int q) (qDK ?_))
   walk_at "v"
   refine ⟨_,⟨_,rfl,rfl⟩,by omega,by omega,?_,qI (by rw [places_len]; omega),qM rfl,of_decide_eq_true rfl,?_,?_⟩
   ·rw [zT]
    exact JN n
   ·rintro q _ os hos
    obtain ⟨z0,rfl⟩:=Jz hos
    walk_at "v"
    refine ⟨⟨[_],rfl,rfl⟩,?_,fun _=>?_⟩
    ·walk_at "v"
     exact ⟨rfl,rfl⟩
    ·walk_at "v"
     exact ⟨rfl,rfl⟩
   ·refine qm rfl ?_
    show _=_
    rfl
  rintro ρ rfl
  refine qp (fun ρ=>ρ=[S0,S1,S2,.l (qE o),.l (qE (YX n o)),.d (.tup (qE (Q8 n ts o))),s6,s7]) ?_ ?_
  ·rw [ep]
   walk_at "v"
   have at0:atI (qE (p::r)) 0=some (.int p):=qAl _ _
   walk_at "call"
   refine ⟨n,ts,o,p,rfl,W,o9,hp,⟨⟨_,rfl⟩,?_⟩⟩
   rw [<- epo]
   walk_at "sv"
   rfl
  rintro ρ rfl
  generalize Q8 n ts o=Q at eg st p9
  refine qp (fun ρ=>ρ=[S0,S1,S2,.l (qE o),.l (qE (YX n o)),.d (.tup (qE Q)),.l (qE (Y6 n ts o Q)),s7]) ?_ ?_
  ·walk_at "v"
   walk_at "call"
   refine ⟨n,ts,o,Q,rfl,n9,o9,⟨⟨_,rfl⟩,?_⟩⟩
   walk_at "sv"
   rfl
  rintro ρ rfl
  rcases st with ⟨e,he,ck⟩ | ⟨a,b,r',B,he,bk,ao,bo,g1,g2⟩
  ·rw [he] at eg ⊢
   have at0:atI (qE [e]) 0=some (.int e):=qAl _ _
   refine JO ?_
   walk_at "v"
   rw [if_pos (decide_eq_true (show ((qE [e]).length:Int)=1 from rfl))]
   have eg':Told.cut e Q=JX n ts s t:=eg
   rw [<- eg'] at k
   refine qCE ?_
   walk_at "v"
   exact ⟨⟨_,rfl⟩,k⟩
  rw [he] at eg ⊢
  refine qp (fun ρ=>ρ=[S0,S1,S2,.l (qE o),.l (qE (YX n o)),.d (.tup (qE Q)),.l (qE (a::b::r')),s7]) ?_ ?_
  ·refine JO ?_
   walk_at "v"
   rw [if_neg (fun z=>by have:=of_decide_eq_true z; rw [show (qE (a::b::r')).length=r'.length+1+1 from by unfold qE; rw [wC]; rfl] at this; omega)]
   exact qg rfl
  rintro ρ rfl
  have at0:atI (qE (a::b::r')) 0=some (.int a):=qAl _ _
  have at1:atI (qE (a::b::r')) 1=some (.int b):=JI (j:=1) rfl
  refine qp (fun ρ=>ρ=[S0,S1,S2,.l (qE o),.l (qE (YX n o)),.d (.tup (qE Q)),.l (qE (a::b::r')),.d (.int ((o.idxOf a+1:Nat):Int))]) ?_ ?_
  ·walk_at "v"
   refine qJW ?_
   walk_at "v"
   refine .inl ⟨_,rfl,?_⟩
   walk_at "v"
   refine qHS (xs:=qE o) (d:=.int a) (j:=o.idxOf a) rfl rfl (jT _) (JC ao) ?_
   walk_at "v"
   rw [show ((o.idxOf a:Nat):Int)+1=((o.idxOf a+1:Nat):Int) from by omega]
   rfl
  rintro ρ rfl
  have eg':Y9 n ts m (J4 o a (qLV ts Q a b))=JX n ts s t:=eg
  rw [bk.bow] at eg'
  have ia:=yI ao
  have bl:B.length<=9:=by
   have:=jV g1.nd g1.pl
   have:=(yF.mp (zI.mp bk.nd).2).1
   exact zO (yY this fun z hz=>bk.inn z hz) p9
  refine qMG ?_
  walk_at "vc"
  refine ⟨n,ts,a,b,Q,B,rfl,W,H.pl a ao,p9,bk,⟨⟨_,rfl⟩,?_⟩⟩
  walk_at "st"
  refine ⟨_,rfl,?_⟩
  walk_at "v"
  refine ⟨_,_,rfl,rfl,by omega,gF _,by rw [el]; omega,szl (by rw [el,show (qE B).length=B.length from wC _]; omega),?_⟩
  refine ⟨m,ZI _,J4 o a B,.l (qE (YX n o)),.d (.tup (qE Q)),.l (qE (a::b::r')),.d (.int ((o.idxOf a+1:Nat):Int)),?_,g1,by omega,eg'⟩
  rw [zT]
  have e:(qE o).take (o.idxOf a+1)++qE B++(qE o).drop (o.idxOf a+1)=qE (J4 o a B):=by
   unfold qE J4
   rw [yD,yD,fX,TH]
  rw [e]
  rfl
def inB (n:Nat) (p:Int):Bool:=decide (0<=p) && decide (p<(n:Int))
def qCw:PV:=fun as Φ=>∃(n:Nat) (ts:List Tie) (p:Int),as=[.d (jq n ts),.d (.int p)]/\Φ (.d (.bl (inB n p))) as
def qAw (n:Nat) (ts:List Tie) (o:List Int) (i:Nat):Bool:=((o.take i).any fun p=>decide (p∈jM n ts (o.getD i 0))) && ((o.drop (i+1)).any fun p=>decide (p∈jM n ts (o.getD i 0)))
def qBl (n:Nat) (ts:List Tie) (s t:Int) (o:List Int):Bool:=o.all (inB n) && (o.isPerm (places n) && (decide (o.getD 0 0=s) && (decide (o.getLastD 0=t) && ((wV (n - 2)).all fun j=>qAw n ts o (j+1)))))
def upB (P:List Int):Bool:=(P.zip (P.drop 1)).all fun x=>decide (x.1<x.2)
def qLG (n:Nat) (ts:List Tie) (s t p:Int) (P:List Int):Bool:=!P.isEmpty && ((P++[p]).all (inB n) && (upB P && (!([s,t,p].any fun q=>decide (q∈P)) && P.all fun x=>(jM n ts x).all fun y=>decide (y∈P) || decide (y=p))))
def qHL (n:Nat) (ts:List Tie) (s t:Int):Told->Bool
 | .order o=>qBl n ts s t o
 | .cut p P=>qLG n ts s t p P
def Told.small:Told->Prop
 | .order o=>o.length<=30
 | .cut _ P=>P.length<=30
theorem Yv {n:Nat} {o ns:List Int} (pm:ns.Perm o) (so:ns.Pairwise (·<=·)) (h:o.isPerm (places n)=true):ns=places n:=by
 have pp:=pm.trans (xZ.mp h)
 exact Jc (qFA so (pp.nodup_iff.mpr (ju n))) (Qv n) fun x=>pp.mem_iff
theorem qIc {o:List Int} (h:o≠[]):atI (qE o) (-1)=some (.int (o.getLastD 0)):=by
 obtain ⟨r,z,e⟩:∃ r z,o=r++[z]:=⟨o.dropLast,o.getLast h,(UC h).symm⟩
 subst e
 rw [Q3]
 unfold qE
 rw [yD]
 exact qD8 _ _
theorem qDB:∀ a b:List Int,qGh (qE a) (qE b)=(a.zip b).map fun x:Int×Int=>D.tup [.int x.1,.int x.2]
 | [],_=>rfl
 | _::_,[]=>rfl
 | _::a,_::b=>congrArg (_ :: ·) (qDB a b)
theorem qB4 {b:Bool} (h:¬ b=true):b=false:=by cases b with | false=>rfl | true=>exact absurd rfl h
theorem qNR {p:Prop} {i:Decidable p} (h:¬ (@decide p i)=true):¬ p:=fun z=>h (@decide_eq_true p i z)
def qLW:PV:=fun as Φ=>∃(n:Nat) (ts:List Tie) (o:List Int) (i:Nat),as=[.d (jq n ts),.d (.tup (qE o)),.d (.int i)]/\n<=9/\o.length<=30/\i<o.length/\Φ (.d (.bl (qAw n ts o i))) as
def qGX:PV:=fun as Φ=>∃(n:Nat) (ts:List Tie) (s t:Int) (o:List Int),as=[.d (jq n ts),.d (.int s),.d (.int t),.d (.tup (qE o))]/\1<=n/\n<=9/\o.length<=30/\Φ (.d (.bl (qBl n ts s t o))) as
def qIJ:PV:=fun as Φ=>∃(n:Nat) (ts:List Tie) (s t p:Int) (P:List Int),as=[.d (jq n ts),.d (.int s),.d (.int t),.d (.int p),.d (.tup (qE P))]/\n<=9/\P.length<=30/\Φ (.d (.bl (qLG n ts s t p P))) as
def qBe:PV:=fun as Φ=>∃(n:Nat) (ts:List Tie) (s t:Int) (x:Told),as=[.d (jq n ts),.d (.int s),.d (.int t),.d (qC4 x)]/\YA n ts/\JJ n ts/\s≠t/\x.small/\Φ (.d (.bl (qHL n ts s t x))) as
theorem qDG (o:List Int) {j:Nat} (h:j<=o.length):cutD (qE o) none (some (j:Int))=qE (o.take j):=by
 unfold cutD qE
 rw [HT.sIx_none,HT.sIx_nat,UQ,Nat.sub_zero,wC,ZW h,fX]
theorem qAn (o:List Int) (j:Nat):cutD (qE o) (some (j:Int)) none=qE (o.drop j):=by
 unfold cutD qE
 rw [HT.sIx_none,HT.sIx_nat,wC,<- TH,<- fX]
 congr 1
 rcases Nat.le_total j o.length with z | z
 ·rw [ZW z]
  exact uB (by rw [uZ]; exact wO _)
 ·rw [VU z,List.drop_eq_nil_of_le z,fE]
  rfl
theorem qCp:qR ["web","thing"] ["web","thing"] (qJ (top 6)):=by walk_at "sc"
theorem qCW (F:Fun K "is_place" "is_place" (top 6) f fd) (T:Txt mg) (XAW:Has P w K mg base "is_whole" (top 5) ["thing"] 1 (spV qIa)):QC P w K mg base CX0 2 f fd ["web","thing"] (spV qCw):=by
 refine jO F qCp [0,1] (fun as Φ h=>?_) (fun cdv A outer s H E hr=>?_)
 ·obtain ⟨n,ts,p,rfl,_⟩:=h
  rfl
 ·have hu:=hr.units
  refine ⟨_,(qF (qQ (qAi (qh XAW hr (qA (pv 1) qB)) (YR (qHg qL7 qAB qD (pv 1) (jA (pv 0) qD)))))),?_⟩
  rintro as Φ ⟨n,ts,p,rfl,k⟩
  walk_at "st"
  refine qCE (v_and ?_)
  walk_at "call"
  refine ⟨.int p,rfl,⟨⟨_,rfl⟩,?_⟩⟩
  walk_at "sv"
  rw [if_pos (show qDr (D.int p)=true from rfl)]
  walk_at "vJ"
  exact ⟨⟨_,rfl⟩,k⟩
theorem Jd:qR ["web","order","at","nearby"] ["web","order","at"] (qJ (top 24)):=by walk_at "sc"
theorem qA4 (F:Fun K "is_between" "is_between" (top 24) f fd) (T:Txt mg) (XAh:Has P w K mg base "near" (top 8) ["web","place"] 2 (spV qFi)):QC P w K mg base CX0 3 f fd ["web","order","at"] (spV qLW):=by
 refine jO F Jd [0,1,2] (fun as Φ h=>?_) (fun cdv A outer s H E hr=>?_)
 ·obtain ⟨n,ts,o,i,rfl,_⟩:=h
  rfl
 ·have hu:=hr.units
  refine ⟨_,(qC (QP 3 Jd (qh XAh hr (qA (pv 0) (qA (jA (pv 1) (pv 2)) qB))))
   (qF (qQ (qAi (qH (QU rfl) (by rfl) T.n_any uL (qA (qc rfl (own:=["place"]) (fr:=[("nearby",3)]) (by walk_at "cs") (qd (K:=K) rfl (Qb (qJQ (K:=K) rfl) (pv 1) Jl (Qt (pv 2)))) (fun cl C s0 H0 fp=>⟨(jo 0),jH,(jU (qCY hu) (pv 0) (pv 1) (by with_unfolding_all rfl))⟩)) qB)) (YR (qH (QU rfl) (by rfl) T.n_any uL (qA (qc rfl (own:=["place"]) (fr:=[("nearby",3)]) (by walk_at "cs") (qd (K:=K) rfl (Qb (qJQ (K:=K) rfl) (pv 1) (Qt (qr (Y3 (K:=K) rfl) (pv 2) qD)) Jl)) (fun cl C s0 H0 fp=>⟨(jo 0),jH,(jU (qCY hu) (pv 0) (pv 1) (by with_unfolding_all rfl))⟩)) qB))))))),?_⟩
  rintro as Φ ⟨n,ts,o,i,rfl,n9,ol,hi,k⟩
  have hat:atI (qE o) (i:Int)=some (.int (o.getD i 0)):=by
   have:=at_getD (ns:=o) (a:=(i:Int)) (by omega) (by omega)
   rwa [zT] at this
  walk_at "st"
  refine qp (fun ρ=>ρ=[.d (jq n ts),.d (.tup (qE o)),.d (.int i),.d (.tup (qE (jM n ts (o.getD i 0))))]) ?_ ?_
  ·walk_at "v"
   walk_at "call"
   refine ⟨n,ts,o.getD i 0,rfl,n9,⟨⟨_,rfl⟩,?_⟩⟩
   walk_at "sv"
   rfl
  rintro ρ rfl
  unfold qAw at k
  generalize jM n ts (o.getD i 0)=Q at k
  have ea:(i:Int)+1=((i+1:Nat):Int):=by omega
  refine qCE (v_and ?_)
  walk_at "v"
  refine qy (fun q:Int=>D.int q) (o.take i) (fun _=>true) (fun q=>D.bl (decide (q∈Q))) (QL ?_)
  walk_at "v"
  refine SlV.r (qLA rfl ?_)
  rw [qDG o (vI hi)]
  refine ⟨_,_,rfl,rfl,rfl,qI (by rw [vK]; omega),qM rfl,of_decide_eq_true rfl,?_,?_⟩
  ·rintro q _ os hos
   obtain ⟨z0,rfl⟩:=Jz hos
   walk_at "v"
   refine ⟨⟨[_],rfl,rfl⟩,jN ⟨rfl,rfl⟩,fun _=>?_⟩
   walk_at "v"
   exact ⟨rfl,rfl⟩
  rw [qT,show (o.take i).map (fun q=>D.bl (decide (q∈Q)))=((o.take i).map fun q=>decide (q∈Q)).map D.bl from by rw [zM]; rfl]
  walk_at "v"
  refine qAa rfl ?_
  walk_at "v"
  rw [gI,show (id∘fun q=>decide (q∈Q))=fun q=>decide (q∈Q) from rfl]
  cases e:(o.take i).any fun q=>decide (q∈Q) with
  | false=>
   rw [if_neg wQ]
   rw [e,yV] at k
   exact ⟨⟨_,rfl⟩,k⟩
  | true=>
   rw [if_pos rfl]
   rw [e,wZ] at k
   walk_at "v"
   refine qy (fun q:Int=>D.int q) (o.drop (i+1)) (fun _=>true) (fun q=>D.bl (decide (q∈Q))) (QL ?_)
   walk_at "v"
   rw [ea]
   refine SlV.r (qLA rfl ?_)
   rw [qAn o]
   refine ⟨_,_,rfl,rfl,rfl,qI (by rw [uZ]; omega),qM rfl,of_decide_eq_true rfl,?_,?_⟩
   ·rintro q _ os hos
    obtain ⟨z0,rfl⟩:=Jz hos
    walk_at "v"
    refine ⟨⟨[_],rfl,rfl⟩,jN ⟨rfl,rfl⟩,fun _=>?_⟩
    walk_at "v"
    exact ⟨rfl,rfl⟩
   rw [qT,show (o.drop (i+1)).map (fun q=>D.bl (decide (q∈Q)))=((o.drop (i+1)).map fun q=>decide (q∈Q)).map D.bl from by rw [zM]; rfl]
   walk_at "v"
   refine qAa rfl ?_
   walk_at "v"
   rw [gI]
   exact ⟨⟨_,rfl⟩,k⟩
theorem YC:qR ["web","s","t","thing"] ["web","s","t","thing"] (qJ (top 25)):=by walk_at "sc"
theorem YB (F:Fun K "is_pole_order" "is_pole_order" (top 25) f fd) (T:Txt mg) (XAV:Has P w K mg base "is_place" (top 6) ["web","thing"] 2 (spV qCw)) (XAN:Has P w K mg base "is_between" (top 24) ["web","order","at"] 3 (spV qLW)):QC P w K mg base CX0 4 f fd ["web","s","t","thing"] (spV qGX):=by
 refine jO F YC [0,1,2,3] (fun as Φ h=>?_) (fun cdv A outer s H E hr=>?_)
 ·obtain ⟨n,ts,a,b,o,rfl,_⟩:=h
  rfl
 ·have hu:=hr.units
  refine ⟨_,(qC (jY (PW.pt (Q2 (QX (qq (K:=K) rfl (qH (JF (K:=K) rfl) (by rfl) T.n_isinstance vQ (qA (pv 3) (qA (JE (v:=.ty "tuple") (by rfl) T.n_tuple zU rfl) qB))) (fun _=>rfl))) (Qh (QX (qq (K:=K) rfl (qH (QH rfl) (by rfl) T.n_all xK (qA (qc rfl (own:=["place"]) (fr:=[("web",0)]) (by walk_at "cs") (qd (K:=K) rfl (pv 3)) (fun cl C s0 H0 fp=>⟨(jo 0),jH,(qh XAV hr (qA (pv 1) (qA (pv 0) qB)))⟩)) qB)) (fun _=>rfl))))))
   (qF (qQ QG))
   qb)
   (qC (jY (PW.pt (Q2 (qK (qCN hu) (qH J9 (by rfl) T.n_sorted xR (qA (pv 3) qB)) (qU (QM rfl) (by rfl) T.n_list uD (qA (qU jh (by rfl) T.n_range xY (qA (jA (pv 0) qD) qB)) qB)) (qV _)) (Q2 (qK (qCN hu) (jA (pv 3) qD) (pv 1) (qV _)) (Qh (qK (qCN hu) (jA (pv 3) (qBd J5 qD)) (pv 2) (qV _))))))
   (qF (qQ QG))
   qb)
   (qF (qQ (qH (QH rfl) (by rfl) T.n_all xK (qA (qc rfl (own:=["at"]) (fr:=[("web",0),("thing",3)]) (by walk_at "cs") (JS (by rfl) T.n_range (qA qD (qA (qr J6 (qH (qBY (K:=K) rfl) (by rfl) T.n_len yW (qA (pv 3) qB)) qD) qB))) (fun cl C s0 H0 fp=>⟨(jo 0),jH,(qh XAN hr (qA (pv 1) (qA (pv 2) (qA (pv 0) qB))))⟩)) qB)))))),?_⟩
  rintro as Φ ⟨n,ts,s,t,o,rfl,n1,n9,ol,k⟩
  let S0:Sl:=.d (jq n ts)
  let S1:Sl:=.d (.int s)
  let S2:Sl:=.d (.int t)
  let S3:Sl:=.d (.tup (qE o))
  unfold qBl at k
  walk_at "st"
  refine qp (fun ρ=>o.all (inB n)=true/\ρ=[S0,S1,S2,S3]) ?_ ?_
  ·refine JO (Y8 ?_)
   walk_at "v"
   refine ite_no ?_
   walk_at "v"
   refine qy (fun q:Int=>D.int q) o (fun _=>true) (fun q=>D.bl (inB n q)) (QL ?_)
   walk_at "v"
   refine ⟨_,_,rfl,rfl,rfl,qI (by omega),qM rfl,of_decide_eq_true rfl,?_,?_⟩
   ·rintro q _ os hos
    obtain ⟨z0,rfl⟩:=Jz hos
    walk_at "v"
    refine ⟨⟨[_],rfl,rfl⟩,jN ⟨rfl,rfl⟩,fun _=>?_⟩
    refine jf ?_
    walk_at "v"
    refine ⟨of_decide_eq_true rfl,?_⟩
    walk_at "st"
    exact ⟨n,ts,q,rfl,⟨⟨_,rfl⟩,rfl,rfl⟩⟩
   rw [qT,show o.map (fun q=>D.bl (inB n q))=(o.map (inB n)).map D.bl from by rw [zM]; rfl]
   walk_at "v"
   refine qDA rfl ?_
   rw [show (o.map (inB n)).all id=o.all (inB n) from by rw [gH]; rfl]
   walk_at "v"
   refine Qf (fun h1=>?_) (fun h1=>?_)
   ·walk_at "v"
    rw [jR h1,yV] at k
    exact ⟨⟨_,rfl⟩,k⟩
   exact qg ⟨jL h1,rfl⟩
  rintro ρ ⟨h1,rfl⟩
  rw [h1,wZ] at k
  refine qp (fun ρ=>(o.isPerm (places n) && (decide (o.getD 0 0=s) && decide (o.getLastD 0=t)))=true/\ρ=[S0,S1,S2,S3]) ?_ ?_
  ·refine JO (Y8 ?_)
   walk_at "v"
   refine qBt (ns:=o) (.inl rfl) (by omega) fun ns' pm so=>?_
   walk_at "v"
   refine ⟨(n:Int),⟨_,rfl,rfl⟩,by omega,by omega,?_⟩
   rw [zT,show (wV n).map (fun k:Nat=>D.int k)=(places n).map D.int from by unfold places; rw [zM]; rfl]
   refine OpV.r (qHd rfl rfl (jT _) ?_ (hd2:=jT _))
   rw [if_pos rfl,show QY (ns'.map D.int) ((places n).map D.int)=decide (ns'=places n) from YJ Y2 ns' (places n)]
   refine ⟨_,rfl,?_⟩
   refine Qf (fun h2=>?_) (fun h2=>?_)
   ·rw [if_pos rfl]
    walk_at "v"
    have e:o.isPerm (places n)=false:=by
     cases e:o.isPerm (places n) with
     | false=>rfl
     | true=>exact absurd (Yv pm so e) (of_decide_eq_false (jR h2))
    rw [e,yV] at k
    exact ⟨⟨_,rfl⟩,k⟩
   have en:ns'=places n:=of_decide_eq_true (jL h2)
   have ip:o.isPerm (places n)=true:=xZ.mpr (en ▸ pm.symm)
   have on:o.length=n:=by rw [(xZ.mp ip).length_eq,places_len]
   have one:o≠[]:=fun z=>by
    rw [z] at on
    have:0=n:=on
    omega
   have at0:atI (qE o) 0=some (.int (o.getD 0 0)):=at_getD (ns:=o) (a:=0) (gF _) (by omega)
   have at1:=qIc one
   rw [ip,wZ] at k
   rw [ip,wZ]
   refine Y8 ?_
   walk_at "v"
   refine Qf (fun h3=>?_) (fun h3=>?_)
   ·rw [if_pos rfl]
    walk_at "v"
    rw [jR h3,yV] at k
    exact ⟨⟨_,rfl⟩,k⟩
   have h3':=jL h3
   rw [h3',wZ] at k
   rw [h3',wZ]
   walk_at "v"
   refine Qf (fun h4=>?_) (fun h4=>?_)
   ·walk_at "v"
    rw [jR h4,yV] at k
    exact ⟨⟨_,rfl⟩,k⟩
   exact qg ⟨jL h4,rfl⟩
  rintro ρ ⟨h2,rfl⟩
  rw [zX,zX] at h2
  rw [h2.1,h2.2.1,h2.2.2,wZ,wZ,wZ] at k
  have on:o.length=n:=by rw [(xZ.mp h2.1).length_eq,places_len]
  walk_at "v"
  refine qy (fun j:Nat=>D.int ((j+1:Nat):Int)) (wV (n - 2)) (fun _=>true) (fun j=>D.bl (qAw n ts o (j+1))) (qLq ?_)
  walk_at "v"
  have el:(qE o).length=o.length:=wC _
  refine ⟨1,((qE o).length:Int) - 1,⟨_,_,rfl,rfl,rfl⟩,by rw [el]; omega,?_,qI (by rw [yN]; omega),qM rfl,of_decide_eq_true rfl,?_,?_⟩
  ·rw [el,on,show ((n:Int) - 1 - 1).toNat=n - 2 from by omega]
   unfold qCO
   exact xI fun i _=>by rw [show (1:Int)+(i:Int)=((i+1:Nat):Int) from by omega]
  ·rintro j hj os hos
   obtain ⟨z0,rfl⟩:=Jz hos
   walk_at "v"
   refine ⟨⟨[_],rfl,rfl⟩,jN ⟨rfl,rfl⟩,fun _=>?_⟩
   refine jf ?_
   walk_at "v"
   refine ⟨of_decide_eq_true rfl,?_⟩
   walk_at "st"
   exact ⟨n,ts,o,j+1,rfl,n9,ol,by have:=zY.mp hj; omega,⟨⟨_,rfl⟩,rfl,rfl⟩⟩
  rw [qT,show (wV (n - 2)).map (fun j=>D.bl (qAw n ts o (j+1)))=((wV (n - 2)).map fun j=>qAw n ts o (j+1)).map D.bl from by rw [zM]; rfl]
  walk_at "v"
  refine qDA rfl ?_
  rw [show ((wV (n - 2)).map fun j=>qAw n ts o (j+1)).all id=(wV (n - 2)).all fun j=>qAw n ts o (j+1) from by rw [gH]; rfl]
  walk_at "v"
  exact ⟨⟨_,rfl⟩,k⟩
theorem qGx:qR ["web","s","t","place","part"] ["web","s","t","place","part"] (qJ (top 26)):=by walk_at "sc"
theorem qF3 (F:Fun K "is_cut" "is_cut" (top 26) f fd) (T:Txt mg) (XAV:Has P w K mg base "is_place" (top 6) ["web","thing"] 2 (spV qCw)) (XAh:Has P w K mg base "near" (top 8) ["web","place"] 2 (spV qFi)):QC P w K mg base CX0 3 f fd ["web","s","t","place","part"] (spV qIJ):=by
 refine jO F qGx [0,1,2,3,4] (fun as Φ h=>?_) (fun cdv A outer s H E hr=>?_)
 ·obtain ⟨n,ts,a,b,p,P,rfl,_⟩:=h
  rfl
 ·have hu:=hr.units
  refine ⟨_,(qC (jY (PW.pt (Q2 (QX (qq (K:=K) rfl (qH (JF (K:=K) rfl) (by rfl) T.n_isinstance vQ (qA (pv 4) (qA (JE (v:=.ty "tuple") (by rfl) T.n_tuple zU rfl) qB))) (fun _=>rfl))) (Q2 (QX (qq (K:=K) rfl (pv 4) (fun _=>rfl))) (Qh (QX (qq (K:=K) rfl (qH (QH rfl) (by rfl) T.n_all xK (qA (qc rfl (own:=["other"]) (fr:=[("web",0)]) (by walk_at "cs") (qd (K:=K) rfl (qr (Y3 (K:=K) rfl) (pv 4) (qk (qA (pv 3) qB)))) (fun cl C s0 H0 fp=>⟨(jo 0),jH,(qh XAV hr (qA (pv 1) (qA (pv 0) qB)))⟩)) qB)) (fun _=>rfl)))))))
   (qF (qQ QG))
   qb)
   (qC (jY (QX (qq (K:=K) rfl (qH (QH rfl) (by rfl) T.n_all xK (qA (qc rfl (own:=["one","other"]) (fr:=[]) (by walk_at "cs") (qGi (by rfl) T.n_zip (qA (pv 4) (qA (Qb (qJQ (K:=K) rfl) (pv 4) (Qt qD) Jl) qB))) (fun cl C s0 H0 fp=>⟨(jc (K:=K) (n:=2) rfl rfl (qW (jo 0) (qW (jo 1) jd))),jH,(jU qAB (pv 0) (pv 1) (qV _))⟩)) qB)) (fun _=>rfl)))
   (qF (qQ QG))
   qb)
   (qC (jY (qq (K:=K) rfl (qH (QU rfl) (by rfl) T.n_any uL (qA (qc rfl (own:=["other"]) (fr:=[("part",4)]) (by walk_at "cs") (qd (K:=K) rfl (qk (qA (pv 1) (qA (pv 2) (qA (pv 3) qB))))) (fun cl C s0 H0 fp=>⟨(jo 0),jH,(jU (qCY hu) (pv 0) (pv 1) (by with_unfolding_all rfl))⟩)) qB)) (fun _=>rfl))
   (qF (qQ QG))
   qb)
   (qF (qQ (qH (QH rfl) (by rfl) T.n_all xK (qA (qK6 rfl (own:=["other","far"]) (fr:=[("web",0),("part",4),("place",3)]) (by walk_at "cs") (qd (K:=K) rfl (pv 4)) (fun cl C s0 H0 fp=>⟨(jo 0),jH,(qd (K:=K) rfl (qh XAh hr (qA (pv 2) (qA (pv 0) qB)))),(jo 1),jH,(qKJ (jU (qCY hu) (pv 1) (pv 3) (by with_unfolding_all rfl)) (YR (jU (qAH hu) (pv 1) (pv 4) (qV _))))⟩)) qB))))))),?_⟩
  rintro as Φ ⟨n,ts,s,t,p,Q,rfl,n9,ql,k⟩
  let S0:Sl:=.d (jq n ts)
  let S1:Sl:=.d (.int s)
  let S2:Sl:=.d (.int t)
  let S3:Sl:=.d (.int p)
  let S4:Sl:=.d (.tup (qE Q))
  unfold qLG at k
  walk_at "st"
  refine qp (fun ρ=>(!Q.isEmpty && (Q++[p]).all (inB n))=true/\ρ=[S0,S1,S2,S3,S4]) ?_ ?_
  ·refine JO (Y8 ?_)
   walk_at "v"
   refine ite_no ?_
   refine Y8 ?_
   walk_at "v"
   refine Qf (fun h1=>?_) (fun h1=>?_)
   ·rw [if_pos rfl]
    walk_at "v"
    cases Q with
    | nil=>exact ⟨⟨_,rfl⟩,k⟩
    | cons a r=>cases h1
   have qe:Q.isEmpty=false:=by
    cases Q with
    | nil=>exact absurd rfl h1
    | cons a r=>rfl
   rw [qe,kU,wZ] at k
   rw [qe,kU,wZ]
   walk_at "v"
   refine qy (fun q:Int=>D.int q) (Q++[p]) (fun _=>true) (fun q=>D.bl (inB n q)) (QL ?_)
   walk_at "v"
   refine OpV.r (OpV.r (qIM rfl rfl (szl (by unfold qE; rw [wC]; show Q.length+1<=1000; omega)) ?_))
   rw [show qE Q++[D.int p]=qE (Q++[p]) from by unfold qE; rw [yD]; rfl]
   refine ⟨_,_,rfl,rfl,rfl,qI (by rw [wR]; show Q.length+1<=1000; omega),qM rfl,of_decide_eq_true rfl,?_,?_⟩
   ·rintro q _ os hos
    obtain ⟨z0,rfl⟩:=Jz hos
    walk_at "v"
    refine ⟨⟨[_],rfl,rfl⟩,jN ⟨rfl,rfl⟩,fun _=>?_⟩
    refine jf ?_
    walk_at "v"
    refine ⟨of_decide_eq_true rfl,?_⟩
    walk_at "st"
    exact ⟨n,ts,q,rfl,⟨⟨_,rfl⟩,rfl,rfl⟩⟩
   rw [qT,show (Q++[p]).map (fun q=>D.bl (inB n q))=((Q++[p]).map (inB n)).map D.bl from by rw [zM]; rfl]
   walk_at "v"
   refine qDA rfl ?_
   rw [show ((Q++[p]).map (inB n)).all id=(Q++[p]).all (inB n) from by rw [gH]; rfl]
   walk_at "v"
   refine Qf (fun h2=>?_) (fun h2=>?_)
   ·walk_at "v"
    rw [jR h2,yV] at k
    exact ⟨⟨_,rfl⟩,k⟩
   exact qg ⟨jL h2,rfl⟩
  rintro ρ ⟨h1,rfl⟩
  rw [<- Bool.and_assoc,h1,wZ] at k
  refine qp (fun ρ=>upB Q=true/\ρ=[S0,S1,S2,S3,S4]) ?_ ?_
  ·refine JO ?_
   walk_at "v"
   refine qy (fun x:Int×Int=>D.tup [.int x.1,.int x.2]) (Q.zip (Q.drop 1)) (fun _=>true) (fun x=>D.bl (decide (x.1<x.2))) (qLQ ?_)
   walk_at "v"
   refine SlV.r (qLA rfl ?_)
   rw [show cutD (qE Q) (some 1) none=qE (Q.drop 1) from qAn Q 1]
   walk_at "v"
   refine ⟨_,_,⟨_,_,rfl,rfl,rfl⟩,qDB _ _,qI (by rw [List.length_zip]; omega),qM rfl,of_decide_eq_true rfl,?_,?_⟩
   ·rintro ⟨x,y⟩ _ os hos
    obtain ⟨z0,z1,rfl⟩:=qFn hos
    walk_at "v"
    refine ⟨⟨[_,_],rfl,rfl⟩,jN ⟨rfl,rfl⟩,fun _=>?_⟩
    walk_at "v"
    exact ⟨rfl,rfl⟩
   rw [qT,show (Q.zip (Q.drop 1)).map (fun x:Int×Int=>D.bl (decide (x.1<x.2)))=((Q.zip (Q.drop 1)).map fun x=>decide (x.1<x.2)).map D.bl from by rw [zM]; rfl]
   walk_at "v"
   refine qDA rfl ?_
   rw [show ((Q.zip (Q.drop 1)).map fun x=>decide (x.1<x.2)).all id=upB Q from by unfold upB; rw [gH]; rfl]
   walk_at "v"
   refine Qf (fun h2=>?_) (fun h2=>?_)
   ·walk_at "v"
    rw [jR h2,yV] at k
    exact ⟨⟨_,rfl⟩,k⟩
   exact qg ⟨jL h2,rfl⟩
  rintro ρ ⟨h2,rfl⟩
  rw [h2,wZ] at k
  refine qp (fun ρ=>(!([s,t,p].any fun q=>decide (q∈Q)))=true/\ρ=[S0,S1,S2,S3,S4]) ?_ ?_
  ·refine JO ?_
   walk_at "v"
   refine qy (fun q:Int=>D.int q) [s,t,p] (fun _=>true) (fun q=>D.bl (decide (q∈Q))) (QL ?_)
   walk_at "v"
   refine ⟨_,_,rfl,rfl,rfl,qI (show 3<=1000 by decide),qM rfl,of_decide_eq_true rfl,?_,?_⟩
   ·rintro q _ os hos
    obtain ⟨z0,rfl⟩:=Jz hos
    walk_at "v"
    refine ⟨⟨[_],rfl,rfl⟩,jN ⟨rfl,rfl⟩,fun _=>?_⟩
    walk_at "v"
    exact ⟨rfl,rfl⟩
   rw [qT,show [s,t,p].map (fun q=>D.bl (decide (q∈Q)))=([s,t,p].map fun q=>decide (q∈Q)).map D.bl from by rw [zM]; rfl]
   walk_at "v"
   refine qAa rfl ?_
   rw [show ([s,t,p].map fun q=>decide (q∈Q)).any id=[s,t,p].any fun q=>decide (q∈Q) from by rw [gI]; rfl]
   walk_at "v"
   refine Qf (fun h3=>?_) (fun h3=>?_)
   ·walk_at "v"
    rw [h3,Bool.not_true,yV] at k
    exact ⟨⟨_,rfl⟩,k⟩
   exact qg ⟨by rw [qB4 h3]; rfl,rfl⟩
  rintro ρ ⟨h3,rfl⟩
  rw [h3,wZ] at k
  have jt:∀ j x,Q[j]? = some x->(Q.take (j+1)).flatMap (jM n ts)=(Q.take j).flatMap (jM n ts)++jM n ts x:=fun j x hx=>by
   rw [kQ,hx,List.flatMap_append]
   show _++(jM n ts x++[])=_
   rw [yZ]
  have jl:∀ j,((Q.take j).flatMap (jM n ts)).length<=30*9:=fun j=>by
   have h1:∀ l:List Int,(l.flatMap (jM n ts)).length<=l.length*9:=fun l=>by
    induction l with
    | nil=>exact zZ _
    | cons a l ih=>
     have:=YI n ts a
     rw [List.flatMap_cons,wR,yG]
     omega
   have:=h1 (Q.take j)
   rw [vK] at this
   omega
  let yB:Int->D:=fun y=>.bl (decide (y∈Q) || decide (y=p))
  walk_at "v"
  refine qL6 (QL ?_)
  walk_at "v"
  refine ⟨_,_,rfl,rfl,qM rfl,of_decide_eq_true rfl,fun j ys ρc=>∃ s0 s1:Sl,ρc=[s0,s1,S0,S4,S3]/\ys=((Q.take j).flatMap (jM n ts)).map yB,⟨_,_,rfl,rfl⟩,?_,?_,?_⟩
  ·rintro j ys ρc ⟨s0,s1,rfl,_⟩
   rfl
  ·rintro j x ys ρc hx ⟨s0,s1,rfl,rfl⟩
   unfold qE at hx
   rw [wL] at hx
   obtain ⟨c,hc,rfl⟩:=gN.mp hx
   have nl:=YI n ts c
   refine qm rfl ?_
   walk_at "st"
   refine jN ?_
   refine (if_pos rfl).mpr ?_
   refine qKd ?_
   walk_at "vc"
   refine ⟨n,ts,c,rfl,n9,⟨⟨_,rfl⟩,?_⟩⟩
   walk_at "st"
   refine ⟨_,_,rfl,rfl,fun i ys ρc=>∃ s1:Sl,ρc=[.d (.int c),s1,S0,S4,S3]/\ys=((Q.take j).flatMap (jM n ts)).map yB++((jM n ts c).take i).map yB,⟨_,rfl,by rw [UP,List.map_nil,yZ]⟩,?_,?_,?_⟩
   ·rintro i ys ρc ⟨s1,rfl,rfl⟩
    have:=jl j
    refine qI ?_
    rw [wR,wC,wC,vK]
    omega
   ·rintro i u ys ρc hu ⟨s1,rfl,rfl⟩
    unfold qE at hu
    rw [wL] at hu
    obtain ⟨y,hy,rfl⟩:=gN.mp hu
    refine qm rfl ?_
    walk_at "st"
    refine jN ?_
    refine (if_pos rfl).mpr ?_
    refine qJY (b:=decide (y∈Q)) (c:=decide (y=p)) ?_ (fun _=>?_) ?_
    ·walk_at "v"
     exact ⟨rfl,rfl⟩
    ·walk_at "v"
     exact ⟨rfl,rfl⟩
    refine ⟨_,rfl,_,rfl,?_⟩
    rw [kQ,hy,yD,xA]
    rfl
   ·rintro ys ρc ⟨s1,rfl,rfl⟩
    refine ⟨_,_,rfl,?_⟩
    rw [jt j c hc,yD,show (qE (jM n ts c)).length=(jM n ts c).length from wC _,xO]
  ·rintro ys ρc ⟨s0,s1,rfl,rfl⟩
   rw [show (qE Q).length=Q.length from wC _,xO]
   walk_at "v"
   refine qDA (bs:=(Q.flatMap (jM n ts)).map fun y=>decide (y∈Q) || decide (y=p)) (congrArg (fun z=>some (D.lst z)) (by rw [zM]; rfl)) ?_
   rw [show ((Q.flatMap (jM n ts)).map fun y=>decide (y∈Q) || decide (y=p)).all id=Q.all fun x=>(jM n ts x).all fun y=>decide (y∈Q) || decide (y=p) from by rw [gH,List.all_flatMap]; rfl]
   exact ⟨⟨_,rfl⟩,k⟩
theorem Y5:qR ["web","s","t","told"] ["web","s","t","told"] (qJ (top 27)):=by walk_at "sc"
theorem qAD (F:Fun K "poled_right" "poled_right" (top 27) f fd) (T:Txt mg) (XAF:Has P w K mg base "refuse_poles" (top 19) ["web","s","t"] 5 (spV YS)) (XAC:Has P w K mg base "is_pole_order" (top 25) ["web","s","t","thing"] 4 (spV qGX)) (XAd:Has P w K mg base "is_cut" (top 26) ["web","s","t","place","part"] 3 (spV qIJ)):QC P w K mg base CX0 6 f fd ["web","s","t","told"] (spV qBe):=by
 refine jO F Y5 [0,1,2,3] (fun as Φ h=>?_) (fun cdv A outer s H E hr=>?_)
 ·obtain ⟨n,ts,a,b,x,rfl,_⟩:=h
  rfl
 ·have hu:=hr.units
  refine ⟨_,(qC (Qu (qh XAF hr (qA (pv 0) (qA (pv 1) (qA (pv 2) qB)))))
   (qC (jY (QX (qq (K:=K) rfl (qH (JF (K:=K) rfl) (by rfl) T.n_isinstance vQ (qA (pv 3) (qA (JE (v:=.ty "tuple") (by rfl) T.n_tuple zU rfl) qB))) (fun _=>rfl)))
   (qF (qQ QG))
   qb)
   (qC (jY (qK (qAH hu) (qH (qBY (K:=K) rfl) (by rfl) T.n_len yW (qA (pv 3) qB)) qD (qV _))
   (qF (qQ (qAi (jU (qAH hu) (jA (pv 3) qD) JA (qV _)) (YR (qh XAC hr (qA (pv 0) (qA (pv 1) (qA (pv 2) (qA (jA (pv 3) qD) qB)))))))))
   qb)
   (qF (qQ (qAi (jU (qAH hu) (qH (qBY (K:=K) rfl) (by rfl) T.n_len yW (qA (pv 3) qB)) qD (qV _)) (qAi (jU (qAH hu) (jA (pv 3) qD) JA (qV _)) (YR (qh XAd hr (qA (pv 0) (qA (pv 1) (qA (pv 2) (qA (jA (pv 3) qD) (qA (jA (pv 3) qD) qB)))))))))))))),?_⟩
  rintro as Φ ⟨n,ts,s,t,x,rfl,W,wh,ne,sm,k⟩
  have n1:=W.pos
  have n9:=W.few
  cases x with
  | order o=>
   walk_at "st"
   walk_at "vc"
   refine ⟨n,ts,s,t,rfl,W,wh,ne,⟨⟨_,rfl⟩,?_⟩⟩
   walk_at "sv"
   refine ite_no ?_
   refine qg ?_
   walk_at "v"
   rw [if_pos (decide_eq_true (show (([D.str (uR "order"),D.tup (qE o)].length:Nat):Int)=2 from rfl))]
   refine qCE (v_and ?_)
   walk_at "v"
   refine OpV.l (qBC rfl rfl rfl rfl rfl ?_)
   rw [decide_eq_true rfl]
   walk_at "v"
   rw [if_pos rfl]
   refine jf ?_
   walk_at "v"
   refine ⟨of_decide_eq_true rfl,?_⟩
   walk_at "st"
   exact ⟨n,ts,s,t,o,rfl,n1,n9,sm,⟨⟨_,rfl⟩,⟨_,rfl⟩,k⟩⟩
  | cut p Q=>
   walk_at "st"
   walk_at "vc"
   refine ⟨n,ts,s,t,rfl,W,wh,ne,⟨⟨_,rfl⟩,?_⟩⟩
   walk_at "sv"
   refine ite_no ?_
   refine qg ?_
   walk_at "v"
   rw [if_neg (fun z=>by have:=of_decide_eq_true z; exact absurd this (show ¬ ((3:Nat):Int)=2 by decide))]
   refine qg ?_
   refine qCE (v_and ?_)
   walk_at "v"
   rw [if_pos (decide_eq_true (show (([D.str (uR "cut"),D.int p,D.tup (qE Q)].length:Nat):Int)=3 from rfl))]
   refine v_and ?_
   walk_at "v"
   refine OpV.l (qBC rfl rfl rfl rfl rfl ?_)
   rw [decide_eq_true rfl]
   walk_at "v"
   rw [if_pos rfl]
   refine jf ?_
   walk_at "v"
   refine ⟨of_decide_eq_true rfl,?_⟩
   walk_at "st"
   exact ⟨n,ts,s,t,p,Q,rfl,n9,sm,⟨⟨_,rfl⟩,⟨_,rfl⟩,k⟩⟩
def j3 (ts:List Tie) (p:Int):List Int:=(ts.filter fun t=>decide (p∈[t.1,t.2])).map fun t=>t.1+t.2 - p
def qGv:PV:=fun as Φ=>∃(n:Nat) (ts:List Tie) (p:Int),as=[.d (jq n ts),.d (.int p)]/\ts.length<=20/\Φ (.l (qE (j3 ts p))) as
theorem qCK:qR ["web","place"] ["web","place"] (qJ (top 36)):=by walk_at "sc"
theorem qCM (F:Fun K "_law_near" "_law_near" (top 36) f fd) (T:Txt mg):QC P w K mg base CX0 1 f fd ["web","place"] (spV qGv):=by
 refine jO F qCK [0,1] (fun as Φ h=>?_) (fun cdv A outer s H E hr=>?_)
 ·obtain ⟨n,ts,p,rfl,_⟩:=h
  rfl
 ·have hu:=hr.units
  refine ⟨_,(qF (qQ (qc rfl (own:=["a","b"]) (fr:=[("place",1)]) (by walk_at "cs") (qd (K:=K) rfl (jA (pv 0) qD)) (fun cl C s0 H0 fp=>⟨(jc (K:=K) (n:=2) rfl rfl (qW (jo 0) (qW (jo 1) jd))),jg (qK (qCY hu) (pv 2) (qk (qA (pv 0) (qA (pv 1) qB))) (by with_unfolding_all rfl)),(qr J6 (qr (Y3 (K:=K) rfl) (pv 0) (pv 1)) (pv 2))⟩)))),?_⟩
  rintro as Φ ⟨n,ts,p,rfl,hts,k⟩
  walk_at "sv"
  refine qy qw ts (fun t=>decide (p∈[t.1,t.2])) (fun t=>D.int (t.1+t.2 - p)) (QL ?_)
  walk_at "v"
  refine ⟨_,_,rfl,rfl,rfl,qI (by omega),qM rfl,of_decide_eq_true rfl,?_,?_⟩
  ·rintro ⟨a,b⟩ _ os hos
   obtain ⟨z0,z1,rfl⟩:=qFn hos
   walk_at "v"
   refine ⟨⟨[_,_],rfl,rfl⟩,?_,fun _=>?_⟩
   ·walk_at "v"
    refine qDk (fs:=[a,b]) rfl rfl ?_
    exact ⟨_,rfl,rfl,rfl⟩
   ·walk_at "v"
    exact ⟨rfl,rfl⟩
  have e:(ts.filter fun t=>decide (p∈[t.1,t.2])).map (fun t:Tie=>D.int (t.1+t.2 - p))=qE (j3 ts p):=by
   unfold j3 qE
   rw [zM]
   rfl
  rw [e]
  exact ⟨⟨_,rfl⟩,k⟩
local macro_rules | `(tactic| walk_at "v1")=>`(tactic| with_reducible refine qFq ?_)
local macro_rules | `(tactic| walk_at "v1")=>`(tactic| with_reducible refine qKO ?_)
theorem Q7 {b:Bool} (h:(!b)=true):b=false:=by cases b with | false=>rfl | true=>cases h
def qEe (n:Nat):List Tie:=(places (n - 1)).map fun q=>(q,q+1)
theorem qHa {n:Nat} (n1:1<=n) (n9:n<=9):YA n (qEe n):=by
 refine ⟨⟨n1,n9,by unfold qEe; rw [wC,places_len]; omega,fun t ht=>?_⟩,?_⟩
 ·obtain ⟨q,hq,rfl⟩:=zP.mp ht
  obtain ⟨q0,q1⟩:=qP.mp hq
  exact ⟨q0,by show q<q+1; omega,by show q+1<(n:Int); omega⟩
 ·exact Jq (fun s _ t _ e=>congrArg VI e) (ju _)
theorem qED (n:Nat):JJ n (qEe n):=fun a ha=>by
 obtain ⟨a0,a1⟩:=qP.mp ha
 obtain ⟨k,rfl⟩:∃ k:Nat,a=(k:Int):=⟨a.toNat,by omega⟩
 clear ha a0
 induction k with
 | zero=>exact .refl
 | succ k ih=>
  refine .snoc (ih (by omega)) (.inl (zP.mpr ⟨(k:Int),qP.mpr ⟨by omega,by omega⟩,?_⟩))
  exact congrArg (Prod.mk (k:Int)) (by omega)
def qBz (ts:List Tie) (p:Int):List Tie:=ts.filter fun t=>!decide (p∈[t.1,t.2])
def qGE (n:Nat) (ts:List Tie) (s t:Int):Prop:=∃ p∈places n,∃ q∈places n,q≠p/\∀ pole∈[s,t],pole≠p->¬ qi (qO (qBz ts p)) q pole
def qFB:PV:=fun as Φ=>∃(n:Nat) (ts:List Tie) (s t:Int),as=[.d (jq n ts),.d (.int s),.d (.int t)]/\YA n ts/\s∈places n/\t∈places n/\∀ c:Bool,(c=true↔qGE n ts s t)->Φ (.d (.bl c)) as
def qCB (ts:List Tie) (o:List Int) (i:Nat):Bool:=((j3 ts (o.getD i 0)).any fun p=>decide (p∈o.take i)) && ((j3 ts (o.getD i 0)).any fun p=>decide (p∈o.drop i))
def qGe (n:Nat) (ts:List Tie) (s t:Int) (o:List Int):Bool:=o.isPerm (places n) && (decide (o.getD 0 0=s) && (decide (o.getLastD 0=t) && ((wV (n - 2)).all fun j=>qCB ts o (j+1))))
def qDQ:PV:=fun as Φ=>∃(n:Nat) (ts:List Tie) (s t:Int) (o:List Int),as=[.d (jq n ts),.d (.int s),.d (.int t),.d (.tup (qE o))]/\YA n ts/\o.length<=30/\Φ (.d (.bl (qGe n ts s t o))) as
def qFj (n:Nat) (ts:List Tie) (s t p:Int) (P:List Int):Bool:=!P.isEmpty && (inB n p && (upB P && P.all fun x=>inB n x && (!decide (x∈[s,t,p]) && (j3 ts x).all fun y=>decide (y=p) || decide (y∈P))))
def qDY:PV:=fun as Φ=>∃(n:Nat) (ts:List Tie) (s t p:Int) (P:List Int),as=[.d (jq n ts),.d (.int s),.d (.int t),.d (.int p),.d (.tup (qE P))]/\YA n ts/\P.length<=30/\Φ (.d (.bl (qFj n ts s t p P))) as
theorem qDo:∀{Q:List Int},upB Q=true↔Q.Pairwise (· < ·)
 | []=>⟨fun _=>.nil,fun _=>rfl⟩
 | [a]=>⟨fun _=>uK.mpr ⟨fun _ h=>absurd h wY,.nil⟩,fun _=>rfl⟩
 | a::b::r=>by
  rw [show upB (a::b::r)=(decide (a<b) && upB (b::r)) from rfl,zX,decide_eq_true_iff,qDo,uK (a:=a)]
  refine and_congr_left fun h=>⟨fun ab x hx=>?_,fun h2=>h2 b wF⟩
  rcases wM.mp hx with e | e
  ·rw [e]; exact ab
  ·exact VJ ab ((uK.mp h).1 x e)
def qMX (n:Nat) (ts:List Tie) (s t:Int):Told->Bool
 | .order o=>qGe n ts s t o
 | .cut p P=>qFj n ts s t p P
def qLF:PV:=fun as Φ=>∃(n:Nat) (ts:List Tie) (s t:Int) (x:Told),as=[.d (jq n ts),.d (.int s),.d (.int t),.d (qC4 x)]/\YA n ts/\x.small/\Φ (.d (.bl (qMX n ts s t x))) as
def qEq:PV:=fun as Φ=>∃(n:Nat) (ts:List Tie) (cap:Nat),as=[.d (jq n ts),.d (.int cap)]/\YA n ts/\ts.length<=cap/\cap<=20/\∀ us:List Tie,YA n us->us.length<=cap->Φ (.d (jq n us)) as
def qMy:PV:=fun as Φ=>∃(q:Int×Int×Int) (most cap:Nat),as=[.l (jZ q),.d (.int most),.d (.int cap)]/\1<=most/\most<=9/\cap<=20/\∀ n ts q',YA n ts->JJ n ts->2<=n->Φ (.d (jq n ts)) [.l (jZ q'),.d (.int most),.d (.int cap)]
def qIW:PV:=fun as Φ=>∃(q:Int×Int×Int) (n:Nat) (ts:List Tie),as=[.l (jZ q),.d (jq n ts)]/\2<=n/\n<=9/\∀(s t:Int) q',s∈places n->t∈places n->s≠t->Φ (.d (.tup [.int s,.int t])) [.l (jZ q'),.d (jq n ts)]
theorem QZ:qR ["pool","web","s","t"] ["pool","web"] (qJ (top 40)):=by walk_at "sc"
theorem qBK (F:Fun K "_law_poles" "_law_poles" (top 40) f fd) (T:Txt mg) (XAQ:Has P w K mg base "_law_next" (top 31) ["pool","base"] 1 (spV qHW)):QC P w K mg base CX0 2 f fd ["pool","web"] (spV qIW):=by
 refine jO F QZ [0,1] (fun as Φ h=>?_) (fun cdv A outer s H E hr=>?_)
 ·obtain ⟨q,n,ts,rfl,_⟩:=h
  rfl
 ·have hu:=hr.units
  refine ⟨_,(qC (QP 2 QZ (qh XAQ hr (qA (pv 0) (qA (jA (pv 1) qD) qB))))
   (qC (QP 3 QZ (qr JR (qr (Y3 (K:=K) rfl) (qr (Y3 (K:=K) rfl) (pv 2) qD) (qh XAQ hr (qA (pv 0) (qA (qr J6 (jA (pv 1) qD) qD) qB)))) (jA (pv 1) qD)))
   (qF (qQ (qk (qA (pv 2) (qA (pv 3) qB))))))),?_⟩
  rintro as Φ ⟨q,n,ts,rfl,n2,n9,k⟩
  walk_at "st"
  refine qp (fun ρ=>∃(q':Int×Int×Int) (s:Int),s∈places n/\ρ=[.l (jZ q'),.d (jq n ts),.d (.int s),.u]) ?_ ?_
  ·walk_at "v"
   refine jf ?_
   walk_at "v"
   refine ⟨of_decide_eq_true rfl,?_⟩
   walk_at "st"
   refine ⟨q,(n:Int),rfl,by omega,by omega,fun r q1 r0 r1=>⟨⟨_,rfl⟩,?_⟩⟩
   walk_at "sv"
   exact ⟨q1,r,qP.mpr ⟨r0,r1⟩,rfl⟩
  rintro ρ ⟨q1,s,hs,rfl⟩
  obtain ⟨s0,s1⟩:=qP.mp hs
  refine qp (fun ρ=>∃(q':Int×Int×Int) (t:Int),t∈places n/\s≠t/\ρ=[.l (jZ q'),.d (jq n ts),.d (.int s),.d (.int t)]) ?_ ?_
  ·walk_at "v"
   refine jf ?_
   walk_at "v"
   refine ⟨of_decide_eq_true rfl,?_⟩
   walk_at "st"
   refine ⟨q1,(n:Int) - 1,rfl,by omega,by omega,fun r q2 r0 r1=>⟨⟨_,rfl⟩,?_⟩⟩
   walk_at "sv"
   refine qAt rfl rfl (by show (0:Int)<_; omega) ?_
   walk_at "v"
   have t0:=kJ (s+1+r) (show (n:Int)≠0 by omega)
   have t1:=uJ (s+1+r) (show (0:Int)<n by omega)
   have ne:s≠(s+1+r) % (n:Int):=fun z=>by
    by_cases c:s+1+r<(n:Int)
    ·rw [fR (by omega) c] at z
     omega
    ·have e:(s+1+r) % (n:Int)=s+1+r - n:=by
      rw [<- Int.sub_emod_right,fR (by omega) (by omega)]
     omega
   exact ⟨q2,_,qP.mpr ⟨t0,t1⟩,ne,rfl⟩
  rintro ρ ⟨q2,t,ht,ne,rfl⟩
  walk_at "v"
  exact ⟨⟨_,rfl⟩,k s t q2 hs ht ne⟩
theorem jr:qR ["web","cap","ties","place","marks"] ["web","cap"] (qJ (top 38)):=by walk_at "sc"
theorem qAC (F:Fun K "_law_joined" "_law_joined" (top 38) f fd) (T:Txt mg) (XAI:Has P w K mg base "_law_pieces" (top 37) ["web"] 1 (spV qIA)):QC P w K mg base CX0 2 f fd ["web","cap"] (spV qEq):=by
 refine jO F jr [0,1] (fun as Φ h=>?_) (fun cdv A outer s H E hr=>?_)
 ·obtain ⟨n,ts,c,rfl,_⟩:=h
  rfl
 ·have hu:=hr.units
  refine ⟨_,(qC (QP 2 jr (qU (qLB (K:=K) rfl) (by rfl) T.n_list uD (qA (jA (pv 0) qD) qB)))
   (qC (JW vR rfl (JS (by rfl) T.n_range (qA qD (qA (jA (pv 0) qD) qB))) (qEp 3 jr)
   (qC (QP 4 jr (qh XAI hr (qA (qk (qA (jA (pv 0) qD) (qA (pv 2) qB))) qB)))
    (qF (jY (PW.pt (qAe (qK (qCN hu) (jA (pv 4) (pv 3)) (jA (pv 4) (qr J6 (pv 3) qD)) (qV _)) (Jm (qK qAB (qH (qBY (K:=K) rfl) (by rfl) T.n_len yW (qA (pv 2) qB)) (pv 1) (qV _)))))
    (qF (Qu (qAN (K:=K) rfl vL PySem.F.slot_list_append PySem.F.type_list_append YQ (pv 2) (qA (qk (qA (qr J6 (pv 3) qD) (qA (pv 3) qB))) qB))))
    qb))))
   (qF (qQ (qk (qA (jA (pv 0) qD) (qA (qU (Qj (K:=K) rfl) (by rfl) T.n_tuple zU (qA (qH (Qr hu) (by rfl) T.n_sorted xR (qA (pv 2) qB)) qB)) qB))))))),?_⟩
  rintro as Φ ⟨n,ts,cap,rfl,W,tc,c20,k⟩
  have n1:=W.pos
  have n9:=W.few
  let S0:Sl:=.d (jq n ts)
  let S1:Sl:=.d (.int cap)
  walk_at "st"
  refine qp (fun ρ=>ρ=[S0,S1,.l (ts.map qw),.u,.u]) ?_ ?_
  ·walk_at "v"
   show _=_
   rfl
  rintro ρ rfl
  refine qp (fun ρ=>∃ us:List Tie,YA n us/\us.length<=cap/\Le ρ [S0,S1,.l (us.map qw),.u,.u]) ?_ ?_
  ·walk_at "nf"
   refine qAz (qLq ?_)
   walk_at "v"
   refine ⟨1,(n:Int),⟨_,_,rfl,rfl,rfl⟩,by omega,fun i ρ=>∃(us:List Tie) (s3 s4:Sl),YA n us/\us.length<=cap/\ρ=[S0,S1,.l (us.map qw),s3,s4]/\qGt [s4],⟨ts,_,_,W,tc,rfl,trivial⟩,?_,?_⟩
   rotate_left
   ·rintro ρ ⟨us,s3,s4,h1,h2,rfl,_⟩
    exact ⟨us,h1,h2,rfl,rfl,rfl,trivial⟩
   rintro i x ρ hx ⟨us,s3,s4,V,ul,rfl,ow⟩
   have hin:=(wI.mp hx).1
   rw [jJ] at hin
   rw [QN hin] at hx
   cases hx
   have p0:(1:Int)<=1+(i:Int)/\1+(i:Int)<n:=by omega
   generalize (1:Int)+(i:Int)=p at p0
   refine qm rfl ?_
   walk_at "st"
   refine qp (fun ρ=>∃ ν:Int->Int,(∀ t∈us,ν t.1=ν t.2)/\ρ=[S0,S1,.l (us.map qw),.d (.int p),.l (QI n ν)]) ?_ ?_
   ·refine qLT (i:=2) (j:=4) (xs:=us.map qw) rfl (by decide) rfl (Q4 us) ⟨⟨_,rfl,Q4 us⟩,ow⟩ ?_
    walk_at "vc"
    refine ⟨n,us,_,rfl,.inr rfl,⟨V.pos,V.few,V.len,V.ok⟩,fun ν _ al=>⟨⟨_,rfl⟩,?_⟩⟩
    walk_at "st"
    have e:QI n ν=((places n).map ν).map D.int:=by
     rw [zM]
     rfl
    exact ⟨rfl,(places n).map ν,congrArg Rs.l e,ν,al,by rw [<- e]⟩
   rintro ρ ⟨ν,al,rfl⟩
   have m1:atI (QI n ν) p=some (.int (ν p)):=qBq (qP.mpr ⟨by omega,p0.2⟩) _
   have m2:atI (QI n ν) (p - 1)=some (.int (ν (p - 1))):=qBq (qP.mpr ⟨by omega,by omega⟩) _
   have og:qGt [Sl.l (QI n ν)]:=⟨⟨_,rfl,by
    rw [show QI n ν=((places n).map ν).map D.int from by rw [zM]; rfl]
    exact Yy _⟩,trivial⟩
   refine JO (qIC ?_)
   walk_at "v"
   refine Qf (fun h1=>?_) (fun _=>?_)
   rotate_left
   ·exact qg ⟨us,_,_,V,ul,rfl,og⟩
   walk_at "v"
   rw [show (us.map qw).length=us.length from wC _]
   refine Qf (fun h2=>?_) (fun _=>?_)
   rotate_left
   ·exact qg ⟨us,_,_,V,ul,rfl,og⟩
   have lc:=of_decide_eq_true h2
   have nu:=of_decide_eq_false (Q7 h1)
   walk_at "v"
   refine qHt rfl rfl (qI (by rw [wC]; omega)) ?_
   walk_at "v"
   refine ⟨us++[(p - 1,p)],.d (.int p),.l (QI n ν),⟨⟨V.pos,V.few,by rw [wR]; show us.length+1<=20; omega,fun t ht=>?_⟩,?_⟩,by rw [wR]; show us.length+1<=cap; omega,?_,og⟩
   ·rcases zG.mp ht with z | z
    ·exact V.ok t z
    ·rw [wK.mp z]
     exact ⟨by show 0<=p - 1; omega,by show p - 1<p; omega,p0.2⟩
   ·refine yF.mpr ⟨V.nd,zI.mpr ⟨wY,yC⟩,fun x hx y hy e=>?_⟩
    rw [e,wK.mp hy] at hx
    exact nu (al _ hx).symm
   ·rw [yD]
    rfl
  rintro ρ ⟨us,V,ul,hle⟩
  refine qL4 hle ?_
  walk_at "v"
  refine Yi (nss:=us.map qG5) (.inr (congrArg (fun z=>some (D.lst z)) (QT us).symm)) (fun ns hns=>?_) (by rw [wC]; omega) fun nss' pm=>?_
  ·obtain ⟨t,_,rfl⟩:=zP.mp hns
   exact List.cons_ne_nil _ _
  ·obtain ⟨vs,rfl,p1⟩:=Yt pm
   rw [QT]
   walk_at "v"
   exact ⟨⟨_,rfl⟩,k vs ⟨⟨V.pos,V.few,by rw [p1.length_eq]; exact V.len,fun t ht=>V.ok t (p1.mem_iff.mp ht)⟩,p1.nodup_iff.mpr V.nd⟩ (by rw [p1.length_eq]; exact ul)⟩
theorem JK:qR ["pool","most","cap","web","made"] ["pool","most","cap"] (qJ (top 39)):=by walk_at "sc"
theorem qCi (F:Fun K "_law_one" "_law_one" (top 39) f fd) (T:Txt mg) (XAU:Has P w K mg base "_law_web" (top 33) ["pool","most","cap"] 3 (spV qMs)) (XAH:Has P w K mg base "_law_joined" (top 38) ["web","cap"] 2 (spV qEq)) (XAI:Has P w K mg base "_law_pieces" (top 37) ["web"] 1 (spV qIA)):QC P w K mg base CX0 4 f fd ["pool","most","cap"] (spV qMy):=by
 refine jO F JK [0,1,2] (fun as Φ h=>?_) (fun cdv A outer s H E hr=>?_)
 ·obtain ⟨q,most,cap,rfl,_⟩:=h
  rfl
 ·have hu:=hr.units
  refine ⟨_,(qC (QP 3 JK (qh XAU hr (qA (pv 0) (qA (pv 1) (qA (pv 2) qB)))))
   (qC (jY (qK (qAH hu) (jA (pv 3) qD) qD (qV _))
   (qF (qQ (qk (qA qD (qA (qk (qA (qk (qA qD (qA qD qB))) qB)) qB)))))
   qb)
   (qC (QP 4 JK (qh XAH hr (qA (pv 3) (qA (pv 2) qB))))
   (qC (jY (qK qFN (qH qGC (by rfl) T.n_len yW (qA (qU (qEv rfl) (by rfl) T.n_set PyProof.Rows.boot_set (qA (qh XAI hr (qA (pv 4) qB)) qB)) qB)) qD (qV _))
   (qF (qQ (qk (qA (jA (pv 3) qD) (qA (qU (Qj (K:=K) rfl) (by rfl) T.n_tuple zU (qA (qc rfl (own:=["k"]) (fr:=[]) (by walk_at "cs") (qz (by rfl) T.n_range (qA (qr J6 (jA (pv 3) qD) qD) qB)) (fun cl C s0 H0 fp=>⟨(jo 0),jH,(qk (qA (pv 0) (qA (qr (Y3 (K:=K) rfl) (pv 0) qD) qB)))⟩)) qB)) qB)))))
   qb)
   (qF (qQ (pv 4))))))),?_⟩
  rintro as Φ ⟨q,most,cap,rfl,m1,m9,c20,k⟩
  let S1:Sl:=.d (.int most)
  let S2:Sl:=.d (.int cap)
  walk_at "st"
  refine qp (fun ρ=>∃(q':Int×Int×Int) (n:Nat) (ts:List Tie),YA n ts/\ts.length<=cap/\ρ=[.l (jZ q'),S1,S2,.d (jq n ts),.u]) ?_ ?_
  ·walk_at "v"
   walk_at "call"
   refine ⟨q,most,cap,rfl,m1,m9,c20,fun n ts q2 W _ tl=>⟨⟨_,rfl⟩,?_⟩⟩
   walk_at "sv"
   exact ⟨q2,n,ts,W,tl,rfl⟩
  rintro ρ ⟨q1,n,ts,W,tl,rfl⟩
  have n1:=W.pos
  have n9:=W.few
  let S3:Sl:=.d (jq n ts)
  refine qp (fun ρ=>n≠1/\ρ=[.l (jZ q1),S1,S2,S3,.u]) ?_ ?_
  ·refine JO ?_
   walk_at "v"
   refine Qf (fun h1=>?_) (fun h1=>?_)
   ·walk_at "v"
    refine ⟨⟨_,rfl⟩,k 2 [(0,1)] q1 ⟨⟨by decide,by decide,by show 1<=20; decide,fun t ht=>?_⟩,zI.mpr ⟨wY,yC⟩⟩ (fun a ha=>?_) (wO _)⟩
    ·rw [wK.mp ht]
     exact ⟨gF _,by show (0:Int)<1; decide,by show (1:Int)<2; decide⟩
    ·obtain ⟨a0,a1⟩:=qP.mp ha
     have:a=0\/a=1:=by omega
     rcases this with rfl | rfl
     ·exact .refl
     ·exact .snoc .refl (.inl wF)
   ·have:=qNR h1
    exact qg ⟨by omega,rfl⟩
  rintro ρ ⟨n2,rfl⟩
  refine qp (fun ρ=>∃ us:List Tie,YA n us/\ρ=[.l (jZ q1),S1,S2,S3,.d (jq n us)]) ?_ ?_
  ·walk_at "v"
   walk_at "call"
   refine ⟨n,ts,cap,rfl,W,tl,c20,fun us V _=>⟨⟨_,rfl⟩,?_⟩⟩
   walk_at "sv"
   exact ⟨us,V,rfl⟩
  rintro ρ ⟨us,V,rfl⟩
  refine qp (fun ρ=>JJ n us/\ρ=[.l (jZ q1),S1,S2,S3,.d (jq n us)]) ?_ ?_
  ·refine JO ?_
   walk_at "vc"
   refine ⟨n,us,_,rfl,.inl rfl,⟨V.pos,V.few,V.len,V.ok⟩,fun ν L al=>⟨⟨_,rfl⟩,?_⟩⟩
   walk_at "st"
   have e:QI n ν=((places n).map ν).map D.int:=by
    rw [zM]
    rfl
   walk_at "v"
   refine ⟨(places n).map ν,⟨_,rfl,congrArg (fun z=>some (D.lst z)) e⟩,by rw [wC,places_len]; omega,?_⟩
   walk_at "v"
   have mw:=qEm n1 L al
   refine Qf (fun h1=>?_) (fun h1=>?_)
   rotate_left
   ·exact qg ⟨vP fun z=>h1 (decide_eq_true (by have:=mw.mpr z; omega)),rfl⟩
   walk_at "v"
   refine qy (fun q:Int=>D.int q) (places (n - 1)) (fun _=>true) (fun q=>qw (q,q+1)) (qDK ?_)
   walk_at "v"
   refine ⟨(n:Int) - 1,⟨_,rfl,rfl⟩,by omega,by omega,?_,qI (by rw [places_len]; omega),qM rfl,of_decide_eq_true rfl,?_,?_⟩
   ·rw [show ((n:Int) - 1).toNat=n - 1 from by omega]
    exact JN _
   ·rintro q _ os hos
    obtain ⟨z0,rfl⟩:=Jz hos
    walk_at "v"
    refine ⟨⟨[_],rfl,rfl⟩,jN ⟨rfl,rfl⟩,fun _=>?_⟩
    walk_at "v"
    exact ⟨rfl,rfl⟩
   rw [qT,show (places (n - 1)).map (fun q=>qw (q,q+1))=(qEe n).map qw from by unfold qEe; rw [zM]; rfl]
   walk_at "v"
   exact ⟨⟨_,rfl⟩,k n (qEe n) q1 (qHa n1 n9) (qED n) (by omega)⟩
  rintro ρ ⟨wh,rfl⟩
  walk_at "v"
  exact ⟨⟨_,rfl⟩,k n us q1 V wh (by omega)⟩
theorem jG:qR ["web","s","t","place","ties","marks","near_poles","one"] ["web","s","t"] (qJ (top 44)):=by walk_at "sc"
theorem qAA (F:Fun K "_law_is_cut" "_law_is_cut" (top 44) f fd) (T:Txt mg) (XAI:Has P w K mg base "_law_pieces" (top 37) ["web"] 1 (spV qIA)):QC P w K mg base CX0 2 f fd ["web","s","t"] (spV qFB):=by
 refine jO F jG [0,1,2] (fun as Φ h=>?_) (fun cdv A outer s H E hr=>?_)
 ·obtain ⟨n,ts,a,b,rfl,_⟩:=h
  rfl
 ·have hu:=hr.units
  refine ⟨_,(qC (JW vR rfl (qz (by rfl) T.n_range (qA (jA (pv 0) qD) qB)) (qEp 3 jG)
   (qC (jS (i:=4) rfl jG.nd rfl rfl (own:=["pair"]) (fr:=[("place",3)]) (by walk_at "cs") (qd (K:=K) rfl (jA (pv 0) qD)) (fun cl C s0 H0 fp=>⟨(jo 0),jg (qK (QR hu) (pv 1) (pv 0) (by with_unfolding_all rfl)),(pv 0)⟩))
    (qC (QP 5 jG (qh XAI hr (qA (qk (qA (jA (pv 0) qD) (qA (pv 4) qB))) qB)))
    (qC (jS (i:=6) rfl jG.nd rfl rfl (own:=["pole"]) (fr:=[("place",3),("marks",5)]) (by walk_at "cs") (qd (K:=K) rfl (qk (qA (pv 1) (qA (pv 2) qB)))) (fun cl C s0 H0 fp=>⟨(jo 0),jg (qK (qCN hu) (pv 0) (pv 1) (qV _)),(jA (pv 2) (pv 0))⟩))
    (qF (JW vR rfl (qz (by rfl) T.n_range (qA (jA (pv 0) qD) qB)) (qEp 7 jG)
    (qF (jY (PW.pt (qAe (qK (qCN hu) (pv 7) (pv 3) (qV _)) (Jm (qK (QR hu) (jA (pv 5) (pv 7)) (pv 6) (by with_unfolding_all rfl)))))
     (qF (qQ QG))
     qb))))))))
   (qF (qQ QG))),?_⟩
  rintro as Φ ⟨n,ts,s,t,rfl,W,hs,ht,k⟩
  have n1:=W.pos
  have n9:=W.few
  have tl:=W.len
  let S0:Sl:=.d (jq n ts)
  let S1:Sl:=.d (.int s)
  let S2:Sl:=.d (.int t)
  walk_at "st"
  refine Yb ?_
  walk_at "nf"
  refine qAz (qDK ?_)
  walk_at "v"
  refine ⟨(n:Int),⟨_,rfl,rfl⟩,by omega,by omega,fun i ρ=>Le ρ [S0,S1,S2,.u,.u,.u,.u,.u]/\∀ p:Nat,p<i->∀ q∈places n,q≠p->∃ pole∈[s,t],pole≠(p:Int)/\qi (qO (qBz ts p)) q pole,⟨⟨rfl,rfl,rfl,trivial⟩,fun p hp=>absurd hp (uN _)⟩,?_,?_⟩
  rotate_left
  ·rintro ρ ⟨hle,no⟩
   rw [jJ,zT] at no
   refine qL4 hle ?_
   walk_at "v"
   refine ⟨⟨_,rfl⟩,k false ⟨fun z=>(by cases z),fun ⟨p,hp,q,hq,ne,h⟩=>?_⟩⟩
   obtain ⟨p0,p1⟩:=qP.mp hp
   obtain ⟨j,rfl⟩:∃ j:Nat,p=(j:Int):=⟨p.toNat,by omega⟩
   obtain ⟨pole,m,pn,c⟩:=no j (by omega) q hq ne
   exact absurd c (h pole m pn)
  rintro i x ρ hx ⟨hle,no⟩
  have hin:i<n:=by
   have:=(wI.mp hx).1
   rwa [jJ,zT] at this
  rw [QN (by omega),gO] at hx
  cases hx
  refine qKg hle ?_
  refine qm rfl ?_
  walk_at "st"
  let S3:Sl:=.d (.int (i:Int))
  let us:List Tie:=qBz ts i
  have okl:∀ t∈us,okp n t:=fun t h=>W.ok t (zH.mp h).1
  have ll:us.length<=20:=zO (yL _ _) tl
  refine qp (fun ρ=>ρ=[S0,S1,S2,S3,.l (us.map qw),.u,.u,.u]) ?_ ?_
  ·refine Yn (qy qw ts (fun t=>!decide ((i:Int)∈[t.1,t.2])) qw (QL ?_))
   walk_at "v"
   refine ⟨_,_,rfl,rfl,rfl,qI (by omega),qM rfl,of_decide_eq_true rfl,?_,?_⟩
   ·rintro ⟨a,b⟩ _ os hos
    obtain ⟨z0,rfl⟩:=Jz hos
    rw [show qw (a,b)=D.tup [.int a,.int b] from rfl]
    walk_at "v"
    refine ⟨⟨[_],rfl,rfl⟩,?_,fun _=>?_⟩
    ·walk_at "v"
     refine qF7 (fs:=[a,b]) rfl rfl ?_
     exact ⟨_,rfl,rfl,rfl⟩
    ·walk_at "v"
     exact ⟨rfl,rfl⟩
   ·refine qm rfl ?_
    show _=_
    rfl
  rintro ρ rfl
  refine qBJ (i:=4) rfl ?_
  walk_at "st"
  let S4:Sl:=.d (.lst (us.map qw))
  refine qp (fun ρ=>∃ ν:Int->Int,(∀ q∈places n,∀ p∈places n,ν q=ν p↔qi (qO us) q p)/\ρ=[S0,S1,S2,S3,S4,.l (QI n ν),.u,.u]) ?_ ?_
  ·walk_at "v"
   walk_at "call"
   refine ⟨n,us,_,rfl,.inr rfl,⟨n1,n9,ll,okl⟩,fun ν L al=>⟨⟨_,rfl⟩,?_⟩⟩
   walk_at "sv"
   have LK:qE4 (qi (qO us)):=qE4.of us
   exact ⟨ν,fun q _ p _=>⟨fun e=>LK.trans _ _ _ (L q) (e ▸ LK.symm _ _ (L p)),fun c=>qBH al c⟩,rfl⟩
  rintro ρ ⟨ν,al,rfl⟩
  have mk:∀ q∈places n,atI (QI n ν) q=some (.int (ν q)):=fun q hq=>qBq hq _
  let N:List Int:=([s,t].filter fun p=>!decide (p=(i:Int))).map ν
  refine qp (fun ρ=>ρ=[S0,S1,S2,S3,S4,.l (QI n ν),.l (qE N),.u]) ?_ ?_
  ·refine Yn (qy (fun q:Int=>D.int q) [s,t] (fun p=>!decide (p=(i:Int))) (fun p=>D.int (ν p)) (QL ?_))
   walk_at "v"
   refine ⟨_,_,rfl,rfl,rfl,qI (show 2<=1000 by decide),qM rfl,of_decide_eq_true rfl,?_,?_⟩
   ·rintro p hp os hos
    obtain ⟨z0,rfl⟩:=Jz hos
    have mp:=mk p (by
     rcases wM.mp hp with e | e
     ·rw [e]; exact hs
     ·rw [wK.mp e]; exact ht)
    walk_at "v"
    refine ⟨⟨[_],rfl,rfl⟩,?_,fun _=>?_⟩
    ·walk_at "v"
     exact ⟨rfl,rfl⟩
    ·walk_at "v"
     exact ⟨rfl,rfl⟩
   ·refine qm rfl ?_
    show _=_
    show [S0,S1,S2,S3,S4,Sl.l (QI n ν),Sl.l (([s,t].filter fun p=>!decide (p=(i:Int))).map fun p=>D.int (ν p)),Sl.u]=_
    rw [show qE N=([s,t].filter fun p=>!decide (p=(i:Int))).map fun p=>D.int (ν p) from by show ((List.filter _ _).map ν).map D.int=_; rw [zM]; rfl]
  rintro ρ rfl
  have inN:∀ q∈places n,ν q∈N↔∃ pole∈[s,t],pole≠(i:Int)/\qi (qO us) q pole:=fun q hq=>by
   show ν q∈([s,t].filter fun p=>!decide (p=(i:Int))).map ν↔_
   rw [zP]
   have pp:∀ p∈[s,t],p∈places n:=fun p hp=>by
    rcases wM.mp hp with e | e
    ·rw [e]; exact hs
    ·rw [wK.mp e]; exact ht
   constructor
   ·rintro ⟨p,hp,e⟩
    obtain ⟨h1,h2⟩:=zH.mp hp
    rw [vM,decide_eq_false_iff_not] at h2
    exact ⟨p,h1,h2,(al q hq p (pp p h1)).mp e.symm⟩
   ·rintro ⟨p,h1,h2,c⟩
    exact ⟨p,zH.mpr ⟨h1,by rw [vM,decide_eq_false_iff_not]; exact h2⟩,((al q hq p (pp p h1)).mpr c).symm⟩
  walk_at "nf"
  refine qAz (qDK ?_)
  walk_at "v"
  refine ⟨(n:Int),⟨_,rfl,rfl⟩,by omega,by omega,fun j ρ=>(∀ q:Nat,q<j->(q:Int)≠i->ν q∈N)/\∃ s7:Sl,ρ=[S0,S1,S2,S3,S4,.l (QI n ν),.l (qE N),s7],⟨fun q hq=>absurd hq (uN _),_,rfl⟩,?_,?_⟩
  rotate_left
  ·rintro ρ ⟨all,s7,rfl⟩
   rw [jJ,zT] at all
   refine ⟨⟨rfl,rfl,rfl,trivial⟩,fun p hp q hq ne=>?_⟩
   by_cases c:p<i
   ·exact no p c q hq ne
   ·have e:p=i:=by omega
    subst e
    obtain ⟨q0,q1⟩:=qP.mp hq
    obtain ⟨j,rfl⟩:∃ j:Nat,q=(j:Int):=⟨q.toNat,by omega⟩
    exact (inN _ hq).mp (all j (by omega) ne)
  rintro j x ρ hx ⟨all,s7,rfl⟩
  have hjn:j<n:=by
   have:=(wI.mp hx).1
   rwa [jJ,zT] at this
  rw [QN (by omega),gO] at hx
  cases hx
  have hj:(j:Int)∈places n:=qP.mpr ⟨by omega,by omega⟩
  have mj:=mk _ hj
  refine qm rfl ?_
  walk_at "st"
  refine JO (qIC ?_)
  walk_at "v"
  refine Qf (fun h1=>?_) (fun h1=>?_)
  rotate_left
  ·refine qg ⟨fun q hq ne=>?_,_,rfl⟩
   by_cases c:q<j
   ·exact all q c ne
   ·have e:q=j:=by omega
    subst e
    exact absurd (of_decide_eq_true (jL h1)) ne
  walk_at "v"
  have ne:(j:Int)≠i:=of_decide_eq_false (Q7 h1)
  refine Qf (fun h2=>?_) (fun h2=>?_)
  ·walk_at "v"
   have nin:ν j∉N:=of_decide_eq_false (Q7 h2)
   exact ⟨⟨_,rfl⟩,k true ⟨fun _=>⟨i,qP.mpr ⟨by omega,by omega⟩,j,hj,ne,fun pole m pn c=>nin ((inN _ hj).mpr ⟨pole,m,pn,c⟩)⟩,fun _=>rfl⟩⟩
  ·have inn:ν j∈N:=of_decide_eq_true (jL h2)
   refine qg ⟨fun q hq nq=>?_,_,rfl⟩
   by_cases c:q<j
   ·exact all q c nq
   ·have e:q=j:=by omega
    rw [e]
    exact inn
theorem je:qR ["web","s","t","order","at","some"] ["web","s","t","order"] (qJ (top 41)):=by walk_at "sc"
theorem JZ (F:Fun K "_law_order_good" "_law_order_good" (top 41) f fd) (T:Txt mg) (XAP:Has P w K mg base "_law_near" (top 36) ["web","place"] 1 (spV qGv)):QC P w K mg base CX0 2 f fd ["web","s","t","order"] (spV qDQ):=by
 refine jO F je [0,1,2,3] (fun as Φ h=>?_) (fun cdv A outer s H E hr=>?_)
 ·obtain ⟨n,ts,a,b,o,rfl,_⟩:=h
  rfl
 ·have hu:=hr.units
  refine ⟨_,(qC (jY (PW.pt (Q2 (qK (qCN hu) (qH J9 (by rfl) T.n_sorted xR (qA (pv 3) qB)) (qU (QM rfl) (by rfl) T.n_list uD (qA (qU jh (by rfl) T.n_range xY (qA (jA (pv 0) qD) qB)) qB)) (qV _)) (Q2 (qK (qCN hu) (jA (pv 3) qD) (pv 1) (qV _)) (Qh (qK (qCN hu) (jA (pv 3) (qBd J5 qD)) (pv 2) (qV _))))))
   (qF (qQ QG))
   qb)
   (qC (JW vR rfl (JS (by rfl) T.n_range (qA qD (qA (qr J6 (qH (qBY (K:=K) rfl) (by rfl) T.n_len yW (qA (pv 3) qB)) qD) qB))) (qEp 4 je)
   (qC (QP 5 je (qh XAP hr (qA (pv 0) (qA (jA (pv 3) (pv 4)) qB))))
    (qF (jY (PW.pt (Q2 (QX (qq (K:=K) rfl (qH (QU rfl) (by rfl) T.n_any uL (qA (qc rfl (own:=["other"]) (fr:=[("order",3),("at",4)]) (by walk_at "cs") (qd (K:=K) rfl (pv 5)) (fun cl C s0 H0 fp=>⟨(jo 0),jH,(jU (qCY hu) (pv 0) (Qb (qJQ (K:=K) rfl) (pv 1) Jl (Qt (pv 2))) (by with_unfolding_all rfl))⟩)) qB)) (fun _=>rfl))) (Qh (QX (qq (K:=K) rfl (qH (QU rfl) (by rfl) T.n_any uL (qA (qc rfl (own:=["other"]) (fr:=[("order",3),("at",4)]) (by walk_at "cs") (qd (K:=K) rfl (pv 5)) (fun cl C s0 H0 fp=>⟨(jo 0),jH,(jU (qCY hu) (pv 0) (Qb (qJQ (K:=K) rfl) (pv 1) (Qt (pv 2)) Jl) (by with_unfolding_all rfl))⟩)) qB)) (fun _=>rfl))))))
    (qF (qQ QG))
    qb))))
   (qF (qQ QG)))),?_⟩
  rintro as Φ ⟨n,ts,s,t,o,rfl,W,ol,k⟩
  have n1:=W.pos
  have n9:=W.few
  have tl:=W.len
  let S0:Sl:=.d (jq n ts)
  let S1:Sl:=.d (.int s)
  let S2:Sl:=.d (.int t)
  let S3:Sl:=.d (.tup (qE o))
  unfold qGe at k
  walk_at "st"
  refine qp (fun ρ=>(o.isPerm (places n) && (decide (o.getD 0 0=s) && decide (o.getLastD 0=t)))=true/\ρ=[S0,S1,S2,S3,.u,.u]) ?_ ?_
  ·refine JO (Y8 ?_)
   walk_at "v"
   refine qBt (ns:=o) (.inl rfl) (by omega) fun ns' pm so=>?_
   walk_at "v"
   refine ⟨(n:Int),⟨_,rfl,rfl⟩,by omega,by omega,?_⟩
   rw [zT,show (wV n).map (fun k:Nat=>D.int k)=(places n).map D.int from by unfold places; rw [zM]; rfl]
   refine OpV.r (qHd rfl rfl (jT _) ?_ (hd2:=jT _))
   rw [if_pos rfl,show QY (ns'.map D.int) ((places n).map D.int)=decide (ns'=places n) from YJ Y2 ns' (places n)]
   refine ⟨_,rfl,?_⟩
   refine Qf (fun h2=>?_) (fun h2=>?_)
   ·rw [if_pos rfl]
    walk_at "v"
    have e:o.isPerm (places n)=false:=by
     cases e:o.isPerm (places n) with
     | false=>rfl
     | true=>exact absurd (Yv pm so e) (of_decide_eq_false (jR h2))
    rw [e,yV] at k
    exact ⟨⟨_,rfl⟩,k⟩
   have en:ns'=places n:=of_decide_eq_true (jL h2)
   have ip:o.isPerm (places n)=true:=xZ.mpr (en ▸ pm.symm)
   have on:o.length=n:=by rw [(xZ.mp ip).length_eq,places_len]
   have one:o≠[]:=fun z=>by
    rw [z] at on
    have:0=n:=on
    omega
   have at0:atI (qE o) 0=some (.int (o.getD 0 0)):=at_getD (ns:=o) (a:=0) (gF _) (by omega)
   have at1:=qIc one
   rw [ip,wZ] at k
   rw [ip,wZ]
   refine Y8 ?_
   walk_at "v"
   refine Qf (fun h3=>?_) (fun h3=>?_)
   ·rw [if_pos rfl]
    walk_at "v"
    rw [jR h3,yV] at k
    exact ⟨⟨_,rfl⟩,k⟩
   have h3':=jL h3
   rw [h3',wZ] at k
   rw [h3',wZ]
   walk_at "v"
   refine Qf (fun h4=>?_) (fun h4=>?_)
   ·walk_at "v"
    rw [jR h4,yV] at k
    exact ⟨⟨_,rfl⟩,k⟩
   exact qg ⟨jL h4,rfl⟩
  rintro ρ ⟨h2,rfl⟩
  rw [zX,zX] at h2
  rw [h2.1,h2.2.1,h2.2.2,wZ,wZ,wZ] at k
  have on:o.length=n:=by rw [(xZ.mp h2.1).length_eq,places_len]
  have el:(qE o).length=o.length:=wC _
  refine Yb ?_
  walk_at "nf"
  refine qAz (qLq ?_)
  walk_at "v"
  refine ⟨1,((qE o).length:Int) - 1,⟨_,_,rfl,rfl,rfl⟩,by rw [el]; omega,fun j ρ=>((wV j).all fun i=>qCB ts o (i+1))=true/\∃ s4 s5:Sl,ρ=[S0,S1,S2,S3,s4,s5],⟨rfl,_,_,rfl⟩,?_,?_⟩
  rotate_left
  ·rintro ρ ⟨all,s4,s5,rfl⟩
   rw [jJ,el,on,show ((n:Int) - 1 - 1).toNat=n - 2 from by omega] at all
   rw [all] at k
   walk_at "v"
   exact ⟨⟨_,rfl⟩,k⟩
  rintro j x ρ hx ⟨all,s4,s5,rfl⟩
  have hj:=(wI.mp hx).1
  rw [jJ,el,on] at hj
  rw [QN (by rw [el,on]; exact hj)] at hx
  cases hx
  rw [show (1:Int)+(j:Int)=((j+1:Nat):Int) from by omega]
  have hat:atI (qE o) ((j+1:Nat):Int)=some (.int (o.getD (j+1) 0)):=by
   have:=at_getD (ns:=o) (a:=((j+1:Nat):Int)) (by omega) (by omega)
   rwa [zT] at this
  refine qm rfl ?_
  walk_at "st"
  let S4:Sl:=.d (.int ((j+1:Nat):Int))
  refine qp (fun ρ=>ρ=[S0,S1,S2,S3,S4,.l (qE (j3 ts (o.getD (j+1) 0)))]) ?_ ?_
  ·walk_at "v"
   walk_at "call"
   refine ⟨n,ts,o.getD (j+1) 0,rfl,tl,⟨⟨_,rfl⟩,?_⟩⟩
   walk_at "sv"
   rfl
  rintro ρ rfl
  have lb:qCB ts o (j+1)=(((j3 ts (o.getD (j+1) 0)).any fun p=>decide (p∈o.take (j+1))) && ((j3 ts (o.getD (j+1) 0)).any fun p=>decide (p∈o.drop (j+1)))):=rfl
  have nl:(j3 ts (o.getD (j+1) 0)).length<=20:=by
   unfold j3
   rw [wC]
   exact zO (yL _ _) tl
  have bad:qCB ts o (j+1)=false->((wV (n - 2)).all fun i=>qCB ts o (i+1))=false:=fun e=>by
   cases z:(wV (n - 2)).all fun i=>qCB ts o (i+1) with
   | false=>rfl
   | true=>
    have:=vT.mp z j (zY.mpr (by omega))
    rw [e] at this
    cases this
  generalize j3 ts (o.getD (j+1) 0)=Q at lb nl
  ·refine JO (Y8 ?_)
   walk_at "v"
   refine JH (fun q:Int=>D.int q) Q (fun _=>true) (fun q=>D.bl (decide (q∈o.take (j+1)))) rfl rfl (qI (by omega)) (qM rfl) (of_decide_eq_true rfl) ?_ ?_
   ·rintro q _ os hos
    obtain ⟨z0,rfl⟩:=Jz hos
    walk_at "v"
    refine ⟨⟨[_],rfl,rfl⟩,jN ⟨rfl,rfl⟩,fun _=>?_⟩
    walk_at "v"
    refine SlV.r (qLA rfl ?_)
    rw [qDG o (by omega)]
    walk_at "v"
    exact ⟨rfl,rfl⟩
   rw [qT,show Q.map (fun q=>D.bl (decide (q∈o.take (j+1))))=(Q.map fun q=>decide (q∈o.take (j+1))).map D.bl from by rw [zM]; rfl]
   walk_at "v"
   refine qAa rfl ?_
   rw [show (Q.map fun q=>decide (q∈o.take (j+1))).any id=Q.any fun q=>decide (q∈o.take (j+1)) from by rw [gI]; rfl]
   walk_at "v"
   refine Qf (fun h3=>?_) (fun h3=>?_)
   ·rw [if_pos rfl]
    walk_at "v"
    rw [bad (by rw [lb,jR h3,yV])] at k
    exact ⟨⟨_,rfl⟩,k⟩
   rw [jL h3,wZ] at lb
   walk_at "v"
   refine JH (fun q:Int=>D.int q) Q (fun _=>true) (fun q=>D.bl (decide (q∈o.drop (j+1)))) rfl rfl (qI (by omega)) (qM rfl) (of_decide_eq_true rfl) ?_ ?_
   ·rintro q _ os hos
    obtain ⟨z0,rfl⟩:=Jz hos
    walk_at "v"
    refine ⟨⟨[_],rfl,rfl⟩,jN ⟨rfl,rfl⟩,fun _=>?_⟩
    walk_at "v"
    refine SlV.r (qLA rfl ?_)
    rw [qAn o (j+1)]
    walk_at "v"
    exact ⟨rfl,rfl⟩
   rw [qT,show Q.map (fun q=>D.bl (decide (q∈o.drop (j+1))))=(Q.map fun q=>decide (q∈o.drop (j+1))).map D.bl from by rw [zM]; rfl]
   walk_at "v"
   refine qAa rfl ?_
   rw [show (Q.map fun q=>decide (q∈o.drop (j+1))).any id=Q.any fun q=>decide (q∈o.drop (j+1)) from by rw [gI]; rfl]
   walk_at "v"
   refine Qf (fun h4=>?_) (fun h4=>?_)
   ·walk_at "v"
    rw [bad (by rw [lb,jR h4])] at k
    exact ⟨⟨_,rfl⟩,k⟩
   rw [jL h4] at lb
   refine qg ⟨?_,_,_,rfl⟩
   rw [List.range_succ,List.all_append,all,wZ]
   show (qCB ts o (j+1) && true)=true
   rw [lb]
   rfl
theorem Qi:qR ["web","s","t","place","part","one"] ["web","s","t","place","part"] (qJ (top 42)):=by walk_at "sc"
theorem YE (F:Fun K "_law_cut_good" "_law_cut_good" (top 42) f fd) (T:Txt mg) (XAP:Has P w K mg base "_law_near" (top 36) ["web","place"] 1 (spV qGv)):QC P w K mg base CX0 2 f fd ["web","s","t","place","part"] (spV qDY):=by
 refine jO F Qi [0,1,2,3,4] (fun as Φ h=>?_) (fun cdv A outer s H E hr=>?_)
 ·obtain ⟨n,ts,a,b,p,Q,rfl,_⟩:=h
  rfl
 ·have hu:=hr.units
  refine ⟨_,(qC (jY (PW.pt (Q2 (qK (qAH hu) (pv 4) (qk qB) (qV _)) (Q2 (qK qCA (pv 3) (qU jh (by rfl) T.n_range xY (qA (jA (pv 0) qD) qB)) (by with_unfolding_all rfl)) (Qh (qK (qCN hu) (qU (qLB (K:=K) rfl) (by rfl) T.n_list uD (qA (pv 4) qB)) (qCk rfl (by rfl) T.n_sorted (by rfl) T.n_set (qA (pv 4) qB)) (qV _))))))
   (qF (qQ QG))
   qb)
   (qC (JW vR rfl (qd (K:=K) rfl (pv 4)) (qEp 5 Qi)
   (qC (jY (PW.pt (Q2 (qK qCA (pv 5) (qU jh (by rfl) T.n_range xY (qA (jA (pv 0) qD) qB)) (by with_unfolding_all rfl)) (Qh (qK (qCY hu) (pv 5) (qk (qA (pv 1) (qA (pv 2) (qA (pv 3) qB)))) (by with_unfolding_all rfl)))))
    (qF (qQ QG))
    qb)
    (qF (jY (QX (qq (K:=K) rfl (qH (QH rfl) (by rfl) T.n_all xK (qA (qc rfl (own:=["other"]) (fr:=[("place",3),("part",4)]) (by walk_at "cs") (qd (K:=K) rfl (qh XAP hr (qA (pv 0) (qA (pv 5) qB)))) (fun cl C s0 H0 fp=>⟨(jo 0),jH,(qKJ (jU (qAH hu) (pv 0) (pv 1) (qV _)) (YR (jU (qCY hu) (pv 0) (pv 2) (by with_unfolding_all rfl))))⟩)) qB)) (fun _=>rfl)))
    (qF (qQ QG))
    qb))))
   (qF (qQ QG)))),?_⟩
  rintro as Φ ⟨n,ts,s,t,p,Q,rfl,W,ql,k⟩
  have n1:=W.pos
  have n9:=W.few
  have tl:=W.len
  let S0:Sl:=.d (jq n ts)
  let S1:Sl:=.d (.int s)
  let S2:Sl:=.d (.int t)
  let S3:Sl:=.d (.int p)
  let S4:Sl:=.d (.tup (qE Q))
  unfold qFj at k
  walk_at "st"
  refine qp (fun ρ=>(!Q.isEmpty && (inB n p && upB Q))=true/\ρ=[S0,S1,S2,S3,S4,.u]) ?_ ?_
  ·refine JO (Y8 ?_)
   walk_at "v"
   refine OpV.r (qK5 rfl rfl (jT _) ?_)
   refine ⟨_,rfl,?_⟩
   refine Qf (fun h1=>?_) (fun h1=>?_)
   ·rw [if_pos rfl]
    walk_at "v"
    cases Q with
    | nil=>exact ⟨⟨_,rfl⟩,k⟩
    | cons a r=>cases h1
   have qe:Q.isEmpty=false:=by
    cases Q with
    | nil=>exact absurd rfl h1
    | cons a r=>rfl
   rw [qe,kU,wZ] at k
   rw [qe,kU,wZ]
   refine Y8 ?_
   walk_at "v"
   refine ⟨(n:Int),⟨_,rfl,rfl⟩,_,rfl,?_⟩
   refine Qf (fun h2=>?_) (fun h2=>?_)
   ·rw [if_pos rfl]
    walk_at "v"
    rw [show inB n p=false from Q7 h2,yV] at k
    exact ⟨⟨_,rfl⟩,k⟩
   have ip:inB n p=true:=jL h2
   rw [ip,wZ] at k
   rw [ip,wZ]
   walk_at "v"
   refine qEa ?_
   walk_at "v"
   refine ⟨Q,⟨_,rfl,rfl⟩,by omega,fun ns nd me so=>?_⟩
   refine OpV.r (qHd rfl rfl (jT _) ?_ (hd2:=jT _))
   rw [if_pos rfl,show QY (qE Q) (ns.map D.int)=decide (Q=ns) from YJ Y2 Q ns]
   refine ⟨_,rfl,?_⟩
   refine Qf (fun h3=>?_) (fun h3=>?_)
   ·walk_at "v"
    have e:upB Q=false:=by
     cases z:upB Q with
     | false=>rfl
     | true=>exact absurd (Jc (qDo.mp z) (qFA so nd) fun x=>(me x).symm) (of_decide_eq_false (jR h3))
    rw [e,yV] at k
    exact ⟨⟨_,rfl⟩,k⟩
   have e:Q=ns:=of_decide_eq_true (jL h3)
   exact qg ⟨qDo.mpr (e ▸ qFA so nd),rfl⟩
  rintro ρ ⟨h1,rfl⟩
  rw [zX,zX] at h1
  rw [h1.1,h1.2.1,h1.2.2,wZ,wZ,wZ] at k
  generalize hf:(fun x=>inB n x && (!decide (x∈[s,t,p]) && (j3 ts x).all fun y=>decide (y=p) || decide (y∈Q)))=fx at k
  refine Yb ?_
  walk_at "nf"
  refine qAz (QL ?_)
  walk_at "v"
  refine ⟨_,_,rfl,rfl,fun j ρ=>(Q.take j).all fx=true/\∃ s5:Sl,ρ=[S0,S1,S2,S3,S4,s5],⟨rfl,_,rfl⟩,?_,?_⟩
  rotate_left
  ·rintro ρ ⟨all,s5,rfl⟩
   rw [show (qE Q).length=Q.length from wC _,xO] at all
   rw [all] at k
   walk_at "v"
   exact ⟨⟨_,rfl⟩,k⟩
  rintro j x ρ hx ⟨all,s5,rfl⟩
  unfold qE at hx
  rw [wL] at hx
  obtain ⟨z,hz,rfl⟩:=gN.mp hx
  have bad:fx z=false->Q.all fx=false:=fun e=>by
   cases y:Q.all fx with
   | false=>rfl
   | true=>
    have:=vT.mp y z (vN hz)
    rw [e] at this
    cases this
  have ef:fx z=(inB n z && (!decide (z∈[s,t,p]) && (j3 ts z).all fun y=>decide (y=p) || decide (y∈Q))):=by rw [<- hf]
  have nl:(j3 ts z).length<=20:=by
   unfold j3
   rw [wC]
   exact zO (yL _ _) tl
  refine qm rfl ?_
  walk_at "st"
  refine qp (fun ρ=>(inB n z && !decide (z∈[s,t,p]))=true/\ρ=[S0,S1,S2,S3,S4,.d (.int z)]) ?_ ?_
  ·refine JO (Y8 ?_)
   walk_at "v"
   refine ⟨(n:Int),⟨_,rfl,rfl⟩,_,rfl,?_⟩
   refine Qf (fun h2=>?_) (fun h2=>?_)
   ·rw [if_pos rfl]
    walk_at "v"
    rw [bad (by rw [ef,show inB n z=false from Q7 h2,yV])] at k
    exact ⟨⟨_,rfl⟩,k⟩
   have iz:inB n z=true:=jL h2
   rw [iz,wZ]
   walk_at "v"
   refine qDk (fs:=[s,t,p]) rfl rfl ?_
   refine ⟨_,rfl,?_⟩
   refine Qf (fun h3=>?_) (fun h3=>?_)
   ·walk_at "v"
    rw [bad (by rw [ef,h3,Bool.not_true,yV,UK])] at k
    exact ⟨⟨_,rfl⟩,k⟩
   exact qg ⟨by rw [qB4 h3]; rfl,rfl⟩
  rintro ρ ⟨h2,rfl⟩
  rw [zX] at h2
  rw [h2.1,h2.2,wZ,wZ] at ef
  refine JO ?_
  walk_at "v"
  refine qy (fun y:Int=>D.int y) (j3 ts z) (fun _=>true) (fun y=>D.bl (decide (y=p) || decide (y∈Q))) (QL ?_)
  walk_at "vc"
  refine ⟨n,ts,z,rfl,tl,⟨⟨_,rfl⟩,?_⟩⟩
  refine ⟨_,_,rfl,rfl,rfl,qI (by omega),qM rfl,of_decide_eq_true rfl,?_,?_⟩
  ·rintro y _ os hos
   obtain ⟨z0,rfl⟩:=Jz hos
   walk_at "v"
   refine ⟨⟨[_],rfl,rfl⟩,jN ⟨rfl,rfl⟩,fun _=>?_⟩
   refine qJY (b:=decide (y=p)) (c:=decide (y∈Q)) ?_ (fun _=>?_) ⟨rfl,rfl⟩
   ·walk_at "v"
    exact ⟨rfl,rfl⟩
   ·walk_at "v"
    exact ⟨rfl,rfl⟩
  rw [qT,show (j3 ts z).map (fun y=>D.bl (decide (y=p) || decide (y∈Q)))=((j3 ts z).map fun y=>decide (y=p) || decide (y∈Q)).map D.bl from by rw [zM]; rfl]
  walk_at "v"
  refine qDA rfl ?_
  rw [show ((j3 ts z).map fun y=>decide (y=p) || decide (y∈Q)).all id=(j3 ts z).all fun y=>decide (y=p) || decide (y∈Q) from by rw [gH]; rfl]
  rw [<- ef]
  walk_at "v"
  refine Qf (fun h3=>?_) (fun h3=>?_)
  ·walk_at "v"
   rw [bad (Q7 h3)] at k
   exact ⟨⟨_,rfl⟩,k⟩
  refine qg ⟨?_,_,rfl⟩
  rw [kQ,hz,List.all_append,all,wZ]
  show (fx z && true)=true
  rw [jL h3]
  rfl
theorem qCj:qR ["web","s","t","told"] ["web","s","t","told"] (qJ (top 43)):=by walk_at "sc"
theorem qCq (F:Fun K "_law_due" "_law_due" (top 43) f fd) (T:Txt mg) (XAA:Has P w K mg base "_law_order_good" (top 41) ["web","s","t","order"] 2 (spV qDQ)) (XAB:Has P w K mg base "_law_cut_good" (top 42) ["web","s","t","place","part"] 2 (spV qDY)):QC P w K mg base CX0 3 f fd ["web","s","t","told"] (spV qLF):=by
 refine jO F qCj [0,1,2,3] (fun as Φ h=>?_) (fun cdv A outer s H E hr=>?_)
 ·obtain ⟨n,ts,a,b,x,rfl,_⟩:=h
  rfl
 ·have hu:=hr.units
  refine ⟨_,(qC (jY (qK (qAH hu) (jA (pv 3) qD) JA (qV _))
   (qF (qQ (qh XAA hr (qA (pv 0) (qA (pv 1) (qA (pv 2) (qA (jA (pv 3) qD) qB)))))))
   qb)
   (qF (qQ (qh XAB hr (qA (pv 0) (qA (pv 1) (qA (pv 2) (qA (jA (pv 3) qD) (qA (jA (pv 3) qD) qB))))))))),?_⟩
  rintro as Φ ⟨n,ts,s,t,x,rfl,W,sm,k⟩
  cases x with
  | order o=>
   walk_at "st"
   refine JO ?_
   walk_at "v"
   refine OpV.l (qBC rfl rfl rfl rfl rfl ?_)
   rw [decide_eq_true rfl]
   refine ⟨_,rfl,?_⟩
   rw [if_pos rfl]
   refine qCE ?_
   refine jf ?_
   walk_at "v"
   refine ⟨of_decide_eq_true rfl,?_⟩
   walk_at "st"
   exact ⟨n,ts,s,t,o,rfl,W,sm,⟨⟨_,rfl⟩,⟨_,rfl⟩,k⟩⟩
  | cut p Q=>
   walk_at "st"
   refine qp (fun ρ=>ρ=[.d (jq n ts),.d (.int s),.d (.int t),.d (qC4 (.cut p Q))]) ?_ ?_
   ·refine JO ?_
    walk_at "v"
    refine OpV.l (qBC rfl rfl rfl rfl rfl ?_)
    refine ⟨_,rfl,?_⟩
    refine Qf (fun z=>absurd (of_decide_eq_true z) (by intro y; cases y)) (fun _=>?_)
    exact qg rfl
   rintro ρ rfl
   refine qCE ?_
   refine jf ?_
   walk_at "v"
   refine ⟨of_decide_eq_true rfl,?_⟩
   walk_at "st"
   exact ⟨n,ts,s,t,p,Q,rfl,W,sm,⟨⟨_,rfl⟩,⟨_,rfl⟩,k⟩⟩
def arr (t:Tie) (b:Int):Tie:=if b=1 then t else (t.2,t.1)
def QK:List Tie->List Int->List Tie
 | t::ts,b::bs=>arr t b::QK ts bs
 | _,_=>[]
theorem qDU:∀(ts:List Tie) (bs:List Int),QK ts bs=(ts.zip bs).map fun p=>arr p.1 p.2
 | [],_=>rfl
 | _::_,[]=>rfl
 | t::ts,b::bs=>by
  show arr t b::QK ts bs=_
  rw [qDU ts bs]
  rfl
def qCv:PV:=fun as Φ=>∃(n:Nat) (ts:List Tie) (bs:List Int),as=[.d (jq n ts),.d (.tup (qE bs))]/\ts.length<=20/\Φ (.l ((QK ts bs).map qw)) as
theorem JG:∀{ts:List Tie} {bs:List Int},bs.length=ts.length->(QK ts bs).length=ts.length
 | [],bs,_=>by cases bs <;> rfl
 | t::ts,[],h=>by cases h
 | t::ts,b::bs,h=>by
  have h':bs.length=ts.length:=by simpa using h
  show (QK ts bs).length+1=ts.length+1
  rw [JG h']
theorem qGy:qR ["web","pointing"] ["web","pointing"] (qJ (top 13)):=by walk_at "sc"
theorem qGb (F:Fun K "arrows" "arrows" (top 13) f fd) (T:Txt mg):QC P w K mg base CX0 1 f fd ["web","pointing"] (spV qCv):=by
 refine jO F qGy [0,1] (fun as Φ h=>?_) (fun cdv A outer s H E hr=>?_)
 ·obtain ⟨n,ts,bs,rfl,_⟩:=h
  rfl
 ·have hu:=hr.units
  refine ⟨_,(qF (qQ (qc rfl (own:=["number","a","b"]) (fr:=[]) (by walk_at "cs") (qGi (by rfl) T.n_zip (qA (jA (pv 0) qD) (qA (pv 1) qB))) (fun cl C s0 H0 fp=>⟨(jc (K:=K) (n:=2) rfl rfl (qW (jc (K:=K) (n:=2) rfl rfl (qW (jo 1) (qW (jo 2) jd))) (qW (jo 0) jd))),jH,(qBO (qK (qAH hu) (pv 0) qD (qV _)) (qk (qA (pv 1) (qA (pv 2) qB))) (qk (qA (pv 2) (qA (pv 1) qB))))⟩)))),?_⟩
  rintro as Φ ⟨n,ts,bs,rfl,hts,k⟩
  walk_at "sv"
  refine qy (fun p:Tie×Int=>.tup [qw p.1,.int p.2]) (ts.zip bs) (fun _=>true) (fun p=>qw (arr p.1 p.2)) ?_
  refine qLQ ?_
  walk_at "v"
  refine ⟨_,_,⟨_,_,rfl,rfl,rfl⟩,qDl _ _ _ _,?_,(by intro p hp; cases hp),by decide,?_,?_⟩
  ·rw [List.length_zip]
   exact qI (by omega)
  ·rintro ⟨t,b⟩ ht os hos
   obtain ⟨s0,s1,s2,rfl⟩:=qNY hos
   walk_at "v"
   refine ⟨⟨[_,_,_],rfl,rfl⟩,jN ⟨rfl,rfl⟩,fun _=>?_⟩
   refine qMc ?_
   walk_at "v"
   refine Qf (fun hc=>?_) (fun hc=>?_)
   ·walk_at "v"
    refine ⟨?_,rfl⟩
    unfold arr
    rw [if_pos (of_decide_eq_true hc)]
    rfl
   ·walk_at "v"
    refine ⟨?_,rfl⟩
    unfold arr
    rw [if_neg (fun z=>hc (decide_eq_true z))]
    rfl
  ·refine ⟨⟨_,rfl⟩,?_⟩
   have e:((ts.zip bs).filter fun _=>true).map (fun p=>qw (arr p.1 p.2))=(QK ts bs).map qw:=by
    rw [qT,qDU,zM]
    rfl
   rw [e]
   exact k
def Jx (ts:List Tie) (o:List Int):List Int:=ts.map fun t=>if o.idxOf t.1<o.idxOf t.2 then 1 else 0
theorem qCL (ts:List Tie) (o:List Int):(Jx ts o).length=ts.length:=wC _
def qDh:PV:=fun as Φ=>∃(n:Nat) (ts:List Tie) (o:List Int),as=[.d (jq n ts),.d (.tup (qE o))]/\ts.length<=20/\(∀ t∈ts,t.1∈o/\t.2∈o)/\Φ (.d (.tup (qE (Jx ts o)))) as
theorem qER:qR ["web","order"] ["web","order"] (qJ (top 14)):=by walk_at "sc"
theorem qEg (F:Fun K "ordered" "ordered" (top 14) f fd) (T:Txt mg):QC P w K mg base CX0 1 f fd ["web","order"] (spV qDh):=by
 refine jO F qER [0,1] (fun as Φ h=>?_) (fun cdv A outer s H E hr=>?_)
 ·obtain ⟨n,ts,o,rfl,_⟩:=h
  rfl
 ·have hu:=hr.units
  refine ⟨_,(qF (qQ (qU (Qj (K:=K) rfl) (by rfl) T.n_tuple zU (qA (qc rfl (own:=["a","b"]) (fr:=[("order",1)]) (by walk_at "cs") (qd (K:=K) rfl (jA (pv 0) qD)) (fun cl C s0 H0 fp=>⟨(jc (K:=K) (n:=2) rfl rfl (qW (jo 0) (qW (jo 1) jd))),jH,(qBO (qK qAB (qFp (K:=K) rfl vL ZL ZM (Y1 hu) ZC ZE ZF (Ya hu) (pv 2) (qA (pv 0) qB)) (qFp (K:=K) rfl vL ZL ZM (Y1 hu) ZC ZE ZF (Ya hu) (pv 2) (qA (pv 1) qB)) (qV _)) qD qD)⟩)) qB)))),?_⟩
  rintro as Φ ⟨n,ts,o,rfl,W2,O,k⟩
  walk_at "sv"
  refine qy qw ts (fun _=>true) (fun t=>.int (if o.idxOf t.1<o.idxOf t.2 then 1 else 0)) (QL ?_)
  walk_at "v"
  refine ⟨_,_,rfl,rfl,rfl,qI (by omega),qM rfl,of_decide_eq_true rfl,?_,?_⟩
  ·rintro ⟨a,b⟩ ht os hos
   obtain ⟨s0,s1,rfl⟩:=qFn hos
   obtain ⟨ka,kb⟩:=O _ ht
   walk_at "v"
   refine ⟨⟨[_,_],rfl,rfl⟩,jN ⟨rfl,rfl⟩,fun _=>?_⟩
   refine qMc (qFv ?_)
   walk_at "v"
   refine qJW ?_
   walk_at "v"
   refine .inr ⟨_,rfl,?_⟩
   walk_at "v"
   refine qDv rfl rfl (jT _) (JC ka) ?_
   walk_at "v"
   refine qJW ?_
   walk_at "v"
   refine .inr ⟨_,rfl,?_⟩
   walk_at "v"
   refine qDv rfl rfl (jT _) (JC kb) ?_
   walk_at "v"
   refine Qf (fun hc=>?_) (fun hc=>?_)
   ·walk_at "v"
    refine ⟨?_,rfl⟩
    have hc':(o.idxOf a:Int)<(o.idxOf b:Int):=of_decide_eq_true hc
    show some (D.int 1)=some (D.int (if o.idxOf a<o.idxOf b then 1 else 0))
    rw [if_pos (by omega)]
   ·walk_at "v"
    refine ⟨?_,rfl⟩
    show some (D.int 0)=some (D.int (if o.idxOf a<o.idxOf b then 1 else 0))
    rw [if_neg (fun z=>hc (decide_eq_true (show (o.idxOf a:Int)<(o.idxOf b:Int) by omega)))]
  ·walk_at "v"
   refine ⟨⟨_,rfl⟩,?_⟩
   have e:(ts.filter fun _=>true).map (fun t:Tie=>D.int (if o.idxOf t.1<o.idxOf t.2 then 1 else 0))=qE (Jx ts o):=by
    unfold qE Jx
    rw [qT,zM]
    rfl
   rw [e]
   exact k
def qM0 (n:Nat) (ts:List Tie) (bs:List Int):List Int:=(places n).filter fun p=>!decide (p∈(QK ts bs).map fun x=>x.2)
def qDR:PV:=fun as Φ=>∃(n:Nat) (ts:List Tie) (bs:List Int),as=[.d (jq n ts),.d (.tup (qE bs))]/\n<=9/\ts.length<=20/\bs.length=ts.length/\Φ (.d (.tup (qE (qM0 n ts bs)))) as
theorem qAY:qR ["web","fall","met"] ["web","fall"] (qJ (top 16)):=by walk_at "sc"
theorem qEd (F:Fun K "springs" "springs" (top 16) f fd) (T:Txt mg) (XAc:Has P w K mg base "arrows" (top 13) ["web","pointing"] 1 (spV qCv)):QC P w K mg base CX0 2 f fd ["web","fall"] (spV qDR):=by
 refine jO F qAY [0,1] (fun as Φ h=>?_) (fun cdv A outer s H E hr=>?_)
 ·obtain ⟨n,ts,bs,rfl,_⟩:=h
  rfl
 ·have hu:=hr.units
  refine ⟨_,(qC (QP 2 qAY (qc rfl (own:=["a","b"]) (fr:=[]) (by walk_at "cs") (qd (K:=K) rfl (qh XAc hr (qA (pv 0) (qA (pv 1) qB)))) (fun cl C s0 H0 fp=>⟨(jc (K:=K) (n:=2) rfl rfl (qW (jo 0) (qW (jo 1) jd))),jH,(pv 1)⟩)))
   (qF (qQ (qU (Qj (K:=K) rfl) (by rfl) T.n_tuple zU (qA (qc rfl (own:=["place"]) (fr:=[("met",2)]) (by walk_at "cs") (qz (by rfl) T.n_range (qA (jA (pv 0) qD) qB)) (fun cl C s0 H0 fp=>⟨(jo 0),jg (qK (QR hu) (pv 0) (pv 1) (by with_unfolding_all rfl)),(pv 0)⟩)) qB))))),?_⟩
  rintro as Φ ⟨n,ts,bs,rfl,hn,hts,hbl,k⟩
  have al:=JG hbl
  walk_at "sv"
  refine qy qw (QK ts bs) (fun _=>true) (fun x=>D.int x.2) (QL ?_)
  walk_at "vc"
  refine ⟨n,ts,bs,rfl,hts,⟨⟨_,rfl⟩,?_⟩⟩
  walk_at "st"
  refine ⟨_,_,rfl,rfl,rfl,qI (by omega),qM rfl,of_decide_eq_true rfl,?_,?_⟩
  ·rintro ⟨x1,x2⟩ _ os hos
   obtain ⟨z0,z1,rfl⟩:=qFn hos
   walk_at "v"
   refine ⟨⟨[_,_],rfl,rfl⟩,jN ⟨rfl,rfl⟩,fun _=>?_⟩
   walk_at "v"
   exact ⟨rfl,rfl⟩
  have e1:((QK ts bs).filter fun _=>true).map (fun x:Tie=>D.int x.2)=qE ((QK ts bs).map fun x=>x.2):=by
   rw [qT]
   unfold qE
   rw [zM]
   rfl
  rw [e1]
  have k':Φ (.d (.tup (qE ((places n).filter fun p=>!decide (p∈(QK ts bs).map fun x=>x.2))))) [.d (jq n ts),.d (.tup (qE bs))]:=k
  clear k e1
  generalize ((QK ts bs).map fun x=>x.2)=met at k'
  refine qm rfl ?_
  walk_at "sv"
  refine qy (fun p:Int=>D.int p) (places n) (fun p=>!decide (p∈met)) (fun p=>D.int p) (qDK ?_)
  walk_at "v"
  refine ⟨_,⟨_,rfl,rfl⟩,by omega,by omega,?_,qI (by rw [places_len]; omega),qM rfl,of_decide_eq_true rfl,?_,?_⟩
  ·rw [zT]
   unfold qCO places
   rw [zM]
   exact xI fun i _=>by rw [gO]; rfl
  ·rintro p hp os hos
   obtain ⟨z0,rfl⟩:=Jz hos
   walk_at "v"
   refine ⟨⟨[_],rfl,rfl⟩,?_,fun _=>?_⟩
   ·walk_at "v"
    exact ⟨rfl,rfl⟩
   ·walk_at "v"
    exact ⟨rfl,rfl⟩
  walk_at "v"
  exact ⟨⟨_,rfl⟩,k'⟩
def qMl (n:Nat) (ts:List Tie) (bs:List Int):List Int:=(places n).filter fun p=>!decide (p∈(QK ts bs).map fun x=>x.1)
def qFJ:PV:=fun as Φ=>∃(n:Nat) (ts:List Tie) (bs:List Int),as=[.d (jq n ts),.d (.tup (qE bs))]/\n<=9/\ts.length<=20/\bs.length=ts.length/\Φ (.d (.tup (qE (qMl n ts bs)))) as
theorem qCD:qR ["web","fall","left"] ["web","fall"] (qJ (top 17)):=by walk_at "sc"
theorem qFs (F:Fun K "mouths" "mouths" (top 17) f fd) (T:Txt mg) (XAc:Has P w K mg base "arrows" (top 13) ["web","pointing"] 1 (spV qCv)):QC P w K mg base CX0 2 f fd ["web","fall"] (spV qFJ):=by
 refine jO F qCD [0,1] (fun as Φ h=>?_) (fun cdv A outer s H E hr=>?_)
 ·obtain ⟨n,ts,bs,rfl,_⟩:=h
  rfl
 ·have hu:=hr.units
  refine ⟨_,(qC (QP 2 qCD (qc rfl (own:=["a","b"]) (fr:=[]) (by walk_at "cs") (qd (K:=K) rfl (qh XAc hr (qA (pv 0) (qA (pv 1) qB)))) (fun cl C s0 H0 fp=>⟨(jc (K:=K) (n:=2) rfl rfl (qW (jo 0) (qW (jo 1) jd))),jH,(pv 0)⟩)))
   (qF (qQ (qU (Qj (K:=K) rfl) (by rfl) T.n_tuple zU (qA (qc rfl (own:=["place"]) (fr:=[("left",2)]) (by walk_at "cs") (qz (by rfl) T.n_range (qA (jA (pv 0) qD) qB)) (fun cl C s0 H0 fp=>⟨(jo 0),jg (qK (QR hu) (pv 0) (pv 1) (by with_unfolding_all rfl)),(pv 0)⟩)) qB))))),?_⟩
  rintro as Φ ⟨n,ts,bs,rfl,hn,hts,hbl,k⟩
  have al:=JG hbl
  walk_at "sv"
  refine qy qw (QK ts bs) (fun _=>true) (fun x=>D.int x.1) (QL ?_)
  walk_at "vc"
  refine ⟨n,ts,bs,rfl,hts,⟨⟨_,rfl⟩,?_⟩⟩
  walk_at "st"
  refine ⟨_,_,rfl,rfl,rfl,qI (by omega),qM rfl,of_decide_eq_true rfl,?_,?_⟩
  ·rintro ⟨x1,x2⟩ _ os hos
   obtain ⟨z0,z1,rfl⟩:=qFn hos
   walk_at "v"
   refine ⟨⟨[_,_],rfl,rfl⟩,jN ⟨rfl,rfl⟩,fun _=>?_⟩
   walk_at "v"
   exact ⟨rfl,rfl⟩
  have e1:((QK ts bs).filter fun _=>true).map (fun x:Tie=>D.int x.1)=qE ((QK ts bs).map fun x=>x.1):=by
   rw [qT]
   unfold qE
   rw [zM]
   rfl
  rw [e1]
  have k':Φ (.d (.tup (qE ((places n).filter fun p=>!decide (p∈(QK ts bs).map fun x=>x.1))))) [.d (jq n ts),.d (.tup (qE bs))]:=k
  clear k e1
  generalize ((QK ts bs).map fun x=>x.1)=met at k'
  refine qm rfl ?_
  walk_at "sv"
  refine qy (fun p:Int=>D.int p) (places n) (fun p=>!decide (p∈met)) (fun p=>D.int p) (qDK ?_)
  walk_at "v"
  refine ⟨_,⟨_,rfl,rfl⟩,by omega,by omega,?_,qI (by rw [places_len]; omega),qM rfl,of_decide_eq_true rfl,?_,?_⟩
  ·rw [zT]
   unfold qCO places
   rw [zM]
   exact xI fun i _=>by rw [gO]; rfl
  ·rintro p hp os hos
   obtain ⟨z0,rfl⟩:=Jz hos
   walk_at "v"
   refine ⟨⟨[_],rfl,rfl⟩,?_,fun _=>?_⟩
   ·walk_at "v"
    exact ⟨rfl,rfl⟩
   ·walk_at "v"
    exact ⟨rfl,rfl⟩
  walk_at "v"
  exact ⟨⟨_,rfl⟩,k'⟩
theorem qCR {o:List Int} (nd:o.Nodup) {i j:Nat} {x:Int} (hi:o[i]? = some x) (hj:o[j]? = some x):i=j:=by
 obtain ⟨h1,e1⟩:=wI.mp hi
 obtain ⟨h2,e2⟩:=wI.mp hj
 have pw:=UT.mp (vB.mp nd)
 rcases Nat.lt_trichotomy i j with z | z | z
 ·exact absurd (e1.trans e2.symm) (pw i j h1 h2 z)
 ·exact z
 ·exact absurd (e2.trans e1.symm) (pw j i h2 h1 z)
theorem qEO {o:List Int} (nd:o.Nodup) {i:Nat} {x y:Int} (hi:o[i]? = some x) (h : [y,x].Sublist o):y∈o.take i:=by
 obtain ⟨l,r,e,hx⟩:=qAo h
 obtain ⟨k,hk,ek⟩:=gZ hx
 have e1:o[l.length+(k+1)]? = some x:=by
  rw [e,zW (by omega),xE,ZJ,wA hk,ek]
 have ei:=qCR nd hi e1
 rw [ei,e,List.take_append,zG]
 refine .inr ?_
 rw [xE,List.take_succ_cons]
 exact wF
theorem qFm {o:List Int} (nd:o.Nodup) {i:Nat} {x y:Int} (hi:o[i]? = some x) (h : [x,y].Sublist o):y∈o.drop (i+1):=by
 obtain ⟨l,r,e,hy⟩:=qAo h
 have e1:o[l.length]? = some x:=by
  rw [e,zW (wO _),fE]
  rfl
 have ei:=qCR nd hi e1
 rw [ei,e,List.drop_append,xE,zG]
 exact .inr hy
theorem Jh.all {n:Nat} {E:List Tie} {s t:Int} {o:List Int} (H:Jh n E s t o) (on:o.length=n) {p:Int} (hp:p∈places n):p∈o:=by
 apply vP
 intro z
 have:=jV (l:=p::o) (n:=n) (zI.mpr ⟨z,H.nd⟩) fun q hq=>(wM.mp hq).elim (fun e=>e ▸ hp) (H.pl q)
 rw [yG] at this
 omega
theorem Jh.perm {n:Nat} {E:List Tie} {s t:Int} {o:List Int} (H:Jh n E s t o) (on:o.length=n):o.Perm (places n):=by
 have h1:(o.mergeSort (fun a b=>decide (a<=b))).Perm o:=List.mergeSort_perm _ _
 have h2:(o.mergeSort (fun a b=>decide (a<=b))).Pairwise (fun a b=>decide (a<=b)=true):=List.pairwise_mergeSort (le:=fun a b:Int=>decide (a<=b)) (fun a b c h g=>decide_eq_true (uS (of_decide_eq_true h) (of_decide_eq_true g))) (fun a b=>by
  rcases Int.le_total a b with h | h
  ·rw [decide_eq_true h]; rfl
  ·rw [decide_eq_true h,Bool.or_true]) _
 have h3:o.mergeSort (fun a b=>decide (a<=b))=places n:=Jc (qFA (h2.imp fun {a b} z=>of_decide_eq_true z) (h1.nodup_iff.mpr H.nd)) (Qv n) fun x=>h1.mem_iff.trans ⟨H.pl x,H.all on⟩
 rw [h3] at h1
 exact h1.symm
theorem Jh.rev {n:Nat} {E:List Tie} {s t:Int} {o:List Int} (H:Jh n E s t o):Jh n E t s o.reverse:=by
 refine ⟨(List.reverse_perm o).nodup_iff.mpr H.nd,fun p hp=>H.pl p (gU.mp hp),by rw [List.head?_reverse]; exact H.ls,by rw [List.getLast?_reverse]; exact H.hd,fun x hx=>?_⟩
 obtain ⟨h1,h2⟩:=H.hung x (gU.mp hx)
 exact ⟨fun z=>let ⟨y,a,b⟩:=h2 z; ⟨y,a,b.reverse⟩,fun z=>let ⟨y,a,b⟩:=h1 z; ⟨y,a,b.reverse⟩⟩
theorem qBp {n:Nat} {E:List Tie} (ok:∀ t∈E,okp n t) {x y:Int} (t:qO E x y):y∈jM n E x:=zH.mpr ⟨(jQ ok t).2,decide_eq_true ((Yh ok).mpr t)⟩
theorem qAU {E:List Tie} {x y:Int} (t:qO E x y):y∈j3 E x:=by
 unfold j3
 rcases t with h | h
 ·exact zP.mpr ⟨_,zH.mpr ⟨h,decide_eq_true wF⟩,by show x+y - x=y; omega⟩
 ·exact zP.mpr ⟨_,zH.mpr ⟨h,decide_eq_true (wN _ wF)⟩,by show y+x - x=y; omega⟩
theorem qEC {E:List Tie} {x y:Int} (h:y∈j3 E x):qO E x y:=by
 unfold j3 at h
 obtain ⟨⟨a,b⟩,ht,e⟩:=zP.mp h
 obtain ⟨h1,h2⟩:=zH.mp ht
 have h3:=of_decide_eq_true h2
 have e':a+b - x=y:=e
 rcases wM.mp h3 with z | z
 ·have z':x=a:=z
  have:y=b:=by omega
  rw [z',this]
  exact .inl h1
 ·have z':x=b:=wK.mp z
  have:y=a:=by omega
  rw [z',this]
  exact .inr h1
theorem QV {n:Nat} {p:Int} (h:p∈places n):inB n p=true:=by
 obtain ⟨a,b⟩:=qP.mp h
 unfold inB
 rw [decide_eq_true a,decide_eq_true b]
 rfl
structure qNA (E:List Tie) (o:List Int) (i:Nat):Prop where
 before:∃ y,qO E (o.getD i 0) y/\y∈o.take i
 after:∃ y,qO E (o.getD i 0) y/\y∈o.drop (i+1)
theorem Jh.mid {n:Nat} {E:List Tie} {s t:Int} {o:List Int} (H:Jh n E s t o) {i:Nat} (h1:1<=i) (h2:i+1<o.length):qNA E o i:=by
 have hi:o[i]? = some (o.getD i 0):=by rw [wW,wA (by omega)]; rfl
 have hm:o.getD i 0∈o:=vN hi
 have h0:o[0]? = some s:=by rw [<- ZQ]; exact H.hd
 have hl:o[o.length - 1]? = some t:=by rw [<- UV]; exact H.ls
 generalize o.getD i 0=x at hi hm
 obtain ⟨a,b⟩:=H.hung x hm
 have xs:x≠s:=fun z=>by
  rw [z] at hi
  have:=qCR H.nd hi h0
  omega
 have xt:x≠t:=fun z=>by
  rw [z] at hi
  have:=qCR H.nd hi hl
  omega
 have hi':=hi
 obtain ⟨y,ty,sy⟩:=a xs
 obtain ⟨z,tz,sz⟩:=b xt
 have ex:o.getD i 0=x:=by rw [wW,hi]; rfl
 exact ⟨⟨y,ex ▸ ty,qEO H.nd hi sy⟩,⟨z,ex ▸ tz,qFm H.nd hi sz⟩⟩
theorem Jh.ends {n:Nat} {E:List Tie} {s t:Int} {o:List Int} (H:Jh n E s t o):o.getD 0 0=s/\o.getLastD 0=t:=by
 constructor
 ·rw [wW,<- ZQ,H.hd]
  rfl
 ·rw [List.getLastD_eq_getLast?,H.ls]
  rfl
theorem qAE {n:Nat} {E:List Tie} (ok:∀ t∈E,okp n t) {s t:Int} {o:List Int} (H:Jh n E s t o) (on:o.length=n):qBl n E s t o=true/\qGe n E s t o=true:=by
 obtain ⟨e1,e2⟩:=H.ends
 have ip:o.isPerm (places n)=true:=xZ.mpr (H.perm on)
 have a1:o.all (inB n)=true:=vT.mpr fun p hp=>QV (H.pl p hp)
 have md:∀ j,j∈wV (n - 2)->qNA E o (j+1):=fun j hj=>by
  have:=zY.mp hj
  exact H.mid (by omega) (by omega)
 constructor
 ·unfold qBl
  rw [a1,ip,decide_eq_true e1,decide_eq_true e2,wZ,wZ,wZ,wZ,vT]
  intro j hj
  obtain ⟨⟨y,ty,my⟩,⟨z,tz,mz⟩⟩:=md j hj
  unfold qAw
  rw [zX,uF,uF]
  exact ⟨⟨y,my,decide_eq_true (qBp ok ty)⟩,⟨z,mz,decide_eq_true (qBp ok tz)⟩⟩
 ·unfold qGe
  rw [ip,decide_eq_true e1,decide_eq_true e2,wZ,wZ,wZ,vT]
  intro j hj
  obtain ⟨⟨y,ty,my⟩,⟨z,tz,mz⟩⟩:=md j hj
  unfold qCB
  rw [zX,uF,uF]
  refine ⟨⟨y,qAU ty,decide_eq_true my⟩,⟨z,qAU tz,decide_eq_true ?_⟩⟩
  exact (List.drop_subset_drop_left o (fO (j+1))) mz
theorem qIB {n:Nat} {E:List Tie} (ok:∀ t∈E,okp n t) {s t p:Int} {P:List Int} (C:qE2 n E s t p P):qLG n E s t p P=true/\qFj n E s t p P=true:=by
 have ne:P.isEmpty=false:=by
  have:=C.ne
  cases P with
  | nil=>exact absurd rfl this
  | cons a r=>rfl
 have up:upB P=true:=qDo.mpr C.up
 constructor
 ·unfold qLG
  rw [ne,up,kU,wZ,wZ,zX,zX,vM]
  refine ⟨vT.mpr fun q hq=>?_,?_,vT.mpr fun x hx=>vT.mpr fun y hy=>?_⟩
  ·rcases zG.mp hq with z | z
   ·exact QV (C.pl q z)
   ·rw [wK.mp z]; exact QV C.at_
  ·rw [hW,hW,hW,List.any_nil,decide_eq_false C.s_,decide_eq_false C.t_,decide_eq_false C.p_]
   rfl
  ·have ty:qO E x y:=(Yh ok).mp (of_decide_eq_true (zH.mp hy).2)
   rcases C.shut x hx y ty with z | z
   ·rw [decide_eq_true z,Bool.true_or]
   ·rw [decide_eq_true z,Bool.or_true]
 ·unfold qFj
  rw [ne,up,QV C.at_,kU,wZ,wZ,wZ]
  refine vT.mpr fun x hx=>?_
  have nx:x∉[s,t,p]:=fun z=>by
   rcases wM.mp z with e | z
   ·exact C.s_ (e ▸ hx)
   rcases wM.mp z with e | z
   ·exact C.t_ (e ▸ hx)
   ·exact C.p_ (wK.mp z ▸ hx)
  rw [QV (C.pl x hx),decide_eq_false nx,kU,wZ,wZ]
  refine vT.mpr fun y hy=>?_
  rcases C.shut x hx y (qEC hy) with z | z
  ·rw [decide_eq_true z,Bool.or_true]
  ·rw [decide_eq_true z,Bool.true_or]
theorem qAg {E:List Tie} {p x y:Int}:qO (qBz E p) x y↔qO E x y/\x≠p/\y≠p:=by
 have key:∀ t:Tie,t∈qBz E p↔t∈E/\t.1≠p/\t.2≠p:=fun t=>by
  unfold qBz
  rw [zH,vM,decide_eq_false_iff_not,wM,wK]
  exact and_congr_right fun _=>⟨fun h=>⟨fun z=>h (.inl z.symm),fun z=>h (.inr z.symm)⟩,fun h z=>z.elim (fun y=>h.1 y.symm) fun y=>h.2 y.symm⟩
 unfold qO
 rw [key,key]
 constructor
 ·rintro (⟨h1,h2,h3⟩ | ⟨h1,h2,h3⟩)
  ·exact ⟨.inl h1,h2,h3⟩
  ·exact ⟨.inr h1,h3,h2⟩
 ·rintro ⟨h1 | h1,h2,h3⟩
  ·exact .inl ⟨h1,h2,h3⟩
  ·exact .inr ⟨h1,h3,h2⟩
theorem qKK {n:Nat} {E:List Tie} {s t p:Int} {P:List Int} (C:qE2 n E s t p P):qGE n E s t:=by
 obtain ⟨q,hq⟩:∃ q,q∈P:=by
  have:=C.ne
  cases h:P with
  | nil=>exact absurd h this
  | cons x _=>exact ⟨x,wF⟩
 refine ⟨p,C.at_,q,C.pl q hq,fun z=>C.p_ (z ▸ hq),fun pole hp _ c=>?_⟩
 have key:∀ x,qi (qO (qBz E p)) q x->x∈P:=fun x c=>by
  induction c with
  | refl=>exact hq
  | snoc _ t ih=>
   obtain ⟨t1,_,t3⟩:=qAg.mp t
   exact (C.shut _ ih _ t1).resolve_right t3
 have:=key pole c
 rcases wM.mp hp with e | e
 ·exact C.s_ (e ▸ this)
 ·exact C.t_ (wK.mp e ▸ this)
theorem Jo {n:Nat} {E:List Tie} {s t:Int} {o:List Int} (H:Jh n E s t o) {p:Int}:∀(k:Nat) (x:Int),x∈o->o.idxOf x<=k->o.idxOf x<o.idxOf p->s≠p/\qi (qO (qBz E p)) x s
 | k,x,hx,hk,hp=>by
  have xp:x≠p:=fun z=>by rw [z] at hp; exact vY _ hp
  by_cases e:x=s
  ·rw [<- e]
   exact ⟨xp,.refl⟩
  ·obtain ⟨y,ty,sy⟩:=(H.hung x hx).1 e
   have lt:=qA6 H.nd sy
   have yo:y∈o:=sy.subset wF
   have yp:y≠p:=fun z=>by rw [z] at lt; omega
   match k,hk with
   | 0,hk=>omega
   | k+1,hk=>
    obtain ⟨a,b⟩:=Jo H (p:=p) k y yo (by omega) (by omega)
    exact ⟨a,qi.trans (.snoc .refl (qAg.mpr ⟨ty,xp,yp⟩)) b⟩
theorem qI0 {o:List Int} (nd:o.Nodup) {x p:Int} (hx:x∈o) (hp:p∈o) (h:o.idxOf p<o.idxOf x):o.reverse.idxOf x<o.reverse.idxOf p:=by
 have e:∀ z,z∈o->o.reverse.idxOf z=o.length - 1 - o.idxOf z:=fun z hz=>by
  have lz:=yI hz
  have lz':=yI (gU.mpr hz)
  rw [uY] at lz'
  have g:o[o.idxOf z]? = some z:=by
   obtain ⟨l,r,ez⟩:=WT hz
   have nl:z∉l:=fun y=>by
    rw [ez] at nd
    exact (yF.mp nd).2.2 z y z wF rfl
   rw [ez,qCu nl,zW (wO _),fE]
   rfl
  have g':o.reverse[o.reverse.idxOf z]? = some z:=by
   obtain ⟨l,r,ez⟩:=WT (gU.mpr hz)
   have nl:z∉l:=fun y=>by
    have:=(List.reverse_perm o).nodup_iff.mpr nd
    rw [ez] at this
    exact (yF.mp this).2.2 z y z wF rfl
   rw [ez,qCu nl,zW (wO _),fE]
   rfl
  rw [List.getElem?_reverse (by omega)] at g'
  have:=qCR nd g g'
  omega
 have l1:=yI hx
 rw [e x hx,e p hp]
 omega
theorem qH9 {n:Nat} {E:List Tie} {s t:Int} {o:List Int} (H:Jh n E s t o) (on:o.length=n):¬ qGE n E s t:=fun ⟨p,hp,q,hq,ne,no⟩=>by
 have po:=H.all on hp
 have qo:=H.all on hq
 rcases Nat.lt_trichotomy (o.idxOf q) (o.idxOf p) with z | z | z
 ·obtain ⟨a,b⟩:=Jo H _ q qo (wO _) z
  exact no s wF a b
 ·obtain ⟨l,r,e⟩:=WT qo
  have lq:=yI qo
  have g1:=kF (yI qo)
  have g2:=kF (yI po)
  refine ne ?_
  rw [<- g1,<- g2]
  congr 1
 ·obtain ⟨a,b⟩:=Jo H.rev _ q (gU.mpr qo) (wO _) (qI0 H.nd qo po z)
  exact no t (wN _ wF) a b
theorem YH {E:List Tie} {o:List Int} {u v:Int} (nd:o.Nodup) (inn:∀ t∈E,t.1∈o/\t.2∈o) (lt:∀ t∈E,t.1≠t.2):(u,v)∈QK E (Jx E o)↔qO E u v/\o.idxOf u<o.idxOf v:=by
 have key:∀ l:List Tie,(∀ t∈l,t∈E)->((u,v)∈QK l (Jx l o)↔qO l u v/\o.idxOf u<o.idxOf v):=fun l=>by
  induction l with
  | nil=>exact fun _=>⟨fun h=>(by cases h),fun h=>(by rcases h.1 with z | z <;> cases z)⟩
  | cons x l ih=>
   intro hl
   have ih:=ih fun t ht=>hl t (wN _ ht)
   obtain ⟨a,b⟩:=x
   have hx:=hl _ wF
   have ia:a∈o:=(inn _ hx).1
   have ib:b∈o:=(inn _ hx).2
   have ne:a≠b:=lt _ hx
   have ix:o.idxOf a≠o.idxOf b:=fun z=>by
    have g1:=kF (yI ia)
    have g2:=kF (yI ib)
    refine ne ?_
    show a=b
    rw [<- g1,<- g2]
    congr 1
   show (u,v)∈arr (a,b) (if o.idxOf a<o.idxOf b then 1 else 0)::QK l (Jx l o)↔_
   rw [wM,ih]
   unfold qO
   rw [wM,wM]
   by_cases c:o.idxOf a<o.idxOf b
   ·rw [if_pos c]
    show ((u,v)=(a,b)\/_)↔_
    constructor
    ·rintro (h | ⟨h1,h2⟩)
     ·injection h with h1 h2
      exact ⟨.inl (.inl (by rw [h1,h2])),by rw [h1,h2]; exact c⟩
     ·exact ⟨h1.elim (fun z=>.inl (.inr z)) fun z=>.inr (.inr z),h2⟩
    ·rintro ⟨(h | h) | (h | h),h2⟩
     ·exact .inl h
     ·exact .inr ⟨.inl h,h2⟩
     ·injection h with h1 h3
      rw [h1,h3] at h2
      omega
     ·exact .inr ⟨.inr h,h2⟩
   ·rw [if_neg c]
    show ((u,v)=(b,a)\/_)↔_
    constructor
    ·rintro (h | ⟨h1,h2⟩)
     ·injection h with h1 h2
      exact ⟨.inr (.inl (by rw [h1,h2])),by rw [h1,h2]; omega⟩
     ·exact ⟨h1.elim (fun z=>.inl (.inr z)) fun z=>.inr (.inr z),h2⟩
    ·rintro ⟨(h | h) | (h | h),h2⟩
     ·injection h with h1 h3
      rw [h1,h3] at h2
      omega
     ·exact .inr ⟨.inl h,h2⟩
     ·injection h with h1 h3
      exact .inl (by rw [h1,h3])
     ·exact .inr ⟨.inr h,h2⟩
 exact key E fun t ht=>ht
theorem qD5 {n:Nat} {s:Int} (hs:s∈places n) {f:Int->Bool} (h:∀ p∈places n,f p=true↔p=s):(places n).filter f=[s]:=by
 refine Jc ((Qv n).sublist vC) (uK.mpr ⟨fun _ z=>absurd z wY,.nil⟩) fun p=>?_
 rw [zH,wK]
 exact ⟨fun z=>(h p z.1).mp z.2,fun z=>⟨z ▸ hs,(h p (z ▸ hs)).mpr z⟩⟩
theorem qEF {n:Nat} {E:List Tie} (ok:∀ t∈E,okp n t) {s t:Int} {o:List Int} (H:Jh n E s t o) (on:o.length=n) (hs:s∈places n) (ht:t∈places n):qM0 n E (Jx E o)=[s]/\qMl n E (Jx E o)=[t]:=by
 have inn:∀ x∈E,x.1∈o/\x.2∈o:=fun x hx=>by
  obtain ⟨a,b⟩:=jQ ok (show qO E x.1 x.2 from .inl hx)
  exact ⟨H.all on a,H.all on b⟩
 have lt:∀ x∈E,x.1≠x.2:=fun x hx=>by
  have:=(ok x hx).2.1
  omega
 have h0:o[0]? = some s:=by rw [<- ZQ]; exact H.hd
 have hl:o[o.length - 1]? = some t:=by rw [<- UV]; exact H.ls
 have gx:∀ x∈o,o[o.idxOf x]? = some x:=fun x hx=>by
  rw [wA (yI hx),kF]
 have s0:o.idxOf s=0:=qCR H.nd (gx s H.s_in) h0
 have t0:o.idxOf t=o.length - 1:=qCR H.nd (gx t H.t_in) hl
 constructor
 ·refine qD5 hs fun p hp=>?_
  rw [vM,decide_eq_false_iff_not,zP]
  constructor
  ·intro no
   apply vP
   intro ne
   obtain ⟨y,ty,sy⟩:=(H.hung p (H.all on hp)).1 ne
   exact no ⟨(y,p),(YH H.nd inn lt).mpr ⟨jv _ _ ty,qA6 H.nd sy⟩,rfl⟩
  ·rintro rfl ⟨⟨u,v⟩,h1,e⟩
   have e':v=p:=e
   subst e'
   have:=((YH H.nd inn lt).mp h1).2
   omega
 ·refine qD5 ht fun p hp=>?_
  rw [vM,decide_eq_false_iff_not,zP]
  constructor
  ·intro no
   apply vP
   intro ne
   obtain ⟨y,ty,sy⟩:=(H.hung p (H.all on hp)).2 ne
   exact no ⟨(p,y),(YH H.nd inn lt).mpr ⟨ty,qA6 H.nd sy⟩,rfl⟩
  ·rintro rfl ⟨⟨u,v⟩,h1,e⟩
   have e':u=p:=e
   subst e'
   obtain ⟨tv,h2⟩:=(YH H.nd inn lt).mp h1
   have vo:v∈o:=H.all on (jQ ok tv).2
   have:=yI vo
   omega
def qKj:Told->List D
 | .order o=>[.str "order",.tup (qE o)]
 | .cut p P=>[.str "cut",.int p,.tup (qE P)]
theorem qDS:∀ x:Told,qL (qKj x)<=50
 | .order o=>by
  have h:qL (qE o)<=0:=Qd (f:=D.int) (k:=0) (fun a=>wO _) o
  refine WU.mpr ⟨zZ _,WU.mpr ⟨?_,zZ _⟩⟩
  show qL (qE o)+1<=50
  omega
 | .cut p P=>by
  have h:qL (qE P)<=0:=Qd (f:=D.int) (k:=0) (fun a=>wO _) P
  refine WU.mpr ⟨zZ _,WU.mpr ⟨zZ _,WU.mpr ⟨?_,zZ _⟩⟩⟩
  show qL (qE P)+1<=50
  omega
theorem J2:qR ["script","cell","pool","web","s","t","found","fall"] ["script"] (qJ (top 45)):=by walk_at "sc"
theorem qKV (F:Fun K "law" "law" (top 45) f fd) (T:Txt mg)
  (XAR:Has P w K mg base "_law_dig" (top 30) ["cell"] 1 (spV qLH))
  (XAO:Has P w K mg base "_law_cell" (top 29) ["script","k"] 1 (spV (qKt K)))
  (XAT:Has P w K mg base "_law_one" (top 39) ["pool","most","cap"] 4 (spV qMy))
  (XAM:Has P w K mg base "_law_poles" (top 40) ["pool","web"] 2 (spV qIW))
  (XAg:Has P w K mg base "poled" (top 23) ["web","s","t"] 6 (spV qIk))
  (XAG:Has P w K mg base "_law_is_cut" (top 44) ["web","s","t"] 2 (spV qFB))
  (XAS:Has P w K mg base "_law_due" (top 43) ["web","s","t","told"] 3 (spV qLF))
  (XAJ:Has P w K mg base "poled_right" (top 27) ["web","s","t","told"] 6 (spV qBe))
  (XAZ:Has P w K mg base "ordered" (top 14) ["web","order"] 1 (spV qDh))
  (XAb:Has P w K mg base "springs" (top 16) ["web","fall"] 2 (spV qDR))
  (XAe:Has P w K mg base "mouths" (top 17) ["web","fall"] 2 (spV qFJ)):QC P w K mg base CX0 7 f fd ["script"] (qFb K):=by
 refine qKL F J2 (fun cdv A outer s H E hr=>?_)
 have hu:=hr.units
 refine ⟨_,(qC (JW vR rfl (qz (by rfl) T.n_range (qA (qH (Qm rfl) (by rfl) T.n_max kN (qA qD (qA (qH (Qw rfl) (by rfl) T.n_min kO (qA qD (qA (qH (qBY (K:=K) rfl) (by rfl) T.n_len yW (qA (pv 0) qB)) qB))) qB))) qB)) (qEp 1 J2)
   (qC (QP 2 J2 (qh XAR hr (qA (qh XAO hr (qA (pv 0) (qA (pv 1) qB))) qB)))
    (qC (QP 3 J2 (qh XAT hr (qA (pv 2) (qA qD (qA qD qB)))))
    (qC (qAP (qh XAM hr (qA (pv 2) (qA (pv 3) qB))) (jc (K:=K) (n:=2) rfl rfl (qW (qEp 4 J2) (qW (qEp 5 J2) jd))))
    (qC (QP 6 J2 (qh XAg hr (qA (pv 3) (qA (pv 4) (qA (pv 5) qB)))))
    (qC (jY (PW.pt (Q2 (QX (qq (K:=K) rfl (qH (JF (K:=K) rfl) (by rfl) T.n_isinstance vQ (qA (pv 6) (qA (JE (v:=.ty "tuple") (by rfl) T.n_tuple zU rfl) qB))) (fun _=>rfl))) (Qh (qK (qCN hu) (jA (pv 6) qD) (jA (Qq (qA JA (qA JA qB))) (qU qB0 (by rfl) T.n_int WA (qA (qh XAG hr (qA (pv 3) (qA (pv 4) (qA (pv 5) qB)))) qB))) (qV _)))))
    (qF (qQ QG))
    qb)
    (qC (jY (PW.pt (Q2 (qK (qCN hu) (qH (qBY (K:=K) rfl) (by rfl) T.n_len yW (qA (pv 6) qB)) (qr (Y3 (K:=K) rfl) qD (qU qB0 (by rfl) T.n_int WA (qA (jU (qAH hu) (jA (pv 6) qD) JA (qV _)) qB))) (qV _)) (Qh (QX (qq (K:=K) rfl (qH (JF (K:=K) rfl) (by rfl) T.n_isinstance vQ (qA (jA (pv 6) (qBd J5 qD)) (qA (JE (v:=.ty "tuple") (by rfl) T.n_tuple zU rfl) qB))) (fun _=>rfl))))))
    (qF (qQ QG))
    qb)
    (qC (jY (PW.pt (Q2 (QX (qq (K:=K) rfl (qh XAS hr (qA (pv 3) (qA (pv 4) (qA (pv 5) (qA (pv 6) qB))))) (fun _=>rfl))) (Q2 (qK qE0 (qh XAJ hr (qA (pv 3) (qA (pv 4) (qA (pv 5) (qA (pv 6) qB))))) QG (qV _)) (Qh (qK (qCN hu) (qh XAg hr (qA (pv 3) (qA (pv 4) (qA (pv 5) qB)))) (pv 6) (qV _))))))
    (qF (qQ QG))
    qb)
    (qF (jY (qK (qAH hu) (jA (pv 6) qD) JA (qV _))
    (qC (QP 7 J2 (qh XAZ hr (qA (pv 3) (qA (jA (pv 6) qD) qB))))
     (qC (jY (PW.pt (Q2 (qK (qCN hu) (qh XAb hr (qA (pv 3) (qA (pv 7) qB))) (qk (qA (pv 4) qB)) (qV _)) (Qh (qK (qCN hu) (qh XAe hr (qA (pv 3) (qA (pv 7) qB))) (qk (qA (pv 5) qB)) (qV _)))))
     (qF (qQ QG))
     qb)
     (qF (jY (qK qE0 (qh XAJ hr (qA (pv 3) (qA (pv 5) (qA (pv 4) (qA (qk (qA JA (qA (qJJ (K:=K) rfl (jA (pv 6) qD) (qBd J5 qD)) qB))) qB))))) QG (qV _))
     (qF (qQ QG))
     qb))))
    qb))))))))))
   (qF (qQ QG))),?_⟩
 intro ns hns
 walk_at "st"
 refine Yb ?_
 walk_at "nf"
 refine qAz (qDK ?_)
 walk_at "v"
 refine qIN rfl ?_
 walk_at "v"
 rw [wC]
 generalize hJ:(if (if (ns.length:Int)<30 then (ns.length:Int) else 30) > 4 then (if (ns.length:Int)<30 then (ns.length:Int) else 30) else 4)=J
 have hJ2:0<=J/\J<=30:=by
  rw [<- hJ]
  split <;> split <;> omega
 clear hJ
 let S0:Sl:=.f K (ns.map D.int)
 refine ⟨J,⟨_,rfl,rfl⟩,by omega,by omega,fun i ρ=>Le ρ [S0,.u,.u,.u,.u,.u,.u,.u],gS rfl trivial,?_,?_⟩
 rotate_left
 ·intro ρ hle
  refine qL4 hle ?_
  walk_at "v"
  rfl
 intro i x ρ hx hle
 have hin:i<J.toNat:=by
  have:=(wI.mp hx).1
  rw [jJ] at this
  exact this
 rw [QN hin] at hx
 cases hx
 have hi0:(0:Int)<=0+(i:Int)/\(0:Int)+(i:Int)<100:=by omega
 generalize (0:Int)+(i:Int)=cell at hi0
 refine qKg hle ?_
 refine qm rfl ?_
 walk_at "st"
 let S1:Sl:=.d (.int cell)
 refine qp (fun ρ=>∃ q,ρ=[S0,S1,.l (jZ q),.u,.u,.u,.u,.u]) ?_ ?_
 ·walk_at "v"
  refine jf ?_
  walk_at "vc"
  refine ⟨ns,cell,rfl,hi0.1,hi0.2,fun c=>⟨⟨_,rfl⟩,?_⟩⟩
  walk_at "sv"
  refine ⟨of_decide_eq_true rfl,?_⟩
  walk_at "st"
  refine ⟨c,rfl,fun q=>⟨⟨_,rfl⟩,?_⟩⟩
  walk_at "st"
  refine qm rfl ?_
  exact ⟨q,rfl⟩
 rintro ρ ⟨q,rfl⟩
 refine qp (fun ρ=>∃(q:Int×Int×Int) (n:Nat) (ts:List Tie),ρ=[S0,S1,.l (jZ q),.d (jq n ts),.u,.u,.u,.u]/\YA n ts/\JJ n ts/\2<=n) ?_ ?_
 ·walk_at "v"
  walk_at "call"
  refine ⟨q,9,20,rfl,by decide,by decide,by decide,fun n ts q2 W wh n2=>⟨⟨_,rfl⟩,?_⟩⟩
  walk_at "st"
  refine qm rfl ?_
  exact ⟨q2,n,ts,rfl,W,wh,n2⟩
 rintro ρ ⟨q1,n,ts,rfl,W,wh,n2⟩
 let S3:Sl:=.d (jq n ts)
 have n9:=W.few
 have tl:=W.len
 refine qp (fun ρ=>∃(q:Int×Int×Int) (s t:Int),ρ=[S0,S1,.l (jZ q),S3,.d (.int s),.d (.int t),.u,.u]/\s∈places n/\t∈places n/\s≠t) ?_ ?_
 ·walk_at "v"
  walk_at "call"
  refine ⟨q1,n,ts,rfl,n2,n9,fun s t q2 hs ht ne=>⟨⟨_,rfl⟩,?_⟩⟩
  walk_at "st"
  refine qJ8 rfl rfl ?_
  walk_at "v"
  exact ⟨q2,s,t,rfl,hs,ht,ne⟩
 rintro ρ ⟨q2,s,t,rfl,hs,ht,ne⟩
 let S2:Sl:=.l (jZ q2)
 let S4:Sl:=.d (.int s)
 let S5:Sl:=.d (.int t)
 have tk:=qHf n9 W.ok W.nd wh hs ht
 refine qp (fun ρ=>ρ=[S0,S1,S2,S3,S4,S5,.d (qC4 (JX n ts s t)),.u]) ?_ ?_
 ·walk_at "v"
  walk_at "call"
  refine ⟨n,ts,s,t,rfl,W,wh,ne,hs,ht,⟨⟨_,rfl⟩,?_⟩⟩
  walk_at "sv"
  rfl
 rintro ρ rfl
 cases ex:JX n ts s t with
 | order o=>
  rw [ex] at tk
  obtain ⟨PO,on⟩:=tk
  let S6:Sl:=.d (qC4 (.order o))
  have o9:o.length<=30:=by omega
  obtain ⟨tb,db⟩:=qAE W.ok PO on
  refine qp (fun ρ=>ρ=[S0,S1,S2,S3,S4,S5,S6,.u]) ?_ ?_
  ·refine JO (Y8 ?_)
   walk_at "v"
   refine ite_no ?_
   walk_at "v"
   refine jf ?_
   walk_at "v"
   refine ⟨of_decide_eq_true rfl,?_⟩
   walk_at "st"
   refine ⟨n,ts,s,t,rfl,W,hs,ht,fun c hc=>⟨⟨_,rfl⟩,?_⟩⟩
   have c0:c=false:=by
    cases c with
    | false=>rfl
    | true=>exact absurd (hc.mp rfl) (qH9 PO on)
   subst c0
   walk_at "sv"
   refine OpV.l (qIx rfl rfl rfl rfl rfl ?_)
   rw [decide_eq_true rfl]
   refine ⟨_,rfl,?_⟩
   refine ite_no ?_
   exact qg rfl
  rintro ρ rfl
  refine qp (fun ρ=>ρ=[S0,S1,S2,S3,S4,S5,S6,.u]) ?_ ?_
  ·refine JO (Y8 ?_)
   walk_at "v"
   refine OpV.l (qBC rfl rfl rfl rfl rfl ?_)
   rw [decide_eq_false (by intro y; cases y)]
   walk_at "v"
   refine ite_no ?_
   walk_at "v"
   refine ite_no ?_
   exact qg rfl
  rintro ρ rfl
  refine qp (fun ρ=>ρ=[S0,S1,S2,S3,S4,S5,S6,.u]) ?_ ?_
  ·refine JO (Y8 ?_)
   walk_at "vc"
   refine ⟨n,ts,s,t,.order o,rfl,W,o9,⟨⟨_,rfl⟩,?_⟩⟩
   rw [show qMX n ts s t (.order o)=true from db]
   refine ⟨_,_,rfl,rfl,?_⟩
   refine ite_no ?_
   refine Y8 ?_
   walk_at "vc"
   refine ⟨n,ts,s,t,.order o,rfl,W,wh,ne,o9,⟨⟨_,rfl⟩,?_⟩⟩
   rw [show qHL n ts s t (.order o)=true from tb]
   walk_at "sv"
   refine qFy rfl rfl ?_
   refine ⟨_,rfl,?_⟩
   refine ite_no ?_
   walk_at "vc"
   refine ⟨n,ts,s,t,rfl,W,wh,ne,hs,ht,⟨⟨_,rfl⟩,?_⟩⟩
   rw [ex]
   walk_at "sv"
   refine Q6 rfl rfl (qDS (.order o)) ?_
   refine ⟨_,rfl,?_⟩
   refine ite_no ?_
   exact qg rfl
  rintro ρ rfl
  refine JO ?_
  walk_at "v"
  refine OpV.l (qBC rfl rfl rfl rfl rfl ?_)
  rw [decide_eq_true rfl]
  refine ⟨_,rfl,?_⟩
  rw [if_pos rfl]
  obtain ⟨spr,mth⟩:=qEF W.ok PO on hs ht
  refine qp (fun ρ=>ρ=[S0,S1,S2,S3,S4,S5,S6,.d (.tup (qE (Jx ts o)))]) ?_ ?_
  ·walk_at "v"
   walk_at "call"
   refine ⟨n,ts,o,rfl,tl,fun x hx=>?_,⟨⟨_,rfl⟩,?_⟩⟩
   ·obtain ⟨a,b⟩:=jQ W.ok (show qO ts x.1 x.2 from .inl hx)
    exact ⟨PO.all on a,PO.all on b⟩
   walk_at "sv"
   rfl
  rintro ρ rfl
  refine qp (fun ρ=>ρ=[S0,S1,S2,S3,S4,S5,S6,.d (.tup (qE (Jx ts o)))]) ?_ ?_
  ·refine JO (Y8 ?_)
   walk_at "vc"
   refine ⟨n,ts,Jx ts o,rfl,n9,tl,qCL ts o,⟨⟨_,rfl⟩,?_⟩⟩
   rw [spr]
   walk_at "sv"
   refine Q6 (l:=[D.int s]) rfl rfl (yT rfl) ?_
   refine ⟨_,rfl,?_⟩
   refine ite_no ?_
   walk_at "vc"
   refine ⟨n,ts,Jx ts o,rfl,n9,tl,qCL ts o,⟨⟨_,rfl⟩,?_⟩⟩
   rw [mth]
   walk_at "sv"
   refine Q6 (l:=[D.int t]) rfl rfl (yT rfl) ?_
   refine ⟨_,rfl,?_⟩
   refine ite_no ?_
   exact qg rfl
  rintro ρ rfl
  refine JO ?_
  walk_at "v"
  refine jf ?_
  walk_at "v"
  refine qK0 ?_
  walk_at "v"
  refine ⟨rfl,_,rfl,?_⟩
  rw [show (qE o).reverse=qE o.reverse from List.map_reverse.symm]
  walk_at "v"
  refine ⟨of_decide_eq_true rfl,?_⟩
  walk_at "st"
  obtain ⟨tb',_⟩:=qAE W.ok PO.rev (by rw [uY]; exact on)
  refine ⟨n,ts,t,s,.order o.reverse,rfl,W,wh,ne.symm,by show o.reverse.length<=30; rw [uY]; exact o9,⟨⟨_,rfl⟩,?_⟩⟩
  rw [show qHL n ts t s (.order o.reverse)=true from tb']
  walk_at "sv"
  refine qFy rfl rfl ?_
  refine ⟨_,rfl,?_⟩
  refine ite_no ?_
  exact qg ⟨rfl,trivial⟩
 | cut p Q=>
  rw [ex] at tk
  have CK:qE2 n ts s t p Q:=tk
  let S6:Sl:=.d (qC4 (.cut p Q))
  have q9:Q.length<=30:=zO (jV (qDd CK.up) CK.pl) (by omega)
  obtain ⟨tb,db⟩:=qIB W.ok CK
  refine qp (fun ρ=>ρ=[S0,S1,S2,S3,S4,S5,S6,.u]) ?_ ?_
  ·refine JO (Y8 ?_)
   walk_at "v"
   refine ite_no ?_
   walk_at "v"
   refine jf ?_
   walk_at "v"
   refine ⟨of_decide_eq_true rfl,?_⟩
   walk_at "st"
   refine ⟨n,ts,s,t,rfl,W,hs,ht,fun c hc=>⟨⟨_,rfl⟩,?_⟩⟩
   have c0:c=true:=hc.mpr (qKK CK)
   subst c0
   walk_at "sv"
   refine OpV.l (qIx rfl rfl rfl rfl rfl ?_)
   rw [decide_eq_true rfl]
   refine ⟨_,rfl,?_⟩
   refine ite_no ?_
   exact qg rfl
  rintro ρ rfl
  refine qp (fun ρ=>ρ=[S0,S1,S2,S3,S4,S5,S6,.u]) ?_ ?_
  ·refine JO (Y8 ?_)
   walk_at "v"
   refine OpV.l (qBC rfl rfl rfl rfl rfl ?_)
   rw [decide_eq_true rfl]
   walk_at "v"
   refine ite_no ?_
   walk_at "v"
   refine ite_no ?_
   exact qg rfl
  rintro ρ rfl
  refine qp (fun ρ=>ρ=[S0,S1,S2,S3,S4,S5,S6,.u]) ?_ ?_
  ·refine JO (Y8 ?_)
   walk_at "vc"
   refine ⟨n,ts,s,t,.cut p Q,rfl,W,q9,⟨⟨_,rfl⟩,?_⟩⟩
   rw [show qMX n ts s t (.cut p Q)=true from db]
   refine ⟨_,_,rfl,rfl,?_⟩
   refine ite_no ?_
   refine Y8 ?_
   walk_at "vc"
   refine ⟨n,ts,s,t,.cut p Q,rfl,W,wh,ne,q9,⟨⟨_,rfl⟩,?_⟩⟩
   rw [show qHL n ts s t (.cut p Q)=true from tb]
   walk_at "sv"
   refine qFy rfl rfl ?_
   refine ⟨_,rfl,?_⟩
   refine ite_no ?_
   walk_at "vc"
   refine ⟨n,ts,s,t,rfl,W,wh,ne,hs,ht,⟨⟨_,rfl⟩,?_⟩⟩
   rw [ex]
   walk_at "sv"
   refine Q6 rfl rfl (qDS (.cut p Q)) ?_
   refine ⟨_,rfl,?_⟩
   refine ite_no ?_
   exact qg rfl
  rintro ρ rfl
  refine JO ?_
  walk_at "v"
  refine OpV.l (qBC rfl rfl rfl rfl rfl ?_)
  refine ⟨_,rfl,?_⟩
  refine Qf (fun z=>absurd (of_decide_eq_true z) (by intro y; cases y)) (fun _=>?_)
  exact qg ⟨rfl,trivial⟩
end
theorem us0 {P:List Value->Prop} (h:P []):∀ us:List Value,us.length=0->P us:=fun _ e=>(VW e) ▸ h
theorem usS {k:Nat} {P:List Value->Prop} (h:∀(a:Value) (us:List Value),us.length=k->P (a::us)):∀ us:List Value,us.length=k+1->P us:=fun us e=>by
 cases us with
 | nil=>cases e
 | cons a us=>exact h a us (Nat.succ.inj e)
theorem us1 {P:List Value->Prop} (h:∀ a0,P [a0]):∀ us:List Value,us.length=1->P us:=usS (k:=0) (P:=fun us=>P (us)) fun a0=>us0 (P:=fun us=>P (a0::us)) (h a0)
theorem us2 {P:List Value->Prop} (h:∀ a0 a1,P [a0,a1]):∀ us:List Value,us.length=2->P us:=usS (k:=1) (P:=fun us=>P (us)) fun a0=>usS (k:=0) (P:=fun us=>P (a0::us)) fun a1=>us0 (P:=fun us=>P (a0::a1::us)) (h a0 a1)
theorem us3 {P:List Value->Prop} (h:∀ a0 a1 a2,P [a0,a1,a2]):∀ us:List Value,us.length=3->P us:=usS (k:=2) (P:=fun us=>P (us)) fun a0=>usS (k:=1) (P:=fun us=>P (a0::us)) fun a1=>usS (k:=0) (P:=fun us=>P (a0::a1::us)) fun a2=>us0 (P:=fun us=>P (a0::a1::a2::us)) (h a0 a1 a2)
theorem us4 {P:List Value->Prop} (h:∀ a0 a1 a2 a3,P [a0,a1,a2,a3]):∀ us:List Value,us.length=4->P us:=usS (k:=3) (P:=fun us=>P (us)) fun a0=>usS (k:=2) (P:=fun us=>P (a0::us)) fun a1=>usS (k:=1) (P:=fun us=>P (a0::a1::us)) fun a2=>usS (k:=0) (P:=fun us=>P (a0::a1::a2::us)) fun a3=>us0 (P:=fun us=>P (a0::a1::a2::a3::us)) (h a0 a1 a2 a3)
theorem us5 {P:List Value->Prop} (h:∀ a0 a1 a2 a3 a4,P [a0,a1,a2,a3,a4]):∀ us:List Value,us.length=5->P us:=usS (k:=4) (P:=fun us=>P (us)) fun a0=>usS (k:=3) (P:=fun us=>P (a0::us)) fun a1=>usS (k:=2) (P:=fun us=>P (a0::a1::us)) fun a2=>usS (k:=1) (P:=fun us=>P (a0::a1::a2::us)) fun a3=>usS (k:=0) (P:=fun us=>P (a0::a1::a2::a3::us)) fun a4=>us0 (P:=fun us=>P (a0::a1::a2::a3::a4::us)) (h a0 a1 a2 a3 a4)
def At (K:wJ) (x:Str) (st:Stmt) (f:Addr) (fd:FuncData):Prop:=PySem.W.nsIn K mainGlobals x=some (some (.ref f))/\Fun K x x st f fd
def Zs (K:wJ):List Str->Prop
 | []=>True
 | x::r=>PySem.W.nsIn K mainGlobals x=some none/\Zs K r
structure Car (P:Program) (w:World) (K:wJ) (mg:Str->Option Value) (base h:Heap):Prop where
 X:K.In h
 G:h.Ns mainGlobals mg
theorem At.h {P:Program} {w:World} {K:wJ} {h base:Heap} {mg:Str->Option Value} {x:Str} {st:Stmt} {f:Addr} {fd:FuncData} {k:Nat} {sp:Sp} {ps:List Str} (a:At K x st f fd) (Z:Car P w K mg base h) (F:QC P w K mg base CX0 k f fd ps sp) (b:∀(kV doc pm:Value) (an:Option Addr) (cdv ct:Value) (us:List Value),us.length=ps.length->bindArgs (kW x x (Ji st) (Qc st) (qJ st) .none kV doc pm an cdv ct) ⟨us,[]⟩=pure (ps.zip us)):Has P w K mg base x st ps k sp:=⟨f,fd,⟨a.2,a.2.binds b,PySem.W.mg_of Z.X Z.G a.1⟩,F⟩
local macro_rules | `(tactic| walk_at "d")=>`(tactic| first | exact fun _ _ _ _ _ _=>us1 fun _=>rfl | exact fun _ _ _ _ _ _=>us2 fun _ _=>rfl | exact fun _ _ _ _ _ _=>us3 fun _ _ _=>rfl | exact fun _ _ _ _ _ _=>us4 fun _ _ _ _=>rfl | exact fun _ _ _ _ _ _=>us5 fun _ _ _ _ _=>rfl)
theorem all_mk {l:ZT} {w:World} {K:wJ} {h:Heap} {mg:Str->Option Value} {fa f0 f1 f2 f3 f4 f5 f6 f7 f8 f9 f10 f11 f12 f13 f14 f15 f16 f17 f18 f19 f20 f21 f22 f23 f24 f25 f26 f27 f28 f29 f30 f31 f32 f33 f34 f35:Addr} {e0 e1 e2 e3 e4 e5 e6 e7 e8 e9 e10 e11 e12 e13 e14 e15 e16 e17 e18 e19 e20 e21 e22 e23 e24 e25 e26 e27 e28 e29 e30 e31 e32 e33 e34 e35:FuncData} (X:K.In h) (G:h.Ns mainGlobals mg) (hfa:mg "law" = some (.ref fa))
  (x0:At K "is_whole" (top 5) f0 e0)
  (x1:At K "is_place" (top 6) f1 e1)
  (x2:At K "tie_of" (top 7) f2 e2)
  (x3:At K "near" (top 8) f3 e3)
  (x4:At K "piece_of" (top 9) f4 e4)
  (x5:At K "refuse_apart" (top 10) f5 e5)
  (x6:At K "way_between" (top 11) f6 e6)
  (x7:At K "arrows" (top 13) f7 e7)
  (x8:At K "ordered" (top 14) f8 e8)
  (x9:At K "springs" (top 16) f9 e9)
  (x10:At K "mouths" (top 17) f10 e10)
  (x11:At K "refuse_poles" (top 19) f11 e11)
  (x12:At K "part_of" (top 20) f12 e12)
  (x13:At K "edge_of" (top 21) f13 e13)
  (x14:At K "bow" (top 22) f14 e14)
  (x15:At K "poled" (top 23) f15 e15)
  (x16:At K "is_between" (top 24) f16 e16)
  (x17:At K "is_pole_order" (top 25) f17 e17)
  (x18:At K "is_cut" (top 26) f18 e18)
  (x19:At K "poled_right" (top 27) f19 e19)
  (x20:At K "_law_cell" (top 29) f20 e20)
  (x21:At K "_law_dig" (top 30) f21 e21)
  (x22:At K "_law_next" (top 31) f22 e22)
  (x23:At K "_law_web" (top 33) f23 e23)
  (x24:At K "_law_order" (top 34) f24 e24)
  (x25:At K "_law_renamed" (top 35) f25 e25)
  (x26:At K "_law_near" (top 36) f26 e26)
  (x27:At K "_law_pieces" (top 37) f27 e27)
  (x28:At K "_law_joined" (top 38) f28 e28)
  (x29:At K "_law_one" (top 39) f29 e29)
  (x30:At K "_law_poles" (top 40) f30 e30)
  (x31:At K "_law_order_good" (top 41) f31 e31)
  (x32:At K "_law_cut_good" (top 42) f32 e32)
  (x33:At K "_law_due" (top 43) f33 e33)
  (x34:At K "_law_is_cut" (top 44) f34 e34)
  (x35:At K "law" (top 45) f35 e35)
  (z:Zs K ["min","max","tuple","range","len","list","sorted","any","all","isinstance","int","bool","set","zip"]) :
  ∃ fd:FuncData,(∀(s:Shared) (v:Value),BindsTo s fd ⟨[v],[]⟩ [("script",v)])/\∀ base:Heap,K.In base->base.Ns mainGlobals mg->QC l.prog w K mg base CX0 7 fa fd ["script"] (qFb K):=by
 have e:=hfa.symm.trans (PySem.W.mg_of X G x35.1)
 cases e
 have m:∀{x:Str},PySem.W.nsIn K mainGlobals x=some none->mg x=none:=fun z=>PySem.W.mg_none_of X G z
 obtain ⟨z0,z1,z2,z3,z4,z5,z6,z7,z8,z9,z10,z11,z12,z13,_⟩:=z
 have T:Txt mg:=⟨m z0,m z1,m z2,m z3,m z4,m z5,m z6,m z7,m z8,m z9,m z10,m z11,m z12,m z13⟩
 refine ⟨e35,fun s v=>?b,fun base _ _=>?_⟩
 case b=>
  obtain ⟨_,_,_,_,_,_,_,_,_,rfl,_,_⟩:=x35.2.ex
  exact .of_eq rfl
 have Z:Car l.prog w K mg base h:=⟨X,G⟩
 have XAR:=x21.h Z (qCr x21.2 T) (by walk_at "d")
 have XAO:=x20.h Z (qB7 x20.2 T) (by walk_at "d")
 have XAQ:=x22.h Z (qBu x22.2 T) (by walk_at "d")
 have XAL:=x24.h Z (qBI x24.2 T XAQ) (by walk_at "d")
 have XAD:=x25.h Z (YY x25.2 T) (by walk_at "d")
 have XAU:=x23.h Z (qCl x23.2 T XAQ XAL XAD) (by walk_at "d")
 have XAI:=x27.h Z (Y4 x27.2 T) (by walk_at "d")
 have XAH:=x28.h Z (qAC x28.2 T XAI) (by walk_at "d")
 have XAT:=x29.h Z (qCi x29.2 T XAU XAH XAI) (by walk_at "d")
 have XAM:=x30.h Z (qBK x30.2 T XAQ) (by walk_at "d")
 have XAf:=x2.h Z (qFk x2.2 T) (by walk_at "d")
 have XAh:=x3.h Z (qJI x3.2 T XAf) (by walk_at "d")
 have XAX:=x4.h Z (qC2 x4.2 T XAh) (by walk_at "d")
 have XAE:=x5.h Z (Yo x5.2 T XAX) (by walk_at "d")
 have XAF:=x11.h Z (YZ x11.2 T XAE) (by walk_at "d")
 have XAK:=x6.h Z (Y7 x6.2 T) (by walk_at "d")
 have XAa:=x12.h Z (qEH x12.2 T XAK) (by walk_at "d")
 have XAY:=x13.h Z (qEh x13.2 T XAh) (by walk_at "d")
 have XAi:=x14.h Z (qKR x14.2 T XAK) (by walk_at "d")
 have XAg:=x15.h Z (qHH x15.2 T XAF XAK XAa XAY XAi) (by walk_at "d")
 have XAG:=x34.h Z (qAA x34.2 T XAI) (by walk_at "d")
 have XAP:=x26.h Z (qCM x26.2 T) (by walk_at "d")
 have XAA:=x31.h Z (JZ x31.2 T XAP) (by walk_at "d")
 have XAB:=x32.h Z (YE x32.2 T XAP) (by walk_at "d")
 have XAS:=x33.h Z (qCq x33.2 T XAA XAB) (by walk_at "d")
 have XAW:=x0.h Z (qCV x0.2 T) (by walk_at "d")
 have XAV:=x1.h Z (qCW x1.2 T XAW) (by walk_at "d")
 have XAN:=x16.h Z (qA4 x16.2 T XAh) (by walk_at "d")
 have XAC:=x17.h Z (YB x17.2 T XAV XAN) (by walk_at "d")
 have XAd:=x18.h Z (qF3 x18.2 T XAV XAh) (by walk_at "d")
 have XAJ:=x19.h Z (qAD x19.2 T XAF XAC XAd) (by walk_at "d")
 have XAZ:=x8.h Z (qEg x8.2 T) (by walk_at "d")
 have XAc:=x7.h Z (qGb x7.2 T) (by walk_at "d")
 have XAb:=x9.h Z (qEd x9.2 T XAc) (by walk_at "d")
 have XAe:=x10.h Z (qFs x10.2 T XAc) (by walk_at "d")
 exact qKV x35.2 T XAR XAO XAT XAM XAg XAG XAS XAJ XAZ XAb XAe
theorem walk {l:ZT} {q:Program} {loose:List Str} {XP:(Str->Option Value)->Heap->Prop} {YP:World->Heap->Prop} {d:DefRec} {K:Params->wJ} (hn:l.most=some 63) (hdf:d.params.defaults=[])
  (hY:∀(w:World) (h:Heap),YP w h->(K w.params).In h)
  (F:∀(w:World) (mg:Str->Option Value) (fa:Addr) (h:Heap),(K w.params).In h->h.Ns mainGlobals mg->mg d.name=some (.ref fa)->
   ∃ fd:FuncData,(∀(s:Shared) (u:Value),BindsTo s fd ⟨[u],[]⟩ [("script",u)])/\∀ base:Heap,(K w.params).In base->base.Ns mainGlobals mg->QC l.prog w (K w.params) mg base CX0 7 fa fd ["script"] (qFb (K w.params))) :
  PySem.W.WalkO q loose XP YP l.row.toRowW d [] (fun f vs=>PySem.call f vs):=
 L2.qJK (n:=63) (k:=7) (x:="script") (CX:=fun _=>CX0) (sp:=fun w=>qFb (K w.params)) hn (by decide) hdf ⟨rfl,by decide,by decide⟩ hY F (fun _ _ a ns hl _ hS=>⟨a,ns,rfl,hS,hl,fun _=>rfl⟩) fun _ _ _ _ _ z=>z
def pwo:Program:={ main:={ body:=[top 0,top 1,top 2,top 3,top 4,top 5,top 6,top 7,top 8,top 9,top 10,top 11,top 12,top 13,top 14,top 15,top 16,top 17,top 18,top 19,top 20,top 21,top 22,top 23,top 24,top 25,top 26,top 27,top 28,top 29,top 30,top 31,top 32,top 33,top 34,top 35,top 36,top 37,top 38,top 39,top 40,top 41,top 42,top 43,top 44,top 45],scope:=PySem.Challenge.pw_rillturn_k51_orders_or_cuts_told.main.scope,futureAnnotations:=false,file:="/claim/cut.py",more:=[] },modules:=[],parses:=[],absent:=[],harvested:=[],given:={ argv:=[],stdin:=[],environ:=(some [([76,67,95,65,76,76],[67,46,85,84,70,45,56])]) } }
def rwo:ZT:={ PySem.Challenge.rw_rillturn_k51_orders_or_cuts_told with prog:=pwo }
def jb (P:Params) (n:Str) (t:Nat) (v:Value):DictEntry:=⟨PyData.keyHash P n,.str n t,v⟩
def jE (s:Stmt):Str:=match s with
 | .FunctionDef n _ _ _ _ _ _ _ _ _=>n
 | _=>""
def jK (n:Str) (t:Nat) (l a b:Int) (c:Nat) (x y:Value) (z:Nat) (u:Int) (u':Nat):Obj:={ cls:=.type "code",data:=.fields #[.str n t,.str n (t+1),.str "/claim/cut.py" (t+2),.int l 0,.int a 0,.int 0 0,.int 0 0,.int b 0,.ref c,.bool true,.int 181 0,.ref (c+1),.none,x,y,.ref z,.int u 0,.int l 0,.str "/claim/cut.py" u'] }
def Ql (i:Nat) (m:Str) (mt c:Nat):Obj:={ cls:=.type "function",data:=.func (kW (jE (top i)) (jE (top i)) (Ji (top i)) (Qc (top i)) (qJ (top i)) .none .none .none (.str m mt) none (.ref c) .none) }
def kE0 (P:Params):List DictEntry:=[jb P "__name__" 165 (.str "law_rillturn_k51_orders_or_cuts_told" 380),jb P "__doc__" 166 .none,jb P "__package__" 167 .none,jb P "__loader__" 168 (.builtin "__main__.__loader__#opaque"),jb P "__spec__" 169 .none,jb P "__annotations__" 170 (.ref 6),jb P "__builtins__" 171 (.ref 4),jb P "__file__" 173 (.str "/claim/cut.py" 172)]
def kE1 (P:Params):List DictEntry:=[jb P "__cached__" 174 .none,jb P "RillError" 206 (.ref 24),jb P "Apart" 222 (.ref 37),jb P "SamePlace" 238 (.ref 49),jb P "is_whole" 247 (.ref 58),jb P "is_place" 255 (.ref 65),jb P "tie_of" 263 (.ref 72),jb P "near" 269 (.ref 77)]
def kE2 (P:Params):List DictEntry:=[jb P "piece_of" 275 (.ref 82),jb P "refuse_apart" 282 (.ref 89),jb P "way_between" 288 (.ref 94),jb P "arrows" 296 (.ref 99),jb P "ordered" 302 (.ref 104),jb P "springs" 310 (.ref 109),jb P "mouths" 316 (.ref 114),jb P "refuse_poles" 327 (.ref 121)]
def kE3 (P:Params):List DictEntry:=[jb P "part_of" 333 (.ref 126),jb P "edge_of" 339 (.ref 131),jb P "bow" 345 (.ref 136),jb P "poled" 351 (.ref 141),jb P "is_between" 357 (.ref 146),jb P "is_pole_order" 363 (.ref 151),jb P "is_cut" 369 (.ref 156),jb P "poled_right" 379 (.ref 163)]
def kE4 (P:Params):List DictEntry:=[jb P "_law_cell" 389 (.ref 170),jb P "_law_dig" 396 (.ref 177),jb P "_law_next" 407 (.ref 184),jb P "_law_far" 416 (.ref 191),jb P "_law_web" 422 (.ref 196),jb P "_law_order" 428 (.ref 201),jb P "_law_renamed" 434 (.ref 206),jb P "_law_near" 440 (.ref 211)]
def kE5 (P:Params):List DictEntry:=[jb P "_law_pieces" 452 (.ref 218),jb P "_law_joined" 463 (.ref 225),jb P "_law_one" 469 (.ref 230),jb P "_law_poles" 479 (.ref 237),jb P "_law_order_good" 485 (.ref 242),jb P "_law_cut_good" 491 (.ref 247),jb P "_law_due" 501 (.ref 254),jb P "_law_is_cut" 507 (.ref 259)]
def kE6 (P:Params):List DictEntry:=[jb P "law" 521 (.ref 266)]
def qNJ (P:Params):List DictEntry:=kE0 P++kE1 P++kE2 P++kE3 P++kE4 P++kE5 P++kE6 P
def qME (P:Params):Obj:={ cls:=.type "dict",data:=.dict ⟨qNJ P⟩ 49 }
def qNC (P:Params):Obj:={ cls:=.type "tuple",data:=.seq #[.type "ValueError"] }
def qNL (P:Params):Obj:={ cls:=.type "tuple",data:=.seq #[] }
def qNF (P:Params):Obj:={ cls:=.type "dict",data:=.dict #[jb P "__module__" 196 (.str "rillturn.errors" 187),jb P "__firstlineno__" 200 (.int 2 199),jb P "__static_attributes__" 201 (.ref 22),jb P "__weakref__" 203 (.ref 25),jb P "__doc__" 204 (.none)] 3 }
def qNi (P:Params):Obj:={ cls:=.type "type",data:=.cls { name:="RillError",bases:=[.type "ValueError"],mro:=[.ref 24,.type "ValueError",.type "Exception",.type "BaseException",.type "object"],ns:=23,qualname:="RillError",subclasses:=[.ref 37,.ref 49] },slots:=#[some (.ref 15),none,some (.str "RillError" 189),some (.str "RillError" 197),some (.builtin "ValueError.__new__"),some (.bool true)] }
def qNW (P:Params):Obj:={ cls:=.type "getset_descriptor",data:=.fields #[.str "__weakref__" 202,.ref 24,.builtin "ExceptionGroup.__weakref__",.none] }
def qNI (P:Params):Obj:={ cls:=.type "tuple",data:=.seq #[.ref 24] }
def qNk (P:Params):Obj:={ cls:=.type "tuple",data:=.seq #[] }
def qNg (P:Params):Obj:={ cls:=.type "dict",data:=.dict #[jb P "__module__" 214 (.str "rillturn.errors" 187),jb P "__firstlineno__" 218 (.int 4 217),jb P "__static_attributes__" 219 (.ref 35),jb P "__doc__" 220 (.none)] 2 }
def qNe (P:Params):Obj:={ cls:=.type "type",data:=.cls { name:="Apart",bases:=[.ref 24],mro:=[.ref 37,.ref 24,.type "ValueError",.type "Exception",.type "BaseException",.type "object"],ns:=36,qualname:="Apart" },slots:=#[some (.ref 28),none,some (.str "Apart" 207),some (.str "Apart" 215),some (.builtin "ValueError.__new__"),some (.bool true)] }
def qNh (P:Params):Obj:={ cls:=.type "tuple",data:=.seq #[.ref 24] }
def qNf (P:Params):Obj:={ cls:=.type "tuple",data:=.seq #[] }
def qNN (P:Params):Obj:={ cls:=.type "dict",data:=.dict #[jb P "__module__" 230 (.str "rillturn.errors" 187),jb P "__firstlineno__" 234 (.int 6 233),jb P "__static_attributes__" 235 (.ref 47),jb P "__doc__" 236 (.none)] 2 }
def qNc (P:Params):Obj:={ cls:=.type "type",data:=.cls { name:="SamePlace",bases:=[.ref 24],mro:=[.ref 49,.ref 24,.type "ValueError",.type "Exception",.type "BaseException",.type "object"],ns:=48,qualname:="SamePlace" },slots:=#[some (.ref 40),none,some (.str "SamePlace" 223),some (.str "SamePlace" 231),some (.builtin "ValueError.__new__"),some (.bool true)] }
def KF:Params->wJ:=fun P=>(nat_lit 3,qME P)::(nat_lit 15,qNC P)::(nat_lit 22,qNL P)::(nat_lit 23,qNF P)::(nat_lit 24,qNi P)::(nat_lit 25,qNW P)::(nat_lit 28,qNI P)::(nat_lit 35,qNk P)::(nat_lit 36,qNg P)::(nat_lit 37,qNe P)::(nat_lit 40,qNh P)::(nat_lit 47,qNf P)::(nat_lit 48,qNN P)::(nat_lit 49,qNc P)::(nat_lit 57,jK (jE (top 5)) 241 9 1 3 52 (.ref 54) (.ref 55) 56 245 246)::(nat_lit 58,Ql 5 "rillturn.webs" 239 57)::(nat_lit 64,jK (jE (top 6)) 248 11 2 3 59 (.ref 61) (.ref 62) 63 253 254)::(nat_lit 65,Ql 6 "rillturn.webs" 239 64)::(nat_lit 71,jK (jE (top 7)) 256 13 2 3 66 (.ref 68) (.ref 69) 70 261 262)::(nat_lit 72,Ql 7 "rillturn.webs" 239 71)::(nat_lit 76,jK (jE (top 8)) 264 15 2 3 73 .none .none 75 267 268)::(nat_lit 77,Ql 8 "rillturn.webs" 239 76)::(nat_lit 81,jK (jE (top 9)) 270 17 2 3 78 .none .none 80 273 274)::(nat_lit 82,Ql 9 "rillturn.webs" 239 81)::(nat_lit 88,jK (jE (top 10)) 276 25 1 3 83 (.ref 85) (.ref 86) 87 280 281)::(nat_lit 89,Ql 10 "rillturn.webs" 239 88)::(nat_lit 93,jK (jE (top 11)) 283 28 3 3 90 .none .none 92 286 287)::(nat_lit 94,Ql 11 "rillturn.webs" 239 93)::(nat_lit 98,jK (jE (top 13)) 291 43 2 3 95 .none .none 97 294 295)::(nat_lit 99,Ql 13 "rillturn.pointings" 289 98)::(nat_lit 103,jK (jE (top 14)) 297 45 2 3 100 .none .none 102 300 301)::(nat_lit 104,Ql 14 "rillturn.pointings" 289 103)::(nat_lit 108,jK (jE (top 16)) 305 48 2 3 105 .none .none 107 308 309)::(nat_lit 109,Ql 16 "rillturn.springs" 303 108)::(nat_lit 113,jK (jE (top 17)) 311 51 2 3 110 .none .none 112 314 315)::(nat_lit 114,Ql 17 "rillturn.springs" 303 113)::(nat_lit 120,jK (jE (top 19)) 319 55 3 3 115 (.ref 117) (.ref 118) 119 325 326)::(nat_lit 121,Ql 19 "rillturn.poles" 317 120)::(nat_lit 125,jK (jE (top 20)) 328 59 3 3 122 .none .none 124 331 332)::(nat_lit 126,Ql 20 "rillturn.poles" 317 125)::(nat_lit 130,jK (jE (top 21)) 334 62 3 3 127 .none .none 129 337 338)::(nat_lit 131,Ql 21 "rillturn.poles" 317 130)::(nat_lit 135,jK (jE (top 22)) 340 64 4 3 132 .none .none 134 343 344)::(nat_lit 136,Ql 22 "rillturn.poles" 317 135)::(nat_lit 140,jK (jE (top 23)) 346 68 3 3 137 .none .none 139 349 350)::(nat_lit 141,Ql 23 "rillturn.poles" 317 140)::(nat_lit 145,jK (jE (top 24)) 352 80 3 3 142 .none .none 144 355 356)::(nat_lit 146,Ql 24 "rillturn.poles" 317 145)::(nat_lit 150,jK (jE (top 25)) 358 83 4 3 147 .none .none 149 361 362)::(nat_lit 151,Ql 25 "rillturn.poles" 317 150)::(nat_lit 155,jK (jE (top 26)) 364 89 5 3 152 .none .none 154 367 368)::(nat_lit 156,Ql 26 "rillturn.poles" 317 155)::(nat_lit 162,jK (jE (top 27)) 370 97 4 3 157 (.ref 159) (.ref 160) 161 377 378)::(nat_lit 163,Ql 27 "rillturn.poles" 317 162)::(nat_lit 169,jK (jE (top 29)) 382 105 2 3 164 (.ref 166) (.ref 167) 168 387 388)::(nat_lit 170,Ql 29 "law_rillturn_k51_orders_or_cuts_told" 380 169)::(nat_lit 176,jK (jE (top 30)) 390 109 1 3 171 (.ref 173) (.ref 174) 175 394 395)::(nat_lit 177,Ql 30 "law_rillturn_k51_orders_or_cuts_told" 380 176)::(nat_lit 183,jK (jE (top 31)) 397 111 2 3 178 (.ref 180) (.ref 181) 182 405 406)::(nat_lit 184,Ql 31 "law_rillturn_k51_orders_or_cuts_told" 380 183)::(nat_lit 195,jK (jE (top 33)) 417 125 3 3 192 .none .none 194 420 421)::(nat_lit 196,Ql 33 "law_rillturn_k51_orders_or_cuts_told" 380 195)::(nat_lit 200,jK (jE (top 34)) 423 144 2 3 197 .none .none 199 426 427)::(nat_lit 201,Ql 34 "law_rillturn_k51_orders_or_cuts_told" 380 200)::(nat_lit 205,jK (jE (top 35)) 429 147 2 3 202 .none .none 204 432 433)::(nat_lit 206,Ql 35 "law_rillturn_k51_orders_or_cuts_told" 380 205)::(nat_lit 210,jK (jE (top 36)) 435 150 2 3 207 .none .none 209 438 439)::(nat_lit 211,Ql 36 "law_rillturn_k51_orders_or_cuts_told" 380 210)::(nat_lit 217,jK (jE (top 37)) 441 152 1 3 212 (.ref 214) (.ref 215) 216 450 451)::(nat_lit 218,Ql 37 "law_rillturn_k51_orders_or_cuts_told" 380 217)::(nat_lit 224,jK (jE (top 38)) 453 160 2 3 219 (.ref 221) (.ref 222) 223 461 462)::(nat_lit 225,Ql 38 "law_rillturn_k51_orders_or_cuts_told" 380 224)::(nat_lit 229,jK (jE (top 39)) 464 167 3 3 226 .none .none 228 467 468)::(nat_lit 230,Ql 39 "law_rillturn_k51_orders_or_cuts_told" 380 229)::(nat_lit 236,jK (jE (top 40)) 470 175 2 3 231 (.ref 233) (.ref 234) 235 477 478)::(nat_lit 237,Ql 40 "law_rillturn_k51_orders_or_cuts_told" 380 236)::(nat_lit 241,jK (jE (top 41)) 480 179 4 3 238 .none .none 240 483 484)::(nat_lit 242,Ql 41 "law_rillturn_k51_orders_or_cuts_told" 380 241)::(nat_lit 246,jK (jE (top 42)) 486 187 5 3 243 .none .none 245 489 490)::(nat_lit 247,Ql 42 "law_rillturn_k51_orders_or_cuts_told" 380 246)::(nat_lit 253,jK (jE (top 43)) 492 196 4 3 248 (.ref 250) (.ref 251) 252 499 500)::(nat_lit 254,Ql 43 "law_rillturn_k51_orders_or_cuts_told" 380 253)::(nat_lit 258,jK (jE (top 44)) 502 200 3 3 255 .none .none 257 505 506)::(nat_lit 259,Ql 44 "law_rillturn_k51_orders_or_cuts_told" 380 258)::(nat_lit 265,jK (jE (top 45)) 508 209 1 3 260 (.ref 262) (.ref 263) 264 519 520)::(nat_lit 266,Ql 45 "law_rillturn_k51_orders_or_cuts_told" 380 265)::[]
def kAt:List Addr:=[3,15,22,23,24,25,28,35,36,37,40,47,48,49,57,58,64,65,71,72,76,77,81,82,88,89,93,94,98,99,103,104,108,109,113,114,120,121,125,126,130,131,135,136,140,141,145,146,150,151,155,156,162,163,169,170,176,177,183,184,195,196,200,201,205,206,210,211,217,218,224,225,229,230,236,237,241,242,246,247,253,254,258,259,265,266]
end K51
open PySem PySem.W PyProof.Rows
set_option maxRecDepth 100000 in
set_option maxHeartbeats 0 in
theorem K51.oh:K51.rwo.Holds:=by
 w_on; refine PySem.W.holds_law (by decide +kernel) fun said=>?_; o_head (PySem.W.kHook K51.KF K51.kAt (fun _=>by kernel_rfl)); (case hw=>w_witness2)
 k_fill
 refine K51.walk (l:=K51.rwo) rfl rfl (fun w h Y=>PySem.W.kIn_of Y) ?F
 case F=>
  intro w mg fa h KX G hmg
  refine' K51.all_mk KX G hmg ?x0 ?x1 ?x2 ?x3 ?x4 ?x5 ?x6 ?x7 ?x8 ?x9 ?x10 ?x11 ?x12 ?x13 ?x14 ?x15 ?x16 ?x17 ?x18 ?x19 ?x20 ?x21 ?x22 ?x23 ?x24 ?x25 ?x26 ?x27 ?x28 ?x29 ?x30 ?x31 ?x32 ?x33 ?x34 ?x35 ?z
  case x0 | x1 | x2 | x3 | x4 | x5 | x6 | x7 | x8 | x9 | x10 | x11 | x12 | x13 | x14 | x15 | x16 | x17 | x18 | x19 | x20 | x21 | x22 | x23 | x24 | x25 | x26 | x27 | x28 | x29 | x30 | x31 | x32 | x33 | x34 | x35=>exact ⟨by k_is,L2.qLM (by k_is) (by k_is) (by k_is)⟩
  case z=>repeat' (first | exact trivial | refine ⟨by k_is,?_⟩)
theorem PySem.Challenge.cw_rillturn_k51_orders_or_cuts_told_holds : PySem.Challenge.rw_rillturn_k51_orders_or_cuts_told.Holds :=
 K51.oh
